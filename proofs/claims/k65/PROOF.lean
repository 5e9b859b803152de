import PyProof.Rows.All
import Wide.All
import OpenK.AllK
import Wide.FinOn
import Lean
import PyProof.EqAt
import PyProof.EqKinds
import PyProof.TupleCall
import PySem.Challenge.RW_lumprow_k65_whole_ways_by_going
open Array renaming length_toList→QQ,getElem?_toList→Lc,getElem?_eq_getElem→LS,getElem_toList→MH
open Bool renaming false_ne_true→Qy,and_eq_true→QK,eq_iff_iff→Gy,false_or→Kw,or_eq_true→KU,or_assoc→Li,and_eq_false_iff→My
open False renaming elim→Gv
open Int renaming le_refl→Qv,min_eq_right→GG,emod_nonneg→GY,natCast_add→GZ,min_eq_left→G0,min_le_right→Kk,max_eq_right→Kl,mul_le_mul_of_nonneg_left→Km,zero_add→KH,emod_lt_of_pos→KW,add_mul→K2,toNat_natCast→K5,le_total→La,mul_le_mul_of_nonneg_right→Lh,mul_add→Lm,one_mul→Ln,le_max_left→Ly,add_zero→LD,fdiv_eq_ediv_of_nonneg→LI,max_le→Mn,mul_comm→Mp,max_eq_left→Ms,min_le_left→Mt,add_assoc→MM,le_trans→MX,sub_zero→MY
open List renaming mem_cons_of_mem→Qc,mem_cons_self→Qd,map_cons→Qe,mem_cons→Qg,getElem?_eq_some_iff→Qh,size_toArray→Qm,getElem?_map→Qn,length_cons→Qp,length_map→Qq,getElem?_mapIdx→Qr,map_map→Qt,sum_cons→Qu,mem_map→Qw,replicate→QA,length_append→QC,foldl_cons→QD,map_congr_left→QE,eq_nil_of_length_eq_zero→QF,getElem?_append_left→QJ,not_mem_nil→QL,map_append→QN,getElem?_append_right→QR,getElem?_set→QT,mem_iff_getElem→QV,mem_nil_iff→QX,count_cons→QY,getD_eq_getElem?_getD→QZ,pairwise_cons→Q1,nodup_cons→Q2,mem_of_getElem?→Q6,ext_getElem?→Q7,mem_append_right→Q8,mem_append→Gb,append_assoc→Gf,append_nil→Gh,replicate_succ→Gj,length_singleton→Gn,length_mapIdx→Gr,mem_singleton→Gs,nil_append→Gz,length_zip→GA,pairwise_iff_getElem→GB,getElem?_reverse→GC,zip→GD,all_eq_true→GF,flatten_cons→GH,filter_cons_of_neg→GI,filter_cons_of_pos→GJ,length_reverse→GL,map_nil→GN,length_drop→GP,range→GQ,pairwise_append→G4,flatMap_cons→G5,any_cons→G8,getElem?_eq_getElem→Kb,filterMap_cons→Kc,any_eq_true→Kg,of_mem_zip→Kr,find?_cons→Ks,length_nil→Kt,length_replicate→Ky,mem_iff_getElem?→KA,getElem?_zipIdx→KE,length_take→KG,zipIdx_cons→KI,cons_append→KJ,drop_eq_getElem_cons→KM,getElem?_eq_none_iff→KN,lookup→KY,eraseIdx_cons_succ→K0,pairwise_map→K9,take_of_length_le→Lb,mem_append_left→Lj,mem_filter→Lo,sum_append→Lq,count_eq_zero→LN,count_pos_iff→LO,mem_replicate→LP,nodup_append→LY,count_append→LZ,getElem?_replicate→L6,getElem_mem→L9,mapIdx_cons→Md,map_reverse→Me,getElem?_set_self→Mf,filter_eq_nil_iff→Mm,map_id'→Mo,getElem?_eq_none→Mu,dropLast_eq_take→Mv,getElem?_zipWith→Mw,min?_eq_some_iff→Mx,length_filter_le→Mz,mem_range→MC,getElem?_set_ne→MD,length_dropLast→ME,reduceReplicate→MI,map_drop→ML,foldl→MP
open Nat renaming le_refl→Qk,ne_of_lt→Qx,lt_of_lt_of_le→QH,le_trans→Q4,lt_irrefl→Gc,le_of_lt→GM,lt_succ_self→GO,lt_of_le_of_lt→GR,zero_le→G1,ble_eq→G9,lt_trans→Kp,ne_of_gt→KF,lt_succ_of_lt→K6,lt_or_ge→K8,zero_add→LC,min_self→Ml,not_lt→MQ
open Ne renaming symm→QI
open Option renaming bind_some→QB,bind_assoc→Gm,map_eq_some_iff→Gx,map_map→GU,map_some→Lx,isSome_iff_exists→L1
open Option.some renaming inj→QG
open Prod renaming ext→KO
open PyProof.Rows renaming slot_tuple_getitem→QO,callWith_type1→Gu
open PyProof.Rows.F renaming plain_set_update_loop→K1,entry_set_update_loop→Mc
open PySem renaming wpAny_bind→Qa,wpAny_pure→Qi,wpAny_field→QM,wpAny_setField_rec→QP,wpAny_callSpecial?_slot→QS,wpAny_newObj_type→Q9,wpAny_call_entry→Gd,wpAny_seqItems→Gg,mem_of_lookup→GK,wpAny_passesOwn→GX,wpAny_of_eq→G2,wpAny_rule→Ka,wpAny_Call_Name_kw→Ko,codeAny_builtin→Ku,wpAny_holding→Kv,wpAny_attempt→Kx,wpAny_truthy_bool→KB,wpAny_letGo→KD,plainId_quiet→KQ,wpAny_Call_method0_late→KZ,wpAny_pyIter_list→K3,codeAny_mono→K4,wpAny_tryCatch→K7,wpAny_isInstance→Lg,wpAny_updateSeq_pair→Ll,wpAny_execs_nil→Lp,wpAny_loadPart'→Lv,evalArgs_none→Lz,wpAny_mono→LF,wpAny_pyIter_tuple→LH,isSubtype_type→LM,wpAny_onRaise→L4,wpAny_specialOf→Mq,wpAny_updateSeq→Mr,isSubtype_stop→MG,Within→MR
open PySem.Around renaming under_plainId→G3,under→MT
open PySem.Builtin.Builtins renaming bindParams→LB
open PySem.Builtin.Int renaming intBits→MJ
open PySem.Builtin.List renaming listTooLong→G7
open PySem.Builtin.Slice renaming slicePlaces→GW,sliceAdjust→KL,sliceApplied→LJ
open PySem.Builtin.SmallTypes renaming ownedTupleIsFree→QW,nextOf→Gi,ownedTupleHandOut→Gk
open PySem.Builtin.Tuple renaming tupleExact→G6,tupleItemsOf→LL
open PySem.Calls renaming callWith_builtin→Gw,spliced_cons→Kn,evalArgs_plain→Lk,Name_function_global→LG,spliced_nil→LV
open PySem.Code renaming isFrame→MU
open PySem.F renaming plainAttrs_list→QU,slot_list_append→Go,type_list_append→Gq,slot_tuple_iterator_next→GS,plainAttrs_dict→Kf,plain_min_loop→Kh,slot_dict_items→Ki,called_set→Kq,slot_enumerate_next→Kz,slot_list_extend→KR,type_list_extend→KS,slot_dict_get→Ld,args_tuple_iterator_next_1→Ls,slot_zip_next→Lu,slot_dict_setdefault→Lw,entry_tuple_iterator_next→LA,args_dict_items_1→LQ,args_tuple_add_2→L3,entry_dict_items→L5,entry_tuple_add→L7,args_dict_get_3→L8,args_enumerate_next_1→Ma,type_dict_items→Mb,slot_tuple_add→Mh,entry_dict_get→Mi
open PySem.Heap renaming get?_push_of_some→Qf,get?_push_size→Qj,lt_size→Qo,SameBut→Qz,size_push→Q5,get?_update_other→Ga,get?_update_self→Le,get?_push_ne→LW,ExtBut→MF
open PySem.Heap.ExtBut renaming push→MZ
open PySem.Heap.SameBut renaming update→Ke
open PySem.Paired renaming length→L0
open PySem.PassesOwn renaming never→Q3
open PySem.PyData renaming canLayAll0→KC,eqvAll→KP,eqv→Lf,depthAll→Lr,depth→Mj
open PySem.SetTable renaming below→Q0,grown→Kj,laid→MK,put→MW
open PySem.SetTable.below renaming go→MV
open PySem.SetTable.probe renaming go→LX
open PySem.Shared renaming heap→M0
open PySem.Str renaming ofString→Ge
open PySem.Value renaming isInt_shape→LU,isInt→MA
open PySem.W renaming cellsFrom_some→Mg,kitx_tuple→MN,callWith_K→MO,kitx_dict→MS
open Sum.inl renaming inj→MB
set_option Elab.async false
set_option linter.all false
set_option maxRecDepth 100000
set_option maxHeartbeats 4000000
open PySem.W (instObj methodObj Frag lookIn plainGet hasDictIn findIn plainOver takerIn makesIn emptyDict specialIn isFn keepIn takesIn mroIn kitOne kia_one kitx_list fnOf codeIn nsIn kitAny mg_of mg_none_of)
noncomputable section
namespace L2
open PySem PySem.Spec PyProof.Rows

noncomputable abbrev Key:=Sum Int Str
noncomputable def WS:Key->Value->Bool
 | .inl k,v=>MA k v
 | .inr x,v=>Value.isStrOf x v
noncomputable def JoU(w:World):Key->Int
 | .inl k=>hashInt k
 | .inr x=>hashStr w x
theorem JS:∀{k:Key} {v:Value},WS k v=true->(∃i t,k=Sum.inl i/\v=Value.int i t)\/(∃x t,k=Sum.inr x/\v=Value.str x t)
 | .inl i,v,h=>by obtain⟨t,e⟩:=LU (k:=i) (v:=v) h;exact .inl ⟨i,t,rfl,e⟩
 | .inr x,v,h=>by obtain⟨t,e⟩:=Value.isStrOf_shape (x:=x) (v:=v) h;exact .inr ⟨x,t,rfl,e⟩
theorem Je0(i:Int)(t:Tok):WS (.inl i) (.int i t)=true:=by simp[WS,MA]
theorem Je1(x:Str)(t:Tok):WS (.inr x) (.str x t)=true:=by simp[WS,Value.isStrOf]
theorem Jlc(a b:Int):decide ((Sum.inl a:Key)=Sum.inl b)=(a == b):=by
 by_cases e:a=b
 ·subst e;simp
 ·have h:¬(Sum.inl a:Key)=Sum.inl b:=fun q=>e (MB q)
  rw[decide_eq_false h];exact(beq_eq_false_iff_ne.mpr e).symm
theorem Jlf(a b:Str):decide ((Sum.inr a:Key)=Sum.inr b)=decide (a=b):=by
 by_cases e:a=b
 ·subst e;simp
 ·have h:¬(Sum.inr a:Key)=Sum.inr b:=fun q=>e (Sum.inr.inj q)
  rw[decide_eq_false h,decide_eq_false e]
theorem Jld(a:Int)(b:Str):decide ((Sum.inl a:Key)=Sum.inr b)=false:=decide_eq_false (fun q=>nomatch q)
theorem Jle(a:Str)(b:Int):decide ((Sum.inr a:Key)=Sum.inl b)=false:=decide_eq_false (fun q=>nomatch q)

noncomputable def JD(prog:Program)(w:World):PySem.KeyKind prog w Key where
 is:=WS
 hash:=JoU w
 inj:=fun v a b ha hb=>by
  rcases JS ha with ⟨i,t,rfl,rfl⟩|⟨x,t,rfl,rfl⟩
  ·rcases JS hb with ⟨j,u,rfl,e⟩|⟨y,u,rfl,e⟩
   ·injection e with e1 _;rw[e1]
   ·exact nomatch e
  ·rcases JS hb with ⟨j,u,rfl,e⟩|⟨y,u,rfl,e⟩
   ·exact nomatch e
   ·injection e with e1 _;rw[e1]
 byValue:=fun k v h=>by rcases JS h with ⟨i,t,rfl,rfl⟩|⟨x,t,rfl,rfl⟩ <;> rfl
 pyHash:=fun hv h=>by
  rcases JS hv with ⟨i,t,rfl,rfl⟩|⟨x,t,rfl,rfl⟩
  ·exact wpAny_pyHash_int h
  ·exact wpAny_pyHash_str h
 eqBool:=fun hu hv h=>by
  rcases JS hu with ⟨i,t,rfl,rfl⟩|⟨x,t,rfl,rfl⟩
  ·rcases JS hv with ⟨j,u,rfl,rfl⟩|⟨y,u,rfl,rfl⟩
   ·rw[Jlc] at h;exact wpAny_eqBool_int h
   ·rw[Jld] at h;exact SeqAt.EqAt.int_str i t y u _ _ _ _ h
  ·rcases JS hv with ⟨j,u,rfl,rfl⟩|⟨y,u,rfl,rfl⟩
   ·rw[Jle] at h;exact SeqAt.EqAt.str_int x t j u _ _ _ _ h
   ·rw[Jlf] at h;exact wpAny_eqBool_str h
 «strs»:=fun k x t v h=>by
  rcases JS h with ⟨i,u,rfl,e⟩|⟨y,u,rfl,e⟩
  ·exact nomatch e
  ·injection e with e1 _
   subst e1;cases v <;> rfl

theorem JbC(prog:Program)(w:World)(i:Int)(t:Tok):(JD prog w).is (.inl i) (.int i t)=true:=Je0 i t
theorem JbD(prog:Program)(w:World)(x:Str)(t:Tok):(JD prog w).is (.inr x) (.str x t)=true:=Je1 x t
end L2

namespace L2
open PySem PySem.Spec PyProof.Rows

inductive V where
 | non|bl (b:Bool)|int (i:Int)|str (x:Str)|byt (b:Array UInt8)|flt (b:UInt64)|ref (a:Addr)|ty (n:String)
 deriving DecidableEq

noncomputable def RelV:V->Value->Prop
 | .non,u=>u=Value.none
 | .bl b,u=>u=Value.bool b
 | .int i,u=>∃t,u=Value.int i t
 | .str x,u=>∃t,u=Value.str x t
 | .byt b,u=>∃t,u=Value.bytes b t
 | .flt b,u=>∃t,u=Value.float b t
 | .ref a,u=>u=Value.ref a
 | .ty n,u=>u=Value.type n

noncomputable abbrev Vals:List V->List Value->Prop:=Paired RelV
theorem Vals.length{xs:List V}{us:List Value}(r:Vals xs us):xs.length=us.length:=L0 r
theorem Vals.get:∀{xs:List V} {us:List Value} {i:Nat} {x:V},Vals xs us->xs[i]?=some x->∃u,us[i]?=some u/\RelV x u
 | _,_,_,_,.nil,e=>by simp at e
 | _,_,0,_,.cons r _,e=>by simp at e;subst e;exact⟨_,rfl,r⟩
 | _,_,i+1,x,.cons _ t,e=>by obtain⟨u,h1,h2⟩:=Vals.get (i:=i) (x:=x) t (by simpa using e);exact⟨u,by simpa using h1,h2⟩
theorem Vals.set{x:V}{u:Value}(r:RelV x u):∀{xs:List V} {us:List Value} (i:Nat),Vals xs us->Vals (xs.set i x) (us.set i u)
 | _,_,_,.nil=>.nil
 | _,_,0,.cons _ t=>.cons r t
 | _,_,i+1,.cons q t=>.cons q (Vals.set r i t)
theorem Vals.append:∀{xs ys:List V} {us ws:List Value},Vals xs us->Vals ys ws->Vals (xs++ys) (us++ws)
 | _,_,_,_,.nil,s=>s
 | _,_,_,_,.cons r t,s=>.cons r (Vals.append t s)
theorem Vals.take:∀{xs:List V} {us:List Value} (n:Nat),Vals xs us->Vals (xs.take n) (us.take n)
 | _,_,0,_=>.nil
 | _,_,_+1,.nil=>.nil
 | _,_,n+1,.cons r t=>.cons r (Vals.take n t)
theorem Vals.drop:∀{xs:List V} {us:List Value} (n:Nat),Vals xs us->Vals (xs.drop n) (us.drop n)
 | _,_,0,r=>r
 | _,_,_+1,.nil=>.nil
 | _,_,n+1,.cons _ t=>Vals.drop n t
noncomputable def RelO:Option V->Option Value->Prop
 | some v,some u=>RelV v u
 | none,none=>True
 | _,_=>False
noncomputable def KV{κ:Type}:List (κ×V)->List (κ×Value)->Prop:=Paired fun(p:κ×V) (q:κ×Value)=>p.1=q.1/\RelV p.2 q.2

noncomputable def kV:Key->V
 | .inl i=>.int i
 | .inr x=>.str x

inductive HO where
 | lst (xs:List V)
 | tup (xs:List V)
 | dK (kvs:List (Key×V))|dT (kvs:List (List Key×V))
 | set (S:Int->Bool) (n:Nat)
 | ins (C dx:Addr) (fs:List (Str×V))
 | own (x:Addr)
 | xd (fs:List (Str×V))
 | met (f x:Addr)
 | rng (lo hi:Int)
 | frz (o:Obj) (u:HO)
 | tbl (ps:Array Value)
 | ext (φ:Heap->Prop)

noncomputable abbrev Hp:=Addr->Option HO
noncomputable def upd(H:Hp)(a:Addr)(o:HO):Hp:=fun b=>if b=a then some o else H b
theorem Jq{H:Hp}{a:Addr}{o:HO}:upd H a o a=some o:=by unfold upd;rw[if_pos rfl]
theorem Jh{H:Hp}{a b:Addr}{o:HO}(h:b≠a):upd H a o b=H b:=by unfold upd;rw[if_neg h]
theorem ZT{H:Hp}{a b:Addr}{o u:HO}(h:H a=some o)(h':H b=some u)(d:o≠u):a≠b:=by intro e;subst e;rw[h] at h';exact d (QG h')
theorem Ju{H:Hp}{a b:Addr}{o:HO}(h:H a=some o)(h':H b=none):a≠b:=by intro e;subst e;rw[h] at h';cases h'

section
variable(P:Program)(w:World)
noncomputable def ObjOk(H:Hp)(h:Heap)(a:Addr):HO->Prop
 | .lst xs=>xs.length<=sizeLine/\∃(its:List Value) (n:Nat),Vals xs its/\h.get? a=some { cls:=.type "list",data:=.seq its.toArray n }
 | .tup xs=>xs.length<=sizeLine/\∃its:List Value,Vals xs its/\IsTup h a its.toArray
 | .dK kvs=>kvs.length<=sizeLine/\(a == sysModules)=false/\∃vs,KV kvs vs/\h.DictOf (JD P w) a vs
 | .dT kvs=>kvs.length<=sizeLine/\(a == sysModules)=false/\∃xs:List (List Key×Addr×Value),
  Paired (fun(p:List Key×V) (q:List Key×Addr×Value)=>p.1=q.1/\H q.2.1=some (.tup (p.1.map kV))/\RelV p.2 q.2.2) kvs xs ∧
  ∃o es ep,h.get? a=some o/\o.ExactDict/\o.data=.dict es ep/\es.toList=xs.map (entryOfKey (tupleKind (JD P w)))/\(xs.map (·.1)).Nodup
 | .set S n=>h.SetOf (intKind P w) a S n
 | .ins C dx fs=>H dx=some (.own a)/\fs.length<=1000/\dx≠a/\h.get? a=some (instObj C dx) ∧
  ∃mA,h.Ns1 dx mA/\(∀f,RelO (fs.lookup f) (mA f))/\MR mA (fs.map (·.1))
 | .own _=>∃o,h.get? a=some o
 | .xd fs=>∃mA,h.Ns1 a mA/\∀f,RelO (fs.lookup f) (mA f)
 | .rng lo hi=>∃t u v,h.get? a=some { cls:=.type "range",data:=.fields #[.int lo t,.int hi u,.int 1 v] }
 | .frz o u=>h.get? a=some o/\ObjOk H h a u
 | .tbl ps=>h.get? a=some { cls:=.none,data:=.fields ps }
 | .met f x=>h.get? a=some (methodObj (.ref f) (.ref x))
 | .ext φ=>φ h/\(∃o,h.get? a=some o)/\∀h1 h2:Heap,φ h1->(∀o,h1.get? a=some o->h2.get? a=some o)->φ h2
noncomputable def HOk(H:Hp)(h:Heap):Prop:=∀a o,H a=some o->ObjOk P w H h a o
end

section
variable{P:Program}{w:World}{H H':Hp}{h h':Heap}{a:Addr}{o:HO}
theorem ObjOk.lt(x:ObjOk P w H h a o):a<h.objs.size:=by
 cases o with
 | lst xs=>obtain⟨_,_,_,_,e⟩:=x;exact Qo e
 | tup xs=>obtain⟨_,_,_,p⟩:=x;exact p.lt
 | dK kvs=>obtain⟨_,_,_,_,o,_,_,e,_⟩:=x;exact Qo e
 | dT kvs=>obtain⟨_,_,_,_,o,_,_,e,_⟩:=x;exact Qo e
 | set S n=>obtain⟨o,_,_,_,e,_⟩:=x;exact Qo e
 | ins C dx fs=>obtain⟨_,_,_,e,_⟩:=x;exact Qo e
 | own y=>obtain⟨_,e⟩:=x;exact Qo e
 | xd fs=>obtain⟨_,⟨_,_,_,e,_⟩,_⟩:=x;exact Qo e
 | rng lo hi=>obtain⟨_,_,_,e⟩:=x;exact Qo e
 | frz ob u=>obtain⟨e,_⟩:=x;exact Qo e
 | tbl ps=>exact Qo (show h.get? a=some _ from x)
 | met f y=>exact Qo (show h.get? a=some _ from x)
 | ext φ=>obtain⟨_,⟨_,e⟩,_⟩:=x;exact Qo e
theorem Paired.mapP{α β:Type}{F G:α->β->Prop}:∀{l₁:List α} {l₂:List β},Paired F l₁ l₂->(∀a b,F a b->G a b)->Paired G l₁ l₂
 | _,_,.nil,_=>.nil
 | _,_,.cons r t,f=>.cons (f _ _ r) (Paired.mapP t f)
theorem ObjOk.stay(x:ObjOk P w H h a o)(k:∀b u,(b=a\/H b=some (.own a))->h.get? b=some u->h'.get? b=some u)
 (ho:∀b,H b=some (.own a)->H' b=some (.own a)) (ht:∀b xs,H b=some (.tup xs)->H' b=some (.tup xs)):ObjOk P w H' h' a o:=by
 induction o with
 | lst xs=>obtain⟨z,its,n,r,e⟩:=x;exact⟨z,its,n,r,k _ _ (.inl rfl) e⟩
 | tup xs=>obtain⟨z,its,r,ob,e,c⟩:=x;exact⟨z,its,r,ob,k _ _ (.inl rfl) e,c⟩
 | dK kvs=>obtain⟨z,y,vs,r,ob,es,ep,e,c⟩:=x;exact⟨z,y,vs,r,ob,es,ep,k _ _ (.inl rfl) e,c⟩
 | dT kvs=>obtain⟨z,y,xs,r,ob,es,ep,e,c⟩:=x;exact⟨z,y,xs,Paired.mapP r fun p q z=>⟨z.1,ht _ _ z.2.1,z.2.2⟩,ob,es,ep,k _ _ (.inl rfl) e,c⟩
 | set S n=>obtain⟨ob,es,ep,t,e,c⟩:=x;exact⟨ob,es,ep,t,k _ _ (.inl rfl) e,c⟩
 | ins C dx fs=>obtain⟨d,z,ne,e,mA,⟨od,es,ep,e2,c⟩,r⟩:=x;exact⟨ho _ d,z,ne,k _ _ (.inl rfl) e,mA,⟨od,es,ep,k _ _ (.inr d) e2,c⟩,r⟩
 | own y=>obtain⟨ob,e⟩:=x;exact⟨ob,k _ _ (.inl rfl) e⟩
 | xd fs=>obtain⟨mA,⟨od,es,ep,e,c⟩,r⟩:=x;exact⟨mA,⟨od,es,ep,k _ _ (.inl rfl) e,c⟩,r⟩
 | rng lo hi=>obtain⟨t,u,v,e⟩:=x;exact⟨t,u,v,k _ _ (.inl rfl) e⟩
 | frz ob u ih=>obtain⟨e,q⟩:=x;exact⟨k _ _ (.inl rfl) e,ih q⟩
 | tbl ps =>
  have e:h.get? a=some { cls:=.none,data:=.fields ps }:=x
  show h'.get? a=some { cls:=.none,data:=.fields ps };exact k a _ (.inl rfl) e
 | met f y =>
  have e:h.get? a=some (methodObj (.ref f) (.ref y)):=x
  show h'.get? a=some (methodObj (.ref f) (.ref y));exact k a _ (.inl rfl) e
 | ext φ=>obtain⟨p,⟨o,e⟩,st⟩:=x;exact⟨st _ _ p fun o q=>k _ _ (.inl rfl) q,⟨o,k _ _ (.inl rfl) e⟩,st⟩
theorem HOk.lt(x:HOk P w H h)(e:H a=some o):a<h.objs.size:=(x a o e).lt
theorem HOk.fresh(x:HOk P w H h)(e:h.objs.size<=a):H a=none:=by
 cases q:H a with
 | none=>rfl
 | some u=>exact absurd (QH (x.lt q) e) (Gc _)
theorem HOk.kept(x:HOk P w H h)(k:∀b u,h.get? b=some u->h'.get? b=some u):HOk P w H h':=fun a o e=>(x a o e).stay (fun b u _ q=>k b u q) (fun _ q=>q) fun _ _ q=>q
theorem HOk.laid(x:HOk P w H h)(k:∀b u,h.get? b=some u->h'.get? b=some u)(hp:h.objs.size<=a)(new:ObjOk P w (upd H a o) h' a o):HOk P w (upd H a o) h':=fun b u e=>by
 have hn:=x.fresh hp
 by_cases hb:b=a
 ·subst hb;rw[Jq] at e;cases e;exact new
 ·rw[Jh hb] at e;exact(x b u e).stay (fun c v _ q=>k c v q) (fun c q=>by rw[Jh (Ju q hn)];exact q) fun c xs q=>by rw[Jh (Ju q hn)];exact q
end

noncomputable def Rd(H:Hp)(a:Addr)(u:HO):Prop:=H a=some u\/∃o,H a=some (.frz o u)
theorem Rd.of{H:Hp}{a:Addr}{u:HO}(h:H a=some u):Rd H a u:=.inl h
theorem Rd.ok{P:Program}{w:World}{H:Hp}{h:Heap}{a:Addr}{u:HO}(r:Rd H a u)(x:HOk P w H h):ObjOk P w H h a u:=by
 rcases r with r|⟨o,r⟩
 ·exact x a u r
 ·obtain⟨_,q⟩:=x a _ r;exact q
noncomputable def Mut:Option HO->Prop
 | some (.lst _)=>True
 | some (.dK _)=>True
 | some (.dT _)=>True
 | some (.set _ _)=>True
 | some (.ins _ _ _)=>True
 | some (.ext _)=>True
 | _=>False
section
variable{P:Program}{w:World}{H:Hp}{h h':Heap}{x e:Addr}{o':HO}
theorem HOk.write(ok:HOk P w H h)(mu:Mut (H x))(he:e=x\/H e=some (.own x))(k:∀b u,b≠e->h.get? b=some u->h'.get? b=some u)(heo:∃u,h'.get? e=some u)
 (new:ObjOk P w (upd H x o') h' x o'):HOk P w (upd H x o') h':=fun b u q=>by
 have nown:∀c y,H c=some (.own y)->c≠x:=fun c y r z=>by subst z;rw[r] at mu;exact mu
 have ntup:∀c xs,H c=some (.tup xs)->c≠x:=fun c xs r z=>by subst z;rw[r] at mu;exact mu
 by_cases hb:b=x
 ·subst hb;rw[Jq] at q;cases q;exact new
 ·rw[Jh hb] at q
  by_cases hbe:b=e
  ·have q':H b=some (.own x):=by
    rcases he with z|z
    ·exact absurd (hbe.trans z) hb
    ·rw[hbe];exact z
   rw[q] at q';cases q';obtain⟨v,hv⟩:=heo;exact⟨v,by rw[hbe];exact hv⟩
  ·refine(ok b u q).stay (fun c v hc r=>k c v ?_ r) (fun c r=>by rw[Jh (nown c b r)];exact r) fun c xs r=>by rw[Jh (ntup c xs r)];exact r
   rcases hc with rfl|hc
   ·exact hbe
   ·rintro rfl;rcases he with z|z
    ·exact nown c b hc z
    ·rw[hc] at z;cases z;exact hb rfl
end

structure Un (fs ex:List Addr) (H H':Hp) (h h':Heap):Prop where
 keep:∀b o,h.get? b=some o->H b=none->b∉fs->b∉ex->h'.get? b=some o
 slot:∀b o,h.get? b=some o->H b=none->b∈fs->b∉ex->∃sl,h'.get? b=some { o with slots:=sl }
 free:∀b o,h.get? b=some o->H b=none->b∉ex->H' b=none
 there:∀b o,h.get? b=some o->b∉ex->∃o',h'.get? b=some o'
 tups:∀b xs,H b=some (.tup xs)->H' b=some (.tup xs)
 frzs:∀b o u,H b=some (.frz o u)->H' b=some (.frz o u)
 tbls:∀b ps,H b=some (.tbl ps)->∃more,H' b=some (.tbl (ps++more))
section
variable{fs fs' ex ex':List Addr}{H H1 H2:Hp}{h h1 h2 h':Heap}{a x e:Addr}{o:HO}
theorem Un.any(u:Un fs ex H H1 h h1){b:Addr}{ob:Obj}(q:h.get? b=some ob)(n:H b=none)(hx:b∉ex):∃sl,h1.get? b=some { ob with slots:=sl }:=by
 by_cases hb:b∈fs
 ·exact u.slot b ob q n hb hx
 ·exact⟨ob.slots,u.keep b ob q n hb hx⟩
theorem Un.trans(a:Un fs ex H H1 h h1)(b:Un fs ex H1 H2 h1 h2):Un fs ex H H2 h h2 where
 keep:=fun c ob q n hc hx=>b.keep c ob (a.keep c ob q n hc hx) (a.free c ob q n hx) hc hx
 slot:=fun c ob q n hc hx=>by obtain⟨sl,e1⟩:=a.slot c ob q n hc hx;obtain⟨sl',e2⟩:=b.slot c _ e1 (a.free c ob q n hx) hc hx;exact⟨sl',e2⟩
 free:=fun c ob q n hx=>by obtain⟨o',e1⟩:=a.there c ob q hx;exact b.free c o' e1 (a.free c ob q n hx) hx
 there:=fun c ob q hx=>by obtain⟨o',e1⟩:=a.there c ob q hx;exact b.there c o' e1 hx
 tups:=fun c xs q=>b.tups c xs (a.tups c xs q)
 frzs:=fun c ob xs q=>b.frzs c ob xs (a.frzs c ob xs q)
 tbls:=fun c ps q=>by obtain⟨m1,e1⟩:=a.tbls c ps q;obtain⟨m2,e2⟩:=b.tbls c _ e1;exact⟨m1++m2,by rw[e2,Array.append_assoc]⟩
theorem Un.kept(k:∀b u,h.get? b=some u->h'.get? b=some u):Un fs ex H H h h' :=
 ⟨fun b ob q _ _ _=>k b ob q,fun b ob q _ _ _=>⟨ob.slots,k b ob q⟩,fun _ _ _ n _=>n,fun b ob q _=>⟨ob,k b ob q⟩,fun _ _ q=>q,fun _ _ _ q=>q,fun _ ps q=>⟨#[],by rw[q];simp⟩⟩
theorem Un.refl:Un fs ex H H h h:=Un.kept fun _ _ q=>q
theorem Un.laid(k:∀b u,h.get? b=some u->h'.get? b=some u)(hp:h.objs.size<=a)(hn:H a=none):Un fs ex H (upd H a o) h h' where
 keep:=fun b u q _ _ _=>k b u q
 slot:=fun b u q _ _ _=>⟨u.slots,k b u q⟩
 free:=fun b u q n _=>by rw[Jh (Qx (QH (Qo q) hp))];exact n
 there:=fun b u q _=>⟨u,k b u q⟩
 tups:=fun b xs q=>by rw[Jh (Ju q hn)];exact q
 frzs:=fun b u xs q=>by rw[Jh (Ju q hn)];exact q
 tbls:=fun b ps q=>⟨#[],by rw[Jh (Ju q hn),q];simp⟩
theorem Un.write(mu:Mut (H x))(he:e=x\/H e=some (.own x))(k:∀b u,b≠e->h.get? b=some u->h'.get? b=some u)(heo:∃u,h'.get? e=some u):Un fs ex H (upd H x o) h h':=by
 have hx:∀b,H b=none->b≠x:=fun b n z=>by subst z;rw[n] at mu;exact mu
 have hb:∀b,H b=none->b≠e:=fun b n z=>by
  subst z;rcases he with r|r
  ·exact hx b n r
  ·rw[n] at r;cases r
 have hm:∀b u,H b=some u->¬Mut (some u)->b≠x:=fun b u q nm z=>by subst z;rw[q] at mu;exact nm mu
 refine⟨fun b u q n _ _=>k b u (hb b n) q,fun b u q n _ _=>⟨u.slots,k b u (hb b n) q⟩,fun b u q n _=>by rw[Jh (hx b n)];exact n,fun b u q _=>?_,
  fun b xs q=>by rw[Jh (hm b _ q fun z=>z)];exact q,fun b u xs q=>by rw[Jh (hm b _ q fun z=>z)];exact q,fun b ps q=>⟨#[],by rw[Jh (hm b _ q fun z=>z),q];simp⟩⟩
 by_cases hbe:b=e
 ·subst hbe;exact heo
 ·exact⟨u,k b u hbe q⟩
theorem Un.mono(u:Un fs ex H H1 h h1)(hs:∀b∈fs,b∈fs')(hx:∀b∈ex,b∈ex'):Un fs' ex' H H1 h h1 :=
 ⟨fun b ob q n hb he=>u.keep b ob q n (fun z=>hb (hs b z)) fun z=>he (hx b z),fun _ _ q n _ he=>u.any q n fun z=>he (hx _ z),fun b ob q n he=>u.free b ob q n fun z=>he (hx b z),fun b ob q he=>u.there b ob q fun z=>he (hx b z),u.tups,u.frzs,u.tbls⟩
end

noncomputable def trk(h:Heap)(H:Hp):List Addr:=(GQ h.objs.size).filter fun a=>(H a).isSome
noncomputable def Jav(h:Heap)(H:Hp):Heap:=PySem.W.hideAll h (trk h H)
theorem JeQ(h:Heap)(H:Hp):(Jav h H).objs.size=h.objs.size:=PySem.W.hideAll_size _ _
theorem Jgs{h:Heap}{H:Hp}{b:Addr}{o:Obj}(e:h.get? b=some o)(n:H b=none):(Jav h H).get? b=some o :=
 PySem.W.hideAll_get _ e fun hm=>by have q:(H b).isSome=true:=(Lo.mp hm).2;rw[n] at q;simp at q
theorem JiN{h:Heap}{H:Hp}{b:Addr}{o:Obj}(e:(Jav h H).get? b=some o):h.get? b=some o/\H b=none:=by
 have e':h.get? b=some o:=PySem.W.of_hideAll (trk h H) e;refine⟨e',?_⟩
 cases q:H b with
 | none=>rfl
 | some x =>
  have hm:b∈trk h H:=Lo.mpr ⟨MC.mpr (Qo e'),by simp[q]⟩
  have z:(Jav h H).get? b=none:=PySem.W.hideAll_none (trk h H) hm;rw[z] at e;cases e

noncomputable def JhR(g h:Heap)(L:Addr):List (Addr×Obj):=(GQ h.objs.size).filterMap fun a=>if a=L\/(g.get? a).isSome=true then none else(h.get? a).map fun o=>(a,o)
noncomputable def rest(g h:Heap)(L d:Addr):List (Addr×Obj):=(JhR g h L).filter fun p=>decide (p.1≠d)
end L2

namespace L2
open PySem PySem.Spec PyProof.Rows

structure Mod (K:Frag) (mg:Str->Option Value) (base:Heap):Prop where
 kin:K.In base
 glob:base.Ns mainGlobals mg
 blt:∃mb,base.Ns builtinsNs mb/\∀x:Str,x≠"__name__"->mb x=bootBuiltins x
 nolimit:base.NoLimit

structure Cx where
 prog:Program
 w:World
 K:Frag
 mg:Str->Option Value
 base:Heap
 A:Around
 N:List Str
 s₀:Shared
 H₀:Hp
 env:Env
 outer:List Env
 stack:List Env
 ex:List Addr
 fn:Str->Bool
 calm:Bool
 pn:List (Addr×Obj)
 xe:Value->Shared->Prop
noncomputable def frs(l:List Env):List Addr:=l.filterMap (·.frame)
noncomputable abbrev Cx.fs(X:Cx):List Addr:=frs X.outer

noncomputable def Vis(sc:Scope)(x:Str):Prop:=sc.names.lookup x=some .local\/sc.names.lookup x=some .cell\/sc.names.lookup x=some .free
noncomputable def Loc(sc:Scope)(x:Str):Prop:=sc.names.lookup x=some .local\/sc.names.lookup x=some .cell
noncomputable def JoG(env:Env)(h:Heap)(m:Str->Option Value)(x:Str)(u:Value):Prop :=
 (env.kindOf x=some .local/\m x=some u)\/((env.kindOf x=some .cell\/env.kindOf x=some .free)/\∃c,env.cells.lookup x=some c/\h.IsCell c (some u))

structure Cx.Ok (X:Cx):Prop where
 mod:Mod X.K X.mg X.base
 kind:X.env.scope.kind=.function
 glob:X.env.globals=mainGlobals
 blt:X.env.builtins=builtinsNs
 above:X.s₀.heap.objs.size<=X.env.locals
 inj:∀x y c,X.env.cells.lookup x=some c->X.env.cells.lookup y=some c->x=y
 has:∀x,(X.env.kindOf x=some .cell\/X.env.kindOf x=some .free)->∃c,X.env.cells.lookup x=some c
 cab:∀x c,X.fn x=true->X.env.cells.lookup x=some c->X.s₀.heap.objs.size<=c
 hd:X.calm=true->X.A.handled=none
 frames:X.A.frames=some X.stack
 stk:X.stack=X.outer\/(X.stack=X.env::X.outer/\X.env.frame=some X.env.locals)
 exf:∀b∈X.ex,b≠X.env.locals/\∀x c,X.env.cells.lookup x=some c->c≠b
 bs:∀b o,X.base.get? b=some o->X.s₀.heap.get? b=some o/\X.H₀ b=none
 bsz:X.base.objs.size<=X.s₀.heap.objs.size
 noex:∀b o,X.base.get? b=some o->b∉X.ex
 exfs:∀b∈X.ex,b∉X.fs
 funs:X.s₀.heap.FunFrames X.base X.outer
 frf:∀b∈X.fs,X.H₀ b=none

structure Inv (X:Cx) (pins:List (Addr×Obj)) (σ:List (Option V)) (H:Hp) (s:Shared):Prop where
 ok:X.Ok
 os:s.os=X.s₀.os
 bare:AllBare s.gens
 base:Un X.fs X.ex X.H₀ H X.s₀.heap s.heap
 loc:∃m,s.heap.Ns X.env.locals m/\∀(i:Nat) (x:Str) (v:V),X.N[i]?=some x->σ[i]?=some (some v)->Vis X.env.scope x->∃u,RelV v u/\JoG X.env s.heap m x u
 cell:∀x c,X.env.cells.lookup x=some c->∃v,s.heap.IsCell c v
 free:H X.env.locals=none
 freeC:∀x c,X.env.cells.lookup x=some c->H c=none
 pin:∀p∈X.pn++pins,s.heap.get? p.1=some p.2/\H p.1=none/\p.1≠X.env.locals/\p.1∉X.fs/\∀v,p.2.data≠.cell v
 hok:HOk X.prog X.w H s.heap
 len:σ.length=X.N.length

section
variable{X:Cx}{pins:List (Addr×Obj)}{σ:List (Option V)}{H H':Hp}{s:Shared}{h':Heap}

theorem Cx.Ok.nofr(ok:X.Ok){b:Addr}{o:Obj}(e:X.base.get? b=some o):b∉X.fs:=fun hb=>by have:=(ok.funs.mem hb).1;rw[e] at this;cases this
theorem Inv.bs(I:Inv X pins σ H s):∀b o,X.base.get? b=some o->s.heap.get? b=some o/\H b=none:=fun b o e=>⟨I.base.keep b o (I.ok.bs b o e).1 (I.ok.bs b o e).2 (I.ok.nofr e) (I.ok.noex b o e),I.base.free b o (I.ok.bs b o e).1 (I.ok.bs b o e).2 (I.ok.noex b o e)⟩
theorem Inv.bk(I:Inv X pins σ H s):∀b o,X.base.get? b=some o->s.heap.get? b=some o:=fun b o e=>(I.bs b o e).1
theorem Inv.mod(I:Inv X pins σ H s):Mod X.K X.mg X.base:=I.ok.mod
theorem Inv.kIn(I:Inv X pins σ H s):X.K.In s.heap:=I.ok.mod.kin.keeps I.bk
theorem Inv.nolimit(I:Inv X pins σ H s):s.heap.NoLimit:=I.ok.mod.nolimit.keeps I.bk
theorem Inv.fr(I:Inv X pins σ H s):∃m,Fr X.base X.env.locals s.heap m :=
 let ⟨m,hn,_⟩:=I.loc
 ⟨m,hn,I.bk,Q4 I.ok.bsz I.ok.above⟩
theorem Inv.lt(I:Inv X pins σ H s):X.env.locals<s.heap.objs.size:=let ⟨_,hn,_⟩:=I.loc;hn.lt
theorem Inv.sz(I:Inv X pins σ H s):X.s₀.heap.objs.size<=s.heap.objs.size:=Q4 I.ok.above (GM I.lt)
theorem Inv.nofs(I:Inv X pins σ H s){a:Addr}(h:s.heap.objs.size<=a):a∉X.fs:=fun hb=>by obtain⟨_,o,ho,_⟩:=I.ok.funs.mem hb;exact absurd (QH (Qo ho) (Q4 I.sz h)) (Gc _)
theorem Inv.cne(I:Inv X pins σ H s):∀x c,X.env.cells.lookup x=some c->c≠X.env.locals:=fun x c e z=>by obtain⟨v,o,ho,hd⟩:=I.cell x c e;obtain⟨m,⟨o',es,ep,ho',hd',_⟩,_⟩:=I.loc;rw[z,ho'] at ho;cases ho;rw[hd'] at hd;cases hd
theorem Inv.funs(I:Inv X pins σ H s):s.heap.FunFrames X.base X.outer:=by
 have all:∀(l:List Env),(∀b∈frs l,b∈X.fs)->X.s₀.heap.FunFrames X.base l->s.heap.FunFrames X.base l:=by
  intro l
  induction l with
  | nil=>intro _ _;trivial
  | cons env r ih =>
   intro hs hl;obtain⟨hk,⟨L,o,hf,hn,ho,hd⟩,hr⟩:=hl;have hL:L∈X.fs:=hs L (by unfold frs;rw[Kc,hf];exact Qd);obtain⟨sl,e⟩:=I.base.slot L o ho (I.ok.frf L hL) hL fun z=>I.ok.exfs L z hL
   exact⟨hk,⟨L,_,hf,hn,e,hd⟩,ih (fun b hb=>hs b (by unfold frs;rw[Kc,hf];exact Qc _ hb)) hr⟩
 exact all X.outer (fun _ hb=>hb) I.ok.funs

theorem Inv.stack(I:Inv X pins σ H s):s.heap.FunFrames X.base X.stack:=by
 rcases I.ok.stk with e|⟨e,hf⟩
 ·rw[e];exact I.funs
 ·rw[e];obtain⟨m,hn,_⟩:=I.loc;refine .cons (by rw[I.ok.kind];decide) hf hn ?_ I.funs;exact Heap.get?_none_of_le (Q4 I.ok.bsz I.ok.above)
theorem Inv.stkSub(I:Inv X pins σ H s):∀b∈frs X.stack,b∈X.env.locals::X.fs:=fun b hb=>by
 rcases I.ok.stk with e|⟨e,hf⟩
 ·rw[e] at hb;exact Qc _ hb
 ·rw[e] at hb;unfold frs at hb;rw[Kc,hf] at hb;exact hb
theorem Inv.stkFree(I:Inv X pins σ H s):∀b∈frs X.stack,H b=none:=fun b hb=>by
 rcases Qg.mp (I.stkSub b hb) with e|hb
 ·rw[e];exact I.free
 ·obtain⟨_,o,ho,_⟩:=I.ok.funs.mem hb;exact I.base.free b o ho (I.ok.frf b hb) fun z=>I.ok.exfs b z hb

theorem Inv.step{g':Array GenState}{t':Nat}{d':Drawn}{ch:List Addr}(I:Inv X pins σ H s)
 (hch:∀b∈ch,(b∈X.ex\/X.s₀.heap.objs.size<=b)/\b≠X.env.locals/\(∀x c,X.env.cells.lookup x=some c->c≠b)/\∀p∈X.pn++pins,p.1≠b)
 (keep:∀b o,b≠X.env.locals->b∉X.fs->b∉ch->s.heap.get? b=some o->H b=none->h'.get? b=some o)
 (slot:∀b o,b≠X.env.locals->b∈X.fs->b∉ch->s.heap.get? b=some o->H b=none->∃sl,h'.get? b=some { o with slots:=sl }) (free:∀b o,b∉ch->s.heap.get? b=some o->H b=none->H' b=none)
 (there:∀b o,b∉ch->s.heap.get? b=some o->∃o',h'.get? b=some o')
 (tups:∀b xs,H b=some (.tup xs)->H' b=some (.tup xs)) (frzs:∀b o u,H b=some (.frz o u)->H' b=some (.frz o u)) (tbls:∀b ps,H b=some (.tbl ps)->∃more,H' b=some (.tbl (ps++more)))
 (ns:∀m,s.heap.Ns X.env.locals m->h'.Ns X.env.locals m) (hok:HOk X.prog X.w H' h') (hg:AllBare g') :
 Inv X pins σ H' { s with heap:=h',gens:=g',drawn:=d',toks:=t' }:=by
 have neL:∀b o,X.s₀.heap.get? b=some o->b≠X.env.locals:=fun b o e=>Qx (QH (Qo e) I.ok.above)
 have neC:∀b o,X.s₀.heap.get? b=some o->b∉X.ex->b∉ch:=fun b o e hx hb=>by
  rcases(hch b hb).1 with z|z
  ·exact hx z
  ·exact absurd (QH (Qo e) z) (Gc _)
 have cellK:∀x c,X.env.cells.lookup x=some c->∀v,s.heap.IsCell c v->h'.IsCell c v:=fun x c e v ⟨o,ho,hd⟩=>by
  have nch:c∉ch:=fun z=>(hch c z).2.2.1 x c e rfl
  by_cases hc:c∈X.fs
  ·obtain⟨sl,q⟩:=slot c o (I.cne x c e) hc nch ho (I.freeC x c e);exact⟨_,q,hd⟩
  ·exact⟨o,keep c o (I.cne x c e) hc nch ho (I.freeC x c e),hd⟩
 refine⟨I.ok,I.os,hg,⟨fun b o e n hb hx=>?_,fun b o e n hb hx=>?_,fun b o e n hx=>?_,fun b o e hx=>?_,fun b xs e=>tups b xs (I.base.tups b xs e),fun b o xs e=>frzs b o xs (I.base.frzs b o xs e),fun b ps e=>?_⟩,?_,fun x c e=>?_,?_,fun x c e=>?_,fun p hp=>?_,hok,I.len⟩
 ·exact keep b o (neL b o e) hb (neC b o e hx) (I.base.keep b o e n hb hx) (I.base.free b o e n hx)
 ·obtain⟨sl,e1⟩:=I.base.slot b o e n hb hx;obtain⟨sl',e2⟩:=slot b _ (neL b o e) hb (neC b o e hx) e1 (I.base.free b o e n hx);exact⟨sl',e2⟩
 ·obtain⟨o',e1⟩:=I.base.there b o e hx;exact free b o' (neC b o e hx) e1 (I.base.free b o e n hx)
 ·obtain⟨o',e1⟩:=I.base.there b o e hx;exact there b o' (neC b o e hx) e1
 ·obtain⟨m1,e1⟩:=I.base.tbls b ps e;obtain⟨m2,e2⟩:=tbls b _ e1;exact⟨m1++m2,by rw[e2,Array.append_assoc]⟩
 ·obtain⟨m,hn,hl⟩:=I.loc;refine⟨m,ns m hn,fun i x v e1 e2 e3=>?_⟩;obtain⟨u,r,l⟩:=hl i x v e1 e2 e3;refine⟨u,r,?_⟩;rcases l with l|⟨k,c,e,z⟩
  ·exact .inl l
  ·exact .inr ⟨k,c,e,cellK x c e _ z⟩
 ·obtain⟨v,z⟩:=I.cell x c e;exact⟨v,cellK x c e v z⟩
 ·obtain⟨m,⟨o,_,_,ho,_⟩,_⟩:=I.loc;exact free _ o (fun z=>(hch _ z).2.1 rfl) ho I.free
 ·obtain⟨v,o,ho,hd⟩:=I.cell x c e;exact free c o (fun z=>(hch c z).2.2.1 x c e rfl) ho (I.freeC x c e)
 ·obtain⟨e,n,ne,nf,d⟩:=I.pin p hp;have nch:p.1∉ch:=fun z=>(hch p.1 z).2.2.2 p hp rfl
  exact⟨keep p.1 p.2 ne nf nch e n,free p.1 p.2 nch e n,ne,nf,d⟩
theorem Inv.un{t':Nat}(I:Inv X pins σ H s)(u:Un X.fs [] H H' s.heap h')(hok:HOk X.prog X.w H' h'):Inv X pins σ H' { s with heap:=h',toks:=t' }:=by
 obtain⟨m,⟨o,es,ep,ho,r⟩,_⟩:=id I.loc;obtain⟨sl,hL⟩:=u.any ho I.free (by simp);exact I.step (g':=s.gens) (d':=s.drawn) (ch:=[]) (fun _ z=>nomatch z) (fun b o _ hb _ e n=>u.keep b o e n hb (by simp)) (fun b o _ hb _ e n=>u.slot b o e n hb (by simp)) (fun b o _ e n=>u.free b o e n (by simp)) (fun b o _ e=>u.there b o e (by simp)) u.tups u.frzs u.tbls (fun m' hm=>by obtain⟨o',es',ep',ho',r'⟩:=hm;rw[ho] at ho';cases ho';exact⟨_,es',ep',hL,r'⟩) hok I.bare
theorem Inv.call{g':Array GenState}{t':Nat}{d':Drawn}{ch:List Addr}(I:Inv X pins σ H s)(u:Un (frs X.stack) ch H H' s.heap h')(hok:HOk X.prog X.w H' h')(hg:AllBare g')
 (hch:∀b∈ch,(b∈X.ex\/X.s₀.heap.objs.size<=b)/\b≠X.env.locals/\(∀x c,X.env.cells.lookup x=some c->c≠b)/\∀p∈X.pn++pins,p.1≠b) :
 Inv X pins σ H' { s with heap:=h',gens:=g',drawn:=d',toks:=t' }:=by
 obtain⟨m,⟨o,es,ep,ho,r⟩,_⟩:=id I.loc;obtain⟨sl,hL⟩:=u.any ho I.free fun z=>(hch _ z).2.1 rfl
 exact I.step (ch:=ch) hch (fun b o hL hb hc e n=>u.keep b o e n (fun z=>(Qg.mp (I.stkSub b z)).elim hL hb) hc) (fun b o _ _ hc e n=>u.any e n hc) (fun b o hc e n=>u.free b o e n hc) (fun b o hc e=>u.there b o e hc) u.tups u.frzs u.tbls (fun m' hm=>by obtain⟨o',es',ep',ho',r'⟩:=hm;rw[ho] at ho';cases ho';exact⟨_,es',ep',hL,r'⟩) hok hg
theorem Inv.turned{t':Nat}{it:Addr}(I:Inv X pins σ H s)(k:∀b o,b≠it->s.heap.get? b=some o->h'.get? b=some o)(hn:H it=none)(hL:it≠X.env.locals)
 (h1:it∈X.ex\/X.s₀.heap.objs.size<=it) (h2:∀x c,X.env.cells.lookup x=some c->c≠it) (h3:∀p∈X.pn++pins,p.1≠it):Inv X pins σ H { s with heap:=h',toks:=t' }:=by
 have nit:∀b u,H b=some u->b≠it:=fun b u e z=>by rw[z,hn] at e;cases e
 refine I.step (g':=s.gens) (d':=s.drawn) (ch:=[it]) (fun b hb=>?_) (fun b o _ _ hc e _=>k b o (fun z=>hc (by simp[z])) e) (fun b o _ _ hc e _=>⟨o.slots,k b o (fun z=>hc (by simp[z])) e⟩) (fun _ _ _ _ n=>n)
  (fun b o hc e=>⟨o,k b o (fun z=>hc (by simp[z])) e⟩) (fun _ _ e=>e) (fun _ _ _ e=>e) (fun b ps e=>⟨#[],by rw[e];simp⟩) (fun m hm=>?_) (fun b u e=>?_) I.bare
 ·have e:b=it:=by simpa using hb
  subst e;exact⟨h1,hL,h2,h3⟩
 ·obtain⟨o,es,ep,ho,r⟩:=hm;exact⟨o,es,ep,k _ o (QI hL) ho,r⟩
 ·refine(I.hok b u e).stay (fun c v hc q=>k c v ?_ q) (fun _ q=>q) fun _ _ q=>q
  rcases hc with z|z
  ·rw[z];exact nit b u e
  ·exact nit c _ z
theorem Inv.tok(I:Inv X pins σ H s)(t:Nat):Inv X pins σ H { s with toks:=t }:=I.un (h':=s.heap) (t':=t) Un.refl I.hok
theorem Inv.kept{t':Nat}(I:Inv X pins σ H s)(k:∀b u,s.heap.get? b=some u->h'.get? b=some u):Inv X pins σ H { s with heap:=h',toks:=t' }:=I.un (Un.kept k) (I.hok.kept k)
theorem Inv.laid{a:Addr}{o:HO}{t':Nat}(I:Inv X pins σ H s)(k:∀b u,s.heap.get? b=some u->h'.get? b=some u)(hp:s.heap.objs.size<=a)(new:ObjOk X.prog X.w (upd H a o) h' a o) :
 Inv X pins σ (upd H a o) { s with heap:=h',toks:=t' }:=I.un (Un.laid k hp (I.hok.fresh hp)) (I.hok.laid k hp new)
theorem Inv.write{x e:Addr}{o:HO}{t':Nat}(I:Inv X pins σ H s)(mu:Mut (H x))(he:e=x\/H e=some (.own x))(k:∀b u,b≠e->s.heap.get? b=some u->h'.get? b=some u)(heo:∃u,h'.get? e=some u)
 (new:ObjOk X.prog X.w (upd H x o) h' x o):Inv X pins σ (upd H x o) { s with heap:=h',toks:=t' }:=I.un (Un.write mu he k heo) (I.hok.write mu he k heo new)
theorem Inv.weak{σ':List (Option V)}(I:Inv X pins σ H s)(hl:σ'.length=σ.length)(w:∀(i:Nat) v,σ'[i]?=some (some v)->σ[i]?=some (some v)):Inv X pins σ' H s :=
 ⟨I.ok,I.os,I.bare,I.base,let ⟨m,hn,hl'⟩:=I.loc;⟨m,hn,fun i x v e1 e2 e3=>hl' i x v e1 (w i v e2) e3⟩,I.cell,I.free,I.freeC,I.pin,I.hok,hl.trans I.len⟩
theorem Inv.pins_of{pins':List (Addr×Obj)}(I:Inv X pins σ H s)(h:∀p∈pins',s.heap.get? p.1=some p.2/\H p.1=none/\p.1≠X.env.locals/\p.1∉X.fs/\∀v,p.2.data≠.cell v):Inv X pins' σ H s :=
 ⟨I.ok,I.os,I.bare,I.base,I.loc,I.cell,I.free,I.freeC,fun p hp=>(Gb.mp hp).elim (fun z=>I.pin p (Lj _ z)) (h p),I.hok,I.len⟩

theorem JbE{N:List Str}(hN:N.Nodup){i j:Nat}{x:Str}(a:N[i]?=some x)(b:N[j]?=some x):i=j:=by obtain⟨h1,e1⟩:=Qh.mp a;obtain⟨h2,e2⟩:=Qh.mp b;exact(List.getElem_inj hN).mp (e1.trans e2.symm)

theorem ZZ{M:Model}{A:Around}{E:Value->Shared->Prop}{i:Nat}{x:Str}{v:V}{u:Value}{Q:Unit->Shared->Prop}(I:Inv X pins σ H s)(hN:X.N.Nodup)(hi:X.N[i]?=some x)(hx:Loc X.env.scope x)(r:RelV v u)
 (h:∀s',Inv X pins (σ.set i (some v)) H s'->(∃a,Qz a s.heap s'.heap/\(a=X.env.locals\/X.env.cells.lookup x=some a))->Q () s') (hf:X.fn x=true\/X.env.scope.names.lookup x=some .local:=by first|exact .inl rfl|exact .inr rfl|assumption):wpAny M A (storeName X.env x u) Q E s:=by
 obtain⟨m,hn,hl⟩:=id I.loc;have hcls:(X.env.scope.kind == .class || (X.env.scope.kind == .module && X.env.locals != X.env.globals))=false:=by rw[I.ok.kind];rfl
 have hiσ:i<σ.length:=by rw[I.len];exact(Qh.mp hi).1
 have cne:=I.cne
 have tracked:∀{a:Addr} {h':Heap},(∃o,s.heap.get? a=some o/\H a=none)->Qz a s.heap h'->HOk X.prog X.w H h':=fun {a h'} ha hs b ob e=>by
  obtain⟨_,_,hfree⟩:=ha;refine(I.hok b ob e).stay (fun c w' hc q=>(hs.2 c ?_).trans q) (fun _ q=>q) fun _ _ q=>q
  rintro rfl;rcases hc with rfl|hc
  ·rw[hfree] at e;cases e
  ·rw[hfree] at hc;cases hc
 rcases hx with hk|hk
 ·refine wpAny_storeName_local hk hn (fun h' hn' hs=>?_) hcls;obtain⟨oL,_,_,hoL,_⟩:=id hn;refine h _ ⟨I.ok,I.os,I.bare,⟨fun b o e n hb hx=>?_,fun b o e n hb hx=>?_,I.base.free,fun b o e hx=>?_,I.base.tups,I.base.frzs,I.base.tbls⟩,⟨_,hn',fun j y v' e1 e2 e3=>?_⟩,fun y c e=>?_,I.free,I.freeC,fun p hp=>?_,tracked ⟨oL,hoL,I.free⟩ hs,by simpa using I.len⟩ ⟨_,hs,.inl rfl⟩
  ·exact(hs.2 b (Qx (QH (Qo e) I.ok.above))).trans (I.base.keep b o e n hb hx)
  ·obtain⟨sl,e1⟩:=I.base.slot b o e n hb hx;exact⟨sl,(hs.2 b (Qx (QH (Qo e) I.ok.above))).trans e1⟩
  ·obtain⟨o',e1⟩:=I.base.there b o e hx;exact⟨o',(hs.2 b (Qx (QH (Qo e) I.ok.above))).trans e1⟩
  ·by_cases hj:j=i
   ·subst hj;rw[hi] at e1;cases e1;rw[Mf hiσ] at e2;cases e2;exact⟨u,r,.inl ⟨hk,by simp⟩⟩
   ·rw[MD (QI hj)] at e2;obtain⟨u',r',q⟩:=hl j y v' e1 e2 e3;refine⟨u',r',?_⟩;rcases q with ⟨k,e⟩|⟨k,c,e,z⟩
    ·refine .inl ⟨k,?_⟩;have:y≠x:=fun e=>hj (JbE hN e1 (e▸hi))
     simp[this,e]
    ·exact .inr ⟨k,c,e,z.sameBut hs (cne y c e)⟩
  ·obtain⟨w',z⟩:=I.cell y c e;exact⟨w',z.sameBut hs (cne y c e)⟩
  ·obtain⟨e,n,ne,nf,d⟩:=I.pin p hp;exact⟨(hs.2 p.1 ne).trans e,n,ne,nf,d⟩
 ·have hfn:X.fn x=true:=by
   rcases hf with z|z
   ·exact z
   ·rw[z] at hk;cases hk
  obtain⟨c,hc⟩:=I.ok.has x (.inl hk);obtain⟨w',z⟩:=I.cell x c hc;refine wpAny_storeName_cell I.ok.kind hk hc z (fun h' hc' hs=>?_);obtain⟨oc,hoc,hocd⟩:=id z;refine h { s with heap:=h' } ⟨I.ok,I.os,I.bare,⟨fun b o e n hb hx=>?_,fun b o e n hb hx=>?_,I.base.free,fun b o e hx=>?_,I.base.tups,I.base.frzs,I.base.tbls⟩,⟨m,hn.sameBut hs (QI (cne x c hc)),fun j y v' e1 e2 e3=>?_⟩,fun y c' e=>?_,I.free,I.freeC,fun p hp=>?_,tracked ⟨oc,hoc,I.freeC x c hc⟩ hs,by simpa using I.len⟩ ⟨c,hs,.inr hc⟩
  ·exact(hs.2 b (Qx (QH (Qo e) (I.ok.cab x c hfn hc)))).trans (I.base.keep b o e n hb hx)
  ·obtain⟨sl,e1⟩:=I.base.slot b o e n hb hx;exact⟨sl,(hs.2 b (Qx (QH (Qo e) (I.ok.cab x c hfn hc)))).trans e1⟩
  ·obtain⟨o',e1⟩:=I.base.there b o e hx;exact⟨o',(hs.2 b (Qx (QH (Qo e) (I.ok.cab x c hfn hc)))).trans e1⟩
  ·by_cases hj:j=i
   ·subst hj;rw[hi] at e1;cases e1;rw[Mf hiσ] at e2;cases e2;exact⟨u,r,.inr ⟨.inl hk,c,hc,hc'⟩⟩
   ·rw[MD (QI hj)] at e2;obtain⟨u',r',q⟩:=hl j y v' e1 e2 e3;refine⟨u',r',?_⟩;rcases q with q|⟨k,c',e,z'⟩
    ·exact .inl q
    ·refine .inr ⟨k,c',e,z'.sameBut hs ?_⟩;rintro rfl;exact hj (JbE hN e1 (I.ok.inj _ _ _ e hc▸hi))
  ·by_cases hcc:c'=c
   ·subst hcc;exact⟨_,hc'⟩
   ·obtain⟨w2,z2⟩:=I.cell y c' e;exact⟨w2,z2.sameBut hs hcc⟩
  ·obtain⟨e,n,ne,nf,d⟩:=I.pin p hp;refine⟨(hs.2 p.1 ?_).trans e,n,ne,nf,d⟩;intro q;rw[q,hoc] at e;have q':oc=p.2:=QG e;exact d w' (by rw[<- q'];exact hocd)
theorem Zd{M:Model}{A:Around}{E:Value->Shared->Prop}{i:Nat}{x:Str}{v:V}{u:Value}{Q:Unit->Shared->Prop}(I:Inv X pins σ H s)(hN:X.N.Nodup)(hi:X.N[i]?=some x)(hx:Loc X.env.scope x)(r:RelV v u)
 (h:∀s',Inv X pins (σ.set i (some v)) H s'->Q () s') (hf:X.fn x=true\/X.env.scope.names.lookup x=some .local:=by first|exact .inl rfl|exact .inr rfl|assumption):wpAny M A (storeName X.env x u) Q E s :=
 ZZ I hN hi hx r (fun s' I' _=>h s' I') hf
theorem Inv.call'{s':Shared}{ch:List Addr}(I:Inv X pins σ H s)(ho:s'.os=s.os)(u:Un (frs X.stack) ch H H' s.heap s'.heap)(hok:HOk X.prog X.w H' s'.heap)(hg:AllBare s'.gens)
 (hch:∀b∈ch,(b∈X.ex\/X.s₀.heap.objs.size<=b)/\b≠X.env.locals/\(∀x c,X.env.cells.lookup x=some c->c≠b)/\∀p∈X.pn++pins,p.1≠b):Inv X pins σ H' s':=by
 obtain⟨h',g',d',t',o'⟩:=s';have e:o'=s.os:=ho;subst e;exact I.call (g':=g') (t':=t') (d':=d') u hok hg hch
end

noncomputable abbrev XK:=Value->Option Addr->Hp->Prop
noncomputable abbrev St:=List (Option V)
noncomputable abbrev VK:=V->Hp->Prop
noncomputable abbrev TE:=St->Hp->VK->Prop
noncomputable abbrev TT:=St->Hp->(Bool->Hp->Prop)->Prop
noncomputable abbrev TA:=St->Hp->(List V->Hp->Prop)->Prop
structure Ends where
 nx:St->Hp->Prop
 rt:VK
 bk:St->Hp->Prop:=fun _ _=>False
 ct:St->Hp->Prop:=fun _ _=>False
noncomputable abbrev TS:=Ends->St->Hp->Prop

noncomputable def EP(X:Cx)(pins:List (Addr×Obj))(σ:St)(Q:VK)(u:Value)(s':Shared):Prop:=∃v H',Inv X pins σ H' s'/\RelV v u/\Q v H'
noncomputable def TP(X:Cx)(pins:List (Addr×Obj))(σ:St)(Q:Bool->Hp->Prop)(b:Bool)(s':Shared):Prop:=∃H',Inv X pins σ H' s'/\Q b H'
noncomputable def AP(X:Cx)(pins:List (Addr×Obj))(σ:St)(Q:List V->Hp->Prop)(us:List Value)(s':Shared):Prop:=∃vs H',Inv X pins σ H' s'/\Vals vs us/\Q vs H'
noncomputable def SP(X:Cx)(pins:List (Addr×Obj))(D:Ends)(f:Flow)(s':Shared):Prop :=
 match f with
 | .next=>∃σ' H',Inv X pins σ' H' s'/\D.nx σ' H'
 | .brk=>∃σ' H',Inv X pins σ' H' s'/\D.bk σ' H'
 | .cont=>∃σ' H',Inv X pins σ' H' s'/\D.ct σ' H'
 | .ret u=>∃v σ' H',Inv X pins σ' H' s'/\RelV v u/\D.rt v H'

noncomputable def PE(X:Cx)(e:Expr)(t:TE):Prop :=
 ∀(pins:List (Addr×Obj)) (s:Shared) (σ:St) (H:Hp) (Q:VK),Inv X pins σ H s->t σ H Q->wpAny (model X.prog X.w) X.A (eval e X.env) (EP X pins σ Q) X.xe s
noncomputable def PT(X:Cx)(e:Expr)(t:TT):Prop :=
 ∀(pins:List (Addr×Obj)) (s:Shared) (σ:St) (H:Hp) (Q:Bool->Hp->Prop),Inv X pins σ H s->t σ H Q->wpAny (model X.prog X.w) X.A (isTrue e X.env (eval e X.env)) (TP X pins σ Q) X.xe s
noncomputable def PW(X:Cx)(e:Expr)(t:TT):Prop :=
 ∀(whole:Sem Value) (pins:List (Addr×Obj)) (s:Shared) (σ:St) (H:Hp) (Q:Bool->Hp->Prop),Inv X pins σ H s->t σ H Q->wpAny (model X.prog X.w) X.A (isTrue e X.env whole) (TP X pins σ Q) X.xe s
theorem PW.pt{X:Cx}{e:Expr}{t:TT}(h:PW X e t):PT X e t:=h _
noncomputable def PA(X:Cx)(es:List Expr)(t:TA):Prop :=
 ∀(pos:Pos) (pins:List (Addr×Obj)) (s:Shared) (σ:St) (H:Hp) (Q:List V->Hp->Prop),Inv X pins σ H s->t σ H Q->wpAny (model X.prog X.w) X.A (spliced (backTo pos (starEach es X.env))) (AP X pins σ Q) X.xe s
noncomputable def PS(X:Cx)(st:Stmt)(t:TS):Prop :=
 ∀(pins:List (Addr×Obj)) (s:Shared) (σ:St) (H:Hp) (D:Ends),Inv X pins σ H s->t D σ H->wpAny (model X.prog X.w) X.A (exec st X.env) (SP X pins D) X.xe s
noncomputable def PSs(X:Cx)(st:List Stmt)(t:TS):Prop :=
 ∀(pins:List (Addr×Obj)) (s:Shared) (σ:St) (H:Hp) (D:Ends),Inv X pins σ H s->t D σ H->wpAny (model X.prog X.w) X.A (execs st X.env) (SP X pins D) X.xe s
theorem thn{α:Type}{t:Sem α}{Q Q':α->Shared->Prop}{M:Model}{A:Around}{E:Value->Shared->Prop}{s:Shared}(h:wpAny M A t Q E s)(hQ:∀a s,Q a s->Q' a s):wpAny M A t Q' E s:=LF h hQ fun _ _ x=>x
end L2

namespace L2
open PySem PySem.Spec PyProof.Rows
section
variable{X:Cx}

noncomputable def Ze(i:Nat):TE:=fun σ H Q=>∃v,σ[i]?=some (some v)/\Q v H
noncomputable def tC(v:V):TE:=fun _ H Q=>Q v H
theorem JlR{i:Nat}{x:Str}{pos:Pos}(hN:X.N[i]?=some x)(hv:Vis X.env.scope x)(hd:(x == ("__debug__":Str))=false:=by decide)(hcd:(x == ("__classdict__":Str))=false:=by decide):PE X (.Name x pos) (Ze i):=by
 intro pins s σ H Q I h;obtain⟨v,e,h⟩:=h;obtain⟨m,hn,hl⟩:=I.loc;obtain⟨u,r,l⟩:=hl i x v hN e hv;have fin:EP X pins σ Q u s:=⟨v,H,I,r,h⟩
 rcases l with ⟨hk,hm⟩|⟨hk,c,hc,hcell⟩
 ·exact wpAny_Name (wpAny_loadName_local I.ok.kind hk hn hm fin) hd
 ·rcases hk with hk|hk
  ·exact wpAny_Name (wpAny_loadName_cell I.ok.kind hk hc hcell fin) hd
  ·exact wpAny_Name (wpAny_loadName_free I.ok.kind hk hc hcell fin hcd) hd
theorem Je{i j pos}:PE X (.Constant (.int i) j pos) (tC (.int i)):=fun _ _ _ H _ I h=>wpAny_Constant_int ⟨.int i,H,I.tok _,⟨_,rfl⟩,h⟩
theorem JdW{b j pos}:PE X (.Constant (.bool b) j pos) (tC (.bl b)):=fun _ _ _ H _ I h=>Constant_bool ⟨.bl b,H,I,rfl,h⟩
theorem Yq{j pos}:PE X (.Constant .none j pos) (tC .non):=fun _ _ _ H _ I h=>Constant_none ⟨.non,H,I,rfl,h⟩
noncomputable def Gl(X:Cx)(x:Str):Prop:=X.env.kindOf x=some .globalImplicit
theorem JaB{E:Value->Shared->Prop}{pins:List (Addr×Obj)}{s:Shared}{σ:St}{H:Hp}{x:Str}{u:Value}{pos:Pos}{Q:Value->Shared->Prop}(I:Inv X pins σ H s)(hg:Gl X x)(hm:X.mg x=some u)(h:Q u s)
 (hd:(x == ("__debug__":Str))=false:=by decide):wpAny (model X.prog X.w) X.A (eval (.Name x pos) X.env) Q E s :=
 LG I.ok.kind hg (Calls.loadGlobal_global (by rw[I.ok.glob];exact I.mod.glob.keeps I.bk) hm h) hd
theorem UH{E:Value->Shared->Prop}{pins:List (Addr×Obj)}{s:Shared}{σ:St}{H:Hp}{x:Str}{u:Value}{pos:Pos}{Q:Value->Shared->Prop}(I:Inv X pins σ H s)(hg:Gl X x)(hm:X.mg x=none)(hv:bootBuiltins x=some u)(h:Q u s)
 (hn:x≠"__name__":=by decide) (hd:(x == ("__debug__":Str))=false:=by decide):wpAny (model X.prog X.w) X.A (eval (.Name x pos) X.env) Q E s:=by
 obtain⟨mb,h1,h2⟩:=I.mod.blt;exact LG I.ok.kind hg (Calls.loadGlobal_builtin (by rw[I.ok.glob];exact I.mod.glob.keeps I.bk) hm (by rw[I.ok.blt];exact h1.keeps I.bk) ((h2 x hn).trans hv) h) hd
theorem JiW{x:Str}{v:V}{u:Value}{pos:Pos}(hg:Gl X x)(hm:X.mg x=some u)(r:RelV v u)(hd:(x == ("__debug__":Str))=false:=by decide):PE X (.Name x pos) (tC v) :=
 fun _ _ _ H _ I h=>JaB I hg hm ⟨v,H,I,r,h⟩ hd
theorem JiT{x:Str}{v:V}{u:Value}{pos:Pos}(hg:Gl X x)(hm:X.mg x=none)(hv:bootBuiltins x=some u)(r:RelV v u)(hn:x≠"__name__":=by decide)(hd:(x == ("__debug__":Str))=false:=by decide):PE X (.Name x pos) (tC v) :=
 fun _ _ _ H _ I h=>UH I hg hm hv ⟨v,H,I,r,h⟩ hn hd

variable{a b:Expr}{ta tb:TE}{pos:Pos}
noncomputable def tB(t:TE):TT:=fun σ H Q=>t σ H fun x H1=>∃c,x=.bl c/\Q c H1
variable{tA tB':TT}{rest:List Expr}
noncomputable def JmL(t u:TT):TT:=fun σ H Q=>t σ H fun c H1=>if c=true then u σ H1 Q else Q false H1
noncomputable def tOr(t u:TT):TT:=fun σ H Q=>t σ H fun c H1=>if c=true then Q true H1 else u σ H1 Q
noncomputable def JmP(t:TT):TT:=fun σ H Q=>t σ H fun c H1=>Q (!c) H1
theorem UD(ha:PT X a tA):PW X (.BoolOp .And [a] pos) tA:=by
 intro wh pins s σ H Q I h;refine isTrue_and (thn (ha pins s σ H Q I h) fun c s1 e=>?_)
 cases c with
 | true=>exact isTrue_and_nil e
 | false=>exact e
theorem UC(ha:PT X a tA)(hb:PW X (.BoolOp .And (b::rest) pos) tB'):PW X (.BoolOp .And (a::b::rest) pos) (JmL tA tB'):=by
 intro wh pins s σ H Q I h;refine isTrue_and (thn (ha pins s σ H _ I h) fun c s1 ⟨H1,I1,q1⟩=>?_)
 cases c with
 | true=>exact hb wh pins s1 σ H1 Q I1 q1
 | false=>exact⟨H1,I1,q1⟩
theorem Jg3(ha:PT X a tA):PT X (.UnaryOp .Not a pos) (JmP tA):=by intro pins s σ H Q I h;exact isTrue_not (ha pins s σ H (fun c H1=>Q (!c) H1) I h)
noncomputable def Jos(ta tb:TE):TE:=fun σ H Q=>ta σ H fun x H1=>∃c,x=.bl c/\if c=true then tb σ H1 Q else Q (.bl false) H1
noncomputable def Jpd(ta tb:TE):TE:=fun σ H Q=>ta σ H fun x H1=>∃c,x=.bl c/\if c=true then Q (.bl true) H1 else tb σ H1 Q
noncomputable def Jou(ta:TE):TE:=fun σ H Q=>ta σ H fun x H1=>∃c,x=.bl c/\Q (.bl (!c)) H1
noncomputable def tIf(t:TT)(ta tb:TE):TE:=fun σ H Q=>t σ H fun c H1=>if c=true then ta σ H1 Q else tb σ H1 Q
theorem W6{c:Expr}(hc:PT X c tA)(ha:PE X a ta)(hb:PE X b tb):PE X (.IfExp c a b pos) (tIf tA ta tb):=by
 intro pins s σ H Q I h;refine wpAny_IfExp (thn (hc pins s σ H _ I h) fun d s1 ⟨H1,I1,q1⟩=>?_)
 cases d with
 | true=>exact ha pins s1 σ H1 Q I1 q1
 | false=>exact hb pins s1 σ H1 Q I1 q1
end
end L2

namespace L2
open PySem PySem.Spec PyProof.Rows

noncomputable def SqL(K:Frag)(H:Hp)(a:Addr)(xs:List V):Prop :=
 Rd H a (.lst xs) ∨
  ∃(o:Obj) (its:Array Value) (n:Nat),K.lookup a=some o/\o.cls=.type "list"/\o.dict=none/\o.data=.seq its n/\its.size<=sizeLine/\Vals xs its.toList
noncomputable def SqT(K:Frag)(H:Hp)(a:Addr)(xs:List V):Prop :=
 Rd H a (.tup xs) ∨
  ∃(o:Obj) (its:Array Value) (n:Nat),K.lookup a=some o/\o.cls=.type "tuple"/\o.data=.seq its n/\its.size<=sizeLine/\Vals xs its.toList
noncomputable def JoJ:Value->Option V
 | .none=>some .non
 | .bool b=>some (.bl b)
 | .int i _=>some (.int i)
 | .str x _=>some (.str x)
 | .bytes b _=>some (.byt b)
 | .float b _=>some (.flt b)
 | .ref a=>some (.ref a)
 | .type n=>some (.ty n)
 | _=>none
theorem RelV.abs{x:V}{u:Value}(r:RelV x u):JoJ u=some x:=by
 cases x with
 | non=>cases r;rfl
 | bl _=>cases r;rfl
 | int _=>obtain⟨t,rfl⟩:=r;rfl
 | str _=>obtain⟨t,rfl⟩:=r;rfl
 | byt _=>obtain⟨t,rfl⟩:=r;rfl
 | flt _=>obtain⟨t,rfl⟩:=r;rfl
 | ref _=>cases r;rfl
 | ty _=>cases r;rfl
theorem RelV.inj{x y:V}{u:Value}(r:RelV x u)(q:RelV y u):x=y:=QG (r.abs.symm.trans q.abs)
theorem Vals.inj:∀{xs ys:List V} {us:List Value},Vals xs us->Vals ys us->xs=ys
 | _,_,_,.nil,.nil=>rfl
 | _,_,_,.cons r t,.cons r' t'=>by rw[r.inj r',Vals.inj t t']
section
variable{X:Cx}{pins:List (Addr×Obj)}{σ:St}{H:Hp}{s:Shared}{a:Addr}{xs ys:List V}
theorem SqL.of{K:Frag}(h:H a=some (.lst xs)):SqL K H a xs:=.inl (.inl h)
theorem SqT.of{K:Frag}(h:H a=some (.tup xs)):SqT K H a xs:=.inl (.inl h)
theorem Inv.list(I:Inv X pins σ H s)(h:SqL X.K H a xs):∃its:List Value,Vals xs its/\PlainL s.heap a its.toArray/\xs.length<=sizeLine:=by
 rcases h with h|⟨o,its,n,hk,hc,hd,hs,hz,r⟩
 ·obtain⟨z,its,n,r,e⟩:=h.ok I.hok;exact⟨its,r,⟨_,n,e,rfl,rfl,rfl⟩,z⟩
 ·refine⟨its.toList,r,⟨o,n,I.kIn a o hk,hc,hd,by simpa using hs⟩,?_⟩;have e:=r.length;simp only[QQ] at e;omega
theorem Inv.tuple(I:Inv X pins σ H s)(h:SqT X.K H a xs):∃its:List Value,Vals xs its/\IsTup s.heap a its.toArray/\xs.length<=sizeLine:=by
 rcases h with h|⟨o,its,n,hk,hc,hs,hz,r⟩
 ·obtain⟨z,its,r,p⟩:=h.ok I.hok;exact⟨its,r,p,z⟩
 ·refine⟨its.toList,r,⟨o,I.kIn a o hk,hc,n,by simpa using hs⟩,?_⟩;have e:=r.length;simp only[QQ] at e;omega
theorem Inv.list_inj(I:Inv X pins σ H s)(h:SqL X.K H a xs)(h':SqL X.K H a ys):xs=ys:=by
 obtain⟨its,r,⟨o,n,e,_,_,d⟩,_⟩:=I.list h;obtain⟨its',r',⟨o',n',e',_,_,d'⟩,_⟩:=I.list h';rw[e] at e';cases e';rw[d] at d'
 injection d' with d1 _
 have:its=its':=by simpa using congrArg Array.toList d1
 subst this;exact r.inj r'
theorem Inv.tuple_inj(I:Inv X pins σ H s)(h:SqT X.K H a xs)(h':SqT X.K H a ys):xs=ys:=by
 obtain⟨its,r,⟨o,e,_,n,d⟩,_⟩:=I.tuple h;obtain⟨its',r',⟨o',e',_,n',d'⟩,_⟩:=I.tuple h';rw[e] at e';cases e';rw[d] at d'
 injection d' with d1 _
 have:its=its':=by simpa using congrArg Array.toList d1
 subst this;exact r.inj r'
end

noncomputable abbrev Cx.wish(X:Cx)(E:Value->Shared->Prop):Cx:={ X with xe:=E }
noncomputable abbrev Cx.nox(X:Cx):Cx:=X.wish fun _ _=>False
theorem Cx.Ok.wish{X:Cx}(ok:X.Ok)(E:Value->Shared->Prop):(X.wish E).Ok :=
 ⟨ok.mod,ok.kind,ok.glob,ok.blt,ok.above,ok.inj,ok.has,ok.cab,ok.hd,ok.frames,ok.stk,ok.exf,ok.bs,ok.bsz,ok.noex,ok.exfs,ok.funs,ok.frf⟩
theorem Cx.Ok.unwish{X:Cx}{E:Value->Shared->Prop}(ok:(X.wish E).Ok):X.Ok :=
 ⟨ok.mod,ok.kind,ok.glob,ok.blt,ok.above,ok.inj,ok.has,ok.cab,ok.hd,ok.frames,ok.stk,ok.exf,ok.bs,ok.bsz,ok.noex,ok.exfs,ok.funs,ok.frf⟩
section
variable{X:Cx}{pins:List (Addr×Obj)}{σ:St}{H:Hp}{s:Shared}{E:Value->Shared->Prop}
theorem Inv.wish(I:Inv X pins σ H s)(E:Value->Shared->Prop):Inv (X.wish E) pins σ H s:=⟨I.ok.wish E,I.os,I.bare,I.base,I.loc,I.cell,I.free,I.freeC,I.pin,I.hok,I.len⟩
theorem Inv.unwish(I:Inv (X.wish E) pins σ H s):Inv X pins σ H s:=⟨I.ok.unwish,I.os,I.bare,I.base,I.loc,I.cell,I.free,I.freeC,I.pin,I.hok,I.len⟩
theorem SP.unwish{D:Ends}{f:Flow}{s':Shared}(h:SP (X.wish E) pins D f s'):SP X pins D f s':=by
 cases f with
 | next=>obtain⟨σ',H',I,q⟩:=h;exact⟨σ',H',I.unwish,q⟩
 | brk=>obtain⟨σ',H',I,q⟩:=h;exact⟨σ',H',I.unwish,q⟩
 | cont=>obtain⟨σ',H',I,q⟩:=h;exact⟨σ',H',I.unwish,q⟩
 | ret u=>obtain⟨v,σ',H',I,r,q⟩:=h;exact⟨v,σ',H',I.unwish,r,q⟩
theorem PE.nox{e:Expr}{t:TE}(h:PE X.nox e t):PE X e t:=fun pins s σ H Q I hw=>LF (h pins s σ H Q (I.wish _) hw) (fun _ _ ⟨v,H',I',r,q⟩=>⟨v,H',I'.unwish,r,q⟩) fun _ _ z=>Gv z
theorem PT.nox{e:Expr}{t:TT}(h:PT X.nox e t):PT X e t:=fun pins s σ H Q I hw=>LF (h pins s σ H Q (I.wish _) hw) (fun _ _ ⟨H',I',q⟩=>⟨H',I'.unwish,q⟩) fun _ _ z=>Gv z
theorem PSs.nox{st:List Stmt}{t:TS}(h:PSs X.nox st t):PSs X st t:=fun pins s σ H D I hw=>LF (h pins s σ H D (I.wish _) hw) (fun _ _ q=>q.unwish) fun _ _ z=>Gv z
end

section
variable{X:Cx}{st:Stmt}{rest:List Stmt}{t u:TS}{e:Expr}{te:TE}{pos:Pos}
noncomputable def JhA:TS:=fun D σ H=>D.nx σ H
noncomputable def JmQ(t u:TS):TS:=fun D σ H=>t { D with nx:=u D } σ H
theorem JZ:PSs X [] JhA:=fun _ _ σ H _ I h=>Lp ⟨σ,H,I,h⟩
theorem Jc(h1:PS X st t)(h2:PSs X rest u):PSs X (st::rest) (JmQ t u):=by
 intro pins s σ H D I h;refine wpAny_execs_cons (thn (h1 pins s σ H { D with nx:=u D } I h) fun f s1 q=>?_)
 cases f with
 | next=>obtain⟨σ',H',I',q⟩:=q;exact h2 pins s1 σ' H' D I' q
 | ret v=>exact q
 | brk=>exact q
 | cont=>exact q
theorem Jg(h1:PS X st t):PSs X [st] t:=by
 intro pins s σ H D I h;refine wpAny_execs_cons (thn (h1 pins s σ H D I h) fun f s1 q=>?_)
 cases f with
 | next=>exact Lp q
 | ret v=>exact q
 | brk=>exact q
 | cont=>exact q
theorem Inv.quiet{pins:List (Addr×Obj)}{σ:St}{H:Hp}{s:Shared}(I:Inv X pins σ H s):interactive X.env=false:=by simp[interactive,I.ok.kind]
noncomputable def Jb5(te:TE):TS:=fun D σ H=>te σ H fun _ H1=>D.nx σ H1
theorem YH(he:PE X e te)(hs:swapsWith e none pos.line X.env=pure false:=by rfl):PS X (.Expr e pos) (Jb5 te):=by intro pins s σ H D I h;exact wpAny_Expr_any (thn (he pins s σ H _ I h) fun v s1 ⟨x,H1,I1,r1,q1⟩=>⟨σ,H1,I1,q1⟩) I.quiet hs
noncomputable def JjI(te:TE):TS:=fun D σ H=>te σ H D.rt
theorem JC(he:PE X e te):PS X (.Return (some e) pos) (JjI te):=by intro pins s σ H D I h;exact wpAny_Return_some (thn (he pins s σ H _ I h) fun v s1 ⟨x,H1,I1,r1,q1⟩=>⟨x,σ,H1,I1,r1,q1⟩)
noncomputable def JjH(c:TT)(t u:TS):TS:=fun D σ H=>c σ H fun b H1=>if b=true then t D σ H1 else u D σ H1
theorem Yz{c:Expr}{a b:List Stmt}{tc:TT}(hc:PT X c tc)(ha:PSs X a t)(hb:PSs X b u):PS X (.If c a b pos) (JjH tc t u):=by
 intro pins s σ H D I h;refine wpAny_If (thn (hc pins s σ H _ I h) fun d s1 ⟨H1,I1,q1⟩=>?_)
 cases d with
 | true=>exact ha pins s1 σ H1 D I1 q1
 | false=>exact hb pins s1 σ H1 D I1 q1
noncomputable def Jhz:TS:=fun _ _ _=>False
theorem VC:PS X st Jhz:=fun _ _ _ _ _ _ h=>h.elim
end

noncomputable abbrev TG:=V->St->Hp->(St->Hp->Prop)->Prop
noncomputable abbrev TGs:=List V->St->Hp->(St->Hp->Prop)->Prop
noncomputable def PG(X:Cx)(target:Expr)(t:TG):Prop :=
 ∀(pins:List (Addr×Obj)) (s:Shared) (σ:St) (H:Hp) (v:V) (u:Value) (Q:St->Hp->Prop),Inv X pins σ H s->RelV v u->t v σ H Q ->
  wpAny (model X.prog X.w) X.A (assign target X.env u) (fun _ s'=>∃σ' H',Inv X pins σ' H' s'/\Q σ' H') X.xe s
noncomputable def PGs(X:Cx)(ts:List Expr)(t:TGs):Prop :=
 ∀(pins:List (Addr×Obj)) (s:Shared) (σ:St) (H:Hp) (vs:List V) (us:List Value) (Q:St->Hp->Prop),Inv X pins σ H s->Vals vs us->t vs σ H Q ->
  wpAny (model X.prog X.w) X.A (assignInOrder ((assignEach ts X.env).map (·.2)) us) (fun _ s'=>∃σ' H',Inv X pins σ' H' s'/\Q σ' H') X.xe s
noncomputable abbrev Jnf:=V->V->V->Hp->(Hp->Prop)->Prop
noncomputable abbrev TIp:=V->V->Hp->VK->Prop
noncomputable def PIp(X:Cx)(op:Operator)(t:TIp):Prop :=
 ∀(pins:List (Addr×Obj)) (s:Shared) (σ:St) (H:Hp) (x y:V) (v u:Value) (Q:VK),Inv X pins σ H s->RelV x v->RelV y u->t x y H Q ->
  wpAny (model X.prog X.w) X.A (inplaceOp op v u) (EP X pins σ Q) X.xe s
section
variable{X:Cx}{pos:Pos}
noncomputable def Vm(i:Nat):TG:=fun v σ H Q=>Q (σ.set i (some v)) H
theorem Jj{i:Nat}{x:Str}(hN:X.N.Nodup)(hi:X.N[i]?=some x)(hx:Loc X.env.scope x)(hf:X.fn x=true\/X.env.scope.names.lookup x=some .local:=by first|exact .inl rfl|exact .inr rfl|assumption):PG X (.Name x pos) (Vm i):=by intro pins s σ H v u Q I r h;exact wpAny_assign_Name (Zd I hN hi hx r (fun s' I'=>⟨_,H,I',h⟩) hf)
noncomputable def JkV:TGs:=fun vs σ H Q=>vs=[]/\Q σ H
noncomputable def Jge(t:TG)(u:TGs):TGs:=fun vs σ H Q=>∃v r,vs=v::r/\t v σ H fun σ' H'=>u r σ' H' Q
theorem JJ:PGs X [] JkV:=by intro pins s σ H vs us Q I r h;obtain⟨e,h⟩:=h;subst e;cases r;exact assignInOrder_nil ⟨σ,H,I,h⟩
theorem Ji{e:Expr}{es:List Expr}{t:TG}{u:TGs}(h1:PG X e t)(h2:PGs X es u)
 (hs:(assignEach (e::es) X.env).map (·.2)=assign e X.env::(assignEach es X.env).map (·.2):=by rfl):PGs X (e::es) (Jge t u):=by
 intro pins s σ H vs us Q I r h;obtain⟨v,vr,e1,h⟩:=h;subst e1
 cases r with
 | cons r rr=>rw[hs];refine assignInOrder_cons (thn (h1 pins s σ H _ _ _ I r h) fun _ s1 ⟨σ1,H1,I1,q1⟩=>?_);exact h2 pins s1 σ1 H1 _ _ Q I1 rr q1
noncomputable def Jgf(K:Frag)(n:Nat)(t:TGs):TG:=fun v σ H Q=>∃a xs,v=.ref a/\SqT K H a xs/\xs.length=n/\t xs σ H Q
theorem JlS{es:List Expr}{k:Nat}{t:TGs}{n:Nat}(hc:X.calm=true)(h:PGs X es t)
 (hn:(assignEach es X.env).length=n:=by rfl) (hst:(assignEach es X.env).findIdx? (·.1)=none:=by rfl):PG X (.Tuple es k pos) (Jgf X.K n t):=by
 intro pins s σ H v u Q I r hw;obtain⟨a,xs,e1,hq,hl,hw⟩:=hw;subst e1;cases r;obtain⟨its,rv,ht,hz⟩:=I.tuple hq;refine assign_Tuple_tuple (I.ok.hd hc) ht (by simp[hn,<- hl,rv.length]) hst fun h' hx=>?_
 have I1:Inv X pins σ H { s with heap:=h' }:=I.kept (t':=s.toks) fun b o e=>hx b o (Qx (Qo e)) e
 exact h pins _ σ H xs _ Q I1 (by simpa using rv) hw
noncomputable def JoR(to ti:TE)(t:Jnf):TG:=fun v σ H Q=>to σ H fun o H1=>ti σ H1 fun i H2=>t o i v H2 fun H3=>Q σ H3
noncomputable def Jb4(te:TE)(g:TG):TS:=fun D σ H=>te σ H fun x H1=>g x σ H1 D.nx
theorem JlW{tg e:Expr}{te:TE}{g:TG}(he:PE X e te)(hg:PG X tg g)(hs:swapsWithSole [tg] e pos.line X.env=pure false:=by rfl)(hw:swappedStores [tg] e X.env=pure none:=by rfl)
 (h1:(assignEach [tg] X.env).map (·.2)=[assign tg X.env]:=by rfl):PS X (.Assign [tg] e pos) (Jb4 te g):=by
 intro pins s σ H D I h;refine wpAny_Assign_stores (thn (he pins s σ H _ I h) fun v s1 ⟨x,H1,I1,r1,q1⟩=>?_) hs hw;rw[h1];exact thn (hg pins s1 σ H1 x v _ I1 r1 q1) fun _ s2 q=>q
theorem Jl{i:Nat}{x:Str}{e:Expr}{te:TE}{pos':Pos}(hN:X.N.Nodup)(hi:X.N[i]?=some x)(hx:Loc X.env.scope x)(he:PE X e te)(hs:swapsWith e (some (.Name x pos')) pos.line X.env=pure false:=by rfl)(hf:X.fn x=true\/X.env.scope.names.lookup x=some .local:=by first|exact .inl rfl|exact .inr rfl|assumption) :
 PS X (.Assign [.Name x pos'] e pos) (Jb4 te (Vm i)):=by
 intro pins s σ H D I h;refine wpAny_Assign_Name (thn (he pins s σ H _ I h) fun v s1 ⟨y,H1,I1,r1,q1⟩=>?_) hs;exact Zd I1 hN hi hx r1 (fun s2 I2=>⟨_,H1,I2,q1⟩) hf
noncomputable def Jot(i:Nat)(te:TE)(ti:TIp):TS:=fun D σ H=>∃x,σ[i]?=some (some x)/\te σ H fun y H1=>ti x y H1 fun z H2=>D.nx (σ.set i (some z)) H2
theorem Jg2{i:Nat}{x:Str}{e:Expr}{te:TE}{op:Operator}{ti:TIp}{pos':Pos}(hN:X.N.Nodup)(hi:X.N[i]?=some x)(hx:Loc X.env.scope x)(he:PE X e te)(ho:PIp X op ti)(hf:X.fn x=true\/X.env.scope.names.lookup x=some .local:=by first|exact .inl rfl|exact .inr rfl|assumption) :
 PS X (.AugAssign (.Name x pos') op e pos) (Jot i te ti):=by
 intro pins s σ H D I h;obtain⟨v,e1,h⟩:=h;obtain⟨m,hn,hl⟩:=I.loc;have vis:Vis X.env.scope x:=by rcases hx with k|k;exact .inl k;exact .inr (.inl k)
 obtain⟨u,r,l⟩:=hl i x v hi e1 vis;refine wpAny_AugAssign_Name ?_
 have go:wpAny (model X.prog X.w) X.A (eval e X.env) (fun w s₂=>wpAny (model X.prog X.w) X.A (inplaceOp op u w) (fun r s₃=>wpAny (model X.prog X.w) X.A (storeName X.env x r) (fun _=>SP X pins D .next) X.xe s₃) X.xe s₂) X.xe s:=by
  refine thn (he pins s σ H _ I h) fun w s1 ⟨y,H1,I1,r1,q1⟩=>?_
  refine thn (ho pins s1 σ H1 v y u w _ I1 r r1 q1) fun z s2 ⟨zv,H2,I2,r2,q2⟩=>?_
  exact Zd I2 hN hi hx r2 (fun s3 I3=>⟨_,H2,I3,q2⟩) hf
 rcases l with ⟨hk,hm⟩|⟨hk,c,hc,hcell⟩
 ·exact wpAny_loadName_local I.ok.kind hk hn hm go
 ·rcases hk with hk|hk
  ·exact wpAny_loadName_cell I.ok.kind hk hc hcell go
  ·rcases hx with k|k
   ·have:X.env.scope.names.lookup x=some .free:=hk;rw[k] at this;cases this
   ·have:X.env.scope.names.lookup x=some .free:=hk;rw[k] at this;cases this
noncomputable def ipI(f:Int->Int->Int):TIp:=fun x y H Q=>∃i j,x=.int i/\y=.int j/\Q (.int (f i j)) H
theorem Jk1:PIp X .Add (ipI fun i j=>i+j):=by intro pins s σ H x y v u Q I r1 r2 h;obtain⟨i,j,e1,e2,q⟩:=h;subst e1;subst e2;obtain⟨t,rfl⟩:=r1;obtain⟨t',rfl⟩:=r2;exact iadd_int ⟨.int _,H,I.tok _,⟨_,rfl⟩,q⟩
theorem Jk2:PIp X .Sub (ipI fun i j=>i-j):=by intro pins s σ H x y v u Q I r1 r2 h;obtain⟨i,j,e1,e2,q⟩:=h;subst e1;subst e2;obtain⟨t,rfl⟩:=r1;obtain⟨t',rfl⟩:=r2;exact isub_int ⟨.int _,H,I.tok _,⟨_,rfl⟩,q⟩
end

section
variable{X:Cx}{pos:Pos}
noncomputable def JhB(c:TT)(tb:TS):TS:=fun D σ H=>∃W:Nat->St->Hp->Prop,(∃m,W m σ H)/\∀m σ H,W m σ H ->
 c σ H fun b H1=>if b=true then ∃N:St->Hp->Prop,(∀σ' H',N σ' H'->∃m',m'<m/\W m' σ' H')/\tb { D with nx:=N,ct:=N,bk:=D.nx } σ H1 else D.nx σ H1
theorem JbO{c:Expr}{body:List Stmt}{tc:TT}{tb:TS}(hp:PassesOwn (model X.prog X.w) X.A X.env X.xe)(hc:PT X c tc)(hb:PSs X body tb):PS X (.While c body [] pos) (JhB tc tb):=by
 intro pins s σ H D I h;obtain⟨W,⟨m0,w0⟩,turn⟩:=h;refine wpAny_While (codeAny_whileLoop (fun n s'=>∃σ' H',Inv X pins σ' H' s'/\W n σ' H') ?_ m0 ⟨σ,H,I,w0⟩);rintro n s1 ⟨σ1,H1,I1,w1⟩;refine GX hp (thn (hc pins s1 σ1 H1 _ I1 (turn n σ1 H1 w1)) fun b s2 ⟨H2,I2,q2⟩=>?_)
 cases b with
 | true =>
  obtain⟨N,hN,q2⟩:=q2;rw[if_pos rfl];refine GX hp (thn (hb pins s2 σ1 H2 _ I2 q2) fun f s3 q3=>?_)
  cases f with
  | next=>obtain⟨σ3,H3,I3,n3⟩:=q3;obtain⟨m',hm,w3⟩:=hN σ3 H3 n3;exact⟨m',hm,σ3,H3,I3,w3⟩
  | cont=>obtain⟨σ3,H3,I3,n3⟩:=q3;obtain⟨m',hm,w3⟩:=hN σ3 H3 n3;exact⟨m',hm,σ3,H3,I3,w3⟩
  | brk=>exact q3
  | ret v=>exact q3
 | false=>rw[if_neg Qy];exact Lp ⟨σ1,H2,I2,q2⟩
end

structure It where
 go:Nat->Hp->Prop
 yld:Nat->Hp->V->Hp->Prop
 stop:Nat->Hp->Prop
noncomputable def FpOk(X:Cx)(pins:List (Addr×Obj))(H:Hp)(b:Addr):Prop :=
 H b=none/\b≠X.env.locals/\b∉X.fs/\(b∈X.ex\/X.s₀.heap.objs.size<=b)/\(∀x c,X.env.cells.lookup x=some c->c≠b)/\∀p∈X.pn++pins,p.1≠b
theorem Inv.fpOk{X:Cx}{pins:List (Addr×Obj)}{σ:St}{H H':Hp}{s:Shared}{b:Addr}(I:Inv X pins σ H s)(hb:s.heap.objs.size<=b)(hn:H' b=none):FpOk X pins H' b:=by
 refine⟨hn,KF (QH I.lt hb),I.nofs hb,.inr (Q4 I.sz hb),fun x c e z=>?_,fun p hp z=>?_⟩
 ·obtain⟨v,q⟩:=I.cell x c e;exact absurd (QH q.lt (by rw[z];exact hb)) (Gc _)
 ·exact absurd (QH (Qo (I.pin p hp).1) (by rw[z];exact hb)) (Gc _)
structure Turn (P:Program) (w:World) (K:Frag) (tg:Expr) (J:It) (fp:List Addr) (it:Addr) (tn:Nat->Heap->Prop):Prop where
 mem:it∈fp
 obj:∀i h,tn i h->∀b∈fp,∃o,h.get? b=some o/\∀v,o.data≠.cell v
 keep:∀i h h',tn i h->(∀b∈fp,∀o,h.get? b=some o->h'.get? b=some o)->tn i h'
 item:∀(X:Cx),X.prog=P->X.w=w->X.K=K->X.calm=true->∀(i:Nat) (pins:List (Addr×Obj)) (s:Shared) (σ:St) (H:Hp) (E:Value->Shared->Prop),Inv X pins σ H s->(∀b∈fp,FpOk X pins H b)->tn i s.heap->J.go i H ->
  wpAny (model P w) X.A (pyNext (.ref it)) (fun r s1=>∃u,r=some u ∧
   wpAny (model P w) X.A (letOwnedTupleGo tg (.ref it) u) (fun _ s2=>∃x H',Inv X pins σ H' s2/\RelV x u/\J.yld i H x H'/\tn (i+1) s2.heap/\∀b∈fp,H' b=none) E s1) E s
 done:∀(X:Cx),X.prog=P->X.w=w->X.K=K->X.calm=true->∀(i:Nat) (pins:List (Addr×Obj)) (s:Shared) (σ:St) (H:Hp) (E:Value->Shared->Prop),Inv X pins σ H s->(∀b∈fp,FpOk X pins H b)->tn i s.heap->J.stop i H ->
  wpAny (model P w) X.A (pyNext (.ref it)) (fun r s1=>r=none/\Inv X pins σ H s1) E s
 self:∀(A:Around) (i:Nat) (s:Shared) (Q:Value->Shared->Prop) (E:Value->Shared->Prop),tn i s.heap->Q (.ref it) s->wpAny (model P w) A (pyIter (.ref it)) Q E s
noncomputable abbrev TI:=St->Hp->(It->Hp->Prop)->Prop
noncomputable def PIE(X:Cx)(pins:List (Addr×Obj))(σ:St)(tg:Expr)(R:It->Hp->Prop)(itv:Value)(s2:Shared):Prop :=
 ∃(it:Addr) (fp:List Addr) (tn:Nat->Heap->Prop) (J:It) (H':Hp),itv=.ref it/\Inv X pins σ H' s2/\Turn X.prog X.w X.K tg J fp it tn/\tn 0 s2.heap/\(∀b∈fp,FpOk X pins H' b)/\R J H'
noncomputable def PI(X:Cx)(tg iter:Expr)(wi:TI):Prop :=
 ∀(pins:List (Addr×Obj)) (s:Shared) (σ:St) (H:Hp) (R:It->Hp->Prop),Inv X pins σ H s->wi σ H R ->
  wpAny (model X.prog X.w) X.A (eval iter X.env) (fun v s1=>wpAny (model X.prog X.w) X.A (pyIter v) (PIE X pins σ tg R) X.xe s1) X.xe s

theorem Jbl{M:Model}{A:Around}{E:Value->Shared->Prop}{s:Shared}{tg:Expr}{it:Addr}{u:Value}{o:Obj}{n:String}{vs:Array Value}{Q:Unit->Shared->Prop}(ho:s.heap.get? it=some o)(hc:o.cls=.type n)(hd:o.data=.fields vs)
 (hn:["enumerate","zip","dict_itemiterator","dict_reverseitemiterator","odict_iterator","itertools.zip_longest","itertools.pairwise"].contains n=false) (hQ:Q () s):wpAny M A (letOwnedTupleGo tg (.ref it) u) Q E s:=by
 unfold letOwnedTupleGo;cases tg <;> first
  | exact Qi hQ
  | (cases u <;> first
   | exact Qi hQ
   | (refine Qa (wpAny_load ho ?_)
      rw[hc,hd];show wpAny M A (if (["enumerate","zip","dict_itemiterator","dict_reverseitemiterator","odict_iterator","itertools.zip_longest","itertools.pairwise"].contains n && vs[0]? == some (rawInt _))=true then _ else _) Q E s;rw[if_neg (by intro h;rw[hn,Bool.false_and] at h;cases h)];exact Qi hQ))

noncomputable def Itl(K:Frag)(a:Addr):It :=
 ⟨fun i H=>∃xs x,SqL K H a xs/\xs[i]?=some x,fun i H x H'=>H'=H/\∀xs,SqL K H a xs->xs[i]?=some x,fun i H=>∃xs,SqL K H a xs/\xs.length<=i⟩
noncomputable def Itt(K:Frag)(a:Addr):It :=
 ⟨fun i H=>∃xs x,SqT K H a xs/\xs[i]?=some x,fun i H x H'=>H'=H/\∀xs,SqT K H a xs->xs[i]?=some x,fun i H=>∃xs,SqT K H a xs/\xs.length<=i⟩
noncomputable def Itr(lo:Int)(n:Nat):It:=⟨fun i _=>i<n,fun i H x H'=>H'=H/\x=.int (lo+i),fun i _=>n<=i⟩
theorem Jfq{P:Program}{w:World}{K:Frag}{tg:Expr}(a it:Addr):Turn P w K tg (Itl K a) [it] it (fun i h=>h.IsListIter it a i) where
 mem:=by simp
 obj:=fun i h st b hb=>by
  have e:b=it:=by simpa using hb
  subst e;obtain⟨o,e,c,d⟩:=st;exact⟨o,e,fun v z=>by rw[d] at z;cases z⟩
 keep:=fun i h h' st k=>st.at fun o e=>k it (by simp) o e
 item:=by
  intro X hP hw hK hc i pins s σ H E I hf st hg;subst hP hw hK;obtain⟨xs,x,hq,hx⟩:=hg;obtain⟨its,rv,p,hz⟩:=I.list hq;obtain⟨u,hu,ru⟩:=rv.get hx;obtain⟨f0,f1,f2,f3,f4,f5⟩:=hf it (by simp);refine wpAny_pyNext_list_item st p.isList (x:=u) (by simpa using hu) fun h' st' sb=>?_
  have I1:Inv X pins σ H { s with heap:=h' }:=I.turned (t':=s.toks) (fun b o hb e=>(sb.2 b hb).trans e) f0 f1 f3 f4 f5;obtain⟨o,e,c,d⟩:=id st';exact⟨u,rfl,Jbl (s:={ s with heap:=h' }) e c d (by decide) ⟨x,H,I1,ru,⟨rfl,fun ys hy=>by rw[I.list_inj hy hq];exact hx⟩,st',fun b hb=>(hf b hb).1⟩⟩
 done:=by intro X hP hw hK hc i pins s σ H E I hf st hg;subst hP hw hK;obtain⟨xs,hq,hx⟩:=hg;obtain⟨its,rv,p,hz⟩:=I.list hq;obtain⟨f0,f1,f2,f3,f4,f5⟩:=hf it (by simp);have hl:=rv.length;exact wpAny_pyNext_list_end (I.ok.hd hc) st p.isList (by simp;omega) fun h' eb=>⟨rfl,I.turned (t':=s.toks) (fun b o hb e=>eb b o hb e) f0 f1 f3 f4 f5⟩
 self:=fun _ _ _ _ _ st h=>wpAny_pyIter_listiter st h
theorem Jc6{P:Program}{w:World}{K:Frag}{tg:Expr}(a it:Addr):Turn P w K tg (Itt K a) [it] it (fun i h=>h.IsTupleIter it a i) where
 mem:=by simp
 obj:=fun i h st b hb=>by
  have e:b=it:=by simpa using hb
  subst e;obtain⟨o,e,c,d⟩:=st;exact⟨o,e,fun v z=>by rw[d] at z;cases z⟩
 keep:=fun i h h' st k=>st.at fun o e=>k it (by simp) o e
 item:=by
  intro X hP hw hK hc i pins s σ H E I hf st hg;subst hP hw hK;obtain⟨xs,x,hq,hx⟩:=hg;obtain⟨its,rv,p,hz⟩:=I.tuple hq;obtain⟨u,hu,ru⟩:=rv.get hx;obtain⟨f0,f1,f2,f3,f4,f5⟩:=hf it (by simp);refine wpAny_pyNext_tuple_item st (show s.heap.IsTuple a its.toArray from p) (x:=u) (by simpa using hu) fun h' st' sb=>?_
  have I1:Inv X pins σ H { s with heap:=h' }:=I.turned (t':=s.toks) (fun b o hb e=>(sb.2 b hb).trans e) f0 f1 f3 f4 f5;obtain⟨o,e,c,d⟩:=id st';exact⟨u,rfl,Jbl (s:={ s with heap:=h' }) e c d (by decide) ⟨x,H,I1,ru,⟨rfl,fun ys hy=>by rw[I.tuple_inj hy hq];exact hx⟩,st',fun b hb=>(hf b hb).1⟩⟩
 done:=by intro X hP hw hK hc i pins s σ H E I hf st hg;subst hP hw hK;obtain⟨xs,hq,hx⟩:=hg;obtain⟨its,rv,p,hz⟩:=I.tuple hq;obtain⟨f0,f1,f2,f3,f4,f5⟩:=hf it (by simp);have hl:=rv.length;exact wpAny_pyNext_tuple_end (I.ok.hd hc) st (show s.heap.IsTuple a its.toArray from p) (by simp;omega) fun h' eb=>⟨rfl,I.turned (t':=s.toks) (fun b o hb e=>eb b o hb e) f0 f1 f3 f4 f5⟩
 self:=fun _ _ _ _ _ st h=>wpAny_pyIter_tupleiter st h
theorem Jc5{P:Program}{w:World}{K:Frag}{tg:Expr}(it:Addr)(lo:Int)(n:Nat):Turn P w K tg (Itr lo n) [it] it (fun i h=>IsRangeIter h it (lo+(i:Nat)*1) ((n:Int)-(i:Nat)) 1) where
 mem:=by simp
 obj:=fun i h st b hb=>by
  have e:b=it:=by simpa using hb
  subst e;exact⟨_,st,fun v z=>by have z':Data.fields _=Data.cell v:=z;cases z'⟩
 keep:=fun i h h' st k=>k it (by simp) _ st
 item:=by
  intro X hP hw hK hc i pins s σ H E I hf st hg;subst hP hw hK;obtain⟨f0,f1,f2,f3,f4,f5⟩:=hf it (by simp);have W:=Walks.range (prog:=X.prog) (w:=X.w) (I.ok.hd hc) it lo 1 n;refine W.item i s _ _ hg st fun v h' tk hv st' kk=>?_
  obtain⟨t,rfl⟩:=hv;have I1:Inv X pins σ H { s with heap:=h',toks:=tk }:=I.turned (fun b o hb e=>kk b o (by simpa using hb) e) f0 f1 f3 f4 f5;refine⟨_,rfl,Jbl (s:={ s with heap:=h',toks:=tk }) (n:="range_iterator") st' rfl rfl (by decide) ⟨.int (lo+i),H,I1,⟨t,?_⟩,⟨rfl,rfl⟩,st',fun b hb=>(hf b hb).1⟩⟩;rw[Int.mul_one]
 done:=by intro X hP hw hK hc i pins s σ H E I hf st hg;subst hP hw hK;obtain⟨f0,f1,f2,f3,f4,f5⟩:=hf it (by simp);exact wpAny_pyNext_range_end (I.ok.hd hc) st (by have:n<=i:=hg;omega) fun h' eb=>⟨rfl,I.turned (t':=s.toks) (fun b o hb e=>eb b o hb e) f0 f1 f3 f4 f5⟩
 self:=fun _ _ _ _ _ st h=>wpAny_pyIter_rangeiter st h
end L2

namespace L2
open PySem PySem.Spec PyProof.Rows
section
variable{X:Cx}{tg:Expr}
noncomputable def Jj8(K:Frag)(tl:TE):TI:=fun σ H R=>tl σ H fun x H1=>∃a,x=.ref a/\(∃xs,SqL K H1 a xs)/\R (Itl K a) H1
noncomputable def JnE(K:Frag)(tl:TE):TI:=fun σ H R=>tl σ H fun x H1=>∃a,x=.ref a/\(∃xs,SqT K H1 a xs)/\R (Itt K a) H1
theorem JiZ{l:Expr}{tl:TE}(hl:PE X l tl):PI X tg l (Jj8 X.K tl):=by
 intro pins s σ H R I h;refine thn (hl pins s σ H _ I h) fun v s1 ⟨x,H1,I1,r1,q1⟩=>?_
 obtain⟨a,e,⟨xs,hq⟩,q⟩:=q1;subst e;cases r1;obtain⟨its,rv,p,hz⟩:=I1.list hq;refine K3 p.isList ?_;refine⟨s1.heap.objs.size,[s1.heap.objs.size],_,_,H1,rfl,I1.kept (t':=s1.toks) fun b o e=>Qf _ e,Jfq a _,⟨_,Qj _ rfl,rfl,rfl⟩,fun b hb=>?_,q⟩;have e:b=s1.heap.objs.size:=by simpa using hb
 subst e;exact I1.fpOk (Qk _) (I1.hok.fresh (Qk _))
theorem JlU{l:Expr}{tl:TE}(hl:PE X l tl):PI X tg l (JnE X.K tl):=by
 intro pins s σ H R I h;refine thn (hl pins s σ H _ I h) fun v s1 ⟨x,H1,I1,r1,q1⟩=>?_
 obtain⟨a,e,⟨xs,hq⟩,q⟩:=q1;subst e;cases r1;obtain⟨its,rv,p,hz⟩:=I1.tuple hq;refine LH (show s1.heap.IsTuple a its.toArray from p) ?_;refine⟨s1.heap.objs.size,[s1.heap.objs.size],_,_,H1,rfl,I1.kept (t':=s1.toks) fun b o e=>Qf _ e,Jc6 a _,⟨_,Qj _ rfl,rfl,rfl⟩,fun b hb=>?_,q⟩;have e:b=s1.heap.objs.size:=by simpa using hb
 subst e;exact I1.fpOk (Qk _) (I1.hok.fresh (Qk _))
theorem Jhd{pins:List (Addr×Obj)}{σ:St}{H:Hp}{s:Shared}{R:It->Hp->Prop}{E:Value->Shared->Prop}{lo hi:Int}{t u v:Tok}{tk:Nat}(I:Inv X pins σ H s)(h1:-(2 ^ 62)<=lo)(h2:lo<2 ^ 62)(h3:-(2 ^ 62)<=hi)(h4:hi<2 ^ 62)
 (q:R (Itr lo (hi-lo).toNat) H):wpAny (model X.prog X.w) X.A (pyIter (.ref s.heap.objs.size)) (PIE X pins σ tg R) E { s with heap:=s.heap.push { cls:=.type "range",data:=.fields #[.int lo t,.int hi u,.int 1 v] },toks:=tk }:=by
 refine wpAny_pyIter_range (IsRange.new ..) (small_one h1 h2 h3 h4) ?_;have I1:Inv X pins σ H { s with heap:=s.heap.push { cls:=.type "range",data:=.fields #[.int lo t,.int hi u,.int 1 v] },toks:=tk }:=I.kept fun b o e=>Qf _ e
 refine⟨(s.heap.push { cls:=.type "range",data:=.fields #[.int lo t,.int hi u,.int 1 v] }).objs.size,[(s.heap.push { cls:=.type "range",data:=.fields #[.int lo t,.int hi u,.int 1 v] }).objs.size],_,_,H,rfl,
  I1.kept (t':=tk) fun b o e=>Qf _ e,Jc5 _ lo (hi-lo).toNat,?_,fun b hb=>?_,q⟩
 ·have e1:lo+((0:Nat):Int)*1=lo:=by simp
  have e2:(((hi-lo).toNat:Nat):Int)-((0:Nat):Int)=Builtin.Range.rangeSize lo hi 1:=by rw[rangeSize_one];split <;> omega
  show IsRangeIter _ _ (lo+((0:Nat):Int)*1) ((((hi-lo).toNat:Nat):Int)-((0:Nat):Int)) 1;rw[e1,e2];exact Qj _ rfl
 ·have e:b=(s.heap.push { cls:=.type "range",data:=.fields #[.int lo t,.int hi u,.int 1 v] }).objs.size:=by simpa using hb
  subst e;exact I1.fpOk (Qk _) (I1.hok.fresh (Qk _))
noncomputable def Jj9(ta:TA):TI:=fun σ H R=>ta σ H fun vs H1=>∃j:Int,vs=[.int j]/\-(2 ^ 62)<=j/\j<2 ^ 62/\R (Itr 0 j.toNat) H1
theorem UR{a:Expr}{ta:TA}{p pos:Pos}(hg:Gl X "range")(hm:X.mg "range"=none)(ha:PA X [a] ta)(hs:starEach [a] X.env=[(false,eval a X.env)]:=by rfl):PI X tg (.Call (.Name "range" p) [a] [] pos) (Jj9 ta):=by
 intro pins s σ H R I h;refine Call_ (UH I hg hm boot_range (Gu (thn (ha pos pins s σ H _ I h) fun us s1 ⟨vs,H1,I1,r1,q1⟩=>?_) hs rfl));obtain⟨j,e,q1,q2,q⟩:=q1;subst e
 cases r1 with
 | cons r rr=>cases rr;obtain⟨t,rfl⟩:=r;exact call_range_1 (Jhd I1 (by omega) (by omega) q1 q2 (by simpa using q))
noncomputable def JmN(wi:TI)(g:TG)(tb:TS):TS:=fun D σ H=>wi σ H fun J H1=>∃W:Nat->Nat->St->Hp->Prop,(∃m,W 0 m σ H1)/\∀i m σ H,W i m σ H ->
 (J.stop i H/\D.nx σ H)\/(J.go i H/\∃N:St->Hp->Prop,(∀σ' H',N σ' H'->∃m',m'<m/\W (i+1) m' σ' H')/\∀x H',J.yld i H x H'->g x σ H' fun σ2 H2=>tb { D with nx:=N,ct:=N,bk:=D.nx } σ2 H2)
noncomputable def W7(fp:List Addr)(h:Heap):List (Addr×Obj):=fp.filterMap fun b=>(h.get? b).map fun o=>(b,o)
theorem U9{fp:List Addr}{h:Heap}{b:Addr}{o:Obj}(hb:b∈fp)(e:h.get? b=some o):(b,o)∈W7 fp h:=List.mem_filterMap.mpr ⟨b,hb,by rw[e];rfl⟩
theorem Je8{fp:List Addr}{h:Heap}{p:Addr×Obj}(hp:p∈W7 fp h):p.1∈fp/\h.get? p.1=some p.2:=by
 obtain⟨b,hb,e⟩:=List.mem_filterMap.mp hp
 cases q:h.get? b with
 | none=>rw[q] at e;cases e
 | some o=>rw[q] at e;have e':(b,o)=p:=QG e;subst e';exact⟨hb,q⟩
theorem Inv.pinned{pins:List (Addr×Obj)}{σ:St}{H:Hp}{s:Shared}{fp:List Addr}(I:Inv X pins σ H s)(hf:∀b∈fp,FpOk X pins H b)(ho:∀b∈fp,∃o,s.heap.get? b=some o/\∀v,o.data≠.cell v):Inv X (pins++W7 fp s.heap) σ H s :=
 I.pins_of fun p hp=>(Gb.mp hp).elim (fun z=>I.pin p (Q8 _ z)) fun z=>by obtain⟨hb,e⟩:=Je8 z;obtain⟨f0,f1,f2,_⟩:=hf p.1 hb;obtain⟨o,e',d⟩:=ho p.1 hb;rw[e] at e';cases e';exact⟨e,f0,f1,f2,d⟩
theorem Inv.unpinned{pins pl:List (Addr×Obj)}{σ:St}{H:Hp}{s:Shared}(I:Inv X (pins++pl) σ H s):Inv X pins σ H s:=I.pins_of fun p hp=>I.pin p (Q8 _ (Lj _ hp))
theorem YX{iter:Expr}{body:List Stmt}{wi:TI}{g:TG}{tb:TS}{pos:Pos}(hp:PassesOwn (model X.prog X.w) X.A X.env X.xe)(hc:X.calm=true)(hi:PI X tg iter wi)(hg:PG X tg g)(hb:PSs X body tb)
 (hs:∀x,foldedSetIterable iter X.env x=pure x:=by intro _;rfl):PS X (.For tg iter body [] pos) (JmN wi g tb):=by
 intro pins s σ H D I h;refine wpAny_For (thn (hi pins s σ H _ I h) fun v s1 h1=>thn h1 fun itv s2 h2=>?_) hs;obtain⟨it,fp,tn,J,H2,e,I2,T,st2,f2,W,⟨m0,w0⟩,turn⟩:=h2;subst e
 -- what stays true of the iterator's objects through the loop
 have stat:∀{H':Hp},(∀b∈fp,H' b=none)->∀b∈fp,FpOk X pins H' b:=fun hn b hb=>⟨hn b hb,(f2 b hb).2⟩
 refine codeAny_forLoop_any (fun n s'=>∃i σ' H',Inv X pins σ' H' s'/\tn i s'.heap/\(∀b∈fp,H' b=none)/\W i n σ' H') ?_ m0 ⟨0,σ,H2,I2,st2,fun b hb=>(f2 b hb).1,w0⟩;rintro n s3 ⟨i,σ3,H3,I3,st3,fr3,w3⟩;rcases turn i n σ3 H3 w3 with ⟨stop,qn⟩|⟨go,N,hN,step⟩
 ·refine GX hp (thn (T.done X rfl rfl rfl hc i pins s3 σ3 H3 X.xe I3 (stat fr3) st3 stop) fun r s4 ⟨hr,I4⟩=>?_);subst hr;exact Lp ⟨σ3,H3,I4,qn⟩
 ·refine GX hp (thn (T.item X rfl rfl rfl hc i pins s3 σ3 H3 X.xe I3 (stat fr3) st3 go) fun r s4 ⟨u,hr,h4⟩=>?_);subst hr;refine GX hp (thn h4 fun _ s5 ⟨x,H5,I5,r5,y5,st5,fr5⟩=>?_);have I5':=I5.pinned (stat fr5) (T.obj _ _ st5);refine GX hp (thn (hg _ s5 σ3 H5 x u _ I5' r5 (step x H5 y5)) fun _ s6 ⟨σ6,H6,I6,q6⟩=>?_);refine GX hp (thn (hb _ s6 σ6 H6 _ I6 q6) fun f s7 q7=>?_)
  have again:∀{σ7:St} {H7:Hp},Inv X (pins++W7 fp s5.heap) σ7 H7 s7->N σ7 H7->∃m,m<n/\∃i σ' H',Inv X pins σ' H' s7/\tn i s7.heap/\(∀b∈fp,H' b=none)/\W i m σ' H':=fun {σ7 H7} I7 n7=>by obtain⟨m',hm,w7⟩:=hN σ7 H7 n7;refine⟨m',hm,i+1,σ7,H7,I7.unpinned,T.keep _ _ _ st5 fun b hb o e=>(I7.pin (b,o) (Q8 _ (Q8 _ (U9 hb e)))).1,fun b hb=>?_,w7⟩;obtain⟨o,e,d⟩:=T.obj _ _ st5 b hb;exact(I7.pin (b,o) (Q8 _ (Q8 _ (U9 hb e)))).2.1
  cases f with
  | next=>obtain⟨σ7,H7,I7,n7⟩:=q7;exact again I7 n7
  | cont=>obtain⟨σ7,H7,I7,n7⟩:=q7;exact again I7 n7
  | brk=>obtain⟨σ7,H7,I7,q7⟩:=q7;exact⟨σ7,H7,I7.unpinned,q7⟩
  | ret v=>obtain⟨x7,σ7,H7,I7,r7,q7⟩:=q7;exact⟨x7,σ7,H7,I7.unpinned,r7,q7⟩
end

theorem Jgc{K:Frag}{a:Addr}{xs:List V}{g:TG}{tb:TS}{D:Ends}{σ:St}{H:Hp}(Pv:Nat->St->Hp->Prop)(h0:Pv 0 σ H)(hl:∀i σ H,i<=xs.length->Pv i σ H->SqL K H a xs)
 (hs:∀i x σ H,xs[i]?=some x->Pv i σ H->g x σ H fun σ2 H2=>tb { D with nx:=Pv (i+1),ct:=Pv (i+1),bk:=D.nx } σ2 H2) (hd:∀σ H,Pv xs.length σ H->D.nx σ H) :
 ∃W:Nat->Nat->St->Hp->Prop,(∃m,W 0 m σ H)/\∀i m σ H,W i m σ H ->
  ((Itl K a).stop i H/\D.nx σ H)\/((Itl K a).go i H/\∃N:St->Hp->Prop,(∀σ' H',N σ' H'->∃m',m'<m/\W (i+1) m' σ' H')/\∀x H',(Itl K a).yld i H x H'->g x σ H' fun σ2 H2=>tb { D with nx:=N,ct:=N,bk:=D.nx } σ2 H2):=by
 refine⟨fun i m σ H=>m=xs.length-i/\i<=xs.length/\Pv i σ H,⟨xs.length,by simp,G1 _,h0⟩,?_⟩;rintro i m σ H ⟨rfl,hi,p⟩;have q:=hl i σ H hi p
 by_cases hlt:i<xs.length
 ·refine .inr ⟨⟨xs,xs[i],q,by simp[hlt]⟩,Pv (i+1),fun σ' H' p'=>⟨xs.length-(i+1),by omega,rfl,hlt,p'⟩,fun x H' y=>?_⟩;obtain⟨e,y⟩:=y;subst e;exact hs i x σ _ (y xs q) p
 ·have e:i=xs.length:=by omega
  subst e;exact .inl ⟨⟨xs,q,Qk _⟩,hd σ H p⟩
theorem Jit{K:Frag}{a:Addr}{xs:List V}{g:TG}{tb:TS}{D:Ends}{σ:St}{H:Hp}(Pv:Nat->St->Hp->Prop)(h0:Pv 0 σ H)(hl:∀i σ H,i<=xs.length->Pv i σ H->SqT K H a xs)
 (hs:∀i x σ H,xs[i]?=some x->Pv i σ H->g x σ H fun σ2 H2=>tb { D with nx:=Pv (i+1),ct:=Pv (i+1),bk:=D.nx } σ2 H2) (hd:∀σ H,Pv xs.length σ H->D.nx σ H) :
 ∃W:Nat->Nat->St->Hp->Prop,(∃m,W 0 m σ H)/\∀i m σ H,W i m σ H ->
  ((Itt K a).stop i H/\D.nx σ H)\/((Itt K a).go i H/\∃N:St->Hp->Prop,(∀σ' H',N σ' H'->∃m',m'<m/\W (i+1) m' σ' H')/\∀x H',(Itt K a).yld i H x H'->g x σ H' fun σ2 H2=>tb { D with nx:=N,ct:=N,bk:=D.nx } σ2 H2):=by
 refine⟨fun i m σ H=>m=xs.length-i/\i<=xs.length/\Pv i σ H,⟨xs.length,by simp,G1 _,h0⟩,?_⟩;rintro i m σ H ⟨rfl,hi,p⟩;have q:=hl i σ H hi p
 by_cases hlt:i<xs.length
 ·refine .inr ⟨⟨xs,xs[i],q,by simp[hlt]⟩,Pv (i+1),fun σ' H' p'=>⟨xs.length-(i+1),by omega,rfl,hlt,p'⟩,fun x H' y=>?_⟩;obtain⟨e,y⟩:=y;subst e;exact hs i x σ _ (y xs q) p
 ·have e:i=xs.length:=by omega
  subst e;exact .inl ⟨⟨xs,q,Qk _⟩,hd σ H p⟩
end L2

namespace L2
open PySem PySem.Spec PyProof.Rows

noncomputable abbrev R2:=V->V->Hp->VK->Prop
noncomputable def OpR(X:Cx)(f:Value->Value->Sem Value)(r:R2):Prop :=
 ∀(pins:List (Addr×Obj)) (s:Shared) (σ:St) (H:Hp) (x y:V) (v u:Value) (Q:VK),Inv X pins σ H s->RelV x v->RelV y u->r x y H Q ->
  wpAny (model X.prog X.w) X.A (f v u) (EP X pins σ Q) X.xe s
noncomputable def UnR(X:Cx)(f:Value->Sem Value)(r:V->Hp->VK->Prop):Prop :=
 ∀(pins:List (Addr×Obj)) (s:Shared) (σ:St) (H:Hp) (x:V) (v:Value) (Q:VK),Inv X pins σ H s->RelV x v->r x H Q ->
  wpAny (model X.prog X.w) X.A (f v) (EP X pins σ Q) X.xe s
noncomputable def CallR(X:Cx)(f:Value)(r:List V->Hp->VK->Prop):Prop :=
 ∀(pins:List (Addr×Obj)) (s:Shared) (σ:St) (H:Hp) (xs:List V) (us:List Value) (Q:VK),Inv X pins σ H s->Vals xs us->r xs H Q ->
  wpAny (model X.prog X.w) X.A (call f us) (EP X pins σ Q) X.xe s
noncomputable def JoI(X:Cx)(r:V->Hp->(Bool->Hp->Prop)->Prop):Prop :=
 ∀(pins:List (Addr×Obj)) (s:Shared) (σ:St) (H:Hp) (x:V) (v:Value) (Q:Bool->Hp->Prop),Inv X pins σ H s->RelV x v->r x H Q ->
  wpAny (model X.prog X.w) X.A (truthy v) (TP X pins σ Q) X.xe s

noncomputable def tOp(r:R2)(ta tb:TE):TE:=fun σ H Q=>ta σ H fun x H1=>tb σ H1 fun y H2=>r x y H2 Q
noncomputable def tUn(r:V->Hp->VK->Prop)(ta:TE):TE:=fun σ H Q=>ta σ H fun x H1=>r x H1 Q
noncomputable def rI(C:Int->Int->Prop)(g:Int->Int->V):R2:=fun x y H Q=>∃i j,x=.int i/\y=.int j/\C i j/\Q (g i j) H
noncomputable def rI0(g:Int->Int->V):R2:=fun x y H Q=>∃i j,x=.int i/\y=.int j/\Q (g i j) H
noncomputable def rU(g:Int->V):V->Hp->VK->Prop:=fun x H Q=>∃i,x=.int i/\Q (g i) H

section
variable{X:Cx}{a b c:Expr}{ta tb tc:TE}{pos:Pos}

theorem Jkw(ha:PE X a ta)(hb:PE X b tb){pins:List (Addr×Obj)}{s:Shared}{σ:St}{H:Hp}{R:V->V->Hp->Prop}(I:Inv X pins σ H s)
 (h:ta σ H fun x H1=>tb σ H1 fun y H2=>R x y H2) {Q:Value->Shared->Prop} {f:Value->Value->Sem Value}
 (hf:∀v u s2 x y H2,Inv X pins σ H2 s2->RelV x v->RelV y u->R x y H2->wpAny (model X.prog X.w) X.A (f v u) Q X.xe s2) :
 wpAny (model X.prog X.w) X.A (eval a X.env) (fun v s₁=>wpAny (model X.prog X.w) X.A (eval b X.env) (fun u s₂=>wpAny (model X.prog X.w) X.A (f v u) Q X.xe s₂) X.xe s₁) X.xe s:=by
 refine thn (ha pins s σ H _ I h) fun v s1 ⟨x,H1,I1,r1,q1⟩=>?_
 refine thn (hb pins s1 σ H1 _ I1 q1) fun u s2 ⟨y,H2,I2,r2,q2⟩=>?_
 exact hf v u s2 x y H2 I2 r1 r2 q2

theorem Jn{op:Operator}{r:R2}(ho:OpR X (binaryOp op) r)(ha:PE X a ta)(hb:PE X b tb):PE X (.BinOp a op b pos) (tOp r ta tb):=by intro pins s σ H Q I h;exact wpAny_BinOp (Jkw ha hb I h fun v u s2 x y H2 I2 rx ry q=>ho pins s2 σ H2 x y v u Q I2 rx ry q)
theorem JgY{op:UnaryOp}{r:V->Hp->VK->Prop}(ho:UnR X (unaryOp op) r)(ha:PE X a ta):PE X (.UnaryOp op a pos) (tUn r ta):=by intro pins s σ H Q I h;exact UnaryOp_ (thn (ha pins s σ H _ I h) fun v s1 ⟨x,H1,I1,r1,q1⟩=>ho pins s1 σ H1 x v Q I1 r1 q1)
theorem opI{f:Value->Value->Sem Value}{C:Int->Int->Prop}{g:Int->Int->Int}
 (rule:∀(i j:Int) (t u:Tok) (s:Shared) (Q:Value->Shared->Prop) (E:Value->Shared->Prop),C i j->Q (.int (g i j) s.toks) { s with toks:=s.toks+1 }->wpAny (model X.prog X.w) X.A (f (.int i t) (.int j u)) Q E s) :
 OpR X f (rI C fun i j=>.int (g i j)):=by
 intro pins s σ H x y v u Q I rx ry h;obtain⟨i,j,rfl,rfl,hc,q⟩:=h;obtain⟨t,rfl⟩:=rx;obtain⟨t',rfl⟩:=ry;exact rule i j t t' s _ _ hc ⟨.int (g i j),H,I.tok _,⟨_,rfl⟩,q⟩
theorem JnQ{f:Value->Value->Sem Value}{g:Int->Int->Int}
 (rule:∀(i j:Int) (t u:Tok) (s:Shared) (Q:Value->Shared->Prop) (E:Value->Shared->Prop),Q (.int (g i j) s.toks) { s with toks:=s.toks+1 }->wpAny (model X.prog X.w) X.A (f (.int i t) (.int j u)) Q E s) :
 OpR X f (rI0 fun i j=>.int (g i j)):=by
 intro pins s σ H x y v u Q I rx ry h;obtain⟨i,j,rfl,rfl,q⟩:=h;obtain⟨t,rfl⟩:=rx;obtain⟨t',rfl⟩:=ry;exact rule i j t t' s _ _ ⟨.int (g i j),H,I.tok _,⟨_,rfl⟩,q⟩
theorem JlE{f:Value->Value->Sem Value}{g:Int->Int->Bool}
 (rule:∀(i j:Int) (t u:Tok) (s:Shared) (Q:Value->Shared->Prop) (E:Value->Shared->Prop),Q (.bool (g i j)) s->wpAny (model X.prog X.w) X.A (f (.int i t) (.int j u)) Q E s) :
 OpR X f (rI0 fun i j=>.bl (g i j)):=by
 intro pins s σ H x y v u Q I rx ry h;obtain⟨i,j,rfl,rfl,q⟩:=h;obtain⟨t,rfl⟩:=rx;obtain⟨t',rfl⟩:=ry;exact rule i j t t' s _ _ ⟨.bl (g i j),H,I,rfl,q⟩

noncomputable def Jna(i j:Int):Prop:=0<j/\j<1073741824
noncomputable def CMul(i j:Int):Prop:=(-(2 ^ 64)<i/\i<2 ^ 64)\/(-(2 ^ 64)<j/\j<2 ^ 64)
theorem CMul.ok{i j:Int}(h:CMul i j):IntMulOk i j:=by
 rcases h with ⟨h1,h2⟩|⟨h1,h2⟩
 ·exact .of_left (intBits_le_64 h1 h2)
 ·exact .of_right (intBits_le_64 h1 h2)
theorem op_add:OpR X (binaryOp .Add) (rI0 fun i j=>.int (i+j)):=JnQ fun _ _ _ _ _ _ _ q=>add_int q
theorem J7:OpR X (binaryOp .Sub) (rI0 fun i j=>.int (i-j)):=JnQ fun _ _ _ _ _ _ _ q=>sub_int q
theorem UJ:OpR X (binaryOp .Mult) (rI CMul fun i j=>.int (i*j)):=opI fun _ _ _ _ _ _ _ hc q=>mul_int q hc.ok
theorem Wk:OpR X (binaryOp .FloorDiv) (rI Jna fun i j=>.int (i / j)):=opI fun i j _ _ _ _ _ hc q=>by
 have h1:(0:Int)<j:=hc.1
 have h2:j<1073741824:=hc.2;exact floordiv_int (by omega) (by rw[LI i (by omega)];exact q) (.inl (PyProof.noPylong_small (by omega)))
theorem Uz:OpR X (binaryOp .Mod) (rI (fun _ j=>0<j) fun i j=>.int (i % j)):=opI fun i j _ _ _ _ _ hc q=>by have h1:(0:Int)<j:=hc;exact mod_int' (by omega) (by rw[Int.fmod_eq_emod_of_nonneg i (by omega)];exact q)
theorem unI{f:Value->Sem Value}{g:Int->Int}
 (rule:∀(i:Int) (t:Tok) (s:Shared) (Q:Value->Shared->Prop) (E:Value->Shared->Prop),Q (.int (g i) s.toks) { s with toks:=s.toks+1 }->wpAny (model X.prog X.w) X.A (f (.int i t)) Q E s) :
 UnR X f (rU fun i=>.int (g i)):=by
 intro pins s σ H x v Q I rx h;obtain⟨i,rfl,q⟩:=h;obtain⟨t,rfl⟩:=rx;exact rule i t s _ _ ⟨.int (g i),H,I.tok _,⟨_,rfl⟩,q⟩
theorem Jc7:UnR X (unaryOp .USub) (rU fun i=>.int (-i)):=unI fun _ _ _ _ _ q=>neg_int q
end

noncomputable def JmH:V->V->Bool
 | .non,.non=>true|.non,.int _=>true|.int _,.non=>true|.non,.bl _=>true|.bl _,.non=>true|.non,.str _=>true|.str _,.non=>true
 | .int _,.int _=>true|.bl _,.bl _=>true|.str _,.str _=>true|.byt _,.byt _=>true
 | .int _,.str _=>true|.str _,.int _=>true|.bl _,.str _=>true|.str _,.bl _=>true
 | _,_=>false
noncomputable def rEq:R2:=fun x y H Q=>JmH x y=true/\Q (.bl (decide (x=y))) H
noncomputable def rNe:R2:=fun x y H Q=>JmH x y=true/\Q (.bl (!decide (x=y))) H

theorem Jdq{i j:Int}:decide (V.int i=V.int j)=(i == j):=by rw[Gy];simp
theorem JfW{i j:Bool}:decide (V.bl i=V.bl j)=(i == j):=by rw[Gy];simp
theorem Jdr{i j:Str}:decide (V.str i=V.str j)=(i == j):=by rw[Gy];simp
theorem Jdp{i j:Array UInt8}:decide (V.byt i=V.byt j)=(i.toList == j.toList):=by rw[Gy];cases i;cases j;simp

section
variable{X:Cx}{a b c:Expr}{ta tb tc:TE}{pos:Pos}
theorem JA{pins:List (Addr×Obj)}{σ:St}{H:Hp}{s:Shared}{Q:VK}{k k':Bool}(I:Inv X pins σ H s)(q:Q (.bl k) H)(e:k=k'):EP X pins σ Q (.bool k') s:=by subst e;exact⟨.bl k,H,I,rfl,q⟩
theorem op_eq:OpR X (compareOp .Eq) rEq:=by
 intro pins s σ H x y v u Q I rx ry h;obtain⟨hs,q⟩:=h
 cases x with
 | non =>
  cases rx
  cases y with
  | non=>cases ry;exact PySem.EqNone.eq_none_none (JA I q (by simp))
  | bl j=>cases ry;exact PySem.EqNone.eq_none_bool (JA I q (by simp))
  | int j=>obtain⟨t',rfl⟩:=ry;exact PySem.EqNone.eq_none_int (JA I q (by simp))
  | str j=>obtain⟨t',rfl⟩:=ry;exact PySem.EqNone.eq_none_str (JA I q (by simp))
  | _=>exact absurd (show false=true from hs) Qy
 | bl i =>
  cases rx
  cases y with
  | non=>cases ry;exact PySem.EqNone.eq_bool_none (JA I q (by simp))
  | bl j=>cases ry;exact eq_bool (JA I q JfW)
  | str j=>obtain⟨t',rfl⟩:=ry;exact PySem.EqMixed.eq_bool_str (JA I q (by simp))
  | _=>exact absurd (show false=true from hs) Qy
 | int i =>
  obtain⟨t,rfl⟩:=rx
  cases y with
  | non=>cases ry;exact PySem.EqNone.eq_int_none (JA I q (by simp))
  | int j=>obtain⟨t',rfl⟩:=ry;exact eq_int (JA I q Jdq)
  | str j=>obtain⟨t',rfl⟩:=ry;exact PySem.EqMixed.eq_int_str (JA I q (by simp))
  | _=>exact absurd (show false=true from hs) Qy
 | str i =>
  obtain⟨t,rfl⟩:=rx
  cases y with
  | non=>cases ry;exact PySem.EqNone.eq_str_none (JA I q (by simp))
  | bl j=>cases ry;exact PySem.EqMixed.eq_str_bool (JA I q (by simp))
  | int j=>obtain⟨t',rfl⟩:=ry;exact PySem.EqMixed.eq_str_int (JA I q (by simp))
  | str j=>obtain⟨t',rfl⟩:=ry;exact eq_str (JA I q Jdr)
  | _=>exact absurd (show false=true from hs) Qy
 | byt i =>
  obtain⟨t,rfl⟩:=rx
  cases y with
  | byt j=>obtain⟨t',rfl⟩:=ry;exact PySem.W.eq_bytes (JA I q Jdp)
  | _=>exact absurd (show false=true from hs) Qy
 | _=>cases y <;> exact absurd (show false=true from hs) Qy
theorem op_ne:OpR X (compareOp .NotEq) rNe:=by
 intro pins s σ H x y v u Q I rx ry h;obtain⟨hs,q⟩:=h
 cases x with
 | non =>
  cases rx
  cases y with
  | non=>cases ry;exact PySem.EqNone.ne_none_none (JA I q (by simp))
  | bl j=>cases ry;exact PySem.EqNone.ne_none_bool (JA I q (by simp))
  | int j=>obtain⟨t',rfl⟩:=ry;exact PySem.EqNone.ne_none_int (JA I q (by simp))
  | str j=>obtain⟨t',rfl⟩:=ry;exact PySem.EqNone.ne_none_str (JA I q (by simp))
  | _=>exact absurd (show false=true from hs) Qy
 | bl i =>
  cases rx
  cases y with
  | non=>cases ry;exact PySem.EqNone.ne_bool_none (JA I q (by simp))
  | bl j=>cases ry;exact ne_bool (JA I q (congrArg not JfW))
  | str j=>obtain⟨t',rfl⟩:=ry;exact PySem.EqMixed.ne_bool_str (JA I q (by simp))
  | _=>exact absurd (show false=true from hs) Qy
 | int i =>
  obtain⟨t,rfl⟩:=rx
  cases y with
  | non=>cases ry;exact PySem.EqNone.ne_int_none (JA I q (by simp))
  | int j=>obtain⟨t',rfl⟩:=ry;exact ne_int (JA I q (congrArg not Jdq))
  | str j=>obtain⟨t',rfl⟩:=ry;exact PySem.EqMixed.ne_int_str (JA I q (by simp))
  | _=>exact absurd (show false=true from hs) Qy
 | str i =>
  obtain⟨t,rfl⟩:=rx
  cases y with
  | non=>cases ry;exact PySem.EqNone.ne_str_none (JA I q (by simp))
  | bl j=>cases ry;exact PySem.EqMixed.ne_str_bool (JA I q (by simp))
  | int j=>obtain⟨t',rfl⟩:=ry;exact PySem.EqMixed.ne_str_int (JA I q (by simp))
  | str j=>obtain⟨t',rfl⟩:=ry;exact ne_str (JA I q (congrArg not Jdr))
  | _=>exact absurd (show false=true from hs) Qy
 | byt i =>
  obtain⟨t,rfl⟩:=rx
  cases y with
  | byt j=>obtain⟨t',rfl⟩:=ry;exact PySem.W.ne_bytes (JA I q (congrArg not Jdp))
  | _=>exact absurd (show false=true from hs) Qy
 | _=>cases y <;> exact absurd (show false=true from hs) Qy

theorem W4:OpR X (compareOp .Lt) (rI0 fun i j=>.bl (decide (i<j))):=JlE fun _ _ _ _ _ _ _ q=>lt_int q
theorem JgS:OpR X (compareOp .LtE) (rI0 fun i j=>.bl (decide (i<=j))):=JlE fun _ _ _ _ _ _ _ q=>le_int q
theorem ZU:OpR X (compareOp .Gt) (rI0 fun i j=>.bl (decide (j<i))):=JlE fun _ _ _ _ _ _ _ q=>gt_int q
theorem JlI:OpR X (compareOp .Is) (fun x y H Q=>y=.non/\Q (.bl (decide (x=.non))) H):=by
 intro pins s σ H x y v u Q I rx ry h;obtain⟨rfl,q⟩:=h;cases ry;refine is_none_gen (JA I q ?_);cases x <;> first
  | (cases rx;rfl)
  | (obtain⟨t,rfl⟩:=rx;rfl)
theorem JiS:OpR X (compareOp .IsNot) (fun x y H Q=>y=.non/\Q (.bl (!decide (x=.non))) H):=by
 intro pins s σ H x y v u Q I rx ry h;obtain⟨rfl,q⟩:=h;cases ry;refine isnot_none_gen (JA I q ?_);cases x <;> first
  | (cases rx;rfl)
  | (obtain⟨t,rfl⟩:=rx;rfl)

theorem OpR.or{f:Value->Value->Sem Value}{r r':R2}(h:OpR X f r)(h':OpR X f r'):OpR X f (fun x y H Q=>r x y H Q\/r' x y H Q):=by
 intro pins s σ H x y v u Q I rx ry q;rcases q with q|q
 ·exact h pins s σ H x y v u Q I rx ry q
 ·exact h' pins s σ H x y v u Q I rx ry q

theorem JB(b:Expr){op:CmpOp}(h:op≠.In:=by decide)(h2:op≠.NotIn:=by decide):behindInMarks op b=false:=by
 have e1:(op == CmpOp.In)=false:=by cases op <;> first|rfl|exact absurd rfl h
 have e2:(op == CmpOp.NotIn)=false:=by cases op <;> first|rfl|exact absurd rfl h2
 cases b <;> simp[behindInMarks,e1,e2]
theorem JdX{op:CmpOp}{r:R2}(ho:OpR X (compareOp op) r)(ha:PE X a ta)(hb:PE X b tb)(hm:behindInMarks op b=false):PE X (.Compare a [op] [b] pos) (tOp r ta tb):=by intro pins s σ H Q I h;exact wpAny_Compare1 (Jkw ha hb I h fun v u s2 x y H2 I2 rx ry q=>ho pins s2 σ H2 x y v u Q I2 rx ry q) hm
noncomputable def Jeh(t:TE):TT:=fun σ H Q=>t σ H fun x H'=>∃k,x=.bl k/\Q k H'
theorem Jy{op:CmpOp}{r:R2}(ho:OpR X (compareOp op) r)(ha:PE X a ta)(hb:PE X b tb)(hm:behindInMarks op b=false):PT X (.Compare a [op] [b] pos) (Jeh (tOp r ta tb)):=by
 intro pins s σ H Q I h;refine wpAny_isTrue_Compare1 (thn (ha pins s σ H _ I h) fun v s1 ⟨x,H1,I1,r1,q1⟩=>thn (hb pins s1 σ H1 _ I1 q1) fun u s2 ⟨y,H2,I2,r2,q2⟩=>thn (ho pins s2 σ H2 x y v u _ I2 r1 r2 q2) fun c s3 ⟨z,H3,I3,r3,k,e,q3⟩=>?_) hm
 subst e;cases r3;exact KB ⟨H3,I3,q3⟩
noncomputable def Jc1(r r':R2)(ta tb tc:TE):TE:=fun σ H Q=>ta σ H fun x H1=>tb σ H1 fun y H2=>r x y H2 fun z H3=>∃k,z=.bl k ∧
 (if k=true then tc σ H3 fun w' H4=>r' y w' H4 Q else Q (.bl false) H3)
theorem JgT{op op':CmpOp}{r r':R2}(ho:OpR X (compareOp op) r)(ho':OpR X (compareOp op') r')(ha:PE X a ta)(hb:PE X b tb)(hc:PE X c tc)
 (hm:lastMarks [op,op'] [b,c]=false:=by with_unfolding_all rfl):PE X (.Compare a [op,op'] [b,c] pos) (Jc1 r r' ta tb tc):=by
 intro pins s σ H Q I h;refine Compare_chain (thn (ha pins s σ H _ I h) fun v s1 ⟨x,H1,I1,r1,q1⟩=>chain_link (thn (hb pins s1 σ H1 _ I1 q1) fun u s2 ⟨y,H2,I2,r2,q2⟩=>thn (ho pins s2 σ H2 x y v u _ I2 r1 r2 q2) fun d s3 ⟨z,H3,I3,r3,k,e,q3⟩=>?_)) hm
 subst e;cases r3;refine KB ?_
 cases k with
 | false=>exact ite_ff ⟨.bl false,H3,I3,rfl,q3⟩
 | true=>exact ite_tt (chain_last (thn (hc pins s3 σ H3 _ I3 q3) fun w' s4 ⟨z',H4,I4,r4,q4⟩=>ho' pins s4 σ H4 y z' u w' Q I4 r2 r4 q4))
noncomputable def Jer(K:Frag)(x:V)(H:Hp)(k:Bool):Prop :=
 match x with
 | .non=>k=false
 | .bl b=>k=b
 | .int i=>k=(i != 0)
 | .str y=>y.length<=sizeLine/\k=((y.length:Int) != 0)
 | .byt y=>y.size<=sizeLine/\k=((y.size:Int) != 0)
 | .ref p=>(∃xs,SqL K H p xs/\k=!xs.isEmpty)\/(∃xs,SqT K H p xs/\k=!xs.isEmpty)\/∃kvs,H p=some (.dK kvs)/\k=!kvs.isEmpty
 | _=>False
theorem JcB{κ:Type}{kvs:List (κ×V)}{vs:List (κ×Value)}(r:KV kvs vs):(!vs.isEmpty)=!kvs.isEmpty:=by cases r <;> rfl
theorem WQ{xs:List V}{its:List Value}(r:Vals xs its):(!its.toArray.isEmpty)=!xs.isEmpty:=by cases r <;> simp
theorem WV:(sizeLine:Nat)<2 ^ 63:=by rw[sizeLine_eq];decide
theorem JmZ:JoI X (fun x H Q=>∃k,Jer X.K x H k/\Q k H):=by
 intro pins s σ H x v Q I rx h;obtain⟨k,e,q⟩:=h;have hl:=WV;have hs:sizeLine=16777216:=sizeLine_eq
 cases x with
 | non=>cases rx;have e':k=false:=e;subst e';exact truthy_none ⟨H,I,q⟩
 | bl b=>cases rx;have e':k=b:=e;subst e';exact KB ⟨H,I,q⟩
 | int i=>obtain⟨t,rfl⟩:=rx;have e':k=(i != 0):=e;subst e';exact PySem.P.truthy_int ⟨H,I,q⟩
 | str y=>obtain⟨t,rfl⟩:=rx;obtain⟨hy,e'⟩:y.length<=sizeLine/\k=((y.length:Int) != 0):=e;subst e';exact PySem.P.truthy_str (by omega) ⟨H,I.tok _,q⟩
 | byt y=>obtain⟨t,rfl⟩:=rx;obtain⟨hy,e'⟩:y.size<=sizeLine/\k=((y.size:Int) != 0):=e;subst e';exact PySem.W.truthy_bytes (by omega) ⟨H,I.tok _,q⟩
 | ref p =>
  cases rx;have e':(∃xs,SqL X.K H p xs/\k=!xs.isEmpty)\/(∃xs,SqT X.K H p xs/\k=!xs.isEmpty)\/∃kvs,H p=some (.dK kvs)/\k=!kvs.isEmpty:=e
  rcases e' with ⟨xs,hx,e'⟩|⟨xs,hx,e'⟩|⟨kvs,hx,e'⟩
  ·subst e';obtain⟨its,r,pl,hz⟩:=I.list hx;have hlen:=r.length;exact wpAny_truthy_list pl.isList (by simp only[Qm];omega) ⟨H,I.tok _,by rw[WQ r];exact q⟩
  ·subst e';obtain⟨its,r,pl,hz⟩:=I.tuple hx;have hlen:=r.length;exact truthy_tuple pl (by simp only[Qm];omega) ⟨H,I.tok _,by rw[WQ r];exact q⟩
  ·subst e';obtain⟨hz,hS,vs,r,m⟩:kvs.length<=sizeLine/\(p == sysModules)=false/\∃vs,KV kvs vs/\s.heap.DictOf (JD X.prog X.w) p vs:=I.hok p _ hx
   have hlen:kvs.length=vs.length:=L0 r;exact wpAny_truthy_dict hS m (by omega) ⟨H,I.tok _,by rw[JcB r];exact q⟩
 | _=>exact(show False from e).elim
theorem Jg4(ha:PE X a ta)(he:∀whole,isTrue a X.env whole=(do let v <- whole;standAt a.pos;holding [v] (truthy v))) :
 PT X a (fun σ H Q=>ta σ H fun x H'=>∃k,Jer X.K x H' k/\Q k H'):=by
 intro pins s σ H Q I h;exact isTrue_plain (thn (ha pins s σ H _ I h) fun v s1 ⟨x,H1,I1,r1,q1⟩=>JmZ pins s1 σ H1 x v Q I1 r1 q1) (he _)

theorem op_add_str:OpR X (binaryOp .Add) (fun x y H Q=>∃i j,x=.str i/\y=.str j/\i.length+j.length<=sizeLine/\Q (.str (i++j)) H):=by intro pins s σ H x y v u Q I rx ry h;obtain⟨i,j,rfl,rfl,hz,q⟩:=h;obtain⟨t,rfl⟩:=rx;obtain⟨t',rfl⟩:=ry;exact add_str (fun t' tk=>⟨.str (i++j),H,I.tok _,⟨_,rfl⟩,q⟩) hz
theorem UZ{x:V}{us:List Value}(r:Vals [x] us):∃u,us=[u]/\RelV x u:=by
 cases r with
 | cons r1 r2=>cases r2;exact⟨_,rfl,r1⟩
theorem JhG{x y:V}{us:List Value}(r:Vals [x,y] us):∃u w',us=[u,w']/\RelV x u/\RelV y w':=by
 cases r with
 | cons r1 r2 =>
  cases r2 with
  | cons r3 r4=>cases r4;exact⟨_,_,rfl,r1,r3⟩
theorem WB:CallR X (.builtin "abs") (fun xs H Q=>∃i,xs=[.int i]/\Q (.int (if i<0 then -i else i)) H):=by intro pins s σ H xs us Q I r h;obtain⟨i,rfl,q⟩:=h;obtain⟨u,rfl,t,rfl⟩:=UZ r;exact call_abs_int fun u tk=>⟨.int (if i<0 then -i else i),H,I.tok _,⟨_,rfl⟩,q⟩
theorem JeB(hc:X.calm=true):CallR X (.builtin "max") (fun xs H Q=>∃i j,xs=[.int i,.int j]/\Q (.int (if j>i then j else i)) H):=by
 intro pins s σ H xs us Q I r h;obtain⟨i,j,rfl,q⟩:=h;obtain⟨u,w',rfl,⟨t,rfl⟩,⟨t',rfl⟩⟩:=JhG r;refine max_two_ints (I.ok.hd hc) fun h' tk k=>⟨_,H,I.kept k,?_,q⟩
 by_cases hj:j>i
 ·rw[if_pos hj,if_pos hj];exact⟨_,rfl⟩
 ·rw[if_neg hj,if_neg hj];exact⟨_,rfl⟩
theorem JeC(hc:X.calm=true):CallR X (.builtin "min") (fun xs H Q=>∃i j,xs=[.int i,.int j]/\Q (.int (if j<i then j else i)) H):=by
 intro pins s σ H xs us Q I r h;obtain⟨i,j,rfl,q⟩:=h;obtain⟨u,w',rfl,⟨t,rfl⟩,⟨t',rfl⟩⟩:=JhG r;refine min_two_ints (I.ok.hd hc) fun h' tk k=>⟨_,H,I.kept k,?_,q⟩
 by_cases hj:j<i
 ·rw[if_pos hj,if_pos hj];exact⟨_,rfl⟩
 ·rw[if_neg hj,if_neg hj];exact⟨_,rfl⟩
noncomputable def Jnc(K:Frag)(x:V)(H:Hp)(n:Nat):Prop :=
 match x with
 | .str y=>y.length<=sizeLine/\n=y.length
 | .byt y=>y.size<=sizeLine/\n=y.size
 | .ref p=>(∃xs,SqL K H p xs/\n=xs.length)\/∃xs,SqT K H p xs/\n=xs.length
 | _=>False
theorem JfP:CallR X (.builtin "len") (fun xs H Q=>∃x n,xs=[x]/\Jnc X.K x H n/\Q (.int n) H):=by
 intro pins s σ H xs us Q I r h;obtain⟨x,n,rfl,e,q⟩:=h;obtain⟨u,rfl,rx⟩:=UZ r;have hl:=WV;have hs:sizeLine=16777216:=sizeLine_eq
 cases x with
 | str y=>obtain⟨t,rfl⟩:=rx;obtain⟨hy,e'⟩:y.length<=sizeLine/\n=y.length:=e;subst e';exact len_str (by omega) ⟨.int _,H,I.tok _,⟨_,rfl⟩,q⟩
 | byt y=>obtain⟨t,rfl⟩:=rx;obtain⟨hy,e'⟩:y.size<=sizeLine/\n=y.size:=e;subst e';exact PySem.W.len_bytes (by omega) ⟨.int _,H,I.tok _,⟨_,rfl⟩,q⟩
 | ref p =>
  cases rx;have e':(∃xs,SqL X.K H p xs/\n=xs.length)\/∃xs,SqT X.K H p xs/\n=xs.length:=e
  rcases e' with ⟨xs,hx,e'⟩|⟨xs,hx,e'⟩
  ·subst e';obtain⟨its,r',pl,hz⟩:=I.list hx;have hlen:=r'.length;exact Calls.call_len_list pl.isList (by simp only[Qm];omega) ⟨.int xs.length,H,I.tok _,⟨_,by simp only[Qm];rw[hlen]⟩,q⟩
  ·subst e';obtain⟨its,r',pl,hz⟩:=I.tuple hx;have hlen:=r'.length;exact len_tuple pl (by simp only[Qm];omega) ⟨.int xs.length,H,I.tok _,⟨_,by simp only[Qm];rw[hlen]⟩,q⟩
 | _=>exact(show False from e).elim
end
end L2

namespace L2
open PySem PySem.Spec PyProof.Rows

structure ObjM (h:Heap) (x dx C:Addr) (mA:Str->Option Value):Prop where
 obj:h.get? x=some (instObj C dx)
 ns:h.Ns1 dx mA
 ne:dx≠x

theorem Je2{h:Heap}{dx:Addr}{mA:Str->Option Value}(n:h.Ns1 dx mA):∃od,h.get? dx=some od/\∀name,lookIn name od=some (mA name):=by
 obtain⟨o,es,ep,ho,hd,hk,_,hm⟩:=n;refine⟨o,ho,fun name=>?_⟩;have e:=hm name;unfold nsFind findBy at e;rw[<- Array.find?_toList] at e;unfold lookIn;rw[hd];dsimp only;split
 ·rename_i y q;rw[q] at e;exact congrArg some e
 ·rename_i q;rw[q] at e
  have a:es.toList.any (·.refKey)=false:=by rw[List.any_eq_false];intro y hy;obtain⟨z,t,hkey⟩:=hk y (Array.mem_toList_iff.mp hy);simp[DictEntry.refKey,hkey]
  have a':¬es.toList.any (·.refKey)=true:=by rw[a];exact Qy
  rw[if_neg a'];exact congrArg some e

theorem ObjM.look{h:Heap}{x dx C:Addr}{mA:Str->Option Value}(I:ObjM h x dx C mA):∃od,PySem.W.InstAt h x (instObj C dx) C (some od)/\∀name,lookIn name od=some (mA name) :=
 let ⟨od,ho,hl⟩:=Je2 I.ns
 ⟨od,⟨I.obj,rfl,rfl,ho⟩,hl⟩

section
variable{prog:Program}{w:World}{A:Around}{E:Value->Shared->Prop}{s:Shared}{K:Frag}{x dx C f:Addr}{mA:Str->Option Value}{name:Str}{v:Value}

theorem Jiu{expr:Bool}{Q:Value->Shared->Prop}(X:K.In s.heap)(I:ObjM s.heap x dx C mA)(hg:plainGet K C name=true)(hh:hasDictIn K C=true)
 (ha:findIn K (.ref C) name=some none) (hv:mA name=some v) (hv':PySem.W.handedIn v=true) (h:Q v { s with toks:=s.toks+1 }) :
 wpAny (model prog w) A (getAttr (.ref x) name expr) Q E s:=by
 obtain⟨od,J,hl⟩:=I.look;exact PySem.W.get_value X J (PySem.W.plainGet_of hg).1 (PySem.W.findObj_own hh ha rfl (by rw[hl,hv])) hv' h

theorem JjC{ns:List Str}{Q:Unit->Shared->Prop}(X:K.In s.heap)(I:ObjM s.heap x dx C mA)
 (hs:findIn K (.ref C) "__setattr__"=some (some (.builtin "object.__setattr__"))) (hp:plainOver K C=true) (ht:takerIn K C name=some none) (hh:hasDictIn K C=true)
 (hw:MR mA ns) (hsz:ns.length<=sizeLine)
 (h:∀h',ObjM h' x dx C (fun y=>if y=name then some v else mA y)->Qz dx s.heap h'->Q () { s with heap:=h',toks:=s.toks+2 }) :
 wpAny (model prog w) A (setAttr (.ref x) name v) Q E s:=by
 obtain⟨od,J,hl⟩:=I.look;refine PySem.W.set_plain X J hs (PySem.W.osa_open (s:={ s with toks:=s.toks+1 }) (r:=none) X J hp ht fun b=>?_);obtain⟨cd,hc,hd'⟩:=PySem.W.any_some hh;have hx:s.heap.get? x=some ⟨.ref C,some dx,.plain,#[]⟩:=I.obj;refine Qa (Qi (Qa (Qa (wpAny_loadPart hx (Qa (PySem.W.Looks.here (s:={ s with toks:=s.toks+1 }) (PySem.W.looks_clsIn X hc) ?_))))));rw[hd'];refine Qi (a:=some dx) (Qa (Qi (Qa ?_)))
 refine wpAny_nsSet1 (s:={ s with toks:=s.toks+1 }) I.ns fun h' hn2 hs2=>?_
 obtain⟨oD,esD,epD,hoD,hdD,hcD⟩:=hn2.count (PySem.Within.cons name v hw);refine Qa (wpAny_lookBehind hoD (by rw[hdD];exact pastItsLine_dict (Q4 hcD (by rw[Qp];omega))) ?_);exact Qi (h _ ⟨(hs2.2 _ (QI I.ne)).trans I.obj,hn2,I.ne⟩ hs2)

theorem JgN{R:Result->Shared->Prop}{vs:List Value}{kw:List (Str×Value)}(X:K.In s.heap)(hm:makesIn K C=true)
 (hi:findIn K (.ref C) "__init__"=some (some (.ref f))) (hf:PySem.W.typeIn K (.ref f)=some (.type "function"))
 (h:codeAny (model prog w) (A.under (.builtin "type.__call__" ⟨.ref C::vs,kw⟩)) (.call (.ref f) ⟨.ref (s.heap.objs.size+1)::vs,kw⟩) (PySem.W.InitBack (s.heap.objs.size+1) R)
  { s with heap:=(s.heap.push emptyDict).push (instObj C s.heap.objs.size) }) :
 codeAny (model prog w) A (.call (.ref C) ⟨vs,kw⟩) R s:=by
 obtain⟨hh,g,d,t,os⟩:=s;exact PySem.W.make_core (PySem.W.makes_of X hm) (PySem.W.looks_findIn X hi) (fun self=>PySem.W.bind_fn X self hf) (.inl rfl) h
end

noncomputable def putF(f:Str)(v:V):List (Str×V)->List (Str×V)
 | []=>[(f,v)]
 | (g,x)::r=>if g=f then(g,v)::r else(g,x)::putF f v r
theorem V6(f g:Str)(v:V):∀fs:List (Str×V),(putF f v fs).lookup g=if g=f then some v else fs.lookup g
 | []=>by
  show KY g [(f,v)]=_
  by_cases h:g=f
  ·have hb:(g == f)=true:=beq_iff_eq.mpr h;simp only[KY,hb,if_pos h]
  ·have hb:(g == f)=false:=beq_eq_false_iff_ne.mpr h;simp only[KY,hb,if_neg h]
 | (k,x)::r=>by
  have ih:=V6 f g v r;rw[show putF f v ((k,x)::r)=(if k=f then(k,v)::r else(k,x)::putF f v r) from rfl]
  by_cases hk:k=f
  ·rw[if_pos hk]
   by_cases h:g=k
   ·have hb:(g == k)=true:=beq_iff_eq.mpr h;simp only[KY,hb,if_pos (h.trans hk)]
   ·have hb:(g == k)=false:=beq_eq_false_iff_ne.mpr h;simp only[KY,hb,if_neg (fun e:g=f=>h (e.trans hk.symm))]
  ·rw[if_neg hk]
   by_cases h:g=k
   ·have hb:(g == k)=true:=beq_iff_eq.mpr h;simp only[KY,hb,if_neg (fun e:g=f=>hk (h.symm.trans e))]
   ·have hb:(g == k)=false:=beq_eq_false_iff_ne.mpr h;simp only[KY,hb];exact ih
theorem VS(f:Str)(v:V):∀fs:List (Str×V),f∈(putF f v fs).map (·.1)/\∀g,g∈fs.map (·.1)->g∈(putF f v fs).map (·.1)
 | []=>⟨by simp[putF],fun g h=>by simp at h⟩
 | (k,x)::r=>by
  obtain⟨i1,i2⟩:=VS f v r;rw[show putF f v ((k,x)::r)=(if k=f then(k,v)::r else(k,x)::putF f v r) from rfl]
  by_cases hk:k=f
  ·rw[if_pos hk];subst hk;exact⟨by simp,fun g h=>by simpa using h⟩
  ·rw[if_neg hk];refine⟨?_,fun g h=>?_⟩
   ·rw[Qe];exact Qc _ i1
   ·rw[Qe] at h ⊢;rcases Qg.mp h with e|e
    ·exact Qg.mpr (.inl e)
    ·exact Qc _ (i2 g e)
theorem V5(f:Str)(v:V):∀fs:List (Str×V),(putF f v fs).length<=fs.length+1
 | []=>by simp[putF]
 | (k,x)::r=>by
  have ih:=V5 f v r;rw[show putF f v ((k,x)::r)=(if k=f then(k,v)::r else(k,x)::putF f v r) from rfl]
  by_cases hk:k=f
  ·rw[if_pos hk,Qp,Qp];omega
  ·rw[if_neg hk,Qp,Qp];omega

theorem RelO.some_of{v:V}{o:Option Value}(r:RelO (some v) o):∃u,o=some u/\RelV v u:=by
 cases o with
 | none=>exact(show False from r).elim
 | some u=>exact⟨u,rfl,r⟩
theorem JeP{v:V}{u:Value}(r:RelV v u):PySem.W.handedIn u=true:=by
 cases v with
 | non=>cases (show u=Value.none from r);rfl
 | bl b=>cases (show u=Value.bool b from r);rfl
 | int i=>obtain⟨t,e⟩:=(show ∃t,u=Value.int i t from r);cases e;rfl
 | str x=>obtain⟨t,e⟩:=(show ∃t,u=Value.str x t from r);cases e;rfl
 | byt b=>obtain⟨t,e⟩:=(show ∃t,u=Value.bytes b t from r);cases e;rfl
 | flt b=>obtain⟨t,e⟩:=(show ∃t,u=Value.float b t from r);cases e;rfl
 | ref a=>cases (show u=Value.ref a from r);rfl
 | ty n=>cases (show u=Value.type n from r);rfl

section
variable{P:Program}{w:World}{H H':Hp}{h h':Heap}{a C dx:Addr}{fs fs':List (Str×V)}
theorem Jay(hok:HOk P w H h)(e:H a=some (.ins C dx fs)):∃mA,ObjM h a dx C mA/\(∀f,RelO (fs.lookup f) (mA f))/\MR mA (fs.map (·.1))/\fs.length<=1000/\H dx=some (.own a):=by
 obtain⟨d,z,ne,ob,mA,n,r,q⟩:=(show ObjOk P w H h a (.ins C dx fs) from hok a _ e)
 exact⟨mA,⟨ob,n,ne⟩,r,q,z,d⟩
end

structure Cls (K:Frag) (C:Addr):Prop where
 pg:plainGet K C Str.empty=true
 hd:hasDictIn K C=true
 po:plainOver K C=true
 sa:findIn K (.ref C) "__setattr__"=some (some (.builtin "object.__setattr__"))
theorem Cls.get{K:Frag}{C:Addr}(c:Cls K C)(f:Str):plainGet K C f=true:=c.pg
noncomputable def NoAttr(K:Frag)(C:Addr)(f:Str):Prop:=findIn K (.ref C) f=some none
theorem NoAttr.taker{K:Frag}{C:Addr}{f:Str}(n:NoAttr K C f):takerIn K C f=some none:=by unfold takerIn;rw[show findIn K (.ref C) f=some none from n];rfl
structure Con (K:Frag) (C:Addr) (f:Str) (v:V) (u:Value):Prop where
 at_:findIn K (.ref C) f=some (some u)
 rel:RelV v u
 get:specialIn K u "__get__"=some none
 cp:PySem.W.copiedNames.contains f=false
structure Meth (K:Frag) (C:Addr) (m:Str) (f:Addr):Prop where
 at_:findIn K (.ref C) m=some (some (.ref f))
 fn:isFn K (.ref f)=true
 kp:keepIn K (.ref f)=true

section
variable{X:Cx}{pins:List (Addr×Obj)}{σ:St}{H:Hp}{s:Shared}{a C dx:Addr}{fs:List (Str×V)}{f:Str}{v:V}{A:Around}{E:Value->Shared->Prop}

theorem Jcu{b:Bool}{Q:Value->Shared->Prop}(I:Inv X pins σ H s)(e:H a=some (.ins C dx fs))(c:Cls X.K C)(n:NoAttr X.K C f)(l:fs.lookup f=some v)
 (h:∀u s',Inv X pins σ H s'->RelV v u->Q u s'):wpAny (model X.prog X.w) A (getAttr (.ref a) f b) Q E s:=by
 obtain⟨mA,O,r,_,_,_⟩:=Jay I.hok e;obtain⟨u,hu,ru⟩:=RelO.some_of (v:=v) (o:=mA f) (by rw[<- l];exact r f);exact Jiu I.kIn O (c.get f) c.hd n hu (JeP ru) (h u _ (I.tok _) ru)

theorem JcY{y:V}{u:Value}{Q:Unit->Shared->Prop}(I:Inv X pins σ H s)(e:H a=some (.ins C dx fs))(c:Cls X.K C)(n:NoAttr X.K C f)(hl:fs.length<1000)(ry:RelV y u)
 (h:∀s',Inv X pins σ (upd H a (.ins C dx (putF f y fs))) s'->Q () s'):wpAny (model X.prog X.w) A (setAttr (.ref a) f u) Q E s:=by
 obtain⟨mA,O,r,wi,_,ho⟩:=Jay I.hok e;have hz:(fs.map (·.1)).length<=sizeLine:=by rw[Qq,sizeLine_eq];omega
 refine JjC I.kIn O c.sa c.po n.taker c.hd wi hz fun h' O' sb=>h _ ?_
 have hd:∃o,h'.get? dx=some o:=let ⟨o,_,_,e',_⟩:=O'.ns;⟨o,e'⟩
 refine I.write (x:=a) (e:=dx) (by rw[e];exact True.intro) (.inr ho) (fun b q hb z=>(sb.2 b hb).trans z) hd ?_;refine⟨by rw[Jh O.ne];exact ho,?_,O.ne,O'.obj,_,O'.ns,fun g=>?_,fun g hg=>?_⟩
 ·have:=V5 f y fs;omega
 ·show RelO ((putF f y fs).lookup g) (if g=f then some u else mA g);rw[V6]
  by_cases q:g=f
  ·rw[if_pos q,if_pos q];exact ry
  ·rw[if_neg q,if_neg q];exact r g
 ·by_cases q:g=f
  ·rw[q];exact(VS f y fs).1
  ·refine(VS f y fs).2 g (wi g fun z=>hg ?_);show(if g=f then some u else mA g)=none;rw[if_neg q];exact z

theorem Inv.made(I:Inv X pins σ H s):Inv X pins σ (upd (upd H s.heap.objs.size (.own (s.heap.objs.size+1))) (s.heap.objs.size+1) (.ins C s.heap.objs.size []))
 { s with heap:=(s.heap.push emptyDict).push (instObj C s.heap.objs.size) }:=by
 have e1:(s.heap.push emptyDict).get? s.heap.objs.size=some emptyDict:=Qj s.heap rfl
 have e2:((s.heap.push emptyDict).push (instObj C s.heap.objs.size)).get? (s.heap.objs.size+1)=some (instObj C s.heap.objs.size):=by
  have:=Qj (s.heap.push emptyDict) (o:=instObj C s.heap.objs.size) rfl
  rwa [Q5] at this
 have e3:(s.heap.push emptyDict).Ns s.heap.objs.size (fun _=>none):=⟨emptyDict,#[],_,e1,rfl,(fun e he=>absurd he (by simp)),fun _=>rfl⟩
 have I1:=I.laid (a:=s.heap.objs.size) (o:=.own (s.heap.objs.size+1)) (h':=s.heap.push emptyDict) (t':=s.toks) (fun b u q=>Qf _ q) (Qk _) ⟨_,e1⟩;refine I1.laid (a:=s.heap.objs.size+1) (o:=.ins C s.heap.objs.size []) (t':=s.toks) (fun b u q=>Qf _ q) (Nat.le_of_eq (Q5 _ _)) ?_
 have ne:s.heap.objs.size≠s.heap.objs.size+1:=Qx (GO _);refine⟨by rw[Jh ne,Jq],G1 _,ne,e2,fun _=>none,(Heap.Ns1.of_empty e3).at fun o q=>Qf _ q,fun _=>True.intro,fun y hy=>absurd rfl hy⟩

theorem JhT{prog:Program}{w:World}{env:Env}{e:Expr}{f:Str}{pos:Pos}{s:Shared}{Q:Value->Shared->Prop}(hb:attributeBase e f env (eval e env)=eval e env)
 (h:wpAny (model prog w) A (eval e env) (fun o s₁=>wpAny (model prog w) A (getAttr o f true) Q E s₁) E s):wpAny (model prog w) A (eval (.Attribute e f pos) env) Q E s :=
 Attribute_any_ h (by rw[arm_eval_Attribute,hb])
end

noncomputable def JjG(K:Frag)(ta:TE)(f:Str):TE:=fun σ H Q=>ta σ H fun x H1=>∃a C dx fs v,x=.ref a/\H1 a=some (.ins C dx fs)/\Cls K C/\NoAttr K C f/\fs.lookup f=some v/\Q v H1
noncomputable def Jmv(K:Frag)(ta tv:TE)(f:Str):TS:=fun D σ H=>tv σ H fun y H1=>ta σ H1 fun x H2=>∃a C dx fs,x=.ref a/\H2 a=some (.ins C dx fs)/\Cls K C/\NoAttr K C f/\fs.length<1000 ∧
 D.nx σ (upd H2 a (.ins C dx (putF f y fs)))
section
variable{X:Cx}{o e value:Expr}{f:Str}{pos pos' tpos:Pos}{ta tv:TE}
theorem JlP(he:PE X e ta)(hb:attributeBase e f X.env (eval e X.env)=eval e X.env):PE X (.Attribute e f pos) (JjG X.K ta f):=by intro pins s σ H Q I h;refine JhT hb (thn (he pins s σ H _ I h) fun u s1 ⟨x,H1,I1,rx,a,C,dx,fs,v,ex,ea,c,n,l,q⟩=>?_);subst ex;obtain rfl:u=Value.ref a:=rx;exact Jcu I1 ea c n l fun u' s2 I2 ru=>⟨v,H1,I2,ru,q⟩
theorem JlX(ha:PE X o ta)(hv:PE X value tv)(hs:swapsWith value (some (.Attribute o f pos')) pos.line X.env=pure false):PS X (.Assign [.Attribute o f pos'] value pos) (Jmv X.K ta tv f):=by intro pins s σ H D I h;refine plainObj_wpAny_Assign_Attribute (thn (hv pins s σ H _ I h) fun u s1 ⟨y,H1,I1,ry,q⟩=>thn (ha pins s1 σ H1 _ I1 q) fun ov s2 ⟨x,H2,I2,rx,a,C,dx,fs,ex,ea,c,n,l,q2⟩=>?_) hs;subst ex;obtain rfl:ov=Value.ref a:=rx;exact JcY I2 ea c n l ry fun s3 I3=>⟨σ,_,I3,q2⟩
end

section
variable{X:Cx}{pins:List (Addr×Obj)}{σ:St}{H:Hp}{s:Shared}{A:Around}{E:Value->Shared->Prop}{Q:Value->Shared->Prop}{c:Value}{b:Bool}
inductive TyOf (K:Frag) (H:Hp):V->Value->Prop where
 | non:TyOf K H .non (.type "NoneType")
 | bl (x:Bool):TyOf K H (.bl x) (.type "bool")
 | int (i:Int):TyOf K H (.int i) (.type "int")
 | str (x:Str):TyOf K H (.str x) (.type "str")
 | flt (x:UInt64):TyOf K H (.flt x) (.type "float")
 | lst {a:Addr} {xs:List V} (e:H a=some (.lst xs)):TyOf K H (.ref a) (.type "list")
 | frz {a:Addr} {o:Obj} {xs:List V} (e:H a=some (.frz o (.lst xs))):TyOf K H (.ref a) (.type "list")
 | tup {a:Addr} {xs:List V} (e:H a=some (.tup xs)):TyOf K H (.ref a) (.type "tuple")
 | dK {a:Addr} {kvs:List (Key×V)} (e:H a=some (.dK kvs)):TyOf K H (.ref a) (.type "dict")
 | dT {a:Addr} {kvs:List (List Key×V)} (e:H a=some (.dT kvs)):TyOf K H (.ref a) (.type "dict")
 | ins {a C dx:Addr} {fs:List (Str×V)} (e:H a=some (.ins C dx fs)) (cl:Cls K C) (ha:findIn K (.ref C) "__class__"=some (some (.builtin "object.__class__")))
  (hn:specialIn K (.builtin "object.__class__") "__get__"=some (some (.builtin "getset_descriptor.__get__"))) (htk:takesIn K (.builtin "object.__class__")=some true)
  (hm:mroIn K C (.type "object")=some true):TyOf K H (.ref a) (.ref C)
theorem JeZ{x:V}{u t:Value}(I:Inv X pins σ H s)(rx:RelV x u)(ty:TyOf X.K H x t)(e:kitOne X.K t c=some b)(h:∀tk,Q (.bool b) { s with toks:=tk }) :
 wpAny (model X.prog X.w) A (call (.builtin "isinstance") [u,c]) Q E s:=by
 cases ty with
 | non=>cases (show u=Value.none from rx);exact kia_one PySem.W.kitx_none I.kIn True.intro e (fun z=>nomatch z) h
 | bl y=>cases (show u=Value.bool y from rx);exact kia_one PySem.W.kitx_bool I.kIn True.intro e (fun z=>nomatch z) h
 | int i=>obtain⟨t,q⟩:=(show ∃t,u=Value.int i t from rx);cases q;exact kia_one PySem.W.kitx_int I.kIn True.intro e (fun z=>nomatch z) h
 | str y=>obtain⟨t,q⟩:=(show ∃t,u=Value.str y t from rx);cases q;exact kia_one PySem.W.kitx_str I.kIn True.intro e (fun z=>nomatch z) h
 | flt y=>obtain⟨t,q⟩:=(show ∃t,u=Value.float y t from rx);cases q;exact kia_one PySem.W.kitx_float I.kIn True.intro e (fun z=>nomatch z) h
 | @lst a xs ea =>
  cases (show u=Value.ref a from rx);obtain⟨_,_,n,_,h1⟩:=(show ObjOk X.prog X.w H s.heap a (.lst xs) from I.hok a _ ea)
  exact kia_one kitx_list I.kIn ⟨_,h1,rfl⟩ e (fun z=>nomatch z) h
 | @frz a ob xs ea =>
  cases (show u=Value.ref a from rx);obtain⟨_,_,_,n,_,h1⟩:=(show ObjOk X.prog X.w H s.heap a (.frz ob (.lst xs)) from I.hok a _ ea)
  exact kia_one kitx_list I.kIn ⟨_,h1,rfl⟩ e (fun z=>nomatch z) h
 | @tup a xs ea =>
  cases (show u=Value.ref a from rx);obtain⟨_,_,_,p⟩:=(show ObjOk X.prog X.w H s.heap a (.tup xs) from I.hok a _ ea)
  obtain⟨o,h1,h2,_⟩:=p;exact kia_one MN I.kIn ⟨o,h1,h2⟩ e (fun z=>nomatch z) h
 | @dK a kvs ea =>
  cases (show u=Value.ref a from rx);obtain⟨_,_,vs,_,p⟩:=(show ObjOk X.prog X.w H s.heap a (.dK kvs) from I.hok a _ ea)
  obtain⟨o,es,ep,h1,h2,_⟩:=p;exact kia_one MS I.kIn ⟨o,h1,h2.1⟩ e (fun z=>nomatch z) h
 | @dT a kvs ea =>
  cases (show u=Value.ref a from rx);obtain⟨_,_,xs,_,o,es,ep,h1,h2,_⟩:=(show ObjOk X.prog X.w H s.heap a (.dT kvs) from I.hok a _ ea)
  exact kia_one MS I.kIn ⟨o,h1,h2.1⟩ e (fun z=>nomatch z) h
 | @ins a C dx fs ea cl ha hn htk hm=>cases (show u=Value.ref a from rx);obtain⟨mA,O,_⟩:=Jay I.hok ea;obtain⟨od,J,_⟩:=O.look;exact kia_one (PySem.W.kitx_own (cl.get _) cl.hd ha hn htk hm) I.kIn J e (fun z=>nomatch z) h
end
end L2

namespace L2
open PySem PySem.Spec PyProof.Rows

structure Room (k:Nat) (A:Around):Prop where
 hd:A.handled=none
 dp:A.depth+3*k+5<recursionLimit
 un:A.units+16*k+200<cLine
theorem Room.mono{j k:Nat}{A:Around}(r:Room k A)(h:j<=k):Room j A:=⟨r.hd,by have:=r.dp;omega,by have:=r.un;omega⟩
theorem Room.deeper{k:Nat}{A:Around}(r:Room (k+1) A)(env:Env):Room k (A.deeper env) :=
 ⟨r.hd,by have:=r.dp;show A.depth+1+3*k+5<_;omega,by have:=r.un;show A.units+3+16*k+200<_;omega⟩
theorem Room.in1{k:Nat}{A:Around}(r:Room (k+1) A):Room k A.in1 :=
 ⟨r.hd,by have:=r.dp;show A.depth+3*k+5<_;omega,by have:=r.un;show A.units+1+16*k+200<_;omega⟩
theorem JcG{A:Around}{C:Addr}{us:List Value}{kw:List (Str×Value)}:(A.under (.builtin "type.__call__" ⟨.ref C::us,kw⟩)).depth=A.depth+1:=by first | rfl | simp[MT,Code.weight,Code.isCreation,Code.isGuard,Code.isCaller,Code.frames,MU,guardIds]
theorem JcH{A:Around}{C:Addr}{us:List Value}{kw:List (Str×Value)}:(A.under (.builtin "type.__call__" ⟨.ref C::us,kw⟩)).units=A.units+1:=by first | rfl | simp[MT,Code.cUnits,Code.frames,MU]
theorem Room.make{k:Nat}{A:Around}(r:Room (k+1) A)(C:Addr)(us:List Value)(kw:List (Str×Value)):Room k (A.under (.builtin "type.__call__" ⟨.ref C::us,kw⟩)) :=
 ⟨r.hd,by have:=r.dp;rw[JcG];omega,by have:=r.un;rw[JcH];omega⟩
theorem Room.depth{k:Nat}{A:Around}(r:Room k A):A.depth<recursionLimit:=by have:=r.dp;omega
theorem Room.units{k:Nat}{A:Around}(r:Room k A):A.units+64<cLine:=by have:=r.un;omega
noncomputable def Jb6:TA:=fun _ H Q=>Q [] H
noncomputable def VE(ta:TE)(tr:TA):TA:=fun σ H Q=>ta σ H fun x H1=>tr σ H1 fun xs H2=>Q (x::xs) H2
section
variable{X:Cx}{e:Expr}{es:List Expr}{te:TE}{t:TA}{pos:Pos}
theorem Jd:PA X [] Jb6:=fun _ _ _ _ H Q I h=>LV ⟨[],H,I,.nil,h⟩
theorem Ja(ha:PE X e te)(hr:PA X es t)(hs:starEach (e::es) X.env=(false,eval e X.env)::starEach es X.env:=by rfl):PA X (e::es) (VE te t):=by intro pos pins s σ H Q I h;rw[hs];show wpAny _ _ (spliced ((false,eval e X.env)::backTo pos (starEach es X.env))) _ _ s;refine Kn (thn (ha pins s σ H _ I h) fun u s1 ⟨x,H1,I1,r1,q1⟩=>?_);exact thn (hr pos pins s1 σ H1 _ I1 q1) fun us s2 ⟨xs,H2,I2,r2,q2⟩=>⟨x::xs,H2,I2,.cons r1 r2,q2⟩

noncomputable def JmR(t:TA):TE:=fun σ H Q=>t σ H fun xs H1=>xs.length<=sizeLine/\∀p,H1 p=none->Q (.ref p) (upd H1 p (.tup xs))
noncomputable def JmO(t:TA):TE:=fun σ H Q=>t σ H fun xs H1=>xs.length<=sizeLine/\∀p,H1 p=none->Q (.ref p) (upd H1 p (.lst xs))
theorem Yu{x1}(h:PA X es t):PE X (.Tuple es x1 pos) (JmR t):=by intro pins s σ H Q I hq;refine wpAny_Tuple_spliced (thn (h pos pins s σ H _ I hq) fun us s1 ⟨xs,H1,I1,r,z,q⟩=>⟨by rw[<- r.length];exact z,?_⟩);have hf:H1 s1.heap.objs.size=none:=I1.hok.fresh (Qk _);refine⟨.ref s1.heap.objs.size,upd H1 s1.heap.objs.size (.tup xs),I1.laid (t':=s1.toks) (fun b u e=>Qf _ e) (Qk _) ?_,rfl,q _ hf⟩;exact⟨z,us,r,⟨_,Qj _ rfl,rfl,_,rfl⟩⟩
theorem UK(h:PA X es t):PE X (.List es pos) (JmO t):=by intro pins s σ H Q I hq;refine wpAny_List_spliced (thn (h pos pins s σ H _ I hq) fun us s1 ⟨xs,H1,I1,r,z,q⟩=>⟨by rw[<- r.length];exact z,?_⟩);have hf:H1 s1.heap.objs.size=none:=I1.hok.fresh (Qk _);refine⟨.ref s1.heap.objs.size,upd H1 s1.heap.objs.size (.lst xs),I1.laid (t':=s1.toks) (fun b u e=>Qf _ e) (Qk _) ?_,rfl,q _ hf⟩;exact⟨z,us,0,r,Qj _ rfl⟩
end

noncomputable abbrev Sp:=List V->Hp->VK->XK->Prop
noncomputable abbrev CXT:=List Env->Hp->Shared->XK->Value->Shared->Prop

structure Env0 (P:Program) (w:World) (K:Frag) (mg:Str->Option Value) (base:Heap) (A:Around) (outer:List Env) (s:Shared) (H:Hp):Prop where
 frames:A.frames=some outer
 mod:Mod K mg base
 bs:∀b o,base.get? b=some o->s.heap.get? b=some o/\H b=none
 bsz:base.objs.size<=s.heap.objs.size
 funs:s.heap.FunFrames base outer
 frf:∀b∈frs outer,H b=none
 hok:HOk P w H s.heap
 bare:AllBare s.gens
noncomputable def CE(outer:List Env)(P:Program)(w:World)(H:Hp)(s:Shared)(Q:VK)(u:Value)(s':Shared):Prop :=
 ∃v H',s'.os=s.os/\AllBare s'.gens/\Un (frs outer) [] H H' s.heap s'.heap/\HOk P w H' s'.heap/\RelV v u/\Q v H'
noncomputable def CR(CX:CXT)(outer:List Env)(P:Program)(w:World)(H:Hp)(s:Shared)(Q:VK)(E:XK)(r:Result)(s':Shared):Prop :=
 match r with
 | .ok (.ret u)=>CE outer P w H s Q u s'
 | .ok _=>False
 | .error e=>CX outer H s E e s'
structure FnOk (P:Program) (w:World) (K:Frag) (mg:Str->Option Value) (base:Heap) (CX:CXT) (k:Nat) (f:Addr) (fd:FuncData) (ps:List Str) (sp:Sp):Prop where
 len:∀vs H Q E,sp vs H Q E->vs.length=ps.length
 run:∀(A:Around) (outer:List Env) (s:Shared) (H:Hp) (args:Args) (us:List Value) (vs:List V) (Q:VK) (E:XK),Room k A->Env0 P w K mg base A outer s H->BindsTo s fd args (ps.zip us)->Vals vs us->sp vs H Q E ->
  codeAny (model P w) A (.call (.ref f) args) (CR CX outer P w H s Q E) s
theorem FnOk.mono{P:Program}{w:World}{K:Frag}{mg:Str->Option Value}{base:Heap}{CX:CXT}{j k:Nat}{f:Addr}{fd:FuncData}{ps:List Str}{sp:Sp}(F:FnOk P w K mg base CX j f fd ps sp)(h:j<=k) :
 FnOk P w K mg base CX k f fd ps sp:=⟨F.len,fun A outer s H args us vs Q E hr=>F.run A outer s H args us vs Q E (hr.mono h)⟩
theorem FnOk.imp{P:Program}{w:World}{K:Frag}{mg:Str->Option Value}{base:Heap}{CX:CXT}{k:Nat}{f:Addr}{fd:FuncData}{ps:List Str}{sp sp':Sp}(F:FnOk P w K mg base CX k f fd ps sp)
 (h:∀vs H Q E,sp' vs H Q E->sp vs H Q E):FnOk P w K mg base CX k f fd ps sp' :=
 ⟨fun vs H Q E q=>F.len vs H Q E (h _ _ _ _ q),fun A outer s H args us vs Q E hr he hb hv hs=>F.run A outer s H args us vs Q E hr he hb hv (h _ _ _ _ hs)⟩

theorem Env0.make{P:Program}{w:World}{K:Frag}{mg:Str->Option Value}{base:Heap}{A:Around}{outer:List Env}{s:Shared}{H:Hp}(e:Env0 P w K mg base A outer s H)(C:Addr)(us:List Value)(kw:List (Str×Value)) :
 Env0 P w K mg base (A.under (.builtin "type.__call__" ⟨.ref C::us,kw⟩)) outer s H:=⟨by first | exact e.frames | (simpa [MT,Code.envs,MU,pushEnvs] using e.frames),e.mod,e.bs,e.bsz,e.funs,e.frf,e.hok,e.bare⟩
theorem Env0.in1{P:Program}{w:World}{K:Frag}{mg:Str->Option Value}{base:Heap}{A:Around}{outer:List Env}{s:Shared}{H:Hp}(e:Env0 P w K mg base A outer s H) :
 Env0 P w K mg base A.in1 outer s H:=⟨e.frames,e.mod,e.bs,e.bsz,e.funs,e.frf,e.hok,e.bare⟩

section
variable{X:Cx}{pins:List (Addr×Obj)}{σ:St}{H:Hp}{s s':Shared}
theorem Inv.env0(I:Inv X pins σ H s):Env0 X.prog X.w X.K X.mg X.base X.A X.stack s H :=
 ⟨I.ok.frames,I.ok.mod,I.bs,Q4 I.ok.bsz I.sz,I.stack,I.stkFree,I.hok,I.bare⟩
theorem Inv.after{Q:VK}{u:Value}(I:Inv X pins σ H s)(h:CE X.stack X.prog X.w H s Q u s'):EP X pins σ Q u s':=by obtain⟨v,H',os,bare,un,hok,r,q⟩:=h;obtain⟨hh,g,d,t,os'⟩:=s';obtain rfl:os'=s.os:=os;exact⟨v,H',I.call (h':=hh) (g':=g) (d':=d) (t':=t) (ch:=[]) un hok bare (fun b z=>absurd z (by simp)),r,q⟩
end

noncomputable def Jed(sp:Sp)(dvs:List V)(E:XK)(t:TA):TE:=fun σ H Q=>t σ H fun vs H1=>sp (vs++dvs) H1 Q E
noncomputable def Jef(C:Addr)(sp:Sp)(dvs:List V)(E:XK)(t:TA):TE:=fun σ H Q=>t σ H fun vs H1=>∀x dx,H1 x=none->H1 dx=none->dx≠x ->
 sp (.ref x::(vs++dvs)) (upd (upd H1 dx (.own x)) x (.ins C dx [])) (fun v H2=>v=.non/\Q (.ref x) H2) E

noncomputable def Binds(K:Frag)(fd:FuncData)(ps:List Str)(ds:List Value):Prop :=
 ∀(s:Shared) (us:List Value),K.In s.heap->(us++ds).length=ps.length->BindsTo s fd ⟨us,[]⟩ (ps.zip (us++ds))
theorem Binds.all{K:Frag}{fd:FuncData}{ps:List Str}(h:∀us:List Value,us.length=ps.length->bindArgs fd ⟨us,[]⟩=pure (ps.zip us)):Binds K fd ps []:=fun s us _ hl=>by rw[Gh] at hl ⊢;exact .of_eq (h us hl)

noncomputable def Wv(CX:CXT)(X:Cx)(E:XK):Prop:=∀(pins:List (Addr×Obj)) (σ:St) (H:Hp) (s:Shared) (e:Value) (s':Shared),Inv X pins σ H s->CX X.stack H s E e s'->X.xe e s'

section
variable{X:Cx}{CX:CXT}{k:Nat}{f C:Addr}{fd:FuncData}{ps:List Str}{sp:Sp}{dvs:List V}{ds:List Value}{E:XK}{x m:Str}{p pos apos:Pos}{e o:Expr}{es:List Expr}{ta:TE}{t:TA}

theorem Jmu{pins:List (Addr×Obj)}{σ:St}{H:Hp}{s:Shared}{Q:VK}{us:List Value}{vs:List V}(F:FnOk X.prog X.w X.K X.mg X.base CX k f fd ps sp)(hr:Room k X.A)(hb:Binds X.K fd ps ds)(hd:Vals dvs ds)(hx:Wv CX X E)
 (I:Inv X pins σ H s) (r:Vals vs us) (h:sp (vs++dvs) H Q E):wpAny (model X.prog X.w) X.A (call (.ref f) us) (EP X pins σ Q) X.xe s:=by
 have r2:Vals (vs++dvs) (us++ds):=r.append hd
 have hl:(us++ds).length=ps.length:=by rw[<- r2.length];exact F.len _ _ _ _ h
 refine wpAny_call (K4 (F.run X.A X.stack s H ⟨us,[]⟩ (us++ds) (vs++dvs) Q E hr I.env0 (hb s us I.kIn hl) r2 h) fun r s' hq=>?_)
 cases r with
 | error e=>exact hx pins σ H s e s' I hq
 | ok fl =>
  cases fl with
  | ret u=>exact I.after hq
  | next=>exact Gv hq
  | brk=>exact Gv hq
  | cont=>exact Gv hq

theorem JiV(F:FnOk X.prog X.w X.K X.mg X.base CX k f fd ps sp)(hr:Room k X.A)(hg:Gl X x)(hm:X.mg x=some (.ref f))(hk:keepIn X.K (.ref f)=true)(hb:Binds X.K fd ps ds)(hd:Vals dvs ds)(hx:Wv CX X E)
 (ha:PA X (e::es) t) (hdb:(x == ("__debug__":Str))=false:=by decide) (he:starEach (e::es) X.env=(false,eval e X.env)::starEach es X.env:=by rfl) (hpl:(backTo pos (starEach es X.env)).any (·.1)=false:=by rfl) :
 PE X (.Call (.Name x p) (e::es) [] pos) (Jed sp dvs E t):=by
 intro pins s σ H Q I h;refine Ko (JaB I hg hm ?_ hdb);refine MO (h₀:=X.base) I.ok.mod.kin hk (thn (ha pos pins s σ H _ I h) fun us s1 ⟨vs,H1,I1,r,q⟩=>⟨I1.kIn,?_⟩) he hpl;exact Jmu F hr hb hd hx I1 r q
structure Mk (K:Frag) (C f:Addr):Prop where
 makes:makesIn K C=true
 init:findIn K (.ref C) "__init__"=some (some (.ref f))
 fn:isFn K (.ref f)=true
 kp:keepIn K (.ref C)=true

theorem Jhk{pins:List (Addr×Obj)}{σ:St}{H:Hp}{s:Shared}{Q:VK}{us:List Value}{vs:List V}(M:Mk X.K C f)(F:FnOk X.prog X.w X.K X.mg X.base CX k f fd ps sp)(hr:Room (k+1) X.A)(hb:Binds X.K fd ps ds)(hd:Vals dvs ds)
 (hx:Wv CX X E) (I:Inv X pins σ H s) (r:Vals vs us)
 (h:∀x dx,H x=none->H dx=none->dx≠x->sp (.ref x::(vs++dvs)) (upd (upd H dx (.own x)) x (.ins C dx [])) (fun v H2=>v=.non/\Q (.ref x) H2) E) :
 wpAny (model X.prog X.w) X.A (call (.ref C) us) (EP X pins σ Q) X.xe s:=by
 have hq:=h (s.heap.objs.size+1) s.heap.objs.size (I.hok.fresh (Nat.le_succ _)) (I.hok.fresh (Qk _)) (Qx (GO _))
 have I2:=Inv.made (C:=C) I
 have r2:Vals (V.ref (s.heap.objs.size+1)::(vs++dvs)) (Value.ref (s.heap.objs.size+1)::(us++ds)):=.cons rfl (r.append hd)
 have hl:(Value.ref (s.heap.objs.size+1)::us++ds).length=ps.length:=by have e:=r2.length;rw[F.len _ _ _ _ hq] at e;exact e.symm
 refine wpAny_call (JgN (f:=f) I.kIn M.makes M.init (beq_iff_eq.mp M.fn) (K4 (F.run _ X.stack _ _ ⟨Value.ref (s.heap.objs.size+1)::us,[]⟩ (Value.ref (s.heap.objs.size+1)::(us++ds)) _ _ E (hr.make C us [])
  (I2.env0.make C us []) (hb _ (Value.ref (s.heap.objs.size+1)::us) I2.kIn hl) r2 hq) fun r s' hq'=>?_))
 cases r with
 | error e=>exact hx pins σ _ _ e s' I2 hq'
 | ok fl =>
  cases fl with
  | ret u=>obtain⟨v,H',I3,rv,ev,q3⟩:=I2.after hq';subst ev;exact⟨rv,⟨V.ref (s.heap.objs.size+1),H',I3,rfl,q3⟩⟩
  | next=>exact Gv hq'
  | brk=>exact Gv hq'
  | cont=>exact Gv hq'
theorem JiY(M:Mk X.K C f)(F:FnOk X.prog X.w X.K X.mg X.base CX k f fd ps sp)(hr:Room (k+1) X.A)(hg:Gl X x)(hm:X.mg x=some (.ref C))(hb:Binds X.K fd ps ds)(hd:Vals dvs ds)(hx:Wv CX X E)
 (ha:PA X (e::es) t) (hdb:(x == ("__debug__":Str))=false:=by decide) (he:starEach (e::es) X.env=(false,eval e X.env)::starEach es X.env:=by rfl) (hpl:(backTo pos (starEach es X.env)).any (·.1)=false:=by rfl) :
 PE X (.Call (.Name x p) (e::es) [] pos) (Jef C sp dvs E t):=by
 intro pins s σ H Q I h;refine Ko (JaB I hg hm ?_ hdb);refine MO (h₀:=X.base) I.ok.mod.kin M.kp (thn (ha pos pins s σ H _ I h) fun us s1 ⟨vs,H1,I1,r,q⟩=>⟨I1.kIn,?_⟩) he hpl;exact Jhk M F hr hb hd hx I1 r q
end

section
variable{X:Cx}{CX:CXT}{k:Nat}{f C:Addr}{fd:FuncData}{ps ks:List Str}{sp:Sp}{E:XK}{x m:Str}{p pos apos kpos:Pos}{e o:Expr}{es:List Expr}{kws:List Keyword}{te ta:TE}{t tk:TA}{nm:Option Str}
structure KBinds (K:Frag) (fd:FuncData) (ps ks:List Str) (g:List Value->List Value->List Value) (gV:List V->List V->List V):Prop where
 to:∀(s:Shared) (us ws:List Value),K.In s.heap->(g us ws).length=ps.length->BindsTo s fd ⟨us,ks.zip ws⟩ (ps.zip (g us ws))
 rel:∀{vs:List V} {us:List Value} {zs:List V} {ws:List Value},Vals vs us->Vals zs ws->Vals (gV vs zs) (g us ws)
variable{g:List Value->List Value->List Value}{gV:List V->List V->List V}
end

structure FnScope (N P:List Str) (sc:Scope):Prop where
 kind:sc.kind=.function
 co:sc.isCoroutine=false
 gen:sc.isGenerator=false
 nd:N.Nodup
 pre:N.take P.length=P
 par:∀x∈P,sc.names.lookup x=some .local\/sc.names.lookup x=some .cell
 nofree:∀y∈sc.names,y.2≠.free

theorem ZF{kindOf:Str->Option NameKind}{x:Str}:∀{binds:List (Str×Value)} {m:Str->Option Value},(∀v,(x,v)∉binds)->bindL kindOf binds m x=m x
 | [],_,_=>rfl
 | (n,v)::r,m,h=>by
  unfold bindL;rw[ZF fun w hw=>h w (Qc _ hw)];split
  ·have:x≠n:=by rintro rfl;exact h v Qd
   simp[this]
  ·rfl
theorem ZD{kindOf:Str->Option NameKind}{x:Str}:∀{binds:List (Str×Value)} {m:Str->Option Value},(∀v,(x,v)∉binds)->bindC kindOf binds m x=m x
 | [],_,_=>rfl
 | (n,v)::r,m,h=>by
  unfold bindC;rw[ZD fun w hw=>h w (Qc _ hw)];split
  ·rfl
  ·have:x≠n:=by rintro rfl;exact h v Qd
   simp[this]
theorem ZE{kindOf:Str->Option NameKind}{x:Str}{v:Value}:∀{P:List Str} {vs:List Value} {i:Nat} {m:Str->Option Value},P.Nodup->P[i]?=some x->vs[i]?=some v->kindOf x=some .local ->
 bindL kindOf (P.zip vs) m x=some v
 | [],_,_,_,_,h,_,_=>by simp at h
 | _::_,[],_,_,_,_,h,_=>by simp at h
 | p::P,w::vs,0,m,nd,h1,h2,hk=>by simp at h1 h2;subst h1;subst h2;show bindL kindOf ((p,w)::P.zip vs) m p=_;unfold bindL;rw[ZF fun v hv=>(Q2.mp nd).1 (Kr hv).1,if_pos hk];simp
 | p::P,w::vs,i+1,m,nd,h1,h2,hk=>by show bindL kindOf ((p,w)::P.zip vs) m x=_;unfold bindL;exact ZE (i:=i) (Q2.mp nd).2 (by simpa using h1) (by simpa using h2) hk
theorem ZC{kindOf:Str->Option NameKind}{x:Str}{v:Value}:∀{P:List Str} {vs:List Value} {i:Nat} {m:Str->Option Value},P.Nodup->P[i]?=some x->vs[i]?=some v->kindOf x≠some .local ->
 bindC kindOf (P.zip vs) m x=some v
 | [],_,_,_,_,h,_,_=>by simp at h
 | _::_,[],_,_,_,_,h,_=>by simp at h
 | p::P,w::vs,0,m,nd,h1,h2,hk=>by simp at h1 h2;subst h1;subst h2;show bindC kindOf ((p,w)::P.zip vs) m p=_;unfold bindC;rw[ZD fun v hv=>(Q2.mp nd).1 (Kr hv).1,if_neg hk];simp
 | p::P,w::vs,i+1,m,nd,h1,h2,hk=>by show bindC kindOf ((p,w)::P.zip vs) m x=_;unfold bindC;exact ZC (i:=i) (Q2.mp nd).2 (by simpa using h1) (by simpa using h2) hk

noncomputable def UE(N:List Str)(vs:List V):St:=vs.map some++QA (N.length-vs.length) none

noncomputable def JeI(CX:CXT)(P:Program)(w:World)(K:Frag)(mg:Str->Option Value)(base:Heap)(N:List Str)(qual:Str)(scope:Scope)(f:Addr)(cd:Value)(A:Around)(outer:List Env)(s:Shared)(H:Hp)(E:XK):Cx where
 prog:=P
 w:=w
 K:=K
 mg:=mg
 base:=base
 A:=A.deeper (envOfC qual scope s.heap.objs.size f cd)
 N:=N
 s₀:=s
 H₀:=H
 env:=envOfC qual scope s.heap.objs.size f cd
 outer:=outer
 stack:=envOfC qual scope s.heap.objs.size f cd::outer
 ex:=[]
 calm:=true
 fn:=fun _=>true
 pn:=[]
 xe:=fun e s'=>wpAny (model P w) (A.deeper (envOfC qual scope s.heap.objs.size f cd)) (leaving (envOfC qual scope s.heap.objs.size f cd) e) (fun _ s''=>CX outer H s E e s'') (fun e' s''=>CX outer H s E e' s'') s'

theorem Ja8{sc:Scope}{n:Nat}{x:Str}(h:sc.names.lookup x=some .cell):∃c,(cellsFrom n sc.names []).lookup x=some c:=by have q:=Mg sc.names n [] (.inl h);exact L1.mp q

theorem JeS{CX:CXT}{P:Program}{w:World}{K:Frag}{mg:Str->Option Value}{base:Heap}{N ps:List Str}{qual:Str}{scope:Scope}{f:Addr}{cd:Value}{A:Around}{outer:List Env}{s s1:Shared}{H:Hp}{E:XK}{us:List Value}{vs:List V}
 (S:FnScope N ps scope) (hd:A.handled=none) (e0:Env0 P w K mg base A outer s H) (hl:vs.length=ps.length) (r:Vals vs us)
 (x:InCallC s s.heap.objs.size (bindL (envOfC qual scope s.heap.objs.size f cd).kindOf (ps.zip us) fun _=>none) (cellsFrom (s.heap.objs.size+1) scope.names []) (bindC (envOfC qual scope s.heap.objs.size f cd).kindOf (ps.zip us) fun _=>none) s1) :
 Inv (JeI CX P w K mg base N qual scope f cd A outer s H E) [] (UE N vs) H s1:=by
 have hpl:ps.length<=N.length:=by have:=congrArg List.length S.pre;rw[KG] at this;omega
 obtain⟨h1,tk,rfl,hk⟩:=x.done;have noA:∀b:Addr,b∉(JeI CX P w K mg base N qual scope f cd A outer s H E).ex:=fun b z=>absurd (show b∈([]:List Addr) from z) (by simp)
 refine⟨⟨e0.mod,S.kind,rfl,rfl,Qk _,fun y z c h1 h2=>?_,fun y hy=>?_,fun y c _ h=>?_,fun _=>hd,Around.frames_deeper e0.frames,.inr ⟨rfl,rfl⟩,fun b z=>absurd z (noA b),e0.bs,e0.bsz,fun b _ _=>noA b,fun b z=>absurd z (noA b),e0.funs,e0.frf⟩,
  rfl,e0.bare,Un.kept hk,⟨_,x.toInCall.ns,fun i y v h1 h2 h3=>?_⟩,fun y c h=>⟨_,x.cell y c h⟩,e0.hok.fresh (Qk _),fun y c h=>?_,fun p hp=>absurd (show p∈([]:List (Addr×Obj)) from hp) (by simp),e0.hok.kept hk,?_⟩
 ·exact name_of_addr x.apart (GK h1) (GK h2)
 ·have hy:scope.names.lookup y=some .cell\/scope.names.lookup y=some .free:=hy;rcases hy with hy|hy
  ·exact Ja8 hy
  ·exact absurd rfl (S.nofree _ (GK hy))
 ·exact GM (x.above y c (GK h))
 ·have hi:i<vs.length:=by
   unfold UE at h2
   by_cases hi:i<vs.length
   ·exact hi
   ·rw[QR (by simpa using hi)] at h2;rw[L6] at h2;split at h2 <;> cases h2
  have ha:vs[i]?=some v:=by
   unfold UE at h2;rw[QJ (by simpa using hi),Qn] at h2
   cases e:vs[i]? with
   | none=>rw[e] at h2;cases h2
   | some a=>rw[e] at h2;cases h2;rfl
  obtain⟨u,hu,rv⟩:=r.get ha
  have hp:ps[i]?=some y:=by rw[<- S.pre,List.getElem?_take_of_lt (by omega)];exact h1
  have ndP:ps.Nodup:=by rw[<- S.pre];exact S.nd.sublist (List.take_sublist _ _)
  refine⟨u,rv,?_⟩;rcases S.par y (Q6 hp) with k|k
  ·exact .inl ⟨k,ZE ndP hp hu k⟩
  ·obtain⟨c,e⟩:=Ja8 (n:=s.heap.objs.size+1) k;refine .inr ⟨.inl k,c,e,?_⟩;have q:=x.cell y c e;rw[ZC ndP hp hu (by show scope.names.lookup y≠_;rw[k];decide)] at q;exact q
 ·exact e0.hok.fresh (GM (x.above y c (GK h)))
 ·unfold UE;show _=N.length;rw[QC,Qq,Ky];omega

theorem JnA{CX:CXT}{P:Program}{w:World}{K:Frag}{mg:Str->Option Value}{base:Heap}{k:Nat}{f:Addr}{name qual:Str}{params:Arguments}{body:List Stmt}{scope:Scope}{dV kV doc pm cdv ct oc:Value}{an od:Option Addr}
 {osl:Array (Option Value)} {N ps:List Str} {sp:Sp} (lk:K.lookup f=some ⟨oc,od,.func (fnOf name qual params body scope dV kV doc pm an cdv ct),osl⟩) (hcd:codeIn K cdv qual=true) (S:FnScope N ps scope)
 (len:∀vs H Q E,sp vs H Q E->vs.length=ps.length)
 (hbody:∀(A:Around) (outer:List Env) (s:Shared) (H:Hp) (vs:List V) (Q:VK) (E:XK),Room k (A.deeper (envOfC qual scope s.heap.objs.size f cdv))->sp vs H Q E ->
  ∃t,PSs (JeI CX P w K mg base N qual scope f cdv A outer s H E) body t/\t { nx:=fun _ H'=>Q .non H',rt:=Q } (UE N vs) H) :
 FnOk P w K mg base CX (k+1) f (fnOf name qual params body scope dV kV doc pm an cdv ct) ps sp:=by
 refine⟨len,fun A outer s H args us vs Q E hr e0 hb r hsp=>?_⟩;have hl:=len _ _ _ _ hsp;have KX:K.In s.heap:=e0.mod.kin.keeps fun b o e=>(e0.bs b o e).1
 have lim:s.heap.NoLimit:=e0.mod.nolimit.keeps fun b o e=>(e0.bs b o e).1
 have hkind:∀y∈ps.zip us,scope.names.lookup y.1=some .local\/(scope.names.lookup y.1=some .cell/\((cellsFrom (s.heap.objs.size+1) scope.names []).lookup y.1).isSome=true):=fun⟨n,v⟩ hy=>by
  rcases S.par n (Kr hy).1 with q|q
  ·exact .inl q
  ·exact .inr ⟨q,Mg _ _ _ (.inl q)⟩
 refine codeAny_call_function hr.depth (KX _ _ lk) rfl S.co S.gen rfl (PySem.W.codeRec_of KX hcd) (hb _ _ _ _ ?_);refine wpAny_newFunctionEnv_cells S.kind hkind fun env he s1 x=>?_
 subst he;refine⟨lim.keeps x.toInCall.keep,codeAny_func ?_⟩;obtain⟨t,ht,hq⟩:=hbody A outer s H vs Q E (hr.deeper _) hsp;have I:Inv (JeI CX P w K mg base N qual scope f cdv A outer s H E) [] (UE N vs) H s1:=JeS S hr.hd e0 hl r x;refine LF (ht [] s1 (UE N vs) H _ I hq) (fun fl s' hs=>?_) fun e s' hs=>hs
 have fin:∀{σ':St} {H':Hp} {v:V} {u:Value},Inv (JeI CX P w K mg base N qual scope f cdv A outer s H E) [] σ' H' s'->RelV v u->Q v H'->CE outer P w H s Q u s' :=
  fun {σ' H' v u} J rv q=>⟨v,H',J.os,J.bare,J.base,J.hok,rv,q⟩
 cases fl with
 | ret u=>obtain⟨v,σ',H',J,rv,q⟩:=hs;exact fin J rv q
 | next=>obtain⟨σ',H',J,q⟩:=hs;exact fin (v:=V.non) (u:=Value.none) J rfl q
 | brk=>obtain⟨_,_,_,q⟩:=hs;exact Gv q
 | cont=>obtain⟨_,_,_,q⟩:=hs;exact Gv q
end L2

namespace L2
open PySem PySem.Spec PyProof.Rows
section
variable{X:Cx}{x:Str}{p pos:Pos}{e:Expr}{es:List Expr}{t:TA}{id T:String}{r:List V->Hp->VK->Prop}

noncomputable def tCB(r:List V->Hp->VK->Prop)(t:TA):TE:=fun σ H Q=>t σ H fun vs H1=>r vs H1 Q
theorem Jx(hc:CallR X (.builtin id) r)(hg:Gl X x)(hm:X.mg x=none)(hv:bootBuiltins x=some (.builtin id))(ha:PA X (e::es) t)(hn:x≠"__name__":=by decide)(hdb:(x == ("__debug__":Str))=false:=by decide)
 (he:starEach (e::es) X.env=(false,eval e X.env)::starEach es X.env:=by rfl) (hpl:(backTo pos (starEach es X.env)).any (·.1)=false:=by rfl):PE X (.Call (.Name x p) (e::es) [] pos) (tCB r t):=by
 intro pins s σ H Q I h;refine Ko (UH I hg hm hv ?_ hn hdb);exact PyProof.Rows.callWith_builtin1 (thn (ha pos pins s σ H _ I h) fun us s1 ⟨vs,H1,I1,r1,q1⟩=>hc pins s1 σ H1 vs us Q I1 r1 q1) he hpl
theorem VX(hc:CallR X (.type T) r)(hg:Gl X x)(hm:X.mg x=none)(hv:bootBuiltins x=some (.type T))(ha:PA X (e::es) t)(hn:x≠"__name__":=by decide)(hdb:(x == ("__debug__":Str))=false:=by decide)
 (he:starEach (e::es) X.env=(false,eval e X.env)::starEach es X.env:=by rfl) (hpl:(backTo pos (starEach es X.env)).any (·.1)=false:=by rfl):PE X (.Call (.Name x p) (e::es) [] pos) (tCB r t):=by
 intro pins s σ H Q I h;refine Ko (UH I hg hm hv ?_ hn hdb);exact Gu (thn (ha pos pins s σ H _ I h) fun us s1 ⟨vs,H1,I1,r1,q1⟩=>hc pins s1 σ H1 vs us Q I1 r1 q1) he hpl
end
end L2

namespace HT
open PySem PyProof.Rows

section
open PySem.SeqAt
open PySem.AutoSeq1 (wpAny_loadPart')
open PySem.MeetsSeq PySem.MeetsSeq2 PySem.MeetsSeq3

end

section
variable{prog:Program}{w:World}{A:Around}{E:Value->Shared->Prop}{s:Shared}

theorem JhX{t b:Addr}{vs ws:List Value}{Q:Value->Shared->Prop}(ht:IsTup s.heap t vs.toArray)(hb:IsTup s.heap b ws.toArray)(hv:vs≠[])
 (h1:ws=[]->Q (.ref t) s) (h2:ws≠[]->Q (.ref s.heap.objs.size) { s with heap:=s.heap.push { cls:=.type "tuple",data:=.seq (vs++ws).toArray } })
 (hsz:vs.length+ws.length<=sizeLine):wpAny (model prog w) A (binaryOp .Add (.ref t) (.ref b)) Q E s:=by
 obtain⟨⟨cls,dd,data,sl⟩,ho,hc,n,hd⟩:=id ht;obtain⟨⟨cls2,dd2,data2,sl2⟩,ho2,hc2,n2,hd2⟩:=id hb;simp only at hc hd hc2 hd2;subst hc hd hc2 hd2;have e:vs.toArray++ws.toArray=(vs++ws).toArray:=by simp
 by_cases hw:ws=[]
 ·exact concat_meets ⟨_,ho,rfl⟩ ⟨_,ho2,rfl⟩ noFill_tuple_add seq_tuple_add Mh L7 (L3 _ _)
   (tuple_addW1 t b vs.toArray ws.toArray n n2 dd dd2 sl sl2 (by simpa using hv) (by simp[hw])) ⟨ho,ho2,h1 hw⟩
 ·refine concat_meets ⟨_,ho,rfl⟩ ⟨_,ho2,rfl⟩ noFill_tuple_add seq_tuple_add Mh L7 (L3 _ _)
   (tuple_addW2 t b vs.toArray ws.toArray n n2 dd dd2 sl sl2 (by simpa using hv) (by simpa using hw) (by rw[Qm,Qm];exact hsz)) ⟨ho,ho2,?_⟩
  rw[e];exact h2 hw

noncomputable def sIx(n d:Nat):Option Int->Nat
 | none=>d
 | some v=>if v<0 then(v+(n:Int)).toNat else min v.toNat n
theorem JbR(n d:Nat):sIx n d none=d:=rfl
theorem Jjr(n d k:Nat):sIx n d (some (k:Int))=min k n:=by show(if (k:Int)<0 then((k:Int)+(n:Int)).toNat else min (k:Int).toNat n)=min k n;rw[if_neg (by omega),K5]
theorem Jmw(n d:Nat)(hd:d<=n)(o:Option Int):sIx n d o<=n:=by
 cases o with
 | none=>exact hd
 | some v =>
  show(if v<0 then(v+(n:Int)).toNat else min v.toNat n)<=n
  by_cases hv:v<0
  ·rw[if_pos hv];omega
  ·rw[if_neg hv];exact Nat.min_le_right _ _
theorem Jdk(v:Int)(n d:Nat):(if v<0 then max (v+(n:Int)) 0 else min v (n:Int))=((sIx n d (some v):Nat):Int):=by
 show(if v<0 then max (v+(n:Int)) 0 else min v (n:Int))=(((if v<0 then(v+(n:Int)).toNat else min v.toNat n):Nat):Int)
 by_cases hv:v<0
 ·simp only[if_pos hv];omega
 ·simp only[if_neg hv];omega
theorem Jce(lo hi:Option Int)(n:Nat):KL lo hi 1 (n:Int)=(((sIx n 0 lo:Nat):Int),((sIx n n hi:Nat):Int)):=by
 have h1:¬((1:Int)<0):=by omega
 unfold KL;simp only[h1,if_false];refine KO ?_ ?_
 ·cases lo with
  | none=>rfl
  | some v=>exact Jdk v n 0
 ·cases hi with
  | none=>rfl
  | some v=>exact Jdk v n n
theorem JcQ(i j:Nat):GW (i:Int) (j:Int) 1=j-i:=by
 unfold GW;have h1:(1:Int)>0:=by omega
 simp only[h1,if_true,Int.ediv_one];split <;> omega
theorem Zb{v:Value}{o:Option Int}{Q:Option Int->Shared->Prop}(p:IsPart v o)(h:Q o s):wpAny (model prog w) A (Builtin.Slice.slicePartIndex v) Q E s:=by
 cases p with
 | none=>exact slicePart_none h
 | int i t=>exact slicePart_int h
theorem Uv{sl:Addr}{vl vu:Value}{lo hi:Option Int}{n:Nat}{Q:Int×Int×Nat->Shared->Prop}(hs:s.heap.IsSliceOf sl vl vu .none)(pl:IsPart vl lo)(pu:IsPart vu hi)
 (h:Q (((sIx n 0 lo:Nat):Int),1,sIx n n hi-sIx n 0 lo) s):wpAny (model prog w) A (LJ (.ref sl) (pure (n:Int))) Q E s:=by
 obtain⟨os,hos,hcs,hds⟩:=id hs;unfold LJ Builtin.Slice.sliceFields;refine Qa (Qa (QM hos hds (x:=vl) rfl (Qa (QM hos hds (x:=vu) rfl (Qa (QM hos hds (x:=.none) rfl (Qi ?_)))))));refine Qa (slicePart_none ?_);show wpAny _ _ (if ((1:Int) == 0)=true then _ else _) _ _ s;rw[if_neg (by decide)];refine Qa (Zb pl (Qa (Zb pu (Qa (Qi ?_)))))
 show wpAny _ _ (match KL lo hi 1 (n:Int) with|(lo,hi)=>pure (lo,(1:Int),GW lo hi 1)) _ _ s;rw[Jce lo hi n]
 show wpAny _ _ (pure (((sIx n 0 lo:Nat):Int),(1:Int),GW ((sIx n 0 lo:Nat):Int) ((sIx n n hi:Nat):Int) 1)) _ _ s;rw[JcQ];exact Qi h
theorem Jg0(xs:Array Value)(i k:Nat):((GQ k).filterMap fun(m:Nat)=>xs[((i:Int)+(m:Int)*1).toNat]?).toArray=((xs.toList.drop i).take k).toArray:=by
 have e:(fun(m:Nat)=>xs[((i:Int)+(m:Int)*1).toNat]?)=fun m=>xs[i+m]?:=by
  funext m
  have:((i:Int)+(m:Int)*1).toNat=i+m:=by omega
  rw[this]
 rw[e];have:=pick_run xs i k;rw[List.filterMap_map] at this;have e2:((fun x=>xs[x]?) ∘ fun x=>i+x)=fun m=>xs[i+m]?:=rfl
 rw[e2] at this;rw[this]

theorem Vo{t sl:Addr}{items:Array Value}{vl vu:Value}{lo hi:Option Int}{Q:Value->Shared->Prop}(ht:IsTup s.heap t items)(hs:s.heap.IsSliceOf sl vl vu .none)(pl:IsPart vl lo)(pu:IsPart vu hi)
 (hw:¬(sIx items.size 0 lo=0/\sIx items.size items.size hi=items.size))
 (h:Q (.ref s.heap.objs.size) { s with heap:=s.heap.push { cls:=.type "tuple",data:=.seq ((items.toList.drop (sIx items.size 0 lo)).take (sIx items.size items.size hi-sIx items.size 0 lo)).toArray } })
 (hsz:items.size<=sizeLine):wpAny (model prog w) A (getItem (.ref t) (.ref sl)) Q E s:=by
 have htake:sizeOk (.seq ((items.toList.drop (sIx items.size 0 lo)).take (sIx items.size items.size hi-sIx items.size 0 lo)).toArray):=by show((items.toList.drop (sIx items.size 0 lo)).take (sIx items.size items.size hi-sIx items.size 0 lo)).toArray.size<=sizeLine;rw[Qm,KG,GP,QQ];omega
 have hj:sIx items.size items.size hi<=items.size:=Jmw _ _ (Qk _) hi;obtain⟨os,hos,hcs,hds⟩:=id hs
 have hTs:s.TypeIs (.ref sl) "slice":=⟨os,hos,hcs⟩
 unfold getItem
 try with_reducible refine Kv ?_
 first|refine Qa (Qi ?_)|skip
 refine Qa (wpAny_sequenceKey ht.typeIs (by decide) ?_);refine Qa (QS (name:=Ge "__getitem__") ht.typeIs QO
  (Gd QO ht.typeIs entry_tuple_getitem ?_ (args_tuple_getitem _ _)))
 show wpAny _ _ (LL (.ref t) >>= _) _ _ s;refine Qa (tupleItemsOf_ ht ?_);refine Qa (wpAny_typeOf hTs ?_);rw[if_pos (by decide)];refine Qa (Uv hs pl pu ?_)
 have hno:¬((((sIx items.size 0 lo:Nat):Int) == 0 && (1:Int) == 1 && (sIx items.size items.size hi-sIx items.size 0 lo) == items.size)=true):=by intro q;rw[QK,QK] at q;have q1:((sIx items.size 0 lo:Nat):Int)=0:=eq_of_beq q.1.1;have q2:sIx items.size items.size hi-sIx items.size 0 lo=items.size:=eq_of_beq q.2;exact hw ⟨by omega,by omega⟩
 show wpAny _ _ (if (((sIx items.size 0 lo:Nat):Int) == 0 && (1:Int) == 1 && (sIx items.size items.size hi-sIx items.size 0 lo) == items.size)=true then _ else _) _ _ s;rw[if_neg hno,Jg0]
 first
  | exact Qa (m:=G6 _) (Q9 (Qi ⟨_,rfl,Qi h⟩) htake)
  | exact Qa (m:=G6 _) (Q9 (Qa (Qi (Qi ⟨_,rfl,Qi h⟩))) htake)
  | exact Qa (Qa (m:=G6 _) (Q9 (Qi (Qi ⟨_,rfl,Qi h⟩)) htake))
  | exact Qa (Qa (m:=G6 _) (Q9 (Qi ⟨_,rfl,Qi h⟩) htake))
end
end HT

namespace L2
open PySem PySem.Spec PyProof.Rows

noncomputable abbrev TO:=St->Hp->(Option Int->Hp->Prop)->Prop
noncomputable def PO(X:Cx)(e:Option Expr)(t:TO):Prop :=
 ∀(pins:List (Addr×Obj)) (s:Shared) (σ:St) (H:Hp) (Q:Option Int->Hp->Prop),Inv X pins σ H s->t σ H Q ->
  wpAny (model X.prog X.w) X.A (evalPart e X.env) (fun u s'=>∃o H',Inv X pins σ H' s'/\IsPart u o/\Q o H') X.xe s
noncomputable def Jeg:TO:=fun _ H Q=>Q none H
noncomputable def Jkn(t:TE):TO:=fun σ H Q=>t σ H fun x H1=>∃i,x=.int i/\Q (some i) H1

theorem U7{ns:List Int}:∀{us:List Value},Vals (ns.map V.int) us->IntsAre us ns:=by
 induction ns with
 | nil=>intro us r;rw[GN] at r;cases r;exact .nil
 | cons n ns ih =>
  intro us r;rw[Qe] at r
  cases r with
  | cons r1 r2=>obtain⟨t,e⟩:=r1;subst e;exact .cons n t (ih r2)

section
variable{X:Cx}{e:Expr}{te:TE}{lo hi:Option Expr}{tl th:TO}{pos p2:Pos}

theorem Wo:PO X none Jeg:=by intro pins s σ H Q I h;rw[evalPart_none];exact Qi ⟨none,H,I,.none,h⟩
theorem Wp(h:PE X e te):PO X (some e) (Jkn te):=by
 intro pins s σ H Q I hw;rw[evalPart_some];refine thn (h pins s σ H _ I hw) fun u s1 ⟨x,H1,I1,r1,q1⟩=>?_
 obtain⟨i,rfl,q⟩:=q1;obtain⟨t,rfl⟩:=r1;exact⟨some i,H1,I1,.int i t,q⟩

noncomputable def SlR(X:Cx)(r:V->Option Int->Option Int->Hp->VK->Prop):Prop :=
 ∀(pins:List (Addr×Obj)) (s:Shared) (σ:St) (H:Hp) (x:V) (v vl vu:Value) (lo hi:Option Int) (sl:Addr) (Q:VK),Inv X pins σ H s->RelV x v->s.heap.IsSliceOf sl vl vu .none->IsPart vl lo->IsPart vu hi->r x lo hi H Q ->
  ∃T id,typeLookup (.type T) "__getitem__"=pure (some (.builtin id))/\s.TypeIs v T/\wpAny (model X.prog X.w) X.A (getItem v (.ref sl)) (EP X pins σ Q) X.xe s
theorem SlR.or{r r':V->Option Int->Option Int->Hp->VK->Prop}(h:SlR X r)(h':SlR X r'):SlR X (fun x lo hi H Q=>r x lo hi H Q\/r' x lo hi H Q):=by
 intro pins s σ H x v vl vu lo hi sl Q I rx hs pl pu q;rcases q with q|q
 ·exact h pins s σ H x v vl vu lo hi sl Q I rx hs pl pu q
 ·exact h' pins s σ H x v vl vu lo hi sl Q I rx hs pl pu q
noncomputable def tSl(r:V->Option Int->Option Int->Hp->VK->Prop)(te:TE)(tl th:TO):TE:=fun σ H Q=>te σ H fun x H1=>tl σ H1 fun l H2=>th σ H2 fun u H3=>r x l u H3 Q
theorem VB{r:V->Option Int->Option Int->Hp->VK->Prop}(hr:SlR X r)(he:PE X e te)(hl:PO X lo tl)(hu:PO X hi th):PE X (.Subscript e (.Slice lo hi none p2) pos) (tSl r te tl th):=by
 intro pins s σ H Q I h;refine Subscript_ (thn (he pins s σ H _ I h) fun v s1 ⟨x,H1,I1,r1,q1⟩=>?_);refine wpAny_Slice (thn (hl pins s1 σ H1 _ I1 q1) fun vl s2 ⟨l,H2,I2,pl,q2⟩=>thn (hu pins s2 σ H2 _ I2 q2) fun vu s3 ⟨u,H3,I3,pu,q3⟩=>?_);rw[evalPart_none];refine Qi ?_;have I4:Inv X pins σ H3 { s3 with heap:=s3.heap.push { cls:=.type "slice",data:=.fields #[vl,vu,.none] } }:=I3.kept (t':=s3.toks) fun b ob q=>Qf _ q
 obtain⟨T,id,hT,ht,hg⟩:=hr pins { s3 with heap:=s3.heap.push { cls:=.type "slice",data:=.fields #[vl,vu,.none] } } σ H3 x v vl vu l u s3.heap.objs.size Q I4 r1 (Heap.IsSliceOf.new ..) pl pu q3;show wpAny (model X.prog X.w) X.A (subscriptTail e (.Slice lo hi none p2) v (.ref s3.heap.objs.size)) (EP X pins σ Q) X.xe { s3 with heap:=s3.heap.push { cls:=.type "slice",data:=.fields #[vl,vu,.none] } };exact tail_any (ops:=[.ref s3.heap.objs.size,v]) ht hT hg (by with_unfolding_all rfl)

noncomputable def Zo(xs:List V)(lo hi:Option Int):List V:=(xs.drop (HT.sIx xs.length 0 lo)).take (HT.sIx xs.length xs.length hi-HT.sIx xs.length 0 lo)
theorem V3(xs:List V)(lo hi:Option Int):(Zo xs lo hi).length<=xs.length:=by unfold Zo;rw[KG,GP];omega
noncomputable def Jn5(K:Frag):V->Option Int->Option Int->Hp->VK->Prop:=fun x lo hi H Q=>∃a xs,x=.ref a/\SqT K H a xs ∧
 ¬(HT.sIx xs.length 0 lo=0/\HT.sIx xs.length xs.length hi=xs.length)/\∀p,H p=none->Q (.ref p) (upd H p (.tup (Zo xs lo hi)))
theorem sl_tup:SlR X (Jn5 X.K):=by
 intro pins s σ H x v vl vu lo hi sl Q I rx hs pl pu h;obtain⟨a,xs,rfl,hx,hw,q⟩:=h;cases rx;obtain⟨its,r,ht,hz⟩:=I.tuple hx;have hlen:its.toArray.size=xs.length:=by rw[Qm];exact r.length.symm
 refine⟨"tuple",_,QO.lookup,ht.typeIs,?_⟩;refine HT.Vo ht hs pl pu (by rw[hlen];exact hw) ?_ (by rw[hlen];exact hz);rw[hlen];refine⟨.ref s.heap.objs.size,_,I.laid (t':=s.toks) (o:=.tup (Zo xs lo hi)) (fun b ob q=>Qf _ q) (Qk _) ?_,rfl,q _ (I.hok.fresh (Qk _))⟩;exact⟨Q4 (V3 xs lo hi) hz,_,(r.drop (HT.sIx xs.length 0 lo)).take (HT.sIx xs.length xs.length hi-HT.sIx xs.length 0 lo),IsTup.new _ _⟩

noncomputable def Jkg(K:Frag):R2:=fun x y H Q=>∃a b xs ys,x=.ref a/\y=.ref b/\SqT K H a xs/\SqT K H b ys/\xs≠[]/\xs.length+ys.length<=sizeLine ∧
 (ys=[]->Q (.ref a) H)/\(ys≠[]->∀p,H p=none->Q (.ref p) (upd H p (.tup (xs++ys))))
theorem Vals.nil_iff{xs:List V}{us:List Value}(r:Vals xs us):us=[]↔xs=[]:=by
 cases r with
 | nil=>simp
 | cons _ _=>simp
theorem JiQ:OpR X (binaryOp .Add) (Jkg X.K):=by
 intro pins s σ H x y v u Q I rx ry h;obtain⟨a,b,xs,ys,rfl,rfl,ha,hb,hx,hz,q1,q2⟩:=h;cases rx;cases ry;obtain⟨its,r1,p1,_⟩:=I.tuple ha;obtain⟨its2,r2,p2,_⟩:=I.tuple hb;refine HT.JhX p1 p2 (fun z=>hx (r1.nil_iff.mp z)) (fun z=>⟨.ref a,H,I,rfl,q1 (r2.nil_iff.mp z)⟩) (fun z=>?_) (by rw[<- r1.length,<- r2.length];exact hz);refine⟨.ref s.heap.objs.size,_,I.laid (t':=s.toks) (o:=.tup (xs++ys)) (fun b ob q=>Qf _ q) (Qk _) ?_,rfl,q2 (fun w=>z (r2.nil_iff.mpr w)) _ (I.hok.fresh (Qk _))⟩
 exact⟨by rw[QC];exact hz,_,r1.append r2,IsTup.new _ _⟩
end
end L2

namespace L2
open PySem PySem.Spec PyProof.Rows

noncomputable def ixN(n:Nat)(i:Int):Option Nat:=if 0<=i then(if i<n then some i.toNat else none) else if -(n:Int)<=i then some (i+n).toNat else none
noncomputable def atI{α:Type}(xs:List α)(i:Int):Option α:=(ixN xs.length i).bind fun j=>xs[j]?
theorem JiC{n:Nat}{i:Int}{j:Nat}(h:ixN n i=some j):seqIndex? i n=some j/\j<n/\-(n:Int)<=i/\i<n:=by
 unfold ixN at h
 by_cases h0:0<=i
 ·rw[if_pos h0] at h
  by_cases h1:i<n
  ·rw[if_pos h1] at h;have e:i.toNat=j:=QG h;exact⟨by rw[seqIndex_of h0 h1,e],by omega,by omega,h1⟩
  ·rw[if_neg h1] at h;cases h
 ·rw[if_neg h0] at h
  by_cases h1:-(n:Int)<=i
  ·rw[if_pos h1] at h;have e:(i+n).toNat=j:=QG h;exact⟨by rw[seqIndex_neg (by omega) h1,e],by omega,h1,by omega⟩
  ·rw[if_neg h1] at h;cases h
theorem Jac{α:Type}{xs:List α}{i:Int}{v:α}(h:atI xs i=some v):∃j,seqIndex? i xs.length=some j/\xs[j]?=some v/\j<xs.length/\-(xs.length:Int)<=i/\i<xs.length:=by
 unfold atI at h
 cases e:ixN xs.length i with
 | none=>rw[e] at h;cases h
 | some j=>rw[e] at h;obtain⟨h1,h2,h3,h4⟩:=JiC e;exact⟨j,h1,h,h2,h3,h4⟩
noncomputable def JhO(b:Expr):Prop:=∀o i,subscripted b false o i=operate [o,i] (getItem o i)
noncomputable def IxR(X:Cx)(r:R2):Prop :=
 ∀(value slice:Expr) (pins:List (Addr×Obj)) (s:Shared) (σ:St) (H:Hp) (x y:V) (v u:Value) (Q:VK),Inv X pins σ H s->RelV x v->RelV y u->r x y H Q ->
  subscripted slice false v u=operate [v,u] (getItem v u)->wpAny (model X.prog X.w) X.A (subscriptTail value slice v u) (EP X pins σ Q) X.xe s
noncomputable def MtR(X:Cx)(id:String)(r:V->List V->Hp->VK->Prop):Prop :=
 ∀(pins:List (Addr×Obj)) (s:Shared) (σ:St) (H:Hp) (x:V) (xs:List V) (v:Value) (us:List Value) (Q:VK),Inv X pins σ H s->RelV x v->Vals xs us->r x xs H Q ->
  wpAny (model X.prog X.w) X.A (call (.builtin id) (v::us)) (EP X pins σ Q) X.xe s
section
variable{X:Cx}{a b:Expr}{ta tb:TE}{pos:Pos}
theorem IxR.or{r r':R2}(h:IxR X r)(h':IxR X r'):IxR X (fun x y H Q=>r x y H Q\/r' x y H Q):=by
 intro value slice pins s σ H x y v u Q I rx ry q hs;rcases q with q|q
 ·exact h value slice pins s σ H x y v u Q I rx ry q hs
 ·exact h' value slice pins s σ H x y v u Q I rx ry q hs
theorem MtR.or{id:String}{r r':V->List V->Hp->VK->Prop}(h:MtR X id r)(h':MtR X id r'):MtR X id (fun x xs H Q=>r x xs H Q\/r' x xs H Q):=by
 intro pins s σ H x xs v us Q I rx rs q;rcases q with q|q
 ·exact h pins s σ H x xs v us Q I rx rs q
 ·exact h' pins s σ H x xs v us Q I rx rs q
theorem Yc{r:R2}(hr:IxR X r)(ha:PE X a ta)(hb:PE X b tb)(hs:JhO b):PE X (.Subscript a b pos) (tOp r ta tb):=by intro pins s σ H Q I h;exact Subscript_ (Jkw ha hb I h fun v u s2 x y H2 I2 rx ry q=>hr a b pins s2 σ H2 x y v u Q I2 rx ry q (hs _ _))

noncomputable def JnX(K:Frag):R2:=fun x y H Q=>∃p xs i v,x=.ref p/\y=.int i/\SqL K H p xs/\atI xs i=some v/\Q v H
noncomputable def JnZ(K:Frag):R2:=fun x y H Q=>∃p xs i v,x=.ref p/\y=.int i/\SqT K H p xs/\atI xs i=some v/\Q v H
noncomputable def JnY:R2:=fun x y H Q=>∃z i c,x=.str z/\y=.int i/\z.length<=sizeLine/\atI z.cps.toList i=some c/\Q (.str ⟨#[c]⟩) H
theorem ix_list:IxR X (JnX X.K):=by
 intro value slice pins s σ H x y v u Q I rx ry h hs;obtain⟨p,xs,i,z,rfl,rfl,hq,he,q⟩:=h;cases rx;obtain⟨t,rfl⟩:=ry;obtain⟨its,r,pl,hz⟩:=I.list hq;obtain⟨j,h1,h2,h3,h4,h5⟩:=Jac he;obtain⟨w,ew,rw'⟩:=r.get h2;have hl:=r.length;have hn:=WV;have fin:EP X pins σ Q w s:=⟨z,H,I,rw',q⟩
 by_cases h0:0<=i
 ·have hj:i.toNat=j:=by rw[seqIndex_of h0 h5] at h1;exact QG h1
  exact item_listR pl.isList h0 (by omega) (by rw[hj];simpa using ew) fin hs
 ·have hj:(i+(its.toArray.size:Int)).toNat=j:=by rw[seqIndex_neg (by omega) h4] at h1;rw[Qm,<- hl];exact QG h1
  exact subscriptTail_builtinR (x:=w) pl.isList.typeIs slot_list_getitem.lookup
   (wpAny_getItem_list_neg (Q:=fun r s'=>r=w/\EP X pins σ Q r s') pl.isList (by omega) (by rw[Qm] <;> omega) (by omega) (by rw[hj];simpa using ew) ⟨rfl,fin⟩) hs
theorem ix_tup:IxR X (JnZ X.K):=by
 intro value slice pins s σ H x y v u Q I rx ry h hs;obtain⟨p,xs,i,z,rfl,rfl,hq,he,q⟩:=h;cases rx;obtain⟨t,rfl⟩:=ry;obtain⟨its,r,pl,hz⟩:=I.tuple hq;obtain⟨j,h1,h2,h3,h4,h5⟩:=Jac he;obtain⟨w,ew,rw'⟩:=r.get h2;have hl:=r.length;have hn:=WV;have fin:EP X pins σ Q w s:=⟨z,H,I,rw',q⟩
 exact subscriptTail_builtinR (x:=w) pl.typeIs slot_tuple_getitem.lookup
  (getItem_tuple (j:=j) (Q:=fun r s'=>r=w/\EP X pins σ Q r s') pl (by omega) (by omega) (by rw[Qm,<- hl];exact h1) (by simpa using ew) ⟨rfl,fin⟩) hs
theorem Jk9:IxR X JnY:=by
 intro value slice pins s σ H x y v u Q I rx ry h hs;obtain⟨z,i,c,rfl,rfl,hz,he,q⟩:=h;obtain⟨t,rfl⟩:=rx;obtain⟨t',rfl⟩:=ry;obtain⟨j,h1,h2,h3,h4,h5⟩:=Jac he;have hl:z.cps.toList.length=z.length:=by simp[Str.length]
 rw[hl] at h1 h4 h5;have hn:=WV;exact tail_any (typeIs_str s z t) slot_str_getitem.lookup (getItem_str (c:=c) (by
  have e1:decide (i < -(2 ^ 63:Int))=false:=decide_eq_false (by omega)
  have e2:decide (i ≥ 2 ^ 63)=false:=decide_eq_false (by omega);rw[e1,e2,Bool.or_false]) (by rw[h1];simpa using h2) ⟨.str ⟨#[c]⟩,H,I.tok _,⟨_,rfl⟩,q⟩) hs
noncomputable def rIx(K:Frag):R2:=fun x y H Q=>JnX K x y H Q\/JnZ K x y H Q\/JnY x y H Q
theorem Jk8:IxR X (rIx X.K):=ix_list.or (ix_tup.or Jk9)

theorem Inv.lst{pins:List (Addr×Obj)}{σ:St}{H:Hp}{s:Shared}{p:Addr}{xs:List V}(I:Inv X pins σ H s)(h:H p=some (.lst xs)) :
 ∃(its:List Value) (n:Nat),Vals xs its/\s.heap.get? p=some { cls:=.type "list",data:=.seq its.toArray n }/\xs.length<=sizeLine:=by
 obtain⟨z,its,n,r,e⟩:=I.hok p _ h;exact⟨its,n,r,e,z⟩
theorem JaV(lo hi:Option Int)(n:Nat):(sliceBounds lo hi none n).1=((HT.sIx n 0 lo:Nat):Int)/\(sliceBounds lo hi none n).2.1=((HT.sIx n n hi:Nat):Int)/\(sliceBounds lo hi none n).2.2=1:=by
 refine⟨?_,?_,rfl⟩
 ·cases lo with
  | none=>simp[sliceBounds,HT.sIx]
  | some i =>
   simp only[sliceBounds,HT.sIx,Option.getD_none,show(1:Int)>0 by decide,if_true]
   by_cases h:i<0
   ·simp only[h,if_true] <;> omega
   ·simp only[h,if_false] <;> omega
 ·cases hi with
  | none=>simp[sliceBounds,HT.sIx]
  | some i =>
   simp only[sliceBounds,HT.sIx,Option.getD_none,show(1:Int)>0 by decide,if_true]
   by_cases h:i<0
   ·simp only[h,if_true] <;> omega
   ·simp only[h,if_false] <;> omega
theorem Zv(its:List Value)(lo hi:Option Int):slicePick its.toArray lo hi none=((its.drop (HT.sIx its.length 0 lo)).take (HT.sIx its.length its.length hi-HT.sIx its.length 0 lo)).toArray:=by obtain⟨h1,h2,h3⟩:=JaV lo hi its.toArray.size;unfold slicePick;rw[h1,h2,h3];simp only[sliceRange_one,pick_run,Qm] <;> rfl
noncomputable def Jn4(K:Frag):V->Option Int->Option Int->Hp->VK->Prop:=fun x lo hi H Q=>∃a xs,x=.ref a/\SqL K H a xs/\∀p,H p=none->Q (.ref p) (upd H p (.lst (Zo xs lo hi)))
theorem sl_list:SlR X (Jn4 X.K):=by
 intro pins s σ H x v vl vu lo hi sl Q I rx hs pl pu h;obtain⟨a,xs,rfl,hx,q⟩:=h;cases rx;obtain⟨its,r,ht,hz⟩:=I.list hx;have hlen:=r.length;refine⟨"list",_,slot_list_getitem.lookup,ht.isList.typeIs,?_⟩;refine wpAny_getItem_list_slice ht.isList hs pl pu .none (by simp) ?_ (by rw[Qm] <;> omega);rw[Zv,<- hlen];refine⟨.ref s.heap.objs.size,_,I.laid (t':=s.toks) (o:=.lst (Zo xs lo hi)) (fun b ob q=>Qf _ q) (Qk _) ?_,rfl,q _ (I.hok.fresh (Qk _))⟩
 exact⟨Q4 (V3 xs lo hi) hz,_,0,(r.drop (HT.sIx xs.length 0 lo)).take (HT.sIx xs.length xs.length hi-HT.sIx xs.length 0 lo),Qj _ rfl⟩

theorem CallR.or{f:Value}{r r':List V->Hp->VK->Prop}(h:CallR X f r)(h':CallR X f r'):CallR X f (fun xs H Q=>r xs H Q\/r' xs H Q):=by
 intro pins s σ H xs us Q I rs q;rcases q with q|q
 ·exact h pins s σ H xs us Q I rs q
 ·exact h' pins s σ H xs us Q I rs q
theorem Zn:CallR X (.type "tuple") (fun xs H Q=>∃p ys,xs=[.ref p]/\((SqL X.K H p ys/\∀l,H l=none->Q (.ref l) (upd H l (.tup ys)))\/(SqT X.K H p ys/\Q (.ref p) H))):=by
 intro pins s σ H xs us Q I r h;obtain⟨p,ys,rfl,h⟩:=h;obtain⟨u,rfl,rx⟩:=UZ r;cases rx;rcases h with ⟨hq,q⟩|⟨hq,q⟩
 ·obtain⟨its,r',pl,hz⟩:=I.list hq;have hlen:=r'.length;refine call_tuple_list pl.isList (fun h' kp=>?_) (by simp only[Qm] <;> omega);have I1:Inv X pins σ H { s with heap:=h' }:=I.kept (t':=s.toks) kp
  have I2:Inv X pins σ (upd H h'.objs.size (.tup ys)) { s with heap:=h'.push { cls:=.type "tuple",data:=.seq its.toArray } } :=
   I1.laid (t':=s.toks) (fun b o e=>Qf _ e) (Qk _) (show ObjOk X.prog X.w _ _ _ (.tup ys) from⟨hz,its,r',IsTup.new _ _⟩)
  exact⟨.ref h'.objs.size,_,I2,rfl,q _ (I1.hok.fresh (Qk _))⟩
 ·obtain⟨its,r',pl,hz⟩:=I.tuple hq;exact call_tuple_same pl ⟨.ref p,H,I,rfl,q⟩

noncomputable def tyV(K:Frag)(T:String)(x:V)(H:Hp):Prop:=match x with
 | .str _=>T="str"
 | .int _=>T="int"
 | .ref p=>(T="list"/\∃xs,SqL K H p xs)\/(T="tuple"/\∃o,K.lookup p=some o/\o.cls=.type "tuple"/\o.dict=none) ∨
  (T="dict"/\((∃kvs,H p=some (.dK kvs))\/∃kvs,H p=some (.dT kvs)))\/(T="set"/\∃S n,H p=some (.set S n))
 | _=>False
theorem JhF{pins:List (Addr×Obj)}{σ:St}{H:Hp}{s:Shared}{T:String}{x:V}{v:Value}(I:Inv X pins σ H s)(r:RelV x v)(ty:tyV X.K T x H) :
 s.TypeIs v T/\∀a,v=.ref a->∃ob,s.heap.get? a=some ob/\ob.dict=none:=by
 cases x with
 | str z=>obtain⟨t,rfl⟩:=r;cases (show T="str" from ty);exact⟨typeIs_str s z t,fun _ e=>nomatch e⟩
 | int i=>obtain⟨t,rfl⟩:=r;cases (show T="int" from ty);exact⟨typeIs_int s i t,fun _ e=>nomatch e⟩
 | ref p =>
  cases r;rcases ty with ⟨rfl,xs,hq⟩|⟨rfl,o,hk,hc,hd⟩|⟨rfl,hk⟩|⟨rfl,S,n,hk⟩
  ·obtain⟨its,_,pl,_⟩:=I.list hq;refine⟨pl.isList.typeIs,fun a e=>?_⟩;cases e;obtain⟨o,n,e,c,hd,_⟩:=pl;exact⟨o,e,hd⟩
  ·refine⟨⟨o,I.kIn p o hk,hc⟩,fun a e=>?_⟩;cases e;exact⟨o,I.kIn _ o hk,hd⟩
  ·have z:∃o,s.heap.get? p=some o/\o.ExactDict:=by
    rcases hk with ⟨kvs,hk⟩|⟨kvs,hk⟩
    ·obtain⟨_,_,_,_,o,_,_,e,ex,_⟩:=I.hok p _ hk;exact⟨o,e,ex⟩
    ·obtain⟨_,_,_,_,o,_,_,e,ex,_⟩:=I.hok p _ hk;exact⟨o,e,ex⟩
   obtain⟨o,e,ex⟩:=z;refine⟨⟨o,e,ex.1⟩,fun a e2=>?_⟩;cases e2;exact⟨o,e,ex.2.1⟩
  ·obtain⟨o,_,_,_,e,ex,_⟩:=I.hok p _ hk;refine⟨⟨o,e,ex.1⟩,fun a e2=>?_⟩;cases e2;exact⟨o,e,ex.2.1⟩
 | _=>exact Gv ty
noncomputable def JmM(K:Frag)(T:String)(r:V->List V->Hp->VK->Prop)(to:TE):TE:=fun σ H Q=>to σ H fun x H1=>tyV K T x H1/\r x [] H1 Q
noncomputable def tBM(K:Frag)(T:String)(r:V->List V->Hp->VK->Prop)(to:TE)(t:TA):TE:=fun σ H Q=>to σ H fun x H1=>tyV K T x H1/\t σ H1 fun xs H2=>r x xs H2 Q
variable{o e:Expr}{es:List Expr}{to:TE}{t:TA}{name:Str}{apos cpos:Pos}{T id:String}{r:V->List V->Hp->VK->Prop}
theorem JlO(pa:PlainAttrs T)(slot:Slot T name id)(hty:typeOf (.builtin id)=pure (.type "method_descriptor"))(hm:MtR X id r)(ho:PE X o to)
 (hbase:attributeBase o name X.env (eval o X.env)=eval o X.env:=by rfl) (hline:(apos.endLine == cpos.line)=true:=by rfl):PE X (.Call (.Attribute o name apos) [] [] cpos) (JmM X.K T r to):=by
 intro pins s σ H Q I h;refine KZ hbase hline (thn (ho pins s σ H _ I h) fun v s1 ⟨x,H1,I1,r1,ty,q1⟩=>?_);obtain⟨h1,h2⟩:=JhF I1 r1 ty;exact⟨T,id,pa,slot,hty,h1,h2,Gw rfl (Lz (hm pins s1 σ H1 x [] v [] Q I1 r1 .nil q1))⟩
theorem JnS(pa:PlainAttrs T)(slot:Slot T name id)(hty:typeOf (.builtin id)=pure (.type "method_descriptor"))(hm:MtR X id r)(ho:PE X o to)(ha:PA X (e::es) t)
 (hbase:attributeBase o name X.env (eval o X.env)=eval o X.env:=by rfl)
 (hfew:((backTo cpos (starEach (e::es) X.env)).all (fun x=>!x.1) && (backToKw cpos (keywordEach [] X.env)).all (fun x=>x.1.isSome)
  && decide ((e::es).length+([]:List Keyword).length+(if ([]:List Keyword).isEmpty then 0 else 1)<30))=true:=by rfl)
 (hline:(apos.endLine == cpos.line)=true:=by rfl) (hs:starEach (e::es) X.env=(false,eval e X.env)::starEach es X.env:=by rfl) (hplain:(backTo cpos (starEach es X.env)).any (·.1)=false:=by rfl) :
 PE X (.Call (.Attribute o name apos) (e::es) [] cpos) (tBM X.K T r to t):=by
 intro pins s σ H Q I h;refine wpAny_Call_method_late hbase hfew hline rfl (thn (ho pins s σ H _ I h) fun v s1 ⟨x,H1,I1,r1,ty,q1⟩=>?_);obtain⟨h1,h2⟩:=JhF I1 r1 ty;refine⟨T,id,pa,slot,hty,h1,h2,?_⟩;have hA:=ha cpos pins s1 σ H1 _ I1 q1;rw[hs] at hA ⊢;refine Gw (by show(false || (backTo cpos (starEach es X.env)).any (·.1))=false;rw[hplain] <;> rfl) (Lk ?_);exact thn hA fun us s2 ⟨vs,H2,I2,r2,q2⟩=>hm pins s2 σ H2 x vs v us Q I2 r1 r2 q2
/- xs.append(e),list.index on a module's tuple .. are MtR facts of 06m -/
end
end L2

namespace L2
open PySem PySem.Spec PyProof.Rows

noncomputable def MtM(X:Cx)(id:String)(r:V->List V->Hp->VK->Prop):Prop :=
 ∀(pins:List (Addr×Obj)) (s:Shared) (σ:St) (H:Hp) (x:V) (xs:List V) (v:Value) (us:List Value) (Q:VK),Inv X pins σ H s->RelV x v->Vals xs us->r x xs H Q ->
  wpAny (model X.prog X.w) X.A (call (.builtin id) (v::us)) (EP X pins σ Q) X.xe s

theorem Vals.one:∀{x:V} {us:List Value},Vals [x] us->∃u,us=[u]/\RelV x u
 | _,_,.cons r .nil=>⟨_,rfl,r⟩
theorem Vals.two:∀{x y:V} {us:List Value},Vals [x,y] us->∃u v,us=[u,v]/\RelV x u/\RelV y v
 | _,_,_,.cons r (.cons q .nil)=>⟨_,_,rfl,r,q⟩
theorem Vals.zero:∀{us:List Value},Vals [] us->us=[]
 | _,.nil=>rfl
theorem Vals.dropLast{xs:List V}{us:List Value}(h:Vals xs us):Vals xs.dropLast us.dropLast:=by
 induction h with
 | nil=>exact .nil
 | cons r t ih =>
  cases t with
  | nil=>exact .nil
  | cons q t'=>exact .cons r ih
theorem Vals.eraseIdx:∀{xs:List V} {us:List Value} (i:Nat),Vals xs us->Vals (xs.eraseIdx i) (us.eraseIdx i)
 | _,_,_,.nil=>.nil
 | _,_,0,.cons _ t=>t
 | _,_,i+1,.cons r t=>.cons r (Vals.eraseIdx i t)
theorem Vals.reverse{xs:List V}{us:List Value}(h:Vals xs us):Vals xs.reverse us.reverse:=by
 induction h with
 | nil=>exact .nil
 | cons r t ih=>rw[List.reverse_cons,List.reverse_cons];exact Vals.append ih (.cons r .nil)
theorem Vals.rep{xs:List V}{us:List Value}(h:Vals xs us):∀k:Nat,Vals (QA k xs).flatten (QA k us).flatten
 | 0=>.nil
 | k+1=>by rw[Gj,Gj,GH,GH];exact Vals.append h (Vals.rep h k)
theorem Jcq{α:Type}(l:List α):l.eraseIdx (l.length-1)=l.dropLast:=by
 induction l with
 | nil=>rfl
 | cons a r ih =>
  cases r with
  | nil=>rfl
  | cons b r =>
   have e:(a::b::r).length-1=((b::r).length-1)+1:=by
    have h1:(a::b::r).length=r.length+2:=rfl
    have h2:(b::r).length=r.length+1:=rfl;omega
   rw[e,K0,ih]
   all_goals rfl
theorem ZL(its:List Value):∀(k:Nat) (acc:List Value),
 MP (fun x1 x2=>x1++x2) acc.toArray (QA k its.toArray)=(acc++(QA k its).flatten).toArray
 | 0,acc=>by simp
 | k+1,acc=>by
  have e:acc.toArray++its.toArray=(acc++its).toArray:=by simp
  have e2:(acc++its)++(QA k its).flatten=acc++(QA (k+1) its).flatten:=by rw[Gj,GH,Gf]
  rw[<- e2,<- ZL its k (acc++its),<- e,Gj,QD]

section
variable{X:Cx}{pins:List (Addr×Obj)}{σ:St}{H:Hp}{s:Shared}{l b:Addr}{xs ys zs:List V}

theorem Inv.lset{its its':List Value}{n:Nat}{f:Array Value->Array Value}{t':Nat}(I:Inv X pins σ H s)(hH:H l=some (.lst xs))
 (e:s.heap.get? l=some { cls:=.type "list",data:=.seq its.toArray n }) (hf:f its.toArray=its'.toArray) (hv:Vals ys its') (hz:ys.length<=sizeLine) :
 Inv X pins σ (upd H l (.lst ys)) { s with heap:=s.heap.update l (Obj.mapSeq f),toks:=t' }:=by
 have q:=PySem.IsL.update e f;rw[hf] at q;refine I.write (x:=l) (e:=l) (by rw[hH];exact trivial) (.inl rfl) (fun b' u hb hu=>(Ga s.heap (Obj.mapSeq f) (QI hb)).trans hu) ⟨_,q⟩ ?_;exact⟨hz,its',_,hv,q⟩
theorem Inv.lnew{its:List Value}{t':Nat}(I:Inv X pins σ H s)(hv:Vals ys its)(hz:ys.length<=sizeLine) :
 Inv X pins σ (upd H s.heap.objs.size (.lst ys)) { s with heap:=s.heap.push { cls:=.type "list",data:=.seq its.toArray },toks:=t' } :=
 I.laid (fun _ _ q=>Qf _ q) (Qk _) ⟨hz,its,0,hv,Qj _ rfl⟩
theorem Inv.fresh(I:Inv X pins σ H s):H s.heap.objs.size=none:=I.hok.fresh (Qk _)
theorem Inv.lstM(I:Inv X pins σ H s)(hH:H l=some (.lst xs)):xs.length<=sizeLine/\∃(its:List Value) (n:Nat),Vals xs its/\xs.length=its.length/\s.heap.get? l=some { cls:=.type "list",data:=.seq its.toArray n }:=by obtain⟨z,its,n,r,e⟩:=I.hok l _ hH;exact⟨z,its,n,r,r.length,e⟩

theorem JbF{n:Nat}(h:n<=sizeLine):G7 n=false:=by unfold G7;exact decide_eq_false (by omega)
end

section
variable{X:Cx}

noncomputable def Jd1:V->List V->Hp->VK->Prop:=fun x vs H Q=>∃l xs y,x=.ref l/\vs=[y]/\H l=some (.lst xs)/\xs.length<sizeLine/\Q .non (upd H l (.lst (xs++[y])))
theorem Y3:MtM X "list.append" Jd1:=by intro pins s σ H x vs v us Q I rx rv h;obtain⟨l,xs,y,rfl,rfl,hH,hz,q⟩:=h;cases rx;obtain⟨u,rfl,ru⟩:=rv.one;obtain⟨z,its,n,r,hl,e⟩:=I.lstM hH;refine call_meets F.slot_list_append ⟨_,e,rfl⟩ F.entry_list_append (F.args_list_append_2 _ _) (PySem.list_append l its.toArray n u (by rw[Qm];omega)) ⟨e,?_⟩;refine⟨.non,_,I.lset (its':=its++[u]) hH e (by simp) (r.append (.cons ru .nil)) ?_,rfl,q⟩;rw[QC,Gn];omega

noncomputable def Jd2:V->List V->Hp->VK->Prop:=fun x vs H Q=>∃l b xs zs,x=.ref l/\vs=[.ref b]/\H l=some (.lst xs)/\H b=some (.lst zs)/\xs.length+zs.length<=sizeLine/\Q .non (upd H l (.lst (xs++zs)))
theorem VV:MtM X "list.extend" Jd2:=by
 intro pins s σ H x vs v us Q I rx rv h;obtain⟨l,b,xs,zs,rfl,rfl,hH,hB,hz,q⟩:=h;cases rx;obtain⟨u,rfl,ru⟩:=rv.one;cases ru;obtain⟨z,its,n,r,hl,e⟩:=I.lstM hH;obtain⟨z2,its2,n2,r2,hl2,e2⟩:=I.lstM hB;have hsz:its.toArray.size+its2.toArray.size<=sizeLine:=by rw[Qm,Qm];omega
 have hlong:¬(!its.toArray.isEmpty && G7 (its.toArray.size+its2.toArray.size))=true:=by rw[JbF hsz,Bool.and_false];exact Qy
 refine call_meets F.slot_list_extend ⟨_,e,rfl⟩ F.entry_list_extend (F.args_list_extend_2 _ _)
  (AutoSeq1.list_extend_list_list_0 l its.toArray n b its2.toArray n2 hlong (by rw[Qm];omega) (by omega)) ⟨e,e2,?_⟩
 refine⟨.non,_,I.lset (its':=its++its2) hH e (by simp) (r.append r2) ?_,rfl,q⟩;rw[QC];omega

noncomputable def Jn2:V->List V->Hp->VK->Prop:=fun x vs H Q=>∃l xs y,x=.ref l/\vs=[]/\H l=some (.lst xs)/\xs[xs.length-1]?=some y/\Q y (upd H l (.lst xs.dropLast))
theorem Jlt:MtM X "list.pop" Jn2:=by
 intro pins s σ H x vs v us Q I rx rv h;obtain⟨l,xs,y,rfl,rfl,hH,hy,q⟩:=h;cases rx;have hus:=rv.zero;subst hus;obtain⟨z,its,n,r,hl,e⟩:=I.lstM hH;obtain⟨u,hu,ru⟩:=r.get hy
 have hy':its.toArray[its.toArray.size-1]?=some u:=by show its.toArray[its.length-1]?=some u;rw[<- Lc,<- hl];exact hu
 refine call_meets F.slot_list_pop ⟨_,e,rfl⟩ F.entry_list_pop (F.args_list_pop_1 _) (MeetsSeq.list_pop_last l its.toArray n u hy' (by rw[Qm];omega)) ⟨e,?_⟩;refine⟨y,_,I.lset (its':=its.dropLast) hH e ?_ r.dropLast ?_,ru,q⟩
 ·show its.toArray.eraseIdxIfInBounds (its.toArray.size-1)=its.dropLast.toArray;rw[Qm,List.eraseIdxIfInBounds_toArray,Jcq]
 ·rw[ME];omega

noncomputable def JnV:R2:=fun x y H Q=>∃l b xs zs,x=.ref l/\y=.ref b/\H l=some (.lst xs)/\H b=some (.lst zs)/\xs.length+zs.length<=sizeLine/\∀p,H p=none->Q (.ref p) (upd H p (.lst (xs++zs)))
theorem JlF:OpR X (binaryOp .Add) JnV:=by
 intro pins s σ H x y v u Q I rx ry h;obtain⟨l,b,xs,zs,rfl,rfl,hH,hB,hz,q⟩:=h;cases rx;cases ry;obtain⟨z,its,n,r,hl,e⟩:=I.lstM hH;obtain⟨z2,its2,n2,r2,hl2,e2⟩:=I.lstM hB;refine PySem.P.add_list e e2 ?_ (by rw[Qm,Qm];omega);have ea:its.toArray++its2.toArray=(its++its2).toArray:=by simp
 rw[ea];exact⟨.ref _,_,I.lnew (t':=s.toks) (r.append r2) (by rw[QC];omega),rfl,q _ I.fresh⟩
noncomputable def Jn3:R2:=fun x y H Q=>∃l k xs,x=.ref l/\y=.int k/\H l=some (.lst xs)/\-(2 ^ 63)<=k/\k<2 ^ 63/\xs.length*k.toNat<=sizeLine ∧
 ∀p,H p=none->Q (.ref p) (upd H p (.lst (QA k.toNat xs).flatten))
theorem JiF{α:Type}(xs:List α)(k:Nat):(QA k xs).flatten.length=k*xs.length:=by
 induction k with
 | zero=>simp
 | succ k ih=>rw[Gj,GH,QC,ih,Nat.succ_mul,Nat.add_comm]
theorem JlL:OpR X (binaryOp .Mult) Jn3:=by
 intro pins s σ H x y v u Q I rx ry h;obtain⟨l,k,xs,rfl,rfl,hH,h1,h2,hz,q⟩:=h;cases rx;obtain⟨t,rfl⟩:=ry;obtain⟨z,its,n,r,hl,e⟩:=I.lstM hH;have hlen:its.toArray.size*k.toNat<=sizeLine:=by rw[Qm,<- hl];exact hz
 have hcap:¬its.toArray.size*k.toNat>(2 ^ 63-1) / 8:=by
  have:(sizeLine:Nat)<=(2 ^ 63-1) / 8:=by decide
  omega
 have hfit:¬(!Builtin.List.listFitsIndex k)=true:=by rw[fitsIndex_both h1 h2];exact Qy
 have hlong:¬G7 (its.toArray.size*k.toNat)=true:=by rw[JbF hlen];exact Qy
 have hnew:MP (fun x1 x2=>x1++x2) #[] (QA (if its.toArray.isEmpty=true then 0 else k.toNat) its.toArray)=(QA k.toNat its).flatten.toArray:=by
  have f0:∀m:Nat,MP (fun x1 x2=>x1++x2) #[] (QA m its.toArray)=(QA m its).flatten.toArray:=fun m=>by have:=ZL its m [];rw[Gz] at this;exact this
  rw[f0]
  cases its with
  | nil=>simp
  | cons a r'=>rw[if_neg (by simp)]
 refine wpAny_binaryOp_repeat_ref (T:="list") (U:="int") (by decide) ⟨_,e,rfl⟩ (fun s'=>typeIs_int s' k t) noFill_list_mul F.fills_int_mul F.slot_int_rmul repeat_list F.slot_int_index.lookup
  (call_meets F.slot_int_rmul (typeIs_int s k t) F.entry_int_rmul (F.args_int_rmul_2 _ _) (int___rmul___int_list k t l its.toArray n)
   ⟨e,rfl,⟨_,e,rfl⟩,call_meets F.slot_list_mul ⟨_,e,rfl⟩ F.entry_list_mul (F.args_list_mul_2 _ _) (AutoListH.list___mul___list_int_3 l its.toArray n k t hfit hcap hlong) ⟨e,?_⟩⟩)
 rw[hnew];exact⟨.ref _,_,I.lnew (t':=s.toks) (r.rep k.toNat) (by rw[JiF,Nat.mul_comm];exact hz),rfl,q _ I.fresh⟩

end

section
variable{prog:Program}{w:World}{A:Around}{E:Value->Shared->Prop}{s:Shared}
end

section
variable{X:Cx}
end
end L2

namespace Att
open PySem PySem.W PySem.Calls PyProof.Rows

theorem Wc{P:Params}{h:Heap}:∀(ns:List Int) (vs:List Value),WellAll P h vs (ns.map WData.int)->IntsAre vs ns:=by
 intro ns
 induction ns with
 | nil=>intro vs w;rw[GN] at w;cases w;exact .nil
 | cons n ns ih =>
  intro vs w;rw[Qe] at w
  cases w with
  | cons a b=>cases a;exact .cons _ _ (ih _ b)

theorem Jfj{l:OpenLaw}{n:Nat}(hn:l.most=some n){P:Params}{h:Heap}{args:List WData}{vals:List Value}
 (hpre:l.row.toRowW.claim.pre args=true) (hwl:WellAll P h vals args) :
 ∃a vs ns,vals=[Value.ref a]/\args=[WData.list (ns.map WData.int)]/\h.get? a=some { cls:=.type "list",data:=.seq vs.toArray }/\IntsAre vs ns/\ns.length<=n:=by
 have hsh:WShape.hasAll [] args [.list .int]=true:=(pre_splitW hpre).1
 have hc:l.pre.holds [] { args:=args }=true:=(pre_splitW hpre).2;obtain⟨d,r,rfl,h1,h2⟩:=hasAllW_cons hsh;obtain rfl:=hasAllW_nil h2;obtain⟨xs,rfl,h3⟩:=hasW_list h1;obtain⟨ns,rfl⟩:=items_int h3
 have hlen:ns.length<=n:=by
  unfold OpenLaw.pre at hc
  have h4:(WTm.not (.lt (.lit (.int (n:Int))) (.len (.arg 0)))).holds [] { args:=[.list (ns.map .int)] }=true:=by have h4:=(holds_andW hc).1;rw[hn] at h4;exact h4
  have h5:=condW_of h4 (w_not (w_lt w_lit (w_len_list (w_arg rfl))));rw[Qq] at h5;refine Nat.le_of_not_lt fun q=>?_
  have q':(n:Int)<((ns.length:Nat):Int):=by omega
  first
   | (rw[decide_eq_true q'] at h5;exact absurd h5 (by decide))
   | (simp at h5;omega)
 cases hwl with
 | cons w1 w2 =>
  cases w2
  cases w1 with
  | list ho hall=>exact⟨_,_,ns,rfl,rfl,ho,Wc ns _ hall,hlen⟩

theorem Jfc(l:OpenLaw)(args:List WData):l.row.toRowW.claim.post args (.bool true) args=true :=
 postW_of (r:=l.row.toRowW) (X:=(true == true))
  (show WShape.has [] (.bool true) .bool=true by first|rfl|decide|simp[WShape.has,WShape.arms,WShape.armsAll])
  (show(WTm.eq .res (.lit (.bool true))).value [] { args:=args,res:=some (.bool true),after:=args }=some (.bool (true == true)) from w_eq_bool (w_res rfl) w_lit) rfl

theorem attach_call{l:OpenLaw}{n:Nat}{q:Program}{loose:List Str}{XP:(Str->Option Value)->Heap->Prop}{YP:World->Heap->Prop}{d:DefRec}
 (hn:l.most=some n) (hdf:d.params.defaults=[])
 (call:∀(w:World) (s₀ s₁:Shared) (mg mb:Str->Option Value) (fa:Addr) (o:Obj) (pm cd doc:Value) (a:Addr) (vs:List Value) (ns:List Int),
  Ground q loose [] XP w s₀ mg mb s₁.heap->YP w s₁.heap ->
  s₁.heap.get? fa=some o->o.data=.func (docDef d.name d.params d.body d.scope pm cd doc)->s₁.heap.CodeRec cd d.name->mg d.name=some (.ref fa) ->
  s₁.heap.get? a=some { cls:=.type "list",data:=.seq vs.toArray }->IntsAre vs ns->ns.length<=n->s₁.gens=#[] ->
  codeAny (model l.prog w) callerA (.call (.ref fa) ⟨[.ref a],[]⟩) (fun r s'=>r=.ok (.ret (.bool true))/\OldK s₁.heap s'.heap/\s'.os=s₁.os/\AllBare s'.gens) s₁) :
 WalkO q loose XP YP l.row.toRowW d [] (fun f vs=>PySem.call f vs):=by
 intro w s₀ s₁ mg mb G Y fa o pm cd doc dV kV ho hd hcd hD hmg hg args vals as hpre hlay hrd hwl hlo;obtain rfl:dV=.none:=Dflts.none hD hdf;obtain rfl:kV=.none:=Dflts.noKw hD;obtain⟨a,vs,ns,rfl,rfl,hobj,hints,hlen⟩:=Jfj hn hpre hwl;refine enter_call (K4 (call w s₀ s₁ mg mb fa o pm cd doc a vs ns G Y ho (fd_plain hd) hcd hmg hobj hints hlen hg) fun r s' hq=>?_);obtain⟨rfl,h2,h3,h4⟩:=hq;exact⟨.inl ⟨.bool true,.bool true,[],rfl,fun _=>rfl,.bool true,Jfc l _,fun _=>⟨List.Pairwise.nil,fun _ hm=>(nomatch hm)⟩⟩,h2,h3,h4⟩

section
variable{prog:Program}{w:World}{A:Around}{E:Value->Shared->Prop}{s:Shared}{K:Frag}

end
end Att

namespace L2
open PySem PySem.Spec PyProof.Rows

theorem Z1:∀{vs:List Value} {ns:List Int},IntsAre vs ns->Vals (ns.map V.int) vs
 | _,_,.nil=>.nil
 | _,_,.cons n t h=>.cons ⟨t,rfl⟩ (Z1 h)

noncomputable def Jkt(H:Hp):Prop:=∀b,H b=none\/∃o xs,H b=some (.frz o (.lst xs))

theorem JgE{P:Program}{w:World}{K:Frag}{mg mb:Str->Option Value}{CX:CXT}{k:Nat}{fa a:Addr}{fd:FuncData}{x:Str}{sp:Sp}{s₁:Shared}{vs:List Value}{ns:List Int}
 (KX:K.In s₁.heap) (hns:s₁.heap.Ns mainGlobals mg) (hb:s₁.heap.Ns builtinsNs mb) (hbb:∀x:Str,x≠"__name__"->mb x=bootBuiltins x) (hlim:s₁.heap.NoLimit) (hg:s₁.gens=#[])
 (ha:s₁.heap.get? a=some { cls:=.type "list",data:=.seq vs.toArray }) (hi:IntsAre vs ns) (hl:ns.length<=sizeLine) (hr:Room k callerA)
 (F:∀base:Heap,K.In base->base.Ns mainGlobals mg->FnOk P w K mg base CX k fa fd [x] sp) (hbind:∀(s:Shared) (u:Value),BindsTo s fd ⟨[u],[]⟩ [(x,u)])
 (hsp:∀H:Hp,Jkt H->SqL K H a (ns.map V.int)->sp [.ref a] H (fun v _=>v=.bl true) fun _ _ _=>False)
 (hCX:∀H e s',CX [] H s₁ (fun _ _ _=>False) e s'->False) :
 codeAny (model P w) callerA (.call (.ref fa) ⟨[.ref a],[]⟩) (fun r s'=>r=.ok (.ret (.bool true))/\OldK s₁.heap s'.heap/\s'.os=s₁.os/\AllBare s'.gens) s₁:=by
 have rv:=Z1 hi
 have lenV:=hi.length
 -- from an abstract heap in which nothing but the script may be tracked
 have core:∀H:Hp,Jkt H->SqL K H a (ns.map V.int)->HOk P w H s₁.heap->(∀b,H b≠none->b=a)->(H a≠none->K.lookup a=none) ->
  codeAny (model P w) callerA (.call (.ref fa) ⟨[.ref a],[]⟩) (fun r s'=>r=.ok (.ret (.bool true))/\OldK s₁.heap s'.heap/\s'.os=s₁.os/\AllBare s'.gens) s₁:=by
  intro H hO hS hok hA hK;have base_of:∀{b:Addr} {o:Obj},s₁.heap.get? b=some o->H b=none->(Jav s₁.heap H).get? b=some o:=fun e n=>Jgs e n
  have noA:∀{b:Addr} {o:Obj} {es:Array DictEntry} {ep:Nat},s₁.heap.get? b=some o->o.data=.dict es ep->H b=none:=fun {b o es ep} e d=>by
   cases q:H b with
   | none=>rfl
   | some u =>
    have e':b=a:=hA b (by rw[q];simp);subst e';rw[ha] at e;cases e
    have d':Data.seq vs.toArray _=Data.dict es ep:=d;cases d'
  have nsK:∀{b:Addr} {m:Str->Option Value},s₁.heap.Ns b m->(Jav s₁.heap H).Ns b m:=fun {b m} ⟨o,es,ep,e,d,r⟩=>⟨o,es,ep,base_of e (noA e d),d,r⟩
  have hKb:K.In (Jav s₁.heap H):=fun b o e=>base_of (KX b o e) (by
   cases q:H b with
   | none=>rfl
   | some u=>have e':b=a:=hA b (by rw[q];simp);subst e';rw[hK (by rw[q];simp)] at e;cases e)
  have hM:Mod K mg (Jav s₁.heap H):=⟨hKb,nsK hns,⟨mb,nsK hb,hbb⟩,let ⟨mc,h1,h2⟩:=hlim;⟨mc,nsK h1,h2⟩⟩
  have e0:Env0 P w K mg (Jav s₁.heap H) callerA [] s₁ H:=⟨rfl,hM,fun b o e=>JiN e,Nat.le_of_eq (JeQ _ _),trivial,fun b hb=>absurd (show b∈([]:List Addr) from hb) (by simp),hok,.of_eq hg⟩
  refine K4 ((F _ hKb (nsK hns)).run callerA [] s₁ H ⟨[.ref a],[]⟩ [.ref a] [.ref a] _ _ hr e0 (hbind s₁ (.ref a)) (.cons rfl .nil) (hsp H hO hS)) fun r s' h=>?_
  cases r with
  | error e=>exact(hCX H e s' h).elim
  | ok fl =>
   cases fl with
   | next=>exact Gv h
   | brk=>exact Gv h
   | cont=>exact Gv h
   | ret u =>
    obtain⟨v,H',os,bare,un,hok',r',q⟩:=h;have q':v=.bl true:=q;subst q';obtain rfl:u=Value.bool true:=r';refine⟨rfl,OldK.of_keep fun b o e=>?_,os,bare⟩
    cases q:H b with
    | none=>exact un.keep b o e q (by intro z;exact absurd (show b∈([]:List Addr) from z) (by simp)) (by simp)
    | some u =>
     rcases hO b with z|⟨ob,xs,z⟩
     ·rw[q] at z;cases z
     ·have z2:=un.frzs b ob _ z;obtain⟨e1,_⟩:=hok b _ z;obtain⟨e2,_⟩:=hok' b _ z2;rw[e] at e1;cases e1;exact e2
 cases hk:K.lookup a with
 | some o =>
  -- the script is one of the module's own objects
  have e:=KX a o hk;rw[ha] at e;cases e;refine core (fun _=>none) (fun _=>.inl rfl) (.inr ⟨_,vs.toArray,_,hk,rfl,rfl,rfl,by rw[Qm,lenV];exact hl,by simpa using rv⟩) (fun b u z=>by have z':(none:Option HO)=some u:=z;cases z') (fun b z=>absurd rfl z) fun z=>absurd rfl z
 | none =>
  refine core (fun b=>if b=a then some (.frz { cls:=.type "list",data:=.seq vs.toArray } (.lst (ns.map V.int))) else none) (fun b=>?_) (.inl (.inr ⟨{ cls:=.type "list",data:=.seq vs.toArray },if_pos rfl⟩)) (fun b u z=>?_) (fun b z=>?_) fun _=>hk
  ·by_cases hb:b=a
   ·exact .inr ⟨_,_,if_pos hb⟩
   ·exact .inl (if_neg hb)
  ·by_cases hb:b=a
   ·have z':=(if_pos hb).symm.trans z;cases z';subst hb;exact⟨ha,by rw[Qq];exact hl,vs,_,rv,ha⟩
   ·have z':=(if_neg hb).symm.trans z;cases z'
  ·by_cases hb:b=a
   ·exact hb
   ·exact absurd (if_neg hb) z
end L2

namespace L2
open PySem PySem.Spec PyProof.Rows

theorem JjO{l:PySem.W.OpenLaw}{n k:Nat}{q:Program}{loose:List Str}{XP:(Str->Option Value)->Heap->Prop}{YP:World->Heap->Prop}{d:DefRec}{K:Params->Frag}{CX:World->CXT}{sp:World->Sp}{x:Str}
 (hn:l.most=some n) (hn2:n<=sizeLine) (hdf:d.params.defaults=[]) (hr:Room k callerA)
 (hY:∀(w:World) (h:Heap),YP w h->(K w.params).In h)
 (F:∀(w:World) (mg:Str->Option Value) (fa:Addr) (h:Heap),(K w.params).In h->h.Ns mainGlobals mg->mg d.name=some (.ref fa) ->
  ∃fd:FuncData,(∀(s:Shared) (u:Value),BindsTo s fd ⟨[u],[]⟩ [(x,u)]) ∧
   ∀base:Heap,(K w.params).In base->base.Ns mainGlobals mg->FnOk l.prog w (K w.params) mg base (CX w) k fa fd [x] (sp w))
 (hsp:∀(w:World) (H:Hp) (a:Addr) (ns:List Int),ns.length<=n->Jkt H->SqL (K w.params) H a (ns.map V.int)->sp w [.ref a] H (fun v _=>v=.bl true) fun _ _ _=>False)
 (hCX:∀(w:World) (H:Hp) (s:Shared) (e:Value) (s':Shared),CX w [] H s (fun _ _ _=>False) e s'->False) :
 PySem.W.WalkO q loose XP YP l.row.toRowW d [] (fun f vs=>PySem.call f vs):=by
 refine Att.attach_call hn hdf fun w s₀ s₁ mg mb fa o pm cd doc a vs ns G Y ho hd hcd hmg hobj hints hlen hg=>?_
 have KX:=hY w _ Y;obtain⟨fd,hb,hF⟩:=F w mg fa _ KX G.T.g hmg;exact JgE KX G.T.g G.T.b G.T.builtins G.T.nolimit hg hobj hints (Q4 hlen hn2) hr hF hb (fun H hO hS=>hsp w H a ns hlen hO hS) fun H e s'=>hCX w H s₁ e s'
end L2

namespace L2
open PySem PySem.Spec PyProof.Rows

noncomputable def JiA(s:Stmt)(j:Nat):Stmt:=match s with
 | .ClassDef _ _ _ body _ _ _ _ _ _ _=>body.getD j (.Pass ⟨0,0,0,0⟩)
 | _=>.Pass ⟨0,0,0,0⟩
noncomputable def Jv(s:Stmt):Arguments:=match s with
 | .FunctionDef _ a _ _ _ _ _ _ _ _=>a
 | _=>{ posonlyargs:=[],args:=[],vararg:=none,kwonlyargs:=[],kw_defaults:=[],kwarg:=none,defaults:=[] }
noncomputable def Jt(s:Stmt):List Stmt:=match s with
 | .FunctionDef _ _ b _ _ _ _ _ _ _=>b
 | _=>[]
noncomputable def Jf(s:Stmt):Scope:=match s with
 | .FunctionDef _ _ _ _ _ _ sc _ _ _=>sc
 | _=>{ kind:=.function,names:=[],isGenerator:=false,isCoroutine:=false }

noncomputable abbrev CX0:CXT:=fun _ _ _ _ _ _=>False
noncomputable abbrev E0:XK:=fun _ _ _=>False
theorem Jke{X:Cx}:Wv CX0 X E0:=fun _ _ _ _ _ _ _ h=>h.elim

structure Fun (K:Frag) (x qual:Str) (st:Stmt) (f:Addr) (fd:FuncData):Prop where
 ex:∃(oc:Value) (od:Option Addr) (kV doc pm:Value) (an:Option Addr) (cdv ct:Value) (osl:Array (Option Value)),
  fd=fnOf x qual (Jv st) (Jt st) (Jf st) .none kV doc pm an cdv ct/\K.lookup f=some ⟨oc,od,.func fd,osl⟩/\codeIn K cdv qual=true
 kp:keepIn K (.ref f)=true
section
variable{P:Program}{w:World}{K:Frag}{mg:Str->Option Value}{base:Heap}
theorem Fun.ok{x qual:Str}{st:Stmt}{f:Addr}{fd:FuncData}{N ps:List Str}{k:Nat}{sp:Sp}(F:Fun K x qual st f fd)(S:FnScope N ps (Jf st))(len:∀vs H Q E,sp vs H Q E->vs.length=ps.length)
 (hbody:∀(cdv:Value) (A:Around) (outer:List Env) (s:Shared) (H:Hp) (vs:List V) (Q:VK) (E:XK),Room k (A.deeper (envOfC qual (Jf st) s.heap.objs.size f cdv))->sp vs H Q E ->
  ∃t,PSs (JeI CX0 P w K mg base N qual (Jf st) f cdv A outer s H E).nox (Jt st) t/\t { nx:=fun _ H'=>Q .non H',rt:=Q } (UE N vs) H):FnOk P w K mg base CX0 (k+1) f fd ps sp:=by
 obtain⟨oc,od,kV,doc,pm,an,cdv,ct,osl,rfl,lk,hcd⟩:=F.ex;refine JnA lk hcd S len fun A outer s H vs Q E hr hsp=>?_
 obtain⟨t,h,q⟩:=hbody cdv A outer s H vs Q E hr hsp;exact⟨t,h.nox,q⟩
theorem Fun.binds{x qual:Str}{st:Stmt}{f:Addr}{fd:FuncData}{ps:List Str}(F:Fun K x qual st f fd)
 (h:∀(kV doc pm:Value) (an:Option Addr) (cdv ct:Value) (us:List Value),us.length=ps.length->bindArgs (fnOf x qual (Jv st) (Jt st) (Jf st) .none kV doc pm an cdv ct) ⟨us,[]⟩=pure (ps.zip us)):Binds K fd ps []:=by
 obtain⟨oc,od,kV,doc,pm,an,cdv,ct,osl,rfl,lk,hcd⟩:=F.ex;exact .all (h kV doc pm an cdv ct)
theorem JR{x qual:Str}{st:Stmt}{f:Addr}{oc:Value}{od an:Option Addr}{osl:Array (Option Value)}{kV doc pm cdv ct:Value}(l:K.lookup f=some ⟨oc,od,.func (fnOf x qual (Jv st) (Jt st) (Jf st) .none kV doc pm an cdv ct),osl⟩)
 (c:codeIn K cdv qual=true) (k:keepIn K (.ref f)=true):Fun K x qual st f (fnOf x qual (Jv st) (Jt st) (Jf st) .none kV doc pm an cdv ct):=⟨⟨oc,od,kV,doc,pm,an,cdv,ct,osl,rfl,l,c⟩,k⟩
end
theorem Jj7{A:Around}{k:Nat}(hr:Room k A):A.units+1<cLine:=GR (Nat.add_le_add_left (by decide:1<=64) _) hr.units
theorem Jfk{n:Nat}(h:n<=1000):n<sizeLine:=GR h (by decide)

section
variable{X:Cx}
theorem pv(i:Nat){x:Str}{pos:Pos}(hN:X.N[i]?=some x:=by rfl)(hv:Vis X.env.scope x:=by first | exact Or.inl rfl | exact Or.inr (.inl rfl) | exact Or.inr (.inr rfl))(hd:(x == ("__debug__":Str))=false:=by decide)
 (hcd:(x == ("__classdict__":Str))=false:=by decide):PE X (.Name x pos) (Ze i):=JlR hN hv hd hcd
end

noncomputable def Same(H H':Hp):Prop:=∀b o,H b=some o->H' b=some o
theorem Same.refl(H:Hp):Same H H:=fun _ _ h=>h
theorem Same.trans{H H1 H2:Hp}(a:Same H H1)(b:Same H1 H2):Same H H2:=fun c o h=>b c o (a c o h)
theorem Same.free{H H':Hp}(e:Same H H'){l:Addr}(h:H' l=Option.none):H l=Option.none:=by
 cases q:H l with
 | none=>rfl
 | some o=>rw[e l o q] at h;cases h
theorem Same.seq{K:Frag}{H H':Hp}{a:Addr}{xs:List V}(e:Same H H')(h:SqL K H a xs):SqL K H' a xs:=by
 rcases h with (h|⟨o,h⟩)|h
 ·exact .inl (.inl (e _ _ h))
 ·exact .inl (.inr ⟨o,e _ _ h⟩)
 ·exact .inr h

end L2

namespace L2
open PySem PySem.Spec PyProof.Rows

section
variable{κ:Type}[DecidableEq κ]
noncomputable def Um(kvs:List (κ×V))(k:κ):Option V:=(kvs.find? fun kv=>decide (kv.1=k)).map (·.2)
noncomputable def UL(kvs:List (κ×V))(k:κ)(v:V):List (κ×V) :=
 if (kvs.any fun kv=>decide (kv.1=k))=true then kvs.map (fun kv=>if kv.1=k then(kv.1,v) else kv) else kvs++[(k,v)]
noncomputable def JjY(kvs:List (κ×V))(k:κ):List (κ×V):=kvs.filter fun kv=>decide (kv.1≠k)

theorem VI{p:κ×V}{r:List (κ×V)}{k:κ}(e:p.1=k):Um (p::r) k=some p.2:=by simp[Um,Ks,e]
theorem VH{p:κ×V}{r:List (κ×V)}{k:κ}(e:¬p.1=k):Um (p::r) k=Um r k:=by simp[Um,Ks,e]
theorem Jcc(k:κ):∀kvs:List (κ×V),(kvs.any fun kv=>decide (kv.1=k))=(Um kvs k).isSome
 | []=>rfl
 | p::r=>by
  rw[G8]
  by_cases e:p.1=k
  ·simp only[VI e,decide_eq_true e,Bool.true_or,Option.isSome_some]
  ·rw[VH e,decide_eq_false e,Kw];exact Jcc k r
theorem UI(kvs:List (κ×V))(k:κ)(v:V):(UL kvs k v).length<=kvs.length+1:=by
 unfold UL;split
 ·rw[Qq];omega
 ·rw[QC,Qp,Kt];omega
theorem RelO.isSome_eq{o:Option V}{u:Option Value}(r:RelO o u):o.isSome=u.isSome:=by
 cases o with
 | none=>cases u with
  | none=>rfl
  | some _=>exact(show False from r).elim
 | some _=>cases u with
  | none=>exact(show False from r).elim
  | some _=>rfl
theorem RelO.getD{o:Option V}{u:Option Value}{d:V}{d':Value}(r:RelO o u)(rd:RelV d d'):RelV (o.getD d) (u.getD d'):=by
 cases o with
 | none=>cases u with
  | none=>exact rd
  | some _=>exact(show False from r).elim
 | some _=>cases u with
  | none=>exact(show False from r).elim
  | some _=>exact r

theorem KV.val{kvs:List (κ×V)}{vs:List (κ×Value)}(r:KV kvs vs)(k:κ):RelO (Um kvs k) (valueAt vs k):=by
 unfold KV at r
 induction r with
 | nil=>exact True.intro
 | @cons p q ps qs h t ih =>
  obtain⟨h1,h2⟩:=h
  by_cases e:p.1=k
  ·have e':q.1=k:=h1.symm.trans e
   have b:valueAt (q::qs) k=some q.2:=by simp[valueAt,Ks,e']
   rw[VI e,b];exact h2
  ·have e':¬q.1=k:=fun z=>e (h1.trans z)
   have b:valueAt (q::qs) k=valueAt qs k:=by simp[valueAt,Ks,e']
   rw[VH e,b];exact ih
theorem KV.any{kvs:List (κ×V)}{vs:List (κ×Value)}(r:KV kvs vs)(k:κ):(kvs.any fun kv=>decide (kv.1=k))=vs.any fun kv=>decide (kv.1=k):=by
 unfold KV at r
 induction r with
 | nil=>rfl
 | cons h t ih=>rw[G8,G8,ih,h.1]
theorem KV.repl{kvs:List (κ×V)}{vs:List (κ×Value)}(r:KV kvs vs)(k:κ){y:V}{u:Value}(ry:RelV y u) :
 KV (kvs.map fun kv=>if kv.1=k then(kv.1,y) else kv) (vs.map fun kv=>if kv.1=k then(kv.1,u) else kv):=by
 unfold KV at r ⊢
 induction r with
 | nil=>exact .nil
 | @cons p q ps qs h t ih =>
  rw[Qe,Qe];refine .cons ?_ ih;obtain⟨h1,h2⟩:=h
  by_cases e:p.1=k
  ·rw[if_pos e,if_pos (h1.symm.trans e)];exact⟨h1,ry⟩
  ·rw[if_neg e,if_neg (fun z=>e (h1.trans z))];exact⟨h1,h2⟩
theorem KV.put{kvs:List (κ×V)}{vs:List (κ×Value)}(r:KV kvs vs)(k:κ){y:V}{u:Value}(ry:RelV y u):KV (UL kvs k y) (stored vs k u):=by
 unfold UL stored;rw[r.any k]
 by_cases e:(vs.any fun kv=>decide (kv.1=k))=true
 ·rw[if_pos e,if_pos e];exact r.repl k ry
 ·rw[if_neg e,if_neg e];exact Paired.snoc r ⟨rfl,ry⟩
theorem KV.drop{kvs:List (κ×V)}{vs:List (κ×Value)}(r:KV kvs vs)(k:κ):KV (JjY kvs k) (without vs k):=by
 unfold KV at r ⊢;unfold JjY without
 induction r with
 | nil=>exact .nil
 | @cons p q ps qs h t ih =>
  obtain⟨h1,h2⟩:=h;rw[List.filter_cons,List.filter_cons]
  by_cases e:p.1=k
  ·have a:¬decide (p.1≠k)=true:=by simp[e]
   have b:¬decide (q.1≠k)=true:=by simp[h1.symm.trans e]
   rw[if_neg a,if_neg b];exact ih
  ·have e':¬q.1=k:=fun z=>e (h1.trans z)
   have a:decide (p.1≠k)=true:=by simp[e]
   have b:decide (q.1≠k)=true:=by simp[e']
   rw[if_pos a,if_pos b];exact .cons ⟨h1,h2⟩ ih
theorem KV.keys{kvs:List (κ×V)}{vs:List (κ×Value)}(r:KV kvs vs):kvs.map (·.1)=vs.map (·.1):=by
 unfold KV at r
 induction r with
 | nil=>rfl
 | cons h t ih=>rw[Qe,Qe,ih,h.1]
theorem KV.length{kvs:List (κ×V)}{vs:List (κ×Value)}(r:KV kvs vs):kvs.length=vs.length:=L0 r
end

theorem JdJ{P:Program}{w:World}{k:Key}{u:Value}(r:RelV (kV k) u):(JD P w).is k u=true:=by
 cases k with
 | inl i=>obtain⟨t,e⟩:=(show ∃t,u=Value.int i t from r);subst e;exact JbC P w i t
 | inr x=>obtain⟨t,e⟩:=(show ∃t,u=Value.str x t from r);subst e;exact JbD P w x t
theorem ZP{P:Program}{w:World}:∀{ks:List Key} {us:List Value},Vals (ks.map kV) us->ItemsAre (JD P w) ks us
 | [],_,r=>by rw[GN] at r;cases r;exact .nil
 | k::ks,_,r=>by
  rw[Qe] at r
  cases r with
  | cons h t=>exact .cons (JdJ h) (ZP t)

noncomputable abbrev KT(H:Hp):List (List Key×V)->List (List Key×Addr×Value)->Prop:=Paired fun p q=>p.1=q.1/\H q.2.1=some (.tup (p.1.map kV))/\RelV p.2 q.2.2
theorem KT.val{H:Hp}{kvs:List (List Key×V)}{xs:List (List Key×Addr×Value)}(r:KT H kvs xs)(k:List Key):RelO (Um kvs k) ((atKey xs k).map (·.2)):=by
 induction r with
 | nil=>exact True.intro
 | @cons p q ps qs h t ih =>
  obtain⟨h1,_,h2⟩:=h
  by_cases e:p.1=k
  ·have e':q.1=k:=h1.symm.trans e
   have b:atKey (q::qs) k=some q.2:=by simp[atKey,Ks,e']
   rw[VI e,b];exact h2
  ·have e':¬q.1=k:=fun z=>e (h1.trans z)
   have b:atKey (q::qs) k=atKey qs k:=by simp[atKey,Ks,e']
   rw[VH e,b];exact ih
theorem KT.repl{H:Hp}{kvs:List (List Key×V)}{xs:List (List Key×Addr×Value)}(r:KT H kvs xs)(k:List Key){y:V}{u:Value}(ry:RelV y u) :
 KT H (kvs.map fun kv=>if kv.1=k then(kv.1,y) else kv) (xs.map (putAt k u)):=by
 induction r with
 | nil=>exact .nil
 | @cons p q ps qs h t ih =>
  rw[Qe,Qe];refine .cons ?_ ih;obtain⟨h1,h2,h3⟩:=h;unfold putAt
  by_cases e:p.1=k
  ·rw[if_pos e,if_pos (h1.symm.trans e)];exact⟨h1,h2,ry⟩
  ·rw[if_neg e,if_neg (fun z=>e (h1.trans z))];exact⟨h1,h2,h3⟩
theorem KT.put{H:Hp}{kvs:List (List Key×V)}{xs:List (List Key×Addr×Value)}(r:KT H kvs xs)(k:List Key){b:Addr}{y:V}{u:Value}(hb:H b=some (.tup (k.map kV)))(ry:RelV y u) :
 KT H (UL kvs k y) (storedH xs k b u):=by
 have e:(kvs.any fun kv=>decide (kv.1=k))=(atKey xs k).isSome:=by rw[Jcc,(r.val k).isSome_eq,Option.isSome_map]
 unfold UL storedH;rw[e]
 by_cases q:(atKey xs k).isSome=true
 ·rw[if_pos q,if_pos q];exact r.repl k ry
 ·rw[if_neg q,if_neg q];exact Paired.snoc r ⟨rfl,hb,ry⟩
theorem KT.keeps{H H':Hp}{kvs:List (List Key×V)}{xs:List (List Key×Addr×Value)}(r:KT H kvs xs)(ht:∀b ys,H b=some (.tup ys)->H' b=some (.tup ys)):KT H' kvs xs :=
 Paired.mapP r fun _ _ z=>⟨z.1,ht _ _ z.2.1,z.2.2⟩

section
variable{P:Program}{w:World}{H:Hp}{h:Heap}{a:Addr}
theorem Jki{u:HO}(ok:HOk P w H h)(e:Rd H a u):ObjOk P w H h a u:=e.ok ok
theorem Jf1{kvs:List (Key×V)}(ok:HOk P w H h)(e:Rd H a (.dK kvs)):kvs.length<=sizeLine/\(a == sysModules)=false/\∃vs,KV kvs vs/\h.DictOf (JD P w) a vs :=
 show ObjOk P w H h a (.dK kvs) from Jki ok e
theorem JjX{kvs:List (Key×V)}(ok:HOk P w H h)(e:H a=some (.dK kvs)):kvs.length<=sizeLine/\(a == sysModules)=false/\∃vs,KV kvs vs/\h.DictOf (JD P w) a vs:=Jf1 ok (.inl e)
theorem JcD{ks:List Key}(ok:HOk P w H h)(e:H a=some (.tup (ks.map kV))):(tupleKind (JD P w)).is h ks a:=by
 obtain⟨_,its,r,o,h1,h2,n,h3⟩:=(show ObjOk P w H h a (.tup (ks.map kV)) from ok a _ e)
 exact⟨o,its.toArray,n,h1,h2,h3,by simpa using ZP r⟩
theorem Jf2{kvs:List (List Key×V)}(ok:HOk P w H h)(e:Rd H a (.dT kvs)):kvs.length<=sizeLine/\(a == sysModules)=false ∧
 ∃xs,KT H kvs xs/\h.DictOfH (tupleKind (JD P w)) a xs:=by
 obtain⟨z,y,xs,r,o,es,ep,h1,h2,h3,h4,h5⟩:=(show ObjOk P w H h a (.dT kvs) from Jki ok e)
 refine⟨z,y,xs,r,o,es,ep,h1,h2,h3,h4,fun x hx=>?_,h5⟩
 have all:∀{l:List (List Key×V)} {m:List (List Key×Addr×Value)},KT H l m->∀x∈m,(tupleKind (JD P w)).is h x.1 x.2.1:=by
  intro l m q
  induction q with
  | nil=>intro x hx;exact nomatch hx
  | @cons p q ps qs hq t ih =>
   intro x hx;rcases Qg.mp hx with e|hx
   ·subst e;exact JcD ok (by rw[<- hq.1];exact hq.2.1)
   ·exact ih x hx
 exact all r x hx
theorem Jnr{kvs:List (List Key×V)}(ok:HOk P w H h)(e:H a=some (.dT kvs)):kvs.length<=sizeLine/\(a == sysModules)=false ∧
 ∃xs,KT H kvs xs/\h.DictOfH (tupleKind (JD P w)) a xs:=Jf2 ok (.inl e)
end

noncomputable def DGet(H:Hp)(a:Addr)(y:V)(r:Option V):Prop :=
 (∃kvs k,Rd H a (.dK kvs)/\y=kV k/\r=Um kvs k)\/∃kvs k b,Rd H a (.dT kvs)/\y=.ref b/\H b=some (.tup (k.map kV))/\r=Um kvs k
noncomputable def DPut(H:Hp)(a:Addr)(y v:V)(H':Hp):Prop :=
 (∃kvs k,H a=some (.dK kvs)/\y=kV k/\kvs.length<sizeLine/\H'=upd H a (.dK (UL kvs k v))) ∨
 ∃kvs k b,H a=some (.dT kvs)/\y=.ref b/\H b=some (.tup (k.map kV))/\kvs.length<sizeLine/\H'=upd H a (.dT (UL kvs k v))
theorem DGet.k{H:Hp}{a:Addr}{kvs:List (Key×V)}{k:Key}(e:H a=some (.dK kvs)):DGet H a (kV k) (Um kvs k):=.inl ⟨kvs,k,.inl e,rfl,rfl⟩
theorem DGet.t{H:Hp}{a b:Addr}{kvs:List (List Key×V)}{k:List Key}(e:H a=some (.dT kvs))(eb:H b=some (.tup (k.map kV))):DGet H a (.ref b) (Um kvs k):=.inr ⟨kvs,k,b,.inl e,rfl,eb,rfl⟩
theorem DPut.k{H:Hp}{a:Addr}{kvs:List (Key×V)}{k:Key}{v:V}(e:H a=some (.dK kvs))(hl:kvs.length<sizeLine):DPut H a (kV k) v (upd H a (.dK (UL kvs k v))):=.inl ⟨kvs,k,e,rfl,hl,rfl⟩
theorem DPut.t{H:Hp}{a b:Addr}{kvs:List (List Key×V)}{k:List Key}{v:V}(e:H a=some (.dT kvs))(eb:H b=some (.tup (k.map kV)))(hl:kvs.length<sizeLine) :
 DPut H a (.ref b) v (upd H a (.dT (UL kvs k v))):=.inr ⟨kvs,k,b,e,rfl,eb,hl,rfl⟩

section
variable{X:Cx}{pins:List (Addr×Obj)}{σ:St}{H:Hp}{s:Shared}{a:Addr}{y v:V}{u r:Value}{o:Option V}{A:Around}{E:Value->Shared->Prop}

theorem Inv.big(I:Inv X pins σ H s):sysModules<s.heap.objs.size:=by have h:mainGlobals<s.heap.objs.size:=(I.mod.glob.keeps I.bk).lt;exact Kp (by decide) h

theorem Jai{h':Heap}{t':Nat}{ob:HO}(I:Inv X pins σ H s)(mu:Mut (H a))(hs:Qz a s.heap h')(he:∃q,h'.get? a=some q)(new:ObjOk X.prog X.w (upd H a ob) h' a ob) :
 Inv X pins σ (upd H a ob) { s with heap:=h',toks:=t' } :=
 I.write (x:=a) (e:=a) mu (.inl rfl) (fun b q hb z=>(hs.2 b hb).trans z) he new
theorem Jf0{P:Program}{w:World}{H':Hp}{h':Heap}{kvs:List (Key×V)}{vs:List (Key×Value)}(z:kvs.length<=sizeLine)(hd:(a == sysModules)=false)(rel:KV kvs vs)(dd:h'.DictOf (JD P w) a vs) :
 ObjOk P w H' h' a (.dK kvs):=⟨z,hd,vs,rel,dd⟩
theorem JeJ{H':Hp}{Q:Unit->Shared->Prop}(hu:A.units+1<cLine)(I:Inv X pins σ H s)(g:DPut H a y v H')(ry:RelV y u)(rv:RelV v r)(h:∀s',Inv X pins σ H' s'->Q () s') :
 wpAny (model X.prog X.w) A (setItem (.ref a) u r) Q E s:=by
 rcases g with ⟨kvs,k,e,ey,l,eH⟩|⟨kvs,k,b,e,ey,eb,l,eH⟩
 ·subst ey eH;obtain⟨z,hd,vs,rel,dd⟩:=JjX I.hok e;have hz:vs.length<=sizeLine:=by rw[<- rel.length];exact z
  have hl:(UL kvs k v).length<=sizeLine:=by have:=UI kvs k v;omega
  refine wpAny_setItem_pairs (hsz:=hz) (JdJ ry) dd fun h' dd' hs=>h _ ?_
  have he:∃q,h'.get? a=some q:=let ⟨q,_,_,hq,_⟩:=dd';⟨q,hq⟩
  exact Jai I (by rw[e];exact True.intro) hs he (Jf0 hl hd (rel.put k rv) dd')
 ·subst ey eH;cases (show u=Value.ref b from ry);obtain⟨z,hd,xs,rel,dd⟩:=Jnr I.hok e;have hz:xs.length<=sizeLine:=by rw[<- L0 rel];exact z
  have hl:(UL kvs k v).length<=sizeLine:=by have:=UI kvs k v;omega
  refine wpAny_setItem_heap (hsz:=hz) (tupleKind_room_in1 hu) (JcD I.hok eb) dd fun h' dd' hs=>h _ ?_
  obtain⟨q,es,ep,hq,h2,h3,h4,_,h5⟩:=dd';refine Jai I (by rw[e];exact True.intro) hs ⟨q,hq⟩ ⟨hl,hd,_,(rel.put k eb rv).keeps fun c ys ec=>?_,q,es,ep,hq,h2,h3,h4,h5⟩;rw[Jh (ZT ec e (fun z=>nomatch z))];exact ec
end

section
variable{X:Cx}{pins:List (Addr×Obj)}{σ:St}{H:Hp}{s:Shared}{a:Addr}{kvs:List (Key×V)}{k:Key}{u:Value}{A:Around}{E:Value->Shared->Prop}
end

noncomputable def Jkj(td ty tv:TE):TS:=fun D σ H=>tv σ H fun v H1=>td σ H1 fun x H2=>ty σ H2 fun y H3=>∃a H4,x=.ref a/\DPut H3 a y v H4/\D.nx σ H4
section
variable{X:Cx}{o i e value:Expr}{pos pos' tpos:Pos}{td ty tv:TE}
theorem Ji4(hu:X.A.units+1<cLine)(ho:PE X o td)(hi:PE X i ty)(hv:PE X value tv)(hs:swapsWith value (some (.Subscript o i pos')) pos.line X.env=pure false) :
 PS X (.Assign [.Subscript o i pos'] value pos) (Jkj td ty tv):=by
 intro pins s σ H D I h;refine wpAny_Assign_Subscript (thn (hv pins s σ H _ I h) fun r s1 ⟨v,H1,I1,rv,q1⟩=>thn (ho pins s1 σ H1 _ I1 q1) fun u s2 ⟨x,H2,I2,rx,q2⟩=>thn (hi pins s2 σ H2 _ I2 q2) fun iv s3 ⟨y,H3,I3,ry,a,H4,ex,g,q3⟩=>?_) hs;subst ex;obtain rfl:u=Value.ref a:=rx;exact JeJ hu I3 g ry rv fun s4 I4=>⟨σ,H4,I4,q3⟩
end

theorem JfY{P:Program}{w:World}{H:Hp}(h:Heap)(hb:sysModules<h.objs.size):ObjOk P w H (h.push { cls:=.type "dict",data:=.dict #[] }) h.objs.size (.dK []) :=
 ⟨G1 _,beq_eq_false_iff_ne.mpr (QI (Qx hb)),[],.nil,Heap.DictOf.new h⟩
noncomputable def Jhw:TE:=fun _ H Q=>∀p,H p=none->Q (.ref p) (upd H p (.dK []))
section
variable{X:Cx}{pos:Pos}
theorem JbL:PE X (.Dict [] [] pos) Jhw:=fun pins s σ H Q I h=>wpAny_Dict_empty ⟨.ref s.heap.objs.size,_,I.laid (a:=s.heap.objs.size) (o:=.dK []) (t':=s.toks) (fun _ _ q=>Qf _ q) (Qk _) (JfY s.heap I.big),rfl,h _ (I.hok.fresh (Qk _))⟩
end

structure M1 (X:Cx) (o:Expr) (m:Str) (apos:Pos) (e:Expr) (cpos:Pos):Prop where
 base:attributeBase o m X.env (eval o X.env)=eval o X.env
 few:((backTo cpos (starEach [e] X.env)).all (fun x=>!x.1) && (backToKw cpos (keywordEach [] X.env)).all (fun x=>x.1.isSome)
  && decide (([e]:List Expr).length+([]:List Keyword).length+(if ([]:List Keyword).isEmpty then 0 else 1)<30))=true
 line:(apos.endLine == cpos.line)=true
 trees:backTo cpos (starEach [e] X.env)=[(false,eval e X.env)]
structure M2 (X:Cx) (o:Expr) (m:Str) (apos:Pos) (e f:Expr) (cpos:Pos):Prop where
 base:attributeBase o m X.env (eval o X.env)=eval o X.env
 few:((backTo cpos (starEach [e,f] X.env)).all (fun x=>!x.1) && (backToKw cpos (keywordEach [] X.env)).all (fun x=>x.1.isSome)
  && decide (([e,f]:List Expr).length+([]:List Keyword).length+(if ([]:List Keyword).isEmpty then 0 else 1)<30))=true
 line:(apos.endLine == cpos.line)=true
 trees:backTo cpos (starEach [e,f] X.env)=[(false,eval e X.env),(false,eval f X.env)]

noncomputable def IsD(H:Hp)(a:Addr):Prop:=(∃kvs,Rd H a (.dK kvs))\/∃kvs,Rd H a (.dT kvs)
theorem Jaz{X:Cx}{pins:List (Addr×Obj)}{σ:St}{H:Hp}{s:Shared}{a:Addr}(I:Inv X pins σ H s)(d:IsD H a) :
 s.TypeIs (.ref a) "dict"/\(∀b,Value.ref a=.ref b->∃ob,s.heap.get? b=some ob/\ob.dict=none)/\(a == sysModules)=false:=by
 rcases d with ⟨kvs,e⟩|⟨kvs,e⟩
 ·obtain⟨_,hd,vs,_,dd⟩:=Jf1 I.hok e;refine⟨dd.typeIs,fun b q=>?_,hd⟩;cases q;obtain⟨ob,_,_,h1,h2,_⟩:=dd;exact⟨ob,h1,h2.2.1⟩
 ·obtain⟨_,hd,xs,_,dd⟩:=Jf2 I.hok e;refine⟨dd.typeIs,fun b q=>?_,hd⟩;cases q;obtain⟨ob,_,_,h1,h2,_⟩:=dd;exact⟨ob,h1,h2.2.1⟩

section
variable{X:Cx}{pins:List (Addr×Obj)}{σ:St}{H:Hp}{s:Shared}{a:Addr}{y d:V}{u r:Value}{o:Option V}{A:Around}{E:Value->Shared->Prop}
theorem JkD{Q:Value->Shared->Prop}(hu:A.units+1<cLine)(I:Inv X pins σ H s)(g:DGet H a y o)(ry:RelV y u)(rd:RelV d r)(h:∀w' s',Inv X pins σ H s'->RelV (o.getD d) w'->Q w' s') :
 wpAny (model X.prog X.w) A (call (.builtin "dict.get") [.ref a,u,r]) Q E s:=by
 rcases g with ⟨kvs,k,e,ey,l⟩|⟨kvs,k,b,e,ey,eb,l⟩
 ·subst ey;obtain⟨z,hd,vs,rel,dd⟩:=Jf1 I.hok e;refine call_meetsIn Ld dd.typeIs Mi (L8 _ _ _) (meets_dict_get_default (JD X.prog X.w) a (JdJ ry) hd r) ⟨_,dd.mapOf,h _ _ (I.tok _) ?_⟩;rw[l];exact(rel.val k).getD rd
 ·subst ey;cases (show u=Value.ref b from ry);obtain⟨z,hd,xs,rel,dd⟩:=Jf2 I.hok e;refine call_meetsIn Ld dd.typeIs Mi (L8 _ _ _) (meetsH_dict_get_default (tupleKind (JD X.prog X.w)) a b hd r) ⟨tupleKind_room_in1 hu,k,xs,JcD I.hok eb,dd,h _ _ (I.tok _) ?_⟩;rw[l];exact(rel.val k).getD rd
end

noncomputable def Jhv(td ty tx:TE):TE:=fun σ H Q=>td σ H fun x H1=>∃a,x=.ref a/\IsD H1 a/\ty σ H1 fun y H2=>tx σ H2 fun z H3=>∃o,DGet H3 a y o/\Q (o.getD z) H3
section
variable{X:Cx}{o e f:Expr}{apos cpos:Pos}{td ty tx:TE}
theorem JgU(hu:X.A.units+1<cLine)(ho:PE X o td)(he:PE X e ty)(hf:PE X f tx)(m:M2 X o "get" apos e f cpos):PE X (.Call (.Attribute o "get" apos) [e,f] [] cpos) (Jhv td ty tx):=by
 intro pins s σ H Q I h;refine wpAny_Call_method m.base m.few m.line Kf Ld PySem.F.type_dict_get (thn (ho pins s σ H _ I h) fun u s1 ⟨x,H1,I1,rx,a,ex,d,q1⟩=>?_);subst ex;obtain rfl:u=Value.ref a:=rx;obtain⟨t1,t2,_⟩:=Jaz I1 d;refine⟨t1,t2,?_⟩;rw[m.trees];refine Gw rfl (Lk (Kn (thn (he pins s1 σ H1 _ I1 q1) fun iv s2 ⟨y,H2,I2,ry,q2⟩=>Kn (thn (hf pins s2 σ H2 _ I2 q2) fun fv s3 ⟨z,H3,I3,rz,ov,g,q3⟩=>LV ?_))))
 exact JkD hu I3 g ry rz fun w' s4 I4 rw'=>⟨_,H3,I4,rw',q3⟩
end

section
variable{X:Cx}{pins:List (Addr×Obj)}{σ:St}{H:Hp}{s:Shared}{a:Addr}{kvs:List (Key×V)}{A:Around}{E:Value->Shared->Prop}
end

section
variable{X:Cx}{pins:List (Addr×Obj)}{σ:St}{H:Hp}{s:Shared}{a:Addr}{y:V}{u:Value}{A:Around}{E:Value->Shared->Prop}
end
end L2
namespace L2
open PySem PySem.Spec PyProof.Rows

noncomputable def Jfx(X:Cx)(ifs:List Expr)(t:TT):Prop :=
 ∀(pins:List (Addr×Obj)) (s:Shared) (σ:St) (H:Hp) (Q:Bool->Hp->Prop),Inv X pins σ H s->t σ H Q ->
  wpAny (model X.prog X.w) X.A (forIn ifs true fun c r=>if r=true then do let ok <- isTrue c X.env (eval c X.env);pure (ForInStep.yield ok) else pure (ForInStep.yield r)) (TP X pins σ Q) X.xe s
noncomputable def JmS:TT:=fun _ H Q=>Q true H
theorem JW{X:Cx}:Jfx X [] JmS:=fun _ _ _ H _ I h=>wpAny_tests_nil ⟨H,I,h⟩
theorem JbN{X:Cx}{c:Expr}{t:TT}(h:PT X c t):Jfx X [c] t:=fun pins s σ H Q I q=>wpAny_tests_one (h pins s σ H Q I q)

noncomputable def blk(X:Cx)(sc:Scope)(cl:List (Str×Addr))(N':List Str)(C:Addr)(s:Shared)(H:Hp)(fp:List Addr):Cx where
 prog:=X.prog
 w:=X.w
 K:=X.K
 mg:=X.mg
 base:=X.base
 A:=X.A
 N:=N'
 s₀:=s
 H₀:=H
 env:=compEnvC sc cl C X.env
 outer:=X.stack
 stack:=X.stack
 ex:=fp
 fn:=fun _=>false
 calm:=X.calm
 pn:=[]
 xe:=fun _ _=>False

noncomputable def WN(imp:List (Option Nat))(σ:St):St:=imp.map fun o=>match o with
 | none=>none
 | some k=>(σ[k]?).join

structure Blk (X:Cx) (sc:Scope) (cl:List (Str×Addr)) (N':List Str) (imp:List (Option Nat)):Prop where
 clos:closureFor sc X.env=pure cl
 kind:sc.kind=.function
 nocell:∀y∈sc.names,y.2≠.cell
 names:∀y∈sc.names,y.2=.local->sc.names.lookup y.1=some .local
 sub:∀p∈cl,X.env.cells.lookup p.1=some p.2
 has:∀y∈(relabel sc X.env).names,(y.2=.cell\/y.2=.free)->(cl.lookup y.1).isSome=true
 len:imp.length=N'.length
 im:∀p∈imp.zip N',∀k,p.1=some k->X.N[k]?=some p.2/\(X.env.scope.names.lookup p.2=some .cell\/X.env.scope.names.lookup p.2=some .free)/\((relabel sc X.env).names.lookup p.2=some .cell\/(relabel sc X.env).names.lookup p.2=some .free)

noncomputable def Jee(wi:TI)(g:TG)(tt:TT)(te:TE)(imp:List (Option Nat)):TE:=fun σ H Q=>wi σ H fun J H1=>∃W:Nat->Nat->List V->St->Hp->Prop,(∃m,W 0 m [] (WN imp σ) H1)/\∀i m ys σ' H',W i m ys σ' H' ->
 (J.stop i H'/\ys.length<=sizeLine/\∀D,H' D=none->Q (.ref D) (upd H' D (.lst ys))) ∨
 (J.go i H'/\ys.length<sizeLine/\∃N:List V->St->Hp->Prop,(∀ys' σ2 H2,N ys' σ2 H2->∃m',m'<m/\W (i+1) m' ys' σ2 H2) ∧
  ∀x H2,J.yld i H' x H2->g x σ' H2 fun σ2 H3=>tt σ2 H3 fun b H4=>if b=true then te σ2 H4 fun y H5=>N (ys++[y]) σ2 H5 else N ys σ2 H4)

section
variable{P:Program}{w:World}{H:Hp}{h h':Heap}
theorem HOk.sameBut{C:Addr}(x:HOk P w H h)(hC:H C=none)(k:∀b o,b≠C->h.get? b=some o->h'.get? b=some o):HOk P w H h':=fun a o e =>
 (x a o e).stay (fun b u hb q=>k b u (by
  rintro rfl;rcases hb with z|z
  ·rw[<- z,hC] at e;cases e
  ·rw[hC] at z;cases z) q) (fun _ q=>q) fun _ _ q=>q
theorem HOk.track{D:Addr}{o:HO}(x:HOk P w H h)(hD:H D=none)(new:ObjOk P w (upd H D o) h D o):HOk P w (upd H D o) h:=fun b u e=>by
 by_cases hb:b=D
 ·subst hb;rw[Jq] at e;cases e;exact new
 ·rw[Jh hb] at e;exact(x b u e).stay (fun c v _ q=>q) (fun c q=>by rw[Jh (Ju q hD)];exact q) fun c xs q=>by rw[Jh (Ju q hD)];exact q
end

theorem Uy{α:Type}{x:Str}{c:α}:∀{l:List (Str×α)},l.lookup x=some c->(x,c)∈l:=fun h=>GK h

section
variable{X:Cx}{tg iter elt:Expr}{ifs:List Expr}{sc:Scope}{cl:List (Str×Addr)}{N':List Str}{imp:List (Option Nat)}{pos:Pos}{wi:TI}{g:TG}{tt:TT}{te:TE}

theorem Blk.subL(B:Blk X sc cl N' imp):∀x c,cl.lookup x=some c->X.env.cells.lookup x=some c:=fun x c e=>B.sub (x,c) (Uy e)

theorem JhV{pins:List (Addr×Obj)}{σ:St}{H:Hp}{s:Shared}{fp:List Addr}{h₁:Heap}{C:Addr}(B:Blk X sc cl N' imp)(I:Inv X pins σ H s)(hf:∀b∈fp,FpOk X pins H b)(hfo:∀b∈fp,∃o,s.heap.get? b=some o)
 (hC:s.heap.objs.size<C) (old:∀b o,s.heap.get? b=some o->h₁.get? b=some o) (ns:h₁.Ns C fun _=>none) :
 Inv (blk X sc cl N' C s H fp) [] (WN imp σ) H { s with heap:=h₁,toks:=s.toks }:=by
 have hlt:∀b∈fp,b<s.heap.objs.size:=fun b hb=>let ⟨_,e⟩:=hfo b hb;Qo e
 have clt:∀x c,X.env.cells.lookup x=some c->c<s.heap.objs.size:=fun x c e=>let ⟨_,q⟩:=I.cell x c e;q.lt
 have ok:(blk X sc cl N' C s H fp).Ok:={
  mod:=I.ok.mod
  kind:=B.kind
  glob:=I.ok.glob
  blt:=I.ok.blt
  above:=GM hC
  inj:=fun x y c h1 h2=>I.ok.inj x y c (B.subL x c h1) (B.subL y c h2)
  has:=fun x hx=>by
   have hx':(relabel sc X.env).names.lookup x=some .cell\/(relabel sc X.env).names.lookup x=some .free:=hx
   have:(cl.lookup x).isSome=true:=by
    rcases hx' with z|z
    ·exact B.has (x,.cell) (Uy z) (.inl rfl)
    ·exact B.has (x,.free) (Uy z) (.inr rfl)
   exact L1.mp this
  cab:=fun x c z=>nomatch z
  hd:=I.ok.hd
  frames:=I.ok.frames
  stk:=.inl rfl
  exf:=fun b hb=>⟨Qx (Kp (hlt b hb) hC),fun x c e=>(hf b hb).2.2.2.2.1 x c (B.subL x c e)⟩
  bs:=I.bs
  bsz:=Q4 I.ok.bsz I.sz
  noex:=fun b o e hb=>by
   rcases(hf b hb).2.2.2.1 with z|z
   ·exact I.ok.noex b o e z
   ·exact absurd (QH (Qo e) (Q4 I.ok.bsz z)) (Gc _)
  exfs:=fun b hb z=>by
   rcases Qg.mp (I.stkSub b z) with q|q
   ·exact(hf b hb).2.1 q
   ·exact(hf b hb).2.2.1 q
  funs:=I.stack
  frf:=I.stkFree }
 refine⟨ok,rfl,I.bare,Un.kept old,⟨_,ns,fun i x v h1 h2 h3=>?_⟩,fun x c e=>?_,I.hok.fresh (GM hC),fun x c e=>I.freeC x c (B.subL x c e),fun p hp=>absurd (show p∈([]:List (Addr×Obj)) from hp) (by simp),I.hok.kept old,?_⟩
 ·have h1':N'[i]?=some x:=h1
  have h2':(imp.map fun o=>match o with|none=>none|some k=>(σ[k]?).join)[i]?=some (some v):=h2;rw[Qn] at h2'
  cases e:imp[i]? with
  | none=>rw[e] at h2';cases h2'
  | some q =>
   rw[e] at h2'
   cases q with
   | none=>cases h2'
   | some k =>
    have h2'':(σ[k]?).join=some v:=QG h2'
    have hk:σ[k]?=some (some v):=by
     cases e':σ[k]? with
     | none=>rw[e'] at h2'';cases h2''
     | some z=>rw[e'] at h2'';cases z with
      | none=>cases h2''
      | some z=>cases h2'';rfl
    have hm:(some k,x)∈imp.zip N':=by refine Q6 (i:=i) ?_;rw[List.getElem?_zip_eq_some];exact⟨e,h1'⟩
    obtain⟨b1,b2,b3⟩:=B.im _ hm k rfl;obtain⟨m,hn,hl⟩:=I.loc;obtain⟨u,r,l⟩:=hl k x v b1 hk (b2.elim (fun z=>.inr (.inl z)) fun z=>.inr (.inr z));refine⟨u,r,.inr ⟨b3,?_⟩⟩
    have hc:∃c,X.env.cells.lookup x=some c/\s.heap.IsCell c (some u):=by
     rcases l with ⟨z,_⟩|⟨_,z⟩
     ·have z':X.env.scope.names.lookup x=some .local:=z;rcases b2 with y|y <;> rw[y] at z' <;> cases z'
     ·exact z
    obtain⟨c,hc,oc,ho,hd⟩:=hc;obtain⟨c',hc'⟩:=ok.has x b3;have e2:=B.subL x c' hc';rw[hc] at e2;cases e2;exact⟨c,hc',oc,old c oc ho,hd⟩
 ·obtain⟨v,o,ho,hd⟩:=I.cell x c (B.subL x c e);exact⟨v,o,old c o ho,hd⟩
 ·show(imp.map _).length=N'.length;rw[Qq];exact B.len

theorem JhU{pins pn:List (Addr×Obj)}{σ σ':St}{H2 H':Hp}{s2 s4:Shared}{fp:List Addr}{C D:Addr}{Cs:Addr}{ys:List V}{its:List Value}{k:Nat}{h':Heap}(I2:Inv X pins σ H2 s2)(f2:∀b∈fp,FpOk X pins H2 b)
 (I5:Inv (blk X sc cl N' C s2 H2 fp) pn σ' H' s4) (hC:s2.heap.objs.size<C) (hD:H' D=none) (hDs:s2.heap.objs.size<=D) (hDC:D≠C) (eD:s4.heap.get? D=some { cls:=.type "list",data:=.seq its.toArray k })
 (rv:Vals ys its) (hz:ys.length<=sizeLine) (hsb:Qz C s4.heap h'):Inv X pins σ (upd H' D (.lst ys)) { s4 with heap:=h' }:=by
 have U:Un (frs X.stack) fp H2 H' s2.heap s4.heap:=I5.base
 have kk:∀b o,b≠C->s4.heap.get? b=some o->h'.get? b=some o:=hsb.extBut
 have hC':H' C=none:=I5.free
 have ok1:HOk X.prog X.w H' h':=HOk.sameBut (C:=C) I5.hok hC' kk
 have ok2:HOk X.prog X.w (upd H' D (.lst ys)) h':=ok1.track hD ⟨hz,its,k,rv,kk _ _ hDC eD⟩
 have lt:∀b o,s2.heap.get? b=some o->b≠C/\b≠D:=fun b o e=>⟨Qx (Kp (Qo e) hC),Qx (QH (Qo e) hDs)⟩
 refine I2.call' (s':={ s4 with heap:=h' }) (ch:=fp) I5.os ⟨fun b o e n hb hx=>kk b o (lt b o e).1 (U.keep b o e n hb hx),fun b o e n hb hx=>?_,fun b o e n hx=>?_,fun b o e hx=>?_,fun b xs e=>?_,fun b o u e=>?_,fun b ps e=>?_⟩ ok2 I5.bare
  fun b hb=>⟨(f2 b hb).2.2.2.1,(f2 b hb).2.1,(f2 b hb).2.2.2.2.1,(f2 b hb).2.2.2.2.2⟩
 ·obtain⟨sl,q⟩:=U.slot b o e n hb hx;exact⟨sl,kk b _ (lt b o e).1 q⟩
 ·rw[Jh (lt b o e).2];exact U.free b o e n hx
 ·obtain⟨o',q⟩:=U.there b o e hx;exact⟨o',kk b o' (lt b o e).1 q⟩
 ·have q:=U.tups b xs e;rw[Jh (Ju q hD)];exact q
 ·have q:=U.frzs b o u e;rw[Jh (Ju q hD)];exact q
 ·obtain⟨more,q⟩:=U.tbls b ps e;exact⟨more,by rw[Jh (Ju q hD)];exact q⟩

noncomputable def Jnb(g:TG)(tt:TT)(te:TE)(imp:List (Option Nat))(σ:St)(Q:VK)(J:It)(H1:Hp):Prop:=∃W:Nat->Nat->List V->St->Hp->Prop,(∃m,W 0 m [] (WN imp σ) H1)/\∀i m ys σ' H',W i m ys σ' H' ->
 (J.stop i H'/\ys.length<=sizeLine/\∀D,H' D=none->Q (.ref D) (upd H' D (.lst ys))) ∨
 (J.go i H'/\ys.length<sizeLine/\∃N:List V->St->Hp->Prop,(∀ys' σ2 H2,N ys' σ2 H2->∃m',m'<m/\W (i+1) m' ys' σ2 H2) ∧
  ∀x H2,J.yld i H' x H2->g x σ' H2 fun σ2 H3=>tt σ2 H3 fun b H4=>if b=true then te σ2 H4 fun y H5=>N (ys++[y]) σ2 H5 else N ys σ2 H4)
theorem ZJ{pins:List (Addr×Obj)}{σ:St}{Q:VK}{itv:Value}{s2:Shared}{RR:Value->Addr->Result->Shared->Prop}{E:Value->Shared->Prop}(hc:X.calm=true)(B:Blk X sc cl N' imp)
 (hg:∀C s H fp,PG (blk X sc cl N' C s H fp) tg g) (ht:∀C s H fp,Jfx (blk X sc cl N' C s H fp) ifs tt) (he:∀C s H fp,PE (blk X sc cl N' C s H fp) elt te)
 (h2:PIE X pins σ tg (Jnb g tt te imp σ Q) itv s2)
 (fin:∀(C D:Addr) (s4:Shared) (H':Hp) (ys:List V) (m:Str->Option Value),s2.heap.objs.size<C->s4.heap.Ns C m->H' C=none->(∀h',Qz C s4.heap h'->Inv X pins σ H' { s4 with heap:=h' })->Q (.ref D) H'->RR (.ref D) C (.ok .next) s4) :
 wpAny (model X.prog X.w) X.A (newList []) (fun acc s₃=>wpAny (model X.prog X.w) X.A (newFunctionEnv sc X.env.globals cl [] X.env.qual none .none (some X.env)) (fun cenv s₄=>codeAny (model X.prog X.w) X.A (.compStart (.ListComp elt [⟨tg,iter,ifs,0⟩] sc pos) 0 itv acc { cenv with scope:=relabel sc X.env }) (RR acc cenv.locals) s₄) E s₃) E s2:=by
 obtain⟨it,fp,tn,J,H2,e,I2,T,st2,f2,W,⟨m0,w0⟩,turn⟩:=h2;subst e;refine Q9 (wpAny_newFunctionEnv B.nocell (by intro y hy;simp at hy) (fun h₁ hns₁ hsb₁=>?_) B.kind);dsimp only at hns₁ hsb₁ ⊢
 generalize hG:s2.heap.push { cls:=.type "list",dict:=none,data:=.seq ([]:List Value).toArray }=G at hns₁ hsb₁ ⊢
 have hCs:G.objs.size=s2.heap.objs.size+1:=by rw[<- hG,Q5]
 have hC:s2.heap.objs.size<G.objs.size:=by rw[hCs];exact GO _
 have below:∀b,b<s2.heap.objs.size->b≠G.objs.size:=fun b hb=>Qx (Kp hb hC)
 have old:∀b o,s2.heap.get? b=some o->h₁.get? b=some o:=fun b o e=>hsb₁.extBut b o (below b (Qo e)) (Qf _ (hG▸Qf _ e))
 have hD1:h₁.get? s2.heap.objs.size=some { cls:=.type "list",data:=.seq ([]:List Value).toArray }:=hsb₁.extBut _ _ (Qx hC) (Qf _ (hG▸Qj _ rfl))
 have fpo:∀b∈fp,∃o,s2.heap.get? b=some o:=fun b hb=>let ⟨o,e,_⟩:=T.obj 0 _ st2 b hb;⟨o,e⟩
 have I4:=JhV B I2 f2 fpo hC old (show h₁.Ns G.objs.size fun _=>none from hns₁)
 -- the records of the block: the list that grows,the iterator's
 have stD:∀{H':Hp} {pn:List (Addr×Obj)},(∀b∈s2.heap.objs.size::fp,H' b=none)->(∀p∈pn,p.1∉s2.heap.objs.size::fp)->∀b∈s2.heap.objs.size::fp,FpOk (blk X sc cl N' G.objs.size s2 H2 fp) pn H' b:=fun {H' pn} hn hp b hb=>by
  have hp':∀p∈([]++pn:List (Addr×Obj)),p.1≠b:=fun p z q=>hp p (by simpa using z) (q▸hb)
  rcases Qg.mp hb with z|z
  ·subst z;refine⟨hn _ hb,Qx hC,fun q=>?_,.inr (Qk _),fun x c e q=>?_,hp'⟩
   ·rcases Qg.mp (I2.stkSub _ q) with q|q
    ·exact absurd I2.lt (by rw[<- q];exact Gc _)
    ·exact I2.nofs (Qk _) q
   ·obtain⟨v,qc⟩:=I2.cell x c (B.subL x c e);exact absurd qc.lt (by rw[q];exact Gc _)
  ·refine⟨hn _ hb,below b (let ⟨_,e⟩:=fpo b z;Qo e),fun q=>?_,.inl z,fun x c e=>(f2 b z).2.2.2.2.1 x c (B.subL x c e),hp'⟩;rcases Qg.mp (I2.stkSub b q) with q|q
   ·exact(f2 b z).2.1 q
   ·exact(f2 b z).2.2.1 q
 have nDf:s2.heap.objs.size∉fp:=fun z=>let ⟨_,e⟩:=fpo _ z;absurd (Qo e) (Gc _)
 have loop:codeAny (model X.prog X.w) X.A (.compLoop (.ListComp elt [⟨tg,iter,ifs,0⟩] sc pos) 0 (.ref it) (.ref s2.heap.objs.size) (compEnvC sc cl G.objs.size X.env))
  (RR (.ref s2.heap.objs.size) G.objs.size) { s2 with heap:=h₁,toks:=s2.toks }:=by
  refine codeAny_loop rfl (fun n s'=>∃i ys its k σ' H',Inv (blk X sc cl N' G.objs.size s2 H2 fp) [] σ' H' s'/\tn i s'.heap/\(∀b∈s2.heap.objs.size::fp,H' b=none)/\Vals ys its/\s'.heap.get? s2.heap.objs.size=some { cls:=.type "list",data:=.seq its.toArray k }/\W i n ys σ' H') ?_ m0
   ⟨0,[],[],0,_,H2,I4,T.keep _ _ _ st2 (fun b _ o e=>old b o e),fun b hb=>?_,.nil,hD1,w0⟩
  ·rintro n s3 ⟨i,ys,its,k,σ3,H3,I3,st3,fr3,rv3,hD3,w3⟩;have fr3':∀b∈fp,FpOk (blk X sc cl N' G.objs.size s2 H2 fp) [] H3 b:=fun b hb=>stD (pn:=[]) fr3 (fun p z=>nomatch z) b (Qc _ hb)
   show wpAny _ X.A ((compTurn (.ListComp elt [⟨tg,iter,ifs,0⟩] sc pos) 0 (.ref it) (.ref s2.heap.objs.size) (compEnvC sc cl G.objs.size X.env)).onRaise (fun x=>do noteFrame x (compEnvC sc cl G.objs.size X.env);theTreesLotGoes x)) _ _ s3;refine wpAny_noted (wpAny_noRaise ?_);rw[compTurn_list];refine Qa (wpAny_standAt (Qa ?_))
   have fD:=stD (pn:=[]) fr3 (fun p z=>nomatch z) s2.heap.objs.size Qd
   have hDH:H3 s2.heap.objs.size=none:=fr3 _ Qd
   have I3p:Inv (blk X sc cl N' G.objs.size s2 H2 fp) [(s2.heap.objs.size,{ cls:=.type "list",data:=.seq its.toArray k })] σ3 H3 s3:=I3.pins_of fun p hp=>by
    have e:p=(s2.heap.objs.size,{ cls:=.type "list",data:=.seq its.toArray k }):=by simpa using hp
    subst e;exact⟨hD3,hDH,fD.2.1,fD.2.2.1,fun v z=>by cases z⟩
   have pfp:∀p∈[(s2.heap.objs.size,({ cls:=.type "list",data:=.seq its.toArray k }:Obj))],p.1∉fp:=fun p hp=>by
    have e:p=(s2.heap.objs.size,{ cls:=.type "list",data:=.seq its.toArray k }):=by simpa using hp
    subst e;exact nDf
   have fpP:∀{H':Hp},(∀b∈fp,H' b=none)->∀b∈fp,FpOk (blk X sc cl N' G.objs.size s2 H2 fp) [(s2.heap.objs.size,({ cls:=.type "list",data:=.seq its.toArray k }:Obj))] H' b:=fun {H'} hn b hb =>
    have f:=stD (pn:=[]) fr3 (fun p z=>nomatch z) b (Qc _ hb)
    ⟨hn b hb,f.2.1,f.2.2.1,f.2.2.2.1,f.2.2.2.2.1,fun p hp q=>pfp p ((Gb.mp hp).elim (fun z=>nomatch (show p∈([]:List (Addr×Obj)) from z)) id) (q▸hb)⟩
   rcases turn i n ys σ3 H3 w3 with ⟨stop,hz,q⟩|⟨go,hz,N,hN,step⟩
   ·refine thn (T.done (blk X sc cl N' G.objs.size s2 H2 fp) rfl rfl rfl hc i _ s3 σ3 H3 _ I3p (fpP fun b hb=>fr3 b (Qc _ hb)) st3 stop) fun r s4 ⟨hr,I5⟩=>?_
    subst hr;refine Qi ?_;obtain⟨m,hn,_⟩:=I5.loc;have eD:=(I5.pin (s2.heap.objs.size,{ cls:=.type "list",data:=.seq its.toArray k }) (by simp)).1;have hCf:H3 G.objs.size=none:=I5.free;exact fin G.objs.size s2.heap.objs.size s4 _ ys m hC hn (by rw[Jh (KF hC)];exact hCf) (fun h' hsb=>JhU (Cs:=0) I2 f2 I5 hC hDH (Qk _) (Qx hC) eD rv3 hz hsb) (q _ hDH)
   ·refine thn (T.item (blk X sc cl N' G.objs.size s2 H2 fp) rfl rfl rfl hc i _ s3 σ3 H3 _ I3p (fpP fun b hb=>fr3 b (Qc _ hb)) st3 go) fun r s4 ⟨u,hr,h4⟩=>?_
    subst hr;refine Qa (thn h4 fun _ s5 ⟨x,H5,I5,r5,y5,st5,fr5⟩=>?_);have I5':=I5.pinned (fpP fr5) (T.obj _ _ st5);refine Qa (thn (hg G.objs.size s2 H2 fp _ s5 σ3 H5 x u _ I5' r5 (step x H5 y5)) fun _ s6 ⟨σ6,H6,I6,q6⟩=>?_);refine Qa (thn (ht G.objs.size s2 H2 fp _ s6 σ6 H6 _ I6 q6) fun ok s7 ⟨H7,I7,q7⟩=>?_)
    -- what stays of the records
    have recs:∀{σ':St} {H':Hp} {s':Shared},Inv (blk X sc cl N' G.objs.size s2 H2 fp) ([(s2.heap.objs.size,({ cls:=.type "list",data:=.seq its.toArray k }:Obj))]++W7 fp s5.heap) σ' H' s' ->
     tn (i+1) s'.heap/\(∀b∈s2.heap.objs.size::fp,H' b=none)/\s'.heap.get? s2.heap.objs.size=some { cls:=.type "list",data:=.seq its.toArray k }:=fun {σ' H' s'} I'=>by
     have pd:=I'.pin (s2.heap.objs.size,{ cls:=.type "list",data:=.seq its.toArray k }) (by simp)
     have pf:∀b∈fp,∀o,s5.heap.get? b=some o->s'.heap.get? b=some o/\H' b=none:=fun b hb o e=>by have z:=I'.pin (b,o) (Q8 _ (Q8 _ (U9 hb e)));exact⟨z.1,z.2.1⟩
     refine⟨T.keep _ _ _ st5 fun b hb o e=>(pf b hb o e).1,fun b hb=>?_,pd.1⟩;rcases Qg.mp hb with z|z
     ·subst z;exact pd.2.1
     ·obtain⟨o,e,d⟩:=T.obj _ _ st5 b z;exact(pf b z o e).2
    cases ok with
    | false=>obtain⟨m',hm,w7⟩:=hN _ _ _ (show N ys σ6 H7 from by simpa using q7);obtain⟨r1,r2,r3⟩:=recs I7;exact Qi ⟨rfl,m',hm,i+1,ys,its,k,σ6,H7,I7.pins_of (fun p hp=>nomatch hp),r1,r2,rv3,r3,w7⟩
    | true =>
     have q7':te σ6 H7 fun y H5=>N (ys++[y]) σ6 H5:=by simpa using q7
     refine Qa (Qa (thn (he G.objs.size s2 H2 fp _ s7 σ6 H7 _ I7 q7') fun y s8 ⟨y8,H8,I8,ry,q8⟩=>Qa ?_));obtain⟨r1,r2,r3⟩:=recs I8;have hl:=rv3.length;refine wpAny_list_append_plain (hsz:=by rw[Qm];omega) ⟨k,r3⟩ fun h9 ⟨k9,hl9⟩ hs9=>Qi (Qi ?_)
     have hD8:H8 s2.heap.objs.size=none:=r2 _ Qd
     have f8:=stD (pn:=[]) r2 (fun p z=>nomatch z) s2.heap.objs.size Qd
     have I8':Inv (blk X sc cl N' G.objs.size s2 H2 fp) [] σ6 H8 s8:=I8.pins_of (fun p hp=>nomatch hp)
     have I9:Inv (blk X sc cl N' G.objs.size s2 H2 fp) [] σ6 H8 { s8 with heap:=h9 }:=I8'.turned (t':=s8.toks) (it:=s2.heap.objs.size) (fun b o hb e=>hs9.extBut b o hb e) hD8 f8.2.1 f8.2.2.2.1 f8.2.2.2.2.1 f8.2.2.2.2.2;obtain⟨m',hm,w8⟩:=hN _ _ _ q8;refine⟨rfl,m',hm,i+1,ys++[y8],its++[y],k9,σ6,H8,I9,?_,r2,rv3.append (.cons ry .nil),?_,w8⟩
     ·exact T.keep _ _ _ r1 fun b hb o e=>hs9.extBut b o (fun z=>nDf (z▸hb)) e
     ·rw[hl9];simp
  ·rcases Qg.mp hb with z|z
   ·subst z;exact I2.hok.fresh (Qk _)
   ·exact(f2 b z).1
 exact codeAny_compStart_list loop (T.self _ 0 _ _ _ (T.keep _ _ _ st2 fun b _ o e=>old b o e) loop)

theorem J8(hc:X.calm=true)(hi:PI X tg iter wi)(B:Blk X sc cl N' imp)
 (hg:∀C s H fp,PG (blk X sc cl N' C s H fp) tg g) (ht:∀C s H fp,Jfx (blk X sc cl N' C s H fp) ifs tt) (he:∀C s H fp,PE (blk X sc cl N' C s H fp) elt te)
 (hs:∀x,foldedSetIterable iter X.env x=pure x:=by intro _;rfl):PE X (.ListComp elt [⟨tg,iter,ifs,0⟩] sc pos) (Jee wi g tt te imp):=by
 intro pins s σ H Q I h;rw[eval_ListComp];refine wpAny_comprehension_free (use:=none) rfl hs B.clos B.kind B.names (thn (hi pins s σ H _ I h) fun v s1 h1=>thn h1 fun itv s2 h2=>?_);refine ZJ (RR:=fun acc C=>compPost (model X.prog X.w) X.A X.xe none (EP X pins σ Q) acc C) hc B hg ht he h2 fun C D s4 H' ys m hC hn hCf hI q=>?_
 exact⟨m,hn,fun h' hsb=>⟨.ref D,H',hI h' hsb,rfl,q⟩⟩
theorem JcR{i:Nat}{x:Str}{pos' spos:Pos}(hN:X.N.Nodup)(hx1:X.N[i]?=some x)(hx2:Loc X.env.scope x)(hc:X.calm=true)(hi:PI X tg iter wi)(B:Blk X sc cl N' imp)
 (hg:∀C s H fp,PG (blk X sc cl N' C s H fp) tg g) (ht:∀C s H fp,Jfx (blk X sc cl N' C s H fp) ifs tt) (he:∀C s H fp,PE (blk X sc cl N' C s H fp) elt te)
 (hsw:swapsWith (.ListComp elt [⟨tg,iter,ifs,0⟩] sc pos) (some (.Name x pos')) spos.line X.env=pure true) (hf:X.fn x=true\/X.env.scope.names.lookup x=some .local)
 (hs:∀x,foldedSetIterable iter X.env x=pure x:=by intro _;rfl):PS X (.Assign [.Name x pos'] (.ListComp elt [⟨tg,iter,ifs,0⟩] sc pos) spos) (Jb4 (Jee wi g tt te imp) (Vm i)):=by
 intro pins s σ H D I h;rw[exec_Assign_Name_used _ _ _ _ hsw];refine Qa (wpAny_standAt (Qa ?_));show wpAny _ X.A (do let _ <- comprehension (.ListComp elt [⟨tg,iter,ifs,0⟩] sc pos) sc X.env _ (newList []) false (eval iter X.env) (some (assign (.Name x pos') X.env))) _ _ s;refine Qa (LF (wpAny_comprehension_free (use:=some (assign (.Name x pos') X.env)) (Q:=fun _ s'=>SP X pins D .next s') rfl hs B.clos B.kind B.names
  (thn (hi pins s σ H _ I h) fun v s1 h1=>thn h1 fun itv s2 h2=>?_)) (fun _ s' hq=>Qi (Qi hq)) fun _ _ e=>e)
 refine ZJ (Q:=fun y H1=>Vm i y σ H1 D.nx) (RR:=fun acc C=>compPost (model X.prog X.w) X.A X.xe (some (assign (.Name x pos') X.env)) (fun _ s'=>SP X pins D .next s') acc C) hc B hg ht he h2 fun C Dl s4 H' ys m hC hn hCf hI q=>?_
 obtain⟨it,fp,tn,J,H2,e,I2,_⟩:=h2;have I4:Inv X pins σ H' s4:=hI s4.heap (.refl ..);have neC:X.env.locals≠C:=Qx (Kp I2.lt hC)
 have neCc:∀y c,X.env.cells.lookup y=some c->c≠C:=fun y c e=>by obtain⟨v,qc⟩:=I2.cell y c e;exact Qx (Kp qc.lt hC)
 show wpAny _ X.A (assign (.Name x pos') X.env (.ref Dl)) _ _ s4;refine wpAny_assign_Name (ZZ I4 hN hx1 hx2 (v:=.ref Dl) rfl (fun s5 I5 ⟨c0,hs5,hc0⟩=>?_) hf)
 have ne0:C≠c0:=by
  rcases hc0 with z|z
  ·rw[z];exact QI neC
  ·exact QI (neCc _ _ z)
 refine⟨m,hn.sameBut hs5 ne0,fun h' hsb=>⟨_,H',?_,q⟩⟩;refine I5.turned (t':=s5.toks) (it:=C) (fun b o hb e=>hsb.extBut b o hb e) hCf (QI neC) (.inr (GM (GR I2.sz hC))) neCc fun p hp z=>?_
 have:=Qo (I2.pin p hp).1;rw[z] at this;exact absurd (Kp this hC) (Gc _)
end
end L2

namespace L2
open PySem PySem.Spec PyProof.Rows

inductive Rep (K:Frag) (H:Hp):V->PyData->Prop
 | non:Rep K H .non .none
 | bl (b:Bool):Rep K H (.bl b) (.bool b)
 | int (i:Int):Rep K H (.int i) (.int i)
 | str (x:Str):Rep K H (.str x) (.str x)
 | tup {a:Addr} {xs:List V} {ds:List PyData}:SqT K H a xs->xs.length=ds.length->(∀(i:Nat) (x:V) (d:PyData),xs[i]?=some x->ds[i]?=some d->Rep K H x d)->Rep K H (.ref a) (.tuple ds)
 | lst {a:Addr} {xs:List V} {ds:List PyData}:SqL K H a xs->xs.length=ds.length->(∀(i:Nat) (x:V) (d:PyData),xs[i]?=some x->ds[i]?=some d->Rep K H x d)->Rep K H (.ref a) (.list ds)

noncomputable def RepL(K:Frag)(H:Hp)(xs:List V)(ds:List PyData):Prop :=
 xs.length=ds.length/\∀(i:Nat) (x:V) (d:PyData),xs[i]?=some x->ds[i]?=some d->Rep K H x d

section
variable{K:Frag}{H H':Hp}
theorem RepL.nil:RepL K H [] []:=⟨rfl,fun i x d e=>by simp at e⟩
theorem RepL.cons{x:V}{d:PyData}{xs:List V}{ds:List PyData}(h:Rep K H x d)(r:RepL K H xs ds):RepL K H (x::xs) (d::ds):=by
 refine⟨by simp[r.1],fun i y e h1 h2=>?_⟩
 cases i with
 | zero=>simp at h1 h2;subst h1 h2;exact h
 | succ i=>exact r.2 i y e (by simpa using h1) (by simpa using h2)
theorem RepL.append{xs ys:List V}{ds es:List PyData}(r:RepL K H xs ds)(q:RepL K H ys es):RepL K H (xs++ys) (ds++es):=by
 refine⟨by simp[r.1,q.1],fun i x d h1 h2=>?_⟩
 by_cases hi:i<xs.length
 ·rw[QJ hi] at h1;rw[QJ (by rw[<- r.1];exact hi)] at h2;exact r.2 i x d h1 h2
 ·rw[QR (by omega)] at h1;rw[QR (by rw[<- r.1];omega)] at h2;rw[<- r.1] at h2;exact q.2 _ x d h1 h2
theorem RepL.snoc{xs:List V}{ds:List PyData}{x:V}{d:PyData}(r:RepL K H xs ds)(h:Rep K H x d):RepL K H (xs++[x]) (ds++[d]):=r.append (.cons h .nil)
theorem RepL.get{xs:List V}{ds:List PyData}{i:Nat}{d:PyData}(r:RepL K H xs ds)(e:ds[i]?=some d):∃x,xs[i]?=some x/\Rep K H x d:=by
 have hi:=(Qh.mp e).1
 have hx:i<xs.length:=by rw[r.1];exact hi
 exact⟨xs[i],by simp[hx],r.2 i _ d (by simp[hx]) e⟩
theorem RepL.get'{xs:List V}{ds:List PyData}{i:Nat}{x:V}(r:RepL K H xs ds)(e:xs[i]?=some x):∃d,ds[i]?=some d/\Rep K H x d:=by
 have hi:=(Qh.mp e).1
 have hx:i<ds.length:=by rw[<- r.1];exact hi
 exact⟨ds[i],by simp[hx],r.2 i x _ e (by simp[hx])⟩
theorem Rep.tupL{a:Addr}{xs:List V}{ds:List PyData}(h:SqT K H a xs)(r:RepL K H xs ds):Rep K H (.ref a) (.tuple ds):=.tup h r.1 r.2
theorem Rep.lstL{a:Addr}{xs:List V}{ds:List PyData}(h:SqL K H a xs)(r:RepL K H xs ds):Rep K H (.ref a) (.list ds):=.lst h r.1 r.2
theorem Rep.tupI{v:V}{ds:List PyData}(r:Rep K H v (.tuple ds)):∃a xs,v=.ref a/\SqT K H a xs/\RepL K H xs ds:=by
 cases r with
 | tup h l q=>exact⟨_,_,rfl,h,l,q⟩
theorem Rep.lstI{v:V}{ds:List PyData}(r:Rep K H v (.list ds)):∃a xs,v=.ref a/\SqL K H a xs/\RepL K H xs ds:=by
 cases r with
 | lst h l q=>exact⟨_,_,rfl,h,l,q⟩
theorem Rep.intI{v:V}{i:Int}(r:Rep K H v (.int i)):v=.int i:=by cases r;rfl
theorem Rep.strI{v:V}{i:Str}(r:Rep K H v (.str i)):v=.str i:=by cases r;rfl
theorem Rep.blI{v:V}{i:Bool}(r:Rep K H v (.bool i)):v=.bl i:=by cases r;rfl
theorem Same.seqT{a:Addr}{xs:List V}(e:Same H H')(h:SqT K H a xs):SqT K H' a xs:=by
 rcases h with (h|⟨o,h⟩)|h
 ·exact .inl (.inl (e _ _ h))
 ·exact .inl (.inr ⟨o,e _ _ h⟩)
 ·exact .inr h
theorem Rep.mono{v:V}{d:PyData}(e:Same H H')(r:Rep K H v d):Rep K H' v d:=by
 induction r with
 | non=>exact .non
 | bl b=>exact .bl b
 | int i=>exact .int i
 | str x=>exact .str x
 | tup h l _ ih=>exact .tup (e.seqT h) l ih
 | lst h l _ ih=>exact .lst (e.seq h) l ih
theorem RepL.mono{xs:List V}{ds:List PyData}(e:Same H H')(r:RepL K H xs ds):RepL K H' xs ds:=⟨r.1,fun i x d h1 h2=>(r.2 i x d h1 h2).mono e⟩

noncomputable def SameEx(l:Addr)(H H':Hp):Prop:=∀b o,b≠l->H b=some o->H' b=some o
theorem SameEx.upd{l:Addr}{o:HO}:SameEx l H (upd H l o):=fun b o' hb e=>by rw[Jh hb];exact e
theorem Same.ex{H0:Hp}{l:Addr}(s:Same H0 H)(hn:H0 l=none)(e:SameEx l H H'):Same H0 H':=fun b o h=>e b o (Ju h hn) (s b o h)
theorem Same.new{p:Addr}{o:HO}(hn:H p=none):Same H (upd H p o):=fun b o' e=>by rw[Jh (Ju e hn)];exact e
theorem SameEx.sqT{l a:Addr}{ys xs:List V}(e:SameEx l H H')(hl:H l=some (.lst ys))(h:SqT K H a xs):SqT K H' a xs:=by
 rcases h with (h|⟨o,h⟩)|h
 ·exact .inl (.inl (e _ _ (ZT h hl (by intro z;cases z)) h))
 ·exact .inl (.inr ⟨o,e _ _ (ZT h hl (by intro z;cases z)) h⟩)
 ·exact .inr h
theorem Same.ex_trans{l:Addr}{H2:Hp}(s:Same H H')(e:SameEx l H' H2):SameEx l H H2:=fun b o hb h=>e b o hb (s b o h)
inductive NoLst:PyData->Prop
 | non:NoLst .none
 | bl (b:Bool):NoLst (.bool b)
 | int (i:Int):NoLst (.int i)
 | str (x:Str):NoLst (.str x)
 | tup {ds:List PyData}:(∀d∈ds,NoLst d)->NoLst (.tuple ds)
end

theorem Vals.get':∀{xs:List V} {us:List Value} {i:Nat} {u:Value},Vals xs us->us[i]?=some u->∃x,xs[i]?=some x/\RelV x u
 | _,_,_,_,.nil,e=>by simp at e
 | _,_,0,_,.cons r _,e=>by simp at e;subst e;exact⟨_,rfl,r⟩
 | _,_,i+1,u,.cons _ t,e=>by obtain⟨x,h1,h2⟩:=Vals.get' (i:=i) (u:=u) t (by simpa using e);exact⟨x,by simpa using h1,h2⟩
theorem UM{h:Heap}:∀(us:List Value) (ds:List PyData),us.length=ds.length->(∀(i:Nat) (u:Value) (d:PyData),us[i]?=some u->ds[i]?=some d->∃as,Reads h u d as)->∃as,ReadsAll h us ds as
 | [],[],_,_=>⟨_,.nil⟩
 | [],_::_,e,_=>by simp at e
 | _::_,[],e,_=>by simp at e
 | u::us,d::ds,e,f=>by
  obtain⟨as,h1⟩:=f 0 u d rfl rfl;obtain⟨bs,h2⟩:=UM us ds (by simpa using e) fun i v c q1 q2=>f (i+1) v c (by simpa using q1) (by simpa using q2)
  exact⟨_,.cons h1 h2⟩
section
variable{X:Cx}{pins:List (Addr×Obj)}{σ:St}{H:Hp}{s:Shared}
theorem Rep.reads{v:V}{d:PyData}(I:Inv X pins σ H s)(r:Rep X.K H v d):∀u,RelV v u->∃as,Reads s.heap u d as:=by
 induction r with
 | non=>intro u r;cases r;exact⟨_,.none⟩
 | bl b=>intro u r;cases r;exact⟨_,.bool b⟩
 | int i=>intro u r;obtain⟨t,rfl⟩:=r;exact⟨_,.int i t⟩
 | str x=>intro u r;obtain⟨t,rfl⟩:=r;exact⟨_,.str x t⟩
 | tup h l _ ih =>
  intro u r;cases r;obtain⟨its,rv,p,hz⟩:=I.tuple h;obtain⟨o,ho,hc,n,hd⟩:=p
  obtain⟨as,q⟩:=UM (h:=s.heap) its _ (rv.length.symm.trans l) fun i u d h1 h2=>by obtain⟨x,e1,e2⟩:=rv.get' h1;exact ih i x d e1 h2 u e2
  exact⟨_,.tuple ho hc hd q⟩
 | lst h l _ ih =>
  intro u r;cases r;obtain⟨its,rv,p,hz⟩:=I.list h;obtain⟨o,ho,hc,n,hd⟩:=p.isList
  obtain⟨as,q⟩:=UM (h:=s.heap) its _ (rv.length.symm.trans l) fun i u d h1 h2=>by obtain⟨x,e1,e2⟩:=rv.get' h1;exact ih i x d e1 h2 u e2
  exact⟨_,.list ho hc hd q⟩
end

section
variable{X:Cx}
noncomputable def Jd0(K:Frag):R2:=fun x y H Q=>rI0 (fun i j=>.int (i+j)) x y H Q\/(∃i j,x=.str i/\y=.str j/\i.length+j.length<=sizeLine/\Q (.str (i++j)) H)\/JnV x y H Q
theorem JiP:OpR X (binaryOp .Add) (Jd0 X.K):=op_add.or (op_add_str.or JlF)
noncomputable def JnW(K:Frag):R2:=fun x y H Q=>∃d e,Rep K H x d/\Rep K H y e/\d.canLay0=true/\e.canLay0=true/\min d.depth e.depth<=60/\Q (.bl (Lf d e)) H
noncomputable def Jn1(K:Frag):R2:=fun x y H Q=>∃d e,Rep K H x d/\Rep K H y e/\d.canLay0=true/\e.canLay0=true/\min d.depth e.depth<=60/\Q (.bl (!PyData.eqv d e)) H
theorem JlH(hu:X.A.units+64<cLine):OpR X (compareOp .Eq) (JnW X.K):=by intro pins s σ H x y v u Q I rx ry h;obtain⟨d,e,h1,h2,c1,c2,hd,q⟩:=h;obtain⟨as,r1⟩:=h1.reads I v rx;obtain⟨bs,r2⟩:=h2.reads I u ry;exact SeqAt.compareEq_reads r1 r2 c1 c2 (by omega) ⟨.bl _,H,I,rfl,q⟩
theorem JlK(hu:X.A.units+64<cLine):OpR X (compareOp .NotEq) (Jn1 X.K):=by intro pins s σ H x y v u Q I rx ry h;obtain⟨d,e,h1,h2,c1,c2,hd,q⟩:=h;obtain⟨as,r1⟩:=h1.reads I v rx;obtain⟨bs,r2⟩:=h2.reads I u ry;exact SeqAt.compareNe_reads r1 r2 c1 c2 (by omega) ⟨.bl _,H,I,rfl,q⟩
noncomputable def Jg8(K:Frag):R2:=fun x y H Q=>rEq x y H Q\/JnW K x y H Q
noncomputable def Jhb(K:Frag):R2:=fun x y H Q=>rNe x y H Q\/Jn1 K x y H Q
theorem JlG(hu:X.A.units+64<cLine):OpR X (compareOp .Eq) (Jg8 X.K):=op_eq.or (JlH hu)
theorem JlJ(hu:X.A.units+64<cLine):OpR X (compareOp .NotEq) (Jhb X.K):=op_ne.or (JlK hu)
noncomputable def JcS(K:Frag):List V->Hp->VK->Prop:=fun xs H Q=>∃x n,xs=[x]/\Jnc K x H n/\Q (.int n) H
theorem Jez:CallR X (.builtin "len") (JcS X.K):=JfP
noncomputable def W8(K:Frag):List V->Hp->VK->Prop:=fun xs H Q=>∃p ys,xs=[.ref p]/\((SqL K H p ys/\∀l,H l=none->Q (.ref l) (upd H l (.tup ys)))\/(SqT K H p ys/\Q (.ref p) H))
theorem Ja7:CallR X (.type "tuple") (W8 X.K):=Zn
inductive TyS (K:Frag) (H:Hp):V->Value->Prop where
 | of {x:V} {t:Value} (h:TyOf K H x t):TyS K H x t
 | sqT {a:Addr} {xs:List V} (h:SqT K H a xs):TyS K H (.ref a) (.type "tuple")
 | sqL {a:Addr} {xs:List V} (h:SqL K H a xs):TyS K H (.ref a) (.type "list")
theorem JcC{pins:List (Addr×Obj)}{σ:St}{H:Hp}{s:Shared}{A:Around}{E:Value->Shared->Prop}{Q:Value->Shared->Prop}{c:Value}{b:Bool}{x:V}{u t:Value}(I:Inv X pins σ H s)(rx:RelV x u)(ty:TyS X.K H x t)(e:kitOne X.K t c=some b)(h:∀tk,Q (.bool b) { s with toks:=tk }) :
 wpAny (model X.prog X.w) A (call (.builtin "isinstance") [u,c]) Q E s:=by
 cases ty with
 | of z=>exact JeZ I rx z e h
 | @sqT a xs z=>cases (show u=Value.ref a from rx);obtain⟨its,_,p,_⟩:=I.tuple z;obtain⟨o,h1,h2,_⟩:=p;exact kia_one MN I.kIn ⟨o,h1,h2⟩ e (fun z=>nomatch z) h
 | @sqL a xs z=>cases (show u=Value.ref a from rx);obtain⟨its,_,p,_⟩:=I.list z;obtain⟨o,h1,h2,_⟩:=p.isList;exact kia_one kitx_list I.kIn ⟨o,h1,h2⟩ e (fun z=>nomatch z) h
noncomputable def Ji7(K:Frag):List V->Hp->VK->Prop:=fun vs H Q=>∃x c t tc b,vs=[x,c]/\TyS K H x t/\(∀u,RelV c u->u=tc)/\kitOne K t tc=some b/\Q (.bl b) H
theorem JfO:CallR X (.builtin "isinstance") (Ji7 X.K):=by intro pins s σ H xs us Q I r h;obtain⟨x,c,t,tc,b,rfl,ty,hc,e,q⟩:=h;obtain⟨u,w',rfl,r1,r2⟩:=JhG r;cases hc w' r2;exact JcC I r1 ty e fun tk=>⟨.bl b,H,I.tok tk,rfl,q⟩
noncomputable def Jl1:R2:=fun x y H Q=>y=.non/\Q (.bl (decide (x=.non))) H
noncomputable def Jhc:R2:=fun x y H Q=>y=.non/\Q (.bl (!decide (x=.non))) H
theorem Wl:OpR X (compareOp .Is) Jl1:=JlI
theorem Vy:OpR X (compareOp .IsNot) Jhc:=JiS
noncomputable def Jl2:List V->Hp->VK->Prop:=fun xs H Q=>∃i j,xs=[.int i,.int j]/\Q (.int (if j>i then j else i)) H
noncomputable def Jl3:List V->Hp->VK->Prop:=fun xs H Q=>∃i j,xs=[.int i,.int j]/\Q (.int (if j<i then j else i)) H
theorem ZG(hc:X.calm=true):CallR X (.builtin "max") Jl2:=JeB hc
theorem UO(hc:X.calm=true):CallR X (.builtin "min") Jl3:=JeC hc
noncomputable def JjJ(K:Frag)(ta:TE):TT:=fun σ H Q=>ta σ H fun x H1=>∃k,Jer K x H1 k/\Q k H1
theorem JlY{a:Expr}{ta:TE}(ha:PE X a ta)(he:∀whole,isTrue a X.env whole=(do let v <- whole;standAt a.pos;holding [v] (truthy v))):PT X a (JjJ X.K ta):=Jg4 ha he
noncomputable def GV(mg:Str->Option Value)(x:Str)(v:V):Prop:=∃u,mg x=some u/\RelV v u
theorem JgW{x:Str}{v:V}{pos:Pos}(hg:Gl X x)(hm:GV X.mg x v)(hd:(x == ("__debug__":Str))=false:=by decide):PE X (.Name x pos) (tC v):=by obtain⟨u,h1,h2⟩:=hm;exact JiW hg h1 h2 hd
end
theorem VM:bootBuiltins "len"=some (.builtin "len"):=by decide +kernel
theorem Zm:bootBuiltins "isinstance"=some (.builtin "isinstance"):=by decide +kernel
theorem JfK:bootBuiltins "max"=some (.builtin "max"):=by decide +kernel
theorem Wz:bootBuiltins "min"=some (.builtin "min"):=by decide +kernel
theorem WA:bootBuiltins "sum"=some (.builtin "sum"):=by decide +kernel
theorem Jky:bootBuiltins "any"=some (.builtin "any"):=by decide +kernel
theorem Jkx:bootBuiltins "all"=some (.builtin "all"):=by decide +kernel
theorem Jcj:bootBuiltins "abs"=some (.builtin "abs"):=by decide +kernel
theorem Jdf:bootBuiltins "list"=some (.type "list"):=by decide +kernel
theorem JfL:bootBuiltins "tuple"=some (.type "tuple"):=by decide +kernel
theorem Jkz:bootBuiltins "zip"=some (.type "zip"):=by decide +kernel
theorem Jae:bootBuiltins "enumerate"=some (.type "enumerate"):=by decide +kernel
theorem Ja5:bootBuiltins "reversed"=some (.type "reversed"):=by decide +kernel
structure Cal (P:Program) (w:World) (K:Frag) (mg:Str->Option Value) (base:Heap) (x:Str) (k:Nat) (ps:List Str) (sp:Sp):Prop where
 ex:∃(f:Addr) (fd:FuncData),FnOk P w K mg base CX0 k f fd ps sp/\mg x=some (.ref f)/\keepIn K (.ref f)=true/\Binds K fd ps []
structure CalM (P:Program) (w:World) (K:Frag) (mg:Str->Option Value) (base:Heap) (x:Str) (C:Addr) (k:Nat) (ps:List Str) (sp:Sp):Prop where
 ex:∃(f:Addr) (fd:FuncData),Mk K C f/\FnOk P w K mg base CX0 k f fd ps sp/\mg x=some (.ref C)/\Binds K fd ps []
section
variable{X:Cx}{k:Nat}{C:Addr}{ps:List Str}{sp:Sp}{x:Str}{p pos:Pos}{e:Expr}{es:List Expr}{t:TA}
theorem Jk(c:Cal X.prog X.w X.K X.mg X.base x k ps sp)(hr:Room k X.A)(hg:Gl X x)(ha:PA X (e::es) t)(hdb:(x == ("__debug__":Str))=false:=by decide)
 (he:starEach (e::es) X.env=(false,eval e X.env)::starEach es X.env:=by rfl) (hpl:(backTo pos (starEach es X.env)).any (·.1)=false:=by rfl):PE X (.Call (.Name x p) (e::es) [] pos) (Jed sp [] E0 t):=by
 obtain⟨f,fd,F,h1,h2,h3⟩:=c.ex;exact JiV F hr hg h1 h2 h3 .nil Jke ha hdb he hpl
theorem VA(c:CalM X.prog X.w X.K X.mg X.base x C k ps sp)(hr:Room (k+1) X.A)(hg:Gl X x)(ha:PA X (e::es) t)(hdb:(x == ("__debug__":Str))=false:=by decide)
 (he:starEach (e::es) X.env=(false,eval e X.env)::starEach es X.env:=by rfl) (hpl:(backTo pos (starEach es X.env)).any (·.1)=false:=by rfl):PE X (.Call (.Name x p) (e::es) [] pos) (Jef C sp [] E0 t):=by
 obtain⟨f,fd,M,F,h1,h3⟩:=c.ex;exact JiY M F hr hg h1 h3 .nil Jke ha hdb he hpl
end

noncomputable def JeR(K:Frag)(tl:TE):TI:=fun σ H R=>Jj8 K tl σ H R\/JnE K tl σ H R
theorem JlT{X:Cx}{tg l:Expr}{tl:TE}(hl:PE X l tl):PI X tg l (JeR X.K tl):=by
 intro pins s σ H R I h;rcases h with h|h
 ·exact JiZ hl pins s σ H R I h
 ·exact JlU hl pins s σ H R I h

theorem Wb{X:Cx}{sc:Scope}{N':List Str}{imp:List (Option Nat)}(h1:sc.kind=.function)
 (h2:(sc.names.all (fun y=>y.2 != .free && y.2 != .cell && (y.2 != .local || sc.names.lookup y.1 == some .local)) && imp.all (·.isNone) && (imp.length == N'.length))=true):Blk X sc [] N' imp:=by
 simp only[QK,GF] at h2;obtain⟨⟨h2,h3⟩,h4⟩:=h2
 have nofree:∀y∈sc.names,y.2≠.free:=fun y hy=>by
  have:=(h2 y hy).1.1
  simpa using this
 have nocell:∀y∈sc.names,y.2≠.cell:=fun y hy=>by
  have:=(h2 y hy).1.2
  simpa using this
 refine⟨closureFor_none nofree,h1,nocell,fun y hy hl=>?_,(fun p hp=>nomatch hp),fun y hy hk=>?_,by simpa using h4,fun p hp k e=>?_⟩
 ·have:=(h2 y hy).2;rw[hl] at this
  simpa using this
 ·have:(relabel sc X.env).names=sc.names:=by
   unfold relabel;refine map_eq_self fun x hx=>?_
   obtain⟨n,q⟩:=x;have:(q == NameKind.free)=false:=by simpa using nofree _ hx
   simp[this]
  rw[this] at hy;rcases hk with z|z
  ·exact absurd z (nocell y hy)
  ·exact absurd z (nofree y hy)
 ·have:=h3 p.1 (Kr hp).1;rw[e] at this;cases this

section
variable{K:Frag}{σ:St}{H H1:Hp}{Q:VK}{i:Nat}{v:V}{ta tb te:TE}{r:R2}{D:Ends}{t u:TS}{c:TT}
theorem Jms(h:σ[i]?=some (some v))(q:Q v H):Ze i σ H Q:=⟨v,h,q⟩
theorem Jo4(q:Q v H):tC v σ H Q:=q
theorem Joa(q:ta σ H fun x H1=>tb σ H1 fun y H2=>r x y H2 Q):tOp r ta tb σ H Q:=q
theorem Jod{r:V->Hp->VK->Prop}(q:ta σ H fun x H1=>r x H1 Q):tUn r ta σ H Q:=q
theorem Jn8{g:Int->Int->V}{a b:Int}(q:Q (g a b) H):rI0 g (.int a) (.int b) H Q:=⟨a,b,rfl,rfl,q⟩
theorem Jo5{C:Int->Int->Prop}{g:Int->Int->V}{a b:Int}(h:C a b)(q:Q (g a b) H):rI C g (.int a) (.int b) H Q:=⟨a,b,rfl,rfl,h,q⟩
theorem Jo6{g:Int->V}{a:Int}(q:Q (g a) H):rU g (.int a) H Q:=⟨a,rfl,q⟩
theorem Ji8{a b:Int}(q:Q (.int (a+b)) H):Jd0 K (.int a) (.int b) H Q:=.inl ⟨a,b,rfl,rfl,q⟩
theorem Jl8{a b:Int}(q:Q (.bl (decide (a=b))) H):Jg8 K (.int a) (.int b) H Q:=.inl ⟨rfl,by
 have:decide (V.int a=V.int b)=decide (a=b):=by simp
 rw[this];exact q⟩
theorem Jmj{a b:Int}(q:Q (.bl (!decide (a=b))) H):Jhb K (.int a) (.int b) H Q:=.inl ⟨rfl,by
 have:decide (V.int a=V.int b)=decide (a=b):=by simp
 rw[this];exact q⟩
theorem Jl9{a b:Str}(q:Q (.bl (decide (a=b))) H):Jg8 K (.str a) (.str b) H Q:=.inl ⟨rfl,by
 have:decide (V.str a=V.str b)=decide (a=b):=by simp
 rw[this];exact q⟩
theorem Jmk{a b:Str}(q:Q (.bl (!decide (a=b))) H):Jhb K (.str a) (.str b) H Q:=.inl ⟨rfl,by
 have:decide (V.str a=V.str b)=decide (a=b):=by simp
 rw[this];exact q⟩
theorem Jmd{x:V}(q:Q (.bl (decide (x=.non))) H):Jl1 x .non H Q:=⟨rfl,q⟩
theorem Jji{x:V}(q:Q (.bl (!decide (x=.non))) H):Jhc x .non H Q:=⟨rfl,q⟩
theorem Jhh{a b:Int}(q:Q (.int (max a b)) H):Jl2 [.int a,.int b] H Q:=⟨a,b,rfl,by
 have e:(if b>a then b else a)=max a b:=by rw[Int.max_def];split <;> split <;> omega
 rw[e];exact q⟩
theorem Jhi{a b:Int}(q:Q (.int (min a b)) H):Jl3 [.int a,.int b] H Q:=⟨a,b,rfl,by
 have e:(if b<a then b else a)=min a b:=by rw[Int.min_def];split <;> split <;> omega
 rw[e];exact q⟩
theorem Jjm{Qb:Bool->Hp->Prop}(q:ta σ H fun x H1=>∃k,Jer K x H1 k/\Qb k H1):JjJ K ta σ H Qb:=q
theorem Jma{f:Str}(q:ta σ H fun x H1=>∃a C dx fs v,x=.ref a/\H1 a=some (.ins C dx fs)/\Cls K C/\NoAttr K C f/\fs.lookup f=some v/\Q v H1):JjG K ta f σ H Q:=q
theorem Jjl{Qb:Bool->Hp->Prop}(q:te σ H fun x H'=>∃k,x=.bl k/\Qb k H'):Jeh te σ H Qb:=q
theorem Joc{Qb:Bool->Hp->Prop}(q:te σ H fun x H'=>∃k,x=.bl k/\Qb k H'):tB te σ H Qb:=q
theorem Jl6{c':TT}{Qb:Bool->Hp->Prop}(q:c σ H fun b H1=>if b=true then c' σ H1 Qb else Qb false H1):JmL c c' σ H Qb:=q
theorem Job{c':TT}{Qb:Bool->Hp->Prop}(q:c σ H fun b H1=>if b=true then Qb true H1 else c' σ H1 Qb):tOr c c' σ H Qb:=q
theorem Jmm{Qb:Bool->Hp->Prop}(q:c σ H fun b H1=>Qb (!b) H1):JmP c σ H Qb:=q
theorem Jjj(q:te σ H fun x H1=>∃b,x=.bl b/\Q (.bl (!b)) H1):Jou te σ H Q:=q
theorem Ji9(q:ta σ H fun x H1=>∃b,x=.bl b/\if b=true then tb σ H1 Q else Q (.bl false) H1):Jos ta tb σ H Q:=q
theorem Jmn(q:ta σ H fun x H1=>∃b,x=.bl b/\if b=true then Q (.bl true) H1 else tb σ H1 Q):Jpd ta tb σ H Q:=q
theorem Jmb(q:c σ H fun b H1=>if b=true then ta σ H1 Q else tb σ H1 Q):tIf c ta tb σ H Q:=q
theorem Jmq(q:t { D with nx:=u D } σ H):JmQ t u D σ H:=q
theorem Jl7{g:TG}(q:te σ H fun x H1=>g x σ H1 D.nx):Jb4 te g D σ H:=q
theorem Jhg{Qs:St->Hp->Prop}(q:Qs (σ.set i (some v)) H):Vm i v σ H Qs:=q
theorem Jmc(q:c σ H fun b H1=>if b=true then t D σ H1 else u D σ H1):JjH c t u D σ H:=q
theorem Jmo(q:te σ H D.rt):JjI te D σ H:=q
theorem Jjb(q:te σ H fun _ H1=>D.nx σ H1):Jb5 te D σ H:=q
theorem Jjh(q:D.nx σ H):JhA D σ H:=q
theorem Jja{tr:TA}{Ql:List V->Hp->Prop}(q:ta σ H fun x H1=>tr σ H1 fun xs H2=>Ql (x::xs) H2):VE ta tr σ H Ql:=q
theorem Jml{Ql:List V->Hp->Prop}(q:Ql [] H):Jb6 σ H Ql:=q
theorem Jn7{r:List V->Hp->VK->Prop}{ts:TA}(q:ts σ H fun vs H1=>r vs H1 Q):tCB r ts σ H Q:=q
theorem Jd3{sp:Sp}{E:XK}{ts:TA}(q:ts σ H fun vs H1=>sp vs H1 Q E):Jed sp [] E ts σ H Q:=by
 have e:(fun vs H1=>sp (vs++[]) H1 Q E)=fun vs H1=>sp vs H1 Q E:=by funext vs H1;rw[Gh]
 show ts σ H fun vs H1=>sp (vs++[]) H1 Q E
 rw[e];exact q
noncomputable def Jfu(xs:List V)(H:Hp)(Q:VK):Prop:=xs.length<=sizeLine/\∀p,H p=none->Q (.ref p) (upd H p (.tup xs))
noncomputable def Jks(xs:List V)(H:Hp)(Q:VK):Prop:=xs.length<=sizeLine/\∀p,H p=none->Q (.ref p) (upd H p (.lst xs))
theorem Jmr{ts:TA}(q:ts σ H fun xs H1=>Jfu xs H1 Q):JmR ts σ H Q:=q
theorem Jmi{ts:TA}(q:ts σ H fun xs H1=>Jks xs H1 Q):JmO ts σ H Q:=q
theorem Jkv{xs:List V}(hl:xs.length<=sizeLine)(q:∀p H',H p=none->Same H H'->H' p=some (.tup xs)->Q (.ref p) H'):Jfu xs H Q:=⟨hl,fun p hp=>q p _ hp (.new hp) Jq⟩
theorem Jje{a:Addr}{xs:List V}(h:SqL K H a xs)(q:Q (.int xs.length) H):JcS K [.ref a] H Q:=⟨_,_,rfl,.inl ⟨xs,h,rfl⟩,q⟩
theorem Jjg{a:Addr}{xs:List V}(h:SqT K H a xs)(q:Q (.int xs.length) H):JcS K [.ref a] H Q:=⟨_,_,rfl,.inr ⟨xs,h,rfl⟩,q⟩
theorem Jjf{x:Str}(h:x.length<=sizeLine)(q:Q (.int x.length) H):JcS K [.str x] H Q:=⟨_,_,rfl,⟨h,rfl⟩,q⟩
theorem Jfh{a:Addr}{xs:List V}(h:SqL K H a xs)(q:∀p H',H p=none->Same H H'->H' p=some (.tup xs)->Q (.ref p) H'):W8 K [.ref a] H Q:=⟨a,xs,rfl,.inl ⟨h,fun p hp=>q p _ hp (.new hp) Jq⟩⟩
theorem Jmf{a:Addr}{xs:List V}{j:Int}{v:V}(h:SqL K H a xs)(e:atI xs j=some v)(q:Q v H):rIx K (.ref a) (.int j) H Q:=.inl ⟨a,xs,j,v,rfl,rfl,h,e,q⟩
theorem Jmh{a:Addr}{xs:List V}{j:Int}{v:V}(h:SqT K H a xs)(e:atI xs j=some v)(q:Q v H):rIx K (.ref a) (.int j) H Q:=.inr (.inl ⟨a,xs,j,v,rfl,rfl,h,e,q⟩)
theorem Jmg{z:Str}{j:Int}{c:Nat}(hz:z.length<=sizeLine)(e:atI z.cps.toList j=some c)(q:Q (.str ⟨#[c]⟩) H):rIx K (.str z) (.int j) H Q:=.inr (.inr ⟨z,j,c,rfl,rfl,hz,e,q⟩)
theorem Jme{x:V}{n:String}{t:Value}{b:Bool}(ty:TyS K H x t)(e:kitOne K t (.type n)=some b)(q:Q (.bl b) H):Ji7 K [x,.ty n] H Q:=⟨x,_,t,_,b,rfl,ty,fun _ r=>r,e,q⟩
theorem Jn9{T:String}{rm:V->List V->Hp->VK->Prop}{to:TE}{ts:TA}(q:to σ H fun x H1=>tyV K T x H1/\ts σ H1 fun xs H2=>rm x xs H2 Q):tBM K T rm to ts σ H Q:=q
theorem Jjd{to ti:TE}{ts:Jnf}{Qs:St->Hp->Prop}(q:to σ H fun o H1=>ti σ H1 fun i H2=>ts o i v H2 fun H3=>Qs σ H3):JoR to ti ts v σ H Qs:=q
theorem Jd4{a:Addr}{xs:List V}{n:Nat}{ts:TGs}{Qs:St->Hp->Prop}(h:SqT K H a xs)(hl:xs.length=n)(q:ts xs σ H Qs):Jgf K n ts (.ref a) σ H Qs:=⟨a,xs,rfl,h,hl,q⟩
theorem Jhf{t:TG}{u:TGs}{x:V}{xs:List V}{Qs:St->Hp->Prop}(q:t x σ H fun σ' H'=>u xs σ' H' Qs):Jge t u (x::xs) σ H Qs:=⟨x,xs,rfl,q⟩
theorem Jjc{Qs:St->Hp->Prop}(q:Qs σ H):JkV [] σ H Qs:=⟨rfl,q⟩
theorem Jjk{f:Str}{tv:TE}(q:tv σ H fun y H1=>ta σ H1 fun x H2=>∃a C dx fs,x=.ref a/\H2 a=some (.ins C dx fs)/\Cls K C/\NoAttr K C f/\fs.length<1000/\D.nx σ (upd H2 a (.ins C dx (putF f y fs)))):Jmv K ta tv f D σ H:=q
theorem Jhe{r':R2}{tc:TE}(q:ta σ H fun x H1=>tb σ H1 fun y H2=>r x y H2 fun z H3=>∃k,z=.bl k/\(if k=true then tc σ H3 fun w' H4=>r' y w' H4 Q else Q (.bl false) H3)):Jc1 r r' ta tb tc σ H Q:=q
theorem Jmt{Qb:Bool->Hp->Prop}(q:Qb true H):JmS σ H Qb:=q
theorem ifd{c A B:Prop}[Decidable c](h1:c->A)(h2:¬c->B):if decide c=true then A else B:=by
 by_cases h:c
 ·rw[if_pos (decide_eq_true h)];exact h1 h
 ·rw[if_neg (by simpa using h)];exact h2 h
theorem ifT{b:Bool}{A B:Prop}(e:b=true)(h:A):if b=true then A else B:=by rw[if_pos e];exact h
theorem ifF{b:Bool}{A B:Prop}(e:b=false)(h:B):if b=true then A else B:=by rw[if_neg (by rw[e];exact Qy)];exact h

theorem Jfg{tl:TE}{g:TG}{a:Addr}{xs:List V}(hx:∀R:VK,R (.ref a) H1->tl σ H R)(hq:SqL K H1 a xs\/SqT K H1 a xs)(Pv:Nat->St->Hp->Prop)(h0:Pv 0 σ H1)(hS:∀i σ' H',Pv i σ' H'->Same H1 H')
 (hs:∀i x σ' H',xs[i]?=some x->Pv i σ' H'->g x σ' H' fun σ2 H2=>t { D with nx:=Pv (i+1),ct:=Pv (i+1),bk:=D.nx } σ2 H2) (hd:∀σ' H',Pv xs.length σ' H'->D.nx σ' H'):JmN (JeR K tl) g t D σ H:=by
 rcases hq with hq|hq
 ·exact .inl (hx _ ⟨a,rfl,⟨xs,hq⟩,Jgc (xs:=xs) Pv h0 (fun i σ' H' _ p=>(hS i σ' H' p).seq hq) hs hd⟩)
 ·exact .inr (hx _ ⟨a,rfl,⟨xs,hq⟩,Jit (xs:=xs) Pv h0 (fun i σ' H' _ p=>(hS i σ' H' p).seqT hq) hs hd⟩)
theorem Jdo{J:It}{g:TG}{tt:TT}{imp:List (Option Nat)}{n:Nat}(hn:n<=sizeLine)(Pv:Nat->List V->St->Hp->Prop)(h0:Pv 0 [] (WN imp σ) H1)(hy:∀i ys σ' H',Pv i ys σ' H'->ys.length<=i)
 (hstop:∀ys σ' H',Pv n ys σ' H'->J.stop n H') (hgo:∀i ys σ' H',i<n->Pv i ys σ' H'->J.go i H')
 (hs:∀i ys x σ' H' H2,i<n->J.yld i H' x H2->Pv i ys σ' H'->g x σ' H2 fun σ2 H3=>tt σ2 H3 fun b H4=>if b=true then te σ2 H4 fun y H5=>Pv (i+1) (ys++[y]) σ2 H5 else Pv (i+1) ys σ2 H4)
 (hd:∀ys σ' H',Pv n ys σ' H'->∀p H2,H' p=none->Same H' H2->H2 p=some (.lst ys)->Q (.ref p) H2) :
 ∃W:Nat->Nat->List V->St->Hp->Prop,(∃m,W 0 m [] (WN imp σ) H1)/\∀i m ys σ' H',W i m ys σ' H' ->
  (J.stop i H'/\ys.length<=sizeLine/\∀D,H' D=none->Q (.ref D) (upd H' D (.lst ys))) ∨
  (J.go i H'/\ys.length<sizeLine/\∃N:List V->St->Hp->Prop,(∀ys' σ2 H2,N ys' σ2 H2->∃m',m'<m/\W (i+1) m' ys' σ2 H2) ∧
   ∀x H2,J.yld i H' x H2->g x σ' H2 fun σ2 H3=>tt σ2 H3 fun b H4=>if b=true then te σ2 H4 fun y H5=>N (ys++[y]) σ2 H5 else N ys σ2 H4):=by
 refine⟨fun i m ys σ' H'=>m=n-i/\i<=n/\Pv i ys σ' H',⟨n,by simp,G1 _,h0⟩,?_⟩;rintro i m ys σ' H' ⟨rfl,hi,p⟩;have hl:=hy i ys σ' H' p
 by_cases hlt:i<n
 ·exact .inr ⟨hgo i ys σ' H' hlt p,by omega,fun ys' σ2 H2=>Pv (i+1) ys' σ2 H2,fun ys' σ2 H2 p'=>⟨n-(i+1),by omega,rfl,hlt,p'⟩,fun x H2 y=>hs i ys x σ' H' H2 hlt y p⟩
 ·have e:i=n:=by omega
  subst e;exact .inl ⟨hstop ys σ' H' p,by omega,fun q hq=>hd ys σ' H' p q _ hq (.new hq) Jq⟩
theorem JcT{tl:TE}{g:TG}{tt:TT}{imp:List (Option Nat)}{a:Addr}{xs:List V}(hx:∀R:VK,R (.ref a) H1->tl σ H R)(hq:SqL K H1 a xs\/SqT K H1 a xs)(hn:xs.length<=sizeLine)(Pv:Nat->List V->St->Hp->Prop)
 (h0:Pv 0 [] (WN imp σ) H1) (hy:∀i ys σ' H',Pv i ys σ' H'->ys.length<=i) (hS:∀i ys σ' H',Pv i ys σ' H'->Same H1 H')
 (hs:∀i ys x σ' H',xs[i]?=some x->Pv i ys σ' H'->g x σ' H' fun σ2 H3=>tt σ2 H3 fun b H4=>if b=true then te σ2 H4 fun y H5=>Pv (i+1) (ys++[y]) σ2 H5 else Pv (i+1) ys σ2 H4)
 (hd:∀ys σ' H',Pv xs.length ys σ' H'->∀p H2,H' p=none->Same H' H2->H2 p=some (.lst ys)->Q (.ref p) H2):Jee (JeR K tl) g tt te imp σ H Q:=by
 rcases hq with hq|hq
 ·refine .inl (hx _ ⟨a,rfl,⟨xs,hq⟩,Jdo (n:=xs.length) hn Pv h0 hy (fun ys σ' H' p=>⟨xs,(hS _ _ _ _ p).seq hq,Qk _⟩) (fun i ys σ' H' hi p=>⟨xs,xs[i],(hS _ _ _ _ p).seq hq,by simp[hi]⟩) (fun i ys x σ' H' H2 hi y p=>?_) hd⟩);obtain⟨e,y⟩:=y;subst e;exact hs i ys x σ' _ (y xs ((hS _ _ _ _ p).seq hq)) p
 ·refine .inr (hx _ ⟨a,rfl,⟨xs,hq⟩,Jdo (n:=xs.length) hn Pv h0 hy (fun ys σ' H' p=>⟨xs,(hS _ _ _ _ p).seqT hq,Qk _⟩) (fun i ys σ' H' hi p=>⟨xs,xs[i],(hS _ _ _ _ p).seqT hq,by simp[hi]⟩) (fun i ys x σ' H' H2 hi y p=>?_) hd⟩);obtain⟨e,y⟩:=y;subst e;exact hs i ys x σ' _ (y xs ((hS _ _ _ _ p).seqT hq)) p
end
end L2
namespace L2
open PySem PySem.Spec PyProof.Rows
section
variable{X:Cx}{K:Frag}{pos:Pos}
theorem JdV(hK:X.K=K):OpR X (binaryOp .Add) (Jd0 K):=hK▸JiP
theorem JaL(hK:X.K=K)(hu:X.A.units+64<cLine):OpR X (compareOp .Eq) (Jg8 K):=hK▸JlG hu
theorem W5(hK:X.K=K)(hu:X.A.units+64<cLine):OpR X (compareOp .NotEq) (Jhb K):=hK▸JlJ hu
theorem Y2(hK:X.K=K):CallR X (.builtin "len") (JcS K):=hK▸Jez
theorem Ja6(hK:X.K=K):CallR X (.type "tuple") (W8 K):=hK▸Ja7
theorem Jey(hK:X.K=K):CallR X (.builtin "isinstance") (Ji7 K):=hK▸JfO
theorem Jz(hK:X.K=K):IxR X (rIx K):=hK▸Jk8
theorem Y0{e:Expr}{ta:TE}{f:Str}(hK:X.K=K)(he:PE X e ta)(hb:attributeBase e f X.env (eval e X.env)=eval e X.env):PE X (.Attribute e f pos) (JjG K ta f):=hK▸JlP he hb
theorem Ji5{o value:Expr}{f:Str}{pos':Pos}{ta tv:TE}(hK:X.K=K)(ha:PE X o ta)(hv:PE X value tv)(hs:swapsWith value (some (.Attribute o f pos')) pos.line X.env=pure false):PS X (.Assign [.Attribute o f pos'] value pos) (Jmv K ta tv f):=hK▸JlX ha hv hs
theorem JY{tg l:Expr}{tl:TE}(hK:X.K=K)(hl:PE X l tl):PI X tg l (JeR K tl):=hK▸JlT hl
theorem JI{es:List Expr}{k:Nat}{t:TGs}{n:Nat}(hK:X.K=K)(hc:X.calm=true)(h:PGs X es t)(hn:(assignEach es X.env).length=n)(hst:(assignEach es X.env).findIdx? (·.1)=none):PG X (.Tuple es k pos) (Jgf K n t):=hK▸JlS hc h hn hst
theorem UB{a:Expr}{ta:TE}(hK:X.K=K)(ha:PE X a ta)(he:∀whole,isTrue a X.env whole=(do let v <- whole;standAt a.pos;holding [v] (truthy v))):PT X a (JjJ K ta):=hK▸JlY ha he
theorem UA{o e:Expr}{es:List Expr}{to:TE}{t:TA}{name:Str}{apos cpos:Pos}{T id:String}{r:V->List V->Hp->VK->Prop}(hK:X.K=K)(pa:PlainAttrs T)(slot:Slot T name id)(hty:typeOf (.builtin id)=pure (.type "method_descriptor"))(hm:MtR X id r)(ho:PE X o to)(ha:PA X (e::es) t)
 (hbase:attributeBase o name X.env (eval o X.env)=eval o X.env:=by rfl)
 (hfew:((backTo cpos (starEach (e::es) X.env)).all (fun x=>!x.1) && (backToKw cpos (keywordEach [] X.env)).all (fun x=>x.1.isSome)
  && decide ((e::es).length+([]:List Keyword).length+(if ([]:List Keyword).isEmpty then 0 else 1)<30))=true:=by rfl)
 (hline:(apos.endLine == cpos.line)=true:=by rfl) (hs:starEach (e::es) X.env=(false,eval e X.env)::starEach es X.env:=by rfl) (hplain:(backTo cpos (starEach es X.env)).any (·.1)=false:=by rfl) :
 PE X (.Call (.Attribute o name apos) (e::es) [] cpos) (tBM K T r to t):=hK▸JnS pa slot hty hm ho ha hbase hfew hline hs hplain
theorem JiU{o:Expr}{to:TE}{name:Str}{apos cpos:Pos}{T id:String}{r:V->List V->Hp->VK->Prop}(hK:X.K=K)(pa:PlainAttrs T)(slot:Slot T name id)(hty:typeOf (.builtin id)=pure (.type "method_descriptor"))(hm:MtR X id r)(ho:PE X o to)
 (hbase:attributeBase o name X.env (eval o X.env)=eval o X.env:=by rfl) (hline:(apos.endLine == cpos.line)=true:=by rfl):PE X (.Call (.Attribute o name apos) [] [] cpos) (JmM K T r to):=hK▸JlO pa slot hty hm ho hbase hline
end
end L2

namespace LR
open PySem L2

theorem sz2{a b:V}:[a,b].length<=sizeLine:=by show 2<=sizeLine;decide
theorem JmY(K:Frag)(H:Hp)(k:Bool):Jer K (.bl k) H k:=rfl
noncomputable abbrev Pr:=Int×Int
noncomputable def prD(p:Pr):PyData:=.tuple [.int p.1,.int p.2]
section
variable{K:Frag}{H H':Hp}
theorem Ji1{v:V}{p:Pr}(r:Rep K H v (prD p)):∃a,v=.ref a/\SqT K H a [.int p.1,.int p.2]:=by
 obtain⟨a,xs,rfl,h,l,q⟩:=r.tupI
 match xs,l,q,h with
 | [x,y],_,q,h =>
  have e1:=(q 0 x (.int p.1) rfl rfl).intI
  have e2:=(q 1 y (.int p.2) rfl rfl).intI;subst e1 e2;exact⟨a,rfl,h⟩
theorem Jg1{a:Addr}{b n:Int}(h:SqT K H a [.int b,.int n]):Rep K H (.ref a) (prD (b,n)):=.tupL h (.cons (.int b) (.cons (.int n) .nil))
theorem Ji2{a:Addr}{b n:Int}(h:H a=some (.tup [.int b,.int n])):Rep K H (.ref a) (prD (b,n)):=Jg1 (.of h)
noncomputable abbrev Prs(K:Frag)(H:Hp)(vs:List V)(ps:List Pr):Prop:=RepL K H vs (ps.map prD)
theorem Prs.len{vs:List V}{ps:List Pr}(r:Prs K H vs ps):vs.length=ps.length:=by have:=r.1;rwa [Qq] at this
theorem Prs.at{vs:List V}{ps:List Pr}{i:Nat}{v:V}(r:Prs K H vs ps)(e:vs[i]?=some v):∃p a,ps[i]?=some p/\v=.ref a/\SqT K H a [.int p.1,.int p.2]:=by
 obtain⟨d,h1,h2⟩:=r.get' e;rw[Qn] at h1
 cases hp:ps[i]? with
 | none=>rw[hp] at h1;cases h1
 | some p=>rw[hp] at h1;cases h1;obtain⟨a,e1,e2⟩:=Ji1 h2;exact⟨p,a,rfl,e1,e2⟩
theorem Prs.snoc{vs:List V}{ps:List Pr}{v:V}{p:Pr}(r:Prs K H vs ps)(h:Rep K H v (prD p)):Prs K H (vs++[v]) (ps++[p]):=by show RepL K H _ _;rw[QN];exact RepL.snoc r h
noncomputable def JhQ(K:Frag)(H:Hp)(v:V)(ps:List Pr):Prop:=∃a vs,v=.ref a/\(SqL K H a vs\/SqT K H a vs)/\Prs K H vs ps
end

structure Good (ps:List Pr):Prop where
 one:∀(i:Nat) (p:Pr),ps[i]?=some p->1<=p.2
 gap:∀(i:Nat) (p q:Pr),ps[i]?=some p->ps[i+1]?=some q->p.1+p.2<q.1
theorem Good.nil:Good []:=⟨fun i p e=>by simp at e,fun i p q e=>by simp at e⟩
theorem Good.snoc{ps:List Pr}{p:Pr}(g:Good ps)(h1:1<=p.2)(h2:∀q,ps[ps.length-1]?=some q->q.1+q.2<p.1):Good (ps++[p]):=by
 refine⟨fun i q e=>?_,fun i q r e1 e2=>?_⟩
 ·by_cases hi:i<ps.length
  ·rw[QJ hi] at e;exact g.one i q e
  ·rw[QR (by omega)] at e;obtain⟨h3,h4⟩:=Qh.mp e;have:i-ps.length=0:=by simp at h3;omega
   rw[this] at e;simp at e;subst e;exact h1
 ·by_cases hi:i+1<ps.length
  ·rw[QJ (by omega)] at e1;rw[QJ hi] at e2;exact g.gap i q r e1 e2
  ·rw[QR (by omega)] at e2;obtain⟨h3,h4⟩:=Qh.mp e2;have h5:i+1-ps.length=0:=by simp at h3;omega
   rw[h5] at e2;simp at e2;subst e2;have h6:i=ps.length-1:=by omega
   have h7:i<ps.length:=by omega
   rw[QJ h7] at e1;rw[h6] at e1;exact h2 q e1

noncomputable def JcU(t:Addr):List (Str×V):=[("stretches",.ref t)]
noncomputable def RowAt(C:Addr)(K:Frag)(H:Hp)(v:V)(ps:List Pr):Prop :=
 ∃x dx t ts,v=.ref x/\H x=some (.ins C dx (JcU t))/\H t=some (.tup ts)/\Prs K H ts ps
theorem RowAt.mono{C:Addr}{K:Frag}{H H':Hp}{v:V}{ps:List Pr}(e:Same H H')(r:RowAt C K H v ps):RowAt C K H' v ps:=by obtain⟨x,dx,t,ts,h0,h1,h2,h3⟩:=r;exact⟨x,dx,t,ts,h0,e _ _ h1,e _ _ h2,RepL.mono e h3⟩
structure RowC (K:Frag) (C:Addr):Prop where
 cl:Cls K C
 ns:NoAttr K C "stretches"
theorem Jfi(t:Addr):(JcU t).lookup ("stretches":Str)=some (.ref t):=by
 unfold JcU;rw[List.lookup_cons];have:(("stretches":Str) == ("stretches":Str))=true:=by decide +kernel
 rw[this]
theorem Jg5(t:Addr):putF "stretches" (.ref t) []=JcU t:=rfl

noncomputable def Wt(K:Frag):Sp:=fun vs H Q _=>∃v ps,vs=[v]/\JhQ K H v ps/\Good ps/\∀H',Same H H'->Q .non H'
noncomputable def V0(C:Addr)(K:Frag):Sp:=fun vs H Q _=>∃x dx v ps,vs=[.ref x,v]/\H x=some (.ins C dx [])/\JhQ K H v ps/\Good ps/\ps.length<=30 ∧
 ∀H' t ts,SameEx x H H'->H' x=some (.ins C dx (JcU t))->H' t=some (.tup ts)->Prs K H' ts ps->Q .non H'
noncomputable def Jfw(C:Addr)(sp:Sp)(E:XK)(vs:List V)(H1:Hp)(Q:VK):Prop:=∀x dx,H1 x=none->H1 dx=none->dx≠x ->
 sp (.ref x::vs) (upd (upd H1 dx (.own x)) x (.ins C dx [])) (fun v H2=>v=.non/\Q (.ref x) H2) E
theorem Jd5{C:Addr}{sp:Sp}{E:XK}{ts:TA}{σ:St}{H:Hp}{Q:VK}(q:ts σ H fun vs H1=>Jfw C sp E vs H1 Q):Jef C sp [] E ts σ H Q:=by
 have e:(fun vs H1=>Jfw C sp E vs H1 Q)=fun vs H1=>∀x dx,H1 x=none->H1 dx=none->dx≠x->sp (.ref x::(vs++[])) (upd (upd H1 dx (.own x)) x (.ins C dx [])) (fun v H2=>v=.non/\Q (.ref x) H2) E:=by funext vs H1;rw[Gh];rfl
 show ts σ H _;rw[<- e];exact q
theorem Jmp{C:Addr}{K:Frag}{H:Hp}{Q:VK}{v:V}{ps:List Pr}{E:XK}(h:JhQ K H v ps)(g:Good ps)(hl:ps.length<=30)(q:∀x H',H x=none->Same H H'->RowAt C K H' (.ref x) ps->Q (.ref x) H'):Jfw C (V0 C K) E [v] H Q:=by
 intro x dx nx ndx nex
 have s0:Same H (upd (upd H dx (.own x)) x (.ins C dx [])):=fun b o e=>by rw[Jh (Ju e nx),Jh (Ju e ndx)];exact e
 obtain⟨a,vs,rfl,hq,hp⟩:=h;refine⟨x,dx,_,ps,rfl,Jq,⟨a,vs,rfl,hq.imp s0.seq s0.seqT,RepL.mono s0 hp⟩,g,hl,fun H' t ts e h1 h2 h3=>⟨rfl,q x H' nx (fun b o h=>e b o (Ju h nx) (s0 b o h)) ⟨x,dx,t,ts,rfl,h1,h2,h3⟩⟩⟩

noncomputable def cell(ns:List Int)(k:Int):Int:=ns.getD k.toNat 0
end LR

namespace LR
open PySem L2

theorem JfQ{ns:List Int}{k:Int}(h:¬k<(ns.length:Int)):cell ns k=0:=by unfold cell;rw[QZ,Mu (by omega)];rfl
noncomputable def spr(ns:List Int)(at' span p0:Int):Nat->Int×List Pr
 | 0=>(p0,[])
 | i+1=>((spr ns at' span p0 i).1+(1+cell ns (at'+1+2*i) % span)+1+cell ns (at'+2+2*i) % span,(spr ns at' span p0 i).2++[((spr ns at' span p0 i).1,1+cell ns (at'+1+2*i) % span)])
theorem UT(ns:List Int)(at' span p0:Int):∀i,(spr ns at' span p0 i).2.length=i
 | 0=>rfl
 | i+1=>by show(_++[_]).length=_;rw[QC,UT ns at' span p0 i];rfl
theorem Jb3(ns:List Int)(at' span p0:Int)(hs:0<span):∀i,Good (spr ns at' span p0 i).2/\∀q,(spr ns at' span p0 i).2[i-1]?=some q->q.1+q.2<(spr ns at' span p0 i).1
 | 0=>⟨Good.nil,fun q e=>by simp[spr] at e⟩
 | i+1=>by
  obtain⟨g,h⟩:=Jb3 ns at' span p0 hs i;have m1:=GY (cell ns (at'+1+2*i)) (b:=span) (by omega);have m2:=GY (cell ns (at'+2+2*i)) (b:=span) (by omega);refine⟨g.snoc (by show 1<=1+_;omega) (by rw[UT];exact h),fun q e=>?_⟩;have e':((spr ns at' span p0 i).2++[((spr ns at' span p0 i).1,1+cell ns (at'+1+2*i) % span)])[i]?=some q:=e;rw[QR (by rw[UT];exact Qk _),UT] at e'
  simp at e';subst e';show _+(1+_)<_+(1+_)+1+_;omega
noncomputable def Jdd(ps:List Pr):Nat->V
 | 0=>.non
 | i+1=>match ps[i]? with
  | some p=>.int (p.1+p.2)
  | none=>.non
theorem UG{ps:List Pr}{i:Nat}{p:Pr}(e:ps[i]?=some p):Jdd ps (i+1)=.int (p.1+p.2):=by show(match ps[i]? with|some p=>V.int (p.1+p.2)|none=>V.non)=_;rw[e]
theorem JfS{K:Frag}{v:V}{ps:List Pr}{H:Hp}{Q:VK}{E:XK}(h:JhQ K H v ps)(g:Good ps)(q:∀H',Same H H'->Q .non H'):Wt K [v] H Q E:=⟨v,ps,rfl,h,g,q⟩
theorem JbQ{K:Frag}{a:Addr}{xs:List V}{H:Hp}{Q:VK}(h:SqL K H a xs\/SqT K H a xs)(q:Q (.int xs.length) H):JcS K [.ref a] H Q:=by
 rcases h with h|h
 ·exact Jje h q
 ·exact Jjg h q
theorem SameEx.sqT'{K:Frag}{H H':Hp}{x a C dx:Addr}{fs:List (Str×V)}{xs:List V}(e:SameEx x H H')(hx:H x=some (.ins C dx fs))(h:SqT K H a xs):SqT K H' a xs:=by
 rcases h with (h|⟨o,h⟩)|h
 ·exact .inl (.inl (e _ _ (ZT h hx (by intro z;cases z)) h))
 ·exact .inl (.inr ⟨o,e _ _ (ZT h hx (by intro z;cases z)) h⟩)
 ·exact .inr h
theorem Prs.monoIns{K:Frag}{H H':Hp}{x C dx:Addr}{fs:List (Str×V)}{vs:List V}{ps:List Pr}(e:SameEx x H H')(hx:H x=some (.ins C dx fs))(r:Prs K H vs ps):Prs K H' vs ps:=by refine⟨r.1,fun i v d h1 h2=>?_⟩;obtain⟨p,a,e1,e2,e3⟩:=r.at h1;rw[Qn,e1] at h2;cases h2;subst e2;exact Jg1 (SameEx.sqT' e hx e3)
noncomputable def Jd6(K:Frag):Sp:=fun vs H Q _=>∃(a:Addr) (ns:List Int),vs=[.ref a]/\SqL K H a (ns.map V.int)/\ns.length<=63/\∀H',Q (.bl true) H'
end LR
namespace LR
open PySem L2
end LR

namespace L2
open PySem PySem.Spec PyProof.Rows

section
variable{X:Cx}{pins:List (Addr×Obj)}{σ:St}{H:Hp}{s:Shared}
theorem VQ{A':Around}{E:Value->Shared->Prop}{Q:Value->Shared->Prop}{a:Addr}{vs:List V}(hh:A'.handled=none)(I:Inv X pins σ H s)(hq:SqL X.K H a vs\/SqT X.K H a vs)
 (h:∀(its:List Value) (J:Addr) (fp wr:List Addr) (Sx:Nat->Heap->Prop) (s2:Shared),Vals vs its->Walks X.prog X.w A' J fp wr its.toArray.size (fun i v=>its.toArray[i]?=some v) Sx->Sx 0 s2.heap->(∀b∈fp,b<s2.heap.objs.size) ->
  (∀h' tk,(∀b o,b∉wr->s2.heap.get? b=some o->h'.get? b=some o)->Inv X pins σ H { s2 with heap:=h',toks:=tk })->Q (.ref J) s2):wpAny (model X.prog X.w) A' (pyIter (.ref a)) Q E s:=by
 have nin:∀b o,s.heap.get? b=some o->b∉[s.heap.objs.size]:=fun b o e z=>by
  have:b=s.heap.objs.size:=by simpa using z
  exact absurd (Qo e) (by rw[this];exact Gc _)
 rcases hq with hq|hq
 ·obtain⟨its,rv,p,hz⟩:=I.list hq;have hlt:a<s.heap.objs.size:=by obtain⟨_,e,_⟩:=p.isList;exact Qo e
  refine K3 p.isList ?_;refine h its _ _ _ _ _ rv (Walks.list hh _ a (Qx hlt) its.toArray) ⟨⟨_,Qj _ rfl,rfl,rfl⟩,p.isList.push _⟩ (fun b hb=>?_) fun h' tk hk=>I.kept fun b o e=>hk b o (nin b o e) (Qf _ e)
  show b<(s.heap.push _).objs.size;rw[Q5];rcases Qg.mp hb with z|z
  ·rw[z];exact GO _
  ·have:b=a:=by simpa using z
   rw[this];exact K6 hlt
 ·obtain⟨its,rv,p,hz⟩:=I.tuple hq;have ht:s.heap.IsTuple a its.toArray:=p;have hlt:a<s.heap.objs.size:=by obtain⟨_,e,_⟩:=ht;exact Qo e
  refine LH ht ?_;refine h its _ _ _ _ _ rv (Walks.tuple hh _ a (Qx hlt) its.toArray) ⟨⟨_,Qj _ rfl,rfl,rfl⟩,?_⟩ (fun b hb=>?_) fun h' tk hk=>I.kept fun b o e=>hk b o (nin b o e) (Qf _ e)
  ·obtain⟨o,e,c⟩:=ht;exact⟨o,Qf _ e,c⟩
  ·show b<(s.heap.push _).objs.size;rw[Q5];rcases Qg.mp hb with z|z
   ·rw[z];exact GO _
   ·have:b=a:=by simpa using z
    rw[this];exact K6 hlt
end

theorem V8(l:List Int):∀j,j<=l.length->preSum (fun i=>l.getD i 0) j=(l.take j).sum
 | 0,_=>by simp[preSum]
 | j+1,h=>by
  rw[preSum,V8 l j (by omega)];have hj:j<l.length:=by omega
  rw[List.take_add_one,Lq];simp[hj]
section
variable{X:Cx}
noncomputable def Jl5(K:Frag):List V->Hp->VK->Prop:=fun xs H Q=>∃(a:Addr) (ns:List Int),xs=[.ref a]/\(SqL K H a (ns.map V.int)\/SqT K H a (ns.map V.int))/\Q (.int ns.sum) H
theorem JeG(hc:X.calm=true):CallR X (.builtin "sum") (Jl5 X.K):=by
 intro pins s σ H xs us Q I r h;obtain⟨a,ns,rfl,hq,q⟩:=h;obtain⟨u,rfl,rx⟩:=UZ r;cases rx;refine call_sum_walkG (VQ (A':=X.A.in1) (I.ok.hd hc) I hq fun its J fp wr Sx s2 rv W st hfp hI=>?_);have hi:=U7 rv;have hl:=rv.length;rw[Qq] at hl;refine⟨J,fp,wr,_,_,Sx,fun i=>ns.getD i 0,rfl,W,st,hfp,fun i v e=>?_,fun h' tk t' hk=>?_⟩
 ·have e':its[i]?=some v:=by simpa using e
  obtain⟨x,e1,e2⟩:=rv.get' e';rw[Qn] at e1
  cases hn:ns[i]? with
  | none=>rw[hn] at e1;cases e1
  | some n=>rw[hn] at e1;cases e1;obtain⟨t,rfl⟩:=e2;exact⟨t,by simp[QZ,hn]⟩
 ·refine⟨.int ns.sum,H,hI h' tk hk,⟨t',?_⟩,q⟩;rw[show its.toArray.size=ns.length by simp[hl],V8 ns _ (Qk _),List.take_length]
noncomputable def Jl0(K:Frag):List V->Hp->VK->Prop:=fun xs H Q=>∃(a:Addr) (bs:List Bool),xs=[.ref a]/\(SqL K H a (bs.map V.bl)\/SqT K H a (bs.map V.bl))/\Q (.bl (bs.any id)) H
noncomputable def JlZ(K:Frag):List V->Hp->VK->Prop:=fun xs H Q=>∃(a:Addr) (bs:List Bool),xs=[.ref a]/\(SqL K H a (bs.map V.bl)\/SqT K H a (bs.map V.bl))/\Q (.bl (bs.all id)) H
theorem Jff(bs:List Bool):(GQ bs.length).any (fun i=>bs.getD i false)=bs.any id:=by
 rw[Gy];simp only[Kg,MC,id];constructor
 ·rintro⟨i,hi,e⟩;simp[QZ,hi] at e;exact⟨bs[i],L9 hi,e⟩
 ·rintro⟨b,hb,rfl⟩;obtain⟨i,hi,e⟩:=QV.mp hb;exact⟨i,hi,by simp[QZ,hi,e]⟩
theorem Jfe(bs:List Bool):(GQ bs.length).all (fun i=>bs.getD i false)=bs.all id:=by
 rw[Gy];simp only[GF,MC,id];constructor
 ·intro h b hb;obtain⟨i,hi,e⟩:=QV.mp hb;have:=h i hi;simp[QZ,hi] at this;rw[<- e];exact this
 ·intro h i hi;simp[QZ,hi];exact h _ (L9 hi)
theorem Wa{A:Around}{bs:List Bool}{its:List Value}(rv:Vals (bs.map V.bl) its):TruthOf X.prog X.w A (fun i v=>its.toArray[i]?=some v) (fun i=>bs.getD i false):=by
 intro i v s Q E e q;have e':its[i]?=some v:=by simpa using e
 obtain⟨x,e1,e2⟩:=rv.get' e';rw[Qn] at e1
 cases hn:bs[i]? with
 | none=>rw[hn] at e1;cases e1
 | some n =>
  rw[hn] at e1;cases e1;cases e2;have:bs.getD i false=n:=by simp[QZ,hn]
  have q':Q (bs.getD i false) s:=q;rw[this] at q';exact KB q'
theorem Jex(hc:X.calm=true):CallR X (.builtin "any") (Jl0 X.K):=by intro pins s σ H xs us Q I r h;obtain⟨a,bs,rfl,hq,q⟩:=h;obtain⟨u,rfl,rx⟩:=UZ r;cases rx;refine call_any_walk (VQ (A':=X.A.in1) (I.ok.hd hc) I hq fun its J fp wr Sx s2 rv W st hfp hI=>?_);have hl:=rv.length;rw[Qq] at hl;refine⟨J,fp,wr,_,_,Sx,_,rfl,W,st,Wa rv,fun h' tk hk=>⟨.bl _,H,hI h' tk hk,rfl,?_⟩⟩;rw[show its.toArray.size=bs.length by simp[hl],Jff];exact q
theorem Jev(hc:X.calm=true):CallR X (.builtin "all") (JlZ X.K):=by intro pins s σ H xs us Q I r h;obtain⟨a,bs,rfl,hq,q⟩:=h;obtain⟨u,rfl,rx⟩:=UZ r;cases rx;refine call_all_walk (VQ (A':=X.A.in1) (I.ok.hd hc) I hq fun its J fp wr Sx s2 rv W st hfp hI=>?_);have hl:=rv.length;rw[Qq] at hl;refine⟨J,fp,wr,_,_,Sx,_,rfl,W,st,Wa rv,fun h' tk hk=>⟨.bl _,H,hI h' tk hk,rfl,?_⟩⟩;rw[show its.toArray.size=bs.length by simp[hl],Jfe];exact q
noncomputable def strI(i:Int):Str:=(toString i:String)
end
section
variable{X:Cx}{K:Frag}
theorem Uo(hK:X.K=K)(hc:X.calm=true):CallR X (.builtin "sum") (Jl5 K):=hK▸JeG hc
theorem Jew(hK:X.K=K)(hc:X.calm=true):CallR X (.builtin "any") (Jl0 K):=hK▸Jex hc
theorem Jeu(hK:X.K=K)(hc:X.calm=true):CallR X (.builtin "all") (JlZ K):=hK▸Jev hc
end
section
variable{K:Frag}{H:Hp}{Q:VK}
end
end L2
namespace L2
open PySem PySem.Spec PyProof.Rows
noncomputable def AllP{α:Type}(P:α->Prop):List α->Prop
 | []=>True
 | x::xs=>P x/\AllP P xs
theorem AllP.mem{α:Type}{P:α->Prop}:∀{l:List α},AllP P l->∀x∈l,P x
 | [],_,x,hx=>nomatch hx
 | y::l,h,x,hx=>by
  rcases Qg.mp hx with z|z
  ·rw[z];exact h.1
  ·exact AllP.mem h.2 x z
theorem U8{cl:List (Str×Addr)}{x:Str}(h:cl.any (fun p=>p.1 == x)=true):(cl.lookup x).isSome=true:=by
 induction cl with
 | nil=>simp at h
 | cons p cl ih =>
  obtain⟨n,a⟩:=p;rw[List.lookup_cons]
  by_cases e:x == n
  ·rw[e];rfl
  ·have e':(x == n)=false:=by simpa using e
   rw[e'];rw[G8] at h;rcases Bool.or_eq_true_iff.mp h with z|z
   ·have:n=x:=eq_of_beq z;rw[this] at e';simp at e'
   ·exact ih z
theorem JfJ{X:Cx}{sc:Scope}{cl:List (Str×Addr)}{own:List Str}{fr:List (Str×Nat)}(h1:sc.kind=.function)(h2:closureFor sc X.env=pure cl)
 (h3:(sc.names.all fun y=>y.2 != .cell && (y.2 != .local || sc.names.lookup y.1 == some .local))=true) (h4:AllP (fun p=>X.env.cells.lookup p.1=some p.2) cl)
 (h5:((relabel sc X.env).names.all fun y=>(y.2 != .cell && y.2 != .free) || cl.any (fun p=>p.1 == y.1))=true)
 (h6:AllP (fun p=>X.N[p.2]?=some p.1/\X.env.scope.names.lookup p.1=some .cell/\(relabel sc X.env).names.lookup p.1=some .cell) fr) :
 Blk X sc cl (own++fr.map (·.1)) (own.map (fun _=>none)++fr.map (fun p=>some p.2)):=by
 simp only[GF,QK] at h3;simp only[GF] at h5;refine⟨h2,h1,fun y hy=>?_,fun y hy hl=>?_,AllP.mem h4,fun y hy hk=>?_,by simp,fun p hp k e=>?_⟩
 ·have:=(h3 y hy).1
  simpa using this
 ·have:=(h3 y hy).2;rw[hl] at this
  simpa using this
 ·have:=h5 y hy;rcases Bool.or_eq_true_iff.mp this with z|z
  ·rcases hk with q|q
   ·rw[q] at z;simp at z
   ·rw[q] at z;simp at z
  ·exact U8 z
 ·rw[List.zip_append (by simp)] at hp;rcases Gb.mp hp with z|z
  ·have:=(Kr z).1;obtain⟨_,_,q⟩:=Qw.mp this;rw[<- q] at e;cases e
  ·rw[List.zip_map_left] at z;obtain⟨q,hq,eq⟩:=Qw.mp z
   have hz:q.1∈fr/\q.1.1=q.2:=by
    clear h6 e eq z hp;rw[List.zip_map_right] at hq;obtain⟨q',hq',eq'⟩:=Qw.mp hq
    have:q'.1=q'.2:=by
     clear eq' hq
     induction fr with
     | nil=>cases hq'
     | cons x fr ih =>
      rcases Qg.mp hq' with z|z
      ·rw[z]
      ·exact ih z
    rw[<- eq'];exact⟨(Kr hq').1,by show q'.1.1=q'.2.1;rw[this]⟩
   obtain⟨a1,a2,a3⟩:=AllP.mem h6 q.1 hz.1;rw[<- eq] at e ⊢;have ek:q.1.2=k:=by simpa using e
   subst ek;rw[hz.2] at a1 a2 a3;exact⟨a1,.inl a2,.inl a3⟩
end L2

namespace LR
open PySem L2

noncomputable def Small(i:Int):Prop:=i.natAbs.log2<1920
theorem Small.of{i:Int}(h:i.natAbs<2 ^ 1920):Small i:=by
 unfold Small
 by_cases h0:i.natAbs=0
 ·rw[h0];decide
 ·exact(Nat.log2_lt h0).mpr h
theorem Small.le{i:Int}(h1:-(10 ^ 100)<=i)(h2:i<=10 ^ 100):Small i:=Small.of (by
 have h3:i.natAbs<=10 ^ 100:=by omega
 exact GR h3 (by decide +kernel))
end LR

namespace LE
open PySem L2 LR

inductive D where
 | non|bl (b:Bool)|int (i:Int)|str (x:Str)|tup (l:List D)|lst (l:List D)|fz (l:List D)|row (l:List D)|dct (ks:List Int) (l:List D)|dfz (ks:List Int) (l:List D)|exc (n:Str)
noncomputable def dkO(ks:List Int)(xs:List V):HO:=.dK ((ks.map Sum.inl).zip xs)
noncomputable def dtK(p:Int×Int):List Key:=[Sum.inl p.1,Sum.inl p.2]
noncomputable def dtO(ps:List (Int×Int))(xs:List V):HO:=.dT ((ps.map dtK).zip xs)
noncomputable def XO(a:Addr)(c:Value):HO:=.ext fun h=>∃o,h.get? a=some o/\o.cls=c/\PySem.W.notCls o=true/\o.dict=none

section
variable(K:Frag)(C:Addr)
inductive RD (H:Hp):V->D->Prop
 | non:RD H .non .non
 | bl (b:Bool):RD H (.bl b) (.bl b)
 | int (i:Int):RD H (.int i) (.int i)
 | str (x:Str):RD H (.str x) (.str x)
 | tup {a:Addr} {xs:List V} {ds:List D}:SqT K H a xs->xs.length=ds.length->(∀(i:Nat) (x:V) (d:D),xs[i]?=some x->ds[i]?=some d->RD H x d)->RD H (.ref a) (.tup ds)
 | lst {a:Addr} {xs:List V} {ds:List D}:H a=some (.lst xs)->xs.length=ds.length->(∀(i:Nat) (x:V) (d:D),xs[i]?=some x->ds[i]?=some d->RD H x d)->RD H (.ref a) (.lst ds)
 | fz {a:Addr} {xs:List V} {ds:List D}:SqL K H a xs->xs.length=ds.length->(∀(i:Nat) (x:V) (d:D),xs[i]?=some x->ds[i]?=some d->RD H x d)->RD H (.ref a) (.fz ds)
 | row {x dx t:Addr} {ts:List V} {ds:List D}:H x=some (.ins C dx (JcU t))->SqT K H t ts->ts.length=ds.length->(∀(i:Nat) (x:V) (d:D),ts[i]?=some x->ds[i]?=some d->RD H x d)->RD H (.ref x) (.row ds)
 | dct {a:Addr} {ks:List Int} {xs:List V} {ds:List D}:H a=some (dkO ks xs)->ks.length=ds.length->xs.length=ds.length->(∀(i:Nat) (x:V) (d:D),xs[i]?=some x->ds[i]?=some d->RD H x d)->RD H (.ref a) (.dct ks ds)
 | dfz {a:Addr} {ks:List Int} {xs:List V} {ds:List D} {o:Obj}:H a=some (.frz o (dkO ks xs))->ks.length=ds.length->xs.length=ds.length->(∀(i:Nat) (x:V) (d:D),xs[i]?=some x->ds[i]?=some d->RD H x d)->RD H (.ref a) (.dfz ks ds)
 | exc {a c:Addr} {n:Str}:H a=some (XO a (.ref c))->nsIn K mainGlobals n=some (some (.ref c))->RD H (.ref a) (.exc n)
noncomputable def RDL(H:Hp)(xs:List V)(ds:List D):Prop:=xs.length=ds.length/\∀(i:Nat) (x:V) (d:D),xs[i]?=some x->ds[i]?=some d->RD K C H x d
end

section
variable{K:Frag}{C:Addr}{H H':Hp}
theorem RD.mono{v:V}{d:D}(e:Same H H')(r:RD K C H v d):RD K C H' v d:=by
 induction r with
 | non=>exact .non
 | bl b=>exact .bl b
 | int i=>exact .int i
 | str x=>exact .str x
 | tup h l _ ih=>exact .tup (e.seqT h) l ih
 | lst h l _ ih=>exact .lst (e _ _ h) l ih
 | fz h l _ ih=>exact .fz (e.seq h) l ih
 | row h1 h2 l _ ih=>exact .row (e _ _ h1) (e.seqT h2) l ih
 | dct h1 h2 l _ ih=>exact .dct (e _ _ h1) h2 l ih
 | dfz h1 h2 l _ ih=>exact .dfz (e _ _ h1) h2 l ih
 | exc h1 h2=>exact .exc (e _ _ h1) h2
theorem RDL.mono{xs:List V}{ds:List D}(e:Same H H')(r:RDL K C H xs ds):RDL K C H' xs ds:=⟨r.1,fun i x d h1 h2=>(r.2 i x d h1 h2).mono e⟩
theorem RDL.nil:RDL K C H [] []:=⟨rfl,fun i x d e=>by simp at e⟩
theorem RDL.cons{x:V}{d:D}{xs:List V}{ds:List D}(h:RD K C H x d)(r:RDL K C H xs ds):RDL K C H (x::xs) (d::ds):=by
 refine⟨by simp[r.1],fun i y e h1 h2=>?_⟩
 cases i with
 | zero=>simp at h1 h2;subst h1 h2;exact h
 | succ i=>exact r.2 i y e (by simpa using h1) (by simpa using h2)
theorem RDL.append{xs ys:List V}{ds es:List D}(r:RDL K C H xs ds)(q:RDL K C H ys es):RDL K C H (xs++ys) (ds++es):=by
 refine⟨by simp[r.1,q.1],fun i x d h1 h2=>?_⟩
 by_cases hi:i<xs.length
 ·rw[QJ hi] at h1;rw[QJ (by rw[<- r.1];exact hi)] at h2;exact r.2 i x d h1 h2
 ·rw[QR (by omega)] at h1;rw[QR (by rw[<- r.1];omega)] at h2;rw[<- r.1] at h2;exact q.2 _ x d h1 h2
theorem RDL.snoc{xs:List V}{ds:List D}{x:V}{d:D}(r:RDL K C H xs ds)(h:RD K C H x d):RDL K C H (xs++[x]) (ds++[d]):=r.append (.cons h .nil)
theorem RDL.get{xs:List V}{ds:List D}{i:Nat}{d:D}(r:RDL K C H xs ds)(e:ds[i]?=some d):∃x,xs[i]?=some x/\RD K C H x d:=by
 have hi:=(Qh.mp e).1
 have hx:i<xs.length:=by rw[r.1];exact hi
 exact⟨xs[i],by simp[hx],r.2 i _ d (by simp[hx]) e⟩
theorem RDL.get'{xs:List V}{ds:List D}{i:Nat}{x:V}(r:RDL K C H xs ds)(e:xs[i]?=some x):∃d,ds[i]?=some d/\RD K C H x d:=by
 have hi:=(Qh.mp e).1
 have hx:i<ds.length:=by rw[<- r.1];exact hi
 exact⟨ds[i],by simp[hx],r.2 i x _ e (by simp[hx])⟩
theorem RDL.head{x:V}{xs:List V}{d:D}{ds:List D}(r:RDL K C H (x::xs) (d::ds)):RD K C H x d:=r.2 0 x d rfl rfl
theorem RDL.tail{x:V}{xs:List V}{d:D}{ds:List D}(r:RDL K C H (x::xs) (d::ds)):RDL K C H xs ds:=⟨by have:=r.1;simpa using this,fun i y e h1 h2=>r.2 (i+1) y e (by simpa using h1) (by simpa using h2)⟩
theorem RDL.take{xs:List V}{ds:List D}(n:Nat)(r:RDL K C H xs ds):RDL K C H (xs.take n) (ds.take n):=by
 refine⟨by simp[r.1],fun i x d h1 h2=>?_⟩;rw[List.getElem?_take] at h1 h2;split at h1
 ·rw[if_pos (by assumption)] at h2;exact r.2 i x d h1 h2
 ·cases h1
theorem RDL.drop{xs:List V}{ds:List D}(n:Nat)(r:RDL K C H xs ds):RDL K C H (xs.drop n) (ds.drop n):=by refine⟨by simp[r.1],fun i x d h1 h2=>?_⟩;rw[List.getElem?_drop] at h1 h2;exact r.2 _ x d h1 h2
theorem RDL.set{xs:List V}{ds:List D}{v:V}{e:D}(n:Nat)(r:RDL K C H xs ds)(h:RD K C H v e):RDL K C H (xs.set n v) (ds.set n e):=by
 refine⟨by simp[r.1],fun i x d h1 h2=>?_⟩;rw[QT] at h1 h2;split at h1
 ·rw[if_pos (by assumption)] at h2;split at h1
  ·rw[if_pos (by rw[<- r.1];assumption)] at h2;cases h1;cases h2;exact h
  ·cases h1
 ·rw[if_neg (by assumption)] at h2;exact r.2 i x d h1 h2
theorem RDL.reverse{xs:List V}{ds:List D}(r:RDL K C H xs ds):RDL K C H xs.reverse ds.reverse:=by
 refine⟨by simp[r.1],fun i x d h1 h2=>?_⟩;have hi:i<xs.length:=by have:=(Qh.mp h1).1;simpa using this
 rw[GC hi] at h1;rw[GC (by rw[<- r.1];exact hi)] at h2;rw[<- r.1] at h2;exact r.2 _ x d h1 h2
theorem RDL.ints:∀{xs:List V} {ns:List Int},RDL K C H xs (ns.map D.int)->xs=ns.map V.int
 | [],[],_=>rfl
 | [],_::_,r=>by have:=r.1;simp at this
 | _::_,[],r=>by have:=r.1;simp at this
 | x::xs,n::ns,r=>by have h:=r.head;cases h;rw[RDL.ints r.tail];rfl
theorem RDL.ofInts:∀(ns:List Int),RDL K C H (ns.map V.int) (ns.map D.int)
 | []=>.nil
 | n::ns=>.cons (.int n) (RDL.ofInts ns)
theorem RDL.bls:∀{xs:List V} {ns:List Bool},RDL K C H xs (ns.map D.bl)->xs=ns.map V.bl
 | [],[],_=>rfl
 | [],_::_,r=>by have:=r.1;simp at this
 | _::_,[],r=>by have:=r.1;simp at this
 | x::xs,n::ns,r=>by have h:=r.head;cases h;rw[RDL.bls r.tail];rfl
theorem RDL.strs:∀{xs:List V} {ns:List Str},RDL K C H xs (ns.map D.str)->xs=ns.map V.str
 | [],[],_=>rfl
 | [],_::_,r=>by have:=r.1;simp at this
 | _::_,[],r=>by have:=r.1;simp at this
 | x::xs,n::ns,r=>by have h:=r.head;cases h;rw[RDL.strs r.tail];rfl
theorem RD.mkT{a:Addr}{xs:List V}{ds:List D}(h:SqT K H a xs)(r:RDL K C H xs ds):RD K C H (.ref a) (.tup ds):=.tup h r.1 r.2
theorem RD.mkL{a:Addr}{xs:List V}{ds:List D}(h:H a=some (.lst xs))(r:RDL K C H xs ds):RD K C H (.ref a) (.lst ds):=.lst h r.1 r.2
theorem RD.mkF{a:Addr}{xs:List V}{ds:List D}(h:SqL K H a xs)(r:RDL K C H xs ds):RD K C H (.ref a) (.fz ds):=.fz h r.1 r.2
theorem RD.tupI{v:V}{ds:List D}(r:RD K C H v (.tup ds)):∃a xs,v=.ref a/\SqT K H a xs/\RDL K C H xs ds:=by
 cases r with
 | tup h l q=>exact⟨_,_,rfl,h,l,q⟩
theorem RD.lstI{v:V}{ds:List D}(r:RD K C H v (.lst ds)):∃a xs,v=.ref a/\H a=some (.lst xs)/\RDL K C H xs ds:=by
 cases r with
 | lst h l q=>exact⟨_,_,rfl,h,l,q⟩
theorem RD.fzI{v:V}{ds:List D}(r:RD K C H v (.fz ds)):∃a xs,v=.ref a/\SqL K H a xs/\RDL K C H xs ds:=by
 cases r with
 | fz h l q=>exact⟨_,_,rfl,h,l,q⟩
theorem RD.rowI{v:V}{ds:List D}(r:RD K C H v (.row ds)):∃x dx t ts,v=.ref x/\H x=some (.ins C dx (JcU t))/\SqT K H t ts/\RDL K C H ts ds:=by
 cases r with
 | row h1 h2 l q=>exact⟨_,_,_,_,rfl,h1,h2,l,q⟩
theorem RD.mkD{a:Addr}{ks:List Int}{xs:List V}{ds:List D}(h:H a=some (dkO ks xs))(hk:ks.length=ds.length)(r:RDL K C H xs ds):RD K C H (.ref a) (.dct ks ds):=.dct h hk r.1 r.2
theorem RD.dctI{v:V}{ks:List Int}{ds:List D}(r:RD K C H v (.dct ks ds)):∃a xs,v=.ref a/\H a=some (dkO ks xs)/\ks.length=ds.length/\RDL K C H xs ds:=by
 cases r with
 | dct h hk l q=>exact⟨_,_,rfl,h,hk,l,q⟩
theorem RD.mkZ{a:Addr}{ks:List Int}{xs:List V}{ds:List D}{o:Obj}(h:H a=some (.frz o (dkO ks xs)))(hk:ks.length=ds.length)(r:RDL K C H xs ds):RD K C H (.ref a) (.dfz ks ds):=.dfz h hk r.1 r.2
theorem RD.dfzI{v:V}{ks:List Int}{ds:List D}(r:RD K C H v (.dfz ks ds)):∃a xs o,v=.ref a/\H a=some (.frz o (dkO ks xs))/\ks.length=ds.length/\RDL K C H xs ds:=by
 cases r with
 | dfz h hk l q=>exact⟨_,_,_,rfl,h,hk,l,q⟩
theorem RD.intI{v:V}{i:Int}(r:RD K C H v (.int i)):v=.int i:=by cases r;rfl
theorem RD.strI{v:V}{i:Str}(r:RD K C H v (.str i)):v=.str i:=by cases r;rfl
theorem RD.blI{v:V}{i:Bool}(r:RD K C H v (.bl i)):v=.bl i:=by cases r;rfl
theorem RD.nonI{v:V}(r:RD K C H v .non):v=.non:=by cases r;rfl
end

mutual
noncomputable def D.py:D->PyData
 | .non=>.none
 | .bl b=>.bool b
 | .int i=>.int i
 | .str x=>.str x
 | .tup l=>.tuple (D.pyL l)
 | .lst l=>.list (D.pyL l)
 | .fz l=>.list (D.pyL l)
 | .row _=>.dict []
 | .dct _ _=>.dict []
 | .dfz _ _=>.dict []
 | .exc _=>.dict []
noncomputable def D.pyL:List D->List PyData
 | []=>[]
 | d::ds=>d.py::D.pyL ds
end
theorem JdZ:∀ds:List D,D.pyL ds=ds.map D.py
 | []=>rfl
 | d::ds=>by rw[D.pyL,JdZ ds];rfl
theorem WT:∀{ds:List PyData},KC ds=true->∀d∈ds,d.canLay0=true
 | [],_,d,hd=>nomatch hd
 | x::ds,h,d,hd=>by
  have h':(PyData.canLay0 x && KC ds)=true:=h;rw[QK] at h';rcases Qg.mp hd with z|z
  ·rw[z];exact h'.1
  ·exact WT h'.2 d z
theorem RD.rep{K:Frag}{C:Addr}{H:Hp}{v:V}{d:D}(r:RD K C H v d):d.py.canLay0=true->Rep K H v d.py:=by
 have all:∀{xs:List V} {ds:List D},xs.length=ds.length->(∀(i:Nat) (x:V) (d:D),xs[i]?=some x->ds[i]?=some d->d.py.canLay0=true->Rep K H x d.py)->KC (D.pyL ds)=true->RepL K H xs (D.pyL ds):=by
  intro xs ds l ih hc;rw[JdZ] at hc ⊢;refine⟨by simpa using l,fun i x d h1 h2=>?_⟩;rw[Qn] at h2
  cases e:ds[i]? with
  | none=>rw[e] at h2;cases h2
  | some q=>rw[e] at h2;cases h2;exact ih i x q h1 e (WT hc _ (Qw.mpr ⟨q,Q6 e,rfl⟩))
 induction r with
 | non=>intro _;exact .non
 | bl b=>intro _;exact .bl b
 | int i=>intro _;exact .int i
 | str x=>intro _;exact .str x
 | tup h l _ ih=>intro hc;exact .tupL h (all l ih hc)
 | lst h l _ ih=>intro hc;exact .lstL (.of h) (all l ih hc)
 | fz h l _ ih=>intro hc;exact .lstL h (all l ih hc)
 | row h1 h2 l _ ih=>intro hc;cases hc
 | dct h1 h2 l _ ih=>intro hc;cases hc
 | dfz h1 h2 l _ ih=>intro hc;cases hc
 | exc h1 h2=>intro hc;cases hc

inductive Sl where
 | no|sh (d:D)|bo (ds:List D)|own (ds:List D)|bd (ks:List Int) (ds:List D)|od (ks:List Int) (ds:List D)|bt (ps:List (Int×Int)) (ds:List D)|ot (ps:List (Int×Int)) (ds:List D)
noncomputable def J0:Sl->Bool
 | .own _=>true
 | .od _ _=>true
 | .ot _ _=>true
 | _=>false
noncomputable def Jk3:Sl->Bool
 | .bo _=>true
 | .bd _ _=>true
 | .bt _ _=>true
 | _=>false

section
variable(K:Frag)(C:Addr)
noncomputable def RR(Hs H0 H:Hp)(v:V):Sl->Prop
 | .no=>False
 | .sh d=>RD K C H0 v d
 | .bo ds=>∃l xs,v=.ref l/\H l=some (.lst xs)/\RDL K C H0 xs ds
 | .own ds=>∃l xs,v=.ref l/\H l=some (.lst xs)/\H0 l=none/\Hs l=none/\RDL K C H0 xs ds
 | .bd ks ds=>∃l xs,v=.ref l/\H l=some (dkO ks xs)/\ks.length=ds.length/\RDL K C H0 xs ds
 | .bt ks ds=>∃l xs,v=.ref l/\H l=some (dtO ks xs)/\ks.length=ds.length/\RDL K C H0 xs ds
 | .od ks ds=>∃l xs,v=.ref l/\H l=some (dkO ks xs)/\H0 l=none/\Hs l=none/\ks.length=ds.length/\RDL K C H0 xs ds
 | .ot ks ds=>∃l xs,v=.ref l/\H l=some (dtO ks xs)/\H0 l=none/\Hs l=none/\ks.length=ds.length/\RDL K C H0 xs ds
noncomputable def RSl(B H0 H:Hp)(v:V):Sl->Prop
 | .no=>True
 | .sh d=>RD K C H0 v d
 | .bo ds=>∃l xs,v=.ref l/\B l=some (.lst xs)/\RDL K C H0 xs ds
 | .own ds=>∃l xs,v=.ref l/\H l=some (.lst xs)/\H0 l=none/\B l=none/\RDL K C H0 xs ds
 | .bd ks ds=>∃l xs,v=.ref l/\B l=some (dkO ks xs)/\ks.length=ds.length/\RDL K C H0 xs ds
 | .bt ks ds=>∃l xs,v=.ref l/\B l=some (dtO ks xs)/\ks.length=ds.length/\RDL K C H0 xs ds
 | .od ks ds=>∃l xs,v=.ref l/\H l=some (dkO ks xs)/\H0 l=none/\B l=none/\ks.length=ds.length/\RDL K C H0 xs ds
 | .ot ks ds=>∃l xs,v=.ref l/\H l=some (dtO ks xs)/\H0 l=none/\B l=none/\ks.length=ds.length/\RDL K C H0 xs ds
structure EnvR (B H0 H:Hp) (σ:St) (E:List Sl):Prop where
 b:Same B H
 h:Same H0 H
 len:σ.length=E.length
 at':∀(i:Nat) (s:Sl),E[i]?=some s->s=.no\/∃v,σ[i]?=some (some v)/\RSl K C B H0 H v s
 sep:∀(i j:Nat) (s t:Sl) (v:V),i≠j->E[i]?=some s->E[j]?=some t->J0 s=true->J0 t=true->σ[i]?=some (some v)->σ[j]?≠some (some v)
end
noncomputable def isT:HO->Bool
 | .tup _=>true
 | .frz _ (.tup _)=>true
 | _=>false
structure Step (Hs H0 H H0' H':Hp):Prop where
 h:Same H H'
 z:Same H0 H0'
 n:∀a o,H0' a=some o->H0 a=some o\/Hs a=none\/isT o=true
 i:Same H0' H'
structure SStep (B H0 H0' H':Hp):Prop where
 b:Same B H'
 z:Same H0 H0'
 n:∀a o,H0' a=some o->H0 a=some o\/B a=none\/isT o=true
 i:Same H0' H'

section
variable{K:Frag}{C:Addr}{B Hs H0 H H0' H' H0'' H'':Hp}{σ:St}{E:List Sl}{v:V}{s:Sl}
theorem Step.refl(i:Same H0 H):Step Hs H0 H H0 H:=⟨Same.refl _,Same.refl _,fun _ _ e=>.inl e,i⟩
theorem Step.comp{Hs':Hp}(s1:Step Hs H0 H H0' H')(s2:Step Hs' H0' H' H0'' H'')(w:∀a,Hs' a=none->Hs a=none):Step Hs H0 H H0'' H'' :=
 ⟨s1.h.trans s2.h,s1.z.trans s2.z,fun a o e=>(s2.n a o e).elim (fun q=>s1.n a o q) fun q=>.inr (q.imp (w a) id),s2.i⟩
theorem Step.trans(s1:Step H H0 H H0' H')(s2:Step H' H0' H' H0'' H''):Step H H0 H H0'' H'':=s1.comp s2 fun _ q=>Same.free s1.h q
theorem Step.ss(b:Same B H)(s:Step H H0 H H0' H'):SStep B H0 H0' H':=⟨b.trans s.h,s.z,fun a o e=>(s.n a o e).imp id fun q=>q.imp (fun q=>Same.free b q) id,s.i⟩
theorem SStep.refl(b:Same B H)(i:Same H0 H):SStep B H0 H0 H:=⟨b,Same.refl _,fun _ _ e=>.inl e,i⟩
theorem SStep.trans(s1:SStep B H0 H0' H')(s2:SStep B H0' H0'' H''):SStep B H0 H0'' H'':=⟨s2.b,s1.z.trans s2.z,fun a o e=>(s2.n a o e).elim (fun q=>s1.n a o q) .inr,s2.i⟩
theorem RR.step(r:RR K C Hs H0 H v s)(st:Step H H0 H H0' H'):RR K C Hs H0' H' v s:=by
 cases s with
 | no=>exact r
 | sh d=>exact RD.mono st.z r
 | bo ds=>obtain⟨l,xs,e,h,q⟩:=r;exact⟨l,xs,e,st.h _ _ h,q.mono st.z⟩
 | bd ks ds=>obtain⟨l,xs,e,h,hk,q⟩:=r;exact⟨l,xs,e,st.h _ _ h,hk,q.mono st.z⟩
 | bt ks ds=>obtain⟨l,xs,e,h,hk,q⟩:=r;exact⟨l,xs,e,st.h _ _ h,hk,q.mono st.z⟩
 | own ds =>
  obtain⟨l,xs,e,h,n,m,q⟩:=r;refine⟨l,xs,e,st.h _ _ h,?_,m,q.mono st.z⟩
  cases z:H0' l with
  | none=>rfl
  | some o =>
   rcases st.n l o z with y|y|y
   ·rw[n] at y;cases y
   ·rw[h] at y;cases y
   ·have:=st.i l o z;rw[st.h _ _ h] at this;cases this;cases y
 | od ks ds =>
  obtain⟨l,xs,e,h,n,m,hk,q⟩:=r;refine⟨l,xs,e,st.h _ _ h,?_,m,hk,q.mono st.z⟩
  cases z:H0' l with
  | none=>rfl
  | some o =>
   rcases st.n l o z with y|y|y
   ·rw[n] at y;cases y
   ·rw[h] at y;cases y
   ·have:=st.i l o z;rw[st.h _ _ h] at this;cases this;cases y
 | ot ks ds =>
  obtain⟨l,xs,e,h,n,m,hk,q⟩:=r;refine⟨l,xs,e,st.h _ _ h,?_,m,hk,q.mono st.z⟩
  cases z:H0' l with
  | none=>rfl
  | some o =>
   rcases st.n l o z with y|y|y
   ·rw[n] at y;cases y
   ·rw[h] at y;cases y
   ·have:=st.i l o z;rw[st.h _ _ h] at this;cases this;cases y
theorem RR.weak{Hs':Hp}(r:RR K C Hs' H0 H v s)(w:∀a,Hs' a=none->Hs a=none):RR K C Hs H0 H v s:=by
 cases s with
 | own ds=>obtain⟨l,xs,e,h,n,m,q⟩:=r;exact⟨l,xs,e,h,n,w _ m,q⟩
 | od ks ds=>obtain⟨l,xs,e,h,n,m,q⟩:=r;exact⟨l,xs,e,h,n,w _ m,q⟩
 | ot ks ds=>obtain⟨l,xs,e,h,n,m,q⟩:=r;exact⟨l,xs,e,h,n,w _ m,q⟩
 | _=>exact r
theorem RSl.owned(r:RSl K C B H0 H v s)(o:J0 s=true):∃l,v=.ref l/\H l≠none/\H0 l=none/\B l=none:=by
 cases s with
 | own ds=>obtain⟨l,xs,e,h,n,m,q⟩:=r;exact⟨l,e,(by rw[h];intro z;cases z),n,m⟩
 | od ks ds=>obtain⟨l,xs,e,h,n,m,q⟩:=r;exact⟨l,e,(by rw[h];intro z;cases z),n,m⟩
 | ot ks ds=>obtain⟨l,xs,e,h,n,m,q⟩:=r;exact⟨l,e,(by rw[h];intro z;cases z),n,m⟩
 | _=>cases o
theorem RR.owned(r:RR K C Hs H0 H v s)(o:J0 s=true):∃l,v=.ref l/\H l≠none/\H0 l=none/\Hs l=none:=by
 cases s with
 | own ds=>obtain⟨l,xs,e,h,n,m,q⟩:=r;exact⟨l,e,(by rw[h];intro z;cases z),n,m⟩
 | od ks ds=>obtain⟨l,xs,e,h,n,m,q⟩:=r;exact⟨l,e,(by rw[h];intro z;cases z),n,m⟩
 | ot ks ds=>obtain⟨l,xs,e,h,n,m,q⟩:=r;exact⟨l,e,(by rw[h];intro z;cases z),n,m⟩
 | _=>cases o
theorem EnvR.step(I:EnvR K C B H0 H σ E)(st:Step H H0 H H0' H'):EnvR K C B H0' H' σ E:=by
 refine⟨I.b.trans st.h,st.i,I.len,fun i s e=>?_,I.sep⟩;rcases I.at' i s e with z|⟨v,h1,h2⟩
 ·exact .inl z
 ·refine .inr ⟨v,h1,?_⟩
  cases s with
  | no=>trivial
  | sh d=>exact RD.mono st.z h2
  | bo ds=>obtain⟨l,xs,e,h,q⟩:=h2;exact⟨l,xs,e,h,q.mono st.z⟩
  | own ds=>exact RR.step (Hs:=B) (s:=.own ds) h2 st
  | bd ks ds=>obtain⟨l,xs,e,h,hk,q⟩:=h2;exact⟨l,xs,e,h,hk,q.mono st.z⟩
  | bt ks ds=>obtain⟨l,xs,e,h,hk,q⟩:=h2;exact⟨l,xs,e,h,hk,q.mono st.z⟩
  | od ks ds=>exact RR.step (Hs:=B) (s:=.od ks ds) h2 st
  | ot ks ds=>exact RR.step (Hs:=B) (s:=.ot ks ds) h2 st
theorem EnvR.sub{E':List Sl}(I:EnvR K C B H0 H σ E)(hl:E'.length=E.length)(h:∀(i:Nat) (s:Sl),E'[i]?=some s->s=.no\/E[i]?=some s):EnvR K C B H0 H σ E':=by
 refine⟨I.b,I.h,I.len.trans hl.symm,fun i s e=>?_,fun i j s t v hij e1 e2 o1 o2=>?_⟩
 ·rcases h i s e with z|z
  ·exact .inl z
  ·exact I.at' i s z
 ·rcases h i _ e1 with z|z
  ·subst z;cases o1
  ·rcases h j _ e2 with y|y
   ·subst y;cases o2
   ·exact I.sep i j s t v hij z y o1 o2
theorem EnvR.put(I:EnvR K C B H0 H σ E){i:Nat}(hi:i<E.length){Hs:Hp}(hB:∀a,Hs a=none->B a=none)(hf:∀(j:Nat) (t:Sl) (l:Addr),E[j]?=some t->J0 t=true->σ[j]?=some (some (.ref l))->Hs l≠none)(r:RR K C Hs H0 H v s)(hb:Jk3 s=false):EnvR K C B H0 H (σ.set i (some v)) (E.set i s):=by
 refine⟨I.b,I.h,by simp[I.len],fun j t e=>?_,fun j k s1 s2 u hjk e1 e2 o1 o2 e3 e4=>?_⟩
 ·rw[QT] at e
  by_cases hj:i=j
  ·subst hj;rw[if_pos rfl,if_pos hi] at e;cases e;refine .inr ⟨v,by rw[QT];simp[I.len,hi],?_⟩
   cases s with
   | no=>trivial
   | sh d=>exact r
   | bo ds=>cases hb
   | own ds=>obtain⟨l,xs,e,h,n,m,q⟩:=r;exact⟨l,xs,e,h,n,hB _ m,q⟩
   | bd ks ds=>cases hb
   | bt ks ds=>cases hb
   | od ks ds=>obtain⟨l,xs,e,h,n,m,q⟩:=r;exact⟨l,xs,e,h,n,hB _ m,q⟩
   | ot ks ds=>obtain⟨l,xs,e,h,n,m,q⟩:=r;exact⟨l,xs,e,h,n,hB _ m,q⟩
  ·rw[if_neg hj] at e;rcases I.at' j t e with z|⟨u,h1,h2⟩
   ·exact .inl z
   ·exact .inr ⟨u,by rw[QT,if_neg hj];exact h1,h2⟩
 ·rw[QT] at e1 e2 e3 e4
  by_cases hj:i=j
  ·subst hj;rw[if_neg hjk] at e2 e4;rw[if_pos rfl,if_pos hi] at e1;rw[if_pos rfl,if_pos (by rw[I.len];exact hi)] at e3;cases e3;cases e1;obtain⟨l,e,_,_,m⟩:=r.owned o1;subst e;exact hf k _ l e2 o2 e4 m
  ·rw[if_neg hj] at e1 e3
   by_cases hk:i=k
   ·subst hk;rw[if_pos rfl,if_pos hi] at e2;rw[if_pos rfl,if_pos (by rw[I.len];exact hi)] at e4;cases e2;have e4':v=u:=QG (QG e4);subst e4';obtain⟨l,e,_,_,m⟩:=r.owned o2;subst e;exact hf j _ l e1 o1 e3 m
   ·rw[if_neg hk] at e2 e4;exact I.sep j k _ _ u hjk e1 e2 o1 o2 e3 e4
theorem EnvR.ownG(I:EnvR K C B H0 H σ E){j:Nat}{t:Sl}{l:Addr}(e1:E[j]?=some t)(ho:J0 t=true)(e2:σ[j]?=some (some (.ref l))):H l≠none/\H0 l=none/\B l=none:=by
 rcases I.at' j _ e1 with z|⟨v,h1,h2⟩
 ·subst z;cases ho
 ·rw[e2] at h1;cases h1;obtain⟨l',e,h⟩:=h2.owned ho;cases e;exact h
theorem EnvR.put'{H1 H01:Hp}(I:EnvR K C B H0 H σ E)(st:Step H H0 H H01 H1){i:Nat}(hi:i<E.length)(r:RR K C H H01 H1 v s)(hb:Jk3 s=false):EnvR K C B H01 H1 (σ.set i (some v)) (E.set i s) :=
 (I.step st).put hi (fun a q=>Same.free I.b q) (fun j t l e1 o1 e2=>(I.ownG e1 o1 e2).1) r hb
noncomputable def JdK:Option HO->Option HO
 | some o=>if isT o=true then some o else none
 | none=>none
noncomputable def Yo(Hs H0 H:Hp):Hp:=fun a=>match H0 a with
 | some o=>some o
 | none=>match Hs a with
  | none=>H a
  | some _=>JdK (H a)
theorem WR{o:Option HO}{u:HO}(e:JdK o=some u):o=some u/\isT u=true:=by
 cases o with
 | none=>cases e
 | some w =>
  unfold JdK at e;dsimp only at e;split at e
  ·cases e;exact⟨rfl,by assumption⟩
  ·cases e
theorem JO(i:Same H0 H):Step Hs H0 H (Yo Hs H0 H) H:=by
 refine⟨Same.refl _,fun a o e=>by unfold Yo;rw[e],fun a o e=>?_,fun a o e=>?_⟩
 ·unfold Yo at e
  cases h:H0 a with
  | some u=>rw[h] at e;exact .inl e
  | none =>
   rw[h] at e
   cases h2:Hs a with
   | none=>exact .inr (.inl rfl)
   | some u=>rw[h2] at e;exact .inr (.inr (WR e).2)
 ·unfold Yo at e
  cases h:H0 a with
  | some u=>rw[h] at e;cases e;exact i a _ h
  | none =>
   rw[h] at e
   cases h2:Hs a with
   | none=>rw[h2] at e;exact e
   | some u=>rw[h2] at e;exact(WR e).1
theorem Jao{a:Addr}{o:HO}(i:Same H0 H)(n:Hs a=none)(h:H a=some o):Yo Hs H0 H a=some o:=by
 unfold Yo
 cases z:H0 a with
 | some u=>rw[i a u z] at h;exact h
 | none=>dsimp only;rw[n];exact h
theorem JdC{a:Addr}{o:HO}(i:Same H0 H)(n:isT o=true)(h:H a=some o):Yo Hs H0 H a=some o:=by
 unfold Yo
 cases z:H0 a with
 | some u=>rw[i a u z] at h;exact h
 | none =>
  dsimp only
  cases y:Hs a with
  | none=>exact h
  | some u=>dsimp only;rw[h];unfold JdK;dsimp only;rw[if_pos n]
theorem JdB{a:Addr}{xs:List V}(i:Same H0 H)(h:SqT K H a xs):SqT K (Yo Hs H0 H) a xs:=by
 rcases h with (h|⟨o,h⟩)|h
 ·exact .inl (.inl (JdC i rfl h))
 ·exact .inl (.inr ⟨o,JdC i rfl h⟩)
 ·exact .inr h
noncomputable def Sl.frz:Sl->Option D
 | .sh d=>some d
 | .own ds=>some (.lst ds)
 | .od ks ds=>some (.dct ks ds)
 | _=>none
theorem RR.frz{d:D}(i:Same H0 H)(r:RR K C Hs H0 H v s)(e:s.frz=some d):RD K C (Yo Hs H0 H) v d:=by
 have st:Step Hs H0 H (Yo Hs H0 H) H:=JO i
 cases s with
 | no=>cases e
 | sh d'=>cases e;exact RD.mono st.z r
 | bo ds=>cases e
 | own ds=>cases e;obtain⟨l,xs,e,h,n,m,q⟩:=r;subst e;exact .mkL (Jao i m h) (q.mono st.z)
 | bd ks ds=>cases e
 | bt ks ds=>cases e
 | od ks ds=>cases e;obtain⟨l,xs,e,h,n,m,hk,q⟩:=r;subst e;exact .mkD (Jao i m h) hk (q.mono st.z)
 | ot ks ds=>cases e
end
end LE

namespace LE
open PySem L2 LR

noncomputable abbrev En:=List Sl
noncomputable abbrev Ev:=En->Option Sl
section
variable(K:Frag)(C:Addr)
noncomputable def SE(te:TE)(ev:Ev):Prop:=∀(B H0 H:Hp) (σ:St) (E:En) (r:Sl) (Q:VK),EnvR K C B H0 H σ E->ev E=some r ->
 (∀v H0' H',Step H H0 H H0' H'->RR K C H H0' H' v r->Q v H')->te σ H Q
noncomputable def ST(t:TT)(ev:En->Option Bool):Prop:=∀(B H0 H:Hp) (σ:St) (E:En) (r:Bool) (Q:Bool->Hp->Prop),EnvR K C B H0 H σ E->ev E=some r ->
 (∀H0' H',Step H H0 H H0' H'->Q r H')->t σ H Q
inductive RRL (Hs H0 H:Hp):List V->List Sl->Prop
 | nil:RRL Hs H0 H [] []
 | cons {v:V} {s:Sl} {vs:List V} {ss:List Sl}:RR K C Hs H0 H v s->RRL Hs H0 H vs ss->RRL Hs H0 H (v::vs) (s::ss)
noncomputable def SA(t:TA)(ev:En->Option (List Sl)):Prop:=∀(B H0 H:Hp) (σ:St) (E:En) (r:List Sl) (Q:List V->Hp->Prop),EnvR K C B H0 H σ E->ev E=some r ->
 (∀vs H0' H',Step H H0 H H0' H'->RRL K C H H0' H' vs r->Q vs H')->t σ H Q
noncomputable def OpS(r:R2)(f:Sl->Sl->Option Sl):Prop:=∀(Hs H0 H:Hp) (x y:V) (a b c:Sl) (Q:VK),Same H0 H->Same Hs H->RR K C Hs H0 H x a->RR K C Hs H0 H y b->f a b=some c ->
 (∀v H0' H',Step Hs H0 H H0' H'->RR K C Hs H0' H' v c->Q v H')->r x y H Q
noncomputable def UnS(r:V->Hp->VK->Prop)(f:Sl->Option Sl):Prop:=∀(Hs H0 H:Hp) (x:V) (a c:Sl) (Q:VK),Same H0 H->Same Hs H->RR K C Hs H0 H x a->f a=some c ->
 (∀v H0' H',Step Hs H0 H H0' H'->RR K C Hs H0' H' v c->Q v H')->r x H Q
noncomputable def Ve(r:List V->Hp->VK->Prop)(f:List Sl->Option Sl):Prop:=∀(Hs H0 H:Hp) (xs:List V) (as:List Sl) (c:Sl) (Q:VK),Same H0 H->Same Hs H->RRL K C Hs H0 H xs as->f as=some c ->
 (∀v H0' H',Step Hs H0 H H0' H'->RR K C Hs H0' H' v c->Q v H')->r xs H Q
end

noncomputable def Jb(i:Nat):Ev:=fun E=>match E[i]? with
 | some (.sh d)=>some (.sh d)
 | some (.bo ds)=>some (.bo ds)
 | some (.own ds)=>some (.bo ds)
 | some (.bd ks ds)=>some (.bd ks ds)
 | some (.od ks ds)=>some (.bd ks ds)
 | some (.bt ks ds)=>some (.bt ks ds)
 | some (.ot ks ds)=>some (.bt ks ds)
 | _=>none
noncomputable def eC(d:D):Ev:=fun _=>some (.sh d)
noncomputable def e2(f:Sl->Sl->Option Sl)(a b:Ev):Ev:=fun E=>(a E).bind fun x=>(b E).bind fun y=>f x y
noncomputable def e1(f:Sl->Option Sl)(a:Ev):Ev:=fun E=>(a E).bind f
noncomputable def a0:En->Option (List Sl):=fun _=>some []
noncomputable def aC(a:Ev)(as:En->Option (List Sl)):En->Option (List Sl):=fun E=>(a E).bind fun x=>(as E).bind fun xs=>some (x::xs)
noncomputable def eF(f:List Sl->Option Sl)(as:En->Option (List Sl)):Ev:=fun E=>(as E).bind f
noncomputable def bool?:Sl->Option Bool
 | .sh (.bl b)=>some b
 | _=>none
noncomputable def eIf(c:En->Option Bool)(a b:Ev):Ev:=fun E=>(c E).bind fun k=>if k=true then a E else b E
noncomputable def sh?:Sl->Option D
 | .sh d=>some d
 | _=>none
noncomputable def Jcn(f g:Sl->Sl->Option Sl)(a b c:Ev):Ev:=fun E=>((a E).bind sh?).bind fun x=>((b E).bind sh?).bind fun y=>((f (.sh x) (.sh y)).bind bool?).bind fun k=>if k=true then((c E).bind sh?).bind fun z=>g (.sh y) (.sh z) else some (.sh (.bl false))
noncomputable def tB?(a:Ev):En->Option Bool:=fun E=>(a E).bind bool?
noncomputable def tAnd?(a b:En->Option Bool):En->Option Bool:=fun E=>(a E).bind fun k=>if k=true then b E else some false
noncomputable def tOr?(a b:En->Option Bool):En->Option Bool:=fun E=>(a E).bind fun k=>if k=true then some true else b E
noncomputable def tNot?(a:En->Option Bool):En->Option Bool:=fun E=>(a E).bind fun k=>some (!k)

section
variable{K:Frag}{C:Addr}
theorem bind_some{α β:Type}{x:Option α}{f:α->Option β}{b:β}(e:x.bind f=some b):∃a,x=some a/\f a=some b:=by
 cases x with
 | none=>cases e
 | some a=>exact⟨a,rfl,e⟩
theorem VL{s:Sl}{b:Bool}(e:bool? s=some b):s=.sh (.bl b):=by
 cases s with
 | sh d=>cases d with
  | bl x=>cases e;rfl
  | _=>cases e
 | _=>cases e
variable{ta tb tc te:TE}{ea eb ec:Ev}
theorem Jkk(i:Nat):SE K C (Ze i) (Jb i):=by
 intro B H0 H σ E r Q I e q;unfold Jb at e
 cases h:E[i]? with
 | none=>rw[h] at e;cases e
 | some s =>
  rw[h] at e;rcases I.at' i s h with z|⟨v,h1,h2⟩
  ·subst z;cases e
  ·refine⟨v,h1,q v H0 H (.refl I.h) ?_⟩
   cases s with
   | no=>cases e
   | sh d=>cases e;exact h2
   | bo ds=>cases e;obtain⟨l,xs,e,hl,r⟩:=h2;exact⟨l,xs,e,I.b _ _ hl,r⟩
   | own ds=>cases e;obtain⟨l,xs,e,hl,_,_,r⟩:=h2;exact⟨l,xs,e,hl,r⟩
   | bd ks ds=>cases e;obtain⟨l,xs,e,hl,r⟩:=h2;exact⟨l,xs,e,I.b _ _ hl,r⟩
   | bt ks ds=>cases e;obtain⟨l,xs,e,hl,r⟩:=h2;exact⟨l,xs,e,I.b _ _ hl,r⟩
   | od ks ds=>cases e;obtain⟨l,xs,e,hl,_,_,r⟩:=h2;exact⟨l,xs,e,hl,r⟩
   | ot ks ds=>cases e;obtain⟨l,xs,e,hl,_,_,r⟩:=h2;exact⟨l,xs,e,hl,r⟩
theorem Jom:SE K C (tC .non) (eC .non):=fun _ _ _ _ _ _ _ I e q=>by cases e;exact q _ _ _ (.refl I.h) .non
theorem Jo8{b:Bool}:SE K C (tC (.bl b)) (eC (.bl b)):=fun _ _ _ _ _ _ _ I e q=>by cases e;exact q _ _ _ (.refl I.h) (.bl b)
theorem Joi{i:Int}:SE K C (tC (.int i)) (eC (.int i)):=fun _ _ _ _ _ _ _ I e q=>by cases e;exact q _ _ _ (.refl I.h) (.int i)
theorem Jpa{r:R2}{f:Sl->Sl->Option Sl}(ho:OpS K C r f)(ha:SE K C ta ea)(hb:SE K C tb eb):SE K C (tOp r ta tb) (e2 f ea eb):=by
 intro B H0 H σ E c Q I e q;obtain⟨a,e1,e⟩:=bind_some e;obtain⟨b,e2,e⟩:=bind_some e;exact ha B H0 H σ E a _ I e1 fun x H1 H1' s1 r1=>hb B H1 H1' σ E b _ (I.step s1) e2 fun y H2 H2' s2 r2=>ho H H2 H2' x y a b c Q s2.i (s1.h.trans s2.h) (r1.step s2) (r2.weak fun a q=>Same.free s1.h q) e fun v H3 H3' s3 r3=>q v H3 H3' ((s1.trans s2).comp s3 fun _ z=>z) r3
theorem Jpc{r:V->Hp->VK->Prop}{f:Sl->Option Sl}(ho:UnS K C r f)(ha:SE K C ta ea):SE K C (tUn r ta) (e1 f ea):=by intro B H0 H σ E c Q I e q;obtain⟨a,e1,e⟩:=bind_some e;exact ha B H0 H σ E a _ I e1 fun x H1 H1' s1 r1=>ho H H1 H1' x a c Q s1.i s1.h r1 e fun v H3 H3' s3 r3=>q v H3 H3' (s1.comp s3 fun _ z=>z) r3
theorem Jol:SA K C Jb6 a0:=fun _ _ _ _ _ _ _ I e q=>by cases e;exact q _ _ _ (.refl I.h) .nil
theorem RRL.step{Hs H0 H H0' H':Hp}{vs:List V}{ss:List Sl}(r:RRL K C Hs H0 H vs ss)(st:Step H H0 H H0' H'):RRL K C Hs H0' H' vs ss:=by
 induction r with
 | nil=>exact .nil
 | cons h _ ih=>exact .cons (h.step st) ih
theorem RRL.weak{Hs Hs' H0 H:Hp}{vs:List V}{ss:List Sl}(r:RRL K C Hs' H0 H vs ss)(w:∀a,Hs' a=none->Hs a=none):RRL K C Hs H0 H vs ss:=by
 induction r with
 | nil=>exact .nil
 | cons h _ ih=>exact .cons (h.weak w) ih
theorem Jmz{tr:TA}{er:En->Option (List Sl)}(ha:SE K C ta ea)(hr:SA K C tr er):SA K C (VE ta tr) (aC ea er):=by
 intro B H0 H σ E c Q I e q;obtain⟨a,e1,e⟩:=bind_some e;obtain⟨b,e2,e⟩:=bind_some e;cases e;exact ha B H0 H σ E a _ I e1 fun x H1 H1' s1 r1=>hr B H1 H1' σ E b _ (I.step s1) e2 fun y H2 H2' s2 r2=>q _ H2 H2' (s1.trans s2) (.cons (r1.step s2) (r2.weak fun a q=>Same.free s1.h q))
theorem Jo7{r:List V->Hp->VK->Prop}{t:TA}{ev:En->Option (List Sl)}{f:List Sl->Option Sl}(hc:Ve K C r f)(ha:SA K C t ev):SE K C (tCB r t) (eF f ev):=by intro B H0 H σ E c Q I e q;obtain⟨a,e1,e⟩:=bind_some e;exact ha B H0 H σ E a _ I e1 fun x H1 H1' s1 r1=>hc H H1 H1' x a c Q s1.i s1.h r1 e fun v H3 H3' s3 r3=>q v H3 H3' (s1.comp s3 fun _ z=>z) r3
theorem Joh{c:TT}{cv:En->Option Bool}(hc:ST K C c cv)(ha:SE K C ta ea)(hb:SE K C tb eb):SE K C (tIf c ta tb) (eIf cv ea eb):=by
 intro B H0 H σ E r Q I e q;obtain⟨k,e1,e⟩:=bind_some e;refine hc B H0 H σ E k _ I e1 fun H1 H1' s1=>?_
 cases k with
 | true=>exact ha B H1 H1' σ E r Q (I.step s1) e fun y H2 H2' s2 r2=>q y H2 H2' (s1.trans s2) (r2.weak fun a q=>Same.free s1.h q)
 | false=>exact hb B H1 H1' σ E r Q (I.step s1) e fun y H2 H2' s2 r2=>q y H2 H2' (s1.trans s2) (r2.weak fun a q=>Same.free s1.h q)
theorem Wq{s:Sl}{d:D}(e:sh? s=some d):s=.sh d:=by
 cases s with
 | sh d'=>cases e;rfl
 | _=>cases e
theorem Jjs{r r':R2}{f g:Sl->Sl->Option Sl}(ho:OpS K C r f)(ho':OpS K C r' g)(ha:SE K C ta ea)(hb:SE K C tb eb)(hc:SE K C tc ec):SE K C (Jc1 r r' ta tb tc) (Jcn f g ea eb ec):=by
 intro B H0 H σ E c Q I e q;obtain⟨a,e1,e⟩:=bind_some e;obtain⟨a',e1,f1⟩:=bind_some e1;obtain rfl:=Wq f1;obtain⟨b,e2,e⟩:=bind_some e;obtain⟨b',e2,f2⟩:=bind_some e2;obtain rfl:=Wq f2;obtain⟨k,e3,e⟩:=bind_some e;obtain⟨z,e4,e3⟩:=bind_some e3;refine ha B H0 H σ E _ _ I e1 fun x H1 H1' s1 r1=>hb B H1 H1' σ E _ _ (I.step s1) e2 fun y H2 H2' s2 r2=>?_
 have x2:RD K C H2 x a:=RD.mono s2.z r1
 have y2:RD K C H2 y b:=r2;refine ho H2' H2 H2' x y (.sh a) (.sh b) z _ s2.i (Same.refl _) x2 y2 e4 fun w H3 H3' s3 r3=>?_
 rw[VL e3] at r3;have s13:=(s1.trans s2).trans s3;refine⟨k,RD.blI r3,?_⟩
 cases k with
 | false=>cases e;exact q _ _ _ s13 (RD.bl false)
 | true =>
  obtain⟨d,e5,e⟩:=bind_some e;obtain⟨d',e5,f5⟩:=bind_some e5;obtain rfl:=Wq f5;refine hc B H3 H3' σ E _ _ (I.step s13) e5 fun u H4 H4' s4 r4=>?_
  exact ho' H H4 H4' y u (.sh b) (.sh d) c Q s4.i (s13.h.trans s4.h) (RD.mono (s3.z.trans s4.z) y2) (show RD K C H4 u d from r4) e fun v H5 H5' s5 r5=>q v H5 H5' ((s13.trans s4).comp s5 fun _ z=>z) r5

theorem JmG(ha:SE K C te ea):ST K C (Jeh te) (tB? ea):=by
 intro B H0 H σ E k Q I e q;obtain⟨a,e1,e⟩:=bind_some e;refine ha B H0 H σ E a _ I e1 fun x H1 H1' s1 r1=>?_
 rw[VL e] at r1;exact⟨k,RD.blI r1,q _ _ s1⟩
theorem JmE{c d:TT}{ev ew:En->Option Bool}(hc:ST K C c ev)(hd:ST K C d ew):ST K C (JmL c d) (tAnd? ev ew):=by
 intro B H0 H σ E k Q I e q;obtain⟨a,e1,e⟩:=bind_some e;refine hc B H0 H σ E a _ I e1 fun H1 H1' s1=>?_
 cases a with
 | true=>exact hd B H1 H1' σ E k Q (I.step s1) e fun H2 H2' s2=>q H2 H2' (s1.trans s2)
 | false=>cases e;exact q _ _ s1
theorem JmF{c:TT}{ev:En->Option Bool}(hc:ST K C c ev):ST K C (JmP c) (tNot? ev):=by intro B H0 H σ E k Q I e q;obtain⟨a,e1,e⟩:=bind_some e;cases e;exact hc B H0 H σ E a _ I e1 fun H1 H1' s1=>q _ _ s1
end

noncomputable def Sl.m:Sl->Option (List D)
 | .sh (.lst ds)=>some ds
 | .bo ds=>some ds
 | .own ds=>some ds
 | _=>none
noncomputable def Sl.r:Sl->Option (List D)
 | .sh (.lst ds)=>some ds
 | .sh (.fz ds)=>some ds
 | .bo ds=>some ds
 | .own ds=>some ds
 | _=>none
noncomputable def Sl.q:Sl->Option (List D)
 | .sh (.lst ds)=>some ds
 | .sh (.fz ds)=>some ds
 | .sh (.tup ds)=>some ds
 | .bo ds=>some ds
 | .own ds=>some ds
 | _=>none
noncomputable def Sl.d:Sl->Option D
 | .sh d=>some d
 | .bo ds=>some (.lst ds)
 | .own ds=>some (.lst ds)
 | .bd ks ds=>some (.dct ks ds)
 | .od ks ds=>some (.dct ks ds)
 | .bt _ _=>none
 | .ot _ _=>none
 | .no=>none
section
variable{K:Frag}{C:Addr}{Hs H0 H:Hp}{v:V}{s:Sl}{ds:List D}{d:D}
theorem RR.m(r:RR K C Hs H0 H v s)(i:Same H0 H)(e:s.m=some ds):∃l xs,v=.ref l/\H l=some (.lst xs)/\RDL K C H0 xs ds:=by
 cases s with
 | no=>cases e
 | bo es=>cases e;exact r
 | own es=>cases e;obtain⟨l,xs,h1,h2,_,_,h3⟩:=r;exact⟨l,xs,h1,h2,h3⟩
 | bd _ _=>cases e
 | bt _ _=>cases e
 | od _ _=>cases e
 | ot _ _=>cases e
 | sh d=>cases d with
  | lst es=>cases e;obtain⟨l,xs,h1,h2,h3⟩:=RD.lstI r;exact⟨l,xs,h1,i _ _ h2,h3⟩
  | _=>cases e
theorem RR.r(r:RR K C Hs H0 H v s)(i:Same H0 H)(e:s.r=some ds):∃l xs,v=.ref l/\SqL K H l xs/\RDL K C H0 xs ds:=by
 cases s with
 | no=>cases e
 | bo es=>cases e;obtain⟨l,xs,h1,h2,h3⟩:=r;exact⟨l,xs,h1,.of h2,h3⟩
 | own es=>cases e;obtain⟨l,xs,h1,h2,_,_,h3⟩:=r;exact⟨l,xs,h1,.of h2,h3⟩
 | bd _ _=>cases e
 | bt _ _=>cases e
 | od _ _=>cases e
 | ot _ _=>cases e
 | sh d=>cases d with
  | lst es=>cases e;obtain⟨l,xs,h1,h2,h3⟩:=RD.lstI r;exact⟨l,xs,h1,.of (i _ _ h2),h3⟩
  | fz es=>cases e;obtain⟨l,xs,h1,h2,h3⟩:=RD.fzI r;exact⟨l,xs,h1,i.seq h2,h3⟩
  | _=>cases e
theorem RR.q(r:RR K C Hs H0 H v s)(i:Same H0 H)(e:s.q=some ds):∃l xs,v=.ref l/\(SqL K H l xs\/SqT K H l xs)/\RDL K C H0 xs ds:=by
 cases s with
 | no=>cases e
 | bo es=>cases e;obtain⟨l,xs,h1,h2,h3⟩:=r;exact⟨l,xs,h1,.inl (.of h2),h3⟩
 | own es=>cases e;obtain⟨l,xs,h1,h2,_,_,h3⟩:=r;exact⟨l,xs,h1,.inl (.of h2),h3⟩
 | bd _ _=>cases e
 | bt _ _=>cases e
 | od _ _=>cases e
 | ot _ _=>cases e
 | sh d=>cases d with
  | lst es=>cases e;obtain⟨l,xs,h1,h2,h3⟩:=RD.lstI r;exact⟨l,xs,h1,.inl (.of (i _ _ h2)),h3⟩
  | fz es=>cases e;obtain⟨l,xs,h1,h2,h3⟩:=RD.fzI r;exact⟨l,xs,h1,.inl (i.seq h2),h3⟩
  | tup es=>cases e;obtain⟨l,xs,h1,h2,h3⟩:=RD.tupI r;exact⟨l,xs,h1,.inr (i.seqT h2),h3⟩
  | _=>cases e
theorem RR.dat(r:RR K C Hs H0 H v s)(i:Same H0 H)(e:s.d=some d):RD K C H v d:=by
 cases s with
 | no=>cases e
 | bo es=>cases e;obtain⟨l,xs,h1,h2,h3⟩:=r;subst h1;exact .mkL h2 (h3.mono i)
 | own es=>cases e;obtain⟨l,xs,h1,h2,_,_,h3⟩:=r;subst h1;exact .mkL h2 (h3.mono i)
 | bd _ _=>cases e;obtain⟨l,xs,h1,h2,hk,h3⟩:=r;subst h1;exact .mkD h2 hk (h3.mono i)
 | bt _ _=>cases e
 | od _ _=>cases e;obtain⟨l,xs,h1,h2,_,_,hk,h3⟩:=r;subst h1;exact .mkD h2 hk (h3.mono i)
 | ot _ _=>cases e
 | sh d'=>cases e;exact RD.mono i r
theorem Vz{p:Addr}{xs:List V}{Q:VK}(i:Same H0 H)(hs:Same Hs H)(hp:H p=none)(r:RDL K C H0 xs ds)(q:∀v H0' H',Step Hs H0 H H0' H'->RR K C Hs H0' H' v (.own ds)->Q v H'):Q (.ref p) (upd H p (.lst xs)) :=
 q _ H0 _ ⟨.new hp,Same.refl _,fun _ _ e=>.inl e,i.trans (.new hp)⟩ ⟨p,xs,rfl,Jq,Same.free i hp,Same.free hs hp,r⟩
theorem JaY{p:Addr}{xs:List V}{Q:VK}(i:Same H0 H)(hs:Same Hs H)(hp:H p=none)(r:RDL K C H0 xs ds)(q:∀v H0' H',Step Hs H0 H H0' H'->RR K C Hs H0' H' v (.sh (.tup ds))->Q v H'):Q (.ref p) (upd H p (.tup xs)):=by
 have h0:H0 p=none:=Same.free i hp;refine q _ (upd H0 p (.tup xs)) _ ⟨.new hp,.new h0,fun a o e=>?_,fun a o e=>?_⟩ ?_
 ·by_cases h:a=p
  ·subst h;exact .inr (.inl (Same.free hs hp))
  ·rw[Jh h] at e;exact .inl e
 ·by_cases h:a=p
  ·subst h;rw[Jq] at e ⊢;exact e
  ·rw[Jh h] at e ⊢;exact i a o e
 ·exact RD.mkT (.of Jq) (r.mono (.new h0))
end

noncomputable def fI(g:Int->Int->D):Sl->Sl->Option Sl
 | .sh (.int a),.sh (.int b)=>some (.sh (g a b))
 | _,_=>none
noncomputable def fIc(c:Int->Int->Bool)(g:Int->Int->D):Sl->Sl->Option Sl
 | .sh (.int a),.sh (.int b)=>if c a b=true then some (.sh (g a b)) else none
 | _,_=>none
noncomputable def JeK(x y:Sl):Option Sl:=x.m.bind fun a=>y.m.bind fun b=>if a.length+b.length<=sizeLine then some (.own (a++b)) else none
noncomputable def Yh:Sl->Sl->Option Sl
 | .sh (.int a),.sh (.int b)=>some (.sh (.int (a+b)))
 | .sh (.str a),.sh (.str b)=>if a.length+b.length<=sizeLine then some (.sh (.str (a++b))) else none
 | .sh (.tup a),.sh (.tup b)=>if a.isEmpty=false/\b.isEmpty=false/\a.length+b.length<=sizeLine then some (.sh (.tup (a++b))) else none
 | .sh (.lst a),y=>JeK (.sh (.lst a)) y
 | .bo a,y=>JeK (.bo a) y
 | .own a,y=>JeK (.own a) y
 | _,_=>none
noncomputable abbrev YU:=fI fun a b=>.int (a-b)
noncomputable abbrev fLt:=fI fun a b=>.bl (decide (a<b))
noncomputable abbrev fLe:=fI fun a b=>.bl (decide (a<=b))
noncomputable abbrev fGt:=fI fun a b=>.bl (decide (b<a))
noncomputable def Ws(a:Int):Bool:=Nat.ble a.natAbs 18446744073709551615
theorem Zc{a:Int}:Ws a=true↔-18446744073709551616<a/\a<18446744073709551616:=by unfold Ws;rw[G9];omega
noncomputable def JaW(a:Int):Bool:=Nat.ble a.natAbs 1073741823 && decide (0<a)
theorem smallP_ok{a:Int}:JaW a=true↔0<a/\a<1073741824:=by unfold JaW;rw[QK,G9,decide_eq_true_eq];omega
noncomputable abbrev WH:=fIc (fun a b=>Ws a || Ws b) fun a b=>.int (a*b)
noncomputable abbrev U5:=fIc (fun _ b=>decide (0<b)) fun a b=>.int (a % b)
noncomputable abbrev Jam:=fIc (fun _ b=>JaW b) fun a b=>.int (a / b)
noncomputable def Jct:Sl->Option Sl
 | .sh (.int a)=>some (.sh (.int (-a)))
 | _=>none
noncomputable def eqD(d e:D):Option Bool:=if (d.py.canLay0 && e.py.canLay0 && decide (min d.py.depth e.py.depth<=60))=true then some (Lf d.py e.py) else none
noncomputable def eqA:D->D->Option Bool
 | .int a,.int b=>some (decide (a=b))
 | .str a,.str b=>some (decide (a=b))
 | .bl a,.bl b=>some (decide (a=b))
 | .non,.non=>some true
 | .non,.int _=>some false
 | .int _,.non=>some false
 | .non,.str _=>some false
 | .str _,.non=>some false
 | .non,.bl _=>some false
 | .bl _,.non=>some false
 | .int _,.str _=>some false
 | .str _,.int _=>some false
 | d,e=>eqD d e
noncomputable def fEq(x y:Sl):Option Sl:=x.d.bind fun d=>y.d.bind fun e=>(eqA d e).map fun k=>.sh (.bl k)
noncomputable def fNe(x y:Sl):Option Sl:=x.d.bind fun d=>y.d.bind fun e=>(eqA d e).map fun k=>.sh (.bl (!k))
noncomputable def D.isNon:D->Bool
 | .non=>true
 | _=>false
noncomputable def fIs:Sl->Sl->Option Sl
 | x,.sh .non=>x.d.map fun d=>.sh (.bl d.isNon)
 | _,_=>none
noncomputable def U2:Sl->Sl->Option Sl
 | x,.sh .non=>x.d.map fun d=>.sh (.bl (!d.isNon))
 | _,_=>none
noncomputable def fIx:Sl->Sl->Option Sl
 | .sh (.str z),.sh (.int i)=>if z.length<=sizeLine then(atI z.cps.toList i).map fun c=>.sh (.str ⟨#[c]⟩) else none
 | x,.sh (.int i)=>x.q.bind fun ds=>(atI ds i).map .sh
 | _,_=>none
section
variable{K:Frag}{C:Addr}
theorem o_I{g:Int->Int->V}{g':Int->Int->D}(h:∀i j H,RD K C H (g i j) (g' i j)):OpS K C (rI0 g) (fI g'):=by
 intro Hs H0 H x y a b c Q i hs ra rb e q;unfold fI at e;split at e
 ·cases e;exact⟨_,_,RD.intI ra,RD.intI rb,q _ _ _ (.refl i) (h _ _ _)⟩
 ·cases e
theorem JgQ{P:Int->Int->Prop}{c':Int->Int->Bool}{g:Int->Int->V}{g':Int->Int->D}(hp:∀i j,c' i j=true->P i j)(h:∀i j H,RD K C H (g i j) (g' i j)):OpS K C (rI P g) (fIc c' g'):=by
 intro Hs H0 H x y a b c Q i hs ra rb e q;unfold fIc at e;split at e
 ·split at e
  ·cases e;exact⟨_,_,RD.intI ra,RD.intI rb,hp _ _ (by assumption),q _ _ _ (.refl i) (h _ _ _)⟩
  ·cases e
 ·cases e
theorem JnP:OpS K C (rI0 fun i j=>.int (i-j)) YU:=o_I fun _ _ _=>.int _
theorem Jo2:OpS K C (rI0 fun i j=>.bl (decide (i<j))) fLt:=o_I fun _ _ _=>.bl _
theorem Jo1:OpS K C (rI0 fun i j=>.bl (decide (i<=j))) fLe:=o_I fun _ _ _=>.bl _
theorem JoY:OpS K C (rI0 fun i j=>.bl (decide (j<i))) fGt:=o_I fun _ _ _=>.bl _
theorem JnN:OpS K C (rI CMul fun i j=>.int (i*j)) WH:=JgQ (fun i j h=>by simp only[KU,Zc] at h;exact h) fun _ _ _=>.int _
theorem JnM:OpS K C (rI (fun _ j=>0<j) fun i j=>.int (i % j)) U5:=JgQ (fun i j h=>by simpa using h) fun _ _ _=>.int _
theorem JnL:OpS K C (rI Jna fun i j=>.int (i / j)) Jam:=JgQ (fun i j h=>smallP_ok.mp h) fun _ _ _=>.int _
theorem Jow:UnS K C (rU fun i=>.int (-i)) Jct:=by
 intro Hs H0 H x a c Q i hs ra e q;unfold Jct at e;split at e
 ·cases e;exact⟨_,RD.intI ra,q _ _ _ (.refl i) (RD.int _)⟩
 ·cases e
noncomputable def Jg7(K:Frag):R2:=fun x y H Q=>Jd0 K x y H Q\/Jkg K x y H Q
theorem JE{X:Cx}(hK:X.K=K):OpR X (binaryOp .Add) (Jg7 K):=(JdV hK).or (hK▸JiQ)
theorem JnK:OpS K C (Jg7 K) Yh:=by
 intro Hs H0 H x y a b c Q i hs ra rb e q
 have cat:∀{a b:Sl},RR K C Hs H0 H x a->RR K C Hs H0 H y b->JeK a b=some c->Jg7 K x y H Q:=by
  intro a b ra rb e;obtain⟨xs,e1,e⟩:=bind_some e;obtain⟨ys,e2,e⟩:=bind_some e;split at e
  ·next hz=>cases e;obtain⟨l,us,rfl,h1,r1⟩:=ra.m i e1;obtain⟨l',ws,rfl,h2,r2⟩:=rb.m i e2;exact .inl (.inr (.inr ⟨l,l',us,ws,rfl,rfl,h1,h2,by rw[r1.1,r2.1];exact hz,fun p hp=>Vz i hs hp (r1.append r2) q⟩))
  ·cases e
 unfold Yh at e;split at e
 ·cases e;exact .inl (.inl ⟨_,_,RD.intI ra,RD.intI rb,q _ _ _ (.refl i) (RD.int _)⟩)
 ·split at e
  ·cases e;exact .inl (.inr (.inl ⟨_,_,RD.strI ra,RD.strI rb,by assumption,q _ _ _ (.refl i) (RD.str _)⟩))
  ·cases e
 ·split at e
  ·next hz =>
   cases e;obtain⟨l,us,rfl,h1,r1⟩:=RD.tupI ra;obtain⟨l',ws,rfl,h2,r2⟩:=RD.tupI rb;have n1:us≠[]:=by rintro rfl;have:=r1.1;have z:=hz.1;simp at this;rw[QF this.symm] at z;cases z
   have n2:ws≠[]:=by rintro rfl;have:=r2.1;have z:=hz.2.1;simp at this;rw[QF this.symm] at z;cases z
   exact .inr ⟨l,l',us,ws,rfl,rfl,i.seqT h1,i.seqT h2,n1,by rw[r1.1,r2.1];exact hz.2.2,fun z=>absurd z n2,fun _ p hp=>JaY i hs hp (r1.append r2) q⟩
  ·cases e
 ·exact cat ra rb e
 ·exact cat ra rb e
 ·exact cat ra rb e
 ·cases e
theorem Jbh{d e:D}{k:Bool}(h:eqD d e=some k):d.py.canLay0=true/\e.py.canLay0=true/\min d.py.depth e.py.depth<=60/\k=Lf d.py e.py:=by
 unfold eqD at h;split at h
 ·next z=>cases h;simp only[QK,decide_eq_true_eq] at z;exact⟨z.1.1,z.1.2,z.2,rfl⟩
 ·cases h
theorem map_some{α β:Type}{x:Option α}{f:α->β}{b:β}(e:x.map f=some b):∃a,x=some a/\f a=b:=by
 cases x with
 | none=>cases e
 | some a=>cases e;exact⟨a,rfl,rfl⟩
theorem Jbg{H:Hp}{x y:V}{d e:D}{k:Bool}(h:eqA d e=some k)(rx:RD K C H x d)(ry:RD K C H y e):(JmH x y=true/\decide (x=y)=k)\/eqD d e=some k:=by
 unfold eqA at h;split at h
 ·cases h;rw[RD.intI rx,RD.intI ry];exact .inl ⟨rfl,by simp⟩
 ·cases h;rw[RD.strI rx,RD.strI ry];exact .inl ⟨rfl,by simp⟩
 ·cases h;rw[RD.blI rx,RD.blI ry];exact .inl ⟨rfl,by simp⟩
 ·cases h;rw[RD.nonI rx,RD.nonI ry];exact .inl ⟨rfl,by simp⟩
 ·cases h;rw[RD.nonI rx,RD.intI ry];exact .inl ⟨rfl,by simp⟩
 ·cases h;rw[RD.intI rx,RD.nonI ry];exact .inl ⟨rfl,by simp⟩
 ·cases h;rw[RD.nonI rx,RD.strI ry];exact .inl ⟨rfl,by simp⟩
 ·cases h;rw[RD.strI rx,RD.nonI ry];exact .inl ⟨rfl,by simp⟩
 ·cases h;rw[RD.nonI rx,RD.blI ry];exact .inl ⟨rfl,by simp⟩
 ·cases h;rw[RD.blI rx,RD.nonI ry];exact .inl ⟨rfl,by simp⟩
 ·cases h;rw[RD.intI rx,RD.strI ry];exact .inl ⟨rfl,by simp⟩
 ·cases h;rw[RD.strI rx,RD.intI ry];exact .inl ⟨rfl,by simp⟩
 ·exact .inr h
theorem JoX:OpS K C (Jg8 K) fEq:=by
 intro Hs H0 H x y a b c Q i hs ra rb e q;obtain⟨d,e1,e⟩:=bind_some e;obtain⟨d',e2,e⟩:=bind_some e;obtain⟨k,e3,rfl⟩:=map_some e;have r1:=ra.dat i e1;have r2:=rb.dat i e2;rcases Jbg e3 r1 r2 with ⟨h1,h2⟩|h
 ·exact .inl ⟨h1,by rw[h2];exact q _ _ _ (.refl i) (RD.bl _)⟩
 ·obtain⟨h1,h2,h3,rfl⟩:=Jbh h;exact .inr ⟨_,_,r1.rep h1,r2.rep h2,h1,h2,h3,q _ _ _ (.refl i) (RD.bl _)⟩
theorem Jo3:OpS K C (Jhb K) fNe:=by
 intro Hs H0 H x y a b c Q i hs ra rb e q;obtain⟨d,e1,e⟩:=bind_some e;obtain⟨d',e2,e⟩:=bind_some e;obtain⟨k,e3,rfl⟩:=map_some e;have r1:=ra.dat i e1;have r2:=rb.dat i e2;rcases Jbg e3 r1 r2 with ⟨h1,h2⟩|h
 ·exact .inl ⟨h1,by rw[h2];exact q _ _ _ (.refl i) (RD.bl _)⟩
 ·obtain⟨h1,h2,h3,rfl⟩:=Jbh h;exact .inr ⟨_,_,r1.rep h1,r2.rep h2,h1,h2,h3,q _ _ _ (.refl i) (RD.bl _)⟩
theorem Jbs{H:Hp}{x:V}{d:D}(r:RD K C H x d):decide (x=.non)=d.isNon:=by cases r <;> simp[D.isNon]
theorem JoZ:OpS K C Jl1 fIs:=by
 intro Hs H0 H x y a b c Q i hs ra rb e q;unfold fIs at e;split at e
 ·obtain⟨d,e1,rfl⟩:=map_some e;refine⟨RD.nonI rb,?_⟩;rw[Jbs (ra.dat i e1)];exact q _ _ _ (.refl i) (RD.bl _)
 ·cases e
theorem JiM:OpS K C Jhc U2:=by
 intro Hs H0 H x y a b c Q i hs ra rb e q;unfold U2 at e;split at e
 ·obtain⟨d,e1,rfl⟩:=map_some e;refine⟨RD.nonI rb,?_⟩;rw[Jbs (ra.dat i e1)];exact q _ _ _ (.refl i) (RD.bl _)
 ·cases e
theorem RDL.atI{H:Hp}{xs:List V}{ds:List D}{i:Int}{d:D}(r:RDL K C H xs ds)(e:L2.atI ds i=some d):∃x,L2.atI xs i=some x/\RD K C H x d:=by unfold L2.atI at e ⊢;rw[r.1];obtain⟨j,e1,e⟩:=bind_some e;obtain⟨x,e2,r2⟩:=r.get e;exact⟨x,by rw[e1];exact e2,r2⟩
theorem Jo0:OpS K C (rIx K) fIx:=by
 intro Hs H0 H x y a b c Q i hs ra rb e q;unfold fIx at e;split at e
 ·split at e
  ·obtain⟨z,e1,rfl⟩:=map_some e;rw[RD.strI ra,RD.intI rb];exact Jmg (by assumption) e1 (q _ _ _ (.refl i) (RD.str _))
  ·cases e
 ·obtain⟨ds,e1,e⟩:=bind_some e;obtain⟨d,e2,rfl⟩:=map_some e;obtain⟨l,xs,rfl,h,r⟩:=ra.q i e1;obtain⟨v,e3,r3⟩:=r.atI e2;rw[RD.intI rb];rcases h with h|h
  ·exact Jmf h e3 (q _ _ _ (.refl i) r3)
  ·exact Jmh h e3 (q _ _ _ (.refl i) r3)
 ·cases e
end
end LE

namespace LE
open PySem L2 LR

noncomputable def WI:List Sl->Option (List D)
 | []=>some []
 | s::ss=>s.frz.bind fun d=>(WI ss).bind fun ds=>some (d::ds)
noncomputable def UF(as:En->Option (List Sl)):Ev:=fun E=>(as E).bind fun ss=>(WI ss).bind fun ds=>if ds.length<=100 then some (.sh (.tup ds)) else none
noncomputable def Zp(as:En->Option (List Sl)):Ev:=fun E=>(as E).bind fun ss=>(WI ss).bind fun ds=>if ds.length<=100 then some (.own ds) else none
section
variable{K:Frag}{C:Addr}{t:TA}{ev:En->Option (List Sl)}{Hs H0 H:Hp}{ta te:TE}{ea:Ev}
theorem RRL.frz{vs:List V}{ss:List Sl}(i:Same H0 H)(r:RRL K C Hs H0 H vs ss):∀{ds:List D},WI ss=some ds->RDL K C (Yo Hs H0 H) vs ds:=by
 induction r with
 | nil=>intro ds e;cases e;exact .nil
 | cons h _ ih=>intro ds e;obtain⟨d,e1,e⟩:=bind_some e;obtain⟨ds',e2,e⟩:=bind_some e;cases e;exact .cons (h.frz i e1) (ih e2)
theorem Jop(ha:SA K C t ev):SE K C (JmR t) (UF ev):=by
 intro B H0 H σ E c Q I e q;obtain⟨ss,e1,e⟩:=bind_some e;obtain⟨ds,e2,e⟩:=bind_some e;split at e
 ·next hl =>
  cases e;refine ha B H0 H σ E ss _ I e1 fun vs H1 H1' s1 r1=>?_
  have f:=JO (Hs:=H) s1.i
  have r2:=r1.frz s1.i e2;exact⟨by rw[r2.1];exact Q4 hl (by decide),fun p hp=>JaY f.i s1.h hp r2 fun v H2 H2' s2 r2=>q v H2 H2' ((s1.comp f fun _ z=>z).comp s2 fun _ z=>z) r2⟩
 ·cases e
theorem Jok(ha:SA K C t ev):SE K C (JmO t) (Zp ev):=by
 intro B H0 H σ E c Q I e q;obtain⟨ss,e1,e⟩:=bind_some e;obtain⟨ds,e2,e⟩:=bind_some e;split at e
 ·next hl =>
  cases e;refine ha B H0 H σ E ss _ I e1 fun vs H1 H1' s1 r1=>?_
  have f:=JO (Hs:=H) s1.i
  have r2:=r1.frz s1.i e2;exact⟨by rw[r2.1];exact Q4 hl (by decide),fun p hp=>Vz f.i s1.h hp r2 fun v H2 H2' s2 r2=>q v H2 H2' ((s1.comp f fun _ z=>z).comp s2 fun _ z=>z) r2⟩
 ·cases e

noncomputable def Sl.pass:Sl->Option Sl
 | .sh d=>some (.sh d)
 | .own ds=>some (.sh (.lst ds))
 | .bo ds=>some (.bo ds)
 | .bd ks ds=>some (.bd ks ds)
 | .od ks ds=>some (.sh (.dct ks ds))
 | .bt _ _=>none
 | .ot _ _=>none
 | .no=>none
end
noncomputable def Wn:List Sl->Option (List Sl)
 | []=>some []
 | s::ss=>s.pass.bind fun d=>(Wn ss).bind fun ds=>some (d::ds)
noncomputable def spE(K:Frag)(C:Addr)(n:Nat)(f:List Sl->Option Sl):Sp:=fun vs H Q _=>∃H0 as r,Same H0 H/\RRL K C H H0 H vs as/\as.all (fun s=>!J0 s)=true/\as.length=n/\f as=some r ∧
 ∀v H0' H',Step H H0 H H0' H'->RR K C H H0' H' v r->Q v H'
noncomputable def eU(n:Nat)(f:List Sl->Option Sl)(as:En->Option (List Sl)):Ev:=fun E=>(as E).bind fun ss=>(Wn ss).bind fun bs=>if bs.length=n then f bs else none
section
variable{K:Frag}{C:Addr}{t:TA}{ev:En->Option (List Sl)}{Hs H0 H:Hp}{ta te:TE}{ea:Ev}
theorem RRL.len{vs:List V}{ss:List Sl}(r:RRL K C Hs H0 H vs ss):vs.length=ss.length:=by
 induction r with
 | nil=>rfl
 | cons _ _ ih=>simp[ih]
theorem JH{n:Nat}{f:List Sl->Option Sl}{vs:List V}{Q:VK}{E:XK}(h:spE K C n f vs H Q E):vs.length=n:=by obtain⟨H0,as,r,_,h1,_,h2,_⟩:=h;rw[h1.len];exact h2
theorem RR.pass{v:V}{s s':Sl}(i:Same H0 H)(r:RR K C Hs H0 H v s)(e:s.pass=some s'):RR K C H (Yo Hs H0 H) H v s'/\J0 s'=false:=by
 have st:Step Hs H0 H (Yo Hs H0 H) H:=JO i
 cases s with
 | no=>cases e
 | sh d=>cases e;exact⟨RD.mono st.z r,rfl⟩
 | own ds=>cases e;exact⟨RR.frz (s:=.own ds) i r rfl,rfl⟩
 | bo ds=>cases e;obtain⟨l,xs,h1,h2,h3⟩:=r;exact⟨⟨l,xs,h1,h2,h3.mono st.z⟩,rfl⟩
 | od ks ds=>cases e;exact⟨RR.frz (s:=.od ks ds) i r rfl,rfl⟩
 | ot ks ds=>cases e
 | bd ks ds=>cases e;obtain⟨l,xs,h1,h2,hk,h3⟩:=r;exact⟨⟨l,xs,h1,h2,hk,h3.mono st.z⟩,rfl⟩
 | bt ks ds=>cases e
theorem RRL.pass{vs:List V}{ss:List Sl}(i:Same H0 H)(r:RRL K C Hs H0 H vs ss):∀{bs:List Sl},Wn ss=some bs->RRL K C H (Yo Hs H0 H) H vs bs/\bs.all (fun s=>!J0 s)=true:=by
 induction r with
 | nil=>intro bs e;cases e;exact⟨.nil,rfl⟩
 | cons h _ ih=>intro bs e;obtain⟨d,e1,e⟩:=bind_some e;obtain⟨ds',e2,e⟩:=bind_some e;cases e;obtain⟨h1,h2⟩:=h.pass i e1;obtain⟨h3,h4⟩:=ih e2;exact⟨.cons h1 h3,by rw[List.all_cons,h2,h4];rfl⟩
theorem Jmx{n:Nat}{f:List Sl->Option Sl}{X:XK}(ha:SA K C t ev):SE K C (Jed (spE K C n f) [] X t) (eU n f ev):=by
 intro B H0 H σ E c Q I e q;obtain⟨ss,e1,e⟩:=bind_some e;obtain⟨bs,e2,e⟩:=bind_some e;split at e
 ·next hl=>refine Jd3 (ha B H0 H σ E ss _ I e1 fun vs H1 H1' s1 r1=>?_);obtain⟨h1,h2⟩:=r1.pass s1.i e2;have f:=JO (Hs:=H) s1.i;exact⟨_,bs,c,f.i,h1,h2,hl,e,fun v H2 H2' s2 r2=>q v H2 H2' ((s1.comp f fun _ z=>z).comp s2 fun a z=>Same.free s1.h z) (r2.weak fun a z=>Same.free s1.h z)⟩
 ·cases e

noncomputable def prE(p:Pr):D:=.tup [.int p.1,.int p.2]
noncomputable def Jm0:D->Option Pr
 | .tup [.int a,.int b]=>some (a,b)
 | _=>none
noncomputable def Jcb:List D->Option (List Pr)
 | []=>some []
 | d::ds=>(Jm0 d).bind fun p=>(Jcb ds).bind fun ps=>some (p::ps)
end
theorem Z0:∀ps:List Pr,Jcb (ps.map prE)=some ps
 | []=>rfl
 | p::ps=>by rw[Qe,Jcb,Z0 ps];rfl
theorem Jfr{d:D}{p:Pr}(e:Jm0 d=some p):d=prE p:=by
 unfold Jm0 at e;split at e
 ·cases e;rfl
 ·cases e
theorem Zj:∀{ds:List D} {ps:List Pr},Jcb ds=some ps->ds=ps.map prE
 | [],_,e=>by cases e;rfl
 | d::ds,_,e=>by obtain⟨p,e1,e⟩:=bind_some e;obtain⟨ps,e2,e⟩:=bind_some e;cases e;rw[Jfr e1,Zj e2];rfl
noncomputable def V4:List Pr->Bool
 | []=>true
 | [p]=>decide (1<=p.2)
 | p::q::r=>decide (1<=p.2) && decide (p.1+p.2<q.1) && V4 (q::r)
theorem WK:∀{ps:List Pr},V4 ps=true->Good ps
 | [],_=>.nil
 | [p],h=>⟨fun i q e=>by
  cases i with
  | zero=>simp at e;subst e;simpa [V4] using h
  | succ i=>simp at e,fun i q r e1 e2=>by simp at e2⟩
 | p::q::r,h=>by
  simp only[V4,QK,decide_eq_true_eq] at h;have g:=WK h.2;refine⟨fun i x e=>?_,fun i x y e1 e2=>?_⟩
  ·cases i with
   | zero=>simp at e;subst e;exact h.1.1
   | succ i=>exact g.one i x (by simpa using e)
  ·cases i with
   | zero=>simp at e1 e2;subst e1 e2;exact h.1.2
   | succ i=>exact g.gap i x y (by simpa using e1) (by simpa using e2)
theorem WL:∀{ps:List Pr},Good ps->V4 ps=true
 | [],_=>rfl
 | [p],g=>by simpa [V4] using g.one 0 p rfl
 | p::q::r,g=>by
  have g':Good (q::r):=⟨fun i x e=>g.one (i+1) x (by simpa using e),fun i x y e1 e2=>g.gap (i+1) x y (by simpa using e1) (by simpa using e2)⟩
  simp only[V4,QK,decide_eq_true_eq];exact⟨⟨g.one 0 p rfl,g.gap 0 p q rfl rfl⟩,WL g'⟩
noncomputable def Zr:List Sl->Option Sl
 | [s]=>s.q.bind fun ds=>(Jcb ds).bind fun ps=>if (V4 ps && decide (ps.length<=30))=true then some (.sh (.row ds)) else none
 | _=>none
noncomputable def Vl:Sl->Option Sl
 | .sh (.row ds)=>some (.sh (.tup ds))
 | _=>none
section
variable{K:Frag}{C:Addr}{t:TA}{ev:En->Option (List Sl)}{Hs H0 H:Hp}{ta te:TE}{ea:Ev}
theorem JlV{xs:List V}{ps:List Pr}(r:RDL K C H xs (ps.map prE)):Prs K H xs ps:=by
 refine⟨by rw[r.1];simp,fun i x d h1 h2=>?_⟩;rw[Qn] at h2
 cases e:ps[i]? with
 | none=>rw[e] at h2;cases h2
 | some p=>rw[e] at h2;cases h2;have h:=r.2 i x (prE p) h1 (by rw[Qn,e];rfl);exact RD.rep h rfl
theorem JlA{xs:List V}{ps:List Pr}(i:Same H0 H)(r:Prs K H xs ps):RDL K C (Yo Hs H0 H) xs (ps.map prE):=by refine⟨by rw[r.len];simp,fun j x d h1 h2=>?_⟩;obtain⟨p,a,e1,e2,e3⟩:=r.at h1;rw[Qn,e1] at h2;cases h2;subst e2;exact .mkT (JdB i e3) (.cons (.int _) (.cons (.int _) .nil))
theorem Jon{X:XK}(ha:SA K C t ev):SE K C (Jef C (V0 C K) [] X t) (eF Zr ev):=by
 intro B H0 H σ E c Q I e q;obtain⟨ss,e1,e⟩:=bind_some e;refine LR.Jd5 (ha B H0 H σ E ss _ I e1 fun vs H1 H1' s1 r1=>?_);unfold Zr at e;split at e
 ·next s =>
  cases r1 with
  | cons r1 r1' =>
   cases r1';obtain⟨ds,e2,e⟩:=bind_some e;obtain⟨ps,e3,e⟩:=bind_some e;split at e
   ·next hg =>
    cases e;simp only[QK,decide_eq_true_eq] at hg;have e4:=Zj e3;subst e4;obtain⟨l,xs,rfl,hq,r⟩:=r1.q s1.i e2;refine Jmp ⟨l,xs,rfl,hq,JlV (r.mono s1.i)⟩ (WK hg.1) hg.2 fun x H2 nx s2 R=>?_
    obtain⟨x',dx,t',ts,ex,hx,ht,hp⟩:=R;cases ex;have i2:Same H1 H2:=s1.i.trans s2;have f:=JO (Hs:=H) i2;refine q _ (Yo H H1 H2) H2 ⟨s1.h.trans s2,s1.z.trans f.z,fun a o e=>(f.n a o e).elim (fun z=>s1.n a o z) .inr,f.i⟩ ?_;have ts':=JlA (Hs:=H) (C:=C) i2 hp;exact .row (Jao i2 (Same.free s1.h nx) hx) (JdB i2 (.of ht)) ts'.1 ts'.2
   ·cases e
 ·cases e
theorem Joe{K:Frag}{C:Addr}{ta:TE}{ea:Ev}(T:RowC K C)(ha:SE K C ta ea):SE K C (JjG K ta "stretches") (e1 Vl ea):=by
 intro B H0 H σ E c Q I e q;obtain⟨a,e1,e⟩:=bind_some e;refine ha B H0 H σ E a _ I e1 fun x H1 H1' s1 r1=>?_
 unfold Vl at e;split at e
 ·cases e;obtain⟨x',dx,t',ts,rfl,hx,ht,hp⟩:=RD.rowI r1;exact⟨x',C,dx,_,_,rfl,s1.i _ _ hx,T.cl,T.ns,Jfi t',q _ _ _ s1 (RD.mkT ht hp)⟩
 ·cases e

noncomputable def ints?:List D->Option (List Int)
 | []=>some []
 | .int i::ds=>(ints? ds).map (i::·)
 | _::_=>none
noncomputable def bls?:List D->Option (List Bool)
 | []=>some []
 | .bl i::ds=>(bls? ds).map (i::·)
 | _::_=>none
end
theorem WP:∀ns:List Int,ints? (ns.map .int)=some ns
 | []=>rfl
 | n::ns=>by rw[Qe,ints?,WP ns];rfl
theorem Jad:∀ns:List Bool,bls? (ns.map .bl)=some ns
 | []=>rfl
 | n::ns=>by rw[Qe,bls?,Jad ns];rfl
theorem UQ:∀{ds:List D} {ns:List Int},ints? ds=some ns->ds=ns.map .int
 | [],_,e=>by cases e;rfl
 | .int i::ds,_,e=>by obtain⟨ns,e1,e2⟩:=map_some (show(ints? ds).map (i::·)=_ from e);rw[<- e2,UQ e1];rfl
 | .non::_,_,e|.bl _::_,_,e|.str _::_,_,e|.tup _::_,_,e|.lst _::_,_,e|.fz _::_,_,e|.row _::_,_,e=>by cases e
theorem Wy:∀{ds:List D} {ns:List Bool},bls? ds=some ns->ds=ns.map .bl
 | [],_,e=>by cases e;rfl
 | .bl i::ds,_,e=>by obtain⟨ns,e1,e2⟩:=map_some (show(bls? ds).map (i::·)=_ from e);rw[<- e2,Wy e1];rfl
 | .non::_,_,e|.int _::_,_,e|.str _::_,_,e|.tup _::_,_,e|.lst _::_,_,e|.fz _::_,_,e|.row _::_,_,e=>by cases e
noncomputable def U4:List Sl->Option Sl
 | [.sh (.str x)]=>if x.length<=sizeLine then some (.sh (.int x.length)) else none
 | [s]=>s.q.map fun ds=>.sh (.int ds.length)
 | _=>none
noncomputable def Zs:List Sl->Option Sl
 | [s]=>s.q.bind fun ds=>(ints? ds).map fun ns=>.sh (.int ns.sum)
 | _=>none
noncomputable def Jik:List Sl->Option Sl
 | [s]=>s.q.bind fun ds=>(bls? ds).map fun ns=>.sh (.bl (ns.any id))
 | _=>none
noncomputable def Jii:List Sl->Option Sl
 | [s]=>s.q.bind fun ds=>(bls? ds).map fun ns=>.sh (.bl (ns.all id))
 | _=>none
noncomputable def Jf8:List Sl->Option Sl
 | [.sh (.int a),.sh (.int b)]=>some (.sh (.int (max a b)))
 | _=>none
noncomputable def Jbk:List Sl->Option Sl
 | [.sh (.int a),.sh (.int b)]=>some (.sh (.int (min a b)))
 | _=>none
noncomputable def Zq:List Sl->Option Sl
 | [.sh (.int a)]=>some (.sh (.int (if a<0 then -a else a)))
 | _=>none
section
variable{K:Frag}{C:Addr}{Hs H0 H:Hp}
theorem RRL.one{vs:List V}{s:Sl}(r:RRL K C Hs H0 H vs [s]):∃v,vs=[v]/\RR K C Hs H0 H v s:=by
 cases r with
 | cons h t=>cases t;exact⟨_,rfl,h⟩
theorem RRL.two{vs:List V}{s t:Sl}(r:RRL K C Hs H0 H vs [s,t]):∃v w,vs=[v,w]/\RR K C Hs H0 H v s/\RR K C Hs H0 H w t:=by
 cases r with
 | cons h r=>cases r with
  | cons h' r=>cases r;exact⟨_,_,rfl,h,h'⟩
theorem Jnl:Ve K C (JcS K) U4:=by
 intro Hs H0 H xs as c Q i hs r e q;unfold U4 at e;split at e
 ·split at e
  ·cases e;obtain⟨v,rfl,r0⟩:=r.one;rw[RD.strI r0];exact Jjf (by assumption) (q _ _ _ (.refl i) (RD.int _))
  ·cases e
 ·obtain⟨v,rfl,r0⟩:=r.one;obtain⟨ds,e1,rfl⟩:=map_some e;obtain⟨l,xs,rfl,h,r1⟩:=r0.q i e1;have z:=q (.int ds.length) _ _ (.refl i) (RD.int _);rw[<- r1.1] at z;exact JbQ h z
 ·cases e
theorem Jno:Ve K C (Jl5 K) Zs:=by
 intro Hs H0 H xs as c Q i hs r e q;unfold Zs at e;split at e
 ·obtain⟨v,rfl,r0⟩:=r.one;obtain⟨ds,e1,e⟩:=bind_some e;obtain⟨ns,e2,rfl⟩:=map_some e;obtain⟨l,ys,rfl,h,r1⟩:=r0.q i e1;rw[UQ e2] at r1;have:=r1.ints;subst this;exact⟨l,ns,rfl,h,q _ _ _ (.refl i) (RD.int _)⟩
 ·cases e
theorem Jnk:Ve K C (Jl0 K) Jik:=by
 intro Hs H0 H xs as c Q i hs r e q;unfold Jik at e;split at e
 ·obtain⟨v,rfl,r0⟩:=r.one;obtain⟨ds,e1,e⟩:=bind_some e;obtain⟨ns,e2,rfl⟩:=map_some e;obtain⟨l,ys,rfl,h,r1⟩:=r0.q i e1;rw[Wy e2] at r1;have:=r1.bls;subst this;exact⟨l,ns,rfl,h,q _ _ _ (.refl i) (RD.bl _)⟩
 ·cases e
theorem Jnj:Ve K C (JlZ K) Jii:=by
 intro Hs H0 H xs as c Q i hs r e q;unfold Jii at e;split at e
 ·obtain⟨v,rfl,r0⟩:=r.one;obtain⟨ds,e1,e⟩:=bind_some e;obtain⟨ns,e2,rfl⟩:=map_some e;obtain⟨l,ys,rfl,h,r1⟩:=r0.q i e1;rw[Wy e2] at r1;have:=r1.bls;subst this;exact⟨l,ns,rfl,h,q _ _ _ (.refl i) (RD.bl _)⟩
 ·cases e
theorem Jni:Ve K C (fun xs H Q=>∃i,xs=[.int i]/\Q (.int (if i<0 then -i else i)) H) Zq:=by
 intro Hs H0 H xs as c Q i hs r e q;unfold Zq at e;split at e
 ·cases e;obtain⟨v,rfl,r1⟩:=r.one;rw[RD.intI r1];exact⟨_,rfl,q _ _ _ (.refl i) (RD.int _)⟩
 ·cases e
theorem Jnm:Ve K C Jl2 Jf8:=by
 intro Hs H0 H xs as c Q i hs r e q;unfold Jf8 at e;split at e
 ·cases e;obtain⟨v,w,rfl,r1,r2⟩:=r.two;rw[RD.intI r1,RD.intI r2];exact Jhh (q _ _ _ (.refl i) (RD.int _))
 ·cases e
theorem Jnn:Ve K C Jl3 Jbk:=by
 intro Hs H0 H xs as c Q i hs r e q;unfold Jbk at e;split at e
 ·cases e;obtain⟨v,w,rfl,r1,r2⟩:=r.two;rw[RD.intI r1,RD.intI r2];exact Jhi (q _ _ _ (.refl i) (RD.int _))
 ·cases e
end

noncomputable def JmX:Sl->Option Bool
 | .sh .non=>some false
 | .sh (.bl b)=>some b
 | .sh (.int i)=>some (i != 0)
 | .sh (.str y)=>if y.length<=sizeLine then some ((y.length:Int) != 0) else none
 | s=>s.q.map fun ds=>!ds.isEmpty
noncomputable def tTru?(a:Ev):En->Option Bool:=fun E=>(a E).bind JmX
noncomputable def tyN:D->Option String
 | .non=>some "NoneType"
 | .bl _=>some "bool"
 | .int _=>some "int"
 | .str _=>some "str"
 | .tup _=>some "tuple"
 | .lst _=>some "list"
 | .fz _=>some "list"
 | .row _=>none
 | .dct _ _=>none
 | .dfz _ _=>none
 | .exc _=>none
noncomputable def Jbt(t n:String):Bool:=t == n || (t == "bool" && n == "int")
noncomputable def JhZ(n:String)(a:Ev):Ev:=fun E=>(a E).bind fun s=>s.d.bind fun d=>(tyN d).map fun t=>.sh (.bl (Jbt t n))
noncomputable def D.isRow:D->Bool
 | .row _=>true
 | _=>false
section
variable{K:Frag}{C:Addr}{Hs H0 H:Hp}{te:TE}{ea:Ev}
theorem RDL.empty{xs:List V}{ds:List D}(r:RDL K C H xs ds):xs.isEmpty=ds.isEmpty:=by cases xs <;> cases ds <;> first|rfl|(have:=r.1;simp at this)
theorem Joo(ha:SE K C te ea):ST K C (JjJ K te) (tTru? ea):=by
 intro B H0 H σ E k Q I e q;obtain⟨a,e1,e⟩:=bind_some e;refine ha B H0 H σ E a _ I e1 fun x H1 H1' s1 r1=>?_
 have seq:∀{a:Sl},RR K C H H1 H1' x a->a.q.map (fun ds=>!ds.isEmpty)=some k->∃k',Jer K x H1' k'/\Q k' H1':=fun {a} r1 e=>by
  obtain⟨ds,e2,rfl⟩:=map_some e;obtain⟨l,xs,rfl,h,r⟩:=r1.q s1.i e2;have z:=q _ _ s1;rw[<- r.empty] at z;rcases h with h|h
  ·exact⟨_,.inl ⟨xs,h,rfl⟩,z⟩
  ·exact⟨_,.inr (.inl ⟨xs,h,rfl⟩),z⟩
 unfold JmX at e;split at e
 ·cases e;rw[RD.nonI r1];exact⟨_,rfl,q _ _ s1⟩
 ·cases e;rw[RD.blI r1];exact⟨_,rfl,q _ _ s1⟩
 ·cases e;rw[RD.intI r1];exact⟨_,rfl,q _ _ s1⟩
 ·split at e
  ·cases e;rw[RD.strI r1];exact⟨_,⟨by assumption,rfl⟩,q _ _ s1⟩
  ·cases e
 ·exact seq r1 e
theorem RD.ty{x:V}{d:D}{t:String}(r:RD K C H x d)(e:tyN d=some t):TyS K H x (.type t):=by
 cases r with
 | non=>cases e;exact .of .non
 | bl b=>cases e;exact .of (.bl b)
 | int i=>cases e;exact .of (.int i)
 | str i=>cases e;exact .of (.str i)
 | tup h _ _=>cases e;exact .sqT h
 | lst h _ _=>cases e;exact .sqL (.of h)
 | fz h _ _=>cases e;exact .sqL h
 | row _ _ _ _=>cases e
 | dct _ _ _ _=>cases e
 | dfz _ _ _ _=>cases e
 | exc _ _=>cases e
noncomputable def JjV(K:Frag)(n:String):Prop:=∀t∈["NoneType","bool","int","str","tuple","list"],kitOne K (.type t) (.type n)=some (Jbt t n)
theorem JjN{d:D}{t:String}(e:tyN d=some t):t∈["NoneType","bool","int","str","tuple","list"]:=by cases d <;> cases e <;> simp
theorem Joj{n:String}(hk:JjV K n)(ha:SE K C te ea):SE K C (tCB (Ji7 K) (VE te (VE (tC (.ty n)) Jb6))) (JhZ n ea):=by
 intro B H0 H σ E c Q I e q;obtain⟨a,e1,e⟩:=bind_some e;obtain⟨d,e2,e⟩:=bind_some e;obtain⟨t,e3,rfl⟩:=map_some e;refine ha B H0 H σ E a _ I e1 fun x H1 H1' s1 r1=>?_
 exact Jme (RD.ty (r1.dat s1.i e2) e3) (hk t (JjN e3)) (q _ _ _ s1 (RD.bl _))
end
theorem JgD{K:Frag}:JjV K "list":=fun t ht=>by simp only[Qg,QX,or_false] at ht;rcases ht with rfl | rfl | rfl | rfl | rfl | rfl <;> kernel_rfl
end LE

namespace LE
open PySem L2 LR

mutual
inductive Pt where
 | nm (i:Nat)
 | tp (l:Pts)
inductive Pts where
 | nil
 | cons (p:Pt) (l:Pts)
end
mutual
noncomputable def Pt.bind:Pt->D->En->Option En
 | .nm i,d,E=>if i<E.length then some (E.set i (.sh d)) else none
 | .tp l,.tup ds,E=>l.bind ds E
 | .tp _,_,_=>none
noncomputable def Pts.bind:Pts->List D->En->Option En
 | .nil,[],E=>some E
 | .cons p l,d::ds,E=>(p.bind d E).bind fun E'=>l.bind ds E'
 | _,_,_=>none
end
mutual
noncomputable def Pt.slots:Pt->List Nat
 | .nm i=>[i]
 | .tp l=>l.slots
noncomputable def Pts.slots:Pts->List Nat
 | .nil=>[]
 | .cons p l=>p.slots++l.slots
end
mutual
theorem Pt.keep:∀{p:Pt} {d:D} {E E':En},p.bind d E=some E'->E'.length=E.length/\∀i,i∉p.slots->E'[i]?=E[i]?
 | .nm i,d,E,E',e=>by
  unfold Pt.bind at e;split at e
  ·cases e;refine⟨by simp,fun j hj=>?_⟩;rw[QT,if_neg];intro z;exact hj (by simp[Pt.slots,z])
  ·cases e
 | .tp l,d,E,E',e=>by
  cases d with
  | tup ds=>exact Pts.keep (p:=l) (ds:=ds) (by simpa [Pt.bind] using e)
  | _=>simp[Pt.bind] at e
theorem Pts.keep:∀{p:Pts} {ds:List D} {E E':En},p.bind ds E=some E'->E'.length=E.length/\∀i,i∉p.slots->E'[i]?=E[i]?
 | .nil,[],E,E',e=>by simp[Pts.bind] at e;subst e;exact⟨rfl,fun _ _=>rfl⟩
 | .nil,_::_,_,_,e=>by simp[Pts.bind] at e
 | .cons _ _,[],_,_,e=>by simp[Pts.bind] at e
 | .cons p l,d::ds,E,E',e=>by rw[Pts.bind] at e;obtain⟨E1,e1,e2⟩:=bind_some e;obtain⟨h1,h2⟩:=Pt.keep e1;obtain⟨h3,h4⟩:=Pts.keep e2;refine⟨h3.trans h1,fun i hi=>?_⟩;simp[Pts.slots] at hi;rw[h4 i hi.2,h2 i hi.1]
end
section
variable(K:Frag)(C:Addr)
noncomputable def SG(g:TG)(p:Pt):Prop:=∀(B H0 H:Hp) (σ:St) (E E':En) (x:V) (d:D) (Q:St->Hp->Prop),EnvR K C B H0 H σ E->RD K C H0 x d->p.bind d E=some E'->(∀σ',EnvR K C B H0 H σ' E'->Q σ' H)->g x σ H Q
noncomputable def SGs(g:TGs)(p:Pts):Prop:=∀(B H0 H:Hp) (σ:St) (E E':En) (xs:List V) (ds:List D) (Q:St->Hp->Prop),EnvR K C B H0 H σ E->RDL K C H0 xs ds->p.bind ds E=some E'->(∀σ',EnvR K C B H0 H σ' E'->Q σ' H)->g xs σ H Q
end
section
variable{K:Frag}{C:Addr}
theorem EnvR.setSh{B H0 H:Hp}{σ:St}{E:En}{i:Nat}{v:V}{d:D}(I:EnvR K C B H0 H σ E)(hi:i<E.length)(r:RD K C H0 v d):EnvR K C B H0 H (σ.set i (some v)) (E.set i (.sh d)) :=
 I.put' (s:=.sh d) (.refl I.h) hi r rfl
theorem JoS(i:Nat):SG K C (Vm i) (.nm i):=by
 intro B H0 H σ E E' x d Q I r e q;rw[Pt.bind] at e;split at e
 ·cases e;exact q _ (I.setSh (by assumption) r)
 ·cases e
theorem JnB:SGs K C JkV .nil:=by
 intro B H0 H σ E E' xs ds Q I r e q
 cases ds with
 | nil =>
  cases xs with
  | nil=>rw[Pts.bind] at e;cases e;exact⟨rfl,q σ I⟩
  | cons _ _=>have:=r.1;simp at this
 | cons _ _=>simp[Pts.bind] at e
theorem JkW{g:TG}{gs:TGs}{p:Pt}{ps:Pts}(h:SG K C g p)(hs:SGs K C gs ps):SGs K C (Jge g gs) (.cons p ps):=by
 intro B H0 H σ E E' xs ds Q I r e q
 cases ds with
 | nil=>simp[Pts.bind] at e
 | cons d ds =>
  cases xs with
  | nil=>have:=r.1;simp at this
  | cons x xs=>rw[Pts.bind] at e;obtain⟨E1,e1,e2⟩:=bind_some e;exact⟨x,xs,rfl,h B H0 H σ E E1 x d _ I r.head e1 fun σ1 I1=>hs B H0 H σ1 E1 E' xs ds Q I1 r.tail e2 q⟩
theorem JoT{n:Nat}{gs:TGs}{ps:Pts}(hn:∀(ds:List D) (E E':En),ps.bind ds E=some E'->ds.length=n)(hs:SGs K C gs ps):SG K C (Jgf K n gs) (.tp ps):=by
 intro B H0 H σ E E' x d Q I r e q
 cases d with
 | tup ds=>rw[Pt.bind] at e;obtain⟨a,xs,rfl,h,r⟩:=RD.tupI r;exact⟨a,xs,rfl,I.h.seqT h,by rw[r.1];exact hn ds E E' e,hs B H0 H σ E E' xs ds Q I r e q⟩
 | _=>simp[Pt.bind] at e
noncomputable def Pts.len:Pts->Nat
 | .nil=>0
 | .cons _ l=>l.len+1
theorem Pts.bind_len:∀{ps:Pts} {ds:List D} {E E':En},ps.bind ds E=some E'->ds.length=ps.len
 | .nil,[],_,_,_=>rfl
 | .nil,_::_,_,_,e=>by simp[Pts.bind] at e
 | .cons _ _,[],_,_,e=>by simp[Pts.bind] at e
 | .cons p l,d::ds,E,E',e=>by rw[Pts.bind] at e;obtain⟨E1,e1,e2⟩:=bind_some e;rw[Qp,Pts.bind_len e2];rfl
theorem JnC{n:Nat}{gs:TGs}{ps:Pts}(hs:SGs K C gs ps)(hn:ps.len=n):SG K C (Jgf K n gs) (.tp ps):=JoT (fun _ _ _ e=>(Pts.bind_len e).trans hn) hs
end

section
variable(K:Frag)(C:Addr)
noncomputable def JhN(A:Hp)(J:It)(ds:List D)(H0:Hp):Prop:=∀H0' H',SStep A H0 H0' H'->(∀(i:Nat) (d:D),ds[i]?=some d->J.go i H'/\∀x H2,J.yld i H' x H2->∃H02,Step H' H0' H' H02 H2/\RD K C H02 x d)/\J.stop ds.length H'
noncomputable def SI(m:Bool)(wi:TI)(ev:En->Option (List D)):Prop:=∀(B H0 H:Hp) (σ:St) (E:En) (ds:List D) (R:It->Hp->Prop),EnvR K C B H0 H σ E->ev E=some ds ->
 (∀J H0' H',Step H H0 H H0' H'->JhN K C (if m=true then H' else B) J ds H0'->R J H')->wi σ H R
end
noncomputable def Sl.it(m:Bool):Sl->Option (List D)
 | .bo ds=>if m=true then some ds else none
 | s=>s.q
noncomputable def iE(m:Bool)(a:Ev):En->Option (List D):=fun E=>(a E).bind (Sl.it m)
noncomputable def iV(i:Nat):En->Option (List D):=fun E=>match E[i]? with
 | some (.bo ds)=>some ds
 | some (.sh d)=>(Sl.sh d).q
 | _=>none
noncomputable def rng(lo:Int)(n:Nat):List D:=(GQ n).map fun(i:Nat)=>.int (lo+(i:Int))
noncomputable def JcA(a:Int):Bool:=Nat.ble a.natAbs 4611686018427387903
noncomputable def iR1(as:En->Option (List Sl)):En->Option (List D):=fun E=>(as E).bind fun ss=>match ss with
 | [.sh (.int n)]=>if JcA n=true then some (rng 0 n.toNat) else none
 | _=>none
section
variable{K:Frag}{C:Addr}{te:TE}{ea:Ev}{m:Bool}
theorem Vs{A H0:Hp}{a:Addr}{xs:List V}{ds:List D}(hd:∀H0' H',SStep A H0 H0' H'->SqL K H' a xs)(r:RDL K C H0 xs ds):JhN K C A (Itl K a) ds H0:=by intro H0' H' st;have hq:=hd H0' H' st;refine⟨fun i d e=>?_,⟨xs,hq,by rw[r.1];exact Qk _⟩⟩;obtain⟨x,e1,r1⟩:=r.get e;refine⟨⟨xs,x,hq,e1⟩,fun y H2 ⟨e2,e3⟩=>?_⟩;subst e2;have:=e3 xs hq;rw[e1] at this;cases this;exact⟨H0',.refl st.i,r1.mono st.z⟩
theorem Jk5{A H0:Hp}{a:Addr}{xs:List V}{ds:List D}(hd:∀H0' H',SStep A H0 H0' H'->SqT K H' a xs)(r:RDL K C H0 xs ds):JhN K C A (Itt K a) ds H0:=by intro H0' H' st;have hq:=hd H0' H' st;refine⟨fun i d e=>?_,⟨xs,hq,by rw[r.1];exact Qk _⟩⟩;obtain⟨x,e1,r1⟩:=r.get e;refine⟨⟨xs,x,hq,e1⟩,fun y H2 ⟨e2,e3⟩=>?_⟩;subst e2;have:=e3 xs hq;rw[e1] at this;cases this;exact⟨H0',.refl st.i,r1.mono st.z⟩
theorem Jof(ha:SE K C te ea):SI K C m (JeR K te) (iE m ea):=by
 intro B H0 H σ E ds R I e q;obtain⟨s,e1,e⟩:=bind_some e
 cases s with
 | no=>cases e
 | bd _ _=>cases e
 | bt _ _=>cases e
 | od _ _=>cases e
 | ot _ _=>cases e
 | bo es =>
  unfold Sl.it at e;dsimp only at e;split at e
  ·next hm=>cases e;refine .inl (ha B H0 H σ E _ _ I e1 fun x H1 H1' s1 r1=>?_);obtain⟨l,xs,rfl,h,r⟩:=r1;refine⟨l,rfl,⟨xs,.of h⟩,q _ _ _ s1 ?_⟩;rw[if_pos hm];exact Vs (fun H0' H' st=>.of (st.b _ _ h)) r
  ·cases e
 | own es=>cases (show some es=some ds from e);refine .inl (ha B H0 H σ E _ _ I e1 fun x H1 H1' s1 r1=>?_);have f:=JO (Hs:=H) s1.i;have r2:=RR.frz s1.i r1 rfl;obtain⟨l,xs,rfl,h,r⟩:=RD.lstI r2;exact⟨l,rfl,⟨xs,.of (f.i _ _ h)⟩,q _ _ _ (s1.comp f fun _ z=>z) (Vs (fun H0' H' st=>.of (st.i _ _ (st.z _ _ h))) r)⟩
 | sh d =>
  cases d with
  | lst es=>cases (show some es=some ds from e);refine .inl (ha B H0 H σ E _ _ I e1 fun x H1 H1' s1 r1=>?_);obtain⟨l,xs,rfl,h,r⟩:=RD.lstI r1;exact⟨l,rfl,⟨xs,.of (s1.i _ _ h)⟩,q _ _ _ s1 (Vs (fun H0' H' st=>.of (st.i _ _ (st.z _ _ h))) r)⟩
  | fz es=>cases (show some es=some ds from e);refine .inl (ha B H0 H σ E _ _ I e1 fun x H1 H1' s1 r1=>?_);obtain⟨l,xs,rfl,h,r⟩:=RD.fzI r1;exact⟨l,rfl,⟨xs,s1.i.seq h⟩,q _ _ _ s1 (Vs (fun H0' H' st=>(st.z.trans st.i).seq h) r)⟩
  | tup es=>cases (show some es=some ds from e);refine .inr (ha B H0 H σ E _ _ I e1 fun x H1 H1' s1 r1=>?_);obtain⟨l,xs,rfl,h,r⟩:=RD.tupI r1;exact⟨l,rfl,⟨xs,s1.i.seqT h⟩,q _ _ _ s1 (Jk5 (fun H0' H' st=>(st.z.trans st.i).seqT h) r)⟩
  | _=>cases (show none=some ds from e)
theorem Jo9(i:Nat):SI K C false (JeR K (Ze i)) (iV i):=by
 intro B H0 H σ E ds R I e q;unfold iV at e;split at e
 ·next es h =>
  cases e;rcases I.at' i _ h with z|⟨v,h1,h2⟩
  ·cases z
  ·obtain⟨l,xs,rfl,hl,r⟩:=h2;refine .inl ⟨_,h1,l,rfl,⟨xs,.of (I.b _ _ hl)⟩,q _ _ _ (.refl I.h) (Vs (fun H0' H' st=>.of (st.b _ _ hl)) r)⟩
 ·next d h=>refine Jof (m:=false) (ea:=Jb i) (Jkk i) B H0 H σ E ds R I ?_ q;show(Jb i E).bind _=_;unfold Jb;rw[h];exact e
 ·cases e
theorem Jjq{lo:Int}{n i:Nat}{d:D}(e:(rng lo n)[i]?=some d):i<n/\d=.int (lo+(i:Int)):=by
 unfold rng at e;rw[Qn] at e
 cases h:(GQ n)[i]? with
 | none=>rw[h] at e;cases e
 | some j=>rw[h] at e;cases e;obtain⟨h1,h2⟩:=Qh.mp h;simp at h1 h2;subst h2;exact⟨h1,rfl⟩
theorem Jk4{A H0:Hp}{lo:Int}{n:Nat}:JhN K C A (Itr lo n) (rng lo n) H0:=by intro H0' H' st;refine⟨fun i d e=>?_,by show n<=_;simp[rng]⟩;obtain⟨h1,rfl⟩:=Jjq e;refine⟨h1,fun x H2 ⟨e1,e2⟩=>?_⟩;subst e1 e2;exact⟨H0',.refl st.i,.int _⟩
theorem Jax{a:Int}(h:JcA a=true):-(2 ^ 62)<=a/\a<2 ^ 62:=by unfold JcA at h;rw[G9] at h;omega
theorem Jog{t:TA}{ev:En->Option (List Sl)}(ha:SA K C t ev):SI K C m (Jj9 t) (iR1 ev):=by
 intro B H0 H σ E ds R I e q;obtain⟨ss,e1,e⟩:=bind_some e;split at e
 ·split at e
  ·next hn =>
   cases e;refine ha B H0 H σ E _ _ I e1 fun vs H1 H1' s1 r1=>?_
   obtain⟨v,rfl,r⟩:=r1.one;rw[RD.intI r];exact⟨_,rfl,(Jax hn).1,(Jax hn).2,q _ _ _ s1 Jk4⟩
  ·cases e
 ·cases e
end

noncomputable def yes?:En->Option Bool:=fun _=>some true
noncomputable def Vq(imp:List (Option Nat))(E:En):En:=imp.map fun o=>match o with
 | none=>.no
 | some k=>match E[k]? with
  | some (.own ds)=>.bo ds
  | some (.od ks ds)=>.bd ks ds
  | some (.ot ks ds)=>.bt ks ds
  | some s=>s
  | none=>.no
noncomputable def Ua(p:Pt)(c:En->Option Bool)(a:Ev)(E1:En):List D->Option (List D)
 | []=>some []
 | d::ds=>(p.bind d E1).bind fun E2=>(c E2).bind fun k=>if k=true then(a E2).bind fun s=>s.frz.bind fun y=>(Ua p c a E1 ds).bind fun ys=>some (y::ys) else Ua p c a E1 ds
noncomputable def Ys(it:En->Option (List D))(p:Pt)(c:En->Option Bool)(a:Ev)(imp:List (Option Nat)):Ev:=fun E=>(it E).bind fun ds=>if ds.length<=sizeLine then(Ua p c a (Vq imp E) ds).map .own else none
section
variable{K:Frag}{C:Addr}
theorem Joq:ST K C JmS yes?:=fun _ _ _ _ _ _ _ I e q=>by cases e;exact q _ _ (.refl I.h)
theorem Jh4{B H0 H:Hp}{σ:St}{E:En}{imp:List (Option Nat)}(I:EnvR K C B H0 H σ E):EnvR K C H H0 H (WN imp σ) (Vq imp E):=by
 have get:∀(i:Nat) (s:Sl),(Vq imp E)[i]?=some s->s=.no\/∃v,(WN imp σ)[i]?=some (some v)/\RSl K C H H0 H v s/\J0 s=false:=fun i s e=>by
  unfold Vq at e;unfold WN;rw[Qn] at e ⊢
  cases h:imp[i]? with
  | none=>rw[h] at e;cases e
  | some o =>
   rw[h] at e
   cases o with
   | none=>cases e;exact .inl rfl
   | some k =>
    have e':(match E[k]? with|some (.own ds)=>Sl.bo ds|some (.od ks ds)=>Sl.bd ks ds|some (.ot ks ds)=>Sl.bt ks ds|some s=>s|none=>.no)=s:=QG e
    cases hE:E[k]? with
    | none=>rw[hE] at e';exact .inl e'.symm
    | some s' =>
     rw[hE] at e';rcases I.at' k s' hE with z|⟨v,h1,h2⟩
     ·subst z;exact .inl e'.symm
     ·have g:(σ[k]?).join=some v:=by rw[h1];rfl
      cases s' with
      | no=>exact .inl e'.symm
      | sh d=>dsimp only at e';subst e';exact .inr ⟨v,by show some ((σ[k]?).join)=_;rw[g],h2,rfl⟩
      | bo ds=>dsimp only at e';subst e';obtain⟨l,xs,q1,q2,q3⟩:=h2;exact .inr ⟨v,by show some ((σ[k]?).join)=_;rw[g],⟨l,xs,q1,I.b _ _ q2,q3⟩,rfl⟩
      | own ds=>dsimp only at e';subst e';obtain⟨l,xs,q1,q2,_,_,q3⟩:=h2;exact .inr ⟨v,by show some ((σ[k]?).join)=_;rw[g],⟨l,xs,q1,q2,q3⟩,rfl⟩
      | bd ks ds=>dsimp only at e';subst e';obtain⟨l,xs,q1,q2,q3⟩:=h2;exact .inr ⟨v,by show some ((σ[k]?).join)=_;rw[g],⟨l,xs,q1,I.b _ _ q2,q3⟩,rfl⟩
      | bt ks ds=>dsimp only at e';subst e';obtain⟨l,xs,q1,q2,q3⟩:=h2;exact .inr ⟨v,by show some ((σ[k]?).join)=_;rw[g],⟨l,xs,q1,I.b _ _ q2,q3⟩,rfl⟩
      | od ks ds=>dsimp only at e';subst e';obtain⟨l,xs,q1,q2,_,_,q3⟩:=h2;exact .inr ⟨v,by show some ((σ[k]?).join)=_;rw[g],⟨l,xs,q1,q2,q3⟩,rfl⟩
      | ot ks ds=>dsimp only at e';subst e';obtain⟨l,xs,q1,q2,_,_,q3⟩:=h2;exact .inr ⟨v,by show some ((σ[k]?).join)=_;rw[g],⟨l,xs,q1,q2,q3⟩,rfl⟩
 refine⟨Same.refl _,I.h,by simp[WN,Vq],fun i s e=>?_,fun i j s t v hij e1 e2 o1 o2=>?_⟩
 ·rcases get i s e with z|⟨v,h1,h2,_⟩
  ·exact .inl z
  ·exact .inr ⟨v,h1,h2⟩
 ·rcases get i _ e1 with z|⟨v,h1,h2,h3⟩
  ·subst z;cases o1
  ·rw[h3] at o1;cases o1
theorem Jmy{wi:TI}{g:TG}{tt:TT}{te:TE}{imp:List (Option Nat)}{it:En->Option (List D)}{p:Pt}{c:En->Option Bool}{a:Ev}(hi:SI K C true wi it)(hg:SG K C g p)(hc:ST K C tt c)(ha:SE K C te a)
 (hp:(p.slots.all fun i=>match imp[i]? with|some none=>true|_=>false)=true):SE K C (Jee wi g tt te imp) (Ys it p c a imp):=by
 intro B H0 H σ E r Q I e q;obtain⟨ds,e1,e⟩:=bind_some e;split at e
 ·next hl =>
  obtain⟨es,e2,rfl⟩:=map_some e;refine hi B H0 H σ E ds _ I e1 fun J H1 H1' s1 ok=>?_
  rw[if_pos rfl] at ok;have I1:EnvR K C H1' H1 H1' (WN imp σ) (Vq imp E):=Jh4 (I.step s1)
  -- the loop: what was gathered,what comes
  refine⟨fun i m ys σ' H'=>m=ds.length-i/\i<=ds.length/\∃H0' gs rs,EnvR K C H1' H0' H' σ' (Vq imp E)/\Step H1' H1 H1' H0' H'/\RDL K C H0' ys gs/\Ua p c a (Vq imp E) (ds.drop i)=some rs/\es=gs++rs/\gs.length<=i,
   ⟨ds.length,by simp,G1 _,H1,[],es,I1,.refl s1.i,.nil,e2,rfl,Qk _⟩,?_⟩
  rintro i m ys σ' H' ⟨rfl,hi',H0',gs,rs,I',st,rys,er,ees,hgl⟩;have stop:=ok H0' H' ⟨st.h,st.z,st.n,st.i⟩
  by_cases hlt:i<ds.length
  ·have hd:ds[i]?=some ds[i]:=by simp[hlt]
   obtain⟨go,yl⟩:=stop.1 i _ hd;refine .inr ⟨go,by rw[rys.1];omega,fun ys' σ2 H2=>∃H02 gs rs,EnvR K C H1' H02 H2 σ2 (Vq imp E)/\Step H1' H1 H1' H02 H2/\RDL K C H02 ys' gs/\Ua p c a (Vq imp E) (ds.drop (i+1))=some rs/\es=gs++rs/\gs.length<=i+1,
    fun ys' σ2 H2 h=>⟨ds.length-(i+1),by omega,rfl,hlt,h⟩,fun x H2 y=>?_⟩
   obtain⟨H02,st2,rx⟩:=yl x H2 y;rw[KM hlt,Ua] at er;obtain⟨E2,b1,er⟩:=bind_some er;obtain⟨k,b2,er⟩:=bind_some er;refine hg H1' H02 H2 σ' (Vq imp E) E2 x _ _ (I'.step st2) rx b1 fun σ2 I2=>?_
   have back:∀{H03 H3:Hp},EnvR K C H1' H03 H3 σ2 E2->EnvR K C H1' H03 H3 σ2 (Vq imp E):=fun {H03 H3} J=>by
    obtain⟨k1,k2⟩:=Pt.keep b1;refine J.sub k1.symm fun j s ej=>?_
    by_cases hj:j∈p.slots
    ·have:=GF.mp hp j hj
     have ej':=ej;unfold Vq at ej';rw[Qn] at ej'
     cases hm:imp[j]? with
     | none=>rw[hm] at this;cases this
     | some o =>
      rw[hm] at this ej'
      cases o with
      | none=>cases ej';exact .inl rfl
      | some _=>cases this
    ·exact .inr (by rw[k2 j hj];exact ej)
   refine hc H1' H02 H2 σ2 E2 k _ I2 b2 fun H03 H3 st3=>?_
   have st13:Step H1' H1 H1' H03 H3:=(st.trans st2).trans st3
   cases k with
   | false=>rw[if_neg (by simp)];rw[if_neg (by simp)] at er;exact⟨H03,gs,rs,back (I2.step st3),st13,rys.mono (st2.z.trans st3.z),er,ees,by omega⟩
   | true =>
    rw[if_pos rfl];rw[if_pos rfl] at er;obtain⟨s,b3,er⟩:=bind_some er;obtain⟨y',b4,er⟩:=bind_some er;obtain⟨ws,b5,er⟩:=bind_some er;cases er;refine ha H1' H03 H3 σ2 E2 s _ (I2.step st3) b3 fun v H04 H4 st4 r4=>?_
    have f:=JO (Hs:=H3) st4.i
    have st5:Step H3 H03 H3 (Yo H3 H04 H4) H4:=st4.comp f fun _ z=>z
    exact⟨_,gs++[y'],ws,back ((I2.step st3).step st5),st13.trans st5,(rys.mono ((st2.z.trans st3.z).trans st5.z)).snoc (RR.frz st4.i r4 b4),b5,by rw[ees,Gf];rfl,by rw[QC];simp;exact hgl⟩
  ·have e3:i=ds.length:=by omega
   subst e3;refine .inl ⟨stop.2,by rw[rys.1];omega,fun p hp=>?_⟩;rw[List.drop_length,Ua] at er;cases er;rw[Gh] at ees;subst ees;exact Vz (Hs:=H) st.i (s1.h.trans st.h) hp rys fun v H2 H2' s2 r2=>q v H2 H2' ((s1.trans st).comp s2 fun _ z=>z) r2
 ·cases e
end
end LE

namespace LE
open PySem L2 LR

inductive Out where
 | nx (E:En)|rt (r:Sl)|bk (E:En)|ct (E:En)
noncomputable abbrev Es:=En->Option Out
section
variable(K:Frag)(C:Addr)
noncomputable def Fin(B H0:Hp)(D:Ends):Out->Prop
 | .nx E=>∀σ' H0' H',SStep B H0 H0' H'->EnvR K C B H0' H' σ' E->D.nx σ' H'
 | .bk E=>∀σ' H0' H',SStep B H0 H0' H'->EnvR K C B H0' H' σ' E->D.bk σ' H'
 | .ct E=>∀σ' H0' H',SStep B H0 H0' H'->EnvR K C B H0' H' σ' E->D.ct σ' H'
 | .rt r=>∀v H0' H',SStep B H0 H0' H'->RR K C B H0' H' v r->D.rt v H'
noncomputable def SS(ts:TS)(ev:Es):Prop:=∀(B H0 H:Hp) (σ:St) (E:En) (o:Out) (D:Ends),EnvR K C B H0 H σ E->ev E=some o->Fin K C B H0 D o->ts D σ H
end
noncomputable def Yt:Es:=fun E=>some (.nx E)
noncomputable def JaT(b:Es):Out->Option Out
 | .nx E=>b E
 | .rt r=>some (.rt r)
 | .bk E=>some (.bk E)
 | .ct E=>some (.ct E)
noncomputable def Jo(a b:Es):Es:=fun E=>(a E).bind (JaT b)
noncomputable def xIf(c:En->Option Bool)(a b:Es):Es:=fun E=>(c E).bind fun k=>if k=true then a E else b E
noncomputable def keep?:Sl->Option Sl
 | .sh d=>some (.sh d)
 | .own ds=>some (.own ds)
 | .od ks ds=>some (.od ks ds)
 | .ot ks ds=>some (.ot ks ds)
 | _=>none
noncomputable def Zk(i:Nat)(a:Ev):Es:=fun E=>(a E).bind fun s=>(keep? s).bind fun s=>if i<E.length then some (.nx (E.set i s)) else none
noncomputable def Jm(i:Nat)(a:Ev):Es:=fun E=>(a E).bind fun s=>s.frz.bind fun d=>if i<E.length then some (.nx (E.set i (.sh d))) else none
noncomputable def Jm2(p:Pt)(a:Ev):Es:=fun E=>(a E).bind fun s=>s.frz.bind fun d=>(p.bind d E).map .nx
noncomputable def JhI(a:Ev):Es:=fun E=>(a E).map fun _=>.nx E
noncomputable def YG(a:Ev):Es:=fun E=>(a E).bind fun s=>(keep? s).map .rt
noncomputable def Ui(i:Nat):Es:=fun E=>match E[i]? with
 | some (.sh d)=>some (.rt (.sh d))
 | some (.own ds)=>some (.rt (.own ds))
 | some (.od ks ds)=>some (.rt (.od ks ds))
 | _=>none
noncomputable def JhJ:Es:=fun _=>none
noncomputable def Ja0(i:Nat)(a:Ev):Es:=fun E=>match E[i]? with
 | some (.own ds)=>(a E).bind fun s=>s.frz.bind fun d=>if ds.length<sizeLine then some (.nx (E.set i (.own (ds++[d])))) else none
 | _=>none
noncomputable def Jc9(i:Nat)(a:Ev):Es:=fun E=>match E[i]? with
 | some (.own ds)=>(a E).bind fun s=>s.m.bind fun es=>if ds.length+es.length<=sizeLine then some (.nx (E.set i (.own (ds++es)))) else none
 | _=>none
noncomputable def JjQ(i j:Nat)(f:Sl->Option Sl):Es:=fun E=>match E[i]? with
 | some (.own ds)=>(ds[ds.length-1]?).bind fun d=>(f (.sh d)).bind fun s=>(sh? s).bind fun d'=>if j<E.length then some (.nx ((E.set i (.own ds.dropLast)).set j (.sh d'))) else none
 | _=>none
noncomputable def Jc8(f:Int->Int->Int)(i:Nat)(a:Ev):Es:=fun E=>match E[i]? with
 | some (.sh (.int x))=>(a E).bind fun s=>match s with
  | .sh (.int y)=>some (.nx (E.set i (.sh (.int (f x y)))))
  | _=>none
 | _=>none
noncomputable def JkU(i:Nat)(E:En):En:=match E[i]? with
 | some (.own ds)=>E.set i (.sh (.lst ds))
 | some (.od ks ds)=>E.set i (.sh (.dct ks ds))
 | _=>E
noncomputable def Uh(p:Pt)(b:Es):List D->Es
 | [],E=>some (.nx E)
 | d::ds,E=>(p.bind d E).bind fun E1=>(b E1).bind fun o=>match o with
  | .nx E2=>Uh p b ds E2
  | .ct E2=>Uh p b ds E2
  | .bk E2=>some (.nx E2)
  | .rt r=>some (.rt r)
noncomputable def Vc(it:En->Option (List D))(p:Pt)(b:Es):Es:=fun E=>(it E).bind fun ds=>Uh p b ds E
noncomputable def Yv(c:En->Option Bool)(b:Es):Nat->Es
 | 0,_=>none
 | n+1,E=>(c E).bind fun k=>if k=true then(b E).bind fun o=>match o with
  | .nx E2=>Yv c b n E2
  | .ct E2=>Yv c b n E2
  | .bk E2=>some (.nx E2)
  | .rt r=>some (.rt r)
  else some (.nx E)
section
variable{K:Frag}{C:Addr}{B H0 H H0' H':Hp}{σ:St}{E:En}{D:Ends}{o:Out}{te:TE}{ea:Ev}{t u:TS}{et eu:Es}
theorem Fin.step(st:SStep B H0 H0' H')(f:Fin K C B H0 D o):Fin K C B H0' D o:=by
 cases o with
 | nx E=>exact fun σ' H1 H1' s1 I=>f σ' H1 H1' (st.trans s1) I
 | bk E=>exact fun σ' H1 H1' s1 I=>f σ' H1 H1' (st.trans s1) I
 | ct E=>exact fun σ' H1 H1' s1 I=>f σ' H1 H1' (st.trans s1) I
 | rt r=>exact fun v H1 H1' s1 I=>f v H1 H1' (st.trans s1) I
theorem EnvR.ss(I:EnvR K C B H0 H σ E):SStep B H0 H0 H:=.refl I.b I.h
theorem Jm7:SS K C JhA Yt:=fun _ _ _ _ _ _ _ I e f=>by cases e;exact f _ _ _ I.ss I
theorem JjR:SS K C Jhz JhJ:=fun _ _ _ _ _ _ _ _ e _=>by cases e
theorem JoE(ht:SS K C t et)(hu:SS K C u eu):SS K C (JmQ t u) (Jo et eu):=by
 intro B H0 H σ E o D I e f;obtain⟨o1,e1,e⟩:=bind_some e;refine ht B H0 H σ E o1 _ I e1 ?_
 cases o1 with
 | nx E1=>exact fun σ1 H1 H1' s1 I1=>hu B H1 H1' σ1 E1 o D I1 e (f.step s1)
 | bk E1=>cases e;exact f
 | ct E1=>cases e;exact f
 | rt r=>cases e;exact f
theorem Jpe{c:TT}{ec:En->Option Bool}(hc:ST K C c ec)(ht:SS K C t et)(hu:SS K C u eu):SS K C (JjH c t u) (xIf ec et eu):=by
 intro B H0 H σ E o D I e f;obtain⟨k,e1,e⟩:=bind_some e;refine hc B H0 H σ E k _ I e1 fun H1 H1' s1=>?_
 cases k with
 | true=>rw[if_pos rfl];exact ht B H1 H1' σ E o D (I.step s1) e (f.step (s1.ss I.b))
 | false=>rw[if_neg (by simp)];exact hu B H1 H1' σ E o D (I.step s1) e (f.step (s1.ss I.b))
theorem ZQ{s r:Sl}(e:keep? s=some r):s=r/\Jk3 r=false:=by cases s <;> cases e <;> exact⟨rfl,rfl⟩
theorem JoF{i:Nat}(ha:SE K C te ea):SS K C (Jb4 te (Vm i)) (Zk i ea):=by
 intro B H0 H σ E o D I e f;obtain⟨s,e1,e⟩:=bind_some e;obtain⟨s',e2,e⟩:=bind_some e;obtain⟨rfl,hb⟩:=ZQ e2;split at e
 ·cases e;exact ha B H0 H σ E _ _ I e1 fun v H1 H1' s1 r1=>f _ _ _ (s1.ss I.b) (I.put' s1 (by assumption) r1 hb)
 ·cases e
theorem Jm9{i:Nat}(ha:SE K C te ea):SS K C (Jb4 te (Vm i)) (Jm i ea):=by
 intro B H0 H σ E o D I e f;obtain⟨s,e1,e⟩:=bind_some e;obtain⟨d,e2,e⟩:=bind_some e;split at e
 ·cases e;refine ha B H0 H σ E _ _ I e1 fun v H1 H1' s1 r1=>?_
  have s2:Step H H0 H (Yo H H1 H1') H1':=s1.comp (JO s1.i) fun _ z=>z
  exact f _ _ _ (s2.ss I.b) ((I.step s2).setSh (by assumption) (RR.frz s1.i r1 e2))
 ·cases e
theorem Joy{g:TG}{p:Pt}(ha:SE K C te ea)(hg:SG K C g p):SS K C (Jb4 te g) (Jm2 p ea):=by
 intro B H0 H σ E o D I e f;obtain⟨s,e1,e⟩:=bind_some e;obtain⟨d,e2,e⟩:=bind_some e;obtain⟨E',e3,rfl⟩:=map_some e;refine ha B H0 H σ E _ _ I e1 fun v H1 H1' s1 r1=>?_
 have s2:Step H H0 H (Yo H H1 H1') H1':=s1.comp (JO s1.i) fun _ z=>z
 exact hg B _ H1' σ E E' v d _ (I.step s2) (RR.frz s1.i r1 e2) e3 fun σ' I'=>f _ _ _ (s2.ss I.b) I'
theorem Jm4(ha:SE K C te ea):SS K C (Jb5 te) (JhI ea):=by intro B H0 H σ E o D I e f;obtain⟨s,e1,rfl⟩:=map_some e;exact ha B H0 H σ E _ _ I e1 fun v H1 H1' s1 r1=>f _ _ _ (s1.ss I.b) (I.step s1)
theorem JoD(ha:SE K C te ea):SS K C (JjI te) (YG ea):=by intro B H0 H σ E o D I e f;obtain⟨s,e1,e⟩:=bind_some e;obtain⟨s',e2,rfl⟩:=map_some e;obtain⟨rfl,hb⟩:=ZQ e2;exact ha B H0 H σ E _ _ I e1 fun v H1 H1' s1 r1=>f _ _ _ (s1.ss I.b) (r1.weak fun a z=>Same.free I.b z)
theorem Jm8{i:Nat}:SS K C (JjI (Ze i)) (Ui i):=by
 intro B H0 H σ E o D I e f;unfold Ui at e;split at e
 ·next d h =>
  cases e;rcases I.at' i _ h with z|⟨v,h1,h2⟩
  ·cases z
  ·exact⟨v,h1,f _ _ _ I.ss h2⟩
 ·next d h =>
  cases e;rcases I.at' i _ h with z|⟨v,h1,h2⟩
  ·cases z
  ·exact⟨v,h1,f _ _ _ I.ss h2⟩
 ·next d h =>
  cases e;rcases I.at' i _ h with z|⟨v,h1,h2⟩
  ·cases z
  ·exact⟨v,h1,f _ _ _ I.ss h2⟩
 ·cases e
theorem EnvR.mutG{i:Nat}{l:Addr}{t t':Sl}{o':HO}(I:EnvR K C B H0 H σ E)(e1:E[i]?=some t)(ho:J0 t=true)(ho':J0 t'=true)(e2:σ[i]?=some (some (.ref l)))(r:RSl K C B H0 (upd H l o') (.ref l) t') :
 EnvR K C B H0 (upd H l o') σ (E.set i t'):=by
 obtain⟨h1,h2,h3⟩:=I.ownG e1 ho e2;have hi:i<E.length:=(Qh.mp e1).1;have nb:∀{A:Hp},A l=none->Same A H->Same A (upd H l o'):=fun {A} n s a o e=>by rw[Jh (Ju e n)];exact s a o e
 refine⟨nb h3 I.b,nb h2 I.h,by simp[I.len],fun j s e=>?_,fun j k s1 s2 v hjk a1 a2 p1 p2 a3=>?_⟩
 ·rw[QT] at e
  by_cases hj:i=j
  ·subst hj;rw[if_pos rfl,if_pos hi] at e;cases e;exact .inr ⟨_,e2,r⟩
  ·rw[if_neg hj] at e;rcases I.at' j s e with z|⟨v,q1,q2⟩
   ·exact .inl z
   ·refine .inr ⟨v,q1,?_⟩
    cases s with
    | no=>trivial
    | sh d=>exact q2
    | bo es=>exact q2
    | bd ks es=>exact q2
    | bt ks es=>exact q2
    | own es =>
     obtain⟨l',ys,p1,p2,p3,p4,p5⟩:=q2;subst p1;have:l'≠l:=fun z=>by subst z;exact I.sep i j t _ (.ref l') hj e1 e ho rfl e2 q1
     exact⟨l',ys,rfl,by rw[Jh this];exact p2,p3,p4,p5⟩
    | od ks es =>
     obtain⟨l',ys,p1,p2,p3,p4,p5⟩:=q2;subst p1;have:l'≠l:=fun z=>by subst z;exact I.sep i j t _ (.ref l') hj e1 e ho rfl e2 q1
     exact⟨l',ys,rfl,by rw[Jh this];exact p2,p3,p4,p5⟩
    | ot ks es =>
     obtain⟨l',ys,p1,p2,p3,p4,p5⟩:=q2;subst p1;have:l'≠l:=fun z=>by subst z;exact I.sep i j t _ (.ref l') hj e1 e ho rfl e2 q1
     exact⟨l',ys,rfl,by rw[Jh this];exact p2,p3,p4,p5⟩
 ·have own:∀{j:Nat} {u:Sl},(E.set i t')[j]?=some u->J0 u=true->∃g,E[j]?=some g/\J0 g=true:=fun {j u} a w=>by
   rw[QT] at a
   by_cases hj:i=j
   ·subst hj;exact⟨t,e1,ho⟩
   ·rw[if_neg hj] at a;exact⟨_,a,w⟩
  obtain⟨g1,b1,c1⟩:=own a1 p1;obtain⟨g2,b2,c2⟩:=own a2 p2;exact I.sep j k g1 g2 v hjk b1 b2 c1 c2 a3
theorem EnvR.mut{i:Nat}{l:Addr}{ds ds':List LE.D}{xs xs':List V}(I:EnvR K C B H0 H σ E)(e1:E[i]?=some (.own ds))(e2:σ[i]?=some (some (.ref l)))(r:RDL K C H0 xs' ds') :
 EnvR K C B H0 (upd H l (.lst xs')) σ (E.set i (.own ds')):=by
 obtain⟨_,h2,h3⟩:=I.ownG e1 rfl e2;exact I.mutG (t':=.own ds') e1 rfl rfl e2 ⟨l,xs',rfl,Jq,h2,h3,r⟩
theorem EnvR.slot{i:Nat}{ds:List LE.D}(I:EnvR K C B H0 H σ E)(e1:E[i]?=some (.own ds)):∃l xs,σ[i]?=some (some (.ref l))/\H l=some (.lst xs)/\H0 l=none/\B l=none/\RDL K C H0 xs ds:=by
 rcases I.at' i _ e1 with z|⟨v,h1,l,xs,rfl,h2,h3,h4,h5⟩
 ·cases z
 ·exact⟨l,xs,h1,h2,h3,h4,h5⟩
theorem Jox{i:Nat}(ha:SE K C te ea):SS K C (Jb5 (tBM K "list" Jd1 (Ze i) (VE te Jb6))) (Ja0 i ea):=by
 intro B H0 H σ E o D I e f;unfold Ja0 at e;split at e
 ·next ds h =>
  obtain⟨s,e1,e⟩:=bind_some e;obtain⟨d,e2,e⟩:=bind_some e;split at e
  ·next hz =>
   cases e;obtain⟨l,xs,g1,g2,g3,g4,g5⟩:=I.slot h;refine⟨_,g1,.inl ⟨rfl,_,.of g2⟩,?_⟩;refine ha B H0 H σ E _ _ I e1 fun v H1 H1' s1 r1=>?_
   have s2:Step H H0 H (Yo H H1 H1') H1':=s1.comp (JO s1.i) fun _ z=>z
   have I2:=I.step s2
   have m:=I2.mut (xs:=xs) h g1 ((g5.mono s2.z).snoc (RR.frz s1.i r1 e2));exact⟨l,xs,v,rfl,rfl,s2.h _ _ g2,by rw[g5.1];exact hz,f _ _ _ ⟨m.b,s2.z,(s2.ss I.b).n,m.h⟩ m⟩
  ·cases e
 ·cases e
theorem JoA{i:Nat}(ha:SE K C te ea):SS K C (Jb5 (tBM K "list" Jd2 (Ze i) (VE te Jb6))) (Jc9 i ea):=by
 intro B H0 H σ E o D I e f;unfold Jc9 at e;split at e
 ·next ds h =>
  obtain⟨s,e1,e⟩:=bind_some e;obtain⟨es,e2,e⟩:=bind_some e;split at e
  ·next hz =>
   cases e;obtain⟨l,xs,g1,g2,g3,g4,g5⟩:=I.slot h;refine⟨_,g1,.inl ⟨rfl,_,.of g2⟩,?_⟩;refine ha B H0 H σ E _ _ I e1 fun v H1 H1' s1 r1=>?_
   have I2:=I.step s1;obtain⟨l',ys,rfl,k1,k2⟩:=r1.m s1.i e2
   have m:=I2.mut (xs:=xs) h g1 ((g5.mono s1.z).append k2);exact⟨l,l',xs,ys,rfl,rfl,s1.h _ _ g2,k1,by rw[g5.1,k2.1];exact hz,f _ _ _ ⟨m.b,s1.z,(s1.ss I.b).n,m.h⟩ m⟩
  ·cases e
 ·cases e
theorem JoC{i j:Nat}:SS K C (Jb4 (JmM K "list" Jn2 (Ze i)) (Vm j)) (JjQ i j some):=by
 intro B H0 H σ E o D I e f;unfold JjQ at e;split at e
 ·next ds h =>
  obtain⟨d,e1,e⟩:=bind_some e;obtain⟨s,e2,e⟩:=bind_some e;cases e2;obtain⟨d',e3,e⟩:=bind_some e;cases e3;split at e
  ·next hj =>
   cases e;obtain⟨l,xs,g1,g2,g3,g4,g5⟩:=I.slot h;rw[<- g5.1] at e1;obtain⟨y,e4,r4⟩:=g5.get e1;have hd:RDL K C H0 xs.dropLast ds.dropLast:=by rw[Mv,Mv,g5.1];exact g5.take _
   have m:=I.mut (xs:=xs) h g1 hd;refine⟨_,g1,.inl ⟨rfl,_,.of g2⟩,l,xs,y,rfl,rfl,g2,e4,?_⟩;exact f _ _ _ ⟨m.b,Same.refl _,fun _ _ e=>.inl e,m.h⟩ (m.setSh (by simpa using hj) r4)
  ·cases e
 ·cases e
theorem Joz{i:Nat}{g:Int->Int->Int}(ha:SE K C te ea):SS K C (Jot i te (ipI g)) (Jc8 g i ea):=by
 intro B H0 H σ E o D I e f;unfold Jc8 at e;split at e
 ·next x h =>
  obtain⟨s,e1,e⟩:=bind_some e;split at e
  ·cases e;rcases I.at' i _ h with z|⟨v,h1,h2⟩
   ·cases z
   ·have hi:i<E.length:=(Qh.mp h).1;refine⟨v,h1,ha B H0 H σ E _ _ I e1 fun w H1 H1' s1 r1=>⟨_,_,RD.intI h2,RD.intI r1,f _ _ _ (s1.ss I.b) ((I.step s1).setSh hi (.int _))⟩⟩
  ·cases e
 ·cases e
theorem EnvR.slotD{i:Nat}{ks:List Int}{ds:List LE.D}(I:EnvR K C B H0 H σ E)(e1:E[i]?=some (.od ks ds)):∃l xs,σ[i]?=some (some (.ref l))/\H l=some (dkO ks xs)/\H0 l=none/\B l=none/\ks.length=ds.length/\RDL K C H0 xs ds:=by
 rcases I.at' i _ e1 with z|⟨v,h1,l,xs,rfl,h2,h3,h4,h5⟩
 ·cases z
 ·exact⟨l,xs,h1,h2,h3,h4,h5⟩
theorem EnvR.frzG(I:EnvR K C B H0 H σ E){i:Nat}{t:Sl}{l:Addr}{o:HO}{d:LE.D}(h:E[i]?=some t)(ho:J0 t=true)(g1:σ[i]?=some (some (.ref l)))(g2:H l=some o)(g5:∀H1,Same H0 H1->H1 l=some o->RD K C H1 (.ref l) d):∃H0',SStep B H0 H0' H/\EnvR K C B H0' H σ (E.set i (.sh d)):=by
 obtain⟨_,g3,g4⟩:=I.ownG h ho g1;have hi:i<E.length:=(Qh.mp h).1;have s0:Same H0 (upd H0 l o):=.new g3
 have s1:Same (upd H0 l o) H:=fun a o e=>by
  by_cases ha:a=l
  ·subst ha;rw[Jq] at e;cases e;exact g2
  ·rw[Jh ha] at e;exact I.h a o e
 refine⟨upd H0 l o,⟨I.b,s0,fun a o e=>?_,s1⟩,I.b,s1,by simp[I.len],fun j s e=>?_,fun j k u1 u2 v hjk a1 a2 w1 w2 a3=>?_⟩
 ·by_cases ha:a=l
  ·subst ha;exact .inr (.inl g4)
  ·rw[Jh ha] at e;exact .inl e
 ·rw[QT] at e
  by_cases hj:i=j
  ·subst hj;rw[if_pos rfl,if_pos hi] at e;cases e;exact .inr ⟨_,g1,g5 _ s0 Jq⟩
  ·rw[if_neg hj] at e;rcases I.at' j s e with z|⟨v,q1,q2⟩
   ·exact .inl z
   ·refine .inr ⟨v,q1,?_⟩
    cases s with
    | no=>trivial
    | sh d=>exact RD.mono s0 q2
    | bo es=>obtain⟨l',ys,p1,p2,p3⟩:=q2;exact⟨l',ys,p1,p2,p3.mono s0⟩
    | bd ks es=>obtain⟨l',ys,p1,p2,hk,p3⟩:=q2;exact⟨l',ys,p1,p2,hk,p3.mono s0⟩
    | bt ks es=>obtain⟨l',ys,p1,p2,hk,p3⟩:=q2;exact⟨l',ys,p1,p2,hk,p3.mono s0⟩
    | own es =>
     obtain⟨l',ys,p1,p2,p3,p4,p5⟩:=q2;subst p1;have:l'≠l:=fun z=>by subst z;exact I.sep i j t _ (.ref l') hj h e ho rfl g1 q1
     exact⟨l',ys,rfl,p2,by rw[Jh this];exact p3,p4,p5.mono s0⟩
    | od ks es =>
     obtain⟨l',ys,p1,p2,p3,p4,hk,p5⟩:=q2;subst p1;have:l'≠l:=fun z=>by subst z;exact I.sep i j t _ (.ref l') hj h e ho rfl g1 q1
     exact⟨l',ys,rfl,p2,by rw[Jh this];exact p3,p4,hk,p5.mono s0⟩
    | ot ks es =>
     obtain⟨l',ys,p1,p2,p3,p4,hk,p5⟩:=q2;subst p1;have:l'≠l:=fun z=>by subst z;exact I.sep i j t _ (.ref l') hj h e ho rfl g1 q1
     exact⟨l',ys,rfl,p2,by rw[Jh this];exact p3,p4,hk,p5.mono s0⟩
 ·have own:∀{j:Nat} {u:Sl},(E.set i (.sh d))[j]?=some u->J0 u=true->E[j]?=some u:=fun {j u} a w=>by
   rw[QT] at a
   by_cases hj:i=j
   ·subst hj;rw[if_pos rfl,if_pos hi] at a;cases a;cases w
   ·rw[if_neg hj] at a;exact a
  exact I.sep j k u1 u2 v hjk (own a1 w1) (own a2 w2) w1 w2 a3
theorem EnvR.frz(I:EnvR K C B H0 H σ E)(i:Nat):∃H0',SStep B H0 H0' H/\EnvR K C B H0' H σ (JkU i E):=by
 unfold JkU;split
 ·next ds h=>obtain⟨l,xs,g1,g2,g3,g4,g5⟩:=I.slot h;exact I.frzG h rfl g1 g2 fun H1 s0 hl=>.mkL hl (g5.mono s0)
 ·next ks ds h=>obtain⟨l,xs,g1,g2,g3,g4,hk,g5⟩:=I.slotD h;exact I.frzG h rfl g1 g2 fun H1 s0 hl=>.mkD hl hk (g5.mono s0)
 ·exact⟨H0,I.ss,I⟩
theorem JoB{wi:TI}{g:TG}{it:En->Option (List LE.D)}{p:Pt}(hi:SI K C false wi it)(hg:SG K C g p)(ht:SS K C t et):SS K C (JmN wi g t) (Vc it p et):=by
 intro B H0 H σ E o D I e f;obtain⟨ds,e1,e⟩:=bind_some e;refine hi B H0 H σ E ds _ I e1 fun J H1 H1' s1 ok=>?_
 rw[if_neg (by simp)] at ok;refine⟨fun i m σ' H'=>m=ds.length-i/\i<=ds.length/\∃H0' E',EnvR K C B H0' H' σ' E'/\SStep B H1 H0' H'/\Uh p et (ds.drop i) E'=some o,
  ⟨ds.length,by simp,G1 _,H1,E,I.step s1,.refl (I.b.trans s1.h) s1.i,e⟩,?_⟩
 rintro i m σ' H' ⟨rfl,hi',H0',E',I',st,er⟩;have stop:=ok H0' H' st;have f':Fin K C B H0' D o:=(f.step (s1.ss I.b)).step st
 by_cases hlt:i<ds.length
 ·have hd:ds[i]?=some ds[i]:=by simp[hlt]
  obtain⟨go,yl⟩:=stop.1 i _ hd;refine .inr ⟨go,fun σ2 H2=>∃H02 E2,EnvR K C B H02 H2 σ2 E2/\SStep B H1 H02 H2/\Uh p et (ds.drop (i+1)) E2=some o,fun σ2 H2 h=>⟨ds.length-(i+1),by omega,rfl,hlt,h⟩,fun x H2 y=>?_⟩;obtain⟨H02,st2,rx⟩:=yl x H2 y;rw[KM hlt,Uh] at er;obtain⟨E1,b1,er⟩:=bind_some er;obtain⟨o1,b2,er⟩:=bind_some er;have ss2:SStep B H0' H02 H2:=st2.ss I'.b;refine hg B H02 H2 σ' E' E1 x _ _ (I'.step st2) rx b1 fun σ2 I2=>?_
  refine ht B H02 H2 σ2 E1 o1 _ I2 b2 ?_
  cases o1 with
  | nx E2=>exact fun σ3 H3 H3' s3 I3=>⟨H3,E2,I3,(st.trans ss2).trans s3,er⟩
  | ct E2=>exact fun σ3 H3 H3' s3 I3=>⟨H3,E2,I3,(st.trans ss2).trans s3,er⟩
  | bk E2=>cases er;exact f'.step ss2
  | rt r=>cases er;exact f'.step ss2
 ·have e3:i=ds.length:=by omega
  subst e3;rw[List.drop_length,Uh] at er;cases er;exact .inl ⟨stop.2,f' _ _ _ I'.ss I'⟩
theorem JjS{c:TT}{ec:En->Option Bool}{n:Nat}(hc:ST K C c ec)(ht:SS K C t et):SS K C (JhB c t) (Yv ec et n):=by
 intro B H0 H σ E o D I e f;refine⟨fun m σ' H'=>∃H0' E',EnvR K C B H0' H' σ' E'/\SStep B H0 H0' H'/\Yv ec et m E'=some o,⟨n,H0,E,I,I.ss,e⟩,?_⟩;rintro m σ' H' ⟨H0',E',I',st,er⟩
 cases m with
 | zero=>cases er
 | succ m =>
  rw[Yv] at er;obtain⟨k,b1,er⟩:=bind_some er;refine hc B H0' H' σ' E' k _ I' b1 fun H1 H1' s1=>?_
  have f':Fin K C B H1 D o:=(f.step st).step (s1.ss I'.b)
  cases k with
  | false=>rw[if_neg (by simp)] at er ⊢;cases er;exact f' _ _ _ (I'.step s1).ss (I'.step s1)
  | true =>
   rw[if_pos rfl] at er ⊢;obtain⟨o1,b2,er⟩:=bind_some er;refine⟨fun σ2 H2=>∃H02 E2,EnvR K C B H02 H2 σ2 E2/\SStep B H0 H02 H2/\Yv ec et m E2=some o,fun σ2 H2 h=>⟨m,GO _,h⟩,?_⟩;have st1:=st.trans (s1.ss I'.b);refine ht B H1 H1' σ' E' o1 _ (I'.step s1) b2 ?_
   cases o1 with
   | nx E2=>exact fun σ3 H3 H3' s3 I3=>⟨H3,E2,I3,st1.trans s3,er⟩
   | ct E2=>exact fun σ3 H3 H3' s3 I3=>⟨H3,E2,I3,st1.trans s3,er⟩
   | bk E2=>cases er;exact f'
   | rt r=>cases er;exact f'
end

noncomputable def Jcp:Out->Option Sl
 | .nx _=>some (.sh .non)
 | .rt r=>some r
 | .bk _=>none
 | .ct _=>none
noncomputable def YI(N:Nat)(b:Es):List Sl->Option Sl:=fun as=>(b (as++QA (N-as.length) .no)).bind Jcp
section
variable{K:Frag}{C:Addr}
theorem RRL.get{Hs H0 H:Hp}:∀{vs:List V} {ss:List Sl} {i:Nat} {s:Sl},RRL K C Hs H0 H vs ss->ss[i]?=some s->∃v,vs[i]?=some v/\RR K C Hs H0 H v s
 | _,_,_,_,.nil,e=>by simp at e
 | _,_,0,_,.cons h _,e=>by simp at e;subst e;exact⟨_,rfl,h⟩
 | _,_,i+1,s,.cons _ t,e=>by obtain⟨v,h1,h2⟩:=RRL.get (i:=i) (s:=s) t (by simpa using e);exact⟨v,by simpa using h1,h2⟩
theorem JF{N:List Str}{n:Nat}{b:Es}{ts:TS}{vs:List V}{H:Hp}{Q:VK}{E:XK}(hb:SS K C ts b)(h:spE K C n (YI N.length b) vs H Q E):ts { nx:=fun _ H'=>Q .non H',rt:=Q } (L2.UE N vs) H:=by
 obtain⟨H0,as,r,i,ra,ho,hl,e,q⟩:=h;have lens:=ra.len
 have noOwn:∀(j:Nat) (s:Sl),as[j]?=some s->J0 s=false:=fun j s e=>by
  have:=GF.mp ho s (Q6 e)
  simpa using this
 have get:∀(j:Nat) (s:Sl),(as++QA (N.length-as.length) Sl.no)[j]?=some s->s=.no\/as[j]?=some s:=fun j s e=>by
  by_cases hj:j<as.length
  ·rw[QJ hj] at e;exact .inr e
  ·rw[QR (by omega),L6] at e;split at e
   ·cases e;exact .inl rfl
   ·cases e
 have I:EnvR K C H H0 H (L2.UE N vs) (as++QA (N.length-as.length) .no):=by
  refine⟨Same.refl _,i,by simp[L2.UE,lens],fun j s e=>?_,fun j k s1 s2 v hjk e1 e2 w1 w2=>?_⟩
  ·rcases get j s e with z|z
   ·exact .inl z
   ·obtain⟨v,h1,h2⟩:=ra.get z;refine .inr ⟨v,?_,?_⟩
    ·unfold L2.UE;rw[QJ (by have:=(Qh.mp h1).1;simpa using this),Qn,h1];rfl
    ·cases s with
     | no=>trivial
     | sh d=>exact h2
     | bo ds=>exact h2
     | own ds=>exact absurd (noOwn j _ z) (by simp[J0])
     | bd ks ds=>exact h2
     | bt ks ds=>exact h2
     | od ks ds=>exact absurd (noOwn j _ z) (by simp[J0])
     | ot ks ds=>exact absurd (noOwn j _ z) (by simp[J0])
  ·rcases get j _ e1 with z|z
   ·subst z;cases w1
   ·rw[noOwn j _ z] at w1;cases w1
 obtain⟨o,e1,e⟩:=bind_some e;refine hb H H0 H _ _ o _ I e1 ?_
 cases o with
 | nx E1=>cases e;exact fun σ' H1 H1' s1 I1=>q _ H1 H1' ⟨s1.b,s1.z,s1.n,s1.i⟩ RD.non
 | rt r'=>cases e;exact fun v H1 H1' s1 r1=>q v H1 H1' ⟨s1.b,s1.z,s1.n,s1.i⟩ r1
 | bk _=>cases e
 | ct _=>cases e
theorem JiE{P:Program}{w:World}{mg:Str->Option Value}{base:Heap}{k:Nat}{f:Addr}{fd:FuncData}{ps:List Str}{ev:List Sl->Option Sl}(F:FnOk P w K mg base CX0 k f fd ps (spE K C 1 ev))
 (h:∀ns:List Int,ns.length<=63->ev [.sh (.fz (ns.map .int))]=some (.sh (.bl true))):FnOk P w K mg base CX0 k f fd ps (Jd6 K) :=
 F.imp fun vs H Q E ⟨a,ns,e,hS,hl,q⟩=>by subst e;exact⟨H,[.sh (.fz (ns.map .int))],_,Same.refl _,.cons (show RD K C H _ _ from RD.mkF hS (RDL.ofInts ns)) .nil,rfl,rfl,h ns hl,fun v H0' H' _ r=>by rw[RD.blI r];exact q H'⟩
structure RowK (K:Frag) (C:Addr):Prop where
 t:RowC K C
 k1:findIn K (.ref C) "__class__"=some (some (.builtin "object.__class__"))
 k2:specialIn K (.builtin "object.__class__") "__get__"=some (some (.builtin "getset_descriptor.__get__"))
 k3:takesIn K (.builtin "object.__class__")=some true
 k4:mroIn K C (.type "object")=some true
end
end LE

namespace L2
open PySem PySem.Spec PyProof.Rows
end L2
namespace LE
open PySem L2 LR
noncomputable def JkZ(a:Int):Bool:=Nat.ble a.natAbs 1152921504606846975
theorem in60_ok{a:Int}:JkZ a=true↔-1152921504606846976<a/\a<1152921504606846976:=by unfold JkZ;rw[G9];omega
section
variable{K:Frag}{C:Addr}{m:Bool}
noncomputable def str?:Sl->Option Str
 | .sh (.str z)=>some z
 | _=>none
end
end LE

namespace LE
open PySem L2 LR
noncomputable def okS(P:En->Prop):Option Out->Prop
 | some (.nx E)=>P E
 | some (.ct E)=>P E
 | _=>False
theorem JlC{P:En->Prop}{E:En}:okS P (some (.nx E))=P E:=rfl
theorem JlB{P:En->Prop}{E:En}:okS P (some (.ct E))=P E:=rfl
theorem W1{P:En->Prop}{o:Option Out}(h:okS P o):∃E,(o=some (.nx E)\/o=some (.ct E))/\P E:=by
 unfold okS at h;split at h
 ·exact⟨_,.inl rfl,h⟩
 ·exact⟨_,.inr rfl,h⟩
 ·exact h.elim
theorem Ud{γ α β:Type}{p:Pt}{b:Es}{f:α->D}{k:Out->Option γ}{r:Option γ}(R:List α->β->En->Prop)(g:β->α->β):∀{as:List α} {E:En} (s:β) (h0:R as s E)
 (h:∀a as s E,R (a::as) s E->okS (R as (g s a)) ((p.bind (f a) E).bind b)) (fin:∀E',R [] (as.foldl g s) E'->k (.nx E')=r),(Uh p b (as.map f) E).bind k=r
 | [],E,s,h0,_,fin=>fin E h0
 | a::as,E,s,h0,h,fin=>by
  obtain⟨E2,e2,r2⟩:=W1 (h a as s E h0);have ih:=Ud (k:=k) (r:=r) R g (as:=as) (E:=E2) (g s a) r2 h fin;rw[Qe,Uh]
  cases hp:p.bind (f a) E with
  | none=>rw[hp] at e2;rcases e2 with e2|e2 <;> cases e2
  | some E1=>rw[hp,QB] at e2;rw[QB];rcases e2 with e2|e2 <;> (rw[e2,QB];exact ih)
theorem WX{γ:Type}{p:Pt}{b:Es}{f:Nat->D}{n:Nat}{E:En}{k:Out->Option γ}{r:Option γ}(R:Nat->En->Prop)(h0:R 0 E)
 (h:∀i E,i<n->R i E->okS (R (i+1)) ((p.bind (f i) E).bind b)) (fin:∀E',R n E'->k (.nx E')=r):(Uh p b ((GQ n).map f) E).bind k=r:=by
 refine Ud (fun(as:List Nat) (i:Nat) E=>i+as.length=n/\as=List.range' i as.length/\R i E) (fun i _=>i+1) 0 ⟨by simp,by simp[List.range_eq_range'],h0⟩ (fun a as i E ⟨hk,e,q⟩=>?_) fun E' ⟨hk,_,q⟩=>?_
 ·rw[Qp,List.range'_succ] at e;have e1:a=i:=(List.cons.inj e).1;subst e1;obtain⟨E2,e2,r2⟩:=W1 (h a E (by rw[Qp] at hk;omega) q);have fin2:(a+1)+as.length=n/\as=List.range' (a+1) as.length/\R (a+1) E2:=⟨by rw[Qp] at hk;omega,(List.cons.inj e).2,r2⟩
  rcases e2 with e2|e2 <;> (rw[e2];exact fin2)
 ·have e3:(GQ n).foldl (fun i _=>i+1) 0=n:=by simpa using hk
  rw[e3] at q;exact fin E' q
theorem J2{α:Type}{p:Pt}{a:Ev}{E1:En}{f g:α->D}:∀{xs:List α},(∀x∈xs,((p.bind (f x) E1).bind a).bind Sl.frz=some (g x))->Ua p yes? a E1 (xs.map f)=some (xs.map g)
 | [],_=>rfl
 | x::xs,h=>by have h1:=h x Qd;obtain⟨s,e1,e2⟩:=bind_some h1;obtain⟨E2,e3,e4⟩:=bind_some e1;rw[Qe,Ua,e3];simp only[QB,yes?,if_true,e4,e2];rw[J2 fun y hy=>h y (Qc _ hy)];rfl
theorem Jak{α:Type}{p:Pt}{c:En->Option Bool}{a:Ev}{E1:En}{f g:α->D}{k:α->Bool}:∀{xs:List α},(∀x∈xs,(p.bind (f x) E1).bind c=some (k x)/\(k x=true->((p.bind (f x) E1).bind a).bind Sl.frz=some (g x)))->Ua p c a E1 (xs.map f)=some ((xs.filter k).map g)
 | [],_=>rfl
 | x::xs,h=>by
  obtain⟨h1,h2⟩:=h x Qd;obtain⟨E2,e3,e4⟩:=bind_some h1;have ih:=Jak (xs:=xs) (fun y hy=>h y (Qc _ hy));rw[Qe,Ua,e3];simp only[QB,e4]
  cases hk:k x with
  | false=>rw[if_neg (by simp),ih,GI (by simp[hk])]
  | true=>obtain⟨s,e1,e2⟩:=bind_some (h2 hk);rw[e3,QB] at e1;rw[if_pos rfl,e1];simp only[QB,e2];rw[ih,GJ hk];rfl
theorem Jjp(n:Nat):rng 0 n=(GQ n).map fun i=>.int (i:Int):=by unfold rng;exact QE fun i _=>by rw[KH]
theorem JjE:sizeLine=16777216:=rfl
theorem Jdc{α β:Type}(f:α->β)(xs:List α)(i:Int):atI (xs.map f) i=(atI xs i).map f:=by
 unfold atI;rw[Qq]
 cases ixN xs.length i with
 | none=>rfl
 | some j=>simp
theorem Ja4{α:Type}{xs:List α}{k:Nat}(h:k<xs.length):atI xs (k:Int)=some xs[k]:=by unfold atI ixN;rw[if_pos (by omega),if_pos (by omega)];simp[h]
theorem JfG{ns:List Int}{k:Int}(h0:0<=k)(h:k<(ns.length:Int)):atI ns k=some (cell ns k):=by
 obtain⟨j,rfl⟩:=Int.eq_ofNat_of_zero_le h0;have hj:j<ns.length:=by omega
 rw[Ja4 hj];simp[cell,hj]
structure Kd {α:Type} (f:α->D) (n:Nat):Prop where
 lay:∀a,(f a).py.canLay0=true
 dep:∀a,(f a).py.depth<=n
 eqv:∀a b,Lf (f a).py (f b).py=true↔a=b
theorem Kd.eq{α:Type}[DecidableEq α]{f:α->D}{n:Nat}(k:Kd f n)(h:n<=60)(a b:α):eqD (f a) (f b)=some (decide (a=b)):=by unfold eqD;have:=k.dep a;rw[k.lay a,k.lay b,if_pos (by simp;omega)];congr 1;rw[Gy,k.eqv];simp
theorem Jla:Kd D.int 1:=⟨fun _=>rfl,fun _=>by simp[D.py,Mj],fun a b=>by show(a == b)=true↔_;simp⟩
theorem VR{α:Type}{f:α->D}{n:Nat}(k:Kd f n):(∀xs:List α,KC (D.pyL (xs.map f))=true)/\(∀xs:List α,Lr (D.pyL (xs.map f))<=n)/\∀xs ys:List α,KP (D.pyL (xs.map f)) (D.pyL (ys.map f))=true↔xs=ys:=by
 refine⟨fun xs=>?_,fun xs=>?_,fun xs=>?_⟩
 ·induction xs with
  | nil=>rfl
  | cons x xs ih=>show(PyData.canLay0 _ && KC _)=true;rw[k.lay,ih];rfl
 ·induction xs with
  | nil=>simp[D.pyL,Lr]
  | cons x xs ih=>have:=k.dep x;simp only[Qe,D.pyL,Lr];omega
 ·induction xs with
  | nil=>intro ys;cases ys with
   | nil=>simp[D.pyL,KP]
   | cons y ys=>simp[D.pyL,KP]
  | cons x xs ih=>intro ys;cases ys with
   | nil=>simp[D.pyL,KP]
   | cons y ys=>simp only[Qe,D.pyL,KP,QK,k.eqv,ih,List.cons.injEq]
theorem JgC{α:Type}{f:α->D}{n:Nat}(k:Kd f n):Kd (fun xs:List α=>D.lst (xs.map f)) (n+1) :=
 ⟨fun xs=>(VR k).1 xs,fun xs=>by have:=(VR k).2.1 xs;simp only[D.py,Mj];omega,fun xs ys=>by simp only[D.py,Lf];exact(VR k).2.2 xs ys⟩
theorem Jlb{α:Type}{f:α->D}{n:Nat}(k:Kd f n):Kd (fun xs:List α=>D.tup (xs.map f)) (n+1) :=
 ⟨fun xs=>(VR k).1 xs,fun xs=>by have:=(VR k).2.1 xs;simp only[D.py,Mj];omega,fun xs ys=>by simp only[D.py,Lf];exact(VR k).2.2 xs ys⟩
theorem kd_pr:Kd prE 2:=⟨fun _=>rfl,fun _=>by simp[prE,D.py,D.pyL,Mj,Lr],fun a b=>by obtain⟨a1,a2⟩:=a;obtain⟨b1,b2⟩:=b;simp[prE,D.py,D.pyL,Lf,KP]⟩
theorem JkL(a b:Pr):eqD (prE a) (prE b)=some (decide (a=b)):=kd_pr.eq (by decide) a b
theorem Jh5(a b:List Pr):eqD (.lst (a.map prE)) (.lst (b.map prE))=some (decide (a=b)):=(JgC kd_pr).eq (by decide) a b
theorem Jh6(a b:List Pr):eqD (.tup (a.map prE)) (.tup (b.map prE))=some (decide (a=b)):=(Jlb kd_pr).eq (by decide) a b
theorem Jf6(a b:List Int):eqD (.lst (a.map .int)) (.lst (b.map .int))=some (decide (a=b)):=(JgC Jla).eq (by decide) a b
theorem Wh{s:Sl}{ps:List Pr}(e:s.q=some (ps.map prE))(g:Good ps)(h:ps.length<=30):Zr [s]=some (.sh (.row (ps.map prE))):=by show(s.q.bind _)=_;rw[e,QB,Z0,QB,WL g,if_pos (by simp[h])]
section
variable{a b:Int}{xs ys:List D}{d:D}{x y:Str}{E:En}{B:Es}{r:Sl}
theorem Jjy:JaT B (.nx E)=B E:=rfl
theorem Jjz:JaT B (.rt r)=some (.rt r):=rfl
theorem Jjw:JaT B (.bk E)=some (.bk E):=rfl
theorem Jjx:JaT B (.ct E)=some (.ct E):=rfl
theorem Jh1:Jcp (.nx E)=some (.sh .non):=rfl
theorem Jh2:Jcp (.rt r)=some r:=rfl
theorem Jnt{g:Int->Int->D}:fI g (.sh (.int a)) (.sh (.int b))=some (.sh (g a b)):=rfl
theorem Jip(h:(-18446744073709551616<a/\a<18446744073709551616)\/(-18446744073709551616<b/\b<18446744073709551616)):WH (.sh (.int a)) (.sh (.int b))=some (.sh (.int (a*b))):=by show(if _ then _ else _)=_;rw[if_pos];simp only[KU,Zc];exact h
theorem Jio(h:0<b):U5 (.sh (.int a)) (.sh (.int b))=some (.sh (.int (a % b))):=by show(if _ then _ else _)=_;rw[if_pos (by simpa using h)]
theorem Jim(h:0<b/\b<1073741824):Jam (.sh (.int a)) (.sh (.int b))=some (.sh (.int (a / b))):=by show(if _ then _ else _)=_;rw[if_pos (smallP_ok.mpr h)]
theorem Jiq:Jct (.sh (.int a))=some (.sh (.int (-a))):=rfl
theorem Jia:Yh (.sh (.int a)) (.sh (.int b))=some (.sh (.int (a+b))):=rfl
theorem Jih(h:x.length+y.length<=16777216):Yh (.sh (.str x)) (.sh (.str y))=some (.sh (.str (x++y))):=if_pos h
theorem Uw{p q:Sl}(h1:p.m=some xs)(h2:q.m=some ys)(h:xs.length+ys.length<=16777216):JeK p q=some (.own (xs++ys)):=by unfold JeK;rw[h1,h2];exact if_pos h
theorem Jie(h:xs.length+ys.length<=16777216):Yh (.own xs) (.own ys)=some (.own (xs++ys)):=Uw rfl rfl h
theorem Jid(h:xs.length+ys.length<=16777216):Yh (.own xs) (.bo ys)=some (.own (xs++ys)):=Uw rfl rfl h
theorem Jh8(h:xs.length+ys.length<=16777216):Yh (.bo xs) (.own ys)=some (.own (xs++ys)):=Uw rfl rfl h
theorem Jh7(h:xs.length+ys.length<=16777216):Yh (.bo xs) (.bo ys)=some (.own (xs++ys)):=Uw rfl rfl h
theorem Jif(h:xs.length+ys.length<=16777216):Yh (.own xs) (.sh (.lst ys))=some (.own (xs++ys)):=Uw rfl rfl h
theorem Jig(h:xs.length+ys.length<=16777216):Yh (.sh (.lst xs)) (.own ys)=some (.own (xs++ys)):=Uw rfl rfl h
theorem Jib(h:xs.length+ys.length<=16777216):Yh (.sh (.lst xs)) (.bo ys)=some (.own (xs++ys)):=Uw rfl rfl h
theorem Jh9(h:xs.length+ys.length<=16777216):Yh (.bo xs) (.sh (.lst ys))=some (.own (xs++ys)):=Uw rfl rfl h
theorem Jic(h:xs.length+ys.length<=16777216):Yh (.sh (.lst xs)) (.sh (.lst ys))=some (.own (xs++ys)):=Uw rfl rfl h
theorem JkQ(h:x.length<=16777216):U4 [.sh (.str x)]=some (.sh (.int x.length)):=if_pos h
theorem JkO:U4 [.sh (.lst xs)]=some (.sh (.int xs.length)):=rfl
theorem JkN:U4 [.sh (.fz xs)]=some (.sh (.int xs.length)):=rfl
theorem JkR:U4 [.sh (.tup xs)]=some (.sh (.int xs.length)):=rfl
theorem JkM:U4 [.bo xs]=some (.sh (.int xs.length)):=rfl
theorem JkP:U4 [.own xs]=some (.sh (.int xs.length)):=rfl
theorem Jnw:fIx (.sh (.lst xs)) (.sh (.int a))=(atI xs a).map .sh:=rfl
theorem Jnv:fIx (.sh (.fz xs)) (.sh (.int a))=(atI xs a).map .sh:=rfl
theorem Jny:fIx (.sh (.tup xs)) (.sh (.int a))=(atI xs a).map .sh:=rfl
theorem Jnu:fIx (.bo xs) (.sh (.int a))=(atI xs a).map .sh:=rfl
theorem Jnx:fIx (.own xs) (.sh (.int a))=(atI xs a).map .sh:=rfl
theorem Jf5:eqA (.int a) (.int b)=some (decide (a=b)):=rfl
theorem JkK:eqA (.str x) (.str y)=some (decide (x=y)):=rfl
theorem JkI{p q:Bool}:eqA (.bl p) (.bl q)=some (decide (p=q)):=rfl
theorem JkJ(p q:Pr):eqA (prE p) (prE q)=some (decide (p=q)):=JkL p q
theorem Jf4(p q:List Pr):eqA (.lst (p.map prE)) (.lst (q.map prE))=some (decide (p=q)):=Jh5 p q
theorem JkH(p q:List Pr):eqA (.tup (p.map prE)) (.tup (q.map prE))=some (decide (p=q)):=Jh6 p q
theorem JkG(p q:List Int):eqA (.lst (p.map .int)) (.lst (q.map .int))=some (decide (p=q)):=Jf6 p q
theorem Jgu(h:-4611686018427387904<a/\a<4611686018427387904):JcA a=true:=by unfold JcA;rw[G9];omega
theorem Jk0(h:-1152921504606846976<a/\a<1152921504606846976):JkZ a=true:=in60_ok.mpr h
theorem Jhr(h:0<a/\a<1073741824):JaW a=true:=smallP_ok.mpr h
theorem UP{s:Sl}{ns:List Int}(e:s.q=some (ns.map .int)):Zs [s]=some (.sh (.int ns.sum)):=by show(s.q.bind _)=_;rw[e,QB,WP];rfl
theorem Jil{s:Sl}{ns:List Bool}(e:s.q=some (ns.map .bl)):Jik [s]=some (.sh (.bl (ns.any id))):=by show(s.q.bind _)=_;rw[e,QB,Jad];rfl
theorem Jij{s:Sl}{ns:List Bool}(e:s.q=some (ns.map .bl)):Jii [s]=some (.sh (.bl (ns.all id))):=by show(s.q.bind _)=_;rw[e,QB,Jad];rfl
theorem Jnd{i:Nat}:(Pt.nm i).bind d E=if i<E.length then some (E.set i (.sh d)) else none:=by rw[Pt.bind]
theorem Jne{l:Pts}:(Pt.tp l).bind (.tup xs) E=l.bind xs E:=by rw[Pt.bind]
theorem JhP:Pts.nil.bind [] E=some E:=by rw[Pts.bind]
theorem Jfy{q:Pt}{l:Pts}:(Pts.cons q l).bind (d::xs) E=(q.bind d E).bind fun E'=>l.bind xs E':=by rw[Pts.bind]
theorem JoK:((0:Nat):Int)=0:=rfl
theorem JoL:((1:Nat):Int)=1:=rfl
theorem JoM:((2:Nat):Int)=2:=rfl
theorem JoN:((3:Nat):Int)=3:=rfl
theorem JoO:((4:Nat):Int)=4:=rfl
theorem JeV:D.isNon .non=true:=rfl
theorem JeT:D.isNon (.int a)=false:=rfl
theorem Jgw{k:Bool}:D.isNon (.bl k)=false:=rfl
theorem JeX:D.isNon (.str x)=false:=rfl
theorem JeY:D.isNon (.tup xs)=false:=rfl
theorem JeU:D.isNon (.lst xs)=false:=rfl
theorem Jgx:D.isNon (.fz xs)=false:=rfl
theorem JeW:D.isNon (.row xs)=false:=rfl
theorem Jlh:Jbt "int" "int"=true:=by decide
theorem JiD:Jbt "int" "bool"=false:=by decide
theorem Jlg:Jbt "bool" "bool"=true:=by decide
theorem Jlk:Jbt "tuple" "tuple"=true:=by decide
theorem Jli:Jbt "list" "list"=true:=by decide
theorem Jlj:Jbt "str" "str"=true:=by decide
end
end LE

namespace HT
open PySem PySem.Spec PyProof.Rows
section
variable{prog:Program}{w:World}{A:Around}{E:Value->Shared->Prop}{s:Shared}
theorem Vn{t sl:Addr}{items:Array Value}{vl vu:Value}{lo hi:Option Int}{Q:Value->Shared->Prop}(ht:IsTup s.heap t items)(hs:s.heap.IsSliceOf sl vl vu .none)(pl:IsPart vl lo)(pu:IsPart vu hi)
 (hw:sIx items.size 0 lo=0/\sIx items.size items.size hi=items.size) (h:Q (.ref t) s):wpAny (model prog w) A (getItem (.ref t) (.ref sl)) Q E s:=by
 obtain⟨os,hos,hcs,hds⟩:=id hs;have hTs:s.TypeIs (.ref sl) "slice":=⟨os,hos,hcs⟩
 unfold getItem
 try with_reducible refine Kv ?_
 first|refine Qa (Qi ?_)|skip
 refine Qa (wpAny_sequenceKey ht.typeIs (by decide) ?_);refine Qa (QS (name:=Ge "__getitem__") ht.typeIs QO
  (Gd QO ht.typeIs entry_tuple_getitem ?_ (args_tuple_getitem _ _)))
 show wpAny _ _ (LL (.ref t) >>= _) _ _ s;refine Qa (tupleItemsOf_ ht ?_);refine Qa (wpAny_typeOf hTs ?_);rw[if_pos (by decide)];refine Qa (Uv hs pl pu ?_)
 have yes:(((sIx items.size 0 lo:Nat):Int) == 0 && (1:Int) == 1 && (sIx items.size items.size hi-sIx items.size 0 lo) == items.size)=true:=by rw[hw.1,hw.2];simp
 show wpAny _ _ (if (((sIx items.size 0 lo:Nat):Int) == 0 && (1:Int) == 1 && (sIx items.size items.size hi-sIx items.size 0 lo) == items.size)=true then _ else _) _ _ s;rw[if_pos yes];unfold Builtin.Tuple.tupleIsExact;refine Qa (Qa (wpAny_typeOf ht.typeIs (Qi ?_)));rw[if_pos (by decide)];refine Qa (Ka ?_);exact Qi ⟨_,rfl,Qi h⟩
end
end HT
namespace L2
open PySem PySem.Spec PyProof.Rows
section
variable{X:Cx}{K:Frag}
noncomputable def Jn6(K:Frag):V->Option Int->Option Int->Hp->VK->Prop:=fun x lo hi H Q=>∃a xs,x=.ref a/\SqT K H a xs/\(HT.sIx xs.length 0 lo=0/\HT.sIx xs.length xs.length hi=xs.length)/\Q (.ref a) H
theorem Jhq:SlR X (Jn6 X.K):=by
 intro pins s σ H x v vl vu lo hi sl Q I rx hs pl pu h;obtain⟨a,xs,rfl,hx,hw,q⟩:=h;cases rx;obtain⟨its,r,ht,hz⟩:=I.tuple hx;have hlen:its.toArray.size=xs.length:=by rw[Qm];exact r.length.symm
 refine⟨"tuple",_,QO.lookup,ht.typeIs,?_⟩;exact HT.Vn ht hs pl pu (by rw[hlen];exact hw) ⟨.ref a,H,I,rfl,q⟩
noncomputable def Jl4(K:Frag):V->Option Int->Option Int->Hp->VK->Prop:=fun x lo hi H Q=>Jn4 K x lo hi H Q\/Jn5 K x lo hi H Q\/Jn6 K x lo hi H Q
theorem Wr(hK:X.K=K):SlR X (Jl4 K):=by subst hK;exact sl_list.or (sl_tup.or Jhq)
end
end L2
namespace LE
open PySem L2 LR
noncomputable def WE{α:Type}(xs:List α)(lo hi:Option Int):List α:=(xs.drop (HT.sIx xs.length 0 lo)).take (HT.sIx xs.length xs.length hi-HT.sIx xs.length 0 lo)
noncomputable def fSl(s:Sl)(lo hi:Option Int):Option Sl:=match s with
 | .sh (.tup ds)=>some (.sh (.tup (WE ds lo hi)))
 | s=>s.r.map fun ds=>.own (WE ds lo hi)
noncomputable def WG(o:Option Ev):En->Option (Option Int):=fun E=>match o with
 | none=>some none
 | some a=>(a E).bind fun s=>match s with
  | .sh (.int i)=>some (some i)
  | _=>none
noncomputable def eSl(a:Ev)(lo hi:Option Ev):Ev:=fun E=>(a E).bind fun s=>(WG lo E).bind fun l=>(WG hi E).bind fun h=>fSl s l h
section
variable{K:Frag}{C:Addr}{te:TE}{ea:Ev}{tl th:TO}{el eh:Option Ev}
noncomputable def SP'(K:Frag)(C:Addr)(t:TO)(ev:En->Option (Option Int)):Prop:=∀(B H0 H:Hp) (σ:St) (E:En) (r:Option Int) (Q:Option Int->Hp->Prop),EnvR K C B H0 H σ E->ev E=some r ->
 (∀H0' H',Step H H0 H H0' H'->Q r H')->t σ H Q
theorem JlM:SP' K C Jeg (WG none):=fun _ _ _ _ _ _ _ I e q=>by cases e;exact q _ _ (.refl I.h)
theorem JlN(ha:SE K C te ea):SP' K C (Jkn te) (WG (some ea)):=by
 intro B H0 H σ E r Q I e q;obtain⟨s,e1,e⟩:=bind_some e;split at e
 ·cases e;exact ha B H0 H σ E _ _ I e1 fun x H1 H1' s1 r1=>⟨_,RD.intI r1,q _ _ s1⟩
 ·cases e
theorem RDL.cut{H:Hp}{xs:List V}{ds:List D}{lo hi:Option Int}(r:RDL K C H xs ds):RDL K C H (Zo xs lo hi) (WE ds lo hi):=by unfold Zo WE;rw[r.1];exact(r.drop _).take _
theorem Jpb(ha:SE K C te ea)(hl:SP' K C tl (WG el))(hh:SP' K C th (WG eh)):SE K C (tSl (Jl4 K) te tl th) (eSl ea el eh):=by
 intro B H0 H σ E c Q I e q;obtain⟨s,e1,e⟩:=bind_some e;obtain⟨l,e2,e⟩:=bind_some e;obtain⟨h,e3,e⟩:=bind_some e;refine ha B H0 H σ E _ _ I e1 fun x H1 H1' s1 r1=>hl B H1 H1' σ E l _ (I.step s1) e2 fun H2 H2' s2=>hh B H2 H2' σ E h _ (I.step (s1.trans s2)) e3 fun H3 H3' s3=>?_
 have s13:=(s1.trans s2).trans s3
 have r3:=(r1.step s2).step s3
 have lst:∀{ds:List D},s.r=some ds->c=.own (WE ds l h)->Jl4 K x l h H3' Q:=fun {ds} er ec=>by subst ec;obtain⟨a,xs,rfl,hq,r⟩:=r3.r s13.i er;exact .inl ⟨a,xs,rfl,hq,fun p hp=>Vz s13.i s13.h hp r.cut fun v H4 H4' s4 r4=>q v H4 H4' (s13.comp s4 fun _ z=>z) r4⟩
 unfold fSl at e;split at e
 ·cases e;obtain⟨a,xs,rfl,hq,r⟩:=RD.tupI r3
  by_cases hw:HT.sIx xs.length 0 l=0/\HT.sIx xs.length xs.length h=xs.length
  ·refine .inr (.inr ⟨a,xs,rfl,s13.i.seqT hq,hw,q _ _ _ s13 ?_⟩);have e5:Zo xs l h=xs:=by unfold Zo;rw[hw.1,hw.2];simp
   have r5:=r.cut (lo:=l) (hi:=h);rw[e5] at r5;exact RD.mkT hq r5
  ·exact .inr (.inl ⟨a,xs,rfl,s13.i.seqT hq,hw,fun p hp=>JaY s13.i s13.h hp r.cut fun v H4 H4' s4 r4=>q v H4 H4' (s13.comp s4 fun _ z=>z) r4⟩)
 ·obtain⟨ds,e4,e5⟩:=map_some e;exact lst e4 e5.symm
end
end LE

namespace PySem
section
variable{prog:Program}{w:World}{A:Around}
theorem Draws.tup(hh:A.handled=none)(j a:Addr)(ne:a≠j)(xs:Array Value):Draws prog w A j [j,a] xs.size (fun i v=>xs[i]?=some v) (fun i h=>h.IsTupleIter j a i/\h.IsTuple a xs) where
 live:=fun _ _ q=>let ⟨o,ho,_⟩:=q.1;⟨o,ho⟩
 frame:=fun _ _ _ q k=>⟨q.1.at fun o e=>k j (by simp) o e,q.2.at fun o e=>k a (by simp) o e⟩
 item:=fun i s Q E hi q hQ=>by
  obtain⟨o,ho,hc,hd⟩:=id q.1;obtain⟨ol,hol,_,nl,hdl⟩:=id q.2;have hx:xs[i]?=some xs[i]:=by simp[hi]
  unfold Gi;refine Qa (QS (name:=Ge "__next__") q.1.typeIs GS (Gd GS q.1.typeIs LA ?_ (Ls _)));show wpAny _ _ (field (.ref j) 0 >>= _) _ _ s;refine Qa (QM ho hd (x:=.ref a) rfl ?_);show wpAny _ _ (if (Value.ref a == Value.none)=true then _ else _) _ _ s;rw[if_neg (show ¬((Value.ref a == Value.none)=true) from Qy)]
  show wpAny _ _ (field (.ref j) 1 >>= _) _ _ s;refine Qa (QM ho hd (x:=.int i 0) rfl (show wpAny _ _ (seqItems? (.ref a) >>= _) _ _ s from Qa (Gg hol hdl ?_)));simp only[K5,hx];refine Qa (wpAny_setField ho hd (by simp) (Qi ⟨xs[i],rfl,Qi (hQ _ _ s.toks hx ⟨⟨_,Le _ ho (Obj.isFreed_of_fields (Obj.data_mapFields hd _)),(Obj.cls_mapFields ..).trans hc,?_⟩,q.2.extBut (Ke ..).extBut ne⟩ (Ke ..))⟩))
  rw[Obj.data_mapFields hd];simp[rawInt]
 done:=fun s Q E q hE=>by
  obtain⟨o,ho,hc,hd⟩:=id q.1;obtain⟨ol,hol,_,nl,hdl⟩:=id q.2;have hx:xs[xs.size]?=none:=by simp
  unfold Gi;refine Qa (QS (name:=Ge "__next__") q.1.typeIs GS (Gd GS q.1.typeIs LA ?_ (Ls _)));show wpAny _ _ (field (.ref j) 0 >>= _) _ _ s;refine Qa (QM ho hd (x:=.ref a) rfl ?_);show wpAny _ _ (if (Value.ref a == Value.none)=true then _ else _) _ _ s;rw[if_neg (show ¬((Value.ref a == Value.none)=true) from Qy)]
  show wpAny _ _ (field (.ref j) 1 >>= _) _ _ s;refine Qa (QM ho hd (x:=.int xs.size 0) rfl (show wpAny _ _ (seqItems? (.ref a) >>= _) _ _ s from Qa (Gg hol hdl ?_)));simp only[K5,hx];refine Qa (Ka (Qa (wpAny_setField ho hd (by simp) (show wpAny _ _ (newExc (.type "StopIteration") [] >>= _) _ _ _ from Qa ?_))));simp only[newExc,newTuple];refine Qa (Q9 (Qa (m:=firstArgMember _ _) (G2 (a:=Value.none) (by first | rfl | (simp only[firstArgMember];rfl)) (Q9 ?_ (by size_fits)))) (by size_fits))
  simp only[raiseNew];refine Qa (wpAny_handled ?_)
  first|rw[show A.in1.handled=none from hh]|rw[hh]
  refine Qa (Qi (wpAny_throw ?_));exact hE _ _ (((Ke ..).extBut.push _).push _) ⟨_,Qj _ rfl,rfl⟩
end

structure ZA (z TI TO i1 i2:Addr) (p1 p2:List Addr):Prop where
 a1:TI≠z
 a2:TO≠z
 a3:TI≠TO
 m1:i1∈p1
 m2:i2∈p2
 z1:z∉p1
 z2:z∉p2
 t1:TI∉p1
 t2:TI∉p2
 o1:TO∉p1
 o2:TO∉p2
 x1:i1∉p2
 x2:i2∉p1
section
variable{prog:Program}{w:World}{A:Around}{E:Value->Shared->Prop}{s:Shared}{z TI TO i1 i2:Addr}{p1 p2:List Addr}{n1 n2 k:Nat}{P1 P2:Nat->Value->Prop}{S1 S2:Nat->Heap->Prop}
theorem Jft{a b:Value}{Q:Value->Shared->Prop}(D:ZA z TI TO i1 i2 p1 p2)(D1:Draws prog w A i1 p1 n1 P1 S1)(D2:Draws prog w A i2 p2 n2 P2 S2)(gz:IsZip s.heap z TI TO .none)(gI:IsPair s.heap TI (.ref i1) (.ref i2))(gO:IsPair s.heap TO a b)
 (st1:S1 k s.heap) (st2:S2 k s.heap) (l1:k<n1) (l2:k<n2)
 (hQ:∀x y h' tk,P1 k x->P2 k y->IsZip h' z TI TO (rawInt s.heap.objs.size)->IsPair h' TI (.ref i1) (.ref i2)->IsPair h' TO x y->S1 (k+1) h'->S2 (k+1) h'->IsPair h' s.heap.objs.size x y->h'.objs.size=s.heap.objs.size+1 ->
  (∀c o,c≠z->c≠TO->c≠i1->c≠i2->s.heap.get? c=some o->h'.get? c=some o)->Q (.ref s.heap.objs.size) { s with heap:=h',toks:=tk }) :
 wpAny (model prog w) A (Builtin.«zip.__next__» ⟨[.ref z],[]⟩) (fun fin s'=>∃v,fin=.done (.ret v)/\Q v s') E s:=by
 obtain⟨hp,g,d,t0,os⟩:=s;have zi1:i1≠z:=fun q=>D.z1 (q▸D.m1)
 have zi2:i2≠z:=fun q=>D.z2 (q▸D.m2)
 have oi1:i1≠TO:=fun q=>D.o1 (q▸D.m1)
 have oi2:i2≠TO:=fun q=>D.o2 (q▸D.m2)
 have ii1:i1≠TI:=fun q=>D.t1 (q▸D.m1)
 have ii2:i2≠TI:=fun q=>D.t2 (q▸D.m2)
 have i12:i1≠i2:=fun q=>D.x1 (q▸D.m2)
 show wpAny _ _ (field (.ref z) 2 >>= _) _ _ _;refine Qa (QM gz rfl (x:=.bool false) rfl (show wpAny _ _ (field (.ref z) 3 >>= _) _ _ _ from Qa (QM gz rfl (x:=.ref TI) rfl (Qa (Gg gI rfl ?_)))))
 show wpAny _ _ (QW (.ref z) >>= _) _ _ _;refine Qa ?_;unfold QW;refine Qa (QM gz rfl (x:=.none) rfl (Qi ?_));simp only[if_true];refine Qa (Ka (Qa (QM gz rfl (x:=.ref TO) rfl (Qa (QP gz (by simp) fun k1 y1 e1=>?_)))))
 replace y1:IsZip k1 z TI TO .ellipsis:=y1
 replace e1:Qz z hp k1:=e1;refine Qa ?_;simp only[KI,List.zipIdx_nil,List.forIn_cons,List.forIn_nil];refine Qa (Qa (L4 (show wpAny _ _ (Gi (.ref i1) >>= _) _ _ _ from Qa (D1.item k _ _ _ l1 (D1.frame _ _ _ st1 fun b hb o q=>e1.extBut b o (fun r=>D.z1 (r▸hb)) q) fun x k2 t2 px s2 e2=>Qi ?_))))
 replace e2:Qz i1 k1 k2:=e2;have O2:IsPair k2 TO a b:=e2.extBut _ _ (QI oi1) (e1.extBut _ _ D.a2 gO);refine Qa (Gg (s:=⟨k2,g,d,t2,os⟩) O2 rfl (Qa (Ll (s:=⟨k2,g,d,t2,os⟩) O2 fun k3 O3 e3=>?_)))
 replace O3:IsPair k3 TO x b:=O3
 replace e3:Qz TO k2 k3:=e3;refine Qa (KD (Qi ?_));have st2':S2 k k3:=D2.frame _ _ _ st2 fun b hb o q=>e3.extBut b o (fun r=>D.o2 (r▸hb)) (e2.extBut b o (fun r=>D.x1 (r▸hb)) (e1.extBut b o (fun r=>D.z2 (r▸hb)) q))
 refine Qa (Qa (L4 (show wpAny _ _ (Gi (.ref i2) >>= _) _ _ _ from Qa (D2.item k _ _ _ l2 st2' fun y k4 t4 py s4 e4=>Qi ?_))))
 replace e4:Qz i2 k3 k4:=e4;have O4:IsPair k4 TO x b:=e4.extBut _ _ (QI oi2) O3;refine Qa (Gg (s:=⟨k4,g,d,t4,os⟩) O4 rfl (Qa (Ll (s:=⟨k4,g,d,t4,os⟩) O4 fun k5 O5 e5=>?_)))
 replace O5:IsPair k5 TO x y:=O5
 replace e5:Qz TO k4 k5:=e5;refine Qa (KD (Qi (Qi (Qa (Gg (s:=⟨k5,g,d,t4,os⟩) O5 rfl (Qa (wpAny_newTuple ?_)))))));have hsz:k5.objs.size=hp.objs.size:=by rw[e5.1,e4.1,e3.1,e2.1,e1.1]
 have Z5:IsZip k5 z TI TO .ellipsis:=e5.extBut _ _ (QI D.a2) (e4.extBut _ _ (QI zi2) (e3.extBut _ _ (QI D.a2) (e2.extBut _ _ (QI zi1) y1)))
 have keep5:∀c o,c≠z->c≠TO->c≠i1->c≠i2->hp.get? c=some o->k5.get? c=some o:=fun c o c1 c2 c3 c4 q=>e5.extBut _ _ c2 (e4.extBut _ _ c4 (e3.extBut _ _ c2 (e2.extBut _ _ c3 (e1.extBut _ _ c1 q))))
 have T1:S1 (k+1) k5:=D1.frame _ _ _ s2 fun b hb o q=>e5.extBut b o (fun r=>D.o1 (r▸hb)) (e4.extBut b o (fun r=>D.x2 (r▸hb)) (e3.extBut b o (fun r=>D.o1 (r▸hb)) q))
 have T2:S2 (k+1) k5:=D2.frame _ _ _ s4 fun b hb o q=>e5.extBut b o (fun r=>D.o2 (r▸hb)) q
 have zlt:z<k5.objs.size:=Qo Z5
 show wpAny _ _ (Gk (.ref z) (.ref k5.objs.size) >>= _) _ _ _;refine Qa ?_;unfold Gk
 have Z6:IsZip (k5.push { cls:=.type "tuple",data:=.seq #[x,y] }) z TI TO .ellipsis:=Qf _ Z5;refine Qa (QP Z6 (by simp) fun k7 Z7 e7=>?_)
 replace Z7:IsZip k7 z TI TO (rawInt k5.objs.size):=Z7
 replace e7:Qz z (k5.push { cls:=.type "tuple",data:=.seq #[x,y] }) k7:=e7;refine QP Z7 (by simp) fun k8 Z8 e8=>?_
 replace Z8:IsZip k8 z TI TO (rawInt k5.objs.size):=Z8
 replace e8:Qz z k7 k8:=e8;have up:∀c o,c≠z->k5.get? c=some o->k8.get? c=some o:=fun c o c1 q=>e8.extBut _ _ c1 (e7.extBut _ _ c1 (Qf _ q))
 have N8:IsPair k8 k5.objs.size x y:=e8.extBut _ _ (KF zlt) (e7.extBut _ _ (KF zlt) (Qj _ rfl))
 have z8:k8.objs.size=k5.objs.size+1:=by rw[e8.1,e7.1,Q5]
 rw[hsz] at Z8 N8 z8;refine Qi ⟨_,rfl,?_⟩;show Q (.ref k5.objs.size) _;rw[hsz];refine hQ x y k8 t4 px py Z8 (up _ _ D.a1 (keep5 _ _ D.a1 D.a3 (QI ii1) (QI ii2) gI)) (up _ _ D.a2 O5) ?_ ?_ N8 z8 fun c o c1 c2 c3 c4 q=>up c o c1 (keep5 c o c1 c2 c3 c4 q)
 ·exact D1.frame _ _ _ T1 fun b hb o q=>up b o (fun r=>D.z1 (r▸hb)) q
 ·exact D2.frame _ _ _ T2 fun b hb o q=>up b o (fun r=>D.z2 (r▸hb)) q
theorem JhL{a b:Value}{Q:Fin->Shared->Prop}(D:ZA z TI TO i1 i2 p1 p2)(D1:Draws prog w A i1 p1 n1 P1 S1)(D2:Draws prog w A i2 p2 n2 P2 S2)(gz:IsZip s.heap z TI TO .none)(gI:IsPair s.heap TI (.ref i1) (.ref i2))(gO:IsPair s.heap TO a b)
 (st1:S1 k s.heap) (st2:S2 k s.heap) (hend:k=n1\/(k<n1/\k=n2))
 (hE:∀h' e tk,(∀c o,c≠z->c≠TO->c≠i1->c≠i2->s.heap.get? c=some o->h'.get? c=some o)->(∃o,h'.get? e=some o/\o.cls=.type "StopIteration")->E (.ref e) { s with heap:=h',toks:=tk }) :
 wpAny (model prog w) A (Builtin.«zip.__next__» ⟨[.ref z],[]⟩) Q E s:=by
 obtain⟨hp,g,d,t0,os⟩:=s;have zi1:i1≠z:=fun q=>D.z1 (q▸D.m1)
 have zi2:i2≠z:=fun q=>D.z2 (q▸D.m2)
 have oi1:i1≠TO:=fun q=>D.o1 (q▸D.m1)
 show wpAny _ _ (field (.ref z) 2 >>= _) _ _ _;refine Qa (QM gz rfl (x:=.bool false) rfl (show wpAny _ _ (field (.ref z) 3 >>= _) _ _ _ from Qa (QM gz rfl (x:=.ref TI) rfl (Qa (Gg gI rfl ?_)))))
 show wpAny _ _ (QW (.ref z) >>= _) _ _ _;refine Qa ?_;unfold QW;refine Qa (QM gz rfl (x:=.none) rfl (Qi ?_));simp only[if_true];refine Qa (Ka (Qa (QM gz rfl (x:=.ref TO) rfl (Qa (QP gz (by simp) fun k1 y1 e1=>?_)))))
 replace y1:IsZip k1 z TI TO .ellipsis:=y1
 replace e1:Qz z hp k1:=e1;refine Qa ?_;simp only[KI,List.zipIdx_nil,List.forIn_cons,List.forIn_nil];refine Qa (Qa (L4 (show wpAny _ _ (Gi (.ref i1) >>= _) _ _ _ from Qa ?_)));have q1:S1 k k1:=D1.frame _ _ _ st1 fun b hb o q=>e1.extBut b o (fun r=>D.z1 (r▸hb)) q
 rcases hend with rfl|⟨l1,rfl⟩
 ·refine D1.done _ _ _ q1 fun k2 e e2 he=>?_
  replace e2:MF i1 k1 k2:=e2;obtain⟨oe,hoe,hce⟩:=he;have Z2:IsZip k2 z TI TO .ellipsis:=e2 _ _ (QI zi1) y1;have ez:e≠z:=fun q=>by subst q;rw[Z2] at hoe;cases hoe;simp at hce
  exact QP Z2 (by simp) fun k3 _ e3=>hE k3 e t0 (fun c o c1 _ c3 _ q=>e3.extBut _ _ c1 (e2 _ _ c3 (e1.extBut _ _ c1 q))) ⟨oe,e3.extBut _ _ ez hoe,hce⟩
 ·refine D1.item k _ _ _ l1 q1 fun x k2 t2 px s2 e2=>Qi ?_
  replace e2:Qz i1 k1 k2:=e2;have O2:IsPair k2 TO a b:=e2.extBut _ _ (QI oi1) (e1.extBut _ _ D.a2 gO);refine Qa (Gg (s:=⟨k2,g,d,t2,os⟩) O2 rfl (Qa (Ll (s:=⟨k2,g,d,t2,os⟩) O2 fun k3 O3 e3=>?_)))
  replace e3:Qz TO k2 k3:=e3;refine Qa (KD (Qi ?_));have st2':S2 k k3:=D2.frame _ _ _ st2 fun b hb o q=>e3.extBut b o (fun r=>D.o2 (r▸hb)) (e2.extBut b o (fun r=>D.x1 (r▸hb)) (e1.extBut b o (fun r=>D.z2 (r▸hb)) q))
  refine Qa (Qa (L4 (show wpAny _ _ (Gi (.ref i2) >>= _) _ _ _ from Qa (D2.done _ _ _ st2' fun k4 e e4 he=>?_))))
  replace e4:MF i2 k3 k4:=e4;obtain⟨oe,hoe,hce⟩:=he;have Z4:IsZip k4 z TI TO .ellipsis:=e4 _ _ (QI zi2) (e3.extBut _ _ (QI D.a2) (e2.extBut _ _ (QI zi1) y1));have ez:e≠z:=fun q=>by subst q;rw[Z4] at hoe;cases hoe;simp at hce
  exact QP Z4 (by simp) fun k5 _ e5=>hE k5 e t2 (fun c o c1 c2 c3 c4 q=>e5.extBut _ _ c1 (e4 _ _ c4 (e3.extBut _ _ c2 (e2.extBut _ _ c3 (e1.extBut _ _ c1 q))))) ⟨oe,e5.extBut _ _ ez hoe,hce⟩
end
end PySem

namespace PySem
def IsSq(b:Bool)(h:Heap)(a:Addr)(xs:Array Value):Prop:=match b with
 | true=>h.IsTuple a xs
 | false=>h.IsList a xs
def IsItr(b:Bool)(h:Heap)(j a:Addr)(i:Nat):Prop:=match b with
 | true=>h.IsTupleIter j a i
 | false=>h.IsListIter j a i
def itO(b:Bool)(a:Addr):Obj:=match b with
 | true=>{ cls:=.type "tuple_iterator",data:=.fields #[.ref a,.int 0 0] }
 | false=>{ cls:=.type "list_iterator",data:=.fields #[.ref a,.int 0 0] }
section
variable{prog:Program}{w:World}{A:Around}{E:Value->Shared->Prop}{s:Shared}{b b1 b2:Bool}{a a1 a2:Addr}{xs ys:Array Value}
theorem IsSq.push{h:Heap}(q:IsSq b h a xs)(o:Obj):IsSq b (h.push o) a xs:=by
 cases b with
 | true=>exact Heap.IsTuple.push q o
 | false=>exact Heap.IsList.push q o
theorem IsSq.lt{h:Heap}(q:IsSq b h a xs):a<h.objs.size:=by
 cases b with
 | true=>obtain⟨o,e,_⟩:=q;exact Qo e
 | false=>obtain⟨o,e,_⟩:=q;exact Qo e
theorem IsItr.new{h:Heap}(e:h.get? a1=some (itO b a)):IsItr b h a1 a 0:=by
 cases b with
 | true=>exact⟨_,e,rfl,rfl⟩
 | false=>exact⟨_,e,rfl,rfl⟩
theorem Us{Q:Value->Shared->Prop}(q:IsSq b s.heap a xs)(h:Q (.ref s.heap.objs.size) { s with heap:=s.heap.push (itO b a) }):wpAny (model prog w) A (pyIter (.ref a)) Q E s:=by
 cases b with
 | true=>exact LH q h
 | false=>exact K3 q h
theorem Draws.sq(hh:A.handled=none)(j:Addr)(ne:a≠j):Draws prog w A j [j,a] xs.size (fun i v=>xs[i]?=some v) (fun i h=>IsItr b h j a i/\IsSq b h a xs):=by
 cases b with
 | true=>exact Draws.tup hh j a ne xs
 | false=>exact Draws.list hh j a ne xs
abbrev zP1(h:Heap)(b1:Bool)(a1:Addr):Heap:=h.push (itO b1 a1)
abbrev zP2(h:Heap)(b1 b2:Bool)(a1 a2:Addr):Heap:=(zP1 h b1 a1).push (itO b2 a2)
abbrev zP3(h:Heap)(b1 b2:Bool)(a1 a2:Addr):Heap:=(zP2 h b1 b2 a1 a2).push { cls:=.type "tuple",data:=.seq #[.ref h.objs.size,.ref (zP1 h b1 a1).objs.size] }
abbrev zP4(h:Heap)(b1 b2:Bool)(a1 a2:Addr):Heap:=(zP3 h b1 b2 a1 a2).push { cls:=.type "tuple",data:=.seq #[.none,.none] }
abbrev zP5(h:Heap)(b1 b2:Bool)(a1 a2:Addr):Heap:=(zP4 h b1 b2 a1 a2).push { cls:=.type "zip",data:=.fields #[.none,.bool false,.bool false,.ref (zP2 h b1 b2 a1 a2).objs.size,.ref (zP3 h b1 b2 a1 a2).objs.size] }
theorem JcI(b1 b2:Bool)(a1 a2:Addr)(xs ys:Array Value):Meets (Builtin.«zip.__new__» ⟨[.type "zip",.ref a1,.ref a2],[]⟩) (fun _ R s=>IsSq b1 s.heap a1 xs/\IsSq b2 s.heap a2 ys ∧
 R (.ok (.ret (.ref (zP4 s.heap b1 b2 a1 a2).objs.size))) { s with heap:=zP5 s.heap b1 b2 a1 a2 }) :=
 .of_wp fun prog w A R s h=>by obtain⟨hp,g,d,tk,os⟩:=s;obtain⟨q1,q2,h⟩:=h;have hsub:=sub_zip;have r1:IsSq b1 (M0 ⟨hp,g,d,tk,os⟩) a1 xs:=q1;have r2:IsSq b2 (M0 ⟨hp.push (itO b1 a1),g,d,tk,os⟩) a2 ys:=IsSq.push q2 _;wp_walk using Us r1,Us r2;exact⟨_,rfl,h⟩
theorem JeH{Q:Value->Shared->Prop}(q1:IsSq b1 s.heap a1 xs)(q2:IsSq b2 s.heap a2 ys)
 (h:∀h',IsZip h' (s.heap.objs.size+4) (s.heap.objs.size+2) (s.heap.objs.size+3) .none->IsPair h' (s.heap.objs.size+2) (.ref s.heap.objs.size) (.ref (s.heap.objs.size+1))->IsPair h' (s.heap.objs.size+3) .none .none ->
  IsItr b1 h' s.heap.objs.size a1 0->IsItr b2 h' (s.heap.objs.size+1) a2 0->(∀c o,s.heap.get? c=some o->h'.get? c=some o)->Q (.ref (s.heap.objs.size+4)) { s with heap:=h' }) :
 wpAny (model prog w) A (call (.type "zip") [.ref a1,.ref a2]) Q E s:=by
 refine callType_new F.called_zip (by decide) (F.typeCall_zip_2 _ _) (F.newCall_zip_2 _ _) (fun obj=>F.args_object_init_3 obj _ _) F.entry_zip_new (JcI b1 b2 a1 a2 xs ys) ⟨q1,q2,?_⟩;have z1:(zP1 s.heap b1 a1).objs.size=s.heap.objs.size+1:=Q5 ..;have z2:(zP2 s.heap b1 b2 a1 a2).objs.size=s.heap.objs.size+2:=by rw[Q5,z1]
 have z3:(zP3 s.heap b1 b2 a1 a2).objs.size=s.heap.objs.size+3:=by rw[Q5,z2]
 have z4:(zP4 s.heap b1 b2 a1 a2).objs.size=s.heap.objs.size+4:=by rw[Q5,z3]
 have up:∀{k:Heap} {c:Addr} {o u:Obj},k.get? c=some o->(k.push u).get? c=some o:=fun q=>Qf _ q
 have fi1:(itO b1 a1).isFreed=false:=by cases b1 <;> rfl
 have fi2:(itO b2 a2).isFreed=false:=by cases b2 <;> rfl
 have g5:(zP5 s.heap b1 b2 a1 a2).get? (zP4 s.heap b1 b2 a1 a2).objs.size=some _:=Qj _ rfl
 have g4:(zP5 s.heap b1 b2 a1 a2).get? (zP3 s.heap b1 b2 a1 a2).objs.size=some _:=up (Qj _ rfl)
 have g3:(zP5 s.heap b1 b2 a1 a2).get? (zP2 s.heap b1 b2 a1 a2).objs.size=some _:=up (up (Qj _ rfl))
 have g2:(zP5 s.heap b1 b2 a1 a2).get? (zP1 s.heap b1 a1).objs.size=some _:=up (up (up (Qj _ fi2)))
 have g1:(zP5 s.heap b1 b2 a1 a2).get? s.heap.objs.size=some _:=up (up (up (up (Qj _ fi1))))
 show _/\_;rw[z2,z3,z4] at g5;rw[z1,z2] at g3;rw[z3] at g4;rw[z1] at g2;rw[z4];exact⟨⟨_,g5,rfl⟩,h _ g5 g3 g4 (.new g1) (.new g2) fun c o q=>up (up (up (up (up q))))⟩
end
end PySem

namespace L2
open PySem PySem.Spec PyProof.Rows
section
variable{X:Cx}{pins:List (Addr×Obj)}{σ:St}{H:Hp}{s:Shared}{h':Heap}
theorem Inv.turnedL{t':Nat}{fp:List Addr}(I:Inv X pins σ H s)(k:∀b o,b∉fp->s.heap.get? b=some o->h'.get? b=some o)(hf:∀b∈fp,FpOk X pins H b):Inv X pins σ H { s with heap:=h',toks:=t' }:=by
 have nit:∀b u,H b=some u->b∉fp:=fun b u e z=>by rw[(hf b z).1] at e;cases e
 refine I.step (g':=s.gens) (d':=s.drawn) (ch:=fp) (fun b hb=>?_) (fun b o _ _ hc e _=>k b o hc e) (fun b o _ _ hc e _=>⟨o.slots,k b o hc e⟩) (fun _ _ _ _ n=>n)
  (fun b o hc e=>⟨o,k b o hc e⟩) (fun _ _ e=>e) (fun _ _ _ e=>e) (fun b ps e=>⟨#[],by rw[e];simp⟩) (fun m hm=>?_) (fun b u e=>?_) I.bare
 ·obtain⟨f0,f1,f2,f3,f4,f5⟩:=hf b hb;exact⟨f3,f1,f4,f5⟩
 ·obtain⟨o,es,ep,ho,r⟩:=hm;exact⟨o,es,ep,k _ o (fun z=>(hf _ z).2.1 rfl) ho,r⟩
 ·refine(I.hok b u e).stay (fun c v hc q=>k c v ?_ q) (fun _ q=>q) fun _ _ q=>q
  rcases hc with z|z
  ·rw[z];exact nit b u e
  ·exact nit c _ z
noncomputable def Sq(b:Bool)(K:Frag)(H:Hp)(a:Addr)(xs:List V):Prop:=match b with
 | true=>SqT K H a xs
 | false=>SqL K H a xs
theorem Sq.heap{b:Bool}{a:Addr}{xs:List V}(I:Inv X pins σ H s)(q:Sq b X.K H a xs):∃its:List Value,Vals xs its/\IsSq b s.heap a its.toArray:=by
 cases b with
 | true=>obtain⟨its,r,p,_⟩:=I.tuple q;exact⟨its,r,p⟩
 | false=>obtain⟨its,r,p,_⟩:=I.list q;exact⟨its,r,p.isList⟩
theorem Sq.inj{b:Bool}{a:Addr}{xs ys:List V}(I:Inv X pins σ H s)(q:Sq b X.K H a xs)(q':Sq b X.K H a ys):xs=ys:=by
 cases b with
 | true=>exact I.tuple_inj q q'
 | false=>exact I.list_inj q q'
theorem FpOk.off{b:Bool}{a c:Addr}{xs:List V}(I:Inv X pins σ H s)(q:Sq b X.K H a xs)(f:FpOk X pins H c):a≠c:=by
 intro e;subst e;have own:∀{o:HO},H a=some o->False:=fun h=>by rw[f.1] at h;cases h
 have mod:∀{o:Obj},X.K.lookup a=some o->False:=fun {o} h=>by
  have hb:=I.ok.mod.kin a o h;rcases f.2.2.2.1 with z|z
  ·exact I.ok.noex a o hb z
  ·exact absurd (Qo hb) (MQ.mpr (Q4 I.ok.bsz z))
 cases b with
 | true =>
  rcases q with (h|⟨o,h⟩)|⟨o,its,n,h,_⟩
  ·exact own h
  ·exact own h
  ·exact mod h
 | false =>
  rcases q with (h|⟨o,h⟩)|⟨o,its,n,h,_⟩
  ·exact own h
  ·exact own h
  ·exact mod h
noncomputable def Itz(K:Frag)(b1 b2:Bool)(a1 a2:Addr):It :=
 ⟨fun i H=>∃xs ys x y,Sq b1 K H a1 xs/\Sq b2 K H a2 ys/\xs[i]?=some x/\ys[i]?=some y,
  fun i H x H'=>∃p u v,x=.ref p/\H p=none/\H'=upd H p (.tup [u,v])/\∀xs ys,Sq b1 K H a1 xs->Sq b2 K H a2 ys->xs[i]?=some u/\ys[i]?=some v,
  fun i H=>∃xs ys,Sq b1 K H a1 xs/\Sq b2 K H a2 ys/\i=min xs.length ys.length⟩
noncomputable def ZSt(b1 b2:Bool)(a1 a2 z TI TO i1 i2:Addr)(i:Nat)(h:Heap):Prop:=IsZip h z TI TO .none/\IsPair h TI (.ref i1) (.ref i2)/\(∃a b,IsPair h TO a b)/\IsItr b1 h i1 a1 i/\IsItr b2 h i2 a2 i
theorem IsItr.keep{b:Bool}{h h':Heap}{j a:Addr}{i:Nat}(q:IsItr b h j a i)(k:∀o,h.get? j=some o->h'.get? j=some o):IsItr b h' j a i:=by
 cases b with
 | true=>obtain⟨o,e,r⟩:=q;exact⟨o,k o e,r⟩
 | false=>obtain⟨o,e,r⟩:=q;exact⟨o,k o e,r⟩
theorem IsItr.obj{b:Bool}{h:Heap}{j a:Addr}{i:Nat}(q:IsItr b h j a i):∃o,h.get? j=some o/\∀v,o.data≠.cell v:=by
 cases b with
 | true=>obtain⟨o,e,_,d⟩:=q;exact⟨o,e,fun v z=>by rw[d] at z;cases z⟩
 | false=>obtain⟨o,e,_,d⟩:=q;exact⟨o,e,fun v z=>by rw[d] at z;cases z⟩
end
theorem Jkr{X:Cx}{pins:List (Addr×Obj)}{σ:St}{H:Hp}{s:Shared}{b1 b2:Bool}{a1 a2 z TI TO i1 i2:Addr}{xs ys:List V}(I:Inv X pins σ H s)(q1:Sq b1 X.K H a1 xs)(q2:Sq b2 X.K H a2 ys)(hf:∀b∈[z,TI,TO,i1,i2],FpOk X pins H b)
 (nd:[z,TI,TO,i1,i2].Nodup):ZA z TI TO i1 i2 [i1,a1] [i2,a2]:=by
 have o1:∀c∈[z,TI,TO,i1,i2],a1≠c:=fun c hc=>FpOk.off I q1 (hf c hc)
 have o2:∀c∈[z,TI,TO,i1,i2],a2≠c:=fun c hc=>FpOk.off I q2 (hf c hc)
 simp only[Q2,Qg,QX,or_false,not_or] at nd;obtain⟨⟨n1,n2,n3,n4⟩,⟨n5,n6,n7⟩,⟨n8,n9⟩,n10,_⟩:=nd;have c1:=o1 z (by simp);have c2:=o1 TI (by simp);have c3:=o1 TO (by simp);have c4:=o1 i2 (by simp);have d1:=o2 z (by simp);have d2:=o2 TI (by simp);have d3:=o2 TO (by simp);have d4:=o2 i1 (by simp);refine⟨QI n1,QI n2,n5,by simp,by simp,?_,?_,?_,?_,?_,?_,?_,?_⟩ <;> simp only[Qg,QX,or_false,not_or]
 ·exact⟨n3,QI c1⟩
 ·exact⟨n4,QI d1⟩
 ·exact⟨n6,QI c2⟩
 ·exact⟨n7,QI d2⟩
 ·exact⟨n8,QI c3⟩
 ·exact⟨n9,QI d3⟩
 ·exact⟨n10,QI d4⟩
 ·exact⟨QI n10,QI c4⟩
theorem JhE{P:Program}{w:World}{K:Frag}{elts:List Expr}{kk:Nat}{pos:Pos}(b1 b2:Bool)(a1 a2 z TI TO i1 i2:Addr)(nd:[z,TI,TO,i1,i2].Nodup) :
 Turn P w K (.Tuple elts kk pos) (Itz K b1 b2 a1 a2) [z,TI,TO,i1,i2] z (ZSt b1 b2 a1 a2 z TI TO i1 i2) where
 mem:=by simp
 obj:=fun i h st b hb=>by
  obtain⟨s1,s2,⟨u,v,s3⟩,s4,s5⟩:=st;simp only[Qg,QX,or_false] at hb;rcases hb with rfl|rfl|rfl|rfl|rfl
  ·exact⟨_,s1,fun v z=>nomatch (show Data.fields _=Data.cell v from z)⟩
  ·exact⟨_,s2,fun v z=>nomatch (show Data.seq _ _=Data.cell v from z)⟩
  ·exact⟨_,s3,fun v z=>nomatch (show Data.seq _ _=Data.cell v from z)⟩
  ·exact IsItr.obj (b:=b1) s4
  ·exact IsItr.obj (b:=b2) s5
 keep:=fun i h h' st k=>by obtain⟨s1,s2,⟨u,v,s3⟩,s4,s5⟩:=st;exact⟨k z (by simp) _ s1,k TI (by simp) _ s2,⟨u,v,k TO (by simp) _ s3⟩,IsItr.keep (b:=b1) s4 fun o e=>k i1 (by simp) o e,IsItr.keep (b:=b2) s5 fun o e=>k i2 (by simp) o e⟩
 item:=by
  intro X hP hw hK hc i pins s σ H E I hf st hg;subst hP hw hK;obtain⟨xs,ys,x,y,q1,q2,e1,e2⟩:=hg;obtain⟨its,r1,p1⟩:=q1.heap I;obtain⟨jts,r2,p2⟩:=q2.heap I;obtain⟨s1,s2,⟨u0,v0,s3⟩,s4,s5⟩:=st;have Z:=Jkr I q1 q2 hf nd;have hh:X.A.in1.handled=none:=I.ok.hd hc;have ne1:a1≠i1:=FpOk.off I q1 (hf i1 (by simp));have ne2:a2≠i2:=FpOk.off I q2 (hf i2 (by simp));have D1:=Draws.sq (prog:=X.prog) (w:=X.w) (b:=b1) (xs:=its.toArray) hh i1 ne1
  have D2:=Draws.sq (prog:=X.prog) (w:=X.w) (b:=b2) (xs:=jts.toArray) hh i2 ne2
  have hT:s.TypeIs (.ref z) "zip":=⟨_,s1,rfl⟩
  have l1:i<its.toArray.size:=by have:=(Qh.mp e1).1;rw[Qm,<- r1.length];exact this
  have l2:i<jts.toArray.size:=by have:=(Qh.mp e2).1;rw[Qm,<- r2.length];exact this
  unfold pyNext;refine Qa (Kx (QS (name:=Ge "__next__") hT Lu (Gd Lu hT F.entry_zip_next (Jft Z D1 D2 s1 s2 s3 ⟨s4,p1⟩ ⟨s5,p2⟩ l1 l2 fun u v k tk pu pv t1 t2 t3 t4 t5 t6 t7 t8=>Qi ?_) (F.args_zip_next_1 _))));refine⟨_,rfl,wpAny_letOwnedTupleGo_zip (s:={ s with heap:=k,toks:=tk }) t1 fun k2 t9 e9=>?_⟩
  replace e9:Qz z k k2:=e9;obtain⟨ux,hx1,rx⟩:=r1.get e1;obtain⟨uy,hy1,ry⟩:=r2.get e2
  have eu:u=ux:=by
   have pu':its[i]?=some u:=by simpa using pu
   rw[hx1] at pu';exact(QG pu').symm
  have ev:v=uy:=by
   have pv':jts[i]?=some v:=by simpa using pv
   rw[hy1] at pv';exact(QG pv').symm
  subst eu ev
  have zlt:∀b∈[z,TI,TO,i1,i2],b<s.heap.objs.size:=fun b hb=>by
   simp only[Qg,QX,or_false] at hb;rcases hb with rfl|rfl|rfl|rfl|rfl
   ·exact Qo s1
   ·exact Qo s2
   ·exact Qo s3
   ·obtain⟨_,e,_⟩:=IsItr.obj (b:=b1) s4;exact Qo e
   ·obtain⟨_,e,_⟩:=IsItr.obj (b:=b2) s5;exact Qo e
  have nz:s.heap.objs.size≠z:=KF (zlt z (by simp))
  -- the pair is laid,then the private objects turn
  have I1:Inv X pins σ (upd H s.heap.objs.size (.tup [x,y])) { s with heap:=s.heap.push { cls:=.type "tuple",data:=.seq #[u,v] },toks:=s.toks } :=
   I.laid (o:=.tup [x,y]) (fun b ob q=>Qf _ q) (Qk _) ⟨by show 2<=sizeLine;decide,[u,v],.cons rx (.cons ry .nil),⟨_,Qj _ rfl,rfl,_,rfl⟩⟩
  have hf1:∀b∈[z,TI,TO,i1,i2],FpOk X pins (upd H s.heap.objs.size (.tup [x,y])) b:=fun b hb=>⟨by rw[Jh (Qx (zlt b hb))];exact(hf b hb).1,(hf b hb).2⟩
  have I2:Inv X pins σ (upd H s.heap.objs.size (.tup [x,y])) { s with heap:=k2,toks:=tk }:=Inv.turnedL (s:={ s with heap:=s.heap.push { cls:=.type "tuple",data:=.seq #[u,v] },toks:=s.toks }) I1 (fun b o hb q=>by
   simp only[Qg,QX,or_false,not_or] at hb;refine e9.extBut b o hb.1 ?_
   by_cases hbs:b=s.heap.objs.size
   ·subst hbs;have q':(s.heap.push { cls:=.type "tuple",data:=.seq #[u,v] }).get? s.heap.objs.size=some o:=q;rw[Qj _ rfl] at q';cases q';exact t6
   ·have q':s.heap.get? b=some o:=by have q2:(s.heap.push { cls:=.type "tuple",data:=.seq #[u,v] }).get? b=some o:=q;exact(LW s.heap b _ hbs).symm.trans q2
    exact t8 b o hb.1 hb.2.2.1 hb.2.2.2.1 hb.2.2.2.2 q') hf1
  refine⟨.ref s.heap.objs.size,_,I2,rfl,⟨_,x,y,rfl,I.hok.fresh (Qk _),rfl,fun xs' ys' h1 h2=>?_⟩,⟨t9,e9.extBut _ _ Z.a1 t2,⟨_,_,e9.extBut _ _ Z.a2 t3⟩,?_,?_⟩,fun b hb=>(hf1 b hb).1⟩
  ·rw[Sq.inj I h1 q1,Sq.inj I h2 q2];exact⟨e1,e2⟩
  ·exact IsItr.keep (b:=b1) t4.1 fun o e=>e9.extBut _ _ (fun q=>Z.z1 (q▸Z.m1)) e
  ·exact IsItr.keep (b:=b2) t5.1 fun o e=>e9.extBut _ _ (fun q=>Z.z2 (q▸Z.m2)) e
 done:=by
  intro X hP hw hK hc i pins s σ H E I hf st hg;subst hP hw hK;obtain⟨xs,ys,q1,q2,ei⟩:=hg;obtain⟨its,r1,p1⟩:=q1.heap I;obtain⟨jts,r2,p2⟩:=q2.heap I;obtain⟨s1,s2,⟨u0,v0,s3⟩,s4,s5⟩:=st;have Z:=Jkr I q1 q2 hf nd;have hh:X.A.in1.handled=none:=I.ok.hd hc;have D1:=Draws.sq (prog:=X.prog) (w:=X.w) (b:=b1) (xs:=its.toArray) hh i1 (FpOk.off I q1 (hf i1 (by simp)));have D2:=Draws.sq (prog:=X.prog) (w:=X.w) (b:=b2) (xs:=jts.toArray) hh i2 (FpOk.off I q2 (hf i2 (by simp)))
  have hT:s.TypeIs (.ref z) "zip":=⟨_,s1,rfl⟩
  have n1:its.toArray.size=xs.length:=by rw[Qm,r1.length]
  have n2:jts.toArray.size=ys.length:=by rw[Qm,r2.length]
  unfold pyNext;refine Qa (Kx (QS (name:=Ge "__next__") hT Lu (Gd Lu hT F.entry_zip_next (JhL Z D1 D2 s1 s2 s3 ⟨s4,p1⟩ ⟨s5,p2⟩ (by omega) fun k e tk kk he=>?_) (F.args_zip_next_1 _))));obtain⟨o,ho,hoc⟩:=he;refine Qa (Lg (T:="StopIteration") (b:=true) ⟨o,ho,hoc⟩ MG (Qi ⟨rfl,?_⟩));exact I.turnedL (fun b o hb q=>by simp only[Qg,QX,or_false,not_or] at hb;exact kk b o hb.1 hb.2.2.1 hb.2.2.2.1 hb.2.2.2.2 q) hf
 self:=fun _ _ _ _ _ st h=>wpAny_pyIter_zip st.1 h
noncomputable def iZp(K:Frag)(ta:TA):TI:=fun σ H R=>ta σ H fun vs H1=>∃(b1 b2:Bool) (a1 a2:Addr) (xs ys:List V),vs=[.ref a1,.ref a2]/\Sq b1 K H1 a1 xs/\Sq b2 K H1 a2 ys/\R (Itz K b1 b2 a1 a2) H1
theorem JaN{X:Cx}{K:Frag}{elts:List Expr}{kk:Nat}{tpos:Pos}{a b:Expr}{ta:TA}{p pos:Pos}(hK:X.K=K)(hg:Gl X "zip")(hm:X.mg "zip"=none)(ha:PA X [a,b] ta)(hs:starEach [a,b] X.env=[(false,eval a X.env),(false,eval b X.env)]:=by rfl)
 (hs2:starEach [b] X.env=[(false,eval b X.env)]:=by rfl):PI X (.Tuple elts kk tpos) (.Call (.Name "zip" p) [a,b] [] pos) (iZp K ta):=by
 subst hK;intro pins s σ H R I h;refine Call_ (UH I hg hm Jkz (Gu (thn (ha pos pins s σ H _ I h) fun us s1 ⟨vs,H1,I1,r1,q1⟩=>?_) (by rw[hs,hs2]) (by rw[hs2];rfl)));obtain⟨b1,b2,a1,a2,xs,ys,e,c1,c2,q⟩:=q1;subst e
 cases r1 with
 | cons r rr =>
 cases rr with
 | cons r' rr =>
 cases rr;cases r;cases r';obtain⟨its,w1,p1⟩:=c1.heap I1;obtain⟨jts,w2,p2⟩:=c2.heap I1;refine JeH p1 p2 fun h' t1 t2 t3 t4 t5 kp=>wpAny_pyIter_zip t1 ?_
 refine⟨_,[s1.heap.objs.size+4,s1.heap.objs.size+2,s1.heap.objs.size+3,s1.heap.objs.size,s1.heap.objs.size+1],_,_,H1,rfl,I1.kept (t':=s1.toks) kp,JhE b1 b2 a1 a2 _ _ _ _ _ (by simp),⟨t1,t2,⟨_,_,t3⟩,t4,t5⟩,fun b hb=>?_,q⟩
 have hle:s1.heap.objs.size<=b:=by simp only[Qg,QX,or_false] at hb;rcases hb with rfl|rfl|rfl|rfl|rfl <;> first|exact Qk _|exact Nat.le_add_right _ _
 exact I1.fpOk hle (I1.hok.fresh hle)
end L2

namespace LE
open PySem L2 LR
noncomputable def JhK(ds es:List D):List D:=List.zipWith (fun a b=>.tup [a,b]) ds es
noncomputable def Jgt(m:Bool)(as:En->Option (List Sl)):En->Option (List D):=fun E=>(as E).bind fun ss=>match ss with
 | [s,t]=>(s.it m).bind fun ds=>(t.it m).bind fun es=>some (JhK ds es)
 | _=>none
section
variable{K:Frag}{C:Addr}{m:Bool}
theorem Jiz{H H1 H1':Hp}{v:V}{s:Sl}{ds:List D}(r:RR K C H H1 H1' v s)(i:Same H1 H1')(e:s.it m=some ds) :
 ∃(b:Bool) (a:Addr) (xs:List V),v=.ref a/\(∀A,(m=true->A=H1')->∀H0' H',SStep A (Yo H H1 H1') H0' H'->Sq b K H' a xs)/\RDL K C (Yo H H1 H1') xs ds:=by
 have f:=JO (Hs:=H) i
 have shared:∀{d:D},RD K C (Yo H H1 H1') v d->(Sl.sh d).q=some ds->∃(b:Bool) (a:Addr) (xs:List V),v=.ref a/\(∀A,(m=true->A=H1')->∀H0' H',SStep A (Yo H H1 H1') H0' H'->Sq b K H' a xs)/\RDL K C (Yo H H1 H1') xs ds:=fun {d} r e=>by
  cases d with
  | lst es=>cases e;obtain⟨l,xs,h1,h2,h3⟩:=RD.lstI r;exact⟨false,l,xs,h1,fun A _ H0' H' st=>SqL.of (st.i _ _ (st.z _ _ h2)),h3⟩
  | fz es=>cases e;obtain⟨l,xs,h1,h2,h3⟩:=RD.fzI r;exact⟨false,l,xs,h1,fun A _ H0' H' st=>(st.z.trans st.i).seq h2,h3⟩
  | tup es=>cases e;obtain⟨l,xs,h1,h2,h3⟩:=RD.tupI r;exact⟨true,l,xs,h1,fun A _ H0' H' st=>(st.z.trans st.i).seqT h2,h3⟩
  | _=>cases e
 cases s with
 | no=>cases e
 | sh d=>exact shared (RD.mono f.z r) e
 | own es=>exact shared (RR.frz (s:=.own es) i r rfl) e
 | bd _ _=>cases e
 | bt _ _=>cases e
 | od _ _=>cases e
 | ot _ _=>cases e
 | bo es =>
  unfold Sl.it at e;dsimp only at e;split at e
  ·next hm=>cases e;obtain⟨l,xs,h1,h2,h3⟩:=r;refine⟨false,l,xs,h1,fun A hA H0' H' st=>?_,h3.mono f.z⟩;have:=hA hm;subst this;exact SqL.of (st.b _ _ h2)
  ·cases e
theorem JmC{t:TA}{ev:En->Option (List Sl)}(ha:SA K C t ev):SI K C m (iZp K t) (Jgt m ev):=by
 intro B H0 H σ E ds R I e q;obtain⟨ss,e1,e⟩:=bind_some e;split at e
 ·next s u =>
  obtain⟨ds1,e2,e⟩:=bind_some e;obtain⟨ds2,e3,e⟩:=bind_some e;cases e;refine ha B H0 H σ E _ _ I e1 fun vs H1 H1' s1 r1=>?_
  obtain⟨v,w,rfl,ra,rb⟩:=r1.two;have f:=JO (Hs:=H) s1.i;obtain⟨b1,a1,xs,rfl,k1,w1⟩:=Jiz ra s1.i e2;obtain⟨b2,a2,ys,rfl,k2,w2⟩:=Jiz rb s1.i e3;have hA:m=true->(if m=true then H1' else B)=H1':=fun h=>if_pos h
  have sA:Same (if m=true then H1' else B) H1':=by
   split
   ·exact Same.refl _
   ·exact I.b.trans s1.h
  have st0:SStep (if m=true then H1' else B) (Yo H H1 H1') (Yo H H1 H1') H1':=⟨sA,Same.refl _,fun _ _ e=>.inl e,f.i⟩
  refine⟨b1,b2,a1,a2,xs,ys,rfl,k1 _ hA _ _ st0,k2 _ hA _ _ st0,q _ _ _ (s1.comp f fun _ z=>z) ?_⟩;intro H0' H' st;have q1:=k1 _ hA _ _ st;have q2:=k2 _ hA _ _ st;refine⟨fun i d e=>?_,⟨xs,ys,q1,q2,by unfold JhK;rw[List.length_zipWith,w1.1,w2.1]⟩⟩;unfold JhK at e;rw[Mw] at e
  cases g1:ds1[i]? with
  | none=>rw[g1] at e;cases e
  | some d1 =>
   cases g2:ds2[i]? with
   | none=>rw[g1,g2] at e;cases e
   | some d2 =>
    rw[g1,g2] at e;cases e;obtain⟨x,x1,x2⟩:=w1.get g1;obtain⟨y,y1,y2⟩:=w2.get g2;refine⟨⟨xs,ys,x,y,q1,q2,x1,y1⟩,?_⟩;rintro z H2 ⟨p,u',v',rfl,hp,rfl,hv⟩;obtain⟨h1,h2⟩:=hv xs ys q1 q2;rw[x1] at h1;cases h1;rw[y1] at h2;cases h2;have h0:H0' p=none:=Same.free st.i hp;refine⟨upd H0' p (.tup [x,y]),⟨.new hp,.new h0,fun a o e=>?_,fun a o e=>?_⟩,?_⟩
    ·by_cases h:a=p
     ·subst h;exact .inr (.inl hp)
     ·rw[Jh h] at e;exact .inl e
    ·by_cases h:a=p
     ·subst h;rw[Jq] at e ⊢;exact e
     ·rw[Jh h] at e ⊢;exact st.i a o e
    ·exact .mkT (.of Jq) (.cons (x2.mono (st.z.trans (.new h0))) (.cons (y2.mono (st.z.trans (.new h0))) .nil))
 ·cases e
theorem Ja1{α β:Type}(f:α->D)(g:β->D)(xs:List α)(ys:List β):JhK (xs.map f) (ys.map g)=(GD xs ys).map fun p=>.tup [f p.1,g p.2]:=by
 unfold JhK
 induction xs generalizing ys with
 | nil=>rfl
 | cons x xs ih=>cases ys with
  | nil=>rfl
  | cons y ys=>simp[ih]
end
end LE

namespace PySem
namespace F
theorem Jhl:Manifest.owners.lookup (String.ofList ['d','e','s','r','e','v','e','r'].reverse)=some Manifest.sig_reversed:=by kernel_rfl
theorem JaP:Slot "reversed" "__init__" "object.__init__" :=
 .of (owner:="object") (n:="__init__") (by rw[typeLookup_type,builtinLookup_eq_fast];kernel_rfl) (by decide +kernel) (by decide +kernel) (by decide +kernel) (by first | exact .inl (by decide +kernel) | exact .inr (by decide +kernel)) (by rw[LM];kernel_rfl)
theorem rv_slot_next:Slot "reversed" "__next__" "reversed.__next__" :=
 .of (owner:="reversed") (n:="__next__") (by rw[typeLookup_type,builtinLookup_eq_fast];kernel_rfl) (by decide +kernel) (by decide +kernel) (by decide +kernel) (by first | exact .inl (by decide +kernel) | exact .inr (by decide +kernel)) (by rw[LM];kernel_rfl)
theorem rv_slot_iter:Slot "reversed" "__iter__" "reversed.__iter__" :=
 .of (owner:="reversed") (n:="__iter__") (by rw[typeLookup_type,builtinLookup_eq_fast];kernel_rfl) (by decide +kernel) (by decide +kernel) (by decide +kernel) (by first | exact .inl (by decide +kernel) | exact .inr (by decide +kernel)) (by rw[LM];kernel_rfl)
theorem rv_args_next(a:Value):argsOk "reversed.__next__" ⟨[a],[]⟩:=by unfold argsOk;rw[signature?_of (id:="reversed.__next__") (n:=['_','_','t','x','e','n','_','_']) (o:=['d','e','s','r','e','v','e','r']) (by kernel_rfl) Jhl];kernel_rfl
theorem rv_args_iter(a:Value):argsOk "reversed.__iter__" ⟨[a],[]⟩:=by unfold argsOk;rw[signature?_of (id:="reversed.__iter__") (n:=['_','_','r','e','t','i','_','_']) (o:=['d','e','s','r','e','v','e','r']) (by kernel_rfl) Jhl];kernel_rfl
theorem rv_entry_next:entryFor table "reversed.__next__"=some Builtin.«reversed.__next__»:=entryFor_of_tree (by kernel_rfl)
theorem rv_entry_iter:entryFor table "reversed.__iter__"=some Builtin.«dict_keyiterator.__iter__» :=
 entryFor_alias (id':="dict_keyiterator.__iter__") (by kernel_rfl) (by first | rfl | decide +kernel | (unfold String.splitOn;simp +decide [String.splitOnAux])) (by decide +kernel) (by kernel_rfl)
theorem rv_called:TypeCalled "reversed" "reversed.__new__" "object.__init__" :=
 ⟨by decide +kernel,by decide +kernel,⟨_,_,mro_reversed⟩,made_reversed,by decide +kernel,sub_reversed_self,JaP⟩
theorem rv_tuple_none:typeLookup (.type "tuple") "__reversed__"=pure none:=by rw[typeLookup_type,builtinLookup_eq_fast];kernel_rfl
theorem rv_tuple_dict:isSubtype (.type "tuple") (.type "dict")=pure false:=by rw[LM];kernel_rfl
end F
abbrev Jcd(h:Heap)(r a:Addr)(i:Int):Prop:=h.get? r=some { cls:=.type "reversed",dict:=none,data:=.fields #[.ref a,rawInt i],slots:=#[] }
section
variable{prog:Program}{w:World}{A:Around}{E:Value->Shared->Prop}{s:Shared}{a r:Addr}{xs:Array Value}
theorem JgO(a:Addr)(xs:Array Value):Meets (Builtin.«reversed.__new__» ⟨[.type "reversed",.ref a],[]⟩) (fun _ R s=>s.heap.IsTuple a xs/\(xs.size:Int)<2 ^ 63 ∧
 R (.ok (.ret (.ref s.heap.objs.size))) { s with heap:=s.heap.push { cls:=.type "reversed",data:=.fields #[.ref a,rawInt ((xs.size:Int)-1)] },toks:=s.toks+1+1 }) :=
 .of_wp fun prog w A R s h=>by
  obtain⟨hp,g,d,tk,os⟩:=s;obtain⟨q1,q2,h⟩:=h;have hT:(⟨hp,g,d,tk,os⟩:Shared).TypeIs (.ref a) "tuple":=q1.typeIs;unfold Builtin.«reversed.__new__»;refine Qa (G2 (newClass_reversed _) ?_)
  try dsimp only
  refine Qa (G2 (a:=()) (by first|rfl|kernel_rfl) ?_);refine Qa (G2 (a:=()) (by first|rfl|kernel_rfl) ?_)
  try dsimp only
  refine Qa (Mq hT F.rv_tuple_none ?_)
  try dsimp only
  refine Qa ?_;refine Qa (m:=isInstance (.ref a) (.type "dict")) (Lg hT F.rv_tuple_dict ?_);refine Qa (Mq hT QO.lookup ?_);refine Qi ?_;refine Qa (PyProof.Rows.len_tuple (s:=⟨hp,g,d,tk,os⟩) q1 q2 ?_);refine Qa (G2 (a:=some (xs.size:Int)) rfl ?_)
  try dsimp only
  refine Qa ?_;show wpAny _ _ (newObj (.type "reversed") (.fields #[.ref a,rawInt ((xs.size:Int)-1)])) _ _ _;exact Q9 (Qi ⟨_,rfl,h⟩) (by size_fits)
theorem JhW{Q:Value->Shared->Prop}(q1:s.heap.IsTuple a xs)(q2:(xs.size:Int)<2 ^ 63)
 (h:∀h' tk,Jcd h' s.heap.objs.size a ((xs.size:Int)-1)->(∀c o,s.heap.get? c=some o->h'.get? c=some o)->Q (.ref s.heap.objs.size) { s with heap:=h',toks:=tk }) :
 wpAny (model prog w) A (call (.type "reversed") [.ref a]) Q E s:=by
 refine callType_new F.rv_called (by decide) (F.typeCall_reversed_1 _) (F.newCall_reversed_1 _) (fun obj=>F.args_object_init_2 obj _) F.entry_reversed_new (JgO a xs) ⟨q1,q2,?_⟩;exact⟨⟨_,Qj _ rfl,rfl⟩,h _ _ (Qj _ rfl) fun c o q=>Qf _ q⟩
theorem JiL{i:Nat}{x:Value}{Q:Option Value->Shared->Prop}(hit:Jcd s.heap r a (i:Int))(hl:s.heap.IsTuple a xs)(hb:(i:Int)<2 ^ 63)(hx:xs[i]?=some x)
 (hQ:∀h' tk,Jcd h' r a ((i:Int)-1)->Qz r s.heap h'->Q (some x) { s with heap:=h',toks:=tk }):wpAny (model prog w) A (pyNext (.ref r)) Q E s:=by
 have hT:s.TypeIs (.ref r) "reversed":=⟨_,hit,rfl⟩
 have hi:i<xs.size:=by
  by_cases z:i<xs.size
  ·exact z
  ·rw[Array.getElem?_eq_none (by omega)] at hx;cases hx
 unfold pyNext;refine Qa (Kx (QS (name:=Ge "__next__") hT F.rv_slot_next
  (Gd F.rv_slot_next hT F.rv_entry_next ?_ (F.rv_args_next _))))
 unfold Builtin.«reversed.__next__»;refine Qa (G2 (a:=(Value.ref r,[])) rfl ?_)
 try dsimp only
 refine Qa (QM hit rfl (x:=.ref a) rfl ?_);refine Qa (QM hit rfl (x:=rawInt (i:Int)) rfl ?_);show wpAny _ _ (if (i:Int)<0 then _ else _) _ _ s;rw[if_neg (by omega)];show wpAny _ _ (specialOf (.ref a) _ >>= _) _ _ s;refine Qa (Mq hl.typeIs QO.lookup ?_);show wpAny _ _ (mkInt (i:Int) >>= _) _ _ s;refine Qa (wpAny_mkInt ?_);refine Qa (Kx (PyProof.Rows.getItem_tuple (s:={ s with toks:=s.toks+1 }) hl (by omega) hb (j:=i) (by simp[seqIndex?];omega) hx ?_))
 show wpAny _ _ (field (.ref r) 1 >>= _) _ _ _;refine Qa (QM hit rfl (x:=rawInt (i:Int)) rfl ?_)
 show wpAny _ _ (setField (.ref r) 1 (rawInt ((i:Int)-1)) >>= _) _ _ _;refine Qa (QP hit (by simp) fun k1 y1 e1=>?_);exact Qi ⟨x,rfl,Qi (hQ k1 _ y1 e1)⟩
theorem JkF{Q:Option Value->Shared->Prop}(hh:A.handled=none)(hit:Jcd s.heap r a (-1))
 (hQ:∀h',MF r s.heap h'->Q none { s with heap:=h' }):wpAny (model prog w) A (pyNext (.ref r)) Q E s:=by
 have hT:s.TypeIs (.ref r) "reversed":=⟨_,hit,rfl⟩
 unfold pyNext;refine Qa (Kx (QS (name:=Ge "__next__") hT F.rv_slot_next
  (Gd F.rv_slot_next hT F.rv_entry_next ?_ (F.rv_args_next _))))
 unfold Builtin.«reversed.__next__»;refine Qa (G2 (a:=(Value.ref r,[])) rfl ?_)
 try dsimp only
 refine Qa (QM hit rfl (x:=.ref a) rfl ?_);refine Qa (QM hit rfl (x:=rawInt (-1)) rfl ?_);show wpAny _ _ (if (-1:Int)<0 then _ else _) _ _ s;rw[if_pos (by decide)];refine Qa (Ka ?_);refine Qa ?_;refine Qa (m:=setField (.ref r) 1 (rawInt (-1))) (QP hit (by simp) fun k1 y1 e1=>?_);refine QP (s:={ s with heap:=k1 }) y1 (by simp) fun k2 y2 e2=>?_
 refine Qa ?_;show wpAny _ _ (newExc (.type "StopIteration") [] >>= _) _ _ _;refine Qa ?_;simp only[newExc,newTuple];refine Qa (Q9 ?_ (by size_fits));refine Qa (m:=firstArgMember _ _) (G2 (a:=Value.none) (by first | rfl | (simp only[firstArgMember];rfl)) ?_);refine Q9 ?_ (by size_fits);simp only[raiseNew];refine Qa (wpAny_handled ?_)
 first|rw[show A.in1.handled=none from hh]|rw[hh]
 refine Qa (Qi (wpAny_throw ?_));refine Qa (Lg (T:="StopIteration") (b:=true) ⟨_,Qj _ rfl,rfl⟩ MG ?_)
 replace e1:Qz r s.heap k1:=e1
 replace e2:Qz r k1 k2:=e2;refine Qi (hQ _ ?_);exact(MZ (MZ (fun b o hb q=>e2.extBut b o hb (e1.extBut b o hb q)) _) _)
theorem JdH{i:Int}{Q:Value->Shared->Prop}(hit:Jcd s.heap r a i)(h:Q (.ref r) s):wpAny (model prog w) A (pyIter (.ref r)) Q E s:=by
 have hT:s.TypeIs (.ref r) "reversed":=⟨_,hit,rfl⟩
 refine wpAny_pyIter_slot hT F.rv_slot_iter (Gd F.rv_slot_iter hT F.rv_entry_iter ?_ (F.rv_args_iter _));show wpAny _ _ (ret (.ref r)) _ _ s;exact Qi ⟨_,rfl,"reversed",_,hT,F.rv_slot_next.lookup,h⟩
end
end PySem
namespace L2
open PySem PySem.Spec PyProof.Rows
noncomputable def Itv(K:Frag)(b:Bool)(a:Addr)(n:Nat):It :=
 ⟨fun i H=>i<n/\∃xs,Sq b K H a xs/\xs.length=n,fun i H x H'=>H'=H/\∀xs,Sq b K H a xs->xs[n-1-i]?=some x,fun i _=>i=n⟩
noncomputable def JoH(b:Bool)(r a:Addr)(i:Int)(h:Heap):Prop:=match b with
 | true=>Jcd h r a i
 | false=>h.IsRevIter r a i
theorem Jem{P:Program}{w:World}{K:Frag}{tg:Expr}(b:Bool)(a r:Addr)(n:Nat)(hn:n<=sizeLine):Turn P w K tg (Itv K b a n) [r] r (fun i h=>JoH b r a ((n:Int)-1-(i:Int)) h) where
 mem:=by simp
 obj:=fun i h st c hc=>by
  have e:c=r:=by simpa using hc
  subst e
  cases b with
  | true=>exact⟨_,st,fun v z=>nomatch (show Data.fields _=Data.cell v from z)⟩
  | false=>obtain⟨o,e,_,d⟩:=st;exact⟨o,e,fun v z=>by rw[d] at z;cases z⟩
 keep:=fun i h h' st k=>by
  cases b with
  | true=>exact k r (by simp) _ st
  | false=>exact Heap.IsRevIter.at st fun o e=>k r (by simp) o e
 item:=by
  intro X hP hw hK hc i pins s σ H E I hf st hg;subst hP hw hK;obtain⟨hi,xs,hq,hlen⟩:=hg;obtain⟨f0,f1,f2,f3,f4,f5⟩:=hf r (by simp);obtain⟨its,rv,p⟩:=hq.heap I;obtain⟨x,hx⟩:∃x,xs[n-1-i]?=some x:=⟨xs[n-1-i]'(by omega),by simp⟩
  obtain⟨u,hu,ru⟩:=rv.get hx;have e:(n:Int)-1-(i:Int)=((n-1-i:Nat):Int):=by omega
  have e2:((n-1-i:Nat):Int)-1=(n:Int)-1-((i+1:Nat):Int):=by omega
  rw[e] at st;have hz:sizeLine<2 ^ 63:=by decide
  cases b with
  | true =>
   refine JiL (s:=s) st p (by omega) (x:=u) (by simpa using hu) fun h' tk st' sb=>?_
   replace sb:Qz r s.heap h':=sb;have I1:Inv X pins σ H { s with heap:=h',toks:=tk }:=I.turned (fun b o hb e=>(sb.2 b hb).trans e) f0 f1 f3 f4 f5;rw[e2] at st';exact⟨u,rfl,Jbl (s:={ s with heap:=h',toks:=tk }) st' rfl rfl (by decide) ⟨x,H,I1,ru,⟨rfl,fun ys hy=>by rw[Sq.inj I hy hq];exact hx⟩,st',fun b hb=>(hf b hb).1⟩⟩
  | false =>
   refine wpAny_pyNext_rev_item (s:=s) st p (x:=u) (by simpa using hu) fun h' st' sb=>?_
   have I1:Inv X pins σ H { s with heap:=h' }:=I.turned (t':=s.toks) (fun b o hb e=>(sb.2 b hb).trans e) f0 f1 f3 f4 f5;rw[e2] at st';obtain⟨o,eo,co,d⟩:=id st';exact⟨u,rfl,Jbl (s:={ s with heap:=h' }) eo co d (by decide) ⟨x,H,I1,ru,⟨rfl,fun ys hy=>by rw[Sq.inj I hy hq];exact hx⟩,st',fun b hb=>(hf b hb).1⟩⟩
 done:=by
  intro X hP hw hK hc i pins s σ H E I hf st hg;subst hP hw hK;obtain⟨f0,f1,f2,f3,f4,f5⟩:=hf r (by simp)
  replace hg:i=n:=hg;have e:(n:Int)-1-(i:Int)=-1:=by omega
  rw[e] at st
  cases b with
  | true=>exact JkF (s:=s) (a:=a) (I.ok.hd hc) st fun h' eb=>⟨rfl,I.turned (t':=s.toks) (fun b o hb e=>eb b o hb e) f0 f1 f3 f4 f5⟩
  | false=>exact wpAny_pyNext_rev_end (s:=s) (I.ok.hd hc) st fun h' eb=>⟨rfl,I.turned (t':=s.toks) (fun b o hb e=>eb b o hb e) f0 f1 f3 f4 f5⟩
 self:=fun _ i s _ _ st h=>by
  cases b with
  | true=>exact JdH (s:=s) st h
  | false=>exact wpAny_pyIter_revIter (s:=s) st h
noncomputable def iRv(K:Frag)(ta:TA):TI:=fun σ H R=>ta σ H fun vs H1=>∃(b:Bool) (a:Addr) (xs:List V),vs=[.ref a]/\Sq b K H1 a xs/\R (Itv K b a xs.length) H1
theorem Ji0{X:Cx}{K:Frag}{tg:Expr}{a:Expr}{ta:TA}{p pos:Pos}(hK:X.K=K)(hg:Gl X "reversed")(hm:X.mg "reversed"=none)(ha:PA X [a] ta)(hs:starEach [a] X.env=[(false,eval a X.env)]:=by rfl)
:PI X tg (.Call (.Name "reversed" p) [a] [] pos) (iRv K ta):=by
 subst hK;intro pins s σ H R I h;refine Call_ (UH I hg hm Ja5 (Gu (thn (ha pos pins s σ H _ I h) fun us s1 ⟨vs,H1,I1,r1,q1⟩=>?_) (by rw[hs];rfl) (by rfl)));obtain⟨b,a,xs,e,c1,q⟩:=q1;subst e
 cases r1 with
 | cons r rr =>
 cases rr;cases r
 have fresh:∀c∈[s1.heap.objs.size],FpOk X pins H1 c:=fun c hc=>by
  have e:c=s1.heap.objs.size:=by simpa using hc
  subst e;exact I1.fpOk (Qk _) (I1.hok.fresh (Qk _))
 have hz:sizeLine<2 ^ 63:=by decide
 cases b with
 | true =>
  obtain⟨its,rv,p1,sz⟩:=I1.tuple c1;have hl:=rv.length;refine JhW (s:=s1) (xs:=its.toArray) p1 (by rw[Qm];omega) fun h' tk t1 kp=>JdH (s:={ s1 with heap:=h',toks:=tk }) t1 ?_
  refine⟨_,[s1.heap.objs.size],_,_,H1,rfl,I1.kept (t':=tk) kp,Jem true a _ xs.length sz,?_,fresh,q⟩;show Jcd h' s1.heap.objs.size a _;have e:(its.toArray.size:Int)-1=(xs.length:Int)-1-((0:Nat):Int):=by rw[Qm,<- hl];simp
  rw[<- e];exact t1
 | false =>
  obtain⟨its,rv,p1,sz⟩:=I1.list c1;have hl:=rv.length;refine call_reversed_list (s:=s1) p1.isList (wpAny_pyIter_revIter (l:=a) (i:=((its.toArray.size:Int)-1)) ⟨_,Qj _ rfl,rfl,rfl⟩ ?_);refine⟨_,[s1.heap.objs.size],_,_,H1,rfl,I1.kept (t':=s1.toks) fun b o e=>Qf _ e,Jem false a _ xs.length sz,?_,fresh,q⟩;refine⟨_,Qj _ rfl,rfl,?_⟩;have e:(its.toArray.size:Int)-1=(xs.length:Int)-1-((0:Nat):Int):=by rw[Qm,<- hl];simp
  rw[e];rfl
end L2
namespace LE
open PySem L2 LR
noncomputable def JkY(m:Bool)(as:En->Option (List Sl)):En->Option (List D):=fun E=>(as E).bind fun ss=>match ss with
 | [s]=>(s.it m).map List.reverse
 | _=>none
section
variable{K:Frag}{C:Addr}{m:Bool}
theorem JmB{t:TA}{ev:En->Option (List Sl)}(ha:SA K C t ev):SI K C m (iRv K t) (JkY m ev):=by
 intro B H0 H σ E ds R I e q;obtain⟨ss,e1,e⟩:=bind_some e;split at e
 ·next s =>
  obtain⟨ds1,e2,e⟩:=Gx.mp e;subst e;refine ha B H0 H σ E _ _ I e1 fun vs H1 H1' s1 r1=>?_
  obtain⟨v,rfl,ra⟩:=r1.one;have f:=JO (Hs:=H) s1.i;obtain⟨b1,a1,xs,rfl,k1,w1⟩:=Jiz ra s1.i e2;have hA:m=true->(if m=true then H1' else B)=H1':=fun h=>if_pos h
  have sA:Same (if m=true then H1' else B) H1':=by
   split
   ·exact Same.refl _
   ·exact I.b.trans s1.h
  have st0:SStep (if m=true then H1' else B) (Yo H H1 H1') (Yo H H1 H1') H1':=⟨sA,Same.refl _,fun _ _ e=>.inl e,f.i⟩
  refine⟨b1,a1,xs,rfl,k1 _ hA _ _ st0,q _ _ _ (s1.comp f fun _ z=>z) ?_⟩;intro H0' H' st;have q1:=k1 _ hA _ _ st;refine⟨fun i d e=>?_,by rw[GL,w1.1];rfl⟩;have hi:i<ds1.length:=by have:=(Qh.mp e).1;rwa [GL] at this
  rw[GC hi,<- w1.1] at e;obtain⟨x,x1,x2⟩:=w1.get e;refine⟨⟨by rw[w1.1];exact hi,xs,q1,rfl⟩,?_⟩;rintro z H2 ⟨rfl,hv⟩;have h1:=hv xs q1;rw[x1] at h1;cases h1;exact⟨H0',.refl st.i,x2.mono st.z⟩
 ·cases e
end
end LE

namespace PySem
open AutoSeq1 (wpAny_loadPart')
abbrev enO(it:Addr):Obj:={ cls:=.type "enumerate",data:=.fields #[.none,.bool false,.ref it,rawInt 0,.none,.none] }
theorem Je4(b:Bool)(a:Addr)(xs:Array Value):Meets (Builtin.«enumerate.__new__» ⟨[.type "enumerate",.ref a],[]⟩) (fun _ R s=>IsSq b s.heap a xs ∧
 R (.ok (.ret (.ref (s.heap.push (itO b a)).objs.size))) { s with heap:=(s.heap.push (itO b a)).push (enO s.heap.objs.size) }) :=
 .of_wp fun prog w A R s h=>by
  obtain⟨hp,g,d,tk,os⟩:=s;obtain⟨q,h⟩:=h;have hsub:=sub_enumerate;have r:IsSq b (M0 ⟨hp,g,d,tk,os⟩) a xs:=q
  obtain⟨o,hl⟩:∃o,hp.get? a=some o:=by
   cases b with
   | true=>obtain⟨o,e,_⟩:=q;exact⟨o,e⟩
   | false=>obtain⟨o,e,_⟩:=q;exact⟨o,e⟩
  wp_walk using Lv hl
  refine wpAny_stack_any fun st=>Qi ?_
  split
  ·rename_i c _ _ _ _ _;cases (c == Value.type "enumerate")
   ·wp_walk using Lv hl,Us r
    exact⟨_,rfl,h⟩
   ·wp_walk using Lv hl,Us r
    exact⟨_,rfl,h⟩
  ·wp_walk using Lv hl,Us r
   exact⟨_,rfl,h⟩
section
variable{prog:Program}{w:World}{A:Around}{E:Value->Shared->Prop}{s:Shared}{b:Bool}{a e it:Addr}{xs:Array Value}
theorem JfN{Q:Value->Shared->Prop}(q:IsSq b s.heap a xs)
 (h:∀h',IsEnum h' (s.heap.objs.size+1) s.heap.objs.size 0 .none->IsItr b h' s.heap.objs.size a 0->(∀c o,s.heap.get? c=some o->h'.get? c=some o)->Q (.ref (s.heap.objs.size+1)) { s with heap:=h' }) :
 wpAny (model prog w) A (call (.type "enumerate") [.ref a]) Q E s:=by
 refine callType_new F.called_enumerate (by decide) (F.typeCall_enumerate_1 _) (F.newCall_enumerate_1 _) (fun obj=>F.args_object_init_2 obj _) F.entry_enumerate_new (Je4 b a xs) ⟨q,?_⟩;have hz:(s.heap.push (itO b a)).objs.size=s.heap.objs.size+1:=Q5 ..;have fi:(itO b a).isFreed=false:=by cases b <;> rfl
 have g2:((s.heap.push (itO b a)).push (enO s.heap.objs.size)).get? (s.heap.push (itO b a)).objs.size=some _:=Qj _ rfl
 have g1:((s.heap.push (itO b a)).push (enO s.heap.objs.size)).get? s.heap.objs.size=some _:=Qf _ (Qj _ fi)
 show _/\_;rw[hz] at g2;rw[hz];exact⟨⟨_,g2,rfl⟩,h _ g2 (.new g1) fun c o x=>Qf _ (Qf _ x)⟩
theorem Jf3{p:List Addr}{n i:Nat}{P:Nat->Value->Prop}{S:Nat->Heap->Prop}{old:Value}{Q:Value->Shared->Prop}(D:Draws prog w A it p n P S)(he:IsEnum s.heap e it i old)(st:S i s.heap)(hi:i<n)(hne:e∉p)(him:it∈p)
 (hQ:∀x h' tk t,P i x->IsEnumOut h' e it ((i:Int)+1) x s.heap.objs.size->S (i+1) h'->h'.get? s.heap.objs.size=some { cls:=.type "tuple",data:=.seq #[.int i t,x] }->h'.objs.size=s.heap.objs.size+1 ->
  (∀c o,c≠e->c≠it->s.heap.get? c=some o->h'.get? c=some o)->Q (.ref s.heap.objs.size) { s with heap:=h',toks:=tk }) :
 wpAny (model prog w) A (Builtin.«enumerate.__next__» ⟨[.ref e],[]⟩) (fun fin s'=>∃v,fin=.done (.ret v)/\Q v s') E s:=by
 obtain⟨hp,g,d,tk,os⟩:=s;have ne:e≠it:=fun q=>hne (q▸him)
 show wpAny _ _ (field (.ref e) 2 >>= _) _ _ _;refine Qa (QM he rfl (x:=.ref it) rfl (Qa (D.item i _ _ _ hi st fun x k1 t1 px s1 e1=>?_)))
 replace e1:Qz it hp k1:=e1;have E1:IsEnum k1 e it i old:=(e1.2 e ne).trans he;refine Qa (QM (s:=⟨k1,g,d,t1,os⟩) E1 rfl (x:=rawInt i) rfl ?_);show wpAny _ _ (field (.ref e) 4 >>= _) _ _ ⟨k1,g,d,t1,os⟩;refine Qa (QM (s:=⟨k1,g,d,t1,os⟩) E1 rfl (x:=.none) rfl ?_);show wpAny _ _ (mkInt i >>= _) _ _ ⟨k1,g,d,t1,os⟩;refine Qa (wpAny_mkInt ?_);show wpAny _ _ (setField (.ref e) 3 (rawInt ((i:Int)+1)) >>= _) _ _ ⟨k1,g,d,t1+1,os⟩
 refine Qa (QP E1 (by simp) fun k2 E2 e2=>?_)
 replace e2:Qz e k1 k2:=e2
 replace E2:IsEnum k2 e it ((i:Int)+1) old:=E2;show wpAny _ _ (setField (.ref e) 4 .none >>= _) _ _ ⟨k2,g,d,t1+1,os⟩;refine Qa (QP E2 (by simp) fun k3 E3 e3=>?_)
 replace e3:Qz e k2 k3:=e3
 replace E3:IsEnum k3 e it ((i:Int)+1) old:=E3;show wpAny _ _ (newTuple [.int i t1,x] >>= _) _ _ ⟨k3,g,d,t1+1,os⟩;refine Qa (wpAny_newTuple ?_);have hsz:k3.objs.size=hp.objs.size:=by rw[e3.1,e2.1,e1.1]
 have elt:e<hp.objs.size:=Qo he
 have E4:IsEnum (k3.push { cls:=.type "tuple",data:=.seq #[.int i t1,x] }) e it ((i:Int)+1) old:=Qf _ E3
 have T4:(k3.push { cls:=.type "tuple",data:=.seq #[.int i t1,x] }).get? hp.objs.size=some { cls:=.type "tuple",data:=.seq #[.int i t1,x] }:=by rw[<- hsz];exact Qj _ rfl
 have z4:(k3.push { cls:=.type "tuple",data:=.seq #[.int i t1,x] }).objs.size=hp.objs.size+1:=by rw[Q5,hsz]
 have kp:∀c o,c≠e->k1.get? c=some o->(k3.push { cls:=.type "tuple",data:=.seq #[.int i t1,x] }).get? c=some o:=fun c o c1 q=>Qf _ (e3.extBut c o c1 (e2.extBut c o c1 q))
 show wpAny _ _ (QW (.ref e) >>= _) _ _ ⟨k3.push { cls:=.type "tuple",data:=.seq #[.int i t1,x] },g,d,t1+1,os⟩;rw[hsz]
 generalize k3.push { cls:=.type "tuple",data:=.seq #[.int i t1,x] }=k4 at E4 T4 z4 kp ⊢
 refine Qa ?_;unfold QW;refine Qa (QM (s:=⟨k4,g,d,t1+1,os⟩) E4 rfl (x:=.none) rfl (Qi ?_));simp only[if_true];refine Qa (Ka (Qa (QM (s:=⟨k4,g,d,t1+1,os⟩) E4 rfl (x:=old) rfl (Qa (QP E4 (by simp) fun k5 E5 e5=>?_)))))
 replace e5:Qz e k4 k5:=e5
 replace E5:IsEnum k5 e it ((i:Int)+1) x:=E5;show wpAny _ _ (Gk (.ref e) (.ref hp.objs.size) >>= _) _ _ ⟨k5,g,d,t1+1,os⟩;refine Qa ?_;unfold Gk;refine Qa (QP E5 (by simp) fun k6 E6 e6=>?_)
 replace e6:Qz e k5 k6:=e6
 replace E6:IsEnumOut k6 e it ((i:Int)+1) x hp.objs.size:=E6;refine QP E6 (by simp) fun k7 E7 e7=>?_
 replace e7:Qz e k6 k7:=e7
 replace E7:IsEnumOut k7 e it ((i:Int)+1) x hp.objs.size:=E7;have up:∀c o,c≠e->k4.get? c=some o->k7.get? c=some o:=fun c o c1 q=>e7.extBut c o c1 (e6.extBut c o c1 (e5.extBut c o c1 q))
 refine Qa (KD (Qi ⟨_,rfl,hQ x k7 (t1+1) t1 px E7 ?_ (up _ _ (KF elt) T4) (by rw[e7.1,e6.1,e5.1,z4]) fun c o c1 c2 q=>up c o c1 (kp c o c1 (e1.extBut c o c2 q))⟩));exact D.frame _ _ _ s1 fun c hc o q=>up c o (fun z=>hne (z▸hc)) (kp c o (fun z=>hne (z▸hc)) q)
theorem Jh0{p:List Addr}{n:Nat}{P:Nat->Value->Prop}{S:Nat->Heap->Prop}{old:Value}{Q:Fin->Shared->Prop}(D:Draws prog w A it p n P S)(he:IsEnum s.heap e it n old)(st:S n s.heap)
 (hE:∀h' x tk,MF it s.heap h'->(∃o,h'.get? x=some o/\o.cls=.type "StopIteration")->E (.ref x) { s with heap:=h',toks:=tk }) :
 wpAny (model prog w) A (Builtin.«enumerate.__next__» ⟨[.ref e],[]⟩) Q E s:=by
 show wpAny _ _ (field (.ref e) 2 >>= _) _ _ _;refine Qa (QM he rfl (x:=.ref it) rfl (Qa (D.done _ _ _ st fun k1 x e1 hx=>?_)));exact hE k1 x s.toks e1 hx
end
end PySem
namespace L2
open PySem PySem.Spec PyProof.Rows
noncomputable def Ite(K:Frag)(b:Bool)(a:Addr):It :=
 ⟨fun i H=>∃xs x,Sq b K H a xs/\xs[i]?=some x,
  fun i H x H'=>∃p v,x=.ref p/\H p=none/\H'=upd H p (.tup [.int i,v])/\∀xs,Sq b K H a xs->xs[i]?=some v,
  fun i H=>∃xs,Sq b K H a xs/\i=xs.length⟩
theorem JjM{P:Program}{w:World}{K:Frag}{elts:List Expr}{kk:Nat}{pos:Pos}(b:Bool)(a e it:Addr)(ne:e≠it) :
 Turn P w K (.Tuple elts kk pos) (Ite K b a) [e,it] e (fun i h=>(∃old,IsEnum h e it i old)/\IsItr b h it a i) where
 mem:=by simp
 obj:=fun i h st c hc=>by
  obtain⟨⟨old,s1⟩,s2⟩:=st;simp only[Qg,QX,or_false] at hc;rcases hc with rfl|rfl
  ·exact⟨_,s1,fun v z=>nomatch (show Data.fields _=Data.cell v from z)⟩
  ·exact IsItr.obj (b:=b) s2
 keep:=fun i h h' st k=>by obtain⟨⟨old,s1⟩,s2⟩:=st;exact⟨⟨old,k e (by simp) _ s1⟩,IsItr.keep (b:=b) s2 fun o q=>k it (by simp) o q⟩
 item:=by
  intro X hP hw hK hc i pins s σ H E I hf st hg;subst hP hw hK;obtain⟨xs,x,q1,e1⟩:=hg;obtain⟨its,r1,p1⟩:=q1.heap I;obtain⟨⟨old,s1⟩,s2⟩:=st;have hh:X.A.in1.handled=none:=I.ok.hd hc;have ne1:a≠it:=FpOk.off I q1 (hf it (by simp));have ne2:a≠e:=FpOk.off I q1 (hf e (by simp));have D1:=Draws.sq (prog:=X.prog) (w:=X.w) (b:=b) (xs:=its.toArray) hh it ne1;have hT:s.TypeIs (.ref e) "enumerate":=⟨_,s1,rfl⟩
  have l1:i<its.toArray.size:=by have:=(Qh.mp e1).1;rw[Qm,<- r1.length];exact this
  unfold pyNext;refine Qa (Kx (QS (name:=Ge "__next__") hT Kz (Gd Kz hT F.entry_enumerate_next
   (Jf3 D1 s1 ⟨s2,p1⟩ l1 (by simp[ne,QI ne2]) (by simp) fun u k tk t pu t1 t2 t3 t4 t5=>Qi ?_) (Ma _))))
  refine⟨_,rfl,wpAny_letOwnedTupleGo_enum (s:={ s with heap:=k,toks:=tk }) t1 fun k2 t9 e9=>?_⟩
  replace e9:Qz e k k2:=e9;obtain⟨ux,hx1,rx⟩:=r1.get e1
  have eu:u=ux:=by
   have pu':its[i]?=some u:=by simpa using pu
   rw[hx1] at pu';exact(QG pu').symm
  subst eu
  have elt:∀c∈[e,it],c<s.heap.objs.size:=fun c hc=>by
   simp only[Qg,QX,or_false] at hc;rcases hc with rfl|rfl
   ·exact Qo s1
   ·obtain⟨_,q,_⟩:=IsItr.obj (b:=b) s2;exact Qo q
  have ri:RelV (.int i) (.int i t):=⟨t,rfl⟩
  have I1:Inv X pins σ (upd H s.heap.objs.size (.tup [.int i,x])) { s with heap:=s.heap.push { cls:=.type "tuple",data:=.seq #[.int i t,u] },toks:=s.toks } :=
   I.laid (o:=.tup [.int i,x]) (fun c ob q=>Qf _ q) (Qk _) ⟨by show 2<=sizeLine;decide,[.int i t,u],.cons ri (.cons rx .nil),⟨_,Qj _ rfl,rfl,_,rfl⟩⟩
  have hf1:∀c∈[e,it],FpOk X pins (upd H s.heap.objs.size (.tup [.int i,x])) c:=fun c hc=>⟨by rw[Jh (Qx (elt c hc))];exact(hf c hc).1,(hf c hc).2⟩
  have I2:Inv X pins σ (upd H s.heap.objs.size (.tup [.int i,x])) { s with heap:=k2,toks:=tk }:=Inv.turnedL (s:={ s with heap:=s.heap.push { cls:=.type "tuple",data:=.seq #[.int i t,u] },toks:=s.toks }) I1 (fun c o hc q=>by
   simp only[Qg,QX,or_false,not_or] at hc;refine e9.extBut c o hc.1 ?_
   by_cases hcs:c=s.heap.objs.size
   ·subst hcs;have q':(s.heap.push { cls:=.type "tuple",data:=.seq #[.int i t,u] }).get? s.heap.objs.size=some o:=q;rw[Qj _ rfl] at q';cases q';exact t3
   ·have q':s.heap.get? c=some o:=by have q2:(s.heap.push { cls:=.type "tuple",data:=.seq #[.int i t,u] }).get? c=some o:=q;exact(LW s.heap c _ hcs).symm.trans q2
    exact t5 c o hc.1 hc.2 q') hf1
  refine⟨.ref s.heap.objs.size,_,I2,rfl,⟨_,x,rfl,I.hok.fresh (Qk _),rfl,fun xs' h1=>?_⟩,⟨⟨u,?_⟩,?_⟩,fun c hc=>(hf1 c hc).1⟩
  ·rw[Sq.inj I h1 q1];exact e1
  ·have ei:((i+1:Nat):Int)=(i:Int)+1:=by omega
   rw[ei];exact t9
  ·exact IsItr.keep (b:=b) t2.1 fun o q=>e9.extBut _ _ (QI ne) q
 done:=by
  intro X hP hw hK hc i pins s σ H E I hf st hg;subst hP hw hK;obtain⟨xs,q1,ei⟩:=hg;obtain⟨its,r1,p1⟩:=q1.heap I;obtain⟨⟨old,s1⟩,s2⟩:=st;have hh:X.A.in1.handled=none:=I.ok.hd hc;have D1:=Draws.sq (prog:=X.prog) (w:=X.w) (b:=b) (xs:=its.toArray) hh it (FpOk.off I q1 (hf it (by simp)));have hT:s.TypeIs (.ref e) "enumerate":=⟨_,s1,rfl⟩
  have n1:i=its.toArray.size:=by rw[Qm,<- r1.length];exact ei
  subst n1;unfold pyNext;refine Qa (Kx (QS (name:=Ge "__next__") hT Kz (Gd Kz hT F.entry_enumerate_next (Jh0 D1 s1 ⟨s2,p1⟩ fun k x tk kk he=>?_) (Ma _))));obtain⟨o,ho,hoc⟩:=he;refine Qa (Lg (T:="StopIteration") (b:=true) ⟨o,ho,hoc⟩ MG (Qi ⟨rfl,?_⟩));exact I.turnedL (fun c o hc q=>by simp only[Qg,QX,or_false,not_or] at hc;exact kk c o hc.2 q) hf
 self:=fun _ _ _ _ _ st h=>by obtain⟨⟨old,s1⟩,_⟩:=st;exact wpAny_pyIter_enum s1 h
noncomputable def iEn(K:Frag)(ta:TA):TI:=fun σ H R=>ta σ H fun vs H1=>∃(b:Bool) (a:Addr) (xs:List V),vs=[.ref a]/\Sq b K H1 a xs/\R (Ite K b a) H1
theorem JbM{X:Cx}{K:Frag}{elts:List Expr}{kk:Nat}{tpos:Pos}{a:Expr}{ta:TA}{p pos:Pos}(hK:X.K=K)(hg:Gl X "enumerate")(hm:X.mg "enumerate"=none)(ha:PA X [a] ta)(hs:starEach [a] X.env=[(false,eval a X.env)]:=by rfl)
:PI X (.Tuple elts kk tpos) (.Call (.Name "enumerate" p) [a] [] pos) (iEn K ta):=by
 subst hK;intro pins s σ H R I h;refine Call_ (UH I hg hm Jae (Gu (thn (ha pos pins s σ H _ I h) fun us s1 ⟨vs,H1,I1,r1,q1⟩=>?_) (by rw[hs];rfl) (by rfl)));obtain⟨b,a,xs,e,c1,q⟩:=q1;subst e
 cases r1 with
 | cons r rr =>
 cases rr;cases r;obtain⟨its,w1,p1⟩:=c1.heap I1;refine JfN p1 fun h' t1 t2 kp=>wpAny_pyIter_enum t1 ?_
 refine⟨_,[s1.heap.objs.size+1,s1.heap.objs.size],_,_,H1,rfl,I1.kept (t':=s1.toks) kp,JjM b a _ _ (by simp),⟨⟨_,t1⟩,t2⟩,fun c hc=>?_,q⟩
 have hle:s1.heap.objs.size<=c:=by simp only[Qg,QX,or_false] at hc;rcases hc with rfl|rfl <;> first|exact Qk _|exact Nat.le_add_right _ _
 exact I1.fpOk hle (I1.hok.fresh hle)
end L2
namespace LE
open PySem L2 LR
noncomputable def Jbe(ds:List D):List D:=ds.mapIdx fun i d=>.tup [.int i,d]
noncomputable def JdG(m:Bool)(as:En->Option (List Sl)):En->Option (List D):=fun E=>(as E).bind fun ss=>match ss with
 | [s]=>(s.it m).map Jbe
 | _=>none
section
variable{K:Frag}{C:Addr}{m:Bool}
theorem Jju{t:TA}{ev:En->Option (List Sl)}(ha:SA K C t ev):SI K C m (iEn K t) (JdG m ev):=by
 intro B H0 H σ E ds R I e q;obtain⟨ss,e1,e⟩:=bind_some e;split at e
 ·next s =>
  obtain⟨ds1,e2,e⟩:=Gx.mp e;subst e;refine ha B H0 H σ E _ _ I e1 fun vs H1 H1' s1 r1=>?_
  obtain⟨v,rfl,ra⟩:=r1.one;have f:=JO (Hs:=H) s1.i;obtain⟨b1,a1,xs,rfl,k1,w1⟩:=Jiz ra s1.i e2;have hA:m=true->(if m=true then H1' else B)=H1':=fun h=>if_pos h
  have sA:Same (if m=true then H1' else B) H1':=by
   split
   ·exact Same.refl _
   ·exact I.b.trans s1.h
  have st0:SStep (if m=true then H1' else B) (Yo H H1 H1') (Yo H H1 H1') H1':=⟨sA,Same.refl _,fun _ _ e=>.inl e,f.i⟩
  refine⟨b1,a1,xs,rfl,k1 _ hA _ _ st0,q _ _ _ (s1.comp f fun _ z=>z) ?_⟩;intro H0' H' st;have q1:=k1 _ hA _ _ st;refine⟨fun i d e=>?_,⟨xs,q1,by unfold Jbe;rw[Gr,w1.1]⟩⟩;unfold Jbe at e;rw[Qr] at e;obtain⟨d1,g1,e⟩:=Gx.mp e;subst e;obtain⟨x,x1,x2⟩:=w1.get g1;refine⟨⟨xs,x,q1,x1⟩,?_⟩;rintro z H2 ⟨p,v',rfl,hp,rfl,hv⟩;have h1:=hv xs q1;rw[x1] at h1;cases h1;have h0:H0' p=none:=Same.free st.i hp
  refine⟨upd H0' p (.tup [.int i,x]),⟨.new hp,.new h0,fun a o e=>?_,fun a o e=>?_⟩,?_⟩
  ·by_cases h:a=p
   ·subst h;exact .inr (.inl hp)
   ·rw[Jh h] at e;exact .inl e
  ·by_cases h:a=p
   ·subst h;rw[Jq] at e ⊢;exact e
   ·rw[Jh h] at e ⊢;exact st.i a o e
  ·exact .mkT (.of Jq) (.cons (.int _) (.cons (x2.mono (st.z.trans (.new h0))) .nil))
 ·cases e
theorem Jbf{α:Type}(f:α->D)(xs:List α):Jbe (xs.map f)=xs.mapIdx fun i x=>.tup [.int i,f x]:=by
 unfold Jbe;refine Q7 fun i=>?_
 rw[Qr,Qr,Qn,GU];rfl
end
end LE

namespace L2
open PySem PySem.Spec PyProof.Rows
noncomputable def ZX(ns:List Int):List Int:=ns.mergeSort (fun a b=>decide (a<=b))
theorem Uf(ns:List Int):(ZX ns).Perm ns:=List.mergeSort_perm _ _
theorem Jb2(ns:List Int):(ZX ns).Pairwise (·<=·):=by have h:=List.pairwise_mergeSort (le:=fun a b:Int=>decide (a<=b)) (by intro a b c h1 h2;simp only[decide_eq_true_eq] at *;omega) (by intro a b;simp only[KU,decide_eq_true_eq];omega) ns;exact h.imp fun {a b} h=>by simpa using h
section
variable{X:Cx}
end
end L2
namespace LE
open PySem L2 LR
section
variable{K:Frag}{C:Addr}
end
end LE

namespace PySem
namespace F
end F
section
variable{prog:Program}{w:World}{A:Around}{E:Value->Shared->Prop}{s:Shared}{l:Addr}{lo hi:Int}{t u v:Tok}
end
end PySem
namespace L2
open PySem PySem.Spec PyProof.Rows
end L2
namespace LE
open PySem L2 LR
section
variable{K:Frag}{C:Addr}{m:Bool}
end
end LE

namespace PySem
namespace F
end F
structure ZB (z TI TO i1 i2 i3:Addr) (p1 p2 p3:List Addr):Prop where
 a1:TI≠z
 a2:TO≠z
 a3:TI≠TO
 m1:i1∈p1
 m2:i2∈p2
 m3:i3∈p3
 z1:z∉p1
 z2:z∉p2
 z3:z∉p3
 t1:TI∉p1
 t2:TI∉p2
 t3:TI∉p3
 o1:TO∉p1
 o2:TO∉p2
 o3:TO∉p3
 x12:i1∉p2
 x13:i1∉p3
 x21:i2∉p1
 x23:i2∉p3
 x31:i3∉p1
 x32:i3∉p2
section
variable{prog:Program}{w:World}{A:Around}{E:Value->Shared->Prop}{s:Shared}{z TI TO i1 i2 i3:Addr}{p1 p2 p3:List Addr}{n1 n2 n3 k:Nat}{P1 P2 P3:Nat->Value->Prop}{S1 S2 S3:Nat->Heap->Prop}
end
end PySem

namespace PySem
section
variable{prog:Program}{w:World}{A:Around}{E:Value->Shared->Prop}{s:Shared}{b1 b2 b3:Bool}{a1 a2 a3:Addr}{xs ys zs:Array Value}
end
end PySem
namespace L2
open PySem PySem.Spec PyProof.Rows
end L2
namespace LE
open PySem L2 LR
section
variable{K:Frag}{C:Addr}{m:Bool}
end
end LE

namespace L2
open PySem PySem.Spec PyProof.Rows
noncomputable def Z3(X:Cx)(f:Value)(nm:Str)(z:V)(r:List V->Hp->VK->Prop):Prop :=
 ∀(pins:List (Addr×Obj)) (s:Shared) (σ:St) (H:Hp) (xs:List V) (us:List Value) (w:Value) (Q:VK),Inv X pins σ H s->Vals xs us->RelV z w->r xs H Q->wpAny (model X.prog X.w) X.A (call f us [(nm,w)]) (EP X pins σ Q) X.xe s
theorem Jfb{X:Cx}{id:String}{nm x:Str}{z:V}{r:List V->Hp->VK->Prop}{e ek:Expr}{es:List Expr}{t:TA}{p pos kpos:Pos}(hc:Z3 X (.builtin id) nm z r)(hg:Gl X x)(hm:X.mg x=none)(hv:bootBuiltins x=some (.builtin id))(ha:PA X (e::es) t)(hk:PE X ek (tC z))
 (hn:x≠"__name__":=by decide) (hdb:(x == ("__debug__":Str))=false:=by decide)
 (he:backTo pos (starEach (e::es) X.env)=(false,eval e X.env)::backTo pos (starEach es X.env):=by rfl) (hpl:(backTo pos (starEach (e::es) X.env)).any (·.1)=false:=by rfl):PE X (.Call (.Name x p) (e::es) [⟨some nm,ek,kpos⟩] pos) (tCB r t):=by
 intro pins s σ H Q I h;refine Ko (UH I hg hm hv ?_ hn hdb);refine callWith_kw (thn (ha pos pins s σ H _ I h) fun us s1 ⟨vs,H1,I1,r1,q1⟩=>?_) he hpl rfl rfl;refine kws_cons (thn (hk pins s1 σ H1 (fun v H2=>v=z/\r vs H2 Q) I1 ⟨rfl,q1⟩) fun w s2 ⟨v,H2,I2,rz,e2,q2⟩=>kws_nil ?_);subst e2;exact hc pins s2 σ H2 vs us w Q I2 r1 rz q2
section
variable{X:Cx}
end
end L2
namespace LE
open PySem L2 LR
section
variable{K:Frag}{C:Addr}
end
end LE

namespace PySem

theorem JbA(a v:Value):argsOk "min" ⟨[a],[(Ge "default",v)]⟩:=by unfold argsOk;kernel_rfl
section
variable{prog:Program}{w:World}{A:Around}{R:Result->Shared->Prop}{I:Addr}{fp wr:List Addr}{n:Nat}{P:Nat->Value->Prop}{St:Nat->Heap->Prop}
theorem Je5(W:Walks prog w A.in1 I fp wr n P St)(bt:Nat->Nat->Bool)(cm:CmpOf prog w A.in1 .Lt P bt)(S:Addr)(nS:S∉fp)(d:Value) :
 ∀(k j:Nat) (s:Shared) (c:Nat) (arr:Array Value),n-j=k->j<=n->St j s.heap->((j=0/\arr=#[])\/∃vb,0<j/\arr=#[vb,vb]/\P (argBest bt (j-1)) vb) ->
 s.heap.get? S=some { cls:=.type "list",dict:=none,data:=.seq arr c,slots:=#[] } ->
 (n=0->∀h' tk,(∀b o,b∉wr->b≠S->s.heap.get? b=some o->h'.get? b=some o)->R (.ok (.ret d)) { s with heap:=h',toks:=tk }) ->
 (0<n->∀v h' tk,P (argBest bt (n-1)) v->(∀b o,b∉wr->b≠S->s.heap.get? b=some o->h'.get? b=some o)->R (.ok (.ret v)) { s with heap:=h',toks:=tk }) ->
 codeAny (model prog w) A (.builtin "min.loop" ⟨[.ref I,.none,.ref S],[(Ge "default",d)]⟩) R s:=by
 have nW:S∉wr:=fun h=>nS (W.sub _ h)
 have nm:(toString "min"++toString ".loop":String)="min.loop":=by decide
 intro k
 induction k with
 | zero =>
  intro j s c arr hk hj st best hS h0 h1;have ej:j=n:=by omega
  subst ej;refine Ku F.entry_min_loop ?_;rw[G3 Kh _];rcases best with ⟨e0,rfl⟩|⟨vb,jp,rfl,pb⟩
  ·show wpAny _ A.in1 (seqItems? (.ref S) >>= _) _ _ s;refine Qa (Gg hS rfl (show wpAny _ A.in1 (tryCatch (pyNext (.ref I)) _ >>= _) _ _ s from Qa (K7 (W.done s _ _ st fun h' tk hk'=>?_))));exact Qa (Ka (Qi (h0 e0 h' tk fun b o b1 _ e=>hk' b o b1 e)))
  ·show wpAny _ A.in1 (seqItems? (.ref S) >>= _) _ _ s;refine Qa (Gg hS rfl (show wpAny _ A.in1 (tryCatch (pyNext (.ref I)) _ >>= _) _ _ s from Qa (K7 (W.done s _ _ st fun h' tk hk'=>?_))))
   have hS':=hk' S _ nW hS
   show wpAny _ A.in1 (updateSeq S (fun _=>#[]) >>= _) _ _ _;refine Qa (Mr hS' rfl (Qa (KD (Qi ?_))));exact h1 jp vb _ tk pb fun b o b1 b2 e=>(Ga _ _ (QI b2)).trans (hk' b o b1 e)
 | succ k ih =>
  intro j s c arr hk hj st best hS h0 h1;have lt:j<n:=by omega
  refine Ku F.entry_min_loop ?_;rw[G3 Kh _];have nz:n=0->∀{s':Shared} h' tk,(∀b o,b∉wr->b≠S->s'.heap.get? b=some o->h'.get? b=some o)->R (.ok (.ret d)) { s' with heap:=h',toks:=tk }:=fun z=>absurd z (by omega)
  rcases best with ⟨e0,rfl⟩|⟨vb,jp,rfl,pb⟩
  ·subst e0;show wpAny _ A.in1 (seqItems? (.ref S) >>= _) _ _ s;refine Qa (Gg hS rfl (show wpAny _ A.in1 (tryCatch (pyNext (.ref I)) _ >>= _) _ _ s from Qa (K7 (W.item 0 s _ _ lt st fun v h' tk pv st' hk'=>?_))));have hS':=hk' S _ nW hS;show wpAny _ A.in1 (updateSeq S (fun _=>#[v,v]) >>= _) _ _ _;refine Qa (Mr hS' rfl ?_);rw[nm];refine Qi ⟨KQ Kh _,ih 1 _ _ _ (by omega) (by omega) (W.frame _ _ _ st' fun b bf o e=>?_) (.inr ⟨v,by omega,rfl,pv⟩) (Le _ hS' rfl) (fun z=>nz z) fun np v' h2 t2 pv' k2=>?_⟩
   ·exact(Ga _ _ (fun h:S=b=>nS (by rw[h];exact bf))).trans e
   ·exact h1 np v' h2 t2 pv' fun b o b1 b2 e=>k2 b o b1 b2 ((Ga _ _ (QI b2)).trans (hk' b o b1 e))
  ·show wpAny _ A.in1 (seqItems? (.ref S) >>= _) _ _ s;refine Qa (Gg hS rfl (show wpAny _ A.in1 (tryCatch (pyNext (.ref I)) _ >>= _) _ _ s from Qa (K7 (W.item j s _ _ lt st fun v h' tk pv st' hk'=>?_))))
   have hS':=hk' S _ nW hS
   have ea:argBest bt j=if bt j (argBest bt (j-1))=true then j else argBest bt (j-1):=by
    obtain⟨i,rfl⟩:∃i,j=i+1:=⟨j-1,by omega⟩
    rfl
   show wpAny _ A.in1 (tryCatch (holding [v,v] (richCompare .Lt v vb >>= _)) _ >>= _) _ _ _;refine Qa (K7 (Kv (Qa (cm j (argBest bt (j-1)) v vb _ _ _ pv pb (Qa (Kv (KB (Qa (KD (Qi ?_))))))))))
   cases hb:bt j (argBest bt (j-1)) with
   | true =>
    simp only[if_true];refine Qa (Mr hS' rfl (Qa (KD ?_)));rw[nm];refine Qi ⟨KQ Kh _,ih (j+1) _ _ _ (by omega) (by omega) (W.frame _ _ _ st' fun b bf o e=>?_) (.inr ⟨v,by omega,rfl,?_⟩) (Le _ hS' rfl) (fun z=>nz z) fun np v' h2 t2 pv' k2=>?_⟩
    ·exact(Ga _ _ (fun h:S=b=>nS (by rw[h];exact bf))).trans e
    ·rw[Nat.add_sub_cancel,ea,hb,if_pos rfl];exact pv
    ·exact h1 np v' h2 t2 pv' fun b o b1 b2 e=>k2 b o b1 b2 ((Ga _ _ (QI b2)).trans (hk' b o b1 e))
   | false =>
    simp only[Bool.false_eq_true,if_false];refine Qa (KD ?_);rw[nm];refine Qi ⟨KQ Kh _,ih (j+1) _ c _ (by omega) (by omega) st' (.inr ⟨vb,by omega,rfl,?_⟩) hS' (fun z=>nz z) fun np v' h2 t2 pv' k2=>?_⟩
    ·rw[Nat.add_sub_cancel,ea,hb,if_neg Qy];exact pb
    ·exact h1 np v' h2 t2 pv' fun b o b1 b2 e=>k2 b o b1 b2 (hk' b o b1 e)
end
section
variable{prog:Program}{w:World}{A:Around}{E:Value->Shared->Prop}{s:Shared}{l:Addr}{xs:Array (Int×Tok)}
theorem JbB{d:Value}{Q:Value->Shared->Prop}(hh:A.handled=none)(hl:s.heap.IsList l (intItems xs))(h0:xs.size=0->∀h' tk,(∀b o,s.heap.get? b=some o->h'.get? b=some o)->Q d { s with heap:=h',toks:=tk })
 (h1:0<xs.size->∀v h' tk,(intItems xs)[argBest (fun i j=>decide (numAt xs i<numAt xs j)) (xs.size-1)]?=some v->(∀b o,s.heap.get? b=some o->h'.get? b=some o)->Q v { s with heap:=h',toks:=tk }) :
 wpAny (model prog w) A (call (.builtin "min") [.ref l] [(Ge "default",d)]) Q E s:=by
 have nm:(toString "min"++toString ".loop":String)="min.loop":=by decide
 have sz:(intItems xs).size=xs.size:=by simp[intItems]
 refine PyProof.Rows.kmk_tree F.kind_min F.plain_min F.entry_min (JbA _ _) ?_;show wpAny _ A.in1 (LB "min" ["key","default"] 0 ⟨[],[(Ge "default",d)]⟩ >>= _) _ _ s;refine Qa (G2 (show LB "min" ["key","default"] 0 ⟨[],[(Ge "default",d)]⟩=pure [none,some d] from rfl) ?_);refine Qa (Qi ?_);refine Qa (iter_intList hl fun s₂ e st hfp hlI=>?_);subst e;refine Qa (Q9 ?_)
 rw[nm];have W:=Walks.list (prog:=prog) (w:=w) (A:=A.in1) hh _ l hlI (intItems xs);have fpS:(s.heap.push { cls:=.type "list_iterator",data:=.fields #[.ref l,.int 0 0] }).objs.size∉[s.heap.objs.size,l]:=fun hm=>Gc _ (hfp _ hm)
 refine Qi ⟨KQ Kh _,Je5 W (fun i j=>decide (numAt xs i<numAt xs j)) (CmpOf.ints_lt (numAt xs) (fun _ _=>intItems_at)) _ fpS d _ 0 _ _ #[] rfl (G1 _) (W.frame _ _ _ st fun b _ o e=>Qf _ e) (.inl ⟨rfl,rfl⟩) (Qj _ rfl) (fun z h' tk k=>?_) fun z v h' tk pv k=>?_⟩
 ·exact h0 (by rw[<- sz];exact z) h' tk (old_kept fun b o b1 e=>k b o b1 (Qx (Qo e)) (Qf _ e))
 ·exact h1 (by rw[<- sz];exact z) v h' tk (by rw[sz] at pv;exact pv) (old_kept fun b o b1 e=>k b o b1 (Qx (Qo e)) (Qf _ e))
end

section
variable{prog:Program}{w:World}{A:Around}{R:Result->Shared->Prop}{I:Addr}{fp wr:List Addr}{n:Nat}{P:Nat->Value->Prop}{St:Nat->Heap->Prop}
end
section
variable{prog:Program}{w:World}{A:Around}{E:Value->Shared->Prop}{s:Shared}{l:Addr}{xs:Array (Int×Tok)}
end

end PySem

namespace L2
open PySem PySem.Spec PyProof.Rows

section
variable{X:Cx}
noncomputable def Jha(K:Frag):List V->Hp->VK->Prop:=fun xs H Q=>∃(a:Addr) (ns:List Int),xs=[.ref a]/\SqL K H a (ns.map V.int)/\(ns=[]->Q .non H)/\∀M,M∈ns->(∀b,b∈ns->M<=b)->Q (.int M) H
theorem JeD(hc:X.calm=true):Z3 X (.builtin "min") "default" .non (Jha X.K):=by
 intro pins s σ H xs us w Q I r rz h;obtain⟨a,ns,rfl,hq,q0,q⟩:=h;obtain⟨u,rfl,rx⟩:=UZ r;cases rx;cases rz;obtain⟨its,rv,p,hz⟩:=I.list hq;have hi:=U7 rv;have hl:=p.isList;obtain⟨xs,e⟩:=hi.allInts.items;have hns:ns=xs.toList.map (·.1):=by rw[<- hi.numsOf,<- nums_intItems,<- e]
 rw[e] at hl;refine JbB (I.ok.hd hc) hl (fun z h' tk hk=>?_) fun z v h' tk hv hk=>?_
 ·refine⟨.non,H,I.kept hk,rfl,q0 ?_⟩;rw[hns];exact QF (by rw[Qq,QQ];exact z)
 ·obtain⟨t,rfl⟩:=intItems_at hv;obtain⟨h1,h2⟩:=argBest_lt (numAt xs) (xs.size-1);refine⟨.int _,H,I.kept hk,⟨t,rfl⟩,q _ ?_ fun a ha=>?_⟩
  ·rw[hns,numAt_eq];exact getD_mem (by rw[Qq,QQ];omega)
  ·rw[hns] at ha;obtain⟨j,hj,rfl⟩:=mem_getD ha;rw[Qq,QQ] at hj;rw[<- numAt_eq];exact h2 j (by omega)
end
theorem Jcl{X:Cx}{K:Frag}(hK:X.K=K)(hc:X.calm=true):Z3 X (.builtin "min") "default" .non (Jha K):=hK▸JeD hc

section
variable{X:Cx}
end
end L2
namespace LE
open PySem L2 LR

noncomputable def Jdy:List Sl->Option Sl
 | [s]=>s.r.bind fun ds=>(ints? ds).map fun ns=>match ns.min? with
  | some m=>.sh (.int m)
  | none=>.sh .non
 | _=>none
theorem JkB{K:Frag}{C:Addr}:Ve K C (Jha K) Jdy:=by
 intro Hs H0 H xs as c Q i hs r e q;unfold Jdy at e;split at e
 ·obtain⟨v,rfl,r0⟩:=r.one;obtain⟨ds,e1,e⟩:=bind_some e;obtain⟨ns,e2,rfl⟩:=map_some e;obtain⟨l,ys,rfl,h,r1⟩:=r0.r i e1;rw[UQ e2] at r1;have:=r1.ints;subst this;refine⟨l,ns,rfl,h,fun z=>?_,fun M hM hb=>?_⟩
  ·subst z;exact q _ _ _ (.refl i) RD.non
  ·have hm:ns.min?=some M:=Mx.mpr ⟨hM,hb⟩;rw[hm] at q;exact q _ _ _ (.refl i) (RD.int _)
 ·cases e

end LE

namespace LE
open PySem L2 LR

noncomputable def look{α:Type}:List Int->List α->Int->Option α
 | k::ks,d::ds,n=>if k=n then some d else look ks ds n
 | _,_,_=>none
noncomputable def Jat(ks:List Int)(n:Int):Bool:=ks.any fun k=>decide (k=n)
noncomputable def JG(ks:List Int)(n:Int):List Int:=if Jat ks n=true then ks else ks++[n]
noncomputable def setK{α:Type}:List Int->List α->Int->α->List α
 | k::ks,d::ds,n,v=>(if k=n then v else d)::setK ks ds n v
 | _,ds,_,_=>ds
noncomputable def putDs{α:Type}(ks:List Int)(ds:List α)(n:Int)(v:α):List α:=if Jat ks n=true then setK ks ds n v else ds++[v]
theorem JbV{α:Type}(n:Int)(v:α):∀(ks:List Int) (ds:List α),(setK ks ds n v).length=ds.length
 | [],_=>rfl
 | _::_,[]=>rfl
 | _::ks,_::ds=>by simp[setK,JbV n v ks ds]
theorem ZV{α:Type}(ks:List Int)(ds:List α)(n:Int)(v:α)(h:ks.length=ds.length):(JG ks n).length=(putDs ks ds n v).length:=by unfold JG putDs;split <;> simp[JbV,h]
theorem UW:∀(ks:List Int) (xs:List V) (n:Int),Um ((ks.map Sum.inl:List Key).zip xs) (Sum.inl n)=look ks xs n
 | [],_,_=>rfl
 | _::_,[],_=>rfl
 | k::ks,x::xs,n=>by
  show Um (((Sum.inl k:Key),x)::(ks.map Sum.inl:List Key).zip xs) (Sum.inl n)=_
  by_cases h:k=n
  ·rw[VI (by rw[h]),look,if_pos h]
  ·rw[VH (fun e=>h (MB e)),look,if_neg h];exact UW ks xs n
theorem Ja3:∀(ks:List Int) (xs:List V) (n:Int),ks.length=xs.length->(((ks.map Sum.inl:List Key).zip xs).any fun kv=>decide (kv.1=(Sum.inl n:Key)))=Jat ks n
 | [],_,_,_=>rfl
 | _::_,[],_,h=>by simp at h
 | k::ks,x::xs,n,h=>by
  show(decide ((Sum.inl k:Key)=Sum.inl n) || ((ks.map Sum.inl:List Key).zip xs).any _)=(decide (k=n) || ks.any _)
  rw[Ja3 ks xs n (by simpa using h)];congr 1
  by_cases e:k=n
  ·subst e;simp
  ·rw[decide_eq_false e,decide_eq_false fun z=>e (MB z)]
theorem Jbz:∀(ks:List Int) (xs:List V) (n:Int) (v:V),ks.length=xs.length->(((ks.map Sum.inl:List Key).zip xs).map fun kv=>if kv.1=(Sum.inl n:Key) then(kv.1,v) else kv)=(ks.map Sum.inl:List Key).zip (setK ks xs n v)
 | [],_,_,_,_=>rfl
 | _::_,[],_,_,h=>by simp at h
 | k::ks,x::xs,n,v,h=>by
  show(if (Sum.inl k:Key)=Sum.inl n then((Sum.inl k:Key),v) else(Sum.inl k,x))::((ks.map Sum.inl:List Key).zip xs).map _=(Sum.inl k,if k=n then v else x)::(ks.map Sum.inl:List Key).zip (setK ks xs n v);rw[Jbz ks xs n v (by simpa using h)];congr 1
  by_cases e:k=n
  ·subst e;simp
  ·rw[if_neg e,if_neg fun z=>e (MB z)]
theorem JbP(ks:List Int)(xs:List V)(n:Int)(v:V)(h:ks.length=xs.length):(HO.dK (UL ((ks.map Sum.inl:List Key).zip xs) (Sum.inl n) v))=dkO (JG ks n) (putDs ks xs n v):=by
 unfold dkO UL JG putDs;rw[Ja3 ks xs n h];split
 ·rw[Jbz ks xs n v h]
 ·rw[QN,List.zip_append (by simpa using h)];rfl
section
variable{K:Frag}{C:Addr}{Hs H0 H:Hp}
theorem RDL.look:∀{ks:List Int} {xs:List V} {ds:List D} {n:Int},RDL K C H xs ds->(LE.look ks xs n=none/\LE.look ks ds n=none)\/∃x d,LE.look ks xs n=some x/\LE.look ks ds n=some d/\RD K C H x d
 | [],_,_,_,_=>.inl ⟨rfl,rfl⟩
 | _::_,[],[],_,_=>.inl ⟨rfl,rfl⟩
 | _::_,[],_::_,_,h=>by have:=h.1;simp at this
 | _::_,_::_,[],_,h=>by have:=h.1;simp at this
 | k::ks,x::xs,d::ds,n,h=>by
  simp only[LE.look]
  by_cases e:k=n
  ·rw[if_pos e,if_pos e];exact .inr ⟨x,d,rfl,rfl,h.head⟩
  ·rw[if_neg e,if_neg e];exact RDL.look h.tail
theorem RDL.setK{n:Int}{v:V}{e:D}(r:RD K C H v e):∀{ks:List Int} {xs:List V} {ds:List D},RDL K C H xs ds->RDL K C H (LE.setK ks xs n v) (LE.setK ks ds n e)
 | [],_,_,h=>h
 | _::_,[],[],_=>.nil
 | _::_,[],_::_,h=>by have:=h.1;simp at this
 | _::_,_::_,[],h=>by have:=h.1;simp at this
 | k::ks,x::xs,d::ds,h=>by
  simp only[LE.setK];refine .cons ?_ (RDL.setK r h.tail);split
  ·exact r
  ·exact h.head
theorem RDL.putDs{n:Int}{v:V}{e:D}{ks:List Int}{xs:List V}{ds:List D}(h:RDL K C H xs ds)(r:RD K C H v e):RDL K C H (LE.putDs ks xs n v) (LE.putDs ks ds n e):=by
 unfold LE.putDs;split
 ·exact RDL.setK r h
 ·exact h.snoc r
theorem Jlz{p:Addr}{ks:List Int}{xs:List V}{ds:List D}{Q:VK}(i:Same H0 H)(hs:Same Hs H)(hp:H p=none)(hk:ks.length=ds.length)(r:RDL K C H0 xs ds)(q:∀v H0' H',Step Hs H0 H H0' H'->RR K C Hs H0' H' v (.od ks ds)->Q v H'):Q (.ref p) (upd H p (dkO ks xs)) :=
 q _ H0 _ ⟨.new hp,Same.refl _,fun _ _ e=>.inl e,i.trans (.new hp)⟩ ⟨p,xs,rfl,Jq,Same.free i hp,Same.free hs hp,hk,r⟩
end
noncomputable def Sl.dk:Sl->Option (List Int×List D)
 | .sh (.dct ks ds)=>some (ks,ds)
 | .sh (.dfz ks ds)=>some (ks,ds)
 | .bd ks ds=>some (ks,ds)
 | .od ks ds=>some (ks,ds)
 | _=>none
noncomputable def int?:Sl->Option Int
 | .sh (.int i)=>some i
 | _=>none
noncomputable def Jdt:Ev:=fun _=>some (.od [] [])
noncomputable def Jco(a k x:Ev):Ev:=fun E=>(a E).bind fun s=>s.dk.bind fun p=>((k E).bind int?).bind fun n=>((x E).bind sh?).bind fun d=>some (.sh ((look p.1 p.2 n).getD d))
noncomputable def Jeo(i:Nat)(k a:Ev):Es:=fun E=>match E[i]? with
 | some (.od ks ds)=>(a E).bind fun s=>s.frz.bind fun d=>((k E).bind int?).bind fun n=>if ks.length<sizeLine then some (.nx (E.set i (.od (JG ks n) (putDs ks ds n d)))) else none
 | _=>none
section
variable{K:Frag}{C:Addr}{Hs H0 H:Hp}{td ty tx te:TE}{ed ek ex ea:Ev}
theorem Vr{s:Sl}{n:Int}(e:int? s=some n):s=.sh (.int n):=by
 cases s with
 | sh d=>cases d with
  | int i=>cases e;rfl
  | _=>cases e
 | _=>cases e
theorem RR.dk{v:V}{s:Sl}{p:List Int×List D}(r:RR K C Hs H0 H v s)(i:Same H0 H)(e:s.dk=some p):∃l xs,v=.ref l/\Rd H l (dkO p.1 xs)/\p.1.length=p.2.length/\RDL K C H0 xs p.2:=by
 cases s with
 | bd ks ds=>cases e;obtain⟨l,xs,h1,h2,h3⟩:=r;exact⟨l,xs,h1,.inl h2,h3⟩
 | od ks ds=>cases e;obtain⟨l,xs,h1,h2,_,_,h3⟩:=r;exact⟨l,xs,h1,.inl h2,h3⟩
 | bt _ _=>cases e
 | ot _ _=>cases e
 | sh d=>cases d with
  | dct ks ds=>cases e;obtain⟨l,xs,h1,h2,h3⟩:=RD.dctI r;exact⟨l,xs,h1,.inl (i _ _ h2),h3⟩
  | dfz ks ds=>cases e;obtain⟨l,xs,o,h1,h2,h3⟩:=RD.dfzI r;exact⟨l,xs,h1,.inr ⟨o,i _ _ h2⟩,h3⟩
  | _=>cases e
 | _=>cases e
theorem JoP{l:Addr}{ks:List Int}{xs:List V}{n:Int}(h:Rd H l (dkO ks xs)):DGet H l (.int n) (look ks xs n):=.inl ⟨_,Sum.inl n,h,rfl,(UW ks xs n).symm⟩
theorem JmA:SE K C Jhw Jdt:=by intro B H0 H σ E r Q I e q;cases e;intro p hp;exact Jlz (ks:=[]) (xs:=[]) (Hs:=H) I.h (Same.refl _) hp rfl .nil q
theorem Jjt(ha:SE K C td ed)(hk:SE K C ty ek)(hx:SE K C tx ex):SE K C (Jhv td ty tx) (Jco ed ek ex):=by
 intro B H0 H σ E r Q I e q;obtain⟨s,e1,e⟩:=bind_some e;obtain⟨p,e2,e⟩:=bind_some e;obtain⟨n,e3,e⟩:=bind_some e;obtain⟨t,e3,e4⟩:=bind_some e3;obtain rfl:=Vr e4;obtain⟨d,e5,e⟩:=bind_some e;obtain⟨t',e5,e6⟩:=bind_some e5;obtain rfl:=Wq e6;cases e;refine ha B H0 H σ E s _ I e1 fun x H1 H1' s1 r1=>?_
 obtain⟨l0,xs0,rfl,h0,_,_⟩:=r1.dk s1.i e2;refine⟨l0,rfl,.inl ⟨_,h0⟩,hk B H1 H1' σ E _ _ (I.step s1) e3 fun y H2 H2' s2 r2=>hx B H2 H2' σ E _ _ ((I.step s1).step s2) e5 fun z H3 H3' s3 r3=>?_⟩;obtain⟨l,xs,hl,h,_,rl⟩:=((r1.step s2).step s3).dk s3.i e2;cases hl;rw[RD.intI r2];refine⟨_,JoP h,q _ _ _ ((s1.trans s2).trans s3) ?_⟩;rcases RDL.look (ks:=p.1) (n:=n) rl with ⟨z1,z2⟩|⟨v,d',z1,z2,z3⟩
 ·rw[z1,z2];exact r3
 ·rw[z1,z2];exact z3
theorem Jm3{i:Nat}(ha:SE K C te ea)(hk:SE K C ty ek):SS K C (Jkj (Ze i) ty te) (Jeo i ek ea):=by
 intro B H0 H σ E o D I e f;unfold Jeo at e;split at e
 ·next ks ds h =>
  obtain⟨s,e1,e⟩:=bind_some e;obtain⟨d,e2,e⟩:=bind_some e;obtain⟨n,e3,e⟩:=bind_some e;obtain⟨t,e3,e4⟩:=bind_some e3;obtain rfl:=Vr e4;split at e
  ·next hz =>
   cases e;obtain⟨l,xs,g1,g2,g3,g4,gk,g5⟩:=I.slotD h;refine ha B H0 H σ E _ _ I e1 fun v H1 H1' s1 r1=>?_
   have s2:Step H H0 H (Yo H H1 H1') H1':=s1.comp (JO s1.i) fun _ z=>z
   have rv:=RR.frz s1.i r1 e2;refine⟨_,g1,?_⟩;refine hk B _ H1' σ E _ _ (I.step s2) e3 fun w H3 H3' s3 r3=>?_
   have s4:=s2.trans s3
   have hx:ks.length=xs.length:=gk.trans g5.1.symm;obtain⟨_,n0,nB⟩:=(I.step s4).ownG h rfl g1
   have rr:=(g5.mono s4.z).putDs (ks:=ks) (n:=n) (rv.mono s3.z)
   have m:=(I.step s4).mutG (t':=.od (JG ks n) (putDs ks ds n d)) (o':=dkO (JG ks n) (putDs ks xs n v)) h rfl rfl g1 ⟨l,_,rfl,Jq,n0,nB,ZV _ _ _ _ gk,rr⟩;rw[RD.intI r3];refine⟨l,_,rfl,.inl ⟨_,Sum.inl n,s4.h _ _ g2,rfl,?_,rfl⟩,?_⟩
   ·rw[GA,Qq,<- hx,Ml];exact hz
   ·rw[JbP ks xs n v hx];exact f _ _ _ ⟨m.b,s4.z,(s4.ss I.b).n,m.h⟩ m
  ·cases e
 ·cases e
end

noncomputable def Jir(x y:Sl):Option Sl:=x.m.bind fun ds=>(int? y).bind fun k=>if JcA k=true/\ds.length*k.toNat<=sizeLine then some (.own (QA k.toNat ds).flatten) else none
section
variable{K:Frag}{C:Addr}{H:Hp}
theorem RDL.rep{xs:List V}{ds:List D}(r:RDL K C H xs ds):∀k:Nat,RDL K C H (QA k xs).flatten (QA k ds).flatten
 | 0=>.nil
 | k+1=>by rw[Gj,Gj,GH,GH];exact r.append (RDL.rep r k)
theorem JnO:OpS K C Jn3 Jir:=by
 intro Hs H0 H x y a b c Q i hs ra rb e q;obtain⟨ds,e1,e⟩:=bind_some e;obtain⟨k,e2,e3⟩:=bind_some e;have hb:=Vr e2;subst hb;split at e3
 ·next hz=>cases e3;obtain⟨l,us,rfl,h1,r1⟩:=ra.m i e1;obtain⟨b1,b2⟩:=Jax hz.1;exact⟨l,k,us,rfl,RD.intI rb,h1,by omega,by omega,by rw[r1.1];exact hz.2,fun p hp=>Vz i hs hp (r1.rep k.toNat) q⟩
 ·cases e3
end
theorem Jgb{d:D}{s:Sl}{k:Int}(e:s.m=some [d])(h1:JcA k=true)(h2:k.toNat<=16777216):Jir s (.sh (.int k))=some (.own (QA k.toNat d)):=by
 unfold Jir;rw[e,QB];show(some k).bind _=_;rw[QB,if_pos ⟨h1,by rw[Gn,Nat.one_mul];exact h2⟩];congr 2
 generalize k.toNat=n
 induction n with
 | zero=>rfl
 | succ n ih=>rw[Gj,GH,ih];rfl
end LE

namespace L2
open PySem PySem.Spec PyProof.Rows
noncomputable def Jkl(i:Nat)(t:TS):TS:=fun D σ H=>∃a kvs,σ[i]?=some (some (.ref a))/\H a=some (.dK kvs)/\∀o,t D σ (upd H a (.frz o (.dK kvs)))
theorem Inv.freeze{X:Cx}{pins:List (Addr×Obj)}{σ:St}{H:Hp}{s:Shared}{a:Addr}{kvs:List (Key×V)}(I:Inv X pins σ H s)(e:H a=some (.dK kvs)):∃o,Inv X pins σ (upd H a (.frz o (.dK kvs))) s:=by
 obtain⟨z,y,vs,r,ob,es,ep,e1,c⟩:=(show ObjOk X.prog X.w H s.heap a (.dK kvs) from I.hok a _ e)
 have:=I.write (x:=a) (e:=a) (o:=.frz ob (.dK kvs)) (h':=s.heap) (t':=s.toks) (by rw[e];trivial) (.inl rfl) (fun b u _ q=>q) ⟨ob,e1⟩ ⟨e1,z,y,vs,r,ob,es,ep,e1,c⟩;exact⟨ob,this⟩
theorem Ji6{X:Cx}{st:Stmt}{t:TS}(i:Nat)(h:PS X st t):PS X st (Jkl i t):=by intro pins s σ H D I ⟨a,kvs,e1,e2,q⟩;obtain⟨o,I'⟩:=I.freeze e2;exact h pins s σ _ D I' (q o)
noncomputable def Itd(a:Addr)(o:Obj)(kvs:List (Key×V)):It :=
 ⟨fun i H=>H a=some (.frz o (.dK kvs))/\∃p,kvs[i]?=some p,
  fun i H x H'=>∃t k v,x=.ref t/\H t=none/\kvs[i]?=some (k,v)/\H'=upd H t (.tup [kV k,v]),
  fun i H=>H a=some (.frz o (.dK kvs))/\i=kvs.length⟩
theorem JgB{P:Program}{w:World}{k:Key}{u:Value}(h:(JD P w).is k u=true):RelV (kV k) u:=by
 rcases JS (show WS k u=true from h) with ⟨i,t,rfl,rfl⟩|⟨x,t,rfl,rfl⟩
 ·exact⟨t,rfl⟩
 ·exact⟨t,rfl⟩
theorem KV.get{κ:Type}:∀{kvs:List (κ×V)} {vs:List (κ×Value)} {i:Nat} {p:κ×V},KV kvs vs->kvs[i]?=some p->∃u,vs[i]?=some (p.1,u)/\RelV p.2 u
 | _,_,0,p,.cons h _,e=>by simp at e;subst e;obtain⟨h1,h2⟩:=h;rename_i q _ _;exact⟨_,by simp;exact KO h1.symm rfl,h2⟩
 | _,_,i+1,p,.cons _ t,e=>by obtain⟨u,h1,h2⟩:=KV.get (i:=i) t (by simpa using e);exact⟨u,by simpa using h1,h2⟩
 | _,_,_,_,.nil,e=>by simp at e
theorem WF{X:Cx}{pins:List (Addr×Obj)}{σ:St}{H:Hp}{s:Shared}{a:Addr}{o:Obj}{kvs:List (Key×V)}{es:Array DictEntry}{ep:Nat}(I:Inv X pins σ H s)(h:H a=some (.frz o (.dK kvs)))(hd:o.data=.dict es ep) :
 ∃vs,KV kvs vs/\s.heap.DictAt (JD X.prog X.w) a vs ep/\(a == sysModules)=false:=by
 obtain⟨e0,z,y,vs,r,ob,es',ep',e1,c1,c2,c3⟩:=(show ObjOk X.prog X.w H s.heap a (.frz o (.dK kvs)) from I.hok a _ h)
 rw[e0] at e1;cases e1;rw[hd] at c2;cases c2;exact⟨vs,r,⟨o,es,e0,c1,hd,c3⟩,y⟩
theorem Jc4{P:Program}{w:World}{K:Frag}{elts:List Expr}{kk:Nat}{pos:Pos}(a it:Addr)(o:Obj)(kvs:List (Key×V))(es:Array DictEntry)(ep:Nat)(hd:o.data=.dict es ep) :
 Turn P w K (.Tuple elts kk pos) (Itd a o kvs) [it] it (fun i h=>∃ok ov,IsItemIter h it a i kvs.length ep ok ov) where
 mem:=by simp
 obj:=fun i h st c hc=>by
  obtain⟨ok,ov,s1⟩:=st;have hc':c=it:=by simpa using hc
  subst hc';exact⟨_,s1,fun v z=>nomatch (show Data.fields _=Data.cell v from z)⟩
 keep:=fun i h h' st k=>by obtain⟨ok,ov,s1⟩:=st;exact⟨ok,ov,k it (by simp) _ s1⟩
 item:=by
  intro X hP hw hK hc i pins s σ H E I hf st hg;subst hP hw hK;obtain⟨hH,⟨k,v⟩,e1⟩:=hg;obtain⟨vs,r,dd,_⟩:=WF I hH hd;obtain⟨ok,ov,s1⟩:=st;obtain⟨u,hu,ru⟩:=r.get e1;have hl:kvs.length=vs.length:=KV.length r;rw[hl] at s1;refine wpAny_pyNext_items_item s1 dd hu fun key h' hk hit' ht hz hkeep=>?_
  refine⟨_,rfl,wpAny_letOwnedTupleGo_items (s:={ s with heap:=h' }) hit' fun k2 t9 e9=>?_⟩
  replace e9:Qz it h' k2:=e9;have elt:it<s.heap.objs.size:=Qo s1
  have I1:Inv X pins σ (upd H s.heap.objs.size (.tup [kV k,v])) { s with heap:=s.heap.push { cls:=.type "tuple",data:=.seq #[key,u] },toks:=s.toks } :=
   I.laid (o:=.tup [kV k,v]) (fun c ob q=>Qf _ q) (Qk _) ⟨by show 2<=sizeLine;decide,[key,u],.cons (JgB hk) (.cons ru .nil),⟨_,Qj _ rfl,rfl,_,rfl⟩⟩
  have hf1:∀c∈[it],FpOk X pins (upd H s.heap.objs.size (.tup [kV k,v])) c:=fun c hc=>by
   have hc':c=it:=by simpa using hc
   subst hc';exact⟨by rw[Jh (Qx elt)];exact(hf c hc).1,(hf c hc).2⟩
  have I2:Inv X pins σ (upd H s.heap.objs.size (.tup [kV k,v])) { s with heap:=k2,toks:=s.toks }:=Inv.turnedL (s:={ s with heap:=s.heap.push { cls:=.type "tuple",data:=.seq #[key,u] },toks:=s.toks }) I1 (fun c ob hc q=>by
   have hc':c≠it:=fun z=>hc (by simp[z])
   refine e9.extBut c ob hc' ?_
   by_cases hcs:c=s.heap.objs.size
   ·subst hcs;have q':(s.heap.push { cls:=.type "tuple",data:=.seq #[key,u] }).get? s.heap.objs.size=some ob:=q;rw[Qj _ rfl] at q';cases q';exact ht
   ·have q':s.heap.get? c=some ob:=by have q2:(s.heap.push { cls:=.type "tuple",data:=.seq #[key,u] }).get? c=some ob:=q;exact(LW s.heap c _ hcs).symm.trans q2
    exact hkeep c ob hc' q') hf1
  refine⟨.ref s.heap.objs.size,_,I2,rfl,⟨_,k,v,rfl,I.hok.fresh (Qk _),e1,rfl⟩,⟨key,u,?_⟩,fun c hc=>(hf1 c hc).1⟩
  ·rw[hl];exact t9
 done:=by
  intro X hP hw hK hc i pins s σ H E I hf st hg;subst hP hw hK;obtain⟨hH,ei⟩:=hg;obtain⟨vs,r,dd,_⟩:=WF I hH hd;obtain⟨ok,ov,s1⟩:=st;have hl:kvs.length=vs.length:=KV.length r;have hh:X.A.handled=none:=I.ok.hd hc;rw[hl] at s1;refine wpAny_pyNext_items_end hh s1 dd (Mu (by omega)) fun h' he=>⟨rfl,?_⟩
  exact I.turnedL (fun c ob hc q=>he c ob (fun z=>hc (by simp[z])) q) hf
 self:=fun _ _ _ _ _ st h=>by obtain⟨ok,ov,s1⟩:=st;exact PySem.W.kcp_self s1 h
noncomputable def JnD(td:TE):TI:=fun σ H R=>td σ H fun x H1=>∃a o kvs,x=.ref a/\H1 a=some (.frz o (.dK kvs))/\R (Itd a o kvs) H1
theorem JgZ{X:Cx}{elts:List Expr}{kk:Nat}{tpos:Pos}{d:Expr}{td:TE}{apos pos:Pos}(hd:PE X d td)(hbase:attributeBase d "items" X.env (eval d X.env)=eval d X.env:=by rfl)(hline:(apos.endLine == pos.line)=true:=by rfl)
:PI X (.Tuple elts kk tpos) (.Call (.Attribute d "items" apos) [] [] pos) (JnD td):=by
 intro pins s σ H R I h;refine KZ hbase hline (thn (hd pins s σ H _ I h) fun v s1 ⟨x,H1,I1,r1,a,o,kvs,ex,hH,q⟩=>?_);subst ex;cases r1;obtain⟨t1,t2,_⟩:=Jaz I1 (.inl ⟨kvs,.inr ⟨o,hH⟩⟩);have hO:=(show ObjOk X.prog X.w H1 s1.heap a (.frz o (.dK kvs)) from I1.hok a _ hH)
 obtain⟨e0,z,y,vs,r,ob,es,ep,e1,c1,c2,c3⟩:=hO;rw[e0] at e1;cases e1;have dd:s1.heap.DictAt (JD X.prog X.w) a vs ep:=⟨o,es,e0,c1,c2,c3⟩
 have hl:kvs.length=vs.length:=KV.length r;refine⟨"dict","dict.items",Kf,Ki,Mb,t1,t2,Gw rfl (Lz ?_)⟩;refine call_meetsIn Ki t1 L5 (LQ _) (meets_dict_items (JD X.prog X.w) a y) ⟨⟨vs,dd.dictOf⟩,?_⟩
 have I2:Inv X pins σ H1 { s1 with heap:=s1.heap.push { cls:=.type "dict_items",data:=.fields #[.ref a] },toks:=s1.toks }:=I1.kept fun b ob q=>Qf _ q
 refine wpAny_pyIter_items (s:={ s1 with heap:=s1.heap.push { cls:=.type "dict_items",data:=.fields #[.ref a] } }) (d:=a) (kvs:=vs) (ep:=ep) (knd:=JD X.prog X.w) ⟨_,Qj _ rfl,rfl,rfl⟩ (dd.push _) ?_;refine⟨_,[(s1.heap.push { cls:=.type "dict_items",data:=.fields #[.ref a] }).objs.size],_,_,H1,rfl,I2.kept (t':=s1.toks) fun b ob q=>Qf _ q,Jc4 a _ o kvs es ep c2,⟨.none,.none,?_⟩,fun c hc=>?_,q⟩
 ·rw[hl];exact Qj _ rfl
 ·have hc':c=(s1.heap.push { cls:=.type "dict_items",data:=.fields #[.ref a] }).objs.size:=by simpa using hc
  subst hc';exact I2.fpOk (Qk _) (I2.hok.fresh (Qk _))
end L2
namespace LE
open PySem L2 LR
noncomputable def Jep(i:Nat)(b:Es):Es:=fun E=>match E[i]? with
 | some (.od ks ds)=>b (E.set i (.sh (.dfz ks ds)))
 | _=>none
noncomputable def JaA:List Int->List D->List D:=List.zipWith fun k d=>.tup [.int k,d]
noncomputable def Jcz(a:Ev):En->Option (List D):=fun E=>(a E).bind fun s=>match s with
 | .sh (.dfz ks ds)=>some (JaA ks ds)
 | _=>none
section
variable{K:Frag}{C:Addr}{m:Bool}{t:TS}{et:Es}{td:TE}{ed:Ev}
theorem Jm5(i:Nat)(ht:SS K C t et):SS K C (Jkl i t) (Jep i et):=by
 intro B H0 H σ E o D I e f;unfold Jep at e;split at e
 ·next ks ds h =>
  obtain⟨l,xs,g1,g2,g3,g4,gk,g5⟩:=I.slotD h;refine⟨l,_,g1,g2,fun ob=>?_⟩;have hi:i<E.length:=(Qh.mp h).1;have s0:Same H0 (upd H0 l (.frz ob (dkO ks xs))):=.new g3;have nb:∀{A:Hp},A l=none->Same A H->Same A (upd H l (.frz ob (dkO ks xs))):=fun {A} n s a o e=>by rw[Jh (Ju e n)];exact s a o e
  have s1:Same (upd H0 l (.frz ob (dkO ks xs))) (upd H l (.frz ob (dkO ks xs))):=fun a o e=>by
   by_cases ha:a=l
   ·subst ha;rw[Jq] at e ⊢;exact e
   ·rw[Jh ha] at e ⊢;exact I.h a o e
  have st:SStep B H0 (upd H0 l (.frz ob (dkO ks xs))) (upd H l (.frz ob (dkO ks xs))):=⟨nb g4 I.b,s0,fun a o e=>by
   by_cases ha:a=l
   ·subst ha;exact .inr (.inl g4)
   ·rw[Jh ha] at e;exact .inl e,s1⟩
  refine ht B _ _ σ _ o D ⟨nb g4 I.b,s1,by simp[I.len],fun j s e=>?_,fun j k u1 u2 v hjk a1 a2 w1 w2 a3=>?_⟩ e (f.step st)
  ·rw[QT] at e
   by_cases hj:i=j
   ·subst hj;rw[if_pos rfl,if_pos hi] at e;cases e;exact .inr ⟨_,g1,.mkZ Jq gk (g5.mono s0)⟩
   ·rw[if_neg hj] at e;rcases I.at' j s e with z|⟨v,q1,q2⟩
    ·exact .inl z
    ·refine .inr ⟨v,q1,?_⟩
     cases s with
     | no=>trivial
     | sh d=>exact RD.mono s0 q2
     | bo es=>obtain⟨l',ys,p1,p2,p3⟩:=q2;exact⟨l',ys,p1,p2,p3.mono s0⟩
     | bd ks es=>obtain⟨l',ys,p1,p2,hk,p3⟩:=q2;exact⟨l',ys,p1,p2,hk,p3.mono s0⟩
     | bt ks es=>obtain⟨l',ys,p1,p2,hk,p3⟩:=q2;exact⟨l',ys,p1,p2,hk,p3.mono s0⟩
     | own es =>
      obtain⟨l',ys,p1,p2,p3,p4,p5⟩:=q2;subst p1;have:l'≠l:=fun z=>by subst z;exact I.sep i j _ _ (.ref l') hj h e rfl rfl g1 q1
      exact⟨l',ys,rfl,by rw[Jh this];exact p2,by rw[Jh this];exact p3,p4,p5.mono s0⟩
     | od ks es =>
      obtain⟨l',ys,p1,p2,p3,p4,hk,p5⟩:=q2;subst p1;have:l'≠l:=fun z=>by subst z;exact I.sep i j _ _ (.ref l') hj h e rfl rfl g1 q1
      exact⟨l',ys,rfl,by rw[Jh this];exact p2,by rw[Jh this];exact p3,p4,hk,p5.mono s0⟩
     | ot ks es =>
      obtain⟨l',ys,p1,p2,p3,p4,hk,p5⟩:=q2;subst p1;have:l'≠l:=fun z=>by subst z;exact I.sep i j _ _ (.ref l') hj h e rfl rfl g1 q1
      exact⟨l',ys,rfl,by rw[Jh this];exact p2,by rw[Jh this];exact p3,p4,hk,p5.mono s0⟩
  ·have own:∀{j:Nat} {u:Sl},(E.set i (.sh (.dfz ks ds)))[j]?=some u->J0 u=true->E[j]?=some u:=fun {j u} a w=>by
    rw[QT] at a
    by_cases hj:i=j
    ·subst hj;rw[if_pos rfl,if_pos hi] at a;cases a;cases w
    ·rw[if_neg hj] at a;exact a
   exact I.sep j k u1 u2 v hjk (own a1 w1) (own a2 w2) w1 w2 a3
 ·cases e
theorem Zl:∀(ks:List Int) (xs:List V) (i:Nat),((ks.map Sum.inl:List Key).zip xs)[i]?=(match ks[i]?,xs[i]? with|some k,some x=>some ((Sum.inl k:Key),x)|_,_=>none)
 | [],xs,i=>by simp
 | k::ks,[],i=>by cases h:(k::ks)[i]? <;> simp_all
 | k::ks,x::xs,0=>by simp
 | k::ks,x::xs,i+1=>by simpa using Zl ks xs i
theorem Jhm(ha:SE K C td ed):SI K C m (JnD td) (Jcz ed):=by
 intro B H0 H σ E ds R I e q;obtain⟨s,e1,e⟩:=bind_some e;split at e
 ·next ks es =>
  cases e;refine ha B H0 H σ E _ _ I e1 fun x H1 H1' s1 r1=>?_
  obtain⟨l,xs,o,rfl,h,hk,rl⟩:=RD.dfzI r1;refine⟨l,o,_,rfl,s1.i _ _ h,q _ _ _ s1 ?_⟩
  have sA:Same (if m=true then H1' else B) H1':=by
   split
   ·exact Same.refl _
   ·exact I.b.trans s1.h
  intro H0' H' st;have hl:H' l=some (.frz o (dkO ks xs)):=st.i _ _ (st.z _ _ h);refine⟨fun i d e=>?_,⟨hl,?_⟩⟩
  ·unfold JaA at e;rw[Mw] at e
   cases hki:ks[i]? with
   | none=>rw[hki] at e;cases e
   | some k =>
    cases hdi:es[i]? with
    | none=>rw[hki,hdi] at e;cases e
    | some d' =>
     rw[hki,hdi] at e;cases e;obtain⟨x,hx,rx⟩:=rl.get hdi;have hz:((ks.map Sum.inl:List Key).zip xs)[i]?=some (Sum.inl k,x):=by rw[Zl,hki,hx]
     refine⟨⟨hl,_,hz⟩,?_⟩;rintro z H2 ⟨p,k',v',rfl,hp,hv,rfl⟩;rw[hz] at hv;cases hv;have h0:H0' p=none:=Same.free st.i hp;refine⟨upd H0' p (.tup [.int k,x]),⟨.new hp,.new h0,fun a o e=>?_,fun a o e=>?_⟩,?_⟩
     ·by_cases h:a=p
      ·subst h;exact .inr (.inl hp)
      ·rw[Jh h] at e;exact .inl e
     ·by_cases h:a=p
      ·subst h;rw[Jq] at e ⊢;exact e
      ·rw[Jh h] at e ⊢;exact st.i a o e
     ·exact .mkT (.of Jq) (.cons (.int _) (.cons (rx.mono (st.z.trans (.new h0))) .nil))
  ·unfold JaA;rw[List.length_zipWith,GA,Qq,rl.1]
 ·cases e
end
end LE

namespace L2
open PySem PySem.Spec PyProof.Rows
theorem Jds{X:Cx}{pins:List (Addr×Obj)}{σ:St}{H:Hp}{s:Shared}{a:Addr}{kvs:List (Key×V)}(I:Inv X pins σ H s)(h:Rd H a (.dK kvs)) :
 ∃vs ep,KV kvs vs/\s.heap.DictAt (JD X.prog X.w) a vs ep/\(a == sysModules)=false/\kvs.length<=sizeLine:=by
 obtain⟨z,y,vs,r,ob,es,ep,e1,c⟩:=(show ObjOk X.prog X.w H s.heap a (.dK kvs) from h.ok I.hok)
 exact⟨vs,ep,r,⟨ob,es,e1,c⟩,y,z⟩
section
variable{prog:Program}{w:World}{A:Around}{E:Value->Shared->Prop}{s:Shared}{T:String}{r d:Addr}{n:Nat}{P:Nat->Value->Prop}{OK:Heap->Prop}
end
end L2
namespace LE
open PySem L2 LR
section
variable{K:Frag}{C:Addr}{td:TE}{ed:Ev}
theorem Rd.put{H:Hp}{l p:Addr}{o u:HO}(h:Rd H l o)(hp:H p=none):Rd (upd H p u) l o:=by
 rcases h with h|⟨ob,h⟩
 ·exact .inl (by rw[Jh (Ju h hp)];exact h)
 ·exact .inr ⟨ob,by rw[Jh (Ju h hp)];exact h⟩
end
end LE

namespace L2
open PySem PySem.Spec PyProof.Rows
theorem Inv.more{X:Cx}{pins:List (Addr×Obj)}{σ:St}{H H':Hp}{s:Shared}{h':Heap}{t':Nat}(I:Inv X pins σ H s)(k:∀b u,s.heap.get? b=some u->h'.get? b=some u)(hx:∀b,b<s.heap.objs.size->H' b=H b)
 (new:∀b o,s.heap.objs.size<=b->H' b=some o->ObjOk X.prog X.w H' h' b o):Inv X pins σ H' { s with heap:=h',toks:=t' }:=by
 have old:∀b o,H b=some o->H' b=some o:=fun b o e=>by rw[hx b (I.hok.lt e)];exact e
 refine I.un ⟨fun b u q _ _ _=>k b u q,fun b u q _ _ _=>⟨u.slots,k b u q⟩,fun b u q n _=>by rw[hx b (Qo q)];exact n,fun b u q _=>⟨u,k b u q⟩,fun b xs q=>old b _ q,fun b u xs q=>old b _ q,fun b ps q=>⟨#[],by rw[old b _ q];simp⟩⟩ fun b o e=>?_
 rcases K8 b s.heap.objs.size with z|z
 ·rw[hx b z] at e;exact(I.hok b o e).stay (fun c u _ q=>k c u q) (fun c q=>old c _ q) fun c xs q=>old c _ q
 ·exact new b o z e
noncomputable def VJ(p a:Addr):HO:=.ext fun h=>h.IsItemsView p a
noncomputable def Jhy(td:TE):TE:=fun σ H Q=>td σ H fun x H1=>∃a kvs,x=.ref a/\Rd H1 a (.dK kvs)/\∀p,H1 p=none->Q (.ref p) (upd H1 p (VJ p a))
theorem JgX{X:Cx}{d:Expr}{td:TE}{apos pos:Pos}(hd:PE X d td)(hbase:attributeBase d "items" X.env (eval d X.env)=eval d X.env:=by rfl)(hline:(apos.endLine == pos.line)=true:=by rfl)
:PE X (.Call (.Attribute d "items" apos) [] [] pos) (Jhy td):=by
 intro pins s σ H Q I h;refine KZ hbase hline (thn (hd pins s σ H _ I h) fun v s1 ⟨x,H1,I1,r1,a,kvs,ex,hH,q⟩=>?_);subst ex;cases r1;obtain⟨t1,t2,_⟩:=Jaz I1 (.inl ⟨kvs,hH⟩);obtain⟨vs,ep,r,dd,y,_⟩:=Jds I1 hH;refine⟨"dict","dict.items",Kf,Ki,Mb,t1,t2,Gw rfl (Lz ?_)⟩;refine call_meetsIn Ki t1 L5 (LQ _) (meets_dict_items (JD X.prog X.w) a y) ⟨⟨vs,dd.dictOf⟩,?_⟩
 have hn:H1 s1.heap.objs.size=none:=I1.hok.fresh (Qk _)
 have vw:(s1.heap.push { cls:=.type "dict_items",data:=.fields #[.ref a] }).IsItemsView s1.heap.objs.size a:=⟨_,Qj _ rfl,rfl,rfl⟩
 refine⟨.ref s1.heap.objs.size,_,I1.laid (t':=s1.toks) (o:=VJ s1.heap.objs.size a) (fun b ob q=>Qf _ q) (Qk _) ⟨vw,⟨_,Qj _ rfl⟩,fun h1 h2 p k=>?_⟩,rfl,q _ hn⟩;obtain⟨o,ho,hc⟩:=p;exact⟨o,k o ho,hc⟩
noncomputable def UX(H:Hp):List Addr->List (Key×V)->Hp
 | a::as,kv::kvs=>upd (UX H as kvs) a (.tup [kV kv.1,kv.2])
 | _,_=>H
theorem Ub{H:Hp}{b:Addr}:∀{as:List Addr} {kvs:List (Key×V)},b∉as->UX H as kvs b=H b
 | [],_,_=>rfl
 | _::_,[],_=>rfl
 | a::as,kv::kvs,h=>by rw[UX,Jh fun z=>h (by rw[z];exact Qd)];exact Ub fun m=>h (Qc _ m)
theorem Wi{H:Hp}:∀{as:List Addr} {kvs:List (Key×V)} {j:Nat} {a:Addr} {kv:Key×V},as.Nodup->as[j]?=some a->kvs[j]?=some kv->UX H as kvs a=some (.tup [kV kv.1,kv.2])
 | [],_,_,_,_,_,e,_=>by simp at e
 | _::_,[],_,_,_,_,_,e=>by simp at e
 | b::as,kv'::kvs,0,a,kv,_,e1,e2=>by simp at e1 e2;subst e1 e2;rw[UX,Jq]
 | b::as,kv'::kvs,j+1,a,kv,hn,e1,e2=>by
  rw[Q2] at hn;simp at e1 e2;have hne:a≠b:=fun z=>hn.1 (by rw[<- z];exact Q6 e1)
  rw[UX,Jh hne];exact Wi hn.2 e1 e2
noncomputable def Jg9:List V->Hp->VK->Prop:=fun xs H Q=>∃(r a:Addr) (kvs:List (Key×V)),xs=[.ref r]/\H r=some (VJ r a)/\Rd H a (.dK kvs) ∧
 ∀(L:Addr) (as:List Addr),H L=none->as.length=kvs.length->as.Nodup->L∉as->(∀b∈as,H b=none)->Q (.ref L) (upd (UX H as kvs) L (.lst (as.map V.ref)))
theorem Jck{X:Cx}(hc:X.calm=true):CallR X (.type "list") Jg9:=by
 intro pins s σ H xs us Q I r h;obtain⟨p,a,kvs,rfl,hv,hq,q⟩:=h;obtain⟨u,rfl,rx⟩:=UZ r;cases rx;obtain⟨vs,ep,rl,dd,_,hz⟩:=Jds I hq;have hl:kvs.length=vs.length:=KV.length rl;have vw:s.heap.IsItemsView p a:=(show ObjOk X.prog X.w H s.heap p (VJ p a) from I.hok p _ hv).1;have hh:X.A.handled=none:=I.ok.hd hc;refine PySem.W.kdx_call hh vw dd (by rw[<- hl];exact hz) fun h' tk acc c as hk hS hal hG hacc=>?_
 have hnd:as.Nodup:=hG.rise.imp fun {x y} h=>Qx h
 have hLa:s.heap.objs.size∉as:=fun m=>absurd (hG.above _ m) (Gc _)
 have fr:∀b∈as,H b=none:=fun b hb=>I.hok.fresh (GM (hG.above b hb))
 have hne:H s.heap.objs.size=none:=I.hok.fresh (Qk _)
 have hsize:as.length<=sizeLine:=by rw[hal,<- hl];exact hz
 refine⟨.ref s.heap.objs.size,_,I.more (t':=tk) hk (fun b hb=>?_) (fun b o hb e=>?_),rfl,q s.heap.objs.size as hne (by rw[hal,hl]) hnd hLa fr⟩
 ·rw[Jh (Qx hb)];exact Ub fun m=>absurd (hG.above b m) (MQ.mpr (GM hb))
 ·by_cases hL:b=s.heap.objs.size
  ·subst hL;rw[Jq] at e;cases e;refine⟨by rw[Qq];exact hsize,acc.toList,c,?_,?_⟩
   ·rw[hacc]
    have:∀l:List Addr,Vals (l.map V.ref) (l.map Value.ref):=fun l=>by
     induction l with
     | nil=>exact .nil
     | cons x l ih=>exact .cons rfl ih
    exact this as
   ·rw[hS]
  ·rw[Jh hL] at e
   by_cases hm:b∈as
   ·obtain⟨j,hj⟩:=KA.mp hm;obtain⟨key,k,x,e1,e2,e3⟩:=hG.pairs j b hj;have hjl:j<kvs.length:=by have:=(Qh.mp e1).1;omega
    have hkv:kvs[j]?=some kvs[j]:=Kb hjl;obtain⟨u,hu,ru⟩:=rl.get hkv;rw[e1] at hu;cases hu;rw[Wi hnd hj hkv] at e;cases e;exact⟨by show 2<=sizeLine;decide,[key,x],.cons (JgB e2) (.cons ru .nil),⟨_,e3,rfl,_,rfl⟩⟩
   ·rw[Ub hm,I.hok.fresh hb] at e;cases e
end L2
namespace LE
open PySem L2 LR
noncomputable def Jaj(a:Ev):Ev:=fun E=>(a E).bind fun s=>s.dk.bind fun p=>some (.own (JaA p.1 p.2))
section
variable{K:Frag}{C:Addr}{td:TE}{ed:Ev}
theorem ZR{H:Hp}{kvs:List (Key×V)}{as:List Addr}(h:∀b∈as,H b=none):Same H (UX H as kvs):=fun b o e=>by rw[Ub fun m=>by rw[h b m] at e;cases e];exact e
theorem JdL{H:Hp}:∀{as:List Addr} {kvs:List (Key×V)} {b:Addr} {o:HO},UX H as kvs b=some o->H b=some o\/b∈as
 | [],_,_,_,e=>.inl e
 | _::_,[],_,_,e=>.inl e
 | a::as,kv::kvs,b,o,e=>by
  by_cases c:b=a
  ·exact .inr (by rw[c];exact Qd)
  ·rw[UX,Jh c] at e;exact(JdL e).imp id fun m=>Qc _ m
theorem RDL.items:∀{ks:List Int} {xs:List V} {ds:List D} {as:List Addr} {H:Hp},ks.length=ds.length->as.length=ks.length->(∀(j:Nat) (a:Addr) (k:Int) (x:V),as[j]?=some a->ks[j]?=some k->xs[j]?=some x->H a=some (.tup [.int k,x]))->RDL K C H xs ds->RDL K C H (as.map V.ref) (JaA ks ds)
 | [],[],[],[],_,_,_,_,_=>.nil
 | [],_,_,a::as,_,_,h,_,_=>by simp at h
 | [],_,d::ds,_,_,h,_,_,_=>by simp at h
 | k::ks,_,[],_,_,h,_,_,_=>by simp at h
 | k::ks,_,_,[],_,_,h,_,_=>by simp at h
 | [],x::xs,[],[],_,_,_,_,h=>by have:=h.1;simp at this
 | k::ks,[],d::ds,a::as,_,_,_,_,h=>by have:=h.1;simp at this
 | k::ks,x::xs,d::ds,a::as,H,h1,h2,h3,h4=>by show RDL K C H (V.ref a::as.map V.ref) (.tup [.int k,d]::JaA ks ds);refine .cons (.mkT (.of (h3 0 a k x rfl rfl rfl)) (.cons (.int k) (.cons h4.head .nil))) (RDL.items (by simpa using h1) (by simpa using h2) (fun j a k x e1 e2 e3=>h3 (j+1) a k x (by simpa using e1) (by simpa using e2) (by simpa using e3)) h4.tail)
theorem Jjv(ha:SE K C td ed):SE K C (tCB Jg9 (VE (Jhy td) Jb6)) (Jaj ed):=by
 intro B H0 H σ E r Q I e q;obtain⟨s,e1,e⟩:=bind_some e;obtain⟨p,e2,e⟩:=bind_some e;cases e;refine ha B H0 H σ E s _ I e1 fun x H1 H1' s1 r1=>?_
 obtain⟨l,xs,rfl,h,hk,rl⟩:=r1.dk s1.i e2;refine⟨l,_,rfl,h,fun w hw=>?_⟩;have st:Step H1' H1 H1' H1 (upd H1' w (VJ w l)):=⟨.new hw,Same.refl _,fun _ _ e=>.inl e,s1.i.trans (.new hw)⟩
 have s2:=s1.trans st;refine⟨w,l,_,rfl,Jq,Rd.put h hw,fun L as hL hal hnd hLa hfr=>?_⟩;rw[GA,Qq,rl.1,hk,Ml] at hal
 have fr0:∀b∈as,H1 b=none:=fun b hb=>Same.free s2.i (hfr b hb)
 have frH:∀b∈as,H b=none:=fun b hb=>Same.free s2.h (hfr b hb)
 have hL0:H1 L=none:=Same.free s2.i hL
 have z0:Same H1 (UX H1 as ((p.1.map Sum.inl:List Key).zip xs)):=ZR fr0
 have zz:Same (upd H1' w (VJ w l)) (UX (upd H1' w (VJ w l)) as ((p.1.map Sum.inl:List Key).zip xs)):=ZR hfr
 have hLl:UX (upd H1' w (VJ w l)) as ((p.1.map Sum.inl:List Key).zip xs) L=none:=by rw[Ub hLa];exact hL
 have ii:Same (UX H1 as ((p.1.map Sum.inl:List Key).zip xs)) (UX (upd H1' w (VJ w l)) as ((p.1.map Sum.inl:List Key).zip xs)):=fun b o e=>by
  by_cases hb:b∈as
  ·obtain⟨j,hj⟩:=KA.mp hb
   have hjl:j<((p.1.map Sum.inl:List Key).zip xs).length:=by rw[GA,Qq,rl.1,hk,Ml];have:=(Qh.mp hj).1;omega
   have hkv:=Kb hjl;rw[Wi hnd hj hkv] at e ⊢;exact e
  ·rw[Ub hb] at e ⊢;exact s2.i b o e
 refine q _ (UX H1 as ((p.1.map Sum.inl:List Key).zip xs)) _ ⟨(s2.h.trans zz).trans (.new hLl),s2.z.trans z0,fun b o e=>?_,ii.trans (.new hLl)⟩ ⟨L,as.map V.ref,rfl,Jq,by rw[Ub hLa];exact hL0,Same.free s2.h hL,?_⟩
 ·rcases JdL e with z|z
  ·exact s2.n b o z
  ·exact .inr (.inl (frH b z))
 ·refine RDL.items (xs:=xs) hk (by rw[hal,hk]) (fun j a k x j1 j2 j3=>?_) (rl.mono z0);exact Wi hnd j1 (by rw[Zl,j2,j3])
end
end LE

namespace L2
open PySem PySem.Spec PyProof.Rows
noncomputable def wo:List Addr->Heap->Heap
 | [],h=>h
 | a::l,h=>(wo l h).update a fun _=>{ cls:=.none,data:=.freed }
theorem Jfs(h:Heap)(a:Addr):(h.update a fun _=>{ cls:=.none,data:=.freed }).get? a=none:=by
 cases q:(h.update a fun _=>({ cls:=.none,data:=.freed }:Obj)).get? a with
 | none=>rfl
 | some o =>
  obtain⟨e,f⟩:=Heap.get?_some_iff.mp q;obtain⟨os,l⟩:=h;simp only[Heap.update,Array.getElem?_modify,if_true] at e
  cases z:os[a]? with
  | none=>rw[z] at e;cases e
  | some u=>rw[z] at e;cases e;cases f
theorem Jen{h:Heap}{b:Addr}:∀{l:List Addr},b∈l->(wo l h).get? b=none
 | [],hb=>nomatch hb
 | a::l,hb=>by
  unfold wo
  by_cases e:a=b
  ·subst e;exact Jfs _ _
  ·rw[Ga _ _ e];exact Jen ((Qg.mp hb).resolve_left (QI e))
theorem JaZ{h:Heap}{b:Addr}:∀{l:List Addr},b∉l->(wo l h).get? b=h.get? b
 | [],_=>rfl
 | a::l,hb=>by unfold wo;rw[Ga _ _ (fun e=>hb (by rw[e];exact Qd))];exact JaZ fun z=>hb (Qc _ z)
theorem Jdz{h base base':Heap}:∀{l:List Env},h.FunFrames base l->(∀b∈frs l,base'.get? b=none)->h.FunFrames base' l
 | [],_,_=>trivial
 | env::l,⟨hk,⟨L,o,hf,hn,ho,hd⟩,hr⟩,n=>by
  have e:frs (env::l)=L::frs l:=by unfold frs;rw[Kc,hf]
  rw[e] at n;exact⟨hk,⟨L,o,hf,n L Qd,ho,hd⟩,Jdz hr fun b hb=>n b (Qc _ hb)⟩
theorem Jis{h base:Heap}{l:List Env}(x:h.FunFrames base l){b:Addr}(hb:b∈frs l):base.get? b=none/\∃o,h.get? b=some o/\∀vs,o.data≠.fields vs:=x.mem hb
theorem ObjOk.there{P:Program}{w:World}{H:Hp}{h:Heap}{a:Addr}{o:HO}(x:ObjOk P w H h a o):∃u,h.get? a=some u:=by
 cases o with
 | lst xs=>obtain⟨_,_,_,_,e⟩:=x;exact⟨_,e⟩
 | tup xs=>obtain⟨_,_,_,p⟩:=x;obtain⟨o,e,_⟩:=p;exact⟨_,e⟩
 | dK kvs=>obtain⟨_,_,_,_,o,_,_,e,_⟩:=x;exact⟨_,e⟩
 | dT kvs=>obtain⟨_,_,_,_,o,_,_,e,_⟩:=x;exact⟨_,e⟩
 | set S n=>obtain⟨o,_,_,_,e,_⟩:=x;exact⟨_,e⟩
 | ins C dx fs=>obtain⟨_,_,_,e,_⟩:=x;exact⟨_,e⟩
 | own y=>obtain⟨_,e⟩:=x;exact⟨_,e⟩
 | xd fs=>obtain⟨_,⟨_,_,_,e,_⟩,_⟩:=x;exact⟨_,e⟩
 | rng lo hi=>obtain⟨_,_,_,e⟩:=x;exact⟨_,e⟩
 | frz ob u=>obtain⟨e,_⟩:=x;exact⟨_,e⟩
 | tbl ps=>exact⟨_,(show h.get? a=some _ from x)⟩
 | met f y=>exact⟨_,(show h.get? a=some _ from x)⟩
 | ext φ=>obtain⟨_,⟨_,e⟩,_⟩:=x;exact⟨_,e⟩

noncomputable def TrD(h base:Heap)(e:Addr)(cls:Value)(dct:Option Addr)(fl:Value):Prop :=
 ∃oe vs T oT ts,h.get? e=some oe/\(oe.cls=cls/\oe.dict=dct)/\oe.data=.fields vs/\vs[1]?=some (.ref T)/\base.get? T=none/\T≠e/\h.get? T=some oT/\oT.data=.fields ts/\ts[3]?=some fl
noncomputable def Fl(base:Heap)(l:List Env)(e:Addr)(cls:Value)(h:Heap):Prop :=
 base.StaysIn h/\base.get? e=none/\h.FunFrames base l/\(TrD h base e cls none .none\/∃oe vs,h.get? e=some oe/\(oe.cls=cls/\oe.dict=none)/\oe.data=.fields vs/\vs[1]?=some .none)
noncomputable def Cov(fs:List Addr)(H':Hp)(h h' base:Heap):Prop:=∀b o,(H' b≠none\/∃u,h.get? b=some u)->b∉fs->h'.get? b=some o->base.get? b=some o
structure XF (P:Program) (w:World) (l:List Env) (H:Hp) (h:Heap) (a:Addr) (cls:Value) (H':Hp) (base h':Heap):Prop where
 un:Un (frs l) [] H H' h h'
 hok:HOk P w H' h'
 fl:Fl base l a cls h'
 cov:Cov (frs l) H' h h' base
 free:H' a=none
 new:h.get? a=none
noncomputable def CX1(P:Program)(w:World):CXT:=fun l H s E e s'=>∃(a:Addr) (cls:Value) (H':Hp) (base:Heap),e=.ref a/\s'.os=s.os/\AllBare s'.gens/\XF P w l H s.heap a cls H' base s'.heap/\E cls (some a) H'
section
variable{P:Program}{w:World}{l:List Env}{H H':Hp}{h h1 h2 base base0:Heap}{a:Addr}{cls:Value}
end
section
variable{M:Model}{A:Around}{E:Value->Shared->Prop}{s:Shared}{base:Heap}{env:Env}{outer l:List Env}{L e:Addr}{cls fl:Value}{dct:Option Addr}{Q:Unit->Shared->Prop}
end

noncomputable def XP(X:Cx)(pins:List (Addr×Obj))(σ:St)(E:XK)(e:Value)(s':Shared):Prop:=∃H s,Inv X pins σ H s/\CX1 X.prog X.w X.stack H s E e s'
section
variable{X:Cx}{pins:List (Addr×Obj)}{σ:St}{H H':Hp}{s s':Shared}{base:Heap}{a:Addr}{cls:Value}{E:XK}{e:Value}
theorem XP.made{args:List Value}{h':Heap}{ea:Addr}(I:Inv X pins σ H s)(m:Heap.MadeExcOf s.heap h' ea cls args)(q:E cls (some ea) H):XP X pins σ E (.ref ea) { s with heap:=h' }:=by
 have nf:∀b∈frs X.stack,∃o,s.heap.get? b=some o:=fun b hb=>by obtain⟨_,o,ho,_⟩:=Jis I.stack hb;exact⟨o,ho⟩
 obtain⟨t,ht,_,_⟩:=m.there;refine⟨H,s,I,ea,cls,H,wo (frs X.stack) s.heap,rfl,rfl,I.bare,⟨⟨fun b o q _ _ _=>m.keeps b o q,fun b o q _ _ _=>⟨o.slots,m.keeps b o q⟩,fun _ _ _ n _=>n,fun b o q _=>⟨o,m.keeps b o q⟩,fun _ _ z=>z,fun _ _ _ z=>z,fun b ps z=>⟨#[],by rw[z];simp⟩⟩,I.hok.kept m.keeps,⟨fun b o q=>?_,?_,?_,.inr ⟨_,_,ht,⟨rfl,rfl⟩,rfl,rfl⟩⟩,fun b o hb hfr q=>?_,?_,m.new⟩,q⟩
 ·by_cases hb:b∈frs X.stack
  ·rw[Jen hb] at q;cases q
  ·rw[JaZ hb] at q;exact m.keeps b o q
 ·by_cases hb:ea∈frs X.stack
  ·exact Jen hb
  ·rw[JaZ hb];exact m.new
 ·exact(Jdz I.stack fun b hb=>Jen hb).of_keeps fun b o q _=>⟨o,m.keeps b o q,rfl⟩
 ·rw[JaZ hfr]
  have ex:∃u,s.heap.get? b=some u:=by
   rcases hb with hb|hb
   ·cases e:H b with
    | none=>exact absurd e hb
    | some u=>exact(I.hok b u e).there
   ·exact hb
  obtain⟨u,hu⟩:=ex;have:=m.keeps b u hu;have q':h'.get? b=some o:=q;rw[q'] at this;cases this;exact hu
 ·cases e:H ea with
  | none=>rfl
  | some u=>obtain⟨o,ho⟩:=(I.hok ea u e).there;rw[m.new] at ho;cases ho
end
end L2

namespace L2
open PySem PySem.Spec PyProof.Rows PySem.Calls
abbrev VEm:List Value:=[.type "ValueError",.type "Exception",.type "BaseException",.type "object"]
section
variable{P:Program}{w:World}{K:Frag}{mg:Str->Option Value}{base:Heap}{N:List Str}{qual:Str}{scope:Scope}{f:Addr}{cd:Value}{A:Around}{outer:List Env}{s:Shared}{H:Hp}{E:XK}
end
section
variable{X:Cx}{x:Str}{np cpos pos:Pos}{C:Addr}{E:XK}{e:Expr}{es:List Expr}{t:TA}
end
end L2

namespace L2
open PySem PySem.Spec PyProof.Rows PySem.Calls
structure CalX (P:Program) (w:World) (K:Frag) (mg:Str->Option Value) (base:Heap) (x:Str) (k:Nat) (ps:List Str) (sp:Sp):Prop where
 ex:∃(f:Addr) (fd:FuncData),FnOk P w K mg base (CX1 P w) k f fd ps sp/\mg x=some (.ref f)/\keepIn K (.ref f)=true/\Binds K fd ps []
section
variable{X:Cx}{k:Nat}{C:Addr}{ps:List Str}{sp:Sp}{x:Str}{p pos:Pos}{e:Expr}{es:List Expr}{t:TA}{st:Stmt}{rest:List Stmt}{T:XK->TE}{TS1:(St->XK)->TS}{u:TS}
end
end L2
namespace L2
open PySem PySem.Spec PyProof.Rows PySem.Calls LE
section
variable{X:Cx}{pins:List (Addr×Obj)}{σ:St}{H:Hp}{s:Shared}{a:Addr}
theorem Inv.track{o:HO}(I:Inv X pins σ H s)(hx:X.ex=[])(ha:H a=none)(h0:X.s₀.heap.get? a=none)(hL:a≠X.env.locals)(hC:∀x c,X.env.cells.lookup x=some c->c≠a)(hP:∀p∈X.pn++pins,p.1≠a)(new:ObjOk X.prog X.w (upd H a o) s.heap a o):Inv X pins σ (upd H a o) s:=by
 have nt:∀b u,H b=some u->b≠a:=fun b u e z=>by rw[z,ha] at e;cases e
 refine⟨I.ok,I.os,I.bare,⟨I.base.keep,I.base.slot,fun b u e n hb=>?_,I.base.there,fun b xs e=>?_,fun b u xs e=>?_,fun b ps e=>?_⟩,I.loc,I.cell,?_,fun x c e=>?_,fun p hp=>?_,fun b u e=>?_,I.len⟩
 ·rw[Jh (fun z=>by rw[z,h0] at e;cases e)];exact I.base.free b u e n hb
 ·have:=I.base.tups b xs e;rw[Jh (nt _ _ this)];exact this
 ·have:=I.base.frzs b u xs e;rw[Jh (nt _ _ this)];exact this
 ·obtain⟨m,this⟩:=I.base.tbls b ps e;exact⟨m,by rw[Jh (nt _ _ this)];exact this⟩
 ·rw[Jh (QI hL)];exact I.free
 ·rw[Jh (hC x c e)];exact I.freeC x c e
 ·obtain⟨h1,h2,h3⟩:=I.pin p hp;exact⟨h1,by rw[Jh (hP p hp)];exact h2,h3⟩
 ·by_cases hb:b=a
  ·subst hb;rw[Jq] at e;cases e;exact new
  ·rw[Jh hb] at e;exact(I.hok b u e).stay (fun _ _ _ q=>q) (fun c q=>by rw[Jh (nt _ _ q)];exact q) fun c xs q=>by rw[Jh (nt _ _ q)];exact q
end
section
variable{X:Cx}{body suite:List Stmt}{b₀:Stmt}{i:Nat}{n cn:Str}{np hpos pos:Pos}{CL:Addr}{T:(St->XK)->TS}{th:TS}
end
end L2

namespace L2
open PySem PySem.Spec PyProof.Rows PySem.Calls LE
structure ExcN (K:Frag) (n:Str):Prop where
 ex:∃c,nsIn K mainGlobals n=some (some (.ref c))/\PySem.W.excIn K c VEm "ValueError.__new__"=true
 pl:∀c,nsIn K mainGlobals n=some (some (.ref c))->findIn K (.ref c) "__getattribute__"=some (some (.builtin "BaseException.__getattribute__"))/\findIn K (.ref c) "__getattr__"=some none/\mroIn K c (.type "BaseException")=some true/\hasDictIn K c=true/\findIn K (.ref c) "__class__"=some (some (.builtin "object.__class__"))/\mroIn K c (.type "object")=some true
structure ExcG (K:Frag):Prop where
 hn:specialIn K (.builtin "object.__class__") "__get__"=some (some (.builtin "getset_descriptor.__get__"))
 htk:takesIn K (.builtin "object.__class__")=some true
section
variable{prog:Program}{w:World}{A:Around}{E:Value->Shared->Prop}{s:Shared}{K:Frag}{x C D:Addr}{ox:Obj}
end
section
variable{K:Frag}{x D:Addr}{ox:Obj}
end
section
variable{X:Cx}
inductive TyX (K:Frag) (H:Hp):V->Value->Prop where
 | of {x:V} {t:Value} (h:TyS K H x t):TyX K H x t
 | exc {a c:Addr} {n:Str} (h:H a=some (XO a (.ref c))) (e:nsIn K mainGlobals n=some (some (.ref c))) (N:ExcN K n) (G:ExcG K):TyX K H (.ref a) (.ref c)
end
end L2

namespace LE
open PySem L2 LR
noncomputable abbrev Xv:=En->Option Str
section
variable(K:Frag)(C:Addr)
end
section
variable{K:Frag}{C:Addr}{W:XK}{t:TA}{ev:En->Option (List Sl)}{te:TE}{ts us:TS}{et eu:Es}{xt xu:Xv}{ex:Xv}
end
section
variable{K:Frag}{C:Addr}{B H0 H:Hp}{σ:St}{E:En}
end
section
variable{K:Frag}{C:Addr}
end
noncomputable def exB(n m:Str):Bool:=n == m || m == "LumpError"
section
variable{K:Frag}{C:Addr}{te:TE}{ea:Ev}
structure IsiN (K:Frag) (R:List Str) (m:Str) (c:Addr):Prop where
 own:∀n∈R,ExcN K n
 g:ExcG K
 k:∀n∈R,∀c',nsIn K mainGlobals n=some (some (.ref c'))->kitOne K (.ref c') (.ref c)=some (exB n m)
 o:kitOne K (.type "NoneType") (.ref c)=some false
end
end LE
namespace L2
open PySem PySem.Spec PyProof.Rows PySem.Calls LE
section
variable{X:Cx}
end
end L2
namespace LE
open PySem L2 LR
noncomputable def IsiL(K:Frag)(R:List Str):List Str->List Addr->Prop
 | [],[]=>True
 | m::ms,c::cs=>IsiN K R m c/\IsiL K R ms cs
 | _,_=>False
theorem IsiL.exc{K:Frag}{R:List Str}{n:Str}{c':Addr}(hn:n∈R)(hc:nsIn K mainGlobals n=some (some (.ref c'))):∀{ms:List Str} {cs:List Addr},IsiL K R ms cs->kitAny K (.ref c') (cs.map Value.ref)=some (ms.any (exB n))
 | [],[],_=>rfl
 | m::ms,c::cs,⟨h,t⟩=>by show(match kitOne K (.ref c') (.ref c) with|some true=>some true|some false=>kitAny K (.ref c') (cs.map Value.ref)|none=>none)=_;rw[h.k n hn c' hc,t.exc hn hc,G8];cases exB n m <;> rfl
theorem IsiL.non{K:Frag}{R:List Str}:∀{ms:List Str} {cs:List Addr},IsiL K R ms cs->kitAny K (.type "NoneType") (cs.map Value.ref)=some false
 | [],[],_=>rfl
 | m::ms,c::cs,⟨h,t⟩=>by show(match kitOne K (.type "NoneType") (.ref c) with | some true=>some true | some false=>kitAny K (.type "NoneType") (cs.map Value.ref) | none=>none)=_;rw[h.o,t.non]
section
variable{K:Frag}{C:Addr}{te:TE}{ea:Ev}
structure IsiV (K:Frag) (R:List Str):Prop where
 own:∀n∈R,ExcN K n
 g:ExcG K
 k:∀n∈R,∀c',nsIn K mainGlobals n=some (some (.ref c'))->kitOne K (.ref c') (.type "ValueError")=some true
end
end LE

namespace L2
open PySem PySem.Spec PyProof.Rows PySem.Calls LE
section
variable{X:Cx}{K:Frag}
end
end L2
namespace LE
open PySem L2 LR
section
variable{K:Frag}{C:Addr}{ts:TS}
structure AtX (K:Frag) (n:Str) (c:Addr):Prop where
 ns:nsIn K mainGlobals n=some (some (.ref c))
 ok:PySem.W.excIn K c VEm "ValueError.__new__"=true
 ga:findIn K (.ref c) "__getattribute__"=some (some (.builtin "BaseException.__getattribute__"))
 gn:findIn K (.ref c) "__getattr__"=some none
 mb:mroIn K c (.type "BaseException")=some true
 hd:hasDictIn K c=true
 fi:findIn K (.ref c) "__class__"=some (some (.builtin "object.__class__"))
 mr:mroIn K c (.type "object")=some true
theorem AtX.n{n:Str}{c:Addr}(h:AtX K n c):ExcN K n:=⟨⟨c,h.ns,h.ok⟩,fun c' e=>by have:=h.ns.symm.trans e;cases this;exact⟨h.ga,h.gn,h.mb,h.hd,h.fi,h.mr⟩⟩
noncomputable def OwnL(K:Frag):List Str->List Addr->Prop
 | [],[]=>True
 | n::ns,c::cs=>AtX K n c/\OwnL K ns cs
 | _,_=>False
theorem OwnL.all:∀{ns:List Str} {cs:List Addr},OwnL K ns cs->∀n∈ns,ExcN K n
 | [],[],_,n,h=>nomatch h
 | m::ns,c::cs,⟨h,t⟩,n,hn=>by
  rcases Qg.mp hn with e|e
  ·rw[e];exact h.n
  ·exact t.all n e
noncomputable def ExmL(K:Frag)(CL:Addr):List Addr->Prop
 | []=>True
 | c::cs=>PySem.W.exmOne K (.ref c) (.ref CL)=some true/\ExmL K CL cs
theorem ExmL.all{CL:Addr}:∀{ns:List Str} {cs:List Addr},OwnL K ns cs->ExmL K CL cs->∀m∈ns,∀c,nsIn K mainGlobals m=some (some (.ref c))->PySem.W.exmOne K (.ref c) (.ref CL)=some true
 | [],[],_,_,n,h=>nomatch h
 | m::ns,c::cs,⟨h,t⟩,⟨h',t'⟩,n,hn=>fun c' e=>by
  rcases Qg.mp hn with z|z
  ·rw[z,h.ns] at e;cases e;exact h'
  ·exact t'.all t n z c' e
noncomputable def KitL(K:Frag)(m:Str)(c:Addr):List Str->List Addr->Prop
 | [],[]=>True
 | n::ns,d::ds=>kitOne K (.ref d) (.ref c)=some (exB n m)/\KitL K m c ns ds
 | _,_=>False
theorem KitL.all{m:Str}{c:Addr}:∀{ns:List Str} {cs:List Addr},OwnL K ns cs->KitL K m c ns cs->∀n∈ns,∀c',nsIn K mainGlobals n=some (some (.ref c'))->kitOne K (.ref c') (.ref c)=some (exB n m)
 | [],[],_,_,n,h=>nomatch h
 | m::ns,c::cs,⟨h,t⟩,⟨h',t'⟩,n,hn=>fun c' e=>by
  rcases Qg.mp hn with z|z
  ·rw[z] at e ⊢;rw[h.ns] at e;cases e;exact h'
  ·exact t'.all t n z c' e
noncomputable def KivL(K:Frag):List Addr->Prop
 | []=>True
 | c::cs=>kitOne K (.ref c) (.type "ValueError")=some true/\KivL K cs
theorem KivL.all:∀{ns:List Str} {cs:List Addr},OwnL K ns cs->KivL K cs->∀n∈ns,∀c',nsIn K mainGlobals n=some (some (.ref c'))->kitOne K (.ref c') (.type "ValueError")=some true
 | [],[],_,_,n,h=>nomatch h
 | m::ns,c::cs,⟨h,t⟩,⟨h',t'⟩,n,hn=>fun c' e=>by
  rcases Qg.mp hn with z|z
  ·rw[z,h.ns] at e;cases e;exact h'
  ·exact t'.all t n z c' e
end
section
variable(K:Frag)(C:Addr)
end
section
variable{K:Frag}{C:Addr}{W:XK}{ta te:TE}{t tr:TA}{ea:Ev}{xa xr ex:Xv}{wi:TI}
end
end LE

namespace LE
open PySem L2 LR
section
variable{K:Frag}{C:Addr}{W:XK}{t:TS}{et:Es}{xt:Xv}
end
end LE
namespace L2
open PySem PySem.Spec PyProof.Rows PySem.Calls LE
structure RoomH (k:Nat) (A:Around):Prop where
 dp:A.depth+3*k+5<recursionLimit
 un:A.units+16*k+200<cLine
theorem Room.h{k:Nat}{A:Around}(r:Room k A):RoomH k A:=⟨r.dp,r.un⟩
theorem RoomH.mono{j k:Nat}{A:Around}(r:RoomH k A)(h:j<=k):RoomH j A:=⟨by have:=r.dp;omega,by have:=r.un;omega⟩
theorem RoomH.deeper{k:Nat}{A:Around}(r:RoomH (k+1) A)(env:Env):RoomH k (A.deeper env) :=
 ⟨by have:=r.dp;show A.depth+1+3*k+5<_;omega,by have:=r.un;show A.units+3+16*k+200<_;omega⟩
theorem RoomH.units{k:Nat}{A:Around}(r:RoomH k A):A.units+64<cLine:=by have:=r.un;omega
structure FnH (P:Program) (w:World) (K:Frag) (mg:Str->Option Value) (base:Heap) (k:Nat) (f:Addr) (fd:FuncData) (ps:List Str) (sp:Sp):Prop where
 len:∀vs H Q E,sp vs H Q E->vs.length=ps.length
 run:∀(A:Around) (outer:List Env) (s:Shared) (H:Hp) (args:Args) (us:List Value) (vs:List V) (Q:VK) (E:XK),RoomH k A->Env0 P w K mg base A outer s H->BindsTo s fd args (ps.zip us)->Vals vs us->sp vs H Q E ->
  codeAny (model P w) A (.call (.ref f) args) (CR CX0 outer P w H s Q E) s
theorem FnH.ok{P:Program}{w:World}{K:Frag}{mg:Str->Option Value}{base:Heap}{k:Nat}{f:Addr}{fd:FuncData}{ps:List Str}{sp:Sp}(F:FnH P w K mg base k f fd ps sp):FnOk P w K mg base CX0 k f fd ps sp :=
 ⟨F.len,fun A outer s H args us vs Q E hr=>F.run A outer s H args us vs Q E hr.h⟩
structure CalH (P:Program) (w:World) (K:Frag) (mg:Str->Option Value) (base:Heap) (x:Str) (k:Nat) (ps:List Str) (sp:Sp):Prop where
 ex:∃(f:Addr) (fd:FuncData),FnH P w K mg base k f fd ps sp/\mg x=some (.ref f)/\keepIn K (.ref f)=true/\Binds K fd ps []
section
variable{X:Cx}{k:Nat}{ps:List Str}{sp:Sp}{x:Str}{p pos:Pos}{e:Expr}{es:List Expr}{t:TA}
end
end L2

namespace L2
open PySem PySem.Spec PyProof.Rows PySem.Calls LE
structure CalMX (P:Program) (w:World) (K:Frag) (mg:Str->Option Value) (base:Heap) (x:Str) (C:Addr) (k:Nat) (ps:List Str) (sp:Sp):Prop where
 ex:∃(f:Addr) (fd:FuncData),Mk K C f/\FnOk P w K mg base (CX1 P w) k f fd ps sp/\mg x=some (.ref C)/\Binds K fd ps []
section
variable{X:Cx}{k:Nat}{C:Addr}{ps:List Str}{sp:Sp}{x:Str}{p pos:Pos}{e:Expr}{es:List Expr}{t:TA}
end
end L2
namespace LE
open PySem L2 LR
section
variable(K:Frag)(C:Addr)
end
section
variable{K:Frag}{C:Addr}{W:XK}{t:TA}{ev:En->Option (List Sl)}{H0 H H2:Hp}
noncomputable def JfD(ss:List Sl):Bool:=ss.all fun s=>!J0 s
theorem RRL.more{vs:List V}{ss:List Sl}(st:Same H H2):JfD ss=true->RRL K C H H0 H vs ss->RRL K C H2 H0 H2 vs ss:=fun ho r=>by
 revert ho
 induction r with
 | nil=>exact fun _=>.nil
 | @cons v s vs ss h _ ih =>
  intro ho
  have hs:J0 s=false/\JfD ss=true:=by unfold JfD at ho ⊢;rw[List.all_cons,QK] at ho;exact⟨by simpa using ho.1,ho.2⟩
  refine .cons ?_ (ih hs.2)
  cases s with
  | no=>exact h
  | sh d=>exact h
  | bo ds=>obtain⟨l,xs,e,g,q⟩:=h;exact⟨l,xs,e,st _ _ g,q⟩
  | bd ks ds=>obtain⟨l,xs,e,g,q⟩:=h;exact⟨l,xs,e,st _ _ g,q⟩
  | bt ks ds=>obtain⟨l,xs,e,g,q⟩:=h;exact⟨l,xs,e,st _ _ g,q⟩
  | own ds=>exact absurd hs.1 (by simp[J0])
  | od ks ds=>exact absurd hs.1 (by simp[J0])
  | ot ks ds=>exact absurd hs.1 (by simp[J0])
end
end LE

namespace L2
open PySem PySem.Spec PyProof.Rows PySem.Calls
section
variable{X:Cx}
end
end L2
namespace LE
open PySem L2 LR
noncomputable def lst?:Sl->Option (List D)
 | .bo ds=>some ds
 | .own ds=>some ds
 | .sh (.lst ds)=>some ds
 | _=>none
section
variable{K:Frag}{C:Addr}{to te:TE}{eo ea:Ev}{Hs H0 H:Hp}{v:V}
theorem RR.lst{s:Sl}{ds:List D}(i:Same H0 H)(r:RR K C Hs H0 H v s)(e:lst? s=some ds):∃l xs,v=.ref l/\H l=some (.lst xs)/\RDL K C H0 xs ds:=by
 cases s with
 | bo es=>cases e;exact r
 | own es=>cases e;obtain⟨l,xs,e,h,_,_,q⟩:=r;exact⟨l,xs,e,h,q⟩
 | sh d =>
  cases d with
  | lst es=>cases e;obtain⟨l,xs,e,h,q⟩:=RD.lstI r;exact⟨l,xs,e,i _ _ h,q⟩
  | _=>cases e
 | _=>cases e
end
end LE

namespace LE
open PySem L2 LR
section
variable{K:Frag}{C:Addr}
end
end LE

namespace PySem
abbrev Jku(h:Heap)(z TI TO a:Addr)(f:Bool):Prop :=
 h.get? z=some { cls:=.type "zip",dict:=none,data:=.fields #[rawInt a,.bool f,.bool false,.ref TI,.ref TO],slots:=#[] }
section
variable{prog:Program}{w:World}{A:Around}{E:Value->Shared->Prop}{s:Shared}{z TI TO i1 i2 a:Addr}{f:Bool}{oa:Obj}{p1 p2:List Addr}{n1 n2 k:Nat}{P1 P2:Nat->Value->Prop}{S1 S2:Nat->Heap->Prop}
end
end PySem

namespace PySem
section
variable{prog:Program}{w:World}{A:Around}{E:Value->Shared->Prop}{s:Shared}{b1 b2:Bool}{a1 a2 z TI TO i1 i2 S:Addr}{xs ys:Array Value}{i:Nat}
def LzSt(b1 b2:Bool)(a1 a2 z TI TO i1 i2 S:Addr)(xs ys:Array Value)(i:Nat)(h:Heap):Prop :=
 IsPair h TI (.ref i1) (.ref i2)/\(IsItr b1 h i1 a1 i/\IsSq b1 h a1 xs)/\(IsItr b2 h i2 a2 i/\IsSq b2 h a2 ys) ∧
 ((IsZip h z TI TO .none/\∃u v,IsPair h TO u v)\/∃a f oa,Jku h z TI TO a f/\h.get? a=some oa/\a≠S/\a≠z/\a≠i1/\a≠i2)
theorem IsSq.keep{b:Bool}{h h':Heap}{a:Addr}{xs:Array Value}(q:IsSq b h a xs)(k:∀o,h.get? a=some o->h'.get? a=some o):IsSq b h' a xs:=by
 cases b with
 | true=>obtain⟨o,e,r⟩:=q;exact⟨o,k o e,r⟩
 | false=>obtain⟨o,e,r⟩:=q;exact⟨o,k o e,r⟩
theorem IsItr.keep'{b:Bool}{h h':Heap}{j a:Addr}{i:Nat}(q:IsItr b h j a i)(k:∀o,h.get? j=some o->h'.get? j=some o):IsItr b h' j a i:=by
 cases b with
 | true=>obtain⟨o,e,r⟩:=q;exact⟨o,k o e,r⟩
 | false=>obtain⟨o,e,r⟩:=q;exact⟨o,k o e,r⟩
theorem LzSt.keep{h h':Heap}(x:LzSt b1 b2 a1 a2 z TI TO i1 i2 S xs ys i h)(k:∀b o,b≠S->h.get? b=some o->h'.get? b=some o)(n:S∉[z,TI,TO,i1,i2,a1,a2]):LzSt b1 b2 a1 a2 z TI TO i1 i2 S xs ys i h':=by
 simp only[Qg,QX,or_false,not_or] at n;obtain⟨n1,n2,n3,n4,n5,n6,n7⟩:=n;obtain⟨x1,x2,x3,x4⟩:=x;refine⟨k _ _ (QI n2) x1,⟨IsItr.keep' x2.1 fun o e=>k _ o (QI n4) e,IsSq.keep x2.2 fun o e=>k _ o (QI n6) e⟩,⟨IsItr.keep' x3.1 fun o e=>k _ o (QI n5) e,IsSq.keep x3.2 fun o e=>k _ o (QI n7) e⟩,?_⟩;rcases x4 with ⟨y1,u,v,y2⟩|⟨a,f,oa,y1,y2,y3⟩
 ·exact .inl ⟨k _ _ (QI n1) y1,u,v,k _ _ (QI n3) y2⟩
 ·exact .inr ⟨a,f,oa,k _ _ (QI n1) y1,k _ _ y3.1 y2,y3⟩
end
structure LzG (xs ys:Array Value) (lo:Addr) (h:Heap) (as:List Addr):Prop where
 rise:as.Pairwise (·<·)
 above:∀a∈as,lo<a
 pairs:∀(j:Nat) (a:Addr),as[j]?=some a->∃u v,xs[j]?=some u/\ys[j]?=some v/\IsPair h a u v
theorem LzG.there{xs ys:Array Value}{lo:Addr}{h:Heap}{as:List Addr}(g:LzG xs ys lo h as){a:Addr}(ha:a∈as):a<h.objs.size:=by obtain⟨j,hj⟩:=KA.mp ha;obtain⟨_,_,_,_,e⟩:=g.pairs j a hj;exact Qo e
section
variable{prog:Program}{w:World}{A:Around}{s:Shared}{R:Result->Shared->Prop}{b1 b2:Bool}{a1 a2 z TI TO i1 i2 S:Addr}{xs ys:Array Value}
end
end PySem

namespace PySem
open PySem.Calls PyProof.Rows PyProof.V PySem.Spec
section
variable{prog:Program}{w:World}{A:Around}{E:Value->Shared->Prop}{s:Shared}{b1 b2:Bool}{a1 a2 z TI TO i1 i2:Addr}{xs ys:Array Value}
end
end PySem

namespace L2
open PySem PySem.Spec PyProof.Rows
end L2

namespace LE
open PySem L2 LR
section
variable{K:Frag}{C:Addr}
end
end LE

namespace L2
open PySem PySem.Spec PyProof.Rows
section
variable{X:Cx}{pins:List (Addr×Obj)}{σ:St}{H:Hp}{s:Shared}{a:Addr}{kvs:List (Key×V)}{k:Key}{z:V}{u r:Value}{A:Around}{E:Value->Shared->Prop}
theorem JkE{Q:Value->Shared->Prop}(I:Inv X pins σ H s)(e:H a=some (.dK kvs))(ry:RelV (kV k) u)(rz:RelV z r)(l:kvs.length<sizeLine)
 (h1:∀v w' s',Um kvs k=some v->Inv X pins σ H s'->RelV v w'->Q w' s') (h2:Um kvs k=none->∀s',Inv X pins σ (upd H a (.dK (UL kvs k z))) s'->Q r s') :
 wpAny (model X.prog X.w) A (call (.builtin "dict.setdefault") [.ref a,u,r]) Q E s:=by
 obtain⟨hz,hd,vs,rel,dd⟩:=JjX I.hok e;have hzl:vs.length<=sizeLine:=by rw[<- rel.length];exact hz
 have hl:(UL kvs k z).length<=sizeLine:=by have:=UI kvs k z;omega
 refine call_meetsIn Lw dd.typeIs PySem.F.entry_dict_setdefault (PySem.F.args_dict_setdefault_3 _ _ _) (kt_meets_setdefault (JD X.prog X.w) a (JdJ ry) hd r) ⟨vs,dd,hzl,fun v hv=>?_,fun hn h' dd' hs=>?_⟩
 ·have rv:=rel.val k;rw[hv] at rv
  cases hk:Um kvs k with
  | none=>rw[hk] at rv;cases rv
  | some y=>rw[hk] at rv;exact h1 y v _ hk (I.tok _) rv
 ·have rv:=rel.val k;rw[hn] at rv
  have hk:Um kvs k=none:=by
   cases hk:Um kvs k with
   | none=>rfl
   | some y=>rw[hk] at rv;cases rv
  refine h2 hk _ ?_;have he:∃q,h'.get? a=some q:=let ⟨q,_,_,hq,_⟩:=dd';⟨q,hq⟩
  exact Jai I (by rw[e];exact True.intro) hs he (Jf0 hl hd (rel.put k rz) dd')
end
noncomputable def Jhx(td ty tx:TE):TE:=fun σ H Q=>td σ H fun x H1=>∃a,x=.ref a/\IsD H1 a/\ty σ H1 fun y H2=>tx σ H2 fun z H3=>∃kvs k,H3 a=some (.dK kvs)/\y=kV k/\kvs.length<sizeLine ∧
 (∀v,Um kvs k=some v->Q v H3)/\(Um kvs k=none->Q z (upd H3 a (.dK (UL kvs k z))))
section
variable{X:Cx}{o e f:Expr}{apos cpos:Pos}{td ty tx:TE}
theorem JgV(ho:PE X o td)(he:PE X e ty)(hf:PE X f tx)(m:M2 X o "setdefault" apos e f cpos):PE X (.Call (.Attribute o "setdefault" apos) [e,f] [] cpos) (Jhx td ty tx):=by
 intro pins s σ H Q I h;refine wpAny_Call_method m.base m.few m.line Kf Lw PySem.F.type_dict_setdefault (thn (ho pins s σ H _ I h) fun u s1 ⟨x,H1,I1,rx,a,ex,d,q1⟩=>?_);subst ex;obtain rfl:u=Value.ref a:=rx;obtain⟨t1,t2,_⟩:=Jaz I1 d;refine⟨t1,t2,?_⟩;rw[m.trees];refine Gw rfl (Lk (Kn (thn (he pins s1 σ H1 _ I1 q1) fun iv s2 ⟨y,H2,I2,ry,q2⟩=>Kn (thn (hf pins s2 σ H2 _ I2 q2) fun fv s3 ⟨z,H3,I3,rz,kvs,k,e1,e2,l,q3,q4⟩=>LV ?_))))
 subst e2;exact JkE I3 e1 ry rz l (fun v w' s' hv I4 rv=>⟨v,H3,I4,rv,q3 v hv⟩) fun hn s' I4=>⟨z,_,I4,rz,q4 hn⟩
end
end L2
namespace LE
open PySem L2 LR
section
variable(K:Frag)(C:Addr)(j:Nat)
noncomputable def Left(σ:St)(E:En)(σ':St)(E':En):Prop:=σ'[j]?=σ[j]?/\∀(i:Nat) (s:Sl),E'[i]?=some s->J0 s=true->E[i]?=some s/\σ'[i]?=σ[i]?
end
section
variable{K:Frag}{C:Addr}{j:Nat}
theorem Left.refl(σ:St)(E:En):Left j σ E σ E:=⟨rfl,fun _ _ e _=>⟨e,rfl⟩⟩
theorem Left.trans{σ σ1 σ2:St}{E E1 E2:En}(a:Left j σ E σ1 E1)(b:Left j σ1 E1 σ2 E2):Left j σ E σ2 E2 :=
 ⟨b.1.trans a.1,fun i s e o=>by obtain⟨h1,h2⟩:=b.2 i s e o;obtain⟨h3,h4⟩:=a.2 i s h1 o;exact⟨h3,h2.trans h4⟩⟩
end
end LE

namespace LE
open PySem L2 LR
section
variable(K:Frag)(C:Addr)
structure Grp (B H0 H:Hp) (σ:St) (E:En) (j c:Nat) (ks:List Int) (dss:List (List D)) (l:Addr) (ls:List Addr):Prop where
 at':σ[j]?=some (some (.ref l))
 dict:H l=some (dkO ks (ls.map V.ref))
 l0:H0 l=none
 lb:B l=none
 len:ks.length=ls.length
 len2:dss.length=ls.length
 cnt:ks.length<=c
 lists:∀(m:Nat) (a:Addr) (ds:List D),ls[m]?=some a->dss[m]?=some ds->ds.length<=c/\∃xs,H a=some (.lst xs)/\H0 a=none/\B a=none/\RDL K C H0 xs ds
 nd:(l::ls).Nodup
 own:∀(i:Nat) (s:Sl) (a:Addr),E[i]?=some s->J0 s=true->σ[i]?=some (some (.ref a))->a∉l::ls
end
section
variable{K:Frag}{C:Addr}{B H0 H H0' H':Hp}{σ σ':St}{E E':En}{j c:Nat}{ks:List Int}{dss:List (List D)}{l:Addr}{ls:List Addr}
theorem Grp.there(g:Grp K C B H0 H σ E j c ks dss l ls){a:Addr}(ha:a∈l::ls):∃o,H a=some o/\isT o=false/\H0 a=none/\B a=none:=by
 rcases Qg.mp ha with z|z
 ·subst z;exact⟨_,g.dict,rfl,g.l0,g.lb⟩
 ·obtain⟨m,hm⟩:=KA.mp z;have hl:m<dss.length:=by rw[g.len2];exact(Qh.mp hm).1
  obtain⟨_,xs,h1,h2,h3,_⟩:=g.lists m a dss[m] hm (Kb hl);exact⟨_,h1,rfl,h2,h3⟩
theorem Grp.off(g:Grp K C B H0 H σ E j c ks dss l ls)(st:Step H H0 H H0' H'){a:Addr}(ha:a∈l::ls):H0' a=none:=by
 obtain⟨o,h1,h2,h3,_⟩:=g.there ha
 cases z:H0' a with
 | none=>rfl
 | some u =>
  rcases st.n a u z with y|y|y
  ·rw[h3] at y;cases y
  ·rw[h1] at y;cases y
  ·have:=st.i a u z;rw[st.h a o h1] at this;cases this;rw[h2] at y;cases y
theorem Grp.step(g:Grp K C B H0 H σ E j c ks dss l ls)(st:Step H H0 H H0' H'):Grp K C B H0' H' σ E j c ks dss l ls :=
 ⟨g.at',st.h _ _ g.dict,g.off st Qd,g.lb,g.len,g.len2,g.cnt,fun m a ds e1 e2=>by obtain⟨h0,xs,h1,h2,h3,h4⟩:=g.lists m a ds e1 e2;exact⟨h0,xs,st.h _ _ h1,g.off st (Qc _ (Q6 e1)),h3,h4.mono st.z⟩,g.nd,g.own⟩
theorem Grp.left(g:Grp K C B H0 H σ E j c ks dss l ls)(f:Left j σ E σ' E'):Grp K C B H0 H σ' E' j c ks dss l ls :=
 ⟨f.1.trans g.at',g.dict,g.l0,g.lb,g.len,g.len2,g.cnt,g.lists,g.nd,fun i s a e o q=>by obtain⟨h1,h2⟩:=f.2 i s e o;exact g.own i s a h1 o (by rw[<- h2];exact q)⟩
theorem Grp.free(g:Grp K C B H0 H σ E j c ks dss l ls){a:Addr}(ha:a∈l::ls):∀(i:Nat) (s:Sl),E[i]?=some s->J0 s=true->σ[i]?≠some (some (.ref a)):=fun i s e o q=>g.own i s a e o q ha
theorem EnvR.fresh(I:EnvR K C B H0 H σ E){p:Addr}(hp:H p=none):∀(i:Nat) (s:Sl),E[i]?=some s->J0 s=true->σ[i]?≠some (some (.ref p)):=fun i s e o q=>by
 rcases I.at' i s e with z|⟨v,q1,q2⟩
 ·subst z;cases o
 ·rw[q1] at q;cases q
  cases s with
  | own es=>obtain⟨l',ys,p1,p2,_⟩:=q2;cases p1;rw[hp] at p2;cases p2
  | od ks es=>obtain⟨l',ys,p1,p2,_⟩:=q2;cases p1;rw[hp] at p2;cases p2
  | ot ks es=>obtain⟨l',ys,p1,p2,_⟩:=q2;cases p1;rw[hp] at p2;cases p2
  | _=>cases o
end
end LE

namespace LE
open PySem L2 LR
section
variable{K:Frag}{C:Addr}{B H0 H H0' H':Hp}{σ σ':St}{E E':En}{j c:Nat}{ks:List Int}{dss:List (List D)}{l:Addr}{ls:List Addr}
noncomputable def JeM(H0 H:Hp)(ls:List Addr):Hp:=fun a=>if a∈ls then H a else H0 a
theorem ZW{Hz:Hp}:∀{ls:List Addr} {dss:List (List D)},dss.length=ls.length->(∀(m:Nat) (a:Addr) (ds:List D),ls[m]?=some a->dss[m]?=some ds->∃xs,Hz a=some (.lst xs)/\RDL K C Hz xs ds)->RDL K C Hz (ls.map V.ref) (dss.map .lst)
 | [],[],_,_=>.nil
 | [],_::_,h,_=>by simp at h
 | _::_,[],h,_=>by simp at h
 | a::ls,ds::dss,h,f=>by obtain⟨xs,h1,h2⟩:=f 0 a ds rfl rfl;exact .cons (.mkL h1 h2) (ZW (by simpa using h) fun m a ds e1 e2=>f (m+1) a ds (by simpa using e1) (by simpa using e2))
theorem Grp.done(I:EnvR K C B H0 H σ E)(g:Grp K C B H0 H σ E j c ks dss l ls)(hj:j<E.length):SStep B H0 (JeM H0 H ls) H/\EnvR K C B (JeM H0 H ls) H σ (E.set j (.od ks (dss.map .lst))):=by
 have out:∀{a:Addr},a∉ls->JeM H0 H ls a=H0 a:=fun {a} h=>if_neg h
 have inn:∀{a:Addr},a∈ls->JeM H0 H ls a=H a:=fun {a} h=>if_pos h
 have z:Same H0 (JeM H0 H ls):=fun a o e=>by
  by_cases c:a∈ls
  ·rw[inn c];exact I.h a o e
  ·rw[out c];exact e
 have i:Same (JeM H0 H ls) H:=fun a o e=>by
  by_cases c:a∈ls
  ·rw[inn c] at e;exact e
  ·rw[out c] at e;exact I.h a o e
 have ln:l∉ls:=(Q2.mp g.nd).1;refine⟨⟨I.b,z,fun a o e=>?_,i⟩,I.b,i,by simp[I.len],fun k s e=>?_,fun k m s t v hkm e1 e2 o1 o2 e3 e4=>?_⟩
 ·by_cases c:a∈ls
  ·exact .inr (.inl (g.there (Qc _ c)).choose_spec.2.2.2)
  ·rw[out c] at e;exact .inl e
 ·rw[QT] at e
  by_cases c:j=k
  ·subst c;rw[if_pos rfl,if_pos hj] at e;have e':=QG e;subst e';refine .inr ⟨_,g.at',l,ls.map V.ref,rfl,g.dict,by rw[out ln];exact g.l0,g.lb,by rw[Qq,g.len2];exact g.len,ZW g.len2 fun m a ds q1 q2=>?_⟩;obtain⟨_,xs,h1,_,_,h4⟩:=g.lists m a ds q1 q2;exact⟨xs,by rw[inn (Q6 q1)];exact h1,h4.mono z⟩
  ·rw[if_neg c] at e;rcases I.at' k s e with y|⟨v,q1,q2⟩
   ·exact .inl y
   ·refine .inr ⟨v,q1,?_⟩
    cases s with
    | no=>trivial
    | sh d=>exact RD.mono z q2
    | bo es=>obtain⟨l',ys,p1,p2,p3⟩:=q2;exact⟨l',ys,p1,p2,p3.mono z⟩
    | bd ks es=>obtain⟨l',ys,p1,p2,p3,p4⟩:=q2;exact⟨l',ys,p1,p2,p3,p4.mono z⟩
    | bt ks es=>obtain⟨l',ys,p1,p2,p3,p4⟩:=q2;exact⟨l',ys,p1,p2,p3,p4.mono z⟩
    | own es=>obtain⟨l',ys,p1,p2,p3,p4,p5⟩:=q2;subst p1;have:=g.own k _ l' e rfl q1;exact⟨l',ys,rfl,p2,by rw[out fun m=>this (Qc _ m)];exact p3,p4,p5.mono z⟩
    | od ks es=>obtain⟨l',ys,p1,p2,p3,p4,p5,p6⟩:=q2;subst p1;have:=g.own k _ l' e rfl q1;exact⟨l',ys,rfl,p2,by rw[out fun m=>this (Qc _ m)];exact p3,p4,p5,p6.mono z⟩
    | ot ks es=>obtain⟨l',ys,p1,p2,p3,p4,p5,p6⟩:=q2;subst p1;have:=g.own k _ l' e rfl q1;exact⟨l',ys,rfl,p2,by rw[out fun m=>this (Qc _ m)];exact p3,p4,p5,p6.mono z⟩
 ·have get:∀(i:Nat) (s:Sl),(E.set j (Sl.od ks (dss.map .lst)))[i]?=some s->i=j\/(i≠j/\E[i]?=some s):=fun i s e=>by
   rw[QT] at e
   by_cases c:j=i
   ·exact .inl c.symm
   ·rw[if_neg c] at e;exact .inr ⟨fun z=>c z.symm,e⟩
  rcases get k s e1 with y1|⟨n1,y1⟩
  ·subst y1;rcases get m t e2 with y2|⟨n2,y2⟩
   ·exact hkm y2.symm
   ·rw[g.at'] at e3;have e3':=QG (QG e3);subst e3';exact g.own m t l y2 o2 e4 Qd
  ·rcases get m t e2 with y2|⟨n2,y2⟩
   ·subst y2;rw[g.at'] at e4;have e4':=QG (QG e4);subst e4';exact g.own k s l y1 o1 e3 Qd
   ·exact I.sep k m s t v hkm y1 y2 o1 o2 e3 e4
end
end LE

namespace L2
open PySem PySem.Spec PyProof.Rows
noncomputable def ZS:List Int->List Int->Bool
 | [],_=>true
 | _::_,[]=>false
 | x::xs,y::ys=>if x=y then ZS xs ys else decide (x<=y)
theorem WU(x y:Int)(xs ys:List Int):ZS (x::xs) (y::ys)=if x=y then ZS xs ys else decide (x<=y):=rfl
section
open PySem.SeqAt
open PySem.AutoSeq1 (wpAny_loadPart')
open PySem.MeetsSeq PySem.MeetsSeq2 PySem.MeetsSeq3
end
section
variable{prog:Program}{w:World}{A:Around}{E:Value->Shared->Prop}{s:Shared}
end
end L2
namespace LE
open PySem L2 LR
noncomputable def JoQ:Sl->Sl->Option Sl
 | .sh (.tup ds),.sh (.tup es)=>(ints? ds).bind fun ns=>(ints? es).map fun ms=>.sh (.bl (ZS ns ms))
 | _,_=>none
section
variable{K:Frag}{C:Addr}
theorem Jin(a b c d:Int):JoQ (.sh (.tup [.int a,.int b])) (.sh (.tup [.int c,.int d]))=some (.sh (.bl (if a=c then decide (b<=d) else decide (a<=c)))):=by
 show some (Sl.sh (.bl (ZS [a,b] [c,d])))=_;rw[WU];split
 ·rw[WU];split
  ·next h=>rw[h];simp[ZS]
  ·rfl
 ·rfl
end
end LE

namespace L2
open PySem PySem.Spec PyProof.Rows
section
open PySem.SeqAt
open PySem.AutoSeq1 (wpAny_loadPart')
open PySem.MeetsSeq PySem.MeetsSeq2 PySem.MeetsSeq3
end
section
variable{prog:Program}{w:World}{A:Around}{E:Value->Shared->Prop}{s:Shared}
end
end L2
namespace LE
open PySem L2 LR
section
variable{K:Frag}{C:Addr}
end
end LE

namespace L2
open PySem PySem.Spec PyProof.Rows
noncomputable def JjU(i j:Int):Prop:=i.natAbs<=10 ^ 200/\j.natAbs<=10 ^ 200
theorem Jde{i:Int}(h:i.natAbs<=10 ^ 200):MJ i<=2 ^ 20:=by
 unfold MJ;split
 ·exact G1 _
 ·next hz =>
  have h0:i.natAbs≠0:=fun z=>hz (by simp;omega)
  have h1:i.natAbs.log2<1000:=by rw[Nat.log2_lt h0];exact GR h (by decide +kernel)
  have:(1000:Nat)<=2 ^ 20:=by decide +kernel
  omega
theorem JiR{X:Cx}:OpR X (binaryOp .Mult) (rI JjU fun i j=>.int (i*j)):=opI fun _ _ _ _ _ _ _ hc q=>mul_int q (IntMulOk.of_bits (Jde hc.1) (Jde hc.2))
end L2
namespace LE
open PySem L2 LR
noncomputable def Y9(a:Int):Bool:=Nat.ble a.natAbs (10 ^ 200)
noncomputable abbrev Jf9:=fIc (fun a b=>Y9 a && Y9 b) fun a b=>.int (a*b)
section
variable{K:Frag}{C:Addr}
theorem Jly:OpS K C (rI JjU fun i j=>.int (i*j)) Jf9:=JgQ (fun i j h=>by simp only[QK,Y9,G9] at h;exact h) fun _ _ _=>.int _
theorem Jga{a b:Int}(h:a.natAbs<=10 ^ 200/\b.natAbs<=10 ^ 200):Jf9 (.sh (.int a)) (.sh (.int b))=some (.sh (.int (a*b))):=by show(if (Y9 a && Y9 b)=true then _ else _)=_;rw[if_pos];rw[QK];exact⟨G9.mpr h.1,G9.mpr h.2⟩
end
end LE

namespace LE
open PySem L2 LR
section
variable{K:Frag}{C:Addr}{W:XK}{t:TA}{ev:En->Option (List Sl)}{ts us:TS}{x:Xv}{H:Hp}
end
end LE

namespace PySem
open PySem.Calls PyProof.Rows PyProof.V PySem.Spec
section
variable{prog:Program}{w:World}{A:Around}{E:Value->Shared->Prop}{s:Shared}{r a:Addr}{xs:Array Value}{n:Nat}
end
end PySem
namespace L2
open PySem PySem.Spec PyProof.Rows
end L2
namespace LE
open PySem L2 LR
section
variable{K:Frag}{C:Addr}
end
end LE

namespace L2
open PySem PySem.Spec PyProof.Rows PySem.Calls
section
variable{X:Cx}
end
end L2
namespace L2
open PySem PySem.Spec PyProof.Rows PySem.Calls
section
variable{X:Cx}{es:List Expr}{t:TA}{x:Str}{j:Nat}{p:Pos}
structure PSi (X:Cx) (st:Stmt) (ts:TS):Prop where
 out:PS X st ts
structure PSsi (X:Cx) (ss:List Stmt) (ts:TS):Prop where
 out:PSs X ss ts
end
end L2

namespace LE
open PySem L2 LR
noncomputable def Jng(ys:List Str)(r:En->Option (List Sl)):En->Option (List Sl):=fun E=>(r E).map fun ss=>ys.map (fun y=>.sh (.str y))++ss
section
variable{K:Frag}{C:Addr}{te:TE}{ea:Ev}{tl th:TO}{el eh:Option Ev}{m:Bool}
end
end LE

namespace L2
open PySem PySem.Spec PyProof.Rows PySem.Calls
section
variable{X:Cx}
end
end L2
namespace LE
open PySem L2 LR
section
variable{K:Frag}{C:Addr}{to te:TE}{eo ea:Ev}{Hs H0 H:Hp}{v:V}
end
end LE

namespace L2
open PySem PySem.Spec PyProof.Rows PySem.Calls
section
variable{X:Cx}
end
end L2
namespace LE
open PySem L2 LR
section
variable{K:Frag}{C:Addr}
end
end LE

namespace PySem
open AutoSeq1 (wpAny_loadPart')
section
variable{prog:Program}{w:World}{A:Around}{E:Value->Shared->Prop}{s:Shared}
end
section
variable{prog:Program}{w:World}{A:Around}{E:Value->Shared->Prop}{s:Shared}
end
section
variable{prog:Program}{w:World}{A:Around}{E:Value->Shared->Prop}{s:Shared}{b:Bool}{a e it:Addr}{xs:Array Value}
end
end PySem
namespace L2
open PySem PySem.Spec PyProof.Rows
end L2
namespace LE
open PySem L2 LR
section
variable{K:Frag}{C:Addr}{m:Bool}
end
end LE

namespace L2
open PySem PySem.Spec PyProof.Rows PySem.Calls
section
variable{X:Cx}{K:Frag}{e:Expr}{te:TE}{p2 pos:Pos}
end
end L2
namespace LE
open PySem L2 LR
section
variable{K:Frag}{C:Addr}{te:TE}{ea:Ev}
end
end LE

namespace LE
open PySem L2 LR
section
variable{K:Frag}{C:Addr}
end
end LE

namespace L2
open PySem PySem.Spec PyProof.Rows
structure Blk1 (X:Cx) (sc:Scope) (cl:List (Str×Addr)) (y:Str) (N':List Str) (imp:List (Option Nat)):Prop where
 clos:closureFor sc X.env=pure cl
 kind:sc.kind=.function
 cf:∀n,cellsFrom n sc.names cl=(y,n)::cl
 cf0:∀n,cellsFrom n sc.names []=[(y,n)]
 names:∀y∈sc.names,y.2=.local->sc.names.lookup y.1=some .local
 sub:∀p∈cl,X.env.cells.lookup p.1=some p.2
 has:∀z∈(relabel sc X.env).names,(z.2=.cell\/z.2=.free)->z.1=y\/(cl.lookup z.1).isSome=true
 len:imp.length=N'.length
 im:∀p∈imp.zip N',∀k,p.1=some k->p.2≠y/\X.N[k]?=some p.2/\(X.env.scope.names.lookup p.2=some .cell\/X.env.scope.names.lookup p.2=some .free)/\((relabel sc X.env).names.lookup p.2=some .cell\/(relabel sc X.env).names.lookup p.2=some .free)
section
variable{X:Cx}{tg iter elt:Expr}{ifs:List Expr}{sc:Scope}{cl:List (Str×Addr)}{y:Str}{N':List Str}{imp:List (Option Nat)}{pos:Pos}{wi:TI}{g:TG}{tt:TT}{te:TE}
theorem Blk1.subL(B:Blk1 X sc cl y N' imp):∀x c,cl.lookup x=some c->X.env.cells.lookup x=some c:=fun x c e=>B.sub (x,c) (Uy e)
end
end L2

namespace L2
open PySem PySem.W PyProof.Rows
structure LtO (N:Nat) (lt:Nat->Nat->Bool):Prop where
 tot:∀i j,i<N->j<N->i≠j->lt i j=false->lt j i=true
 asy:∀i j,i<N->j<N->lt i j=true->lt j i=false
 tra:∀i j k,i<N->j<N->k<N->lt i j=true->lt j k=true->lt i k=true
structure Pm (p:Array Nat) (N:Nat):Prop where
 size:p.size=N
 low:∀a,a<N->p.getD a 0<N
 inj:∀a b,a<N->b<N->p.getD a 0=p.getD b 0->a=b
theorem Jlw{l:List Nat}(nd:l.Nodup){a b:Nat}(h1:a<l.length)(h2:b<l.length)(e:l[a]=l[b]):a=b:=by
 rcases Nat.lt_trichotomy a b with c|c|c
 ·exact absurd e (GB.mp nd a b h1 h2 c)
 ·exact c
 ·exact absurd e.symm (GB.mp nd b a h2 h1 c)
theorem Pm.of{p:Array Nat}{N:Nat}(h:p.toList.Perm (GQ N)):Pm p N:=by
 have hz:p.size=N:=by have:=h.length_eq;simpa using this
 have get:∀a,a<N->p.toList[a]?=some (p.getD a 0):=fun a ha=>by rw[Lc,LS (by omega)];simp[Array.getD,show a<p.size by omega]
 refine⟨hz,fun a ha=>?_,fun a b ha hb e=>?_⟩
 ·have:=h.mem_iff.mp (Q6 (get a ha))
  simpa using this
 ·have nd:p.toList.Nodup:=h.nodup_iff.mpr List.nodup_range
  have ga:=get a ha
  have gb:=get b hb;rw[e] at ga;obtain⟨h1,e1⟩:=Qh.mp ga;obtain⟨h2,e2⟩:=Qh.mp gb;exact Jlw nd h1 h2 (e1.trans e2.symm)
section
variable{N:Nat}{lt:Nat->Nat->Bool}{cmp:Nat->Nat->(Bool->Shared->Prop)->Shared->Prop}{I:Shared->Prop}
end
end L2

namespace L2
open PySem PySem.W PyProof.Rows
section
variable{prog:Program}{w:World}{A:Around}{E:Value->Shared->Prop}{s:Shared}
end
end L2

namespace L2
open PySem PySem.W PyProof.Rows
noncomputable abbrev PrI:=Int×Int
noncomputable def TupP(h:Heap)(v:Value)(p:PrI):Prop:=∃a o n t u,v=.ref a/\h.get? a=some o/\o.cls=.type "tuple"/\o.data=.seq #[.int p.1 t,.int p.2 u] n
section
variable{prog:Program}{w:World}{A:Around}{E:Value->Shared->Prop}{s:Shared}
theorem TupP.off{h h1:Heap}{a:Addr}{vs:Array Value}{n:Nat}{v:Value}{p:PrI}(ho:h.get? a=some (seqObj "list" vs n))(keep:∀b ob,b≠a->h.get? b=some ob->h1.get? b=some ob)(t:TupP h v p):TupP h1 v p:=by obtain⟨b,o,m,t,u,rfl,hb,hc,hd⟩:=t;refine⟨b,o,m,t,u,rfl,keep b o (fun e=>?_) hb,hc,hd⟩;subst e;rw[ho] at hb;cases hb;have z:(Value.type "list":Value)=.type "tuple":=hc;exact absurd z (by decide)
end
end L2

namespace L2
open PySem PySem.Spec PySem.W PyProof.Rows
section
variable{prog:Program}{w:World}{A:Around}{E:Value->Shared->Prop}{s:Shared}
end
section
variable{X:Cx}
end
end L2

namespace L2
open PySem PySem.Spec PySem.W PyProof.Rows
noncomputable def RawD(h:Heap)(d:Addr)(es:Array DictEntry)(ep:Nat):Prop:=∃o,h.get? d=some o/\o.ExactDict/\o.data=.dict es ep
section
variable{prog:Program}{w:World}{A:Around}{E:Value->Shared->Prop}{s:Shared}{it d v:Addr}{i ep:Nat}{es:Array DictEntry}
theorem RawD.at{h h':Heap}(x:RawD h d es ep)(e:∀o,h.get? d=some o->h'.get? d=some o):RawD h' d es ep:=let ⟨o,ho,r⟩:=x;⟨o,e _ ho,r⟩
theorem RawD.lt{h:Heap}(x:RawD h d es ep):d<h.objs.size:=let ⟨_,ho,_⟩:=x;Qo ho
end
end L2

namespace L2
open PySem PySem.Spec PySem.W PyProof.Rows
noncomputable abbrev pk(p:PrI):List Key:=LE.dtK p
theorem KT.get{H:Hp}:∀{kvs:List (List Key×V)} {xs:List (List Key×Addr×Value)},KT H kvs xs->kvs.length=xs.length/\∀(i:Nat) (k:List Key×V) (x:List Key×Addr×Value),kvs[i]?=some k->xs[i]?=some x->k.1=x.1/\H x.2.1=some (.tup (k.1.map kV))
 | _,_,.nil=>⟨rfl,fun i k x e=>by simp at e⟩
 | _,_,.cons h t=>by
  obtain⟨h1,h2⟩:=KT.get t;refine⟨by simp[h1],fun i k x e1 e2=>?_⟩
  cases i with
  | zero=>simp at e1 e2;subst e1 e2;exact⟨h.1,h.2.1⟩
  | succ i=>exact h2 i k x (by simpa using e1) (by simpa using e2)
end L2

namespace L2
open PySem PySem.Spec PySem.W PyProof.Rows
end L2
namespace LE
open PySem L2 LR
section
variable{K:Frag}{C:Addr}{Hs H0 H:Hp}
end
noncomputable def Sl.dt:Sl->Option (List (Int×Int)×List D)
 | .bt ks ds=>some (ks,ds)
 | .ot ks ds=>some (ks,ds)
 | _=>none
noncomputable def pr?:Sl->Option (Int×Int)
 | .sh (.tup [.int a,.int b])=>some (a,b)
 | _=>none
section
variable{K:Frag}{C:Addr}{Hs H0 H:Hp}{td ty te tk1 tk2:TE}{ed ek ea k1 k2:Ev}
theorem RR.dt{v:V}{s:Sl}{p:List (Int×Int)×List D}(r:RR K C Hs H0 H v s)(e:s.dt=some p):∃l xs,v=.ref l/\H l=some (dtO p.1 xs)/\p.1.length=p.2.length/\RDL K C H0 xs p.2:=by
 cases s with
 | bt ks ds=>cases e;exact r
 | ot ks ds=>cases e;obtain⟨l,xs,h1,h2,_,_,h3⟩:=r;exact⟨l,xs,h1,h2,h3⟩
 | _=>cases e
noncomputable def JnF:List Sl->Option (Int×Int)
 | [.sh (.int a),.sh (.int b)]=>some (a,b)
 | _=>none
end
end LE

namespace LE
open PySem L2 LR
section
variable{K:Frag}{C:Addr}
theorem RDL.eraseIdx{H:Hp}:∀{xs:List V} {ds:List D} (k:Nat),RDL K C H xs ds->RDL K C H (xs.eraseIdx k) (ds.eraseIdx k)
 | [],[],_,h=>by simpa using h
 | [],_::_,_,h=>by have:=h.1;simp at this
 | _::_,[],_,h=>by have:=h.1;simp at this
 | x::xs,d::ds,0,h=>by simpa using h.tail
 | x::xs,d::ds,k+1,h=>by rw[K0,K0];exact .cons h.head (RDL.eraseIdx k h.tail)
end
end LE

namespace LE
open PySem L2 LR
section
variable{X:Cx}
end
section
variable{K:Frag}{C:Addr}
end
end LE

namespace L2
open PySem
noncomputable def Ris(xs:Array Nat):Prop:=xs.toList.Pairwise (·<·)
theorem Ris.lt{xs:Array Nat}(r:Ris xs){i j:Nat}(h:i<j)(hj:j<xs.size):xs[i]'(by omega)<xs[j]:=by
 have:=GB.mp r i j (by simp;omega) (by simpa using hj) h
 simpa using this
theorem Jch{xs:Array Nat}(r:Ris xs)(j:Nat):∀(fuel lo hi:Nat),hi-lo<=fuel->lo<=hi->hi<=xs.size->(∀i,(h:i<xs.size)->i<lo->xs[i]<j)->(∀i,(h:i<xs.size)->hi<=i->j<=xs[i]) ->
 ∃p,MV xs j fuel lo hi=p/\p<=xs.size/\(∀i,(h:i<xs.size)->i<p->xs[i]<j)/\∀i,(h:i<xs.size)->p<=i->j<=xs[i]
 | 0,lo,hi,hf,h1,h2,ha,hb=>⟨lo,rfl,by omega,ha,fun i hi' hp=>hb i hi' (by omega)⟩
 | fuel+1,lo,hi,hf,h1,h2,ha,hb=>by
  unfold MV
  by_cases c:lo<hi
  ·rw[if_pos c];have hm:(lo+hi) / 2<xs.size:=by omega
   have e:xs.getD ((lo+hi) / 2) j=xs[(lo+hi) / 2]:=by simp[Array.getD,hm]
   dsimp only;rw[e]
   by_cases d:xs[(lo+hi) / 2]<j
   ·rw[if_pos d];refine Jch r j fuel _ _ (by omega) (by omega) h2 (fun i h hi'=>?_) hb;rcases K8 i ((lo+hi) / 2) with q|q
    ·exact Kp (r.lt q hm) d
    ·have:i=(lo+hi) / 2:=by omega
     subst this;exact d
   ·rw[if_neg d];refine Jch r j fuel _ _ (by omega) (by omega) (by omega) ha (fun i h hi'=>?_);rcases K8 ((lo+hi) / 2) i with q|q
    ·exact Q4 (MQ.mp d) (GM (r.lt q h))
    ·have:i=(lo+hi) / 2:=by omega
     subst this;exact MQ.mp d
  ·rw[if_neg c];exact⟨lo,rfl,by omega,ha,fun i hi' hp=>hb i hi' (by omega)⟩
theorem bel{xs:Array Nat}(r:Ris xs)(j:Nat):Q0 xs j<=xs.size/\(∀i,(h:i<xs.size)->i<Q0 xs j->xs[i]<j)/\∀i,(h:i<xs.size)->Q0 xs j<=i->j<=xs[i]:=by obtain⟨p,e,h1,h2,h3⟩:=Jch r j xs.size 0 xs.size (by omega) (by omega) (Qk _) (fun i _ h=>by omega) (fun i h h'=>by omega);have e':Q0 xs j=p:=e;rw[e'];exact⟨h1,h2,h3⟩
theorem Jjo{xs:Array Nat}(r:Ris xs){j:Nat}(no:xs[Q0 xs j]?≠some j):Ris (SetTable.insertAt xs (Q0 xs j) j):=by
 obtain⟨h1,h2,h3⟩:=bel r j;unfold Ris;rw[SetTable.toList_insertAt];have r':=r;unfold Ris at r';rw[<- List.take_append_drop (Q0 xs j) xs.toList] at r';obtain⟨ra,rb,rc⟩:=G4.mp r'
 have low:∀x∈xs.toList.take (Q0 xs j),x<j:=fun x hx=>by obtain⟨i,hi,e⟩:=QV.mp hx;rw[KG,QQ] at hi;rw[List.getElem_take,MH] at e;rw[<- e];exact h2 i (by omega) (by omega)
 have high:∀x∈xs.toList.drop (Q0 xs j),j<x:=fun x hx=>by
  obtain⟨i,hi,e⟩:=QV.mp hx;rw[GP,QQ] at hi;rw[List.getElem_drop,MH] at e;have g:=h3 (Q0 xs j+i) (by omega) (by omega);rw[e] at g;rcases K8 j x with q|q
  ·exact q
  ·exfalso
   have ex:x=j:=by omega
   apply no
   have b0:Q0 xs j<xs.size:=by omega
   rw[LS b0];have g0:=h3 (Q0 xs j) b0 (Qk _);rcases Nat.eq_zero_or_pos i with z|z
   ·subst z;simp only[Nat.add_zero] at e;rw[e,ex]
   ·have:=r.lt (i:=Q0 xs j) (j:=Q0 xs j+i) (by omega) (by omega);rw[e] at this;omega
 refine G4.mpr ⟨ra,Q1.mpr ⟨high,rb⟩,fun a ha b hb=>?_⟩;rcases Qg.mp hb with e|e
 ·rw[e];exact low a ha
 ·exact rc a ha b e
noncomputable def Vac(t:SetTable)(j:Nat):Prop:=t.place[Q0 t.place j]?≠some j
theorem Jb1{t:SetTable}{j:Nat}(h:∀i,t.slot j≠.live i):Vac t j:=by intro e;refine h (Q0 t.place j) ?_;unfold SetTable.slot;dsimp only;rw[e];simp
theorem Zy(t:SetTable)(p:SetTable.Probe):(t.advance p).dummy=p.dummy:=by unfold SetTable.advance;split <;> rfl
theorem VY{t:SetTable}{hashAt:Nat->Int}{h:Int}:∀(fuel:Nat) (p:SetTable.Probe) {j:Nat} {d:Option Nat},(∀x,p.dummy=some x->Vac t x)->LX t hashAt h fuel p=some (.empty j d)->Vac t j/\∀x,d=some x->Vac t x
 | 0,p,j,d,hp,e=>by simp[LX] at e
 | fuel+1,p,j,d,hp,e=>by
  unfold LX at e;split at e
  ·rename_i c
   injection e with e
   injection e with e1 e2
   subst e1 e2;exact⟨Jb1 fun i q=>(by rw[c] at q;cases q),hp⟩
  ·rename_i c;refine VY fuel _ (fun x hx=>?_) e;rw[Zy] at hx
   injection hx with hx
   subst hx;exact Jb1 fun i q=>by rw[c] at q;cases q
  ·split at e
   ·injection e with e;cases e
   ·exact VY fuel _ (fun x hx=>hp x (by rwa [Zy] at hx)) e
theorem Jgd{t:SetTable}{h:Int}{j:Nat}{b:Bool}(e:t.freeSlot h=some (j,b)):Vac t j:=by
 unfold SetTable.freeSlot at e;split at e
 ·rename_i j' d c
  injection e with e
  injection e with e1 _
  unfold SetTable.probe at c;obtain⟨a1,a2⟩:=VY _ _ (fun x hx=>by simp[SetTable.probeStart] at hx) c
  cases d with
  | none=>simp at e1;subst e1;exact a1
  | some x=>simp at e1;subst e1;exact a2 _ rfl
 ·cases e
noncomputable def TOk(led:Bool)(t:SetTable):Prop:=(t.plain=true->Ris t.place)/\t.led=led
theorem UV(led:Bool)(t:SetTable)(n:Nat)(h:t.led=led):TOk led (t.standIn n):=⟨fun e=>by simp[SetTable.standIn] at e,h⟩
theorem JhC{led:Bool}{t:SetTable}(h:TOk led t):TOk led { t with plain:=false }:=⟨fun e=>by simp at e,h.2⟩
theorem JjL{led:Bool}{t:SetTable}(h:TOk led t)(es:Array (Int×Value))(k:Int)(x:Value):TOk led (layNew t es k x).2.1:=by
 unfold layNew;split
 ·rename_i j b c;dsimp only;unfold SetTable.orStandIn;split
  ·exact⟨fun e=>Jjo (h.1 (by simpa [MW] using e)) (Jgd c),by simpa [MW] using h.2⟩
  ·exact UV _ _ _ (by simpa [MW] using h.2)
 ·exact UV _ _ _ h.2
theorem WW(g:Nat->Option Nat):∀l:List Nat,((l.filterMap fun j=>(g j).map (j,·)).map (·.1)).Sublist l
 | []=>.slnil
 | j::l=>by
  rw[Kc]
  cases h:g j with
  | none=>exact(WW g l).cons _
  | some k=>exact(WW g l).cons₂ _
theorem JhD{t:SetTable}{mask f m:Nat}{led plain:Bool}{hs:Array Int}{o:Array Nat}(e:MK mask f m led plain hs=some (t,o)):TOk led t:=by
 unfold MK at e
 cases c:SetTable.layClean mask hs with
 | none=>rw[c] at e;cases e
 | some ow =>
  rw[c] at e;have e':some _=some (t,o):=e
  injection e' with e'
  injection e' with e1 e2
  subst e1;refine⟨fun _=>?_,rfl⟩;show List.Pairwise _ _;refine List.Pairwise.sublist (WW _ _) ?_;exact List.pairwise_lt_range
theorem Jfp{led:Bool}{t:SetTable}(h:TOk led t)(es:Array (Int×Value))(n:Nat):TOk led (relayAll t es n).2.1:=by
 unfold relayAll;split
 ·rename_i t' o c;dsimp only;split
  ·have:=JhD (show MK _ _ _ _ _ _=some (t',o) from c);rw[h.2] at this;exact this
  ·exact UV _ _ _ h.2
 ·exact UV _ _ _ h.2
theorem Jfo(a b:Nat)(led:Bool):TOk led (.fresh a b led):=⟨fun _=>List.Pairwise.nil,rfl⟩
end L2

namespace L2
open PySem PyProof.Rows
structure SetS (prog:Program) (w:World) (led:Bool) (h:Heap) (a:Addr) (S:Int->Bool) (n:Nat) (o:Obj) (es:Array (Int×Value)) (ep:Nat) (t:SetTable):Prop where
 got:h.get? a=some o
 ex:o.ExactSet
 data:o.data=.set es ep t
 els:ElemsOf (intKind prog w) es.toList
 mem:∀k,S k=true↔∃e∈es.toList,(intKind prog w).is k e.2=true
 few:es.size<scanBound
 fits:t.fits es.size=true
 size:es.size=n
 tok:TOk led t
noncomputable def SetL(prog:Program)(w:World)(led:Bool)(h:Heap)(a:Addr)(S:Int->Bool)(n:Nat):Prop:=∃o es ep t,SetS prog w led h a S n o es ep t
section
variable{prog:Program}{w:World}{A:Around}{E:Value->Shared->Prop}{s:Shared}{led:Bool}{a:Addr}{S:Int->Bool}{n:Nat}
theorem SetL.move{h h':Heap}(x:SetL prog w led h a S n)(e:∀o,h.get? a=some o->h'.get? a=some o):SetL prog w led h' a S n :=
 let ⟨o,es,ep,t,z⟩:=x;⟨o,es,ep,t,{ z with got:=e _ z.got }⟩
theorem SetL.as{h:Heap}{S':Int->Bool}{n':Nat}(x:SetL prog w led h a S n)(e:∀k,S k=S' k)(en:n=n'):SetL prog w led h a S' n':=by have:S=S':=funext e;subst this en;exact x
theorem JbY{h:Heap}{o:Obj}{es:Array (Int×Value)}{ep:Nat}{t:SetTable}(ho:h.get? a=some o)(hex:o.ExactSet)(hd:o.data=.set es ep t){es':Array (Int×Value)}{t':SetTable}{S':Int->Bool}
 (h1:ElemsOf (intKind prog w) es'.toList) (h2:∀k,S' k=true↔∃e∈es'.toList,(intKind prog w).is k e.2=true) (h3:es'.size<scanBound) (h4:t'.fits es'.size=true) (h5:TOk led t') :
 SetS prog w led (h.update a (Obj.putSet es' t')) a S' es'.size { o with data:=.set es' (ep+1) t' } es' (ep+1) t' :=
 ⟨(SetOf_store (knd:=intKind prog w) ho hex hd h1 h2 h3 h4).1,hex,rfl,h1,h2,h3,h4,rfl,h5⟩
theorem Jb0{g:Bool->Sem Unit}(hg:∀(b:Bool) (s1:Shared) (Q:Unit->Shared->Prop),Q () s1->wpAny (model prog w) A (g b) Q E s1)
 {o:Obj} {es:Array (Int×Value)} {ep:Nat} {t:SetTable} (ho:s.heap.get? a=some o) (hex:o.ExactSet) (hd:o.data=.set es ep t) {es1:Array (Int×Value)} {t2:SetTable} {S':Int->Bool}
 (h1:ElemsOf (intKind prog w) es1.toList) (h2:∀k,S' k=true↔∃e∈es1.toList,(intKind prog w).is k e.2=true) (h3:es1.size<scanBound) (h4:t2.fits es1.size=true) (h5:TOk led t2) {dm:Bool} {R:Option Bool->Shared->Prop}
 (h:∀h',Qz a s.heap h'->SetL prog w led h' a S' es1.size->R (some true) { s with heap:=h' }) :
 wpAny (model prog w) A (storeSet a es1 t2 >>= fun _=>if (!dm && t2.tooFull)=true then
  (g (relayAll t2 es1 (Kj es1.size)).2.2 >>= fun _=>storeSet a (relayAll t2 es1 (Kj es1.size)).1 (relayAll t2 es1 (Kj es1.size)).2.1 >>= fun _=>pure (some true))
  else pure (some true)) R E s:=by
 refine Qa (wpAny_storeSet_of ho hd ?_ (fits_of_scanBound h3));have z:=JbY (prog:=prog) (w:=w) ho hex hd h1 h2 h3 h4 h5;have sb:=Ke s.heap a (Obj.putSet es1 t2);split
 ·have hp:=relayAll_perm t2 es1 (Kj es1.size)
  have hf:=relayAll_fits t2 es1 (Kj es1.size)
  have hk:=Jfp h5 es1 (Kj es1.size)
  generalize relayAll t2 es1 (Kj es1.size)=T at hp hf hk ⊢
  obtain⟨es2,t3,gv⟩:=T;dsimp only at hp hf hk ⊢;have sz:es2.size=es1.size:=by rw[<- QQ,hp.length_eq,QQ]
  refine Qa (hg _ _ _ ?_);refine Qa (wpAny_storeSet_of z.got rfl ?_ (fits_of_scanBound (by rw[sz];exact h3)));have z2:=JbY (prog:=prog) (w:=w) (led:=led) (S':=S') (es':=es2) (t':=t3) z.got hex rfl (h1.perm hp) (fun k=>(h2 k).trans ⟨fun⟨e,he,q⟩=>⟨e,hp.mem_iff.mpr he,q⟩,fun⟨e,he,q⟩=>⟨e,hp.mem_iff.mp he,q⟩⟩) (by rw[sz];exact h3) hf hk;rw[sz] at z2;exact Qi (h _ (sb.trans (Ke _ a _)) ⟨_,_,_,_,z2⟩)
 ·exact Qi (h _ sb ⟨_,_,_,_,z⟩)
theorem JjB{k:Int}{tk:Tok}{Q:Bool->Shared->Prop}(hS:SetL prog w led s.heap a S n)(room:n+1<scanBound)
 (h:∀h',Qz a s.heap h'->SetL prog w led h' a (fun k'=>S k' || decide (k'=k)) (if S k then n else n+1)->Q (!S k) { s with heap:=h' }) :
 wpAny (model prog w) A (setAddHashed a (.int k tk) ((intKind prog w).hash k)) Q E s:=by
 have key:(intKind prog w).is k (.int k tk)=true:=intKind_is _ _ _ _;obtain⟨o,es,ep,t,z⟩:=hS
 have few1:es.size+1<scanBound:=by rw[z.size];exact room
 unfold setAddHashed setAddHashedIn;refine Kv (Qa (wpAny_setState_of z.got z.data z.fits ?_));dsimp only;rw[byScan_of (x:=.int k tk) rfl z.few z.els];simp only[↓reduceIte];unfold setAddByScan;refine Qa (Qa (Ka (Qa (wpAny_setScan_of key z.got z.data z.fits z.els ?_))))
 cases hr:List.findIdx? (fun e=>(intKind prog w).is k e.2) es.toList with
 | some j =>
  dsimp only;obtain⟨hj,hpj,_⟩:=List.findIdx?_eq_some_iff_getElem.mp hr;have yes:S k=true:=(z.mem k).mpr ⟨es.toList[j],L9 hj,hpj⟩;refine Qi (Qi ?_)
  have:=h s.heap (Heap.SameBut.refl a s.heap) (SetL.as ⟨o,es,ep,t,z⟩ (fun k'=>by
   cases hk:S k' with
   | true=>rfl
   | false =>
    have:k'≠k:=fun e=>by rw[e,yes] at hk;cases hk
    simp[this]) (by rw[yes];rfl))
  rw[yes] at this;exact this
 | none =>
  dsimp only
  have no:S k=false:=by
   cases hk:S k with
   | false=>rfl
   | true=>obtain⟨e,he,hp⟩:=(z.mem k).mp hk;have:=List.findIdx?_eq_none_iff.mp hr e he;rw[hp] at this;cases this
  have hp:=layNew_perm t es ((intKind prog w).hash k) (.int k tk)
  have hf:=layNew_fits t es ((intKind prog w).hash k) (.int k tk)
  have ht:=JjL z.tok es ((intKind prog w).hash k) (.int k tk)
  generalize layNew t es ((intKind prog w).hash k) (.int k tk)=L at hp hf ht ⊢
  obtain⟨es1,t1,dm,gv⟩:=L;dsimp only at hp hf ht ⊢;rw[Array.toList_push] at hp;have e1:ElemsOf (intKind prog w) es1.toList:=(z.els.push key rfl).perm hp;have m1:=mem_push_iff key z.mem hp;have sz1:es1.size=n+1:=by rw[<- QQ,hp.length_eq,QC,QQ,z.size];rfl
  have f1:es1.size<scanBound:=by rw[sz1];exact room
  have gw:∀(b:Bool) {s1:Shared} {Q':Unit->Shared->Prop},Q' () s1->wpAny (model prog w) A (match b with | true=>rule "set.scan.the-table-gave-way" | false=>pure ()) Q' E s1:=fun b s1 Q' hq=>by
   cases b
   ·exact Qi hq
   ·exact Ka hq
  refine Qa (gw _ ?_)
  have fin:∀h',Qz a s.heap h'->SetL prog w led h' a (fun k'=>S k' || decide (k'=k)) es1.size->Q true { s with heap:=h' }:=by intro h' sb hS';have:=h h' sb;rw[no] at this;rw[sz1] at hS';exact this hS'
  split
  ·refine Qa ?_;rw[hashByValue_scannable 8 (x:=.int k tk) rfl];refine Qi ?_;refine Jb0 (led:=led) ?_ z.got z.ex z.data e1 m1 f1 ?_ ?_ ?_
   ·intro b s1 Q' hq;cases b <;> first|exact Qi hq|exact Ka hq
   ·split
    ·exact hf
    ·exact SetTable.fits_plain_off hf
   ·split
    ·exact ht
    ·exact JhC ht
   ·intro h' sb hS';dsimp only;exact Qi (fin h' sb hS')
  ·refine Qa (Qi ?_);simp only[↓reduceIte];refine Jb0 (led:=led) ?_ z.got z.ex z.data e1 m1 f1 hf ht ?_
   ·intro b s1 Q' hq;cases b <;> first|exact Qi hq|exact Ka hq
   ·intro h' sb hS';dsimp only;exact Qi (fin h' sb hS')
end
section
variable{prog:Program}{w:World}{A:Around}{R:Result->Shared->Prop}{I:Addr}{fp wr:List Addr}{G:Array GenState->Array GenState->Prop}{n:Nat}{P:Nat->Value->Prop}{St:Nat->Shared->Prop}
theorem Jho{led:Bool}(W:WalksS prog w A.in1 I fp wr G n P St)(a:Addr)(hf:a∉fp)(val:Nat->Int)(hv:∀i v,P i v->∃t,v=.int (val i) t)(hb:n+1<scanBound) :
 ∀(k i:Nat) (s:Shared),n-i=k->i<=n->St i s->SetL prog w led s.heap a (fun k'=>(firstMet val i).any (· == k')) (firstMet val i).length ->
  (∀s',Moved (a::wr) G s s'->SetL prog w led s'.heap a (fun k'=>(firstMet val n).any (· == k')) (firstMet val n).length->R (.ok (.ret .none)) s') ->
  codeAny (model prog w) A (.builtin "set.update.loop" ⟨[.ref a,.ref I],[]⟩) R s:=by
 have hw:a∉wr:=fun h=>hf (W.sub _ h)
 have up:∀b∈wr,b∈a::wr:=fun b hb=>Qc _ hb
 intro k
 induction k with
 | zero =>
  intro i s hk hi st hS hR;obtain rfl:i=n:=by omega
  refine Ku Mc ?_;rw[G3 K1 _];show wpAny _ A.in1 (pyNext (.ref I) >>= _) _ _ s;exact Qa (W.done s _ _ st fun s' hm=>Qi (hR s' (hm.mono up) (hS.move fun o e=>hm.heap a _ hw e)))
 | succ k ih =>
  intro i s hk hi st hS hR;have lt:i<n:=by omega
  refine Ku Mc ?_;rw[G3 K1 _];show wpAny _ A.in1 (pyNext (.ref I) >>= _) _ _ s;refine Qa (W.item i s _ _ lt st fun v s' hP st' hm=>?_);obtain⟨t,rfl⟩:=hv i v hP;have hS':=hS.move (h':=s'.heap) fun o e=>hm.heap a _ hw e
  show wpAny _ A.in1 (holding [Value.int (val i) t] (setAdd a (.int (val i) t)) >>= _) _ _ s';refine Qa (Kv ?_);unfold setAdd;refine Kv (Qa ((intKind prog w).pyHash (k:=val i) (intKind_is _ _ _ _) ?_))
  have room:(firstMet val i).length+1<scanBound:=by have:=firstMet_length_le val i;omega
  refine JjB (s:={ s' with toks:=s'.toks+1 }) hS' room fun h' sb hS2=>?_
  have hS3:=hS2.as (S':=fun k'=>(firstMet val (i+1)).any (· == k')) (n':=(firstMet val (i+1)).length) (fun k'=>by rw[firstMet_succ,step_any]) (by rw[firstMet_succ,step_length]);refine Qi ⟨KQ K1 _,ih (i+1) _ (by omega) lt (W.frame _ s' _ _ st' (Nat.le_succ _) fun b hb o e=>?_) hS3 fun s'' hm'' hS''=>?_⟩
  ·rw[sb.2 b (fun h:b=a=>hf (by rw[<- h];exact hb))];exact e
  ·refine hR s'' (Moved.trans W.gtrans ((hm.mono up).then_heap (Nat.le_succ _) fun b o hb e=>?_) hm'') hS'';rw[sb.2 b (fun h:b=a=>hb (by rw[h];exact Qd))];exact e
end
end L2

namespace L2
open PySem PyProof.Rows
noncomputable def Uq(w:World):Bool:=!(w.params.followText "set-order")
noncomputable def Ul(led:Bool):Obj:={ cls:=.type "set",dict:=none,data:=.set #[] 0 (.fresh 0 0 led) }
section
variable{prog:Program}{w:World}{A:Around}{E:Value->Shared->Prop}{s:Shared}
theorem Jhn(led:Bool){h:Heap}{a:Addr}(e:h.get? a=some (Ul led)):SetL prog w led h a (fun _=>false) 0 :=
 ⟨_,#[],0,_,e,⟨rfl,rfl,rfl⟩,rfl,fun e he=>by simp at he,fun k=>by simp,by decide,by rfl,rfl,Jfo 0 0 led⟩
theorem JbZ(a:Value){Q:Value->Shared->Prop}(h:Q (.ref s.heap.objs.size) { s with heap:=s.heap.push (Ul (Uq w)) }) :
 codeAny (model prog w) A (.call (.builtin "set.__new__") ⟨[.type "set",a],[]⟩) (wants Q E) s:=by
 refine codeAny_of_tree ?_;show wpAny _ A.in1 (checkBuiltinCall "set.__new__" ⟨[.type "set",a],[]⟩ >>= fun _=>again (.builtin "set.__new__" ⟨[.type "set",a],[]⟩)) _ _ s;refine Qa (G2 (F.newCall_set_1 a) (Qi ⟨KQ F.plain_set_new _,Ku F.entry_set_new ?_⟩));rw[G3 F.plain_set_new _];unfold Builtin.«set.__new__» Builtin.Frozenset.newClass;have hsub:=sub_set_self;obtain⟨hp,g,d,tk,os⟩:=s;dsimp only;wp_walk;refine wpAny_askSetting (Qi ?_)
 dsimp only;simp only[newObj];exact Qa (wpAny_alloc (Qi (Qi h)))
theorem JeE{l:Addr}{items:Array Value}{ns:List Int}{Q:Value->Shared->Prop}(hh:A.handled=none)(hl:s.heap.IsList l items)(hi:IntsAre items.toList ns)(hb:items.size+1<scanBound)
 (h:∀(h':Heap) (tk:Nat),SetL prog w (Uq w) h' s.heap.objs.size (fun k'=>(firstMet (fun i=>ns.getD i 0) items.size).any (· == k')) (firstMet (fun i=>ns.getD i 0) items.size).length ->
  (∀b o,s.heap.get? b=some o->h'.get? b=some o)->Q (.ref s.heap.objs.size) { s with heap:=h',toks:=tk }) :
 wpAny (model prog w) A (call (.type "set") [.ref l]) Q E s:=by
 obtain⟨c,tl,hmro⟩:=Kq.mro;have hmade:=Kq.made;have hsub:=Kq.sub;refine wpAny_call (codeAny_of_tree ?_);show wpAny _ _ (callAny (.type "set") _) _ _ _;refine Qi ⟨Code.quiet_builtin _ (by decide +kernel),Ku F.entry_type_call ?_⟩;rw[Around.under_plain (weight_type_call_type "set" [.ref l] []) rfl];have n1:=Kq.notType;have n2:=Kq.canCreate;have n3:=F.typeCall_set_1 (.ref l)
 repeat (any_goals (first|assumption|wp_step))
 refine K4 (JbZ (.ref l) (E:=E) (Q:=fun obj s1=>obj=.ref s.heap.objs.size/\s1={ s with heap:=s.heap.push (Ul (Uq w)) }) ⟨rfl,rfl⟩) fun r s1 hr=>?_
 cases r with
 | error e=>exact hr
 | ok fl =>
  cases fl with
  | ret obj =>
   obtain⟨rfl,rfl⟩:=hr;have hS:(s.heap.push (Ul (Uq w))).get? s.heap.objs.size=some (Ul (Uq w)):=Qj _ rfl;have hT:Shared.TypeIs { s with heap:=s.heap.push (Ul (Uq w)) } (.ref s.heap.objs.size) "set":=⟨_,hS,rfl⟩
   have i1:=Kq.init.lookup
   have i2:=Kq.init.bind (.ref s.heap.objs.size)
   repeat (any_goals (first|assumption|wp_step))
   refine K4 (codeAny_call_builtin (R:=wants (fun r s2=>r=.none/\∃h' tk,s2={ s with heap:=h',toks:=tk } ∧
    SetL prog w (Uq w) h' s.heap.objs.size (fun k'=>(firstMet (fun i=>ns.getD i 0) items.size).any (· == k')) (firstMet (fun i=>ns.getD i 0) items.size).length ∧
    (∀b o,s.heap.get? b=some o->h'.get? b=some o)) E) Kq.init.plain F.entry_set_init (check_set_init_1 hT ?_)) fun r2 s2 hr2=>?_
   ·obtain⟨ol,hol,hcl,nl,hdl⟩:=hl;obtain⟨oc,od,oda,osl⟩:=ol;simp only at hcl hdl;subst hcl;subst hdl;have hol':(s.heap.push (Ul (Uq w))).get? l=some { cls:=.type "list",dict:=od,data:=.seq items nl,slots:=osl }:=Qf _ hol;have b1:=F.sub_list_set;have b2:=F.sub_list_frozenset;have b3:(Value.type "list" == Value.type "dict")=false:=by decide
    have hl1:(s.heap.push (Ul (Uq w))).IsList l items:=⟨_,hol',rfl,nl,rfl⟩
    unfold Builtin.«set.__init__» noKeywords Builtin.Frozenset.updateFrom
    generalize hPI:pyIter=PI
    wp_walk
    subst hPI;refine K3 hl1 (Qa (wpAny_runValue ?_));have lS:l<s.heap.objs.size:=Qo hol;have hh3:A.in1.in1.in1.handled=none:=by simp[hh]
    have neI:l≠(s.heap.push (Ul (Uq w))).objs.size:=by rw[Q5];exact Qx (K6 lS)
    have off:s.heap.objs.size∉[(s.heap.push (Ul (Uq w))).objs.size,l]:=by rw[Q5];simp only[Qg,Gs,QL,or_false,not_or];exact⟨Qx (GO _),KF lS⟩
    refine Jho (led:=Uq w) ((Walks.list hh3 _ l neI items).toS) s.heap.objs.size off (fun i=>ns.getD i 0) (fun i v hv=>IntsAre.int_at hi i v (by rw[Lc];exact hv)) hb (items.size-0) 0 _ (by omega) (G1 _)
     ⟨⟨_,Qj _ rfl,rfl,rfl⟩,(hl1.push _)⟩ (Jhn _ (Qf _ hS)) fun s' hm hS'=>?_
    obtain⟨h',g',d',tk',os'⟩:=s';have eg:g'=s.gens:=hm.gens;have ed:d'=s.drawn:=hm.drawn;have eo:os'=s.os:=hm.os;subst eg;subst ed;subst eo;show wpAny _ _ _ _ _ _;refine Qi ?_;show wpAny _ _ (ret Value.none) _ _ _;refine Qi ⟨rfl,h',tk',rfl,hS',fun b o e=>?_⟩;have hb0:=Qo e;refine hm.heap b o ?_ (Qf _ (Qf _ e));rw[Q5];simp only[Qg,Gs,QL,or_false,not_or]
    exact⟨Qx hb0,Qx (K6 hb0)⟩
   ·cases r2 with
    | error e=>exact hr2
    | ok fl2 =>
     cases fl2 with
     | ret r =>
      obtain⟨rfl,h',tk,rfl,hS',hk'⟩:=hr2
      repeat (any_goals (first|assumption|wp_step))
      exact h _ _ hS' hk'
     | _=>exact hr2.elim
  | _=>exact hr.elim
end
end L2

namespace L2
open PySem PyProof.Rows PySem.W
end L2

namespace L2
open PySem PyProof.Rows PySem.W
noncomputable def SIt(h:Heap)(I d:Addr)(f:Value)(i n ep:Nat):Prop:=∃o,h.get? I=some o/\o.cls=.type "set_iterator"/\o.data=.fields #[f,.int i 0,.ref d,.int n 0,.int ep 0]
section
variable{prog:Program}{w:World}{A:Around}{E:Value->Shared->Prop}{s:Shared}{I d:Addr}{f:Value}{i n ep:Nat}{es:Array (Int×Value)}{t:SetTable}{o:Obj}
theorem SIt.type{s:Shared}(x:SIt s.heap I d f i n ep):s.TypeIs (.ref I) "set_iterator":=let ⟨o,ho,hc,_⟩:=x;⟨o,ho,hc⟩
theorem SIt.at{h h':Heap}(x:SIt h I d f i n ep)(e:∀o,h.get? I=some o->h'.get? I=some o):SIt h' I d f i n ep:=let ⟨o,ho,r⟩:=x;⟨o,e _ ho,r⟩
noncomputable def SHas(h:Heap)(d:Addr)(es:Array (Int×Value))(ep:Nat)(t:SetTable):Prop:=∃o,h.get? d=some o/\o.ExactSet/\o.data=.set es ep t
theorem SHas.at{h h':Heap}(x:SHas h d es ep t)(e:∀o,h.get? d=some o->h'.get? d=some o):SHas h' d es ep t:=let ⟨o,ho,r⟩:=x;⟨o,e _ ho,r⟩
end
end L2

namespace L2
open PySem PyProof.Rows PySem.W PySem.Spec
section
variable{prog:Program}{w:World}{A:Around}{E:Value->Shared->Prop}{s:Shared}{d:Addr}{ep:Nat}{es:Array (Int×Value)}{t:SetTable}
end
noncomputable def fM(ns:List Int):List Int:=firstMet (fun i=>ns.getD i 0) ns.length
theorem Jdx(ns:List Int):fM ns=ns.foldl step_dedup []:=by
 unfold fM firstMet;congr 1;refine List.ext_getElem (by simp) fun i h1 h2=>?_
 simp[QZ,h2]
theorem Jba:∀(ns acc:List Int),acc.Nodup->(ns.foldl step_dedup acc).Nodup
 | [],acc,h=>h
 | n::ns,acc,h=>by
  rw[QD];refine Jba ns _ ?_;unfold step_dedup;split
  ·exact h
  ·rename_i c;refine LY.mpr ⟨h,by simp,fun a ha b hb=>?_⟩;rw[Gs] at hb;subst hb;intro e;subst e;exact c (Kg.mpr ⟨a,ha,by simp⟩)
theorem JfV:∀(ns acc:List Int) (k:Int),k∈ns.foldl step_dedup acc↔k∈acc\/k∈ns
 | [],acc,k=>by simp
 | n::ns,acc,k=>by
  rw[QD,JfV ns];unfold step_dedup;split
  ·rename_i c;obtain⟨x,hx,e⟩:=Kg.mp c;have:x=n:=by simpa using e
   subst this;simp only[Qg];constructor
   ·exact fun h=>h.elim .inl fun h=>.inr (.inr h)
   ·rintro(h|h|h)
    ·exact .inl h
    ·exact .inl (h▸hx)
    ·exact .inr h
  ·simp only[Gb,Qg,QL,or_false,or_assoc]
theorem Jbj(ns:List Int):(fM ns).Nodup:=by rw[Jdx];exact Jba ns [] List.nodup_nil
theorem JkT(ns:List Int)(k:Int):k∈fM ns↔k∈ns:=by rw[Jdx,JfV];simp
theorem JkS(ns:List Int):(fM ns).length<=ns.length:=firstMet_length_le _ _
theorem V7:∀{a b:List Int},a.Nodup->(∀x∈a,x∈b)->b.length=a.length->b.Perm a
 | [],b,_,_,h=>by have:b=[]:=QF (by simpa using h);rw[this]
 | x::a,b,nd,sub,h=>by
  have hx:=sub x Qd
  have pb:=List.perm_cons_erase hx;refine pb.trans (List.Perm.cons x ?_)
  have nd':=Q2.mp nd;refine V7 nd'.2 (fun y hy=>?_) (by rw[List.length_erase_of_mem hx,h];simp);rcases Qg.mp (pb.mem_iff.mp (sub y (Qc _ hy))) with e|e
  ·exact absurd (e▸hy) nd'.1
  ·exact e
theorem Jbq{prog:Program}{w:World}:∀{l:List (Int×Value)},ElemsOf (intKind prog w) l->∃ks:List Int,IntsAre (l.map (·.2)) ks
 | [],_=>⟨[],.nil⟩
 | e::l,h=>by obtain⟨ks,r⟩:=Jbq h.tail;obtain⟨⟨k,hk,_⟩,_⟩:=h.head;obtain⟨tk,e2⟩:=LU (show MA k e.2=true from hk);refine⟨k::ks,?_⟩;rw[Qe,e2];exact .cons k tk r
theorem Jbr{x:Int}:∀{vs:List Value} {ks:List Int},IntsAre vs ks->∀v∈vs,MA x v=true->x∈ks
 | _,_,.nil,v,h,_=>by simp at h
 | _,_,.cons n t r,v,h,e=>by
  rcases Qg.mp h with q|q
  ·subst q;obtain⟨tk,e2⟩:=LU e
   injection e2 with e2
   subst e2;exact Qd
  ·exact Qc _ (Jbr r v q e)
theorem Jhp{prog:Program}{w:World}{led:Bool}{h:Heap}{a:Addr}{ns:List Int}(x:SetL prog w led h a (fun k=>(fM ns).any (· == k)) (fM ns).length) :
 ∃es ep t ks,SHas h a es ep t/\t.fits es.size=true/\TOk led t/\es.size=(fM ns).length/\IntsAre (es.toList.map (·.2)) ks/\ks.Perm (fM ns):=by
 obtain⟨o,es,ep,t,z⟩:=x;obtain⟨ks,r⟩:=Jbq z.els;refine⟨es,ep,t,ks,⟨o,z.got,z.ex,z.data⟩,z.fits,z.tok,z.size,r,?_⟩;refine V7 (Jbj ns) (fun y hy=>?_) ?_
 ·obtain⟨e,he,hi⟩:=(z.mem y).mp (Kg.mpr ⟨y,hy,by simp⟩);exact Jbr r e.2 (Qw.mpr ⟨e,he,rfl⟩) hi
 ·have:=IntsAre.length r;rw[Qq,QQ] at this;rw[<- this,z.size]
noncomputable def JjA(X:Cx)(l:Addr)(ns:List Int):HO:=.ext fun h=>SetL X.prog X.w (Uq X.w) h l (fun k=>(fM ns).any (· == k)) (fM ns).length
noncomputable def Jkh(X:Cx):List V->Hp->VK->Prop:=fun xs H Q=>∃a ns,xs=[.ref a]/\SqL X.K H a (ns.map V.int)/\ns.length+1<scanBound/\∀l,H l=none->Q (.ref l) (upd H l (JjA X l ns))
noncomputable def Jn0(X:Cx):List V->Hp->VK->Prop:=fun xs H Q=>∃r ns,xs=[.ref r]/\H r=some (JjA X r ns)/\ns.length<64/\Q (.int ((fM ns).length:Nat)) H
section
variable{X:Cx}
theorem JeF(hc:X.calm=true):CallR X (.type "set") (Jkh X):=by
 intro pins s σ H xs us Q I r h;obtain⟨a,ns,rfl,hq,hb,q⟩:=h;obtain⟨u,rfl,rx⟩:=UZ r;cases rx;obtain⟨its,r',pl,hz⟩:=I.list hq;have hh:X.A.handled=none:=I.ok.hd hc;have hi:=U7 r';have il:its.length=ns.length:=IntsAre.length hi;have hne:H s.heap.objs.size=none:=I.hok.fresh (Qk _);refine JeE (ns:=ns) hh pl.isList hi (by rw[Qm,il];exact hb) fun h' tk hS old=>?_
 have ez:its.toArray.size=ns.length:=by rw[Qm,il]
 rw[ez] at hS;refine⟨.ref s.heap.objs.size,_,I.laid (t':=tk) (o:=JjA X s.heap.objs.size ns) old (Qk _) ⟨hS,?_,fun h1 h2 p k=>p.move k⟩,rfl,q _ hne⟩;obtain⟨o,_,_,_,z⟩:=hS;exact⟨o,z.got⟩
theorem JeA:CallR X (.builtin "len") (Jn0 X):=by intro pins s σ H xs us Q I r h;obtain⟨p,ns,rfl,ds,h64,q⟩:=h;obtain⟨u,rfl,rx⟩:=UZ r;cases rx;have z:=(show ObjOk X.prog X.w H s.heap p (JjA X p ns) from I.hok p _ ds).1;obtain⟨es,ep,t,ks,⟨o,ho,hex,hd⟩,hf,tok,sz,ri,pm⟩:=Jhp z;have fl:=JkS ns;refine call_len_set ho hex hd hf (by rw[sz];omega) ?_;exact⟨.int ((fM ns).length:Nat),H,⟨I.ok,I.os,I.bare,I.base,I.loc,I.cell,I.free,I.freeC,I.pin,I.hok,I.len⟩,⟨_,by rw[sz]⟩,q⟩
noncomputable def tUp(te:TE):TE:=fun σ H Q=>∃A:VK,te σ H A/\∀x H1,A x H1->Q x H1
theorem JnT{e:Expr}{te:TE}(h:PE X e te):PE X e (tUp te):=by intro pins s σ H Q I ⟨A,h1,h2⟩;exact thn (h pins s σ H A I h1) fun v s1 ⟨x,H1,I1,r1,a⟩=>⟨x,H1,I1,r1,h2 x H1 a⟩
theorem PE.imp{e:Expr}{t1 t2:TE}(h:PE X e t1)(i:∀σ H Q,t2 σ H Q->t1 σ H Q):PE X e t2:=fun pins s σ H Q I x=>h pins s σ H Q I (i σ H Q x)
end
noncomputable def Jkm(K:Frag)(te:TE):TE:=fun σ H Q=>te σ H fun x H1=>∃a ns,x=.ref a/\SqL K H1 a (ns.map V.int)/\ns.length<64/\∀l o,H1 l=none->Q (.int ((fM ns).length:Nat)) (upd H1 l o)
section
variable{X:Cx}{e:Expr}{te:TE}{p1 p2 q1 q2:Pos}
theorem JlQ(hc:X.calm=true)(hg:Gl X "set")(hm:X.mg "set"=none)(he:PE X e te)(h1:starEach [e] X.env=(false,eval e X.env)::starEach [] X.env:=by rfl):PE X (.Call (.Name "set" p1) [e] [] q1) (tCB (Jkh X) (VE (tUp te) Jb6)) :=
 VX (JeF hc) hg hm (by rfl) (Ja (JnT he) Jd h1) (he:=h1)
theorem JiX{K:Frag}(hK:X.K=K)(hc:X.calm=true)(hg:Gl X "len")(hm:X.mg "len"=none)(hg2:Gl X "set")(hm2:X.mg "set"=none)(he:PE X e te)(h1:starEach [e] X.env=(false,eval e X.env)::starEach [] X.env:=by rfl)
 (h2:starEach [Expr.Call (.Name "set" p1) [e] [] q1] X.env=(false,eval (.Call (.Name "set" p1) [e] [] q1) X.env)::starEach [] X.env:=by rfl):PE X (.Call (.Name "len" p2) [.Call (.Name "set" p1) [e] [] q1] [] q2) (Jkm K te):=by
 subst hK;refine PE.imp (Jx JeA hg hm (by rfl) (Ja (JlQ hc hg2 hm2 he h1) Jd h2) (he:=h2)) fun σ H Q h=>⟨_,h,?_⟩
 rintro x H1 ⟨a,ns,rfl,hq,h64,q⟩;exact⟨a,ns,rfl,hq,by show ns.length+1<4096;omega,fun l hl=>⟨l,ns,rfl,Jq,h64,q l _ hl⟩⟩
end
end L2

namespace LE
open PySem L2 LR
noncomputable def Jdu(a:Ev):Ev:=fun E=>(a E).bind fun s=>s.r.bind fun ds=>(ints? ds).bind fun ns=>if ns.length<64 then some (.sh (.int ((fM ns).length:Nat))) else none
section
variable{K:Frag}{C:Addr}{td:TE}{ed:Ev}
theorem JmD(ha:SE K C td ed):SE K C (Jkm K td) (Jdu ed):=by
 intro B H0 H σ E r Q I e q;obtain⟨s,e1,e⟩:=bind_some e;obtain⟨ds,e2,e⟩:=bind_some e;obtain⟨ns,e3,e⟩:=bind_some e;split at e
 ·next h64 =>
  cases e;refine ha B H0 H σ E s _ I e1 fun x H1 H1' s1 r1=>?_
  obtain⟨l,ys,rfl,h,r2⟩:=r1.r s1.i e2;rw[UQ e3] at r2;have:=r2.ints;subst this;refine⟨l,ns,rfl,h,h64,fun w o hw=>?_⟩;have st:Step H1' H1 H1' H1 (upd H1' w o):=⟨.new hw,Same.refl _,fun _ _ e=>.inl e,s1.i.trans (.new hw)⟩
  have s2:=s1.trans st;exact q _ _ _ s2 (RD.int _)
 ·cases e
end
end LE

namespace L2
open PySem PyProof.Rows PySem.W PySem.Spec
section
variable{X:Cx}
end
end L2
namespace LE
open PySem L2 LR
section
variable{K:Frag}{C:Addr}
end
end LE

namespace L2
open PySem PyProof.Rows PySem.W PySem.Spec
noncomputable def JjT(i j:Int):Prop:=0<j/\j.natAbs<=10 ^ 200
theorem Jlo{j:Int}(h:j.natAbs<=10 ^ 200):j.natAbs.log2<9000:=by
 by_cases h0:j.natAbs=0
 ·rw[h0];decide +kernel
 ·have h1:j.natAbs.log2<1000:=by rw[Nat.log2_lt h0];exact GR h (by decide +kernel)
  omega
theorem JbK{X:Cx}:OpR X (binaryOp .FloorDiv) (rI JjT fun i j=>.int (i / j)):=opI fun i j _ _ _ _ _ hc q=>by have h1:(0:Int)<j:=hc.1;exact floordiv_int (by omega) (by rw[LI i (by omega)];exact q) (.inl (PyProof.noPylong_of_log2 (Jlo hc.2)))
end L2
namespace LE
open PySem L2 LR
noncomputable abbrev Jbi:=fIc (fun _ b=>decide (0<b) && Y9 b) fun a b=>.int (a / b)
section
variable{K:Frag}{C:Addr}
theorem Jlx:OpS K C (rI JjT fun i j=>.int (i / j)) Jbi:=JgQ (fun i j h=>by simp only[QK,Y9,G9,decide_eq_true_eq] at h;exact h) fun _ _ _=>.int _
end
theorem Jf7{a b:Int}(h:0<b/\b.natAbs<=10 ^ 200):Jbi (.sh (.int a)) (.sh (.int b))=some (.sh (.int (a / b))):=by show(if (decide (0<b) && Y9 b)=true then _ else _)=_;rw[if_pos];rw[QK];exact⟨decide_eq_true h.1,G9.mpr h.2⟩
end LE

namespace L2
open PySem PyProof.Rows PySem.W PySem.Spec
section
variable{prog:Program}{w:World}{A:Around}{E:Value->Shared->Prop}{s:Shared}
end
section
variable{prog:Program}{w:World}{A:Around}{R:Result->Shared->Prop}{I:Addr}{fp wr:List Addr}{G:Array GenState->Array GenState->Prop}{n:Nat}{P:Nat->Value->Prop}{St:Nat->Shared->Prop}
end
section
variable{prog:Program}{w:World}{A:Around}{E:Value->Shared->Prop}{s:Shared}
end
end L2

namespace L2
open PySem PyProof.Rows PySem.W PySem.Spec
end L2
namespace LE
open PySem L2 LR
noncomputable def prs?:List D->Option (List PrI)
 | []=>some []
 | .tup [.int a,.int b]::r=>(prs? r).map ((a,b)::·)
 | _=>none
theorem JdY:∀ps:List PrI,prs? (ps.map prE)=some ps
 | []=>rfl
 | p::ps=>by show(prs? (ps.map prE)).map _=_;rw[JdY ps];rfl
section
variable{K:Frag}{C:Addr}{td:TE}{ed:Ev}
end
end LE

namespace LE
open PySem L2 LR
noncomputable def ifB(f:Sl->Sl->Option Sl)(d:D)(ew:Ev)(a b:Es):Es:=fun E=>((ew E).bind fun s=>(f (.sh d) s).bind bool?).bind fun k=>if k=true then a E else b E
noncomputable def Jeq(f:Sl->Sl->Option Sl)(j:Nat)(ek ev ew:Ev)(a b:Es):Es:=fun E=>match E[j]? with
 | some (.od ks ds)=>((ek E).bind int?).bind fun n=>(ev E).bind fun s=>s.frz.bind fun d=>if ks.length<sizeLine then
  match look ks ds n with
  | some d'=>ifB f d' ew a b E
  | none=>ifB f d ew a b (E.set j (.od (JG ks n) (putDs ks ds n d)))
  else none
 | _=>none
section
variable{K:Frag}{C:Addr}{r:R2}{f:Sl->Sl->Option Sl}{j:Nat}{ty tx tw:TE}{ek ev ew:Ev}{t u:TS}{et eu:Es}
theorem Jm6(ho:OpS K C r f)(hk:SE K C ty ek)(hx:SE K C tx ev)(hw:SE K C tw ew)(ht:SS K C t et)(hu:SS K C u eu):SS K C (JjH (Jeh (tOp r (Jhx (Ze j) ty tx) tw)) t u) (Jeq f j ek ev ew et eu):=by
 intro B H0 H σ E o N I e fn;unfold Jeq at e;split at e
 ·next ks ds h =>
  obtain⟨n,e1,e⟩:=bind_some e;obtain⟨t1,e1,e2⟩:=bind_some e1;obtain rfl:=Vr e2;obtain⟨sv,e3,e⟩:=bind_some e;obtain⟨d,e4,e⟩:=bind_some e;split at e
  ·next hz =>
   obtain⟨l,xs,g1,g2,g3,g4,gk,g5⟩:=I.slotD h;have hxl:ks.length=xs.length:=gk.trans g5.1.symm;refine⟨_,g1,?_⟩;refine⟨l,rfl,.inl ⟨_,.inl g2⟩,?_⟩;refine hk B H0 H σ E _ _ I e1 fun y H1 H1' s1 r1=>?_
   refine hx B H1 H1' σ E _ _ (I.step s1) e3 fun z H2 H2' s2 r2=>?_
   have s12:=s1.trans s2
   have s3:Step H H0 H (Yo H H2 H2') H2':=s12.comp (JO s12.i) fun _ z=>z
   have rv:RD K C (Yo H H2 H2') z d:=RR.frz s12.i (r2.weak fun a q=>Same.free s1.h q) e4
   have I3:=I.step s3
   -- what comes behind the value is known
   have tail:∀(E':En) (HA HB:Hp) (v:V) (d':D),EnvR K C B HA HB σ E'->SStep B H0 HA HB->RD K C HA v d'->ifB f d' ew et eu E'=some o ->
    tw σ HB (fun y H4=>r v y H4 fun z H5=>∃k,z=.bl k/\if k=true then t N σ H5 else u N σ H5):=fun E' HA HB v d' J ss rd ee=>by
    unfold ifB at ee;obtain⟨k,ee,e9⟩:=bind_some ee;obtain⟨sw,e7,ee⟩:=bind_some ee;obtain⟨sc,e8,ee⟩:=bind_some ee;have eb:=VL ee;refine hw B HA HB σ E' sw _ J e7 fun y H4 H4' s4 r4=>?_
    refine ho HB H4 H4' v y (.sh d') sw sc _ s4.i s4.h (rd.mono s4.z) r4 e8 fun z H5 H5' s5 r5=>?_
    rw[eb] at r5;have s45:=s4.comp s5 fun _ z=>z
    refine⟨k,RD.blI r5,?_⟩;have J5:=J.step s45;have fs:SStep B H0 H5 H5':=ss.trans (s45.ss J.b)
    cases k with
    | true=>rw[if_pos rfl] at e9 ⊢;exact ht B H5 H5' σ E' o N J5 e9 (fn.step fs)
    | false=>rw[if_neg (by simp)] at e9 ⊢;exact hu B H5 H5' σ E' o N J5 e9 (fn.step fs)
   have hr:=RDL.look (ks:=ks) (n:=n) (g5.mono s3.z);refine⟨_,Sum.inl n,s12.h _ _ g2,RD.intI r1,?_,fun v hv=>?_,fun hn=>?_⟩
   ·rw[GA,Qq,<- hxl,Ml];exact hz
   ·rw[UW] at hv;rcases hr with ⟨z1,_⟩|⟨v',d',z1,z2,z3⟩
    ·rw[z1] at hv;cases hv
    ·rw[z1] at hv;cases hv;rw[z2] at e;exact tail E _ _ v d' I3 (s3.ss I.b) z3 e
   ·rw[UW] at hn;rcases hr with ⟨_,z2⟩|⟨v',d',z1,z2,z3⟩
    ·rw[z2] at e;obtain⟨_,n0,nB⟩:=I3.ownG h rfl g1;have rr:=(g5.mono s3.z).putDs (ks:=ks) (n:=n) rv;have m:=I3.mutG (t':=.od (JG ks n) (putDs ks ds n d)) (o':=dkO (JG ks n) (putDs ks xs n z)) h rfl rfl g1 ⟨l,_,rfl,Jq,n0,nB,ZV _ _ _ _ gk,rr⟩;rw[JbP ks xs n z hxl];exact tail _ _ _ z d m ⟨m.b,s3.z,(s3.ss I.b).n,m.h⟩ rv e
    ·rw[z1] at hn;cases hn
  ·cases e
 ·cases e
end
end LE

namespace LE
open PySem L2 LR
section
variable{K:Frag}{C:Addr}{Hs H0 H:Hp}{td tx:TE}{ed ex:Ev}
end
end LE

namespace L2
open PySem PySem.Spec PyProof.Rows
end L2
namespace LE
open PySem L2 LR
section
variable{K:Frag}{C:Addr}{te:TE}{ea:Ev}
end
theorem JiJ{x y:Int}{α:Type}{r:α}(h:x.natAbs<=10 ^ 200/\y.natAbs<=10 ^ 200):(if (Y9 x && Y9 y)=true then some r else none)=some r:=by rw[if_pos];simp only[QK,Y9,G9];exact h
end LE

namespace LE
open PySem L2 LR
end LE

end
open L2 LR
local macro_rules | `(tactic| walk_at "side")=>`(tactic| first | decide | exact⟨by decide,by decide,by decide⟩ | exact⟨by decide,by decide⟩ | (show(0:Int)<_;omega) | (show(0:Int)<_/\_<(1073741824:Int);omega) | exact Or.inl ⟨by omega,by omega⟩ | exact Or.inr ⟨by omega,by omega⟩ | assumption)
local macro_rules | `(tactic| walk_at "rd1")=>`(tactic| with_reducible first | refine Jmq ?_ | refine Jl7 ?_ | refine Jmc ?_ | refine Jmo ?_ | refine Jjb ?_ | refine Jjh ?_ | refine Joa ?_ | refine Jod ?_ | refine Jjl ?_ | refine Joc ?_ | refine Jjm ?_ | refine Jl6 ?_ | refine Job ?_ | refine Jmm ?_ | refine Jjj ?_ | refine Ji9 ?_ | refine Jmn ?_ | refine Jmb ?_ | refine Jja ?_ | refine Jml ?_ | refine Jn7 ?_ | refine Jd3 ?_ | refine LR.Jd5 ?_ | refine Jmr ?_ | refine Jmi ?_ | refine Jn9 ?_ | refine Jhg ?_ | refine Jjd ?_ | refine Jhf ?_ | refine Jjc ?_ | refine Jma ?_ | refine Jjk ?_ | refine Jhe ?_ | refine Jmt ?_ | refine Jo4 ?_ | refine Jn8 ?_ | refine Jo6 ?_ | refine Ji8 ?_ | refine Jl8 ?_ | refine Jmj ?_ | refine Jl9 ?_ | refine Jmk ?_ | refine Jmd ?_ | refine Jji ?_ | refine Jhh ?_ | refine Jhi ?_ | refine Exists.intro _ (And.intro (LR.JmY _ _ _) ?_))
local macro_rules | `(tactic| walk_at "rd2")=>`(tactic| first | ((with_reducible refine Jo5 ?hc ?_);(case hc=>walk_at "side")) | ((with_reducible refine Jms (v:=?vv) ?hx ?_);(case hx=>exact rfl)) | (with_reducible refine Exists.intro _ (And.intro (Eq.refl (V.bl _)) ?_)))
local macro_rules | `(tactic| walk_at "rd")=>`(tactic| repeat (first | walk_at "rd1" | walk_at "rd2"))
noncomputable section
namespace LK
open PySem L2 LR LE
noncomputable def Yf:List Sl->Option Sl:=YI 5 (Jo (Zk 1 (Zp a0))
 (Jo (Vc (iV 0) (.tp (.cons (.nm 2) (.cons (.nm 3) .nil))) (xIf (tAnd? (tTru? (Jb 1)) (tB? (e2 fEq (eF Zs (aC (e2 fIx (Jb 1) (e1 Jct (eC (.int 1)))) a0)) (Jb 2)))) (Jo (JjQ 1 4 some)
 (Ja0 1 (UF (aC (e2 fIx (Jb 4) (eC (.int 0))) (aC (e2 Yh (e2 fIx (Jb 4) (eC (.int 1))) (Jb 3)) a0))))) (xIf (tB? (e2 fGt (Jb 3) (eC (.int 0)))) (Ja0 1 (UF (aC (Jb 2) (aC (Jb 3) a0)))) Yt)))
 (Ui 1)))
noncomputable def Ye:List Sl->Option Sl:=YI 2 (YG (Ys (JdG true (aC (e1 Vl (Jb 0)) a0)) (.tp (.cons (.nm 0) (.cons (.nm 1) .nil))) yes? (UF (aC (e2 Yh (e2 fIx (Jb 1) (eC (.int 0))) (e2 WH (e2 WH (eC (.int 2)) (Jb 2)) (Jb 0))) (aC (e2 Yh (e2 fIx (Jb 1) (eC (.int 1))) (Jb 2)) a0))) [none,none,some 1]))
noncomputable def YJ:List Sl->Option Sl:=YI 1 (YG (Ys (Jgt true (aC (e1 Vl (Jb 0)) (aC (eSl (e1 Vl (Jb 0)) (some (eC (.int 1))) none) a0))) (.tp (.cons (.nm 0) (.cons (.nm 1) .nil))) yes? (e2 YU (e2 fIx (Jb 1) (eC (.int 0))) (eF Zs (aC (Jb 0) a0))) [none,none]))
noncomputable def JM:List Sl->Option Sl:=YI 1 (YG (eF Jdy (aC (e2 Yh (Ys (iE true (e1 Vl (Jb 0))) (.tp (.cons (.nm 0) (.cons (.nm 1) .nil))) yes? (Jb 1) [none,none]) (eU 1 YJ (aC (Jb 0) a0))) a0)))
noncomputable def JV:List Sl->Option Sl:=YI 5 (Jo (Jm 2 (eF Zr (aC (e1 Vl (Jb 0)) a0)))
 (Jo (Jm 3 (Jb 1))
 (Jo (Yv (tAnd? (tB? (e2 fGt (Jb 3) (eC (.int 0)))) (tTru? (e1 Vl (Jb 2)))) (Jo (Jm 4 (eF Jbk (aC (Jb 3) (aC (eU 1 JM (aC (Jb 2) a0)) a0))))
 (Jo (Jm 2 (eF Zr (aC (eU 1 Yf (aC (eU 2 Ye (aC (Jb 2) (aC (e1 Jct (Jb 4)) a0))) a0)) a0)))
 (Jc8 (fun i j=>i-j) 3 (Jb 4)))) 1000000)
 (Ui 2))))
noncomputable def Yy:List Sl->Option Sl:=YI 2 (YG (eF Jik (aC (Ys (iE true (e1 Vl (Jb 0))) (.tp (.cons (.nm 0) (.cons (.nm 1) .nil))) yes? (Jcn fLe fLt (Jb 0) (Jb 2) (e2 Yh (Jb 0) (Jb 1))) [none,none,some 1]) a0)))
noncomputable def YM:List Sl->Option Sl:=YI 2 (YG (eIf (tAnd? (tTru? (eU 2 Yy (aC (Jb 0) (aC (e2 YU (Jb 1) (eC (.int 1))) a0)))) (tNot? (tTru? (eU 2 Yy (aC (Jb 0) (aC (Jb 1) a0)))))) (eC (.int 1)) (eC (.int 0))))
noncomputable def YN:List Sl->Option Sl:=YI 6 (Jo (Jm 1 (eU 2 JV (aC (Jb 0) (aC (eC (.int 1)) a0))))
 (Jo (Zk 2 Jdt)
 (Jo (Vc (JdG false (aC (e1 Vl (Jb 0)) a0)) (.tp (.cons (.nm 3) (.cons (.nm 4) .nil))) (Jo (Jm 5 (e2 YU (e2 YU (eF Zs (aC (Jb 4) a0)) (eC (.int 1))) (e2 WH (eC (.int 2)) (Jb 3))))
 (Jeo 2 (Jb 5) (e2 Yh (Jco (Jb 2) (Jb 5) (eC (.int 0))) (eC (.int 1))))))
 (Jep 2 (YG (Ys (Jcz (Jb 2)) (.tp (.cons (.nm 0) (.cons (.nm 1) .nil))) yes? (UF (aC (Jb 0) (aC (Jb 1) (aC (eU 2 YM (aC (Jb 2) (aC (Jb 0) a0))) a0)))) [none,none,some 1]))))))
noncomputable def J3:List Sl->Option Sl:=YI 5 (Jo (Zk 1 (Zp a0))
 (Jo (Jm 2 (Jb 0))
 (Jo (Jm 3 (eC (.int 0)))
 (Jo (Yv (tTru? (e1 Vl (Jb 2))) (Jo (Jm 4 (eU 1 JM (aC (Jb 2) a0)))
 (Jo (Jc8 (fun i j=>i+j) 3 (Jb 4))
 (Jo (Jm 2 (eU 2 JV (aC (Jb 2) (aC (e2 YU (Jb 4) (eC (.int 1))) a0))))
 (Jo (Jc9 1 (Ys (iE true (eU 1 YN (aC (Jb 2) a0))) (.tp (.cons (.nm 0) (.cons (.nm 1) (.cons (.nm 2) .nil)))) (tB? (e2 fGt (Jb 1) (Jb 2))) (UF (aC (Jb 3) (aC (Jb 0) (aC (e2 YU (Jb 1) (Jb 2)) a0)))) [none,none,none,some 3]))
 (Jm 2 (eU 2 JV (aC (Jb 2) (aC (eC (.int 1)) a0)))))))) 1000000)
 (Ui 1)))))
noncomputable def Yg:List Sl->Option Sl:=YI 9 (Jo (Zk 2 (Zp a0))
 (Jo (Jm 3 (eC (.int 0)))
 (Jo (Vc (iR1 (aC (eF U4 (aC (Jb 0) a0)) a0)) (.nm 4) (Jo (Jm2 (.tp (.cons (.nm 5) (.cons (.nm 6) .nil))) (e2 fIx (Jb 0) (Jb 4)))
 (Jo (Jm 7 (Jb 6))
 (Jo (xIf (tB? (e2 U2 (Jb 1) (eC .non))) (Jm 7 (eF Jbk (aC (Jb 6) (aC (e2 YU (Jb 1) (Jb 3)) a0)))) Yt)
 (Jo (Jm 3 (e2 Yh (Jb 3) (Jb 7)))
 (Jo (Jm 8 (Jb 3))
 (Jo (xIf (tB? (e2 fLt (e2 Yh (Jb 4) (eC (.int 1))) (eF U4 (aC (Jb 0) a0)))) (Jm 8 (eF Jbk (aC (Jb 8) (aC (e2 YU (e2 YU (e2 fIx (e2 fIx (Jb 0) (e2 Yh (Jb 4) (eC (.int 1)))) (eC (.int 0))) (Jb 5)) (Jb 6)) a0)))) Yt)
 (Jo (Jm 3 (e2 YU (Jb 3) (Jb 8)))
 (Ja0 2 (UF (aC (e2 Yh (Jb 5) (Jb 7)) (aC (e2 Yh (e2 YU (Jb 6) (Jb 7)) (Jb 8)) a0))))))))))))
 (Ui 2))))
noncomputable def J6:List Sl->Option Sl:=YI 1 (YG (Ys (JkY true (aC (Jb 0) a0)) (.tp (.cons (.nm 0) (.cons (.nm 1) .nil))) yes? (UF (aC (e2 YU (e2 YU (eC (.int 1)) (Jb 0)) (Jb 1)) (aC (Jb 1) a0))) [none,none]))
noncomputable def Jp:List Sl->Option Sl:=YI 4 (Jo (Vc (iR1 (aC (eF Zq (aC (Jb 2) a0)) a0)) (.nm 3) (xIf (tB? (e2 fGt (Jb 2) (eC (.int 0)))) (Jm 0 (eU 2 Yg (aC (Jb 0) (aC (Jb 1) a0)))) (Jm 0 (eU 1 J6 (aC (eU 2 Yg (aC (eU 1 J6 (aC (Jb 0) a0)) (aC (Jb 1) a0))) a0)))))
 (Ui 0))
noncomputable def Yd:List Sl->Option Sl:=YI 2 (YG (eIf (tB? (e2 fIs (Jb 1) (eC .non))) (Jb 0) (eF Jbk (aC (Jb 0) (aC (Jb 1) a0)))))
noncomputable def JU:List Sl->Option Sl:=YI 5 (Jo (Zk 1 (Zp a0))
 (Jo (Vc (iE false (eU 1 J3 (aC (Jb 0) a0))) (.tp (.cons (.nm 2) (.cons (.nm 3) (.cons (.nm 4) .nil)))) (Jc9 1 (e2 Jir (Zp (aC (UF (aC (Jb 2) (aC (Jb 3) a0))) a0)) (Jb 4))))
 (Ui 1)))
noncomputable def Yw:List Sl->Option Sl:=YI 8 (Jo (Jm 2 (eU 1 JU (aC (Jb 0) a0)))
 (Jo (Jm 3 (eU 1 JU (aC (Jb 1) a0)))
 (Jo (xIf (tB? (e2 fNe (Ys (iE true (Jb 2)) (.tp (.cons (.nm 0) (.cons (.nm 1) .nil))) yes? (Jb 0) [none,none]) (Ys (iE true (Jb 3)) (.tp (.cons (.nm 0) (.cons (.nm 1) .nil))) yes? (Jb 0) [none,none]))) (YG (eC .non)) Yt)
 (Jo (Zk 4 Jdt)
 (Jo (Vc (Jgt false (aC (Jb 2) (aC (Jb 3) a0))) (.tp (.cons (.nm 5) (.cons (.nm 6) .nil))) (Jo (Jm 7 (e2 YU (e2 fIx (Jb 6) (eC (.int 1))) (e2 fIx (Jb 5) (eC (.int 1)))))
 (Jeq fNe 4 (e2 fIx (Jb 5) (eC (.int 0))) (Jb 7) (Jb 7) (YG (eC .non)) Yt)))
 (YG (Jaj (Jb 4))))))))
noncomputable def J9:List Sl->Option Sl:=YI 1 (xIf (tAnd? (tB? (e2 U2 (Jb 0) (eC .non))) (tB? (e2 fLt (Jb 0) (eC (.int 1))))) JhJ Yt)
noncomputable def YL:List Sl->Option Sl:=YI 7 (Jo (JhI (eU 1 J9 (aC (Jb 2) a0)))
 (Jo (Jm 3 (eU 2 Yw (aC (Jb 0) (aC (Jb 1) a0))))
 (Jo (xIf (tB? (e2 fIs (Jb 3) (eC .non))) (YG (eC .non)) Yt)
 (Jo (Jm 4 (eC (.int 0)))
 (Jo (Vc (iE false (eSl (Jb 3) none (some (eC (.int 1))))) (.tp (.cons (.nm 5) (.cons (.nm 6) .nil))) (Jm 4 (e2 Jbi (Jb 6) (eU 2 Yd (aC (Jb 5) (aC (Jb 2) a0))))))
 (YG (eIf (tTru? (eF Jii (aC (Ys (iE true (Jb 3)) (.tp (.cons (.nm 0) (.cons (.nm 1) .nil))) yes? (e2 fEq (Jb 1) (e2 WH (Jb 2) (eU 2 Yd (aC (Jb 0) (aC (Jb 3) a0))))) [none,none,some 4,some 2]) a0))) (Jb 4) (eC .non))))))))
noncomputable def JN:List Sl->Option Sl:=YI 2 (YG (e2 fIx (Zp (aC (eC (.int 1)) (aC (eC (.int 2)) (aC (eC (.int 3)) (aC (eC .non) (aC (e2 Yh (eC (.int 1)) (e2 U5 (e2 Jam (Jb 0) (eC (.int 8))) (eC (.int 9)))) (aC (eF Jf8 (aC (eC (.int 1)) (aC (Jb 1) a0))) (aC (e2 Yh (Jb 1) (eC (.int 1))) (aC (e2 Yh (eC (.int 1)) (e2 U5 (e2 Jam (Jb 0) (eC (.int 8))) (eF Jf8 (aC (eC (.int 1)) (aC (Jb 1) a0))))) a0))))))))) (e2 U5 (Jb 0) (eC (.int 8)))))
noncomputable def Jw:List Sl->Option Sl:=YI 2 (Jo (xIf (tB? (e2 fLt (Jb 1) (eF U4 (aC (Jb 0) a0)))) (YG (e2 fIx (Jb 0) (Jb 1))) Yt)
 (YG (eC (.int 0))))
noncomputable def YK:List Sl->Option Sl:=YI 8 (Jo (Zk 1 (Zp a0))
 (Jo (Jm 2 (UF (aC (eC (.int 0)) (aC (eC (.int 0)) a0))))
 (Jo (Vc (iV 0) (.tp (.cons (.nm 3) (.cons (.nm 4) .nil))) (Jo (Jm 5 (e2 YU (Jb 3) (e2 fIx (Jb 2) (eC (.int 0)))))
 (Jo (Jm 6 (e2 Jbi (e2 YU (Jb 4) (e2 fIx (Jb 2) (eC (.int 1)))) (Jb 5)))
 (Jo (Jm 7 (e2 YU (e2 YU (Jb 4) (e2 fIx (Jb 2) (eC (.int 1)))) (e2 Jf9 (Jb 6) (Jb 5))))
 (Jo (xIf (tB? (e2 fGt (Jb 7) (eC (.int 0)))) (Ja0 1 (UF (aC (e2 Yh (e2 fIx (Jb 2) (eC (.int 0))) (Jb 7)) (aC (e2 Yh (Jb 6) (eC (.int 1))) a0)))) Yt)
 (Jo (Ja0 1 (UF (aC (Jb 3) (aC (Jb 6) a0))))
 (Jm 2 (UF (aC (Jb 3) (aC (Jb 4) a0))))))))))
 (Ui 1))))
noncomputable def Uk:List Sl->Option Sl:=YI 5 (Jo (Jm 2 (eU 2 Yw (aC (Jb 0) (aC (Jb 1) a0))))
 (Jo (xIf (tB? (e2 fIs (Jb 2) (eC .non))) (YG (eC .non)) Yt)
 (Jo (Jm 3 (eU 1 YK (aC (Jb 2) a0)))
 (Jo (Zk 4 (Ys (Jgt true (aC (Jb 3) (aC (eSl (Jb 3) (some (eC (.int 1))) none) a0))) (.tp (.cons (.nm 0) (.cons (.nm 1) .nil))) yes? (UF (aC (e2 fIx (Jb 0) (eC (.int 0))) (aC (e2 YU (e2 fIx (Jb 0) (eC (.int 1))) (e2 fIx (Jb 1) (eC (.int 1)))) a0))) [none,none]))
 (Jo (Jc9 4 (Ys (iE true (eSl (Jb 3) (some (e1 Jct (eC (.int 1)))) none)) (.tp (.cons (.nm 0) (.cons (.nm 1) .nil))) yes? (UF (aC (eC .non) (aC (Jb 1) a0))) [none,none]))
 (YG (Ys (iE true (Jb 4)) (.nm 0) (tB? (e2 fNe (e2 fIx (Jb 0) (eC (.int 1))) (eC (.int 0)))) (Jb 0) [none])))))))
noncomputable def JL:List Sl->Option Sl:=YI 8 (Jo (Jm 4 (e2 YU (e2 U5 (eU 2 Jw (aC (Jb 0) (aC (eC (.int 1)) a0))) (e2 Yh (e2 WH (eC (.int 2)) (Jb 3)) (eC (.int 1)))) (Jb 3)))
 (Jo (Zk 5 (Zp a0))
 (Jo (Vc (iR1 (aC (Jb 1) a0)) (.nm 6) (Jo (Jm 7 (e2 Yh (eC (.int 1)) (e2 U5 (eU 2 Jw (aC (Jb 0) (aC (e2 Yh (eC (.int 2)) (e2 WH (eC (.int 2)) (Jb 6))) a0))) (Jb 2))))
 (Jo (Ja0 5 (UF (aC (Jb 4) (aC (Jb 7) a0))))
 (Jm 4 (e2 Yh (e2 Yh (e2 Yh (Jb 4) (Jb 7)) (eC (.int 1))) (e2 U5 (eU 2 Jw (aC (Jb 0) (aC (e2 Yh (eC (.int 3)) (e2 WH (eC (.int 2)) (Jb 6))) a0))) (Jb 2)))))))
 (Ui 5))))
noncomputable def Jcr:List Sl->Option Sl:=YI 15 (Jo (Jm 1 (eU 2 Jw (aC (Jb 0) (aC (eC (.int 0)) a0))))
 (Jo (Jm 2 (eU 4 JL (aC (Jb 0) (aC (e2 U5 (Jb 1) (eC (.int 7))) (aC (eC (.int 5)) (aC (eC (.int 40)) a0))))))
 (Jo (Jm 3 (eF Zs (aC (Ys (iE true (Jb 2)) (.nm 0) yes? (e2 fIx (Jb 0) (eC (.int 1))) [none]) a0)))
 (Jo (Jm 4 (Jb 2))
 (Jo (Vc (iR1 (aC (e2 U5 (e2 Jam (Jb 1) (eC (.int 7))) (eC (.int 5))) a0)) (.nm 5) (Jo (Jm 6 (eU 2 Jw (aC (Jb 0) (aC (e2 Yh (eC (.int 14)) (Jb 5)) a0))))
 (Jm 4 (eU 3 Jp (aC (Jb 4) (aC (eU 2 JN (aC (e2 Jam (Jb 6) (eC (.int 11))) (aC (Jb 3) a0))) (aC (e2 YU (e2 U5 (Jb 6) (eC (.int 11))) (eC (.int 5))) a0)))))))
 (Jo (Jm 7 (eF Zr (aC (Jb 2) a0)))
 (Jo (Jm 8 (eF Zr (aC (Jb 4) a0)))
 (Jo (Jm 9 (eU 2 Uk (aC (Jb 7) (aC (Jb 8) a0))))
 (Jo (xIf (tNot? (tTru? (JhZ "list" (Jb 9)))) (YG (eC (.bl false))) Yt)
 (Jo (xIf (tB? (e2 fLt (eF Zs (aC (Ys (iE true (Jb 9)) (.nm 0) yes? (eF Zq (aC (e2 fIx (Jb 0) (eC (.int 1))) a0)) [none]) a0)) (eC (.int 200)))) (Jo (Jm 10 (Jb 2))
 (Jo (Vc (iV 9) (.tp (.cons (.nm 11) (.cons (.nm 12) .nil))) (Jm 10 (eU 3 Jp (aC (Jb 10) (aC (Jb 11) (aC (Jb 12) a0))))))
 (xIf (tB? (e2 fNe (Jb 10) (Jb 4))) (YG (eC (.bl false))) Yt))) Yt)
 (Jo (Jm 13 (eU 2 JN (aC (eU 2 Jw (aC (Jb 0) (aC (eC (.int 18)) a0))) (aC (Jb 3) a0))))
 (Jo (Jm 14 (eU 3 YL (aC (Jb 7) (aC (Jb 8) (aC (Jb 13) a0)))))
 (Jo (xIf (tAnd? (tB? (e2 U2 (Jb 14) (eC .non))) (tAnd? (tB? (e2 fLt (eF Zq (aC (Jb 14) a0)) (eC (.int 200)))) (tB? (e2 fNe (eU 3 Jp (aC (Jb 2) (aC (Jb 13) (aC (Jb 14) a0)))) (Jb 4))))) (YG (eC (.bl false))) Yt)
 (Jo (xIf (tAnd? (tB? (e2 fIs (Jb 14) (eC .non))) (tAnd? (tB? (e2 fEq (eF U4 (aC (Jb 9) a0)) (eC (.int 1)))) (tB? (e2 fEq (e2 fIx (e2 fIx (Jb 9) (eC (.int 0))) (eC (.int 0))) (Jb 13))))) (YG (eC (.bl false))) Yt)
 (YG (e2 fLe (eF U4 (aC (Jb 9) a0)) (e2 WH (eC (.int 2)) (Jdu (Ys (iE true (eU 1 J3 (aC (Jb 7) a0))) (.nm 0) yes? (e2 fIx (Jb 0) (eC (.int 0))) [none])))))))))))))))))))
end LK
end
namespace LK
open PySem L2 LR LE
local macro_rules | `(tactic| omega)=>`(tactic| first | lia | omega (config:={}))
local macro_rules | `(tactic| walk_at "sd")=>`(tactic| first | omega (config:={}) | assumption | (simp only[QC,Qq,GL,Qp,Kt,Gn];omega (config:={})))
local macro_rules | `(tactic| walk_at "ev")=>`(tactic| simp -implicitDefEqProofs (disch:=walk_at "sd") only[YI,JjE,Int.reduceToNat,Qp,Kt,Nat.reduceAdd,Nat.reduceSub,Nat.reduceLT,Nat.reduceLeDiff,Gc,Nat.zero_lt_succ,Nat.succ_lt_succ_iff,MI,KJ,Gz,Gh,List.set_cons_zero,List.set_cons_succ,List.getElem?_cons_succ,List.getElem?_cons_zero,Qq,GL,List.length_set,QB,Lx,Option.bind_none,Option.map_none,if_true,if_false,ite_true,ite_false,decide_true,decide_false,Bool.not_true,Bool.not_false,Bool.and_true,Bool.true_and,reduceIte,reduceCtorEq,Bool.false_eq_true,Qe,GN,if_pos,
 Jo,xIf,YG,Ui,Yt,Zk,Jm,Jm2,JhI,Ja0,Jc9,JjQ,Jc8,JiJ,Jdt,Sl.dt,pr?,JnF,Jco,Jeo,Jep,Jcz,Jaj,Jdu,JdY,Jeq,ifB,lst?,Jng,Jin,Sl.dk,int?,JkU,Vc,tB?,tTru?,tAnd?,tOr?,tNot?,JmX,e2,e1,Jb,eF,eC,aC,a0,eU,Wn,Sl.pass,UF,Zp,WI,Sl.frz,eIf,Jcn,sh?,bool?,str?,keep?,JhZ,tyN,D.isRow,JlC,JlB,Jjy,Jjz,Jjw,Jjx,Jh1,Jh2,
 Jnt,Jip,Jga,Jio,Jim,Jf7,Jiq,Jia,Jih,Jie,Jid,Jh8,Jh7,Jif,Jig,Jib,Jh9,Jic,JkQ,JkO,JkN,JkR,JkM,JkP,Jnw,Jnv,Jny,Jnu,Jnx,Jf8,Jbk,Vl,Sl.q,Sl.r,Sl.m,Sl.d,Sl.it,fEq,fNe,Jf5,JkK,JkI,JkJ,Jf4,JkH,JkG,fIs,U2,JeV,JeT,Jgw,JeX,JeY,JeU,Jgx,JeW,iE,iV,iR1,Ys,Vq,Jgt,JkY,JdG,Jdy,WP,eSl,WG,fSl,Jgu,Jk0,Jhr,Jlh,JiD,Jlg,Jlk,Jli,Jlj,Jnd,Jne,JhP,Jfy,JoK,JoL,JoM,JoN,JoO,eq_self])
noncomputable section
theorem VT(ns:List Int)(k:Int)(hk:0<=k):Jw [.sh (.fz (ns.map .int)),.sh (.int k)]=some (.sh (.int (cell ns k))):=by
 unfold Jw;walk_at "ev"
 by_cases h:k<(ns.length:Int)
 ·simp only[h,Jdc,JfG hk h];walk_at "ev"
 ·simp only[h,JfQ h];walk_at "ev"
theorem Good.cons'{p:Pr}{ps:List Pr}(g:Good (p::ps)):Good ps:=⟨fun i q e=>g.one (i+1) q (by simpa using e),fun i q r e1 e2=>g.gap (i+1) q r (by simpa using e1) (by simpa using e2)⟩
theorem Good.all{ps:List Pr}(g:Good ps):∀p∈ps,1<=p.2:=fun p hp=>by obtain⟨i,hi,e⟩:=QV.mp hp;exact g.one i p (by simp[hi,e])
theorem Good.first{p:Pr}:∀{ps:List Pr},Good (p::ps)->∀q∈ps,p.1+p.2<q.1
 | [],_,q,hq=>nomatch hq
 | r::ps,g,q,hq=>by
  have h1:=g.gap 0 p r rfl rfl;rcases Qg.mp hq with z|z
  ·rw[z];exact h1
  ·have h2:=Good.first (Good.cons' g) q z
   have h3:=g.one 1 r rfl;omega
theorem Good.pw:∀{ps:List Pr},Good ps->ps.Pairwise fun p q=>p.1+p.2<q.1
 | [],_=>.nil
 | p::ps,g=>.cons (Good.first g) (Good.pw (Good.cons' g))
theorem JfH{α:Type}{xs:List α}{x:α}(h:xs[xs.length-1]?=some x):atI xs (-1)=some x:=by
 have hl:=(Qh.mp h).1;unfold atI ixN;rw[if_neg (by omega),if_pos (by omega)]
 have:((-1:Int)+(xs.length:Int)).toNat=xs.length-1:=by omega
 rw[this];exact h
theorem JhS(p:Pr):atI [D.int p.1,D.int p.2] 1=some (.int p.2):=rfl
theorem U3(p:Pr):fIx (.sh (prE p)) (.sh (.int 0))=some (.sh (.int p.1)):=rfl
theorem VN(p:Pr):fIx (.sh (prE p)) (.sh (.int 1))=some (.sh (.int p.2)):=rfl
noncomputable def Ya:List Pr->List Int
 | []=>[]
 | [_]=>[]
 | p::q::r=>(q.1-(p.1+p.2))::Ya (q::r)
theorem ZM:∀ps:List Pr,Ya ps=(GD ps (ps.drop 1)).map fun pq=>pq.2.1-(pq.1.1+pq.1.2)
 | []=>rfl
 | [_]=>rfl
 | p::q::r=>by rw[Ya,ZM (q::r)];rfl
theorem VO:∀ps:List Pr,(Ya ps).length=ps.length-1
 | []=>rfl
 | [_]=>rfl
 | p::q::r=>by rw[Ya,Qp,VO (q::r)];simp
theorem Ja9{α:Type}(xs:List α):WE xs (some 1) none=xs.drop 1:=by
 unfold WE;have e:HT.sIx xs.length 0 (some 1)=min 1 xs.length:=rfl;rw[e,show HT.sIx xs.length xs.length none=xs.length from rfl]
 cases xs with
 | nil=>rfl
 | cons x xs=>simp
theorem Jlq(ps:List Pr)(h:ps.length<=1000):YJ [.sh (.row (ps.map prE))]=some (.own ((Ya ps).map .int)):=by
 unfold YJ;walk_at "ev";rw[Ja9,<- ML,Ja1];walk_at "ev";have hz:(GD ps (ps.drop 1)).length<=16777216:=by rw[GA];omega
 rw[if_pos hz,J2 (g:=fun pq=>D.int (pq.2.1-(pq.1.1+pq.1.2)))]
 ·walk_at "ev";rw[ZM,Qt];rfl
 ·intro pq _;walk_at "ev";rw[U3];walk_at "ev";rw[UP (ns:=[pq.1.1,pq.1.2]) rfl];walk_at "ev";simp
theorem Jbb{α:Type}{xs r:List α}{x:α}{i:Nat}(e:xs.drop i=x::r):xs[i]?=some x/\xs.drop (i+1)=r:=by
 have h:(xs.drop i)[0]?=some x:=by rw[e];rfl
 rw[List.getElem?_drop] at h;refine⟨by simpa using h,?_⟩;have:xs.drop (i+1)=(xs.drop i).drop 1:=by rw[List.drop_drop]
 rw[this,e];rfl
theorem Ww{α:Type}{xs:List α}{k:Nat}{x:α}(h:xs[k]?=some x):atI xs (k:Int)=some x:=by obtain⟨h1,h2⟩:=Qh.mp h;rw[Ja4 h1,h2]
theorem Good.mk'{p:Pr}{ps:List Pr}(h1:1<=p.2)(h2:∀q,ps[0]?=some q->p.1+p.2<q.1)(g:Good ps):Good (p::ps):=by
 refine⟨fun i q e=>?_,fun i q r e1 e2=>?_⟩
 ·cases i with
  | zero=>simp at e;subst e;exact h1
  | succ i=>exact g.one i q (by simpa using e)
 ·cases i with
  | zero=>simp at e1;subst e1;exact h2 r (by simpa using e2)
  | succ i=>exact g.gap i q r (by simpa using e1) (by simpa using e2)
noncomputable def byF(k:Int)(ps:List Pr):List Pr:=ps.mapIdx fun i p=>(p.1+2*k*(i:Int),p.2+k)
theorem U1(k:Int)(ps:List Pr):(byF k ps).length=ps.length:=by unfold byF;rw[Gr]
theorem Jaf{k:Int}{ps:List Pr}{i:Nat}{x:Pr}(e:(byF k ps)[i]?=some x):∃p,ps[i]?=some p/\x=(p.1+2*k*(i:Int),p.2+k):=by unfold byF at e;rw[Qr,Gx] at e;obtain⟨p,h,rfl⟩:=e;exact⟨p,h,rfl⟩
theorem Jdh(a b:Int)(ps:List Pr):byF a (byF b ps)=byF (a+b) ps:=by
 refine Q7 fun i=>?_
 unfold byF;rw[Qr,Qr,Qr,GU]
 cases ps[i]? with
 | none=>rfl
 | some p=>show some (p.1+2*b*(i:Int)+2*a*(i:Int),p.2+b+a)=some (p.1+2*(a+b)*(i:Int),p.2+(a+b));rw[Lm,K2];congr 2 <;> omega
theorem Vg(ps:List Pr):byF 0 ps=ps:=by
 refine Q7 fun i=>?_
 unfold byF;rw[Qr]
 cases ps[i]? with
 | none=>rfl
 | some p=>simp
structure Wide (c:Int) (ps:List Pr):Prop where
 one:∀(i:Nat) (p:Pr),ps[i]?=some p->c<=p.2
 gap:∀(i:Nat) (p q:Pr),ps[i]?=some p->ps[i+1]?=some q->c<=q.1-(p.1+p.2)
theorem Wide.good{c:Int}{ps:List Pr}(h:1<=c)(w:Wide c ps):Good ps:=⟨fun i p e=>by have:=w.one i p e;omega,fun i p q e1 e2=>by have:=w.gap i p q e1 e2;omega⟩
theorem Wide.bys{c k:Int}{ps:List Pr}(w:Wide c ps):Wide (c+k) (byF k ps):=by
 refine⟨fun i x e=>?_,fun i x y e1 e2=>?_⟩
 ·obtain⟨p,h,rfl⟩:=Jaf e;have:=w.one i p h;dsimp only;omega
 ·obtain⟨p,h1,rfl⟩:=Jaf e1;obtain⟨q,h2,rfl⟩:=Jaf e2;have:=w.gap i p q h1 h2;have em:2*k*((i+1:Nat):Int)=2*k*(i:Int)+2*k:=by rw[GZ,Lm];simp
  dsimp only;rw[em];omega
theorem Wide.mono{c c':Int}{ps:List Pr}(h:c'<=c)(w:Wide c ps):Wide c' ps:=⟨fun i p e=>by have:=w.one i p e;omega,fun i p q e1 e2=>by have:=w.gap i p q e1 e2;omega⟩
theorem Wide.cons{c:Int}{p:Pr}{ps:List Pr}(w:Wide c (p::ps)):Wide c ps:=⟨fun i q e=>w.one (i+1) q (by simpa using e),fun i q r e1 e2=>w.gap (i+1) q r (by simpa using e1) (by simpa using e2)⟩
noncomputable def clF:Pr->List Pr->List Pr
 | cur,[]=>[cur]
 | cur,p::r=>if cur.1+cur.2=p.1 then clF (cur.1,cur.2+p.2) r else if 0<p.2 then cur::clF p r else clF cur r
noncomputable def clN:List Pr->List Pr
 | []=>[]
 | p::r=>if 0<p.2 then clF p r else clN r
theorem JfR:∀(cur:Pr) (r:List Pr),Good (cur::r)->clF cur r=cur::r
 | cur,[],_=>rfl
 | cur,p::r,g=>by
  have h1:=g.gap 0 cur p rfl rfl
  have h2:=g.one 1 p rfl;rw[clF,if_neg (by omega),if_pos (by omega),JfR p r (Good.cons' g)]
theorem Jag{ps:List Pr}(g:Good ps):clN ps=ps:=by
 cases ps with
 | nil=>rfl
 | cons p r=>rw[clN,if_pos (by have:=g.one 0 p rfl;omega),JfR p r g]
theorem Vh:∀(cur:Pr) (r:List Pr),1<=cur.2->Wide 0 r->(∀q,r[0]?=some q->cur.1+cur.2<=q.1)->Good (clF cur r)/\∃q,(clF cur r)[0]?=some q/\q.1=cur.1
 | cur,[],h,_,_=>⟨Good.mk' h (fun q e=>by simp at e) Good.nil,cur,rfl,rfl⟩
 | cur,p::r,h,w,hq=>by
  have h0:=w.one 0 p rfl
  have hb:=hq p rfl
  have nx:∀q,r[0]?=some q->p.1+p.2<=q.1:=fun q e=>by have:=w.gap 0 p q rfl (by simpa using e);omega
  rw[clF];split
  ·next e=>exact Vh (cur.1,cur.2+p.2) r (by dsimp only;omega) w.cons fun q e'=>by have:=nx q e';dsimp only;omega
  ·next e =>
   split
   ·next hp=>obtain⟨g,q,e1,e2⟩:=Vh p r (by omega) w.cons nx;exact⟨Good.mk' h (fun q' e'=>by rw[e1] at e';cases e';omega) g,cur,rfl,rfl⟩
   ·next hp=>exact Vh cur r h w.cons fun q e'=>by have:=nx q e';omega
theorem WD:∀(ps:List Pr),Wide 0 ps->Good (clN ps)
 | [],_=>Good.nil
 | p::r,w=>by
  rw[clN];split
  ·next h=>exact(Vh p r (by omega) w.cons fun q e=>by have:=w.gap 0 p q rfl (by simpa using e);omega).1
  ·exact WD r w.cons
theorem We:∀(cur:Pr) (r:List Pr),(clF cur r).length<=r.length+1/\((clF cur r).length=r.length+1->(∀p∈r,0<p.2)/\∀(i:Nat) (p q:Pr),(cur::r)[i]?=some p->(cur::r)[i+1]?=some q->p.1+p.2≠q.1)
 | cur,[]=>⟨Qk _,fun _=>⟨fun p hp=>(by cases hp),fun i p q _ e=>(by simp at e)⟩⟩
 | cur,p::r=>by
  rw[clF,Qp];split
  ·next e=>have ih:=(We (cur.1,cur.2+p.2) r).1;exact⟨by omega,fun h=>by omega⟩
  ·next e =>
   split
   ·next hp =>
    obtain⟨i1,i2⟩:=We p r;refine⟨by rw[Qp];omega,fun h=>?_⟩;obtain⟨a1,a2⟩:=i2 (by rw[Qp] at h;omega);refine⟨fun q hq=>?_,fun i x y e1 e2=>?_⟩
    ·rcases Qg.mp hq with z|z
     ·rw[z];exact hp
     ·exact a1 q z
    ·cases i with
     | zero=>simp at e1 e2;subst e1 e2;exact e
     | succ i=>exact a2 i x y (by simpa using e1) (by simpa using e2)
   ·have ih:=(We cur r).1;exact⟨by omega,fun h=>by omega⟩
theorem Vi:∀(ps:List Pr),(clN ps).length<=ps.length/\((clN ps).length=ps.length->(∀p∈ps,0<p.2)/\∀(i:Nat) (p q:Pr),ps[i]?=some p->ps[i+1]?=some q->p.1+p.2≠q.1)
 | []=>⟨Qk _,fun _=>⟨fun p hp=>(by cases hp),fun i p q e=>(by simp at e)⟩⟩
 | p::r=>by
  rw[clN,Qp];split
  ·next hp=>obtain⟨i1,i2⟩:=We p r;refine⟨i1,fun h=>?_⟩;obtain⟨a1,a2⟩:=i2 h;exact⟨fun q hq=>(Qg.mp hq).elim (fun z=>z▸hp) (a1 q),a2⟩
  ·have ih:=(Vi r).1;exact⟨by omega,fun h=>by omega⟩
noncomputable def thF(ps:List Pr):List Pr:=clN (byF (-1) ps)
noncomputable def thN:Nat->List Pr->List Pr
 | 0,ps=>ps
 | n+1,ps=>thN n (thF ps)
theorem JaX(a b:Nat):∀ps:List Pr,thN (a+b) ps=thN b (thN a ps):=by
 induction a with
 | zero=>intro ps;rw[LC];rfl
 | succ a ih=>intro ps;rw[Nat.succ_add];exact ih (thF ps)
theorem Jej:∀n,thN n []=[]
 | 0=>rfl
 | n+1=>Jej n
theorem Yj{ps:List Pr}(g:Good ps):Good (thF ps):=WD _ (by
 have w:Wide 1 ps:=⟨fun i p e=>g.one i p e,fun i p q e1 e2=>by have:=g.gap i p q e1 e2;omega⟩
 exact w.bys (k:=-1))
theorem Ug:∀(n:Nat) {ps:List Pr},Good ps->Good (thN n ps)
 | 0,_,g=>g
 | n+1,_,g=>Ug n (Yj g)
theorem Zg:∀(n:Nat) {c:Int} {ps:List Pr},Wide c ps->1<=c->((n:Int)<=c)->thN n ps=clN (byF (-(n:Int)) ps)
 | 0,c,ps,w,h1,_=>by show ps=clN (byF (-((0:Nat):Int)) ps);rw[show -((0:Nat):Int)=0 by simp,Vg,Jag (w.good h1)]
 | n+1,c,ps,w,h1,hn=>by
  show thN n (thF ps)=_
  by_cases h:n=0
  ·subst h;rfl
  ·have w1:Wide (c+-1) (byF (-1) ps):=w.bys
   have e:thF ps=byF (-1) ps:=Jag (w1.good (by omega));rw[e,Zg n w1 (by omega) (by omega),Jdh];congr 2;omega
theorem Zh{n:Nat}{c:Int}{ps:List Pr}(w:Wide c ps)(h1:1<=c)(h:(n:Int)<c):thN n ps=byF (-(n:Int)) ps:=by rw[Zg n w h1 (by omega),Jag ((w.bys (k:=-(n:Int))).good (by omega))]
noncomputable def Jfz(c:Int)(ps:List Pr):Prop:=(∃p∈ps,p.2=c)\/∃(i:Nat) (p q:Pr),ps[i]?=some p/\ps[i+1]?=some q/\q.1-(p.1+p.2)=c
theorem Zi{c:Int}{ps:List Pr}(t:Jfz c ps):(clN (byF (-c) ps)).length<ps.length:=by
 obtain⟨h1,h2⟩:=Vi (byF (-c) ps);rw[U1] at h1 h2;rcases K8 (clN (byF (-c) ps)).length ps.length with h|h
 ·exact h
 ·obtain⟨a1,a2⟩:=h2 (by omega)
  exfalso
  rcases t with ⟨p,hp,e⟩|⟨i,p,q,e1,e2,e⟩
  ·obtain⟨i,hi,rfl⟩:=QV.mp hp
   have hx:(byF (-c) ps)[i]?=some (ps[i].1+2*-c*(i:Int),ps[i].2+-c):=by unfold byF;rw[Qr,Kb hi];rfl
   have:=a1 _ (Q6 hx);dsimp only at this;omega
  ·have hx:(byF (-c) ps)[i]?=some (p.1+2*-c*(i:Int),p.2+-c):=by unfold byF;rw[Qr,e1];rfl
   have hy:(byF (-c) ps)[i+1]?=some (q.1+2*-c*((i+1:Nat):Int),q.2+-c):=by unfold byF;rw[Qr,e2];rfl
   have:=a2 i _ _ hx hy
   have em:2*-c*((i+1:Nat):Int)=2*-c*(i:Int)+2*-c:=by rw[GZ,Lm];simp
   dsimp only at this;rw[em] at this;omega
noncomputable def zs(n:Nat):List Int:=QA n 0
noncomputable def os(n:Nat):List Int:=QA n 1
noncomputable def blk:Int->List Pr->List Int
 | _,[]=>[]
 | pos,p::r=>zs (p.1-pos).toNat++(os p.2.toNat++blk (p.1+p.2) r)
noncomputable def byR:Int->List Pr->List Pr
 | _,[]=>[]
 | c,p::r=>(p.1-c,p.2-1)::byR (c+2) r
theorem Jdg:∀(ps:List Pr) (c:Int),byR c ps=ps.mapIdx fun i p=>(p.1+2*(-1)*(i:Int)-c,p.2+-1)
 | [],c=>rfl
 | p::r,c=>by
  rw[byR,Md,Jdg r (c+2)];congr 1
  ·congr 1;simp
  ·refine Q7 fun i=>?_
   rw[Qr,Qr]
   cases r[i]? with
   | none=>rfl
   | some q=>simp only[Lx,GZ];congr 2;omega
theorem Vf(ps:List Pr):byR 0 ps=byF (-1) ps:=by
 rw[Jdg];unfold byF;congr 1
 funext i p
 congr 1;omega
theorem YO{ps:List Pr}(g:Good ps):Wide 1 ps:=⟨fun i p e=>g.one i p e,fun i p q e1 e2=>by have:=g.gap i p q e1 e2;omega⟩
theorem WC:∀(r:List Pr) (cur:Pr),∃q,(clF cur r)[0]?=some q/\q.1=cur.1
 | [],cur=>⟨cur,rfl,rfl⟩
 | p::r,cur=>by
  rw[clF];split
  ·obtain⟨q,h1,h2⟩:=WC r (cur.1,cur.2+p.2);exact⟨q,h1,h2⟩
  ·split
   ·exact⟨cur,rfl,rfl⟩
   ·exact WC r cur
theorem V2:∀(n:Nat) (ps:List Pr),thN (n+1) ps=thF (thN n ps)
 | 0,ps=>rfl
 | n+1,ps=>by show thN (n+1) (thF ps)=thF (thN n (thF ps));exact V2 n (thF ps)
noncomputable def tkS(x prev pos:Int)(acc:List Pr):List Pr :=
 if x=1/\prev=1 then acc.dropLast++[((acc.getLastD (0,0)).1,(acc.getLastD (0,0)).2+1)] else if x=1 then acc++[(pos,1)] else acc
noncomputable def tk:Int->Int->List Pr->List Int->List Pr
 | _,_,acc,[]=>acc
 | prev,pos,acc,x::r=>tk x (pos+1) (tkS x prev pos acc) r
noncomputable def below(ps:List Pr)(x:Int):Int:=(ps.map fun p=>max 0 (min p.2 (x-p.1))).sum
theorem JQ(p:Pr)(ps:List Pr)(x:Int):below (p::ps) x=max 0 (min p.2 (x-p.1))+below ps x:=by unfold below;rw[Qe,Qu]
theorem Jci{ps:List Pr}{x:Int}(h:∀p∈ps,x<=p.1):below ps x=0:=by
 induction ps with
 | nil=>rfl
 | cons p ps ih=>have h1:=h p Qd;rw[JQ,ih fun q hq=>h q (Qc _ hq)];omega
noncomputable def Yp(ps:List Pr)(y:Int):Bool:=ps.any fun p=>decide (p.1<=y) && decide (y<p.1+p.2)
theorem has_iff{ps:List Pr}{y:Int}:Yp ps y=true↔∃p∈ps,p.1<=y/\y<p.1+p.2:=by unfold Yp;rw[Kg];simp
theorem Jiy{ps:List Pr}{y:Int}(h:∀p∈ps,p.1<=y->p.1+p.2<=y):Yp ps y=false:=by
 cases e:Yp ps y with
 | false=>rfl
 | true=>obtain⟨p,hp,h1,h2⟩:=has_iff.mp e;have:=h p hp h1;omega
theorem Yb(p:Pr)(ps:List Pr)(x:Int):Yp (p::ps) x=((decide (p.1<=x) && decide (x<p.1+p.2)) || Yp ps x):=by unfold Yp;rw[G8]
theorem VP{p:Pr}{ps:List Pr}{x:Int}(h1:p.1<=x)(h2:x<p.1+p.2):Yp (p::ps) x=true:=has_iff.mpr ⟨p,Qd,h1,h2⟩
theorem Jau{p:Pr}{ps:List Pr}{x:Int}(h:p.1+p.2<=x):Yp (p::ps) x=Yp ps x:=by rw[Yb];have:decide (x<p.1+p.2)=false:=decide_eq_false (by omega);rw[this,Bool.and_false,Kw]
theorem U6{ps:List Pr}{x:Int}(h:∀p∈ps,x<p.1):Yp ps x=false:=Jiy fun p hp hx=>by have:=h p hp;omega
theorem JdF:∀{ps qs:List Pr},Good ps->Good qs->(∀x,Yp ps x=Yp qs x)->ps=qs
 | [],[],_,_,_=>rfl
 | [],q::qs,_,g,h=>by have:=h q.1;rw[VP (Qv _) (by have:=g.one 0 q rfl;omega)] at this;cases this
 | p::ps,[],g,_,h=>by have:=h p.1;rw[VP (Qv _) (by have:=g.one 0 p rfl;omega)] at this;cases this
 | p::ps,q::qs,g,g',h=>by
  have hp:=g.one 0 p rfl
  have hq:=g'.one 0 q rfl
  have le:∀{p:Pr} {ps:List Pr} {x:Int},Good (p::ps)->Yp (p::ps) x=true->p.1<=x:=fun {p ps x} g e=>by
   obtain⟨r,hr,h1,h2⟩:=has_iff.mp e;rcases Qg.mp hr with z|z
   ·rw[<- z];exact h1
   ·have:=Good.first g r z
    have:=g.one 0 p rfl;omega
  have e1:p.1=q.1:=by
   have a:=le g' (x:=p.1) (by rw[<- h];exact VP (Qv _) (by omega))
   have b:=le g (x:=q.1) (by rw[h];exact VP (Qv _) (by omega));omega
  have off:∀{p:Pr} {ps:List Pr},Good (p::ps)->Yp (p::ps) (p.1+p.2)=false:=fun {p ps} g=>by rw[Jau (Qv _)];exact U6 fun z hz=>Good.first g z hz
  have e2:p.2=q.2:=by
   have a:=h (p.1+p.2);rw[off g] at a
   have b:=h (q.1+q.2);rw[off g'] at b
   by_cases c:p.2<q.2
   ·rw[VP (p:=q) (by omega) (by omega)] at a;cases a
   ·by_cases c':q.2<p.2
    ·rw[VP (p:=p) (by omega) (by omega)] at b;cases b
    ·omega
  have e:p=q:=KO e1 e2;subst e;rw[JdF (Good.cons' g) (Good.cons' g') fun x=>?_]
  by_cases c:p.1+p.2<=x
  ·have:=h x
   rwa [Jau c,Jau c] at this
  ·rw[U6 fun z hz=>by have:=Good.first g z hz;omega,U6 fun z hz=>by have:=Good.first g' z hz;omega]
theorem Jlp(a b:Int):a<b\/b<=a:=by omega
noncomputable def edF(ps:List Pr):Nat->Int->List Int->List Pr
 | _,_,[]=>[]
 | i,c,s::r=>(s+2*(i:Int)-(below ps s-c),below ps s-c+1)::edF ps (i+1) (below ps s) r
theorem Wd(x:Int):∀(r:List Pr) (cur:Pr),(∀p∈r,0<=p.2)->0<=cur.2->Yp (clF cur r) x=Yp (cur::r) x
 | [],cur,_,_=>rfl
 | p::r,cur,h,hc=>by
  have h0:=h p Qd
  have hr:=fun q hq=>h q (Qc p hq)
  rw[clF];split
  ·next e=>rw[Wd x r _ hr (by dsimp only;omega),Yb,Yb,Yb,<- Li];congr 1;rw[Gy];simp only[KU,QK,decide_eq_true_eq];constructor <;> intro z <;> omega
  ·split
   ·rw[Yb,Wd x r p hr h0,<- Yb]
   ·rw[Wd x r cur hr hc,Yb,Yb cur,Yb p];rw[show(decide (p.1<=x) && decide (x<p.1+p.2))=false by
     rw[My];rcases Jlp x p.1 with z|z
     ·exact .inl (decide_eq_false (by omega))
     ·exact .inr (decide_eq_false (by omega)),Kw]
theorem Jdi(x:Int):∀(ps:List Pr),(∀p∈ps,0<=p.2)->Yp (clN ps) x=Yp ps x
 | [],_=>rfl
 | p::r,h=>by
  have h0:=h p Qd
  have hr:=fun q hq=>h q (Qc p hq)
  rw[clN];split
  ·exact Wd x r p hr h0
  ·rw[Jdi x r hr,Yb p];rw[show(decide (p.1<=x) && decide (x<p.1+p.2))=false by
    rw[My];rcases Jlp x p.1 with z|z
    ·exact .inl (decide_eq_false (by omega))
    ·exact .inr (decide_eq_false (by omega)),Kw]
noncomputable def Ym:List Pr->Int->List Pr
 | [],s=>[(s,1)]
 | p::r,s=>if p.1=s then(p.1,p.2+1)::r else p::Ym r s
theorem Up(s:Int):∀a:List Pr,(Ym a s).map (·.1)=JG (a.map (·.1)) s
 | []=>rfl
 | p::r=>by
  have ih:=Up s r;unfold JG Jat at ih ⊢;rw[Ym,Qe,G8]
  by_cases h:p.1=s
  ·rw[if_pos h,decide_eq_true h,Bool.true_or,if_pos rfl];rfl
  ·rw[if_neg h,decide_eq_false h,Kw,Qe,ih];split <;> rfl
theorem JbX:∀(ks:List Int) (vs:List Int) (s v:Int),s∉ks->setK ks vs s v=vs
 | [],_,_,_,_=>rfl
 | _::_,[],_,_,_=>rfl
 | k::ks,x::vs,s,v,h=>by rw[setK,if_neg fun e=>h (by rw[e];exact Qd),JbX ks vs s v fun m=>h (Qc _ m)]
theorem hasK_mem{ks:List Int}{s:Int}:Jat ks s=true↔s∈ks:=by
 unfold Jat;rw[Kg];constructor
 ·rintro⟨k,hk,e⟩;rw[decide_eq_true_eq] at e;subst e;exact hk
 ·intro h;exact⟨s,h,decide_eq_true rfl⟩
theorem ZO(s:Int):∀a:List Pr,(a.map (·.1)).Nodup->(Ym a s).map (·.2)=putDs (a.map (·.1)) (a.map (·.2)) s ((look (a.map (·.1)) (a.map (·.2)) s).getD 0+1)
 | [],_=>rfl
 | p::r,hn=>by
  rw[Qe,Q2] at hn;have ih:=ZO s r hn.2;rw[Ym,Qe,Qe]
  by_cases h:p.1=s
  ·rw[if_pos h];unfold putDs;rw[if_pos (hasK_mem.mpr (by rw[h];exact Qd)),look,if_pos h,setK,if_pos h,JbX _ _ _ _ (by rw[<- h];exact hn.1)];rfl
  ·rw[if_neg h,Qe,ih,look,if_neg h];unfold putDs
   have e:Jat (p.1::r.map (·.1)) s=Jat (r.map (·.1)) s:=by unfold Jat;rw[G8,decide_eq_false h,Kw]
   rw[e];split
   ·rw[setK,if_neg h]
   ·rfl
theorem V9{ks:List Int}(s:Int)(h:ks.Nodup):(JG ks s).Nodup:=by
 unfold JG;split
 ·exact h
 ·next c =>
  rw[LY];refine⟨h,by simp,fun a ha b hb=>?_⟩;have:b=s:=by simpa using hb
  subst this;intro e;subst e;exact c (hasK_mem.mpr ha)
noncomputable def lk(k:Int):List Pr->Int
 | []=>0
 | p::r=>if p.1=k then p.2 else lk k r
theorem JdM(k s:Int):∀a:List Pr,lk k (Ym a s)=lk k a+(if s=k then 1 else 0)
 | []=>by simp[Ym,lk]
 | p::r=>by
  rw[Ym]
  by_cases h:p.1=s
  ·rw[if_pos h,lk,lk];dsimp only
   by_cases c:p.1=k
   ·rw[if_pos c,if_pos c,if_pos (by omega)]
   ·rw[if_neg c,if_neg c,if_neg (by omega),LD]
  ·rw[if_neg h,lk,lk,JdM k s r]
   by_cases c:p.1=k
   ·rw[if_pos c,if_pos c,if_neg (by omega),LD]
   ·rw[if_neg c,if_neg c]
theorem JcE{a:List Pr}(hn:(a.map (·.1)).Nodup){p:Pr}(hp:p∈a):lk p.1 a=p.2:=by
 induction a with
 | nil=>cases hp
 | cons q r ih =>
  rw[Qe,Q2] at hn;rw[lk];rcases Qg.mp hp with z|z
  ·subst z;rw[if_pos rfl]
  ·rw[if_neg fun e=>hn.1 (by rw[e];exact Qw.mpr ⟨p,z,rfl⟩)];exact ih hn.2 z
noncomputable def YZ(L:List Int):List Pr:=L.foldl Ym []
theorem Jdl:∀(L:List Int) (a:List Pr),(a.map (·.1)).Nodup->((L.foldl Ym a).map (·.1)).Nodup/\(∀k,lk k (L.foldl Ym a)=lk k a+(L.count k:Int))/\∀k,k∈(L.foldl Ym a).map (·.1)↔k∈a.map (·.1)\/k∈L
 | [],a,h=>⟨h,fun k=>by simp,fun k=>by simp⟩
 | s::L,a,h=>by
  have hk:=Up s a
  have hn:((Ym a s).map (·.1)).Nodup:=by rw[hk];exact V9 s h
  obtain⟨i1,i2,i3⟩:=Jdl L (Ym a s) hn;refine⟨i1,fun k=>?_,fun k=>?_⟩
  ·rw[QD,i2 k,JdM,QY]
   by_cases c:s=k
   ·rw[if_pos c,if_pos (by simpa using c)];omega
   ·rw[if_neg c,if_neg (by simpa using c)];omega
  ·rw[QD,i3 k,hk];unfold JG;split
   ·next c =>
    have c':=hasK_mem.mp c;constructor
    ·rintro(z|z)
     ·exact .inl z
     ·exact .inr (Qc _ z)
    ·rintro(z|z)
     ·exact .inl z
     ·rcases Qg.mp z with w|w
      ·subst w;exact .inl c'
      ·exact .inr w
   ·rw[Gb,Gs,Qg,or_assoc]
theorem JfT(L:List Int):((YZ L).map (·.1)).Nodup/\(∀p∈YZ L,p.2=(L.count p.1:Int)/\p.1∈L)/\∀k∈L,(k,(L.count k:Int))∈YZ L:=by
 obtain⟨i1,i2,i3⟩:=Jdl L [] (by simp)
 have v:∀p∈YZ L,p.2=(L.count p.1:Int):=fun p hp=>by rw[<- JcE i1 hp];have:=i2 p.1;rw[show lk p.1 []=0 from rfl,KH] at this;exact this
 refine⟨i1,fun p hp=>⟨v p hp,?_⟩,fun k hk=>?_⟩
 ·have:=(i3 p.1).mp (Qw.mpr ⟨p,hp,rfl⟩)
  simpa using this
 ·obtain⟨p,hp,e⟩:=Qw.mp ((i3 k).mpr (.inr hk));subst e;rw[<- v p hp];exact hp
theorem Jdm:∀(L:List Int) (a:List Pr),(a.map (·.1)++L).Nodup->L.foldl Ym a=a++L.map fun s=>(s,1)
 | [],a,_=>by simp
 | s::L,a,h=>by
  have e:Ym a s=a++[(s,1)]:=by
   have hs:s∉a.map (·.1):=fun m=>by have:=(LY.mp h).2.2 s m s Qd;exact this rfl
   clear h
   induction a with
   | nil=>rfl
   | cons p r ih=>rw[Ym,if_neg fun z=>hs (by rw[<- z];exact Qd),ih fun m=>hs (Qc _ m)];rfl
  rw[QD,e,Jdm L (a++[(s,1)]) (by simpa using h)];simp
theorem Jbv(ps:List Pr)(x:Int)(h:ps.length<=1000):Yy [.sh (.row (ps.map prE)),.sh (.int x)]=some (.sh (.bl (Yp ps x))):=by
 unfold Yy;walk_at "ev";rw[J2 (g:=fun p=>D.bl (decide (p.1<=x) && decide (x<p.1+p.2)))]
 ·walk_at "ev";rw[Jil (ns:=ps.map fun p=>decide (p.1<=x) && decide (x<p.1+p.2)) (by simp[Sl.q])];walk_at "ev";unfold Yp;rw[List.any_map];rfl
 ·intro p hp;simp only[prE];walk_at "ev"
  by_cases c:p.1<=x
  ·simp only[c];walk_at "ev"
  ·simp only[c];walk_at "ev";rfl
theorem Jaw{α β:Type}(f:Nat->α->β)(xs:List α):xs.mapIdx f=xs.zipIdx.map fun x=>f x.2 x.1:=by
 refine Q7 fun i=>?_
 rw[Qr,Qn,KE,GU];simp;rfl
theorem JoV(ps:List Pr)(k:Int)(h:ps.length<=1000):Ye [.sh (.row (ps.map prE)),.sh (.int k)]=some (.own ((byF k ps).map prE)):=by
 unfold Ye;walk_at "ev";rw[Jbf,Jaw,J2 (g:=fun x:Pr×Nat=>prE (x.1.1+2*k*(x.2:Int),x.1.2+k))]
 ·rw[if_pos (by rw[Qq,List.length_zipIdx];omega (config:={}))];walk_at "ev";rw[show ps.zipIdx.map (fun x=>prE (x.1.1+2*k*(x.2:Int),x.1.2+k))=(byF k ps).map prE by unfold byF;rw[Jaw,Qt];rfl]
 ·intro x hx
  have hx2:x.2<ps.length:=by have:=List.snd_lt_of_mem_zipIdx hx;omega (config:={})
  walk_at "ev";rw[U3,VN];walk_at "ev";rfl
theorem JkC{ps:List Pr}(g:Good ps)(hne:ps≠[]):∃c,(ps.map (·.2)++Ya ps).min?=some c/\1<=c/\Wide c ps/\Jfz c ps:=by
 cases hm:(ps.map (·.2)++Ya ps).min? with
 | none =>
  rw[List.min?_eq_none_iff] at hm
  cases ps with
  | nil=>exact absurd rfl hne
  | cons p r=>simp at hm
 | some c =>
  obtain⟨h1,h2⟩:=Mx.mp hm
  have gg:∀(ps:List Pr) (x:Int),x∈Ya ps->∃(i:Nat) (p q:Pr),ps[i]?=some p/\ps[i+1]?=some q/\q.1-(p.1+p.2)=x:=by
   intro ps
   induction ps with
   | nil=>intro x hx;cases hx
   | cons p r ih =>
    intro x hx
    cases r with
    | nil=>cases hx
    | cons q r =>
     rcases Qg.mp hx with z|z
     ·exact⟨0,p,q,rfl,rfl,z.symm⟩
     ·obtain⟨i,a,b,e1,e2,e3⟩:=ih x z;exact⟨i+1,a,b,by simpa using e1,by simpa using e2,e3⟩
  have gm:∀(ps:List Pr) (i:Nat) (p q:Pr),ps[i]?=some p->ps[i+1]?=some q->q.1-(p.1+p.2)∈Ya ps:=by
   intro ps
   induction ps with
   | nil=>intro i p q e;simp at e
   | cons a r ih =>
    intro i p q e1 e2
    cases r with
    | nil=>simp at e2
    | cons b r =>
     cases i with
     | zero=>simp at e1 e2;subst e1 e2;exact Qd
     | succ i=>exact Qc _ (ih i p q (by simpa using e1) (by simpa using e2))
  have w:Wide c ps:=⟨fun i p e=>h2 _ (Lj _ (Qw.mpr ⟨p,Q6 e,rfl⟩)),fun i p q e1 e2=>h2 _ (Q8 _ (gm ps i p q e1 e2))⟩
  have t:Jfz c ps:=by
   rcases Gb.mp h1 with z|z
   ·obtain⟨p,hp,e⟩:=Qw.mp z;exact .inl ⟨p,hp,e⟩
   ·exact .inr (gg ps c z)
  refine⟨c,rfl,?_,w,t⟩;rcases t with ⟨p,hp,e⟩|⟨i,p,q,e1,e2,e⟩
  ·have:=Good.all g p hp;omega
  ·have:=g.gap i p q e1 e2;omega
theorem Jbw(ps:List Pr)(h:ps.length<=1000):JM [.sh (.row (ps.map prE))]=some (match (ps.map (·.2)++Ya ps).min? with|some c=>.sh (.int c)|none=>.sh .non):=by
 have hgl:=VO ps;unfold JM;walk_at "ev";rw[J2 (g:=fun p=>D.int p.2)]
 ·walk_at "ev";rw[Jlq _ h];walk_at "ev";rw[show ps.map (fun p=>D.int p.2)++(Ya ps).map .int=(ps.map (·.2)++Ya ps).map D.int by rw[QN,Qt];rfl];walk_at "ev";cases (ps.map (·.2)++Ya ps).min? <;> rfl
 ·intro p hp;simp only[prE];walk_at "ev"
noncomputable def Ux(acc:List Pr)(p:Pr):List Pr:=match acc[acc.length-1]? with
 | some q=>if q.1+q.2=p.1 then acc.dropLast++[(q.1,q.2+p.2)] else if 0<p.2 then acc++[p] else acc
 | none=>if 0<p.2 then acc++[p] else acc
theorem Vj:∀(r acc:List Pr) (cur:Pr),r.foldl Ux (acc++[cur])=acc++clF cur r
 | [],acc,cur=>rfl
 | p::r,acc,cur=>by
  have e:(acc++[cur])[(acc++[cur]).length-1]?=some cur:=by simp
  have es:Ux (acc++[cur]) p=if cur.1+cur.2=p.1 then acc++[(cur.1,cur.2+p.2)] else if 0<p.2 then acc++[cur]++[p] else acc++[cur]:=by unfold Ux;rw[e];dsimp only;rw[List.dropLast_concat]
  rw[QD,clF,es];split
  ·exact Vj r acc _
  ·split
   ·rw[Vj r (acc++[cur]) p,Gf];rfl
   ·exact Vj r acc cur
theorem ZH:∀ps:List Pr,ps.foldl Ux []=clN ps
 | []=>rfl
 | p::r=>by
  rw[QD,clN];show r.foldl Ux (if 0<p.2 then []++[p] else [])=_;split
  ·exact Vj r [] p
  ·exact ZH r
theorem JgL(ps:List Pr)(h:ps.length<=1000):Yf [.sh (.lst (ps.map prE))]=some (.own ((clN ps).map prE)):=by
 unfold Yf;walk_at "ev";rw[Gm];refine Ud (fun(rest:List Pr) (acc:List Pr) E=>∃j2 j3 j4,E=[.sh (.lst (ps.map prE)),.own (acc.map prE),j2,j3,j4]/\acc.length+rest.length<=1000) Ux [] ⟨.no,.no,.no,rfl,by simpa using h⟩ ?_ ?_
 ·rintro p rest acc E ⟨j2,j3,j4,rfl,hz⟩;rw[Qp] at hz;simp only[prE];walk_at "ev"
  cases he:acc[acc.length-1]? with
  | none =>
   have hn:acc=[]:=by
    cases acc with
    | nil=>rfl
    | cons a acc=>simp at he
   subst hn;rw[show(!(([]:List Pr).map prE).isEmpty)=false from rfl];walk_at "ev";have es:Ux [] p=if 0<p.2 then [p] else []:=rfl
   rw[es]
   by_cases c:0<p.2
   ·rw[decide_eq_true c,if_pos c];walk_at "ev";exact⟨.sh (.int p.1),.sh (.int p.2),j4,rfl,by simp at hz ⊢;omega⟩
   ·rw[decide_eq_false c,if_neg c];walk_at "ev";exact⟨.sh (.int p.1),.sh (.int p.2),j4,rfl,by simp at hz ⊢;omega⟩
  | some q =>
   have hl0:acc.length-1<acc.length:=(Qh.mp he).1
   have hne:(!(acc.map prE).isEmpty)=true:=by cases acc with|nil=>simp at he|cons _ _=>rfl
   have hgq:(acc.map prE)[acc.length-1]?=some (prE q):=by rw[Qn,he];rfl
   have es:Ux acc p=if q.1+q.2=p.1 then acc.dropLast++[(q.1,q.2+p.2)] else if 0<p.2 then acc++[p] else acc:=by unfold Ux;rw[he]
   have hdl:acc.dropLast.length=acc.length-1:=ME;rw[hne,Jdc,JfH he,es];walk_at "ev";rw[UP (s:=.sh (prE q)) (ns:=[q.1,q.2]) rfl];walk_at "ev";rw[show([q.1,q.2]:List Int).sum=q.1+q.2 by simp]
   by_cases c:q.1+q.2=p.1
   ·rw[decide_eq_true c,if_pos c,hgq];walk_at "ev";rw[<- List.map_dropLast];walk_at "ev";rw[U3,VN];walk_at "ev";refine⟨.sh (.int p.1),.sh (.int p.2),.sh (prE q),?_,by rw[QC,Gn];omega⟩;rw[QN];rfl
   ·rw[decide_eq_false c,if_neg c];walk_at "ev"
    by_cases c2:0<p.2
    ·rw[decide_eq_true c2,if_pos c2];walk_at "ev";refine⟨.sh (.int p.1),.sh (.int p.2),j4,?_,by rw[QC,Gn];omega⟩;rw[QN];rfl
    ·rw[decide_eq_false c2,if_neg c2];walk_at "ev";exact⟨.sh (.int p.1),.sh (.int p.2),j4,rfl,by omega⟩
 ·rintro E' ⟨j2,j3,j4,rfl,_⟩;rw[ZH];walk_at "ev"
noncomputable abbrev wC:En->Option Bool:=(tAnd? (tB? (e2 fGt (Jb 3) (eC (.int 0)))) (tTru? (e1 Vl (Jb 2))))
noncomputable abbrev wB:Es:=(Jo (Jm 4 (eF Jbk (aC (Jb 3) (aC (eU 1 JM (aC (Jb 2) a0)) a0)))) (Jo (Jm 2 (eF Zr (aC (eU 1 Yf (aC (eU 2 Ye (aC (Jb 2) (aC (e1 Jct (Jb 4)) a0))) a0)) a0))) (Jc8 (fun i j=>i-j) 3 (Jb 4))))
theorem Vb(x y:Sl)(left:List Pr)(n:Nat)(j4:Sl)(fuel:Nat)(h:n=0\/left=[]) :
 ((Yv wC wB (fuel+1) [x,y,.sh (.row (left.map prE)),.sh (.int (n:Int)),j4]).bind (JaT (Ui 2))).bind Jcp=some (.sh (.row ((thN n left).map prE))):=by
 have e:thN n left=left:=by
  rcases h with rfl|rfl
  ·rfl
  ·exact Jej n
 rw[e,Yv]
 have hc:wC [x,y,.sh (.row (left.map prE)),.sh (.int (n:Int)),j4]=some false:=by
  show tAnd? _ _ _=_;walk_at "ev";rcases h with rfl | rfl
  ·rw[show decide ((0:Int)<((0:Nat):Int))=false from rfl];walk_at "ev"
  ·by_cases c:(0:Int)<(n:Int)
   ·rw[decide_eq_true c];walk_at "ev";rfl
   ·rw[decide_eq_false c];walk_at "ev"
 rw[hc];walk_at "ev"
theorem JhH(x y:Sl):∀(m fuel:Nat) (left:List Pr) (n:Nat) (j4:Sl),Good left->left.length<=m->left.length<=30->m<fuel ->
 ((Yv wC wB fuel [x,y,.sh (.row (left.map prE)),.sh (.int (n:Int)),j4]).bind (JaT (Ui 2))).bind Jcp=some (.sh (.row ((thN n left).map prE))):=by
 intro m
 induction m with
 | zero =>
  intro fuel left n j4 g hm _ hf;obtain⟨f,rfl⟩:∃f,fuel=f+1:=⟨fuel-1,by omega⟩
  exact Vb x y left n j4 f (.inr (QF (by omega)))
 | succ m ih =>
  intro fuel left n j4 g hm h30 hf;obtain⟨f,rfl⟩:∃f,fuel=f+1:=⟨fuel-1,by omega⟩
  by_cases h0:n=0\/left=[]
  ·exact Vb x y left n j4 f h0
  ·have hn:n≠0:=fun z=>h0 (.inl z)
   have hl:left≠[]:=fun z=>h0 (.inr z)
   obtain⟨c,hc,c1,w,t⟩:=JkC g hl;obtain⟨a,ha⟩:∃a:Nat,(a:Int)=min (n:Int) c:=⟨(min (n:Int) c).toNat,by omega⟩
   have hcl:=Jbw left (by omega);rw[hc] at hcl
   have et:thN a left=clN (byF (-(a:Int)) left):=Zg a w c1 (by omega)
   have gt:Good (thN a left):=Ug a g
   have lt:=(Vi (byF (-(a:Int)) left)).1;rw[U1,<- et] at lt
   have hcond:wC [x,y,.sh (.row (left.map prE)),.sh (.int (n:Int)),j4]=some true:=by
    show tAnd? _ _ _=_;walk_at "ev";rw[decide_eq_true (show(0:Int)<(n:Int) by omega)];walk_at "ev"
    cases left with
    | nil=>exact absurd rfl hl
    | cons _ _=>rfl
   have hbody:wB [x,y,.sh (.row (left.map prE)),.sh (.int (n:Int)),j4]=some (.nx [x,y,.sh (.row ((thN a left).map prE)),.sh (.int ((n-a:Nat):Int)),.sh (.int (a:Int))]):=by show Jo _ _ _=_;walk_at "ev";rw[hcl];walk_at "ev";rw[<- ha,JoV _ _ (by omega)];walk_at "ev";rw[JgL _ (by rw[U1];omega),<- et];walk_at "ev";rw[Wh rfl gt (by omega)];walk_at "ev";rw[show(n:Int)-(a:Int)=((n-a:Nat):Int) by omega]
   have fin:thN n left=thN (n-a) (thN a left):=by rw[<- JaX];congr 1;omega
   rw[Yv,hcond,QB,if_pos rfl,hbody,QB,fin];dsimp only
   by_cases hac:(a:Int)=c
   ·have fw:=Zi t;rw[<- hac,<- et] at fw;exact ih f _ _ _ gt (by omega) (by omega) (by omega)
   ·obtain⟨f',rfl⟩:∃f',f=f'+1:=⟨f-1,by omega⟩
    exact Vb x y _ _ _ f' (.inl (by omega))
theorem VU(ps:List Pr)(n:Nat)(g:Good ps)(h30:ps.length<=30):JV [.sh (.row (ps.map prE)),.sh (.int (n:Int))]=some (.sh (.row ((thN n ps).map prE))):=by unfold JV;rw[show ∀(k:Nat) (s:Es) (ss:List Sl),YI k s ss=YI k s ss from fun _ _ _=>rfl];have hw:=JhH (.sh (.row (ps.map prE))) (.sh (.int (n:Int))) 30 1000000 ps n .no g h30 h30 (by decide);walk_at "ev";rw[Wh rfl g h30];walk_at "ev";exact hw
noncomputable abbrev Tr:=Int×Int×Int
noncomputable def trE(t:Tr):D:=.tup [.int t.1,.int t.2.1,.int t.2.2]
noncomputable def owF(left:List Pr)(s:Int):Int:=if Yp left (s-1)=true/\Yp left s=false then 1 else 0
theorem Jlr(ps:List Pr)(s:Int)(h:ps.length<=1000):YM [.sh (.row (ps.map prE)),.sh (.int s)]=some (.sh (.int (owF ps s))):=by
 unfold YM owF;walk_at "ev";rw[Jbv _ _ h];walk_at "ev"
 cases h1:Yp ps (s-1) with
 | false=>walk_at "ev";rw[if_neg (by simp)]
 | true =>
  walk_at "ev";rw[Jbv _ _ h];walk_at "ev"
  cases h2:Yp ps s with
  | false=>walk_at "ev";rw[if_pos (by simp)]
  | true=>walk_at "ev";rw[if_neg (by simp)]
theorem Jbu{α β:Type}(f:α->β):∀(ks:List Int) (vs:List α) (n:Int),look ks (vs.map f) n=(look ks vs n).map f
 | [],_,_=>rfl
 | _::_,[],_=>rfl
 | k::ks,v::vs,n=>by
  rw[Qe];simp only[look];split
  ·rfl
  ·exact Jbu f ks vs n
theorem JbW{α β:Type}(f:α->β):∀(ks:List Int) (vs:List α) (n:Int) (v:α),setK ks (vs.map f) n (f v)=(setK ks vs n v).map f
 | [],_,_,_=>rfl
 | _::_,[],_,_=>rfl
 | k::ks,x::vs,n,v=>by rw[Qe];simp only[setK,Qe];rw[JbW f ks vs n v];split <;> rfl
theorem Jfd{α β:Type}(f:α->β)(ks:List Int)(vs:List α)(n:Int)(v:α):putDs ks (vs.map f) n (f v)=(putDs ks vs n v).map f:=by
 unfold putDs;split
 ·exact JbW f ks vs n v
 ·rw[QN];rfl
theorem JgJ(ks:List Int)(vs:List Int)(n z:Int):(look ks (vs.map D.int) n).getD (.int z)=.int ((look ks vs n).getD z):=by rw[Jbu];cases look ks vs n <;> rfl
theorem Jbp(a:List Pr)(s:Int):(Ym a s).length<=a.length+1:=by
 induction a with
 | nil=>simp[Ym]
 | cons p r ih =>
  rw[Ym];split
  ·simp
  ·simp only[Qp];omega
theorem Jk6(a:List Pr):JaA (a.map (·.1)) ((a.map (·.2)).map D.int)=a.map prE:=by
 unfold JaA
 induction a with
 | nil=>rfl
 | cons p r ih=>simp only[Qe,List.zipWith_cons_cons,ih];rfl
noncomputable def spF(qs:List Pr):List Int:=qs.zipIdx.map fun x=>x.1.1+x.1.2-1-2*(x.2:Int)
noncomputable def JK(qs:List Pr):List Tr:=(YZ (spF qs)).map fun p=>(p.1,p.2,owF (thF qs) p.1)
theorem Jah(L:List Int):∀a:List Pr,(L.foldl Ym a).length<=a.length+L.length:=by
 induction L with
 | nil=>intro a;simp
 | cons s L ih=>intro a;have h1:=ih (Ym a s);have h2:=Jbp a s;rw[QD,Qp];omega
theorem JgM(qs:List Pr)(g:Good qs)(h30:qs.length<=30):YN [.sh (.row (qs.map prE))]=some (.own ((JK qs).map trE)):=by
 have h1:=VU qs 1 g h30;rw[show((1:Nat):Int)=1 from rfl,show thN 1 qs=thF qs from rfl] at h1
 have hl:=(Vi (byF (-1) qs)).1;rw[U1,show clN (byF (-1) qs)=thF qs from rfl] at hl;unfold YN;walk_at "ev";rw[h1];walk_at "ev";rw[Jbf,Jaw,Gm];refine Ud (f:=fun x:Pr×Nat=>D.tup [.int (x.2:Int),prE x.1]) (fun(rest:List (Pr×Nat)) (a:List Pr) E=>∃j3 j4 j5,E=[.sh (.row (qs.map prE)),.sh (.row ((thF qs).map prE)),.od (a.map (·.1)) ((a.map (·.2)).map .int),j3,j4,j5]/\(a.map (·.1)).Nodup/\a.length+rest.length<=30)
  (fun a x=>Ym a (x.1.1+x.1.2-1-2*(x.2:Int))) [] ⟨.no,.no,.no,rfl,by simp,by simpa using h30⟩ ?_ ?_
 ·rintro x rest a E ⟨j3,j4,j5,rfl,hn,hz⟩;rw[Qp] at hz;have hil:=Jbp a (x.1.1+x.1.2-1-2*(x.2:Int));walk_at "ev";rw[UP (s:=.sh (prE x.1)) (ns:=[x.1.1,x.1.2]) rfl];walk_at "ev";rw[show([x.1.1,x.1.2]:List Int).sum=x.1.1+x.1.2 by simp];rw[JgJ];walk_at "ev";rw[Jfd,<- Up,<- ZO _ _ hn];refine⟨.sh (.int (x.2:Int)),.sh (prE x.1),_,rfl,?_,by omega⟩;rw[Up];exact V9 _ hn
 ·rintro E' ⟨j3,j4,j5,rfl,hn,_⟩
  have ef:qs.zipIdx.foldl (fun a x=>Ym a (x.1.1+x.1.2-1-2*(x.2:Int))) []=YZ (spF qs):=by unfold YZ spF;rw[List.foldl_map]
  have hcl:=Jah (spF qs) []
  have hsl:(spF qs).length=qs.length:=by unfold spF;simp
  rw[ef];walk_at "ev";rw[Jk6,J2 (g:=fun p=>trE (p.1,p.2,owF (thF qs) p.1))]
  ·rw[if_pos (by rw[Qq];show(YZ (spF qs)).length<=_;unfold YZ;simp at hcl;omega)];walk_at "ev";unfold JK;rw[Qt];rfl
  ·intro p hp;simp only[prE];walk_at "ev";rw[Jlr _ _ (by omega)];walk_at "ev";rfl
noncomputable def Jr(ps:List Pr):List Int:=ps.map fun p=>p.1+p.2
noncomputable def WZ(prs:List Pr):List Int:=prs.flatMap fun p=>QA p.2.toNat p.1
theorem JaM{qs:List Pr}(g:Good qs)(s:Int):owF qs s=if s∈Jr qs then 1 else 0:=by
 unfold owF
 by_cases c:s∈Jr qs
 ·rw[if_pos c];obtain⟨p,hp,rfl⟩:=Qw.mp c;have h1:=Good.all g p hp;rw[if_pos];refine⟨has_iff.mpr ⟨p,hp,by omega,by omega⟩,?_⟩
  cases h:Yp qs (p.1+p.2) with
  | false=>rfl
  | true =>
   obtain⟨q,hq,a1,a2⟩:=has_iff.mp h;have pw:=Good.pw g;obtain⟨i,hi,rfl⟩:=QV.mp hp;obtain⟨j,hj,rfl⟩:=QV.mp hq;rcases Nat.lt_trichotomy i j with z|z|z
   ·have:=GB.mp pw i j hi hj z;omega
   ·subst z;omega
   ·have:=GB.mp pw j i hj hi z;omega
 ·rw[if_neg c,if_neg];rintro⟨h1,h2⟩;obtain⟨p,hp,a1,a2⟩:=has_iff.mp h1;refine c (Qw.mpr ⟨p,hp,?_⟩);rcases Jlp s (p.1+p.2) with z|z
  ·rw[has_iff.mpr ⟨p,hp,by omega,z⟩] at h2;cases h2
  ·omega
theorem Jh3{ps:List Pr}(g:Good ps):(Jr ps).Pairwise (·<·):=by
 unfold Jr;rw[K9];refine(Good.pw g).imp_of_mem fun {a b} _ hb h=>?_
 have:=Good.all g b hb;omega
theorem Jal{ps:List Pr}(g:Good ps):(Jr ps).Nodup:=(Jh3 g).imp fun {a b} h=>by omega
theorem Jhs(k:Int)(ps:List Pr):spF (byF (k+1) ps)=Jr (byF k ps):=by
 unfold spF Jr;refine Q7 fun i=>?_
 rw[Qn,Qn,KE];unfold byF;rw[Qr,Qr]
 cases ps[i]? with
 | none=>rfl
 | some p =>
  simp only[Lx];congr 1;have e:2*(k+1)*(i:Int)=2*k*(i:Int)+2*(i:Int):=by rw[Lm,K2];simp
  simp only[LC];rw[e];omega
theorem Jfm{ps:List Pr}(g:Good ps)(n:Nat):JK (byF ((n:Int)+1) ps)=(byF (n:Int) ps).map fun p=>(p.1+p.2,1,1):=by
 have gw:=YO g
 have gn:Good (byF (n:Int) ps):=(gw.bys (k:=(n:Int))).good (by omega)
 have et:thF (byF ((n:Int)+1) ps)=byF (n:Int) ps:=by have:=Zh (n:=1) (gw.bys (k:=(n:Int)+1)) (by omega) (by omega);rw[show thF (byF ((n:Int)+1) ps)=thN 1 (byF ((n:Int)+1) ps) from rfl,this,Jdh];congr 1;omega
 unfold JK YZ;rw[et,Jhs,Jdm (Jr (byF (n:Int) ps)) [] (by simpa using Jal gn),Gz,Qt];unfold Jr;rw[Qt];refine QE fun p hp=>?_
 simp only[Function.comp];rw[JaM gn,if_pos (show p.1+p.2∈Jr (byF (n:Int) ps) from Qw.mpr ⟨p,hp,rfl⟩)]
theorem ZK:∀{l:List Int} {k:Int},l.Nodup->k∈l->l.count k=1
 | [],_,_,h=>by cases h
 | a::l,k,hn,h=>by
  rw[Q2] at hn;rw[QY]
  by_cases c:a=k
  ·subst c;rw[LN.mpr hn.1];simp
  ·have hm:k∈l:=(Qg.mp h).resolve_left fun z=>c z.symm
   rw[ZK hn.2 hm];simp[c]
theorem WO(d:Int):∀(a:List Pr) (s:Int),Ym (a.map fun p=>(p.1-d,p.2)) (s-d)=(Ym a s).map fun p=>(p.1-d,p.2)
 | [],s=>rfl
 | p::r,s=>by
  rw[Qe,Ym,Ym];dsimp only
  by_cases h:p.1=s
  ·rw[if_pos h,if_pos (by omega)];rfl
  ·rw[if_neg h,if_neg (by omega),WO d r s];rfl
theorem ZI(d:Int):∀(L:List Int) (a:List Pr),(L.map (·-d)).foldl Ym (a.map fun p=>(p.1-d,p.2))=(L.foldl Ym a).map fun p=>(p.1-d,p.2)
 | [],a=>rfl
 | s::L,a=>by rw[Qe,QD,QD,WO,ZI d L]
theorem JfU:∀(L:List Int) (a:List Pr),(a.map (·.1)).Pairwise (·<·)->(∀k∈a.map (·.1),∀s∈L,k<=s)->L.Pairwise (·<=·)->((L.foldl Ym a).map (·.1)).Pairwise (·<·)
 | [],a,h,_,_=>h
 | s::L,a,h,hk,hL=>by
  obtain⟨l1,l2⟩:=Q1.mp hL;rw[QD];have e:(Ym a s).map (·.1)=JG (a.map (·.1)) s:=Up s a;refine JfU L (Ym a s) ?_ (fun k hk' t ht=>?_) l2
  ·rw[e];unfold JG;split
   ·exact h
   ·next c =>
    rw[G4];refine⟨h,by simp,fun k hk' t ht=>?_⟩;have ht':t=s:=by simpa using ht
    subst ht';have h1:=hk k hk' t Qd;have h2:k≠t:=fun z=>c (hasK_mem.mpr (by rw[<- z];exact hk'))
    omega
  ·rw[e] at hk';unfold JG at hk';split at hk'
   ·exact hk k hk' t (Qc _ ht)
   ·rcases Gb.mp hk' with z|z
    ·exact hk k z t (Qc _ ht)
    ·have z':k=s:=by simpa using z
     subst z';exact l1 t ht
theorem Jht:∀{ps:List Pr} (i:Nat),Good ps->((ps.zipIdx i).map fun x=>x.1.1+x.1.2-1-2*(x.2:Int)).Pairwise (·<=·)
 | [],_,_=>.nil
 | [p],i,_=>by simp
 | p::q::r,i,g=>by
  have ih:=Jht (i+1) (Good.cons' g)
  have h1:=g.gap 0 p q rfl rfl
  have h2:=g.one 1 q rfl;rw[KI,Qe];refine Q1.mpr ⟨fun t ht=>?_,ih⟩;rw[KI,Qe] at ih ht
  have hq:p.1+p.2-1-2*(i:Int)<=q.1+q.2-1-2*((i+1:Nat):Int):=by omega
  rcases Qg.mp ht with z|z
  ·subst z;exact hq
  ·have:=(Q1.mp ih).1 t z;dsimp only at this ⊢;omega
noncomputable def J4(k:Int)(qs:List Pr):List Tr:=((JK qs).filter fun t=>decide (t.2.1>t.2.2)).map fun t=>(k,t.1,t.2.1-t.2.2)
noncomputable def tbN:Nat->Int->List Pr->List Tr
 | 0,_,_=>[]
 | n+1,k,qs=>J4 (k+1) qs++tbN n (k+1) (thF qs)
theorem Zf:∀(n:Nat) (k:Int),tbN n k []=[]
 | 0,_=>rfl
 | n+1,k=>by rw[tbN,show thF []=[] from rfl,Zf n (k+1)];rfl
theorem JgH{qs:List Pr}(g:Good (byF (-1) qs))(k:Int):J4 k qs=[]:=by
 have e:qs=byF (((0:Nat):Int)+1) (byF (-1) qs):=by rw[Jdh,show((0:Nat):Int)+1+-1=0 by omega,Vg]
 unfold J4;rw[e,Jfm g 0,List.filter_map,Qt,Mm.mpr]
 ·rfl
 ·intro p hp;simp
theorem JcZ(qs:List Pr):(spF qs).length=qs.length:=by unfold spF;simp
theorem JiH(k:Int)(qs:List Pr):(J4 k qs).length<=qs.length:=by
 unfold J4 JK;rw[Qq];refine Q4 (Mz _ _) ?_;rw[Qq];have:=Jah (spF qs) [];rw[JcZ] at this;unfold YZ
 simpa using this
theorem JjK{c:Int}{qs:List Pr}(w:Wide c qs)(c1:1<=c):∀(j m:Nat) (k:Int),((j:Int)<c)->tbN (j+m) k qs=tbN m (k+(j:Int)) (thN j qs):=by
 intro j
 induction j generalizing c qs with
 | zero=>intro m k _;rw[LC];simp[thN]
 | succ j ih=>intro m k hj;have w1:Wide (c+-1) (byF (-1) qs):=w.bys;have g1:Good (byF (-1) qs):=w1.good (by omega);have e:thF qs=byF (-1) qs:=Jag g1;rw[show j+1+m=(j+m)+1 by omega,tbN,JgH g1,Gz,e,ih w1 (by omega) m (k+1) (by omega)];show _=tbN m (k+((j+1:Nat):Int)) (thN j (thF qs));rw[e];congr 1;omega
theorem JmV{c:Int}{qs:List Pr}(w:Wide c qs)(c1:1<=c)(hne:qs≠[])(j:Nat)(hj:(j:Int)<c):thN j qs≠[]:=by rw[Zh w c1 hj];intro z;have:=U1 (-(j:Int)) qs;rw[z] at this;exact hne (QF this.symm)
theorem Jb9{c:Int}{qs:List Pr}(w:Wide c qs)(c1:1<=c)(hne:qs≠[]){N:Nat}(hN:thN N qs=[])(k:Int):∃C:Nat,(C:Int)=c/\C<=N/\tbN N k qs=J4 (k+c) (thN (C-1) qs)++tbN (N-C) (k+c) (thN C qs)/\thN (N-C) (thN C qs)=[]:=by
 obtain⟨C,hC⟩:∃C:Nat,(C:Int)=c:=⟨c.toNat,by omega⟩
 have hCN:C<=N:=by
  rcases K8 N C with z|z
  ·exact absurd hN (JmV w c1 hne N (by omega))
  ·exact z
 refine⟨C,hC,hCN,?_,by rw[<- JaX,show C+(N-C)=N by omega];exact hN⟩;have e:=JjK w c1 (C-1) (N-C+1) k (by omega);rw[show C-1+(N-C+1)=N by omega] at e;rw[e,tbN,<- V2,show C-1+1=C by omega,show k+((C-1:Nat):Int)+1=k+c by omega]
theorem Uc{k:Int}{qs:List Pr}{t:Tr}(h:t∈J4 k qs):t.1=k:=by obtain⟨u,_,e⟩:=Qw.mp h;rw[<- e]
theorem Wu:∀(n:Nat) (k:Int) (qs:List Pr) (t:Tr),t∈tbN n k qs->k<t.1
 | 0,_,_,_,h=>by cases h
 | n+1,k,qs,t,h=>by
  rw[tbN] at h;rcases Gb.mp h with z|z
  ·have:=Uc z;omega
  ·have:=Wu n (k+1) (thF qs) t z;omega
theorem VF:∀(n:Nat) (ps:List Pr),(thN n ps).length<=ps.length
 | 0,ps=>Qk _
 | n+1,ps=>by
  show(thN n (thF ps)).length<=_
  have h1:=VF n (thF ps)
  have h2:=(Vi (byF (-1) ps)).1;rw[U1] at h2
  have h3:(thF ps).length=(clN (byF (-1) ps)).length:=rfl;omega
noncomputable abbrev tbC:En->Option Bool:=(tTru? (e1 Vl (Jb 2)))
noncomputable abbrev tbB:Es:=(Jo (Jm 4 (eU 1 JM (aC (Jb 2) a0))) (Jo (Jc8 (fun i j=>i+j) 3 (Jb 4)) (Jo (Jm 2 (eU 2 JV (aC (Jb 2) (aC (e2 YU (Jb 4) (eC (.int 1))) a0)))) (Jo (Jc9 1 (Ys (iE true (eU 1 YN (aC (Jb 2) a0))) (.tp (.cons (.nm 0) (.cons (.nm 1) (.cons (.nm 2) .nil)))) (tB? (e2 fGt (Jb 1) (Jb 2))) (UF (aC (Jb 3) (aC (Jb 0) (aC (e2 YU (Jb 1) (Jb 2)) a0)))) [none,none,none,some 3])) (Jm 2 (eU 2 JV (aC (Jb 2) (aC (eC (.int 1)) a0))))))))
theorem Jb7(j0 j4:Sl)(acc:List Tr)(k:Int)(fuel:Nat):((Yv tbC tbB (fuel+1) [j0,.own (acc.map trE),.sh (.row (([]:List Pr).map prE)),.sh (.int k),j4]).bind (JaT (Ui 1))).bind Jcp=some (.own (acc.map trE)):=by rw[Yv];have hc:tbC [j0,.own (acc.map trE),.sh (.row (([]:List Pr).map prE)),.sh (.int k),j4]=some false:=rfl;rw[hc];walk_at "ev"
theorem JmT(j0:Sl):∀(m fuel:Nat) (left:List Pr) (acc:List Tr) (k:Int) (j4:Sl) (N:Nat),Good left->left.length<=m->left.length<=30->m<fuel->thN N left=[]->acc.length+30*left.length<=10000 ->
 ((Yv tbC tbB fuel [j0,.own (acc.map trE),.sh (.row (left.map prE)),.sh (.int k),j4]).bind (JaT (Ui 1))).bind Jcp=some (.own ((acc++tbN N k left).map trE)):=by
 intro m
 induction m with
 | zero =>
  intro fuel left acc k j4 N g hm _ hf _ _;obtain⟨f,rfl⟩:∃f,fuel=f+1:=⟨fuel-1,by omega⟩
  have:left=[]:=QF (by omega);subst this;rw[Jb7,Zf,Gh]
 | succ m ih =>
  intro fuel left acc k j4 N g hm h30 hf hN hacc;obtain⟨f,rfl⟩:∃f,fuel=f+1:=⟨fuel-1,by omega⟩
  by_cases h0:left=[]
  ·subst h0;rw[Jb7,Zf,Gh]
  ·obtain⟨c,hc,c1,w,t⟩:=JkC g h0;obtain⟨C,hC,hCN,eT,eN⟩:=Jb9 w c1 h0 hN k;have hcl:=Jbw left (by omega);rw[hc] at hcl;have g1:=Ug (C-1) g;have l1:=VF (C-1) left;have l2:=VF C left;have fw:=Zi t;rw[<- hC,<- Zg C w c1 (by omega)] at fw;have ll:=JiH (k+c) (thN (C-1) left)
   have hcond:tbC [j0,.own (acc.map trE),.sh (.row (left.map prE)),.sh (.int k),j4]=some true:=by
    walk_at "ev"
    cases left with
    | nil=>exact absurd rfl h0
    | cons _ _=>rfl
   have hth:=VU (thN (C-1) left) 1 g1 (by omega);rw[show((1:Nat):Int)=1 from rfl,show thN 1 (thN (C-1) left)=thN C left by rw[<- JaX,show C-1+1=C by omega]] at hth
   have hbody:tbB [j0,.own (acc.map trE),.sh (.row (left.map prE)),.sh (.int k),j4]=some (.nx [j0,.own ((acc++J4 (k+c) (thN (C-1) left)).map trE),.sh (.row ((thN C left).map prE)),.sh (.int (k+c)),.sh (.int c)]):=by
    walk_at "ev";rw[hcl];walk_at "ev";rw[show c-1=((C-1:Nat):Int) by omega,VU _ _ g (by omega)];walk_at "ev";rw[JgM _ g1 (by omega)];walk_at "ev";rw[Jak (g:=fun t:Tr=>trE (k+c,t.1,t.2.1-t.2.2)) (k:=fun t:Tr=>decide (t.2.1>t.2.2))]
    ·have el:((JK (thN (C-1) left)).filter fun t=>decide (t.2.1>t.2.2)).map (fun t:Tr=>trE (k+c,t.1,t.2.1-t.2.2))=(J4 (k+c) (thN (C-1) left)).map trE:=by unfold J4;rw[Qt];rfl
     rw[el]
     have hsl:(JK (thN (C-1) left)).length<=30:=by unfold JK;rw[Qq];have:=Jah (spF (thN (C-1) left)) [];rw[JcZ] at this;unfold YZ;simp at this;omega
     walk_at "ev";rw[hth];walk_at "ev";rw[<- QN]
    ·intro t ht;simp only[trE];refine⟨?_,fun _=>?_⟩
     ·walk_at "ev"
      first|rfl|done
     ·walk_at "ev"
      first|rfl|done
   rw[Yv,hcond,QB,if_pos rfl,hbody,QB,eT,<- Gf];exact ih f _ _ _ _ _ (Ug C g) (by omega) (by omega) (by omega) eN (by rw[QC];omega)
theorem JdS(ps:List Pr)(N:Nat)(g:Good ps)(h:ps.length<=30)(hN:thN N ps=[]):J3 [.sh (.row (ps.map prE))]=some (.own ((tbN N 0 ps).map trE)):=by have go:=JmT (.sh (.row (ps.map prE))) 30 1000000 ps [] 0 .no N g h h (by decide) hN (by simp;omega);unfold J3;walk_at "ev";exact go
theorem Wf:∀(cur:Pr) (r:List Pr),(∀p∈r,0<=p.2)->((clF cur r).map (·.2)).sum=cur.2+(r.map (·.2)).sum
 | cur,[],_=>by simp[clF]
 | cur,p::r,h=>by
  have h0:=h p Qd
  have hr:=fun q hq=>h q (Qc p hq)
  rw[clF,Qe,Qu];split
  ·rw[Wf _ r hr];dsimp only;omega
  ·split
   ·rw[Qe,Qu,Wf p r hr]
   ·rw[Wf cur r hr];omega
theorem Jdj:∀(ps:List Pr),(∀p∈ps,0<=p.2)->((clN ps).map (·.2)).sum=(ps.map (·.2)).sum
 | [],_=>rfl
 | p::r,h=>by
  have h0:=h p Qd
  have hr:=fun q hq=>h q (Qc p hq)
  rw[clN,Qe,Qu];split
  ·exact Wf p r hr
  ·rw[Jdj r hr];omega
theorem JkA(k:Int):∀(ps:List Pr),((byF k ps).map (·.2)).sum=(ps.map (·.2)).sum+k*(ps.length:Int):=by
 intro ps
 have e:(byF k ps).map (·.2)=ps.map fun p=>p.2+k:=by
  refine Q7 fun i=>?_
  unfold byF;rw[Qn,Qr,Qn,GU];rfl
 rw[e]
 induction ps with
 | nil=>simp
 | cons p r ih =>
  have ih':=ih (by
   refine Q7 fun i=>?_
   unfold byF;rw[Qn,Qr,Qn,GU];rfl)
  rw[Qe,Qu,ih',Qe,Qu,Qp,GZ,Lm];simp;omega
theorem UU:∀{ps:List Pr},(∀p∈ps,1<=p.2)->(ps.length:Int)<=(ps.map (·.2)).sum
 | [],_=>Qv _
 | p::ps,h=>by
  have h1:=h p Qd
  have h2:=UU fun q hq=>h q (Qc _ hq)
  rw[Qe,Qu,Qp];omega
theorem Jei{ps:List Pr}(g:Good ps):((thF ps).map (·.2)).sum=(ps.map (·.2)).sum-(ps.length:Int):=by
 unfold thF;rw[Jdj,JkA]
 ·omega
 ·intro x hx;obtain⟨i,hi,rfl⟩:=QV.mp hx;have e:(byF (-1) ps)[i]?=some (byF (-1) ps)[i]:=by simp
  obtain⟨p,hp,e2⟩:=Jaf e;rw[e2];have:=g.one i p hp;dsimp only;omega
theorem Y1:∀(n:Nat) {ps:List Pr},Good ps->(ps.map (·.2)).sum<=(n:Int)->thN n ps=[]
 | 0,ps,g,h=>by
  have:=UU (Good.all g)
  show ps=[]
  exact QF (by omega)
 | n+1,ps,g,h=>by
  show thN n (thF ps)=[]
  refine Y1 n (Yj g) ?_;rw[Jei g]
  by_cases hl:ps.length=0
  ·have:ps=[]:=QF hl;subst this;simp
  ·omega
theorem Jdn:∀(L:List Int) (a:List Pr),((L.foldl Ym a).map (·.2)).sum=(a.map (·.2)).sum+(L.length:Int)
 | [],a=>by simp
 | s::L,a=>by
  have e:∀a:List Pr,((Ym a s).map (·.2)).sum=(a.map (·.2)).sum+1:=fun a=>by
   induction a with
   | nil=>simp[Ym]
   | cons p r ih =>
    rw[Ym];split
    ·simp only[Qe,Qu];omega
    ·simp only[Qe,Qu];omega
  rw[QD,Jdn L,e,Qp];omega
theorem Jeb{α:Type}:∀(l:List α),(l.map fun _=>(0:Int)).sum=0
 | []=>rfl
 | _::l=>by rw[Qe,Qu,Jeb l];rfl
theorem Jgv:∀(M K:List Int),M.Nodup->K.Nodup->(∀x∈M,x∈K)->(K.map fun s=>if s∈M then(1:Int) else 0).sum=(M.length:Int)
 | [],K,_,_,_=>by rw[show(fun s:Int=>if s∈([]:List Int) then(1:Int) else 0)=fun _=>0 from funext fun s=>if_neg (by simp)];exact Jeb K
 | m::M,K,hm,hk,h=>by
  obtain⟨h1,h2⟩:=Q2.mp hm;have ih:=Jgv M K h2 hk fun x hx=>h x (Qc _ hx)
  have one:∀K:List Int,K.Nodup->(K.map fun s=>if s∈m::M then(1:Int) else 0).sum=(K.map fun s=>if s∈M then(1:Int) else 0).sum+(if m∈K then 1 else 0):=fun K hk=>by
   induction K with
   | nil=>rfl
   | cons k K ihK =>
    obtain⟨a1,a2⟩:=Q2.mp hk;rw[Qe,Qu,Qe,Qu,ihK a2]
    by_cases c:k=m
    ·subst c;rw[if_pos Qd,if_neg h1,if_neg a1,if_pos Qd];omega
    ·have e1:(k∈m::M)=(k∈M):=by simp[c]
     have e2:(m∈k::K)=(m∈K):=by simp[QI c]
     simp only[e1,e2];omega
  rw[one K hk,ih,if_pos (h m Qd),Qp];omega
theorem Vk:∀(r:List Pr) (cur:Pr) (e:Int),e∈Jr (clF cur r)->e∈Jr (cur::r)
 | [],_,_,h=>h
 | p::r,cur,e,h=>by
  unfold Jr at h ⊢;rw[clF] at h;split at h
  ·next c =>
   have:=Vk r _ e h;unfold Jr at this;simp only[Qe,Qg] at this ⊢;rcases this with z|z
   ·exact .inr (.inl (by omega))
   ·exact .inr (.inr z)
  ·split at h
   ·rw[Qe,Qg] at h;rcases h with z|z
    ·rw[z];simp
    ·have:=Vk r p e z;unfold Jr at this;rw[Qe];exact Qc _ this
   ·have:=Vk r cur e h;unfold Jr at this;simp only[Qe,Qg] at this ⊢;rcases this with z|z
    ·exact .inl z
    ·exact .inr (.inr z)
theorem Jbd:∀(ps:List Pr) (e:Int),e∈Jr (clN ps)->e∈Jr ps
 | [],_,h=>h
 | p::r,e,h=>by
  rw[clN] at h;split at h
  ·exact Vk r p e h
  ·have:=Jbd r e h;unfold Jr at this ⊢;rw[Qe];exact Qc _ this
theorem Jdw{qs:List Pr}{e:Int}(h:e∈Jr (thF qs)):e∈spF qs:=by
 have:=Jbd _ e h
 have z:=Jhs (-1) qs;rw[show(-1:Int)+1=0 by omega,Vg] at z;rw[z];exact this
noncomputable def Uj(l:List Tr):Int:=(l.map (·.2.2)).sum
theorem Jan{α:Type}(f:α->Int)(k:α->Bool):∀(l:List α),(∀x∈l,k x=false->f x=0)->((l.filter k).map f).sum=(l.map f).sum
 | [],_=>rfl
 | x::l,h=>by
  have ih:=Jan f k l fun y hy=>h y (Qc _ hy)
  rw[Qe,Qu]
  cases c:k x with
  | true=>rw[GJ c,Qe,Qu,ih]
  | false=>rw[GI (by rw[c];simp),ih,h x Qd c,KH]
theorem Jec{α:Type}(f g:α->Int):∀(l:List α),(l.map fun x=>f x-g x).sum=(l.map f).sum-(l.map g).sum
 | []=>rfl
 | x::l=>by rw[Qe,Qu,Qe,Qu,Qe,Qu,Jec f g l];omega
theorem Jea{α:Type}(f g:α->Int):∀(l:List α),(l.map fun x=>f x+g x).sum=(l.map f).sum+(l.map g).sum
 | []=>rfl
 | x::l=>by rw[Qe,Qu,Qe,Qu,Qe,Qu,Jea f g l];omega
theorem JaC{qs:List Pr}(g:Good qs)(k:Int):Uj (J4 k qs)=(qs.length:Int)-((thF qs).length:Int):=by
 obtain⟨c1,c2,c3⟩:=JfT (spF qs);have nd:=Jal (Yj g);unfold Uj J4;rw[Qt];have e1:(((JK qs).filter fun t=>decide (t.2.1>t.2.2)).map ((fun t:Tr=>t.2.2) ∘ fun t:Tr=>(k,t.1,t.2.1-t.2.2))).sum=(((JK qs).filter fun t=>decide (t.2.1>t.2.2)).map fun t=>t.2.1-t.2.2).sum:=rfl;rw[e1,Jan]
 ·unfold JK;rw[Qt]
  have e2:((YZ (spF qs)).map ((fun t:Tr=>t.2.1-t.2.2) ∘ fun p:Pr=>((p.1,p.2,owF (thF qs) p.1):Tr))).sum=((YZ (spF qs)).map fun p=>p.2-(if p.1∈Jr (thF qs) then(1:Int) else 0)).sum:=by
   congr 1;refine QE fun p _=>?_
   show p.2-owF (thF qs) p.1=_;rw[JaM (Yj g)]
  rw[e2,Jec];have e3:=Jdn (spF qs) [];have e4:=Jgv (Jr (thF qs)) ((YZ (spF qs)).map (·.1)) nd c1 fun x hx=>Qw.mpr ⟨_,c3 x (Jdw hx),rfl⟩
  rw[Qt] at e4;have e5:((YZ (spF qs)).map fun p=>if p.1∈Jr (thF qs) then(1:Int) else 0).sum=((Jr (thF qs)).length:Int):=e4
  have e6:((YZ (spF qs)).map (·.2)).sum=((spF qs).length:Int):=by unfold YZ;rw[e3];simp
  rw[e5,e6,JcZ];unfold Jr;rw[Qq]
 ·intro t ht c;unfold JK at ht;obtain⟨p,hp,rfl⟩:=Qw.mp ht;obtain⟨v1,v2⟩:=c2 p hp;have:0<(spF qs).count p.1:=LO.mpr v2;have o:=JaM (Yj g) p.1;have c':=of_decide_eq_false c;dsimp only at c' ⊢;rw[o] at c' ⊢
  by_cases z:p.1∈Jr (thF qs)
  ·rw[if_pos z] at c' ⊢;omega
  ·rw[if_neg z] at c' ⊢;omega
theorem V1:∀(n:Nat) (k:Int) {qs:List Pr},Good qs->thN n qs=[]->Uj (tbN n k qs)=(qs.length:Int)
 | 0,k,qs,g,h=>by have:qs=[]:=h;subst this;rfl
 | n+1,k,qs,g,h=>by
  have ih:=V1 n (k+1) (Yj g) h
  have l:=JaC g (k+1);unfold Uj at *;rw[tbN,QN,Lq,ih,l];omega
theorem JaD{α β:Type}{p:Pt}{b:Es}{f:α->D}(R:List α->β->En->Prop)(g:β->α->β):∀{as:List α} {E:En} (s:β) (h0:R as s E)
 (h:∀a as s E,R (a::as) s E->okS (R as (g s a)) ((p.bind (f a) E).bind b)),∃E',R [] (as.foldl g s) E'/\Uh p b (as.map f) E=some (.nx E')
 | [],E,s,h0,_=>⟨E,h0,rfl⟩
 | a::as,E,s,h0,h=>by
  obtain⟨E2,e2,r2⟩:=W1 (h a as s E h0);obtain⟨E',h1,h2⟩:=JaD R g (as:=as) (E:=E2) (g s a) r2 h;refine⟨E',h1,?_⟩;rw[Qe,Uh]
  cases hp:p.bind (f a) E with
  | none=>rw[hp] at e2;rcases e2 with e2|e2 <;> cases e2
  | some E1=>rw[hp,QB] at e2;rw[QB];rcases e2 with e2|e2 <;> (rw[e2,QB];exact h2)
theorem JiI{a b d:Int}(ha:0<=a)(hb:0<=b):max 0 (min (a+b) d)=max 0 (min a d)+max 0 (min b (d-a)):=by
 rcases La d a with k|k
 ·rw[GG (show d<=a+b by omega),GG k,Ms (b:=min b (d-a)) (MX (Kk _ _) (by omega)),LD]
 ·rw[G0 k,Kl ha];rcases La d (a+b) with m|m
  ·rw[GG m,GG (show d-a<=b by omega),Kl (by omega),Kl (by omega)];omega
  ·rw[G0 m,G0 (show b<=d-a by omega),Kl (by omega),Kl hb]
theorem UN(x:Int):∀(r:List Pr) (cur:Pr),(∀p∈r,0<=p.2)->0<=cur.2->below (clF cur r) x=below (cur::r) x
 | [],cur,_,_=>rfl
 | p::r,cur,h,hc=>by
  have h0:=h p Qd
  have hr:=fun q hq=>h q (Qc p hq)
  rw[clF];split
  ·next e=>rw[UN x r _ hr (by dsimp only;omega (config:={})),JQ,JQ,JQ];dsimp only;rw[JiI hc h0,show x-cur.1-cur.2=x-p.1 by omega (config:={}),MM]
  ·split
   ·rw[JQ,UN x r p hr h0,<- JQ]
   ·rw[UN x r cur hr hc,JQ,JQ cur,JQ p,show p.2=0 by omega (config:={}),Ms (b:=min 0 _) (Mt _ _),KH]
theorem Zz(x:Int):∀(ps:List Pr),(∀p∈ps,0<=p.2)->below (clN ps) x=below ps x
 | [],_=>rfl
 | p::r,h=>by
  have h0:=h p Qd
  have hr:=fun q hq=>h q (Qc p hq)
  rw[clN];split
  ·exact UN x r p hr h0
  ·rw[Zz x r hr,JQ p];omega (config:={})
theorem JfM:∀(r:List Pr) (c x:Int),Good r->(∀q,r[0]?=some q->x<=q.1-c)->∀p∈byR c r,x<=p.1
 | [],_,_,_,_,_,h=>by cases h
 | q::r,c,x,g,hx,p,h=>by
  have h1:=hx q rfl;rcases Qg.mp h with z|z
  ·rw[z];exact h1
  ·refine JfM r (c+2) x (Good.cons' g) (fun q' e=>?_) p z;have:=g.gap 0 q q' rfl (by simpa using e);have:=g.one 0 q rfl;omega
theorem Jdv(left:List Pr):∀(q:List Pr) (i:Nat) (base:Int),Good q->(∀p,q[0]?=some p->∀x,p.1-2*(i:Int)<=x->below left x=base+below (byR (2*(i:Int)) q) x) ->
 edF left i base ((q.zipIdx i).map fun x=>x.1.1+x.1.2-1-2*(x.2:Int))=q
 | [],_,_,_,_=>rfl
 | p::r,i,base,g,hf=>by
  have h1:=g.one 0 p rfl
  have nx:∀q,r[0]?=some q->p.1+p.2+1<=q.1:=fun q e=>by have:=g.gap 0 p q rfl (by simpa using e);omega
  have hs:=hf p rfl (p.1+p.2-1-2*(i:Int)) (by omega);rw[byR,JQ,Jci (ps:=byR (2*(i:Int)+2) r) (JfM r _ _ (Good.cons' g) fun q e=>by have:=nx q e;omega)] at hs;dsimp only at hs
  have e:below left (p.1+p.2-1-2*(i:Int))=base+(p.2-1):=by omega
  rw[KI,Qe,edF];dsimp only;rw[e,Jdv left r (i+1) (base+(p.2-1)) (Good.cons' g) fun q eq x hx=>?_]
  ·congr 1;exact KO (by dsimp only;omega) (by dsimp only;omega)
  ·have:=nx q eq;rw[hf p rfl x (by omega),byR,JQ];dsimp only;rw[show 2*((i+1:Nat):Int)=2*(i:Int)+2 by omega];omega
theorem Jet{q:List Pr}(g:Good q):∀p∈byF (-1) q,0<=p.2:=fun p hp=>by obtain⟨i,hi,rfl⟩:=QV.mp hp;have w:Wide (1+-1) (byF (-1) q):=(YO g).bys (k:=-1);exact w.one i _ (by simp)
theorem Jns{q:List Pr}(g:Good q):edF (thF q) 0 0 (spF q)=q:=by
 refine Jdv (thF q) q 0 0 g fun p _ x _=>?_
 unfold thF;rw[Zz x _ (Jet g),KH,show 2*((0:Nat):Int)=0 by simp,Vf]
theorem W0(prs:List Pr)(s:Int):((WZ prs).count s:Int)=(prs.map fun p=>if p.1=s then((p.2.toNat:Nat):Int) else 0).sum:=by
 induction prs with
 | nil=>rfl
 | cons p r ih =>
  unfold WZ at *;rw[G5,LZ,Qe,Qu,<- ih,List.count_replicate];split <;> rename_i c
  ·have c':p.1=s:=by simpa using c
   rw[if_pos c'];omega
  ·have c':¬p.1=s:=by simpa using c
   rw[if_neg c'];omega
theorem JdU{a:List Pr}(f:Pr->Int)(hn:(a.map (·.1)).Nodup)(s:Int):(a.map fun p=>if p.1=s then f p else 0).sum=if s∈a.map (·.1) then f (s,lk s a) else 0:=by
 induction a with
 | nil=>rfl
 | cons p r ih =>
  rw[Qe,Q2] at hn;rw[Qe,Qu,ih hn.2,lk]
  by_cases c:p.1=s
  ·subst c;rw[if_pos rfl,if_pos rfl,if_neg hn.1,if_pos (by simp)];simp
  ·rw[if_neg c,if_neg c,KH];have:(s∈(p::r).map (·.1))=(s∈r.map (·.1)):=by simp[QI c]
   simp only[this]
noncomputable def YW(l:List Tr):List Pr:=l.map fun t=>(t.2.1,t.2.2)
theorem ZY{q:List Pr}(g:Good q)(k:Int):ZX (Jr (thF q)++WZ (YW (J4 k q)))=spF q:=by
 obtain⟨c1,c2,c3⟩:=JfT (spF q);have gt:=Yj g;have nd:=Jal gt;refine List.Perm.eq_of_pairwise (le:=(·<=·)) (fun a b _ _ h1 h2=>by omega) (Jb2 _) (Jht 0 g) ((Uf _).trans (List.perm_iff_count.mpr fun s=>?_));rw[LZ]
 have e1:((WZ (YW (J4 k q))).count s:Int)=if s∈spF q then((spF q).count s:Int)-(if s∈Jr (thF q) then 1 else 0) else 0:=by
  rw[W0];unfold YW J4;rw[Qt,Qt];refine Eq.trans (show _=(((JK q).filter fun t=>decide (t.2.1>t.2.2)).map fun t=>if t.1=s then(((t.2.1-t.2.2).toNat:Nat):Int) else 0).sum from rfl) ?_;rw[Jan]
  ·unfold JK;rw[Qt];have f2:((YZ (spF q)).map ((fun t:Tr=>if t.1=s then(((t.2.1-t.2.2).toNat:Nat):Int) else 0) ∘ fun p:Pr=>((p.1,p.2,owF (thF q) p.1):Tr))).sum=((YZ (spF q)).map fun p=>if p.1=s then(((p.2-owF (thF q) p.1).toNat:Nat):Int) else 0).sum:=rfl;rw[f2,JdU (fun p=>(((p.2-owF (thF q) p.1).toNat:Nat):Int)) c1];have mm:s∈(YZ (spF q)).map (·.1)↔s∈spF q:=⟨fun h=>by obtain⟨p,hp,e⟩:=Qw.mp h;rw[<- e];exact(c2 p hp).2,fun h=>Qw.mpr ⟨_,c3 s h,rfl⟩⟩
   by_cases h:s∈spF q
   ·rw[if_pos (mm.mpr h),if_pos h,JcE c1 (c3 s h) (p:=(s,((spF q).count s:Int)))];dsimp only;rw[JaM gt];have:0<(spF q).count s:=LO.mpr h;split <;> omega
   ·rw[if_neg fun z=>h (mm.mp z),if_neg h]
  ·intro t ht c;have c':=of_decide_eq_false c;split
   ·omega
   ·rfl
 have e2:(Jr (thF q)).count s=if s∈Jr (thF q) then 1 else 0:=by
  split
  ·next h=>exact ZK nd h
  ·next h=>exact LN.mpr h
 rw[e2]
 by_cases h:s∈spF q
 ·rw[if_pos h] at e1;have:0<(spF q).count s:=LO.mpr h;split at e1 <;> rename_i c
  ·rw[if_pos c];omega
  ·rw[if_neg c];omega
 ·rw[if_neg h] at e1;rw[if_neg fun z=>h (Jdw z),LN.mpr h];omega
noncomputable def putF(ps prs:List Pr):List Pr:=edF ps 0 0 (ZX (Jr ps++WZ prs))
theorem Jg6{q:List Pr}(g:Good q)(k:Int):putF (thF q) (YW (J4 k q))=q:=by unfold putF;rw[ZY g k,Jns g]
noncomputable abbrev Gp:=Int×List Pr
noncomputable def Jaa:List Gp->Tr->List Gp
 | [],t=>[(t.1,[(t.2.1,t.2.2)])]
 | g::gs,t=>if g.1=t.1 then(g.1,g.2++[(t.2.1,t.2.2)])::gs else g::Jaa gs t
noncomputable def WM(tb:List Tr):List Gp:=tb.foldl Jaa []
theorem Zx(x:Gp):∀(tb:List Tr) (g:List Gp),(∀t∈tb,x.1≠t.1)->tb.foldl Jaa (x::g)=x::tb.foldl Jaa g
 | [],_,_=>rfl
 | t::tb,g,h=>by rw[QD,Jaa,if_neg (h t Qd),QD];exact Zx x tb _ fun u hu=>h u (Qc _ hu)
theorem Zw(k:Int):∀(tb:List Tr) (ps:List Pr),(∀t∈tb,t.1=k)->tb.foldl Jaa [(k,ps)]=[(k,ps++YW tb)]
 | [],ps,_=>by simp[YW]
 | t::tb,ps,h=>by rw[QD,Jaa,if_pos (h t Qd).symm,Zw k tb _ fun u hu=>h u (Qc _ hu)];simp[YW]
theorem Jix(k:Int)(a b:List Tr)(ha:a≠[])(h1:∀t∈a,t.1=k)(h2:∀t∈b,k<t.1):WM (a++b)=(k,YW a)::WM b:=by
 cases a with
 | nil=>exact absurd rfl ha
 | cons t a=>unfold WM;rw[List.foldl_append,QD,show Jaa [] t=[(k,[(t.2.1,t.2.2)])] by rw[Jaa,h1 t Qd],Zw k a _ fun u hu=>h1 u (Qc _ hu),Zx _ b [] fun u hu=>by have:=h2 u hu;dsimp only;omega];simp[YW]
noncomputable def W9:Int->List Gp->List Pr
 | _,[]=>[]
 | k,g::gs=>byF (g.1-k-1) (putF (W9 g.1 gs) g.2)
noncomputable def OkG:Int->List Gp->Prop
 | _,[]=>True
 | k,g::gs=>k<g.1/\(∀p∈g.2,1<=p.2)/\Good (W9 g.1 gs)/\((W9 g.1 gs).length:Int)+(g.2.map (·.2)).sum<=30/\Good (putF (W9 g.1 gs) g.2)/\(putF (W9 g.1 gs) g.2).length<=30/\OkG g.1 gs
theorem Vt{k:Int}{q:List Pr}{t:Tr}(h:t∈J4 k q):1<=t.2.2:=by unfold J4 at h;obtain⟨u,hu,e⟩:=Qw.mp h;obtain⟨_,c⟩:=Lo.mp hu;have:=of_decide_eq_true c;rw[<- e];dsimp only;omega
theorem Ji3(l:List Tr):((YW l).map (·.2)).sum=Uj l:=by unfold YW Uj;rw[Qt];rfl
theorem Jhj:∀(m:Nat) (N:Nat) (k:Int) {ps:List Pr},ps.length<=m->Good ps->ps.length<=30->thN N ps=[]->W9 k (WM (tbN N k ps))=ps/\OkG k (WM (tbN N k ps)):=by
 intro m
 induction m with
 | zero=>intro N k ps hm g h30 hN;have:ps=[]:=QF (by omega);subst this;rw[Zf];exact⟨rfl,trivial⟩
 | succ m ih =>
  intro N k ps hm g h30 hN
  by_cases h0:ps=[]
  ·subst h0;rw[Zf];exact⟨rfl,trivial⟩
  ·obtain⟨c,hc,c1,w,t⟩:=JkC g h0;obtain⟨C,hC,hCN,eT,eN⟩:=Jb9 w c1 h0 hN k;have g1:=Ug (C-1) g;have l1:=VF (C-1) ps;have l2:=VF C ps;have fw:=Zi t;rw[<- hC,<- Zg C w c1 (by omega)] at fw;have eq1:thN C ps=thF (thN (C-1) ps):=by rw[<- V2,show C-1+1=C by omega]
   have ls:=JaC g1 (k+c);rw[<- eq1] at ls
   have hb:byF (c-1) (thN (C-1) ps)=ps:=by rw[Zh w c1 (by omega),Jdh,show c-1+-((C-1:Nat):Int)=0 by omega,Vg]
   have ll:(thN (C-1) ps).length=ps.length:=by have:=U1 (c-1) (thN (C-1) ps);rw[hb] at this;exact this.symm
   have hne:J4 (k+c) (thN (C-1) ps)≠[]:=fun z=>by rw[z] at ls;have:(0:Int)=_:=ls;omega
   have gc:=Jix (k+c) (J4 (k+c) (thN (C-1) ps)) (tbN (N-C) (k+c) (thN C ps)) hne (fun u hu=>Uc hu) fun u hu=>Wu _ _ _ u hu
   obtain⟨i1,i2⟩:=ih (N-C) (k+c) (ps:=thN C ps) (by omega) (Ug C g) (by omega) eN;have pb:putF (thN C ps) (YW (J4 (k+c) (thN (C-1) ps)))=thN (C-1) ps:=by rw[eq1];exact Jg6 g1 (k+c)
   rw[eT,gc];refine⟨?_,?_⟩
   ·show byF (k+c-k-1) (putF (W9 (k+c) (WM (tbN (N-C) (k+c) (thN C ps)))) (YW (J4 (k+c) (thN (C-1) ps))))=ps;rw[i1,pb,show k+c-k-1=c-1 by omega,hb]
   ·show k<k+c/\(∀p∈YW (J4 (k+c) (thN (C-1) ps)),1<=p.2)/\Good (W9 (k+c) (WM (tbN (N-C) (k+c) (thN C ps))))/\((W9 (k+c) (WM (tbN (N-C) (k+c) (thN C ps)))).length:Int)+((YW (J4 (k+c) (thN (C-1) ps))).map (·.2)).sum<=30/\Good (putF (W9 (k+c) (WM (tbN (N-C) (k+c) (thN C ps)))) (YW (J4 (k+c) (thN (C-1) ps))))/\(putF (W9 (k+c) (WM (tbN (N-C) (k+c) (thN C ps)))) (YW (J4 (k+c) (thN (C-1) ps)))).length<=30/\OkG (k+c) (WM (tbN (N-C) (k+c) (thN C ps)))
    rw[i1,pb,Ji3];refine⟨by omega,fun p hp=>?_,Ug C g,by omega,g1,by omega,i2⟩;obtain⟨u,hu,e⟩:=Qw.mp hp;rw[<- e];exact Vt hu
noncomputable def Jab:Option Pr->List Tr->Prop
 | _,[]=>True
 | a,t::r=>1<=t.1/\1<=t.2.2/\(∀b,a=some b->b.1<t.1\/(b.1=t.1/\b.2<t.2.1))/\Jab (some (t.1,t.2.1)) r
theorem Jdb(K:Int)(rest:List Tr)(hK:1<=K)(hr:∀a',(∀b,a'=some b->b.1<=K)->Jab a' rest):∀(L:List Tr) (a:Option Pr),(∀t∈L,t.1=K/\1<=t.2.2)->(L.map (·.2.1)).Pairwise (·<·)->(∀b,a=some b->b.1<K\/(b.1=K/\∀t∈L,b.2<t.2.1))->Jab a (L++rest)
 | [],a,_,_,h=>hr a fun b e=>by rcases h b e with z|z <;> omega
 | t::L,a,h1,h2,h3=>by
  obtain⟨k1,k2⟩:=h1 t Qd;rw[Qe,Q1] at h2;refine⟨by omega,k2,fun b e=>?_,Jdb K rest hK hr L _ (fun u hu=>h1 u (Qc _ hu)) h2.2 fun b e=>?_⟩
  ·rcases h3 b e with z|⟨z,y⟩
   ·exact .inl (by omega)
   ·exact .inr ⟨by omega,y t Qd⟩
  ·cases e;exact .inr ⟨k1,fun u hu=>h2.1 _ (Qw.mpr ⟨u,hu,rfl⟩)⟩
theorem Wj{q:List Pr}(g:Good q)(k:Int):((J4 k q).map (·.2.1)).Pairwise (·<·):=by
 have h:=JfU (spF q) [] (by simp) (fun _ h=>by simp at h) (Jht 0 g)
 have e:(J4 k q).map (·.2.1)=(((JK q).filter fun t=>decide (t.2.1>t.2.2)).map (·.1)):=by unfold J4;rw[Qt];rfl
 rw[e]
 have e2:(JK q).map (·.1)=(YZ (spF q)).map (·.1):=by unfold JK;rw[Qt];rfl
 have h':((JK q).map (·.1)).Pairwise (·<·):=by rw[e2];exact h
 rw[K9] at h' ⊢;exact h'.filter _
theorem U0:∀(n:Nat) (k:Int) (qs:List Pr) (a:Option Pr),Good qs->0<=k->(∀b,a=some b->b.1<=k)->Jab a (tbN n k qs)
 | 0,_,_,_,_,_,_=>trivial
 | n+1,k,qs,a,g,hk,ha=>by rw[tbN];refine Jdb (k+1) _ (by omega) (fun a' h=>U0 n (k+1) (thF qs) a' (Yj g) (by omega) h) _ a (fun t ht=>⟨Uc ht,Vt ht⟩) (Wj g (k+1)) fun b e=>.inl (by have:=ha b e;omega)
theorem YY:∀{tb:List Tr} {a:Option Pr},Jab a tb->∀t∈tb,1<=t.1/\1<=t.2.2
 | [],_,_,_,h=>by cases h
 | t::r,a,h,u,hu=>by
  obtain⟨h1,h2,_,h4⟩:=h;rcases Qg.mp hu with z|z
  ·rw[z];exact⟨h1,h2⟩
  ·exact YY h4 u z
theorem JcK:∀{tb:List Tr},(∀t∈tb,1<=t.2.2)->(tb.length:Int)<=Uj tb/\∀t∈tb,t.2.2<=Uj tb
 | [],_=>⟨Qv _,fun _ h=>by cases h⟩
 | t::r,h=>by
  obtain⟨h1,h2⟩:=JcK fun u hu=>h u (Qc t hu)
  have ht:=h t Qd
  have e:Uj (t::r)=t.2.2+Uj r:=by unfold Uj;rw[Qe,Qu]
  rw[e,Qp];refine⟨by omega,fun u hu=>?_⟩;rcases Qg.mp hu with z|z
  ·rw[z];omega
  ·have:=h2 u z;omega
theorem Jb8:∀(n:Nat) (k:Int) {qs:List Pr},Good qs->thN n qs=[]->((tbN n k qs).map fun t=>(t.1-k)*t.2.2).sum=(qs.map (·.2)).sum
 | 0,k,qs,g,h=>by have:qs=[]:=h;subst this;rfl
 | n+1,k,qs,g,h=>by
  have ih:=Jb8 n (k+1) (Yj g) h
  have l:=JaC g (k+1)
  have s:=V1 n (k+1) (Yj g) h
  have ts:=Jei g;unfold Uj at l s;rw[tbN,QN,Lq]
  have e1:(J4 (k+1) qs).map (fun t=>(t.1-k)*t.2.2)=(J4 (k+1) qs).map (·.2.2):=QE fun t ht=>by rw[Uc ht,show k+1-k=1 by omega,Ln]
  have e2:(tbN n (k+1) (thF qs)).map (fun t=>(t.1-k)*t.2.2)=(tbN n (k+1) (thF qs)).map fun t=>t.2.2+(t.1-(k+1))*t.2.2:=QE fun t ht=>by rw[show t.1-k=1+(t.1-(k+1)) by omega,K2,Ln]
  rw[e1,e2,Jea,ih,l,s,ts];omega
noncomputable def mvP(d:Int)(ps:List Pr):List Pr:=ps.map fun p=>(p.1-d,p.2)
theorem JnH(d k:Int)(ps:List Pr):byF k (mvP d ps)=mvP d (byF k ps):=by
 refine Q7 fun i=>?_
 unfold byF mvP;rw[Qr,Qn,Qn,Qr,GU,GU]
 cases ps[i]? with
 | none=>rfl
 | some p=>exact congrArg some (KO (by show p.1-d+2*k*(i:Int)=p.1+2*k*(i:Int)-d;omega) rfl)
theorem JaF(d:Int):∀(r:List Pr) (cur:Pr),clF (cur.1-d,cur.2) (mvP d r)=mvP d (clF cur r)
 | [],cur=>rfl
 | p::r,cur=>by
  show clF (cur.1-d,cur.2) ((p.1-d,p.2)::mvP d r)=_;rw[clF,clF];dsimp only
  by_cases h:cur.1+cur.2=p.1
  ·rw[if_pos (by omega),if_pos h];exact JaF d r (cur.1,cur.2+p.2)
  ·rw[if_neg (by omega),if_neg h];split
   ·rw[JaF d r p];rfl
   ·exact JaF d r cur
theorem JcJ(d:Int):∀(ps:List Pr),clN (mvP d ps)=mvP d (clN ps)
 | []=>rfl
 | p::r=>by
  show clN ((p.1-d,p.2)::mvP d r)=_;rw[clN,clN];split
  ·exact JaF d r p
  ·exact JcJ d r
theorem Jkd(d:Int)(ps:List Pr):thF (mvP d ps)=mvP d (thF ps):=by unfold thF;rw[JnH,JcJ]
theorem JnJ(d:Int)(ps:List Pr):spF (mvP d ps)=(spF ps).map (·-d):=by
 refine Q7 fun i=>?_
 unfold spF mvP;rw[Qn,Qn,Qn,KE,KE,Qn]
 cases ps[i]? with
 | none=>rfl
 | some p=>exact congrArg some (by show p.1-d+p.2-1-2*((0+i:Nat):Int)=p.1+p.2-1-2*((0+i:Nat):Int)-d;omega)
theorem JgP(d:Int)(ps:List Pr)(x:Int):Yp (mvP d ps) (x-d)=Yp ps x:=by
 induction ps with
 | nil=>rfl
 | cons p r ih =>
  show Yp ((p.1-d,p.2)::mvP d r) (x-d)=_;rw[Yb,Yb,ih];dsimp only;congr 2
  ·rw[decide_eq_decide];omega
  ·rw[decide_eq_decide];omega
theorem JnI(d:Int)(ps:List Pr)(x:Int):owF (mvP d ps) (x-d)=owF ps x:=by unfold owF;rw[JgP,show x-d-1=x-1-d by omega,JgP]
theorem Jlu(d:Int)(L:List Int):YZ (L.map (·-d))=(YZ L).map fun p=>(p.1-d,p.2):=by have:=ZI d L [];exact this
theorem Jlv(d k:Int)(ps:List Pr):J4 k (mvP d ps)=(J4 k ps).map fun t=>(t.1,t.2.1-d,t.2.2):=by
 have e:JK (mvP d ps)=(JK ps).map fun t=>(t.1-d,t.2.1,t.2.2):=by
  unfold JK;rw[JnJ,Jlu,Qt,Qt];refine QE fun p _=>?_
  show(p.1-d,p.2,owF (thF (mvP d ps)) (p.1-d))=(p.1-d,p.2,owF (thF ps) p.1)
  rw[Jkd,JnI]
 unfold J4;rw[e,List.filter_map,Qt,Qt];rfl
theorem Jkc(d:Int):∀(n:Nat) (k:Int) (ps:List Pr),tbN n k (mvP d ps)=(tbN n k ps).map fun t=>(t.1,t.2.1-d,t.2.2)
 | 0,_,_=>rfl
 | n+1,k,ps=>by rw[tbN,tbN,QN,Jlv,Jkd,Jkc d n]
theorem Jov{c1 c2 p1 p2 ins s:Int}(e:c1+c2=p1)(hc:0<=c2)(hp:0<=p2)(h0:0<=ins)(h1:ins<=s):∃t u,min c2 (s-ins)=t/\max 0 (ins+t-(p1-c1-c2))=ins+t/\min (ins+t) (p1-c1-c2)=0 ∧
 min p2 (s-(ins+t))=u/\min (c2+p2) (s-ins)=t+u/\0<=t/\t<=c2/\0<=u/\u<=p2/\(t=c2\/u=0):=by
 have z:p1-c1-c2=0:=by omega
 rw[z];rcases La c2 (s-ins) with h|h
 ·rw[G0 h];rcases La p2 (s-(ins+c2)) with k|k
  ·exact⟨c2,p2,rfl,by omega,by omega,G0 k,by omega,hc,Qv _,hp,Qv _,.inl rfl⟩
  ·exact⟨c2,s-(ins+c2),rfl,by omega,by omega,GG k,by omega,hc,Qv _,by omega,k,.inl rfl⟩
 ·rw[GG h];exact⟨s-ins,0,rfl,by omega,by omega,by omega,by omega,by omega,h,Qv _,hp,.inr rfl⟩
theorem bare{c1 c2 p1 p2 ins s:Int}(hb:c1+c2<=p1)(hp:p2=0)(hc:0<=c2)(h0:0<=ins)(h1:ins<=s):∃t m w,min c2 (s-ins)=t/\max 0 (ins+t-(p1-c1-c2))=m/\min (ins+t) (p1-c1-c2)=w/\min p2 (s-m)=0/\0<=t/\t<=c2 ∧
 ((m=0/\w=ins+t/\ins+t<=p1-c1-c2)\/(m=ins+t-(p1-c1-c2)/\w=p1-c1-c2/\p1-c1-c2<=ins+t)):=by
 obtain⟨t,ht,t0,t1,t2⟩:∃t,min c2 (s-ins)=t/\0<=t/\t<=c2/\ins+t<=s:=⟨_,rfl,by omega (config:={}),by omega (config:={}),by omega (config:={})⟩
 rw[ht];rcases La (ins+t) (p1-c1-c2) with h|h
 ·exact⟨t,0,ins+t,rfl,by omega (config:={}),G0 h,by omega (config:={}),t0,t1,.inl ⟨rfl,rfl,h⟩⟩
 ·exact⟨t,ins+t-(p1-c1-c2),p1-c1-c2,rfl,by omega (config:={}),GG h,by omega (config:={}),t0,t1,.inr ⟨rfl,rfl,h⟩⟩
noncomputable def goS(s:Int):Int->List Pr->List Pr
 | _,[]=>[]
 | ins,[p]=>[(p.1+min p.2 (s-ins),p.2-min p.2 (s-ins)+(ins+min p.2 (s-ins)))]
 | ins,p::q::r=>(p.1+min p.2 (s-ins),p.2-min p.2 (s-ins)+min (ins+min p.2 (s-ins)) (q.1-p.1-p.2))::goS s (max 0 (ins+min p.2 (s-ins)-(q.1-p.1-p.2))) (q::r)
theorem JX(s ins:Int)(p q:Pr)(r:List Pr):goS s ins (p::q::r)=(p.1+min p.2 (s-ins),p.2-min p.2 (s-ins)+min (ins+min p.2 (s-ins)) (q.1-p.1-p.2))::goS s (max 0 (ins+min p.2 (s-ins)-(q.1-p.1-p.2))) (q::r):=rfl
theorem Vp{s:Int}:∀(ps:List Pr) (ins:Int),Good ps->0<=ins->ins<=s-1->Good (goS s ins ps)/\∀q,(goS s ins ps)[0]?=some q->∀p,ps[0]?=some p->q.1=p.1+min p.2 (s-ins)
 | [],_,_,_,_=>⟨Good.nil,fun q e=>by simp[goS] at e⟩
 | [p],ins,g,h0,h1=>by
  have hp:=g.one 0 p rfl;refine⟨Good.mk' ?_ (fun q e=>by simp at e) Good.nil,fun q e p' e'=>?_⟩
  ·dsimp only;omega (config:={})
  ·simp[goS] at e e';subst e';rw[<- e]
 | p::q::r,ins,g,h0,h1=>by
  have hp:=g.one 0 p rfl
  have hq:=g.one 1 q rfl
  have hg:=g.gap 0 p q rfl rfl;obtain⟨t,ht,t0,t2⟩:∃t,min p.2 (s-ins)=t/\1<=t/\ins+t<=s:=⟨_,rfl,Int.le_min.mpr ⟨hp,by omega (config:={})⟩,by have:=Kk p.2 (s-ins);omega (config:={})⟩
  have t1:t<=p.2:=by rw[<- ht];exact Mt _ _
  have l1:max 0 (ins+t-(q.1-p.1-p.2))<=s-1:=Mn.mpr ⟨by omega (config:={}),by omega (config:={})⟩
  have w0:1<=min (ins+t) (q.1-p.1-p.2):=Int.le_min.mpr ⟨by omega (config:={}),by omega (config:={})⟩
  have w1:=Kk (ins+t) (q.1-p.1-p.2);obtain⟨i1,i2⟩:=Vp (s:=s) (q::r) (max 0 (ins+t-(q.1-p.1-p.2))) (Good.cons' g) (Ly _ _) l1
  have u0:1<=min q.2 (s-max 0 (ins+t-(q.1-p.1-p.2))):=Int.le_min.mpr ⟨hq,by omega (config:={})⟩;rw[JX,ht]
  have ht':=ht
  clear ht;refine⟨Good.mk' ?_ (fun q' e=>?_) i1,fun q' e p' e'=>?_⟩
  ·dsimp only
   revert w0
   generalize min (ins+t) (q.1-p.1-p.2)=w
   intro w0;omega (config:={})
  ·have i3:=i2 q' e q rfl;dsimp only
   revert w0 w1 u0 i3
   generalize min (ins+t) (q.1-p.1-p.2)=w
   generalize min q.2 _=u
   intro w0 w1 u0 i3;omega (config:={})
  ·simp at e e';subst e';rw[<- e,ht']
theorem Jgi(s:Int):∀(ps:List Pr) (ins:Int),(goS s ins ps).length=ps.length
 | [],_=>rfl
 | [p],_=>rfl
 | p::q::r,ins=>by rw[JX,Qp,Jgi s (q::r)];rfl
theorem Jar:∀(ps:List Pr),Wide 0 ps->goS 0 0 ps=ps
 | [],_=>rfl
 | [p],w=>by
  have hp:=w.one 0 p rfl
  show [(p.1+min p.2 (0-0),p.2-min p.2 (0-0)+(0+min p.2 (0-0)))]=[p]
  congr 1;exact KO (by dsimp only;omega) (by dsimp only;omega)
 | p::q::r,w=>by
  have hp:=w.one 0 p rfl
  have hg:=w.gap 0 p q rfl rfl;rw[JX,show max 0 (0+min p.2 (0-0)-(q.1-p.1-p.2))=0 by omega,Jar (q::r) w.cons];congr 1;exact KO (by dsimp only;omega) (by dsimp only;omega)
theorem Jgh(s:Int):∀(ps:List Pr) (c ins:Int),Good ps->0<=ins->ins<=s-1->byR c (goS s ins ps)=mvP (-1) (goS (s-1) ins (byR c ps))
 | [],_,_,_,_,_=>rfl
 | [p],c,ins,g,h0,h1=>by
  have hp:=g.one 0 p rfl
  show [(p.1+min p.2 (s-ins)-c,p.2-min p.2 (s-ins)+(ins+min p.2 (s-ins))-1)]=[(p.1-c+min (p.2-1) (s-1-ins) - -1,p.2-1-min (p.2-1) (s-1-ins)+(ins+min (p.2-1) (s-1-ins)))]
  congr 1;exact KO (by dsimp only;omega) (by dsimp only;omega)
 | p::q::r,c,ins,g,h0,h1=>by
  have hp:=g.one 0 p rfl
  have hg:=g.gap 0 p q rfl rfl
  have hm:min (p.2-1) (s-1-ins)=min p.2 (s-ins)-1:=by omega
  have ht:=Kk p.2 (s-ins)
  revert hm ht
  generalize ht:min p.2 (s-ins)=t
  intro hm h3;have ih:=Jgh s (q::r) (c+2) (max 0 (ins+t-(q.1-p.1-p.2))) (Good.cons' g) (Ly _ _) (Mn.mpr ⟨by omega,by omega⟩);rw[JX,ht,byR,ih];show _=mvP (-1) (goS (s-1) ins ((p.1-c,p.2-1)::(q.1-(c+2),q.2-1)::byR (c+2+2) r));rw[JX];dsimp only;rw[hm,show q.1-(c+2)-(p.1-c)-(p.2-1)=q.1-p.1-p.2-1 by omega,show ins+(t-1)-(q.1-p.1-p.2-1)=ins+t-(q.1-p.1-p.2) by omega,show min (ins+(t-1)) (q.1-p.1-p.2-1)=min (ins+t) (q.1-p.1-p.2)-1 by omega]
  show _=(p.1-c+(t-1) - -1,p.2-1-(t-1)+(min (ins+t) (q.1-p.1-p.2)-1))::mvP (-1) (goS (s-1) (max 0 (ins+t-(q.1-p.1-p.2))) (byR (c+2) (q::r)));rw[show p.1-c+(t-1) - -1=p.1+t-c by omega,show p.2-1-(t-1)+(min (ins+t) (q.1-p.1-p.2)-1)=p.2-t+min (ins+t) (q.1-p.1-p.2)-1 by omega]
theorem Wm{A B T:Bool}(h:A=B):(A || T)=(B || T):=by rw[h]
noncomputable def inI(a b x:Int):Bool:=decide (a<=x) && decide (x<b)
theorem inI_t{a b x:Int}:inI a b x=true↔a<=x/\x<b:=by unfold inI;simp
theorem Yi(p:Pr)(ps:List Pr)(x:Int):Yp (p::ps) x=(inI p.1 (p.1+p.2) x || Yp ps x):=Yb p ps x
theorem JiB{a b c d e f x:Int}(h:(a<=x/\x<b)↔(c<=x/\x<d)\/(e<=x/\x<f)):inI a b x=(inI c d x || inI e f x):=by rw[Gy,KU,inI_t,inI_t,inI_t];exact h
theorem Js(p:Pr)(ps:List Pr):Jr (p::ps)=(p.1+p.2)::Jr ps:=rfl
theorem Jbo{a c x:Int}(h:c<=a):inI a c x=false:=by rw[Bool.eq_false_iff];intro z;have:=inI_t.mp z;omega
theorem Jbn{a b c d e f x:Int}(h:(c=a/\d=e/\f=b/\c<=d/\e<=f)\/(d<=c/\e=a/\f=b)\/(f<=e/\c=a/\d=b)):inI a b x=(inI c d x || inI e f x):=by
 rcases h with ⟨rfl,rfl,rfl,h1,h2⟩|⟨h1,rfl,rfl⟩|⟨h1,rfl,rfl⟩
 ·exact JiB (by omega (config:={}))
 ·rw[Jbo h1,Kw]
 ·rw[Jbo h1,Bool.or_false]
theorem Jnp{A B C D x:Int}{l:List Int}(h:(A=C/\B=D)\/(A=D/\B=C)):(A::B::l).count x=(C::l).count x+(if D=x then 1 else 0):=by rcases h with ⟨rfl,rfl⟩|⟨rfl,rfl⟩ <;> simp only[QY,beq_iff_eq] <;> omega
theorem Jj1{c1 c2 p1 p2 t u w x:Int}(e:c1+c2=p1)(hz:t=c2\/u=0)(t1:t<=c2)(hw:0<=p2+w):inI (c1+(t+u)) (c1+(t+u)+(c2+p2-(t+u)+w)) x=(inI (c1+t) (c1+t+(c2-t+0)) x || inI (p1+u) (p1+u+(p2-u+w)) x):=by
 subst e;refine Jbn ?_;rcases hz with z|z
 ·exact .inr (.inl ⟨by omega,by omega,by omega⟩)
 ·exact .inl ⟨by omega,by omega,by omega,by omega,by omega⟩
theorem JjZ{c1 c2 p1 p2 t u w:Int}(e:c1+c2=p1)(l:List Int):(c1+t+(c2-t+0))::(p1+u+(p2-u+w))::l=(c1+c2)::(c1+(t+u)+(c2+p2-(t+u)+w))::l:=by rw[show c1+t+(c2-t+0)=c1+c2 by omega,show p1+u+(p2-u+w)=c1+(t+u)+(c2+p2-(t+u)+w) by omega]
theorem Jj2{c1 c2 p1 p2 t v y x:Int}(hp:p2=0)(hk:y=0\/v=p1-c1-c2)(y0:0<=y)(t1:t<=c2)(v0:0<=v):inI (c1+t) (c1+t+(c2-t+(v+y))) x=(inI (c1+t) (c1+t+(c2-t+v)) x || inI (p1+0) (p1+0+(p2-0+y)) x):=by
 refine Jbn ?_;rcases hk with z|z
 ·exact .inr (.inr ⟨by omega,rfl,by omega⟩)
 ·exact .inl ⟨rfl,by omega,by omega,by omega,by omega⟩
theorem Jj0{c1 c2 p1 p2 t v y x:Int}{l:List Int}(hp:p2=0)(hk:y=0\/v=p1-c1-c2):((c1+t+(c2-t+v))::(p1+0+(p2-0+y))::l).count x=((c1+t+(c2-t+(v+y)))::l).count x+(if p1=x then 1 else 0):=by
 refine Jnp ?_;rcases hk with z|z
 ·exact .inl ⟨by omega,by omega⟩
 ·exact .inr ⟨by omega,by omega⟩
theorem Jaq(s x:Int):∀(r:List Pr) (cur:Pr) (ins:Int),0<=cur.2->Wide 0 r->(∀q,r[0]?=some q->cur.1+cur.2<=q.1)->0<=ins->ins<=s ->
 Yp (goS s ins (clF cur r)) x=Yp (goS s ins (cur::r)) x/\(Jr (goS s ins (cur::r))).count x+(Jr (clF cur r)).count x=(Jr (goS s ins (clF cur r))).count x+(Jr (cur::r)).count x
 | [],_,_,_,_,_,_,_=>⟨rfl,rfl⟩
 | p::r,cur,ins,hc,w,hq,h0,h1=>by
  have hp:=w.one 0 p rfl
  have hb:=hq p rfl
  have nx:∀q,r[0]?=some q->p.1+p.2<=q.1:=fun q e=>by have:=w.gap 0 p q rfl (by simpa using e);omega (config:={})
  rw[clF];split
  ·next e =>
   obtain⟨i1,i2⟩:=Jaq s x r (cur.1,cur.2+p.2) ins (by dsimp only;omega (config:={})) w.cons (fun q e'=>by have:=nx q e';dsimp only;omega (config:={})) h0 h1;obtain⟨t,u,ht,hl,hd,hu,hm,t0,t1,u0,u1,hz⟩:=Jov e hc hp h0 h1
   have e2:Jr (cur::p::r)=(cur.1+cur.2)::Jr ((cur.1,cur.2+p.2)::r):=by rw[Js,Js,Js];dsimp only;rw[show cur.1+(cur.2+p.2)=p.1+p.2 by omega (config:={})]
   cases r with
   | nil =>
    have f1:goS s ins [cur,p]=[(cur.1+t,cur.2-t+0),(p.1+u,p.2-u+(ins+t+u))]:=by rw[JX,ht,hl,hd];show _::[(p.1+min p.2 (s-(ins+t)),p.2-min p.2 (s-(ins+t))+(ins+t+min p.2 (s-(ins+t))))]=_;rw[hu]
    have f2:goS s ins [(cur.1,cur.2+p.2)]=[(cur.1+(t+u),cur.2+p.2-(t+u)+(ins+t+u))]:=by show [(cur.1+min (cur.2+p.2) (s-ins),cur.2+p.2-min (cur.2+p.2) (s-ins)+(ins+min (cur.2+p.2) (s-ins)))]=_;rw[hm,MM ins]
    clear ht hl hd hu hm;refine⟨?_,?_⟩
    ·rw[i1,f1,f2,Yi,Yi,Yi,<- Li];exact Wm (Jj1 e hz t1 (by omega (config:={})))
    ·have e1:Jr (goS s ins [cur,p])=(cur.1+cur.2)::Jr (goS s ins [(cur.1,cur.2+p.2)]):=by rw[f1,f2,Js,Js,Js];exact JjZ e _
     rw[e1,e2,QY,QY];omega (config:={})
   | cons q r =>
    have hn:=nx q rfl
    have f1:goS s ins (cur::p::q::r)=(cur.1+t,cur.2-t+0)::(p.1+u,p.2-u+min (ins+t+u) (q.1-p.1-p.2))::goS s (max 0 (ins+t+u-(q.1-p.1-p.2))) (q::r):=by rw[JX,ht,hl,hd,JX,hu]
    have f2:goS s ins ((cur.1,cur.2+p.2)::q::r)=(cur.1+(t+u),cur.2+p.2-(t+u)+min (ins+t+u) (q.1-p.1-p.2))::goS s (max 0 (ins+t+u-(q.1-p.1-p.2))) (q::r):=by rw[JX];dsimp only;rw[hm,show q.1-cur.1-(cur.2+p.2)=q.1-p.1-p.2 by omega (config:={}),show ins+(t+u)=ins+t+u by omega (config:={})]
    clear ht hl hd hu hm;have w0:0<=min (ins+t+u) (q.1-p.1-p.2):=by omega (config:={})
    generalize min (ins+t+u) (q.1-p.1-p.2)=v at w0 f1 f2
    refine⟨?_,?_⟩
    ·rw[i1,f1,f2,Yi,Yi,Yi,<- Li];exact Wm (Jj1 e hz t1 (by omega (config:={})))
    ·have e1:Jr (goS s ins (cur::p::q::r))=(cur.1+cur.2)::Jr (goS s ins ((cur.1,cur.2+p.2)::q::r)):=by rw[f1,f2,Js,Js,Js];exact JjZ e _
     rw[e1,e2,QY,QY];omega (config:={})
  ·next e =>
   split
   ·next hpp =>
    obtain⟨q',e1,e2⟩:=WC r p;obtain⟨i1,i2⟩:=Jaq s x r p (max 0 (ins+min cur.2 (s-ins)-(p.1-cur.1-cur.2))) (by omega (config:={})) w.cons nx (by omega (config:={})) (by omega (config:={}))
    cases hcl:clF p r with
    | nil=>rw[hcl] at e1;cases e1
    | cons y l =>
     rw[hcl] at e1 i1 i2;have:y=q':=by simpa using e1
     subst this;rw[JX,JX,e2];refine⟨?_,?_⟩
     ·rw[Yi,Yi,i1]
     ·rw[Js _ (goS s _ (p::r)),Js cur (y::l),Js _ (goS s _ (y::l)),Js cur (p::r),QY,QY,QY,QY];omega (config:={})
   ·next hpp =>
    have hp0:p.2=0:=by omega (config:={})
    obtain⟨i1,i2⟩:=Jaq s x r cur ins hc w.cons (fun q e'=>by have:=nx q e';omega (config:={})) h0 h1;obtain⟨t,m,v,ht,hl,hd,hu,t0,t1,hz⟩:=bare hb hp0 hc h0 h1;have v0:0<=v:=by rcases hz with ⟨z1,z2,z3⟩|⟨z1,z2,z3⟩ <;> omega (config:={})
    have e2:(Jr (cur::p::r)).count x=(Jr (cur::r)).count x+(if p.1=x then 1 else 0):=by rw[Js,Js,Js];exact Jnp (.inl ⟨rfl,by omega (config:={})⟩)
    cases r with
    | nil =>
     obtain⟨k1,k2,k3⟩:(m+0=0\/v=p.1-cur.1-cur.2)/\ins+t=v+(m+0)/\0<=m+0:=by rcases hz with ⟨z1,z2,z3⟩|⟨z1,z2,z3⟩ <;> omega (config:={})
     have f1:goS s ins [cur,p]=[(cur.1+t,cur.2-t+v),(p.1+0,p.2-0+(m+0))]:=by rw[JX,ht,hl,hd];show _::[(p.1+min p.2 (s-m),p.2-min p.2 (s-m)+(m+min p.2 (s-m)))]=_;rw[hu]
     have f2:goS s ins [cur]=[(cur.1+t,cur.2-t+(v+(m+0)))]:=by show [(cur.1+min cur.2 (s-ins),cur.2-min cur.2 (s-ins)+(ins+min cur.2 (s-ins)))]=_;rw[ht,k2]
     refine⟨?_,?_⟩
     ·rw[i1,f1,f2,Yi,Yi,Yi,<- Li];exact Wm (Jj2 hp0 k1 k3 t1 v0)
     ·rw[show(Jr (goS s ins [cur,p])).count x=(Jr (goS s ins [cur])).count x+(if p.1=x then 1 else 0) by rw[f1,f2,Js,Js,Js];exact Jj0 hp0 k1,e2]
      omega (config:={})
    | cons q r =>
     have hn:=nx q rfl
     obtain⟨y,y0,k1,k2,k3,k4⟩:∃y:Int,0<=y/\min (m+0) (q.1-p.1-p.2)=y/\min (ins+t) (q.1-cur.1-cur.2)=v+y/\max 0 (m+0-(q.1-p.1-p.2))=max 0 (ins+t-(q.1-cur.1-cur.2))/\(y=0\/v=p.1-cur.1-cur.2):=by
      rcases hz with ⟨z1,z2,z3⟩|⟨z1,z2,z3⟩
      ·subst z1 z2;exact⟨0,Qv _,by omega (config:={}),by omega (config:={}),by omega (config:={}),.inl rfl⟩
      ·subst z1 z2;exact⟨_,by omega (config:={}),rfl,by omega (config:={}),by omega (config:={}),.inr rfl⟩
     have f1:goS s ins (cur::p::q::r)=(cur.1+t,cur.2-t+v)::(p.1+0,p.2-0+y)::goS s (max 0 (ins+t-(q.1-cur.1-cur.2))) (q::r):=by rw[JX,ht,hl,hd,JX,hu,k1,k3]
     have f2:goS s ins (cur::q::r)=(cur.1+t,cur.2-t+(v+y))::goS s (max 0 (ins+t-(q.1-cur.1-cur.2))) (q::r):=by rw[JX,ht,k2]
     refine⟨?_,?_⟩
     ·rw[i1,f1,f2,Yi,Yi,Yi,<- Li];exact Wm (Jj2 hp0 k4 y0 t1 v0)
     ·rw[show(Jr (goS s ins (cur::p::q::r))).count x=(Jr (goS s ins (cur::q::r))).count x+(if p.1=x then 1 else 0) by rw[f1,f2,Js,Js,Js];exact Jj0 hp0 k4,e2]
      omega (config:={})
theorem Jcv(s x:Int)(hs:0<=s):∀(ps:List Pr),Wide 0 ps->Yp (goS s 0 (clN ps)) x=Yp (goS s 0 ps) x/\(Jr (goS s 0 ps)).count x+(Jr (clN ps)).count x=(Jr (goS s 0 (clN ps))).count x+(Jr ps).count x
 | [],_=>⟨rfl,rfl⟩
 | p::r,w=>by
  have hp:=w.one 0 p rfl;rw[clN];split
  ·next h=>exact Jaq s x r p 0 hp w.cons (fun q e=>by have:=w.gap 0 p q rfl (by simpa using e);omega) (Qv _) hs
  ·next h =>
   have hp0:p.2=0:=by omega
   obtain⟨i1,i2⟩:=Jcv s x hs r w.cons
   have e:goS s 0 (p::r)=p::goS s 0 r:=by
    cases r with
    | nil =>
     show [(p.1+min p.2 (s-0),p.2-min p.2 (s-0)+(0+min p.2 (s-0)))]=[p]
     congr 1;exact KO (by dsimp only;omega) (by dsimp only;omega)
    | cons q r=>have:=w.gap 0 p q rfl rfl;rw[JX,show max 0 (0+min p.2 (s-0)-(q.1-p.1-p.2))=0 by omega];congr 1;exact KO (by dsimp only;omega) (by dsimp only;omega)
   rw[e];refine⟨?_,?_⟩
   ·rw[i1,Yi,show inI p.1 (p.1+p.2) x=false by
     cases c:inI p.1 (p.1+p.2) x with
     | false=>rfl
     | true=>rw[inI_t] at c;omega]
    rfl
   ·rw[Js,Js p r,QY,QY];omega
theorem JdT(d:Int)(ps:List Pr):Jr (mvP d ps)=(Jr ps).map (·-d):=by unfold Jr mvP;rw[Qt,Qt];exact QE fun p _=>by show p.1-d+p.2=p.1+p.2-d;omega
theorem JiK{c d:Int}{ps:List Pr}(w:Wide c (mvP d ps)):Wide c ps:=by refine⟨fun i p e=>w.one i (p.1-d,p.2) (by unfold mvP;rw[Qn,e];rfl),fun i p q e1 e2=>?_⟩;have:=w.gap i (p.1-d,p.2) (q.1-d,q.2) (by unfold mvP;rw[Qn,e1];rfl) (by unfold mvP;rw[Qn,e2];rfl);dsimp only at this;omega
theorem Jkq{s:Int}(hs:1<=s){ps:List Pr}(g:Good ps):thF (goS s 0 ps)=mvP (-1) (goS (s-1) 0 (thF ps)):=by
 have g1:=(Vp (s:=s) ps 0 g (Qv _) (by omega)).1
 have e:byF (-1) (goS s 0 ps)=mvP (-1) (goS (s-1) 0 (byF (-1) ps)):=by rw[<- Vf,<- Vf];exact Jgh s ps 0 0 g (Qv _) (by omega)
 have w1:Wide 0 (goS (s-1) 0 (byF (-1) ps)):=by have:Wide (1+-1) (byF (-1) (goS s 0 ps)):=(YO g1).bys (k:=-1);rw[e] at this;exact JiK this
 have w0:Wide 0 (byF (-1) ps):=by
  have z:Wide (1+-1) (byF (-1) ps):=(YO g).bys (k:=-1)
  rwa [show(1:Int)+-1=0 by decide] at z
 have gt:=Yj g
 have g2:Good (goS (s-1) 0 (thF ps)):=by
  by_cases h:s-1=0
  ·rw[h,Jar _ ((YO gt).mono (by omega))];exact gt
  ·exact(Vp (s:=s-1) (thF ps) 0 gt (Qv _) (by omega)).1
 have key:clN (goS (s-1) 0 (byF (-1) ps))=goS (s-1) 0 (thF ps):=by
  refine JdF (WD _ w1) g2 fun x=>?_
  rw[Jdi x _ fun p hp=>by obtain⟨i,hi,rfl⟩:=QV.mp hp;exact w1.one i _ (by simp)]
  exact(Jcv (s-1) x (by omega) (byF (-1) ps) w0).1.symm
 show clN (byF (-1) (goS s 0 ps))=_;rw[e,JcJ,key]
theorem Jor{s:Int}(hs:1<=s){ps:List Pr}(g:Good ps)(x:Int):(spF (goS s 0 ps)).count (x+1)+(Jr (thF ps)).count x=(Jr (thF (goS s 0 ps))).count (x+1)+(spF ps).count x:=by
 have w0:Wide 0 (byF (-1) ps):=by
  have z:Wide (1+-1) (byF (-1) ps):=(YO g).bys (k:=-1)
  rwa [show(1:Int)+-1=0 by decide] at z
 have e:byF (-1) (goS s 0 ps)=mvP (-1) (goS (s-1) 0 (byF (-1) ps)):=by rw[<- Vf,<- Vf];exact Jgh s ps 0 0 g (Qv _) (by omega)
 have sb:∀q:List Pr,spF q=Jr (byF (-1) q):=fun q=>by
  have z:=Jhs (-1) q
  rwa [show(-1:Int)+1=0 by omega,Vg] at z
 have cm:∀l:List Int,(l.map (· - -1)).count (x+1)=l.count x:=fun l=>by
  induction l with
  | nil=>rfl
  | cons y l ih =>
   rw[Qe,QY,QY,ih];congr 1
   by_cases h:y=x
   ·subst h;simp
   ·rw[if_neg (by simpa using h),if_neg (by simp;omega)]
 have k:=(Jcv (s-1) x (by omega) (byF (-1) ps) w0).2;rw[sb,e,JdT,cm,Jkq hs g,JdT,cm,sb ps];exact k
theorem JgF:∀{a b:List Pr},(a.map (·.1)).Pairwise (·<·)->(b.map (·.1)).Pairwise (·<·)->(∀p∈a,1<=p.2)->(∀p∈b,1<=p.2)->(∀x,lk x a=lk x b)->a=b
 | [],[],_,_,_,_,_=>rfl
 | [],q::b,_,_,_,h,e=>by
  have:=e q.1;rw[lk,lk,if_pos rfl] at this
  have:=h q Qd;omega
 | p::a,[],_,_,h,_,e=>by
  have:=e p.1;rw[lk,lk,if_pos rfl] at this
  have:=h p Qd;omega
 | p::a,q::b,ha,hb,h1,h2,e=>by
  rw[Qe,Q1] at ha hb
  have out:∀{l:List Pr} {x:Int},(∀y∈l.map (·.1),x<y)->lk x l=0:=fun {l x} h=>by
   induction l with
   | nil=>rfl
   | cons r l ih=>rw[lk,if_neg fun z=>by have:=h r.1 (by simp);omega];exact ih fun y hy=>h y (by rw[Qe];exact Qc _ hy)
  have hp:=h1 p Qd
  have hq:=h2 q Qd
  have ek:p.1=q.1:=by
   rcases Int.lt_trichotomy p.1 q.1 with z|z|z
   ·have:=e p.1;rw[lk,if_pos rfl,lk,if_neg (by omega),out fun y hy=>by have:=hb.1 y hy;omega] at this;omega
   ·exact z
   ·have:=e q.1;rw[lk,if_neg (by omega),lk,if_pos rfl,out fun y hy=>by have:=ha.1 y hy;omega] at this;omega
  have ev:p.2=q.2:=by have:=e p.1;rw[lk,if_pos rfl,lk,if_pos ek.symm] at this;exact this
  have:p=q:=KO ek ev;subst this;rw[JgF ha.2 hb.2 (fun r hr=>h1 r (Qc _ hr)) (fun r hr=>h2 r (Qc _ hr)) fun x=>?_]
  have:=e x;rw[lk,lk] at this
  by_cases c:p.1=x
  ·subst c;rw[out ha.1,out hb.1]
  ·rwa [if_neg c,if_neg c] at this
theorem JdN:∀{a:List Pr} {x:Int},x∉a.map (·.1)->lk x a=0
 | [],_,_=>rfl
 | p::r,x,h=>by rw[lk,if_neg fun z=>h (by rw[<- z];simp)];exact JdN fun m=>h (by rw[Qe];exact Qc _ m)
theorem JiG{a:List Pr}(hn:(a.map (·.1)).Nodup)(h:∀p∈a,1<=p.2)(x:Int):lk x a=((WZ a).count x:Int):=by
 rw[W0,JdU (fun p=>((p.2.toNat:Nat):Int)) hn];split
 ·next m=>obtain⟨p,hp,e⟩:=Qw.mp m;subst e;rw[JcE hn hp];have:=h p hp;dsimp only;omega
 ·next m=>exact JdN m
theorem JaO(l:List Tr):(YW l).map (·.1)=l.map (·.2.1):=by unfold YW;rw[Qt];rfl
theorem JgG{q:List Pr}(g:Good q)(k x:Int):lk x (YW (J4 k q))+((Jr (thF q)).count x:Int)=((spF q).count x:Int):=by
 have pw:=Wj g k;rw[JiG (by rw[JaO];exact pw.imp fun {a b} h=>by omega) fun p hp=>by obtain⟨u,hu,e⟩:=Qw.mp hp;rw[<- e];exact Vt hu]
 have:=((Uf (Jr (thF q)++WZ (YW (J4 k q)))).count_eq x)
 rw[ZY g k,LZ] at this;omega
theorem Jln{s:Int}(hs:1<=s){ps:List Pr}(g:Good ps)(k:Int):J4 k (goS s 0 ps)=(J4 k ps).map fun t=>(t.1,t.2.1+1,t.2.2):=by
 have g1:=(Vp (s:=s) ps 0 g (Qv _) (by omega)).1
 have pr:YW (J4 k (goS s 0 ps))=(YW (J4 k ps)).map fun p=>(p.1+1,p.2):=by
  have pw:=Wj g k
  have pk:(((YW (J4 k ps)).map fun p=>(p.1+1,p.2)).map (·.1))=((J4 k ps).map (·.2.1)).map (·+1):=by rw[<- JaO,Qt,Qt];rfl
  refine JgF (by rw[JaO];exact Wj g1 k) (by
   rw[pk,K9];exact pw.imp fun {a b} h=>by omega) (fun p hp=>by
   obtain⟨u,hu,e⟩:=Qw.mp hp;rw[<- e];exact Vt hu) (fun p hp=>by
   obtain⟨q,hq,e⟩:=Qw.mp hp;obtain⟨u,hu,e'⟩:=Qw.mp hq;rw[<- e,<- e'];exact Vt hu) fun x=>?_
  have sh:∀a:List Pr,lk x (a.map fun p=>(p.1+1,p.2))=lk (x-1) a:=fun a=>by
   induction a with
   | nil=>rfl
   | cons p r ih =>
    rw[Qe,lk,lk,ih];dsimp only
    by_cases c:p.1+1=x
    ·rw[if_pos c,if_pos (by omega)]
    ·rw[if_neg c,if_neg (by omega)]
  rw[sh];have e1:=JgG g1 k x;have e2:=JgG g k (x-1);have e3:=Jor hs g (x-1);rw[show x-1+1=x by omega] at e3;omega
 have back:∀l:List Tr,(∀t∈l,t.1=k)->l=(YW l).map fun p=>(k,p.1,p.2):=fun l h=>by
  unfold YW;rw[Qt];refine(Mo l).symm.trans (QE fun t ht=>?_);show t=(k,t.2.1,t.2.2)
  rw[<- h t ht]
 rw[back (J4 k (goS s 0 ps)) fun t ht=>Uc ht,pr,Qt]
 conv=>rhs;rw[back (J4 k ps) fun t ht=>Uc ht]
 rw[Qt];rfl
theorem Jko:∀(n:Nat) (k s:Int) {ps:List Pr},Good ps->0<=s->tbN n k (goS s 0 ps)=(tbN n k ps).map fun t=>(t.1,t.2.1+min (t.1-k) s,t.2.2)
 | 0,_,_,_,_,_=>rfl
 | n+1,k,s,ps,g,hs=>by
  by_cases h0:s=0
  ·subst h0;rw[Jar ps ((YO g).mono (by omega))];refine(Mo _).symm.trans (QE fun t ht=>?_);have:=Wu _ _ _ t ht;show t=(t.1,t.2.1+min (t.1-k) 0,t.2.2)
   rw[show min (t.1-k) 0=0 by omega,LD]
  ·have h1:1<=s:=by omega
   rw[tbN,tbN,QN,Jln h1 g,Jkq h1 g,Jkc,Jko n (k+1) (s-1) (Yj g) (by omega),Qt];congr 1
   ·refine QE fun t ht=>?_
    rw[Uc ht,show min (k+1-k) s=1 by omega]
   ·refine QE fun t ht=>?_
    have:=Wu _ _ _ t ht
    show(t.1,t.2.1+min (t.1-(k+1)) (s-1) - -1,t.2.2)=(t.1,t.2.1+min (t.1-k) s,t.2.2)
    rw[show t.2.1+min (t.1-(k+1)) (s-1) - -1=t.2.1+min (t.1-k) s by omega]
noncomputable def GpR:Int->List Gp->Prop
 | _,[]=>True
 | k,g::gs=>k<g.1/\g.2≠[]/\(∀p∈g.2,1<=p.2)/\(g.2.map (·.1)).Pairwise (·<·)/\GpR g.1 gs
theorem GpR.keys:∀{gs:List Gp} {k:Int},GpR k gs->(gs.map (·.1)).Pairwise (·<·)/\∀g∈gs,k<g.1
 | [],_,_=>⟨List.Pairwise.nil,fun g h=>(QL h).elim⟩
 | g::gs,k,h=>by
  obtain⟨a1,_,_,_,a5⟩:=h;obtain⟨b1,b2⟩:=GpR.keys a5;refine⟨Q1.mpr ⟨fun x hx=>?_,b1⟩,fun x hx=>?_⟩
  ·obtain⟨y,hy,rfl⟩:=Qw.mp hx;exact b2 y hy
  ·rcases Qg.mp hx with z|z
   ·rw[z];exact a1
   ·have:=b2 x z;omega
noncomputable def tkF(seats:Option Int)(l ins:Int):Int:=match seats with
 | none=>l
 | some s=>min l (s-ins)
noncomputable def goF(seats:Option Int):Int->List Pr->List Pr
 | _,[]=>[]
 | ins,[p]=>[(p.1+tkF seats p.2 ins,p.2-tkF seats p.2 ins+(ins+tkF seats p.2 ins))]
 | ins,p::q::r=>(p.1+tkF seats p.2 ins,p.2-tkF seats p.2 ins+min (ins+tkF seats p.2 ins) (q.1-p.1-p.2))::goF seats (ins+tkF seats p.2 ins-min (ins+tkF seats p.2 ins) (q.1-p.1-p.2)) (q::r)
noncomputable def Yn:Option Int->D
 | none=>.non
 | some s=>.int s
noncomputable def OkS(seats:Option Int):Prop:=∀s,seats=some s->1<=s
noncomputable def Sts(seats:Option Int)(s m:Int):Prop:=seats=some s\/(seats=none/\m<=s)
theorem Jd9(a g:Int):a-min a g=max 0 (a-g):=by
 rcases La a g with h|h
 ·rw[G0 h,Ms (by omega),Int.sub_self]
 ·rw[GG h,Kl (by omega)]
theorem JdD{seats:Option Int}{s:Int}:∀(ps:List Pr) (ins:Int),Good ps->0<=ins->ins<=s->Sts seats s (ins+(ps.map (·.2)).sum)->goF seats ins ps=goS s ins ps
 | [],_,_,_,_,_=>rfl
 | [p],ins,g,h0,h1,hs=>by
  have e:tkF seats p.2 ins=min p.2 (s-ins):=by
   rcases hs with z|⟨z,y⟩
   ·rw[z];rfl
   ·rw[z];simp at y;show p.2=_;omega
  show [(p.1+tkF seats p.2 ins,p.2-tkF seats p.2 ins+(ins+tkF seats p.2 ins))]=_;rw[e];rfl
 | p::q::r,ins,g,h0,h1,hs=>by
  have hp:=g.one 0 p rfl
  have hg:=g.gap 0 p q rfl rfl
  have al:0<=((q::r).map (·.2)).sum:=by have:=UU (Good.all (Good.cons' g));omega
  have e:tkF seats p.2 ins=min p.2 (s-ins):=by
   rcases hs with z|⟨z,y⟩
   ·rw[z];rfl
   ·rw[z];rw[Qe,Qu] at y;show p.2=_;omega
  have t1:=Mt p.2 (s-ins)
  have t2:=Kk p.2 (s-ins)
  have ih:=JdD (seats:=seats) (s:=s) (q::r) (max 0 (ins+min p.2 (s-ins)-(q.1-p.1-p.2))) (Good.cons' g) (Ly _ _) (Mn.mpr ⟨by omega,by omega⟩) (by
   rcases hs with z|⟨z,y⟩
   ·exact .inl z
   ·refine .inr ⟨z,?_⟩;rw[Qe,Qu] at y;have:=Mn (a:=0) (b:=ins+min p.2 (s-ins)-(q.1-p.1-p.2)) (c:=s-((q::r).map (·.2)).sum) |>.mpr ⟨by omega,by omega⟩;omega)
  show(p.1+tkF seats p.2 ins,p.2-tkF seats p.2 ins+min (ins+tkF seats p.2 ins) (q.1-p.1-p.2))::goF seats (ins+tkF seats p.2 ins-min (ins+tkF seats p.2 ins) (q.1-p.1-p.2)) (q::r)=_;rw[e,JX,<- ih,Jd9 (ins+min p.2 (s-ins))]
theorem Jgk(s:Int):∀(ps:List Pr) (ins:Int),Good ps->0<=ins->ins<=s->((goS s ins ps).map (·.2)).sum=(if ps=[] then 0 else ins)+(ps.map (·.2)).sum
 | [],_,_,_,_=>rfl
 | [p],ins,g,h0,h1=>by simp[goS];omega (config:={})
 | p::q::r,ins,g,h0,h1=>by
  have hp:=g.one 0 p rfl
  have hg:=g.gap 0 p q rfl rfl
  have t2:=Kk p.2 (s-ins)
  have ih:=Jgk s (q::r) (max 0 (ins+min p.2 (s-ins)-(q.1-p.1-p.2))) (Good.cons' g) (Ly _ _) (Mn.mpr ⟨by omega (config:={}),by omega (config:={})⟩);rw[if_neg (by simp)] at ih
  have e0:((p::q::r).map (·.2)).sum=p.2+((q::r).map (·.2)).sum:=by rw[Qe,Qu]
  have sm:=Jd9 (ins+min p.2 (s-ins)) (q.1-p.1-p.2);rw[JX,Qe,Qu,ih,e0,if_neg (by simp),<- sm];dsimp only
  generalize min (ins+min p.2 (s-ins)) (q.1-p.1-p.2)=w
  generalize min p.2 (s-ins)=t
  omega (config:={})
theorem Jiw{s:Int}{ps:List Pr}(g:Good ps)(hs:0<=s):((goS s 0 ps).map (·.2)).sum=(ps.map (·.2)).sum:=by rw[Jgk s ps 0 g (Qv _) hs];split <;> omega
theorem Jkp{N:Nat}{ps:List Pr}(g:Good ps)(hN:thN N ps=[]):∀t∈tbN N 0 ps,t.1<=(ps.map (·.2)).sum:=by
 have bl:=Jb8 N 0 g hN
 have asc:=U0 N 0 ps none g (Qv _) (fun b e=>by cases e)
 have an:=YY asc;rw[<- bl]
 clear bl
 revert an
 generalize tbN N 0 ps=l
 intro an
 have key:∀l:List Tr,(∀t∈l,1<=t.1/\1<=t.2.2)->0<=(l.map fun t=>(t.1-0)*t.2.2).sum/\∀t∈l,t.1<=(l.map fun t=>(t.1-0)*t.2.2).sum:=by
  intro l
  induction l with
  | nil=>exact fun _=>⟨Qv _,fun _ h=>by cases h⟩
  | cons u l ih =>
   intro h;obtain⟨i1,i2⟩:=ih fun t ht=>h t (Qc _ ht)
   obtain⟨h1,h2⟩:=h u Qd
   have hm:u.1<=(u.1-0)*u.2.2:=by
    rw[MY];have:=Km h2 (show 0<=u.1 by omega)
    rwa [Int.mul_one] at this
   rw[Qe,Qu];refine⟨by omega,fun t ht=>?_⟩;rcases Qg.mp ht with z|z
   ·rw[z];omega
   ·have:=i2 t z;omega
 exact(key l an).2
noncomputable def YF(seats:Option Int)(x:Int):Int:=match seats with
 | none=>x
 | some s=>min x s
theorem JjD{seats:Option Int}{s x:Int}(h:Sts seats s x):YF seats x=min x s:=by
 rcases h with z|⟨z,y⟩
 ·rw[z];rfl
 ·rw[z];show x=_;omega
theorem Jkb(seats:Option Int)(x:Int):Yd [.sh (.int x),.sh (Yn seats)]=some (.sh (.int (YF seats x))):=by
 unfold Yd
 cases seats with
 | none=>simp only[Yn,YF];walk_at "ev"
 | some s=>simp only[Yn,YF];walk_at "ev"
theorem JoW(seats:Option Int)(h:OkS seats):∃r,J9 [.sh (Yn seats)]=some r:=by
 unfold J9
 cases seats with
 | none=>simp only[Yn];walk_at "ev";exact⟨_,rfl⟩
 | some s=>have:=h s rfl;simp only[Yn];walk_at "ev";rw[decide_eq_false (show ¬s<1 by omega)];walk_at "ev";exact⟨_,rfl⟩
noncomputable abbrev Dd:=Option Int×Int
noncomputable def dE(d:Dd):D:=.tup [Yn d.1,.int d.2]
noncomputable def tot:List Dd->Int->Int
 | [],_=>0
 | d::r,x=>d.2*YF d.1 x+tot r x
theorem Jek(x:Int):∀A B:List Dd,tot (A++B) x=tot A x+tot B x
 | [],B=>by simp[tot]
 | a::A,B=>by rw[KJ,tot,tot,Jek x A B];omega
noncomputable def OkD(d:Dd):Prop:=OkS d.1/\-10 ^ 100<=d.2/\d.2<=10 ^ 100
structure To (N:Nat) (f:Int->Int) (ps qs:List Pr):Prop where
 g:Good qs
 l:qs.length=ps.length
 s:(qs.map (·.2)).sum=(ps.map (·.2)).sum
 e:tbN N 0 qs=(tbN N 0 ps).map fun t=>(t.1,t.2.1+f t.1,t.2.2)
theorem To.comp{N:Nat}{f h:Int->Int}{ps qs rs:List Pr}(a:To N f ps qs)(b:To N h qs rs):To N (fun x=>f x+h x) ps rs :=
 ⟨b.g,b.l.trans a.l,b.s.trans a.s,by
  rw[b.e,a.e,Qt];refine QE fun t _=>?_
  show(t.1,t.2.1+f t.1+h t.1,t.2.2)=(t.1,t.2.1+(f t.1+h t.1),t.2.2)
  rw[MM]⟩
theorem To.refl{N:Nat}{ps:List Pr}(g:Good ps):To N (fun _=>0) ps ps:=⟨g,rfl,rfl,by
 refine(Mo _).symm.trans (QE fun t _=>?_);show t=(t.1,t.2.1+0,t.2.2)
 rw[LD]⟩
theorem To.congr{N:Nat}{f h:Int->Int}{ps qs:List Pr}(a:To N f ps qs)(e:∀x,f x=h x):To N h ps qs:=by have:f=h:=funext e;subst this;exact a
noncomputable def UY(ps:List Pr):Option Int->Int
 | none=>(ps.map (·.2)).sum
 | some s=>s
structure Stp where
 b:Int
 l:Int
 t:Int
 s:Int
noncomputable def stF(most:Int):Int->List (Pr×Int)->List Stp
 | _,[]=>[]
 | load,(p,g)::r=>⟨p.1,p.2,min p.2 (most-load),min (load+min p.2 (most-load)) g⟩::stF most (load+min p.2 (most-load)-min (load+min p.2 (most-load)) g) r
noncomputable def Jc0(ps:List Pr)(seats:Option Int):List Stp:=stF (UY ps seats) 0 (GD ps (Ya ps++[UY ps seats]))
theorem Jd8(most:Int):∀(l:List (Pr×Int)) (load:Int),(stF most load l).length=l.length
 | [],_=>rfl
 | (p,g)::r,load=>by rw[stF,Qp,Jd8 most r];rfl
theorem Jfl(ps:List Pr)(seats:Option Int):(Jc0 ps seats).length=ps.length:=by unfold Jc0;rw[Jd8,GA,QC,VO];simp;omega
noncomputable def VG(x:Stp):Pr:=(x.b+x.t,x.l-x.t+x.s)
noncomputable def YV(ps:List Pr)(seats:Option Int):List Pr:=(Jc0 ps seats).map VG
theorem ZN{most:Int}(hm:1<=most):∀(ps:List Pr) (load:Int),Good ps->0<=load->load<=most ->
 Good ((stF most load (GD ps (Ya ps++[most]))).map VG)/\∀q,((stF most load (GD ps (Ya ps++[most]))).map VG)[0]?=some q->∀p,ps[0]?=some p->q.1=p.1+min p.2 (most-load)
 | [],load,_,_,_=>⟨Good.nil,fun q e=>by simp[Ya,stF] at e⟩
 | [p],load,g,h0,h1=>by
  have hp:=g.one 0 p rfl;refine⟨Good.mk' ?_ (fun q e=>by simp[stF] at e) Good.nil,fun q e r er=>?_⟩
  ·show 1<=p.2-min p.2 (most-load)+min (load+min p.2 (most-load)) most;omega
  ·simp[Ya,stF,VG] at e er;subst er;rw[<- e]
 | p::q::r,load,g,h0,h1=>by
  have hp:=g.one 0 p rfl
  have hq:=g.one 1 q rfl
  have hg:=g.gap 0 p q rfl rfl
  have ih:=ZN hm (q::r) (load+min p.2 (most-load)-min (load+min p.2 (most-load)) (q.1-(p.1+p.2))) (Good.cons' g) (by omega) (by omega)
  have e0:(stF most load (GD (p::q::r) (Ya (p::q::r)++[most]))).map VG=VG ⟨p.1,p.2,min p.2 (most-load),min (load+min p.2 (most-load)) (q.1-(p.1+p.2))⟩::(stF most (load+min p.2 (most-load)-min (load+min p.2 (most-load)) (q.1-(p.1+p.2))) (GD (q::r) (Ya (q::r)++[most]))).map VG:=rfl;rw[e0];refine⟨Good.mk' ?_ (fun q' e=>?_) ih.1,fun q' e p' ep=>?_⟩
  ·show 1<=p.2-min p.2 (most-load)+min (load+min p.2 (most-load)) (q.1-(p.1+p.2));omega
  ·have:=ih.2 q' e q rfl
   show p.1+min p.2 (most-load)+(p.2-min p.2 (most-load)+min (load+min p.2 (most-load)) (q.1-(p.1+p.2)))<q'.1;omega
  ·simp at e ep;subst ep;rw[<- e];rfl
theorem Vw{ps:List Pr}(g:Good ps)(seats:Option Int)(hs:OkS seats)(h:ps≠[]):1<=UY ps seats:=by
 cases seats with
 | some s=>exact hs s rfl
 | none =>
  cases ps with
  | nil=>exact absurd rfl h
  | cons p ps =>
   have h1:=g.one 0 p rfl
   have h2:0<=(ps.map (·.2)).sum:=by
    have al:=Good.all (Good.cons' g)
    clear h1 h g
    induction ps with
    | nil=>exact Qv _
    | cons q ps ih =>
     have a1:=al q Qd
     have a2:=ih fun x hx=>al x (Qc _ hx)
     rw[Qe,Qu];omega
   show 1<=((p::ps).map (·.2)).sum;rw[Qe,Qu];omega
theorem Jcx{ps:List Pr}(g:Good ps)(seats:Option Int)(hs:OkS seats):Good (YV ps seats):=by
 by_cases h:ps=[]
 ·subst h;exact Good.nil
 ·have:=Vw g seats hs h;exact(ZN this ps 0 g (Qv _) (by omega)).1
theorem JeN(ps:List Pr)(seats:Option Int):(YV ps seats).length=ps.length:=by unfold YV;rw[Qq,Jfl]
theorem Jbx(ps:List Pr)(seats:Option Int)(h:ps.length<=1000):Yg [.sh (.lst (ps.map prE)),.sh (Yn seats)]=some (.own ((goF seats 0 ps).map prE)):=by
 unfold Yg;walk_at "ev";rw[Jjp,Gm];refine WX (fun i E=>∃acc ins j4 j5 j6 j7 j8,E=[.sh (.lst (ps.map prE)),.sh (Yn seats),.own (acc.map prE),.sh (.int ins),j4,j5,j6,j7,j8]/\acc++goF seats ins (ps.drop i)=goF seats 0 ps/\acc.length=i) ⟨[],0,.no,.no,.no,.no,.no,rfl,rfl,rfl⟩ ?_ ?_
 ·rintro i E hi ⟨acc,ins,j4,j5,j6,j7,j8,rfl,e,hl⟩;have hi':i<ps.length:=by simpa using hi
  obtain⟨p,r,hd⟩:∃p r,ps.drop i=p::r:=⟨ps[i],ps.drop (i+1),KM hi'⟩
  obtain⟨hp,hr⟩:=Jbb hd;have hg:(ps.map prE)[i]?=some (prE p):=by rw[Qn,hp];rfl
  rw[hd] at e;have hlen:(ps.drop i).length=ps.length-i:=GP;rw[hd,Qp] at hlen;walk_at "ev";rw[Ww hg];simp only[prE];walk_at "ev"
  cases r with
  | nil =>
   have c:¬((i:Int)+1<(ps.length:Int)):=by simp at hlen;omega
   cases seats with
   | none=>simp only[Yn];walk_at "ev";simp only[c];walk_at "ev";refine⟨acc++[(p.1+p.2,p.2-p.2+(ins+p.2))],_,_,_,_,_,_,by simp[prE];exact⟨rfl,rfl,rfl,rfl,rfl,rfl⟩,?_,by simp[hl]⟩;rw[hr,goF,Gh];exact e
   | some s=>simp only[Yn];walk_at "ev";simp only[c];walk_at "ev";refine⟨acc++[(p.1+min p.2 (s-ins),p.2-min p.2 (s-ins)+(ins+min p.2 (s-ins)))],_,_,_,_,_,_,by simp[prE];exact⟨rfl,rfl,rfl,rfl,rfl,rfl⟩,?_,by simp[hl]⟩;rw[hr,goF,Gh];exact e
  | cons q r =>
   have c:(i:Int)+1<(ps.length:Int):=by simp at hlen;omega
   obtain⟨hq,_⟩:=Jbb hr;have hgq:(ps.map prE)[i+1]?=some (prE q):=by rw[Qn,hq];rfl
   have ci:(i:Int)+1=((i+1:Nat):Int):=by omega
   cases seats with
   | none=>simp only[Yn];walk_at "ev";simp only[c];walk_at "ev";rw[ci,Ww hgq];walk_at "ev";rw[U3];walk_at "ev";refine⟨acc++[(p.1+p.2,p.2-p.2+min (ins+p.2) (q.1-p.1-p.2))],_,_,_,_,_,_,by simp[prE];exact⟨rfl,rfl,rfl,rfl,rfl,rfl⟩,?_,by simp[hl]⟩;rw[hr,Gf];exact e
   | some s=>simp only[Yn];walk_at "ev";simp only[c];walk_at "ev";rw[ci,Ww hgq];walk_at "ev";rw[U3];walk_at "ev";refine⟨acc++[(p.1+min p.2 (s-ins),p.2-min p.2 (s-ins)+min (ins+min p.2 (s-ins)) (q.1-p.1-p.2))],_,_,_,_,_,_,by simp[prE];exact⟨rfl,rfl,rfl,rfl,rfl,rfl⟩,?_,by simp[hl]⟩;rw[hr,Gf];exact e
 ·rintro E' ⟨acc,ins,j4,j5,j6,j7,j8,rfl,e,hl⟩;walk_at "ev";have:ps.drop ((ps.length:Int)).toNat=[]:=by simp
  rw[this,goF,Gh] at e;rw[e]
noncomputable def Jfv(seats:Option Int)(most load:Int)(ps:List Pr):Prop:=0<=load/\load<=most/\(seats=some most\/(seats=none/\load+(ps.map (·.2)).sum<=most))
theorem JdA{seats:Option Int}{most load:Int}{p:Pr}{ps:List Pr}(f:Jfv seats most load (p::ps))(h:∀q∈ps,1<=q.2):tkF seats p.2 load=min p.2 (most-load):=by
 obtain⟨_,_,e|⟨e,hs⟩⟩:=f
 ·rw[e];rfl
 ·rw[e];show p.2=_
  have h0:0<=(ps.map (·.2)).sum:=by
   clear hs e
   induction ps with
   | nil=>exact Qv _
   | cons q ps ih =>
    have a1:=h q Qd
    have a2:=ih fun x hx=>h x (Qc _ hx)
    rw[Qe,Qu];omega
  rw[Qe,Qu] at hs;omega
theorem JeL{seats:Option Int}{most load s:Int}{p:Pr}{ps:List Pr}(f:Jfv seats most load (p::ps))(hp:1<=p.2)(h0:0<=s)(h1:s<=load+min p.2 (most-load)):Jfv seats most (load+min p.2 (most-load)-s) ps:=by obtain⟨f0,f1,e⟩:=f;refine⟨by omega,by omega,e.imp id fun⟨e,hs⟩=>⟨e,?_⟩⟩;rw[Qe,Qu] at hs;omega
theorem Jgg{seats:Option Int}{most:Int}:∀(ps:List Pr) (load:Int),Good ps->Jfv seats most load ps->(stF most load (GD ps (Ya ps++[most]))).map VG=goF seats load ps
 | [],_,_,_=>rfl
 | [p],load,g,f=>by
  have hp:=g.one 0 p rfl
  have ht:=JdA f fun q hq=>nomatch hq
  obtain⟨f0,f1,_⟩:=f;show [VG ⟨p.1,p.2,min p.2 (most-load),min (load+min p.2 (most-load)) most⟩]=_;rw[goF,ht];have:min (load+min p.2 (most-load)) most=load+min p.2 (most-load):=by omega
  simp[VG,this]
 | p::q::r,load,g,f=>by
  have hp:=g.one 0 p rfl
  have hg:=g.gap 0 p q rfl rfl
  have ht:=JdA f (Good.all (Good.cons' g))
  have e1:q.1-(p.1+p.2)=q.1-p.1-p.2:=by omega
  have f':=JeL (s:=min (load+min p.2 (most-load)) (q.1-p.1-p.2)) f hp (by obtain⟨f0,f1,_⟩:=f;omega) (by omega)
  have ih:=Jgg (q::r) _ (Good.cons' g) f'
  show VG ⟨p.1,p.2,min p.2 (most-load),min (load+min p.2 (most-load)) (q.1-(p.1+p.2))⟩::(stF most (load+min p.2 (most-load)-min (load+min p.2 (most-load)) (q.1-(p.1+p.2))) (GD (q::r) (Ya (q::r)++[most]))).map VG=_;rw[goF,ht,e1,ih];rfl
theorem Jnz{ps:List Pr}(g:Good ps)(seats:Option Int)(hs:OkS seats):Jfv seats (UY ps seats) 0 ps:=by
 cases seats with
 | some s=>have:=hs s rfl;exact⟨Qv _,by show 0<=s;omega,.inl rfl⟩
 | none =>
  refine⟨Qv _,?_,.inr ⟨rfl,by show 0+_<=(ps.map (·.2)).sum;omega⟩⟩
  by_cases h:ps=[]
  ·subst h;exact Qv _
  ·have:=Vw g none hs h;omega
theorem WJ{ps:List Pr}(g:Good ps)(seats:Option Int)(hs:OkS seats):goF seats 0 ps=YV ps seats:=(Jgg ps 0 g (Jnz g seats hs)).symm
noncomputable def Vv(p:Pr):Pr:=(1-p.1-p.2,p.2)
noncomputable def Yx(ps:List Pr):List Pr:=ps.reverse.map Vv
theorem Je7(p:Pr):Vv (Vv p)=p:=by unfold Vv;dsimp only;rw[show 1-(1-p.1-p.2)-p.2=p.1 by omega]
theorem Ue(ps:List Pr):(Yx ps).length=ps.length:=by unfold Yx;rw[Qq,GL]
theorem Je6(ps:List Pr):Yx (Yx ps)=ps:=by
 unfold Yx;rw[<- Me,List.reverse_reverse,Qt];have:Vv ∘ Vv=id:=by funext p;exact Je7 p
 rw[this,List.map_id]
theorem Vu{ps:List Pr}{j:Nat}{q:Pr}(e:(Yx ps)[j]?=some q):∃p,ps[ps.length-1-j]?=some p/\q=Vv p/\j<ps.length:=by
 unfold Yx at e;rw[Qn,Gx] at e;obtain⟨p,e,rfl⟩:=e;have hj:j<ps.length:=by have:=(Qh.mp e).1;rwa [GL] at this
 rw[GC hj] at e;exact⟨p,e,rfl,hj⟩
theorem WY(ps:List Pr):((Yx ps).map (·.2)).sum=(ps.map (·.2)).sum:=by unfold Yx;rw[Qt,show(fun p:Pr=>p.2) ∘ Vv=(fun p=>p.2) from rfl,Me,List.sum_reverse]
theorem Ur{ps:List Pr}(g:Good ps):Good (Yx ps):=by
 refine⟨fun j q e=>?_,fun j q r e1 e2=>?_⟩
 ·obtain⟨p,h,rfl,_⟩:=Vu e;exact g.one _ p h
 ·obtain⟨p,h,rfl,hj⟩:=Vu e1;obtain⟨p',h',rfl,hj'⟩:=Vu e2;have:ps.length-1-j=ps.length-1-(j+1)+1:=by omega
  rw[this] at h;have:=g.gap _ p' p h' h;unfold Vv;dsimp only;omega
structure GoIx (most:Int) (ps:List Pr) (a t s:Nat->Int):Prop where
 ht:∀i p,ps[i]?=some p->t i=min p.2 (most-a i)
 hs:∀i p q,ps[i]?=some p->ps[i+1]?=some q->s i=min (a i+t i) (q.1-(p.1+p.2))
 hz:∀i p,ps[i]?=some p->ps[i+1]?=none->s i=min (a i+t i) most
 ha:∀i,i<ps.length->a (i+1)=a i+t i-s i
theorem Jj4{most:Int}:∀(ps:List Pr) (a t s:Nat->Int),GoIx most ps a t s->stF most (a 0) (GD ps (Ya ps++[most]))=ps.mapIdx fun i p=>⟨p.1,p.2,t i,s i⟩
 | [],a,t,s,_=>rfl
 | [p],a,t,s,h=>by
  have h1:=h.ht 0 p rfl
  have h2:=h.hz 0 p rfl rfl
  show [(⟨p.1,p.2,min p.2 (most-a 0),min (a 0+min p.2 (most-a 0)) most⟩:Stp)]=[⟨p.1,p.2,t 0,s 0⟩]
  rw[<- h1,<- h2]
 | p::q::r,a,t,s,h=>by
  have h1:=h.ht 0 p rfl
  have h2:=h.hs 0 p q rfl rfl
  have h3:=h.ha 0 (by simp)
  have ih:=Jj4 (q::r) (fun i=>a (i+1)) (fun i=>t (i+1)) (fun i=>s (i+1)) ⟨fun i x e=>h.ht (i+1) x (by simpa using e),fun i x y e1 e2=>h.hs (i+1) x y (by simpa using e1) (by simpa using e2),fun i x e1 e2=>h.hz (i+1) x (by simpa using e1) (by simpa using e2),fun i hi=>h.ha (i+1) (by simp at hi ⊢;omega)⟩;rw[Md]
  show(⟨p.1,p.2,min p.2 (most-a 0),min (a 0+min p.2 (most-a 0)) (q.1-(p.1+p.2))⟩:Stp)::stF most (a 0+min p.2 (most-a 0)-min (a 0+min p.2 (most-a 0)) (q.1-(p.1+p.2))) (GD (q::r) (Ya (q::r)++[most]))=_;rw[<- h1,<- h2,<- h3,ih]
noncomputable def sft(x:Int)(f:Nat->Int):Nat->Int
 | 0=>x
 | i+1=>f i
theorem Jgz{most:Int}:∀(ps:List Pr) (load:Int),∃a t s,a 0=load/\GoIx most ps a t s
 | [],load=>⟨fun _=>load,fun _=>0,fun _=>0,rfl,⟨fun i p e=>by simp at e,fun i p q e=>by simp at e,fun i p e=>by simp at e,fun i hi=>by simp at hi⟩⟩
 | p::ps,load=>by
  let t0:=min p.2 (most-load)
  let s0:=match ps[0]? with
   | some q=>min (load+t0) (q.1-(p.1+p.2))
   | none=>min (load+t0) most
  obtain⟨a,t,s,h0,h⟩:=Jgz (most:=most) ps (load+t0-s0);refine⟨sft load a,sft t0 t,sft s0 s,rfl,⟨fun i x e=>?_,fun i x y e1 e2=>?_,fun i x e1 e2=>?_,fun i hi=>?_⟩⟩
  ·cases i with
   | zero=>simp at e;subst e;rfl
   | succ i=>exact h.ht i x (by simpa using e)
  ·cases i with
   | zero =>
    have e2':ps[0]?=some y:=by simpa using e2
    simp at e1;subst e1;show s0=min (load+t0) _;simp only[s0,e2']
   | succ i=>exact h.hs i x y (by simpa using e1) (by simpa using e2)
  ·cases i with
   | zero =>
    have e2':ps[0]?=none:=by simpa using e2
    simp at e1;subst e1;show s0=min (load+t0) most;simp only[s0,e2']
   | succ i=>exact h.hz i x (by simpa using e1) (by simpa using e2)
  ·cases i with
   | zero=>show a 0=load+t0-s0;exact h0
   | succ i=>exact h.ha i (by simpa using hi)
theorem JdI{most:Int}{ps:List Pr}{a t s:Nat->Int}(g:Good ps)(h:GoIx most ps a t s)(h0:a 0=0)(hm:0<=most):∀i,i<=ps.length->0<=a i/\a i<=most
 | 0,_=>by rw[h0];omega
 | i+1,hi=>by
  obtain⟨b0,b1⟩:=JdI g h h0 hm i (by omega);have e:ps[i]?=some (ps[i]'(by omega)):=by simp
  have ht:=h.ht i _ e
  have ha:=h.ha i (by omega)
  have hp:=g.one i _ e
  cases en:ps[i+1]? with
  | none=>have hs:=h.hz i _ e en;omega
  | some q=>have hs:=h.hs i _ q e en;have:=g.gap i _ q e en;omega
theorem Jgy{most:Int}{ps:List Pr}{a t s:Nat->Int}(g:Good ps)(h:GoIx most ps a t s)(h0:a 0=0)(hm:0<=most):a ps.length=0:=by
 cases hn:ps.length with
 | zero=>exact h0
 | succ n =>
  have e:ps[n]?=some (ps[n]'(by omega)):=by simp
  have ht:=h.ht n _ e
  have ha:=h.ha n (by omega)
  have hs:=h.hz n _ e (by simp[hn]);obtain⟨b0,b1⟩:=JdI g h h0 hm n (by omega)
  have hp:=g.one n _ e;omega
theorem Jas{most:Int}{ps:List Pr}{a t s:Nat->Int}(h:GoIx most ps a t s)(h0:a 0=0):(stF most 0 (GD ps (Ya ps++[most]))).map VG=ps.mapIdx fun i p=>(p.1+t i,p.2-t i+s i):=by
 rw[<- h0,Jj4 ps a t s h];refine Q7 fun j=>?_
 rw[Qn,Qr,Qr,GU];rfl
theorem Jk7{most:Int}{ps:List Pr}{a t s:Nat->Int}(g:Good ps)(hm:0<=most)(h:GoIx most ps a t s)(h0:a 0=0) :
 GoIx most (Yx (ps.mapIdx fun i p=>(p.1+t i,p.2-t i+s i))) (fun j=>a (ps.length-j)) (fun j=>s (ps.length-1-j)) (fun j=>t (ps.length-1-j)):=by
 have key:∀i p,ps[i]?=some p->a (i+1)=a i+t i-s i/\t i=min p.2 (most-a i):=fun i p e=>⟨h.ha i (Qh.mp e).1,h.ht i p e⟩
 have get:∀{j:Nat} {q:Pr},(Yx (ps.mapIdx fun i p=>(p.1+t i,p.2-t i+s i)))[j]?=some q->j<ps.length/\∃p,ps[ps.length-1-j]?=some p/\q=Vv (p.1+t (ps.length-1-j),p.2-t (ps.length-1-j)+s (ps.length-1-j)):=by intro j q e;obtain⟨x,e',rfl,hj⟩:=Vu e;rw[Gr] at e' hj;rw[Qr,Gx] at e';obtain⟨p,e',rfl⟩:=e';exact⟨hj,p,e',rfl⟩
 refine⟨fun j q e=>?_,fun j q r e1 e2=>?_,fun j q e1 e2=>?_,fun j hj=>?_⟩
 ·obtain⟨hj,p,e',rfl⟩:=get e;obtain⟨k1,k2⟩:=key _ p e';have hp:=g.one _ p e';have ei:ps.length-j=ps.length-1-j+1:=by omega
  rw[ei];show s (ps.length-1-j)=min (p.2-t (ps.length-1-j)+s (ps.length-1-j)) _;rw[k1];omega
 ·obtain⟨hj,p,e',rfl⟩:=get e1;obtain⟨hj2,p',e2',rfl⟩:=get e2;obtain⟨k1,k2⟩:=key _ p e';obtain⟨i,hi⟩:∃i,ps.length-1-(j+1)=i:=⟨_,rfl⟩
  have ej:ps.length-1-j=i+1:=by omega
  have ei:ps.length-j=i+2:=by omega
  have hil:i+1<ps.length:=by omega
  rw[hi] at e2';rw[ej] at e' k1 k2;show t (ps.length-1-j)=min (a (ps.length-j)+s (ps.length-1-j)) _;rw[ei,ej,hi,k1];obtain⟨k3,k4⟩:=key _ p' e2';have hs:=h.hs _ p' p e2' e';obtain⟨b0,b1⟩:=JdI g h h0 hm (i+1) (by omega);obtain⟨b2,b3⟩:=JdI g h h0 hm i (by omega);have hg:=g.gap i p' p e2' e';have hp':=g.one i p' e2';unfold Vv;dsimp only;omega
 ·obtain⟨hj,p,e',rfl⟩:=get e1
  have hl:ps.length<=j+1:=by rw[KN,Ue,Gr] at e2;exact e2
  have ej:ps.length-1-j=0:=by omega
  have ei:ps.length-j=1:=by omega
  rw[ej] at e';obtain⟨k1,k2⟩:=key _ p e';show t (ps.length-1-j)=min (a (ps.length-j)+s (ps.length-1-j)) most;rw[ei,ej,k1,h0];have hp:=g.one 0 p e';omega
 ·rw[Ue,Gr] at hj;show a (ps.length-(j+1))=a (ps.length-j)+s (ps.length-1-j)-t (ps.length-1-j);have ei:ps.length-j=ps.length-1-j+1:=by omega
  have ej:ps.length-(j+1)=ps.length-1-j:=by omega
  have k1:=h.ha (ps.length-1-j) (by omega);rw[ei,ej,k1];omega
theorem JgA{most:Int}:∀{ps:List Pr} {a t s:Nat->Int},GoIx most ps a t s->((ps.mapIdx fun i p=>((p.1+t i,p.2-t i+s i):Pr)).map (·.2)).sum=(ps.map (·.2)).sum-a ps.length+a 0
 | [],a,t,s,_=>by simp;omega
 | p::ps,a,t,s,h=>by
  have ih:=JgA (ps:=ps) (a:=fun i=>a (i+1)) (t:=fun i=>t (i+1)) (s:=fun i=>s (i+1)) ⟨fun i x e=>h.ht (i+1) x (by simpa using e),fun i x y e1 e2=>h.hs (i+1) x y (by simpa using e1) (by simpa using e2),fun i x e1 e2=>h.hz (i+1) x (by simpa using e1) (by simpa using e2),fun i hi=>h.ha (i+1) (by simp;omega)⟩
  have h3:=h.ha 0 (by simp);rw[Md,Qe,Qu,ih,Qe,Qu,Qp];dsimp only at ih h3 ⊢;rw[LC] at h3;rw[LC];omega
theorem Jbm{ps:List Pr}(g:Good ps)(seats:Option Int)(hs:OkS seats):((YV ps seats).map (·.2)).sum=(ps.map (·.2)).sum:=by
 by_cases h:ps=[]
 ·subst h;rfl
 ·have hm:=Vw g seats hs h;obtain⟨a,t,s,h0,hi⟩:=Jgz (most:=UY ps seats) ps 0
  have e:YV ps seats=ps.mapIdx fun i p=>(p.1+t i,p.2-t i+s i):=Jas hi h0
  rw[e,JgA hi,Jgy g hi h0 (by omega),h0];omega
theorem Jgn{ps:List Pr}(g:Good ps)(seats:Option Int)(hs:OkS seats):YV (Yx (YV ps seats)) seats=Yx ps:=by
 by_cases h:ps=[]
 ·subst h;rfl
 ·have hm:=Vw g seats hs h;obtain⟨a,t,s,h0,hi⟩:=Jgz (most:=UY ps seats) ps 0
  have e:YV ps seats=ps.mapIdx fun i p=>(p.1+t i,p.2-t i+s i):=Jas hi h0
  have em:UY (Yx (YV ps seats)) seats=UY ps seats:=by
   cases seats with
   | some s=>rfl
   | none=>show((Yx (YV ps none)).map (·.2)).sum=_;rw[WY,Jbm g none hs];rfl
  have hz:(fun j=>a (ps.length-j)) 0=0:=Jgy g hi h0 (by omega)
  have X:=Jas (Jk7 g (by omega) hi h0) hz
  show(stF (UY (Yx (YV ps seats)) seats) 0 (GD (Yx (YV ps seats)) (Ya (Yx (YV ps seats))++[UY (Yx (YV ps seats)) seats]))).map VG=_;rw[em,e,X];refine Q7 fun j=>?_
  rw[Qr]
  by_cases hj:j<ps.length
  ·unfold Yx;rw[Qn,GC (by rw[Gr];exact hj),Gr,Qr,Qn,GC hj]
   cases ps[ps.length-1-j]? with
   | none=>rfl
   | some p=>simp only[Lx,Vv];congr 1;rw[Prod.mk.injEq];constructor <;> omega
  ·have h1:(Yx (ps.mapIdx fun i p=>((p.1+t i,p.2-t i+s i):Pr)))[j]?=none:=by rw[KN,Ue,Gr];omega
   have h2:(Yx ps)[j]?=none:=by rw[KN,Ue];omega
   rw[h1,h2];rfl
noncomputable def Wx(ps:List Pr)(seats:Option Int):List Pr:=Yx (YV (Yx ps) seats)
theorem Jes{ps:List Pr}(g:Good ps)(seats:Option Int)(hs:OkS seats):Good (Wx ps seats):=Ur (Jcx (Ur g) seats hs)
theorem JeO{ps:List Pr}(g:Good ps)(seats:Option Int)(hs:OkS seats):YV (Wx ps seats) seats=ps:=by unfold Wx;rw[Jgn (Ur g) seats hs,Je6]
theorem JfI{ps:List Pr}(g:Good ps)(seats:Option Int)(hs:OkS seats):((Wx ps seats).map (·.2)).sum=(ps.map (·.2)).sum:=by unfold Wx;rw[WY,Jbm (Ur g) seats hs,WY]
theorem Jjn{α β:Type}(f:α->β)(xs:List α):(xs.map f).reverse=xs.reverse.map f:=Me.symm
theorem Jby(ns:List Int)(many span far:Int)(h2:0<=many)(h3:many<=1000)(h4:0<span)(h5:0<=far) :
 JL [.sh (.fz (ns.map .int)),.sh (.int many),.sh (.int span),.sh (.int far)]=some (.own ((spr ns 1 span (cell ns 1 % (2*far+1)-far) many.toNat).2.map prE)):=by
 unfold JL;walk_at "ev";rw[VT _ _ (by omega)];walk_at "ev";rw[Jjp,Gm];refine WX (fun i E=>∃j7 j8,E=[Sl.sh (D.fz (ns.map .int)),Sl.sh (D.int many),Sl.sh (D.int span),Sl.sh (D.int far),Sl.sh (D.int (spr ns 1 span (cell ns 1 % (2*far+1)-far) i).1),Sl.own ((spr ns 1 span (cell ns 1 % (2*far+1)-far) i).2.map prE),j7,j8]) ⟨.no,.no,rfl⟩ ?_ ?_
 ·rintro i E hi ⟨j7,j8,rfl⟩;have hl:=UT ns 1 span (cell ns 1 % (2*far+1)-far) i;have c1:(2:Int)+2*i=1+1+2*i:=by omega
  have c2:(3:Int)+2*i=1+2+2*i:=by omega
  walk_at "ev";rw[VT _ _ (by omega),c1];walk_at "ev";rw[VT _ _ (by omega),c2];walk_at "ev";simp only[spr,QN,Qe,GN];exact⟨_,_,rfl⟩
 ·rintro E' ⟨j7,j8,rfl⟩;walk_at "ev"
theorem JdR(c balls:Int)(hb:0<=balls):∃seats,OkS seats/\JN [.sh (.int c),.sh (.int balls)]=some (.sh (Yn seats)):=by
 have h8:c % 8=0\/c % 8=1\/c % 8=2\/c % 8=3\/c % 8=4\/c % 8=5\/c % 8=6\/c % 8=7:=by omega
 have m0:=GY (c / 8) (b:=max 1 balls) (by omega)
 have hm:0<max 1 balls:=by omega
 unfold JN;walk_at "ev";rcases h8 with h | h | h | h | h | h | h | h <;> rw[h]
 ·exact⟨some 1,fun s e=>by cases e;omega,rfl⟩
 ·exact⟨some 2,fun s e=>by cases e;omega,rfl⟩
 ·exact⟨some 3,fun s e=>by cases e;omega,rfl⟩
 ·exact⟨none,fun s e=>(by cases e),rfl⟩
 ·exact⟨some (1+c / 8 % 9),fun s e=>by cases e;omega,rfl⟩
 ·exact⟨some (max 1 balls),fun s e=>by cases e;omega,rfl⟩
 ·exact⟨some (balls+1),fun s e=>by cases e;omega,rfl⟩
 ·exact⟨some (1+c / 8 % max 1 balls),fun s e=>by cases e;omega,rfl⟩

noncomputable def apT(tb:List Tr):List Pr:=tb.flatMap fun t=>QA t.2.2.toNat (t.1,t.2.1)
theorem JfE:∀{r:List Tr} {b:Pr},Jab (some b) r->∀u∈r,b.1<u.1\/(b.1=u.1/\b.2<u.2.1)
 | [],_,_,_,h=>by cases h
 | t::r,b,h,u,hu=>by
  obtain⟨h1,h2,h3,h4⟩:=h;have h5:=h3 b rfl;rcases Qg.mp hu with z|z
  ·subst z;exact h5
  ·have:=JfE h4 u z;dsimp only at this;omega
theorem JfB{tb:List Tr}{x:Pr}(h:x∈apT tb):∃t∈tb,x=(t.1,t.2.1):=by obtain⟨t,ht,hx⟩:=List.mem_flatMap.mp h;exact⟨t,ht,(LP.mp hx).2⟩
theorem Jcf:∀(tb:List Tr),(∀t∈tb,1<=t.2.2)->((apT tb).length:Int)=Uj tb
 | [],_=>rfl
 | t::tb,h=>by
  have ih:=Jcf tb fun u hu=>h u (Qc _ hu)
  have h1:=h t Qd;unfold apT Uj at ih ⊢;rw[G5,QC,Ky,Qe,Qu,<- ih];omega
noncomputable def JnR(q r:Pr):Prop:=q.1<r.1\/(q.1=r.1/\q.2<=r.2)
theorem JfC:∀{tb:List Tr} {o:Option Pr},Jab o tb->(apT tb).Pairwise JnR
 | [],_,_=>List.Pairwise.nil
 | t::tb,o,h=>by unfold apT;rw[G5];refine G4.mpr ⟨List.pairwise_replicate.mpr (.inr (.inr ⟨rfl,Qv _⟩)),JfC h.2.2.2,fun a ha b hb=>?_⟩;obtain⟨_,rfl⟩:=LP.mp ha;obtain⟨u,hu,rfl⟩:=JfB (tb:=tb) hb;have:=JfE h.2.2.2 u hu;simp only at this;show t.1<u.1\/(t.1=u.1/\t.2.1<=u.2.1);omega
theorem JjW(f:Int->Int):∀(tb:List Tr),apT (tb.map fun t=>(t.1,t.2.1+f t.1,t.2.2))=(apT tb).map fun q=>(q.1,q.2+f q.1)
 | []=>rfl
 | t::tb=>by have ih:=JjW f tb;unfold apT at ih ⊢;rw[Qe,G5,G5,ih,QN,List.map_replicate]
theorem Jda:∀(tb:List Tr) (L:List Pr),tb.foldl (fun L t=>L++QA t.2.2.toNat ((t.1,t.2.1):Pr)) L=L++apT tb
 | [],L=>by simp[apT]
 | t::tb,L=>by rw[QD,Jda tb];unfold apT;rw[G5,Gf]
theorem JdO(ps:List Pr)(N:Nat)(g:Good ps)(h:ps.length<=30)(hN:thN N ps=[]):JU [.sh (.row (ps.map prE))]=some (.own ((apT (tbN N 0 ps)).map prE)):=by
 have asc:=U0 N 0 ps none g (Qv _) (fun b e=>by cases e)
 have ns:=V1 N 0 g hN
 have nm:∀t∈tbN N 0 ps,1<=t.2.2:=fun t ht=>(YY asc t ht).2
 unfold JU;walk_at "ev";rw[JdS ps N g h hN];walk_at "ev";rw[Gm];refine Ud (fun(rest:List Tr) (L:List Pr) E=>∃j2 j3 j4,E=[.sh (.row (ps.map prE)),.own (L.map prE),j2,j3,j4]/\(L.length:Int)+Uj rest<=30/\∀t∈rest,1<=t.2.2) (fun L t=>L++QA t.2.2.toNat (t.1,t.2.1)) [] ⟨.no,.no,.no,rfl,by rw[ns];simp;omega,nm⟩ ?_ ?_
 ·rintro t rest L E ⟨j2,j3,j4,rfl,hz,hr⟩;have h1:=hr t Qd
  have hs:0<=Uj rest:=by have:=(JcK (tb:=rest) fun u hu=>hr u (Qc _ hu)).1;omega
  have hz':(L.length:Int)+(t.2.2+Uj rest)<=30:=by
   have e:Uj (t::rest)=t.2.2+Uj rest:=by unfold Uj;rw[Qe,Qu]
   rw[<- e];exact hz
  simp only[trE];walk_at "ev";rw[Jgb (d:=D.tup [.int t.1,.int t.2.1]) rfl (Jgu ⟨by omega,by omega⟩) (by omega)];walk_at "ev";rw[Ky,if_pos (by omega)];refine⟨.sh (.int t.1),.sh (.int t.2.1),.sh (.int t.2.2),?_,by rw[QC,Ky];omega,fun u hu=>hr u (Qc _ hu)⟩;rw[QN,List.map_replicate];rfl
 ·rintro E' ⟨j2,j3,j4,rfl,_,_⟩;rw[Jda,Gz];walk_at "ev"
theorem JfA{ps:List Pr}{N:Nat}(g:Good ps)(hN:thN N ps=[]):(apT (tbN N 0 ps)).length=ps.length:=by
 have asc:=U0 N 0 ps none g (Qv _) (fun b e=>by cases e)
 have l1:=Jcf _ fun t ht=>(YY asc t ht).2
 have ns:=V1 N 0 g hN;omega
noncomputable def grF:Int->Int->List Pr->List Pr
 | _,_,[]=>[]
 | a,c,(s,b)::r=>(if 0<(b-c) % (s-a) then [(a+(b-c) % (s-a),(b-c) / (s-a)+1)] else [])++(s,(b-c) / (s-a))::grF s b r
noncomputable def vaF:Int->List Pr->Int->Int
 | _,[],_=>0
 | a,(y,g)::r,x=>g*(min x y-min x a)+vaF y r x
noncomputable def Vd:Int->List Pr->Prop
 | _,[]=>True
 | a,(s,_)::r=>a<s/\Vd s r
theorem Jgq:∀(l:List Pr) (a c x:Int),Vd a l->x<=a->vaF a (grF a c l) x=0
 | [],_,_,_,_,_=>rfl
 | (s,b)::r,a,c,x,h,hx=>by
  obtain⟨h1,h2⟩:=h;have ih:=Jgq r s b x h2 (by omega);have m0:=GY (b-c) (b:=s-a) (by omega);rw[grF];split
  ·show((b-c) / (s-a)+1)*(min x (a+(b-c) % (s-a))-min x a)+(((b-c) / (s-a))*(min x s-min x (a+(b-c) % (s-a)))+vaF s (grF s b r) x)=0;rw[ih,show min x (a+(b-c) % (s-a))=x by omega,show min x a=x by omega,show min x s=x by omega];simp
  ·show((b-c) / (s-a))*(min x s-min x a)+vaF s (grF s b r) x=0;rw[ih,show min x a=x by omega,show min x s=x by omega];simp
theorem Jgp{a c s b x:Int}(h:a<s)(hx:s<=x)(r:List Pr):vaF a (grF a c ((s,b)::r)) x=b-c+vaF s (grF s b r) x:=by
 have m0:=GY (b-c) (b:=s-a) (by omega)
 have m1:=KW (b-c) (b:=s-a) (by omega)
 have dm:=Int.mul_ediv_add_emod (b-c) (s-a);rw[grF];split
 ·show((b-c) / (s-a)+1)*(min x (a+(b-c) % (s-a))-min x a)+(((b-c) / (s-a))*(min x s-min x (a+(b-c) % (s-a)))+vaF s (grF s b r) x)=_;rw[show min x (a+(b-c) % (s-a))=a+(b-c) % (s-a) by omega,show min x a=a by omega,show min x s=s by omega]
  have e1:((b-c) / (s-a)+1)*(a+(b-c) % (s-a)-a)+(b-c) / (s-a)*(s-(a+(b-c) % (s-a)))=(s-a)*((b-c) / (s-a))+(b-c) % (s-a):=by
   generalize (b-c) / (s-a)=g
   generalize (b-c) % (s-a)=o
   rw[show a+o-a=o by omega,K2,Ln,Int.mul_sub,Lm,Int.sub_mul,Mp s g,Mp a g];omega
  omega
 ·show((b-c) / (s-a))*(min x s-min x a)+vaF s (grF s b r) x=_;rw[show min x a=a by omega,show min x s=s by omega,Mp];omega
theorem Jcg:∀{l:List Pr} {a:Int},Vd a l->∀p∈l,a<p.1
 | [],_,_,p,hp=>(QL hp).elim
 | (s,b)::r,a,h,p,hp=>by
  rcases Qg.mp hp with e|e
  ·rw[e];exact h.1
  ·have:=Jcg h.2 p e
   have:=h.1;omega
theorem Jj5:∀(l:List Pr) (a c:Int),Vd a l->∀p∈l,vaF a (grF a c l) p.1=p.2-c
 | [],_,_,_,p,hp=>(QL hp).elim
 | (s,b)::r,a,c,h,p,hp=>by
  obtain⟨h1,h2⟩:=h;rcases Qg.mp hp with e|e
  ·subst e;rw[Jgp h1 (Qv _),Jgq r s b s h2 (Qv _)];simp
  ·have:=Jcg h2 p e;rw[Jgp h1 (by omega),Jj5 r s b h2 p e];omega
noncomputable def goP:List Pr->List Dd
 | []=>[]
 | [(_,g)]=>[(none,g)]
 | (y,g)::(y',g')::r=>(some y,g-g')::goP ((y',g')::r)
noncomputable def JcF:Int->List Pr->Int
 | a,[]=>a
 | _,(y,_)::r=>JcF y r
theorem Jgl:∀(r:List Pr) (y g x:Int),x<=JcF y r->tot (goP ((y,g)::r)) x=g*min x y+vaF y r x
 | [],y,g,x,h=>by
  have h':x<=y:=h
  show g*x+0=g*min x y+0;rw[show min x y=x by omega]
 | (y',g')::r,y,g,x,h=>by
  have ih:=Jgl r y' g' x h;rw[goP,tot,ih]
  show(g-g')*min x y+(g'*min x y'+vaF y' r x)=g*min x y+(g'*(min x y'-min x y)+vaF y' r x)
  rw[Int.sub_mul,Int.mul_sub];omega
theorem JgK:∀(l:List Pr) (a c:Int),Vd a l->∀p∈l,p.1<=JcF a (grF a c l)
 | [],_,_,_,p,hp=>(QL hp).elim
 | (s,b)::r,a,c,h,p,hp=>by
  obtain⟨h1,h2⟩:=h
  have e:JcF a (grF a c ((s,b)::r))=JcF s (grF s b r):=by rw[grF];split <;> rfl
  rw[e];rcases Qg.mp hp with e|e
  ·subst e
   clear hp h1 e
   revert h2
   induction r generalizing s b with
   | nil=>intro _;exact Qv _
   | cons q r ih =>
    intro h2;obtain⟨s',b'⟩:=q
    have e:JcF s (grF s b ((s',b')::r))=JcF s' (grF s' b' r):=by rw[grF];split <;> rfl
    rw[e];have:=ih s' b' h2.2;have:=h2.1;show s<=_;simp only at *;omega
  ·exact JgK r s b h2 p e
theorem JjP(l:List Pr)(h:Vd 0 l):∀p∈l,tot (goP (grF 0 0 l)) p.1=p.2:=fun p hp=>by
 have a:=Jj5 l 0 0 h p hp
 have b:=JgK l 0 0 h p hp
 have c:=Jcg h p hp
 revert a b
 cases e:grF 0 0 l with
 | nil=>intro a _;simp only[vaF] at a;show 0=p.2;omega
 | cons q r=>obtain⟨y,g⟩:=q;intro a b;rw[Jgl r y g p.1 b];simp only[vaF] at a;rw[show min p.1 (0:Int)=0 by omega,MY] at a;omega
theorem Jel(x:Int):∀(l:List Dd),tot (l.filter fun d=>decide (d.2≠0)) x=tot l x
 | []=>rfl
 | d::l=>by
  have ih:=Jel x l
  by_cases c:d.2=0
  ·rw[GI (by simp[c]),ih,tot,c];simp
  ·rw[GJ (by simp[c]),tot,tot,ih]
theorem Jbc(l:List Pr):Ua (.tp (.cons (.nm 0) (.cons (.nm 1) .nil))) yes? (Jb 0) [.no,.no] (l.map prE)=some ((l.map (·.1)).map D.int):=by
 rw[Qt];refine J2 fun p _=>?_
 simp only[prE];walk_at "ev";rfl
noncomputable def dkL(l:List Int):List Int:=l.foldl JG []
theorem JfX:∀(l ks:List Int),ks.Pairwise (·<·)->l.Pairwise (·<=·)->(∀k∈ks,∀x∈l,k<=x)->(l.foldl JG ks).Pairwise (·<·)/\∀x,x∈l.foldl JG ks↔x∈ks\/x∈l
 | [],ks,h,_,_=>⟨h,fun x=>by simp⟩
 | n::l,ks,h,hl,hk=>by
  obtain⟨l1,l2⟩:=Q1.mp hl
  have mem:∀x,x∈JG ks n↔x∈ks\/x=n:=fun x=>by
   unfold JG;split
   ·rename_i c;have:=hasK_mem.mp c;exact⟨.inl,fun h=>h.elim id fun e=>e▸this⟩
   ·simp
  have pw:(JG ks n).Pairwise (·<·):=by
   unfold JG;split
   ·exact h
   ·rename_i c;refine G4.mpr ⟨h,by simp,fun a ha b hb=>?_⟩;rw[Gs] at hb;subst hb;have:=hk a ha b Qd;have:a≠b:=fun e=>c (hasK_mem.mpr (e▸ha))
    omega
  obtain⟨i1,i2⟩:=JfX l (JG ks n) pw l2 fun k hk' x hx=>by
   rcases(mem k).mp hk' with e|e
   ·exact hk k e x (Qc _ hx)
   ·rw[e];exact l1 x hx
  refine⟨i1,fun x=>?_⟩;rw[QD,i2,mem,Qg,or_assoc]
theorem JgI(f:Int->Int):∀(ks:List Int) (n:Int),look ks ((ks.map f).map D.int) n=if n∈ks then some (.int (f n)) else none
 | [],n=>rfl
 | k::ks,n=>by
  rw[Qe,Qe,look,JgI f ks n]
  by_cases c:k=n
  ·subst c;simp
  ·have c':¬n=k:=fun e=>c e.symm
   simp[c,c']
theorem JnU(f:Int->Int){ks:List Int}{n:Int}(h:n∉ks):JG ks n=ks++[n]/\putDs ks ((ks.map f).map D.int) n (.int (f n))=((ks++[n]).map f).map D.int:=by unfold JG putDs;rw[if_neg fun z=>h (hasK_mem.mp z),if_neg fun z=>h (hasK_mem.mp z)];exact⟨rfl,by simp⟩
theorem Jka(f:Int->Int):∀ks:List Int,JaA ks ((ks.map f).map D.int)=ks.map fun k=>prE (k,f k)
 | []=>rfl
 | k::ks=>by have ih:=Jka f ks;rw[Qe,Qe,Qe,<- ih];rfl
noncomputable def zzE(f:Int->Int)(q:Pr):D:=.tup [prE q,prE (q.1,q.2+f q.1)]
theorem JhM(f:Int->Int):∀(L:List Pr),GD L (L.map fun q=>((q.1,q.2+f q.1):Pr))=L.map fun q=>(q,((q.1,q.2+f q.1):Pr))
 | []=>rfl
 | q::L=>by rw[Qe,List.zip_cons_cons,JhM f L,Qe]
theorem JdQ(ps qs:List Pr)(N:Nat)(f:Int->Int)(g:Good ps)(h30:ps.length<=30)(hN:(ps.map (·.2)).sum<=(N:Int))(a:To N f ps qs):Yw [.sh (.row (ps.map prE)),.sh (.row (qs.map prE))]=some (.own ((dkL ((apT (tbN N 0 ps)).map (·.1))).map fun k=>prE (k,f k))):=by
 have tN:=Y1 N g hN
 have qN:=Y1 N a.g (by rw[a.s];exact hN)
 have m1:=JdO ps N g h30 tN
 have m2:=JdO qs N a.g (by rw[a.l];exact h30) qN;rw[a.e,JjW] at m2
 have al:=JfA g tN
 revert m1 m2 al
 generalize apT (tbN N 0 ps)=L
 intro m1 m2 al;have s2:(L.map fun q=>((q.1,q.2+f q.1):Pr)).map (·.1)=L.map (·.1):=by rw[Qt];rfl
 unfold Yw;walk_at "ev";rw[m1];walk_at "ev";rw[m2];walk_at "ev";rw[Jbc,Jbc,s2];walk_at "ev";rw[Ja1,JhM,Qt,Gm];refine Ud (f:=zzE f) (fun(rest:List Pr) (ks:List Int) E=>∃j5 j6 j7,E=[.sh (.row (ps.map prE)),.sh (.row (qs.map prE)),.sh (.lst (L.map prE)),.sh (.lst ((L.map fun q=>((q.1,q.2+f q.1):Pr)).map prE)),.od ks ((ks.map f).map .int),j5,j6,j7]/\ks.length+rest.length<=30) (fun ks q=>JG ks q.1) [] ⟨.no,.no,.no,rfl,by rw[al];simpa using h30⟩ ?_ ?_
 ·rintro q rest ks E ⟨j5,j6,j7,rfl,hz⟩;rw[Qp] at hz;simp only[zzE];walk_at "ev";rw[VN,VN];walk_at "ev";rw[U3];walk_at "ev";rw[JgI];rw[show q.2+f q.1-q.2=f q.1 by omega]
  by_cases c:q.1∈ks
  ·rw[if_pos c];walk_at "ev";refine⟨.sh (prE q),.sh (prE (q.1,q.2+f q.1)),.sh (.int (f q.1)),?_,?_⟩
   ·have:JG ks q.1=ks:=by unfold JG;rw[if_pos (hasK_mem.mpr c)]
    rw[this]
   ·have:JG ks q.1=ks:=by unfold JG;rw[if_pos (hasK_mem.mpr c)]
    rw[this];omega
  ·obtain⟨p1,p2⟩:=JnU f c;rw[if_neg c];walk_at "ev";rw[p2];refine⟨.sh (prE q),.sh (prE (q.1,q.2+f q.1)),.sh (.int (f q.1)),?_,?_⟩
   ·rw[p1]
   ·rw[p1,QC,Gn];omega
 ·rintro E' ⟨j5,j6,j7,rfl,hz⟩;have e:L.foldl (fun ks q=>JG ks q.1) []=dkL (L.map (·.1)):=by unfold dkL;rw[List.foldl_map]
  rw[e];walk_at "ev";rw[Jka]
theorem Jcm(g d B:Int)(hd:0<d)(h:-B<=g/\g<=B):-B<=g / d/\g / d<=B:=by
 have hB:0<=B:=by omega
 constructor
 ·rw[Int.le_ediv_iff_mul_le hd]
  have:B<=B*d:=by have:=Km (show(1:Int)<=d by omega) hB;omega
  rw[Int.neg_mul];omega
 ·have:g / d<B+1:=by rw[Int.ediv_lt_iff_lt_mul hd];have:=Km (show(1:Int)<=d by omega) (show 0<=B+1 by omega);omega
  omega
noncomputable def grB(a c s b:Int):List Pr:=(if 0<(b-c) % (s-a) then [(a+(b-c) % (s-a),(b-c) / (s-a)+1)] else [])++[(s,(b-c) / (s-a))]
theorem JdE:∀(l P:List Pr) (a c:Int),∃a' c',l.foldl (fun(S:List Pr×Int×Int) p=>(S.1++grB S.2.1 S.2.2 p.1 p.2,p.1,p.2)) (P,a,c)=(P++grF a c l,a',c')
 | [],P,a,c=>⟨a,c,by simp[grF]⟩
 | (s,b)::r,P,a,c=>by obtain⟨a',c',e⟩:=JdE r (P++grB a c s b) s b;refine⟨a',c',?_⟩;rw[QD];show MP _ (P++grB a c s b,s,b) r=_;rw[e,grF];unfold grB;simp
theorem Je3(l:List Pr)(hl:l.length<=30)(h:Vd 0 l)(hb:∀p∈l,p.1<=10 ^ 100/\-10 ^ 100<=p.2/\p.2<=10 ^ 100):YK [.sh (.lst (l.map prE))]=some (.own ((grF 0 0 l).map prE)):=by
 have big:(10:Int) ^ 100<=((10 ^ 150:Nat):Int):=by decide +kernel
 have big2:4*(10:Nat) ^ 150<=10 ^ 200:=by decide +kernel
 unfold YK;walk_at "ev";rw[Gm];refine Ud (fun(rest:List Pr) (S:List Pr×Int×Int) E=>∃j3 j4 j5 j6 j7,E=[.sh (.lst (l.map prE)),.own (S.1.map prE),.sh (prE (S.2.1,S.2.2)),j3,j4,j5,j6,j7]/\S.1.length+2*rest.length<=100/\Vd S.2.1 rest/\(0<=S.2.1/\S.2.1<=10 ^ 100/\-10 ^ 100<=S.2.2/\S.2.2<=10 ^ 100)/\∀p∈rest,p.1<=10 ^ 100/\-10 ^ 100<=p.2/\p.2<=10 ^ 100) (fun S p=>(S.1++grB S.2.1 S.2.2 p.1 p.2,p.1,p.2)) ([],0,0) ⟨.no,.no,.no,.no,.no,rfl,by simp;omega,h,by decide +kernel,hb⟩ ?_ ?_
 ·rintro⟨s,b⟩ rest ⟨P,a,c⟩ E ⟨j3,j4,j5,j6,j7,rfl,hz,hasc,⟨a0,a1,c0,c1⟩,hr⟩;obtain⟨h1,h2⟩:=hasc;obtain⟨b0,b1,b2⟩:=hr (s,b) Qd;simp only at h1 h2 a0 a1 c0 c1 b0 b1 b2 hz ⊢;rw[Qp] at hz;have d1:0<s-a/\(s-a).natAbs<=10 ^ 200:=⟨by omega,by omega⟩
  have q:=Jcm (b-c) (s-a) (2*10 ^ 100) (by omega) (by omega)
  have d2:((b-c) / (s-a)).natAbs<=10 ^ 200/\(s-a).natAbs<=10 ^ 200:=⟨by omega,d1.2⟩
  have em:b-c-(b-c) / (s-a)*(s-a)=(b-c) % (s-a):=by rw[Int.emod_def,Mp]
  simp only[prE];walk_at "ev";have z0:∀x y:D,atI [x,y] 0=some x:=fun _ _=>rfl
  have z1:∀x y:D,atI [x,y] 1=some y:=fun _ _=>rfl
  rw[z0];walk_at "ev";rw[z1];walk_at "ev";rw[z1];walk_at "ev";rw[em]
  by_cases k:0<(b-c) % (s-a)
  ·rw[decide_eq_true k];walk_at "ev";rw[z0];walk_at "ev";refine⟨.sh (.int s),.sh (.int b),.sh (.int (s-a)),.sh (.int ((b-c) / (s-a))),.sh (.int ((b-c) % (s-a))),?_,?_,h2,⟨by omega,by omega,by omega,by omega⟩,fun p hp=>hr p (Qc _ hp)⟩
   ·unfold grB;rw[if_pos k];simp only[QN,Qe,GN,Gf,KJ,Gz];rfl
   ·unfold grB;rw[if_pos k];simp;omega
  ·rw[decide_eq_false k];walk_at "ev";refine⟨.sh (.int s),.sh (.int b),.sh (.int (s-a)),.sh (.int ((b-c) / (s-a))),.sh (.int ((b-c) % (s-a))),?_,?_,h2,⟨by omega,by omega,by omega,by omega⟩,fun p hp=>hr p (Qc _ hp)⟩
   ·unfold grB;rw[if_neg k];simp only[QN,Qe,GN,Gf,KJ,Gz];rfl
   ·unfold grB;rw[if_neg k];simp;omega
 ·rintro E' ⟨j3,j4,j5,j6,j7,rfl,_⟩;obtain⟨a',c',e⟩:=JdE l [] 0 0;rw[e,Gz];walk_at "ev"
theorem JhY{α:Type}(xs:List α):WE xs (some (-1)) none=xs.drop (xs.length-1):=by unfold WE;rw[HT.JbR];have e:HT.sIx xs.length 0 (some (-1))=(-1+(xs.length:Int)).toNat:=rfl;rw[e,show(-1+(xs.length:Int)).toNat=xs.length-1 by omega];exact Lb (by simp)
theorem Jgm:∀P:List Pr,(GD P (P.drop 1)).map (fun x=>((some x.1.1,x.1.2-x.2.2):Dd))++(P.drop (P.length-1)).map (fun p=>((none,p.2):Dd))=goP P
 | []=>rfl
 | [(y,g)]=>rfl
 | (y,g)::(y',g')::r=>by have ih:=Jgm ((y',g')::r);rw[goP,<- ih];rfl
theorem Jcy:∀(l:List Pr) (a c:Int),(grF a c l).length<=2*l.length
 | [],_,_=>Qk _
 | (s,b)::r,a,c=>by have:=Jcy r s b;rw[grF];split <;> simp <;> omega
theorem Jap:∀P:List Pr,(goP P).length=P.length
 | []=>rfl
 | [_]=>rfl
 | (y,g)::(y',g')::r=>by rw[goP,Qp,Jap ((y',g')::r)];rfl
noncomputable def wyF(l:List Pr):List Dd:=(goP (grF 0 0 l)).filter fun d=>decide (d.2≠0)
theorem Jls(ps qs:List Pr)(l:List Pr)(hl:l.length<=30)(h:Vd 0 l)(hb:∀p∈l,p.1<=10 ^ 100/\-10 ^ 100<=p.2/\p.2<=10 ^ 100)(hm:Yw [.sh (.row (ps.map prE)),.sh (.row (qs.map prE))]=some (.own (l.map prE))):Uk [.sh (.row (ps.map prE)),.sh (.row (qs.map prE))]=some (.own ((wyF l).map dE)):=by
 have gl:=Jcy l 0 0
 have pl:=Jap (grF 0 0 l)
 have mg:=Je3 l hl h hb
 have gz:=Jgm (grF 0 0 l);unfold wyF
 revert gl pl mg gz
 generalize grF 0 0 l=P
 intro gl pl mg gz;unfold Uk;walk_at "ev";rw[hm];walk_at "ev";rw[mg];walk_at "ev";rw[Ja9,<- ML,Ja1];walk_at "ev";have hz:(GD P (P.drop 1)).length<=16777216:=by rw[GA];omega
 rw[if_pos hz,J2 (g:=fun x=>dE (some x.1.1,x.1.2-x.2.2))]
 ·walk_at "ev";rw[JhY,Qq,<- ML];rw[J2 (g:=fun p:Pr=>dE (none,p.2))]
  ·walk_at "ev"
   have ez:(GD P (P.drop 1)).map (fun x=>dE (some x.1.1,x.1.2-x.2.2))++(P.drop (P.length-1)).map (fun p:Pr=>dE (none,p.2))=(goP P).map dE:=by rw[<- gz,QN,Qt,Qt];rfl
   have hd:(P.drop (P.length-1)).length<=16777216:=by rw[GP];omega
   rw[if_pos hd];walk_at "ev";have hs:(GD P (P.drop 1)).length+(P.drop (P.length-1)).length<=16777216:=by rw[GA,GP,GP];omega
   rw[if_pos hs];walk_at "ev";rw[ez];rw[Jak (k:=fun d:Dd=>decide (d.2≠0)) (g:=dE)]
   ·walk_at "ev"
   ·intro d _;obtain⟨o,v⟩:=d;have z1:∀x y:D,atI [x,y] 1=some y:=fun _ _=>rfl
    simp only[dE];walk_at "ev";rw[z1];walk_at "ev";simp
  ·intro p _;simp only[prE];walk_at "ev";rfl
 ·intro x _;walk_at "ev";rw[U3,VN,VN];walk_at "ev";rfl
theorem To.uniq2{N:Nat}{f h:Int->Int}{ps qs rs:List Pr}(hp:ps.length<=30)(hN:(ps.map (·.2)).sum<=(N:Int))(a:To N f ps qs)(b:To N h ps rs)(hf:∀t∈tbN N 0 ps,f t.1=h t.1):qs=rs:=by
 have t1:=Y1 N a.g (by rw[a.s];exact hN)
 have t2:=Y1 N b.g (by rw[b.s];exact hN)
 have r1:=(Jhj qs.length N 0 (Qk _) a.g (by rw[a.l];exact hp) t1).1
 have r2:=(Jhj rs.length N 0 (Qk _) b.g (by rw[b.l];exact hp) t2).1;rw[<- r1,<- r2,a.e,b.e,QE fun t ht=>by rw[hf t ht]]
theorem To.off{N:Nat}{f h:Int->Int}{ps qs:List Pr}(a:To N f ps qs)(b:To N h ps qs):∀t∈tbN N 0 ps,f t.1=h t.1:=by
 have e:=a.e.symm.trans b.e;intro t ht
 have:=List.map_inj_left.mp e t ht
 injection this with _ z
 injection z with z _
 omega
theorem To.neg{N:Nat}{f:Int->Int}{ps qs:List Pr}(g:Good ps)(a:To N f ps qs):To N (fun x=>-f x) qs ps:=⟨g,a.l.symm,a.s.symm,by
 rw[a.e,Qt];refine(Mo _).symm.trans (QE fun t _=>?_);show t=(t.1,t.2.1+f t.1+-f t.1,t.2.2)
 rw[show t.2.1+f t.1+-f t.1=t.2.1 by omega]⟩
theorem JfZ:∀(l ks:List Int),(l.foldl JG ks).length<=ks.length+l.length
 | [],ks=>Qk _
 | x::l,ks=>by
  have:=JfZ l (JG ks x)
  have:(JG ks x).length<=ks.length+1:=by unfold JG;split <;> simp
  rw[QD,Qp];omega
theorem JfF{f:Int->Int}:∀{ks:List Int} {a:Int},ks.Pairwise (·<·)->(∀k∈ks,a<k)->Vd a (ks.map fun k=>(k,f k))
 | [],_,_,_=>trivial
 | k::ks,a,h,ha=>⟨ha k Qd,JfF (Q1.mp h).2 (Q1.mp h).1⟩
noncomputable def szT(T:List Tr):List Int:=dkL ((apT T).map (·.1))
theorem Jhu{T:List Tr}(h:Jab none T)(hs:Uj T<=30):(szT T).Pairwise (·<·)/\(∀x,x∈szT T↔∃t∈T,t.1=x)/\(szT T).length<=30:=by
 have nm:∀t∈T,1<=t.2.2:=fun t ht=>(YY h t ht).2
 have o:((apT T).map (·.1)).Pairwise (·<=·):=K9.mpr ((JfC h).imp fun {a b} z=>by unfold JnR at z;omega);obtain⟨a,b⟩:=JfX ((apT T).map (·.1)) [] List.Pairwise.nil o (fun k hk=>(QL hk).elim);refine⟨a,fun x=>?_,?_⟩
 ·rw[show(x∈szT T)=(x∈((apT T).map (·.1)).foldl JG []) from rfl,b];constructor
  ·rintro(z|z)
   ·exact(QL z).elim
   ·obtain⟨q,hq,rfl⟩:=Qw.mp z;obtain⟨t,ht,rfl⟩:=JfB hq;exact⟨t,ht,rfl⟩
  ·rintro⟨t,ht,rfl⟩;have:=nm t ht;exact .inr (Qw.mpr ⟨(t.1,t.2.1),List.mem_flatMap.mpr ⟨t,ht,LP.mpr ⟨by omega,rfl⟩⟩,rfl⟩)
 ·have l:=JfZ ((apT T).map (·.1)) []
  have:=Jcf T nm;rw[Qq] at l;unfold szT dkL;simp only[Kt] at l;omega
theorem Jj6(B:Int):∀(l:List Pr) (a c:Int),Vd a l->0<=a->(-B<=c/\c<=B)->(∀p∈l,-B<=p.2/\p.2<=B)->∀q∈grF a c l,1<=q.1/\-(2*B+1)<=q.2/\q.2<=2*B+1
 | [],_,_,_,_,_,_,q,hq=>(QL hq).elim
 | (s,b)::r,a,c,h,ha,hc,hl,q,hq=>by
  obtain⟨h1,h2⟩:=h;have hb:-B<=b/\b<=B:=hl (s,b) Qd;have d:=Jcm (b-c) (s-a) (2*B) (by omega) (by omega);rw[grF] at hq;rcases Gb.mp hq with z|z
  ·split at z
   ·rw[Gs] at z;subst z;exact⟨by dsimp only;omega,by dsimp only;omega,by dsimp only;omega⟩
   ·exact(QL z).elim
  ·rcases Qg.mp z with z|z
   ·subst z;exact⟨by dsimp only;omega,by dsimp only;omega,by dsimp only;omega⟩
   ·exact Jj6 B r s b h2 (by omega) hb (fun p hp=>hl p (Qc _ hp)) q z
theorem Jj3(M:Int):∀(P:List Pr),(∀q∈P,1<=q.1/\-M<=q.2/\q.2<=M)->∀d∈goP P,OkS d.1/\-(2*M)<=d.2/\d.2<=2*M
 | [],_,d,hd=>(QL hd).elim
 | [(y,g)],h,d,hd=>by have:=h (y,g) Qd;rw[goP,Gs] at hd;subst hd;refine⟨fun s e=>(nomatch e),?_,?_⟩ <;> dsimp only at*<;> omega
 | (y,g)::(y',g')::r,h,d,hd=>by
  have h1:=h (y,g) Qd
  have h2:=h (y',g') (Qc _ Qd);rw[goP] at hd;rcases Qg.mp hd with z|z
  ·subst z;refine⟨fun s e=>?_,?_,?_⟩
   ·cases e;exact h1.1
   ·dsimp only at *;omega
   ·dsimp only at *;omega
  ·exact Jj3 M ((y',g')::r) (fun q hq=>h q (Qc _ hq)) d z
theorem Jgr:∀(l:List Pr) (a:Int),(∀p∈l,p.2=0)->∀q∈grF a 0 l,q.2=0
 | [],_,_,q,hq=>(QL hq).elim
 | (s,b)::r,a,hl,q,hq=>by
  have hb:b=0:=hl (s,b) Qd;subst hb;rw[grF] at hq;rcases Gb.mp hq with z|z
  ·rw[if_neg (by simp)] at z;exact(QL z).elim
  ·rcases Qg.mp z with z|z
   ·subst z;simp
   ·exact Jgr r s (fun p hp=>hl p (Qc _ hp)) q z
theorem Jgj:∀(P:List Pr),(∀q∈P,q.2=0)->∀d∈goP P,d.2=0
 | [],_,d,hd=>(QL hd).elim
 | [(y,g)],h,d,hd=>by have:=h (y,g) Qd;rw[goP,Gs] at hd;subst hd;exact this
 | (y,g)::(y',g')::r,h,d,hd=>by
  have h1:=h (y,g) Qd
  have h2:=h (y',g') (Qc _ Qd);rw[goP] at hd;rcases Qg.mp hd with z|z
  ·subst z;dsimp only at *;omega
  ·exact Jgj ((y',g')::r) (fun q hq=>h q (Qc _ hq)) d z
theorem Jm1{l:List Pr}(h:∀p∈l,p.2=0):wyF l=[]:=by
 unfold wyF;refine Mm.mpr fun d hd=>?_
 have:=Jgj _ (Jgr l 0 h) d hd;simp[this]
noncomputable def okW:Option Int->List Dd->Prop
 | _,[]=>True
 | l,d::r=>(∃a,l=some a/\∀s,d.1=some s->a<s)/\d.2≠0/\okW d.1 r
theorem Jgo:∀(l:List Pr) (a c:Int),Vd a l->Vd a (grF a c l)
 | [],_,_,_=>trivial
 | (s,b)::r,a,c,h=>by
  obtain⟨h1,h2⟩:=h;have m1:=KW (b-c) (b:=s-a) (by omega);have ih:=Jgo r s b h2;rw[grF];split
  ·rename_i k;exact⟨by omega,by omega,ih⟩
  ·exact⟨h1,ih⟩
theorem Jcw:∀(P:List Pr) (a a':Int),Vd a P->a'<=a->okW (some a') ((goP P).filter fun d=>decide (d.2≠0))
 | [],_,_,_,_=>trivial
 | [(y,g)],a,a',h,ha=>by
  rw[goP]
  by_cases c:g=0
  ·rw[GI (by simp[c])];trivial
  ·rw[GJ (by simp[c])];exact⟨⟨a',rfl,fun s e=>nomatch e⟩,c,trivial⟩
 | (y,g)::(y',g')::r,a,a',h,ha=>by
  obtain⟨h1,h2⟩:=h;rw[goP]
  by_cases c:g-g'=0
  ·rw[GI (by simp[c])];exact Jcw ((y',g')::r) y a' h2 (by omega)
  ·rw[GJ (by simp[c])];refine⟨⟨a',rfl,fun s e=>?_⟩,c,Jcw ((y',g')::r) y y h2 (Qv _)⟩;cases e;omega
theorem Jfn{N:Nat}{f:Int->Int}{ps qs:List Pr}(g:Good ps)(h30:ps.length<=30)(hN:(ps.map (·.2)).sum<=(N:Int))(a:To N f ps qs)(hB:∀t∈tbN N 0 ps,t.1<=10 ^ 40/\-10 ^ 60<=f t.1/\f t.1<=10 ^ 60) :
 ∃W:List Dd,Uk [.sh (.row (ps.map prE)),.sh (.row (qs.map prE))]=some (.own (W.map dE))/\W.length<=60/\(∀d∈W,OkD d)/\(∀t∈tbN N 0 ps,tot W t.1=f t.1)/\((∀t∈tbN N 0 ps,f t.1=0)->W=[])/\W.length<=2*(szT (tbN N 0 ps)).length/\okW (some 0) W:=by
 have tN:=Y1 N g hN
 have asc:=U0 N 0 ps none g (Qv _) (fun b e=>by cases e)
 have ns:=V1 N 0 g tN
 have mv:=JdQ ps qs N f g h30 hN a;obtain⟨s1,s2,s3⟩:=Jhu asc (by omega);rw[show(dkL ((apT (tbN N 0 ps)).map (·.1))).map (fun k=>prE (k,f k))=((szT (tbN N 0 ps)).map fun k=>((k,f k):Pr)).map prE by rw[Qt];rfl] at mv
 have p1:∀k∈szT (tbN N 0 ps),0<k:=fun k hk=>by obtain⟨t,ht,rfl⟩:=(s2 k).mp hk;have:=(YY asc t ht).1;omega
 have ap:=JfF (f:=f) s1 p1
 have hl:((szT (tbN N 0 ps)).map fun k=>((k,f k):Pr)).length<=30:=by rw[Qq];exact s3
 have hb:∀p∈(szT (tbN N 0 ps)).map fun k=>((k,f k):Pr),p.1<=10 ^ 40/\-10 ^ 60<=p.2/\p.2<=10 ^ 60:=fun p hp=>by obtain⟨k,hk,rfl⟩:=Qw.mp hp;obtain⟨t,ht,rfl⟩:=(s2 k).mp hk;exact hB t ht
 have mw:=Jls ps qs _ hl ap (fun p hp=>by have:=hb p hp;omega) mv
 have lw:(wyF ((szT (tbN N 0 ps)).map fun k=>((k,f k):Pr))).length<=2*(szT (tbN N 0 ps)).length:=by unfold wyF;refine Q4 (Mz _ _) ?_;have:=Jcy ((szT (tbN N 0 ps)).map fun k=>((k,f k):Pr)) 0 0;rw[Qq] at this;rw[Jap];exact this
 refine⟨_,mw,by omega,fun d hd=>?_,fun t ht=>?_,fun h0=>?_,lw,Jcw _ 0 0 (Jgo _ 0 0 ap) (Qv _)⟩
 ·unfold wyF at hd;have b:=Jj3 _ _ (Jj6 (10 ^ 60) _ 0 0 ap (Qv _) (by omega) fun p hp=>(hb p hp).2) d (Lo.mp hd).1;exact⟨b.1,by omega,by omega⟩
 ·unfold wyF;rw[Jel];exact JjP _ ap (t.1,f t.1) (Qw.mpr ⟨t.1,(s2 _).mpr ⟨t,ht,rfl⟩,rfl⟩)
 ·refine Jm1 fun p hp=>?_
  obtain⟨k,hk,rfl⟩:=Qw.mp hp;obtain⟨t,ht,rfl⟩:=(s2 k).mp hk;exact h0 t ht
theorem Jkf:∀{a b:List Int},a.Pairwise (·<·)->b.Pairwise (·<·)->(∀x,x∈a↔x∈b)->a=b
 | [],[],_,_,_=>rfl
 | [],y::b,_,_,h=>(QL ((h y).mpr Qd)).elim
 | x::a,[],_,_,h=>(QL ((h x).mp Qd)).elim
 | x::a,y::b,ha,hb,h=>by
  obtain⟨a1,a2⟩:=Q1.mp ha;obtain⟨b1,b2⟩:=Q1.mp hb
  have e:x=y:=by
   rcases Qg.mp ((h x).mp Qd) with z|z
   ·exact z
   ·rcases Qg.mp ((h y).mpr Qd) with w|w
    ·exact w.symm
    ·have:=a1 y w;have:=b1 x z;omega
  subst e;rw[Jkf a2 b2 fun z=>?_];constructor
  ·intro hz;rcases Qg.mp ((h z).mp (Qc _ hz)) with w|w
   ·have:=a1 z hz;omega
   ·exact w
  ·intro hz;rcases Qg.mp ((h z).mpr (Qc _ hz)) with w|w
   ·have:=b1 z hz;omega
   ·exact w
theorem JmJ(xs:List Int):(ZX (fM xs)).Pairwise (·<·):=by have nd:=(Uf (fM xs)).nodup_iff.mpr (Jbj xs);exact((Jb2 (fM xs)).and nd).imp fun {a b} h=>by have:=h.1;have:=h.2;omega
theorem JmK{T:List Tr}(h:Jab none T)(hs:Uj T<=30):ZX (fM (T.map (·.1)))=szT T:=by
 obtain⟨s1,s2,_⟩:=Jhu h hs;refine Jkf (JmJ _) s1 fun x=>?_
 rw[(Uf _).mem_iff,JkT,s2,Qw]
theorem Jd7(ns:List Int)(at' span p0:Int)(h0:0<span):∀i:Nat,p0<=(spr ns at' span p0 i).1/\(spr ns at' span p0 i).1<=p0+i*(2*span+1)/\(∀p∈(spr ns at' span p0 i).2,p0<=p.1/\p.1+p.2<=p0+i*(2*span+1)/\p.2<=span)/\((spr ns at' span p0 i).2.map (·.2)).sum<=i*span
 | 0=>⟨Qv _,by simp[spr],fun p hp=>(by cases hp),by simp[spr]⟩
 | i+1=>by
  obtain⟨a0,a1,a2,a3⟩:=Jd7 ns at' span p0 h0 i;have m1:=GY (cell ns (at'+1+2*i)) (b:=span) (by omega);have m2:=GY (cell ns (at'+2+2*i)) (b:=span) (by omega);have m3:=KW (cell ns (at'+1+2*i)) (b:=span) (by omega);have m4:=KW (cell ns (at'+2+2*i)) (b:=span) (by omega);have e1:((i+1:Nat):Int)*(2*span+1)=i*(2*span+1)+(2*span+1):=by rw[GZ,K2];simp
  have e2:((i+1:Nat):Int)*span=i*span+span:=by rw[GZ,K2];simp
  rw[e1,e2];refine⟨?_,?_,fun p hp=>?_,?_⟩
  ·show p0<=_+(1+_)+1+_;omega
  ·show _+(1+_)+1+_<=_;omega
  ·rcases Gb.mp hp with z|z
   ·have:=a2 p z;omega
   ·have e:p=((spr ns at' span p0 i).1,1+cell ns (at'+1+2*i) % span):=by simpa using z
    subst e;refine⟨a0,?_,?_⟩
    ·show _+(1+_)<=_;omega
    ·show 1+_<=_;omega
  ·simp only[spr,QN,Qe,GN,Lq,Qu,List.sum_nil];omega
theorem JdP(ps:List Pr)(h:ps.length<=1000):J6 [.sh (.lst (ps.map prE))]=some (.own ((Yx ps).map prE)):=by
 have hl:=Ue ps;unfold J6;walk_at "ev";rw[Jjn,J2 (g:=fun p=>prE (Vv p))]
 ·walk_at "ev";have e:ps.reverse.map (fun p=>prE (Vv p))=(Yx ps).map prE:=by unfold Yx;rw[Qt];rfl
  rw[e]
 ·intro p _;simp only[prE];walk_at "ev";rfl
theorem Jcs(a:Int):Zq [.sh (.int a)]=some (.sh (.int (a.natAbs:Int))):=by unfold Zq;simp only;rw[show(if a<0 then -a else a)=(a.natAbs:Int) by split <;> omega]
noncomputable def sgG(z:Int):Int:=if 0<z then 1 else -1
noncomputable def JjF(seats:Option Int)(z:Int)(ps:List Pr):List Pr:=if 0<z then goF seats 0 ps else Yx (goF seats 0 (Yx ps))
noncomputable def goN(seats:Option Int)(z:Int):Nat->List Pr->List Pr
 | 0,ps=>ps
 | n+1,ps=>JjF seats z (goN seats z n ps)
theorem Jca{seats:Option Int}(ok:OkS seats){N:Nat}{ps:List Pr}(g:Good ps)(hN:(ps.map (·.2)).sum<=(N:Int)):To N (fun x=>YF seats x) ps (goF seats 0 ps):=by
 have pos:=UU (Good.all g)
 have tN:=Y1 N g hN
 obtain⟨s,hs1,hst⟩:∃s:Int,1<=s/\Sts seats s (ps.map (·.2)).sum:=by
  cases seats with
  | none=>exact⟨1+(ps.map (·.2)).sum,by omega,.inr ⟨rfl,by omega⟩⟩
  | some s=>exact⟨s,ok s rfl,.inl rfl⟩
 have tl:=Jkp g tN
 have e:=JdD ps 0 g (Qv _) (show 0<=s by omega) (by rw[KH];exact hst);rw[e];refine⟨(Vp ps 0 g (Qv _) (by omega)).1,Jgi s ps 0,Jiw g (by omega),?_⟩;rw[Jko N 0 s g (by omega)];refine QE fun t ht=>?_
 have h':Sts seats s t.1:=by
  rcases hst with z|⟨z,y⟩
  ·exact .inl z
  ·exact .inr ⟨z,by have:=tl t ht;omega⟩
 rw[MY,JjD h']
theorem JmW{seats:Option Int}(ok:OkS seats)(z:Int){N:Nat}{ps:List Pr}(g:Good ps)(hN:(ps.map (·.2)).sum<=(N:Int)):To N (fun x=>sgG z*YF seats x) ps (JjF seats z ps):=by
 unfold JjF sgG;split
 ·exact(Jca ok g hN).congr fun x=>by rw[Ln]
 ·have e1:Yx (goF seats 0 (Yx ps))=Wx ps seats:=by unfold Wx;rw[WJ (Ur g) seats ok]
  rw[e1];have gb:=Jes g seats ok;have t:=Jca ok gb (N:=N) (by rw[JfI g seats ok];exact hN);rw[WJ gb seats ok,JeO g seats ok] at t;exact(t.neg gb).congr fun x=>by rw[Int.neg_mul,Ln]
theorem Jc3{seats:Option Int}(ok:OkS seats)(z:Int){N:Nat}{ps:List Pr}(g:Good ps)(hN:(ps.map (·.2)).sum<=(N:Int)):∀n:Nat,To N (fun x=>(n:Int)*(sgG z*YF seats x)) ps (goN seats z n ps)
 | 0=>(To.refl g).congr fun x=>by simp
 | n+1=>by have ih:=Jc3 ok z g hN n;exact(ih.comp (JmW ok z ih.g (by rw[ih.s];exact hN))).congr fun x=>by rw[GZ,K2];simp
theorem JmI(z y:Int):(z.natAbs:Int)*(sgG z*y)=z*y:=by
 unfold sgG;split
 ·rw[Ln,show(z.natAbs:Int)=z by omega]
 ·rw[<- Int.mul_assoc,show(z.natAbs:Int)*-1=z by omega]
noncomputable def goA(seats:Option Int)(z:Int)(ps:List Pr):List Pr:=goN seats z z.natAbs ps
theorem Jc2{seats:Option Int}(ok:OkS seats)(z:Int){N:Nat}{ps:List Pr}(g:Good ps)(hN:(ps.map (·.2)).sum<=(N:Int)):To N (fun x=>z*YF seats x) ps (goA seats z ps):=(Jc3 ok z g hN z.natAbs).congr fun x=>JmI z _
theorem Jiv(seats:Option Int)(z:Int)(ok:OkS seats){ps:List Pr}(g:Good ps)(n:Nat):(goN seats z n ps).length=ps.length/\Good (goN seats z n ps):=by
 have pos:=UU (Good.all g)
 have t:=Jc3 ok z g (N:=(ps.map fun p:Pr=>p.2).sum.toNat) (by omega) n;exact⟨t.l,t.g⟩
theorem JaE(ps:List Pr)(seats:Option Int)(z:Int)(g:Good ps)(h:ps.length<=30)(ok:OkS seats)(hz:z.natAbs<=1000):Jp [.sh (.lst (ps.map prE)),.sh (Yn seats),.sh (.int z)]=some (.sh (.lst ((goA seats z ps).map prE))):=by
 unfold Jp;walk_at "ev";rw[Jcs];walk_at "ev";rw[K5,Jjp,Gm];refine WX (fun i E=>∃j3,E=[.sh (.lst ((goN seats z i ps).map prE)),.sh (Yn seats),.sh (.int z),j3]) ⟨.no,rfl⟩ ?_ ?_
 ·rintro i E hi ⟨j3,rfl⟩;obtain⟨l1,g1⟩:=Jiv seats z ok g i;rw[goN]
  revert l1 g1
  generalize goN seats z i ps=qs
  intro l1 g1;unfold JjF
  by_cases c:0<z
  ·rw[if_pos c];walk_at "ev";rw[decide_eq_true c];walk_at "ev";rw[Jbx _ _ (by omega)];walk_at "ev";exact⟨_,rfl⟩
  ·rw[if_neg c];walk_at "ev";rw[decide_eq_false c];walk_at "ev";rw[JdP _ (by omega)];walk_at "ev";rw[Jbx _ _ (by rw[Ue];omega)];walk_at "ev";rw[JdP _ (by rw[WJ (Ur g1) seats ok,JeN,Ue];omega)];walk_at "ev";exact⟨_,rfl⟩
 ·rintro E' ⟨j3,rfl⟩;walk_at "ev";rfl
noncomputable def ldT(seats:Option Int):List Pr->Int
 | []=>0
 | p::_=>p.2 / YF seats p.1
noncomputable def ldA(seats:Option Int)(l:List Pr):Bool:=l.all fun p=>decide (p.2=ldT seats l*YF seats p.1)
theorem JaU{seats:Option Int}(ok:OkS seats){x:Int}(h:1<=x):1<=YF seats x/\YF seats x<=x:=by
 cases seats with
 | none=>exact⟨h,Qv _⟩
 | some s=>have:=ok s rfl;show 1<=min x s/\min x s<=x;omega
theorem Jnq(l:List Pr):WE (l.map prE) none (some 1)=(l.take 1).map prE:=by
 unfold WE;rw[HT.JbR,show(1:Int)=((1:Nat):Int) from rfl,HT.Jjr,List.drop_zero,Nat.sub_zero,Qq,List.map_take]
 by_cases h:l.length<=1
 ·rw[Nat.min_eq_right h,Lb (by simp),Lb (by simpa using h)]
 ·rw[Nat.min_eq_left (by omega)]
theorem JnG(ps qs l:List Pr)(seats:Option Int)(ok:OkS seats)(hl:l.length<=30)(hp:∀p∈l,1<=p.1/\p.1<=10 ^ 15/\-10 ^ 15<=p.2/\p.2<=10 ^ 15)(hm:Yw [.sh (.row (ps.map prE)),.sh (.row (qs.map prE))]=some (.own (l.map prE))) :
 YL [.sh (.row (ps.map prE)),.sh (.row (qs.map prE)),.sh (Yn seats)]=some (.sh (if ldA seats l then .int (ldT seats l) else .non)):=by
 obtain⟨r,hr⟩:=JoW seats ok;unfold YL;walk_at "ev";rw[hr];walk_at "ev";rw[hm];walk_at "ev";rw[Jnq,Gm]
 have key:∀(j5 j6:Sl),∃k5 k6,((Uh (.tp (.cons (.nm 5) (.cons (.nm 6) .nil))) (Jm 4 (e2 Jbi (Jb 6) (eU 2 Yd (aC (Jb 5) (aC (Jb 2) a0))))) ((l.take 1).map prE) [.sh (.row (ps.map prE)),.sh (.row (qs.map prE)),.sh (Yn seats),.sh (.lst (l.map prE)),.sh (.int 0),j5,j6]))=some (.nx [.sh (.row (ps.map prE)),.sh (.row (qs.map prE)),.sh (Yn seats),.sh (.lst (l.map prE)),.sh (.int (ldT seats l)),k5,k6]):=by
  intro j5 j6
  cases l with
  | nil=>exact⟨j5,j6,rfl⟩
  | cons p r =>
   refine⟨.sh (.int p.1),.sh (.int p.2),?_⟩;have hb:=hp p Qd;have sb:=JaU ok hb.1
   have d1:0<YF seats p.1/\(YF seats p.1).natAbs<=10 ^ 200:=⟨by omega,by
    have:(10:Nat) ^ 15<=10 ^ 200:=by decide +kernel
    omega⟩
   rw[show(p::r).take 1=[p] from rfl,Qe,GN,Uh];simp only[prE];walk_at "ev";rw[Jkb];walk_at "ev";rw[Uh];rfl
 obtain⟨k5,k6,key⟩:=key .no .no;rw[key];walk_at "ev"
 have tb:l≠[]->∀p∈l,-10 ^ 15<=ldT seats l/\ldT seats l<=10 ^ 15:=fun hne p hpm=>by
  cases l with
  | nil=>exact(hne rfl).elim
  | cons p r =>
   have hb:=hp p Qd
   have sb:=JaU ok hb.1;exact Jcm _ _ _ (by omega) hb.2.2
 rw[J2 (g:=fun p:Pr=>D.bl (decide (p.2=ldT seats l*YF seats p.1)))]
 ·walk_at "ev";rw[Jij (ns:=l.map fun p=>decide (p.2=ldT seats l*YF seats p.1)) (by simp[Sl.q])];walk_at "ev";rw[List.all_map];show _=some (Sl.sh (if ldA seats l then _ else _));unfold ldA;rw[show(id ∘ fun p:Pr=>decide (p.2=ldT seats l*YF seats p.1))=fun p:Pr=>decide (p.2=ldT seats l*YF seats p.1) from rfl];cases (l.all fun p:Pr=>decide (p.2=ldT seats l*YF seats p.1)) <;> walk_at "ev"
 ·intro p hpm;have b1:=tb (fun e=>by rw[e] at hpm;cases hpm) p hpm;simp only[prE];walk_at "ev";rw[Jkb];walk_at "ev"
theorem Jlm{seats:Option Int}{l:List Pr}(h:ldA seats l=true):∀p∈l,p.2=ldT seats l*YF seats p.1:=fun p hp=>of_decide_eq_true (GF.mp h p hp)
theorem Jll{seats:Option Int}(ok:OkS seats){l:List Pr}(hp:∀p∈l,1<=p.1){z:Int}(h:∀p∈l,p.2=z*YF seats p.1):ldA seats l=true:=by
 unfold ldA;refine GF.mpr fun p hpm=>decide_eq_true ?_
 have e:ldT seats l=z:=by
  cases l with
  | nil=>cases hpm
  | cons q r =>
   have h1:=h q Qd
   have sb:=JaU ok (hp q Qd)
   show q.2 / YF seats q.1=z;rw[h1,Int.mul_ediv_cancel _ (by omega)]
 rw[e];exact h p hpm
theorem Ja2(W:List Dd):Ua (.nm 0) yes? (eF Zq (aC (e2 fIx (Jb 0) (eC (.int 1))) a0)) [.no] (W.map dE)=some ((W.map fun d=>(d.2.natAbs:Int)).map D.int):=by
 rw[Qt];refine J2 fun d _=>?_
 obtain⟨o,v⟩:=d;have z1:∀x y:D,atI [x,y] 1=some y:=fun _ _=>rfl
 simp only[dE];walk_at "ev";rw[z1];walk_at "ev";rw[Jcs];rfl
theorem Z9:∀{W:List Dd},∀d∈W,(d.2.natAbs:Int)<=(W.map fun d=>(d.2.natAbs:Int)).sum/\0<=(W.map fun d=>(d.2.natAbs:Int)).sum
 | [],d,hd=>by cases hd
 | c::W,d,hd=>by
  have z:0<=(W.map fun d=>(d.2.natAbs:Int)).sum:=by
   cases W with
   | nil=>exact Qv _
   | cons e W=>exact(Z9 e Qd).2
  rw[Qe,Qu];rcases Qg.mp hd with e|e
  ·subst e;omega
  ·have:=Z9 d e;omega
theorem Jnh{N:Nat}{f:Int->Int}{ps qs:List Pr}(g:Good ps)(h30:ps.length<=30)(hN:(ps.map (·.2)).sum<=(N:Int))(t1:To N f ps qs){W:List Dd}(ok:∀d∈W,OkD d)(lw:W.length<=60)(hf:∀t∈tbN N 0 ps,tot W t.1=f t.1)(a b c j5 j6 o7 o8:Sl) :
 ∃j10 j11 j12,∀T,Jo (xIf (tB? (e2 fLt (eF Zs (aC (Ys (iE true (Jb 9)) (.nm 0) yes? (eF Zq (aC (e2 fIx (Jb 0) (eC (.int 1))) a0)) [none]) a0)) (eC (.int 200)))) (Jo (Jm 10 (Jb 2)) (Jo (Vc (iV 9) (.tp (.cons (.nm 11) (.cons (.nm 12) .nil))) (Jm 10 (eU 3 Jp (aC (Jb 10) (aC (Jb 11) (aC (Jb 12) a0)))))) (xIf (tB? (e2 fNe (Jb 10) (Jb 4))) (YG (eC (.bl false))) Yt))) Yt) T [a,b,.sh (.lst (ps.map prE)),c,.sh (.lst (qs.map prE)),j5,j6,o7,o8,.sh (.lst (W.map dE)),.no,.no,.no,.no,.no]=T [a,b,.sh (.lst (ps.map prE)),c,.sh (.lst (qs.map prE)),j5,j6,o7,o8,.sh (.lst (W.map dE)),j10,j11,j12,.no,.no]:=by
 by_cases hc:(W.map fun d=>(d.2.natAbs:Int)).sum<200
 ·have bd:∀d∈W,d.2.natAbs<=1000:=fun d hd=>by have:=Z9 d hd;omega
  obtain⟨E',hR,he⟩:=JaD (p:=(.tp (.cons (.nm 11) (.cons (.nm 12) .nil)))) (b:=(Jm 10 (eU 3 Jp (aC (Jb 10) (aC (Jb 11) (aC (Jb 12) a0)))))) (f:=dE) (as:=W) (E:=[a,b,.sh (.lst (ps.map prE)),c,.sh (.lst (qs.map prE)),j5,j6,o7,o8,.sh (.lst (W.map dE)),.sh (.lst (ps.map prE)),.no,.no,.no,.no]) (fun(rest pre:List Dd) E=>∃rs j11 j12,E=[a,b,.sh (.lst (ps.map prE)),c,.sh (.lst (qs.map prE)),j5,j6,o7,o8,.sh (.lst (W.map dE)),.sh (.lst (rs.map prE)),j11,j12,.no,.no]/\pre++rest=W/\To N (tot pre) ps rs) (fun pre d=>pre++[d]) [] ⟨ps,.no,.no,rfl,rfl,To.refl g⟩ (by
   rintro⟨o,v⟩ rest pre E ⟨rs,j11,j12,rfl,hW,tt⟩;have hm:((o,v):Dd)∈W:=by rw[<- hW];simp
   have od:=ok _ hm
   have b1:=bd _ hm;simp only at b1;simp only[dE];walk_at "ev";rw[JaE rs o v tt.g (by rw[tt.l];exact h30) od.1 b1];walk_at "ev";refine⟨goA o v rs,.sh (Yn o),.sh (.int v),rfl,by rw[Gf];exact hW,(tt.comp (Jc2 od.1 v tt.g (by rw[tt.s];exact hN))).congr fun x=>?_⟩;rw[Jek]
   show tot pre x+v*YF o x=tot pre x+(v*YF o x+0)
   omega)
  obtain⟨rs,j11,j12,rfl,hW,tt⟩:=hR;rw[Gh] at hW;rw[hW] at tt;have e:=tt.uniq2 h30 hN t1 hf;subst e;refine⟨.sh (.lst (rs.map prE)),j11,j12,fun T=>?_⟩;walk_at "ev";rw[Ja2];walk_at "ev";rw[UP (ns:=W.map fun d=>(d.2.natAbs:Int)) (by simp[Sl.q])];walk_at "ev";rw[decide_eq_true hc];walk_at "ev";rw[he];walk_at "ev"
 ·refine⟨.no,.no,.no,fun T=>?_⟩;walk_at "ev";rw[Ja2];walk_at "ev";rw[UP (ns:=W.map fun d=>(d.2.natAbs:Int)) (by simp[Sl.q])];walk_at "ev";rw[decide_eq_false hc];walk_at "ev"
theorem Wg(T:List Tr):Ua (.nm 0) yes? (e2 fIx (Jb 0) (eC (.int 0))) [.no] (T.map trE)=some ((T.map (·.1)).map D.int):=by
 rw[Qt];refine J2 fun t _=>?_
 have z:∀x y w:D,atI [x,y,w] 0=some x:=fun _ _ _=>rfl
 simp only[trE];walk_at "ev";rw[z];walk_at "ev";rfl
theorem JmU{N:Nat}{f:Int->Int}{ps qs:List Pr}(ns:List Int)(g:Good ps)(h30:ps.length<=30)(hN:(ps.map (·.2)).sum<=(N:Int))(t1:To N f ps qs){W:List Dd}(lw:W.length<=2*(szT (tbN N 0 ps)).length)(hf:∀t∈tbN N 0 ps,tot W t.1=f t.1)
 (hB:∀t∈tbN N 0 ps,t.1<=10 ^ 15/\-10 ^ 15<=f t.1/\f t.1<=10 ^ 15) (b j5 j6 j10 j11 j12:Sl) (balls:Int) (hb:0<=balls) :
 (Jo (Jm 13 (eU 2 JN (aC (eU 2 Jw (aC (Jb 0) (aC (eC (.int 18)) a0))) (aC (Jb 3) a0)))) (Jo (Jm 14 (eU 3 YL (aC (Jb 7) (aC (Jb 8) (aC (Jb 13) a0))))) (Jo (xIf (tAnd? (tB? (e2 U2 (Jb 14) (eC .non))) (tAnd? (tB? (e2 fLt (eF Zq (aC (Jb 14) a0)) (eC (.int 200)))) (tB? (e2 fNe (eU 3 Jp (aC (Jb 2) (aC (Jb 13) (aC (Jb 14) a0)))) (Jb 4))))) (YG (eC (.bl false))) Yt) (Jo (xIf (tAnd? (tB? (e2 fIs (Jb 14) (eC .non))) (tAnd? (tB? (e2 fEq (eF U4 (aC (Jb 9) a0)) (eC (.int 1)))) (tB? (e2 fEq (e2 fIx (e2 fIx (Jb 9) (eC (.int 0))) (eC (.int 0))) (Jb 13))))) (YG (eC (.bl false))) Yt) (YG (e2 fLe (eF U4 (aC (Jb 9) a0)) (e2 WH (eC (.int 2)) (Jdu (Ys (iE true (eU 1 J3 (aC (Jb 7) a0))) (.nm 0) yes? (e2 fIx (Jb 0) (eC (.int 0))) [none]))))))))) [.sh (.fz (ns.map .int)),b,.sh (.lst (ps.map prE)),.sh (.int balls),.sh (.lst (qs.map prE)),j5,j6,.sh (.row (ps.map prE)),.sh (.row (qs.map prE)),.sh (.lst (W.map dE)),j10,j11,j12,.no,.no]=some (.rt (.sh (.bl true))):=by
 have tN:=Y1 N g hN
 have asc:=U0 N 0 ps none g (Qv _) (fun b e=>by cases e)
 have nsum:=V1 N 0 g tN
 have mv:=JdQ ps qs N f g h30 hN t1;obtain⟨s1,s2,s3⟩:=Jhu asc (by omega)
 have es:=JmK asc (by omega)
 have el:(fM ((tbN N 0 ps).map (·.1))).length=(szT (tbN N 0 ps)).length:=by rw[<- es,(Uf _).length_eq]
 rw[show(dkL ((apT (tbN N 0 ps)).map (·.1))).map (fun k=>prE (k,f k))=((szT (tbN N 0 ps)).map fun k=>((k,f k):Pr)).map prE by rw[Qt];rfl] at mv
 have hp:∀p∈(szT (tbN N 0 ps)).map fun k=>((k,f k):Pr),1<=p.1/\p.1<=10 ^ 15/\-10 ^ 15<=p.2/\p.2<=10 ^ 15:=fun p hp=>by obtain⟨k,hk,rfl⟩:=Qw.mp hp;obtain⟨t,ht,rfl⟩:=(s2 k).mp hk;have:=hB t ht;have:=(YY asc t ht).1;dsimp only;omega
 obtain⟨single,ok,se⟩:=JdR (cell ns 18) balls hb;have ml:=JnG ps qs _ single ok (by rw[Qq];exact s3) hp mv
 have lam:∀z:Int,(∀t∈tbN N 0 ps,f t.1=z*YF single t.1)->ldA single ((szT (tbN N 0 ps)).map fun k=>((k,f k):Pr))=true:=fun z h=>Jll ok (fun p h=>(hp p h).1) (z:=z) fun p h'=>by obtain⟨k,hk,rfl⟩:=Qw.mp h';obtain⟨t,ht,rfl⟩:=(s2 k).mp hk;exact h t ht
 have lat:ldA single ((szT (tbN N 0 ps)).map fun k=>((k,f k):Pr))=true->∀t∈tbN N 0 ps,ldT single ((szT (tbN N 0 ps)).map fun k=>((k,f k):Pr))*YF single t.1=f t.1:=fun h t ht=>(Jlm h (t.1,f t.1) (Qw.mpr ⟨t.1,(s2 _).mpr ⟨t,ht,rfl⟩,rfl⟩)).symm
 have tl:(tbN N 0 ps).length<=30:=by have:=(JcK fun t ht=>(YY asc t ht).2).1;omega
 have mt:=JdS ps N g h30 tN
 have eW:eqA (.lst (qs.map prE)) (.lst (qs.map prE))=some true:=(Jf4 qs qs).trans (by simp)
 have i0:∀x y:D,atI [x,y] 0=some x:=fun _ _=>rfl
 revert ml lam lat
 generalize ldA single ((szT (tbN N 0 ps)).map fun k=>((k,f k):Pr))=A
 generalize ldT single ((szT (tbN N 0 ps)).map fun k=>((k,f k):Pr))=z
 intro ml lam lat;walk_at "ev";rw[VT _ _ (by decide)];walk_at "ev";rw[se];walk_at "ev";rw[ml]
 cases A with
 | true =>
  have lt:=lat rfl;walk_at "ev";rw[Jcs];walk_at "ev"
  by_cases c:(z.natAbs:Int)<200
  ·rw[decide_eq_true c];walk_at "ev";rw[JaE ps single z g h30 ok (by omega)];have eg:=(Jc2 ok z g hN).uniq2 h30 hN t1 lt;rw[eg];walk_at "ev";rw[mt];walk_at "ev";rw[Wg];walk_at "ev";rw[el];rw[decide_eq_true (show(W.length:Int)<=2*((szT (tbN N 0 ps)).length:Int) by omega)]
  ·rw[decide_eq_false c];walk_at "ev";rw[mt];walk_at "ev";rw[Wg];walk_at "ev";rw[el];rw[decide_eq_true (show(W.length:Int)<=2*((szT (tbN N 0 ps)).length:Int) by omega)]
 | false =>
  walk_at "ev"
  by_cases c:(W.length:Int)=1
  ·rw[decide_eq_true c];obtain⟨d,rfl⟩:∃d,W=[d]:=List.length_eq_one_iff.mp (by omega)
   obtain⟨o,v⟩:=d
   have ne:o≠single:=fun e=>by
    subst e
    have:=lam v fun t ht=>by
     have h:=hf t ht
     have:tot [(o,v)] t.1=v*YF o t.1+0:=rfl;omega
    cases this
   have eq:eqA (Yn o) (Yn single)=some false:=by
    revert ne
    cases o <;> cases single <;> intro ne
    ·exact(ne rfl).elim
    ·rfl
    ·rfl
    ·rename_i x y;show eqA (.int x) (.int y)=_;rw[Jf5,decide_eq_false fun e=>ne (by rw[e])]
   simp only[dE,Qe,GN];walk_at "ev";rw[show atI [D.tup [Yn o,D.int v]] 0=some (D.tup [Yn o,D.int v]) from rfl];walk_at "ev";rw[i0];walk_at "ev";rw[eq];walk_at "ev";rw[mt];walk_at "ev";rw[Wg];walk_at "ev";rw[el];rw[decide_eq_true (show(1:Int)<=2*((szT (tbN N 0 ps)).length:Int) by simp only[Gn] at lw;omega)]
  ·rw[decide_eq_false c];walk_at "ev";rw[mt];walk_at "ev";rw[Wg];walk_at "ev";rw[el];rw[decide_eq_true (show(W.length:Int)<=2*((szT (tbN N 0 ps)).length:Int) by omega)]
theorem JkX(ns:List Int):∃(ps qs:List Pr) (N:Nat) (f:Int->Int) (W:List Dd) (j5 j6:Sl),Good ps/\ps.length<=30/\(ps.map (·.2)).sum<=(N:Int)/\0<=(ps.map (·.2)).sum/\To N f ps qs/\(∀d∈W,OkD d)/\W.length<=60/\(∀t∈tbN N 0 ps,tot W t.1=f t.1)/\W.length<=2*(szT (tbN N 0 ps)).length ∧
 (∀t∈tbN N 0 ps,t.1<=10 ^ 15/\-10 ^ 15<=f t.1/\f t.1<=10 ^ 15)/\∀T:Es,(Jo (Jm 1 (eU 2 Jw (aC (Jb 0) (aC (eC (.int 0)) a0)))) (Jo (Jm 2 (eU 4 JL (aC (Jb 0) (aC (e2 U5 (Jb 1) (eC (.int 7))) (aC (eC (.int 5)) (aC (eC (.int 40)) a0)))))) (Jo (Jm 3 (eF Zs (aC (Ys (iE true (Jb 2)) (.nm 0) yes? (e2 fIx (Jb 0) (eC (.int 1))) [none]) a0))) (Jo (Jm 4 (Jb 2)) (Jo (Vc (iR1 (aC (e2 U5 (e2 Jam (Jb 1) (eC (.int 7))) (eC (.int 5))) a0)) (.nm 5) (Jo (Jm 6 (eU 2 Jw (aC (Jb 0) (aC (e2 Yh (eC (.int 14)) (Jb 5)) a0)))) (Jm 4 (eU 3 Jp (aC (Jb 4) (aC (eU 2 JN (aC (e2 Jam (Jb 6) (eC (.int 11))) (aC (Jb 3) a0))) (aC (e2 YU (e2 U5 (Jb 6) (eC (.int 11))) (eC (.int 5))) a0))))))) (Jo (Jm 7 (eF Zr (aC (Jb 2) a0))) (Jo (Jm 8 (eF Zr (aC (Jb 4) a0))) (Jo (Jm 9 (eU 2 Uk (aC (Jb 7) (aC (Jb 8) a0)))) (Jo (xIf (tNot? (tTru? (JhZ "list" (Jb 9)))) (YG (eC (.bl false))) Yt) T))))))))) [.sh (.fz (ns.map .int)),.no,.no,.no,.no,.no,.no,.no,.no,.no,.no,.no,.no,.no,.no]=T [.sh (.fz (ns.map .int)),.sh (.int (cell ns 0)),.sh (.lst (ps.map prE)),.sh (.int (ps.map (·.2)).sum),.sh (.lst (qs.map prE)),j5,j6,.sh (.row (ps.map prE)),.sh (.row (qs.map prE)),.sh (.lst (W.map dE)),.no,.no,.no,.no,.no]:=by
 have ms:=Jby ns (cell ns 0 % 7) 5 40 (by omega) (by omega) (by decide) (by decide)
 have pg:=(Jb3 ns 1 5 (cell ns 1 % (2*40+1)-40) (by decide) (cell ns 0 % 7).toNat).1
 have pl:=UT ns 1 5 (cell ns 1 % (2*40+1)-40) (cell ns 0 % 7).toNat
 have pf:=(Jd7 ns 1 5 (cell ns 1 % (2*40+1)-40) (by decide) (cell ns 0 % 7).toNat).2.2.2
 revert ms pg pl pf
 generalize (spr ns 1 5 (cell ns 1 % (2*40+1)-40) (cell ns 0 % 7).toNat).2=ps
 intro ms g pl pf;have h30:ps.length<=30:=by omega
 have pos:=UU (Good.all g)
 have sm:(ps.map (·.2)).sum<=30:=by omega
 obtain⟨N,hN⟩:∃N:Nat,(ps.map (·.2)).sum<=(N:Int):=⟨(ps.map fun p:Pr=>p.2).sum.toNat,by omega⟩
 have tN:=Y1 N g hN
 have asc:=U0 N 0 ps none g (Qv _) (fun b e=>by cases e)
 have tl:=Jkp g tN
 have ec:Ua (.nm 0) yes? (e2 fIx (Jb 0) (eC (.int 1))) [.no] (ps.map prE)=some ((ps.map (·.2)).map D.int):=by
  rw[Qt];refine J2 fun p _=>?_
  simp only[prE];walk_at "ev";rw[JhS];rfl
 obtain⟨E',hR,he⟩:=JaD (p:=(.nm 5)) (b:=(Jo (Jm 6 (eU 2 Jw (aC (Jb 0) (aC (e2 Yh (eC (.int 14)) (Jb 5)) a0)))) (Jm 4 (eU 3 Jp (aC (Jb 4) (aC (eU 2 JN (aC (e2 Jam (Jb 6) (eC (.int 11))) (aC (Jb 3) a0))) (aC (e2 YU (e2 U5 (Jb 6) (eC (.int 11))) (eC (.int 5))) a0))))))) (f:=fun i:Nat=>D.int (i:Int)) (as:=GQ (cell ns 0 / 7 % 5).toNat) (E:=[.sh (.fz (ns.map .int)),.sh (.int (cell ns 0)),.sh (.lst (ps.map prE)),.sh (.int (ps.map (·.2)).sum),.sh (.lst (ps.map prE)),.no,.no,.no,.no,.no,.no,.no,.no,.no,.no]) (fun(rest:List Nat) (i:Nat) E=>∃qs f j5 j6,E=[.sh (.fz (ns.map .int)),.sh (.int (cell ns 0)),.sh (.lst (ps.map prE)),.sh (.int (ps.map (·.2)).sum),.sh (.lst (qs.map prE)),j5,j6,.no,.no,.no,.no,.no,.no,.no,.no]/\To N f ps qs/\i+rest.length<=4/\∀t∈tbN N 0 ps,-150*(i:Int)<=f t.1/\f t.1<=150*(i:Int)) (fun i _=>i+1) 0 ⟨ps,fun _=>0,.no,.no,rfl,To.refl g,by rw[List.length_range];omega,fun t _=>by simp⟩ (by
  rintro k rest i E ⟨qs,f,j5,j6,rfl,t1,hi,hB⟩;rw[Qp] at hi;obtain⟨seats,ok,se⟩:=JdR (cell ns (14+(k:Int)) / 11) (ps.map (·.2)).sum (by omega);walk_at "ev";rw[VT _ _ (by omega)];walk_at "ev";rw[se];walk_at "ev";rw[JaE qs seats _ t1.g (by rw[t1.l];exact h30) ok (by omega)];walk_at "ev";have tg:=Jc2 ok (cell ns (14+(k:Int)) % 11-5) t1.g (N:=N) (by rw[t1.s];exact hN);refine⟨_,_,_,_,rfl,t1.comp tg,by omega,fun t ht=>?_⟩
  have h1:=hB t ht
  have h2:=JaU ok (YY asc t ht).1
  have h3:=tl t ht
  have m1:(cell ns (14+(k:Int)) % 11-5)*YF seats t.1<=5*30:=by refine MX (Lh (show cell ns (14+(k:Int)) % 11-5<=5 by omega) (by omega)) (by omega)
  have m2:-5*30<=(cell ns (14+(k:Int)) % 11-5)*YF seats t.1:=by refine MX (by omega) (Lh (show -5<=cell ns (14+(k:Int)) % 11-5 by omega) (by omega))
  try dsimp only
  omega)
 obtain⟨qs,f,j5,j6,rfl,t1,hi,hB⟩:=hR;rw[Kt] at hi;have q30:qs.length<=30:=by rw[t1.l];exact h30
 have hB':∀t∈tbN N 0 ps,t.1<=10 ^ 15/\-10 ^ 15<=f t.1/\f t.1<=10 ^ 15:=fun t ht=>by
  have:=hB t ht
  have:=tl t ht;omega
 obtain⟨W,w1,l1,o1,f1,_,l2,_⟩:=Jfn g h30 hN t1 fun t ht=>by have:=hB' t ht;omega
 refine⟨ps,qs,N,f,W,j5,j6,g,h30,hN,by omega,t1,o1,l1,f1,l2,hB',fun T=>?_⟩;walk_at "ev";rw[VT _ _ (by decide)];walk_at "ev";rw[ms];walk_at "ev";rw[ec];walk_at "ev";rw[UP (ns:=ps.map (·.2)) (by simp[Sl.q])];walk_at "ev";rw[Jjp,he];walk_at "ev";rw[Wh rfl g (by omega)];walk_at "ev";rw[Wh rfl t1.g (by omega)];walk_at "ev";rw[w1];walk_at "ev"
theorem law_true(ns:List Int)(hn:ns.length<=63):Jcr [.sh (.fz (ns.map .int))]=some (.sh (.bl true)):=by
 obtain⟨ps,qs,N,f,W,j5,j6,g,h30,hN,pos,t1,o1,l1,f1,l2,hB,hh⟩:=JkX ns;obtain⟨j10,j11,j12,hb⟩:=Jnh g h30 hN t1 o1 l1 f1 (.sh (.fz (ns.map .int))) (.sh (.int (cell ns 0))) (.sh (.int (ps.map (·.2)).sum)) j5 j6 (.sh (.row (ps.map prE))) (.sh (.row (qs.map prE)));unfold Jcr;simp only[YI,Qp,Kt,Nat.reduceAdd,Nat.reduceSub,MI,KJ,Gz];rw[hh,hb,JmU ns g h30 hN t1 l2 f1 hB _ _ _ _ _ _ _ pos]
 rfl
end
end LK
noncomputable section
namespace LK
open PySem L2 LR LE
local macro_rules | `(tactic| walk_at "s")=>`(tactic| repeat' first | rfl | assumption | with_reducible apply Jkk | with_reducible apply Jmz | with_reducible apply Jpa | with_reducible apply Jol | with_reducible apply Joi | with_reducible apply JoE | with_reducible apply JoS | with_reducible apply Jm9 | with_reducible apply JkW | with_reducible apply Jmx | with_reducible apply Jo0 | with_reducible apply JnK | with_reducible apply JmG | with_reducible apply JoD | with_reducible apply Jo7 | with_reducible apply JnP | with_reducible apply JnB | with_reducible apply JnC | with_reducible apply Jmy | with_reducible apply Jpe | with_reducible apply Jop | with_reducible apply Jm7 | with_reducible apply Jom | with_reducible apply Joq | with_reducible apply Jof | with_reducible apply JoB | with_reducible apply JnM | with_reducible apply Joe | with_reducible apply JoF | with_reducible apply JnN | with_reducible apply Jok | with_reducible apply JmE | with_reducible apply Jm8 | with_reducible apply Joo | with_reducible apply Jo2 | with_reducible apply Jox | with_reducible apply Jnl | with_reducible apply Jno | with_reducible apply JoY | with_reducible apply Jo3 | with_reducible apply Jnn | with_reducible apply JnL | with_reducible apply JoX | with_reducible apply JoZ | with_reducible apply JlM | with_reducible apply JlN | with_reducible apply Jo8 | with_reducible apply Jog | with_reducible apply Jon | with_reducible apply Jpb | with_reducible apply Jni | with_reducible apply JiM | with_reducible apply Jo9 | with_reducible apply JmC | with_reducible apply Joh | with_reducible apply Jpc | with_reducible apply Jow | with_reducible apply JoA | with_reducible apply Jnm | with_reducible apply Jlx | with_reducible apply Jo1 | with_reducible apply JmA | with_reducible apply Jju | with_reducible apply JmF | with_reducible apply Joz | with_reducible apply JjS | with_reducible apply Jnj | with_reducible apply Jnk | with_reducible apply JkB | with_reducible apply JgD | with_reducible apply Jly | with_reducible apply JnO | with_reducible apply Jjs | with_reducible apply Jjt | with_reducible apply Jhm | with_reducible apply JmB | with_reducible apply Joj | with_reducible apply Jjv | with_reducible apply JmD | with_reducible apply Joy | with_reducible apply Jm3 | with_reducible apply Jm4 | with_reducible apply Jm5 | with_reducible apply Jm6 | with_reducible apply JjR | with_reducible apply JoC)
noncomputable def top(i:Nat):Stmt:=PySem.Challenge.pw_lumprow_k65_whole_ways_by_going.main.body.getD i (.Pass ⟨0,0,0,0⟩)
noncomputable abbrev JP:Stmt:=top 8
noncomputable abbrev YQ:Stmt:=JiA (top 7) 0
noncomputable abbrev YB:Stmt:=top 17
noncomputable abbrev YA:Stmt:=top 16
noncomputable abbrev Y5:Stmt:=top 10
noncomputable abbrev YC:Stmt:=top 15
noncomputable abbrev Y8:Stmt:=top 18
noncomputable abbrev Y4:Stmt:=top 9
noncomputable abbrev Y7:Stmt:=top 20
noncomputable abbrev Uu:Stmt:=top 19
noncomputable abbrev YT:Stmt:=top 22
noncomputable abbrev YD:Stmt:=top 32
noncomputable abbrev Yr:Stmt:=top 34
noncomputable abbrev JT:Stmt:=top 35
noncomputable abbrev YS:Stmt:=top 13
noncomputable abbrev Yl:Stmt:=top 23
noncomputable abbrev US:Stmt:=top 25
noncomputable abbrev Yk:Stmt:=top 12
noncomputable abbrev Ut:Stmt:=top 28
noncomputable abbrev YE:Stmt:=top 33
noncomputable abbrev YR:Stmt:=top 30
noncomputable abbrev Y6:Stmt:=top 26
noncomputable abbrev VZ:Stmt:=top 27
noncomputable abbrev J1:Stmt:=top 31
noncomputable abbrev VD:Stmt:=top 36
section
variable{P:Program}{w:World}{K:Frag}{C:Addr}{mg:Str->Option Value}{base:Heap}
theorem sc_check_stretches:FnScope ["stretches","behind","begin","length"] ["stretches"] (Jf JP):=⟨rfl,rfl,rfl,by decide +kernel,rfl,by decide +kernel,by decide +kernel⟩
theorem Va{f:Addr}{fd:FuncData}(F:Fun K "check_stretches" "check_stretches" JP f fd) :FnOk P w K mg base CX0 1 f fd ["stretches"] (Wt K):=by
 refine F.ok sc_check_stretches (fun vs H Q E h=>?_) (fun cdv A outer s H vs Q E hr h=>?_)
 ·obtain⟨v,ps,rfl,_⟩:=h;rfl
 ·obtain⟨v,ps,rfl,⟨a,vs,rfl,hq,hp⟩,g,q⟩:=h;have hu:=hr.units;refine⟨_,(Jc (Jl (i:=1) sc_check_stretches.nd rfl (.inl rfl) Yq)
   (Jg (YX Q3 rfl (JY (K:=K) rfl (pv 0)) (JI (K:=K) (n:=2) rfl rfl (Ji (Jj (i:=2) sc_check_stretches.nd rfl (.inl rfl)) (Ji (Jj (i:=3) sc_check_stretches.nd rfl (.inl rfl)) JJ)) rfl rfl) (Jc (Yz (Jy W4 (pv 3) Je (JB _)) (Jg VC) JZ)
   (Jc (Yz (PW.pt (UC (Jy Vy (pv 1) Yq (JB _)) (UD (Jy JgS (pv 2) (pv 1) (JB _))))) (Jg VC) JZ)
   (Jg (Jl (i:=1) sc_check_stretches.nd rfl (.inl rfl) (Jn (JdV (K:=K) rfl) (pv 2) (pv 3))))))))),?_⟩
  walk_at "rd";refine Jfg (H1:=H) (a:=a) (xs:=vs) (fun R r=>⟨_,rfl,r⟩) hq
   (fun i σ' H'=>∃vb vl,σ'=[some (.ref a),some (Jdd ps i),vb,vl]/\H'=H) ⟨none,none,rfl,rfl⟩ (fun i σ' H' ⟨_,_,_,e⟩=>e▸Same.refl _) ?_ ?_
  ·rintro i x σ' H' hi ⟨vb,vl,rfl,rfl⟩;obtain⟨p,b,e1,rfl,sp⟩:=hp.at hi;refine Jd4 sp rfl ?_;walk_at "rd";refine ifd (fun hlt=>absurd (g.one i p e1) (by omega)) (fun _=>?_);walk_at "rd"
   cases i with
   | zero=>refine ifF rfl ?_;refine ifF rfl ?_;walk_at "rd";exact⟨_,_,by rw[UG e1];rfl,rfl⟩
   | succ j =>
    obtain⟨q1,e2⟩:∃q1,ps[j]?=some q1:=⟨ps[j]'(by have:=(Qh.mp e1).1;omega),by have:=(Qh.mp e1).1;simp[show j<ps.length by omega]⟩
    rw[UG e2];refine ifT rfl ?_;walk_at "rd";refine ifd (fun hle=>absurd (g.gap j q1 p e2 e1) (by omega)) (fun _=>?_);walk_at "rd";exact⟨_,_,by rw[UG e1];rfl,rfl⟩
  ·rintro σ' H' ⟨vb,vl,rfl,rfl⟩;exact q _ (Same.refl _)
theorem JbS:FnScope ["self","stretches"] ["self","stretches"] (Jf YQ):=⟨rfl,rfl,rfl,by decide +kernel,rfl,by decide +kernel,by decide +kernel⟩
theorem JbG{f:Addr}{fd:FuncData}(F:Fun K "__init__" "Row.__init__" YQ f fd)(qO:mg "tuple"=none)(qq:mg "len"=none)(qh:GV mg "MOST_STRETCHES" (.int 30))(qg:Cal P w K mg base "check_stretches" 1 ["stretches"] (Wt K))(T:RowC K C):FnOk P w K mg base CX0 2 f fd ["self","stretches"] (V0 C K):=by
 refine F.ok JbS (fun vs H Q E h=>?_) (fun cdv A outer s H vs Q E hr h=>?_)
 ·obtain⟨x,dx,v,ps,rfl,_⟩:=h;rfl
 ·obtain⟨x,dx,v,ps,rfl,hx,⟨a,vs,rfl,hq,hp⟩,g,hl,q⟩:=h;have hu:=hr.units;refine⟨_,(Jc (Yz (Jy ZU (Jx (Y2 (K:=K) rfl) rfl qq VM (Ja (pv 1) Jd)) (JgW rfl qh) (JB _)) (Jg VC) JZ)
   (Jc (YH (Jk qg (hr.mono (by decide)) rfl (Ja (pv 1) Jd)))
   (Jg (Ji5 (K:=K) rfl (pv 0) (VX (Ja6 (K:=K) rfl) rfl qO JfL (Ja (J8 (N':=["begin","length"]) (imp:=[none,none]) rfl (JY (K:=K) rfl (pv 1)) (Wb rfl rfl) (fun _ _ _ _=>(JI (K:=K) (n:=2) rfl rfl (Ji (Jj (i:=0) (show(["begin","length"]:List Str).Nodup from by decide +kernel) rfl (.inl rfl) (.inr rfl)) (Ji (Jj (i:=1) (show(["begin","length"]:List Str).Nodup from by decide +kernel) rfl (.inl rfl) (.inr rfl)) JJ)) rfl rfl)) (fun _ _ _ _=>JW) (fun _ _ _ _=>(Yu (Ja (pv 0) (Ja (pv 1) Jd))))) Jd)) rfl)))),?_⟩
  have hn:=hp.len;walk_at "rd";refine JbQ hq ?_;walk_at "rd";refine ifd (fun hgt=>absurd hl (by omega)) (fun _=>?_);walk_at "rd";refine JfS ⟨a,vs,rfl,hq,hp⟩ g fun H1 s1=>?_
  walk_at "rd";refine JcT (H1:=H1) (a:=a) (xs:=vs) (fun R r=>⟨_,rfl,r⟩) (hq.imp s1.seq s1.seqT) (GM (Jfk (by omega)))
   (fun i ys σ' H'=>∃vb vl,σ'=[vb,vl]/\Same H1 H'/\Prs K H' ys (ps.take i)) ⟨none,none,rfl,Same.refl _,by rw[List.take_zero];exact RepL.nil⟩
   (fun i ys σ' H' ⟨_,_,_,_,r⟩=>by have:=r.len;rw[this,KG];omega) (fun i ys σ' H' ⟨_,_,_,s',_⟩=>s') ?_ ?_
  ·rintro i ys y σ' H' hi ⟨vb,vl,rfl,s',r⟩;obtain⟨p,b,e1,rfl,sp⟩:=Prs.at (K:=K) (ps:=ps) (RepL.mono (s1.trans s') hp) hi;refine Jd4 sp rfl ?_;walk_at "rd";refine ifT rfl ?_;walk_at "rd";refine Jkv sz2 fun t H2 nt s2 ht=>?_
   refine⟨_,_,rfl,s'.trans s2,?_⟩;rw[List.take_add_one,e1];exact Prs.snoc (RepL.mono s2 r) (Ji2 ht)
  ·rintro ys σ' H' ⟨vb,vl,rfl,s',r⟩ l H2 nl s2 hl2;walk_at "rd";refine Jfh (.of hl2) fun t H3 nt s3 ht=>?_
   walk_at "rd";have sA:Same H H3:=((s1.trans s').trans s2).trans s3;refine⟨x,C,dx,[],rfl,sA _ _ hx,T.cl,T.ns,by decide,?_⟩;rw[hn,List.take_length] at r;have r3:Prs K H3 ys ps:=RepL.mono (s2.trans s3) r;have ntx:t≠x:=ZT ht (sA _ _ hx) (by intro z;cases z);refine q _ t ys (sA.ex_trans SameEx.upd) (by rw[Jg5];exact Jq) (by rw[Jh ntx];exact ht) ?_;exact Prs.monoIns SameEx.upd (sA _ _ hx) r3
theorem sc_closed_up:FnScope ["pairs","stretches","begin","length","ahead"] ["pairs"] (Jf YB):=⟨rfl,rfl,rfl,by decide +kernel,rfl,by decide +kernel,by decide +kernel⟩
theorem JaH{f:Addr}{fd:FuncData}(F:Fun K "closed_up" "closed_up" YB f fd)(qt:mg "sum"=none):FnOk P w K mg base CX0 1 f fd ["pairs"] (spE K C 1 Yf):=by
 refine F.ok sc_closed_up (fun vs H Q E h=>JH h) (fun cdv A outer s H vs Q E hr h=>?_);have hu:=hr.units;refine⟨_,(Jc (Jl (i:=1) sc_closed_up.nd rfl (.inl rfl) (UK Jd))
  (Jc (YX Q3 rfl (JY (K:=K) rfl (pv 0)) (JI (K:=K) (n:=2) rfl rfl (Ji (Jj (i:=2) sc_closed_up.nd rfl (.inl rfl)) (Ji (Jj (i:=3) sc_closed_up.nd rfl (.inl rfl)) JJ)) rfl rfl) (Jg (Yz (PW.pt (UC (UB (K:=K) rfl (pv 1) (fun _=>rfl)) (UD (Jy (JaL (K:=K) rfl hu) (Jx (Uo (K:=K) rfl rfl) rfl qt WA (Ja (Yc (Jz (K:=K) rfl) (pv 1) (JgY Jc7 Je) (fun _ _=>rfl)) Jd)) (pv 2) (JB _))))) (Jc (Jl (i:=4) sc_closed_up.nd rfl (.inl rfl) (JiU (K:=K) rfl QU PySem.F.slot_list_pop PySem.F.type_list_pop Jlt (pv 1)))
  (Jg (YH (UA (K:=K) rfl QU Go Gq Y3 (pv 1) (Ja (Yu (Ja (Yc (Jz (K:=K) rfl) (pv 4) Je (fun _ _=>rfl)) (Ja (Jn (JE (K:=K) rfl) (Yc (Jz (K:=K) rfl) (pv 4) Je (fun _ _=>rfl)) (pv 3)) Jd))) Jd))))) (Jg (Yz (Jy ZU (pv 3) Je (JB _)) (Jg (YH (UA (K:=K) rfl QU Go Gq Y3 (pv 1) (Ja (Yu (Ja (pv 2) (Ja (pv 3) Jd))) Jd)))) JZ)))))
  (Jg (JC (pv 1))))),?_⟩
 refine JF (N:=["pairs","stretches","begin","length","ahead"]) ?_ h;walk_at "s"
theorem JaQ:FnScope ["row","layers"] ["row","layers"] (Jf YA):=⟨rfl,rfl,rfl,by decide +kernel,rfl,by decide +kernel,by decide +kernel⟩
theorem JaG{f:Addr}{fd:FuncData}(F:Fun K "by_layers" "by_layers" YA f fd)(qe:mg "enumerate"=none)(T:RowC K C):FnOk P w K mg base CX0 1 f fd ["row","layers"] (spE K C 2 Ye):=by
 refine F.ok JaQ (fun vs H Q E h=>JH h) (fun cdv A outer s H vs Q E hr h=>?_);have hu:=hr.units;refine⟨_,(Jg (JC (J8 (N':=["ahead","stretch","layers"]) (imp:=[none,none,some 1]) rfl (JbM (K:=K) rfl rfl qe (Ja (Y0 (K:=K) rfl (pv 0) rfl) Jd)) (JfJ (own:=["ahead","stretch"]) (fr:=[("layers",1)]) rfl rfl rfl ⟨rfl,trivial⟩ rfl ⟨⟨rfl,rfl,rfl⟩,trivial⟩) (fun _ _ _ _=>(JI (K:=K) (n:=2) rfl rfl (Ji (Jj (i:=0) (show(["ahead","stretch","layers"]:List Str).Nodup from by decide +kernel) rfl (.inl rfl) (.inr rfl)) (Ji (Jj (i:=1) (show(["ahead","stretch","layers"]:List Str).Nodup from by decide +kernel) rfl (.inl rfl) (.inr rfl)) JJ)) rfl rfl)) (fun _ _ _ _=>JW) (fun _ _ _ _=>(Yu (Ja (Jn (JE (K:=K) rfl) (Yc (Jz (K:=K) rfl) (pv 1) Je (fun _ _=>rfl)) (Jn UJ (Jn UJ Je (pv 2)) (pv 0))) (Ja (Jn (JE (K:=K) rfl) (Yc (Jz (K:=K) rfl) (pv 1) Je (fun _ _=>rfl)) (pv 2)) Jd))))))),?_⟩
 refine JF (N:=["row","layers"]) ?_ h;walk_at "s"
theorem JcW:FnScope ["row"] ["row"] (Jf Y5):=⟨rfl,rfl,rfl,by decide +kernel,rfl,by decide +kernel,by decide +kernel⟩
theorem JcM{f:Addr}{fd:FuncData}(F:Fun K "gaps_of" "gaps_of" Y5 f fd)(qt:mg "sum"=none)(qC:mg "zip"=none)(T:RowC K C):FnOk P w K mg base CX0 1 f fd ["row"] (spE K C 1 YJ):=by
 refine F.ok JcW (fun vs H Q E h=>JH h) (fun cdv A outer s H vs Q E hr h=>?_);have hu:=hr.units;refine⟨_,(Jg (JC (J8 (N':=["left","right"]) (imp:=[none,none]) rfl (JaN (K:=K) rfl rfl qC (Ja (Y0 (K:=K) rfl (pv 0) rfl) (Ja (VB (Wr (K:=K) rfl) (Y0 (K:=K) rfl (pv 0) rfl) (Wp Je) Wo) Jd))) (Wb rfl rfl) (fun _ _ _ _=>(JI (K:=K) (n:=2) rfl rfl (Ji (Jj (i:=0) (show(["left","right"]:List Str).Nodup from by decide +kernel) rfl (.inl rfl) (.inr rfl)) (Ji (Jj (i:=1) (show(["left","right"]:List Str).Nodup from by decide +kernel) rfl (.inl rfl) (.inr rfl)) JJ)) rfl rfl)) (fun _ _ _ _=>JW) (fun _ _ _ _=>(Jn J7 (Yc (Jz (K:=K) rfl) (pv 1) Je (fun _ _=>rfl)) (Jx (Uo (K:=K) rfl rfl) rfl qt WA (Ja (pv 0) Jd))))))),?_⟩
 refine JF (N:=["row"]) ?_ h;walk_at "s"
theorem JaR:FnScope ["row"] ["row"] (Jf YC):=⟨rfl,rfl,rfl,by decide +kernel,rfl,by decide +kernel,by decide +kernel⟩
theorem JaI{f:Addr}{fd:FuncData}(F:Fun K "closes_at" "closes_at" YC f fd)(qu:mg "min"=none)(qD:Cal P w K mg base "gaps_of" 1 ["row"] (spE K C 1 YJ))(T:RowC K C):FnOk P w K mg base CX0 2 f fd ["row"] (spE K C 1 JM):=by
 refine F.ok JaR (fun vs H Q E h=>JH h) (fun cdv A outer s H vs Q E hr h=>?_);have hu:=hr.units;refine⟨_,(Jg (JC (Jfb (Jcl (K:=K) rfl rfl) rfl qu Wz (Ja (Jn (JE (K:=K) rfl) (J8 (N':=["begin","length"]) (imp:=[none,none]) rfl (JY (K:=K) rfl (Y0 (K:=K) rfl (pv 0) rfl)) (Wb rfl rfl) (fun _ _ _ _=>(JI (K:=K) (n:=2) rfl rfl (Ji (Jj (i:=0) (show(["begin","length"]:List Str).Nodup from by decide +kernel) rfl (.inl rfl) (.inr rfl)) (Ji (Jj (i:=1) (show(["begin","length"]:List Str).Nodup from by decide +kernel) rfl (.inl rfl) (.inr rfl)) JJ)) rfl rfl)) (fun _ _ _ _=>JW) (fun _ _ _ _=>(pv 1))) (Jk qD (hr.mono (by decide)) rfl (Ja (pv 0) Jd))) Jd) Yq))),?_⟩
 refine JF (N:=["row"]) ?_ h;walk_at "s"
theorem sc_thinned:FnScope ["row","layers","left","still","at_once"] ["row","layers"] (Jf Y8):=⟨rfl,rfl,rfl,by decide +kernel,rfl,by decide +kernel,by decide +kernel⟩
theorem JcP{f:Addr}{fd:FuncData}(F:Fun K "thinned" "thinned" Y8 f fd)(qu:mg "min"=none)(qJ:CalM P w K mg base "Row" C 2 ["self","stretches"] (V0 C K))(qx:Cal P w K mg base "closed_up" 1 ["pairs"] (spE K C 1 Yf))(qy:Cal P w K mg base "by_layers" 1 ["row","layers"] (spE K C 2 Ye))(qf:Cal P w K mg base "closes_at" 2 ["row"] (spE K C 1 JM))(T:RowC K C):FnOk P w K mg base CX0 4 f fd ["row","layers"] (spE K C 2 JV):=by
 refine F.ok sc_thinned (fun vs H Q E h=>JH h) (fun cdv A outer s H vs Q E hr h=>?_);have hu:=hr.units;refine⟨_,(Jc (Jl (i:=2) sc_thinned.nd rfl (.inl rfl) (VA qJ (hr.mono (by decide)) rfl (Ja (Y0 (K:=K) rfl (pv 0) rfl) Jd)))
  (Jc (Jl (i:=3) sc_thinned.nd rfl (.inl rfl) (pv 1))
  (Jc (JbO Q3 (PW.pt (UC (Jy ZU (pv 3) Je (JB _)) (UD (UB (K:=K) rfl (Y0 (K:=K) rfl (pv 2) rfl) (fun _=>rfl))))) (Jc (Jl (i:=4) sc_thinned.nd rfl (.inl rfl) (Jx (UO rfl) rfl qu Wz (Ja (pv 3) (Ja (Jk qf (hr.mono (by decide)) rfl (Ja (pv 2) Jd)) Jd))))
  (Jc (Jl (i:=2) sc_thinned.nd rfl (.inl rfl) (VA qJ (hr.mono (by decide)) rfl (Ja (Jk qx (hr.mono (by decide)) rfl (Ja (Jk qy (hr.mono (by decide)) rfl (Ja (pv 2) (Ja (JgY Jc7 (pv 4)) Jd))) Jd)) Jd)))
  (Jg (Jg2 (i:=3) sc_thinned.nd rfl (.inl rfl) (pv 4) Jk2)))))
  (Jg (JC (pv 2)))))),?_⟩
 refine JF (N:=["row","layers","left","still","at_once"]) ?_ h;walk_at "s"
theorem JcV:FnScope ["row","place"] ["row","place"] (Jf Y4):=⟨rfl,rfl,rfl,by decide +kernel,rfl,by decide +kernel,by decide +kernel⟩
theorem JcL{f:Addr}{fd:FuncData}(F:Fun K "ball_at" "ball_at" Y4 f fd)(qU:mg "any"=none)(T:RowC K C):FnOk P w K mg base CX0 1 f fd ["row","place"] (spE K C 2 Yy):=by
 refine F.ok JcV (fun vs H Q E h=>JH h) (fun cdv A outer s H vs Q E hr h=>?_);have hu:=hr.units;refine⟨_,(Jg (JC (Jx (Jew (K:=K) rfl rfl) rfl qU Jky (Ja (J8 (N':=["begin","length","place"]) (imp:=[none,none,some 1]) rfl (JY (K:=K) rfl (Y0 (K:=K) rfl (pv 0) rfl)) (JfJ (own:=["begin","length"]) (fr:=[("place",1)]) rfl rfl rfl ⟨rfl,trivial⟩ rfl ⟨⟨rfl,rfl,rfl⟩,trivial⟩) (fun _ _ _ _=>(JI (K:=K) (n:=2) rfl rfl (Ji (Jj (i:=0) (show(["begin","length","place"]:List Str).Nodup from by decide +kernel) rfl (.inl rfl) (.inr rfl)) (Ji (Jj (i:=1) (show(["begin","length","place"]:List Str).Nodup from by decide +kernel) rfl (.inl rfl) (.inr rfl)) JJ)) rfl rfl)) (fun _ _ _ _=>JW) (fun _ _ _ _=>(JgT JgS W4 (pv 0) (pv 2) (Jn (JE (K:=K) rfl) (pv 0) (pv 1))))) Jd)))),?_⟩
 refine JF (N:=["row","place"]) ?_ h;walk_at "s"
theorem JcX:FnScope ["left","spot"] ["left","spot"] (Jf Y7):=⟨rfl,rfl,rfl,by decide +kernel,rfl,by decide +kernel,by decide +kernel⟩
theorem JcO{f:Addr}{fd:FuncData}(F:Fun K "owed_at" "owed_at" Y7 f fd)(qz:Cal P w K mg base "ball_at" 1 ["row","place"] (spE K C 2 Yy)):FnOk P w K mg base CX0 2 f fd ["left","spot"] (spE K C 2 YM):=by
 refine F.ok JcX (fun vs H Q E h=>JH h) (fun cdv A outer s H vs Q E hr h=>?_);have hu:=hr.units;refine⟨_,(Jg (JC (W6 (PW.pt (UC (UB (K:=K) rfl (Jk qz (hr.mono (by decide)) rfl (Ja (pv 0) (Ja (Jn J7 (pv 1) Je) Jd))) (fun _=>rfl)) (UD (Jg3 (UB (K:=K) rfl (Jk qz (hr.mono (by decide)) rfl (Ja (pv 0) (Ja (pv 1) Jd))) (fun _=>rfl)))))) Je Je))),?_⟩;refine JF (N:=["left","spot"]) ?_ h
 walk_at "s"
theorem sc_struck:FnScope ["row","left","pairs","ahead","stretch","spot"] ["row"] (Jf Uu):=⟨rfl,rfl,rfl,by decide +kernel,rfl,by decide +kernel,by decide +kernel⟩
theorem Jfa{f:Addr}{fd:FuncData}(F:Fun K "struck" "struck" Uu f fd)(qe:mg "enumerate"=none)(qt:mg "sum"=none)(qE:Cal P w K mg base "owed_at" 2 ["left","spot"] (spE K C 2 YM))(qi:Cal P w K mg base "thinned" 4 ["row","layers"] (spE K C 2 JV))(T:RowC K C):FnOk P w K mg base CX0 5 f fd ["row"] (spE K C 1 YN):=by
 refine F.ok sc_struck (fun vs H Q E h=>JH h) (fun cdv A outer s H vs Q E hr h=>?_);have hu:=hr.units;refine⟨_,(Jc (Jl (i:=1) sc_struck.nd rfl (.inr rfl) (Jk qi (hr.mono (by decide)) rfl (Ja (pv 0) (Ja Je Jd))))
  (Jc (Jl (i:=2) sc_struck.nd rfl (.inl rfl) JbL)
  (Jc (YX Q3 rfl (JbM (K:=K) rfl rfl qe (Ja (Y0 (K:=K) rfl (pv 0) rfl) Jd)) (JI (K:=K) (n:=2) rfl rfl (Ji (Jj (i:=3) sc_struck.nd rfl (.inl rfl)) (Ji (Jj (i:=4) sc_struck.nd rfl (.inl rfl)) JJ)) rfl rfl) (Jc (Jl (i:=5) sc_struck.nd rfl (.inl rfl) (Jn J7 (Jn J7 (Jx (Uo (K:=K) rfl rfl) rfl qt WA (Ja (pv 4) Jd)) Je) (Jn UJ Je (pv 3))))
  (Jg (Ji4 (Jj7 hr) (pv 2) (pv 5) (Jn (JE (K:=K) rfl) (JgU (Jj7 hr) (pv 2) (pv 5) Je ⟨rfl,rfl,rfl,rfl⟩) Je) rfl))))
  (Jg (Ji6 2 (JC (J8 (N':=["spot","number","left"]) (imp:=[none,none,some 1]) rfl (JgZ (pv 2)) (JfJ (own:=["spot","number"]) (fr:=[("left",1)]) rfl rfl rfl ⟨rfl,trivial⟩ rfl ⟨⟨rfl,rfl,rfl⟩,trivial⟩) (fun _ _ _ _=>(JI (K:=K) (n:=2) rfl rfl (Ji (Jj (i:=0) (show(["spot","number","left"]:List Str).Nodup from by decide +kernel) rfl (.inl rfl) (.inr rfl)) (Ji (Jj (i:=1) (show(["spot","number","left"]:List Str).Nodup from by decide +kernel) rfl (.inl rfl) (.inr rfl)) JJ)) rfl rfl)) (fun _ _ _ _=>JW) (fun _ _ _ _=>(Yu (Ja (pv 0) (Ja (pv 1) (Ja (Jk qE (hr.mono (by decide)) rfl (Ja (pv 2) (Ja (pv 0) Jd))) Jd)))))))))))),?_⟩
 refine JF (N:=["row","left","pairs","ahead","stretch","spot"]) ?_ h;walk_at "s"
theorem sc_table_of:FnScope ["row","table","left","size","layers"] ["row"] (Jf YT):=⟨rfl,rfl,rfl,by decide +kernel,rfl,by decide +kernel,by decide +kernel⟩
theorem JbJ{f:Addr}{fd:FuncData}(F:Fun K "table_of" "table_of" YT f fd)(qi:Cal P w K mg base "thinned" 4 ["row","layers"] (spE K C 2 JV))(qK:Cal P w K mg base "struck" 5 ["row"] (spE K C 1 YN))(qf:Cal P w K mg base "closes_at" 2 ["row"] (spE K C 1 JM))(T:RowC K C):FnOk P w K mg base CX0 6 f fd ["row"] (spE K C 1 J3):=by
 refine F.ok sc_table_of (fun vs H Q E h=>JH h) (fun cdv A outer s H vs Q E hr h=>?_);have hu:=hr.units;refine⟨_,(Jc (Jl (i:=1) sc_table_of.nd rfl (.inl rfl) (UK Jd))
  (Jc (Jl (i:=2) sc_table_of.nd rfl (.inl rfl) (pv 0))
  (Jc (Jl (i:=3) sc_table_of.nd rfl (.inr rfl) Je)
  (Jc (JbO Q3 (UB (K:=K) rfl (Y0 (K:=K) rfl (pv 2) rfl) (fun _=>rfl)) (Jc (Jl (i:=4) sc_table_of.nd rfl (.inl rfl) (Jk qf (hr.mono (by decide)) rfl (Ja (pv 2) Jd)))
  (Jc (Jg2 (i:=3) sc_table_of.nd rfl (.inr rfl) (pv 4) Jk1)
  (Jc (Jl (i:=2) sc_table_of.nd rfl (.inl rfl) (Jk qi (hr.mono (by decide)) rfl (Ja (pv 2) (Ja (Jn J7 (pv 4) Je) Jd))))
  (Jc (YH (UA (K:=K) rfl QU KR KS VV (pv 1) (Ja (J8 (N':=["spot","pairs","owed","size"]) (imp:=[none,none,none,some 3]) rfl (JY (K:=K) rfl (Jk qK (hr.mono (by decide)) rfl (Ja (pv 2) Jd))) (JfJ (own:=["spot","pairs","owed"]) (fr:=[("size",3)]) rfl rfl rfl ⟨rfl,trivial⟩ rfl ⟨⟨rfl,rfl,rfl⟩,trivial⟩) (fun _ _ _ _=>(JI (K:=K) (n:=3) rfl rfl (Ji (Jj (i:=0) (show(["spot","pairs","owed","size"]:List Str).Nodup from by decide +kernel) rfl (.inl rfl) (.inr rfl)) (Ji (Jj (i:=1) (show(["spot","pairs","owed","size"]:List Str).Nodup from by decide +kernel) rfl (.inl rfl) (.inr rfl)) (Ji (Jj (i:=2) (show(["spot","pairs","owed","size"]:List Str).Nodup from by decide +kernel) rfl (.inl rfl) (.inr rfl)) JJ))) rfl rfl)) (fun _ _ _ _=>(JbN (Jy ZU (pv 1) (pv 2) (JB _)))) (fun _ _ _ _=>(Yu (Ja (pv 3) (Ja (pv 0) (Ja (Jn J7 (pv 1) (pv 2)) Jd)))))) Jd)))
  (Jg (Jl (i:=2) sc_table_of.nd rfl (.inl rfl) (Jk qi (hr.mono (by decide)) rfl (Ja (pv 2) (Ja Je Jd))))))))))
  (Jg (JC (pv 1))))))),?_⟩
 refine JF (N:=["row","table","left","size","layers"]) ?_ h;walk_at "s"
theorem sc_law_going:FnScope ["stretches","seats","found","inside","k","begin","length","takes","sets"] ["stretches","seats"] (Jf YD):=⟨rfl,rfl,rfl,by decide +kernel,rfl,by decide +kernel,by decide +kernel⟩
theorem JaJ{f:Addr}{fd:FuncData}(F:Fun K "_law_going" "_law_going" YD f fd)(qd:mg "range"=none)(qq:mg "len"=none)(qu:mg "min"=none):FnOk P w K mg base CX0 1 f fd ["stretches","seats"] (spE K C 2 Yg):=by
 refine F.ok sc_law_going (fun vs H Q E h=>JH h) (fun cdv A outer s H vs Q E hr h=>?_);have hu:=hr.units;refine⟨_,(Jc (Jl (i:=2) sc_law_going.nd rfl (.inl rfl) (UK Jd))
  (Jc (Jl (i:=3) sc_law_going.nd rfl (.inl rfl) Je)
  (Jc (YX Q3 rfl (UR rfl qd (Ja (Jx (Y2 (K:=K) rfl) rfl qq VM (Ja (pv 0) Jd)) Jd)) (Jj (i:=4) sc_law_going.nd rfl (.inl rfl)) (Jc (JlW (Yc (Jz (K:=K) rfl) (pv 0) (pv 4) (fun _ _=>rfl)) (JI (K:=K) (n:=2) rfl rfl (Ji (Jj (i:=5) sc_law_going.nd rfl (.inl rfl)) (Ji (Jj (i:=6) sc_law_going.nd rfl (.inl rfl)) JJ)) rfl rfl))
  (Jc (Jl (i:=7) sc_law_going.nd rfl (.inl rfl) (pv 6))
  (Jc (Yz (Jy Vy (pv 1) Yq (JB _)) (Jg (Jl (i:=7) sc_law_going.nd rfl (.inl rfl) (Jx (UO rfl) rfl qu Wz (Ja (pv 6) (Ja (Jn J7 (pv 1) (pv 3)) Jd))))) JZ)
  (Jc (Jl (i:=3) sc_law_going.nd rfl (.inl rfl) (Jn (JE (K:=K) rfl) (pv 3) (pv 7)))
  (Jc (Jl (i:=8) sc_law_going.nd rfl (.inl rfl) (pv 3))
  (Jc (Yz (Jy W4 (Jn (JE (K:=K) rfl) (pv 4) Je) (Jx (Y2 (K:=K) rfl) rfl qq VM (Ja (pv 0) Jd)) (JB _)) (Jg (Jl (i:=8) sc_law_going.nd rfl (.inl rfl) (Jx (UO rfl) rfl qu Wz (Ja (pv 8) (Ja (Jn J7 (Jn J7 (Yc (Jz (K:=K) rfl) (Yc (Jz (K:=K) rfl) (pv 0) (Jn (JE (K:=K) rfl) (pv 4) Je) (fun _ _=>rfl)) Je (fun _ _=>rfl)) (pv 5)) (pv 6)) Jd))))) JZ)
  (Jc (Jl (i:=3) sc_law_going.nd rfl (.inl rfl) (Jn J7 (pv 3) (pv 8)))
  (Jg (YH (UA (K:=K) rfl QU Go Gq Y3 (pv 2) (Ja (Yu (Ja (Jn (JE (K:=K) rfl) (pv 5) (pv 7)) (Ja (Jn (JE (K:=K) rfl) (Jn J7 (pv 6) (pv 7)) (pv 8)) Jd))) Jd))))))))))))
  (Jg (JC (pv 2)))))),?_⟩
 refine JF (N:=["stretches","seats","found","inside","k","begin","length","takes","sets"]) ?_ h;walk_at "s"
theorem Zu:FnScope ["stretches"] ["stretches"] (Jf Yr):=⟨rfl,rfl,rfl,by decide +kernel,rfl,by decide +kernel,by decide +kernel⟩
theorem Zt{f:Addr}{fd:FuncData}(F:Fun K "_law_mirror" "_law_mirror" Yr f fd)(qB:mg "reversed"=none):FnOk P w K mg base CX0 1 f fd ["stretches"] (spE K C 1 J6):=by
 refine F.ok Zu (fun vs H Q E h=>JH h) (fun cdv A outer s H vs Q E hr h=>?_);have hu:=hr.units;refine⟨_,(Jg (JC (J8 (N':=["begin","length"]) (imp:=[none,none]) rfl (Ji0 (K:=K) rfl rfl qB (Ja (pv 0) Jd)) (Wb rfl rfl) (fun _ _ _ _=>(JI (K:=K) (n:=2) rfl rfl (Ji (Jj (i:=0) (show(["begin","length"]:List Str).Nodup from by decide +kernel) rfl (.inl rfl) (.inr rfl)) (Ji (Jj (i:=1) (show(["begin","length"]:List Str).Nodup from by decide +kernel) rfl (.inl rfl) (.inr rfl)) JJ)) rfl rfl)) (fun _ _ _ _=>JW) (fun _ _ _ _=>(Yu (Ja (Jn J7 (Jn J7 Je (pv 0)) (pv 1)) (Ja (pv 1) Jd))))))),?_⟩
 refine JF (N:=["stretches"]) ?_ h;walk_at "s"
theorem sc_law_gone_often:FnScope ["stretches","seats","goings","k"] ["stretches","seats","goings"] (Jf JT):=⟨rfl,rfl,rfl,by decide +kernel,rfl,by decide +kernel,by decide +kernel⟩
theorem Vx{f:Addr}{fd:FuncData}(F:Fun K "_law_gone_often" "_law_gone_often" JT f fd)(qd:mg "range"=none)(qL:mg "abs"=none)(qo:Cal P w K mg base "_law_going" 1 ["stretches","seats"] (spE K C 2 Yg))(ql:Cal P w K mg base "_law_mirror" 1 ["stretches"] (spE K C 1 J6)):FnOk P w K mg base CX0 2 f fd ["stretches","seats","goings"] (spE K C 3 Jp):=by
 refine F.ok sc_law_gone_often (fun vs H Q E h=>JH h) (fun cdv A outer s H vs Q E hr h=>?_);have hu:=hr.units;refine⟨_,(Jc (YX Q3 rfl (UR rfl qd (Ja (Jx WB rfl qL Jcj (Ja (pv 2) Jd)) Jd)) (Jj (i:=3) sc_law_gone_often.nd rfl (.inl rfl)) (Jg (Yz (Jy ZU (pv 2) Je (JB _)) (Jg (Jl (i:=0) sc_law_gone_often.nd rfl (.inl rfl) (Jk qo (hr.mono (by decide)) rfl (Ja (pv 0) (Ja (pv 1) Jd))))) (Jg (Jl (i:=0) sc_law_gone_often.nd rfl (.inl rfl) (Jk ql (hr.mono (by decide)) rfl (Ja (Jk qo (hr.mono (by decide)) rfl (Ja (Jk ql (hr.mono (by decide)) rfl (Ja (pv 0) Jd)) (Ja (pv 1) Jd))) Jd)))))))
  (Jg (JC (pv 0)))),?_⟩
 refine JF (N:=["stretches","seats","goings","k"]) ?_ h;walk_at "s"
theorem JbU:FnScope ["size","seats"] ["size","seats"] (Jf YS):=⟨rfl,rfl,rfl,by decide +kernel,rfl,by decide +kernel,by decide +kernel⟩
theorem JbI{f:Addr}{fd:FuncData}(F:Fun K "share_of" "share_of" YS f fd)(qu:mg "min"=none):FnOk P w K mg base CX0 1 f fd ["size","seats"] (spE K C 2 Yd):=by refine F.ok JbU (fun vs H Q E h=>JH h) (fun cdv A outer s H vs Q E hr h=>?_);have hu:=hr.units;refine⟨_,(Jg (JC (W6 (Jy Wl (pv 1) Yq (JB _)) (pv 0) (Jx (UO rfl) rfl qu Wz (Ja (pv 0) (Ja (pv 1) Jd)))))),?_⟩;refine JF (N:=["size","seats"]) ?_ h;walk_at "s"
theorem sc_lumps_apart:FnScope ["row","lumps","size","spot","number"] ["row"] (Jf Yl):=⟨rfl,rfl,rfl,by decide +kernel,rfl,by decide +kernel,by decide +kernel⟩
theorem W3{f:Addr}{fd:FuncData}(F:Fun K "lumps_apart" "lumps_apart" Yl f fd)(qj:Cal P w K mg base "table_of" 6 ["row"] (spE K C 1 J3)):FnOk P w K mg base CX0 7 f fd ["row"] (spE K C 1 JU):=by
 refine F.ok sc_lumps_apart (fun vs H Q E h=>JH h) (fun cdv A outer s H vs Q E hr h=>?_);have hu:=hr.units;refine⟨_,(Jc (Jl (i:=1) sc_lumps_apart.nd rfl (.inl rfl) (UK Jd))
  (Jc (YX Q3 rfl (JY (K:=K) rfl (Jk qj (hr.mono (by decide)) rfl (Ja (pv 0) Jd))) (JI (K:=K) (n:=3) rfl rfl (Ji (Jj (i:=2) sc_lumps_apart.nd rfl (.inl rfl)) (Ji (Jj (i:=3) sc_lumps_apart.nd rfl (.inl rfl)) (Ji (Jj (i:=4) sc_lumps_apart.nd rfl (.inl rfl)) JJ))) rfl rfl) (Jg (YH (UA (K:=K) rfl QU KR KS VV (pv 1) (Ja (Jn JlL (UK (Ja (Yu (Ja (pv 2) (Ja (pv 3) Jd))) Jd)) (pv 4)) Jd)))))
  (Jg (JC (pv 1))))),?_⟩
 refine JF (N:=["row","lumps","size","spot","number"]) ?_ h;walk_at "s"
theorem sc_moves:FnScope ["one","two","here","there","told","begun","led","by"] ["one","two"] (Jf US):=⟨rfl,rfl,rfl,by decide +kernel,rfl,by decide +kernel,by decide +kernel⟩
theorem JgR{f:Addr}{fd:FuncData}(F:Fun K "moves" "moves" US f fd)(qF:mg "list"=none)(qC:mg "zip"=none)(qm:Cal P w K mg base "lumps_apart" 7 ["row"] (spE K C 1 JU)):FnOk P w K mg base CX0 8 f fd ["one","two"] (spE K C 2 Yw):=by
 refine F.ok sc_moves (fun vs H Q E h=>JH h) (fun cdv A outer s H vs Q E hr h=>?_);have hu:=hr.units;refine⟨_,(Jc (Jl (i:=2) sc_moves.nd rfl (.inl rfl) (Jk qm (hr.mono (by decide)) rfl (Ja (pv 0) Jd)))
  (Jc (Jl (i:=3) sc_moves.nd rfl (.inl rfl) (Jk qm (hr.mono (by decide)) rfl (Ja (pv 1) Jd)))
  (Jc (Yz (Jy (W5 (K:=K) rfl hu) (J8 (N':=["size","spot"]) (imp:=[none,none]) rfl (JY (K:=K) rfl (pv 2)) (Wb rfl rfl) (fun _ _ _ _=>(JI (K:=K) (n:=2) rfl rfl (Ji (Jj (i:=0) (show(["size","spot"]:List Str).Nodup from by decide +kernel) rfl (.inl rfl) (.inr rfl)) (Ji (Jj (i:=1) (show(["size","spot"]:List Str).Nodup from by decide +kernel) rfl (.inl rfl) (.inr rfl)) JJ)) rfl rfl)) (fun _ _ _ _=>JW) (fun _ _ _ _=>(pv 0))) (J8 (N':=["size","spot"]) (imp:=[none,none]) rfl (JY (K:=K) rfl (pv 3)) (Wb rfl rfl) (fun _ _ _ _=>(JI (K:=K) (n:=2) rfl rfl (Ji (Jj (i:=0) (show(["size","spot"]:List Str).Nodup from by decide +kernel) rfl (.inl rfl) (.inr rfl)) (Ji (Jj (i:=1) (show(["size","spot"]:List Str).Nodup from by decide +kernel) rfl (.inl rfl) (.inr rfl)) JJ)) rfl rfl)) (fun _ _ _ _=>JW) (fun _ _ _ _=>(pv 0))) (JB _)) (Jg (JC Yq)) JZ)
  (Jc (Jl (i:=4) sc_moves.nd rfl (.inl rfl) JbL)
  (Jc (YX Q3 rfl (JaN (K:=K) rfl rfl qC (Ja (pv 2) (Ja (pv 3) Jd))) (JI (K:=K) (n:=2) rfl rfl (Ji (Jj (i:=5) sc_moves.nd rfl (.inl rfl)) (Ji (Jj (i:=6) sc_moves.nd rfl (.inl rfl)) JJ)) rfl rfl) (Jc (Jl (i:=7) sc_moves.nd rfl (.inl rfl) (Jn J7 (Yc (Jz (K:=K) rfl) (pv 6) Je (fun _ _=>rfl)) (Yc (Jz (K:=K) rfl) (pv 5) Je (fun _ _=>rfl))))
  (Jg (Yz (Jy (W5 (K:=K) rfl hu) (JgV (pv 4) (Yc (Jz (K:=K) rfl) (pv 5) Je (fun _ _=>rfl)) (pv 7) ⟨rfl,rfl,rfl,rfl⟩) (pv 7) (JB _)) (Jg (JC Yq)) JZ))))
  (Jg (JC (VX (Jck rfl) rfl qF Jdf (Ja (JgX (pv 4)) Jd))))))))),?_⟩
 refine JF (N:=["one","two","here","there","told","begun","led","by"]) ?_ h;walk_at "s"
theorem Za:FnScope ["seats"] ["seats"] (Jf Yk):=⟨rfl,rfl,rfl,by decide +kernel,rfl,by decide +kernel,by decide +kernel⟩
theorem W2{f:Addr}{fd:FuncData}(F:Fun K "check_seats" "check_seats" Yk f fd) :FnOk P w K mg base CX0 1 f fd ["seats"] (spE K C 1 J9):=by refine F.ok Za (fun vs H Q E h=>JH h) (fun cdv A outer s H vs Q E hr h=>?_);have hu:=hr.units;refine⟨_,(Jg (Yz (PW.pt (UC (Jy Vy (pv 0) Yq (JB _)) (UD (Jy W4 (pv 0) Je (JB _))))) (Jg VC) JZ)),?_⟩;refine JF (N:=["seats"]) ?_ h;walk_at "s"
theorem sc_led_by:FnScope ["one","two","seats","told","times","size","by"] ["one","two","seats"] (Jf Ut):=⟨rfl,rfl,rfl,by decide +kernel,rfl,by decide +kernel,by decide +kernel⟩
theorem Je9{f:Addr}{fd:FuncData}(F:Fun K "led_by" "led_by" Ut f fd)(qV:mg "all"=none)(qv:Cal P w K mg base "share_of" 1 ["size","seats"] (spE K C 2 Yd))(qA:Cal P w K mg base "moves" 8 ["one","two"] (spE K C 2 Yw))(qr:Cal P w K mg base "check_seats" 1 ["seats"] (spE K C 1 J9)):FnOk P w K mg base CX0 9 f fd ["one","two","seats"] (spE K C 3 YL):=by
 refine F.ok sc_led_by (fun vs H Q E h=>JH h) (fun cdv A outer s H vs Q E hr h=>?_);have hu:=hr.units;refine⟨_,(Jc (YH (Jk qr (hr.mono (by decide)) rfl (Ja (pv 2) Jd)))
  (Jc (Jl (i:=3) sc_led_by.nd rfl (.inl rfl) (Jk qA (hr.mono (by decide)) rfl (Ja (pv 0) (Ja (pv 1) Jd))))
  (Jc (Yz (Jy Wl (pv 3) Yq (JB _)) (Jg (JC Yq)) JZ)
  (Jc (Jl (i:=4) sc_led_by.nd rfl (.inr rfl) Je)
  (Jc (YX Q3 rfl (JY (K:=K) rfl (VB (Wr (K:=K) rfl) (pv 3) Wo (Wp Je))) (JI (K:=K) (n:=2) rfl rfl (Ji (Jj (i:=5) sc_led_by.nd rfl (.inl rfl)) (Ji (Jj (i:=6) sc_led_by.nd rfl (.inl rfl)) JJ)) rfl rfl) (Jg (Jl (i:=4) sc_led_by.nd rfl (.inr rfl) (Jn JbK (pv 6) (Jk qv (hr.mono (by decide)) rfl (Ja (pv 5) (Ja (pv 2) Jd)))))))
  (Jg (JC (W6 (UB (K:=K) rfl (Jx (Jeu (K:=K) rfl rfl) rfl qV Jkx (Ja (J8 (N':=["size","by","times","seats"]) (imp:=[none,none,some 4,some 2]) rfl (JY (K:=K) rfl (pv 3)) (JfJ (own:=["size","by"]) (fr:=[("times",4),("seats",2)]) rfl rfl rfl ⟨rfl,rfl,trivial⟩ rfl ⟨⟨rfl,rfl,rfl⟩,⟨rfl,rfl,rfl⟩,trivial⟩) (fun _ _ _ _=>(JI (K:=K) (n:=2) rfl rfl (Ji (Jj (i:=0) (show(["size","by","times","seats"]:List Str).Nodup from by decide +kernel) rfl (.inl rfl) (.inr rfl)) (Ji (Jj (i:=1) (show(["size","by","times","seats"]:List Str).Nodup from by decide +kernel) rfl (.inl rfl) (.inr rfl)) JJ)) rfl rfl)) (fun _ _ _ _=>JW) (fun _ _ _ _=>(JdX (JaL (K:=K) rfl hu) (pv 1) (Jn UJ (pv 2) (Jk qv (hr.mono (by decide)) rfl (Ja (pv 0) (Ja (pv 3) Jd)))) (JB _)))) Jd)) (fun _=>rfl)) (pv 4) Yq)))))))),?_⟩
 refine JF (N:=["one","two","seats","told","times","size","by"]) ?_ h;walk_at "s"
theorem JaS:FnScope ["cell","balls"] ["cell","balls"] (Jf YE):=⟨rfl,rfl,rfl,by decide +kernel,rfl,by decide +kernel,by decide +kernel⟩
theorem JaK{f:Addr}{fd:FuncData}(F:Fun K "_law_seats" "_law_seats" YE f fd)(qT:mg "max"=none):FnOk P w K mg base CX0 1 f fd ["cell","balls"] (spE K C 2 JN):=by
 refine F.ok JaS (fun vs H Q E h=>JH h) (fun cdv A outer s H vs Q E hr h=>?_);have hu:=hr.units;refine⟨_,(Jg (JC (Yc (Jz (K:=K) rfl) (UK (Ja Je (Ja Je (Ja Je (Ja Yq (Ja (Jn (JE (K:=K) rfl) Je (Jn Uz (Jn Wk (pv 0) Je) Je)) (Ja (Jx (ZG rfl) rfl qT JfK (Ja Je (Ja (pv 1) Jd))) (Ja (Jn (JE (K:=K) rfl) (pv 1) Je) (Ja (Jn (JE (K:=K) rfl) Je (Jn Uz (Jn Wk (pv 0) Je) (Jx (ZG rfl) rfl qT JfK (Ja Je (Ja (pv 1) Jd))))) Jd))))))))) (Jn Uz (pv 0) Je) (fun _ _=>rfl)))),?_⟩
 refine JF (N:=["cell","balls"]) ?_ h;walk_at "s"
theorem JbT:FnScope ["script","k"] ["script","k"] (Jf YR):=⟨rfl,rfl,rfl,by decide +kernel,rfl,by decide +kernel,by decide +kernel⟩
theorem JbH{f:Addr}{fd:FuncData}(F:Fun K "_law_cell" "_law_cell" YR f fd)(qq:mg "len"=none):FnOk P w K mg base CX0 1 f fd ["script","k"] (spE K C 2 Jw):=by
 refine F.ok JbT (fun vs H Q E h=>JH h) (fun cdv A outer s H vs Q E hr h=>?_);have hu:=hr.units;refine⟨_,(Jc (Yz (Jy W4 (pv 1) (Jx (Y2 (K:=K) rfl) rfl qq VM (Ja (pv 0) Jd)) (JB _)) (Jg (JC (Yc (Jz (K:=K) rfl) (pv 0) (pv 1) (fun _ _=>rfl)))) JZ)
  (Jg (JC Je))),?_⟩
 refine JF (N:=["script","k"]) ?_ h;walk_at "s"
theorem sc_growths:FnScope ["told","pairs","ahead","size","by","steps","growth","over"] ["told"] (Jf Y6):=⟨rfl,rfl,rfl,by decide +kernel,rfl,by decide +kernel,by decide +kernel⟩
theorem JcN{f:Addr}{fd:FuncData}(F:Fun K "growths" "growths" Y6 f fd) :FnOk P w K mg base CX0 1 f fd ["told"] (spE K C 1 YK):=by
 refine F.ok sc_growths (fun vs H Q E h=>JH h) (fun cdv A outer s H vs Q E hr h=>?_);have hu:=hr.units;refine⟨_,(Jc (Jl (i:=1) sc_growths.nd rfl (.inl rfl) (UK Jd))
  (Jc (Jl (i:=2) sc_growths.nd rfl (.inl rfl) (Yu (Ja Je (Ja Je Jd))))
  (Jc (YX Q3 rfl (JY (K:=K) rfl (pv 0)) (JI (K:=K) (n:=2) rfl rfl (Ji (Jj (i:=3) sc_growths.nd rfl (.inl rfl)) (Ji (Jj (i:=4) sc_growths.nd rfl (.inl rfl)) JJ)) rfl rfl) (Jc (Jl (i:=5) sc_growths.nd rfl (.inl rfl) (Jn J7 (pv 3) (Yc (Jz (K:=K) rfl) (pv 2) Je (fun _ _=>rfl))))
  (Jc (Jl (i:=6) sc_growths.nd rfl (.inl rfl) (Jn JbK (Jn J7 (pv 4) (Yc (Jz (K:=K) rfl) (pv 2) Je (fun _ _=>rfl))) (pv 5)))
  (Jc (Jl (i:=7) sc_growths.nd rfl (.inl rfl) (Jn J7 (Jn J7 (pv 4) (Yc (Jz (K:=K) rfl) (pv 2) Je (fun _ _=>rfl))) (Jn JiR (pv 6) (pv 5))))
  (Jc (Yz (Jy ZU (pv 7) Je (JB _)) (Jg (YH (UA (K:=K) rfl QU Go Gq Y3 (pv 1) (Ja (Yu (Ja (Jn (JE (K:=K) rfl) (Yc (Jz (K:=K) rfl) (pv 2) Je (fun _ _=>rfl)) (pv 7)) (Ja (Jn (JE (K:=K) rfl) (pv 6) Je) Jd))) Jd)))) JZ)
  (Jc (YH (UA (K:=K) rfl QU Go Gq Y3 (pv 1) (Ja (Yu (Ja (pv 3) (Ja (pv 6) Jd))) Jd)))
  (Jg (Jl (i:=2) sc_growths.nd rfl (.inl rfl) (Yu (Ja (pv 3) (Ja (pv 4) Jd)))))))))))
  (Jg (JC (pv 1)))))),?_⟩
 refine JF (N:=["told","pairs","ahead","size","by","steps","growth","over"]) ?_ h;walk_at "s"
theorem sc_ways:FnScope ["one","two","told","pairs","goings"] ["one","two"] (Jf VZ):=⟨rfl,rfl,rfl,by decide +kernel,rfl,by decide +kernel,by decide +kernel⟩
theorem JiO{f:Addr}{fd:FuncData}(F:Fun K "ways" "ways" VZ f fd)(qC:mg "zip"=none)(qG:Cal P w K mg base "growths" 1 ["told"] (spE K C 1 YK))(qA:Cal P w K mg base "moves" 8 ["one","two"] (spE K C 2 Yw)):FnOk P w K mg base CX0 9 f fd ["one","two"] (spE K C 2 Uk):=by
 refine F.ok sc_ways (fun vs H Q E h=>JH h) (fun cdv A outer s H vs Q E hr h=>?_);have hu:=hr.units;refine⟨_,(Jc (Jl (i:=2) sc_ways.nd rfl (.inl rfl) (Jk qA (hr.mono (by decide)) rfl (Ja (pv 0) (Ja (pv 1) Jd))))
  (Jc (Yz (Jy Wl (pv 2) Yq (JB _)) (Jg (JC Yq)) JZ)
  (Jc (Jl (i:=3) sc_ways.nd rfl (.inl rfl) (Jk qG (hr.mono (by decide)) rfl (Ja (pv 2) Jd)))
  (Jc (JcR (i:=4) (N':=["here","behind"]) (imp:=[none,none]) sc_ways.nd rfl (.inl rfl) rfl (JaN (K:=K) rfl rfl qC (Ja (pv 3) (Ja (VB (Wr (K:=K) rfl) (pv 3) (Wp Je) Wo) Jd))) (Wb rfl rfl) (fun _ _ _ _=>(JI (K:=K) (n:=2) rfl rfl (Ji (Jj (i:=0) (show(["here","behind"]:List Str).Nodup from by decide +kernel) rfl (.inl rfl) (.inr rfl)) (Ji (Jj (i:=1) (show(["here","behind"]:List Str).Nodup from by decide +kernel) rfl (.inl rfl) (.inr rfl)) JJ)) rfl rfl)) (fun _ _ _ _=>JW) (fun _ _ _ _=>(Yu (Ja (Yc (Jz (K:=K) rfl) (pv 0) Je (fun _ _=>rfl)) (Ja (Jn J7 (Yc (Jz (K:=K) rfl) (pv 0) Je (fun _ _=>rfl)) (Yc (Jz (K:=K) rfl) (pv 1) Je (fun _ _=>rfl))) Jd)))) rfl (.inl rfl))
  (Jc (YH (UA (K:=K) rfl QU KR KS VV (pv 4) (Ja (J8 (N':=["size","growth"]) (imp:=[none,none]) rfl (JY (K:=K) rfl (VB (Wr (K:=K) rfl) (pv 3) (Wp (JgY Jc7 Je)) Wo)) (Wb rfl rfl) (fun _ _ _ _=>(JI (K:=K) (n:=2) rfl rfl (Ji (Jj (i:=0) (show(["size","growth"]:List Str).Nodup from by decide +kernel) rfl (.inl rfl) (.inr rfl)) (Ji (Jj (i:=1) (show(["size","growth"]:List Str).Nodup from by decide +kernel) rfl (.inl rfl) (.inr rfl)) JJ)) rfl rfl)) (fun _ _ _ _=>JW) (fun _ _ _ _=>(Yu (Ja Yq (Ja (pv 1) Jd))))) Jd)))
  (Jg (JC (J8 (N':=["pair"]) (imp:=[none]) rfl (JY (K:=K) rfl (pv 4)) (Wb rfl rfl) (fun _ _ _ _=>(Jj (i:=0) (show(["pair"]:List Str).Nodup from by decide +kernel) rfl (.inl rfl) (.inr rfl))) (fun _ _ _ _=>(JbN (Jy (W5 (K:=K) rfl hu) (Yc (Jz (K:=K) rfl) (pv 0) Je (fun _ _=>rfl)) Je (JB _)))) (fun _ _ _ _=>(pv 0)))))))))),?_⟩
 refine JF (N:=["one","two","told","pairs","goings"]) ?_ h;walk_at "s"
theorem sc_law_stretches:FnScope ["script","many","span","far","place","found","k","length"] ["script","many","span","far"] (Jf J1):=⟨rfl,rfl,rfl,by decide +kernel,rfl,by decide +kernel,by decide +kernel⟩
theorem VW{f:Addr}{fd:FuncData}(F:Fun K "_law_stretches" "_law_stretches" J1 f fd)(qd:mg "range"=none)(qa:Cal P w K mg base "_law_cell" 1 ["script","k"] (spE K C 2 Jw)):FnOk P w K mg base CX0 2 f fd ["script","many","span","far"] (spE K C 4 JL):=by
 refine F.ok sc_law_stretches (fun vs H Q E h=>JH h) (fun cdv A outer s H vs Q E hr h=>?_);have hu:=hr.units;refine⟨_,(Jc (Jl (i:=4) sc_law_stretches.nd rfl (.inl rfl) (Jn J7 (Jn Uz (Jk qa (hr.mono (by decide)) rfl (Ja (pv 0) (Ja Je Jd))) (Jn (JE (K:=K) rfl) (Jn UJ Je (pv 3)) Je)) (pv 3)))
  (Jc (Jl (i:=5) sc_law_stretches.nd rfl (.inl rfl) (UK Jd))
  (Jc (YX Q3 rfl (UR rfl qd (Ja (pv 1) Jd)) (Jj (i:=6) sc_law_stretches.nd rfl (.inl rfl)) (Jc (Jl (i:=7) sc_law_stretches.nd rfl (.inl rfl) (Jn (JE (K:=K) rfl) Je (Jn Uz (Jk qa (hr.mono (by decide)) rfl (Ja (pv 0) (Ja (Jn (JE (K:=K) rfl) Je (Jn UJ Je (pv 6))) Jd))) (pv 2))))
  (Jc (YH (UA (K:=K) rfl QU Go Gq Y3 (pv 5) (Ja (Yu (Ja (pv 4) (Ja (pv 7) Jd))) Jd)))
  (Jg (Jl (i:=4) sc_law_stretches.nd rfl (.inl rfl) (Jn (JE (K:=K) rfl) (Jn (JE (K:=K) rfl) (Jn (JE (K:=K) rfl) (pv 4) (pv 7)) Je) (Jn Uz (Jk qa (hr.mono (by decide)) rfl (Ja (pv 0) (Ja (Jn (JE (K:=K) rfl) Je (Jn UJ Je (pv 6))) Jd))) (pv 2))))))))
  (Jg (JC (pv 5)))))),?_⟩
 refine JF (N:=["script","many","span","far","place","found","k","length"]) ?_ h;walk_at "s"
theorem sc_law:FnScope ["script","first","stretches","balls","goal","k","cell","one","two","found","there","seats","goings","single","times"] ["script"] (Jf VD):=⟨rfl,rfl,rfl,by decide +kernel,rfl,by decide +kernel,by decide +kernel⟩
theorem JlD{f:Addr}{fd:FuncData}(F:Fun K "law" "law" VD f fd)(qq:mg "len"=none)(qW:mg "set"=none)(qL:mg "abs"=none)(qt:mg "sum"=none)(qw:mg "isinstance"=none)(qF:mg "list"=none)(qd:mg "range"=none)(qj:Cal P w K mg base "table_of" 6 ["row"] (spE K C 1 J3))(qb:Cal P w K mg base "_law_gone_often" 2 ["stretches","seats","goings"] (spE K C 3 Jp))(qM:Cal P w K mg base "led_by" 9 ["one","two","seats"] (spE K C 3 YL))(qp:Cal P w K mg base "_law_seats" 1 ["cell","balls"] (spE K C 2 JN))(qa:Cal P w K mg base "_law_cell" 1 ["script","k"] (spE K C 2 Jw))(qR:Cal P w K mg base "ways" 9 ["one","two"] (spE K C 2 Uk))(qJ:CalM P w K mg base "Row" C 2 ["self","stretches"] (V0 C K))(qk:Cal P w K mg base "_law_stretches" 2 ["script","many","span","far"] (spE K C 4 JL)):FnOk P w K mg base CX0 10 f fd ["script"] (spE K C 1 Jcr):=by
 refine F.ok sc_law (fun vs H Q E h=>JH h) (fun cdv A outer s H vs Q E hr h=>?_);have hu:=hr.units;refine⟨_,(Jc (Jl (i:=1) sc_law.nd rfl (.inl rfl) (Jk qa (hr.mono (by decide)) rfl (Ja (pv 0) (Ja Je Jd))))
  (Jc (Jl (i:=2) sc_law.nd rfl (.inl rfl) (Jk qk (hr.mono (by decide)) rfl (Ja (pv 0) (Ja (Jn Uz (pv 1) Je) (Ja Je (Ja Je Jd))))))
  (Jc (Jl (i:=3) sc_law.nd rfl (.inl rfl) (Jx (Uo (K:=K) rfl rfl) rfl qt WA (Ja (J8 (N':=["part"]) (imp:=[none]) rfl (JY (K:=K) rfl (pv 2)) (Wb rfl rfl) (fun _ _ _ _=>(Jj (i:=0) (show(["part"]:List Str).Nodup from by decide +kernel) rfl (.inl rfl) (.inr rfl))) (fun _ _ _ _=>JW) (fun _ _ _ _=>(Yc (Jz (K:=K) rfl) (pv 0) Je (fun _ _=>rfl)))) Jd)))
  (Jc (Jl (i:=4) sc_law.nd rfl (.inl rfl) (pv 2))
  (Jc (YX Q3 rfl (UR rfl qd (Ja (Jn Uz (Jn Wk (pv 1) Je) Je) Jd)) (Jj (i:=5) sc_law.nd rfl (.inl rfl)) (Jc (Jl (i:=6) sc_law.nd rfl (.inl rfl) (Jk qa (hr.mono (by decide)) rfl (Ja (pv 0) (Ja (Jn (JE (K:=K) rfl) Je (pv 5)) Jd))))
  (Jg (Jl (i:=4) sc_law.nd rfl (.inl rfl) (Jk qb (hr.mono (by decide)) rfl (Ja (pv 4) (Ja (Jk qp (hr.mono (by decide)) rfl (Ja (Jn Wk (pv 6) Je) (Ja (pv 3) Jd))) (Ja (Jn J7 (Jn Uz (pv 6) Je) Je) Jd))))))))
  (Jc (Jl (i:=7) sc_law.nd rfl (.inl rfl) (VA qJ (hr.mono (by decide)) rfl (Ja (pv 2) Jd)))
  (Jc (Jl (i:=8) sc_law.nd rfl (.inl rfl) (VA qJ (hr.mono (by decide)) rfl (Ja (pv 4) Jd)))
  (Jc (Jl (i:=9) sc_law.nd rfl (.inl rfl) (Jk qR (hr.mono (by decide)) rfl (Ja (pv 7) (Ja (pv 8) Jd))))
  (Jc (Yz (Jg3 (UB (K:=K) rfl (Jx (Jey (K:=K) rfl) rfl qw Zm (Ja (pv 9) (Ja (JiT (v:=V.ty "list") rfl qF Jdf rfl) Jd))) (fun _=>rfl))) (Jg (JC JdW)) JZ)
  (Jc (Yz (Jy W4 (Jx (Uo (K:=K) rfl rfl) rfl qt WA (Ja (J8 (N':=["pair"]) (imp:=[none]) rfl (JY (K:=K) rfl (pv 9)) (Wb rfl rfl) (fun _ _ _ _=>(Jj (i:=0) (show(["pair"]:List Str).Nodup from by decide +kernel) rfl (.inl rfl) (.inr rfl))) (fun _ _ _ _=>JW) (fun _ _ _ _=>(Jx WB rfl qL Jcj (Ja (Yc (Jz (K:=K) rfl) (pv 0) Je (fun _ _=>rfl)) Jd)))) Jd)) Je (JB _)) (Jc (Jl (i:=10) sc_law.nd rfl (.inl rfl) (pv 2))
  (Jc (YX Q3 rfl (JY (K:=K) rfl (pv 9)) (JI (K:=K) (n:=2) rfl rfl (Ji (Jj (i:=11) sc_law.nd rfl (.inl rfl)) (Ji (Jj (i:=12) sc_law.nd rfl (.inl rfl)) JJ)) rfl rfl) (Jg (Jl (i:=10) sc_law.nd rfl (.inl rfl) (Jk qb (hr.mono (by decide)) rfl (Ja (pv 10) (Ja (pv 11) (Ja (pv 12) Jd)))))))
  (Jg (Yz (Jy (W5 (K:=K) rfl hu) (pv 10) (pv 4) (JB _)) (Jg (JC JdW)) JZ)))) JZ)
  (Jc (Jl (i:=13) sc_law.nd rfl (.inl rfl) (Jk qp (hr.mono (by decide)) rfl (Ja (Jk qa (hr.mono (by decide)) rfl (Ja (pv 0) (Ja Je Jd))) (Ja (pv 3) Jd))))
  (Jc (Jl (i:=14) sc_law.nd rfl (.inl rfl) (Jk qM (hr.mono (by decide)) rfl (Ja (pv 7) (Ja (pv 8) (Ja (pv 13) Jd)))))
  (Jc (Yz (PW.pt (UC (Jy Vy (pv 14) Yq (JB _)) (UC (Jy W4 (Jx WB rfl qL Jcj (Ja (pv 14) Jd)) Je (JB _)) (UD (Jy (W5 (K:=K) rfl hu) (Jk qb (hr.mono (by decide)) rfl (Ja (pv 2) (Ja (pv 13) (Ja (pv 14) Jd)))) (pv 4) (JB _)))))) (Jg (JC JdW)) JZ)
  (Jc (Yz (PW.pt (UC (Jy Wl (pv 14) Yq (JB _)) (UC (Jy (JaL (K:=K) rfl hu) (Jx (Y2 (K:=K) rfl) rfl qq VM (Ja (pv 9) Jd)) Je (JB _)) (UD (Jy (JaL (K:=K) rfl hu) (Yc (Jz (K:=K) rfl) (Yc (Jz (K:=K) rfl) (pv 9) Je (fun _ _=>rfl)) Je (fun _ _=>rfl)) (pv 13) (JB _)))))) (Jg (JC JdW)) JZ)
  (Jg (JC (JdX JgS (Jx (Y2 (K:=K) rfl) rfl qq VM (Ja (pv 9) Jd)) (Jn UJ Je (JiX (K:=K) rfl rfl rfl qq rfl qW (J8 (N':=["lump"]) (imp:=[none]) rfl (JY (K:=K) rfl (Jk qj (hr.mono (by decide)) rfl (Ja (pv 7) Jd))) (Wb rfl rfl) (fun _ _ _ _=>(Jj (i:=0) (show(["lump"]:List Str).Nodup from by decide +kernel) rfl (.inl rfl) (.inr rfl))) (fun _ _ _ _=>JW) (fun _ _ _ _=>(Yc (Jz (K:=K) rfl) (pv 0) Je (fun _ _=>rfl)))))) (JB _)))))))))))))))))),?_⟩
 refine JF (N:=["script","first","stretches","balls","goal","k","cell","one","two","found","there","seats","goings","single","times"]) ?_ h;walk_at "s"
end
theorem vl1{α:Type}{us:List α}(h:us.length=1):∃a,us=[a]:=match us,h with|[a],_=>⟨a,rfl⟩
theorem vl2{α:Type}{us:List α}(h:us.length=2):∃a b,us=[a,b]:=match us,h with|[a,b],_=>⟨a,b,rfl⟩
theorem vl3{α:Type}{us:List α}(h:us.length=3):∃a b c,us=[a,b,c]:=match us,h with|[a,b,c],_=>⟨a,b,c,rfl⟩
theorem vl4{α:Type}{us:List α}(h:us.length=4):∃a b c d,us=[a,b,c,d]:=match us,h with|[a,b,c,d],_=>⟨a,b,c,d,rfl⟩
theorem all_mk{l:PySem.W.OpenLaw}{w:World}{K:Frag}{h:Heap}{mg:Str->Option Value}{fa:Addr}{C:Addr}{f1:Addr}{od1 an1:Option Addr}{sl1:Array (Option Value)}{oc1 kV1 dc1 pm1 cd1 ct1:Value}{f2:Addr}{od2 an2:Option Addr}{sl2:Array (Option Value)}{oc2 kV2 dc2 pm2 cd2 ct2:Value}{f3:Addr}{od3 an3:Option Addr}{sl3:Array (Option Value)}{oc3 kV3 dc3 pm3 cd3 ct3:Value}{f4:Addr}{od4 an4:Option Addr}{sl4:Array (Option Value)}{oc4 kV4 dc4 pm4 cd4 ct4:Value}{f5:Addr}{od5 an5:Option Addr}{sl5:Array (Option Value)}{oc5 kV5 dc5 pm5 cd5 ct5:Value}{f6:Addr}{od6 an6:Option Addr}{sl6:Array (Option Value)}{oc6 kV6 dc6 pm6 cd6 ct6:Value}{f7:Addr}{od7 an7:Option Addr}{sl7:Array (Option Value)}{oc7 kV7 dc7 pm7 cd7 ct7:Value}{f8:Addr}{od8 an8:Option Addr}{sl8:Array (Option Value)}{oc8 kV8 dc8 pm8 cd8 ct8:Value}{f9:Addr}{od9 an9:Option Addr}{sl9:Array (Option Value)}{oc9 kV9 dc9 pm9 cd9 ct9:Value}{f10:Addr}{od10 an10:Option Addr}{sl10:Array (Option Value)}{oc10 kV10 dc10 pm10 cd10 ct10:Value}{f11:Addr}{od11 an11:Option Addr}{sl11:Array (Option Value)}{oc11 kV11 dc11 pm11 cd11 ct11:Value}{f12:Addr}{od12 an12:Option Addr}{sl12:Array (Option Value)}{oc12 kV12 dc12 pm12 cd12 ct12:Value}{f13:Addr}{od13 an13:Option Addr}{sl13:Array (Option Value)}{oc13 kV13 dc13 pm13 cd13 ct13:Value}{f14:Addr}{od14 an14:Option Addr}{sl14:Array (Option Value)}{oc14 kV14 dc14 pm14 cd14 ct14:Value}{f15:Addr}{od15 an15:Option Addr}{sl15:Array (Option Value)}{oc15 kV15 dc15 pm15 cd15 ct15:Value}{f16:Addr}{od16 an16:Option Addr}{sl16:Array (Option Value)}{oc16 kV16 dc16 pm16 cd16 ct16:Value}{f17:Addr}{od17 an17:Option Addr}{sl17:Array (Option Value)}{oc17 kV17 dc17 pm17 cd17 ct17:Value}{f18:Addr}{od18 an18:Option Addr}{sl18:Array (Option Value)}{oc18 kV18 dc18 pm18 cd18 ct18:Value}{f19:Addr}{od19 an19:Option Addr}{sl19:Array (Option Value)}{oc19 kV19 dc19 pm19 cd19 ct19:Value}{f20:Addr}{od20 an20:Option Addr}{sl20:Array (Option Value)}{oc20 kV20 dc20 pm20 cd20 ct20:Value}{f21:Addr}{od21 an21:Option Addr}{sl21:Array (Option Value)}{oc21 kV21 dc21 pm21 cd21 ct21:Value}{f22:Addr}{od22 an22:Option Addr}{sl22:Array (Option Value)}{oc22 kV22 dc22 pm22 cd22 ct22:Value}{f23:Addr}{od23 an23:Option Addr}{sl23:Array (Option Value)}{oc23 kV23 dc23 pm23 cd23 ct23:Value}{f24:Addr}{od24 an24:Option Addr}{sl24:Array (Option Value)}{oc24 kV24 dc24 pm24 cd24 ct24:Value}{f25:Addr}{od25 an25:Option Addr}{sl25:Array (Option Value)}{oc25 kV25 dc25 pm25 cd25 ct25:Value}{qH:Tok}(X:K.In h)(G:h.Ns mainGlobals mg)(hfa:mg "law"=some (.ref fa))
 (aC:nsIn K mainGlobals "Row"=some (some (.ref C)))
 (a1:nsIn K mainGlobals "check_stretches"=some (some (.ref f1)))
 (l1:K.lookup f1=some ⟨oc1,od1,.func (fnOf "check_stretches" "check_stretches" (Jv JP) (Jt JP) (Jf JP) .none kV1 dc1 pm1 an1 cd1 ct1),sl1⟩)
 (c1:codeIn K cd1 "check_stretches"=true)
 (k1:keepIn K (.ref f1)=true)
 (a2:findIn K (.ref C) "__init__"=some (some (.ref f2)))
 (i2:isFn K (.ref f2)=true)
 (l2:K.lookup f2=some ⟨oc2,od2,.func (fnOf "__init__" "Row.__init__" (Jv YQ) (Jt YQ) (Jf YQ) .none kV2 dc2 pm2 an2 cd2 ct2),sl2⟩)
 (c2:codeIn K cd2 "Row.__init__"=true)
 (k2:keepIn K (.ref f2)=true)
 (a3:nsIn K mainGlobals "closed_up"=some (some (.ref f3)))
 (l3:K.lookup f3=some ⟨oc3,od3,.func (fnOf "closed_up" "closed_up" (Jv YB) (Jt YB) (Jf YB) .none kV3 dc3 pm3 an3 cd3 ct3),sl3⟩)
 (c3:codeIn K cd3 "closed_up"=true)
 (k3:keepIn K (.ref f3)=true)
 (a4:nsIn K mainGlobals "by_layers"=some (some (.ref f4)))
 (l4:K.lookup f4=some ⟨oc4,od4,.func (fnOf "by_layers" "by_layers" (Jv YA) (Jt YA) (Jf YA) .none kV4 dc4 pm4 an4 cd4 ct4),sl4⟩)
 (c4:codeIn K cd4 "by_layers"=true)
 (k4:keepIn K (.ref f4)=true)
 (a5:nsIn K mainGlobals "gaps_of"=some (some (.ref f5)))
 (l5:K.lookup f5=some ⟨oc5,od5,.func (fnOf "gaps_of" "gaps_of" (Jv Y5) (Jt Y5) (Jf Y5) .none kV5 dc5 pm5 an5 cd5 ct5),sl5⟩)
 (c5:codeIn K cd5 "gaps_of"=true)
 (k5:keepIn K (.ref f5)=true)
 (a6:nsIn K mainGlobals "closes_at"=some (some (.ref f6)))
 (l6:K.lookup f6=some ⟨oc6,od6,.func (fnOf "closes_at" "closes_at" (Jv YC) (Jt YC) (Jf YC) .none kV6 dc6 pm6 an6 cd6 ct6),sl6⟩)
 (c6:codeIn K cd6 "closes_at"=true)
 (k6:keepIn K (.ref f6)=true)
 (a7:nsIn K mainGlobals "thinned"=some (some (.ref f7)))
 (l7:K.lookup f7=some ⟨oc7,od7,.func (fnOf "thinned" "thinned" (Jv Y8) (Jt Y8) (Jf Y8) .none kV7 dc7 pm7 an7 cd7 ct7),sl7⟩)
 (c7:codeIn K cd7 "thinned"=true)
 (k7:keepIn K (.ref f7)=true)
 (a8:nsIn K mainGlobals "ball_at"=some (some (.ref f8)))
 (l8:K.lookup f8=some ⟨oc8,od8,.func (fnOf "ball_at" "ball_at" (Jv Y4) (Jt Y4) (Jf Y4) .none kV8 dc8 pm8 an8 cd8 ct8),sl8⟩)
 (c8:codeIn K cd8 "ball_at"=true)
 (k8:keepIn K (.ref f8)=true)
 (a9:nsIn K mainGlobals "owed_at"=some (some (.ref f9)))
 (l9:K.lookup f9=some ⟨oc9,od9,.func (fnOf "owed_at" "owed_at" (Jv Y7) (Jt Y7) (Jf Y7) .none kV9 dc9 pm9 an9 cd9 ct9),sl9⟩)
 (c9:codeIn K cd9 "owed_at"=true)
 (k9:keepIn K (.ref f9)=true)
 (a10:nsIn K mainGlobals "struck"=some (some (.ref f10)))
 (l10:K.lookup f10=some ⟨oc10,od10,.func (fnOf "struck" "struck" (Jv Uu) (Jt Uu) (Jf Uu) .none kV10 dc10 pm10 an10 cd10 ct10),sl10⟩)
 (c10:codeIn K cd10 "struck"=true)
 (k10:keepIn K (.ref f10)=true)
 (a11:nsIn K mainGlobals "table_of"=some (some (.ref f11)))
 (l11:K.lookup f11=some ⟨oc11,od11,.func (fnOf "table_of" "table_of" (Jv YT) (Jt YT) (Jf YT) .none kV11 dc11 pm11 an11 cd11 ct11),sl11⟩)
 (c11:codeIn K cd11 "table_of"=true)
 (k11:keepIn K (.ref f11)=true)
 (a12:nsIn K mainGlobals "_law_going"=some (some (.ref f12)))
 (l12:K.lookup f12=some ⟨oc12,od12,.func (fnOf "_law_going" "_law_going" (Jv YD) (Jt YD) (Jf YD) .none kV12 dc12 pm12 an12 cd12 ct12),sl12⟩)
 (c12:codeIn K cd12 "_law_going"=true)
 (k12:keepIn K (.ref f12)=true)
 (a13:nsIn K mainGlobals "_law_mirror"=some (some (.ref f13)))
 (l13:K.lookup f13=some ⟨oc13,od13,.func (fnOf "_law_mirror" "_law_mirror" (Jv Yr) (Jt Yr) (Jf Yr) .none kV13 dc13 pm13 an13 cd13 ct13),sl13⟩)
 (c13:codeIn K cd13 "_law_mirror"=true)
 (k13:keepIn K (.ref f13)=true)
 (a14:nsIn K mainGlobals "_law_gone_often"=some (some (.ref f14)))
 (l14:K.lookup f14=some ⟨oc14,od14,.func (fnOf "_law_gone_often" "_law_gone_often" (Jv JT) (Jt JT) (Jf JT) .none kV14 dc14 pm14 an14 cd14 ct14),sl14⟩)
 (c14:codeIn K cd14 "_law_gone_often"=true)
 (k14:keepIn K (.ref f14)=true)
 (a15:nsIn K mainGlobals "share_of"=some (some (.ref f15)))
 (l15:K.lookup f15=some ⟨oc15,od15,.func (fnOf "share_of" "share_of" (Jv YS) (Jt YS) (Jf YS) .none kV15 dc15 pm15 an15 cd15 ct15),sl15⟩)
 (c15:codeIn K cd15 "share_of"=true)
 (k15:keepIn K (.ref f15)=true)
 (a16:nsIn K mainGlobals "lumps_apart"=some (some (.ref f16)))
 (l16:K.lookup f16=some ⟨oc16,od16,.func (fnOf "lumps_apart" "lumps_apart" (Jv Yl) (Jt Yl) (Jf Yl) .none kV16 dc16 pm16 an16 cd16 ct16),sl16⟩)
 (c16:codeIn K cd16 "lumps_apart"=true)
 (k16:keepIn K (.ref f16)=true)
 (a17:nsIn K mainGlobals "moves"=some (some (.ref f17)))
 (l17:K.lookup f17=some ⟨oc17,od17,.func (fnOf "moves" "moves" (Jv US) (Jt US) (Jf US) .none kV17 dc17 pm17 an17 cd17 ct17),sl17⟩)
 (c17:codeIn K cd17 "moves"=true)
 (k17:keepIn K (.ref f17)=true)
 (a18:nsIn K mainGlobals "check_seats"=some (some (.ref f18)))
 (l18:K.lookup f18=some ⟨oc18,od18,.func (fnOf "check_seats" "check_seats" (Jv Yk) (Jt Yk) (Jf Yk) .none kV18 dc18 pm18 an18 cd18 ct18),sl18⟩)
 (c18:codeIn K cd18 "check_seats"=true)
 (k18:keepIn K (.ref f18)=true)
 (a19:nsIn K mainGlobals "led_by"=some (some (.ref f19)))
 (l19:K.lookup f19=some ⟨oc19,od19,.func (fnOf "led_by" "led_by" (Jv Ut) (Jt Ut) (Jf Ut) .none kV19 dc19 pm19 an19 cd19 ct19),sl19⟩)
 (c19:codeIn K cd19 "led_by"=true)
 (k19:keepIn K (.ref f19)=true)
 (a20:nsIn K mainGlobals "_law_seats"=some (some (.ref f20)))
 (l20:K.lookup f20=some ⟨oc20,od20,.func (fnOf "_law_seats" "_law_seats" (Jv YE) (Jt YE) (Jf YE) .none kV20 dc20 pm20 an20 cd20 ct20),sl20⟩)
 (c20:codeIn K cd20 "_law_seats"=true)
 (k20:keepIn K (.ref f20)=true)
 (a21:nsIn K mainGlobals "_law_cell"=some (some (.ref f21)))
 (l21:K.lookup f21=some ⟨oc21,od21,.func (fnOf "_law_cell" "_law_cell" (Jv YR) (Jt YR) (Jf YR) .none kV21 dc21 pm21 an21 cd21 ct21),sl21⟩)
 (c21:codeIn K cd21 "_law_cell"=true)
 (k21:keepIn K (.ref f21)=true)
 (a22:nsIn K mainGlobals "growths"=some (some (.ref f22)))
 (l22:K.lookup f22=some ⟨oc22,od22,.func (fnOf "growths" "growths" (Jv Y6) (Jt Y6) (Jf Y6) .none kV22 dc22 pm22 an22 cd22 ct22),sl22⟩)
 (c22:codeIn K cd22 "growths"=true)
 (k22:keepIn K (.ref f22)=true)
 (a23:nsIn K mainGlobals "ways"=some (some (.ref f23)))
 (l23:K.lookup f23=some ⟨oc23,od23,.func (fnOf "ways" "ways" (Jv VZ) (Jt VZ) (Jf VZ) .none kV23 dc23 pm23 an23 cd23 ct23),sl23⟩)
 (c23:codeIn K cd23 "ways"=true)
 (k23:keepIn K (.ref f23)=true)
 (a24:nsIn K mainGlobals "_law_stretches"=some (some (.ref f24)))
 (l24:K.lookup f24=some ⟨oc24,od24,.func (fnOf "_law_stretches" "_law_stretches" (Jv J1) (Jt J1) (Jf J1) .none kV24 dc24 pm24 an24 cd24 ct24),sl24⟩)
 (c24:codeIn K cd24 "_law_stretches"=true)
 (k24:keepIn K (.ref f24)=true)
 (a25:nsIn K mainGlobals "law"=some (some (.ref f25)))
 (l25:K.lookup f25=some ⟨oc25,od25,.func (fnOf "law" "law" (Jv VD) (Jt VD) (Jf VD) .none kV25 dc25 pm25 an25 cd25 ct25),sl25⟩)
 (c25:codeIn K cd25 "law"=true)
 (k25:keepIn K (.ref f25)=true)
 (pg:plainGet K C Str.empty=true)
 (hd:hasDictIn K C=true)
 (po:plainOver K C=true)
 (sa:findIn K (.ref C) "__setattr__"=some (some (.builtin "object.__setattr__")))
 (mk:makesIn K C=true)
 (kc:keepIn K (.ref C)=true)
 (nS:findIn K (.ref C) "stretches"=some none)
 (qX:nsIn K mainGlobals "tuple"=some none)
 (q5:nsIn K mainGlobals "len"=some none)
 (q9:nsIn K mainGlobals "sum"=some none)
 (qQ:nsIn K mainGlobals "enumerate"=some none)
 (wa:nsIn K mainGlobals "zip"=some none)
 (wb:nsIn K mainGlobals "min"=some none)
 (wc:nsIn K mainGlobals "any"=some none)
 (qY:nsIn K mainGlobals "range"=some none)
 (qS:nsIn K mainGlobals "reversed"=some none)
 (wd:nsIn K mainGlobals "abs"=some none)
 (qZ:nsIn K mainGlobals "list"=some none)
 (we:nsIn K mainGlobals "all"=some none)
 (wf:nsIn K mainGlobals "max"=some none)
 (wg:nsIn K mainGlobals "set"=some none)
 (qP:nsIn K mainGlobals "isinstance"=some none)
 (qI:nsIn K mainGlobals "MOST_STRETCHES"=some (some (.int 30 qH)))
:∃fd:FuncData,(∀(s:Shared) (v:Value),BindsTo s fd ⟨[v],[]⟩ [("script",v)])/\∀base:Heap,K.In base->base.Ns mainGlobals mg->FnOk l.prog w K mg base CX0 10 fa fd ["script"] (Jd6 K):=by
 have e:=hfa.symm.trans (mg_of X G a25);cases e
 have T:RowC K C:=⟨⟨pg,hd,po,sa⟩,nS⟩
 have wj:=mg_of X G aC
 have qO:=mg_none_of X G qX
 have qq:=mg_none_of X G q5
 have qt:=mg_none_of X G q9
 have qe:=mg_none_of X G qQ
 have qC:=mg_none_of X G wa
 have qu:=mg_none_of X G wb
 have qU:=mg_none_of X G wc
 have qd:=mg_none_of X G qY
 have qB:=mg_none_of X G qS
 have qL:=mg_none_of X G wd
 have qF:=mg_none_of X G qZ
 have qV:=mg_none_of X G we
 have qT:=mg_none_of X G wf
 have qW:=mg_none_of X G wg
 have qw:=mg_none_of X G qP
 have qh:GV mg "MOST_STRETCHES" (.int 30):=⟨_,mg_of X G qI,⟨_,rfl⟩⟩
 have F1:=JR (st:=JP) l1 c1 k1
 have B1:=F1.binds (ps:=["stretches"]) fun _ _ _ _ _ _ us hl=>by obtain⟨_,rfl⟩:=vl1 hl;rfl
 have F2:=JR (st:=YQ) l2 c2 k2
 have B2:=F2.binds (ps:=["self","stretches"]) fun _ _ _ _ _ _ us hl=>by obtain⟨_,_,rfl⟩:=vl2 hl;rfl
 have F3:=JR (st:=YB) l3 c3 k3
 have B3:=F3.binds (ps:=["pairs"]) fun _ _ _ _ _ _ us hl=>by obtain⟨_,rfl⟩:=vl1 hl;rfl
 have F4:=JR (st:=YA) l4 c4 k4
 have B4:=F4.binds (ps:=["row","layers"]) fun _ _ _ _ _ _ us hl=>by obtain⟨_,_,rfl⟩:=vl2 hl;rfl
 have F5:=JR (st:=Y5) l5 c5 k5
 have B5:=F5.binds (ps:=["row"]) fun _ _ _ _ _ _ us hl=>by obtain⟨_,rfl⟩:=vl1 hl;rfl
 have F6:=JR (st:=YC) l6 c6 k6
 have B6:=F6.binds (ps:=["row"]) fun _ _ _ _ _ _ us hl=>by obtain⟨_,rfl⟩:=vl1 hl;rfl
 have F7:=JR (st:=Y8) l7 c7 k7
 have B7:=F7.binds (ps:=["row","layers"]) fun _ _ _ _ _ _ us hl=>by obtain⟨_,_,rfl⟩:=vl2 hl;rfl
 have F8:=JR (st:=Y4) l8 c8 k8
 have B8:=F8.binds (ps:=["row","place"]) fun _ _ _ _ _ _ us hl=>by obtain⟨_,_,rfl⟩:=vl2 hl;rfl
 have F9:=JR (st:=Y7) l9 c9 k9
 have B9:=F9.binds (ps:=["left","spot"]) fun _ _ _ _ _ _ us hl=>by obtain⟨_,_,rfl⟩:=vl2 hl;rfl
 have F10:=JR (st:=Uu) l10 c10 k10
 have B10:=F10.binds (ps:=["row"]) fun _ _ _ _ _ _ us hl=>by obtain⟨_,rfl⟩:=vl1 hl;rfl
 have F11:=JR (st:=YT) l11 c11 k11
 have B11:=F11.binds (ps:=["row"]) fun _ _ _ _ _ _ us hl=>by obtain⟨_,rfl⟩:=vl1 hl;rfl
 have F12:=JR (st:=YD) l12 c12 k12
 have B12:=F12.binds (ps:=["stretches","seats"]) fun _ _ _ _ _ _ us hl=>by obtain⟨_,_,rfl⟩:=vl2 hl;rfl
 have F13:=JR (st:=Yr) l13 c13 k13
 have B13:=F13.binds (ps:=["stretches"]) fun _ _ _ _ _ _ us hl=>by obtain⟨_,rfl⟩:=vl1 hl;rfl
 have F14:=JR (st:=JT) l14 c14 k14
 have B14:=F14.binds (ps:=["stretches","seats","goings"]) fun _ _ _ _ _ _ us hl=>by obtain⟨_,_,_,rfl⟩:=vl3 hl;rfl
 have F15:=JR (st:=YS) l15 c15 k15
 have B15:=F15.binds (ps:=["size","seats"]) fun _ _ _ _ _ _ us hl=>by obtain⟨_,_,rfl⟩:=vl2 hl;rfl
 have F16:=JR (st:=Yl) l16 c16 k16
 have B16:=F16.binds (ps:=["row"]) fun _ _ _ _ _ _ us hl=>by obtain⟨_,rfl⟩:=vl1 hl;rfl
 have F17:=JR (st:=US) l17 c17 k17
 have B17:=F17.binds (ps:=["one","two"]) fun _ _ _ _ _ _ us hl=>by obtain⟨_,_,rfl⟩:=vl2 hl;rfl
 have F18:=JR (st:=Yk) l18 c18 k18
 have B18:=F18.binds (ps:=["seats"]) fun _ _ _ _ _ _ us hl=>by obtain⟨_,rfl⟩:=vl1 hl;rfl
 have F19:=JR (st:=Ut) l19 c19 k19
 have B19:=F19.binds (ps:=["one","two","seats"]) fun _ _ _ _ _ _ us hl=>by obtain⟨_,_,_,rfl⟩:=vl3 hl;rfl
 have F20:=JR (st:=YE) l20 c20 k20
 have B20:=F20.binds (ps:=["cell","balls"]) fun _ _ _ _ _ _ us hl=>by obtain⟨_,_,rfl⟩:=vl2 hl;rfl
 have F21:=JR (st:=YR) l21 c21 k21
 have B21:=F21.binds (ps:=["script","k"]) fun _ _ _ _ _ _ us hl=>by obtain⟨_,_,rfl⟩:=vl2 hl;rfl
 have F22:=JR (st:=Y6) l22 c22 k22
 have B22:=F22.binds (ps:=["told"]) fun _ _ _ _ _ _ us hl=>by obtain⟨_,rfl⟩:=vl1 hl;rfl
 have F23:=JR (st:=VZ) l23 c23 k23
 have B23:=F23.binds (ps:=["one","two"]) fun _ _ _ _ _ _ us hl=>by obtain⟨_,_,rfl⟩:=vl2 hl;rfl
 have F24:=JR (st:=J1) l24 c24 k24
 have B24:=F24.binds (ps:=["script","many","span","far"]) fun _ _ _ _ _ _ us hl=>by obtain⟨_,_,_,_,rfl⟩:=vl4 hl;rfl
 have F25:=JR (st:=VD) l25 c25 k25
 have B25:=F25.binds (ps:=["script"]) fun _ _ _ _ _ _ us hl=>by obtain⟨_,rfl⟩:=vl1 hl;rfl
 refine⟨fnOf "law" "law" (Jv VD) (Jt VD) (Jf VD) .none kV25 dc25 pm25 an25 cd25 ct25,fun s v=>.of_eq rfl,fun base _ _=>?_⟩;have qg:Cal l.prog w K mg base "check_stretches" 1 ["stretches"] (Wt K):=⟨f1,_,Va F1 ,mg_of X G a1,k1,B1⟩
 have qJ:CalM l.prog w K mg base "Row" C 2 ["self","stretches"] (V0 C K):=⟨f2,_,⟨mk,a2,i2,kc⟩,JbG F2 qO qq qh qg T,wj,B2⟩
 have qx:Cal l.prog w K mg base "closed_up" 1 ["pairs"] (spE K C 1 Yf):=⟨f3,_,JaH (C:=C) F3 qt,mg_of X G a3,k3,B3⟩
 have qy:Cal l.prog w K mg base "by_layers" 1 ["row","layers"] (spE K C 2 Ye):=⟨f4,_,JaG (C:=C) F4 qe T,mg_of X G a4,k4,B4⟩
 have qD:Cal l.prog w K mg base "gaps_of" 1 ["row"] (spE K C 1 YJ):=⟨f5,_,JcM (C:=C) F5 qt qC T,mg_of X G a5,k5,B5⟩
 have qf:Cal l.prog w K mg base "closes_at" 2 ["row"] (spE K C 1 JM):=⟨f6,_,JaI (C:=C) F6 qu qD T,mg_of X G a6,k6,B6⟩
 have qi:Cal l.prog w K mg base "thinned" 4 ["row","layers"] (spE K C 2 JV):=⟨f7,_,JcP (C:=C) F7 qu qJ qx qy qf T,mg_of X G a7,k7,B7⟩
 have qz:Cal l.prog w K mg base "ball_at" 1 ["row","place"] (spE K C 2 Yy):=⟨f8,_,JcL (C:=C) F8 qU T,mg_of X G a8,k8,B8⟩
 have qE:Cal l.prog w K mg base "owed_at" 2 ["left","spot"] (spE K C 2 YM):=⟨f9,_,JcO (C:=C) F9 qz,mg_of X G a9,k9,B9⟩
 have qK:Cal l.prog w K mg base "struck" 5 ["row"] (spE K C 1 YN):=⟨f10,_,Jfa (C:=C) F10 qe qt qE qi T,mg_of X G a10,k10,B10⟩
 have qj:Cal l.prog w K mg base "table_of" 6 ["row"] (spE K C 1 J3):=⟨f11,_,JbJ (C:=C) F11 qi qK qf T,mg_of X G a11,k11,B11⟩
 have qo:Cal l.prog w K mg base "_law_going" 1 ["stretches","seats"] (spE K C 2 Yg):=⟨f12,_,JaJ (C:=C) F12 qd qq qu,mg_of X G a12,k12,B12⟩
 have ql:Cal l.prog w K mg base "_law_mirror" 1 ["stretches"] (spE K C 1 J6):=⟨f13,_,Zt (C:=C) F13 qB,mg_of X G a13,k13,B13⟩
 have qb:Cal l.prog w K mg base "_law_gone_often" 2 ["stretches","seats","goings"] (spE K C 3 Jp):=⟨f14,_,Vx (C:=C) F14 qd qL qo ql,mg_of X G a14,k14,B14⟩
 have qv:Cal l.prog w K mg base "share_of" 1 ["size","seats"] (spE K C 2 Yd):=⟨f15,_,JbI (C:=C) F15 qu,mg_of X G a15,k15,B15⟩
 have qm:Cal l.prog w K mg base "lumps_apart" 7 ["row"] (spE K C 1 JU):=⟨f16,_,W3 (C:=C) F16 qj,mg_of X G a16,k16,B16⟩
 have qA:Cal l.prog w K mg base "moves" 8 ["one","two"] (spE K C 2 Yw):=⟨f17,_,JgR (C:=C) F17 qF qC qm,mg_of X G a17,k17,B17⟩
 have qr:Cal l.prog w K mg base "check_seats" 1 ["seats"] (spE K C 1 J9):=⟨f18,_,W2 (C:=C) F18 ,mg_of X G a18,k18,B18⟩
 have qM:Cal l.prog w K mg base "led_by" 9 ["one","two","seats"] (spE K C 3 YL):=⟨f19,_,Je9 (C:=C) F19 qV qv qA qr,mg_of X G a19,k19,B19⟩
 have qp:Cal l.prog w K mg base "_law_seats" 1 ["cell","balls"] (spE K C 2 JN):=⟨f20,_,JaK (C:=C) F20 qT,mg_of X G a20,k20,B20⟩
 have qa:Cal l.prog w K mg base "_law_cell" 1 ["script","k"] (spE K C 2 Jw):=⟨f21,_,JbH (C:=C) F21 qq,mg_of X G a21,k21,B21⟩
 have qG:Cal l.prog w K mg base "growths" 1 ["told"] (spE K C 1 YK):=⟨f22,_,JcN (C:=C) F22 ,mg_of X G a22,k22,B22⟩
 have qR:Cal l.prog w K mg base "ways" 9 ["one","two"] (spE K C 2 Uk):=⟨f23,_,JiO (C:=C) F23 qC qG qA,mg_of X G a23,k23,B23⟩
 have qk:Cal l.prog w K mg base "_law_stretches" 2 ["script","many","span","far"] (spE K C 4 JL):=⟨f24,_,VW (C:=C) F24 qd qa,mg_of X G a24,k24,B24⟩
 exact JiE (JlD (C:=C) F25 qq qW qL qt qw qF qd qj qb qM qp qa qR qJ qk) law_true
theorem walk{l:PySem.W.OpenLaw}{q:Program}{loose:List Str}{XP:(Str->Option Value)->Heap->Prop}{YP:World->Heap->Prop}{d:DefRec}{K:Params->Frag}(hn:l.most=some 63)(hdf:d.params.defaults=[])
 (hY:∀(w:World) (h:Heap),YP w h->(K w.params).In h)
 (F:∀(w:World) (mg:Str->Option Value) (fa:Addr) (h:Heap),(K w.params).In h->h.Ns mainGlobals mg->mg d.name=some (.ref fa) ->
  ∃fd:FuncData,(∀(s:Shared) (u:Value),BindsTo s fd ⟨[u],[]⟩ [("script",u)])/\∀base:Heap,(K w.params).In base->base.Ns mainGlobals mg->FnOk l.prog w (K w.params) mg base CX0 10 fa fd ["script"] (Jd6 (K w.params))) :
 PySem.W.WalkO q loose XP YP l.row.toRowW d [] (fun f vs=>PySem.call f vs) :=
 L2.JjO (n:=63) (k:=10) (x:="script") (CX:=fun _=>CX0) (sp:=fun w=>Jd6 (K w.params)) hn (by decide) hdf ⟨rfl,by decide,by decide⟩ hY F (fun _ _ a ns hl _ hS=>⟨a,ns,rfl,hS,hl,fun _=>rfl⟩) fun _ _ _ _ _ z=>z
end LK
end
theorem PySem.W.Fast.tw15754765038629861737:True:=trivial
theorem PySem.W.Fast.tw15450114727722223307:True:=trivial
theorem PySem.W.Fast.tw16645677674561616357:True:=trivial
theorem PySem.W.Fast.tw10585057747988910276:True:=trivial
theorem PySem.W.Fast.tw13253763944288678882:True:=trivial
theorem PySem.W.Fast.tw10347377708360922427:True:=trivial
theorem PySem.W.Fast.tw6823031738079682356:True:=trivial
theorem PySem.W.Fast.tw14859168978195345693:True:=trivial
theorem PySem.W.Fast.tw17285451829452819152:True:=trivial
theorem PySem.W.Fast.tw11191575291419257562:True:=trivial
theorem PySem.W.Fast.tw15893888251159407476:True:=trivial
theorem PySem.W.Fast.tw2559567381734081292:True:=trivial
theorem PySem.W.Fast.tw12527586205045313038:True:=trivial
theorem PySem.W.Fast.tw3188722476970377597:True:=trivial
theorem PySem.W.Fast.tw15881065337876003553:True:=trivial
theorem PySem.W.Fast.tw15836663116669669643:True:=trivial
theorem PySem.W.Fast.tw7712309570517809268:True:=trivial
theorem PySem.W.Fast.tw4412520452686950414:True:=trivial
theorem PySem.W.Fast.tw11065962333811093318:True:=trivial
theorem PySem.W.Fast.tw2861460918878056926:True:=trivial
theorem PySem.W.Fast.tw7219627266523800191:True:=trivial
theorem PySem.W.Fast.tw6597576898815367935:True:=trivial
theorem PySem.W.Fast.tw18109651248668995763:True:=trivial
theorem PySem.W.Fast.tw12979894933635115749:True:=trivial
theorem PySem.W.Fast.tw8278107968533660108:True:=trivial
theorem PySem.W.Fast.tw9602779046014409242:True:=trivial
theorem PySem.W.Fast.tw14444291986147299530:True:=trivial
theorem PySem.W.Fast.tw12964015775920050905:True:=trivial
theorem PySem.W.Fast.tw473701123568494292:True:=trivial
theorem PySem.W.Fast.tw7637697950775590390:True:=trivial
theorem PySem.W.Fast.tw11052795231057372189:True:=trivial
theorem PySem.W.Fast.tw10825844714938608348:True:=trivial
theorem PySem.W.Fast.tw5760514863854524972:True:=trivial
theorem PySem.W.Fast.tw9864078132323152467:True:=trivial
theorem PySem.W.Fast.tw12930706607858855549:True:=trivial
theorem PySem.W.Fast.tw13902155717754498358:True:=trivial
theorem PySem.W.Fast.tw7314691435951090944:True:=trivial
theorem PySem.W.Fast.tw3222155428228150048:True:=trivial
theorem PySem.W.Fast.tw5952674402920386742:True:=trivial
theorem PySem.W.Fast.tw4552234696417538240:True:=trivial
theorem PySem.W.Fast.tw3085482982058604761:True:=trivial
theorem PySem.W.Fast.tw10794235725941743796:True:=trivial
theorem PySem.W.Fast.tw12613906218767661308:True:=trivial
theorem PySem.W.Fast.tw4485529887515523559:True:=trivial
theorem PySem.W.Fast.tw16443977624205569938:True:=trivial
theorem PySem.W.Fast.tw18294986218154144979:True:=trivial
theorem PySem.W.Fast.tw8867480698276471118:True:=trivial
theorem PySem.W.Fast.tw13631577222594874620:True:=trivial
theorem PySem.W.Fast.tw2295478354012509361:True:=trivial
theorem PySem.W.Fast.tw8412413053048018731:True:=trivial
theorem PySem.W.Fast.tw14079063310536822876:True:=trivial
theorem PySem.W.Fast.tw1664855494557055290:True:=trivial
theorem PySem.W.Fast.tw12656533659070872195:True:=trivial
theorem PySem.W.Fast.tw16655265885728239899:True:=trivial
theorem PySem.W.Fast.tw5879391845908475606:True:=trivial
theorem PySem.W.Fast.tw7245052024797844410:True:=trivial
theorem PySem.W.Fast.tw17583593025594900694:True:=trivial
theorem PySem.W.Fast.tw424830941375600562:True:=trivial
open PySem PySem.W PyProof.Rows
set_option maxRecDepth 100000 in
set_option maxHeartbeats 0 in
theorem PySem.Challenge.cw_lumprow_k65_whole_ways_by_going_holds : PySem.Challenge.rw_lumprow_k65_whole_ways_by_going.Holds := by
 w_on; o_law; k_head; (case hw => w_witness2)
 k_fill
 refine LK.walk (l := PySem.Challenge.rw_lumprow_k65_whole_ways_by_going) rfl rfl (fun w h Y => PySem.W.kIn_of Y) ?F
 case F =>
  intro w mg fa h KX G hmg; apply LK.all_mk KX G hmg; all_goals k_is
