import PyProof.Rows.All
import Wide.All
import OpenK.AllK
import Wide.FinOn
import Lean
import PyProof.EqAt
import PyProof.EqKinds
import PyProof.TupleCall
import PySem.Challenge.RW_lumprow_k10_texts_refused
open Array renaming getElem?_eq_some_iff→QO,length_toList→Km,getElem?_eq_getElem→Lb,getElem?_toList→LP
open Bool renaming false_ne_true→Qx,and_eq_true→Qz,eq_iff_iff→Gf,or_eq_false_iff→Kb,or_eq_true→Ky,not_eq_true'→KF
open False renaming elim→QT
open Int renaming emod_nonneg→Ga,emod_lt_of_pos→Gb,toNat_natCast→GY
open List renaming length_cons→Qh,getElem?_eq_some_iff→Qi,mem_cons→Qm,mem_cons_of_mem→Qp,map_cons→Qr,size_toArray→Qt,length_append→Qu,mem_cons_self→Qy,getElem?_append_left→QA,length_map→QB,getElem?_map→QJ,replicate→QK,getElem?_set→QM,getElem?_append_right→QN,mem_of_getElem?→QQ,all_eq_true→QS,cons_append→QU,mem_append_right→QX,append_nil→QY,mem_append→Q2,mem_map→Q4,getD_eq_getElem?_getD→Q7,any_cons→Q9,flatten_cons→Ge,range→Gi,length_take→Gj,eq_nil_of_length_eq_zero→Go,replicate_succ→Gs,take_of_length_le→Gw,getElem_mem→Gz,map_append→GD,map_nil→GF,getElem?_eq_getElem→GH,filterMap_cons→GI,getElem?_replicate→GJ,length_drop→GK,getElem?_cons_succ→GM,of_mem_zip→GQ,find?_cons→GR,length_singleton→GS,mem_iff_getElem?→GW,append_assoc→G0,lookup→G5,map_map→Kh,drop_eq_getElem_cons→Kj,pairwise_iff_getElem→Kk,mem_or_eq_of_mem_set→Kl,map_congr_left→Kn,all_cons→Kq,nodup_cons→Kw,length_set→Kx,nil_append→Kz,length_nil→KA,getElem?_set_self→KB,drop_eq_nil_of_le→KI,getElem?_set_ne→KN,mem_of_mem_drop→KO,mem_of_mem_take→KP,idxOf_lt_length_of_mem→KZ,mem_range→K2,take_add_one→Ld,length_range→Lg,take_length→Ln,mem_nil_iff→Lo,drop_length→Lp,getElem?_cons_zero→Lq,not_mem_nil→Lv,any_append→LM,getElem?_reverse→LN,mem_append_left→LW,mem_iff_getElem→LZ,reduceReplicate→L5,idxOf_cons_self→L7,take_left→L8
open Nat renaming le_refl→Qq,lt_of_lt_of_le→QD,ne_of_lt→QG,le_trans→QP,lt_irrefl→Q8,zero_le→G4,ble_eq→G7,le_of_lt→Kc,lt_succ_self→Kf,lt_trans→Kg,ne_of_gt→KC,mul_le_mul_left→KS,lt_of_le_of_lt→K8,toDigits_of_lt_base→Ls,ble→LC,toDigits→LH,digitChar→Mc,le_of_eq→Mo,succ_mul→Mt
open Ne renaming symm→Q0
open Option renaming bind_some→QF,isSome_iff_exists→Kp,map_eq_some_iff→KG,map→Ml
open Option.some renaming inj→QL
open PyProof.Rows renaming slot_tuple_getitem→QW,callWith_type1→KW
open PySem renaming Value→Qa,Addr→Qc,Shared→Qd,wpAny_bind→Qf,sizeLine→Qk,Program→Qo,wpAny_pure→Qv,Around→Qw,World→QC,FuncData→QE,Heap→QI,Expr→QR,wpAny_mono→Q6,wpAny_newObj_type→Gd,Stmt→Gn,mem_of_lookup→Gr,wpAny_holding→Gx,wpAny_field→Gy,wpAny_setField→GB,wpAny_callSpecial?_slot→GL,wpAny_getItem_str_slice→GN,wpAny_Call_Name_kw→GP,wpAny_truthy_bool→GX,wpAny_loadPart_at→G1,wpAny_nameGoes_keeps→G8,codeAny_call_builtin→G9,wpAny_standAt→Ko,wpAny_execs_nil→Ku,wpAny_passesOwn→Kv,codeAny_mono→KE,wpAny_call_entry→KJ,Scope→K3,wpAny_call→K5,Keyword→Lc,wpAny_execs_cons→Ll,wpAny_typeOf→Ly,wpAny_loadPart→LX,Result→LY,Within→Mm
open PySem.Around renaming under→Mr
open PySem.Builtin.Slice renaming slicePlaces→GC,sliceAdjust→Ki,sliceApplied→K6
open PySem.Builtin.SmallTypes renaming nextOf→La
open PySem.Builtin.Str renaming occurrences→Q5,strKind→Gu,strSliceIndices→G2,subAt→KH,partsBetween→Li
open PySem.Builtin.Tuple renaming tupleExact→GG,tupleItemsOf→K7
open PySem.Calls renaming evalArgs_plain→G6,Name_function_global→K4,callWith_builtin→LA
open PySem.Code renaming isFrame→Ms
open PySem.EntryCells renaming newEntry→Ma
open PySem.F renaming excBase_ValueError→QZ,plainAttrs_str→Q1,plainAttrs_list→Gc,attrBase_ValueError→Gv,slot_tuple_iterator_next→GA,slot_list_insert→Ks,type_list_insert→Kt,args_tuple_iterator_next_1→KR,entry_tuple_iterator_next→KY,slot_str_startswith→K0,type_str_startswith→K1,args_str_split_2→K9,entry_str_split→Lf,args_tuple_add_2→Lh,slot_list_append→Lj,type_list_append→Lk,entry_tuple_add→Lm,slot_str_split→Lr,slot_tuple_add→Lx,slot_str_split→LI,type_str_split→LJ,entry_bexc_ga→LO,slot_str_find→LQ,type_str_find→LS,slot_str_join→LU,type_str_join→LV,args_bexc_ga→L4
open PySem.Heap renaming get?_push_of_some→Qg,lt_size→Qj,get?_push_size→QH,get?_update_other→QV,get?_update_self→Gg,get?_none_of_le→G3,SameBut→Ke,size_push→KD
open PySem.Heap.Ns1 renaming of_empty→Mp
open PySem.Heap.SameBut renaming update→KU
open PySem.NumText renaming digitsVal→Lu
open PySem.Obj renaming data_mapFields→Gm,isFreed_of_fields→GU,mapFields→KM,cls_mapFields→Le,mapSeq→Lz
open PySem.Paired renaming length→Mb
open PySem.PassesOwn renaming never→Mx
open PySem.PyData renaming canLayAll0→GZ,eqvAll→Kr,eqv→KL,depthAll→KQ,depth→LD
open PySem.SeqAt.EqAt renaming int_none→L9,int_str→Md,str_int→Me
open PySem.Str renaming ofString→Qe,empty→Q3,join→Gh,append_assoc→Gk,length_append→Gp,length→Mg
open PySem.StrLaws renaming occBody→LL,sliceText→Mw
open PySem.Txt renaming slice→Gq,split→GO,startswith→Ka,slice_le→LG,find→Mv
open PySem.W renaming Frag→Qn,cellsFrom_some→Lw,kitx_tuple→Mf,isNs_of_in→Mh,tail_of_in→Mi,looks_find→Mj,set_plain→Mn,kitx_dict→Mq,handed_on→Mu
open PySem.W.KIN renaming val_back→L6
set_option Elab.async false
set_option linter.all false
set_option maxRecDepth 100000
set_option maxHeartbeats 4000000
open PySem.W (instObj methodObj Frag lookIn InstAt findIn plainOver takerIn hasDictIn any_some looks_clsIn makesIn emptyDict looks_findIn plainGet specialIn isFn keepIn takesIn mroIn kitOne kia_one kitx_list callWith_K fnOf codeIn notCls nsIn excIn exmOne Looks findObj looks_mroIn clsIn kitAny mg_of mg_none_of)
noncomputable section
namespace L2
open PySem PySem.Spec PyProof.Rows

noncomputable abbrev Key:=Sum Int Str
noncomputable def JiC:Key->Qa->Bool
 | .inl k,v=>Value.isInt k v
 | .inr x,v=>Value.isStrOf x v
noncomputable def Jmn(w:QC):Key->Int
 | .inl k=>hashInt k
 | .inr x=>hashStr w x
theorem Yd:∀{k:Key} {v:Qa},JiC k v=true->(∃i t,k=Sum.inl i/\v=Value.int i t)\/(∃x t,k=Sum.inr x/\v=Value.str x t)
 | .inl i,v,h=>by obtain⟨t,e⟩:=Value.isInt_shape (k:=i) (v:=v) h;exact .inl ⟨i,t,rfl,e⟩
 | .inr x,v,h=>by obtain⟨t,e⟩:=Value.isStrOf_shape (x:=x) (v:=v) h;exact .inr ⟨x,t,rfl,e⟩
theorem JjH(a b:Int):decide ((Sum.inl a:Key)=Sum.inl b)=(a == b):=by
 by_cases e:a=b
 ·subst e;simp
 ·have h:¬(Sum.inl a:Key)=Sum.inl b:=fun q=>e (Sum.inl.inj q)
  rw[decide_eq_false h];exact(beq_eq_false_iff_ne.mpr e).symm
theorem JjK(a b:Str):decide ((Sum.inr a:Key)=Sum.inr b)=decide (a=b):=by
 by_cases e:a=b
 ·subst e;simp
 ·have h:¬(Sum.inr a:Key)=Sum.inr b:=fun q=>e (Sum.inr.inj q)
  rw[decide_eq_false h,decide_eq_false e]
theorem JjI(a:Int)(b:Str):decide ((Sum.inl a:Key)=Sum.inr b)=false:=decide_eq_false (fun q=>nomatch q)
theorem JjJ(a:Str)(b:Int):decide ((Sum.inr a:Key)=Sum.inl b)=false:=decide_eq_false (fun q=>nomatch q)

noncomputable def Jad(prog:Qo)(w:QC):PySem.KeyKind prog w Key where
 is:=JiC
 hash:=Jmn w
 inj:=fun v a b ha hb=>by
  rcases Yd ha with ⟨i,t,rfl,rfl⟩|⟨x,t,rfl,rfl⟩
  ·rcases Yd hb with ⟨j,u,rfl,e⟩|⟨y,u,rfl,e⟩
   ·injection e with e1 _;rw[e1]
   ·exact nomatch e
  ·rcases Yd hb with ⟨j,u,rfl,e⟩|⟨y,u,rfl,e⟩
   ·exact nomatch e
   ·injection e with e1 _;rw[e1]
 byValue:=fun k v h=>by rcases Yd h with ⟨i,t,rfl,rfl⟩|⟨x,t,rfl,rfl⟩ <;> rfl
 pyHash:=fun hv h=>by
  rcases Yd hv with ⟨i,t,rfl,rfl⟩|⟨x,t,rfl,rfl⟩
  ·exact wpAny_pyHash_int h
  ·exact wpAny_pyHash_str h
 eqBool:=fun hu hv h=>by
  rcases Yd hu with ⟨i,t,rfl,rfl⟩|⟨x,t,rfl,rfl⟩
  ·rcases Yd hv with ⟨j,u,rfl,rfl⟩|⟨y,u,rfl,rfl⟩
   ·rw[JjH] at h;exact wpAny_eqBool_int h
   ·rw[JjI] at h;exact Md i t y u _ _ _ _ h
  ·rcases Yd hv with ⟨j,u,rfl,rfl⟩|⟨y,u,rfl,rfl⟩
   ·rw[JjJ] at h;exact Me x t j u _ _ _ _ h
   ·rw[JjK] at h;exact wpAny_eqBool_str h
 «strs»:=fun k x t v h=>by
  rcases Yd h with ⟨i,u,rfl,e⟩|⟨y,u,rfl,e⟩
  ·exact nomatch e
  ·injection e with e1 _
   subst e1;cases v <;> rfl

end L2

namespace L2
open PySem PySem.Spec PyProof.Rows

inductive V where
 | non|bl (b:Bool)|int (i:Int)|str (x:Str)|byt (b:Array UInt8)|flt (b:UInt64)|ref (a:Qc)|ty (n:String)
 deriving DecidableEq

noncomputable def RelV:V->Qa->Prop
 | .non,u=>u=Value.none
 | .bl b,u=>u=Value.bool b
 | .int i,u=>∃t,u=Value.int i t
 | .str x,u=>∃t,u=Value.str x t
 | .byt b,u=>∃t,u=Value.bytes b t
 | .flt b,u=>∃t,u=Value.float b t
 | .ref a,u=>u=Value.ref a
 | .ty n,u=>u=Value.type n

noncomputable abbrev Vals:List V->List Qa->Prop:=Paired RelV
theorem Vals.length{xs:List V}{us:List Qa}(r:Vals xs us):xs.length=us.length:=Mb r
theorem Vals.get:∀{xs:List V} {us:List Qa} {i:Nat} {x:V},Vals xs us->xs[i]?=some x->∃u,us[i]?=some u/\RelV x u
 | _,_,_,_,.nil,e=>by simp at e
 | _,_,0,_,.cons r _,e=>by simp at e;subst e;exact⟨_,rfl,r⟩
 | _,_,i+1,x,.cons _ t,e=>by obtain⟨u,h1,h2⟩:=Vals.get (i:=i) (x:=x) t (by simpa using e);exact⟨u,by simpa using h1,h2⟩
theorem Vals.set{x:V}{u:Qa}(r:RelV x u):∀{xs:List V} {us:List Qa} (i:Nat),Vals xs us->Vals (xs.set i x) (us.set i u)
 | _,_,_,.nil=>.nil
 | _,_,0,.cons _ t=>.cons r t
 | _,_,i+1,.cons q t=>.cons q (Vals.set r i t)
theorem Vals.append:∀{xs ys:List V} {us ws:List Qa},Vals xs us->Vals ys ws->Vals (xs++ys) (us++ws)
 | _,_,_,_,.nil,s=>s
 | _,_,_,_,.cons r t,s=>.cons r (Vals.append t s)
theorem Vals.take:∀{xs:List V} {us:List Qa} (n:Nat),Vals xs us->Vals (xs.take n) (us.take n)
 | _,_,0,_=>.nil
 | _,_,_+1,.nil=>.nil
 | _,_,n+1,.cons r t=>.cons r (Vals.take n t)
theorem Vals.drop:∀{xs:List V} {us:List Qa} (n:Nat),Vals xs us->Vals (xs.drop n) (us.drop n)
 | _,_,0,r=>r
 | _,_,_+1,.nil=>.nil
 | _,_,n+1,.cons _ t=>Vals.drop n t
noncomputable def RelO:Option V->Option Qa->Prop
 | some v,some u=>RelV v u
 | none,none=>True
 | _,_=>False
noncomputable def KV{κ:Type}:List (κ×V)->List (κ×Qa)->Prop:=Paired fun(p:κ×V) (q:κ×Qa)=>p.1=q.1/\RelV p.2 q.2

noncomputable def kV:Key->V
 | .inl i=>.int i
 | .inr x=>.str x

inductive HO where
 | lst (xs:List V)
 | tup (xs:List V)
 | dK (kvs:List (Key×V))|dT (kvs:List (List Key×V))
 | set (S:Int->Bool) (n:Nat)
 | ins (C dx:Qc) (fs:List (Str×V))
 | own (x:Qc)
 | xd (fs:List (Str×V))
 | met (f x:Qc)
 | rng (lo hi:Int)
 | frz (o:Obj) (u:HO)
 | tbl (ps:Array Qa)
 | ext (φ:QI->Prop)

noncomputable abbrev Hp:=Qc->Option HO
noncomputable def upd(H:Hp)(a:Qc)(o:HO):Hp:=fun b=>if b=a then some o else H b
theorem JE{H:Hp}{a:Qc}{o:HO}:upd H a o a=some o:=by unfold upd;rw[if_pos rfl]
theorem Jj{H:Hp}{a b:Qc}{o:HO}(h:b≠a):upd H a o b=H b:=by unfold upd;rw[if_neg h]
theorem Ja5{H:Hp}{a b:Qc}{o u:HO}(h:H a=some o)(h':H b=some u)(d:o≠u):a≠b:=by intro e;subst e;rw[h] at h';exact d (QL h')
theorem Jt{H:Hp}{a b:Qc}{o:HO}(h:H a=some o)(h':H b=none):a≠b:=by intro e;subst e;rw[h] at h';cases h'

section
variable(P:Qo)(w:QC)
noncomputable def ObjOk(H:Hp)(h:QI)(a:Qc):HO->Prop
 | .lst xs=>xs.length<=Qk/\∃(its:List Qa) (n:Nat),Vals xs its/\h.get? a=some { cls:=.type "list",data:=.seq its.toArray n }
 | .tup xs=>xs.length<=Qk/\∃its:List Qa,Vals xs its/\IsTup h a its.toArray
 | .dK kvs=>kvs.length<=Qk/\(a == sysModules)=false/\∃vs,KV kvs vs/\h.DictOf (Jad P w) a vs
 | .dT kvs=>kvs.length<=Qk/\(a == sysModules)=false/\∃xs:List (List Key×Qc×Qa),
  Paired (fun(p:List Key×V) (q:List Key×Qc×Qa)=>p.1=q.1/\H q.2.1=some (.tup (p.1.map kV))/\RelV p.2 q.2.2) kvs xs ∧
  ∃o es ep,h.get? a=some o/\o.ExactDict/\o.data=.dict es ep/\es.toList=xs.map (entryOfKey (tupleKind (Jad P w)))/\(xs.map (·.1)).Nodup
 | .set S n=>h.SetOf (intKind P w) a S n
 | .ins C dx fs=>H dx=some (.own a)/\fs.length<=1000/\dx≠a/\h.get? a=some (instObj C dx) ∧
  ∃mA,h.Ns1 dx mA/\(∀f,RelO (fs.lookup f) (mA f))/\Mm mA (fs.map (·.1))
 | .own _=>∃o,h.get? a=some o
 | .xd fs=>∃mA,h.Ns1 a mA/\∀f,RelO (fs.lookup f) (mA f)
 | .rng lo hi=>∃t u v,h.get? a=some { cls:=.type "range",data:=.fields #[.int lo t,.int hi u,.int 1 v] }
 | .frz o u=>h.get? a=some o/\ObjOk H h a u
 | .tbl ps=>h.get? a=some { cls:=.none,data:=.fields ps }
 | .met f x=>h.get? a=some (methodObj (.ref f) (.ref x))
 | .ext φ=>φ h/\(∃o,h.get? a=some o)/\∀h1 h2:QI,φ h1->(∀o,h1.get? a=some o->h2.get? a=some o)->φ h2
noncomputable def HOk(H:Hp)(h:QI):Prop:=∀a o,H a=some o->ObjOk P w H h a o
end

section
variable{P:Qo}{w:QC}{H H':Hp}{h h':QI}{a:Qc}{o:HO}
theorem ObjOk.lt(x:ObjOk P w H h a o):a<h.objs.size:=by
 cases o with
 | lst xs=>obtain⟨_,_,_,_,e⟩:=x;exact Qj e
 | tup xs=>obtain⟨_,_,_,p⟩:=x;exact p.lt
 | dK kvs=>obtain⟨_,_,_,_,o,_,_,e,_⟩:=x;exact Qj e
 | dT kvs=>obtain⟨_,_,_,_,o,_,_,e,_⟩:=x;exact Qj e
 | set S n=>obtain⟨o,_,_,_,e,_⟩:=x;exact Qj e
 | ins C dx fs=>obtain⟨_,_,_,e,_⟩:=x;exact Qj e
 | own y=>obtain⟨_,e⟩:=x;exact Qj e
 | xd fs=>obtain⟨_,⟨_,_,_,e,_⟩,_⟩:=x;exact Qj e
 | rng lo hi=>obtain⟨_,_,_,e⟩:=x;exact Qj e
 | frz ob u=>obtain⟨e,_⟩:=x;exact Qj e
 | tbl ps=>exact Qj (show h.get? a=some _ from x)
 | met f y=>exact Qj (show h.get? a=some _ from x)
 | ext φ=>obtain⟨_,⟨_,e⟩,_⟩:=x;exact Qj e
theorem Paired.mapP{α β:Type}{F G:α->β->Prop}:∀{l₁:List α} {l₂:List β},Paired F l₁ l₂->(∀a b,F a b->G a b)->Paired G l₁ l₂
 | _,_,.nil,_=>.nil
 | _,_,.cons r t,f=>.cons (f _ _ r) (Paired.mapP t f)
theorem ObjOk.stay(x:ObjOk P w H h a o)(k:∀b u,(b=a\/H b=some (.own a))->h.get? b=some u->h'.get? b=some u)
 (ho:∀b,H b=some (.own a)->H' b=some (.own a)) (ht:∀b xs,H b=some (.tup xs)->H' b=some (.tup xs)):ObjOk P w H' h' a o:=by
 induction o with
 | lst xs=>obtain⟨z,its,n,r,e⟩:=x;exact⟨z,its,n,r,k _ _ (.inl rfl) e⟩
 | tup xs=>obtain⟨z,its,r,ob,e,c⟩:=x;exact⟨z,its,r,ob,k _ _ (.inl rfl) e,c⟩
 | dK kvs=>obtain⟨z,y,vs,r,ob,es,ep,e,c⟩:=x;exact⟨z,y,vs,r,ob,es,ep,k _ _ (.inl rfl) e,c⟩
 | dT kvs=>obtain⟨z,y,xs,r,ob,es,ep,e,c⟩:=x;exact⟨z,y,xs,Paired.mapP r fun p q z=>⟨z.1,ht _ _ z.2.1,z.2.2⟩,ob,es,ep,k _ _ (.inl rfl) e,c⟩
 | set S n=>obtain⟨ob,es,ep,t,e,c⟩:=x;exact⟨ob,es,ep,t,k _ _ (.inl rfl) e,c⟩
 | ins C dx fs=>obtain⟨d,z,ne,e,mA,⟨od,es,ep,e2,c⟩,r⟩:=x;exact⟨ho _ d,z,ne,k _ _ (.inl rfl) e,mA,⟨od,es,ep,k _ _ (.inr d) e2,c⟩,r⟩
 | own y=>obtain⟨ob,e⟩:=x;exact⟨ob,k _ _ (.inl rfl) e⟩
 | xd fs=>obtain⟨mA,⟨od,es,ep,e,c⟩,r⟩:=x;exact⟨mA,⟨od,es,ep,k _ _ (.inl rfl) e,c⟩,r⟩
 | rng lo hi=>obtain⟨t,u,v,e⟩:=x;exact⟨t,u,v,k _ _ (.inl rfl) e⟩
 | frz ob u ih=>obtain⟨e,q⟩:=x;exact⟨k _ _ (.inl rfl) e,ih q⟩
 | tbl ps =>
  have e:h.get? a=some { cls:=.none,data:=.fields ps }:=x
  show h'.get? a=some { cls:=.none,data:=.fields ps };exact k a _ (.inl rfl) e
 | met f y =>
  have e:h.get? a=some (methodObj (.ref f) (.ref y)):=x
  show h'.get? a=some (methodObj (.ref f) (.ref y));exact k a _ (.inl rfl) e
 | ext φ=>obtain⟨p,⟨o,e⟩,st⟩:=x;exact⟨st _ _ p fun o q=>k _ _ (.inl rfl) q,⟨o,k _ _ (.inl rfl) e⟩,st⟩
theorem HOk.lt(x:HOk P w H h)(e:H a=some o):a<h.objs.size:=(x a o e).lt
theorem HOk.fresh(x:HOk P w H h)(e:h.objs.size<=a):H a=none:=by
 cases q:H a with
 | none=>rfl
 | some u=>exact absurd (QD (x.lt q) e) (Q8 _)
theorem HOk.kept(x:HOk P w H h)(k:∀b u,h.get? b=some u->h'.get? b=some u):HOk P w H h':=fun a o e=>(x a o e).stay (fun b u _ q=>k b u q) (fun _ q=>q) fun _ _ q=>q
theorem HOk.laid(x:HOk P w H h)(k:∀b u,h.get? b=some u->h'.get? b=some u)(hp:h.objs.size<=a)(new:ObjOk P w (upd H a o) h' a o):HOk P w (upd H a o) h':=fun b u e=>by
 have hn:=x.fresh hp
 by_cases hb:b=a
 ·subst hb;rw[JE] at e;cases e;exact new
 ·rw[Jj hb] at e;exact(x b u e).stay (fun c v _ q=>k c v q) (fun c q=>by rw[Jj (Jt q hn)];exact q) fun c xs q=>by rw[Jj (Jt q hn)];exact q
end

noncomputable def Rd(H:Hp)(a:Qc)(u:HO):Prop:=H a=some u\/∃o,H a=some (.frz o u)
theorem Rd.of{H:Hp}{a:Qc}{u:HO}(h:H a=some u):Rd H a u:=.inl h
theorem Rd.ok{P:Qo}{w:QC}{H:Hp}{h:QI}{a:Qc}{u:HO}(r:Rd H a u)(x:HOk P w H h):ObjOk P w H h a u:=by
 rcases r with r|⟨o,r⟩
 ·exact x a u r
 ·obtain⟨_,q⟩:=x a _ r;exact q
noncomputable def Mut:Option HO->Prop
 | some (.lst _)=>True
 | some (.dK _)=>True
 | some (.dT _)=>True
 | some (.set _ _)=>True
 | some (.ins _ _ _)=>True
 | some (.ext _)=>True
 | _=>False
section
variable{P:Qo}{w:QC}{H:Hp}{h h':QI}{x e:Qc}{o':HO}
theorem HOk.write(ok:HOk P w H h)(mu:Mut (H x))(he:e=x\/H e=some (.own x))(k:∀b u,b≠e->h.get? b=some u->h'.get? b=some u)(heo:∃u,h'.get? e=some u)
 (new:ObjOk P w (upd H x o') h' x o'):HOk P w (upd H x o') h':=fun b u q=>by
 have nown:∀c y,H c=some (.own y)->c≠x:=fun c y r z=>by subst z;rw[r] at mu;exact mu
 have ntup:∀c xs,H c=some (.tup xs)->c≠x:=fun c xs r z=>by subst z;rw[r] at mu;exact mu
 by_cases hb:b=x
 ·subst hb;rw[JE] at q;cases q;exact new
 ·rw[Jj hb] at q
  by_cases hbe:b=e
  ·have q':H b=some (.own x):=by
    rcases he with z|z
    ·exact absurd (hbe.trans z) hb
    ·rw[hbe];exact z
   rw[q] at q';cases q';obtain⟨v,hv⟩:=heo;exact⟨v,by rw[hbe];exact hv⟩
  ·refine(ok b u q).stay (fun c v hc r=>k c v ?_ r) (fun c r=>by rw[Jj (nown c b r)];exact r) fun c xs r=>by rw[Jj (ntup c xs r)];exact r
   rcases hc with rfl|hc
   ·exact hbe
   ·rintro rfl;rcases he with z|z
    ·exact nown c b hc z
    ·rw[hc] at z;cases z;exact hb rfl
end

structure Un (fs ex:List Qc) (H H':Hp) (h h':QI):Prop where
 keep:∀b o,h.get? b=some o->H b=none->b∉fs->b∉ex->h'.get? b=some o
 slot:∀b o,h.get? b=some o->H b=none->b∈fs->b∉ex->∃sl,h'.get? b=some { o with slots:=sl }
 free:∀b o,h.get? b=some o->H b=none->b∉ex->H' b=none
 there:∀b o,h.get? b=some o->b∉ex->∃o',h'.get? b=some o'
 tups:∀b xs,H b=some (.tup xs)->H' b=some (.tup xs)
 frzs:∀b o u,H b=some (.frz o u)->H' b=some (.frz o u)
 tbls:∀b ps,H b=some (.tbl ps)->∃more,H' b=some (.tbl (ps++more))
section
variable{fs fs' ex ex':List Qc}{H H1 H2:Hp}{h h1 h2 h':QI}{a x e:Qc}{o:HO}
theorem Un.any(u:Un fs ex H H1 h h1){b:Qc}{ob:Obj}(q:h.get? b=some ob)(n:H b=none)(hx:b∉ex):∃sl,h1.get? b=some { ob with slots:=sl }:=by
 by_cases hb:b∈fs
 ·exact u.slot b ob q n hb hx
 ·exact⟨ob.slots,u.keep b ob q n hb hx⟩
theorem Un.trans(a:Un fs ex H H1 h h1)(b:Un fs ex H1 H2 h1 h2):Un fs ex H H2 h h2 where
 keep:=fun c ob q n hc hx=>b.keep c ob (a.keep c ob q n hc hx) (a.free c ob q n hx) hc hx
 slot:=fun c ob q n hc hx=>by obtain⟨sl,e1⟩:=a.slot c ob q n hc hx;obtain⟨sl',e2⟩:=b.slot c _ e1 (a.free c ob q n hx) hc hx;exact⟨sl',e2⟩
 free:=fun c ob q n hx=>by obtain⟨o',e1⟩:=a.there c ob q hx;exact b.free c o' e1 (a.free c ob q n hx) hx
 there:=fun c ob q hx=>by obtain⟨o',e1⟩:=a.there c ob q hx;exact b.there c o' e1 hx
 tups:=fun c xs q=>b.tups c xs (a.tups c xs q)
 frzs:=fun c ob xs q=>b.frzs c ob xs (a.frzs c ob xs q)
 tbls:=fun c ps q=>by obtain⟨m1,e1⟩:=a.tbls c ps q;obtain⟨m2,e2⟩:=b.tbls c _ e1;exact⟨m1++m2,by rw[e2,Array.append_assoc]⟩
theorem Un.kept(k:∀b u,h.get? b=some u->h'.get? b=some u):Un fs ex H H h h' :=
 ⟨fun b ob q _ _ _=>k b ob q,fun b ob q _ _ _=>⟨ob.slots,k b ob q⟩,fun _ _ _ n _=>n,fun b ob q _=>⟨ob,k b ob q⟩,fun _ _ q=>q,fun _ _ _ q=>q,fun _ ps q=>⟨#[],by rw[q];simp⟩⟩
theorem Un.refl:Un fs ex H H h h:=Un.kept fun _ _ q=>q
theorem Un.laid(k:∀b u,h.get? b=some u->h'.get? b=some u)(hp:h.objs.size<=a)(hn:H a=none):Un fs ex H (upd H a o) h h' where
 keep:=fun b u q _ _ _=>k b u q
 slot:=fun b u q _ _ _=>⟨u.slots,k b u q⟩
 free:=fun b u q n _=>by rw[Jj (QG (QD (Qj q) hp))];exact n
 there:=fun b u q _=>⟨u,k b u q⟩
 tups:=fun b xs q=>by rw[Jj (Jt q hn)];exact q
 frzs:=fun b u xs q=>by rw[Jj (Jt q hn)];exact q
 tbls:=fun b ps q=>⟨#[],by rw[Jj (Jt q hn),q];simp⟩
theorem Un.write(mu:Mut (H x))(he:e=x\/H e=some (.own x))(k:∀b u,b≠e->h.get? b=some u->h'.get? b=some u)(heo:∃u,h'.get? e=some u):Un fs ex H (upd H x o) h h':=by
 have hx:∀b,H b=none->b≠x:=fun b n z=>by subst z;rw[n] at mu;exact mu
 have hb:∀b,H b=none->b≠e:=fun b n z=>by
  subst z;rcases he with r|r
  ·exact hx b n r
  ·rw[n] at r;cases r
 have hm:∀b u,H b=some u->¬Mut (some u)->b≠x:=fun b u q nm z=>by subst z;rw[q] at mu;exact nm mu
 refine⟨fun b u q n _ _=>k b u (hb b n) q,fun b u q n _ _=>⟨u.slots,k b u (hb b n) q⟩,fun b u q n _=>by rw[Jj (hx b n)];exact n,fun b u q _=>?_,
  fun b xs q=>by rw[Jj (hm b _ q fun z=>z)];exact q,fun b u xs q=>by rw[Jj (hm b _ q fun z=>z)];exact q,fun b ps q=>⟨#[],by rw[Jj (hm b _ q fun z=>z),q];simp⟩⟩
 by_cases hbe:b=e
 ·subst hbe;exact heo
 ·exact⟨u,k b u hbe q⟩
theorem Un.mono(u:Un fs ex H H1 h h1)(hs:∀b∈fs,b∈fs')(hx:∀b∈ex,b∈ex'):Un fs' ex' H H1 h h1 :=
 ⟨fun b ob q n hb he=>u.keep b ob q n (fun z=>hb (hs b z)) fun z=>he (hx b z),fun _ _ q n _ he=>u.any q n fun z=>he (hx _ z),fun b ob q n he=>u.free b ob q n fun z=>he (hx b z),fun b ob q he=>u.there b ob q fun z=>he (hx b z),u.tups,u.frzs,u.tbls⟩
end

noncomputable def trk(h:QI)(H:Hp):List Qc:=(Gi h.objs.size).filter fun a=>(H a).isSome
noncomputable def Jaa(h:QI)(H:Hp):QI:=PySem.W.hideAll h (trk h H)
theorem JdE(h:QI)(H:Hp):(Jaa h H).objs.size=h.objs.size:=PySem.W.hideAll_size _ _
theorem JeV{h:QI}{H:Hp}{b:Qc}{o:Obj}(e:h.get? b=some o)(n:H b=none):(Jaa h H).get? b=some o :=
 PySem.W.hideAll_get _ e fun hm=>by have q:(H b).isSome=true:=(List.mem_filter.mp hm).2;rw[n] at q;simp at q
theorem Jhl{h:QI}{H:Hp}{b:Qc}{o:Obj}(e:(Jaa h H).get? b=some o):h.get? b=some o/\H b=none:=by
 have e':h.get? b=some o:=PySem.W.of_hideAll (trk h H) e;refine⟨e',?_⟩
 cases q:H b with
 | none=>rfl
 | some x =>
  have hm:b∈trk h H:=List.mem_filter.mpr ⟨K2.mpr (Qj e'),by simp[q]⟩
  have z:(Jaa h H).get? b=none:=PySem.W.hideAll_none (trk h H) hm;rw[z] at e;cases e

noncomputable def Jgg(g h:QI)(L:Qc):List (Qc×Obj):=(Gi h.objs.size).filterMap fun a=>if a=L\/(g.get? a).isSome=true then none else(h.get? a).map fun o=>(a,o)
noncomputable def rest(g h:QI)(L d:Qc):List (Qc×Obj):=(Jgg g h L).filter fun p=>decide (p.1≠d)
end L2

namespace L2
open PySem PySem.Spec PyProof.Rows

structure Mod (K:Qn) (mg:Str->Option Qa) (base:QI):Prop where
 kin:K.In base
 glob:base.Ns mainGlobals mg
 blt:∃mb,base.Ns builtinsNs mb/\∀x:Str,x≠"__name__"->mb x=bootBuiltins x
 nolimit:base.NoLimit

structure Cx where
 prog:Qo
 w:QC
 K:Qn
 mg:Str->Option Qa
 base:QI
 A:Qw
 N:List Str
 s₀:Qd
 H₀:Hp
 env:Env
 outer:List Env
 stack:List Env
 ex:List Qc
 fn:Str->Bool
 calm:Bool
 pn:List (Qc×Obj)
 xe:Qa->Qd->Prop
noncomputable def frs(l:List Env):List Qc:=l.filterMap (·.frame)
noncomputable abbrev Cx.fs(X:Cx):List Qc:=frs X.outer

noncomputable def Vis(sc:K3)(x:Str):Prop:=sc.names.lookup x=some .local\/sc.names.lookup x=some .cell\/sc.names.lookup x=some .free
noncomputable def Loc(sc:K3)(x:Str):Prop:=sc.names.lookup x=some .local\/sc.names.lookup x=some .cell
noncomputable def Jlj(env:Env)(h:QI)(m:Str->Option Qa)(x:Str)(u:Qa):Prop :=
 (env.kindOf x=some .local/\m x=some u)\/((env.kindOf x=some .cell\/env.kindOf x=some .free)/\∃c,env.cells.lookup x=some c/\h.IsCell c (some u))

structure Cx.Ok (X:Cx):Prop where
 mod:Mod X.K X.mg X.base
 kind:X.env.scope.kind=.function
 glob:X.env.globals=mainGlobals
 blt:X.env.builtins=builtinsNs
 above:X.s₀.heap.objs.size<=X.env.locals
 inj:∀x y c,X.env.cells.lookup x=some c->X.env.cells.lookup y=some c->x=y
 has:∀x,(X.env.kindOf x=some .cell\/X.env.kindOf x=some .free)->∃c,X.env.cells.lookup x=some c
 cab:∀x c,X.fn x=true->X.env.cells.lookup x=some c->X.s₀.heap.objs.size<=c
 hd:X.calm=true->X.A.handled=none
 frames:X.A.frames=some X.stack
 stk:X.stack=X.outer\/(X.stack=X.env::X.outer/\X.env.frame=some X.env.locals)
 exf:∀b∈X.ex,b≠X.env.locals/\∀x c,X.env.cells.lookup x=some c->c≠b
 bs:∀b o,X.base.get? b=some o->X.s₀.heap.get? b=some o/\X.H₀ b=none
 bsz:X.base.objs.size<=X.s₀.heap.objs.size
 noex:∀b o,X.base.get? b=some o->b∉X.ex
 exfs:∀b∈X.ex,b∉X.fs
 funs:X.s₀.heap.FunFrames X.base X.outer
 frf:∀b∈X.fs,X.H₀ b=none

structure Inv (X:Cx) (pins:List (Qc×Obj)) (σ:List (Option V)) (H:Hp) (s:Qd):Prop where
 ok:X.Ok
 os:s.os=X.s₀.os
 bare:AllBare s.gens
 base:Un X.fs X.ex X.H₀ H X.s₀.heap s.heap
 loc:∃m,s.heap.Ns X.env.locals m/\∀(i:Nat) (x:Str) (v:V),X.N[i]?=some x->σ[i]?=some (some v)->Vis X.env.scope x->∃u,RelV v u/\Jlj X.env s.heap m x u
 cell:∀x c,X.env.cells.lookup x=some c->∃v,s.heap.IsCell c v
 free:H X.env.locals=none
 freeC:∀x c,X.env.cells.lookup x=some c->H c=none
 pin:∀p∈X.pn++pins,s.heap.get? p.1=some p.2/\H p.1=none/\p.1≠X.env.locals/\p.1∉X.fs/\∀v,p.2.data≠.cell v
 hok:HOk X.prog X.w H s.heap
 len:σ.length=X.N.length

section
variable{X:Cx}{pins:List (Qc×Obj)}{σ:List (Option V)}{H H':Hp}{s:Qd}{h':QI}

theorem Cx.Ok.nofr(ok:X.Ok){b:Qc}{o:Obj}(e:X.base.get? b=some o):b∉X.fs:=fun hb=>by have:=(ok.funs.mem hb).1;rw[e] at this;cases this
theorem Inv.bs(I:Inv X pins σ H s):∀b o,X.base.get? b=some o->s.heap.get? b=some o/\H b=none:=fun b o e=>⟨I.base.keep b o (I.ok.bs b o e).1 (I.ok.bs b o e).2 (I.ok.nofr e) (I.ok.noex b o e),I.base.free b o (I.ok.bs b o e).1 (I.ok.bs b o e).2 (I.ok.noex b o e)⟩
theorem Inv.bk(I:Inv X pins σ H s):∀b o,X.base.get? b=some o->s.heap.get? b=some o:=fun b o e=>(I.bs b o e).1
theorem Inv.mod(I:Inv X pins σ H s):Mod X.K X.mg X.base:=I.ok.mod
theorem Inv.kIn(I:Inv X pins σ H s):X.K.In s.heap:=I.ok.mod.kin.keeps I.bk
theorem Inv.nolimit(I:Inv X pins σ H s):s.heap.NoLimit:=I.ok.mod.nolimit.keeps I.bk
theorem Inv.fr(I:Inv X pins σ H s):∃m,Fr X.base X.env.locals s.heap m :=
 let ⟨m,hn,_⟩:=I.loc
 ⟨m,hn,I.bk,QP I.ok.bsz I.ok.above⟩
theorem Inv.lt(I:Inv X pins σ H s):X.env.locals<s.heap.objs.size:=let ⟨_,hn,_⟩:=I.loc;hn.lt
theorem Inv.sz(I:Inv X pins σ H s):X.s₀.heap.objs.size<=s.heap.objs.size:=QP I.ok.above (Kc I.lt)
theorem Inv.nofs(I:Inv X pins σ H s){a:Qc}(h:s.heap.objs.size<=a):a∉X.fs:=fun hb=>by obtain⟨_,o,ho,_⟩:=I.ok.funs.mem hb;exact absurd (QD (Qj ho) (QP I.sz h)) (Q8 _)
theorem Inv.cne(I:Inv X pins σ H s):∀x c,X.env.cells.lookup x=some c->c≠X.env.locals:=fun x c e z=>by obtain⟨v,o,ho,hd⟩:=I.cell x c e;obtain⟨m,⟨o',es,ep,ho',hd',_⟩,_⟩:=I.loc;rw[z,ho'] at ho;cases ho;rw[hd'] at hd;cases hd
theorem Inv.funs(I:Inv X pins σ H s):s.heap.FunFrames X.base X.outer:=by
 have all:∀(l:List Env),(∀b∈frs l,b∈X.fs)->X.s₀.heap.FunFrames X.base l->s.heap.FunFrames X.base l:=by
  intro l
  induction l with
  | nil=>intro _ _;trivial
  | cons env r ih =>
   intro hs hl;obtain⟨hk,⟨L,o,hf,hn,ho,hd⟩,hr⟩:=hl;have hL:L∈X.fs:=hs L (by unfold frs;rw[GI,hf];exact Qy);obtain⟨sl,e⟩:=I.base.slot L o ho (I.ok.frf L hL) hL fun z=>I.ok.exfs L z hL
   exact⟨hk,⟨L,_,hf,hn,e,hd⟩,ih (fun b hb=>hs b (by unfold frs;rw[GI,hf];exact Qp _ hb)) hr⟩
 exact all X.outer (fun _ hb=>hb) I.ok.funs

theorem Inv.stack(I:Inv X pins σ H s):s.heap.FunFrames X.base X.stack:=by
 rcases I.ok.stk with e|⟨e,hf⟩
 ·rw[e];exact I.funs
 ·rw[e];obtain⟨m,hn,_⟩:=I.loc;refine .cons (by rw[I.ok.kind];decide) hf hn ?_ I.funs;exact G3 (QP I.ok.bsz I.ok.above)
theorem Inv.stkSub(I:Inv X pins σ H s):∀b∈frs X.stack,b∈X.env.locals::X.fs:=fun b hb=>by
 rcases I.ok.stk with e|⟨e,hf⟩
 ·rw[e] at hb;exact Qp _ hb
 ·rw[e] at hb;unfold frs at hb;rw[GI,hf] at hb;exact hb
theorem Inv.stkFree(I:Inv X pins σ H s):∀b∈frs X.stack,H b=none:=fun b hb=>by
 rcases Qm.mp (I.stkSub b hb) with e|hb
 ·rw[e];exact I.free
 ·obtain⟨_,o,ho,_⟩:=I.ok.funs.mem hb;exact I.base.free b o ho (I.ok.frf b hb) fun z=>I.ok.exfs b z hb

theorem Inv.step{g':Array GenState}{t':Nat}{d':Drawn}{ch:List Qc}(I:Inv X pins σ H s)
 (hch:∀b∈ch,(b∈X.ex\/X.s₀.heap.objs.size<=b)/\b≠X.env.locals/\(∀x c,X.env.cells.lookup x=some c->c≠b)/\∀p∈X.pn++pins,p.1≠b)
 (keep:∀b o,b≠X.env.locals->b∉X.fs->b∉ch->s.heap.get? b=some o->H b=none->h'.get? b=some o)
 (slot:∀b o,b≠X.env.locals->b∈X.fs->b∉ch->s.heap.get? b=some o->H b=none->∃sl,h'.get? b=some { o with slots:=sl }) (free:∀b o,b∉ch->s.heap.get? b=some o->H b=none->H' b=none)
 (there:∀b o,b∉ch->s.heap.get? b=some o->∃o',h'.get? b=some o')
 (tups:∀b xs,H b=some (.tup xs)->H' b=some (.tup xs)) (frzs:∀b o u,H b=some (.frz o u)->H' b=some (.frz o u)) (tbls:∀b ps,H b=some (.tbl ps)->∃more,H' b=some (.tbl (ps++more)))
 (ns:∀m,s.heap.Ns X.env.locals m->h'.Ns X.env.locals m) (hok:HOk X.prog X.w H' h') (hg:AllBare g') :
 Inv X pins σ H' { s with heap:=h',gens:=g',drawn:=d',toks:=t' }:=by
 have neL:∀b o,X.s₀.heap.get? b=some o->b≠X.env.locals:=fun b o e=>QG (QD (Qj e) I.ok.above)
 have neC:∀b o,X.s₀.heap.get? b=some o->b∉X.ex->b∉ch:=fun b o e hx hb=>by
  rcases(hch b hb).1 with z|z
  ·exact hx z
  ·exact absurd (QD (Qj e) z) (Q8 _)
 have cellK:∀x c,X.env.cells.lookup x=some c->∀v,s.heap.IsCell c v->h'.IsCell c v:=fun x c e v ⟨o,ho,hd⟩=>by
  have nch:c∉ch:=fun z=>(hch c z).2.2.1 x c e rfl
  by_cases hc:c∈X.fs
  ·obtain⟨sl,q⟩:=slot c o (I.cne x c e) hc nch ho (I.freeC x c e);exact⟨_,q,hd⟩
  ·exact⟨o,keep c o (I.cne x c e) hc nch ho (I.freeC x c e),hd⟩
 refine⟨I.ok,I.os,hg,⟨fun b o e n hb hx=>?_,fun b o e n hb hx=>?_,fun b o e n hx=>?_,fun b o e hx=>?_,fun b xs e=>tups b xs (I.base.tups b xs e),fun b o xs e=>frzs b o xs (I.base.frzs b o xs e),fun b ps e=>?_⟩,?_,fun x c e=>?_,?_,fun x c e=>?_,fun p hp=>?_,hok,I.len⟩
 ·exact keep b o (neL b o e) hb (neC b o e hx) (I.base.keep b o e n hb hx) (I.base.free b o e n hx)
 ·obtain⟨sl,e1⟩:=I.base.slot b o e n hb hx;obtain⟨sl',e2⟩:=slot b _ (neL b o e) hb (neC b o e hx) e1 (I.base.free b o e n hx);exact⟨sl',e2⟩
 ·obtain⟨o',e1⟩:=I.base.there b o e hx;exact free b o' (neC b o e hx) e1 (I.base.free b o e n hx)
 ·obtain⟨o',e1⟩:=I.base.there b o e hx;exact there b o' (neC b o e hx) e1
 ·obtain⟨m1,e1⟩:=I.base.tbls b ps e;obtain⟨m2,e2⟩:=tbls b _ e1;exact⟨m1++m2,by rw[e2,Array.append_assoc]⟩
 ·obtain⟨m,hn,hl⟩:=I.loc;refine⟨m,ns m hn,fun i x v e1 e2 e3=>?_⟩;obtain⟨u,r,l⟩:=hl i x v e1 e2 e3;refine⟨u,r,?_⟩;rcases l with l|⟨k,c,e,z⟩
  ·exact .inl l
  ·exact .inr ⟨k,c,e,cellK x c e _ z⟩
 ·obtain⟨v,z⟩:=I.cell x c e;exact⟨v,cellK x c e v z⟩
 ·obtain⟨m,⟨o,_,_,ho,_⟩,_⟩:=I.loc;exact free _ o (fun z=>(hch _ z).2.1 rfl) ho I.free
 ·obtain⟨v,o,ho,hd⟩:=I.cell x c e;exact free c o (fun z=>(hch c z).2.2.1 x c e rfl) ho (I.freeC x c e)
 ·obtain⟨e,n,ne,nf,d⟩:=I.pin p hp;have nch:p.1∉ch:=fun z=>(hch p.1 z).2.2.2 p hp rfl
  exact⟨keep p.1 p.2 ne nf nch e n,free p.1 p.2 nch e n,ne,nf,d⟩
theorem Inv.un{t':Nat}(I:Inv X pins σ H s)(u:Un X.fs [] H H' s.heap h')(hok:HOk X.prog X.w H' h'):Inv X pins σ H' { s with heap:=h',toks:=t' }:=by
 obtain⟨m,⟨o,es,ep,ho,r⟩,_⟩:=id I.loc;obtain⟨sl,hL⟩:=u.any ho I.free (by simp);exact I.step (g':=s.gens) (d':=s.drawn) (ch:=[]) (fun _ z=>nomatch z) (fun b o _ hb _ e n=>u.keep b o e n hb (by simp)) (fun b o _ hb _ e n=>u.slot b o e n hb (by simp)) (fun b o _ e n=>u.free b o e n (by simp)) (fun b o _ e=>u.there b o e (by simp)) u.tups u.frzs u.tbls (fun m' hm=>by obtain⟨o',es',ep',ho',r'⟩:=hm;rw[ho] at ho';cases ho';exact⟨_,es',ep',hL,r'⟩) hok I.bare
theorem Inv.call{g':Array GenState}{t':Nat}{d':Drawn}{ch:List Qc}(I:Inv X pins σ H s)(u:Un (frs X.stack) ch H H' s.heap h')(hok:HOk X.prog X.w H' h')(hg:AllBare g')
 (hch:∀b∈ch,(b∈X.ex\/X.s₀.heap.objs.size<=b)/\b≠X.env.locals/\(∀x c,X.env.cells.lookup x=some c->c≠b)/\∀p∈X.pn++pins,p.1≠b) :
 Inv X pins σ H' { s with heap:=h',gens:=g',drawn:=d',toks:=t' }:=by
 obtain⟨m,⟨o,es,ep,ho,r⟩,_⟩:=id I.loc;obtain⟨sl,hL⟩:=u.any ho I.free fun z=>(hch _ z).2.1 rfl
 exact I.step (ch:=ch) hch (fun b o hL hb hc e n=>u.keep b o e n (fun z=>(Qm.mp (I.stkSub b z)).elim hL hb) hc) (fun b o _ _ hc e n=>u.any e n hc) (fun b o hc e n=>u.free b o e n hc) (fun b o hc e=>u.there b o e hc) u.tups u.frzs u.tbls (fun m' hm=>by obtain⟨o',es',ep',ho',r'⟩:=hm;rw[ho] at ho';cases ho';exact⟨_,es',ep',hL,r'⟩) hok hg
theorem Inv.turned{t':Nat}{it:Qc}(I:Inv X pins σ H s)(k:∀b o,b≠it->s.heap.get? b=some o->h'.get? b=some o)(hn:H it=none)(hL:it≠X.env.locals)
 (h1:it∈X.ex\/X.s₀.heap.objs.size<=it) (h2:∀x c,X.env.cells.lookup x=some c->c≠it) (h3:∀p∈X.pn++pins,p.1≠it):Inv X pins σ H { s with heap:=h',toks:=t' }:=by
 have nit:∀b u,H b=some u->b≠it:=fun b u e z=>by rw[z,hn] at e;cases e
 refine I.step (g':=s.gens) (d':=s.drawn) (ch:=[it]) (fun b hb=>?_) (fun b o _ _ hc e _=>k b o (fun z=>hc (by simp[z])) e) (fun b o _ _ hc e _=>⟨o.slots,k b o (fun z=>hc (by simp[z])) e⟩) (fun _ _ _ _ n=>n)
  (fun b o hc e=>⟨o,k b o (fun z=>hc (by simp[z])) e⟩) (fun _ _ e=>e) (fun _ _ _ e=>e) (fun b ps e=>⟨#[],by rw[e];simp⟩) (fun m hm=>?_) (fun b u e=>?_) I.bare
 ·have e:b=it:=by simpa using hb
  subst e;exact⟨h1,hL,h2,h3⟩
 ·obtain⟨o,es,ep,ho,r⟩:=hm;exact⟨o,es,ep,k _ o (Q0 hL) ho,r⟩
 ·refine(I.hok b u e).stay (fun c v hc q=>k c v ?_ q) (fun _ q=>q) fun _ _ q=>q
  rcases hc with z|z
  ·rw[z];exact nit b u e
  ·exact nit c _ z
theorem Inv.tok(I:Inv X pins σ H s)(t:Nat):Inv X pins σ H { s with toks:=t }:=I.un (h':=s.heap) (t':=t) Un.refl I.hok
theorem Inv.kept{t':Nat}(I:Inv X pins σ H s)(k:∀b u,s.heap.get? b=some u->h'.get? b=some u):Inv X pins σ H { s with heap:=h',toks:=t' }:=I.un (Un.kept k) (I.hok.kept k)
theorem Inv.laid{a:Qc}{o:HO}{t':Nat}(I:Inv X pins σ H s)(k:∀b u,s.heap.get? b=some u->h'.get? b=some u)(hp:s.heap.objs.size<=a)(new:ObjOk X.prog X.w (upd H a o) h' a o) :
 Inv X pins σ (upd H a o) { s with heap:=h',toks:=t' }:=I.un (Un.laid k hp (I.hok.fresh hp)) (I.hok.laid k hp new)
theorem Inv.write{x e:Qc}{o:HO}{t':Nat}(I:Inv X pins σ H s)(mu:Mut (H x))(he:e=x\/H e=some (.own x))(k:∀b u,b≠e->s.heap.get? b=some u->h'.get? b=some u)(heo:∃u,h'.get? e=some u)
 (new:ObjOk X.prog X.w (upd H x o) h' x o):Inv X pins σ (upd H x o) { s with heap:=h',toks:=t' }:=I.un (Un.write mu he k heo) (I.hok.write mu he k heo new)
theorem Inv.weak{σ':List (Option V)}(I:Inv X pins σ H s)(hl:σ'.length=σ.length)(w:∀(i:Nat) v,σ'[i]?=some (some v)->σ[i]?=some (some v)):Inv X pins σ' H s :=
 ⟨I.ok,I.os,I.bare,I.base,let ⟨m,hn,hl'⟩:=I.loc;⟨m,hn,fun i x v e1 e2 e3=>hl' i x v e1 (w i v e2) e3⟩,I.cell,I.free,I.freeC,I.pin,I.hok,hl.trans I.len⟩
theorem Inv.pins_of{pins':List (Qc×Obj)}(I:Inv X pins σ H s)(h:∀p∈pins',s.heap.get? p.1=some p.2/\H p.1=none/\p.1≠X.env.locals/\p.1∉X.fs/\∀v,p.2.data≠.cell v):Inv X pins' σ H s :=
 ⟨I.ok,I.os,I.bare,I.base,I.loc,I.cell,I.free,I.freeC,fun p hp=>(Q2.mp hp).elim (fun z=>I.pin p (LW _ z)) (h p),I.hok,I.len⟩

theorem Ja6{N:List Str}(hN:N.Nodup){i j:Nat}{x:Str}(a:N[i]?=some x)(b:N[j]?=some x):i=j:=by obtain⟨h1,e1⟩:=Qi.mp a;obtain⟨h2,e2⟩:=Qi.mp b;exact(List.getElem_inj hN).mp (e1.trans e2.symm)

theorem ZS{M:Model}{A:Qw}{E:Qa->Qd->Prop}{i:Nat}{x:Str}{v:V}{u:Qa}{Q:Unit->Qd->Prop}(I:Inv X pins σ H s)(hN:X.N.Nodup)(hi:X.N[i]?=some x)(hx:Loc X.env.scope x)(r:RelV v u)
 (h:∀s',Inv X pins (σ.set i (some v)) H s'->(∃a,Ke a s.heap s'.heap/\(a=X.env.locals\/X.env.cells.lookup x=some a))->Q () s') (hf:X.fn x=true\/X.env.scope.names.lookup x=some .local:=by first|exact .inl rfl|exact .inr rfl|assumption):wpAny M A (storeName X.env x u) Q E s:=by
 obtain⟨m,hn,hl⟩:=id I.loc;have hcls:(X.env.scope.kind == .class || (X.env.scope.kind == .module && X.env.locals != X.env.globals))=false:=by rw[I.ok.kind];rfl
 have hiσ:i<σ.length:=by rw[I.len];exact(Qi.mp hi).1
 have cne:=I.cne
 have tracked:∀{a:Qc} {h':QI},(∃o,s.heap.get? a=some o/\H a=none)->Ke a s.heap h'->HOk X.prog X.w H h':=fun {a h'} ha hs b ob e=>by
  obtain⟨_,_,hfree⟩:=ha;refine(I.hok b ob e).stay (fun c w' hc q=>(hs.2 c ?_).trans q) (fun _ q=>q) fun _ _ q=>q
  rintro rfl;rcases hc with rfl|hc
  ·rw[hfree] at e;cases e
  ·rw[hfree] at hc;cases hc
 rcases hx with hk|hk
 ·refine wpAny_storeName_local hk hn (fun h' hn' hs=>?_) hcls;obtain⟨oL,_,_,hoL,_⟩:=id hn;refine h _ ⟨I.ok,I.os,I.bare,⟨fun b o e n hb hx=>?_,fun b o e n hb hx=>?_,I.base.free,fun b o e hx=>?_,I.base.tups,I.base.frzs,I.base.tbls⟩,⟨_,hn',fun j y v' e1 e2 e3=>?_⟩,fun y c e=>?_,I.free,I.freeC,fun p hp=>?_,tracked ⟨oL,hoL,I.free⟩ hs,by simpa using I.len⟩ ⟨_,hs,.inl rfl⟩
  ·exact(hs.2 b (QG (QD (Qj e) I.ok.above))).trans (I.base.keep b o e n hb hx)
  ·obtain⟨sl,e1⟩:=I.base.slot b o e n hb hx;exact⟨sl,(hs.2 b (QG (QD (Qj e) I.ok.above))).trans e1⟩
  ·obtain⟨o',e1⟩:=I.base.there b o e hx;exact⟨o',(hs.2 b (QG (QD (Qj e) I.ok.above))).trans e1⟩
  ·by_cases hj:j=i
   ·subst hj;rw[hi] at e1;cases e1;rw[KB hiσ] at e2;cases e2;exact⟨u,r,.inl ⟨hk,by simp⟩⟩
   ·rw[KN (Q0 hj)] at e2;obtain⟨u',r',q⟩:=hl j y v' e1 e2 e3;refine⟨u',r',?_⟩;rcases q with ⟨k,e⟩|⟨k,c,e,z⟩
    ·refine .inl ⟨k,?_⟩;have:y≠x:=fun e=>hj (Ja6 hN e1 (e▸hi))
     simp[this,e]
    ·exact .inr ⟨k,c,e,z.sameBut hs (cne y c e)⟩
  ·obtain⟨w',z⟩:=I.cell y c e;exact⟨w',z.sameBut hs (cne y c e)⟩
  ·obtain⟨e,n,ne,nf,d⟩:=I.pin p hp;exact⟨(hs.2 p.1 ne).trans e,n,ne,nf,d⟩
 ·have hfn:X.fn x=true:=by
   rcases hf with z|z
   ·exact z
   ·rw[z] at hk;cases hk
  obtain⟨c,hc⟩:=I.ok.has x (.inl hk);obtain⟨w',z⟩:=I.cell x c hc;refine wpAny_storeName_cell I.ok.kind hk hc z (fun h' hc' hs=>?_);obtain⟨oc,hoc,hocd⟩:=id z;refine h { s with heap:=h' } ⟨I.ok,I.os,I.bare,⟨fun b o e n hb hx=>?_,fun b o e n hb hx=>?_,I.base.free,fun b o e hx=>?_,I.base.tups,I.base.frzs,I.base.tbls⟩,⟨m,hn.sameBut hs (Q0 (cne x c hc)),fun j y v' e1 e2 e3=>?_⟩,fun y c' e=>?_,I.free,I.freeC,fun p hp=>?_,tracked ⟨oc,hoc,I.freeC x c hc⟩ hs,by simpa using I.len⟩ ⟨c,hs,.inr hc⟩
  ·exact(hs.2 b (QG (QD (Qj e) (I.ok.cab x c hfn hc)))).trans (I.base.keep b o e n hb hx)
  ·obtain⟨sl,e1⟩:=I.base.slot b o e n hb hx;exact⟨sl,(hs.2 b (QG (QD (Qj e) (I.ok.cab x c hfn hc)))).trans e1⟩
  ·obtain⟨o',e1⟩:=I.base.there b o e hx;exact⟨o',(hs.2 b (QG (QD (Qj e) (I.ok.cab x c hfn hc)))).trans e1⟩
  ·by_cases hj:j=i
   ·subst hj;rw[hi] at e1;cases e1;rw[KB hiσ] at e2;cases e2;exact⟨u,r,.inr ⟨.inl hk,c,hc,hc'⟩⟩
   ·rw[KN (Q0 hj)] at e2;obtain⟨u',r',q⟩:=hl j y v' e1 e2 e3;refine⟨u',r',?_⟩;rcases q with q|⟨k,c',e,z'⟩
    ·exact .inl q
    ·refine .inr ⟨k,c',e,z'.sameBut hs ?_⟩;rintro rfl;exact hj (Ja6 hN e1 (I.ok.inj _ _ _ e hc▸hi))
  ·by_cases hcc:c'=c
   ·subst hcc;exact⟨_,hc'⟩
   ·obtain⟨w2,z2⟩:=I.cell y c' e;exact⟨w2,z2.sameBut hs hcc⟩
  ·obtain⟨e,n,ne,nf,d⟩:=I.pin p hp;refine⟨(hs.2 p.1 ?_).trans e,n,ne,nf,d⟩;intro q;rw[q,hoc] at e;have q':oc=p.2:=QL e;exact d w' (by rw[<- q'];exact hocd)
theorem W4{M:Model}{A:Qw}{E:Qa->Qd->Prop}{i:Nat}{x:Str}{v:V}{u:Qa}{Q:Unit->Qd->Prop}(I:Inv X pins σ H s)(hN:X.N.Nodup)(hi:X.N[i]?=some x)(hx:Loc X.env.scope x)(r:RelV v u)
 (h:∀s',Inv X pins (σ.set i (some v)) H s'->Q () s') (hf:X.fn x=true\/X.env.scope.names.lookup x=some .local:=by first|exact .inl rfl|exact .inr rfl|assumption):wpAny M A (storeName X.env x u) Q E s :=
 ZS I hN hi hx r (fun s' I' _=>h s' I') hf
theorem Inv.call'{s':Qd}{ch:List Qc}(I:Inv X pins σ H s)(ho:s'.os=s.os)(u:Un (frs X.stack) ch H H' s.heap s'.heap)(hok:HOk X.prog X.w H' s'.heap)(hg:AllBare s'.gens)
 (hch:∀b∈ch,(b∈X.ex\/X.s₀.heap.objs.size<=b)/\b≠X.env.locals/\(∀x c,X.env.cells.lookup x=some c->c≠b)/\∀p∈X.pn++pins,p.1≠b):Inv X pins σ H' s':=by
 obtain⟨h',g',d',t',o'⟩:=s';have e:o'=s.os:=ho;subst e;exact I.call (g':=g') (t':=t') (d':=d') u hok hg hch
end

noncomputable abbrev XK:=Qa->Option Qc->Hp->Prop
noncomputable abbrev St:=List (Option V)
noncomputable abbrev VK:=V->Hp->Prop
noncomputable abbrev TE:=St->Hp->VK->Prop
noncomputable abbrev TT:=St->Hp->(Bool->Hp->Prop)->Prop
noncomputable abbrev TA:=St->Hp->(List V->Hp->Prop)->Prop
structure Ends where
 nx:St->Hp->Prop
 rt:VK
 bk:St->Hp->Prop:=fun _ _=>False
 ct:St->Hp->Prop:=fun _ _=>False
noncomputable abbrev TS:=Ends->St->Hp->Prop

noncomputable def EP(X:Cx)(pins:List (Qc×Obj))(σ:St)(Q:VK)(u:Qa)(s':Qd):Prop:=∃v H',Inv X pins σ H' s'/\RelV v u/\Q v H'
noncomputable def TP(X:Cx)(pins:List (Qc×Obj))(σ:St)(Q:Bool->Hp->Prop)(b:Bool)(s':Qd):Prop:=∃H',Inv X pins σ H' s'/\Q b H'
noncomputable def AP(X:Cx)(pins:List (Qc×Obj))(σ:St)(Q:List V->Hp->Prop)(us:List Qa)(s':Qd):Prop:=∃vs H',Inv X pins σ H' s'/\Vals vs us/\Q vs H'
noncomputable def SP(X:Cx)(pins:List (Qc×Obj))(D:Ends)(f:Flow)(s':Qd):Prop :=
 match f with
 | .next=>∃σ' H',Inv X pins σ' H' s'/\D.nx σ' H'
 | .brk=>∃σ' H',Inv X pins σ' H' s'/\D.bk σ' H'
 | .cont=>∃σ' H',Inv X pins σ' H' s'/\D.ct σ' H'
 | .ret u=>∃v σ' H',Inv X pins σ' H' s'/\RelV v u/\D.rt v H'

noncomputable def PE(X:Cx)(e:QR)(t:TE):Prop :=
 ∀(pins:List (Qc×Obj)) (s:Qd) (σ:St) (H:Hp) (Q:VK),Inv X pins σ H s->t σ H Q->wpAny (model X.prog X.w) X.A (eval e X.env) (EP X pins σ Q) X.xe s
noncomputable def PT(X:Cx)(e:QR)(t:TT):Prop :=
 ∀(pins:List (Qc×Obj)) (s:Qd) (σ:St) (H:Hp) (Q:Bool->Hp->Prop),Inv X pins σ H s->t σ H Q->wpAny (model X.prog X.w) X.A (isTrue e X.env (eval e X.env)) (TP X pins σ Q) X.xe s
noncomputable def PW(X:Cx)(e:QR)(t:TT):Prop :=
 ∀(whole:Sem Qa) (pins:List (Qc×Obj)) (s:Qd) (σ:St) (H:Hp) (Q:Bool->Hp->Prop),Inv X pins σ H s->t σ H Q->wpAny (model X.prog X.w) X.A (isTrue e X.env whole) (TP X pins σ Q) X.xe s
theorem PW.pt{X:Cx}{e:QR}{t:TT}(h:PW X e t):PT X e t:=h _
noncomputable def PA(X:Cx)(es:List QR)(t:TA):Prop :=
 ∀(pos:Pos) (pins:List (Qc×Obj)) (s:Qd) (σ:St) (H:Hp) (Q:List V->Hp->Prop),Inv X pins σ H s->t σ H Q->wpAny (model X.prog X.w) X.A (spliced (backTo pos (starEach es X.env))) (AP X pins σ Q) X.xe s
noncomputable def PS(X:Cx)(st:Gn)(t:TS):Prop :=
 ∀(pins:List (Qc×Obj)) (s:Qd) (σ:St) (H:Hp) (D:Ends),Inv X pins σ H s->t D σ H->wpAny (model X.prog X.w) X.A (exec st X.env) (SP X pins D) X.xe s
noncomputable def PSs(X:Cx)(st:List Gn)(t:TS):Prop :=
 ∀(pins:List (Qc×Obj)) (s:Qd) (σ:St) (H:Hp) (D:Ends),Inv X pins σ H s->t D σ H->wpAny (model X.prog X.w) X.A (execs st X.env) (SP X pins D) X.xe s
theorem thn{α:Type}{t:Sem α}{Q Q':α->Qd->Prop}{M:Model}{A:Qw}{E:Qa->Qd->Prop}{s:Qd}(h:wpAny M A t Q E s)(hQ:∀a s,Q a s->Q' a s):wpAny M A t Q' E s:=Q6 h hQ fun _ _ x=>x
end L2

namespace L2
open PySem PySem.Spec PyProof.Rows
section
variable{X:Cx}

noncomputable def JaA(i:Nat):TE:=fun σ H Q=>∃v,σ[i]?=some (some v)/\Q v H
noncomputable def tC(v:V):TE:=fun _ H Q=>Q v H
theorem WU{i:Nat}{x:Str}{pos:Pos}(hN:X.N[i]?=some x)(hv:Vis X.env.scope x)(hd:(x == ("__debug__":Str))=false:=by decide)(hcd:(x == ("__classdict__":Str))=false:=by decide):PE X (.Name x pos) (JaA i):=by
 intro pins s σ H Q I h;obtain⟨v,e,h⟩:=h;obtain⟨m,hn,hl⟩:=I.loc;obtain⟨u,r,l⟩:=hl i x v hN e hv;have fin:EP X pins σ Q u s:=⟨v,H,I,r,h⟩
 rcases l with ⟨hk,hm⟩|⟨hk,c,hc,hcell⟩
 ·exact wpAny_Name (wpAny_loadName_local I.ok.kind hk hn hm fin) hd
 ·rcases hk with hk|hk
  ·exact wpAny_Name (wpAny_loadName_cell I.ok.kind hk hc hcell fin) hd
  ·exact wpAny_Name (wpAny_loadName_free I.ok.kind hk hc hcell fin hcd) hd
theorem Jg{i j pos}:PE X (.Constant (.int i) j pos) (tC (.int i)):=fun _ _ _ H _ I h=>wpAny_Constant_int ⟨.int i,H,I.tok _,⟨_,rfl⟩,h⟩
theorem JlM{b j pos}:PE X (.Constant (.bool b) j pos) (tC (.bl b)):=fun _ _ _ H _ I h=>Constant_bool ⟨.bl b,H,I,rfl,h⟩
theorem JZ{j pos}:PE X (.Constant .none j pos) (tC .non):=fun _ _ _ H _ I h=>Constant_none ⟨.non,H,I,rfl,h⟩
theorem Jx{x j pos}:PE X (.Constant (.str x) j pos) (tC (.str x)):=fun _ _ _ H _ I h=>Calls.Constant_str ⟨.str x,H,I.tok _,⟨_,rfl⟩,h⟩

noncomputable def Gl(X:Cx)(x:Str):Prop:=X.env.kindOf x=some .globalImplicit
theorem Y6{E:Qa->Qd->Prop}{pins:List (Qc×Obj)}{s:Qd}{σ:St}{H:Hp}{x:Str}{u:Qa}{pos:Pos}{Q:Qa->Qd->Prop}(I:Inv X pins σ H s)(hg:Gl X x)(hm:X.mg x=some u)(h:Q u s)
 (hd:(x == ("__debug__":Str))=false:=by decide):wpAny (model X.prog X.w) X.A (eval (.Name x pos) X.env) Q E s :=
 K4 I.ok.kind hg (Calls.loadGlobal_global (by rw[I.ok.glob];exact I.mod.glob.keeps I.bk) hm h) hd
theorem Jab{E:Qa->Qd->Prop}{pins:List (Qc×Obj)}{s:Qd}{σ:St}{H:Hp}{x:Str}{u:Qa}{pos:Pos}{Q:Qa->Qd->Prop}(I:Inv X pins σ H s)(hg:Gl X x)(hm:X.mg x=none)(hv:bootBuiltins x=some u)(h:Q u s)
 (hn:x≠"__name__":=by decide) (hd:(x == ("__debug__":Str))=false:=by decide):wpAny (model X.prog X.w) X.A (eval (.Name x pos) X.env) Q E s:=by
 obtain⟨mb,h1,h2⟩:=I.mod.blt;exact K4 I.ok.kind hg (Calls.loadGlobal_builtin (by rw[I.ok.glob];exact I.mod.glob.keeps I.bk) hm (by rw[I.ok.blt];exact h1.keeps I.bk) ((h2 x hn).trans hv) h) hd
theorem Yp{x:Str}{v:V}{u:Qa}{pos:Pos}(hg:Gl X x)(hm:X.mg x=some u)(r:RelV v u)(hd:(x == ("__debug__":Str))=false:=by decide):PE X (.Name x pos) (tC v) :=
 fun _ _ _ H _ I h=>Y6 I hg hm ⟨v,H,I,r,h⟩ hd
theorem Jak{x:Str}{v:V}{u:Qa}{pos:Pos}(hg:Gl X x)(hm:X.mg x=none)(hv:bootBuiltins x=some u)(r:RelV v u)(hn:x≠"__name__":=by decide)(hd:(x == ("__debug__":Str))=false:=by decide):PE X (.Name x pos) (tC v) :=
 fun _ _ _ H _ I h=>Jab I hg hm hv ⟨v,H,I,r,h⟩ hn hd

variable{a b:QR}{ta tb:TE}{pos:Pos}
noncomputable def tB(t:TE):TT:=fun σ H Q=>t σ H fun x H1=>∃c,x=.bl c/\Q c H1
variable{tA tB':TT}{rest:List QR}
noncomputable def JkX(t u:TT):TT:=fun σ H Q=>t σ H fun c H1=>if c=true then u σ H1 Q else Q false H1
noncomputable def tOr(t u:TT):TT:=fun σ H Q=>t σ H fun c H1=>if c=true then Q true H1 else u σ H1 Q
noncomputable def JkZ(t:TT):TT:=fun σ H Q=>t σ H fun c H1=>Q (!c) H1
theorem UZ(ha:PT X a tA):PW X (.BoolOp .And [a] pos) tA:=by
 intro wh pins s σ H Q I h;refine isTrue_and (thn (ha pins s σ H Q I h) fun c s1 e=>?_)
 cases c with
 | true=>exact isTrue_and_nil e
 | false=>exact e
theorem WW(ha:PT X a tA):PW X (.BoolOp .Or [a] pos) tA:=by
 intro wh pins s σ H Q I h;refine isTrue_or (thn (ha pins s σ H Q I h) fun c s1 e=>?_)
 cases c with
 | false=>exact isTrue_or_nil e
 | true=>exact e
theorem VQ(ha:PT X a tA)(hb:PW X (.BoolOp .And (b::rest) pos) tB'):PW X (.BoolOp .And (a::b::rest) pos) (JkX tA tB'):=by
 intro wh pins s σ H Q I h;refine isTrue_and (thn (ha pins s σ H _ I h) fun c s1 ⟨H1,I1,q1⟩=>?_)
 cases c with
 | true=>exact hb wh pins s1 σ H1 Q I1 q1
 | false=>exact⟨H1,I1,q1⟩
theorem ZN(ha:PT X a tA)(hb:PW X (.BoolOp .Or (b::rest) pos) tB'):PW X (.BoolOp .Or (a::b::rest) pos) (tOr tA tB'):=by
 intro wh pins s σ H Q I h;refine isTrue_or (thn (ha pins s σ H _ I h) fun c s1 ⟨H1,I1,q1⟩=>?_)
 cases c with
 | true=>exact⟨H1,I1,q1⟩
 | false=>exact hb wh pins s1 σ H1 Q I1 q1
theorem Jb3(ha:PT X a tA):PT X (.UnaryOp .Not a pos) (JkZ tA):=by intro pins s σ H Q I h;exact isTrue_not (ha pins s σ H (fun c H1=>Q (!c) H1) I h)
noncomputable def Jf0(ta tb:TE):TE:=fun σ H Q=>ta σ H fun x H1=>∃c,x=.bl c/\if c=true then tb σ H1 Q else Q (.bl false) H1
noncomputable def JmE(ta tb:TE):TE:=fun σ H Q=>ta σ H fun x H1=>∃c,x=.bl c/\if c=true then Q (.bl true) H1 else tb σ H1 Q
noncomputable def Jma(ta:TE):TE:=fun σ H Q=>ta σ H fun x H1=>∃c,x=.bl c/\Q (.bl (!c)) H1
theorem Jj9{op}{t:TE}(h:PE X a t):PE X (.BoolOp op [a] pos) t:=fun pins s σ H Q I hw=>BoolOp_one (h pins s σ H Q I hw)
theorem Jfn(ha:PE X a ta)(hb:PE X (.BoolOp .And (b::rest) pos) tb):PE X (.BoolOp .And (a::b::rest) pos) (Jf0 ta tb):=by
 intro pins s σ H Q I h;refine BoolOp_and (thn (ha pins s σ H _ I h) fun v s1 ⟨x,H1,I1,r1,q1⟩=>?_);obtain⟨c,rfl,q1⟩:=q1;cases r1;refine GX ?_
 cases c with
 | true=>exact hb pins s1 σ H1 Q I1 q1
 | false=>exact⟨.bl false,H1,I1,rfl,q1⟩
noncomputable def tIf(t:TT)(ta tb:TE):TE:=fun σ H Q=>t σ H fun c H1=>if c=true then ta σ H1 Q else tb σ H1 Q
theorem Jbg{c:QR}(hc:PT X c tA)(ha:PE X a ta)(hb:PE X b tb):PE X (.IfExp c a b pos) (tIf tA ta tb):=by
 intro pins s σ H Q I h;refine wpAny_IfExp (thn (hc pins s σ H _ I h) fun d s1 ⟨H1,I1,q1⟩=>?_)
 cases d with
 | true=>exact ha pins s1 σ H1 Q I1 q1
 | false=>exact hb pins s1 σ H1 Q I1 q1
end
end L2

namespace L2
open PySem PySem.Spec PyProof.Rows

noncomputable def SqL(K:Qn)(H:Hp)(a:Qc)(xs:List V):Prop :=
 Rd H a (.lst xs) ∨
  ∃(o:Obj) (its:Array Qa) (n:Nat),K.lookup a=some o/\o.cls=.type "list"/\o.dict=none/\o.data=.seq its n/\its.size<=Qk/\Vals xs its.toList
noncomputable def SqT(K:Qn)(H:Hp)(a:Qc)(xs:List V):Prop :=
 Rd H a (.tup xs) ∨
  ∃(o:Obj) (its:Array Qa) (n:Nat),K.lookup a=some o/\o.cls=.type "tuple"/\o.data=.seq its n/\its.size<=Qk/\Vals xs its.toList
noncomputable def Jmd:Qa->Option V
 | .none=>some .non
 | .bool b=>some (.bl b)
 | .int i _=>some (.int i)
 | .str x _=>some (.str x)
 | .bytes b _=>some (.byt b)
 | .float b _=>some (.flt b)
 | .ref a=>some (.ref a)
 | .type n=>some (.ty n)
 | _=>none
theorem RelV.abs{x:V}{u:Qa}(r:RelV x u):Jmd u=some x:=by
 cases x with
 | non=>cases r;rfl
 | bl _=>cases r;rfl
 | int _=>obtain⟨t,rfl⟩:=r;rfl
 | str _=>obtain⟨t,rfl⟩:=r;rfl
 | byt _=>obtain⟨t,rfl⟩:=r;rfl
 | flt _=>obtain⟨t,rfl⟩:=r;rfl
 | ref _=>cases r;rfl
 | ty _=>cases r;rfl
theorem RelV.inj{x y:V}{u:Qa}(r:RelV x u)(q:RelV y u):x=y:=QL (r.abs.symm.trans q.abs)
theorem Vals.inj:∀{xs ys:List V} {us:List Qa},Vals xs us->Vals ys us->xs=ys
 | _,_,_,.nil,.nil=>rfl
 | _,_,_,.cons r t,.cons r' t'=>by rw[r.inj r',Vals.inj t t']
section
variable{X:Cx}{pins:List (Qc×Obj)}{σ:St}{H:Hp}{s:Qd}{a:Qc}{xs ys:List V}
theorem SqL.of{K:Qn}(h:H a=some (.lst xs)):SqL K H a xs:=.inl (.inl h)
theorem SqT.of{K:Qn}(h:H a=some (.tup xs)):SqT K H a xs:=.inl (.inl h)
theorem Inv.list(I:Inv X pins σ H s)(h:SqL X.K H a xs):∃its:List Qa,Vals xs its/\PlainL s.heap a its.toArray/\xs.length<=Qk:=by
 rcases h with h|⟨o,its,n,hk,hc,hd,hs,hz,r⟩
 ·obtain⟨z,its,n,r,e⟩:=h.ok I.hok;exact⟨its,r,⟨_,n,e,rfl,rfl,rfl⟩,z⟩
 ·refine⟨its.toList,r,⟨o,n,I.kIn a o hk,hc,hd,by simpa using hs⟩,?_⟩;have e:=r.length;simp only[Km] at e;omega
theorem Inv.tuple(I:Inv X pins σ H s)(h:SqT X.K H a xs):∃its:List Qa,Vals xs its/\IsTup s.heap a its.toArray/\xs.length<=Qk:=by
 rcases h with h|⟨o,its,n,hk,hc,hs,hz,r⟩
 ·obtain⟨z,its,r,p⟩:=h.ok I.hok;exact⟨its,r,p,z⟩
 ·refine⟨its.toList,r,⟨o,I.kIn a o hk,hc,n,by simpa using hs⟩,?_⟩;have e:=r.length;simp only[Km] at e;omega
theorem Inv.list_inj(I:Inv X pins σ H s)(h:SqL X.K H a xs)(h':SqL X.K H a ys):xs=ys:=by
 obtain⟨its,r,⟨o,n,e,_,_,d⟩,_⟩:=I.list h;obtain⟨its',r',⟨o',n',e',_,_,d'⟩,_⟩:=I.list h';rw[e] at e';cases e';rw[d] at d'
 injection d' with d1 _
 have:its=its':=by simpa using congrArg Array.toList d1
 subst this;exact r.inj r'
theorem Inv.tuple_inj(I:Inv X pins σ H s)(h:SqT X.K H a xs)(h':SqT X.K H a ys):xs=ys:=by
 obtain⟨its,r,⟨o,e,_,n,d⟩,_⟩:=I.tuple h;obtain⟨its',r',⟨o',e',_,n',d'⟩,_⟩:=I.tuple h';rw[e] at e';cases e';rw[d] at d'
 injection d' with d1 _
 have:its=its':=by simpa using congrArg Array.toList d1
 subst this;exact r.inj r'
end

noncomputable abbrev Cx.wish(X:Cx)(E:Qa->Qd->Prop):Cx:={ X with xe:=E }
noncomputable abbrev Cx.nox(X:Cx):Cx:=X.wish fun _ _=>False
theorem Cx.Ok.wish{X:Cx}(ok:X.Ok)(E:Qa->Qd->Prop):(X.wish E).Ok :=
 ⟨ok.mod,ok.kind,ok.glob,ok.blt,ok.above,ok.inj,ok.has,ok.cab,ok.hd,ok.frames,ok.stk,ok.exf,ok.bs,ok.bsz,ok.noex,ok.exfs,ok.funs,ok.frf⟩
theorem Cx.Ok.unwish{X:Cx}{E:Qa->Qd->Prop}(ok:(X.wish E).Ok):X.Ok :=
 ⟨ok.mod,ok.kind,ok.glob,ok.blt,ok.above,ok.inj,ok.has,ok.cab,ok.hd,ok.frames,ok.stk,ok.exf,ok.bs,ok.bsz,ok.noex,ok.exfs,ok.funs,ok.frf⟩
section
variable{X:Cx}{pins:List (Qc×Obj)}{σ:St}{H:Hp}{s:Qd}{E:Qa->Qd->Prop}
theorem Inv.wish(I:Inv X pins σ H s)(E:Qa->Qd->Prop):Inv (X.wish E) pins σ H s:=⟨I.ok.wish E,I.os,I.bare,I.base,I.loc,I.cell,I.free,I.freeC,I.pin,I.hok,I.len⟩
theorem Inv.unwish(I:Inv (X.wish E) pins σ H s):Inv X pins σ H s:=⟨I.ok.unwish,I.os,I.bare,I.base,I.loc,I.cell,I.free,I.freeC,I.pin,I.hok,I.len⟩
theorem SP.unwish{D:Ends}{f:Flow}{s':Qd}(h:SP (X.wish E) pins D f s'):SP X pins D f s':=by
 cases f with
 | next=>obtain⟨σ',H',I,q⟩:=h;exact⟨σ',H',I.unwish,q⟩
 | brk=>obtain⟨σ',H',I,q⟩:=h;exact⟨σ',H',I.unwish,q⟩
 | cont=>obtain⟨σ',H',I,q⟩:=h;exact⟨σ',H',I.unwish,q⟩
 | ret u=>obtain⟨v,σ',H',I,r,q⟩:=h;exact⟨v,σ',H',I.unwish,r,q⟩
theorem PE.nox{e:QR}{t:TE}(h:PE X.nox e t):PE X e t:=fun pins s σ H Q I hw=>Q6 (h pins s σ H Q (I.wish _) hw) (fun _ _ ⟨v,H',I',r,q⟩=>⟨v,H',I'.unwish,r,q⟩) fun _ _ z=>QT z
theorem PT.nox{e:QR}{t:TT}(h:PT X.nox e t):PT X e t:=fun pins s σ H Q I hw=>Q6 (h pins s σ H Q (I.wish _) hw) (fun _ _ ⟨H',I',q⟩=>⟨H',I'.unwish,q⟩) fun _ _ z=>QT z
theorem PSs.nox{st:List Gn}{t:TS}(h:PSs X.nox st t):PSs X st t:=fun pins s σ H D I hw=>Q6 (h pins s σ H D (I.wish _) hw) (fun _ _ q=>q.unwish) fun _ _ z=>QT z
end

section
variable{X:Cx}{st:Gn}{rest:List Gn}{t u:TS}{e:QR}{te:TE}{pos:Pos}
noncomputable def Jf1:TS:=fun D σ H=>D.nx σ H
noncomputable def Jd6(t u:TS):TS:=fun D σ H=>t { D with nx:=u D } σ H
theorem Jz:PSs X [] Jf1:=fun _ _ σ H _ I h=>Ku ⟨σ,H,I,h⟩
theorem Jf(h1:PS X st t)(h2:PSs X rest u):PSs X (st::rest) (Jd6 t u):=by
 intro pins s σ H D I h;refine Ll (thn (h1 pins s σ H { D with nx:=u D } I h) fun f s1 q=>?_)
 cases f with
 | next=>obtain⟨σ',H',I',q⟩:=q;exact h2 pins s1 σ' H' D I' q
 | ret v=>exact q
 | brk=>exact q
 | cont=>exact q
theorem Jl(h1:PS X st t):PSs X [st] t:=by
 intro pins s σ H D I h;refine Ll (thn (h1 pins s σ H D I h) fun f s1 q=>?_)
 cases f with
 | next=>exact Ku q
 | ret v=>exact q
 | brk=>exact q
 | cont=>exact q
theorem Inv.quiet{pins:List (Qc×Obj)}{σ:St}{H:Hp}{s:Qd}(I:Inv X pins σ H s):interactive X.env=false:=by simp[interactive,I.ok.kind]
noncomputable def ZU(te:TE):TS:=fun D σ H=>te σ H fun _ H1=>D.nx σ H1
theorem Uq(he:PE X e te)(hs:swapsWith e none pos.line X.env=pure false:=by rfl):PS X (.Expr e pos) (ZU te):=by intro pins s σ H D I h;exact wpAny_Expr_any (thn (he pins s σ H _ I h) fun v s1 ⟨x,H1,I1,r1,q1⟩=>⟨σ,H1,I1,q1⟩) I.quiet hs
noncomputable def Jf2(te:TE):TS:=fun D σ H=>te σ H D.rt
theorem JP(he:PE X e te):PS X (.Return (some e) pos) (Jf2 te):=by intro pins s σ H D I h;exact wpAny_Return_some (thn (he pins s σ H _ I h) fun v s1 ⟨x,H1,I1,r1,q1⟩=>⟨x,σ,H1,I1,r1,q1⟩)
noncomputable def Jih(c:TT)(t u:TS):TS:=fun D σ H=>c σ H fun b H1=>if b=true then t D σ H1 else u D σ H1
theorem JV{c:QR}{a b:List Gn}{tc:TT}(hc:PT X c tc)(ha:PSs X a t)(hb:PSs X b u):PS X (.If c a b pos) (Jih tc t u):=by
 intro pins s σ H D I h;refine wpAny_If (thn (hc pins s σ H _ I h) fun d s1 ⟨H1,I1,q1⟩=>?_)
 cases d with
 | true=>exact ha pins s1 σ H1 D I1 q1
 | false=>exact hb pins s1 σ H1 D I1 q1
end

noncomputable abbrev TG:=V->St->Hp->(St->Hp->Prop)->Prop
noncomputable abbrev TGs:=List V->St->Hp->(St->Hp->Prop)->Prop
noncomputable def PG(X:Cx)(target:QR)(t:TG):Prop :=
 ∀(pins:List (Qc×Obj)) (s:Qd) (σ:St) (H:Hp) (v:V) (u:Qa) (Q:St->Hp->Prop),Inv X pins σ H s->RelV v u->t v σ H Q ->
  wpAny (model X.prog X.w) X.A (assign target X.env u) (fun _ s'=>∃σ' H',Inv X pins σ' H' s'/\Q σ' H') X.xe s
noncomputable def PGs(X:Cx)(ts:List QR)(t:TGs):Prop :=
 ∀(pins:List (Qc×Obj)) (s:Qd) (σ:St) (H:Hp) (vs:List V) (us:List Qa) (Q:St->Hp->Prop),Inv X pins σ H s->Vals vs us->t vs σ H Q ->
  wpAny (model X.prog X.w) X.A (assignInOrder ((assignEach ts X.env).map (·.2)) us) (fun _ s'=>∃σ' H',Inv X pins σ' H' s'/\Q σ' H') X.xe s
noncomputable abbrev Jgf:=V->V->V->Hp->(Hp->Prop)->Prop
noncomputable def Jlk(X:Cx)(t:Jgf):Prop :=
 ∀(pins:List (Qc×Obj)) (s:Qd) (σ:St) (H:Hp) (o i v:V) (ov iv u:Qa) (Q:Hp->Prop),Inv X pins σ H s->RelV o ov->RelV i iv->RelV v u->t o i v H Q ->
  wpAny (model X.prog X.w) X.A (setItem ov iv u) (fun _ s'=>∃H',Inv X pins σ H' s'/\Q H') X.xe s
section
variable{X:Cx}{pos:Pos}
noncomputable def UG(i:Nat):TG:=fun v σ H Q=>Q (σ.set i (some v)) H
theorem UY{i:Nat}{x:Str}(hN:X.N.Nodup)(hi:X.N[i]?=some x)(hx:Loc X.env.scope x)(hf:X.fn x=true\/X.env.scope.names.lookup x=some .local:=by first|exact .inl rfl|exact .inr rfl|assumption):PG X (.Name x pos) (UG i):=by intro pins s σ H v u Q I r h;exact wpAny_assign_Name (W4 I hN hi hx r (fun s' I'=>⟨_,H,I',h⟩) hf)
noncomputable def Jjs:TGs:=fun vs σ H Q=>vs=[]/\Q σ H
noncomputable def JeR(t:TG)(u:TGs):TGs:=fun vs σ H Q=>∃v r,vs=v::r/\t v σ H fun σ' H'=>u r σ' H' Q
theorem Wm:PGs X [] Jjs:=by intro pins s σ H vs us Q I r h;obtain⟨e,h⟩:=h;subst e;cases r;exact assignInOrder_nil ⟨σ,H,I,h⟩
theorem YJ{e:QR}{es:List QR}{t:TG}{u:TGs}(h1:PG X e t)(h2:PGs X es u)
 (hs:(assignEach (e::es) X.env).map (·.2)=assign e X.env::(assignEach es X.env).map (·.2):=by rfl):PGs X (e::es) (JeR t u):=by
 intro pins s σ H vs us Q I r h;obtain⟨v,vr,e1,h⟩:=h;subst e1
 cases r with
 | cons r rr=>rw[hs];refine assignInOrder_cons (thn (h1 pins s σ H _ _ _ I r h) fun _ s1 ⟨σ1,H1,I1,q1⟩=>?_);exact h2 pins s1 σ1 H1 _ _ Q I1 rr q1
noncomputable def JeS(K:Qn)(n:Nat)(t:TGs):TG:=fun v σ H Q=>∃a xs,v=.ref a/\SqT K H a xs/\xs.length=n/\t xs σ H Q
theorem Jka{es:List QR}{k:Nat}{t:TGs}{n:Nat}(hc:X.calm=true)(h:PGs X es t)
 (hn:(assignEach es X.env).length=n:=by rfl) (hst:(assignEach es X.env).findIdx? (·.1)=none:=by rfl):PG X (.Tuple es k pos) (JeS X.K n t):=by
 intro pins s σ H v u Q I r hw;obtain⟨a,xs,e1,hq,hl,hw⟩:=hw;subst e1;cases r;obtain⟨its,rv,ht,hz⟩:=I.tuple hq;refine assign_Tuple_tuple (I.ok.hd hc) ht (by simp[hn,<- hl,rv.length]) hst fun h' hx=>?_
 have I1:Inv X pins σ H { s with heap:=h' }:=I.kept (t':=s.toks) fun b o e=>hx b o (QG (Qj e)) e
 exact h pins _ σ H xs _ Q I1 (by simpa using rv) hw
noncomputable def Jjt(to ti:TE)(t:Jgf):TG:=fun v σ H Q=>to σ H fun o H1=>ti σ H1 fun i H2=>t o i v H2 fun H3=>Q σ H3
theorem JbW{o i:QR}{to ti:TE}{t:Jgf}(ho:PE X o to)(hi:PE X i ti)(hs:Jlk X t)
 (ha:∀v,assign (.Subscript o i pos) X.env v=(do
  let ov <- holding [v] (eval o X.env)
  let iv <- holding [v,ov] (eval i X.env)
  standAt pos
  holding [v,ov,iv] (setItem ov iv v)
  release [v,ov,iv] []):=by intro _;rfl):PG X (.Subscript o i pos) (Jjt to ti t):=by
 intro pins s σ H v u Q I r h;rw[ha];refine Qf (Gx (thn (ho pins s σ H _ I h) fun ov s1 ⟨x,H1,I1,r1,q1⟩=>?_));refine Qf (Gx (thn (hi pins s1 σ H1 _ I1 q1) fun iv s2 ⟨y,H2,I2,r2,q2⟩=>?_));refine Qf (Ko (Qf (Gx (thn (hs pins s2 σ H2 x y v ov iv u _ I2 r1 r2 r q2) fun _ s3 ⟨H3,I3,q3⟩=>?_))));exact wpAny_release ⟨σ,H3,I3,q3⟩
noncomputable def Jaz(te:TE)(g:TG):TS:=fun D σ H=>te σ H fun x H1=>g x σ H1 D.nx
theorem JbZ{tg e:QR}{te:TE}{g:TG}(he:PE X e te)(hg:PG X tg g)(hs:swapsWithSole [tg] e pos.line X.env=pure false:=by rfl)(hw:swappedStores [tg] e X.env=pure none:=by rfl)
 (h1:(assignEach [tg] X.env).map (·.2)=[assign tg X.env]:=by rfl):PS X (.Assign [tg] e pos) (Jaz te g):=by
 intro pins s σ H D I h;refine wpAny_Assign_stores (thn (he pins s σ H _ I h) fun v s1 ⟨x,H1,I1,r1,q1⟩=>?_) hs hw;rw[h1];exact thn (hg pins s1 σ H1 x v _ I1 r1 q1) fun _ s2 q=>q
theorem Jam{i:Nat}{x:Str}{e:QR}{te:TE}{pos':Pos}(hN:X.N.Nodup)(hi:X.N[i]?=some x)(hx:Loc X.env.scope x)(he:PE X e te)(hs:swapsWith e (some (.Name x pos')) pos.line X.env=pure false:=by rfl)(hf:X.fn x=true\/X.env.scope.names.lookup x=some .local:=by first|exact .inl rfl|exact .inr rfl|assumption) :
 PS X (.Assign [.Name x pos'] e pos) (Jaz te (UG i)):=by
 intro pins s σ H D I h;refine wpAny_Assign_Name (thn (he pins s σ H _ I h) fun v s1 ⟨y,H1,I1,r1,q1⟩=>?_) hs;exact W4 I1 hN hi hx r1 (fun s2 I2=>⟨_,H1,I2,q1⟩) hf
end

section
variable{X:Cx}{pos:Pos}
end

structure It where
 go:Nat->Hp->Prop
 yld:Nat->Hp->V->Hp->Prop
 stop:Nat->Hp->Prop
noncomputable def FpOk(X:Cx)(pins:List (Qc×Obj))(H:Hp)(b:Qc):Prop :=
 H b=none/\b≠X.env.locals/\b∉X.fs/\(b∈X.ex\/X.s₀.heap.objs.size<=b)/\(∀x c,X.env.cells.lookup x=some c->c≠b)/\∀p∈X.pn++pins,p.1≠b
theorem Inv.fpOk{X:Cx}{pins:List (Qc×Obj)}{σ:St}{H H':Hp}{s:Qd}{b:Qc}(I:Inv X pins σ H s)(hb:s.heap.objs.size<=b)(hn:H' b=none):FpOk X pins H' b:=by
 refine⟨hn,KC (QD I.lt hb),I.nofs hb,.inr (QP I.sz hb),fun x c e z=>?_,fun p hp z=>?_⟩
 ·obtain⟨v,q⟩:=I.cell x c e;exact absurd (QD q.lt (by rw[z];exact hb)) (Q8 _)
 ·exact absurd (QD (Qj (I.pin p hp).1) (by rw[z];exact hb)) (Q8 _)
structure Turn (P:Qo) (w:QC) (K:Qn) (tg:QR) (J:It) (fp:List Qc) (it:Qc) (tn:Nat->QI->Prop):Prop where
 mem:it∈fp
 obj:∀i h,tn i h->∀b∈fp,∃o,h.get? b=some o/\∀v,o.data≠.cell v
 keep:∀i h h',tn i h->(∀b∈fp,∀o,h.get? b=some o->h'.get? b=some o)->tn i h'
 item:∀(X:Cx),X.prog=P->X.w=w->X.K=K->X.calm=true->∀(i:Nat) (pins:List (Qc×Obj)) (s:Qd) (σ:St) (H:Hp) (E:Qa->Qd->Prop),Inv X pins σ H s->(∀b∈fp,FpOk X pins H b)->tn i s.heap->J.go i H ->
  wpAny (model P w) X.A (pyNext (.ref it)) (fun r s1=>∃u,r=some u ∧
   wpAny (model P w) X.A (letOwnedTupleGo tg (.ref it) u) (fun _ s2=>∃x H',Inv X pins σ H' s2/\RelV x u/\J.yld i H x H'/\tn (i+1) s2.heap/\∀b∈fp,H' b=none) E s1) E s
 done:∀(X:Cx),X.prog=P->X.w=w->X.K=K->X.calm=true->∀(i:Nat) (pins:List (Qc×Obj)) (s:Qd) (σ:St) (H:Hp) (E:Qa->Qd->Prop),Inv X pins σ H s->(∀b∈fp,FpOk X pins H b)->tn i s.heap->J.stop i H ->
  wpAny (model P w) X.A (pyNext (.ref it)) (fun r s1=>r=none/\Inv X pins σ H s1) E s
 self:∀(A:Qw) (i:Nat) (s:Qd) (Q:Qa->Qd->Prop) (E:Qa->Qd->Prop),tn i s.heap->Q (.ref it) s->wpAny (model P w) A (pyIter (.ref it)) Q E s
noncomputable abbrev TI:=St->Hp->(It->Hp->Prop)->Prop
noncomputable def PIE(X:Cx)(pins:List (Qc×Obj))(σ:St)(tg:QR)(R:It->Hp->Prop)(itv:Qa)(s2:Qd):Prop :=
 ∃(it:Qc) (fp:List Qc) (tn:Nat->QI->Prop) (J:It) (H':Hp),itv=.ref it/\Inv X pins σ H' s2/\Turn X.prog X.w X.K tg J fp it tn/\tn 0 s2.heap/\(∀b∈fp,FpOk X pins H' b)/\R J H'
noncomputable def PI(X:Cx)(tg iter:QR)(wi:TI):Prop :=
 ∀(pins:List (Qc×Obj)) (s:Qd) (σ:St) (H:Hp) (R:It->Hp->Prop),Inv X pins σ H s->wi σ H R ->
  wpAny (model X.prog X.w) X.A (eval iter X.env) (fun v s1=>wpAny (model X.prog X.w) X.A (pyIter v) (PIE X pins σ tg R) X.xe s1) X.xe s

theorem JcC{M:Model}{A:Qw}{E:Qa->Qd->Prop}{s:Qd}{tg:QR}{it:Qc}{u:Qa}{o:Obj}{n:String}{vs:Array Qa}{Q:Unit->Qd->Prop}(ho:s.heap.get? it=some o)(hc:o.cls=.type n)(hd:o.data=.fields vs)
 (hn:["enumerate","zip","dict_itemiterator","dict_reverseitemiterator","odict_iterator","itertools.zip_longest","itertools.pairwise"].contains n=false) (hQ:Q () s):wpAny M A (letOwnedTupleGo tg (.ref it) u) Q E s:=by
 unfold letOwnedTupleGo;cases tg <;> first
  | exact Qv hQ
  | (cases u <;> first
   | exact Qv hQ
   | (refine Qf (wpAny_load ho ?_)
      rw[hc,hd];show wpAny M A (if (["enumerate","zip","dict_itemiterator","dict_reverseitemiterator","odict_iterator","itertools.zip_longest","itertools.pairwise"].contains n && vs[0]? == some (rawInt _))=true then _ else _) Q E s;rw[if_neg (by intro h;rw[hn,Bool.false_and] at h;cases h)];exact Qv hQ))

noncomputable def Itl(K:Qn)(a:Qc):It :=
 ⟨fun i H=>∃xs x,SqL K H a xs/\xs[i]?=some x,fun i H x H'=>H'=H/\∀xs,SqL K H a xs->xs[i]?=some x,fun i H=>∃xs,SqL K H a xs/\xs.length<=i⟩
noncomputable def Itt(K:Qn)(a:Qc):It :=
 ⟨fun i H=>∃xs x,SqT K H a xs/\xs[i]?=some x,fun i H x H'=>H'=H/\∀xs,SqT K H a xs->xs[i]?=some x,fun i H=>∃xs,SqT K H a xs/\xs.length<=i⟩
noncomputable def Itr(lo:Int)(n:Nat):It:=⟨fun i _=>i<n,fun i H x H'=>H'=H/\x=.int (lo+i),fun i _=>n<=i⟩
theorem Jd7{P:Qo}{w:QC}{K:Qn}{tg:QR}(a it:Qc):Turn P w K tg (Itl K a) [it] it (fun i h=>h.IsListIter it a i) where
 mem:=by simp
 obj:=fun i h st b hb=>by
  have e:b=it:=by simpa using hb
  subst e;obtain⟨o,e,c,d⟩:=st;exact⟨o,e,fun v z=>by rw[d] at z;cases z⟩
 keep:=fun i h h' st k=>st.at fun o e=>k it (by simp) o e
 item:=by
  intro X hP hw hK hc i pins s σ H E I hf st hg;subst hP hw hK;obtain⟨xs,x,hq,hx⟩:=hg;obtain⟨its,rv,p,hz⟩:=I.list hq;obtain⟨u,hu,ru⟩:=rv.get hx;obtain⟨f0,f1,f2,f3,f4,f5⟩:=hf it (by simp);refine wpAny_pyNext_list_item st p.isList (x:=u) (by simpa using hu) fun h' st' sb=>?_
  have I1:Inv X pins σ H { s with heap:=h' }:=I.turned (t':=s.toks) (fun b o hb e=>(sb.2 b hb).trans e) f0 f1 f3 f4 f5;obtain⟨o,e,c,d⟩:=id st';exact⟨u,rfl,JcC (s:={ s with heap:=h' }) e c d (by decide) ⟨x,H,I1,ru,⟨rfl,fun ys hy=>by rw[I.list_inj hy hq];exact hx⟩,st',fun b hb=>(hf b hb).1⟩⟩
 done:=by intro X hP hw hK hc i pins s σ H E I hf st hg;subst hP hw hK;obtain⟨xs,hq,hx⟩:=hg;obtain⟨its,rv,p,hz⟩:=I.list hq;obtain⟨f0,f1,f2,f3,f4,f5⟩:=hf it (by simp);have hl:=rv.length;exact wpAny_pyNext_list_end (I.ok.hd hc) st p.isList (by simp;omega) fun h' eb=>⟨rfl,I.turned (t':=s.toks) (fun b o hb e=>eb b o hb e) f0 f1 f3 f4 f5⟩
 self:=fun _ _ _ _ _ st h=>wpAny_pyIter_listiter st h
theorem Jcg{P:Qo}{w:QC}{K:Qn}{tg:QR}(a it:Qc):Turn P w K tg (Itt K a) [it] it (fun i h=>h.IsTupleIter it a i) where
 mem:=by simp
 obj:=fun i h st b hb=>by
  have e:b=it:=by simpa using hb
  subst e;obtain⟨o,e,c,d⟩:=st;exact⟨o,e,fun v z=>by rw[d] at z;cases z⟩
 keep:=fun i h h' st k=>st.at fun o e=>k it (by simp) o e
 item:=by
  intro X hP hw hK hc i pins s σ H E I hf st hg;subst hP hw hK;obtain⟨xs,x,hq,hx⟩:=hg;obtain⟨its,rv,p,hz⟩:=I.tuple hq;obtain⟨u,hu,ru⟩:=rv.get hx;obtain⟨f0,f1,f2,f3,f4,f5⟩:=hf it (by simp);refine wpAny_pyNext_tuple_item st (show s.heap.IsTuple a its.toArray from p) (x:=u) (by simpa using hu) fun h' st' sb=>?_
  have I1:Inv X pins σ H { s with heap:=h' }:=I.turned (t':=s.toks) (fun b o hb e=>(sb.2 b hb).trans e) f0 f1 f3 f4 f5;obtain⟨o,e,c,d⟩:=id st';exact⟨u,rfl,JcC (s:={ s with heap:=h' }) e c d (by decide) ⟨x,H,I1,ru,⟨rfl,fun ys hy=>by rw[I.tuple_inj hy hq];exact hx⟩,st',fun b hb=>(hf b hb).1⟩⟩
 done:=by intro X hP hw hK hc i pins s σ H E I hf st hg;subst hP hw hK;obtain⟨xs,hq,hx⟩:=hg;obtain⟨its,rv,p,hz⟩:=I.tuple hq;obtain⟨f0,f1,f2,f3,f4,f5⟩:=hf it (by simp);have hl:=rv.length;exact wpAny_pyNext_tuple_end (I.ok.hd hc) st (show s.heap.IsTuple a its.toArray from p) (by simp;omega) fun h' eb=>⟨rfl,I.turned (t':=s.toks) (fun b o hb e=>eb b o hb e) f0 f1 f3 f4 f5⟩
 self:=fun _ _ _ _ _ st h=>wpAny_pyIter_tupleiter st h
theorem Jcf{P:Qo}{w:QC}{K:Qn}{tg:QR}(it:Qc)(lo:Int)(n:Nat):Turn P w K tg (Itr lo n) [it] it (fun i h=>IsRangeIter h it (lo+(i:Nat)*1) ((n:Int)-(i:Nat)) 1) where
 mem:=by simp
 obj:=fun i h st b hb=>by
  have e:b=it:=by simpa using hb
  subst e;exact⟨_,st,fun v z=>by have z':Data.fields _=Data.cell v:=z;cases z'⟩
 keep:=fun i h h' st k=>k it (by simp) _ st
 item:=by
  intro X hP hw hK hc i pins s σ H E I hf st hg;subst hP hw hK;obtain⟨f0,f1,f2,f3,f4,f5⟩:=hf it (by simp);have W:=Walks.range (prog:=X.prog) (w:=X.w) (I.ok.hd hc) it lo 1 n;refine W.item i s _ _ hg st fun v h' tk hv st' kk=>?_
  obtain⟨t,rfl⟩:=hv;have I1:Inv X pins σ H { s with heap:=h',toks:=tk }:=I.turned (fun b o hb e=>kk b o (by simpa using hb) e) f0 f1 f3 f4 f5;refine⟨_,rfl,JcC (s:={ s with heap:=h',toks:=tk }) (n:="range_iterator") st' rfl rfl (by decide) ⟨.int (lo+i),H,I1,⟨t,?_⟩,⟨rfl,rfl⟩,st',fun b hb=>(hf b hb).1⟩⟩;rw[Int.mul_one]
 done:=by intro X hP hw hK hc i pins s σ H E I hf st hg;subst hP hw hK;obtain⟨f0,f1,f2,f3,f4,f5⟩:=hf it (by simp);exact wpAny_pyNext_range_end (I.ok.hd hc) st (by have:n<=i:=hg;omega) fun h' eb=>⟨rfl,I.turned (t':=s.toks) (fun b o hb e=>eb b o hb e) f0 f1 f3 f4 f5⟩
 self:=fun _ _ _ _ _ st h=>wpAny_pyIter_rangeiter st h
end L2

namespace L2
open PySem PySem.Spec PyProof.Rows
section
variable{X:Cx}{tg:QR}
noncomputable def Jiz(K:Qn)(tl:TE):TI:=fun σ H R=>tl σ H fun x H1=>∃a,x=.ref a/\(∃xs,SqL K H1 a xs)/\R (Itl K a) H1
noncomputable def JlC(K:Qn)(tl:TE):TI:=fun σ H R=>tl σ H fun x H1=>∃a,x=.ref a/\(∃xs,SqT K H1 a xs)/\R (Itt K a) H1
theorem Jhw{l:QR}{tl:TE}(hl:PE X l tl):PI X tg l (Jiz X.K tl):=by
 intro pins s σ H R I h;refine thn (hl pins s σ H _ I h) fun v s1 ⟨x,H1,I1,r1,q1⟩=>?_
 obtain⟨a,e,⟨xs,hq⟩,q⟩:=q1;subst e;cases r1;obtain⟨its,rv,p,hz⟩:=I1.list hq;refine wpAny_pyIter_list p.isList ?_;refine⟨s1.heap.objs.size,[s1.heap.objs.size],_,_,H1,rfl,I1.kept (t':=s1.toks) fun b o e=>Qg _ e,Jd7 a _,⟨_,QH _ rfl,rfl,rfl⟩,fun b hb=>?_,q⟩;have e:b=s1.heap.objs.size:=by simpa using hb
 subst e;exact I1.fpOk (Qq _) (I1.hok.fresh (Qq _))
theorem Jkc{l:QR}{tl:TE}(hl:PE X l tl):PI X tg l (JlC X.K tl):=by
 intro pins s σ H R I h;refine thn (hl pins s σ H _ I h) fun v s1 ⟨x,H1,I1,r1,q1⟩=>?_
 obtain⟨a,e,⟨xs,hq⟩,q⟩:=q1;subst e;cases r1;obtain⟨its,rv,p,hz⟩:=I1.tuple hq;refine wpAny_pyIter_tuple (show s1.heap.IsTuple a its.toArray from p) ?_;refine⟨s1.heap.objs.size,[s1.heap.objs.size],_,_,H1,rfl,I1.kept (t':=s1.toks) fun b o e=>Qg _ e,Jcg a _,⟨_,QH _ rfl,rfl,rfl⟩,fun b hb=>?_,q⟩;have e:b=s1.heap.objs.size:=by simpa using hb
 subst e;exact I1.fpOk (Qq _) (I1.hok.fresh (Qq _))
theorem JfE{pins:List (Qc×Obj)}{σ:St}{H:Hp}{s:Qd}{R:It->Hp->Prop}{E:Qa->Qd->Prop}{lo hi:Int}{t u v:Tok}{tk:Nat}(I:Inv X pins σ H s)(h1:-(2 ^ 62)<=lo)(h2:lo<2 ^ 62)(h3:-(2 ^ 62)<=hi)(h4:hi<2 ^ 62)
 (q:R (Itr lo (hi-lo).toNat) H):wpAny (model X.prog X.w) X.A (pyIter (.ref s.heap.objs.size)) (PIE X pins σ tg R) E { s with heap:=s.heap.push { cls:=.type "range",data:=.fields #[.int lo t,.int hi u,.int 1 v] },toks:=tk }:=by
 refine wpAny_pyIter_range (IsRange.new ..) (small_one h1 h2 h3 h4) ?_;have I1:Inv X pins σ H { s with heap:=s.heap.push { cls:=.type "range",data:=.fields #[.int lo t,.int hi u,.int 1 v] },toks:=tk }:=I.kept fun b o e=>Qg _ e
 refine⟨(s.heap.push { cls:=.type "range",data:=.fields #[.int lo t,.int hi u,.int 1 v] }).objs.size,[(s.heap.push { cls:=.type "range",data:=.fields #[.int lo t,.int hi u,.int 1 v] }).objs.size],_,_,H,rfl,
  I1.kept (t':=tk) fun b o e=>Qg _ e,Jcf _ lo (hi-lo).toNat,?_,fun b hb=>?_,q⟩
 ·have e1:lo+((0:Nat):Int)*1=lo:=by simp
  have e2:(((hi-lo).toNat:Nat):Int)-((0:Nat):Int)=Builtin.Range.rangeSize lo hi 1:=by rw[rangeSize_one];split <;> omega
  show IsRangeIter _ _ (lo+((0:Nat):Int)*1) ((((hi-lo).toNat:Nat):Int)-((0:Nat):Int)) 1;rw[e1,e2];exact QH _ rfl
 ·have e:b=(s.heap.push { cls:=.type "range",data:=.fields #[.int lo t,.int hi u,.int 1 v] }).objs.size:=by simpa using hb
  subst e;exact I1.fpOk (Qq _) (I1.hok.fresh (Qq _))
noncomputable def JiA(ta:TA):TI:=fun σ H R=>ta σ H fun vs H1=>∃j:Int,vs=[.int j]/\-(2 ^ 62)<=j/\j<2 ^ 62/\R (Itr 0 j.toNat) H1
theorem ZL{a:QR}{ta:TA}{p pos:Pos}(hg:Gl X "range")(hm:X.mg "range"=none)(ha:PA X [a] ta)(hs:starEach [a] X.env=[(false,eval a X.env)]:=by rfl):PI X tg (.Call (.Name "range" p) [a] [] pos) (JiA ta):=by
 intro pins s σ H R I h;refine Call_ (Jab I hg hm boot_range (KW (thn (ha pos pins s σ H _ I h) fun us s1 ⟨vs,H1,I1,r1,q1⟩=>?_) hs rfl));obtain⟨j,e,q1,q2,q⟩:=q1;subst e
 cases r1 with
 | cons r rr=>cases rr;obtain⟨t,rfl⟩:=r;exact call_range_1 (JfE I1 (by omega) (by omega) q1 q2 (by simpa using q))
noncomputable def Jig(wi:TI)(g:TG)(tb:TS):TS:=fun D σ H=>wi σ H fun J H1=>∃W:Nat->Nat->St->Hp->Prop,(∃m,W 0 m σ H1)/\∀i m σ H,W i m σ H ->
 (J.stop i H/\D.nx σ H)\/(J.go i H/\∃N:St->Hp->Prop,(∀σ' H',N σ' H'->∃m',m'<m/\W (i+1) m' σ' H')/\∀x H',J.yld i H x H'->g x σ H' fun σ2 H2=>tb { D with nx:=N,ct:=N,bk:=D.nx } σ2 H2)
noncomputable def WV(fp:List Qc)(h:QI):List (Qc×Obj):=fp.filterMap fun b=>(h.get? b).map fun o=>(b,o)
theorem U6{fp:List Qc}{h:QI}{b:Qc}{o:Obj}(hb:b∈fp)(e:h.get? b=some o):(b,o)∈WV fp h:=List.mem_filterMap.mpr ⟨b,hb,by rw[e];rfl⟩
theorem JdS{fp:List Qc}{h:QI}{p:Qc×Obj}(hp:p∈WV fp h):p.1∈fp/\h.get? p.1=some p.2:=by
 obtain⟨b,hb,e⟩:=List.mem_filterMap.mp hp
 cases q:h.get? b with
 | none=>rw[q] at e;cases e
 | some o=>rw[q] at e;have e':(b,o)=p:=QL e;subst e';exact⟨hb,q⟩
theorem Inv.pinned{pins:List (Qc×Obj)}{σ:St}{H:Hp}{s:Qd}{fp:List Qc}(I:Inv X pins σ H s)(hf:∀b∈fp,FpOk X pins H b)(ho:∀b∈fp,∃o,s.heap.get? b=some o/\∀v,o.data≠.cell v):Inv X (pins++WV fp s.heap) σ H s :=
 I.pins_of fun p hp=>(Q2.mp hp).elim (fun z=>I.pin p (QX _ z)) fun z=>by obtain⟨hb,e⟩:=JdS z;obtain⟨f0,f1,f2,_⟩:=hf p.1 hb;obtain⟨o,e',d⟩:=ho p.1 hb;rw[e] at e';cases e';exact⟨e,f0,f1,f2,d⟩
theorem Inv.unpinned{pins pl:List (Qc×Obj)}{σ:St}{H:Hp}{s:Qd}(I:Inv X (pins++pl) σ H s):Inv X pins σ H s:=I.pins_of fun p hp=>I.pin p (QX _ (LW _ hp))
theorem Jb0{iter:QR}{body:List Gn}{wi:TI}{g:TG}{tb:TS}{pos:Pos}(hp:PassesOwn (model X.prog X.w) X.A X.env X.xe)(hc:X.calm=true)(hi:PI X tg iter wi)(hg:PG X tg g)(hb:PSs X body tb)
 (hs:∀x,foldedSetIterable iter X.env x=pure x:=by intro _;rfl):PS X (.For tg iter body [] pos) (Jig wi g tb):=by
 intro pins s σ H D I h;refine wpAny_For (thn (hi pins s σ H _ I h) fun v s1 h1=>thn h1 fun itv s2 h2=>?_) hs;obtain⟨it,fp,tn,J,H2,e,I2,T,st2,f2,W,⟨m0,w0⟩,turn⟩:=h2;subst e
 -- what stays true of the iterator's objects through the loop
 have stat:∀{H':Hp},(∀b∈fp,H' b=none)->∀b∈fp,FpOk X pins H' b:=fun hn b hb=>⟨hn b hb,(f2 b hb).2⟩
 refine codeAny_forLoop_any (fun n s'=>∃i σ' H',Inv X pins σ' H' s'/\tn i s'.heap/\(∀b∈fp,H' b=none)/\W i n σ' H') ?_ m0 ⟨0,σ,H2,I2,st2,fun b hb=>(f2 b hb).1,w0⟩;rintro n s3 ⟨i,σ3,H3,I3,st3,fr3,w3⟩;rcases turn i n σ3 H3 w3 with ⟨stop,qn⟩|⟨go,N,hN,step⟩
 ·refine Kv hp (thn (T.done X rfl rfl rfl hc i pins s3 σ3 H3 X.xe I3 (stat fr3) st3 stop) fun r s4 ⟨hr,I4⟩=>?_);subst hr;exact Ku ⟨σ3,H3,I4,qn⟩
 ·refine Kv hp (thn (T.item X rfl rfl rfl hc i pins s3 σ3 H3 X.xe I3 (stat fr3) st3 go) fun r s4 ⟨u,hr,h4⟩=>?_);subst hr;refine Kv hp (thn h4 fun _ s5 ⟨x,H5,I5,r5,y5,st5,fr5⟩=>?_);have I5':=I5.pinned (stat fr5) (T.obj _ _ st5);refine Kv hp (thn (hg _ s5 σ3 H5 x u _ I5' r5 (step x H5 y5)) fun _ s6 ⟨σ6,H6,I6,q6⟩=>?_);refine Kv hp (thn (hb _ s6 σ6 H6 _ I6 q6) fun f s7 q7=>?_)
  have again:∀{σ7:St} {H7:Hp},Inv X (pins++WV fp s5.heap) σ7 H7 s7->N σ7 H7->∃m,m<n/\∃i σ' H',Inv X pins σ' H' s7/\tn i s7.heap/\(∀b∈fp,H' b=none)/\W i m σ' H':=fun {σ7 H7} I7 n7=>by obtain⟨m',hm,w7⟩:=hN σ7 H7 n7;refine⟨m',hm,i+1,σ7,H7,I7.unpinned,T.keep _ _ _ st5 fun b hb o e=>(I7.pin (b,o) (QX _ (QX _ (U6 hb e)))).1,fun b hb=>?_,w7⟩;obtain⟨o,e,d⟩:=T.obj _ _ st5 b hb;exact(I7.pin (b,o) (QX _ (QX _ (U6 hb e)))).2.1
  cases f with
  | next=>obtain⟨σ7,H7,I7,n7⟩:=q7;exact again I7 n7
  | cont=>obtain⟨σ7,H7,I7,n7⟩:=q7;exact again I7 n7
  | brk=>obtain⟨σ7,H7,I7,q7⟩:=q7;exact⟨σ7,H7,I7.unpinned,q7⟩
  | ret v=>obtain⟨x7,σ7,H7,I7,r7,q7⟩:=q7;exact⟨x7,σ7,H7,I7.unpinned,r7,q7⟩
end

theorem JeP{K:Qn}{a:Qc}{xs:List V}{g:TG}{tb:TS}{D:Ends}{σ:St}{H:Hp}(Pv:Nat->St->Hp->Prop)(h0:Pv 0 σ H)(hl:∀i σ H,i<=xs.length->Pv i σ H->SqL K H a xs)
 (hs:∀i x σ H,xs[i]?=some x->Pv i σ H->g x σ H fun σ2 H2=>tb { D with nx:=Pv (i+1),ct:=Pv (i+1),bk:=D.nx } σ2 H2) (hd:∀σ H,Pv xs.length σ H->D.nx σ H) :
 ∃W:Nat->Nat->St->Hp->Prop,(∃m,W 0 m σ H)/\∀i m σ H,W i m σ H ->
  ((Itl K a).stop i H/\D.nx σ H)\/((Itl K a).go i H/\∃N:St->Hp->Prop,(∀σ' H',N σ' H'->∃m',m'<m/\W (i+1) m' σ' H')/\∀x H',(Itl K a).yld i H x H'->g x σ H' fun σ2 H2=>tb { D with nx:=N,ct:=N,bk:=D.nx } σ2 H2):=by
 refine⟨fun i m σ H=>m=xs.length-i/\i<=xs.length/\Pv i σ H,⟨xs.length,by simp,G4 _,h0⟩,?_⟩;rintro i m σ H ⟨rfl,hi,p⟩;have q:=hl i σ H hi p
 by_cases hlt:i<xs.length
 ·refine .inr ⟨⟨xs,xs[i],q,by simp[hlt]⟩,Pv (i+1),fun σ' H' p'=>⟨xs.length-(i+1),by omega,rfl,hlt,p'⟩,fun x H' y=>?_⟩;obtain⟨e,y⟩:=y;subst e;exact hs i x σ _ (y xs q) p
 ·have e:i=xs.length:=by omega
  subst e;exact .inl ⟨⟨xs,q,Qq _⟩,hd σ H p⟩
theorem JgZ{K:Qn}{a:Qc}{xs:List V}{g:TG}{tb:TS}{D:Ends}{σ:St}{H:Hp}(Pv:Nat->St->Hp->Prop)(h0:Pv 0 σ H)(hl:∀i σ H,i<=xs.length->Pv i σ H->SqT K H a xs)
 (hs:∀i x σ H,xs[i]?=some x->Pv i σ H->g x σ H fun σ2 H2=>tb { D with nx:=Pv (i+1),ct:=Pv (i+1),bk:=D.nx } σ2 H2) (hd:∀σ H,Pv xs.length σ H->D.nx σ H) :
 ∃W:Nat->Nat->St->Hp->Prop,(∃m,W 0 m σ H)/\∀i m σ H,W i m σ H ->
  ((Itt K a).stop i H/\D.nx σ H)\/((Itt K a).go i H/\∃N:St->Hp->Prop,(∀σ' H',N σ' H'->∃m',m'<m/\W (i+1) m' σ' H')/\∀x H',(Itt K a).yld i H x H'->g x σ H' fun σ2 H2=>tb { D with nx:=N,ct:=N,bk:=D.nx } σ2 H2):=by
 refine⟨fun i m σ H=>m=xs.length-i/\i<=xs.length/\Pv i σ H,⟨xs.length,by simp,G4 _,h0⟩,?_⟩;rintro i m σ H ⟨rfl,hi,p⟩;have q:=hl i σ H hi p
 by_cases hlt:i<xs.length
 ·refine .inr ⟨⟨xs,xs[i],q,by simp[hlt]⟩,Pv (i+1),fun σ' H' p'=>⟨xs.length-(i+1),by omega,rfl,hlt,p'⟩,fun x H' y=>?_⟩;obtain⟨e,y⟩:=y;subst e;exact hs i x σ _ (y xs q) p
 ·have e:i=xs.length:=by omega
  subst e;exact .inl ⟨⟨xs,q,Qq _⟩,hd σ H p⟩
end L2

namespace L2
open PySem PySem.Spec PyProof.Rows

noncomputable abbrev R2:=V->V->Hp->VK->Prop
noncomputable def OpR(X:Cx)(f:Qa->Qa->Sem Qa)(r:R2):Prop :=
 ∀(pins:List (Qc×Obj)) (s:Qd) (σ:St) (H:Hp) (x y:V) (v u:Qa) (Q:VK),Inv X pins σ H s->RelV x v->RelV y u->r x y H Q ->
  wpAny (model X.prog X.w) X.A (f v u) (EP X pins σ Q) X.xe s
noncomputable def UnR(X:Cx)(f:Qa->Sem Qa)(r:V->Hp->VK->Prop):Prop :=
 ∀(pins:List (Qc×Obj)) (s:Qd) (σ:St) (H:Hp) (x:V) (v:Qa) (Q:VK),Inv X pins σ H s->RelV x v->r x H Q ->
  wpAny (model X.prog X.w) X.A (f v) (EP X pins σ Q) X.xe s
noncomputable def CallR(X:Cx)(f:Qa)(r:List V->Hp->VK->Prop):Prop :=
 ∀(pins:List (Qc×Obj)) (s:Qd) (σ:St) (H:Hp) (xs:List V) (us:List Qa) (Q:VK),Inv X pins σ H s->Vals xs us->r xs H Q ->
  wpAny (model X.prog X.w) X.A (call f us) (EP X pins σ Q) X.xe s
noncomputable def Jmc(X:Cx)(r:V->Hp->(Bool->Hp->Prop)->Prop):Prop :=
 ∀(pins:List (Qc×Obj)) (s:Qd) (σ:St) (H:Hp) (x:V) (v:Qa) (Q:Bool->Hp->Prop),Inv X pins σ H s->RelV x v->r x H Q ->
  wpAny (model X.prog X.w) X.A (truthy v) (TP X pins σ Q) X.xe s

noncomputable def tOp(r:R2)(ta tb:TE):TE:=fun σ H Q=>ta σ H fun x H1=>tb σ H1 fun y H2=>r x y H2 Q
noncomputable def tUn(r:V->Hp->VK->Prop)(ta:TE):TE:=fun σ H Q=>ta σ H fun x H1=>r x H1 Q
noncomputable def rI(C:Int->Int->Prop)(g:Int->Int->V):R2:=fun x y H Q=>∃i j,x=.int i/\y=.int j/\C i j/\Q (g i j) H
noncomputable def rI0(g:Int->Int->V):R2:=fun x y H Q=>∃i j,x=.int i/\y=.int j/\Q (g i j) H
noncomputable def rU(g:Int->V):V->Hp->VK->Prop:=fun x H Q=>∃i,x=.int i/\Q (g i) H

section
variable{X:Cx}{a b c:QR}{ta tb tc:TE}{pos:Pos}

theorem Ji3(ha:PE X a ta)(hb:PE X b tb){pins:List (Qc×Obj)}{s:Qd}{σ:St}{H:Hp}{R:V->V->Hp->Prop}(I:Inv X pins σ H s)
 (h:ta σ H fun x H1=>tb σ H1 fun y H2=>R x y H2) {Q:Qa->Qd->Prop} {f:Qa->Qa->Sem Qa}
 (hf:∀v u s2 x y H2,Inv X pins σ H2 s2->RelV x v->RelV y u->R x y H2->wpAny (model X.prog X.w) X.A (f v u) Q X.xe s2) :
 wpAny (model X.prog X.w) X.A (eval a X.env) (fun v s₁=>wpAny (model X.prog X.w) X.A (eval b X.env) (fun u s₂=>wpAny (model X.prog X.w) X.A (f v u) Q X.xe s₂) X.xe s₁) X.xe s:=by
 refine thn (ha pins s σ H _ I h) fun v s1 ⟨x,H1,I1,r1,q1⟩=>?_
 refine thn (hb pins s1 σ H1 _ I1 q1) fun u s2 ⟨y,H2,I2,r2,q2⟩=>?_
 exact hf v u s2 x y H2 I2 r1 r2 q2

theorem Jm{op:Operator}{r:R2}(ho:OpR X (binaryOp op) r)(ha:PE X a ta)(hb:PE X b tb):PE X (.BinOp a op b pos) (tOp r ta tb):=by intro pins s σ H Q I h;exact wpAny_BinOp (Ji3 ha hb I h fun v u s2 x y H2 I2 rx ry q=>ho pins s2 σ H2 x y v u Q I2 rx ry q)
theorem JcY{op:UnaryOp}{r:V->Hp->VK->Prop}(ho:UnR X (unaryOp op) r)(ha:PE X a ta):PE X (.UnaryOp op a pos) (tUn r ta):=by intro pins s σ H Q I h;exact UnaryOp_ (thn (ha pins s σ H _ I h) fun v s1 ⟨x,H1,I1,r1,q1⟩=>ho pins s1 σ H1 x v Q I1 r1 q1)
theorem opI{f:Qa->Qa->Sem Qa}{C:Int->Int->Prop}{g:Int->Int->Int}
 (rule:∀(i j:Int) (t u:Tok) (s:Qd) (Q:Qa->Qd->Prop) (E:Qa->Qd->Prop),C i j->Q (.int (g i j) s.toks) { s with toks:=s.toks+1 }->wpAny (model X.prog X.w) X.A (f (.int i t) (.int j u)) Q E s) :
 OpR X f (rI C fun i j=>.int (g i j)):=by
 intro pins s σ H x y v u Q I rx ry h;obtain⟨i,j,rfl,rfl,hc,q⟩:=h;obtain⟨t,rfl⟩:=rx;obtain⟨t',rfl⟩:=ry;exact rule i j t t' s _ _ hc ⟨.int (g i j),H,I.tok _,⟨_,rfl⟩,q⟩
theorem JlK{f:Qa->Qa->Sem Qa}{g:Int->Int->Int}
 (rule:∀(i j:Int) (t u:Tok) (s:Qd) (Q:Qa->Qd->Prop) (E:Qa->Qd->Prop),Q (.int (g i j) s.toks) { s with toks:=s.toks+1 }->wpAny (model X.prog X.w) X.A (f (.int i t) (.int j u)) Q E s) :
 OpR X f (rI0 fun i j=>.int (g i j)):=by
 intro pins s σ H x y v u Q I rx ry h;obtain⟨i,j,rfl,rfl,q⟩:=h;obtain⟨t,rfl⟩:=rx;obtain⟨t',rfl⟩:=ry;exact rule i j t t' s _ _ ⟨.int (g i j),H,I.tok _,⟨_,rfl⟩,q⟩
theorem Jj0{f:Qa->Qa->Sem Qa}{g:Int->Int->Bool}
 (rule:∀(i j:Int) (t u:Tok) (s:Qd) (Q:Qa->Qd->Prop) (E:Qa->Qd->Prop),Q (.bool (g i j)) s->wpAny (model X.prog X.w) X.A (f (.int i t) (.int j u)) Q E s) :
 OpR X f (rI0 fun i j=>.bl (g i j)):=by
 intro pins s σ H x y v u Q I rx ry h;obtain⟨i,j,rfl,rfl,q⟩:=h;obtain⟨t,rfl⟩:=rx;obtain⟨t',rfl⟩:=ry;exact rule i j t t' s _ _ ⟨.bl (g i j),H,I,rfl,q⟩

noncomputable def Jlf(i j:Int):Prop:=0<j/\j<1073741824
noncomputable def Jlg(i j:Int):Prop:=0<=j/\j<=1000000/\i.natAbs<2 ^ 64
noncomputable def CMul(i j:Int):Prop:=(-(2 ^ 64)<i/\i<2 ^ 64)\/(-(2 ^ 64)<j/\j<2 ^ 64)
theorem CMul.ok{i j:Int}(h:CMul i j):IntMulOk i j:=by
 rcases h with ⟨h1,h2⟩|⟨h1,h2⟩
 ·exact .of_left (intBits_le_64 h1 h2)
 ·exact .of_right (intBits_le_64 h1 h2)
theorem op_add:OpR X (binaryOp .Add) (rI0 fun i j=>.int (i+j)):=JlK fun _ _ _ _ _ _ _ q=>add_int q
theorem WR:OpR X (binaryOp .Sub) (rI0 fun i j=>.int (i-j)):=JlK fun _ _ _ _ _ _ _ q=>sub_int q
theorem WP:OpR X (binaryOp .Mult) (rI CMul fun i j=>.int (i*j)):=opI fun _ _ _ _ _ _ _ hc q=>mul_int q hc.ok
theorem YA:OpR X (binaryOp .FloorDiv) (rI Jlf fun i j=>.int (i / j)):=opI fun i j _ _ _ _ _ hc q=>by
 have h1:(0:Int)<j:=hc.1
 have h2:j<1073741824:=hc.2;exact floordiv_int (by omega) (by rw[Int.fdiv_eq_ediv_of_nonneg i (by omega)];exact q) (.inl (PyProof.noPylong_small (by omega)))
theorem JS:OpR X (binaryOp .Mod) (rI (fun _ j=>0<j) fun i j=>.int (i % j)):=opI fun i j _ _ _ _ _ hc q=>by have h1:(0:Int)<j:=hc;exact mod_int' (by omega) (by rw[Int.fmod_eq_emod_of_nonneg i (by omega)];exact q)
theorem Jai:OpR X (binaryOp .Pow) (rI Jlg fun i j=>.int (i ^ j.toNat)):=opI fun _ _ _ _ _ _ _ hc q=>pow_int_small hc.1 hc.2.1 hc.2.2 q
theorem unI{f:Qa->Sem Qa}{g:Int->Int}
 (rule:∀(i:Int) (t:Tok) (s:Qd) (Q:Qa->Qd->Prop) (E:Qa->Qd->Prop),Q (.int (g i) s.toks) { s with toks:=s.toks+1 }->wpAny (model X.prog X.w) X.A (f (.int i t)) Q E s) :
 UnR X f (rU fun i=>.int (g i)):=by
 intro pins s σ H x v Q I rx h;obtain⟨i,rfl,q⟩:=h;obtain⟨t,rfl⟩:=rx;exact rule i t s _ _ ⟨.int (g i),H,I.tok _,⟨_,rfl⟩,q⟩
theorem JaE:UnR X (unaryOp .USub) (rU fun i=>.int (-i)):=unI fun _ _ _ _ _ q=>neg_int q
end

noncomputable def JkU:V->V->Bool
 | .non,.non=>true|.non,.int _=>true|.int _,.non=>true|.non,.bl _=>true|.bl _,.non=>true|.non,.str _=>true|.str _,.non=>true
 | .int _,.int _=>true|.bl _,.bl _=>true|.str _,.str _=>true|.byt _,.byt _=>true
 | .int _,.str _=>true|.str _,.int _=>true|.bl _,.str _=>true|.str _,.bl _=>true
 | _,_=>false
noncomputable def rEq:R2:=fun x y H Q=>JkU x y=true/\Q (.bl (decide (x=y))) H
noncomputable def rNe:R2:=fun x y H Q=>JkU x y=true/\Q (.bl (!decide (x=y))) H

theorem Jcr{i j:Int}:decide (V.int i=V.int j)=(i == j):=by rw[Gf];simp
theorem Jeq{i j:Bool}:decide (V.bl i=V.bl j)=(i == j):=by rw[Gf];simp
theorem Jcs{i j:Str}:decide (V.str i=V.str j)=(i == j):=by rw[Gf];simp
theorem Jcq{i j:Array UInt8}:decide (V.byt i=V.byt j)=(i.toList == j.toList):=by rw[Gf];cases i;cases j;simp

section
variable{X:Cx}{a b c:QR}{ta tb tc:TE}{pos:Pos}
theorem JH{pins:List (Qc×Obj)}{σ:St}{H:Hp}{s:Qd}{Q:VK}{k k':Bool}(I:Inv X pins σ H s)(q:Q (.bl k) H)(e:k=k'):EP X pins σ Q (.bool k') s:=by subst e;exact⟨.bl k,H,I,rfl,q⟩
theorem op_eq:OpR X (compareOp .Eq) rEq:=by
 intro pins s σ H x y v u Q I rx ry h;obtain⟨hs,q⟩:=h
 cases x with
 | non =>
  cases rx
  cases y with
  | non=>cases ry;exact PySem.EqNone.eq_none_none (JH I q (by simp))
  | bl j=>cases ry;exact PySem.EqNone.eq_none_bool (JH I q (by simp))
  | int j=>obtain⟨t',rfl⟩:=ry;exact PySem.EqNone.eq_none_int (JH I q (by simp))
  | str j=>obtain⟨t',rfl⟩:=ry;exact PySem.EqNone.eq_none_str (JH I q (by simp))
  | _=>exact absurd (show false=true from hs) Qx
 | bl i =>
  cases rx
  cases y with
  | non=>cases ry;exact PySem.EqNone.eq_bool_none (JH I q (by simp))
  | bl j=>cases ry;exact eq_bool (JH I q Jeq)
  | str j=>obtain⟨t',rfl⟩:=ry;exact PySem.EqMixed.eq_bool_str (JH I q (by simp))
  | _=>exact absurd (show false=true from hs) Qx
 | int i =>
  obtain⟨t,rfl⟩:=rx
  cases y with
  | non=>cases ry;exact PySem.EqNone.eq_int_none (JH I q (by simp))
  | int j=>obtain⟨t',rfl⟩:=ry;exact eq_int (JH I q Jcr)
  | str j=>obtain⟨t',rfl⟩:=ry;exact PySem.EqMixed.eq_int_str (JH I q (by simp))
  | _=>exact absurd (show false=true from hs) Qx
 | str i =>
  obtain⟨t,rfl⟩:=rx
  cases y with
  | non=>cases ry;exact PySem.EqNone.eq_str_none (JH I q (by simp))
  | bl j=>cases ry;exact PySem.EqMixed.eq_str_bool (JH I q (by simp))
  | int j=>obtain⟨t',rfl⟩:=ry;exact PySem.EqMixed.eq_str_int (JH I q (by simp))
  | str j=>obtain⟨t',rfl⟩:=ry;exact eq_str (JH I q Jcs)
  | _=>exact absurd (show false=true from hs) Qx
 | byt i =>
  obtain⟨t,rfl⟩:=rx
  cases y with
  | byt j=>obtain⟨t',rfl⟩:=ry;exact PySem.W.eq_bytes (JH I q Jcq)
  | _=>exact absurd (show false=true from hs) Qx
 | _=>cases y <;> exact absurd (show false=true from hs) Qx
theorem op_ne:OpR X (compareOp .NotEq) rNe:=by
 intro pins s σ H x y v u Q I rx ry h;obtain⟨hs,q⟩:=h
 cases x with
 | non =>
  cases rx
  cases y with
  | non=>cases ry;exact PySem.EqNone.ne_none_none (JH I q (by simp))
  | bl j=>cases ry;exact PySem.EqNone.ne_none_bool (JH I q (by simp))
  | int j=>obtain⟨t',rfl⟩:=ry;exact PySem.EqNone.ne_none_int (JH I q (by simp))
  | str j=>obtain⟨t',rfl⟩:=ry;exact PySem.EqNone.ne_none_str (JH I q (by simp))
  | _=>exact absurd (show false=true from hs) Qx
 | bl i =>
  cases rx
  cases y with
  | non=>cases ry;exact PySem.EqNone.ne_bool_none (JH I q (by simp))
  | bl j=>cases ry;exact ne_bool (JH I q (congrArg not Jeq))
  | str j=>obtain⟨t',rfl⟩:=ry;exact PySem.EqMixed.ne_bool_str (JH I q (by simp))
  | _=>exact absurd (show false=true from hs) Qx
 | int i =>
  obtain⟨t,rfl⟩:=rx
  cases y with
  | non=>cases ry;exact PySem.EqNone.ne_int_none (JH I q (by simp))
  | int j=>obtain⟨t',rfl⟩:=ry;exact ne_int (JH I q (congrArg not Jcr))
  | str j=>obtain⟨t',rfl⟩:=ry;exact PySem.EqMixed.ne_int_str (JH I q (by simp))
  | _=>exact absurd (show false=true from hs) Qx
 | str i =>
  obtain⟨t,rfl⟩:=rx
  cases y with
  | non=>cases ry;exact PySem.EqNone.ne_str_none (JH I q (by simp))
  | bl j=>cases ry;exact PySem.EqMixed.ne_str_bool (JH I q (by simp))
  | int j=>obtain⟨t',rfl⟩:=ry;exact PySem.EqMixed.ne_str_int (JH I q (by simp))
  | str j=>obtain⟨t',rfl⟩:=ry;exact ne_str (JH I q (congrArg not Jcs))
  | _=>exact absurd (show false=true from hs) Qx
 | byt i =>
  obtain⟨t,rfl⟩:=rx
  cases y with
  | byt j=>obtain⟨t',rfl⟩:=ry;exact PySem.W.ne_bytes (JH I q (congrArg not Jcq))
  | _=>exact absurd (show false=true from hs) Qx
 | _=>cases y <;> exact absurd (show false=true from hs) Qx

theorem WO:OpR X (compareOp .Lt) (rI0 fun i j=>.bl (decide (i<j))):=Jj0 fun _ _ _ _ _ _ _ q=>lt_int q
theorem JiE:OpR X (compareOp .LtE) (rI0 fun i j=>.bl (decide (i<=j))):=Jj0 fun _ _ _ _ _ _ _ q=>le_int q
theorem JcT:OpR X (compareOp .Gt) (rI0 fun i j=>.bl (decide (j<i))):=Jj0 fun _ _ _ _ _ _ _ q=>gt_int q
theorem JdU:OpR X (compareOp .In) (fun x y H Q=>∃i j,x=.str i/\y=.str j/\Q (.bl (!(Q5 j i 0 j.length 1).isEmpty)) H):=by intro pins s σ H x y v u Q I rx ry h;obtain⟨i,j,rfl,rfl,q⟩:=h;obtain⟨t,rfl⟩:=rx;obtain⟨t',rfl⟩:=ry;exact in_str (JH I q rfl)

theorem Jj5:OpR X (compareOp .Is) (fun x y H Q=>y=.non/\Q (.bl (decide (x=.non))) H):=by
 intro pins s σ H x y v u Q I rx ry h;obtain⟨rfl,q⟩:=h;cases ry;refine is_none_gen (JH I q ?_);cases x <;> first
  | (cases rx;rfl)
  | (obtain⟨t,rfl⟩:=rx;rfl)
theorem Jhr:OpR X (compareOp .IsNot) (fun x y H Q=>y=.non/\Q (.bl (!decide (x=.non))) H):=by
 intro pins s σ H x y v u Q I rx ry h;obtain⟨rfl,q⟩:=h;cases ry;refine isnot_none_gen (JH I q ?_);cases x <;> first
  | (cases rx;rfl)
  | (obtain⟨t,rfl⟩:=rx;rfl)

theorem OpR.or{f:Qa->Qa->Sem Qa}{r r':R2}(h:OpR X f r)(h':OpR X f r'):OpR X f (fun x y H Q=>r x y H Q\/r' x y H Q):=by
 intro pins s σ H x y v u Q I rx ry q;rcases q with q|q
 ·exact h pins s σ H x y v u Q I rx ry q
 ·exact h' pins s σ H x y v u Q I rx ry q

theorem JC(b:QR){op:CmpOp}(h:op≠.In:=by decide)(h2:op≠.NotIn:=by decide):behindInMarks op b=false:=by
 have e1:(op == CmpOp.In)=false:=by cases op <;> first|rfl|exact absurd rfl h
 have e2:(op == CmpOp.NotIn)=false:=by cases op <;> first|rfl|exact absurd rfl h2
 cases b <;> simp[behindInMarks,e1,e2]
theorem Jal{op:CmpOp}{r:R2}(ho:OpR X (compareOp op) r)(ha:PE X a ta)(hb:PE X b tb)(hm:behindInMarks op b=false):PE X (.Compare a [op] [b] pos) (tOp r ta tb):=by intro pins s σ H Q I h;exact wpAny_Compare1 (Ji3 ha hb I h fun v u s2 x y H2 I2 rx ry q=>ho pins s2 σ H2 x y v u Q I2 rx ry q) hm
noncomputable def Jf3(t:TE):TT:=fun σ H Q=>t σ H fun x H'=>∃k,x=.bl k/\Q k H'
theorem Js{op:CmpOp}{r:R2}(ho:OpR X (compareOp op) r)(ha:PE X a ta)(hb:PE X b tb)(hm:behindInMarks op b=false):PT X (.Compare a [op] [b] pos) (Jf3 (tOp r ta tb)):=by
 intro pins s σ H Q I h;refine wpAny_isTrue_Compare1 (thn (ha pins s σ H _ I h) fun v s1 ⟨x,H1,I1,r1,q1⟩=>thn (hb pins s1 σ H1 _ I1 q1) fun u s2 ⟨y,H2,I2,r2,q2⟩=>thn (ho pins s2 σ H2 x y v u _ I2 r1 r2 q2) fun c s3 ⟨z,H3,I3,r3,k,e,q3⟩=>?_) hm
 subst e;cases r3;exact GX ⟨H3,I3,q3⟩
noncomputable def JkY(r r':R2)(ta tb tc:TE):TE:=fun σ H Q=>ta σ H fun x H1=>tb σ H1 fun y H2=>r x y H2 fun z H3=>∃k,z=.bl k ∧
 (if k=true then tc σ H3 fun w' H4=>r' y w' H4 Q else Q (.bl false) H3)
noncomputable def Jdp(K:Qn)(x:V)(H:Hp)(k:Bool):Prop :=
 match x with
 | .non=>k=false
 | .bl b=>k=b
 | .int i=>k=(i != 0)
 | .str y=>y.length<=Qk/\k=((y.length:Int) != 0)
 | .byt y=>y.size<=Qk/\k=((y.size:Int) != 0)
 | .ref p=>(∃xs,SqL K H p xs/\k=!xs.isEmpty)\/(∃xs,SqT K H p xs/\k=!xs.isEmpty)\/∃kvs,H p=some (.dK kvs)/\k=!kvs.isEmpty
 | _=>False
theorem JbM{κ:Type}{kvs:List (κ×V)}{vs:List (κ×Qa)}(r:KV kvs vs):(!vs.isEmpty)=!kvs.isEmpty:=by cases r <;> rfl
theorem WE{xs:List V}{its:List Qa}(r:Vals xs its):(!its.toArray.isEmpty)=!xs.isEmpty:=by cases r <;> simp
theorem VI:(Qk:Nat)<2 ^ 63:=by rw[sizeLine_eq];decide
theorem Jk6:Jmc X (fun x H Q=>∃k,Jdp X.K x H k/\Q k H):=by
 intro pins s σ H x v Q I rx h;obtain⟨k,e,q⟩:=h;have hl:=VI;have hs:Qk=16777216:=sizeLine_eq
 cases x with
 | non=>cases rx;have e':k=false:=e;subst e';exact truthy_none ⟨H,I,q⟩
 | bl b=>cases rx;have e':k=b:=e;subst e';exact GX ⟨H,I,q⟩
 | int i=>obtain⟨t,rfl⟩:=rx;have e':k=(i != 0):=e;subst e';exact PySem.P.truthy_int ⟨H,I,q⟩
 | str y=>obtain⟨t,rfl⟩:=rx;obtain⟨hy,e'⟩:y.length<=Qk/\k=((y.length:Int) != 0):=e;subst e';exact PySem.P.truthy_str (by omega) ⟨H,I.tok _,q⟩
 | byt y=>obtain⟨t,rfl⟩:=rx;obtain⟨hy,e'⟩:y.size<=Qk/\k=((y.size:Int) != 0):=e;subst e';exact PySem.W.truthy_bytes (by omega) ⟨H,I.tok _,q⟩
 | ref p =>
  cases rx;have e':(∃xs,SqL X.K H p xs/\k=!xs.isEmpty)\/(∃xs,SqT X.K H p xs/\k=!xs.isEmpty)\/∃kvs,H p=some (.dK kvs)/\k=!kvs.isEmpty:=e
  rcases e' with ⟨xs,hx,e'⟩|⟨xs,hx,e'⟩|⟨kvs,hx,e'⟩
  ·subst e';obtain⟨its,r,pl,hz⟩:=I.list hx;have hlen:=r.length;exact wpAny_truthy_list pl.isList (by simp only[Qt];omega) ⟨H,I.tok _,by rw[WE r];exact q⟩
  ·subst e';obtain⟨its,r,pl,hz⟩:=I.tuple hx;have hlen:=r.length;exact truthy_tuple pl (by simp only[Qt];omega) ⟨H,I.tok _,by rw[WE r];exact q⟩
  ·subst e';obtain⟨hz,hS,vs,r,m⟩:kvs.length<=Qk/\(p == sysModules)=false/\∃vs,KV kvs vs/\s.heap.DictOf (Jad X.prog X.w) p vs:=I.hok p _ hx
   have hlen:kvs.length=vs.length:=Mb r;exact wpAny_truthy_dict hS m (by omega) ⟨H,I.tok _,by rw[JbM r];exact q⟩
 | _=>exact(show False from e).elim
theorem Jfx(ha:PE X a ta)(he:∀whole,isTrue a X.env whole=(do let v <- whole;standAt a.pos;holding [v] (truthy v))) :
 PT X a (fun σ H Q=>ta σ H fun x H'=>∃k,Jdp X.K x H' k/\Q k H'):=by
 intro pins s σ H Q I h;exact isTrue_plain (thn (ha pins s σ H _ I h) fun v s1 ⟨x,H1,I1,r1,q1⟩=>Jk6 pins s1 σ H1 x v Q I1 r1 q1) (he _)

theorem op_add_str:OpR X (binaryOp .Add) (fun x y H Q=>∃i j,x=.str i/\y=.str j/\i.length+j.length<=Qk/\Q (.str (i++j)) H):=by intro pins s σ H x y v u Q I rx ry h;obtain⟨i,j,rfl,rfl,hz,q⟩:=h;obtain⟨t,rfl⟩:=rx;obtain⟨t',rfl⟩:=ry;exact add_str (fun t' tk=>⟨.str (i++j),H,I.tok _,⟨_,rfl⟩,q⟩) hz
theorem Vx{x:V}{us:List Qa}(r:Vals [x] us):∃u,us=[u]/\RelV x u:=by
 cases r with
 | cons r1 r2=>cases r2;exact⟨_,rfl,r1⟩
theorem JiT{x y:V}{us:List Qa}(r:Vals [x,y] us):∃u w',us=[u,w']/\RelV x u/\RelV y w':=by
 cases r with
 | cons r1 r2 =>
  cases r2 with
  | cons r3 r4=>cases r4;exact⟨_,_,rfl,r1,r3⟩
theorem Zt:CallR X (.type "int") (fun xs H Q=>(∃i,xs=[.int i]/\Q (.int i) H)\/∃k,xs=[.bl k]/\Q (.int (if k then 1 else 0)) H):=by
 intro pins s σ H xs us Q I r h;rcases h with ⟨i,rfl,q⟩|⟨k,rfl,q⟩
 ·obtain⟨u,rfl,t,rfl⟩:=Vx r;exact call_int_int ⟨.int i,H,I,⟨_,rfl⟩,q⟩
 ·obtain⟨u,rfl,r1⟩:=Vx r;cases r1;exact call_int_bool ⟨.int (if k then 1 else 0),H,I.tok _,⟨_,rfl⟩,q⟩
theorem Z2:CallR X (.type "str") (fun xs H Q=>∃i,xs=[.int i]/\i.natAbs.log2<1920/\Q (.str (toString i)) H):=by intro pins s σ H xs us Q I r h;obtain⟨i,rfl,hz,q⟩:=h;obtain⟨u,rfl,t,rfl⟩:=Vx r;exact PySem.P.str_of_int hz ⟨.str _,H,I.tok _,⟨_,rfl⟩,q⟩
noncomputable def Jli(K:Qn)(x:V)(H:Hp)(n:Nat):Prop :=
 match x with
 | .str y=>y.length<=Qk/\n=y.length
 | .byt y=>y.size<=Qk/\n=y.size
 | .ref p=>(∃xs,SqL K H p xs/\n=xs.length)\/∃xs,SqT K H p xs/\n=xs.length
 | _=>False
theorem Jen:CallR X (.builtin "len") (fun xs H Q=>∃x n,xs=[x]/\Jli X.K x H n/\Q (.int n) H):=by
 intro pins s σ H xs us Q I r h;obtain⟨x,n,rfl,e,q⟩:=h;obtain⟨u,rfl,rx⟩:=Vx r;have hl:=VI;have hs:Qk=16777216:=sizeLine_eq
 cases x with
 | str y=>obtain⟨t,rfl⟩:=rx;obtain⟨hy,e'⟩:y.length<=Qk/\n=y.length:=e;subst e';exact len_str (by omega) ⟨.int _,H,I.tok _,⟨_,rfl⟩,q⟩
 | byt y=>obtain⟨t,rfl⟩:=rx;obtain⟨hy,e'⟩:y.size<=Qk/\n=y.size:=e;subst e';exact PySem.W.len_bytes (by omega) ⟨.int _,H,I.tok _,⟨_,rfl⟩,q⟩
 | ref p =>
  cases rx;have e':(∃xs,SqL X.K H p xs/\n=xs.length)\/∃xs,SqT X.K H p xs/\n=xs.length:=e
  rcases e' with ⟨xs,hx,e'⟩|⟨xs,hx,e'⟩
  ·subst e';obtain⟨its,r',pl,hz⟩:=I.list hx;have hlen:=r'.length;exact Calls.call_len_list pl.isList (by simp only[Qt];omega) ⟨.int xs.length,H,I.tok _,⟨_,by simp only[Qt];rw[hlen]⟩,q⟩
  ·subst e';obtain⟨its,r',pl,hz⟩:=I.tuple hx;have hlen:=r'.length;exact len_tuple pl (by simp only[Qt];omega) ⟨.int xs.length,H,I.tok _,⟨_,by simp only[Qt];rw[hlen]⟩,q⟩
 | _=>exact(show False from e).elim
end
end L2

namespace L2
open PySem PySem.Spec PyProof.Rows

structure ObjM (h:QI) (x dx C:Qc) (mA:Str->Option Qa):Prop where
 obj:h.get? x=some (instObj C dx)
 ns:h.Ns1 dx mA
 ne:dx≠x

theorem ZH{h:QI}{dx:Qc}{mA:Str->Option Qa}(n:h.Ns1 dx mA):∃od,h.get? dx=some od/\∀name,lookIn name od=some (mA name):=by
 obtain⟨o,es,ep,ho,hd,hk,_,hm⟩:=n;refine⟨o,ho,fun name=>?_⟩;have e:=hm name;unfold nsFind findBy at e;rw[<- Array.find?_toList] at e;unfold lookIn;rw[hd];dsimp only;split
 ·rename_i y q;rw[q] at e;exact congrArg some e
 ·rename_i q;rw[q] at e
  have a:es.toList.any (·.refKey)=false:=by rw[List.any_eq_false];intro y hy;obtain⟨z,t,hkey⟩:=hk y (Array.mem_toList_iff.mp hy);simp[DictEntry.refKey,hkey]
  have a':¬es.toList.any (·.refKey)=true:=by rw[a];exact Qx
  rw[if_neg a'];exact congrArg some e

theorem ObjM.look{h:QI}{x dx C:Qc}{mA:Str->Option Qa}(I:ObjM h x dx C mA):∃od,InstAt h x (instObj C dx) C (some od)/\∀name,lookIn name od=some (mA name) :=
 let ⟨od,ho,hl⟩:=ZH I.ns
 ⟨od,⟨I.obj,rfl,rfl,ho⟩,hl⟩

section
variable{prog:Qo}{w:QC}{A:Qw}{E:Qa->Qd->Prop}{s:Qd}{K:Qn}{x dx C f:Qc}{mA:Str->Option Qa}{name:Str}{v:Qa}

theorem Jh5{ns:List Str}{Q:Unit->Qd->Prop}(X:K.In s.heap)(I:ObjM s.heap x dx C mA)
 (hs:findIn K (.ref C) "__setattr__"=some (some (.builtin "object.__setattr__"))) (hp:plainOver K C=true) (ht:takerIn K C name=some none) (hh:hasDictIn K C=true)
 (hw:Mm mA ns) (hsz:ns.length<=Qk)
 (h:∀h',ObjM h' x dx C (fun y=>if y=name then some v else mA y)->Ke dx s.heap h'->Q () { s with heap:=h',toks:=s.toks+2 }) :
 wpAny (model prog w) A (setAttr (.ref x) name v) Q E s:=by
 obtain⟨od,J,hl⟩:=I.look;refine Mn X J hs (PySem.W.osa_open (s:={ s with toks:=s.toks+1 }) (r:=none) X J hp ht fun b=>?_);obtain⟨cd,hc,hd'⟩:=any_some hh;have hx:s.heap.get? x=some ⟨.ref C,some dx,.plain,#[]⟩:=I.obj;refine Qf (Qv (Qf (Qf (LX hx (Qf (PySem.W.Looks.here (s:={ s with toks:=s.toks+1 }) (looks_clsIn X hc) ?_))))));rw[hd'];refine Qv (a:=some dx) (Qf (Qv (Qf ?_)))
 refine wpAny_nsSet1 (s:={ s with toks:=s.toks+1 }) I.ns fun h' hn2 hs2=>?_
 obtain⟨oD,esD,epD,hoD,hdD,hcD⟩:=hn2.count (PySem.Within.cons name v hw);refine Qf (wpAny_lookBehind hoD (by rw[hdD];exact pastItsLine_dict (QP hcD (by rw[Qh];omega))) ?_);exact Qv (h _ ⟨(hs2.2 _ (Q0 I.ne)).trans I.obj,hn2,I.ne⟩ hs2)

theorem Jfc{R:LY->Qd->Prop}{vs:List Qa}{kw:List (Str×Qa)}(X:K.In s.heap)(hm:makesIn K C=true)
 (hi:findIn K (.ref C) "__init__"=some (some (.ref f))) (hf:PySem.W.typeIn K (.ref f)=some (.type "function"))
 (h:codeAny (model prog w) (A.under (.builtin "type.__call__" ⟨.ref C::vs,kw⟩)) (.call (.ref f) ⟨.ref (s.heap.objs.size+1)::vs,kw⟩) (PySem.W.InitBack (s.heap.objs.size+1) R)
  { s with heap:=(s.heap.push emptyDict).push (instObj C s.heap.objs.size) }) :
 codeAny (model prog w) A (.call (.ref C) ⟨vs,kw⟩) R s:=by
 obtain⟨hh,g,d,t,os⟩:=s;exact PySem.W.make_core (PySem.W.makes_of X hm) (looks_findIn X hi) (fun self=>PySem.W.bind_fn X self hf) (.inl rfl) h
end

noncomputable def Uy(f:Str)(v:V):List (Str×V)->List (Str×V)
 | []=>[(f,v)]
 | (g,x)::r=>if g=f then(g,v)::r else(g,x)::Uy f v r
theorem V4(f g:Str)(v:V):∀fs:List (Str×V),(Uy f v fs).lookup g=if g=f then some v else fs.lookup g
 | []=>by
  show G5 g [(f,v)]=_
  by_cases h:g=f
  ·have hb:(g == f)=true:=beq_iff_eq.mpr h;simp only[G5,hb,if_pos h]
  ·have hb:(g == f)=false:=beq_eq_false_iff_ne.mpr h;simp only[G5,hb,if_neg h]
 | (k,x)::r=>by
  have ih:=V4 f g v r;rw[show Uy f v ((k,x)::r)=(if k=f then(k,v)::r else(k,x)::Uy f v r) from rfl]
  by_cases hk:k=f
  ·rw[if_pos hk]
   by_cases h:g=k
   ·have hb:(g == k)=true:=beq_iff_eq.mpr h;simp only[G5,hb,if_pos (h.trans hk)]
   ·have hb:(g == k)=false:=beq_eq_false_iff_ne.mpr h;simp only[G5,hb,if_neg (fun e:g=f=>h (e.trans hk.symm))]
  ·rw[if_neg hk]
   by_cases h:g=k
   ·have hb:(g == k)=true:=beq_iff_eq.mpr h;simp only[G5,hb,if_neg (fun e:g=f=>hk (h.symm.trans e))]
   ·have hb:(g == k)=false:=beq_eq_false_iff_ne.mpr h;simp only[G5,hb];exact ih
theorem VH(f:Str)(v:V):∀fs:List (Str×V),f∈(Uy f v fs).map (·.1)/\∀g,g∈fs.map (·.1)->g∈(Uy f v fs).map (·.1)
 | []=>⟨by simp[Uy],fun g h=>by simp at h⟩
 | (k,x)::r=>by
  obtain⟨i1,i2⟩:=VH f v r;rw[show Uy f v ((k,x)::r)=(if k=f then(k,v)::r else(k,x)::Uy f v r) from rfl]
  by_cases hk:k=f
  ·rw[if_pos hk];subst hk;exact⟨by simp,fun g h=>by simpa using h⟩
  ·rw[if_neg hk];refine⟨?_,fun g h=>?_⟩
   ·rw[Qr];exact Qp _ i1
   ·rw[Qr] at h ⊢;rcases Qm.mp h with e|e
    ·exact Qm.mpr (.inl e)
    ·exact Qp _ (i2 g e)
theorem V3(f:Str)(v:V):∀fs:List (Str×V),(Uy f v fs).length<=fs.length+1
 | []=>by simp[Uy]
 | (k,x)::r=>by
  have ih:=V3 f v r;rw[show Uy f v ((k,x)::r)=(if k=f then(k,v)::r else(k,x)::Uy f v r) from rfl]
  by_cases hk:k=f
  ·rw[if_pos hk,Qh,Qh];omega
  ·rw[if_neg hk,Qh,Qh];omega

section
variable{P:Qo}{w:QC}{H H':Hp}{h h':QI}{a C dx:Qc}{fs fs':List (Str×V)}
theorem JcH(hok:HOk P w H h)(e:H a=some (.ins C dx fs)):∃mA,ObjM h a dx C mA/\(∀f,RelO (fs.lookup f) (mA f))/\Mm mA (fs.map (·.1))/\fs.length<=1000/\H dx=some (.own a):=by
 obtain⟨d,z,ne,ob,mA,n,r,q⟩:=(show ObjOk P w H h a (.ins C dx fs) from hok a _ e)
 exact⟨mA,⟨ob,n,ne⟩,r,q,z,d⟩
end

structure Cls (K:Qn) (C:Qc):Prop where
 pg:plainGet K C Q3=true
 hd:hasDictIn K C=true
 po:plainOver K C=true
 sa:findIn K (.ref C) "__setattr__"=some (some (.builtin "object.__setattr__"))
theorem Cls.get{K:Qn}{C:Qc}(c:Cls K C)(f:Str):plainGet K C f=true:=c.pg
noncomputable def NoAttr(K:Qn)(C:Qc)(f:Str):Prop:=findIn K (.ref C) f=some none
theorem NoAttr.taker{K:Qn}{C:Qc}{f:Str}(n:NoAttr K C f):takerIn K C f=some none:=by unfold takerIn;rw[show findIn K (.ref C) f=some none from n];rfl
structure Con (K:Qn) (C:Qc) (f:Str) (v:V) (u:Qa):Prop where
 at_:findIn K (.ref C) f=some (some u)
 rel:RelV v u
 get:specialIn K u "__get__"=some none
 cp:PySem.W.copiedNames.contains f=false
structure Meth (K:Qn) (C:Qc) (m:Str) (f:Qc):Prop where
 at_:findIn K (.ref C) m=some (some (.ref f))
 fn:isFn K (.ref f)=true
 kp:keepIn K (.ref f)=true

section
variable{X:Cx}{pins:List (Qc×Obj)}{σ:St}{H:Hp}{s:Qd}{a C dx:Qc}{fs:List (Str×V)}{f:Str}{v:V}{A:Qw}{E:Qa->Qd->Prop}

theorem Jcb{y:V}{u:Qa}{Q:Unit->Qd->Prop}(I:Inv X pins σ H s)(e:H a=some (.ins C dx fs))(c:Cls X.K C)(n:NoAttr X.K C f)(hl:fs.length<1000)(ry:RelV y u)
 (h:∀s',Inv X pins σ (upd H a (.ins C dx (Uy f y fs))) s'->Q () s'):wpAny (model X.prog X.w) A (setAttr (.ref a) f u) Q E s:=by
 obtain⟨mA,O,r,wi,_,ho⟩:=JcH I.hok e;have hz:(fs.map (·.1)).length<=Qk:=by rw[QB,sizeLine_eq];omega
 refine Jh5 I.kIn O c.sa c.po n.taker c.hd wi hz fun h' O' sb=>h _ ?_
 have hd:∃o,h'.get? dx=some o:=let ⟨o,_,_,e',_⟩:=O'.ns;⟨o,e'⟩
 refine I.write (x:=a) (e:=dx) (by rw[e];exact True.intro) (.inr ho) (fun b q hb z=>(sb.2 b hb).trans z) hd ?_;refine⟨by rw[Jj O.ne];exact ho,?_,O.ne,O'.obj,_,O'.ns,fun g=>?_,fun g hg=>?_⟩
 ·have:=V3 f y fs;omega
 ·show RelO ((Uy f y fs).lookup g) (if g=f then some u else mA g);rw[V4]
  by_cases q:g=f
  ·rw[if_pos q,if_pos q];exact ry
  ·rw[if_neg q,if_neg q];exact r g
 ·by_cases q:g=f
  ·rw[q];exact(VH f y fs).1
  ·refine(VH f y fs).2 g (wi g fun z=>hg ?_);show(if g=f then some u else mA g)=none;rw[if_neg q];exact z

theorem Inv.made(I:Inv X pins σ H s):Inv X pins σ (upd (upd H s.heap.objs.size (.own (s.heap.objs.size+1))) (s.heap.objs.size+1) (.ins C s.heap.objs.size []))
 { s with heap:=(s.heap.push emptyDict).push (instObj C s.heap.objs.size) }:=by
 have e1:(s.heap.push emptyDict).get? s.heap.objs.size=some emptyDict:=QH s.heap rfl
 have e2:((s.heap.push emptyDict).push (instObj C s.heap.objs.size)).get? (s.heap.objs.size+1)=some (instObj C s.heap.objs.size):=by
  have:=QH (s.heap.push emptyDict) (o:=instObj C s.heap.objs.size) rfl
  rwa [KD] at this
 have e3:(s.heap.push emptyDict).Ns s.heap.objs.size (fun _=>none):=⟨emptyDict,#[],_,e1,rfl,(fun e he=>absurd he (by simp)),fun _=>rfl⟩
 have I1:=I.laid (a:=s.heap.objs.size) (o:=.own (s.heap.objs.size+1)) (h':=s.heap.push emptyDict) (t':=s.toks) (fun b u q=>Qg _ q) (Qq _) ⟨_,e1⟩;refine I1.laid (a:=s.heap.objs.size+1) (o:=.ins C s.heap.objs.size []) (t':=s.toks) (fun b u q=>Qg _ q) (Mo (KD _ _)) ?_
 have ne:s.heap.objs.size≠s.heap.objs.size+1:=QG (Kf _);refine⟨by rw[Jj ne,JE],G4 _,ne,e2,fun _=>none,(Mp e3).at fun o q=>Qg _ q,fun _=>True.intro,fun y hy=>absurd rfl hy⟩

theorem Jgj{prog:Qo}{w:QC}{env:Env}{e:QR}{f:Str}{pos:Pos}{s:Qd}{Q:Qa->Qd->Prop}(hb:attributeBase e f env (eval e env)=eval e env)
 (h:wpAny (model prog w) A (eval e env) (fun o s₁=>wpAny (model prog w) A (getAttr o f true) Q E s₁) E s):wpAny (model prog w) A (eval (.Attribute e f pos) env) Q E s :=
 Attribute_any_ h (by rw[arm_eval_Attribute,hb])
end

noncomputable def JmC(K:Qn)(ta:TE)(f:Str):TE:=fun σ H Q=>ta σ H fun x H1=>∃a C dx fs v,x=.ref a/\H1 a=some (.ins C dx fs)/\Cls K C/\NoAttr K C f/\fs.lookup f=some v/\Q v H1
noncomputable def JkP(K:Qn)(ta tv:TE)(f:Str):TS:=fun D σ H=>tv σ H fun y H1=>ta σ H1 fun x H2=>∃a C dx fs,x=.ref a/\H2 a=some (.ins C dx fs)/\Cls K C/\NoAttr K C f/\fs.length<1000 ∧
 D.nx σ (upd H2 a (.ins C dx (Uy f y fs)))
section
variable{X:Cx}{o e value:QR}{f:Str}{pos pos' tpos:Pos}{ta tv:TE}
theorem Jkf(ha:PE X o ta)(hv:PE X value tv)(hs:swapsWith value (some (.Attribute o f pos')) pos.line X.env=pure false):PS X (.Assign [.Attribute o f pos'] value pos) (JkP X.K ta tv f):=by intro pins s σ H D I h;refine plainObj_wpAny_Assign_Attribute (thn (hv pins s σ H _ I h) fun u s1 ⟨y,H1,I1,ry,q⟩=>thn (ha pins s1 σ H1 _ I1 q) fun ov s2 ⟨x,H2,I2,rx,a,C,dx,fs,ex,ea,c,n,l,q2⟩=>?_) hs;subst ex;obtain rfl:ov=Value.ref a:=rx;exact Jcb I2 ea c n l ry fun s3 I3=>⟨σ,_,I3,q2⟩
end

section
variable{X:Cx}{pins:List (Qc×Obj)}{σ:St}{H:Hp}{s:Qd}{A:Qw}{E:Qa->Qd->Prop}{Q:Qa->Qd->Prop}{c:Qa}{b:Bool}
inductive TyOf (K:Qn) (H:Hp):V->Qa->Prop where
 | non:TyOf K H .non (.type "NoneType")
 | bl (x:Bool):TyOf K H (.bl x) (.type "bool")
 | int (i:Int):TyOf K H (.int i) (.type "int")
 | str (x:Str):TyOf K H (.str x) (.type "str")
 | flt (x:UInt64):TyOf K H (.flt x) (.type "float")
 | lst {a:Qc} {xs:List V} (e:H a=some (.lst xs)):TyOf K H (.ref a) (.type "list")
 | frz {a:Qc} {o:Obj} {xs:List V} (e:H a=some (.frz o (.lst xs))):TyOf K H (.ref a) (.type "list")
 | tup {a:Qc} {xs:List V} (e:H a=some (.tup xs)):TyOf K H (.ref a) (.type "tuple")
 | dK {a:Qc} {kvs:List (Key×V)} (e:H a=some (.dK kvs)):TyOf K H (.ref a) (.type "dict")
 | dT {a:Qc} {kvs:List (List Key×V)} (e:H a=some (.dT kvs)):TyOf K H (.ref a) (.type "dict")
 | ins {a C dx:Qc} {fs:List (Str×V)} (e:H a=some (.ins C dx fs)) (cl:Cls K C) (ha:findIn K (.ref C) "__class__"=some (some (.builtin "object.__class__")))
  (hn:specialIn K (.builtin "object.__class__") "__get__"=some (some (.builtin "getset_descriptor.__get__"))) (htk:takesIn K (.builtin "object.__class__")=some true)
  (hm:mroIn K C (.type "object")=some true):TyOf K H (.ref a) (.ref C)
theorem JdM{x:V}{u t:Qa}(I:Inv X pins σ H s)(rx:RelV x u)(ty:TyOf X.K H x t)(e:kitOne X.K t c=some b)(h:∀tk,Q (.bool b) { s with toks:=tk }) :
 wpAny (model X.prog X.w) A (call (.builtin "isinstance") [u,c]) Q E s:=by
 cases ty with
 | non=>cases (show u=Value.none from rx);exact kia_one PySem.W.kitx_none I.kIn True.intro e (fun z=>nomatch z) h
 | bl y=>cases (show u=Value.bool y from rx);exact kia_one PySem.W.kitx_bool I.kIn True.intro e (fun z=>nomatch z) h
 | int i=>obtain⟨t,q⟩:=(show ∃t,u=Value.int i t from rx);cases q;exact kia_one PySem.W.kitx_int I.kIn True.intro e (fun z=>nomatch z) h
 | str y=>obtain⟨t,q⟩:=(show ∃t,u=Value.str y t from rx);cases q;exact kia_one PySem.W.kitx_str I.kIn True.intro e (fun z=>nomatch z) h
 | flt y=>obtain⟨t,q⟩:=(show ∃t,u=Value.float y t from rx);cases q;exact kia_one PySem.W.kitx_float I.kIn True.intro e (fun z=>nomatch z) h
 | @lst a xs ea =>
  cases (show u=Value.ref a from rx);obtain⟨_,_,n,_,h1⟩:=(show ObjOk X.prog X.w H s.heap a (.lst xs) from I.hok a _ ea)
  exact kia_one kitx_list I.kIn ⟨_,h1,rfl⟩ e (fun z=>nomatch z) h
 | @frz a ob xs ea =>
  cases (show u=Value.ref a from rx);obtain⟨_,_,_,n,_,h1⟩:=(show ObjOk X.prog X.w H s.heap a (.frz ob (.lst xs)) from I.hok a _ ea)
  exact kia_one kitx_list I.kIn ⟨_,h1,rfl⟩ e (fun z=>nomatch z) h
 | @tup a xs ea =>
  cases (show u=Value.ref a from rx);obtain⟨_,_,_,p⟩:=(show ObjOk X.prog X.w H s.heap a (.tup xs) from I.hok a _ ea)
  obtain⟨o,h1,h2,_⟩:=p;exact kia_one Mf I.kIn ⟨o,h1,h2⟩ e (fun z=>nomatch z) h
 | @dK a kvs ea =>
  cases (show u=Value.ref a from rx);obtain⟨_,_,vs,_,p⟩:=(show ObjOk X.prog X.w H s.heap a (.dK kvs) from I.hok a _ ea)
  obtain⟨o,es,ep,h1,h2,_⟩:=p;exact kia_one Mq I.kIn ⟨o,h1,h2.1⟩ e (fun z=>nomatch z) h
 | @dT a kvs ea =>
  cases (show u=Value.ref a from rx);obtain⟨_,_,xs,_,o,es,ep,h1,h2,_⟩:=(show ObjOk X.prog X.w H s.heap a (.dT kvs) from I.hok a _ ea)
  exact kia_one Mq I.kIn ⟨o,h1,h2.1⟩ e (fun z=>nomatch z) h
 | @ins a C dx fs ea cl ha hn htk hm=>cases (show u=Value.ref a from rx);obtain⟨mA,O,_⟩:=JcH I.hok ea;obtain⟨od,J,_⟩:=O.look;exact kia_one (PySem.W.kitx_own (cl.get _) cl.hd ha hn htk hm) I.kIn J e (fun z=>nomatch z) h
end
end L2

namespace L2
open PySem PySem.Spec PyProof.Rows

structure Room (k:Nat) (A:Qw):Prop where
 hd:A.handled=none
 dp:A.depth+3*k+5<recursionLimit
 un:A.units+16*k+200<cLine
theorem Room.mono{j k:Nat}{A:Qw}(r:Room k A)(h:j<=k):Room j A:=⟨r.hd,by have:=r.dp;omega,by have:=r.un;omega⟩
theorem Room.deeper{k:Nat}{A:Qw}(r:Room (k+1) A)(env:Env):Room k (A.deeper env) :=
 ⟨r.hd,by have:=r.dp;show A.depth+1+3*k+5<_;omega,by have:=r.un;show A.units+3+16*k+200<_;omega⟩
theorem Room.in1{k:Nat}{A:Qw}(r:Room (k+1) A):Room k A.in1 :=
 ⟨r.hd,by have:=r.dp;show A.depth+3*k+5<_;omega,by have:=r.un;show A.units+1+16*k+200<_;omega⟩
theorem JbQ{A:Qw}{C:Qc}{us:List Qa}{kw:List (Str×Qa)}:(A.under (.builtin "type.__call__" ⟨.ref C::us,kw⟩)).depth=A.depth+1:=by first | rfl | simp[Mr,Code.weight,Code.isCreation,Code.isGuard,Code.isCaller,Code.frames,Ms,guardIds]
theorem JbR{A:Qw}{C:Qc}{us:List Qa}{kw:List (Str×Qa)}:(A.under (.builtin "type.__call__" ⟨.ref C::us,kw⟩)).units=A.units+1:=by first | rfl | simp[Mr,Code.cUnits,Code.frames,Ms]
theorem Room.make{k:Nat}{A:Qw}(r:Room (k+1) A)(C:Qc)(us:List Qa)(kw:List (Str×Qa)):Room k (A.under (.builtin "type.__call__" ⟨.ref C::us,kw⟩)) :=
 ⟨r.hd,by have:=r.dp;rw[JbQ];omega,by have:=r.un;rw[JbR];omega⟩
theorem Room.depth{k:Nat}{A:Qw}(r:Room k A):A.depth<recursionLimit:=by have:=r.dp;omega
theorem Room.units{k:Nat}{A:Qw}(r:Room k A):A.units+64<cLine:=by have:=r.un;omega
noncomputable def Zo:TA:=fun _ H Q=>Q [] H
noncomputable def Y0(ta:TE)(tr:TA):TA:=fun σ H Q=>ta σ H fun x H1=>tr σ H1 fun xs H2=>Q (x::xs) H2
section
variable{X:Cx}{e:QR}{es:List QR}{te:TE}{t:TA}{pos:Pos}
theorem Je:PA X [] Zo:=fun _ _ _ _ H Q I h=>Calls.spliced_nil ⟨[],H,I,.nil,h⟩
theorem Ja(ha:PE X e te)(hr:PA X es t)(hs:starEach (e::es) X.env=(false,eval e X.env)::starEach es X.env:=by rfl):PA X (e::es) (Y0 te t):=by intro pos pins s σ H Q I h;rw[hs];show wpAny _ _ (spliced ((false,eval e X.env)::backTo pos (starEach es X.env))) _ _ s;refine Calls.spliced_cons (thn (ha pins s σ H _ I h) fun u s1 ⟨x,H1,I1,r1,q1⟩=>?_);exact thn (hr pos pins s1 σ H1 _ I1 q1) fun us s2 ⟨xs,H2,I2,r2,q2⟩=>⟨x::xs,H2,I2,.cons r1 r2,q2⟩

noncomputable def Jk1(t:TA):TE:=fun σ H Q=>t σ H fun xs H1=>xs.length<=Qk/\∀p,H1 p=none->Q (.ref p) (upd H1 p (.tup xs))
noncomputable def Jii(t:TA):TE:=fun σ H Q=>t σ H fun xs H1=>xs.length<=Qk/\∀p,H1 p=none->Q (.ref p) (upd H1 p (.lst xs))
theorem VN{x1}(h:PA X es t):PE X (.Tuple es x1 pos) (Jk1 t):=by intro pins s σ H Q I hq;refine wpAny_Tuple_spliced (thn (h pos pins s σ H _ I hq) fun us s1 ⟨xs,H1,I1,r,z,q⟩=>⟨by rw[<- r.length];exact z,?_⟩);have hf:H1 s1.heap.objs.size=none:=I1.hok.fresh (Qq _);refine⟨.ref s1.heap.objs.size,upd H1 s1.heap.objs.size (.tup xs),I1.laid (t':=s1.toks) (fun b u e=>Qg _ e) (Qq _) ?_,rfl,q _ hf⟩;exact⟨z,us,r,⟨_,QH _ rfl,rfl,_,rfl⟩⟩
theorem JN(h:PA X es t):PE X (.List es pos) (Jii t):=by intro pins s σ H Q I hq;refine wpAny_List_spliced (thn (h pos pins s σ H _ I hq) fun us s1 ⟨xs,H1,I1,r,z,q⟩=>⟨by rw[<- r.length];exact z,?_⟩);have hf:H1 s1.heap.objs.size=none:=I1.hok.fresh (Qq _);refine⟨.ref s1.heap.objs.size,upd H1 s1.heap.objs.size (.lst xs),I1.laid (t':=s1.toks) (fun b u e=>Qg _ e) (Qq _) ?_,rfl,q _ hf⟩;exact⟨z,us,0,r,QH _ rfl⟩
end

noncomputable abbrev Sp:=List V->Hp->VK->XK->Prop
noncomputable abbrev CXT:=List Env->Hp->Qd->XK->Qa->Qd->Prop

structure Env0 (P:Qo) (w:QC) (K:Qn) (mg:Str->Option Qa) (base:QI) (A:Qw) (outer:List Env) (s:Qd) (H:Hp):Prop where
 frames:A.frames=some outer
 mod:Mod K mg base
 bs:∀b o,base.get? b=some o->s.heap.get? b=some o/\H b=none
 bsz:base.objs.size<=s.heap.objs.size
 funs:s.heap.FunFrames base outer
 frf:∀b∈frs outer,H b=none
 hok:HOk P w H s.heap
 bare:AllBare s.gens
noncomputable def CE(outer:List Env)(P:Qo)(w:QC)(H:Hp)(s:Qd)(Q:VK)(u:Qa)(s':Qd):Prop :=
 ∃v H',s'.os=s.os/\AllBare s'.gens/\Un (frs outer) [] H H' s.heap s'.heap/\HOk P w H' s'.heap/\RelV v u/\Q v H'
noncomputable def CR(CX:CXT)(outer:List Env)(P:Qo)(w:QC)(H:Hp)(s:Qd)(Q:VK)(E:XK)(r:LY)(s':Qd):Prop :=
 match r with
 | .ok (.ret u)=>CE outer P w H s Q u s'
 | .ok _=>False
 | .error e=>CX outer H s E e s'
structure FnOk (P:Qo) (w:QC) (K:Qn) (mg:Str->Option Qa) (base:QI) (CX:CXT) (k:Nat) (f:Qc) (fd:QE) (ps:List Str) (sp:Sp):Prop where
 len:∀vs H Q E,sp vs H Q E->vs.length=ps.length
 run:∀(A:Qw) (outer:List Env) (s:Qd) (H:Hp) (args:Args) (us:List Qa) (vs:List V) (Q:VK) (E:XK),Room k A->Env0 P w K mg base A outer s H->BindsTo s fd args (ps.zip us)->Vals vs us->sp vs H Q E ->
  codeAny (model P w) A (.call (.ref f) args) (CR CX outer P w H s Q E) s
theorem FnOk.mono{P:Qo}{w:QC}{K:Qn}{mg:Str->Option Qa}{base:QI}{CX:CXT}{j k:Nat}{f:Qc}{fd:QE}{ps:List Str}{sp:Sp}(F:FnOk P w K mg base CX j f fd ps sp)(h:j<=k) :
 FnOk P w K mg base CX k f fd ps sp:=⟨F.len,fun A outer s H args us vs Q E hr=>F.run A outer s H args us vs Q E (hr.mono h)⟩
theorem FnOk.imp{P:Qo}{w:QC}{K:Qn}{mg:Str->Option Qa}{base:QI}{CX:CXT}{k:Nat}{f:Qc}{fd:QE}{ps:List Str}{sp sp':Sp}(F:FnOk P w K mg base CX k f fd ps sp)
 (h:∀vs H Q E,sp' vs H Q E->sp vs H Q E):FnOk P w K mg base CX k f fd ps sp' :=
 ⟨fun vs H Q E q=>F.len vs H Q E (h _ _ _ _ q),fun A outer s H args us vs Q E hr he hb hv hs=>F.run A outer s H args us vs Q E hr he hb hv (h _ _ _ _ hs)⟩

theorem Env0.make{P:Qo}{w:QC}{K:Qn}{mg:Str->Option Qa}{base:QI}{A:Qw}{outer:List Env}{s:Qd}{H:Hp}(e:Env0 P w K mg base A outer s H)(C:Qc)(us:List Qa)(kw:List (Str×Qa)) :
 Env0 P w K mg base (A.under (.builtin "type.__call__" ⟨.ref C::us,kw⟩)) outer s H:=⟨by first | exact e.frames | (simpa [Mr,Code.envs,Ms,pushEnvs] using e.frames),e.mod,e.bs,e.bsz,e.funs,e.frf,e.hok,e.bare⟩
theorem Env0.in1{P:Qo}{w:QC}{K:Qn}{mg:Str->Option Qa}{base:QI}{A:Qw}{outer:List Env}{s:Qd}{H:Hp}(e:Env0 P w K mg base A outer s H) :
 Env0 P w K mg base A.in1 outer s H:=⟨e.frames,e.mod,e.bs,e.bsz,e.funs,e.frf,e.hok,e.bare⟩

section
variable{X:Cx}{pins:List (Qc×Obj)}{σ:St}{H:Hp}{s s':Qd}
theorem Inv.env0(I:Inv X pins σ H s):Env0 X.prog X.w X.K X.mg X.base X.A X.stack s H :=
 ⟨I.ok.frames,I.ok.mod,I.bs,QP I.ok.bsz I.sz,I.stack,I.stkFree,I.hok,I.bare⟩
theorem Inv.after{Q:VK}{u:Qa}(I:Inv X pins σ H s)(h:CE X.stack X.prog X.w H s Q u s'):EP X pins σ Q u s':=by obtain⟨v,H',os,bare,un,hok,r,q⟩:=h;obtain⟨hh,g,d,t,os'⟩:=s';obtain rfl:os'=s.os:=os;exact⟨v,H',I.call (h':=hh) (g':=g) (d':=d) (t':=t) (ch:=[]) un hok bare (fun b z=>absurd z (by simp)),r,q⟩
end

noncomputable def Vw(sp:Sp)(dvs:List V)(E:XK)(t:TA):TE:=fun σ H Q=>t σ H fun vs H1=>sp (vs++dvs) H1 Q E
noncomputable def Jbr(C:Qc)(sp:Sp)(dvs:List V)(E:XK)(t:TA):TE:=fun σ H Q=>t σ H fun vs H1=>∀x dx,H1 x=none->H1 dx=none->dx≠x ->
 sp (.ref x::(vs++dvs)) (upd (upd H1 dx (.own x)) x (.ins C dx [])) (fun v H2=>v=.non/\Q (.ref x) H2) E

noncomputable def Binds(K:Qn)(fd:QE)(ps:List Str)(ds:List Qa):Prop :=
 ∀(s:Qd) (us:List Qa),K.In s.heap->(us++ds).length=ps.length->BindsTo s fd ⟨us,[]⟩ (ps.zip (us++ds))
theorem Binds.all{K:Qn}{fd:QE}{ps:List Str}(h:∀us:List Qa,us.length=ps.length->bindArgs fd ⟨us,[]⟩=pure (ps.zip us)):Binds K fd ps []:=fun s us _ hl=>by rw[QY] at hl ⊢;exact .of_eq (h us hl)

noncomputable def Uz(CX:CXT)(X:Cx)(E:XK):Prop:=∀(pins:List (Qc×Obj)) (σ:St) (H:Hp) (s:Qd) (e:Qa) (s':Qd),Inv X pins σ H s->CX X.stack H s E e s'->X.xe e s'

section
variable{X:Cx}{CX:CXT}{k:Nat}{f C:Qc}{fd:QE}{ps:List Str}{sp:Sp}{dvs:List V}{ds:List Qa}{E:XK}{x m:Str}{p pos apos:Pos}{e o:QR}{es:List QR}{ta:TE}{t:TA}

theorem JkO{pins:List (Qc×Obj)}{σ:St}{H:Hp}{s:Qd}{Q:VK}{us:List Qa}{vs:List V}(F:FnOk X.prog X.w X.K X.mg X.base CX k f fd ps sp)(hr:Room k X.A)(hb:Binds X.K fd ps ds)(hd:Vals dvs ds)(hx:Uz CX X E)
 (I:Inv X pins σ H s) (r:Vals vs us) (h:sp (vs++dvs) H Q E):wpAny (model X.prog X.w) X.A (call (.ref f) us) (EP X pins σ Q) X.xe s:=by
 have r2:Vals (vs++dvs) (us++ds):=r.append hd
 have hl:(us++ds).length=ps.length:=by rw[<- r2.length];exact F.len _ _ _ _ h
 refine K5 (KE (F.run X.A X.stack s H ⟨us,[]⟩ (us++ds) (vs++dvs) Q E hr I.env0 (hb s us I.kIn hl) r2 h) fun r s' hq=>?_)
 cases r with
 | error e=>exact hx pins σ H s e s' I hq
 | ok fl =>
  cases fl with
  | ret u=>exact I.after hq
  | next=>exact QT hq
  | brk=>exact QT hq
  | cont=>exact QT hq

theorem JcX(F:FnOk X.prog X.w X.K X.mg X.base CX k f fd ps sp)(hr:Room k X.A)(hg:Gl X x)(hm:X.mg x=some (.ref f))(hk:keepIn X.K (.ref f)=true)(hb:Binds X.K fd ps ds)(hd:Vals dvs ds)(hx:Uz CX X E)
 (ha:PA X (e::es) t) (hdb:(x == ("__debug__":Str))=false:=by decide) (he:starEach (e::es) X.env=(false,eval e X.env)::starEach es X.env:=by rfl) (hpl:(backTo pos (starEach es X.env)).any (·.1)=false:=by rfl) :
 PE X (.Call (.Name x p) (e::es) [] pos) (Vw sp dvs E t):=by
 intro pins s σ H Q I h;refine GP (Y6 I hg hm ?_ hdb);refine callWith_K (h₀:=X.base) I.ok.mod.kin hk (thn (ha pos pins s σ H _ I h) fun us s1 ⟨vs,H1,I1,r,q⟩=>⟨I1.kIn,?_⟩) he hpl;exact JkO F hr hb hd hx I1 r q
structure Mk (K:Qn) (C f:Qc):Prop where
 makes:makesIn K C=true
 init:findIn K (.ref C) "__init__"=some (some (.ref f))
 fn:isFn K (.ref f)=true
 kp:keepIn K (.ref C)=true

theorem JfK{pins:List (Qc×Obj)}{σ:St}{H:Hp}{s:Qd}{Q:VK}{us:List Qa}{vs:List V}(M:Mk X.K C f)(F:FnOk X.prog X.w X.K X.mg X.base CX k f fd ps sp)(hr:Room (k+1) X.A)(hb:Binds X.K fd ps ds)(hd:Vals dvs ds)
 (hx:Uz CX X E) (I:Inv X pins σ H s) (r:Vals vs us)
 (h:∀x dx,H x=none->H dx=none->dx≠x->sp (.ref x::(vs++dvs)) (upd (upd H dx (.own x)) x (.ins C dx [])) (fun v H2=>v=.non/\Q (.ref x) H2) E) :
 wpAny (model X.prog X.w) X.A (call (.ref C) us) (EP X pins σ Q) X.xe s:=by
 have hq:=h (s.heap.objs.size+1) s.heap.objs.size (I.hok.fresh (Nat.le_succ _)) (I.hok.fresh (Qq _)) (QG (Kf _))
 have I2:=Inv.made (C:=C) I
 have r2:Vals (V.ref (s.heap.objs.size+1)::(vs++dvs)) (Value.ref (s.heap.objs.size+1)::(us++ds)):=.cons rfl (r.append hd)
 have hl:(Value.ref (s.heap.objs.size+1)::us++ds).length=ps.length:=by have e:=r2.length;rw[F.len _ _ _ _ hq] at e;exact e.symm
 refine K5 (Jfc (f:=f) I.kIn M.makes M.init (beq_iff_eq.mp M.fn) (KE (F.run _ X.stack _ _ ⟨Value.ref (s.heap.objs.size+1)::us,[]⟩ (Value.ref (s.heap.objs.size+1)::(us++ds)) _ _ E (hr.make C us [])
  (I2.env0.make C us []) (hb _ (Value.ref (s.heap.objs.size+1)::us) I2.kIn hl) r2 hq) fun r s' hq'=>?_))
 cases r with
 | error e=>exact hx pins σ _ _ e s' I2 hq'
 | ok fl =>
  cases fl with
  | ret u=>obtain⟨v,H',I3,rv,ev,q3⟩:=I2.after hq';subst ev;exact⟨rv,⟨V.ref (s.heap.objs.size+1),H',I3,rfl,q3⟩⟩
  | next=>exact QT hq'
  | brk=>exact QT hq'
  | cont=>exact QT hq'
theorem Jhv(M:Mk X.K C f)(F:FnOk X.prog X.w X.K X.mg X.base CX k f fd ps sp)(hr:Room (k+1) X.A)(hg:Gl X x)(hm:X.mg x=some (.ref C))(hb:Binds X.K fd ps ds)(hd:Vals dvs ds)(hx:Uz CX X E)
 (ha:PA X (e::es) t) (hdb:(x == ("__debug__":Str))=false:=by decide) (he:starEach (e::es) X.env=(false,eval e X.env)::starEach es X.env:=by rfl) (hpl:(backTo pos (starEach es X.env)).any (·.1)=false:=by rfl) :
 PE X (.Call (.Name x p) (e::es) [] pos) (Jbr C sp dvs E t):=by
 intro pins s σ H Q I h;refine GP (Y6 I hg hm ?_ hdb);refine callWith_K (h₀:=X.base) I.ok.mod.kin M.kp (thn (ha pos pins s σ H _ I h) fun us s1 ⟨vs,H1,I1,r,q⟩=>⟨I1.kIn,?_⟩) he hpl;exact JfK M F hr hb hd hx I1 r q
end

section
variable{X:Cx}{CX:CXT}{k:Nat}{f C:Qc}{fd:QE}{ps ks:List Str}{sp:Sp}{E:XK}{x m:Str}{p pos apos kpos:Pos}{e o:QR}{es:List QR}{kws:List Lc}{te ta:TE}{t tk:TA}{nm:Option Str}
structure KBinds (K:Qn) (fd:QE) (ps ks:List Str) (g:List Qa->List Qa->List Qa) (gV:List V->List V->List V):Prop where
 to:∀(s:Qd) (us ws:List Qa),K.In s.heap->(g us ws).length=ps.length->BindsTo s fd ⟨us,ks.zip ws⟩ (ps.zip (g us ws))
 rel:∀{vs:List V} {us:List Qa} {zs:List V} {ws:List Qa},Vals vs us->Vals zs ws->Vals (gV vs zs) (g us ws)
variable{g:List Qa->List Qa->List Qa}{gV:List V->List V->List V}
end

structure FnScope (N P:List Str) (sc:K3):Prop where
 kind:sc.kind=.function
 co:sc.isCoroutine=false
 gen:sc.isGenerator=false
 nd:N.Nodup
 pre:N.take P.length=P
 par:∀x∈P,sc.names.lookup x=some .local\/sc.names.lookup x=some .cell
 nofree:∀y∈sc.names,y.2≠.free

theorem Zs{kindOf:Str->Option NameKind}{x:Str}:∀{binds:List (Str×Qa)} {m:Str->Option Qa},(∀v,(x,v)∉binds)->bindL kindOf binds m x=m x
 | [],_,_=>rfl
 | (n,v)::r,m,h=>by
  unfold bindL;rw[Zs fun w hw=>h w (Qp _ hw)];split
  ·have:x≠n:=by rintro rfl;exact h v Qy
   simp[this]
  ·rfl
theorem Zq{kindOf:Str->Option NameKind}{x:Str}:∀{binds:List (Str×Qa)} {m:Str->Option Qa},(∀v,(x,v)∉binds)->bindC kindOf binds m x=m x
 | [],_,_=>rfl
 | (n,v)::r,m,h=>by
  unfold bindC;rw[Zq fun w hw=>h w (Qp _ hw)];split
  ·rfl
  ·have:x≠n:=by rintro rfl;exact h v Qy
   simp[this]
theorem Zr{kindOf:Str->Option NameKind}{x:Str}{v:Qa}:∀{P:List Str} {vs:List Qa} {i:Nat} {m:Str->Option Qa},P.Nodup->P[i]?=some x->vs[i]?=some v->kindOf x=some .local ->
 bindL kindOf (P.zip vs) m x=some v
 | [],_,_,_,_,h,_,_=>by simp at h
 | _::_,[],_,_,_,_,h,_=>by simp at h
 | p::P,w::vs,0,m,nd,h1,h2,hk=>by simp at h1 h2;subst h1;subst h2;show bindL kindOf ((p,w)::P.zip vs) m p=_;unfold bindL;rw[Zs fun v hv=>(Kw.mp nd).1 (GQ hv).1,if_pos hk];simp
 | p::P,w::vs,i+1,m,nd,h1,h2,hk=>by show bindL kindOf ((p,w)::P.zip vs) m x=_;unfold bindL;exact Zr (i:=i) (Kw.mp nd).2 (by simpa using h1) (by simpa using h2) hk
theorem Zp{kindOf:Str->Option NameKind}{x:Str}{v:Qa}:∀{P:List Str} {vs:List Qa} {i:Nat} {m:Str->Option Qa},P.Nodup->P[i]?=some x->vs[i]?=some v->kindOf x≠some .local ->
 bindC kindOf (P.zip vs) m x=some v
 | [],_,_,_,_,h,_,_=>by simp at h
 | _::_,[],_,_,_,_,h,_=>by simp at h
 | p::P,w::vs,0,m,nd,h1,h2,hk=>by simp at h1 h2;subst h1;subst h2;show bindC kindOf ((p,w)::P.zip vs) m p=_;unfold bindC;rw[Zq fun v hv=>(Kw.mp nd).1 (GQ hv).1,if_neg hk];simp
 | p::P,w::vs,i+1,m,nd,h1,h2,hk=>by show bindC kindOf ((p,w)::P.zip vs) m x=_;unfold bindC;exact Zp (i:=i) (Kw.mp nd).2 (by simpa using h1) (by simpa using h2) hk

noncomputable def Yr(N:List Str)(vs:List V):St:=vs.map some++QK (N.length-vs.length) none

noncomputable def Wu(CX:CXT)(P:Qo)(w:QC)(K:Qn)(mg:Str->Option Qa)(base:QI)(N:List Str)(qual:Str)(scope:K3)(f:Qc)(cd:Qa)(A:Qw)(outer:List Env)(s:Qd)(H:Hp)(E:XK):Cx where
 prog:=P
 w:=w
 K:=K
 mg:=mg
 base:=base
 A:=A.deeper (envOfC qual scope s.heap.objs.size f cd)
 N:=N
 s₀:=s
 H₀:=H
 env:=envOfC qual scope s.heap.objs.size f cd
 outer:=outer
 stack:=envOfC qual scope s.heap.objs.size f cd::outer
 ex:=[]
 calm:=true
 fn:=fun _=>true
 pn:=[]
 xe:=fun e s'=>wpAny (model P w) (A.deeper (envOfC qual scope s.heap.objs.size f cd)) (leaving (envOfC qual scope s.heap.objs.size f cd) e) (fun _ s''=>CX outer H s E e s'') (fun e' s''=>CX outer H s E e' s'') s'

theorem JaM{sc:K3}{n:Nat}{x:Str}(h:sc.names.lookup x=some .cell):∃c,(cellsFrom n sc.names []).lookup x=some c:=by have q:=Lw sc.names n [] (.inl h);exact Kp.mp q

theorem JdF{CX:CXT}{P:Qo}{w:QC}{K:Qn}{mg:Str->Option Qa}{base:QI}{N ps:List Str}{qual:Str}{scope:K3}{f:Qc}{cd:Qa}{A:Qw}{outer:List Env}{s s1:Qd}{H:Hp}{E:XK}{us:List Qa}{vs:List V}
 (S:FnScope N ps scope) (hd:A.handled=none) (e0:Env0 P w K mg base A outer s H) (hl:vs.length=ps.length) (r:Vals vs us)
 (x:InCallC s s.heap.objs.size (bindL (envOfC qual scope s.heap.objs.size f cd).kindOf (ps.zip us) fun _=>none) (cellsFrom (s.heap.objs.size+1) scope.names []) (bindC (envOfC qual scope s.heap.objs.size f cd).kindOf (ps.zip us) fun _=>none) s1) :
 Inv (Wu CX P w K mg base N qual scope f cd A outer s H E) [] (Yr N vs) H s1:=by
 have hpl:ps.length<=N.length:=by have:=congrArg List.length S.pre;rw[Gj] at this;omega
 obtain⟨h1,tk,rfl,hk⟩:=x.done;have noA:∀b:Qc,b∉(Wu CX P w K mg base N qual scope f cd A outer s H E).ex:=fun b z=>absurd (show b∈([]:List Qc) from z) (by simp)
 refine⟨⟨e0.mod,S.kind,rfl,rfl,Qq _,fun y z c h1 h2=>?_,fun y hy=>?_,fun y c _ h=>?_,fun _=>hd,Around.frames_deeper e0.frames,.inr ⟨rfl,rfl⟩,fun b z=>absurd z (noA b),e0.bs,e0.bsz,fun b _ _=>noA b,fun b z=>absurd z (noA b),e0.funs,e0.frf⟩,
  rfl,e0.bare,Un.kept hk,⟨_,x.toInCall.ns,fun i y v h1 h2 h3=>?_⟩,fun y c h=>⟨_,x.cell y c h⟩,e0.hok.fresh (Qq _),fun y c h=>?_,fun p hp=>absurd (show p∈([]:List (Qc×Obj)) from hp) (by simp),e0.hok.kept hk,?_⟩
 ·exact name_of_addr x.apart (Gr h1) (Gr h2)
 ·have hy:scope.names.lookup y=some .cell\/scope.names.lookup y=some .free:=hy;rcases hy with hy|hy
  ·exact JaM hy
  ·exact absurd rfl (S.nofree _ (Gr hy))
 ·exact Kc (x.above y c (Gr h))
 ·have hi:i<vs.length:=by
   unfold Yr at h2
   by_cases hi:i<vs.length
   ·exact hi
   ·rw[QN (by simpa using hi)] at h2;rw[GJ] at h2;split at h2 <;> cases h2
  have ha:vs[i]?=some v:=by
   unfold Yr at h2;rw[QA (by simpa using hi),QJ] at h2
   cases e:vs[i]? with
   | none=>rw[e] at h2;cases h2
   | some a=>rw[e] at h2;cases h2;rfl
  obtain⟨u,hu,rv⟩:=r.get ha
  have hp:ps[i]?=some y:=by rw[<- S.pre,List.getElem?_take_of_lt (by omega)];exact h1
  have ndP:ps.Nodup:=by rw[<- S.pre];exact S.nd.sublist (List.take_sublist _ _)
  refine⟨u,rv,?_⟩;rcases S.par y (QQ hp) with k|k
  ·exact .inl ⟨k,Zr ndP hp hu k⟩
  ·obtain⟨c,e⟩:=JaM (n:=s.heap.objs.size+1) k;refine .inr ⟨.inl k,c,e,?_⟩;have q:=x.cell y c e;rw[Zp ndP hp hu (by show scope.names.lookup y≠_;rw[k];decide)] at q;exact q
 ·exact e0.hok.fresh (Kc (x.above y c (Gr h)))
 ·unfold Yr;show _=N.length;rw[Qu,QB,List.length_replicate];omega

theorem Jiy{CX:CXT}{P:Qo}{w:QC}{K:Qn}{mg:Str->Option Qa}{base:QI}{k:Nat}{f:Qc}{name qual:Str}{params:Arguments}{body:List Gn}{scope:K3}{dV kV doc pm cdv ct oc:Qa}{an od:Option Qc}
 {osl:Array (Option Qa)} {N ps:List Str} {sp:Sp} (lk:K.lookup f=some ⟨oc,od,.func (fnOf name qual params body scope dV kV doc pm an cdv ct),osl⟩) (hcd:codeIn K cdv qual=true) (S:FnScope N ps scope)
 (len:∀vs H Q E,sp vs H Q E->vs.length=ps.length)
 (hbody:∀(A:Qw) (outer:List Env) (s:Qd) (H:Hp) (vs:List V) (Q:VK) (E:XK),Room k (A.deeper (envOfC qual scope s.heap.objs.size f cdv))->sp vs H Q E ->
  ∃t,PSs (Wu CX P w K mg base N qual scope f cdv A outer s H E) body t/\t { nx:=fun _ H'=>Q .non H',rt:=Q } (Yr N vs) H) :
 FnOk P w K mg base CX (k+1) f (fnOf name qual params body scope dV kV doc pm an cdv ct) ps sp:=by
 refine⟨len,fun A outer s H args us vs Q E hr e0 hb r hsp=>?_⟩;have hl:=len _ _ _ _ hsp;have KX:K.In s.heap:=e0.mod.kin.keeps fun b o e=>(e0.bs b o e).1
 have lim:s.heap.NoLimit:=e0.mod.nolimit.keeps fun b o e=>(e0.bs b o e).1
 have hkind:∀y∈ps.zip us,scope.names.lookup y.1=some .local\/(scope.names.lookup y.1=some .cell/\((cellsFrom (s.heap.objs.size+1) scope.names []).lookup y.1).isSome=true):=fun⟨n,v⟩ hy=>by
  rcases S.par n (GQ hy).1 with q|q
  ·exact .inl q
  ·exact .inr ⟨q,Lw _ _ _ (.inl q)⟩
 refine codeAny_call_function hr.depth (KX _ _ lk) rfl S.co S.gen rfl (PySem.W.codeRec_of KX hcd) (hb _ _ _ _ ?_);refine wpAny_newFunctionEnv_cells S.kind hkind fun env he s1 x=>?_
 subst he;refine⟨lim.keeps x.toInCall.keep,codeAny_func ?_⟩;obtain⟨t,ht,hq⟩:=hbody A outer s H vs Q E (hr.deeper _) hsp;have I:Inv (Wu CX P w K mg base N qual scope f cdv A outer s H E) [] (Yr N vs) H s1:=JdF S hr.hd e0 hl r x;refine Q6 (ht [] s1 (Yr N vs) H _ I hq) (fun fl s' hs=>?_) fun e s' hs=>hs
 have fin:∀{σ':St} {H':Hp} {v:V} {u:Qa},Inv (Wu CX P w K mg base N qual scope f cdv A outer s H E) [] σ' H' s'->RelV v u->Q v H'->CE outer P w H s Q u s' :=
  fun {σ' H' v u} J rv q=>⟨v,H',J.os,J.bare,J.base,J.hok,rv,q⟩
 cases fl with
 | ret u=>obtain⟨v,σ',H',J,rv,q⟩:=hs;exact fin J rv q
 | next=>obtain⟨σ',H',J,q⟩:=hs;exact fin (v:=V.non) (u:=Value.none) J rfl q
 | brk=>obtain⟨_,_,_,q⟩:=hs;exact QT q
 | cont=>obtain⟨_,_,_,q⟩:=hs;exact QT q
end L2

namespace L2
open PySem PySem.Spec PyProof.Rows
section
variable{X:Cx}{x:Str}{p pos:Pos}{e:QR}{es:List QR}{t:TA}{id T:String}{r:List V->Hp->VK->Prop}

noncomputable def tCB(r:List V->Hp->VK->Prop)(t:TA):TE:=fun σ H Q=>t σ H fun vs H1=>r vs H1 Q
theorem Jw(hc:CallR X (.builtin id) r)(hg:Gl X x)(hm:X.mg x=none)(hv:bootBuiltins x=some (.builtin id))(ha:PA X (e::es) t)(hn:x≠"__name__":=by decide)(hdb:(x == ("__debug__":Str))=false:=by decide)
 (he:starEach (e::es) X.env=(false,eval e X.env)::starEach es X.env:=by rfl) (hpl:(backTo pos (starEach es X.env)).any (·.1)=false:=by rfl):PE X (.Call (.Name x p) (e::es) [] pos) (tCB r t):=by
 intro pins s σ H Q I h;refine GP (Jab I hg hm hv ?_ hn hdb);exact PyProof.Rows.callWith_builtin1 (thn (ha pos pins s σ H _ I h) fun us s1 ⟨vs,H1,I1,r1,q1⟩=>hc pins s1 σ H1 vs us Q I1 r1 q1) he hpl
theorem YG(hc:CallR X (.type T) r)(hg:Gl X x)(hm:X.mg x=none)(hv:bootBuiltins x=some (.type T))(ha:PA X (e::es) t)(hn:x≠"__name__":=by decide)(hdb:(x == ("__debug__":Str))=false:=by decide)
 (he:starEach (e::es) X.env=(false,eval e X.env)::starEach es X.env:=by rfl) (hpl:(backTo pos (starEach es X.env)).any (·.1)=false:=by rfl):PE X (.Call (.Name x p) (e::es) [] pos) (tCB r t):=by
 intro pins s σ H Q I h;refine GP (Jab I hg hm hv ?_ hn hdb);exact KW (thn (ha pos pins s σ H _ I h) fun us s1 ⟨vs,H1,I1,r1,q1⟩=>hc pins s1 σ H1 vs us Q I1 r1 q1) he hpl
end
end L2

namespace HT
open PySem PyProof.Rows

section
open PySem.SeqAt
open PySem.AutoSeq1 (wpAny_loadPart')
open PySem.MeetsSeq PySem.MeetsSeq2 PySem.MeetsSeq3

end

section
variable{prog:Qo}{w:QC}{A:Qw}{E:Qa->Qd->Prop}{s:Qd}

theorem Jgp{t b:Qc}{vs ws:List Qa}{Q:Qa->Qd->Prop}(ht:IsTup s.heap t vs.toArray)(hb:IsTup s.heap b ws.toArray)(hv:vs≠[])
 (h1:ws=[]->Q (.ref t) s) (h2:ws≠[]->Q (.ref s.heap.objs.size) { s with heap:=s.heap.push { cls:=.type "tuple",data:=.seq (vs++ws).toArray } })
 (hsz:vs.length+ws.length<=Qk):wpAny (model prog w) A (binaryOp .Add (.ref t) (.ref b)) Q E s:=by
 obtain⟨⟨cls,dd,data,sl⟩,ho,hc,n,hd⟩:=id ht;obtain⟨⟨cls2,dd2,data2,sl2⟩,ho2,hc2,n2,hd2⟩:=id hb;simp only at hc hd hc2 hd2;subst hc hd hc2 hd2;have e:vs.toArray++ws.toArray=(vs++ws).toArray:=by simp
 by_cases hw:ws=[]
 ·exact concat_meets ⟨_,ho,rfl⟩ ⟨_,ho2,rfl⟩ noFill_tuple_add seq_tuple_add Lx Lm (Lh _ _)
   (tuple_addW1 t b vs.toArray ws.toArray n n2 dd dd2 sl sl2 (by simpa using hv) (by simp[hw])) ⟨ho,ho2,h1 hw⟩
 ·refine concat_meets ⟨_,ho,rfl⟩ ⟨_,ho2,rfl⟩ noFill_tuple_add seq_tuple_add Lx Lm (Lh _ _)
   (tuple_addW2 t b vs.toArray ws.toArray n n2 dd dd2 sl sl2 (by simpa using hv) (by simpa using hw) (by rw[Qt,Qt];exact hsz)) ⟨ho,ho2,?_⟩
  rw[e];exact h2 hw

noncomputable def sIx(n d:Nat):Option Int->Nat
 | none=>d
 | some v=>if v<0 then(v+(n:Int)).toNat else min v.toNat n
theorem JfL(n d:Nat):sIx n d none=d:=rfl
theorem JhX(n d k:Nat):sIx n d (some (k:Int))=min k n:=by show(if (k:Int)<0 then((k:Int)+(n:Int)).toNat else min (k:Int).toNat n)=min k n;rw[if_neg (by omega),GY]
theorem JkQ(n d:Nat)(hd:d<=n)(o:Option Int):sIx n d o<=n:=by
 cases o with
 | none=>exact hd
 | some v =>
  show(if v<0 then(v+(n:Int)).toNat else min v.toNat n)<=n
  by_cases hv:v<0
  ·rw[if_pos hv];omega
  ·rw[if_neg hv];exact Nat.min_le_right _ _
theorem Jco(v:Int)(n d:Nat):(if v<0 then max (v+(n:Int)) 0 else min v (n:Int))=((sIx n d (some v):Nat):Int):=by
 show(if v<0 then max (v+(n:Int)) 0 else min v (n:Int))=(((if v<0 then(v+(n:Int)).toNat else min v.toNat n):Nat):Int)
 by_cases hv:v<0
 ·simp only[if_pos hv];omega
 ·simp only[if_neg hv];omega
theorem JbE(lo hi:Option Int)(n:Nat):Ki lo hi 1 (n:Int)=(((sIx n 0 lo:Nat):Int),((sIx n n hi:Nat):Int)):=by
 have h1:¬((1:Int)<0):=by omega
 unfold Ki;simp only[h1,if_false];refine Prod.ext ?_ ?_
 ·cases lo with
  | none=>rfl
  | some v=>exact Jco v n 0
 ·cases hi with
  | none=>rfl
  | some v=>exact Jco v n n
theorem JbY(i j:Nat):GC (i:Int) (j:Int) 1=j-i:=by
 unfold GC;have h1:(1:Int)>0:=by omega
 simp only[h1,if_true,Int.ediv_one];split <;> omega
theorem W1{v:Qa}{o:Option Int}{Q:Option Int->Qd->Prop}(p:IsPart v o)(h:Q o s):wpAny (model prog w) A (Builtin.Slice.slicePartIndex v) Q E s:=by
 cases p with
 | none=>exact slicePart_none h
 | int i t=>exact slicePart_int h
theorem Uh{sl:Qc}{vl vu:Qa}{lo hi:Option Int}{n:Nat}{Q:Int×Int×Nat->Qd->Prop}(hs:s.heap.IsSliceOf sl vl vu .none)(pl:IsPart vl lo)(pu:IsPart vu hi)
 (h:Q (((sIx n 0 lo:Nat):Int),1,sIx n n hi-sIx n 0 lo) s):wpAny (model prog w) A (K6 (.ref sl) (pure (n:Int))) Q E s:=by
 obtain⟨os,hos,hcs,hds⟩:=id hs;unfold K6 Builtin.Slice.sliceFields;refine Qf (Qf (Gy hos hds (x:=vl) rfl (Qf (Gy hos hds (x:=vu) rfl (Qf (Gy hos hds (x:=.none) rfl (Qv ?_)))))));refine Qf (slicePart_none ?_);show wpAny _ _ (if ((1:Int) == 0)=true then _ else _) _ _ s;rw[if_neg (by decide)];refine Qf (W1 pl (Qf (W1 pu (Qf (Qv ?_)))))
 show wpAny _ _ (match Ki lo hi 1 (n:Int) with|(lo,hi)=>pure (lo,(1:Int),GC lo hi 1)) _ _ s;rw[JbE lo hi n]
 show wpAny _ _ (pure (((sIx n 0 lo:Nat):Int),(1:Int),GC ((sIx n 0 lo:Nat):Int) ((sIx n n hi:Nat):Int) 1)) _ _ s;rw[JbY];exact Qv h
theorem Jfr(xs:Array Qa)(i k:Nat):((Gi k).filterMap fun(m:Nat)=>xs[((i:Int)+(m:Int)*1).toNat]?).toArray=((xs.toList.drop i).take k).toArray:=by
 have e:(fun(m:Nat)=>xs[((i:Int)+(m:Int)*1).toNat]?)=fun m=>xs[i+m]?:=by
  funext m
  have:((i:Int)+(m:Int)*1).toNat=i+m:=by omega
  rw[this]
 rw[e];have:=pick_run xs i k;rw[List.filterMap_map] at this;have e2:((fun x=>xs[x]?) ∘ fun x=>i+x)=fun m=>xs[i+m]?:=rfl
 rw[e2] at this;rw[this]

theorem Vj{t sl:Qc}{items:Array Qa}{vl vu:Qa}{lo hi:Option Int}{Q:Qa->Qd->Prop}(ht:IsTup s.heap t items)(hs:s.heap.IsSliceOf sl vl vu .none)(pl:IsPart vl lo)(pu:IsPart vu hi)
 (hw:¬(sIx items.size 0 lo=0/\sIx items.size items.size hi=items.size))
 (h:Q (.ref s.heap.objs.size) { s with heap:=s.heap.push { cls:=.type "tuple",data:=.seq ((items.toList.drop (sIx items.size 0 lo)).take (sIx items.size items.size hi-sIx items.size 0 lo)).toArray } })
 (hsz:items.size<=Qk):wpAny (model prog w) A (getItem (.ref t) (.ref sl)) Q E s:=by
 have htake:sizeOk (.seq ((items.toList.drop (sIx items.size 0 lo)).take (sIx items.size items.size hi-sIx items.size 0 lo)).toArray):=by show((items.toList.drop (sIx items.size 0 lo)).take (sIx items.size items.size hi-sIx items.size 0 lo)).toArray.size<=Qk;rw[Qt,Gj,GK,Km];omega
 have hj:sIx items.size items.size hi<=items.size:=JkQ _ _ (Qq _) hi;obtain⟨os,hos,hcs,hds⟩:=id hs
 have hTs:s.TypeIs (.ref sl) "slice":=⟨os,hos,hcs⟩
 unfold getItem
 try with_reducible refine Gx ?_
 first|refine Qf (Qv ?_)|skip
 refine Qf (wpAny_sequenceKey ht.typeIs (by decide) ?_);refine Qf (GL (name:=Qe "__getitem__") ht.typeIs QW
  (KJ QW ht.typeIs entry_tuple_getitem ?_ (args_tuple_getitem _ _)))
 show wpAny _ _ (K7 (.ref t) >>= _) _ _ s;refine Qf (tupleItemsOf_ ht ?_);refine Qf (Ly hTs ?_);rw[if_pos (by decide)];refine Qf (Uh hs pl pu ?_)
 have hno:¬((((sIx items.size 0 lo:Nat):Int) == 0 && (1:Int) == 1 && (sIx items.size items.size hi-sIx items.size 0 lo) == items.size)=true):=by intro q;rw[Qz,Qz] at q;have q1:((sIx items.size 0 lo:Nat):Int)=0:=eq_of_beq q.1.1;have q2:sIx items.size items.size hi-sIx items.size 0 lo=items.size:=eq_of_beq q.2;exact hw ⟨by omega,by omega⟩
 show wpAny _ _ (if (((sIx items.size 0 lo:Nat):Int) == 0 && (1:Int) == 1 && (sIx items.size items.size hi-sIx items.size 0 lo) == items.size)=true then _ else _) _ _ s;rw[if_neg hno,Jfr]
 first
  | exact Qf (m:=GG _) (Gd (Qv ⟨_,rfl,Qv h⟩) htake)
  | exact Qf (m:=GG _) (Gd (Qf (Qv (Qv ⟨_,rfl,Qv h⟩))) htake)
  | exact Qf (Qf (m:=GG _) (Gd (Qv (Qv ⟨_,rfl,Qv h⟩)) htake))
  | exact Qf (Qf (m:=GG _) (Gd (Qv ⟨_,rfl,Qv h⟩) htake))
end
end HT

namespace L2
open PySem PySem.Spec PyProof.Rows

noncomputable abbrev TO:=St->Hp->(Option Int->Hp->Prop)->Prop
noncomputable def PO(X:Cx)(e:Option QR)(t:TO):Prop :=
 ∀(pins:List (Qc×Obj)) (s:Qd) (σ:St) (H:Hp) (Q:Option Int->Hp->Prop),Inv X pins σ H s->t σ H Q ->
  wpAny (model X.prog X.w) X.A (evalPart e X.env) (fun u s'=>∃o H',Inv X pins σ H' s'/\IsPart u o/\Q o H') X.xe s
noncomputable def Jdk:TO:=fun _ H Q=>Q none H
noncomputable def JiQ(t:TE):TO:=fun σ H Q=>t σ H fun x H1=>∃i,x=.int i/\Q (some i) H1

theorem JbL{ns:List Int}:∀{us:List Qa},Vals (ns.map V.int) us->IntsAre us ns:=by
 induction ns with
 | nil=>intro us r;rw[GF] at r;cases r;exact .nil
 | cons n ns ih =>
  intro us r;rw[Qr] at r
  cases r with
  | cons r1 r2=>obtain⟨t,e⟩:=r1;subst e;exact .cons n t (ih r2)

section
variable{X:Cx}{e:QR}{te:TE}{lo hi:Option QR}{tl th:TO}{pos p2:Pos}

theorem Uo:PO X none Jdk:=by intro pins s σ H Q I h;rw[evalPart_none];exact Qv ⟨none,H,I,.none,h⟩
theorem Up(h:PE X e te):PO X (some e) (JiQ te):=by
 intro pins s σ H Q I hw;rw[evalPart_some];refine thn (h pins s σ H _ I hw) fun u s1 ⟨x,H1,I1,r1,q1⟩=>?_
 obtain⟨i,rfl,q⟩:=q1;obtain⟨t,rfl⟩:=r1;exact⟨some i,H1,I1,.int i t,q⟩

noncomputable def SlR(X:Cx)(r:V->Option Int->Option Int->Hp->VK->Prop):Prop :=
 ∀(pins:List (Qc×Obj)) (s:Qd) (σ:St) (H:Hp) (x:V) (v vl vu:Qa) (lo hi:Option Int) (sl:Qc) (Q:VK),Inv X pins σ H s->RelV x v->s.heap.IsSliceOf sl vl vu .none->IsPart vl lo->IsPart vu hi->r x lo hi H Q ->
  ∃T id,typeLookup (.type T) "__getitem__"=pure (some (.builtin id))/\s.TypeIs v T/\wpAny (model X.prog X.w) X.A (getItem v (.ref sl)) (EP X pins σ Q) X.xe s
theorem SlR.or{r r':V->Option Int->Option Int->Hp->VK->Prop}(h:SlR X r)(h':SlR X r'):SlR X (fun x lo hi H Q=>r x lo hi H Q\/r' x lo hi H Q):=by
 intro pins s σ H x v vl vu lo hi sl Q I rx hs pl pu q;rcases q with q|q
 ·exact h pins s σ H x v vl vu lo hi sl Q I rx hs pl pu q
 ·exact h' pins s σ H x v vl vu lo hi sl Q I rx hs pl pu q
noncomputable def tSl(r:V->Option Int->Option Int->Hp->VK->Prop)(te:TE)(tl th:TO):TE:=fun σ H Q=>te σ H fun x H1=>tl σ H1 fun l H2=>th σ H2 fun u H3=>r x l u H3 Q
theorem YW{r:V->Option Int->Option Int->Hp->VK->Prop}(hr:SlR X r)(he:PE X e te)(hl:PO X lo tl)(hu:PO X hi th):PE X (.Subscript e (.Slice lo hi none p2) pos) (tSl r te tl th):=by
 intro pins s σ H Q I h;refine Subscript_ (thn (he pins s σ H _ I h) fun v s1 ⟨x,H1,I1,r1,q1⟩=>?_);refine wpAny_Slice (thn (hl pins s1 σ H1 _ I1 q1) fun vl s2 ⟨l,H2,I2,pl,q2⟩=>thn (hu pins s2 σ H2 _ I2 q2) fun vu s3 ⟨u,H3,I3,pu,q3⟩=>?_);rw[evalPart_none];refine Qv ?_;have I4:Inv X pins σ H3 { s3 with heap:=s3.heap.push { cls:=.type "slice",data:=.fields #[vl,vu,.none] } }:=I3.kept (t':=s3.toks) fun b ob q=>Qg _ q
 obtain⟨T,id,hT,ht,hg⟩:=hr pins { s3 with heap:=s3.heap.push { cls:=.type "slice",data:=.fields #[vl,vu,.none] } } σ H3 x v vl vu l u s3.heap.objs.size Q I4 r1 (Heap.IsSliceOf.new ..) pl pu q3;show wpAny (model X.prog X.w) X.A (subscriptTail e (.Slice lo hi none p2) v (.ref s3.heap.objs.size)) (EP X pins σ Q) X.xe { s3 with heap:=s3.heap.push { cls:=.type "slice",data:=.fields #[vl,vu,.none] } };exact tail_any (ops:=[.ref s3.heap.objs.size,v]) ht hT hg (by with_unfolding_all rfl)

noncomputable def Zg(xs:List V)(lo hi:Option Int):List V:=(xs.drop (HT.sIx xs.length 0 lo)).take (HT.sIx xs.length xs.length hi-HT.sIx xs.length 0 lo)
theorem V2(xs:List V)(lo hi:Option Int):(Zg xs lo hi).length<=xs.length:=by unfold Zg;rw[Gj,GK];omega
noncomputable def JlY(K:Qn):V->Option Int->Option Int->Hp->VK->Prop:=fun x lo hi H Q=>∃a xs,x=.ref a/\SqT K H a xs ∧
 ¬(HT.sIx xs.length 0 lo=0/\HT.sIx xs.length xs.length hi=xs.length)/\∀p,H p=none->Q (.ref p) (upd H p (.tup (Zg xs lo hi)))
theorem sl_tup:SlR X (JlY X.K):=by
 intro pins s σ H x v vl vu lo hi sl Q I rx hs pl pu h;obtain⟨a,xs,rfl,hx,hw,q⟩:=h;cases rx;obtain⟨its,r,ht,hz⟩:=I.tuple hx;have hlen:its.toArray.size=xs.length:=by rw[Qt];exact r.length.symm
 refine⟨"tuple",_,QW.lookup,ht.typeIs,?_⟩;refine HT.Vj ht hs pl pu (by rw[hlen];exact hw) ?_ (by rw[hlen];exact hz);rw[hlen];refine⟨.ref s.heap.objs.size,_,I.laid (t':=s.toks) (o:=.tup (Zg xs lo hi)) (fun b ob q=>Qg _ q) (Qq _) ?_,rfl,q _ (I.hok.fresh (Qq _))⟩;exact⟨QP (V2 xs lo hi) hz,_,(r.drop (HT.sIx xs.length 0 lo)).take (HT.sIx xs.length xs.length hi-HT.sIx xs.length 0 lo),IsTup.new _ _⟩

noncomputable def JiF(K:Qn):R2:=fun x y H Q=>∃a b xs ys,x=.ref a/\y=.ref b/\SqT K H a xs/\SqT K H b ys/\xs≠[]/\xs.length+ys.length<=Qk ∧
 (ys=[]->Q (.ref a) H)/\(ys≠[]->∀p,H p=none->Q (.ref p) (upd H p (.tup (xs++ys))))
theorem Vals.nil_iff{xs:List V}{us:List Qa}(r:Vals xs us):us=[]↔xs=[]:=by
 cases r with
 | nil=>simp
 | cons _ _=>simp
theorem Jhp:OpR X (binaryOp .Add) (JiF X.K):=by
 intro pins s σ H x y v u Q I rx ry h;obtain⟨a,b,xs,ys,rfl,rfl,ha,hb,hx,hz,q1,q2⟩:=h;cases rx;cases ry;obtain⟨its,r1,p1,_⟩:=I.tuple ha;obtain⟨its2,r2,p2,_⟩:=I.tuple hb;refine HT.Jgp p1 p2 (fun z=>hx (r1.nil_iff.mp z)) (fun z=>⟨.ref a,H,I,rfl,q1 (r2.nil_iff.mp z)⟩) (fun z=>?_) (by rw[<- r1.length,<- r2.length];exact hz);refine⟨.ref s.heap.objs.size,_,I.laid (t':=s.toks) (o:=.tup (xs++ys)) (fun b ob q=>Qg _ q) (Qq _) ?_,rfl,q2 (fun w=>z (r2.nil_iff.mpr w)) _ (I.hok.fresh (Qq _))⟩
 exact⟨by rw[Qu];exact hz,_,r1.append r2,IsTup.new _ _⟩
end
end L2

namespace L2
open PySem PySem.Spec PyProof.Rows

noncomputable def ixN(n:Nat)(i:Int):Option Nat:=if 0<=i then(if i<n then some i.toNat else none) else if -(n:Int)<=i then some (i+n).toNat else none
noncomputable def atI{α:Type}(xs:List α)(i:Int):Option α:=(ixN xs.length i).bind fun j=>xs[j]?
theorem JcI{n:Nat}{i:Int}{j:Nat}(h:ixN n i=some j):seqIndex? i n=some j/\j<n/\-(n:Int)<=i/\i<n:=by
 unfold ixN at h
 by_cases h0:0<=i
 ·rw[if_pos h0] at h
  by_cases h1:i<n
  ·rw[if_pos h1] at h;have e:i.toNat=j:=QL h;exact⟨by rw[seqIndex_of h0 h1,e],by omega,by omega,h1⟩
  ·rw[if_neg h1] at h;cases h
 ·rw[if_neg h0] at h
  by_cases h1:-(n:Int)<=i
  ·rw[if_pos h1] at h;have e:(i+n).toNat=j:=QL h;exact⟨by rw[seqIndex_neg (by omega) h1,e],by omega,h1,by omega⟩
  ·rw[if_neg h1] at h;cases h
theorem ZZ{α:Type}{xs:List α}{i:Int}{v:α}(h:atI xs i=some v):∃j,seqIndex? i xs.length=some j/\xs[j]?=some v/\j<xs.length/\-(xs.length:Int)<=i/\i<xs.length:=by
 unfold atI at h
 cases e:ixN xs.length i with
 | none=>rw[e] at h;cases h
 | some j=>rw[e] at h;obtain⟨h1,h2,h3,h4⟩:=JcI e;exact⟨j,h1,h,h2,h3,h4⟩
noncomputable def Jcj(b:QR):Prop:=∀o i,subscripted b false o i=operate [o,i] (getItem o i)
noncomputable def IxR(X:Cx)(r:R2):Prop :=
 ∀(value slice:QR) (pins:List (Qc×Obj)) (s:Qd) (σ:St) (H:Hp) (x y:V) (v u:Qa) (Q:VK),Inv X pins σ H s->RelV x v->RelV y u->r x y H Q ->
  subscripted slice false v u=operate [v,u] (getItem v u)->wpAny (model X.prog X.w) X.A (subscriptTail value slice v u) (EP X pins σ Q) X.xe s
noncomputable def MtR(X:Cx)(id:String)(r:V->List V->Hp->VK->Prop):Prop :=
 ∀(pins:List (Qc×Obj)) (s:Qd) (σ:St) (H:Hp) (x:V) (xs:List V) (v:Qa) (us:List Qa) (Q:VK),Inv X pins σ H s->RelV x v->Vals xs us->r x xs H Q ->
  wpAny (model X.prog X.w) X.A (call (.builtin id) (v::us)) (EP X pins σ Q) X.xe s
section
variable{X:Cx}{a b:QR}{ta tb:TE}{pos:Pos}
theorem IxR.or{r r':R2}(h:IxR X r)(h':IxR X r'):IxR X (fun x y H Q=>r x y H Q\/r' x y H Q):=by
 intro value slice pins s σ H x y v u Q I rx ry q hs;rcases q with q|q
 ·exact h value slice pins s σ H x y v u Q I rx ry q hs
 ·exact h' value slice pins s σ H x y v u Q I rx ry q hs
theorem MtR.or{id:String}{r r':V->List V->Hp->VK->Prop}(h:MtR X id r)(h':MtR X id r'):MtR X id (fun x xs H Q=>r x xs H Q\/r' x xs H Q):=by
 intro pins s σ H x xs v us Q I rx rs q;rcases q with q|q
 ·exact h pins s σ H x xs v us Q I rx rs q
 ·exact h' pins s σ H x xs v us Q I rx rs q
theorem JlO{r:R2}(hr:IxR X r)(ha:PE X a ta)(hb:PE X b tb)(hs:Jcj b):PE X (.Subscript a b pos) (tOp r ta tb):=by intro pins s σ H Q I h;exact Subscript_ (Ji3 ha hb I h fun v u s2 x y H2 I2 rx ry q=>hr a b pins s2 σ H2 x y v u Q I2 rx ry q (hs _ _))

noncomputable def JlS(K:Qn):R2:=fun x y H Q=>∃p xs i v,x=.ref p/\y=.int i/\SqL K H p xs/\atI xs i=some v/\Q v H
noncomputable def JlU(K:Qn):R2:=fun x y H Q=>∃p xs i v,x=.ref p/\y=.int i/\SqT K H p xs/\atI xs i=some v/\Q v H
noncomputable def JlT:R2:=fun x y H Q=>∃z i c,x=.str z/\y=.int i/\z.length<=Qk/\atI z.cps.toList i=some c/\Q (.str ⟨#[c]⟩) H
theorem ix_list:IxR X (JlS X.K):=by
 intro value slice pins s σ H x y v u Q I rx ry h hs;obtain⟨p,xs,i,z,rfl,rfl,hq,he,q⟩:=h;cases rx;obtain⟨t,rfl⟩:=ry;obtain⟨its,r,pl,hz⟩:=I.list hq;obtain⟨j,h1,h2,h3,h4,h5⟩:=ZZ he;obtain⟨w,ew,rw'⟩:=r.get h2;have hl:=r.length;have hn:=VI;have fin:EP X pins σ Q w s:=⟨z,H,I,rw',q⟩
 by_cases h0:0<=i
 ·have hj:i.toNat=j:=by rw[seqIndex_of h0 h5] at h1;exact QL h1
  exact item_listR pl.isList h0 (by omega) (by rw[hj];simpa using ew) fin hs
 ·have hj:(i+(its.toArray.size:Int)).toNat=j:=by rw[seqIndex_neg (by omega) h4] at h1;rw[Qt,<- hl];exact QL h1
  exact subscriptTail_builtinR (x:=w) pl.isList.typeIs slot_list_getitem.lookup
   (wpAny_getItem_list_neg (Q:=fun r s'=>r=w/\EP X pins σ Q r s') pl.isList (by omega) (by rw[Qt] <;> omega) (by omega) (by rw[hj];simpa using ew) ⟨rfl,fin⟩) hs
theorem ix_tup:IxR X (JlU X.K):=by
 intro value slice pins s σ H x y v u Q I rx ry h hs;obtain⟨p,xs,i,z,rfl,rfl,hq,he,q⟩:=h;cases rx;obtain⟨t,rfl⟩:=ry;obtain⟨its,r,pl,hz⟩:=I.tuple hq;obtain⟨j,h1,h2,h3,h4,h5⟩:=ZZ he;obtain⟨w,ew,rw'⟩:=r.get h2;have hl:=r.length;have hn:=VI;have fin:EP X pins σ Q w s:=⟨z,H,I,rw',q⟩
 exact subscriptTail_builtinR (x:=w) pl.typeIs slot_tuple_getitem.lookup
  (getItem_tuple (j:=j) (Q:=fun r s'=>r=w/\EP X pins σ Q r s') pl (by omega) (by omega) (by rw[Qt,<- hl];exact h1) (by simpa using ew) ⟨rfl,fin⟩) hs
theorem JjE:IxR X JlT:=by
 intro value slice pins s σ H x y v u Q I rx ry h hs;obtain⟨z,i,c,rfl,rfl,hz,he,q⟩:=h;obtain⟨t,rfl⟩:=rx;obtain⟨t',rfl⟩:=ry;obtain⟨j,h1,h2,h3,h4,h5⟩:=ZZ he;have hl:z.cps.toList.length=z.length:=by simp[Mg]
 rw[hl] at h1 h4 h5;have hn:=VI;exact tail_any (typeIs_str s z t) slot_str_getitem.lookup (getItem_str (c:=c) (by
  have e1:decide (i < -(2 ^ 63:Int))=false:=decide_eq_false (by omega)
  have e2:decide (i ≥ 2 ^ 63)=false:=decide_eq_false (by omega);rw[e1,e2,Bool.or_false]) (by rw[h1];simpa using h2) ⟨.str ⟨#[c]⟩,H,I.tok _,⟨_,rfl⟩,q⟩) hs
noncomputable def rIx(K:Qn):R2:=fun x y H Q=>JlS K x y H Q\/JlU K x y H Q\/JlT x y H Q
theorem JjD:IxR X (rIx X.K):=ix_list.or (ix_tup.or JjE)

theorem JbS(its:List Qa)(n j:Nat)(u:Qa):Lz (·.setIfInBounds j u) { cls:=.type "list",data:=.seq its.toArray n }={ cls:=.type "list",data:=.seq (its.set j u).toArray n }:=by simp[Lz]
theorem Inv.lst{pins:List (Qc×Obj)}{σ:St}{H:Hp}{s:Qd}{p:Qc}{xs:List V}(I:Inv X pins σ H s)(h:H p=some (.lst xs)) :
 ∃(its:List Qa) (n:Nat),Vals xs its/\s.heap.get? p=some { cls:=.type "list",data:=.seq its.toArray n }/\xs.length<=Qk:=by
 obtain⟨z,its,n,r,e⟩:=I.hok p _ h;exact⟨its,n,r,e,z⟩
theorem Inv.lstUpd{pins:List (Qc×Obj)}{σ:St}{H:Hp}{s:Qd}{p:Qc}{xs ys:List V}{its its':List Qa}{n n':Nat}{f:Obj->Obj}(I:Inv X pins σ H s)(h:H p=some (.lst xs))
 (ho:s.heap.get? p=some { cls:=.type "list",data:=.seq its.toArray n }) (hf:f { cls:=.type "list",data:=.seq its.toArray n }={ cls:=.type "list",data:=.seq its'.toArray n' }) (r:Vals ys its') (hz:ys.length<=Qk) (t:Nat) :
 Inv X pins σ (upd H p (.lst ys)) { s with heap:=s.heap.update p f,toks:=t }:=by
 have e:(s.heap.update p f).get? p=some { cls:=.type "list",data:=.seq its'.toArray n' }:=by rw[Gg f ho (by rw[hf] <;> rfl),hf]
 refine I.write (x:=p) (e:=p) (by rw[h];trivial) (.inl rfl) (fun b u hb q=>(QV _ _ (Q0 hb)).trans q) ⟨_,e⟩ ?_;exact⟨hz,its',n',r,e⟩
noncomputable def JiJ:V->V->V->Hp->(Hp->Prop)->Prop:=fun o i v H Q=>∃p xs k j,o=.ref p/\i=.int k/\H p=some (.lst xs)/\ixN xs.length k=some j/\Q (upd H p (.lst (xs.set j v)))
theorem W0:Jlk X JiJ:=by
 intro pins s σ H o i v ov iv u Q I ro ri rv h;obtain⟨p,xs,k,j,rfl,rfl,hp,hj,q⟩:=h;cases ro;obtain⟨t,rfl⟩:=ri;obtain⟨its,n,r,ho,hz⟩:=I.lst hp;obtain⟨h1,h2,h3,h4⟩:=JcI hj;have hl:=r.length;have hn:=VI
 have I':Inv X pins σ (upd H p (.lst (xs.set j v))) { s with heap:=s.heap.update p (Lz (·.setIfInBounds j u)) } :=
  I.lstUpd hp ho (JbS its n j u) (r.set rv j) (by rw[Kx];exact hz) s.toks
 by_cases h0:0<=k
 ·have hk:k.toNat=j:=by rw[seqIndex_of h0 h4] at h1;exact QL h1
  exact PySem.W.ki_setAt ho h0 (by omega) (by rw[Qt,<- hl];exact h4) (by rw[hk];exact⟨_,I',q⟩)
 ·have hk:(k+(its.toArray.size:Int)).toNat=j:=by rw[seqIndex_neg (by omega) h3] at h1;rw[Qt,<- hl];exact QL h1
  exact PySem.W.ki_setBack ho (by omega) (by rw[Qt,<- hl];exact h3) (by omega) (by rw[hk];exact⟨_,I',q⟩)

theorem Jas(lo hi:Option Int)(n:Nat):(sliceBounds lo hi none n).1=((HT.sIx n 0 lo:Nat):Int)/\(sliceBounds lo hi none n).2.1=((HT.sIx n n hi:Nat):Int)/\(sliceBounds lo hi none n).2.2=1:=by
 refine⟨?_,?_,rfl⟩
 ·cases lo with
  | none=>simp[sliceBounds,HT.sIx]
  | some i =>
   simp only[sliceBounds,HT.sIx,Option.getD_none,show(1:Int)>0 by decide,if_true]
   by_cases h:i<0
   ·simp only[h,if_true] <;> omega
   ·simp only[h,if_false] <;> omega
 ·cases hi with
  | none=>simp[sliceBounds,HT.sIx]
  | some i =>
   simp only[sliceBounds,HT.sIx,Option.getD_none,show(1:Int)>0 by decide,if_true]
   by_cases h:i<0
   ·simp only[h,if_true] <;> omega
   ·simp only[h,if_false] <;> omega
theorem Zn(its:List Qa)(lo hi:Option Int):slicePick its.toArray lo hi none=((its.drop (HT.sIx its.length 0 lo)).take (HT.sIx its.length its.length hi-HT.sIx its.length 0 lo)).toArray:=by obtain⟨h1,h2,h3⟩:=Jas lo hi its.toArray.size;unfold slicePick;rw[h1,h2,h3];simp only[sliceRange_one,pick_run,Qt] <;> rfl
noncomputable def JlW(K:Qn):V->Option Int->Option Int->Hp->VK->Prop:=fun x lo hi H Q=>∃a xs,x=.ref a/\SqL K H a xs/\∀p,H p=none->Q (.ref p) (upd H p (.lst (Zg xs lo hi)))
theorem sl_list:SlR X (JlW X.K):=by
 intro pins s σ H x v vl vu lo hi sl Q I rx hs pl pu h;obtain⟨a,xs,rfl,hx,q⟩:=h;cases rx;obtain⟨its,r,ht,hz⟩:=I.list hx;have hlen:=r.length;refine⟨"list",_,slot_list_getitem.lookup,ht.isList.typeIs,?_⟩;refine wpAny_getItem_list_slice ht.isList hs pl pu .none (by simp) ?_ (by rw[Qt] <;> omega);rw[Zn,<- hlen];refine⟨.ref s.heap.objs.size,_,I.laid (t':=s.toks) (o:=.lst (Zg xs lo hi)) (fun b ob q=>Qg _ q) (Qq _) ?_,rfl,q _ (I.hok.fresh (Qq _))⟩
 exact⟨QP (V2 xs lo hi) hz,_,0,(r.drop (HT.sIx xs.length 0 lo)).take (HT.sIx xs.length xs.length hi-HT.sIx xs.length 0 lo),QH _ rfl⟩

noncomputable def Vh:V->Bool
 | .non=>true
 | .bl _=>true
 | .int _=>true
 | .str _=>true
 | _=>false
noncomputable def eqV:V->V->Bool
 | .non,.non=>true
 | .bl a,.bl b=>a == b
 | .bl a,.int b=>(if a then 1 else 0) == b
 | .int a,.bl b=>a == (if b then 1 else 0)
 | .int a,.int b=>a == b
 | .str a,.str b=>a == b
 | _,_=>false
theorem Jev{A:Qw}{s:Qd}{y x:V}{u v:Qa}(ry:RelV y u)(rx:RelV x v)(fy:Vh y=true)(fx:Vh x=true):SeqAt.EqAt A s u v (eqV y x):=by
 cases y with
 | non =>
  cases ry
  cases x with
  | non=>cases rx;exact SeqAt.EqAt.same _
  | bl b=>cases rx;exact SeqAt.EqAt.none_bool b
  | int b=>obtain⟨t,rfl⟩:=rx;exact SeqAt.EqAt.none_int b t
  | str b=>obtain⟨t,rfl⟩:=rx;exact SeqAt.EqAt.none_str b t
  | _=>exact absurd (show false=true from fx) Qx
 | bl a =>
  cases ry
  cases x with
  | non=>cases rx;exact SeqAt.EqAt.bool_none a
  | bl b=>cases rx;exact SeqAt.EqAt.bool_bool a b
  | int b=>obtain⟨t,rfl⟩:=rx;exact SeqAt.EqAt.bool_int a b t
  | str b=>obtain⟨t,rfl⟩:=rx;exact SeqAt.EqAt.bool_str a b t
  | _=>exact absurd (show false=true from fx) Qx
 | int a =>
  obtain⟨t',rfl⟩:=ry
  cases x with
  | non=>cases rx;exact L9 a t'
  | bl b=>cases rx;exact SeqAt.EqAt.int_bool a t' b
  | int b=>obtain⟨t,rfl⟩:=rx;exact SeqAt.EqAt.int_int a t' b t
  | str b=>obtain⟨t,rfl⟩:=rx;exact Md a t' b t
  | _=>exact absurd (show false=true from fx) Qx
 | str a =>
  obtain⟨t',rfl⟩:=ry
  cases x with
  | non=>cases rx;exact SeqAt.EqAt.str_none a t'
  | bl b=>cases rx;exact SeqAt.EqAt.str_bool a t' b
  | int b=>obtain⟨t,rfl⟩:=rx;exact Me a t' b t
  | str b=>obtain⟨t,rfl⟩:=rx;exact SeqAt.EqAt.str_str a t' b t
  | _=>exact absurd (show false=true from fx) Qx
 | _=>exact absurd (show false=true from fy) Qx
noncomputable def eqU(x:V)(u:Qa):Bool:=match u with
 | .none=>eqV .non x
 | .bool b=>eqV (.bl b) x
 | .int i _=>eqV (.int i) x
 | .str z _=>eqV (.str z) x
 | _=>false
theorem Jex{x y:V}{u:Qa}(r:RelV y u)(f:Vh y=true):eqU x u=eqV y x:=by
 cases y with
 | non=>cases r;rfl
 | bl b=>cases r;rfl
 | int i=>obtain⟨t,rfl⟩:=r;rfl
 | str z=>obtain⟨t,rfl⟩:=r;rfl
 | _=>exact absurd (show false=true from f) Qx
theorem ZY{x:V}:∀{xs:List V} {us:List Qa},Vals xs us->xs.all Vh=true->us.any (eqU x)=xs.any fun y=>eqV y x
 | _,_,.nil,_=>rfl
 | y::xs,u::us,.cons r t,f=>by rw[Kq,Qz] at f;rw[Q9,Q9,Jex r f.1,ZY t f.2]
theorem WL{A:Qw}{s:Qd}{x:V}{v:Qa}(rx:RelV x v)(fx:Vh x=true):∀{xs:List V} {us:List Qa},Vals xs us->xs.all Vh=true->∀u∈us,SeqAt.EqAt A s u v (eqU x u)
 | _,_,.nil,_=>fun u hu=>by cases hu
 | y::xs,u::us,.cons r t,f=>fun u' hu=>by
  rw[Kq,Qz] at f;rcases Qm.mp hu with rfl|hu
  ·rw[Jex r f.1];exact Jev r rx f.1 fx
  ·exact WL rx fx t f.2 u' hu
noncomputable def inV(x:V)(xs:List V):Bool:=xs.any fun y=>eqV y x
noncomputable def rIn(K:Qn)(neg:Bool):R2:=fun x y H Q=>∃p xs,y=.ref p/\(SqL K H p xs\/SqT K H p xs)/\Vh x=true/\xs.all Vh=true/\Q (.bl (if neg then !inV x xs else inV x xs)) H
theorem JdT:OpR X (compareOp .In) (rIn X.K false):=by
 intro pins s σ H x y v u Q I rx ry h;obtain⟨p,xs,rfl,hq,fx,fs,q⟩:=h;cases ry;rcases hq with hq|hq
 ·obtain⟨its,r,pl,hz⟩:=I.list hq;refine SeqAt.in_listAt (eqU x) pl.isList (fun w hw=>WL rx fx r fs w (by simpa using hw)) ⟨.bl _,H,I,rfl,?_⟩;rw[show its.toArray.any (eqU x)=its.any (eqU x) by simp,ZY r fs];exact q
 ·obtain⟨its,r,pl,hz⟩:=I.tuple hq;refine SeqAt.in_tupleAt (eqU x) pl (fun w hw=>WL rx fx r fs w (by simpa using hw)) ⟨.bl _,H,I,rfl,?_⟩;rw[show its.toArray.any (eqU x)=its.any (eqU x) by simp,ZY r fs];exact q
theorem CallR.or{f:Qa}{r r':List V->Hp->VK->Prop}(h:CallR X f r)(h':CallR X f r'):CallR X f (fun xs H Q=>r xs H Q\/r' xs H Q):=by
 intro pins s σ H xs us Q I rs q;rcases q with q|q
 ·exact h pins s σ H xs us Q I rs q
 ·exact h' pins s σ H xs us Q I rs q
theorem Z1:CallR X (.type "list") (fun xs H Q=>∃p ys,xs=[.ref p]/\(SqL X.K H p ys\/SqT X.K H p ys)/\∀l,H l=none->Q (.ref l) (upd H l (.lst ys))):=by
 intro pins s σ H xs us Q I r h;obtain⟨p,ys,rfl,hq,q⟩:=h;obtain⟨u,rfl,rx⟩:=Vx r;cases rx
 have fin:∀(its:List Qa),Vals ys its->ys.length<=Qk->∀(h':QI) (c':Nat),(∀b o',s.heap.get? b=some o'->h'.get? b=some o') ->
  h'.get? s.heap.objs.size=some { cls:=.type "list",dict:=none,data:=.seq its.toArray c',slots:=#[] }->EP X pins σ Q (.ref s.heap.objs.size) { s with heap:=h' }:=fun its r' hz h' c' kp e =>
  ⟨.ref s.heap.objs.size,_,I.laid (t':=s.toks) kp (Qq _) (show ObjOk X.prog X.w _ h' _ (.lst ys) from⟨hz,its,c',r',e⟩),rfl,q _ (I.hok.fresh (Qq _))⟩
 rcases hq with hq|hq
 ·obtain⟨its,r',pl,hz⟩:=I.list hq;have hlen:=r'.length;obtain⟨o,ho,hc,n,hd⟩:=pl.isList;exact call_list_seq p (.inl rfl) ho hc hd (fun h' c' kp e=>fin its r' hz h' c' kp e) (by simp only[Qt] <;> omega)
 ·obtain⟨its,r',pl,hz⟩:=I.tuple hq;have hlen:=r'.length;obtain⟨o,ho,hc,n,hd⟩:=pl;exact call_list_seq p (.inr rfl) ho hc hd (fun h' c' kp e=>fin its r' hz h' c' kp e) (by simp only[Qt] <;> omega)
theorem Zf:CallR X (.type "tuple") (fun xs H Q=>∃p ys,xs=[.ref p]/\((SqL X.K H p ys/\∀l,H l=none->Q (.ref l) (upd H l (.tup ys)))\/(SqT X.K H p ys/\Q (.ref p) H))):=by
 intro pins s σ H xs us Q I r h;obtain⟨p,ys,rfl,h⟩:=h;obtain⟨u,rfl,rx⟩:=Vx r;cases rx;rcases h with ⟨hq,q⟩|⟨hq,q⟩
 ·obtain⟨its,r',pl,hz⟩:=I.list hq;have hlen:=r'.length;refine call_tuple_list pl.isList (fun h' kp=>?_) (by simp only[Qt] <;> omega);have I1:Inv X pins σ H { s with heap:=h' }:=I.kept (t':=s.toks) kp
  have I2:Inv X pins σ (upd H h'.objs.size (.tup ys)) { s with heap:=h'.push { cls:=.type "tuple",data:=.seq its.toArray } } :=
   I1.laid (t':=s.toks) (fun b o e=>Qg _ e) (Qq _) (show ObjOk X.prog X.w _ _ _ (.tup ys) from⟨hz,its,r',IsTup.new _ _⟩)
  exact⟨.ref h'.objs.size,_,I2,rfl,q _ (I1.hok.fresh (Qq _))⟩
 ·obtain⟨its,r',pl,hz⟩:=I.tuple hq;exact call_tuple_same pl ⟨.ref p,H,I,rfl,q⟩

noncomputable def tyV(K:Qn)(T:String)(x:V)(H:Hp):Prop:=match x with
 | .str _=>T="str"
 | .int _=>T="int"
 | .ref p=>(T="list"/\∃xs,SqL K H p xs)\/(T="tuple"/\∃o,K.lookup p=some o/\o.cls=.type "tuple"/\o.dict=none) ∨
  (T="dict"/\((∃kvs,H p=some (.dK kvs))\/∃kvs,H p=some (.dT kvs)))\/(T="set"/\∃S n,H p=some (.set S n))
 | _=>False
theorem Jk7{pins:List (Qc×Obj)}{σ:St}{H:Hp}{s:Qd}{T:String}{x:V}{v:Qa}(I:Inv X pins σ H s)(r:RelV x v)(ty:tyV X.K T x H) :
 s.TypeIs v T/\∀a,v=.ref a->∃ob,s.heap.get? a=some ob/\ob.dict=none:=by
 cases x with
 | str z=>obtain⟨t,rfl⟩:=r;cases (show T="str" from ty);exact⟨typeIs_str s z t,fun _ e=>nomatch e⟩
 | int i=>obtain⟨t,rfl⟩:=r;cases (show T="int" from ty);exact⟨typeIs_int s i t,fun _ e=>nomatch e⟩
 | ref p =>
  cases r;rcases ty with ⟨rfl,xs,hq⟩|⟨rfl,o,hk,hc,hd⟩|⟨rfl,hk⟩|⟨rfl,S,n,hk⟩
  ·obtain⟨its,_,pl,_⟩:=I.list hq;refine⟨pl.isList.typeIs,fun a e=>?_⟩;cases e;obtain⟨o,n,e,c,hd,_⟩:=pl;exact⟨o,e,hd⟩
  ·refine⟨⟨o,I.kIn p o hk,hc⟩,fun a e=>?_⟩;cases e;exact⟨o,I.kIn _ o hk,hd⟩
  ·have z:∃o,s.heap.get? p=some o/\o.ExactDict:=by
    rcases hk with ⟨kvs,hk⟩|⟨kvs,hk⟩
    ·obtain⟨_,_,_,_,o,_,_,e,ex,_⟩:=I.hok p _ hk;exact⟨o,e,ex⟩
    ·obtain⟨_,_,_,_,o,_,_,e,ex,_⟩:=I.hok p _ hk;exact⟨o,e,ex⟩
   obtain⟨o,e,ex⟩:=z;refine⟨⟨o,e,ex.1⟩,fun a e2=>?_⟩;cases e2;exact⟨o,e,ex.2.1⟩
  ·obtain⟨o,_,_,_,e,ex,_⟩:=I.hok p _ hk;refine⟨⟨o,e,ex.1⟩,fun a e2=>?_⟩;cases e2;exact⟨o,e,ex.2.1⟩
 | _=>exact QT ty
noncomputable def tBM(K:Qn)(T:String)(r:V->List V->Hp->VK->Prop)(to:TE)(t:TA):TE:=fun σ H Q=>to σ H fun x H1=>tyV K T x H1/\t σ H1 fun xs H2=>r x xs H2 Q
variable{o e:QR}{es:List QR}{to:TE}{t:TA}{name:Str}{apos cpos:Pos}{T id:String}{r:V->List V->Hp->VK->Prop}
theorem JlN(pa:PlainAttrs T)(slot:Slot T name id)(hty:typeOf (.builtin id)=pure (.type "method_descriptor"))(hm:MtR X id r)(ho:PE X o to)(ha:PA X (e::es) t)
 (hbase:attributeBase o name X.env (eval o X.env)=eval o X.env:=by rfl)
 (hfew:((backTo cpos (starEach (e::es) X.env)).all (fun x=>!x.1) && (backToKw cpos (keywordEach [] X.env)).all (fun x=>x.1.isSome)
  && decide ((e::es).length+([]:List Lc).length+(if ([]:List Lc).isEmpty then 0 else 1)<30))=true:=by rfl)
 (hline:(apos.endLine == cpos.line)=true:=by rfl) (hs:starEach (e::es) X.env=(false,eval e X.env)::starEach es X.env:=by rfl) (hplain:(backTo cpos (starEach es X.env)).any (·.1)=false:=by rfl) :
 PE X (.Call (.Attribute o name apos) (e::es) [] cpos) (tBM X.K T r to t):=by
 intro pins s σ H Q I h;refine wpAny_Call_method_late hbase hfew hline rfl (thn (ho pins s σ H _ I h) fun v s1 ⟨x,H1,I1,r1,ty,q1⟩=>?_);obtain⟨h1,h2⟩:=Jk7 I1 r1 ty;refine⟨T,id,pa,slot,hty,h1,h2,?_⟩;have hA:=ha cpos pins s1 σ H1 _ I1 q1;rw[hs] at hA ⊢;refine LA (by show(false || (backTo cpos (starEach es X.env)).any (·.1))=false;rw[hplain] <;> rfl) (G6 ?_);exact thn hA fun us s2 ⟨vs,H2,I2,r2,q2⟩=>hm pins s2 σ H2 x vs v us Q I2 r1 r2 q2
/- xs.append(e),list.index on a module's tuple .. are MtR facts of 06m -/
end
end L2

namespace L2
open PySem PySem.Spec PyProof.Rows

noncomputable def MtM(X:Cx)(id:String)(r:V->List V->Hp->VK->Prop):Prop :=
 ∀(pins:List (Qc×Obj)) (s:Qd) (σ:St) (H:Hp) (x:V) (xs:List V) (v:Qa) (us:List Qa) (Q:VK),Inv X pins σ H s->RelV x v->Vals xs us->r x xs H Q ->
  wpAny (model X.prog X.w) X.A (call (.builtin id) (v::us)) (EP X pins σ Q) X.xe s

theorem Vals.one:∀{x:V} {us:List Qa},Vals [x] us->∃u,us=[u]/\RelV x u
 | _,_,.cons r .nil=>⟨_,rfl,r⟩
theorem Vals.two:∀{x y:V} {us:List Qa},Vals [x,y] us->∃u v,us=[u,v]/\RelV x u/\RelV y v
 | _,_,_,.cons r (.cons q .nil)=>⟨_,_,rfl,r,q⟩
theorem Vals.zero:∀{us:List Qa},Vals [] us->us=[]
 | _,.nil=>rfl
theorem Vals.reverse{xs:List V}{us:List Qa}(h:Vals xs us):Vals xs.reverse us.reverse:=by
 induction h with
 | nil=>exact .nil
 | cons r t ih=>rw[List.reverse_cons,List.reverse_cons];exact Vals.append ih (.cons r .nil)
theorem Vals.rep{xs:List V}{us:List Qa}(h:Vals xs us):∀k:Nat,Vals (QK k xs).flatten (QK k us).flatten
 | 0=>.nil
 | k+1=>by rw[Gs,Gs,Ge,Ge];exact Vals.append h (Vals.rep h k)
section
variable{X:Cx}{pins:List (Qc×Obj)}{σ:St}{H:Hp}{s:Qd}{l b:Qc}{xs ys zs:List V}

theorem Inv.lset{its its':List Qa}{n:Nat}{f:Array Qa->Array Qa}{t':Nat}(I:Inv X pins σ H s)(hH:H l=some (.lst xs))
 (e:s.heap.get? l=some { cls:=.type "list",data:=.seq its.toArray n }) (hf:f its.toArray=its'.toArray) (hv:Vals ys its') (hz:ys.length<=Qk) :
 Inv X pins σ (upd H l (.lst ys)) { s with heap:=s.heap.update l (Lz f),toks:=t' }:=by
 have q:=PySem.IsL.update e f;rw[hf] at q;refine I.write (x:=l) (e:=l) (by rw[hH];exact trivial) (.inl rfl) (fun b' u hb hu=>(QV s.heap (Lz f) (Q0 hb)).trans hu) ⟨_,q⟩ ?_;exact⟨hz,its',_,hv,q⟩
theorem Inv.lnew{its:List Qa}{t':Nat}(I:Inv X pins σ H s)(hv:Vals ys its)(hz:ys.length<=Qk) :
 Inv X pins σ (upd H s.heap.objs.size (.lst ys)) { s with heap:=s.heap.push { cls:=.type "list",data:=.seq its.toArray },toks:=t' } :=
 I.laid (fun _ _ q=>Qg _ q) (Qq _) ⟨hz,its,0,hv,QH _ rfl⟩
theorem Inv.fresh(I:Inv X pins σ H s):H s.heap.objs.size=none:=I.hok.fresh (Qq _)
theorem Inv.lstM(I:Inv X pins σ H s)(hH:H l=some (.lst xs)):xs.length<=Qk/\∃(its:List Qa) (n:Nat),Vals xs its/\xs.length=its.length/\s.heap.get? l=some { cls:=.type "list",data:=.seq its.toArray n }:=by obtain⟨z,its,n,r,e⟩:=I.hok l _ hH;exact⟨z,its,n,r,r.length,e⟩

end

section
variable{X:Cx}

noncomputable def Jc2:V->List V->Hp->VK->Prop:=fun x vs H Q=>∃l xs y,x=.ref l/\vs=[y]/\H l=some (.lst xs)/\xs.length<Qk/\Q .non (upd H l (.lst (xs++[y])))
theorem ZI:MtM X "list.append" Jc2:=by intro pins s σ H x vs v us Q I rx rv h;obtain⟨l,xs,y,rfl,rfl,hH,hz,q⟩:=h;cases rx;obtain⟨u,rfl,ru⟩:=rv.one;obtain⟨z,its,n,r,hl,e⟩:=I.lstM hH;refine call_meets F.slot_list_append ⟨_,e,rfl⟩ F.entry_list_append (F.args_list_append_2 _ _) (PySem.list_append l its.toArray n u (by rw[Qt];omega)) ⟨e,?_⟩;refine⟨.non,_,I.lset (its':=its++[u]) hH e (by simp) (r.append (.cons ru .nil)) ?_,rfl,q⟩;rw[Qu,GS];omega

noncomputable def JlP:R2:=fun x y H Q=>∃l b xs zs,x=.ref l/\y=.ref b/\H l=some (.lst xs)/\H b=some (.lst zs)/\xs.length+zs.length<=Qk/\∀p,H p=none->Q (.ref p) (upd H p (.lst (xs++zs)))
theorem Jj1:OpR X (binaryOp .Add) JlP:=by
 intro pins s σ H x y v u Q I rx ry h;obtain⟨l,b,xs,zs,rfl,rfl,hH,hB,hz,q⟩:=h;cases rx;cases ry;obtain⟨z,its,n,r,hl,e⟩:=I.lstM hH;obtain⟨z2,its2,n2,r2,hl2,e2⟩:=I.lstM hB;refine PySem.P.add_list e e2 ?_ (by rw[Qt,Qt];omega);have ea:its.toArray++its2.toArray=(its++its2).toArray:=by simp
 rw[ea];exact⟨.ref _,_,I.lnew (t':=s.toks) (r.append r2) (by rw[Qu];omega),rfl,q _ I.fresh⟩
end

section
variable{prog:Qo}{w:QC}{A:Qw}{E:Qa->Qd->Prop}{s:Qd}
end

section
variable{X:Cx}
end
end L2

namespace Att
open PySem PySem.W PySem.Calls PyProof.Rows

theorem V9{P:Params}{h:QI}:∀(ns:List Int) (vs:List Qa),WellAll P h vs (ns.map WData.int)->IntsAre vs ns:=by
 intro ns
 induction ns with
 | nil=>intro vs w;rw[GF] at w;cases w;exact .nil
 | cons n ns ih =>
  intro vs w;rw[Qr] at w
  cases w with
  | cons a b=>cases a;exact .cons _ _ (ih _ b)

theorem Jd1{l:OpenLaw}{n:Nat}(hn:l.most=some n){P:Params}{h:QI}{args:List WData}{vals:List Qa}
 (hpre:l.row.toRowW.claim.pre args=true) (hwl:WellAll P h vals args) :
 ∃a vs ns,vals=[Value.ref a]/\args=[WData.list (ns.map WData.int)]/\h.get? a=some { cls:=.type "list",data:=.seq vs.toArray }/\IntsAre vs ns/\ns.length<=n:=by
 have hsh:WShape.hasAll [] args [.list .int]=true:=(pre_splitW hpre).1
 have hc:l.pre.holds [] { args:=args }=true:=(pre_splitW hpre).2;obtain⟨d,r,rfl,h1,h2⟩:=hasAllW_cons hsh;obtain rfl:=hasAllW_nil h2;obtain⟨xs,rfl,h3⟩:=hasW_list h1;obtain⟨ns,rfl⟩:=items_int h3
 have hlen:ns.length<=n:=by
  unfold OpenLaw.pre at hc
  have h4:(WTm.not (.lt (.lit (.int (n:Int))) (.len (.arg 0)))).holds [] { args:=[.list (ns.map .int)] }=true:=by have h4:=(holds_andW hc).1;rw[hn] at h4;exact h4
  have h5:=condW_of h4 (w_not (w_lt w_lit (w_len_list (w_arg rfl))));rw[QB] at h5;refine Nat.le_of_not_lt fun q=>?_
  have q':(n:Int)<((ns.length:Nat):Int):=by omega
  first
   | (rw[decide_eq_true q'] at h5;exact absurd h5 (by decide))
   | (simp at h5;omega)
 cases hwl with
 | cons w1 w2 =>
  cases w2
  cases w1 with
  | list ho hall=>exact⟨_,_,ns,rfl,rfl,ho,V9 ns _ hall,hlen⟩

theorem JdW(l:OpenLaw)(args:List WData):l.row.toRowW.claim.post args (.bool true) args=true :=
 postW_of (r:=l.row.toRowW) (X:=(true == true))
  (show WShape.has [] (.bool true) .bool=true by first|rfl|decide|simp[WShape.has,WShape.arms,WShape.armsAll])
  (show(WTm.eq .res (.lit (.bool true))).value [] { args:=args,res:=some (.bool true),after:=args }=some (.bool (true == true)) from w_eq_bool (w_res rfl) w_lit) rfl

theorem attach_call{l:OpenLaw}{n:Nat}{q:Qo}{loose:List Str}{XP:(Str->Option Qa)->QI->Prop}{YP:QC->QI->Prop}{d:DefRec}
 (hn:l.most=some n) (hdf:d.params.defaults=[])
 (call:∀(w:QC) (s₀ s₁:Qd) (mg mb:Str->Option Qa) (fa:Qc) (o:Obj) (pm cd doc:Qa) (a:Qc) (vs:List Qa) (ns:List Int),
  Ground q loose [] XP w s₀ mg mb s₁.heap->YP w s₁.heap ->
  s₁.heap.get? fa=some o->o.data=.func (docDef d.name d.params d.body d.scope pm cd doc)->s₁.heap.CodeRec cd d.name->mg d.name=some (.ref fa) ->
  s₁.heap.get? a=some { cls:=.type "list",data:=.seq vs.toArray }->IntsAre vs ns->ns.length<=n->s₁.gens=#[] ->
  codeAny (model l.prog w) callerA (.call (.ref fa) ⟨[.ref a],[]⟩) (fun r s'=>r=.ok (.ret (.bool true))/\OldK s₁.heap s'.heap/\s'.os=s₁.os/\AllBare s'.gens) s₁) :
 WalkO q loose XP YP l.row.toRowW d [] (fun f vs=>PySem.call f vs):=by
 intro w s₀ s₁ mg mb G Y fa o pm cd doc dV kV ho hd hcd hD hmg hg args vals as hpre hlay hrd hwl hlo;obtain rfl:dV=.none:=Dflts.none hD hdf;obtain rfl:kV=.none:=Dflts.noKw hD;obtain⟨a,vs,ns,rfl,rfl,hobj,hints,hlen⟩:=Jd1 hn hpre hwl;refine enter_call (KE (call w s₀ s₁ mg mb fa o pm cd doc a vs ns G Y ho (fd_plain hd) hcd hmg hobj hints hlen hg) fun r s' hq=>?_);obtain⟨rfl,h2,h3,h4⟩:=hq;exact⟨.inl ⟨.bool true,.bool true,[],rfl,fun _=>rfl,.bool true,JdW l _,fun _=>⟨List.Pairwise.nil,fun _ hm=>(nomatch hm)⟩⟩,h2,h3,h4⟩

section
variable{prog:Qo}{w:QC}{A:Qw}{E:Qa->Qd->Prop}{s:Qd}{K:Qn}

end
end Att

namespace L2
open PySem PySem.Spec PyProof.Rows

theorem ZV:∀{vs:List Qa} {ns:List Int},IntsAre vs ns->Vals (ns.map V.int) vs
 | _,_,.nil=>.nil
 | _,_,.cons n t h=>.cons ⟨t,rfl⟩ (ZV h)

noncomputable def JiY(H:Hp):Prop:=∀b,H b=none\/∃o xs,H b=some (.frz o (.lst xs))

theorem Je5{P:Qo}{w:QC}{K:Qn}{mg mb:Str->Option Qa}{CX:CXT}{k:Nat}{fa a:Qc}{fd:QE}{x:Str}{sp:Sp}{s₁:Qd}{vs:List Qa}{ns:List Int}
 (KX:K.In s₁.heap) (hns:s₁.heap.Ns mainGlobals mg) (hb:s₁.heap.Ns builtinsNs mb) (hbb:∀x:Str,x≠"__name__"->mb x=bootBuiltins x) (hlim:s₁.heap.NoLimit) (hg:s₁.gens=#[])
 (ha:s₁.heap.get? a=some { cls:=.type "list",data:=.seq vs.toArray }) (hi:IntsAre vs ns) (hl:ns.length<=Qk) (hr:Room k callerA)
 (F:∀base:QI,K.In base->base.Ns mainGlobals mg->FnOk P w K mg base CX k fa fd [x] sp) (hbind:∀(s:Qd) (u:Qa),BindsTo s fd ⟨[u],[]⟩ [(x,u)])
 (hsp:∀H:Hp,JiY H->SqL K H a (ns.map V.int)->sp [.ref a] H (fun v _=>v=.bl true) fun _ _ _=>False)
 (hCX:∀H e s',CX [] H s₁ (fun _ _ _=>False) e s'->False) :
 codeAny (model P w) callerA (.call (.ref fa) ⟨[.ref a],[]⟩) (fun r s'=>r=.ok (.ret (.bool true))/\OldK s₁.heap s'.heap/\s'.os=s₁.os/\AllBare s'.gens) s₁:=by
 have rv:=ZV hi
 have lenV:=hi.length
 -- from an abstract heap in which nothing but the script may be tracked
 have core:∀H:Hp,JiY H->SqL K H a (ns.map V.int)->HOk P w H s₁.heap->(∀b,H b≠none->b=a)->(H a≠none->K.lookup a=none) ->
  codeAny (model P w) callerA (.call (.ref fa) ⟨[.ref a],[]⟩) (fun r s'=>r=.ok (.ret (.bool true))/\OldK s₁.heap s'.heap/\s'.os=s₁.os/\AllBare s'.gens) s₁:=by
  intro H hO hS hok hA hK;have base_of:∀{b:Qc} {o:Obj},s₁.heap.get? b=some o->H b=none->(Jaa s₁.heap H).get? b=some o:=fun e n=>JeV e n
  have noA:∀{b:Qc} {o:Obj} {es:Array DictEntry} {ep:Nat},s₁.heap.get? b=some o->o.data=.dict es ep->H b=none:=fun {b o es ep} e d=>by
   cases q:H b with
   | none=>rfl
   | some u =>
    have e':b=a:=hA b (by rw[q];simp);subst e';rw[ha] at e;cases e
    have d':Data.seq vs.toArray _=Data.dict es ep:=d;cases d'
  have nsK:∀{b:Qc} {m:Str->Option Qa},s₁.heap.Ns b m->(Jaa s₁.heap H).Ns b m:=fun {b m} ⟨o,es,ep,e,d,r⟩=>⟨o,es,ep,base_of e (noA e d),d,r⟩
  have hKb:K.In (Jaa s₁.heap H):=fun b o e=>base_of (KX b o e) (by
   cases q:H b with
   | none=>rfl
   | some u=>have e':b=a:=hA b (by rw[q];simp);subst e';rw[hK (by rw[q];simp)] at e;cases e)
  have hM:Mod K mg (Jaa s₁.heap H):=⟨hKb,nsK hns,⟨mb,nsK hb,hbb⟩,let ⟨mc,h1,h2⟩:=hlim;⟨mc,nsK h1,h2⟩⟩
  have e0:Env0 P w K mg (Jaa s₁.heap H) callerA [] s₁ H:=⟨rfl,hM,fun b o e=>Jhl e,Mo (JdE _ _),trivial,fun b hb=>absurd (show b∈([]:List Qc) from hb) (by simp),hok,.of_eq hg⟩
  refine KE ((F _ hKb (nsK hns)).run callerA [] s₁ H ⟨[.ref a],[]⟩ [.ref a] [.ref a] _ _ hr e0 (hbind s₁ (.ref a)) (.cons rfl .nil) (hsp H hO hS)) fun r s' h=>?_
  cases r with
  | error e=>exact(hCX H e s' h).elim
  | ok fl =>
   cases fl with
   | next=>exact QT h
   | brk=>exact QT h
   | cont=>exact QT h
   | ret u =>
    obtain⟨v,H',os,bare,un,hok',r',q⟩:=h;have q':v=.bl true:=q;subst q';obtain rfl:u=Value.bool true:=r';refine⟨rfl,OldK.of_keep fun b o e=>?_,os,bare⟩
    cases q:H b with
    | none=>exact un.keep b o e q (by intro z;exact absurd (show b∈([]:List Qc) from z) (by simp)) (by simp)
    | some u =>
     rcases hO b with z|⟨ob,xs,z⟩
     ·rw[q] at z;cases z
     ·have z2:=un.frzs b ob _ z;obtain⟨e1,_⟩:=hok b _ z;obtain⟨e2,_⟩:=hok' b _ z2;rw[e] at e1;cases e1;exact e2
 cases hk:K.lookup a with
 | some o =>
  -- the script is one of the module's own objects
  have e:=KX a o hk;rw[ha] at e;cases e;refine core (fun _=>none) (fun _=>.inl rfl) (.inr ⟨_,vs.toArray,_,hk,rfl,rfl,rfl,by rw[Qt,lenV];exact hl,by simpa using rv⟩) (fun b u z=>by have z':(none:Option HO)=some u:=z;cases z') (fun b z=>absurd rfl z) fun z=>absurd rfl z
 | none =>
  refine core (fun b=>if b=a then some (.frz { cls:=.type "list",data:=.seq vs.toArray } (.lst (ns.map V.int))) else none) (fun b=>?_) (.inl (.inr ⟨{ cls:=.type "list",data:=.seq vs.toArray },if_pos rfl⟩)) (fun b u z=>?_) (fun b z=>?_) fun _=>hk
  ·by_cases hb:b=a
   ·exact .inr ⟨_,_,if_pos hb⟩
   ·exact .inl (if_neg hb)
  ·by_cases hb:b=a
   ·have z':=(if_pos hb).symm.trans z;cases z';subst hb;exact⟨ha,by rw[QB];exact hl,vs,_,rv,ha⟩
   ·have z':=(if_neg hb).symm.trans z;cases z'
  ·by_cases hb:b=a
   ·exact hb
   ·exact absurd (if_neg hb) z
end L2

namespace L2
open PySem PySem.Spec PyProof.Rows

theorem Jin{l:PySem.W.OpenLaw}{n k:Nat}{q:Qo}{loose:List Str}{XP:(Str->Option Qa)->QI->Prop}{YP:QC->QI->Prop}{d:DefRec}{K:Params->Qn}{CX:QC->CXT}{sp:QC->Sp}{x:Str}
 (hn:l.most=some n) (hn2:n<=Qk) (hdf:d.params.defaults=[]) (hr:Room k callerA)
 (hY:∀(w:QC) (h:QI),YP w h->(K w.params).In h)
 (F:∀(w:QC) (mg:Str->Option Qa) (fa:Qc) (h:QI),(K w.params).In h->h.Ns mainGlobals mg->mg d.name=some (.ref fa) ->
  ∃fd:QE,(∀(s:Qd) (u:Qa),BindsTo s fd ⟨[u],[]⟩ [(x,u)]) ∧
   ∀base:QI,(K w.params).In base->base.Ns mainGlobals mg->FnOk l.prog w (K w.params) mg base (CX w) k fa fd [x] (sp w))
 (hsp:∀(w:QC) (H:Hp) (a:Qc) (ns:List Int),ns.length<=n->JiY H->SqL (K w.params) H a (ns.map V.int)->sp w [.ref a] H (fun v _=>v=.bl true) fun _ _ _=>False)
 (hCX:∀(w:QC) (H:Hp) (s:Qd) (e:Qa) (s':Qd),CX w [] H s (fun _ _ _=>False) e s'->False) :
 PySem.W.WalkO q loose XP YP l.row.toRowW d [] (fun f vs=>PySem.call f vs):=by
 refine Att.attach_call hn hdf fun w s₀ s₁ mg mb fa o pm cd doc a vs ns G Y ho hd hcd hmg hobj hints hlen hg=>?_
 have KX:=hY w _ Y;obtain⟨fd,hb,hF⟩:=F w mg fa _ KX G.T.g hmg;exact Je5 KX G.T.g G.T.b G.T.builtins G.T.nolimit hg hobj hints (QP hlen hn2) hr hF hb (fun H hO hS=>hsp w H a ns hlen hO hS) fun H e s'=>hCX w H s₁ e s'
end L2

namespace L2
open PySem PySem.Spec PyProof.Rows

noncomputable def JcG(s:Gn)(j:Nat):Gn:=match s with
 | .ClassDef _ _ _ body _ _ _ _ _ _ _=>body.getD j (.Pass ⟨0,0,0,0⟩)
 | _=>.Pass ⟨0,0,0,0⟩
noncomputable def Y5(s:Gn):Arguments:=match s with
 | .FunctionDef _ a _ _ _ _ _ _ _ _=>a
 | _=>{ posonlyargs:=[],args:=[],vararg:=none,kwonlyargs:=[],kw_defaults:=[],kwarg:=none,defaults:=[] }
noncomputable def Yx(s:Gn):List Gn:=match s with
 | .FunctionDef _ _ b _ _ _ _ _ _ _=>b
 | _=>[]
noncomputable def Jp(s:Gn):K3:=match s with
 | .FunctionDef _ _ _ _ _ _ sc _ _ _=>sc
 | _=>{ kind:=.function,names:=[],isGenerator:=false,isCoroutine:=false }

noncomputable abbrev CX0:CXT:=fun _ _ _ _ _ _=>False
noncomputable abbrev E0:XK:=fun _ _ _=>False
theorem JlL{X:Cx}:Uz CX0 X E0:=fun _ _ _ _ _ _ _ h=>h.elim

structure Fun (K:Qn) (x qual:Str) (st:Gn) (f:Qc) (fd:QE):Prop where
 ex:∃(oc:Qa) (od:Option Qc) (kV doc pm:Qa) (an:Option Qc) (cdv ct:Qa) (osl:Array (Option Qa)),
  fd=fnOf x qual (Y5 st) (Yx st) (Jp st) .none kV doc pm an cdv ct/\K.lookup f=some ⟨oc,od,.func fd,osl⟩/\codeIn K cdv qual=true
 kp:keepIn K (.ref f)=true
section
variable{P:Qo}{w:QC}{K:Qn}{mg:Str->Option Qa}{base:QI}
theorem Fun.ok{x qual:Str}{st:Gn}{f:Qc}{fd:QE}{N ps:List Str}{k:Nat}{sp:Sp}(F:Fun K x qual st f fd)(S:FnScope N ps (Jp st))(len:∀vs H Q E,sp vs H Q E->vs.length=ps.length)
 (hbody:∀(cdv:Qa) (A:Qw) (outer:List Env) (s:Qd) (H:Hp) (vs:List V) (Q:VK) (E:XK),Room k (A.deeper (envOfC qual (Jp st) s.heap.objs.size f cdv))->sp vs H Q E ->
  ∃t,PSs (Wu CX0 P w K mg base N qual (Jp st) f cdv A outer s H E).nox (Yx st) t/\t { nx:=fun _ H'=>Q .non H',rt:=Q } (Yr N vs) H):FnOk P w K mg base CX0 (k+1) f fd ps sp:=by
 obtain⟨oc,od,kV,doc,pm,an,cdv,ct,osl,rfl,lk,hcd⟩:=F.ex;refine Jiy lk hcd S len fun A outer s H vs Q E hr hsp=>?_
 obtain⟨t,h,q⟩:=hbody cdv A outer s H vs Q E hr hsp;exact⟨t,h.nox,q⟩
theorem Fun.binds{x qual:Str}{st:Gn}{f:Qc}{fd:QE}{ps:List Str}(F:Fun K x qual st f fd)
 (h:∀(kV doc pm:Qa) (an:Option Qc) (cdv ct:Qa) (us:List Qa),us.length=ps.length->bindArgs (fnOf x qual (Y5 st) (Yx st) (Jp st) .none kV doc pm an cdv ct) ⟨us,[]⟩=pure (ps.zip us)):Binds K fd ps []:=by
 obtain⟨oc,od,kV,doc,pm,an,cdv,ct,osl,rfl,lk,hcd⟩:=F.ex;exact .all (h kV doc pm an cdv ct)
theorem JeQ{x qual:Str}{st:Gn}{f:Qc}{oc:Qa}{od an:Option Qc}{osl:Array (Option Qa)}{kV doc pm cdv ct:Qa}(l:K.lookup f=some ⟨oc,od,.func (fnOf x qual (Y5 st) (Yx st) (Jp st) .none kV doc pm an cdv ct),osl⟩)
 (c:codeIn K cdv qual=true) (k:keepIn K (.ref f)=true):Fun K x qual st f (fnOf x qual (Y5 st) (Yx st) (Jp st) .none kV doc pm an cdv ct):=⟨⟨oc,od,kV,doc,pm,an,cdv,ct,osl,rfl,l,c⟩,k⟩
end
theorem Jd2{n:Nat}(h:n<=1000):n<Qk:=K8 h (by decide)

section
variable{X:Cx}
theorem pv(i:Nat){x:Str}{pos:Pos}(hN:X.N[i]?=some x:=by rfl)(hv:Vis X.env.scope x:=by first | exact Or.inl rfl | exact Or.inr (.inl rfl) | exact Or.inr (.inr rfl))(hd:(x == ("__debug__":Str))=false:=by decide)
 (hcd:(x == ("__classdict__":Str))=false:=by decide):PE X (.Name x pos) (JaA i):=WU hN hv hd hcd
end

noncomputable def Same(H H':Hp):Prop:=∀b o,H b=some o->H' b=some o
theorem Same.refl(H:Hp):Same H H:=fun _ _ h=>h
theorem Same.trans{H H1 H2:Hp}(a:Same H H1)(b:Same H1 H2):Same H H2:=fun c o h=>b c o (a c o h)
theorem Same.free{H H':Hp}(e:Same H H'){l:Qc}(h:H' l=Option.none):H l=Option.none:=by
 cases q:H l with
 | none=>rfl
 | some o=>rw[e l o q] at h;cases h
theorem Same.seq{K:Qn}{H H':Hp}{a:Qc}{xs:List V}(e:Same H H')(h:SqL K H a xs):SqL K H' a xs:=by
 rcases h with (h|⟨o,h⟩)|h
 ·exact .inl (.inl (e _ _ h))
 ·exact .inl (.inr ⟨o,e _ _ h⟩)
 ·exact .inr h

end L2

namespace L2
open PySem PySem.Spec PyProof.Rows

section
variable{κ:Type}[DecidableEq κ]
noncomputable def Wc(kvs:List (κ×V))(k:κ):Option V:=(kvs.find? fun kv=>decide (kv.1=k)).map (·.2)
noncomputable def Jbh(kvs:List (κ×V))(k:κ)(v:V):List (κ×V) :=
 if (kvs.any fun kv=>decide (kv.1=k))=true then kvs.map (fun kv=>if kv.1=k then(kv.1,v) else kv) else kvs++[(k,v)]
noncomputable def Jix(kvs:List (κ×V))(k:κ):List (κ×V):=kvs.filter fun kv=>decide (kv.1≠k)

theorem W9{p:κ×V}{r:List (κ×V)}{k:κ}(e:p.1=k):Wc (p::r) k=some p.2:=by simp[Wc,GR,e]
theorem W8{p:κ×V}{r:List (κ×V)}{k:κ}(e:¬p.1=k):Wc (p::r) k=Wc r k:=by simp[Wc,GR,e]
theorem Jby(k:κ):∀kvs:List (κ×V),(kvs.any fun kv=>decide (kv.1=k))=(Wc kvs k).isSome
 | []=>rfl
 | p::r=>by
  rw[Q9]
  by_cases e:p.1=k
  ·simp only[W9 e,decide_eq_true e,Bool.true_or,Option.isSome_some]
  ·rw[W8 e,decide_eq_false e,Bool.false_or];exact Jby k r
theorem RelO.isSome_eq{o:Option V}{u:Option Qa}(r:RelO o u):o.isSome=u.isSome:=by
 cases o with
 | none=>cases u with
  | none=>rfl
  | some _=>exact(show False from r).elim
 | some _=>cases u with
  | none=>exact(show False from r).elim
  | some _=>rfl
theorem RelO.getD{o:Option V}{u:Option Qa}{d:V}{d':Qa}(r:RelO o u)(rd:RelV d d'):RelV (o.getD d) (u.getD d'):=by
 cases o with
 | none=>cases u with
  | none=>exact rd
  | some _=>exact(show False from r).elim
 | some _=>cases u with
  | none=>exact(show False from r).elim
  | some _=>exact r

theorem KV.val{kvs:List (κ×V)}{vs:List (κ×Qa)}(r:KV kvs vs)(k:κ):RelO (Wc kvs k) (valueAt vs k):=by
 unfold KV at r
 induction r with
 | nil=>exact True.intro
 | @cons p q ps qs h t ih =>
  obtain⟨h1,h2⟩:=h
  by_cases e:p.1=k
  ·have e':q.1=k:=h1.symm.trans e
   have b:valueAt (q::qs) k=some q.2:=by simp[valueAt,GR,e']
   rw[W9 e,b];exact h2
  ·have e':¬q.1=k:=fun z=>e (h1.trans z)
   have b:valueAt (q::qs) k=valueAt qs k:=by simp[valueAt,GR,e']
   rw[W8 e,b];exact ih
theorem KV.any{kvs:List (κ×V)}{vs:List (κ×Qa)}(r:KV kvs vs)(k:κ):(kvs.any fun kv=>decide (kv.1=k))=vs.any fun kv=>decide (kv.1=k):=by
 unfold KV at r
 induction r with
 | nil=>rfl
 | cons h t ih=>rw[Q9,Q9,ih,h.1]
theorem KV.repl{kvs:List (κ×V)}{vs:List (κ×Qa)}(r:KV kvs vs)(k:κ){y:V}{u:Qa}(ry:RelV y u) :
 KV (kvs.map fun kv=>if kv.1=k then(kv.1,y) else kv) (vs.map fun kv=>if kv.1=k then(kv.1,u) else kv):=by
 unfold KV at r ⊢
 induction r with
 | nil=>exact .nil
 | @cons p q ps qs h t ih =>
  rw[Qr,Qr];refine .cons ?_ ih;obtain⟨h1,h2⟩:=h
  by_cases e:p.1=k
  ·rw[if_pos e,if_pos (h1.symm.trans e)];exact⟨h1,ry⟩
  ·rw[if_neg e,if_neg (fun z=>e (h1.trans z))];exact⟨h1,h2⟩
theorem KV.put{kvs:List (κ×V)}{vs:List (κ×Qa)}(r:KV kvs vs)(k:κ){y:V}{u:Qa}(ry:RelV y u):KV (Jbh kvs k y) (stored vs k u):=by
 unfold Jbh stored;rw[r.any k]
 by_cases e:(vs.any fun kv=>decide (kv.1=k))=true
 ·rw[if_pos e,if_pos e];exact r.repl k ry
 ·rw[if_neg e,if_neg e];exact Paired.snoc r ⟨rfl,ry⟩
theorem KV.drop{kvs:List (κ×V)}{vs:List (κ×Qa)}(r:KV kvs vs)(k:κ):KV (Jix kvs k) (without vs k):=by
 unfold KV at r ⊢;unfold Jix without
 induction r with
 | nil=>exact .nil
 | @cons p q ps qs h t ih =>
  obtain⟨h1,h2⟩:=h;rw[List.filter_cons,List.filter_cons]
  by_cases e:p.1=k
  ·have a:¬decide (p.1≠k)=true:=by simp[e]
   have b:¬decide (q.1≠k)=true:=by simp[h1.symm.trans e]
   rw[if_neg a,if_neg b];exact ih
  ·have e':¬q.1=k:=fun z=>e (h1.trans z)
   have a:decide (p.1≠k)=true:=by simp[e]
   have b:decide (q.1≠k)=true:=by simp[e']
   rw[if_pos a,if_pos b];exact .cons ⟨h1,h2⟩ ih
theorem KV.keys{kvs:List (κ×V)}{vs:List (κ×Qa)}(r:KV kvs vs):kvs.map (·.1)=vs.map (·.1):=by
 unfold KV at r
 induction r with
 | nil=>rfl
 | cons h t ih=>rw[Qr,Qr,ih,h.1]
theorem KV.length{kvs:List (κ×V)}{vs:List (κ×Qa)}(r:KV kvs vs):kvs.length=vs.length:=Mb r
end

noncomputable abbrev KT(H:Hp):List (List Key×V)->List (List Key×Qc×Qa)->Prop:=Paired fun p q=>p.1=q.1/\H q.2.1=some (.tup (p.1.map kV))/\RelV p.2 q.2.2
theorem KT.val{H:Hp}{kvs:List (List Key×V)}{xs:List (List Key×Qc×Qa)}(r:KT H kvs xs)(k:List Key):RelO (Wc kvs k) ((atKey xs k).map (·.2)):=by
 induction r with
 | nil=>exact True.intro
 | @cons p q ps qs h t ih =>
  obtain⟨h1,_,h2⟩:=h
  by_cases e:p.1=k
  ·have e':q.1=k:=h1.symm.trans e
   have b:atKey (q::qs) k=some q.2:=by simp[atKey,GR,e']
   rw[W9 e,b];exact h2
  ·have e':¬q.1=k:=fun z=>e (h1.trans z)
   have b:atKey (q::qs) k=atKey qs k:=by simp[atKey,GR,e']
   rw[W8 e,b];exact ih
theorem KT.repl{H:Hp}{kvs:List (List Key×V)}{xs:List (List Key×Qc×Qa)}(r:KT H kvs xs)(k:List Key){y:V}{u:Qa}(ry:RelV y u) :
 KT H (kvs.map fun kv=>if kv.1=k then(kv.1,y) else kv) (xs.map (putAt k u)):=by
 induction r with
 | nil=>exact .nil
 | @cons p q ps qs h t ih =>
  rw[Qr,Qr];refine .cons ?_ ih;obtain⟨h1,h2,h3⟩:=h;unfold putAt
  by_cases e:p.1=k
  ·rw[if_pos e,if_pos (h1.symm.trans e)];exact⟨h1,h2,ry⟩
  ·rw[if_neg e,if_neg (fun z=>e (h1.trans z))];exact⟨h1,h2,h3⟩
theorem KT.put{H:Hp}{kvs:List (List Key×V)}{xs:List (List Key×Qc×Qa)}(r:KT H kvs xs)(k:List Key){b:Qc}{y:V}{u:Qa}(hb:H b=some (.tup (k.map kV)))(ry:RelV y u) :
 KT H (Jbh kvs k y) (storedH xs k b u):=by
 have e:(kvs.any fun kv=>decide (kv.1=k))=(atKey xs k).isSome:=by rw[Jby,(r.val k).isSome_eq,Option.isSome_map]
 unfold Jbh storedH;rw[e]
 by_cases q:(atKey xs k).isSome=true
 ·rw[if_pos q,if_pos q];exact r.repl k ry
 ·rw[if_neg q,if_neg q];exact Paired.snoc r ⟨rfl,hb,ry⟩
theorem KT.keeps{H H':Hp}{kvs:List (List Key×V)}{xs:List (List Key×Qc×Qa)}(r:KT H kvs xs)(ht:∀b ys,H b=some (.tup ys)->H' b=some (.tup ys)):KT H' kvs xs :=
 Paired.mapP r fun _ _ z=>⟨z.1,ht _ _ z.2.1,z.2.2⟩

section
variable{P:Qo}{w:QC}{H:Hp}{h:QI}{a:Qc}
end

noncomputable def DGet(H:Hp)(a:Qc)(y:V)(r:Option V):Prop :=
 (∃kvs k,Rd H a (.dK kvs)/\y=kV k/\r=Wc kvs k)\/∃kvs k b,Rd H a (.dT kvs)/\y=.ref b/\H b=some (.tup (k.map kV))/\r=Wc kvs k
noncomputable def DPut(H:Hp)(a:Qc)(y v:V)(H':Hp):Prop :=
 (∃kvs k,H a=some (.dK kvs)/\y=kV k/\kvs.length<Qk/\H'=upd H a (.dK (Jbh kvs k v))) ∨
 ∃kvs k b,H a=some (.dT kvs)/\y=.ref b/\H b=some (.tup (k.map kV))/\kvs.length<Qk/\H'=upd H a (.dT (Jbh kvs k v))
theorem DGet.k{H:Hp}{a:Qc}{kvs:List (Key×V)}{k:Key}(e:H a=some (.dK kvs)):DGet H a (kV k) (Wc kvs k):=.inl ⟨kvs,k,.inl e,rfl,rfl⟩
theorem DGet.t{H:Hp}{a b:Qc}{kvs:List (List Key×V)}{k:List Key}(e:H a=some (.dT kvs))(eb:H b=some (.tup (k.map kV))):DGet H a (.ref b) (Wc kvs k):=.inr ⟨kvs,k,b,.inl e,rfl,eb,rfl⟩
theorem DPut.k{H:Hp}{a:Qc}{kvs:List (Key×V)}{k:Key}{v:V}(e:H a=some (.dK kvs))(hl:kvs.length<Qk):DPut H a (kV k) v (upd H a (.dK (Jbh kvs k v))):=.inl ⟨kvs,k,e,rfl,hl,rfl⟩
theorem DPut.t{H:Hp}{a b:Qc}{kvs:List (List Key×V)}{k:List Key}{v:V}(e:H a=some (.dT kvs))(eb:H b=some (.tup (k.map kV)))(hl:kvs.length<Qk) :
 DPut H a (.ref b) v (upd H a (.dT (Jbh kvs k v))):=.inr ⟨kvs,k,b,e,rfl,eb,hl,rfl⟩

section
variable{X:Cx}{pins:List (Qc×Obj)}{σ:St}{H:Hp}{s:Qd}{a:Qc}{y v:V}{u r:Qa}{o:Option V}{A:Qw}{E:Qa->Qd->Prop}

theorem Inv.big(I:Inv X pins σ H s):sysModules<s.heap.objs.size:=by have h:mainGlobals<s.heap.objs.size:=(I.mod.glob.keeps I.bk).lt;exact Kg (by decide) h

end

section
variable{X:Cx}{pins:List (Qc×Obj)}{σ:St}{H:Hp}{s:Qd}{a:Qc}{kvs:List (Key×V)}{k:Key}{u:Qa}{A:Qw}{E:Qa->Qd->Prop}
end

section
variable{X:Cx}{o i e value:QR}{pos pos' tpos:Pos}{td ty tv:TE}
end

section
variable{X:Cx}{pos:Pos}
end

structure M1 (X:Cx) (o:QR) (m:Str) (apos:Pos) (e:QR) (cpos:Pos):Prop where
 base:attributeBase o m X.env (eval o X.env)=eval o X.env
 few:((backTo cpos (starEach [e] X.env)).all (fun x=>!x.1) && (backToKw cpos (keywordEach [] X.env)).all (fun x=>x.1.isSome)
  && decide (([e]:List QR).length+([]:List Lc).length+(if ([]:List Lc).isEmpty then 0 else 1)<30))=true
 line:(apos.endLine == cpos.line)=true
 trees:backTo cpos (starEach [e] X.env)=[(false,eval e X.env)]
structure M2 (X:Cx) (o:QR) (m:Str) (apos:Pos) (e f:QR) (cpos:Pos):Prop where
 base:attributeBase o m X.env (eval o X.env)=eval o X.env
 few:((backTo cpos (starEach [e,f] X.env)).all (fun x=>!x.1) && (backToKw cpos (keywordEach [] X.env)).all (fun x=>x.1.isSome)
  && decide (([e,f]:List QR).length+([]:List Lc).length+(if ([]:List Lc).isEmpty then 0 else 1)<30))=true
 line:(apos.endLine == cpos.line)=true
 trees:backTo cpos (starEach [e,f] X.env)=[(false,eval e X.env),(false,eval f X.env)]

section
variable{X:Cx}{pins:List (Qc×Obj)}{σ:St}{H:Hp}{s:Qd}{a:Qc}{y d:V}{u r:Qa}{o:Option V}{A:Qw}{E:Qa->Qd->Prop}
end

section
variable{X:Cx}{o e f:QR}{apos cpos:Pos}{td ty tx:TE}
end

section
variable{X:Cx}{pins:List (Qc×Obj)}{σ:St}{H:Hp}{s:Qd}{a:Qc}{kvs:List (Key×V)}{A:Qw}{E:Qa->Qd->Prop}
end

section
variable{X:Cx}{pins:List (Qc×Obj)}{σ:St}{H:Hp}{s:Qd}{a:Qc}{y:V}{u:Qa}{A:Qw}{E:Qa->Qd->Prop}
end
end L2
namespace L2
open PySem PySem.Spec PyProof.Rows

noncomputable def Jgc(X:Cx)(ifs:List QR)(t:TT):Prop :=
 ∀(pins:List (Qc×Obj)) (s:Qd) (σ:St) (H:Hp) (Q:Bool->Hp->Prop),Inv X pins σ H s->t σ H Q ->
  wpAny (model X.prog X.w) X.A (forIn ifs true fun c r=>if r=true then do let ok <- isTrue c X.env (eval c X.env);pure (ForInStep.yield ok) else pure (ForInStep.yield r)) (TP X pins σ Q) X.xe s
noncomputable def Jk2:TT:=fun _ H Q=>Q true H
theorem UN{X:Cx}:Jgc X [] Jk2:=fun _ _ _ H _ I h=>wpAny_tests_nil ⟨H,I,h⟩
noncomputable def blk(X:Cx)(sc:K3)(cl:List (Str×Qc))(N':List Str)(C:Qc)(s:Qd)(H:Hp)(fp:List Qc):Cx where
 prog:=X.prog
 w:=X.w
 K:=X.K
 mg:=X.mg
 base:=X.base
 A:=X.A
 N:=N'
 s₀:=s
 H₀:=H
 env:=compEnvC sc cl C X.env
 outer:=X.stack
 stack:=X.stack
 ex:=fp
 fn:=fun _=>false
 calm:=X.calm
 pn:=[]
 xe:=fun _ _=>False

noncomputable def WB(imp:List (Option Nat))(σ:St):St:=imp.map fun o=>match o with
 | none=>none
 | some k=>(σ[k]?).join

structure Blk (X:Cx) (sc:K3) (cl:List (Str×Qc)) (N':List Str) (imp:List (Option Nat)):Prop where
 clos:closureFor sc X.env=pure cl
 kind:sc.kind=.function
 nocell:∀y∈sc.names,y.2≠.cell
 names:∀y∈sc.names,y.2=.local->sc.names.lookup y.1=some .local
 sub:∀p∈cl,X.env.cells.lookup p.1=some p.2
 has:∀y∈(relabel sc X.env).names,(y.2=.cell\/y.2=.free)->(cl.lookup y.1).isSome=true
 len:imp.length=N'.length
 im:∀p∈imp.zip N',∀k,p.1=some k->X.N[k]?=some p.2/\(X.env.scope.names.lookup p.2=some .cell\/X.env.scope.names.lookup p.2=some .free)/\((relabel sc X.env).names.lookup p.2=some .cell\/(relabel sc X.env).names.lookup p.2=some .free)

noncomputable def Jdj(wi:TI)(g:TG)(tt:TT)(te:TE)(imp:List (Option Nat)):TE:=fun σ H Q=>wi σ H fun J H1=>∃W:Nat->Nat->List V->St->Hp->Prop,(∃m,W 0 m [] (WB imp σ) H1)/\∀i m ys σ' H',W i m ys σ' H' ->
 (J.stop i H'/\ys.length<=Qk/\∀D,H' D=none->Q (.ref D) (upd H' D (.lst ys))) ∨
 (J.go i H'/\ys.length<Qk/\∃N:List V->St->Hp->Prop,(∀ys' σ2 H2,N ys' σ2 H2->∃m',m'<m/\W (i+1) m' ys' σ2 H2) ∧
  ∀x H2,J.yld i H' x H2->g x σ' H2 fun σ2 H3=>tt σ2 H3 fun b H4=>if b=true then te σ2 H4 fun y H5=>N (ys++[y]) σ2 H5 else N ys σ2 H4)

section
variable{P:Qo}{w:QC}{H:Hp}{h h':QI}
theorem HOk.sameBut{C:Qc}(x:HOk P w H h)(hC:H C=none)(k:∀b o,b≠C->h.get? b=some o->h'.get? b=some o):HOk P w H h':=fun a o e =>
 (x a o e).stay (fun b u hb q=>k b u (by
  rintro rfl;rcases hb with z|z
  ·rw[<- z,hC] at e;cases e
  ·rw[hC] at z;cases z) q) (fun _ q=>q) fun _ _ q=>q
theorem HOk.track{D:Qc}{o:HO}(x:HOk P w H h)(hD:H D=none)(new:ObjOk P w (upd H D o) h D o):HOk P w (upd H D o) h:=fun b u e=>by
 by_cases hb:b=D
 ·subst hb;rw[JE] at e;cases e;exact new
 ·rw[Jj hb] at e;exact(x b u e).stay (fun c v _ q=>q) (fun c q=>by rw[Jj (Jt q hD)];exact q) fun c xs q=>by rw[Jj (Jt q hD)];exact q
end

theorem Um{α:Type}{x:Str}{c:α}:∀{l:List (Str×α)},l.lookup x=some c->(x,c)∈l:=fun h=>Gr h

section
variable{X:Cx}{tg iter elt:QR}{ifs:List QR}{sc:K3}{cl:List (Str×Qc)}{N':List Str}{imp:List (Option Nat)}{pos:Pos}{wi:TI}{g:TG}{tt:TT}{te:TE}

theorem Blk.subL(B:Blk X sc cl N' imp):∀x c,cl.lookup x=some c->X.env.cells.lookup x=some c:=fun x c e=>B.sub (x,c) (Um e)

theorem Jgm{pins:List (Qc×Obj)}{σ:St}{H:Hp}{s:Qd}{fp:List Qc}{h₁:QI}{C:Qc}(B:Blk X sc cl N' imp)(I:Inv X pins σ H s)(hf:∀b∈fp,FpOk X pins H b)(hfo:∀b∈fp,∃o,s.heap.get? b=some o)
 (hC:s.heap.objs.size<C) (old:∀b o,s.heap.get? b=some o->h₁.get? b=some o) (ns:h₁.Ns C fun _=>none) :
 Inv (blk X sc cl N' C s H fp) [] (WB imp σ) H { s with heap:=h₁,toks:=s.toks }:=by
 have hlt:∀b∈fp,b<s.heap.objs.size:=fun b hb=>let ⟨_,e⟩:=hfo b hb;Qj e
 have clt:∀x c,X.env.cells.lookup x=some c->c<s.heap.objs.size:=fun x c e=>let ⟨_,q⟩:=I.cell x c e;q.lt
 have ok:(blk X sc cl N' C s H fp).Ok:={
  mod:=I.ok.mod
  kind:=B.kind
  glob:=I.ok.glob
  blt:=I.ok.blt
  above:=Kc hC
  inj:=fun x y c h1 h2=>I.ok.inj x y c (B.subL x c h1) (B.subL y c h2)
  has:=fun x hx=>by
   have hx':(relabel sc X.env).names.lookup x=some .cell\/(relabel sc X.env).names.lookup x=some .free:=hx
   have:(cl.lookup x).isSome=true:=by
    rcases hx' with z|z
    ·exact B.has (x,.cell) (Um z) (.inl rfl)
    ·exact B.has (x,.free) (Um z) (.inr rfl)
   exact Kp.mp this
  cab:=fun x c z=>nomatch z
  hd:=I.ok.hd
  frames:=I.ok.frames
  stk:=.inl rfl
  exf:=fun b hb=>⟨QG (Kg (hlt b hb) hC),fun x c e=>(hf b hb).2.2.2.2.1 x c (B.subL x c e)⟩
  bs:=I.bs
  bsz:=QP I.ok.bsz I.sz
  noex:=fun b o e hb=>by
   rcases(hf b hb).2.2.2.1 with z|z
   ·exact I.ok.noex b o e z
   ·exact absurd (QD (Qj e) (QP I.ok.bsz z)) (Q8 _)
  exfs:=fun b hb z=>by
   rcases Qm.mp (I.stkSub b z) with q|q
   ·exact(hf b hb).2.1 q
   ·exact(hf b hb).2.2.1 q
  funs:=I.stack
  frf:=I.stkFree }
 refine⟨ok,rfl,I.bare,Un.kept old,⟨_,ns,fun i x v h1 h2 h3=>?_⟩,fun x c e=>?_,I.hok.fresh (Kc hC),fun x c e=>I.freeC x c (B.subL x c e),fun p hp=>absurd (show p∈([]:List (Qc×Obj)) from hp) (by simp),I.hok.kept old,?_⟩
 ·have h1':N'[i]?=some x:=h1
  have h2':(imp.map fun o=>match o with|none=>none|some k=>(σ[k]?).join)[i]?=some (some v):=h2;rw[QJ] at h2'
  cases e:imp[i]? with
  | none=>rw[e] at h2';cases h2'
  | some q =>
   rw[e] at h2'
   cases q with
   | none=>cases h2'
   | some k =>
    have h2'':(σ[k]?).join=some v:=QL h2'
    have hk:σ[k]?=some (some v):=by
     cases e':σ[k]? with
     | none=>rw[e'] at h2'';cases h2''
     | some z=>rw[e'] at h2'';cases z with
      | none=>cases h2''
      | some z=>cases h2'';rfl
    have hm:(some k,x)∈imp.zip N':=by refine QQ (i:=i) ?_;rw[List.getElem?_zip_eq_some];exact⟨e,h1'⟩
    obtain⟨b1,b2,b3⟩:=B.im _ hm k rfl;obtain⟨m,hn,hl⟩:=I.loc;obtain⟨u,r,l⟩:=hl k x v b1 hk (b2.elim (fun z=>.inr (.inl z)) fun z=>.inr (.inr z));refine⟨u,r,.inr ⟨b3,?_⟩⟩
    have hc:∃c,X.env.cells.lookup x=some c/\s.heap.IsCell c (some u):=by
     rcases l with ⟨z,_⟩|⟨_,z⟩
     ·have z':X.env.scope.names.lookup x=some .local:=z;rcases b2 with y|y <;> rw[y] at z' <;> cases z'
     ·exact z
    obtain⟨c,hc,oc,ho,hd⟩:=hc;obtain⟨c',hc'⟩:=ok.has x b3;have e2:=B.subL x c' hc';rw[hc] at e2;cases e2;exact⟨c,hc',oc,old c oc ho,hd⟩
 ·obtain⟨v,o,ho,hd⟩:=I.cell x c (B.subL x c e);exact⟨v,o,old c o ho,hd⟩
 ·show(imp.map _).length=N'.length;rw[QB];exact B.len

theorem Jgl{pins pn:List (Qc×Obj)}{σ σ':St}{H2 H':Hp}{s2 s4:Qd}{fp:List Qc}{C D:Qc}{Cs:Qc}{ys:List V}{its:List Qa}{k:Nat}{h':QI}(I2:Inv X pins σ H2 s2)(f2:∀b∈fp,FpOk X pins H2 b)
 (I5:Inv (blk X sc cl N' C s2 H2 fp) pn σ' H' s4) (hC:s2.heap.objs.size<C) (hD:H' D=none) (hDs:s2.heap.objs.size<=D) (hDC:D≠C) (eD:s4.heap.get? D=some { cls:=.type "list",data:=.seq its.toArray k })
 (rv:Vals ys its) (hz:ys.length<=Qk) (hsb:Ke C s4.heap h'):Inv X pins σ (upd H' D (.lst ys)) { s4 with heap:=h' }:=by
 have U:Un (frs X.stack) fp H2 H' s2.heap s4.heap:=I5.base
 have kk:∀b o,b≠C->s4.heap.get? b=some o->h'.get? b=some o:=hsb.extBut
 have hC':H' C=none:=I5.free
 have ok1:HOk X.prog X.w H' h':=HOk.sameBut (C:=C) I5.hok hC' kk
 have ok2:HOk X.prog X.w (upd H' D (.lst ys)) h':=ok1.track hD ⟨hz,its,k,rv,kk _ _ hDC eD⟩
 have lt:∀b o,s2.heap.get? b=some o->b≠C/\b≠D:=fun b o e=>⟨QG (Kg (Qj e) hC),QG (QD (Qj e) hDs)⟩
 refine I2.call' (s':={ s4 with heap:=h' }) (ch:=fp) I5.os ⟨fun b o e n hb hx=>kk b o (lt b o e).1 (U.keep b o e n hb hx),fun b o e n hb hx=>?_,fun b o e n hx=>?_,fun b o e hx=>?_,fun b xs e=>?_,fun b o u e=>?_,fun b ps e=>?_⟩ ok2 I5.bare
  fun b hb=>⟨(f2 b hb).2.2.2.1,(f2 b hb).2.1,(f2 b hb).2.2.2.2.1,(f2 b hb).2.2.2.2.2⟩
 ·obtain⟨sl,q⟩:=U.slot b o e n hb hx;exact⟨sl,kk b _ (lt b o e).1 q⟩
 ·rw[Jj (lt b o e).2];exact U.free b o e n hx
 ·obtain⟨o',q⟩:=U.there b o e hx;exact⟨o',kk b o' (lt b o e).1 q⟩
 ·have q:=U.tups b xs e;rw[Jj (Jt q hD)];exact q
 ·have q:=U.frzs b o u e;rw[Jj (Jt q hD)];exact q
 ·obtain⟨more,q⟩:=U.tbls b ps e;exact⟨more,by rw[Jj (Jt q hD)];exact q⟩

noncomputable def Jlh(g:TG)(tt:TT)(te:TE)(imp:List (Option Nat))(σ:St)(Q:VK)(J:It)(H1:Hp):Prop:=∃W:Nat->Nat->List V->St->Hp->Prop,(∃m,W 0 m [] (WB imp σ) H1)/\∀i m ys σ' H',W i m ys σ' H' ->
 (J.stop i H'/\ys.length<=Qk/\∀D,H' D=none->Q (.ref D) (upd H' D (.lst ys))) ∨
 (J.go i H'/\ys.length<Qk/\∃N:List V->St->Hp->Prop,(∀ys' σ2 H2,N ys' σ2 H2->∃m',m'<m/\W (i+1) m' ys' σ2 H2) ∧
  ∀x H2,J.yld i H' x H2->g x σ' H2 fun σ2 H3=>tt σ2 H3 fun b H4=>if b=true then te σ2 H4 fun y H5=>N (ys++[y]) σ2 H5 else N ys σ2 H4)
theorem Zw{pins:List (Qc×Obj)}{σ:St}{Q:VK}{itv:Qa}{s2:Qd}{RR:Qa->Qc->LY->Qd->Prop}{E:Qa->Qd->Prop}(hc:X.calm=true)(B:Blk X sc cl N' imp)
 (hg:∀C s H fp,PG (blk X sc cl N' C s H fp) tg g) (ht:∀C s H fp,Jgc (blk X sc cl N' C s H fp) ifs tt) (he:∀C s H fp,PE (blk X sc cl N' C s H fp) elt te)
 (h2:PIE X pins σ tg (Jlh g tt te imp σ Q) itv s2)
 (fin:∀(C D:Qc) (s4:Qd) (H':Hp) (ys:List V) (m:Str->Option Qa),s2.heap.objs.size<C->s4.heap.Ns C m->H' C=none->(∀h',Ke C s4.heap h'->Inv X pins σ H' { s4 with heap:=h' })->Q (.ref D) H'->RR (.ref D) C (.ok .next) s4) :
 wpAny (model X.prog X.w) X.A (newList []) (fun acc s₃=>wpAny (model X.prog X.w) X.A (newFunctionEnv sc X.env.globals cl [] X.env.qual none .none (some X.env)) (fun cenv s₄=>codeAny (model X.prog X.w) X.A (.compStart (.ListComp elt [⟨tg,iter,ifs,0⟩] sc pos) 0 itv acc { cenv with scope:=relabel sc X.env }) (RR acc cenv.locals) s₄) E s₃) E s2:=by
 obtain⟨it,fp,tn,J,H2,e,I2,T,st2,f2,W,⟨m0,w0⟩,turn⟩:=h2;subst e;refine Gd (wpAny_newFunctionEnv B.nocell (by intro y hy;simp at hy) (fun h₁ hns₁ hsb₁=>?_) B.kind);dsimp only at hns₁ hsb₁ ⊢
 generalize hG:s2.heap.push { cls:=.type "list",dict:=none,data:=.seq ([]:List Qa).toArray }=G at hns₁ hsb₁ ⊢
 have hCs:G.objs.size=s2.heap.objs.size+1:=by rw[<- hG,KD]
 have hC:s2.heap.objs.size<G.objs.size:=by rw[hCs];exact Kf _
 have below:∀b,b<s2.heap.objs.size->b≠G.objs.size:=fun b hb=>QG (Kg hb hC)
 have old:∀b o,s2.heap.get? b=some o->h₁.get? b=some o:=fun b o e=>hsb₁.extBut b o (below b (Qj e)) (Qg _ (hG▸Qg _ e))
 have hD1:h₁.get? s2.heap.objs.size=some { cls:=.type "list",data:=.seq ([]:List Qa).toArray }:=hsb₁.extBut _ _ (QG hC) (Qg _ (hG▸QH _ rfl))
 have fpo:∀b∈fp,∃o,s2.heap.get? b=some o:=fun b hb=>let ⟨o,e,_⟩:=T.obj 0 _ st2 b hb;⟨o,e⟩
 have I4:=Jgm B I2 f2 fpo hC old (show h₁.Ns G.objs.size fun _=>none from hns₁)
 -- the records of the block: the list that grows,the iterator's
 have stD:∀{H':Hp} {pn:List (Qc×Obj)},(∀b∈s2.heap.objs.size::fp,H' b=none)->(∀p∈pn,p.1∉s2.heap.objs.size::fp)->∀b∈s2.heap.objs.size::fp,FpOk (blk X sc cl N' G.objs.size s2 H2 fp) pn H' b:=fun {H' pn} hn hp b hb=>by
  have hp':∀p∈([]++pn:List (Qc×Obj)),p.1≠b:=fun p z q=>hp p (by simpa using z) (q▸hb)
  rcases Qm.mp hb with z|z
  ·subst z;refine⟨hn _ hb,QG hC,fun q=>?_,.inr (Qq _),fun x c e q=>?_,hp'⟩
   ·rcases Qm.mp (I2.stkSub _ q) with q|q
    ·exact absurd I2.lt (by rw[<- q];exact Q8 _)
    ·exact I2.nofs (Qq _) q
   ·obtain⟨v,qc⟩:=I2.cell x c (B.subL x c e);exact absurd qc.lt (by rw[q];exact Q8 _)
  ·refine⟨hn _ hb,below b (let ⟨_,e⟩:=fpo b z;Qj e),fun q=>?_,.inl z,fun x c e=>(f2 b z).2.2.2.2.1 x c (B.subL x c e),hp'⟩;rcases Qm.mp (I2.stkSub b q) with q|q
   ·exact(f2 b z).2.1 q
   ·exact(f2 b z).2.2.1 q
 have nDf:s2.heap.objs.size∉fp:=fun z=>let ⟨_,e⟩:=fpo _ z;absurd (Qj e) (Q8 _)
 have loop:codeAny (model X.prog X.w) X.A (.compLoop (.ListComp elt [⟨tg,iter,ifs,0⟩] sc pos) 0 (.ref it) (.ref s2.heap.objs.size) (compEnvC sc cl G.objs.size X.env))
  (RR (.ref s2.heap.objs.size) G.objs.size) { s2 with heap:=h₁,toks:=s2.toks }:=by
  refine codeAny_loop rfl (fun n s'=>∃i ys its k σ' H',Inv (blk X sc cl N' G.objs.size s2 H2 fp) [] σ' H' s'/\tn i s'.heap/\(∀b∈s2.heap.objs.size::fp,H' b=none)/\Vals ys its/\s'.heap.get? s2.heap.objs.size=some { cls:=.type "list",data:=.seq its.toArray k }/\W i n ys σ' H') ?_ m0
   ⟨0,[],[],0,_,H2,I4,T.keep _ _ _ st2 (fun b _ o e=>old b o e),fun b hb=>?_,.nil,hD1,w0⟩
  ·rintro n s3 ⟨i,ys,its,k,σ3,H3,I3,st3,fr3,rv3,hD3,w3⟩;have fr3':∀b∈fp,FpOk (blk X sc cl N' G.objs.size s2 H2 fp) [] H3 b:=fun b hb=>stD (pn:=[]) fr3 (fun p z=>nomatch z) b (Qp _ hb)
   show wpAny _ X.A ((compTurn (.ListComp elt [⟨tg,iter,ifs,0⟩] sc pos) 0 (.ref it) (.ref s2.heap.objs.size) (compEnvC sc cl G.objs.size X.env)).onRaise (fun x=>do noteFrame x (compEnvC sc cl G.objs.size X.env);theTreesLotGoes x)) _ _ s3;refine wpAny_noted (wpAny_noRaise ?_);rw[compTurn_list];refine Qf (Ko (Qf ?_))
   have fD:=stD (pn:=[]) fr3 (fun p z=>nomatch z) s2.heap.objs.size Qy
   have hDH:H3 s2.heap.objs.size=none:=fr3 _ Qy
   have I3p:Inv (blk X sc cl N' G.objs.size s2 H2 fp) [(s2.heap.objs.size,{ cls:=.type "list",data:=.seq its.toArray k })] σ3 H3 s3:=I3.pins_of fun p hp=>by
    have e:p=(s2.heap.objs.size,{ cls:=.type "list",data:=.seq its.toArray k }):=by simpa using hp
    subst e;exact⟨hD3,hDH,fD.2.1,fD.2.2.1,fun v z=>by cases z⟩
   have pfp:∀p∈[(s2.heap.objs.size,({ cls:=.type "list",data:=.seq its.toArray k }:Obj))],p.1∉fp:=fun p hp=>by
    have e:p=(s2.heap.objs.size,{ cls:=.type "list",data:=.seq its.toArray k }):=by simpa using hp
    subst e;exact nDf
   have fpP:∀{H':Hp},(∀b∈fp,H' b=none)->∀b∈fp,FpOk (blk X sc cl N' G.objs.size s2 H2 fp) [(s2.heap.objs.size,({ cls:=.type "list",data:=.seq its.toArray k }:Obj))] H' b:=fun {H'} hn b hb =>
    have f:=stD (pn:=[]) fr3 (fun p z=>nomatch z) b (Qp _ hb)
    ⟨hn b hb,f.2.1,f.2.2.1,f.2.2.2.1,f.2.2.2.2.1,fun p hp q=>pfp p ((Q2.mp hp).elim (fun z=>nomatch (show p∈([]:List (Qc×Obj)) from z)) id) (q▸hb)⟩
   rcases turn i n ys σ3 H3 w3 with ⟨stop,hz,q⟩|⟨go,hz,N,hN,step⟩
   ·refine thn (T.done (blk X sc cl N' G.objs.size s2 H2 fp) rfl rfl rfl hc i _ s3 σ3 H3 _ I3p (fpP fun b hb=>fr3 b (Qp _ hb)) st3 stop) fun r s4 ⟨hr,I5⟩=>?_
    subst hr;refine Qv ?_;obtain⟨m,hn,_⟩:=I5.loc;have eD:=(I5.pin (s2.heap.objs.size,{ cls:=.type "list",data:=.seq its.toArray k }) (by simp)).1;have hCf:H3 G.objs.size=none:=I5.free;exact fin G.objs.size s2.heap.objs.size s4 _ ys m hC hn (by rw[Jj (KC hC)];exact hCf) (fun h' hsb=>Jgl (Cs:=0) I2 f2 I5 hC hDH (Qq _) (QG hC) eD rv3 hz hsb) (q _ hDH)
   ·refine thn (T.item (blk X sc cl N' G.objs.size s2 H2 fp) rfl rfl rfl hc i _ s3 σ3 H3 _ I3p (fpP fun b hb=>fr3 b (Qp _ hb)) st3 go) fun r s4 ⟨u,hr,h4⟩=>?_
    subst hr;refine Qf (thn h4 fun _ s5 ⟨x,H5,I5,r5,y5,st5,fr5⟩=>?_);have I5':=I5.pinned (fpP fr5) (T.obj _ _ st5);refine Qf (thn (hg G.objs.size s2 H2 fp _ s5 σ3 H5 x u _ I5' r5 (step x H5 y5)) fun _ s6 ⟨σ6,H6,I6,q6⟩=>?_);refine Qf (thn (ht G.objs.size s2 H2 fp _ s6 σ6 H6 _ I6 q6) fun ok s7 ⟨H7,I7,q7⟩=>?_)
    -- what stays of the records
    have recs:∀{σ':St} {H':Hp} {s':Qd},Inv (blk X sc cl N' G.objs.size s2 H2 fp) ([(s2.heap.objs.size,({ cls:=.type "list",data:=.seq its.toArray k }:Obj))]++WV fp s5.heap) σ' H' s' ->
     tn (i+1) s'.heap/\(∀b∈s2.heap.objs.size::fp,H' b=none)/\s'.heap.get? s2.heap.objs.size=some { cls:=.type "list",data:=.seq its.toArray k }:=fun {σ' H' s'} I'=>by
     have pd:=I'.pin (s2.heap.objs.size,{ cls:=.type "list",data:=.seq its.toArray k }) (by simp)
     have pf:∀b∈fp,∀o,s5.heap.get? b=some o->s'.heap.get? b=some o/\H' b=none:=fun b hb o e=>by have z:=I'.pin (b,o) (QX _ (QX _ (U6 hb e)));exact⟨z.1,z.2.1⟩
     refine⟨T.keep _ _ _ st5 fun b hb o e=>(pf b hb o e).1,fun b hb=>?_,pd.1⟩;rcases Qm.mp hb with z|z
     ·subst z;exact pd.2.1
     ·obtain⟨o,e,d⟩:=T.obj _ _ st5 b z;exact(pf b z o e).2
    cases ok with
    | false=>obtain⟨m',hm,w7⟩:=hN _ _ _ (show N ys σ6 H7 from by simpa using q7);obtain⟨r1,r2,r3⟩:=recs I7;exact Qv ⟨rfl,m',hm,i+1,ys,its,k,σ6,H7,I7.pins_of (fun p hp=>nomatch hp),r1,r2,rv3,r3,w7⟩
    | true =>
     have q7':te σ6 H7 fun y H5=>N (ys++[y]) σ6 H5:=by simpa using q7
     refine Qf (Qf (thn (he G.objs.size s2 H2 fp _ s7 σ6 H7 _ I7 q7') fun y s8 ⟨y8,H8,I8,ry,q8⟩=>Qf ?_));obtain⟨r1,r2,r3⟩:=recs I8;have hl:=rv3.length;refine wpAny_list_append_plain (hsz:=by rw[Qt];omega) ⟨k,r3⟩ fun h9 ⟨k9,hl9⟩ hs9=>Qv (Qv ?_)
     have hD8:H8 s2.heap.objs.size=none:=r2 _ Qy
     have f8:=stD (pn:=[]) r2 (fun p z=>nomatch z) s2.heap.objs.size Qy
     have I8':Inv (blk X sc cl N' G.objs.size s2 H2 fp) [] σ6 H8 s8:=I8.pins_of (fun p hp=>nomatch hp)
     have I9:Inv (blk X sc cl N' G.objs.size s2 H2 fp) [] σ6 H8 { s8 with heap:=h9 }:=I8'.turned (t':=s8.toks) (it:=s2.heap.objs.size) (fun b o hb e=>hs9.extBut b o hb e) hD8 f8.2.1 f8.2.2.2.1 f8.2.2.2.2.1 f8.2.2.2.2.2;obtain⟨m',hm,w8⟩:=hN _ _ _ q8;refine⟨rfl,m',hm,i+1,ys++[y8],its++[y],k9,σ6,H8,I9,?_,r2,rv3.append (.cons ry .nil),?_,w8⟩
     ·exact T.keep _ _ _ r1 fun b hb o e=>hs9.extBut b o (fun z=>nDf (z▸hb)) e
     ·rw[hl9];simp
  ·rcases Qm.mp hb with z|z
   ·subst z;exact I2.hok.fresh (Qq _)
   ·exact(f2 b z).1
 exact codeAny_compStart_list loop (T.self _ 0 _ _ _ (T.keep _ _ _ st2 fun b _ o e=>old b o e) loop)

theorem Wk(hc:X.calm=true)(hi:PI X tg iter wi)(B:Blk X sc cl N' imp)
 (hg:∀C s H fp,PG (blk X sc cl N' C s H fp) tg g) (ht:∀C s H fp,Jgc (blk X sc cl N' C s H fp) ifs tt) (he:∀C s H fp,PE (blk X sc cl N' C s H fp) elt te)
 (hs:∀x,foldedSetIterable iter X.env x=pure x:=by intro _;rfl):PE X (.ListComp elt [⟨tg,iter,ifs,0⟩] sc pos) (Jdj wi g tt te imp):=by
 intro pins s σ H Q I h;rw[eval_ListComp];refine wpAny_comprehension_free (use:=none) rfl hs B.clos B.kind B.names (thn (hi pins s σ H _ I h) fun v s1 h1=>thn h1 fun itv s2 h2=>?_);refine Zw (RR:=fun acc C=>compPost (model X.prog X.w) X.A X.xe none (EP X pins σ Q) acc C) hc B hg ht he h2 fun C D s4 H' ys m hC hn hCf hI q=>?_
 exact⟨m,hn,fun h' hsb=>⟨.ref D,H',hI h' hsb,rfl,q⟩⟩
theorem Jb2{i:Nat}{x:Str}{pos' spos:Pos}(hN:X.N.Nodup)(hx1:X.N[i]?=some x)(hx2:Loc X.env.scope x)(hc:X.calm=true)(hi:PI X tg iter wi)(B:Blk X sc cl N' imp)
 (hg:∀C s H fp,PG (blk X sc cl N' C s H fp) tg g) (ht:∀C s H fp,Jgc (blk X sc cl N' C s H fp) ifs tt) (he:∀C s H fp,PE (blk X sc cl N' C s H fp) elt te)
 (hsw:swapsWith (.ListComp elt [⟨tg,iter,ifs,0⟩] sc pos) (some (.Name x pos')) spos.line X.env=pure true) (hf:X.fn x=true\/X.env.scope.names.lookup x=some .local)
 (hs:∀x,foldedSetIterable iter X.env x=pure x:=by intro _;rfl):PS X (.Assign [.Name x pos'] (.ListComp elt [⟨tg,iter,ifs,0⟩] sc pos) spos) (Jaz (Jdj wi g tt te imp) (UG i)):=by
 intro pins s σ H D I h;rw[exec_Assign_Name_used _ _ _ _ hsw];refine Qf (Ko (Qf ?_));show wpAny _ X.A (do let _ <- comprehension (.ListComp elt [⟨tg,iter,ifs,0⟩] sc pos) sc X.env _ (newList []) false (eval iter X.env) (some (assign (.Name x pos') X.env))) _ _ s;refine Qf (Q6 (wpAny_comprehension_free (use:=some (assign (.Name x pos') X.env)) (Q:=fun _ s'=>SP X pins D .next s') rfl hs B.clos B.kind B.names
  (thn (hi pins s σ H _ I h) fun v s1 h1=>thn h1 fun itv s2 h2=>?_)) (fun _ s' hq=>Qv (Qv hq)) fun _ _ e=>e)
 refine Zw (Q:=fun y H1=>UG i y σ H1 D.nx) (RR:=fun acc C=>compPost (model X.prog X.w) X.A X.xe (some (assign (.Name x pos') X.env)) (fun _ s'=>SP X pins D .next s') acc C) hc B hg ht he h2 fun C Dl s4 H' ys m hC hn hCf hI q=>?_
 obtain⟨it,fp,tn,J,H2,e,I2,_⟩:=h2;have I4:Inv X pins σ H' s4:=hI s4.heap (.refl ..);have neC:X.env.locals≠C:=QG (Kg I2.lt hC)
 have neCc:∀y c,X.env.cells.lookup y=some c->c≠C:=fun y c e=>by obtain⟨v,qc⟩:=I2.cell y c e;exact QG (Kg qc.lt hC)
 show wpAny _ X.A (assign (.Name x pos') X.env (.ref Dl)) _ _ s4;refine wpAny_assign_Name (ZS I4 hN hx1 hx2 (v:=.ref Dl) rfl (fun s5 I5 ⟨c0,hs5,hc0⟩=>?_) hf)
 have ne0:C≠c0:=by
  rcases hc0 with z|z
  ·rw[z];exact Q0 neC
  ·exact Q0 (neCc _ _ z)
 refine⟨m,hn.sameBut hs5 ne0,fun h' hsb=>⟨_,H',?_,q⟩⟩;refine I5.turned (t':=s5.toks) (it:=C) (fun b o hb e=>hsb.extBut b o hb e) hCf (Q0 neC) (.inr (Kc (K8 I2.sz hC))) neCc fun p hp z=>?_
 have:=Qj (I2.pin p hp).1;rw[z] at this;exact absurd (Kg this hC) (Q8 _)
end
end L2

namespace L2
open PySem PySem.Spec PyProof.Rows

inductive Rep (K:Qn) (H:Hp):V->PyData->Prop
 | non:Rep K H .non .none
 | bl (b:Bool):Rep K H (.bl b) (.bool b)
 | int (i:Int):Rep K H (.int i) (.int i)
 | str (x:Str):Rep K H (.str x) (.str x)
 | tup {a:Qc} {xs:List V} {ds:List PyData}:SqT K H a xs->xs.length=ds.length->(∀(i:Nat) (x:V) (d:PyData),xs[i]?=some x->ds[i]?=some d->Rep K H x d)->Rep K H (.ref a) (.tuple ds)
 | lst {a:Qc} {xs:List V} {ds:List PyData}:SqL K H a xs->xs.length=ds.length->(∀(i:Nat) (x:V) (d:PyData),xs[i]?=some x->ds[i]?=some d->Rep K H x d)->Rep K H (.ref a) (.list ds)

noncomputable def RepL(K:Qn)(H:Hp)(xs:List V)(ds:List PyData):Prop :=
 xs.length=ds.length/\∀(i:Nat) (x:V) (d:PyData),xs[i]?=some x->ds[i]?=some d->Rep K H x d

section
variable{K:Qn}{H H':Hp}
theorem RepL.nil:RepL K H [] []:=⟨rfl,fun i x d e=>by simp at e⟩
theorem RepL.cons{x:V}{d:PyData}{xs:List V}{ds:List PyData}(h:Rep K H x d)(r:RepL K H xs ds):RepL K H (x::xs) (d::ds):=by
 refine⟨by simp[r.1],fun i y e h1 h2=>?_⟩
 cases i with
 | zero=>simp at h1 h2;subst h1 h2;exact h
 | succ i=>exact r.2 i y e (by simpa using h1) (by simpa using h2)
theorem RepL.append{xs ys:List V}{ds es:List PyData}(r:RepL K H xs ds)(q:RepL K H ys es):RepL K H (xs++ys) (ds++es):=by
 refine⟨by simp[r.1,q.1],fun i x d h1 h2=>?_⟩
 by_cases hi:i<xs.length
 ·rw[QA hi] at h1;rw[QA (by rw[<- r.1];exact hi)] at h2;exact r.2 i x d h1 h2
 ·rw[QN (by omega)] at h1;rw[QN (by rw[<- r.1];omega)] at h2;rw[<- r.1] at h2;exact q.2 _ x d h1 h2
theorem RepL.snoc{xs:List V}{ds:List PyData}{x:V}{d:PyData}(r:RepL K H xs ds)(h:Rep K H x d):RepL K H (xs++[x]) (ds++[d]):=r.append (.cons h .nil)
theorem RepL.get{xs:List V}{ds:List PyData}{i:Nat}{d:PyData}(r:RepL K H xs ds)(e:ds[i]?=some d):∃x,xs[i]?=some x/\Rep K H x d:=by
 have hi:=(Qi.mp e).1
 have hx:i<xs.length:=by rw[r.1];exact hi
 exact⟨xs[i],by simp[hx],r.2 i _ d (by simp[hx]) e⟩
theorem RepL.get'{xs:List V}{ds:List PyData}{i:Nat}{x:V}(r:RepL K H xs ds)(e:xs[i]?=some x):∃d,ds[i]?=some d/\Rep K H x d:=by
 have hi:=(Qi.mp e).1
 have hx:i<ds.length:=by rw[<- r.1];exact hi
 exact⟨ds[i],by simp[hx],r.2 i x _ e (by simp[hx])⟩
theorem Rep.tupL{a:Qc}{xs:List V}{ds:List PyData}(h:SqT K H a xs)(r:RepL K H xs ds):Rep K H (.ref a) (.tuple ds):=.tup h r.1 r.2
theorem Rep.lstL{a:Qc}{xs:List V}{ds:List PyData}(h:SqL K H a xs)(r:RepL K H xs ds):Rep K H (.ref a) (.list ds):=.lst h r.1 r.2
theorem Rep.tupI{v:V}{ds:List PyData}(r:Rep K H v (.tuple ds)):∃a xs,v=.ref a/\SqT K H a xs/\RepL K H xs ds:=by
 cases r with
 | tup h l q=>exact⟨_,_,rfl,h,l,q⟩
theorem Rep.lstI{v:V}{ds:List PyData}(r:Rep K H v (.list ds)):∃a xs,v=.ref a/\SqL K H a xs/\RepL K H xs ds:=by
 cases r with
 | lst h l q=>exact⟨_,_,rfl,h,l,q⟩
theorem Rep.intI{v:V}{i:Int}(r:Rep K H v (.int i)):v=.int i:=by cases r;rfl
theorem Rep.strI{v:V}{i:Str}(r:Rep K H v (.str i)):v=.str i:=by cases r;rfl
theorem Rep.blI{v:V}{i:Bool}(r:Rep K H v (.bool i)):v=.bl i:=by cases r;rfl
theorem Same.seqT{a:Qc}{xs:List V}(e:Same H H')(h:SqT K H a xs):SqT K H' a xs:=by
 rcases h with (h|⟨o,h⟩)|h
 ·exact .inl (.inl (e _ _ h))
 ·exact .inl (.inr ⟨o,e _ _ h⟩)
 ·exact .inr h
theorem Rep.mono{v:V}{d:PyData}(e:Same H H')(r:Rep K H v d):Rep K H' v d:=by
 induction r with
 | non=>exact .non
 | bl b=>exact .bl b
 | int i=>exact .int i
 | str x=>exact .str x
 | tup h l _ ih=>exact .tup (e.seqT h) l ih
 | lst h l _ ih=>exact .lst (e.seq h) l ih
theorem RepL.mono{xs:List V}{ds:List PyData}(e:Same H H')(r:RepL K H xs ds):RepL K H' xs ds:=⟨r.1,fun i x d h1 h2=>(r.2 i x d h1 h2).mono e⟩

noncomputable def SameEx(l:Qc)(H H':Hp):Prop:=∀b o,b≠l->H b=some o->H' b=some o
theorem SameEx.upd{l:Qc}{o:HO}:SameEx l H (upd H l o):=fun b o' hb e=>by rw[Jj hb];exact e
theorem Same.ex{H0:Hp}{l:Qc}(s:Same H0 H)(hn:H0 l=none)(e:SameEx l H H'):Same H0 H':=fun b o h=>e b o (Jt h hn) (s b o h)
theorem Same.new{p:Qc}{o:HO}(hn:H p=none):Same H (upd H p o):=fun b o' e=>by rw[Jj (Jt e hn)];exact e
theorem SameEx.sqT{l a:Qc}{ys xs:List V}(e:SameEx l H H')(hl:H l=some (.lst ys))(h:SqT K H a xs):SqT K H' a xs:=by
 rcases h with (h|⟨o,h⟩)|h
 ·exact .inl (.inl (e _ _ (Ja5 h hl (by intro z;cases z)) h))
 ·exact .inl (.inr ⟨o,e _ _ (Ja5 h hl (by intro z;cases z)) h⟩)
 ·exact .inr h
theorem Same.ex_trans{l:Qc}{H2:Hp}(s:Same H H')(e:SameEx l H' H2):SameEx l H H2:=fun b o hb h=>e b o hb (s b o h)
inductive NoLst:PyData->Prop
 | non:NoLst .none
 | bl (b:Bool):NoLst (.bool b)
 | int (i:Int):NoLst (.int i)
 | str (x:Str):NoLst (.str x)
 | tup {ds:List PyData}:(∀d∈ds,NoLst d)->NoLst (.tuple ds)
end

theorem Vals.get':∀{xs:List V} {us:List Qa} {i:Nat} {u:Qa},Vals xs us->us[i]?=some u->∃x,xs[i]?=some x/\RelV x u
 | _,_,_,_,.nil,e=>by simp at e
 | _,_,0,_,.cons r _,e=>by simp at e;subst e;exact⟨_,rfl,r⟩
 | _,_,i+1,u,.cons _ t,e=>by obtain⟨x,h1,h2⟩:=Vals.get' (i:=i) (u:=u) t (by simpa using e);exact⟨x,by simpa using h1,h2⟩
theorem UO{h:QI}:∀(us:List Qa) (ds:List PyData),us.length=ds.length->(∀(i:Nat) (u:Qa) (d:PyData),us[i]?=some u->ds[i]?=some d->∃as,Reads h u d as)->∃as,ReadsAll h us ds as
 | [],[],_,_=>⟨_,.nil⟩
 | [],_::_,e,_=>by simp at e
 | _::_,[],e,_=>by simp at e
 | u::us,d::ds,e,f=>by
  obtain⟨as,h1⟩:=f 0 u d rfl rfl;obtain⟨bs,h2⟩:=UO us ds (by simpa using e) fun i v c q1 q2=>f (i+1) v c (by simpa using q1) (by simpa using q2)
  exact⟨_,.cons h1 h2⟩
section
variable{X:Cx}{pins:List (Qc×Obj)}{σ:St}{H:Hp}{s:Qd}
theorem Rep.reads{v:V}{d:PyData}(I:Inv X pins σ H s)(r:Rep X.K H v d):∀u,RelV v u->∃as,Reads s.heap u d as:=by
 induction r with
 | non=>intro u r;cases r;exact⟨_,.none⟩
 | bl b=>intro u r;cases r;exact⟨_,.bool b⟩
 | int i=>intro u r;obtain⟨t,rfl⟩:=r;exact⟨_,.int i t⟩
 | str x=>intro u r;obtain⟨t,rfl⟩:=r;exact⟨_,.str x t⟩
 | tup h l _ ih =>
  intro u r;cases r;obtain⟨its,rv,p,hz⟩:=I.tuple h;obtain⟨o,ho,hc,n,hd⟩:=p
  obtain⟨as,q⟩:=UO (h:=s.heap) its _ (rv.length.symm.trans l) fun i u d h1 h2=>by obtain⟨x,e1,e2⟩:=rv.get' h1;exact ih i x d e1 h2 u e2
  exact⟨_,.tuple ho hc hd q⟩
 | lst h l _ ih =>
  intro u r;cases r;obtain⟨its,rv,p,hz⟩:=I.list h;obtain⟨o,ho,hc,n,hd⟩:=p.isList
  obtain⟨as,q⟩:=UO (h:=s.heap) its _ (rv.length.symm.trans l) fun i u d h1 h2=>by obtain⟨x,e1,e2⟩:=rv.get' h1;exact ih i x d e1 h2 u e2
  exact⟨_,.list ho hc hd q⟩
end

section
variable{X:Cx}
noncomputable def Jc1(K:Qn):R2:=fun x y H Q=>rI0 (fun i j=>.int (i+j)) x y H Q\/(∃i j,x=.str i/\y=.str j/\i.length+j.length<=Qk/\Q (.str (i++j)) H)\/JlP x y H Q
theorem Jhn:OpR X (binaryOp .Add) (Jc1 X.K):=op_add.or (op_add_str.or Jj1)
noncomputable def JlQ(K:Qn):R2:=fun x y H Q=>∃d e,Rep K H x d/\Rep K H y e/\d.canLay0=true/\e.canLay0=true/\min d.depth e.depth<=60/\Q (.bl (KL d e)) H
noncomputable def JlV(K:Qn):R2:=fun x y H Q=>∃d e,Rep K H x d/\Rep K H y e/\d.canLay0=true/\e.canLay0=true/\min d.depth e.depth<=60/\Q (.bl (!PyData.eqv d e)) H
theorem Jj3(hu:X.A.units+64<cLine):OpR X (compareOp .Eq) (JlQ X.K):=by intro pins s σ H x y v u Q I rx ry h;obtain⟨d,e,h1,h2,c1,c2,hd,q⟩:=h;obtain⟨as,r1⟩:=h1.reads I v rx;obtain⟨bs,r2⟩:=h2.reads I u ry;exact SeqAt.compareEq_reads r1 r2 c1 c2 (by omega) ⟨.bl _,H,I,rfl,q⟩
theorem Jj7(hu:X.A.units+64<cLine):OpR X (compareOp .NotEq) (JlV X.K):=by intro pins s σ H x y v u Q I rx ry h;obtain⟨d,e,h1,h2,c1,c2,hd,q⟩:=h;obtain⟨as,r1⟩:=h1.reads I v rx;obtain⟨bs,r2⟩:=h2.reads I u ry;exact SeqAt.compareNe_reads r1 r2 c1 c2 (by omega) ⟨.bl _,H,I,rfl,q⟩
noncomputable def JfA(K:Qn):R2:=fun x y H Q=>rEq x y H Q\/JlQ K x y H Q
noncomputable def JfB(K:Qn):R2:=fun x y H Q=>rNe x y H Q\/JlV K x y H Q
theorem Jj2(hu:X.A.units+64<cLine):OpR X (compareOp .Eq) (JfA X.K):=op_eq.or (Jj3 hu)
theorem Jj6(hu:X.A.units+64<cLine):OpR X (compareOp .NotEq) (JfB X.K):=op_ne.or (Jj7 hu)
noncomputable def Jb4(K:Qn):List V->Hp->VK->Prop:=fun xs H Q=>∃x n,xs=[x]/\Jli K x H n/\Q (.int n) H
theorem Jdu:CallR X (.builtin "len") (Jb4 X.K):=Jen
noncomputable def WX(K:Qn):List V->Hp->VK->Prop:=fun xs H Q=>∃p ys,xs=[.ref p]/\((SqL K H p ys/\∀l,H l=none->Q (.ref l) (upd H l (.tup ys)))\/(SqT K H p ys/\Q (.ref p) H))
theorem JaL:CallR X (.type "tuple") (WX X.K):=Zf
noncomputable def Jan(K:Qn):List V->Hp->VK->Prop:=fun xs H Q=>∃p ys,xs=[.ref p]/\(SqL K H p ys\/SqT K H p ys)/\∀l,H l=none->Q (.ref l) (upd H l (.lst ys))
theorem JbG:CallR X (.type "list") (Jan X.K):=Z1
inductive TyS (K:Qn) (H:Hp):V->Qa->Prop where
 | of {x:V} {t:Qa} (h:TyOf K H x t):TyS K H x t
 | sqT {a:Qc} {xs:List V} (h:SqT K H a xs):TyS K H (.ref a) (.type "tuple")
 | sqL {a:Qc} {xs:List V} (h:SqL K H a xs):TyS K H (.ref a) (.type "list")
theorem WF{pins:List (Qc×Obj)}{σ:St}{H:Hp}{s:Qd}{A:Qw}{E:Qa->Qd->Prop}{Q:Qa->Qd->Prop}{c:Qa}{b:Bool}{x:V}{u t:Qa}(I:Inv X pins σ H s)(rx:RelV x u)(ty:TyS X.K H x t)(e:kitOne X.K t c=some b)(h:∀tk,Q (.bool b) { s with toks:=tk }) :
 wpAny (model X.prog X.w) A (call (.builtin "isinstance") [u,c]) Q E s:=by
 cases ty with
 | of z=>exact JdM I rx z e h
 | @sqT a xs z=>cases (show u=Value.ref a from rx);obtain⟨its,_,p,_⟩:=I.tuple z;obtain⟨o,h1,h2,_⟩:=p;exact kia_one Mf I.kIn ⟨o,h1,h2⟩ e (fun z=>nomatch z) h
 | @sqL a xs z=>cases (show u=Value.ref a from rx);obtain⟨its,_,p,_⟩:=I.list z;obtain⟨o,h1,h2,_⟩:=p.isList;exact kia_one kitx_list I.kIn ⟨o,h1,h2⟩ e (fun z=>nomatch z) h
noncomputable def JhE(K:Qn):List V->Hp->VK->Prop:=fun vs H Q=>∃x c t tc b,vs=[x,c]/\TyS K H x t/\(∀u,RelV c u->u=tc)/\kitOne K t tc=some b/\Q (.bl b) H
theorem Jem:CallR X (.builtin "isinstance") (JhE X.K):=by intro pins s σ H xs us Q I r h;obtain⟨x,c,t,tc,b,rfl,ty,hc,e,q⟩:=h;obtain⟨u,w',rfl,r1,r2⟩:=JiT r;cases hc w' r2;exact WF I r1 ty e fun tk=>⟨.bl b,H,I.tok tk,rfl,q⟩
noncomputable def Jkk:R2:=fun x y H Q=>y=.non/\Q (.bl (decide (x=.non))) H
noncomputable def JfC:R2:=fun x y H Q=>y=.non/\Q (.bl (!decide (x=.non))) H
theorem Wj:OpR X (compareOp .Is) Jkk:=Jj5
theorem Jbe:OpR X (compareOp .IsNot) JfC:=Jhr
noncomputable def Jmt:List V->Hp->VK->Prop:=fun xs H Q=>∃i j,xs=[.int i,.int j]/\Q (.int (if j>i then j else i)) H
noncomputable def Jmu:List V->Hp->VK->Prop:=fun xs H Q=>∃i j,xs=[.int i,.int j]/\Q (.int (if j<i then j else i)) H
noncomputable def Jij(K:Qn)(ta:TE):TT:=fun σ H Q=>ta σ H fun x H1=>∃k,Jdp K x H1 k/\Q k H1
theorem Jki{a:QR}{ta:TE}(ha:PE X a ta)(he:∀whole,isTrue a X.env whole=(do let v <- whole;standAt a.pos;holding [v] (truthy v))):PT X a (Jij X.K ta):=Jfx ha he
noncomputable def GV(mg:Str->Option Qa)(x:Str)(v:V):Prop:=∃u,mg x=some u/\RelV v u
theorem WT{x:Str}{v:V}{pos:Pos}(hg:Gl X x)(hm:GV X.mg x v)(hd:(x == ("__debug__":Str))=false:=by decide):PE X (.Name x pos) (tC v):=by obtain⟨u,h1,h2⟩:=hm;exact Yp hg h1 h2 hd
end
theorem YK:bootBuiltins "len"=some (.builtin "len"):=by decide +kernel
theorem Jy:bootBuiltins "isinstance"=some (.builtin "isinstance"):=by decide +kernel
theorem Ji5:bootBuiltins "sum"=some (.builtin "sum"):=by decide +kernel
theorem Ji4:bootBuiltins "all"=some (.builtin "all"):=by decide +kernel
theorem Z0:bootBuiltins "int"=some (.type "int"):=by decide +kernel
theorem Jgn:bootBuiltins "bool"=some (.type "bool"):=by decide +kernel
theorem Jej:bootBuiltins "str"=some (.type "str"):=by decide +kernel
theorem Jgo:bootBuiltins "list"=some (.type "list"):=by decide +kernel
theorem Jek:bootBuiltins "tuple"=some (.type "tuple"):=by decide +kernel
structure Cal (P:Qo) (w:QC) (K:Qn) (mg:Str->Option Qa) (base:QI) (x:Str) (k:Nat) (ps:List Str) (sp:Sp):Prop where
 ex:∃(f:Qc) (fd:QE),FnOk P w K mg base CX0 k f fd ps sp/\mg x=some (.ref f)/\keepIn K (.ref f)=true/\Binds K fd ps []
structure CalM (P:Qo) (w:QC) (K:Qn) (mg:Str->Option Qa) (base:QI) (x:Str) (C:Qc) (k:Nat) (ps:List Str) (sp:Sp):Prop where
 ex:∃(f:Qc) (fd:QE),Mk K C f/\FnOk P w K mg base CX0 k f fd ps sp/\mg x=some (.ref C)/\Binds K fd ps []
section
variable{X:Cx}{k:Nat}{C:Qc}{ps:List Str}{sp:Sp}{x:Str}{p pos:Pos}{e:QR}{es:List QR}{t:TA}
theorem JI(c:Cal X.prog X.w X.K X.mg X.base x k ps sp)(hr:Room k X.A)(hg:Gl X x)(ha:PA X (e::es) t)(hdb:(x == ("__debug__":Str))=false:=by decide)
 (he:starEach (e::es) X.env=(false,eval e X.env)::starEach es X.env:=by rfl) (hpl:(backTo pos (starEach es X.env)).any (·.1)=false:=by rfl):PE X (.Call (.Name x p) (e::es) [] pos) (Vw sp [] E0 t):=by
 obtain⟨f,fd,F,h1,h2,h3⟩:=c.ex;exact JcX F hr hg h1 h2 h3 .nil JlL ha hdb he hpl
end

noncomputable def JbK(K:Qn)(tl:TE):TI:=fun σ H R=>Jiz K tl σ H R\/JlC K tl σ H R
theorem Jkb{X:Cx}{tg l:QR}{tl:TE}(hl:PE X l tl):PI X tg l (JbK X.K tl):=by
 intro pins s σ H R I h;rcases h with h|h
 ·exact Jhw hl pins s σ H R I h
 ·exact Jkc hl pins s σ H R I h

theorem Jgk{X:Cx}{sc:K3}{N':List Str}{imp:List (Option Nat)}(h1:sc.kind=.function)
 (h2:(sc.names.all (fun y=>y.2 != .free && y.2 != .cell && (y.2 != .local || sc.names.lookup y.1 == some .local)) && imp.all (·.isNone) && (imp.length == N'.length))=true):Blk X sc [] N' imp:=by
 simp only[Qz,QS] at h2;obtain⟨⟨h2,h3⟩,h4⟩:=h2
 have nofree:∀y∈sc.names,y.2≠.free:=fun y hy=>by
  have:=(h2 y hy).1.1
  simpa using this
 have nocell:∀y∈sc.names,y.2≠.cell:=fun y hy=>by
  have:=(h2 y hy).1.2
  simpa using this
 refine⟨closureFor_none nofree,h1,nocell,fun y hy hl=>?_,(fun p hp=>nomatch hp),fun y hy hk=>?_,by simpa using h4,fun p hp k e=>?_⟩
 ·have:=(h2 y hy).2;rw[hl] at this
  simpa using this
 ·have:(relabel sc X.env).names=sc.names:=by
   unfold relabel;refine map_eq_self fun x hx=>?_
   obtain⟨n,q⟩:=x;have:(q == NameKind.free)=false:=by simpa using nofree _ hx
   simp[this]
  rw[this] at hy;rcases hk with z|z
  ·exact absurd z (nocell y hy)
  ·exact absurd z (nofree y hy)
 ·have:=h3 p.1 (GQ hp).1;rw[e] at this;cases this

section
variable{K:Qn}{σ:St}{H H1:Hp}{Q:VK}{i:Nat}{v:V}{ta tb te:TE}{r:R2}{D:Ends}{t u:TS}{c:TT}
theorem JkM(h:σ[i]?=some (some v))(q:Q v H):JaA i σ H Q:=⟨v,h,q⟩
theorem Jmv(q:Q v H):tC v σ H Q:=q
theorem Jl3(q:ta σ H fun x H1=>tb σ H1 fun y H2=>r x y H2 Q):tOp r ta tb σ H Q:=q
theorem Jl6{r:V->Hp->VK->Prop}(q:ta σ H fun x H1=>r x H1 Q):tUn r ta σ H Q:=q
theorem Jl1{g:Int->Int->V}{a b:Int}(q:Q (g a b) H):rI0 g (.int a) (.int b) H Q:=⟨a,b,rfl,rfl,q⟩
theorem Jmw{C:Int->Int->Prop}{g:Int->Int->V}{a b:Int}(h:C a b)(q:Q (g a b) H):rI C g (.int a) (.int b) H Q:=⟨a,b,rfl,rfl,h,q⟩
theorem Jmx{g:Int->V}{a:Int}(q:Q (g a) H):rU g (.int a) H Q:=⟨a,rfl,q⟩
theorem Jao{a b:Int}(q:Q (.int (a+b)) H):Jc1 K (.int a) (.int b) H Q:=.inl ⟨a,b,rfl,rfl,q⟩
theorem Jkq{a b:Int}(q:Q (.bl (decide (a=b))) H):JfA K (.int a) (.int b) H Q:=.inl ⟨rfl,by
 have:decide (V.int a=V.int b)=decide (a=b):=by simp
 rw[this];exact q⟩
theorem JkD{a b:Int}(q:Q (.bl (!decide (a=b))) H):JfB K (.int a) (.int b) H Q:=.inl ⟨rfl,by
 have:decide (V.int a=V.int b)=decide (a=b):=by simp
 rw[this];exact q⟩
theorem Jkr{a b:Str}(q:Q (.bl (decide (a=b))) H):JfA K (.str a) (.str b) H Q:=.inl ⟨rfl,by
 have:decide (V.str a=V.str b)=decide (a=b):=by simp
 rw[this];exact q⟩
theorem JkE{a b:Str}(q:Q (.bl (!decide (a=b))) H):JfB K (.str a) (.str b) H Q:=.inl ⟨rfl,by
 have:decide (V.str a=V.str b)=decide (a=b):=by simp
 rw[this];exact q⟩
theorem Jkv{x:V}(q:Q (.bl (decide (x=.non))) H):Jkk x .non H Q:=⟨rfl,q⟩
theorem JhQ{x:V}(q:Q (.bl (!decide (x=.non))) H):JfC x .non H Q:=⟨rfl,q⟩
theorem JkB{a b:Int}(q:Q (.int (max a b)) H):Jmt [.int a,.int b] H Q:=⟨a,b,rfl,by
 have e:(if b>a then b else a)=max a b:=by rw[Int.max_def];split <;> split <;> omega
 rw[e];exact q⟩
theorem JkC{a b:Int}(q:Q (.int (min a b)) H):Jmu [.int a,.int b] H Q:=⟨a,b,rfl,by
 have e:(if b<a then b else a)=min a b:=by rw[Int.min_def];split <;> split <;> omega
 rw[e];exact q⟩
theorem JhU{Qb:Bool->Hp->Prop}(q:ta σ H fun x H1=>∃k,Jdp K x H1 k/\Qb k H1):Jij K ta σ H Qb:=q
theorem Jks{f:Str}(q:ta σ H fun x H1=>∃a C dx fs v,x=.ref a/\H1 a=some (.ins C dx fs)/\Cls K C/\NoAttr K C f/\fs.lookup f=some v/\Q v H1):JmC K ta f σ H Q:=q
theorem JhT{Qb:Bool->Hp->Prop}(q:te σ H fun x H'=>∃k,x=.bl k/\Qb k H'):Jf3 te σ H Qb:=q
theorem Jl5{Qb:Bool->Hp->Prop}(q:te σ H fun x H'=>∃k,x=.bl k/\Qb k H'):tB te σ H Qb:=q
theorem Jko{c':TT}{Qb:Bool->Hp->Prop}(q:c σ H fun b H1=>if b=true then c' σ H1 Qb else Qb false H1):JkX c c' σ H Qb:=q
theorem Jl4{c':TT}{Qb:Bool->Hp->Prop}(q:c σ H fun b H1=>if b=true then Qb true H1 else c' σ H1 Qb):tOr c c' σ H Qb:=q
theorem JkG{Qb:Bool->Hp->Prop}(q:c σ H fun b H1=>Qb (!b) H1):JkZ c σ H Qb:=q
theorem JhR(q:te σ H fun x H1=>∃b,x=.bl b/\Q (.bl (!b)) H1):Jma te σ H Q:=q
theorem JhF(q:ta σ H fun x H1=>∃b,x=.bl b/\if b=true then tb σ H1 Q else Q (.bl false) H1):Jf0 ta tb σ H Q:=q
theorem JkH(q:ta σ H fun x H1=>∃b,x=.bl b/\if b=true then Q (.bl true) H1 else tb σ H1 Q):JmE ta tb σ H Q:=q
theorem Jkt(q:c σ H fun b H1=>if b=true then ta σ H1 Q else tb σ H1 Q):tIf c ta tb σ H Q:=q
theorem JkJ(q:t { D with nx:=u D } σ H):Jd6 t u D σ H:=q
theorem Jkp{g:TG}(q:te σ H fun x H1=>g x σ H1 D.nx):Jaz te g D σ H:=q
theorem JfH{Qs:St->Hp->Prop}(q:Qs (σ.set i (some v)) H):UG i v σ H Qs:=q
theorem Jku(q:c σ H fun b H1=>if b=true then t D σ H1 else u D σ H1):Jih c t u D σ H:=q
theorem JkI(q:te σ H D.rt):Jf2 te D σ H:=q
theorem JhH(q:te σ H fun _ H1=>D.nx σ H1):ZU te D σ H:=q
theorem JhP(q:D.nx σ H):Jf1 D σ H:=q
theorem JhG{tr:TA}{Ql:List V->Hp->Prop}(q:ta σ H fun x H1=>tr σ H1 fun xs H2=>Ql (x::xs) H2):Y0 ta tr σ H Ql:=q
theorem JkF{Ql:List V->Hp->Prop}(q:Ql [] H):Zo σ H Ql:=q
theorem Jl0{r:List V->Hp->VK->Prop}{ts:TA}(q:ts σ H fun vs H1=>r vs H1 Q):tCB r ts σ H Q:=q
theorem Vq{sp:Sp}{E:XK}{ts:TA}(q:ts σ H fun vs H1=>sp vs H1 Q E):Vw sp [] E ts σ H Q:=by
 have e:(fun vs H1=>sp (vs++[]) H1 Q E)=fun vs H1=>sp vs H1 Q E:=by funext vs H1;rw[QY]
 show ts σ H fun vs H1=>sp (vs++[]) H1 Q E
 rw[e];exact q
noncomputable def Jec(xs:List V)(H:Hp)(Q:VK):Prop:=xs.length<=Qk/\∀p,H p=none->Q (.ref p) (upd H p (.tup xs))
noncomputable def JiX(xs:List V)(H:Hp)(Q:VK):Prop:=xs.length<=Qk/\∀p,H p=none->Q (.ref p) (upd H p (.lst xs))
theorem JkL{ts:TA}(q:ts σ H fun xs H1=>Jec xs H1 Q):Jk1 ts σ H Q:=q
theorem JkA{ts:TA}(q:ts σ H fun xs H1=>JiX xs H1 Q):Jii ts σ H Q:=q
theorem Ji1{xs:List V}(hl:xs.length<=Qk)(q:∀p H',H p=none->Same H H'->H' p=some (.tup xs)->Q (.ref p) H'):Jec xs H Q:=⟨hl,fun p hp=>q p _ hp (.new hp) JE⟩
theorem JhL{a:Qc}{xs:List V}(h:SqL K H a xs)(q:Q (.int xs.length) H):Jb4 K [.ref a] H Q:=⟨_,_,rfl,.inl ⟨xs,h,rfl⟩,q⟩
theorem JhN{a:Qc}{xs:List V}(h:SqT K H a xs)(q:Q (.int xs.length) H):Jb4 K [.ref a] H Q:=⟨_,_,rfl,.inr ⟨xs,h,rfl⟩,q⟩
theorem JhM{x:Str}(h:x.length<=Qk)(q:Q (.int x.length) H):Jb4 K [.str x] H Q:=⟨_,_,rfl,⟨h,rfl⟩,q⟩
theorem Jd0{a:Qc}{xs:List V}(h:SqL K H a xs)(q:∀p H',H p=none->Same H H'->H' p=some (.tup xs)->Q (.ref p) H'):WX K [.ref a] H Q:=⟨a,xs,rfl,.inl ⟨h,fun p hp=>q p _ hp (.new hp) JE⟩⟩
theorem Jkx{a:Qc}{xs:List V}{j:Int}{v:V}(h:SqL K H a xs)(e:atI xs j=some v)(q:Q v H):rIx K (.ref a) (.int j) H Q:=.inl ⟨a,xs,j,v,rfl,rfl,h,e,q⟩
theorem Jkz{a:Qc}{xs:List V}{j:Int}{v:V}(h:SqT K H a xs)(e:atI xs j=some v)(q:Q v H):rIx K (.ref a) (.int j) H Q:=.inr (.inl ⟨a,xs,j,v,rfl,rfl,h,e,q⟩)
theorem Jky{z:Str}{j:Int}{c:Nat}(hz:z.length<=Qk)(e:atI z.cps.toList j=some c)(q:Q (.str ⟨#[c]⟩) H):rIx K (.str z) (.int j) H Q:=.inr (.inr ⟨z,j,c,rfl,rfl,hz,e,q⟩)
theorem Jkw{x:V}{n:String}{t:Qa}{b:Bool}(ty:TyS K H x t)(e:kitOne K t (.type n)=some b)(q:Q (.bl b) H):JhE K [x,.ty n] H Q:=⟨x,_,t,_,b,rfl,ty,fun _ r=>r,e,q⟩
theorem Jl2{T:String}{rm:V->List V->Hp->VK->Prop}{to:TE}{ts:TA}(q:to σ H fun x H1=>tyV K T x H1/\ts σ H1 fun xs H2=>rm x xs H2 Q):tBM K T rm to ts σ H Q:=q
theorem JhJ{to ti:TE}{ts:Jgf}{Qs:St->Hp->Prop}(q:to σ H fun o H1=>ti σ H1 fun i H2=>ts o i v H2 fun H3=>Qs σ H3):Jjt to ti ts v σ H Qs:=q
theorem Jc7{a:Qc}{xs:List V}{n:Nat}{ts:TGs}{Qs:St->Hp->Prop}(h:SqT K H a xs)(hl:xs.length=n)(q:ts xs σ H Qs):JeS K n ts (.ref a) σ H Qs:=⟨a,xs,rfl,h,hl,q⟩
theorem JfG{t:TG}{u:TGs}{x:V}{xs:List V}{Qs:St->Hp->Prop}(q:t x σ H fun σ' H'=>u xs σ' H' Qs):JeR t u (x::xs) σ H Qs:=⟨x,xs,rfl,q⟩
theorem JhI{Qs:St->Hp->Prop}(q:Qs σ H):Jjs [] σ H Qs:=⟨rfl,q⟩
theorem JhS{f:Str}{tv:TE}(q:tv σ H fun y H1=>ta σ H1 fun x H2=>∃a C dx fs,x=.ref a/\H2 a=some (.ins C dx fs)/\Cls K C/\NoAttr K C f/\fs.length<1000/\D.nx σ (upd H2 a (.ins C dx (Uy f y fs)))):JkP K ta tv f D σ H:=q
theorem JfF{r':R2}{tc:TE}(q:ta σ H fun x H1=>tb σ H1 fun y H2=>r x y H2 fun z H3=>∃k,z=.bl k/\(if k=true then tc σ H3 fun w' H4=>r' y w' H4 Q else Q (.bl false) H3)):JkY r r' ta tb tc σ H Q:=q
theorem JkN{Qb:Bool->Hp->Prop}(q:Qb true H):Jk2 σ H Qb:=q
theorem ifd{c A B:Prop}[Decidable c](h1:c->A)(h2:¬c->B):if decide c=true then A else B:=by
 by_cases h:c
 ·rw[if_pos (decide_eq_true h)];exact h1 h
 ·rw[if_neg (by simpa using h)];exact h2 h
theorem ifT{b:Bool}{A B:Prop}(e:b=true)(h:A):if b=true then A else B:=by rw[if_pos e];exact h
theorem ifF{b:Bool}{A B:Prop}(e:b=false)(h:B):if b=true then A else B:=by rw[if_neg (by rw[e];exact Qx)];exact h

theorem JdZ{tl:TE}{g:TG}{a:Qc}{xs:List V}(hx:∀R:VK,R (.ref a) H1->tl σ H R)(hq:SqL K H1 a xs\/SqT K H1 a xs)(Pv:Nat->St->Hp->Prop)(h0:Pv 0 σ H1)(hS:∀i σ' H',Pv i σ' H'->Same H1 H')
 (hs:∀i x σ' H',xs[i]?=some x->Pv i σ' H'->g x σ' H' fun σ2 H2=>t { D with nx:=Pv (i+1),ct:=Pv (i+1),bk:=D.nx } σ2 H2) (hd:∀σ' H',Pv xs.length σ' H'->D.nx σ' H'):Jig (JbK K tl) g t D σ H:=by
 rcases hq with hq|hq
 ·exact .inl (hx _ ⟨a,rfl,⟨xs,hq⟩,JeP (xs:=xs) Pv h0 (fun i σ' H' _ p=>(hS i σ' H' p).seq hq) hs hd⟩)
 ·exact .inr (hx _ ⟨a,rfl,⟨xs,hq⟩,JgZ (xs:=xs) Pv h0 (fun i σ' H' _ p=>(hS i σ' H' p).seqT hq) hs hd⟩)
theorem Jcp{J:It}{g:TG}{tt:TT}{imp:List (Option Nat)}{n:Nat}(hn:n<=Qk)(Pv:Nat->List V->St->Hp->Prop)(h0:Pv 0 [] (WB imp σ) H1)(hy:∀i ys σ' H',Pv i ys σ' H'->ys.length<=i)
 (hstop:∀ys σ' H',Pv n ys σ' H'->J.stop n H') (hgo:∀i ys σ' H',i<n->Pv i ys σ' H'->J.go i H')
 (hs:∀i ys x σ' H' H2,i<n->J.yld i H' x H2->Pv i ys σ' H'->g x σ' H2 fun σ2 H3=>tt σ2 H3 fun b H4=>if b=true then te σ2 H4 fun y H5=>Pv (i+1) (ys++[y]) σ2 H5 else Pv (i+1) ys σ2 H4)
 (hd:∀ys σ' H',Pv n ys σ' H'->∀p H2,H' p=none->Same H' H2->H2 p=some (.lst ys)->Q (.ref p) H2) :
 ∃W:Nat->Nat->List V->St->Hp->Prop,(∃m,W 0 m [] (WB imp σ) H1)/\∀i m ys σ' H',W i m ys σ' H' ->
  (J.stop i H'/\ys.length<=Qk/\∀D,H' D=none->Q (.ref D) (upd H' D (.lst ys))) ∨
  (J.go i H'/\ys.length<Qk/\∃N:List V->St->Hp->Prop,(∀ys' σ2 H2,N ys' σ2 H2->∃m',m'<m/\W (i+1) m' ys' σ2 H2) ∧
   ∀x H2,J.yld i H' x H2->g x σ' H2 fun σ2 H3=>tt σ2 H3 fun b H4=>if b=true then te σ2 H4 fun y H5=>N (ys++[y]) σ2 H5 else N ys σ2 H4):=by
 refine⟨fun i m ys σ' H'=>m=n-i/\i<=n/\Pv i ys σ' H',⟨n,by simp,G4 _,h0⟩,?_⟩;rintro i m ys σ' H' ⟨rfl,hi,p⟩;have hl:=hy i ys σ' H' p
 by_cases hlt:i<n
 ·exact .inr ⟨hgo i ys σ' H' hlt p,by omega,fun ys' σ2 H2=>Pv (i+1) ys' σ2 H2,fun ys' σ2 H2 p'=>⟨n-(i+1),by omega,rfl,hlt,p'⟩,fun x H2 y=>hs i ys x σ' H' H2 hlt y p⟩
 ·have e:i=n:=by omega
  subst e;exact .inl ⟨hstop ys σ' H' p,by omega,fun q hq=>hd ys σ' H' p q _ hq (.new hq) JE⟩
theorem Jb6{tl:TE}{g:TG}{tt:TT}{imp:List (Option Nat)}{a:Qc}{xs:List V}(hx:∀R:VK,R (.ref a) H1->tl σ H R)(hq:SqL K H1 a xs\/SqT K H1 a xs)(hn:xs.length<=Qk)(Pv:Nat->List V->St->Hp->Prop)
 (h0:Pv 0 [] (WB imp σ) H1) (hy:∀i ys σ' H',Pv i ys σ' H'->ys.length<=i) (hS:∀i ys σ' H',Pv i ys σ' H'->Same H1 H')
 (hs:∀i ys x σ' H',xs[i]?=some x->Pv i ys σ' H'->g x σ' H' fun σ2 H3=>tt σ2 H3 fun b H4=>if b=true then te σ2 H4 fun y H5=>Pv (i+1) (ys++[y]) σ2 H5 else Pv (i+1) ys σ2 H4)
 (hd:∀ys σ' H',Pv xs.length ys σ' H'->∀p H2,H' p=none->Same H' H2->H2 p=some (.lst ys)->Q (.ref p) H2):Jdj (JbK K tl) g tt te imp σ H Q:=by
 rcases hq with hq|hq
 ·refine .inl (hx _ ⟨a,rfl,⟨xs,hq⟩,Jcp (n:=xs.length) hn Pv h0 hy (fun ys σ' H' p=>⟨xs,(hS _ _ _ _ p).seq hq,Qq _⟩) (fun i ys σ' H' hi p=>⟨xs,xs[i],(hS _ _ _ _ p).seq hq,by simp[hi]⟩) (fun i ys x σ' H' H2 hi y p=>?_) hd⟩);obtain⟨e,y⟩:=y;subst e;exact hs i ys x σ' _ (y xs ((hS _ _ _ _ p).seq hq)) p
 ·refine .inr (hx _ ⟨a,rfl,⟨xs,hq⟩,Jcp (n:=xs.length) hn Pv h0 hy (fun ys σ' H' p=>⟨xs,(hS _ _ _ _ p).seqT hq,Qq _⟩) (fun i ys σ' H' hi p=>⟨xs,xs[i],(hS _ _ _ _ p).seqT hq,by simp[hi]⟩) (fun i ys x σ' H' H2 hi y p=>?_) hd⟩);obtain⟨e,y⟩:=y;subst e;exact hs i ys x σ' _ (y xs ((hS _ _ _ _ p).seqT hq)) p
end
end L2
namespace L2
open PySem PySem.Spec PyProof.Rows
section
variable{X:Cx}{K:Qn}{pos:Pos}
theorem Jho(hK:X.K=K):OpR X (binaryOp .Add) (Jc1 K):=hK▸Jhn
theorem Ym(hK:X.K=K)(hu:X.A.units+64<cLine):OpR X (compareOp .Eq) (JfA K):=hK▸Jj2 hu
theorem WQ(hK:X.K=K)(hu:X.A.units+64<cLine):OpR X (compareOp .NotEq) (JfB K):=hK▸Jj6 hu
theorem Yb(hK:X.K=K):CallR X (.builtin "len") (Jb4 K):=hK▸Jdu
theorem JaK(hK:X.K=K):CallR X (.type "tuple") (WX K):=hK▸JaL
theorem JbF(hK:X.K=K):CallR X (.type "list") (Jan K):=hK▸JbG
theorem Zu(hK:X.K=K):CallR X (.builtin "isinstance") (JhE K):=hK▸Jem
theorem Jg2(hK:X.K=K):IxR X (rIx K):=hK▸JjD
theorem JhA{o value:QR}{f:Str}{pos':Pos}{ta tv:TE}(hK:X.K=K)(ha:PE X o ta)(hv:PE X value tv)(hs:swapsWith value (some (.Attribute o f pos')) pos.line X.env=pure false):PS X (.Assign [.Attribute o f pos'] value pos) (JkP K ta tv f):=hK▸Jkf ha hv hs
theorem Jhx{tg l:QR}{tl:TE}(hK:X.K=K)(hl:PE X l tl):PI X tg l (JbK K tl):=hK▸Jkb hl
theorem Wl{es:List QR}{k:Nat}{t:TGs}{n:Nat}(hK:X.K=K)(hc:X.calm=true)(h:PGs X es t)(hn:(assignEach es X.env).length=n)(hst:(assignEach es X.env).findIdx? (·.1)=none):PG X (.Tuple es k pos) (JeS K n t):=hK▸Jka hc h hn hst
theorem Ur{a:QR}{ta:TE}(hK:X.K=K)(ha:PE X a ta)(he:∀whole,isTrue a X.env whole=(do let v <- whole;standAt a.pos;holding [v] (truthy v))):PT X a (Jij K ta):=hK▸Jki ha he
theorem YB{o e:QR}{es:List QR}{to:TE}{t:TA}{name:Str}{apos cpos:Pos}{T id:String}{r:V->List V->Hp->VK->Prop}(hK:X.K=K)(pa:PlainAttrs T)(slot:Slot T name id)(hty:typeOf (.builtin id)=pure (.type "method_descriptor"))(hm:MtR X id r)(ho:PE X o to)(ha:PA X (e::es) t)
 (hbase:attributeBase o name X.env (eval o X.env)=eval o X.env:=by rfl)
 (hfew:((backTo cpos (starEach (e::es) X.env)).all (fun x=>!x.1) && (backToKw cpos (keywordEach [] X.env)).all (fun x=>x.1.isSome)
  && decide ((e::es).length+([]:List Lc).length+(if ([]:List Lc).isEmpty then 0 else 1)<30))=true:=by rfl)
 (hline:(apos.endLine == cpos.line)=true:=by rfl) (hs:starEach (e::es) X.env=(false,eval e X.env)::starEach es X.env:=by rfl) (hplain:(backTo cpos (starEach es X.env)).any (·.1)=false:=by rfl) :
 PE X (.Call (.Attribute o name apos) (e::es) [] cpos) (tBM K T r to t):=hK▸JlN pa slot hty hm ho ha hbase hfew hline hs hplain
end
end L2

namespace LR
open PySem L2

theorem sz2{a b:V}:[a,b].length<=Qk:=by show 2<=Qk;decide
theorem Jk5(K:Qn)(H:Hp)(k:Bool):Jdp K (.bl k) H k:=rfl
noncomputable abbrev Pr:=Int×Int
noncomputable def prD(p:Pr):PyData:=.tuple [.int p.1,.int p.2]
section
variable{K:Qn}{H H':Hp}
theorem Jhy{v:V}{p:Pr}(r:Rep K H v (prD p)):∃a,v=.ref a/\SqT K H a [.int p.1,.int p.2]:=by
 obtain⟨a,xs,rfl,h,l,q⟩:=r.tupI
 match xs,l,q,h with
 | [x,y],_,q,h =>
  have e1:=(q 0 x (.int p.1) rfl rfl).intI
  have e2:=(q 1 y (.int p.2) rfl rfl).intI;subst e1 e2;exact⟨a,rfl,h⟩
theorem Jfs{a:Qc}{b n:Int}(h:SqT K H a [.int b,.int n]):Rep K H (.ref a) (prD (b,n)):=.tupL h (.cons (.int b) (.cons (.int n) .nil))
theorem Jhz{a:Qc}{b n:Int}(h:H a=some (.tup [.int b,.int n])):Rep K H (.ref a) (prD (b,n)):=Jfs (.of h)
noncomputable abbrev Prs(K:Qn)(H:Hp)(vs:List V)(ps:List Pr):Prop:=RepL K H vs (ps.map prD)
theorem Prs.len{vs:List V}{ps:List Pr}(r:Prs K H vs ps):vs.length=ps.length:=by have:=r.1;rwa [QB] at this
theorem Prs.at{vs:List V}{ps:List Pr}{i:Nat}{v:V}(r:Prs K H vs ps)(e:vs[i]?=some v):∃p a,ps[i]?=some p/\v=.ref a/\SqT K H a [.int p.1,.int p.2]:=by
 obtain⟨d,h1,h2⟩:=r.get' e;rw[QJ] at h1
 cases hp:ps[i]? with
 | none=>rw[hp] at h1;cases h1
 | some p=>rw[hp] at h1;cases h1;obtain⟨a,e1,e2⟩:=Jhy h2;exact⟨p,a,rfl,e1,e2⟩
theorem Prs.snoc{vs:List V}{ps:List Pr}{v:V}{p:Pr}(r:Prs K H vs ps)(h:Rep K H v (prD p)):Prs K H (vs++[v]) (ps++[p]):=by show RepL K H _ _;rw[GD];exact RepL.snoc r h
noncomputable def Jge(K:Qn)(H:Hp)(v:V)(ps:List Pr):Prop:=∃a vs,v=.ref a/\(SqL K H a vs\/SqT K H a vs)/\Prs K H vs ps
end

structure Good (ps:List Pr):Prop where
 one:∀(i:Nat) (p:Pr),ps[i]?=some p->1<=p.2
 gap:∀(i:Nat) (p q:Pr),ps[i]?=some p->ps[i+1]?=some q->p.1+p.2<q.1
theorem Good.nil:Good []:=⟨fun i p e=>by simp at e,fun i p q e=>by simp at e⟩
theorem Good.snoc{ps:List Pr}{p:Pr}(g:Good ps)(h1:1<=p.2)(h2:∀q,ps[ps.length-1]?=some q->q.1+q.2<p.1):Good (ps++[p]):=by
 refine⟨fun i q e=>?_,fun i q r e1 e2=>?_⟩
 ·by_cases hi:i<ps.length
  ·rw[QA hi] at e;exact g.one i q e
  ·rw[QN (by omega)] at e;obtain⟨h3,h4⟩:=Qi.mp e;have:i-ps.length=0:=by simp at h3;omega
   rw[this] at e;simp at e;subst e;exact h1
 ·by_cases hi:i+1<ps.length
  ·rw[QA (by omega)] at e1;rw[QA hi] at e2;exact g.gap i q r e1 e2
  ·rw[QN (by omega)] at e2;obtain⟨h3,h4⟩:=Qi.mp e2;have h5:i+1-ps.length=0:=by simp at h3;omega
   rw[h5] at e2;simp at e2;subst e2;have h6:i=ps.length-1:=by omega
   have h7:i<ps.length:=by omega
   rw[QA h7] at e1;rw[h6] at e1;exact h2 q e1

noncomputable def JhW(t:Qc):List (Str×V):=[("stretches",.ref t)]
noncomputable def RowAt(C:Qc)(K:Qn)(H:Hp)(v:V)(ps:List Pr):Prop :=
 ∃x dx t ts,v=.ref x/\H x=some (.ins C dx (JhW t))/\H t=some (.tup ts)/\Prs K H ts ps
theorem RowAt.mono{C:Qc}{K:Qn}{H H':Hp}{v:V}{ps:List Pr}(e:Same H H')(r:RowAt C K H v ps):RowAt C K H' v ps:=by obtain⟨x,dx,t,ts,h0,h1,h2,h3⟩:=r;exact⟨x,dx,t,ts,h0,e _ _ h1,e _ _ h2,RepL.mono e h3⟩
structure RowC (K:Qn) (C:Qc):Prop where
 cl:Cls K C
 ns:NoAttr K C "stretches"
theorem Jfy(t:Qc):Uy "stretches" (.ref t) []=JhW t:=rfl

noncomputable def Jau(K:Qn):Sp:=fun vs H Q _=>∃v ps,vs=[v]/\Jge K H v ps/\Good ps/\∀H',Same H H'->Q .non H'
noncomputable def W2(C:Qc)(K:Qn):Sp:=fun vs H Q _=>∃x dx v ps,vs=[.ref x,v]/\H x=some (.ins C dx [])/\Jge K H v ps/\Good ps/\ps.length<=30 ∧
 ∀H' t ts,SameEx x H H'->H' x=some (.ins C dx (JhW t))->H' t=some (.tup ts)->Prs K H' ts ps->Q .non H'
noncomputable def Jee(C:Qc)(sp:Sp)(E:XK)(vs:List V)(H1:Hp)(Q:VK):Prop:=∀x dx,H1 x=none->H1 dx=none->dx≠x ->
 sp (.ref x::vs) (upd (upd H1 dx (.own x)) x (.ins C dx [])) (fun v H2=>v=.non/\Q (.ref x) H2) E
theorem Jc8{C:Qc}{sp:Sp}{E:XK}{ts:TA}{σ:St}{H:Hp}{Q:VK}(q:ts σ H fun vs H1=>Jee C sp E vs H1 Q):Jbr C sp [] E ts σ H Q:=by
 have e:(fun vs H1=>Jee C sp E vs H1 Q)=fun vs H1=>∀x dx,H1 x=none->H1 dx=none->dx≠x->sp (.ref x::(vs++[])) (upd (upd H1 dx (.own x)) x (.ins C dx [])) (fun v H2=>v=.non/\Q (.ref x) H2) E:=by funext vs H1;rw[QY];rfl
 show ts σ H _;rw[<- e];exact q
theorem rd_row{C:Qc}{K:Qn}{H:Hp}{Q:VK}{v:V}{ps:List Pr}{E:XK}(h:Jge K H v ps)(g:Good ps)(hl:ps.length<=30)(q:∀x H',H x=none->Same H H'->RowAt C K H' (.ref x) ps->Q (.ref x) H'):Jee C (W2 C K) E [v] H Q:=by
 intro x dx nx ndx nex
 have s0:Same H (upd (upd H dx (.own x)) x (.ins C dx [])):=fun b o e=>by rw[Jj (Jt e nx),Jj (Jt e ndx)];exact e
 obtain⟨a,vs,rfl,hq,hp⟩:=h;refine⟨x,dx,_,ps,rfl,JE,⟨a,vs,rfl,hq.imp s0.seq s0.seqT,RepL.mono s0 hp⟩,g,hl,fun H' t ts e h1 h2 h3=>⟨rfl,q x H' nx (fun b o h=>e b o (Jt h nx) (s0 b o h)) ⟨x,dx,t,ts,rfl,h1,h2,h3⟩⟩⟩

noncomputable def cell(ns:List Int)(k:Int):Int:=ns.getD k.toNat 0
end LR

namespace LR
open PySem L2

theorem Jeo{ns:List Int}{k:Int}(h:¬k<(ns.length:Int)):cell ns k=0:=by unfold cell;rw[Q7,List.getElem?_eq_none (by omega)];rfl
noncomputable def spr(ns:List Int)(at' span p0:Int):Nat->Int×List Pr
 | 0=>(p0,[])
 | i+1=>((spr ns at' span p0 i).1+(1+cell ns (at'+1+2*i) % span)+1+cell ns (at'+2+2*i) % span,(spr ns at' span p0 i).2++[((spr ns at' span p0 i).1,1+cell ns (at'+1+2*i) % span)])
theorem Jay(ns:List Int)(at' span p0:Int):∀i,(spr ns at' span p0 i).2.length=i
 | 0=>rfl
 | i+1=>by show(_++[_]).length=_;rw[Qu,Jay ns at' span p0 i];rfl
noncomputable def JbX(l:List Int)(k:Int):Int:=l.getD k.toNat 0
theorem Vp{l:List Int}{k:Int}{P:Int->Prop}(h0:0<=k)(h1:k<(l.length:Int))(h:∀x∈l,P x):P (JbX l k):=by
 unfold JbX;have:k.toNat<l.length:=by omega
 rw[Q7,GH this];exact h _ (Gz this)
noncomputable def Jax(ns:List Int):Int:=JbX [2,7,1000,10 ^ 30] (cell ns 0 / 31 % 4)
noncomputable def UT(ns:List Int):Int:=JbX [3,1000,10 ^ 40] (cell ns 0 / 124 % 3)
theorem Jbn(ns:List Int):0<Jax ns:=Vp (by omega) (by show _<(4:Int);omega) (by decide)
theorem Jdb(ns:List Int):0<=UT ns:=Vp (by omega) (by show _<(3:Int);omega) (by decide)
noncomputable def UW(ns:List Int):List Pr:=(spr ns 1 (Jax ns) (cell ns 1 % (2*UT ns+1)-UT ns) (cell ns 0 % 31).toNat).2
theorem ZK(ns:List Int):(UW ns).length<=30:=by unfold UW;rw[Jay];omega
noncomputable def Jck(ps:List Pr):Nat->V
 | 0=>.non
 | i+1=>match ps[i]? with
  | some p=>.int (p.1+p.2)
  | none=>.non
theorem UA{ps:List Pr}{i:Nat}{p:Pr}(e:ps[i]?=some p):Jck ps (i+1)=.int (p.1+p.2):=by show(match ps[i]? with|some p=>V.int (p.1+p.2)|none=>V.non)=_;rw[e]
theorem Jep{K:Qn}{v:V}{ps:List Pr}{H:Hp}{Q:VK}{E:XK}(h:Jge K H v ps)(g:Good ps)(q:∀H',Same H H'->Q .non H'):Jau K [v] H Q E:=⟨v,ps,rfl,h,g,q⟩
theorem Jbi{K:Qn}{a:Qc}{xs:List V}{H:Hp}{Q:VK}(h:SqL K H a xs\/SqT K H a xs)(q:Q (.int xs.length) H):Jb4 K [.ref a] H Q:=by
 rcases h with h|h
 ·exact JhL h q
 ·exact JhN h q
theorem SameEx.sqT'{K:Qn}{H H':Hp}{x a C dx:Qc}{fs:List (Str×V)}{xs:List V}(e:SameEx x H H')(hx:H x=some (.ins C dx fs))(h:SqT K H a xs):SqT K H' a xs:=by
 rcases h with (h|⟨o,h⟩)|h
 ·exact .inl (.inl (e _ _ (Ja5 h hx (by intro z;cases z)) h))
 ·exact .inl (.inr ⟨o,e _ _ (Ja5 h hx (by intro z;cases z)) h⟩)
 ·exact .inr h
theorem Prs.monoIns{K:Qn}{H H':Hp}{x C dx:Qc}{fs:List (Str×V)}{vs:List V}{ps:List Pr}(e:SameEx x H H')(hx:H x=some (.ins C dx fs))(r:Prs K H vs ps):Prs K H' vs ps:=by refine⟨r.1,fun i v d h1 h2=>?_⟩;obtain⟨p,a,e1,e2,e3⟩:=r.at h1;rw[QJ,e1] at h2;cases h2;subst e2;exact Jfs (SameEx.sqT' e hx e3)
noncomputable def Jdg(K:Qn):Sp:=fun vs H Q _=>∃(a:Qc) (ns:List Int),vs=[.ref a]/\SqL K H a (ns.map V.int)/\ns.length<=63/\∀H',Q (.bl true) H'
end LR
namespace LR
open PySem L2
end LR

namespace L2
open PySem PySem.Spec PyProof.Rows

section
variable{X:Cx}{pins:List (Qc×Obj)}{σ:St}{H:Hp}{s:Qd}
theorem ZF{A':Qw}{E:Qa->Qd->Prop}{Q:Qa->Qd->Prop}{a:Qc}{vs:List V}(hh:A'.handled=none)(I:Inv X pins σ H s)(hq:SqL X.K H a vs\/SqT X.K H a vs)
 (h:∀(its:List Qa) (J:Qc) (fp wr:List Qc) (Sx:Nat->QI->Prop) (s2:Qd),Vals vs its->Walks X.prog X.w A' J fp wr its.toArray.size (fun i v=>its.toArray[i]?=some v) Sx->Sx 0 s2.heap->(∀b∈fp,b<s2.heap.objs.size) ->
  (∀h' tk,(∀b o,b∉wr->s2.heap.get? b=some o->h'.get? b=some o)->Inv X pins σ H { s2 with heap:=h',toks:=tk })->Q (.ref J) s2):wpAny (model X.prog X.w) A' (pyIter (.ref a)) Q E s:=by
 have nin:∀b o,s.heap.get? b=some o->b∉[s.heap.objs.size]:=fun b o e z=>by
  have:b=s.heap.objs.size:=by simpa using z
  exact absurd (Qj e) (by rw[this];exact Q8 _)
 rcases hq with hq|hq
 ·obtain⟨its,rv,p,hz⟩:=I.list hq;have hlt:a<s.heap.objs.size:=by obtain⟨_,e,_⟩:=p.isList;exact Qj e
  refine wpAny_pyIter_list p.isList ?_;refine h its _ _ _ _ _ rv (Walks.list hh _ a (QG hlt) its.toArray) ⟨⟨_,QH _ rfl,rfl,rfl⟩,p.isList.push _⟩ (fun b hb=>?_) fun h' tk hk=>I.kept fun b o e=>hk b o (nin b o e) (Qg _ e)
  show b<(s.heap.push _).objs.size;rw[KD];rcases Qm.mp hb with z|z
  ·rw[z];exact Kf _
  ·have:b=a:=by simpa using z
   rw[this];exact Nat.lt_succ_of_lt hlt
 ·obtain⟨its,rv,p,hz⟩:=I.tuple hq;have ht:s.heap.IsTuple a its.toArray:=p;have hlt:a<s.heap.objs.size:=by obtain⟨_,e,_⟩:=ht;exact Qj e
  refine wpAny_pyIter_tuple ht ?_;refine h its _ _ _ _ _ rv (Walks.tuple hh _ a (QG hlt) its.toArray) ⟨⟨_,QH _ rfl,rfl,rfl⟩,?_⟩ (fun b hb=>?_) fun h' tk hk=>I.kept fun b o e=>hk b o (nin b o e) (Qg _ e)
  ·obtain⟨o,e,c⟩:=ht;exact⟨o,Qg _ e,c⟩
  ·show b<(s.heap.push _).objs.size;rw[KD];rcases Qm.mp hb with z|z
   ·rw[z];exact Kf _
   ·have:b=a:=by simpa using z
    rw[this];exact Nat.lt_succ_of_lt hlt
end

theorem V7(l:List Int):∀j,j<=l.length->preSum (fun i=>l.getD i 0) j=(l.take j).sum
 | 0,_=>by simp[preSum]
 | j+1,h=>by
  rw[preSum,V7 l j (by omega)];have hj:j<l.length:=by omega
  rw[Ld,List.sum_append];simp[hj]
section
variable{X:Cx}
noncomputable def Jkn(K:Qn):List V->Hp->VK->Prop:=fun xs H Q=>∃(a:Qc) (ns:List Int),xs=[.ref a]/\(SqL K H a (ns.map V.int)\/SqT K H a (ns.map V.int))/\Q (.int ns.sum) H
theorem Jdw(hc:X.calm=true):CallR X (.builtin "sum") (Jkn X.K):=by
 intro pins s σ H xs us Q I r h;obtain⟨a,ns,rfl,hq,q⟩:=h;obtain⟨u,rfl,rx⟩:=Vx r;cases rx;refine call_sum_walkG (ZF (A':=X.A.in1) (I.ok.hd hc) I hq fun its J fp wr Sx s2 rv W st hfp hI=>?_);have hi:=JbL rv;have hl:=rv.length;rw[QB] at hl;refine⟨J,fp,wr,_,_,Sx,fun i=>ns.getD i 0,rfl,W,st,hfp,fun i v e=>?_,fun h' tk t' hk=>?_⟩
 ·have e':its[i]?=some v:=by simpa using e
  obtain⟨x,e1,e2⟩:=rv.get' e';rw[QJ] at e1
  cases hn:ns[i]? with
  | none=>rw[hn] at e1;cases e1
  | some n=>rw[hn] at e1;cases e1;obtain⟨t,rfl⟩:=e2;exact⟨t,by simp[Q7,hn]⟩
 ·refine⟨.int ns.sum,H,hI h' tk hk,⟨t',?_⟩,q⟩;rw[show its.toArray.size=ns.length by simp[hl],V7 ns _ (Qq _),Ln]
noncomputable def Jkj(K:Qn):List V->Hp->VK->Prop:=fun xs H Q=>∃(a:Qc) (bs:List Bool),xs=[.ref a]/\(SqL K H a (bs.map V.bl)\/SqT K H a (bs.map V.bl))/\Q (.bl (bs.all id)) H
theorem JdY(bs:List Bool):(Gi bs.length).all (fun i=>bs.getD i false)=bs.all id:=by
 rw[Gf];simp only[QS,K2,id];constructor
 ·intro h b hb;obtain⟨i,hi,e⟩:=LZ.mp hb;have:=h i hi;simp[Q7,hi] at this;rw[<- e];exact this
 ·intro h i hi;simp[Q7,hi];exact h _ (Gz hi)
theorem Jbu{A:Qw}{bs:List Bool}{its:List Qa}(rv:Vals (bs.map V.bl) its):TruthOf X.prog X.w A (fun i v=>its.toArray[i]?=some v) (fun i=>bs.getD i false):=by
 intro i v s Q E e q;have e':its[i]?=some v:=by simpa using e
 obtain⟨x,e1,e2⟩:=rv.get' e';rw[QJ] at e1
 cases hn:bs[i]? with
 | none=>rw[hn] at e1;cases e1
 | some n =>
  rw[hn] at e1;cases e1;cases e2;have:bs.getD i false=n:=by simp[Q7,hn]
  have q':Q (bs.getD i false) s:=q;rw[this] at q';exact GX q'
theorem Jds(hc:X.calm=true):CallR X (.builtin "all") (Jkj X.K):=by intro pins s σ H xs us Q I r h;obtain⟨a,bs,rfl,hq,q⟩:=h;obtain⟨u,rfl,rx⟩:=Vx r;cases rx;refine call_all_walk (ZF (A':=X.A.in1) (I.ok.hd hc) I hq fun its J fp wr Sx s2 rv W st hfp hI=>?_);have hl:=rv.length;rw[QB] at hl;refine⟨J,fp,wr,_,_,Sx,_,rfl,W,st,Jbu rv,fun h' tk hk=>⟨.bl _,H,hI h' tk hk,rfl,?_⟩⟩;rw[show its.toArray.size=bs.length by simp[hl],JdY];exact q
noncomputable def strI(i:Int):Str:=(toString i:String)
noncomputable def Jkm:List V->Hp->VK->Prop:=fun xs H Q=>∃i,xs=[.int i]/\i.natAbs.log2<1920/\Q (.str (strI i)) H
theorem Zv:CallR X (.type "str") Jkm:=Z2
theorem W6:∀{ys:List Str} {us:List Qa},Vals (ys.map V.str) us->StrsAre us ys
 | [],_,r=>by cases r;exact .nil
 | y::ys,_,r=>by
  cases r with
  | cons r1 r2=>obtain⟨t,rfl⟩:=r1;exact .cons y t (W6 r2)
noncomputable def Jc5(K:Qn):V->List V->Hp->VK->Prop:=fun x vs H Q=>∃(z:Str) (a:Qc) (ys:List Str),x=.str z/\vs=[.ref a]/\SqL K H a (ys.map V.str)/\(ys.map (·.length)).sum+ys.length*z.length<=16777216/\Q (.str (Gh z ys)) H
theorem Jhe:MtM X "str.join" (Jc5 X.K):=by intro pins s σ H x vs v us Q I rx rv h;obtain⟨z,a,ys,rfl,rfl,hq,hw,q⟩:=h;obtain⟨t,rfl⟩:=rx;obtain⟨u,rfl,ru⟩:=rv.one;cases ru;obtain⟨its,r,p,hz⟩:=I.list hq;have e:Txt.join z ys=Gh z ys:=eq_of_beq (join_closes rfl);exact join_list p.isList (W6 r) hw fun t' k=>⟨.str _,H,I.tok k,⟨t',by rw[e]⟩,q⟩
end
section
variable{X:Cx}{K:Qn}
theorem Jdv(hK:X.K=K)(hc:X.calm=true):CallR X (.builtin "sum") (Jkn K):=hK▸Jdw hc
theorem Jdr(hK:X.K=K)(hc:X.calm=true):CallR X (.builtin "all") (Jkj K):=hK▸Jds hc
theorem Ja3(hK:X.K=K):MtM X "str.join" (Jc5 K):=hK▸Jhe
end
section
variable{K:Qn}{H:Hp}{Q:VK}
theorem JkK{i:Int}(h:i.natAbs.log2<1920)(q:Q (.str (strI i)) H):Jkm [.int i] H Q:=⟨i,rfl,h,q⟩
theorem JhK{z:Str}{a:Qc}{ys:List Str}(h:SqL K H a (ys.map V.str))(hw:(ys.map (·.length)).sum+ys.length*z.length<=16777216)(q:Q (.str (Gh z ys)) H):Jc5 K (.str z) [.ref a] H Q:=⟨z,a,ys,rfl,rfl,h,hw,q⟩
end
end L2
namespace L2
open PySem PySem.Spec PyProof.Rows
noncomputable def AllP{α:Type}(P:α->Prop):List α->Prop
 | []=>True
 | x::xs=>P x/\AllP P xs
theorem AllP.mem{α:Type}{P:α->Prop}:∀{l:List α},AllP P l->∀x∈l,P x
 | [],_,x,hx=>nomatch hx
 | y::l,h,x,hx=>by
  rcases Qm.mp hx with z|z
  ·rw[z];exact h.1
  ·exact AllP.mem h.2 x z
theorem U5{cl:List (Str×Qc)}{x:Str}(h:cl.any (fun p=>p.1 == x)=true):(cl.lookup x).isSome=true:=by
 induction cl with
 | nil=>simp at h
 | cons p cl ih =>
  obtain⟨n,a⟩:=p;rw[List.lookup_cons]
  by_cases e:x == n
  ·rw[e];rfl
  ·have e':(x == n)=false:=by simpa using e
   rw[e'];rw[Q9] at h;rcases Bool.or_eq_true_iff.mp h with z|z
   ·have:n=x:=eq_of_beq z;rw[this] at e';simp at e'
   ·exact ih z
theorem Jmf{X:Cx}{sc:K3}{cl:List (Str×Qc)}{own:List Str}{fr:List (Str×Nat)}(h1:sc.kind=.function)(h2:closureFor sc X.env=pure cl)
 (h3:(sc.names.all fun y=>y.2 != .cell && (y.2 != .local || sc.names.lookup y.1 == some .local))=true) (h4:AllP (fun p=>X.env.cells.lookup p.1=some p.2) cl)
 (h5:((relabel sc X.env).names.all fun y=>(y.2 != .cell && y.2 != .free) || cl.any (fun p=>p.1 == y.1))=true)
 (h6:AllP (fun p=>X.N[p.2]?=some p.1/\X.env.scope.names.lookup p.1=some .cell/\(relabel sc X.env).names.lookup p.1=some .cell) fr) :
 Blk X sc cl (own++fr.map (·.1)) (own.map (fun _=>none)++fr.map (fun p=>some p.2)):=by
 simp only[QS,Qz] at h3;simp only[QS] at h5;refine⟨h2,h1,fun y hy=>?_,fun y hy hl=>?_,AllP.mem h4,fun y hy hk=>?_,by simp,fun p hp k e=>?_⟩
 ·have:=(h3 y hy).1
  simpa using this
 ·have:=(h3 y hy).2;rw[hl] at this
  simpa using this
 ·have:=h5 y hy;rcases Bool.or_eq_true_iff.mp this with z|z
  ·rcases hk with q|q
   ·rw[q] at z;simp at z
   ·rw[q] at z;simp at z
  ·exact U5 z
 ·rw[List.zip_append (by simp)] at hp;rcases Q2.mp hp with z|z
  ·have:=(GQ z).1;obtain⟨_,_,q⟩:=Q4.mp this;rw[<- q] at e;cases e
  ·rw[List.zip_map_left] at z;obtain⟨q,hq,eq⟩:=Q4.mp z
   have hz:q.1∈fr/\q.1.1=q.2:=by
    clear h6 e eq z hp;rw[List.zip_map_right] at hq;obtain⟨q',hq',eq'⟩:=Q4.mp hq
    have:q'.1=q'.2:=by
     clear eq' hq
     induction fr with
     | nil=>cases hq'
     | cons x fr ih =>
      rcases Qm.mp hq' with z|z
      ·rw[z]
      ·exact ih z
    rw[<- eq'];exact⟨(GQ hq').1,by show q'.1.1=q'.2.1;rw[this]⟩
   obtain⟨a1,a2,a3⟩:=AllP.mem h6 q.1 hz.1;rw[<- eq] at e ⊢;have ek:q.1.2=k:=by simpa using e
   subst ek;rw[hz.2] at a1 a2 a3;exact⟨a1,.inl a2,.inl a3⟩
end L2

namespace LR
open PySem L2

noncomputable def Small(i:Int):Prop:=i.natAbs.log2<1920
theorem Small.of{i:Int}(h:i.natAbs<2 ^ 1920):Small i:=by
 unfold Small
 by_cases h0:i.natAbs=0
 ·rw[h0];decide
 ·exact(Nat.log2_lt h0).mpr h
theorem Vt{i:Int}(h:Small i):(strI i).length<=1921:=PyProof.Rows.int_text_len_1921 h
noncomputable def Wp(p:Pr):Prop:=Small p.1/\Small p.2
noncomputable def Zc(p:Pr):Str:=strI p.1++"+"++strI p.2
theorem Jci{p:Pr}(h:Wp p):(Zc p).length<=3843:=by
 unfold Zc;have h1:=Vt h.1;have h2:=Vt h.2;rw[Gp,Gp];have:(("+":String):Str).length=1:=by decide +kernel
 omega
noncomputable def JaB(ps:List Pr):Str:=Gh " " (("row":Str)::ps.map Zc)++"\n"
theorem JfZ{l:List Nat}{c:Nat}(h:∀x∈l,x<=c):l.sum<=l.length*c:=by
 induction l with
 | nil=>simp
 | cons x l ih =>
  have h1:=h x Qy
  have h2:=ih fun y hy=>h y (Qp _ hy)
  rw[List.sum_cons,Qh,Mt];omega
theorem JdN{ys:List Str}{z:Str}(hn:ys.length<=40)(hz:z.length<=1)(h:∀y∈ys,y.length<=4000):(ys.map (·.length)).sum+ys.length*z.length<=1000000:=by
 have h1:(ys.map (·.length)).sum<=(ys.map (·.length)).length*4000:=JfZ fun x hx=>by obtain⟨y,hy,rfl⟩:=Q4.mp hx;exact h y hy
 rw[QB] at h1;have h2:ys.length*z.length<=ys.length*1:=KS _ hz;omega
theorem join_len{z:Str}:∀ys:List Str,(Gh z ys).length<=(ys.map (·.length)).sum+ys.length*z.length
 | []=>by show(Q3).length<=_;have:Q3.length=0:=rfl;omega
 | [x]=>by show x.length<=_;simp
 | x::y::r=>by
  have h:=join_len (z:=z) (y::r)
  show(x++z++Gh z (y::r)).length<=_;rw[Gp,Gp,Qr,List.sum_cons,Qh,Mt];omega
theorem WG(z:Str):∀(x:Str) (l:List Str),Gh z (x::l)=Gh Q3 (x::l.map fun y=>z++y)
 | x,[]=>rfl
 | x,y::l=>by
  show x++z++Gh z (y::l)=x++Q3++Gh Q3 ((z++y)::l.map fun y=>z++y);rw[WG z y l]
  have e:∀(a b:Str) (m:List Str),Gh Q3 ((a++b)::m)=a++Gh Q3 (b::m):=fun a b m=>by
   cases m with
   | nil=>rfl
   | cons c m =>
    show a++b++Q3++_=a++(b++Q3++_)
    rw[Gk,Gk,Gk]
  rw[e,Gk,Gk]
  have e0:∀s:Str,Q3++s=s:=fun s=>by cases s;show Str.mk _=_;simp[Q3]
  rw[e0]
noncomputable def Uw(p:Pr):Str:=(" ":String)++strI p.1++(("+":String):Str)++strI p.2
theorem Jbz(p:Pr):Uw p=((" ":String):Str)++Zc p:=by unfold Uw Zc;rw[Gk,Gk,Gk]
theorem Jea{p:Pr}(h:Wp p):(Uw p).length<=3844:=by
 rw[Jbz,Gp];have:=Jci h;have:((" ":String):Str).length=1:=by decide +kernel
 omega
theorem Jbt(ps:List Pr):Gh (("":String):Str) (("row":Str)::ps.map Uw)++(("\n":String):Str)=JaB ps:=by
 unfold JaB;have e:(("":String):Str)=Q3:=by decide +kernel
 rw[e,WG ((" ":String):Str),Kh];congr 2;congr 1;exact Kn fun p _=>Jbz p
theorem ZR(ns:List Int)(at' span p0:Int)(h0:0<span)(hs:span<=10 ^ 30)(h1:-(10 ^ 40)<=p0)(h2:p0<=10 ^ 40):∀i:Nat,-(10 ^ 40)<=(spr ns at' span p0 i).1/\(spr ns at' span p0 i).1<=10 ^ 40+i*(3*10 ^ 30) ∧
 ∀p∈(spr ns at' span p0 i).2,-(10 ^ 40)<=p.1/\p.1<=10 ^ 40+i*(3*10 ^ 30)/\1<=p.2/\p.2<=10 ^ 30
 | 0=>⟨h1,by show p0<=_;omega,fun p hp=>by cases hp⟩
 | i+1=>by
  obtain⟨a1,a2,a3⟩:=ZR ns at' span p0 h0 hs h1 h2 i;have m1:=Ga (cell ns (at'+1+2*i)) (b:=span) (by omega);have m2:=Ga (cell ns (at'+2+2*i)) (b:=span) (by omega);have m3:=Gb (cell ns (at'+1+2*i)) (b:=span) (by omega);have m4:=Gb (cell ns (at'+2+2*i)) (b:=span) (by omega);refine⟨?_,?_,fun p hp=>?_⟩
  ·show _<=_+(1+_)+1+_;omega
  ·show _+(1+_)+1+_<=_;omega
  ·rcases Q2.mp hp with z|z
   ·have:=a3 p z;omega
   ·have e:p=((spr ns at' span p0 i).1,1+cell ns (at'+1+2*i) % span):=by simpa using z
    subst e;refine⟨a1,?_,?_,?_⟩
    ·show(spr ns at' span p0 i).1<=_;omega
    ·show 1<=1+_;omega
    ·show 1+_<=_;omega
theorem Jie(ns:List Int):Jax ns<=10 ^ 30:=Vp (P:=fun x=>x<=10 ^ 30) (l:=[2,7,1000,10 ^ 30]) (by omega) (by show _<(4:Int);omega) (by decide)
theorem Jh8(ns:List Int):UT ns<=10 ^ 40:=Vp (P:=fun x=>x<=10 ^ 40) (l:=[3,1000,10 ^ 40]) (by omega) (by show _<(3:Int);omega) (by decide)
theorem V6(ns:List Int):∀p∈UW ns,-(10 ^ 40)<=p.1/\p.1<=2*10 ^ 40/\1<=p.2/\p.2<=10 ^ 30:=fun p hp=>by
 have h1:=Jdb ns
 have h2:=Jh8 ns
 have m1:=Ga (cell ns 1) (b:=2*UT ns+1) (by omega)
 have m2:=Gb (cell ns 1) (b:=2*UT ns+1) (by omega)
 have h:=(ZR ns 1 (Jax ns) (cell ns 1 % (2*UT ns+1)-UT ns) (Jbn ns) (Jie ns) (by omega) (by omega) (cell ns 0 % 31).toNat).2.2 p hp;omega
end LR

namespace LE
open PySem L2 LR

structure Xm where
 n:Str
 k:Option Int
instance:Coe Str Xm:=⟨fun s=>⟨s,none⟩⟩
noncomputable def Wt:Qa->Qa
 | .int i _=>.ref i.toNat
 | v=>v
noncomputable def JaN:Qa->Option Qc
 | .int _ t=>some t
 | _=>none
inductive D where
 | non|bl (b:Bool)|int (i:Int)|str (x:Str)|tup (l:List D)|lst (l:List D)|fz (l:List D)|row (l:List D)|dct (ks:List Int) (l:List D)|dfz (ks:List Int) (l:List D)|exc (n:Xm)
noncomputable def dkO(ks:List Int)(xs:List V):HO:=.dK ((ks.map Sum.inl).zip xs)
noncomputable def dtK(p:Int×Int):List Key:=[Sum.inl p.1,Sum.inl p.2]
noncomputable def dtO(ps:List (Int×Int))(xs:List V):HO:=.dT ((ps.map dtK).zip xs)
noncomputable def XO(a:Qc)(c:Qa):HO:=.ext fun h=>∃o,h.get? a=some o/\o.cls=Wt c/\notCls o=true/\o.dict=JaN c
noncomputable def XC(K:Qn)(n:Xm)(c:Qa)(H:Hp):Prop:=∃a:Nat,nsIn K mainGlobals n.n=some (some (.ref a))/\match n.k with
 | none=>c=.ref a
 | some k=>∃t,c=.int a t/\H t=some (.xd [("at",.int k)])
theorem XC.mono{K:Qn}{n:Xm}{c:Qa}{H H':Hp}(e:Same H H')(x:XC K n c H):XC K n c H':=by
 obtain⟨a,h1,h2⟩:=x;refine⟨a,h1,?_⟩
 cases z:n.k with
 | none=>rw[z] at h2;exact h2
 | some k=>rw[z] at h2;obtain⟨t,h3,h4⟩:=h2;exact⟨t,h3,e _ _ h4⟩
theorem XC.cls{K:Qn}{n:Xm}{c:Qa}{H:Hp}(x:XC K n c H):∃a,nsIn K mainGlobals n.n=some (some (.ref a))/\Wt c=.ref a:=by
 obtain⟨a,h1,h2⟩:=x;refine⟨a,h1,?_⟩
 cases z:n.k with
 | none=>rw[z] at h2;cases h2;rfl
 | some k=>rw[z] at h2;obtain⟨t,h3,h4⟩:=h2;cases h3;rfl
noncomputable def XdO(c:Qa)(H:Hp):Prop:=match JaN c with
 | none=>True
 | some t=>∃fs,H t=some (.xd fs)
theorem XC.xd{K:Qn}{n:Xm}{c:Qa}{H:Hp}(x:XC K n c H):XdO c H:=by
 obtain⟨a,h1,h2⟩:=x
 cases z:n.k with
 | none=>rw[z] at h2;cases h2;exact True.intro
 | some k=>rw[z] at h2;obtain⟨t,h3,h4⟩:=h2;cases h3;exact⟨_,h4⟩

section
variable(K:Qn)(C:Qc)
inductive RD (H:Hp):V->D->Prop
 | non:RD H .non .non
 | bl (b:Bool):RD H (.bl b) (.bl b)
 | int (i:Int):RD H (.int i) (.int i)
 | str (x:Str):RD H (.str x) (.str x)
 | tup {a:Qc} {xs:List V} {ds:List D}:SqT K H a xs->xs.length=ds.length->(∀(i:Nat) (x:V) (d:D),xs[i]?=some x->ds[i]?=some d->RD H x d)->RD H (.ref a) (.tup ds)
 | lst {a:Qc} {xs:List V} {ds:List D}:H a=some (.lst xs)->xs.length=ds.length->(∀(i:Nat) (x:V) (d:D),xs[i]?=some x->ds[i]?=some d->RD H x d)->RD H (.ref a) (.lst ds)
 | fz {a:Qc} {xs:List V} {ds:List D}:SqL K H a xs->xs.length=ds.length->(∀(i:Nat) (x:V) (d:D),xs[i]?=some x->ds[i]?=some d->RD H x d)->RD H (.ref a) (.fz ds)
 | row {x dx t:Qc} {ts:List V} {ds:List D}:H x=some (.ins C dx (JhW t))->SqT K H t ts->ts.length=ds.length->(∀(i:Nat) (x:V) (d:D),ts[i]?=some x->ds[i]?=some d->RD H x d)->RD H (.ref x) (.row ds)
 | dct {a:Qc} {ks:List Int} {xs:List V} {ds:List D}:H a=some (dkO ks xs)->ks.length=ds.length->xs.length=ds.length->(∀(i:Nat) (x:V) (d:D),xs[i]?=some x->ds[i]?=some d->RD H x d)->RD H (.ref a) (.dct ks ds)
 | dfz {a:Qc} {ks:List Int} {xs:List V} {ds:List D} {o:Obj}:H a=some (.frz o (dkO ks xs))->ks.length=ds.length->xs.length=ds.length->(∀(i:Nat) (x:V) (d:D),xs[i]?=some x->ds[i]?=some d->RD H x d)->RD H (.ref a) (.dfz ks ds)
 | exc {a:Qc} {c:Qa} {n:Xm}:H a=some (XO a c)->XC K n c H->RD H (.ref a) (.exc n)
noncomputable def RDL(H:Hp)(xs:List V)(ds:List D):Prop:=xs.length=ds.length/\∀(i:Nat) (x:V) (d:D),xs[i]?=some x->ds[i]?=some d->RD K C H x d
end

section
variable{K:Qn}{C:Qc}{H H':Hp}
theorem RD.mono{v:V}{d:D}(e:Same H H')(r:RD K C H v d):RD K C H' v d:=by
 induction r with
 | non=>exact .non
 | bl b=>exact .bl b
 | int i=>exact .int i
 | str x=>exact .str x
 | tup h l _ ih=>exact .tup (e.seqT h) l ih
 | lst h l _ ih=>exact .lst (e _ _ h) l ih
 | fz h l _ ih=>exact .fz (e.seq h) l ih
 | row h1 h2 l _ ih=>exact .row (e _ _ h1) (e.seqT h2) l ih
 | dct h1 h2 l _ ih=>exact .dct (e _ _ h1) h2 l ih
 | dfz h1 h2 l _ ih=>exact .dfz (e _ _ h1) h2 l ih
 | exc h1 h2=>exact .exc (e _ _ h1) (h2.mono e)
theorem RDL.mono{xs:List V}{ds:List D}(e:Same H H')(r:RDL K C H xs ds):RDL K C H' xs ds:=⟨r.1,fun i x d h1 h2=>(r.2 i x d h1 h2).mono e⟩
theorem RDL.nil:RDL K C H [] []:=⟨rfl,fun i x d e=>by simp at e⟩
theorem RDL.cons{x:V}{d:D}{xs:List V}{ds:List D}(h:RD K C H x d)(r:RDL K C H xs ds):RDL K C H (x::xs) (d::ds):=by
 refine⟨by simp[r.1],fun i y e h1 h2=>?_⟩
 cases i with
 | zero=>simp at h1 h2;subst h1 h2;exact h
 | succ i=>exact r.2 i y e (by simpa using h1) (by simpa using h2)
theorem RDL.append{xs ys:List V}{ds es:List D}(r:RDL K C H xs ds)(q:RDL K C H ys es):RDL K C H (xs++ys) (ds++es):=by
 refine⟨by simp[r.1,q.1],fun i x d h1 h2=>?_⟩
 by_cases hi:i<xs.length
 ·rw[QA hi] at h1;rw[QA (by rw[<- r.1];exact hi)] at h2;exact r.2 i x d h1 h2
 ·rw[QN (by omega)] at h1;rw[QN (by rw[<- r.1];omega)] at h2;rw[<- r.1] at h2;exact q.2 _ x d h1 h2
theorem RDL.snoc{xs:List V}{ds:List D}{x:V}{d:D}(r:RDL K C H xs ds)(h:RD K C H x d):RDL K C H (xs++[x]) (ds++[d]):=r.append (.cons h .nil)
theorem RDL.get{xs:List V}{ds:List D}{i:Nat}{d:D}(r:RDL K C H xs ds)(e:ds[i]?=some d):∃x,xs[i]?=some x/\RD K C H x d:=by
 have hi:=(Qi.mp e).1
 have hx:i<xs.length:=by rw[r.1];exact hi
 exact⟨xs[i],by simp[hx],r.2 i _ d (by simp[hx]) e⟩
theorem RDL.get'{xs:List V}{ds:List D}{i:Nat}{x:V}(r:RDL K C H xs ds)(e:xs[i]?=some x):∃d,ds[i]?=some d/\RD K C H x d:=by
 have hi:=(Qi.mp e).1
 have hx:i<ds.length:=by rw[<- r.1];exact hi
 exact⟨ds[i],by simp[hx],r.2 i x _ e (by simp[hx])⟩
theorem RDL.head{x:V}{xs:List V}{d:D}{ds:List D}(r:RDL K C H (x::xs) (d::ds)):RD K C H x d:=r.2 0 x d rfl rfl
theorem RDL.tail{x:V}{xs:List V}{d:D}{ds:List D}(r:RDL K C H (x::xs) (d::ds)):RDL K C H xs ds:=⟨by have:=r.1;simpa using this,fun i y e h1 h2=>r.2 (i+1) y e (by simpa using h1) (by simpa using h2)⟩
theorem RDL.take{xs:List V}{ds:List D}(n:Nat)(r:RDL K C H xs ds):RDL K C H (xs.take n) (ds.take n):=by
 refine⟨by simp[r.1],fun i x d h1 h2=>?_⟩;rw[List.getElem?_take] at h1 h2;split at h1
 ·rw[if_pos (by assumption)] at h2;exact r.2 i x d h1 h2
 ·cases h1
theorem RDL.drop{xs:List V}{ds:List D}(n:Nat)(r:RDL K C H xs ds):RDL K C H (xs.drop n) (ds.drop n):=by refine⟨by simp[r.1],fun i x d h1 h2=>?_⟩;rw[List.getElem?_drop] at h1 h2;exact r.2 _ x d h1 h2
theorem RDL.set{xs:List V}{ds:List D}{v:V}{e:D}(n:Nat)(r:RDL K C H xs ds)(h:RD K C H v e):RDL K C H (xs.set n v) (ds.set n e):=by
 refine⟨by simp[r.1],fun i x d h1 h2=>?_⟩;rw[QM] at h1 h2;split at h1
 ·rw[if_pos (by assumption)] at h2;split at h1
  ·rw[if_pos (by rw[<- r.1];assumption)] at h2;cases h1;cases h2;exact h
  ·cases h1
 ·rw[if_neg (by assumption)] at h2;exact r.2 i x d h1 h2
theorem RDL.reverse{xs:List V}{ds:List D}(r:RDL K C H xs ds):RDL K C H xs.reverse ds.reverse:=by
 refine⟨by simp[r.1],fun i x d h1 h2=>?_⟩;have hi:i<xs.length:=by have:=(Qi.mp h1).1;simpa using this
 rw[LN hi] at h1;rw[LN (by rw[<- r.1];exact hi)] at h2;rw[<- r.1] at h2;exact r.2 _ x d h1 h2
theorem RDL.ints:∀{xs:List V} {ns:List Int},RDL K C H xs (ns.map D.int)->xs=ns.map V.int
 | [],[],_=>rfl
 | [],_::_,r=>by have:=r.1;simp at this
 | _::_,[],r=>by have:=r.1;simp at this
 | x::xs,n::ns,r=>by have h:=r.head;cases h;rw[RDL.ints r.tail];rfl
theorem RDL.ofInts:∀(ns:List Int),RDL K C H (ns.map V.int) (ns.map D.int)
 | []=>.nil
 | n::ns=>.cons (.int n) (RDL.ofInts ns)
theorem RDL.bls:∀{xs:List V} {ns:List Bool},RDL K C H xs (ns.map D.bl)->xs=ns.map V.bl
 | [],[],_=>rfl
 | [],_::_,r=>by have:=r.1;simp at this
 | _::_,[],r=>by have:=r.1;simp at this
 | x::xs,n::ns,r=>by have h:=r.head;cases h;rw[RDL.bls r.tail];rfl
theorem RDL.strs:∀{xs:List V} {ns:List Str},RDL K C H xs (ns.map D.str)->xs=ns.map V.str
 | [],[],_=>rfl
 | [],_::_,r=>by have:=r.1;simp at this
 | _::_,[],r=>by have:=r.1;simp at this
 | x::xs,n::ns,r=>by have h:=r.head;cases h;rw[RDL.strs r.tail];rfl
theorem RD.mkT{a:Qc}{xs:List V}{ds:List D}(h:SqT K H a xs)(r:RDL K C H xs ds):RD K C H (.ref a) (.tup ds):=.tup h r.1 r.2
theorem RD.mkL{a:Qc}{xs:List V}{ds:List D}(h:H a=some (.lst xs))(r:RDL K C H xs ds):RD K C H (.ref a) (.lst ds):=.lst h r.1 r.2
theorem RD.mkF{a:Qc}{xs:List V}{ds:List D}(h:SqL K H a xs)(r:RDL K C H xs ds):RD K C H (.ref a) (.fz ds):=.fz h r.1 r.2
theorem RD.tupI{v:V}{ds:List D}(r:RD K C H v (.tup ds)):∃a xs,v=.ref a/\SqT K H a xs/\RDL K C H xs ds:=by
 cases r with
 | tup h l q=>exact⟨_,_,rfl,h,l,q⟩
theorem RD.lstI{v:V}{ds:List D}(r:RD K C H v (.lst ds)):∃a xs,v=.ref a/\H a=some (.lst xs)/\RDL K C H xs ds:=by
 cases r with
 | lst h l q=>exact⟨_,_,rfl,h,l,q⟩
theorem RD.fzI{v:V}{ds:List D}(r:RD K C H v (.fz ds)):∃a xs,v=.ref a/\SqL K H a xs/\RDL K C H xs ds:=by
 cases r with
 | fz h l q=>exact⟨_,_,rfl,h,l,q⟩
theorem RD.mkD{a:Qc}{ks:List Int}{xs:List V}{ds:List D}(h:H a=some (dkO ks xs))(hk:ks.length=ds.length)(r:RDL K C H xs ds):RD K C H (.ref a) (.dct ks ds):=.dct h hk r.1 r.2
theorem RD.dctI{v:V}{ks:List Int}{ds:List D}(r:RD K C H v (.dct ks ds)):∃a xs,v=.ref a/\H a=some (dkO ks xs)/\ks.length=ds.length/\RDL K C H xs ds:=by
 cases r with
 | dct h hk l q=>exact⟨_,_,rfl,h,hk,l,q⟩
theorem RD.dfzI{v:V}{ks:List Int}{ds:List D}(r:RD K C H v (.dfz ks ds)):∃a xs o,v=.ref a/\H a=some (.frz o (dkO ks xs))/\ks.length=ds.length/\RDL K C H xs ds:=by
 cases r with
 | dfz h hk l q=>exact⟨_,_,_,rfl,h,hk,l,q⟩
theorem RD.excI{v:V}{n:Xm}(r:RD K C H v (.exc n)):∃a c,v=.ref a/\H a=some (XO a c)/\XC K n c H:=by
 cases r with
 | exc h1 h2=>exact⟨_,_,rfl,h1,h2⟩
theorem RD.intI{v:V}{i:Int}(r:RD K C H v (.int i)):v=.int i:=by cases r;rfl
theorem RD.strI{v:V}{i:Str}(r:RD K C H v (.str i)):v=.str i:=by cases r;rfl
theorem RD.blI{v:V}{i:Bool}(r:RD K C H v (.bl i)):v=.bl i:=by cases r;rfl
theorem RD.nonI{v:V}(r:RD K C H v .non):v=.non:=by cases r;rfl
end

mutual
noncomputable def D.py:D->PyData
 | .non=>.none
 | .bl b=>.bool b
 | .int i=>.int i
 | .str x=>.str x
 | .tup l=>.tuple (D.pyL l)
 | .lst l=>.list (D.pyL l)
 | .fz l=>.list (D.pyL l)
 | .row _=>.dict []
 | .dct _ _=>.dict []
 | .dfz _ _=>.dict []
 | .exc _=>.dict []
noncomputable def D.pyL:List D->List PyData
 | []=>[]
 | d::ds=>d.py::D.pyL ds
end
theorem Jc0:∀ds:List D,D.pyL ds=ds.map D.py
 | []=>rfl
 | d::ds=>by rw[D.pyL,Jc0 ds];rfl
theorem WJ:∀{ds:List PyData},GZ ds=true->∀d∈ds,d.canLay0=true
 | [],_,d,hd=>nomatch hd
 | x::ds,h,d,hd=>by
  have h':(PyData.canLay0 x && GZ ds)=true:=h;rw[Qz] at h';rcases Qm.mp hd with z|z
  ·rw[z];exact h'.1
  ·exact WJ h'.2 d z
theorem RD.rep{K:Qn}{C:Qc}{H:Hp}{v:V}{d:D}(r:RD K C H v d):d.py.canLay0=true->Rep K H v d.py:=by
 have all:∀{xs:List V} {ds:List D},xs.length=ds.length->(∀(i:Nat) (x:V) (d:D),xs[i]?=some x->ds[i]?=some d->d.py.canLay0=true->Rep K H x d.py)->GZ (D.pyL ds)=true->RepL K H xs (D.pyL ds):=by
  intro xs ds l ih hc;rw[Jc0] at hc ⊢;refine⟨by simpa using l,fun i x d h1 h2=>?_⟩;rw[QJ] at h2
  cases e:ds[i]? with
  | none=>rw[e] at h2;cases h2
  | some q=>rw[e] at h2;cases h2;exact ih i x q h1 e (WJ hc _ (Q4.mpr ⟨q,QQ e,rfl⟩))
 induction r with
 | non=>intro _;exact .non
 | bl b=>intro _;exact .bl b
 | int i=>intro _;exact .int i
 | str x=>intro _;exact .str x
 | tup h l _ ih=>intro hc;exact .tupL h (all l ih hc)
 | lst h l _ ih=>intro hc;exact .lstL (.of h) (all l ih hc)
 | fz h l _ ih=>intro hc;exact .lstL h (all l ih hc)
 | row h1 h2 l _ ih=>intro hc;cases hc
 | dct h1 h2 l _ ih=>intro hc;cases hc
 | dfz h1 h2 l _ ih=>intro hc;cases hc
 | exc h1 h2=>intro hc;cases hc

inductive Sl where
 | no|sh (d:D)|bo (ds:List D)|own (ds:List D)|bd (ks:List Int) (ds:List D)|od (ks:List Int) (ds:List D)|bt (ps:List (Int×Int)) (ds:List D)|ot (ps:List (Int×Int)) (ds:List D)
noncomputable def JK:Sl->Bool
 | .own _=>true
 | .od _ _=>true
 | .ot _ _=>true
 | _=>false
noncomputable def JjA:Sl->Bool
 | .bo _=>true
 | .bd _ _=>true
 | .bt _ _=>true
 | _=>false

section
variable(K:Qn)(C:Qc)
noncomputable def RR(Hs H0 H:Hp)(v:V):Sl->Prop
 | .no=>False
 | .sh d=>RD K C H0 v d
 | .bo ds=>∃l xs,v=.ref l/\H l=some (.lst xs)/\RDL K C H0 xs ds
 | .own ds=>∃l xs,v=.ref l/\H l=some (.lst xs)/\H0 l=none/\Hs l=none/\RDL K C H0 xs ds
 | .bd ks ds=>∃l xs,v=.ref l/\H l=some (dkO ks xs)/\ks.length=ds.length/\RDL K C H0 xs ds
 | .bt ks ds=>∃l xs,v=.ref l/\H l=some (dtO ks xs)/\ks.length=ds.length/\RDL K C H0 xs ds
 | .od ks ds=>∃l xs,v=.ref l/\H l=some (dkO ks xs)/\H0 l=none/\Hs l=none/\ks.length=ds.length/\RDL K C H0 xs ds
 | .ot ks ds=>∃l xs,v=.ref l/\H l=some (dtO ks xs)/\H0 l=none/\Hs l=none/\ks.length=ds.length/\RDL K C H0 xs ds
noncomputable def RSl(B H0 H:Hp)(v:V):Sl->Prop
 | .no=>True
 | .sh d=>RD K C H0 v d
 | .bo ds=>∃l xs,v=.ref l/\B l=some (.lst xs)/\RDL K C H0 xs ds
 | .own ds=>∃l xs,v=.ref l/\H l=some (.lst xs)/\H0 l=none/\B l=none/\RDL K C H0 xs ds
 | .bd ks ds=>∃l xs,v=.ref l/\B l=some (dkO ks xs)/\ks.length=ds.length/\RDL K C H0 xs ds
 | .bt ks ds=>∃l xs,v=.ref l/\B l=some (dtO ks xs)/\ks.length=ds.length/\RDL K C H0 xs ds
 | .od ks ds=>∃l xs,v=.ref l/\H l=some (dkO ks xs)/\H0 l=none/\B l=none/\ks.length=ds.length/\RDL K C H0 xs ds
 | .ot ks ds=>∃l xs,v=.ref l/\H l=some (dtO ks xs)/\H0 l=none/\B l=none/\ks.length=ds.length/\RDL K C H0 xs ds
structure EnvR (B H0 H:Hp) (σ:St) (E:List Sl):Prop where
 b:Same B H
 h:Same H0 H
 len:σ.length=E.length
 at':∀(i:Nat) (s:Sl),E[i]?=some s->s=.no\/∃v,σ[i]?=some (some v)/\RSl K C B H0 H v s
 sep:∀(i j:Nat) (s t:Sl) (v:V),i≠j->E[i]?=some s->E[j]?=some t->JK s=true->JK t=true->σ[i]?=some (some v)->σ[j]?≠some (some v)
end
noncomputable def isT:HO->Bool
 | .tup _=>true
 | .frz _ (.tup _)=>true
 | _=>false
structure Step (Hs H0 H H0' H':Hp):Prop where
 h:Same H H'
 z:Same H0 H0'
 n:∀a o,H0' a=some o->H0 a=some o\/Hs a=none\/isT o=true
 i:Same H0' H'
structure SStep (B H0 H0' H':Hp):Prop where
 b:Same B H'
 z:Same H0 H0'
 n:∀a o,H0' a=some o->H0 a=some o\/B a=none\/isT o=true
 i:Same H0' H'

section
variable{K:Qn}{C:Qc}{B Hs H0 H H0' H' H0'' H'':Hp}{σ:St}{E:List Sl}{v:V}{s:Sl}
theorem Step.refl(i:Same H0 H):Step Hs H0 H H0 H:=⟨Same.refl _,Same.refl _,fun _ _ e=>.inl e,i⟩
theorem Step.comp{Hs':Hp}(s1:Step Hs H0 H H0' H')(s2:Step Hs' H0' H' H0'' H'')(w:∀a,Hs' a=none->Hs a=none):Step Hs H0 H H0'' H'' :=
 ⟨s1.h.trans s2.h,s1.z.trans s2.z,fun a o e=>(s2.n a o e).elim (fun q=>s1.n a o q) fun q=>.inr (q.imp (w a) id),s2.i⟩
theorem Step.trans(s1:Step H H0 H H0' H')(s2:Step H' H0' H' H0'' H''):Step H H0 H H0'' H'':=s1.comp s2 fun _ q=>Same.free s1.h q
theorem Step.ss(b:Same B H)(s:Step H H0 H H0' H'):SStep B H0 H0' H':=⟨b.trans s.h,s.z,fun a o e=>(s.n a o e).imp id fun q=>q.imp (fun q=>Same.free b q) id,s.i⟩
theorem SStep.refl(b:Same B H)(i:Same H0 H):SStep B H0 H0 H:=⟨b,Same.refl _,fun _ _ e=>.inl e,i⟩
theorem SStep.trans(s1:SStep B H0 H0' H')(s2:SStep B H0' H0'' H''):SStep B H0 H0'' H'':=⟨s2.b,s1.z.trans s2.z,fun a o e=>(s2.n a o e).elim (fun q=>s1.n a o q) .inr,s2.i⟩
theorem RR.step(r:RR K C Hs H0 H v s)(st:Step H H0 H H0' H'):RR K C Hs H0' H' v s:=by
 cases s with
 | no=>exact r
 | sh d=>exact RD.mono st.z r
 | bo ds=>obtain⟨l,xs,e,h,q⟩:=r;exact⟨l,xs,e,st.h _ _ h,q.mono st.z⟩
 | bd ks ds=>obtain⟨l,xs,e,h,hk,q⟩:=r;exact⟨l,xs,e,st.h _ _ h,hk,q.mono st.z⟩
 | bt ks ds=>obtain⟨l,xs,e,h,hk,q⟩:=r;exact⟨l,xs,e,st.h _ _ h,hk,q.mono st.z⟩
 | own ds =>
  obtain⟨l,xs,e,h,n,m,q⟩:=r;refine⟨l,xs,e,st.h _ _ h,?_,m,q.mono st.z⟩
  cases z:H0' l with
  | none=>rfl
  | some o =>
   rcases st.n l o z with y|y|y
   ·rw[n] at y;cases y
   ·rw[h] at y;cases y
   ·have:=st.i l o z;rw[st.h _ _ h] at this;cases this;cases y
 | od ks ds =>
  obtain⟨l,xs,e,h,n,m,hk,q⟩:=r;refine⟨l,xs,e,st.h _ _ h,?_,m,hk,q.mono st.z⟩
  cases z:H0' l with
  | none=>rfl
  | some o =>
   rcases st.n l o z with y|y|y
   ·rw[n] at y;cases y
   ·rw[h] at y;cases y
   ·have:=st.i l o z;rw[st.h _ _ h] at this;cases this;cases y
 | ot ks ds =>
  obtain⟨l,xs,e,h,n,m,hk,q⟩:=r;refine⟨l,xs,e,st.h _ _ h,?_,m,hk,q.mono st.z⟩
  cases z:H0' l with
  | none=>rfl
  | some o =>
   rcases st.n l o z with y|y|y
   ·rw[n] at y;cases y
   ·rw[h] at y;cases y
   ·have:=st.i l o z;rw[st.h _ _ h] at this;cases this;cases y
theorem RR.weak{Hs':Hp}(r:RR K C Hs' H0 H v s)(w:∀a,Hs' a=none->Hs a=none):RR K C Hs H0 H v s:=by
 cases s with
 | own ds=>obtain⟨l,xs,e,h,n,m,q⟩:=r;exact⟨l,xs,e,h,n,w _ m,q⟩
 | od ks ds=>obtain⟨l,xs,e,h,n,m,q⟩:=r;exact⟨l,xs,e,h,n,w _ m,q⟩
 | ot ks ds=>obtain⟨l,xs,e,h,n,m,q⟩:=r;exact⟨l,xs,e,h,n,w _ m,q⟩
 | _=>exact r
theorem RSl.owned(r:RSl K C B H0 H v s)(o:JK s=true):∃l,v=.ref l/\H l≠none/\H0 l=none/\B l=none:=by
 cases s with
 | own ds=>obtain⟨l,xs,e,h,n,m,q⟩:=r;exact⟨l,e,(by rw[h];intro z;cases z),n,m⟩
 | od ks ds=>obtain⟨l,xs,e,h,n,m,q⟩:=r;exact⟨l,e,(by rw[h];intro z;cases z),n,m⟩
 | ot ks ds=>obtain⟨l,xs,e,h,n,m,q⟩:=r;exact⟨l,e,(by rw[h];intro z;cases z),n,m⟩
 | _=>cases o
theorem RR.owned(r:RR K C Hs H0 H v s)(o:JK s=true):∃l,v=.ref l/\H l≠none/\H0 l=none/\Hs l=none:=by
 cases s with
 | own ds=>obtain⟨l,xs,e,h,n,m,q⟩:=r;exact⟨l,e,(by rw[h];intro z;cases z),n,m⟩
 | od ks ds=>obtain⟨l,xs,e,h,n,m,q⟩:=r;exact⟨l,e,(by rw[h];intro z;cases z),n,m⟩
 | ot ks ds=>obtain⟨l,xs,e,h,n,m,q⟩:=r;exact⟨l,e,(by rw[h];intro z;cases z),n,m⟩
 | _=>cases o
theorem EnvR.step(I:EnvR K C B H0 H σ E)(st:Step H H0 H H0' H'):EnvR K C B H0' H' σ E:=by
 refine⟨I.b.trans st.h,st.i,I.len,fun i s e=>?_,I.sep⟩;rcases I.at' i s e with z|⟨v,h1,h2⟩
 ·exact .inl z
 ·refine .inr ⟨v,h1,?_⟩
  cases s with
  | no=>trivial
  | sh d=>exact RD.mono st.z h2
  | bo ds=>obtain⟨l,xs,e,h,q⟩:=h2;exact⟨l,xs,e,h,q.mono st.z⟩
  | own ds=>exact RR.step (Hs:=B) (s:=.own ds) h2 st
  | bd ks ds=>obtain⟨l,xs,e,h,hk,q⟩:=h2;exact⟨l,xs,e,h,hk,q.mono st.z⟩
  | bt ks ds=>obtain⟨l,xs,e,h,hk,q⟩:=h2;exact⟨l,xs,e,h,hk,q.mono st.z⟩
  | od ks ds=>exact RR.step (Hs:=B) (s:=.od ks ds) h2 st
  | ot ks ds=>exact RR.step (Hs:=B) (s:=.ot ks ds) h2 st
theorem EnvR.sub{E':List Sl}(I:EnvR K C B H0 H σ E)(hl:E'.length=E.length)(h:∀(i:Nat) (s:Sl),E'[i]?=some s->s=.no\/E[i]?=some s):EnvR K C B H0 H σ E':=by
 refine⟨I.b,I.h,I.len.trans hl.symm,fun i s e=>?_,fun i j s t v hij e1 e2 o1 o2=>?_⟩
 ·rcases h i s e with z|z
  ·exact .inl z
  ·exact I.at' i s z
 ·rcases h i _ e1 with z|z
  ·subst z;cases o1
  ·rcases h j _ e2 with y|y
   ·subst y;cases o2
   ·exact I.sep i j s t v hij z y o1 o2
theorem EnvR.put(I:EnvR K C B H0 H σ E){i:Nat}(hi:i<E.length){Hs:Hp}(hB:∀a,Hs a=none->B a=none)(hf:∀(j:Nat) (t:Sl) (l:Qc),E[j]?=some t->JK t=true->σ[j]?=some (some (.ref l))->Hs l≠none)(r:RR K C Hs H0 H v s)(hb:JjA s=false):EnvR K C B H0 H (σ.set i (some v)) (E.set i s):=by
 refine⟨I.b,I.h,by simp[I.len],fun j t e=>?_,fun j k s1 s2 u hjk e1 e2 o1 o2 e3 e4=>?_⟩
 ·rw[QM] at e
  by_cases hj:i=j
  ·subst hj;rw[if_pos rfl,if_pos hi] at e;cases e;refine .inr ⟨v,by rw[QM];simp[I.len,hi],?_⟩
   cases s with
   | no=>trivial
   | sh d=>exact r
   | bo ds=>cases hb
   | own ds=>obtain⟨l,xs,e,h,n,m,q⟩:=r;exact⟨l,xs,e,h,n,hB _ m,q⟩
   | bd ks ds=>cases hb
   | bt ks ds=>cases hb
   | od ks ds=>obtain⟨l,xs,e,h,n,m,q⟩:=r;exact⟨l,xs,e,h,n,hB _ m,q⟩
   | ot ks ds=>obtain⟨l,xs,e,h,n,m,q⟩:=r;exact⟨l,xs,e,h,n,hB _ m,q⟩
  ·rw[if_neg hj] at e;rcases I.at' j t e with z|⟨u,h1,h2⟩
   ·exact .inl z
   ·exact .inr ⟨u,by rw[QM,if_neg hj];exact h1,h2⟩
 ·rw[QM] at e1 e2 e3 e4
  by_cases hj:i=j
  ·subst hj;rw[if_neg hjk] at e2 e4;rw[if_pos rfl,if_pos hi] at e1;rw[if_pos rfl,if_pos (by rw[I.len];exact hi)] at e3;cases e3;cases e1;obtain⟨l,e,_,_,m⟩:=r.owned o1;subst e;exact hf k _ l e2 o2 e4 m
  ·rw[if_neg hj] at e1 e3
   by_cases hk:i=k
   ·subst hk;rw[if_pos rfl,if_pos hi] at e2;rw[if_pos rfl,if_pos (by rw[I.len];exact hi)] at e4;cases e2;have e4':v=u:=QL (QL e4);subst e4';obtain⟨l,e,_,_,m⟩:=r.owned o2;subst e;exact hf j _ l e1 o1 e3 m
   ·rw[if_neg hk] at e2 e4;exact I.sep j k _ _ u hjk e1 e2 o1 o2 e3 e4
theorem EnvR.ownG(I:EnvR K C B H0 H σ E){j:Nat}{t:Sl}{l:Qc}(e1:E[j]?=some t)(ho:JK t=true)(e2:σ[j]?=some (some (.ref l))):H l≠none/\H0 l=none/\B l=none:=by
 rcases I.at' j _ e1 with z|⟨v,h1,h2⟩
 ·subst z;cases ho
 ·rw[e2] at h1;cases h1;obtain⟨l',e,h⟩:=h2.owned ho;cases e;exact h
theorem EnvR.put'{H1 H01:Hp}(I:EnvR K C B H0 H σ E)(st:Step H H0 H H01 H1){i:Nat}(hi:i<E.length)(r:RR K C H H01 H1 v s)(hb:JjA s=false):EnvR K C B H01 H1 (σ.set i (some v)) (E.set i s) :=
 (I.step st).put hi (fun a q=>Same.free I.b q) (fun j t l e1 o1 e2=>(I.ownG e1 o1 e2).1) r hb
noncomputable def JcL:Option HO->Option HO
 | some o=>if isT o=true then some o else none
 | none=>none
noncomputable def YO(Hs H0 H:Hp):Hp:=fun a=>match H0 a with
 | some o=>some o
 | none=>match Hs a with
  | none=>H a
  | some _=>JcL (H a)
theorem WH{o:Option HO}{u:HO}(e:JcL o=some u):o=some u/\isT u=true:=by
 cases o with
 | none=>cases e
 | some w =>
  unfold JcL at e;dsimp only at e;split at e
  ·cases e;exact⟨rfl,by assumption⟩
  ·cases e
theorem JX(i:Same H0 H):Step Hs H0 H (YO Hs H0 H) H:=by
 refine⟨Same.refl _,fun a o e=>by unfold YO;rw[e],fun a o e=>?_,fun a o e=>?_⟩
 ·unfold YO at e
  cases h:H0 a with
  | some u=>rw[h] at e;exact .inl e
  | none =>
   rw[h] at e
   cases h2:Hs a with
   | none=>exact .inr (.inl rfl)
   | some u=>rw[h2] at e;exact .inr (.inr (WH e).2)
 ·unfold YO at e
  cases h:H0 a with
  | some u=>rw[h] at e;cases e;exact i a _ h
  | none =>
   rw[h] at e
   cases h2:Hs a with
   | none=>rw[h2] at e;exact e
   | some u=>rw[h2] at e;exact(WH e).1
theorem Z9{a:Qc}{o:HO}(i:Same H0 H)(n:Hs a=none)(h:H a=some o):YO Hs H0 H a=some o:=by
 unfold YO
 cases z:H0 a with
 | some u=>rw[i a u z] at h;exact h
 | none=>dsimp only;rw[n];exact h
theorem JcB{a:Qc}{o:HO}(i:Same H0 H)(n:isT o=true)(h:H a=some o):YO Hs H0 H a=some o:=by
 unfold YO
 cases z:H0 a with
 | some u=>rw[i a u z] at h;exact h
 | none =>
  dsimp only
  cases y:Hs a with
  | none=>exact h
  | some u=>dsimp only;rw[h];unfold JcL;dsimp only;rw[if_pos n]
theorem JcA{a:Qc}{xs:List V}(i:Same H0 H)(h:SqT K H a xs):SqT K (YO Hs H0 H) a xs:=by
 rcases h with (h|⟨o,h⟩)|h
 ·exact .inl (.inl (JcB i rfl h))
 ·exact .inl (.inr ⟨o,JcB i rfl h⟩)
 ·exact .inr h
noncomputable def Sl.frz:Sl->Option D
 | .sh d=>some d
 | .own ds=>some (.lst ds)
 | .od ks ds=>some (.dct ks ds)
 | _=>none
theorem RR.frz{d:D}(i:Same H0 H)(r:RR K C Hs H0 H v s)(e:s.frz=some d):RD K C (YO Hs H0 H) v d:=by
 have st:Step Hs H0 H (YO Hs H0 H) H:=JX i
 cases s with
 | no=>cases e
 | sh d'=>cases e;exact RD.mono st.z r
 | bo ds=>cases e
 | own ds=>cases e;obtain⟨l,xs,e,h,n,m,q⟩:=r;subst e;exact .mkL (Z9 i m h) (q.mono st.z)
 | bd ks ds=>cases e
 | bt ks ds=>cases e
 | od ks ds=>cases e;obtain⟨l,xs,e,h,n,m,hk,q⟩:=r;subst e;exact .mkD (Z9 i m h) hk (q.mono st.z)
 | ot ks ds=>cases e
end
end LE

namespace LE
open PySem L2 LR

noncomputable abbrev En:=List Sl
noncomputable abbrev Ev:=En->Option Sl
section
variable(K:Qn)(C:Qc)
noncomputable def SE(te:TE)(ev:Ev):Prop:=∀(B H0 H:Hp) (σ:St) (E:En) (r:Sl) (Q:VK),EnvR K C B H0 H σ E->ev E=some r ->
 (∀v H0' H',Step H H0 H H0' H'->RR K C H H0' H' v r->Q v H')->te σ H Q
noncomputable def ST(t:TT)(ev:En->Option Bool):Prop:=∀(B H0 H:Hp) (σ:St) (E:En) (r:Bool) (Q:Bool->Hp->Prop),EnvR K C B H0 H σ E->ev E=some r ->
 (∀H0' H',Step H H0 H H0' H'->Q r H')->t σ H Q
inductive RRL (Hs H0 H:Hp):List V->List Sl->Prop
 | nil:RRL Hs H0 H [] []
 | cons {v:V} {s:Sl} {vs:List V} {ss:List Sl}:RR K C Hs H0 H v s->RRL Hs H0 H vs ss->RRL Hs H0 H (v::vs) (s::ss)
noncomputable def SA(t:TA)(ev:En->Option (List Sl)):Prop:=∀(B H0 H:Hp) (σ:St) (E:En) (r:List Sl) (Q:List V->Hp->Prop),EnvR K C B H0 H σ E->ev E=some r ->
 (∀vs H0' H',Step H H0 H H0' H'->RRL K C H H0' H' vs r->Q vs H')->t σ H Q
noncomputable def OpS(r:R2)(f:Sl->Sl->Option Sl):Prop:=∀(Hs H0 H:Hp) (x y:V) (a b c:Sl) (Q:VK),Same H0 H->Same Hs H->RR K C Hs H0 H x a->RR K C Hs H0 H y b->f a b=some c ->
 (∀v H0' H',Step Hs H0 H H0' H'->RR K C Hs H0' H' v c->Q v H')->r x y H Q
noncomputable def UnS(r:V->Hp->VK->Prop)(f:Sl->Option Sl):Prop:=∀(Hs H0 H:Hp) (x:V) (a c:Sl) (Q:VK),Same H0 H->Same Hs H->RR K C Hs H0 H x a->f a=some c ->
 (∀v H0' H',Step Hs H0 H H0' H'->RR K C Hs H0' H' v c->Q v H')->r x H Q
noncomputable def V1(r:List V->Hp->VK->Prop)(f:List Sl->Option Sl):Prop:=∀(Hs H0 H:Hp) (xs:List V) (as:List Sl) (c:Sl) (Q:VK),Same H0 H->Same Hs H->RRL K C Hs H0 H xs as->f as=some c ->
 (∀v H0' H',Step Hs H0 H H0' H'->RR K C Hs H0' H' v c->Q v H')->r xs H Q
end

noncomputable def Jc(i:Nat):Ev:=fun E=>match E[i]? with
 | some (.sh d)=>some (.sh d)
 | some (.bo ds)=>some (.bo ds)
 | some (.own ds)=>some (.bo ds)
 | some (.bd ks ds)=>some (.bd ks ds)
 | some (.od ks ds)=>some (.bd ks ds)
 | some (.bt ks ds)=>some (.bt ks ds)
 | some (.ot ks ds)=>some (.bt ks ds)
 | _=>none
noncomputable def eC(d:D):Ev:=fun _=>some (.sh d)
noncomputable def e2(f:Sl->Sl->Option Sl)(a b:Ev):Ev:=fun E=>(a E).bind fun x=>(b E).bind fun y=>f x y
noncomputable def e1(f:Sl->Option Sl)(a:Ev):Ev:=fun E=>(a E).bind f
noncomputable def a0:En->Option (List Sl):=fun _=>some []
noncomputable def aC(a:Ev)(as:En->Option (List Sl)):En->Option (List Sl):=fun E=>(a E).bind fun x=>(as E).bind fun xs=>some (x::xs)
noncomputable def eF(f:List Sl->Option Sl)(as:En->Option (List Sl)):Ev:=fun E=>(as E).bind f
noncomputable def bool?:Sl->Option Bool
 | .sh (.bl b)=>some b
 | _=>none
noncomputable def Jgs(a b:Ev):Ev:=fun E=>((a E).bind bool?).bind fun k=>if k=true then b E else some (.sh (.bl false))
noncomputable def eIf(c:En->Option Bool)(a b:Ev):Ev:=fun E=>(c E).bind fun k=>if k=true then a E else b E
noncomputable def sh?:Sl->Option D
 | .sh d=>some d
 | _=>none
noncomputable def tB?(a:Ev):En->Option Bool:=fun E=>(a E).bind bool?
noncomputable def tAnd?(a b:En->Option Bool):En->Option Bool:=fun E=>(a E).bind fun k=>if k=true then b E else some false
noncomputable def tOr?(a b:En->Option Bool):En->Option Bool:=fun E=>(a E).bind fun k=>if k=true then some true else b E
noncomputable def tNot?(a:En->Option Bool):En->Option Bool:=fun E=>(a E).bind fun k=>some (!k)

section
variable{K:Qn}{C:Qc}
theorem bind_some{α β:Type}{x:Option α}{f:α->Option β}{b:β}(e:x.bind f=some b):∃a,x=some a/\f a=some b:=by
 cases x with
 | none=>cases e
 | some a=>exact⟨a,rfl,e⟩
theorem VB{s:Sl}{b:Bool}(e:bool? s=some b):s=.sh (.bl b):=by
 cases s with
 | sh d=>cases d with
  | bl x=>cases e;rfl
  | _=>cases e
 | _=>cases e
variable{ta tb tc te:TE}{ea eb ec:Ev}
theorem Jb(i:Nat):SE K C (JaA i) (Jc i):=by
 intro B H0 H σ E r Q I e q;unfold Jc at e
 cases h:E[i]? with
 | none=>rw[h] at e;cases e
 | some s =>
  rw[h] at e;rcases I.at' i s h with z|⟨v,h1,h2⟩
  ·subst z;cases e
  ·refine⟨v,h1,q v H0 H (.refl I.h) ?_⟩
   cases s with
   | no=>cases e
   | sh d=>cases e;exact h2
   | bo ds=>cases e;obtain⟨l,xs,e,hl,r⟩:=h2;exact⟨l,xs,e,I.b _ _ hl,r⟩
   | own ds=>cases e;obtain⟨l,xs,e,hl,_,_,r⟩:=h2;exact⟨l,xs,e,hl,r⟩
   | bd ks ds=>cases e;obtain⟨l,xs,e,hl,r⟩:=h2;exact⟨l,xs,e,I.b _ _ hl,r⟩
   | bt ks ds=>cases e;obtain⟨l,xs,e,hl,r⟩:=h2;exact⟨l,xs,e,I.b _ _ hl,r⟩
   | od ks ds=>cases e;obtain⟨l,xs,e,hl,_,_,r⟩:=h2;exact⟨l,xs,e,hl,r⟩
   | ot ks ds=>cases e;obtain⟨l,xs,e,hl,_,_,r⟩:=h2;exact⟨l,xs,e,hl,r⟩
theorem Yf:SE K C (tC .non) (eC .non):=fun _ _ _ _ _ _ _ I e q=>by cases e;exact q _ _ _ (.refl I.h) .non
theorem Jmz{b:Bool}:SE K C (tC (.bl b)) (eC (.bl b)):=fun _ _ _ _ _ _ _ I e q=>by cases e;exact q _ _ _ (.refl I.h) (.bl b)
theorem Jh{i:Int}:SE K C (tC (.int i)) (eC (.int i)):=fun _ _ _ _ _ _ _ I e q=>by cases e;exact q _ _ _ (.refl I.h) (.int i)
theorem JG{x:Str}:SE K C (tC (.str x)) (eC (.str x)):=fun _ _ _ _ _ _ _ I e q=>by cases e;exact q _ _ _ (.refl I.h) (.str x)
theorem Ji{r:R2}{f:Sl->Sl->Option Sl}(ho:OpS K C r f)(ha:SE K C ta ea)(hb:SE K C tb eb):SE K C (tOp r ta tb) (e2 f ea eb):=by
 intro B H0 H σ E c Q I e q;obtain⟨a,e1,e⟩:=bind_some e;obtain⟨b,e2,e⟩:=bind_some e;exact ha B H0 H σ E a _ I e1 fun x H1 H1' s1 r1=>hb B H1 H1' σ E b _ (I.step s1) e2 fun y H2 H2' s2 r2=>ho H H2 H2' x y a b c Q s2.i (s1.h.trans s2.h) (r1.step s2) (r2.weak fun a q=>Same.free s1.h q) e fun v H3 H3' s3 r3=>q v H3 H3' ((s1.trans s2).comp s3 fun _ z=>z) r3
theorem Jh1{r:V->Hp->VK->Prop}{f:Sl->Option Sl}(ho:UnS K C r f)(ha:SE K C ta ea):SE K C (tUn r ta) (e1 f ea):=by intro B H0 H σ E c Q I e q;obtain⟨a,e1,e⟩:=bind_some e;exact ha B H0 H σ E a _ I e1 fun x H1 H1' s1 r1=>ho H H1 H1' x a c Q s1.i s1.h r1 e fun v H3 H3' s3 r3=>q v H3 H3' (s1.comp s3 fun _ z=>z) r3
theorem Jk:SA K C Zo a0:=fun _ _ _ _ _ _ _ I e q=>by cases e;exact q _ _ _ (.refl I.h) .nil
theorem RRL.step{Hs H0 H H0' H':Hp}{vs:List V}{ss:List Sl}(r:RRL K C Hs H0 H vs ss)(st:Step H H0 H H0' H'):RRL K C Hs H0' H' vs ss:=by
 induction r with
 | nil=>exact .nil
 | cons h _ ih=>exact .cons (h.step st) ih
theorem RRL.weak{Hs Hs' H0 H:Hp}{vs:List V}{ss:List Sl}(r:RRL K C Hs' H0 H vs ss)(w:∀a,Hs' a=none->Hs a=none):RRL K C Hs H0 H vs ss:=by
 induction r with
 | nil=>exact .nil
 | cons h _ ih=>exact .cons (h.weak w) ih
theorem Jd{tr:TA}{er:En->Option (List Sl)}(ha:SE K C ta ea)(hr:SA K C tr er):SA K C (Y0 ta tr) (aC ea er):=by
 intro B H0 H σ E c Q I e q;obtain⟨a,e1,e⟩:=bind_some e;obtain⟨b,e2,e⟩:=bind_some e;cases e;exact ha B H0 H σ E a _ I e1 fun x H1 H1' s1 r1=>hr B H1 H1' σ E b _ (I.step s1) e2 fun y H2 H2' s2 r2=>q _ H2 H2' (s1.trans s2) (.cons (r1.step s2) (r2.weak fun a q=>Same.free s1.h q))
theorem YY{r:List V->Hp->VK->Prop}{t:TA}{ev:En->Option (List Sl)}{f:List Sl->Option Sl}(hc:V1 K C r f)(ha:SA K C t ev):SE K C (tCB r t) (eF f ev):=by intro B H0 H σ E c Q I e q;obtain⟨a,e1,e⟩:=bind_some e;exact ha B H0 H σ E a _ I e1 fun x H1 H1' s1 r1=>hc H H1 H1' x a c Q s1.i s1.h r1 e fun v H3 H3' s3 r3=>q v H3 H3' (s1.comp s3 fun _ z=>z) r3
theorem JiL(ha:SE K C ta ea)(hb:SE K C tb eb):SE K C (Jf0 ta tb) (Jgs ea eb):=by
 intro B H0 H σ E c Q I e q;obtain⟨k,e1,e⟩:=bind_some e;obtain⟨a,e0,e1⟩:=bind_some e1;refine ha B H0 H σ E a _ I e0 fun x H1 H1' s1 r1=>?_
 rw[VB e1] at r1;refine⟨k,RD.blI r1,?_⟩
 cases k with
 | true=>exact hb B H1 H1' σ E c Q (I.step s1) e fun y H2 H2' s2 r2=>q y H2 H2' (s1.trans s2) (r2.weak fun a q=>Same.free s1.h q)
 | false=>cases e;exact q _ _ _ s1 (RD.bl false)
theorem JiN{c:TT}{cv:En->Option Bool}(hc:ST K C c cv)(ha:SE K C ta ea)(hb:SE K C tb eb):SE K C (tIf c ta tb) (eIf cv ea eb):=by
 intro B H0 H σ E r Q I e q;obtain⟨k,e1,e⟩:=bind_some e;refine hc B H0 H σ E k _ I e1 fun H1 H1' s1=>?_
 cases k with
 | true=>exact ha B H1 H1' σ E r Q (I.step s1) e fun y H2 H2' s2 r2=>q y H2 H2' (s1.trans s2) (r2.weak fun a q=>Same.free s1.h q)
 | false=>exact hb B H1 H1' σ E r Q (I.step s1) e fun y H2 H2' s2 r2=>q y H2 H2' (s1.trans s2) (r2.weak fun a q=>Same.free s1.h q)
theorem Jr(ha:SE K C te ea):ST K C (Jf3 te) (tB? ea):=by
 intro B H0 H σ E k Q I e q;obtain⟨a,e1,e⟩:=bind_some e;refine ha B H0 H σ E a _ I e1 fun x H1 H1' s1 r1=>?_
 rw[VB e] at r1;exact⟨k,RD.blI r1,q _ _ s1⟩
theorem US{c d:TT}{ev ew:En->Option Bool}(hc:ST K C c ev)(hd:ST K C d ew):ST K C (JkX c d) (tAnd? ev ew):=by
 intro B H0 H σ E k Q I e q;obtain⟨a,e1,e⟩:=bind_some e;refine hc B H0 H σ E a _ I e1 fun H1 H1' s1=>?_
 cases a with
 | true=>exact hd B H1 H1' σ E k Q (I.step s1) e fun H2 H2' s2=>q H2 H2' (s1.trans s2)
 | false=>cases e;exact q _ _ s1
theorem ZP{c d:TT}{ev ew:En->Option Bool}(hc:ST K C c ev)(hd:ST K C d ew):ST K C (tOr c d) (tOr? ev ew):=by
 intro B H0 H σ E k Q I e q;obtain⟨a,e1,e⟩:=bind_some e;refine hc B H0 H σ E a _ I e1 fun H1 H1' s1=>?_
 cases a with
 | false=>exact hd B H1 H1' σ E k Q (I.step s1) e fun H2 H2' s2=>q H2 H2' (s1.trans s2)
 | true=>cases e;exact q _ _ s1
theorem Jca{c:TT}{ev:En->Option Bool}(hc:ST K C c ev):ST K C (JkZ c) (tNot? ev):=by intro B H0 H σ E k Q I e q;obtain⟨a,e1,e⟩:=bind_some e;cases e;exact hc B H0 H σ E a _ I e1 fun H1 H1' s1=>q _ _ s1
end

noncomputable def Sl.m:Sl->Option (List D)
 | .sh (.lst ds)=>some ds
 | .bo ds=>some ds
 | .own ds=>some ds
 | _=>none
noncomputable def Sl.r:Sl->Option (List D)
 | .sh (.lst ds)=>some ds
 | .sh (.fz ds)=>some ds
 | .bo ds=>some ds
 | .own ds=>some ds
 | _=>none
noncomputable def Sl.q:Sl->Option (List D)
 | .sh (.lst ds)=>some ds
 | .sh (.fz ds)=>some ds
 | .sh (.tup ds)=>some ds
 | .bo ds=>some ds
 | .own ds=>some ds
 | _=>none
noncomputable def Sl.d:Sl->Option D
 | .sh d=>some d
 | .bo ds=>some (.lst ds)
 | .own ds=>some (.lst ds)
 | .bd ks ds=>some (.dct ks ds)
 | .od ks ds=>some (.dct ks ds)
 | .bt _ _=>none
 | .ot _ _=>none
 | .no=>none
section
variable{K:Qn}{C:Qc}{Hs H0 H:Hp}{v:V}{s:Sl}{ds:List D}{d:D}
theorem RR.m(r:RR K C Hs H0 H v s)(i:Same H0 H)(e:s.m=some ds):∃l xs,v=.ref l/\H l=some (.lst xs)/\RDL K C H0 xs ds:=by
 cases s with
 | no=>cases e
 | bo es=>cases e;exact r
 | own es=>cases e;obtain⟨l,xs,h1,h2,_,_,h3⟩:=r;exact⟨l,xs,h1,h2,h3⟩
 | bd _ _=>cases e
 | bt _ _=>cases e
 | od _ _=>cases e
 | ot _ _=>cases e
 | sh d=>cases d with
  | lst es=>cases e;obtain⟨l,xs,h1,h2,h3⟩:=RD.lstI r;exact⟨l,xs,h1,i _ _ h2,h3⟩
  | _=>cases e
theorem RR.r(r:RR K C Hs H0 H v s)(i:Same H0 H)(e:s.r=some ds):∃l xs,v=.ref l/\SqL K H l xs/\RDL K C H0 xs ds:=by
 cases s with
 | no=>cases e
 | bo es=>cases e;obtain⟨l,xs,h1,h2,h3⟩:=r;exact⟨l,xs,h1,.of h2,h3⟩
 | own es=>cases e;obtain⟨l,xs,h1,h2,_,_,h3⟩:=r;exact⟨l,xs,h1,.of h2,h3⟩
 | bd _ _=>cases e
 | bt _ _=>cases e
 | od _ _=>cases e
 | ot _ _=>cases e
 | sh d=>cases d with
  | lst es=>cases e;obtain⟨l,xs,h1,h2,h3⟩:=RD.lstI r;exact⟨l,xs,h1,.of (i _ _ h2),h3⟩
  | fz es=>cases e;obtain⟨l,xs,h1,h2,h3⟩:=RD.fzI r;exact⟨l,xs,h1,i.seq h2,h3⟩
  | _=>cases e
theorem RR.q(r:RR K C Hs H0 H v s)(i:Same H0 H)(e:s.q=some ds):∃l xs,v=.ref l/\(SqL K H l xs\/SqT K H l xs)/\RDL K C H0 xs ds:=by
 cases s with
 | no=>cases e
 | bo es=>cases e;obtain⟨l,xs,h1,h2,h3⟩:=r;exact⟨l,xs,h1,.inl (.of h2),h3⟩
 | own es=>cases e;obtain⟨l,xs,h1,h2,_,_,h3⟩:=r;exact⟨l,xs,h1,.inl (.of h2),h3⟩
 | bd _ _=>cases e
 | bt _ _=>cases e
 | od _ _=>cases e
 | ot _ _=>cases e
 | sh d=>cases d with
  | lst es=>cases e;obtain⟨l,xs,h1,h2,h3⟩:=RD.lstI r;exact⟨l,xs,h1,.inl (.of (i _ _ h2)),h3⟩
  | fz es=>cases e;obtain⟨l,xs,h1,h2,h3⟩:=RD.fzI r;exact⟨l,xs,h1,.inl (i.seq h2),h3⟩
  | tup es=>cases e;obtain⟨l,xs,h1,h2,h3⟩:=RD.tupI r;exact⟨l,xs,h1,.inr (i.seqT h2),h3⟩
  | _=>cases e
theorem RR.dat(r:RR K C Hs H0 H v s)(i:Same H0 H)(e:s.d=some d):RD K C H v d:=by
 cases s with
 | no=>cases e
 | bo es=>cases e;obtain⟨l,xs,h1,h2,h3⟩:=r;subst h1;exact .mkL h2 (h3.mono i)
 | own es=>cases e;obtain⟨l,xs,h1,h2,_,_,h3⟩:=r;subst h1;exact .mkL h2 (h3.mono i)
 | bd _ _=>cases e;obtain⟨l,xs,h1,h2,hk,h3⟩:=r;subst h1;exact .mkD h2 hk (h3.mono i)
 | bt _ _=>cases e
 | od _ _=>cases e;obtain⟨l,xs,h1,h2,_,_,hk,h3⟩:=r;subst h1;exact .mkD h2 hk (h3.mono i)
 | ot _ _=>cases e
 | sh d'=>cases e;exact RD.mono i r
theorem UV{p:Qc}{xs:List V}{Q:VK}(i:Same H0 H)(hs:Same Hs H)(hp:H p=none)(r:RDL K C H0 xs ds)(q:∀v H0' H',Step Hs H0 H H0' H'->RR K C Hs H0' H' v (.own ds)->Q v H'):Q (.ref p) (upd H p (.lst xs)) :=
 q _ H0 _ ⟨.new hp,Same.refl _,fun _ _ e=>.inl e,i.trans (.new hp)⟩ ⟨p,xs,rfl,JE,Same.free i hp,Same.free hs hp,r⟩
theorem JaD{p:Qc}{xs:List V}{Q:VK}(i:Same H0 H)(hs:Same Hs H)(hp:H p=none)(r:RDL K C H0 xs ds)(q:∀v H0' H',Step Hs H0 H H0' H'->RR K C Hs H0' H' v (.sh (.tup ds))->Q v H'):Q (.ref p) (upd H p (.tup xs)):=by
 have h0:H0 p=none:=Same.free i hp;refine q _ (upd H0 p (.tup xs)) _ ⟨.new hp,.new h0,fun a o e=>?_,fun a o e=>?_⟩ ?_
 ·by_cases h:a=p
  ·subst h;exact .inr (.inl (Same.free hs hp))
  ·rw[Jj h] at e;exact .inl e
 ·by_cases h:a=p
  ·subst h;rw[JE] at e ⊢;exact e
  ·rw[Jj h] at e ⊢;exact i a o e
 ·exact RD.mkT (.of JE) (r.mono (.new h0))
end

noncomputable def fI(g:Int->Int->D):Sl->Sl->Option Sl
 | .sh (.int a),.sh (.int b)=>some (.sh (g a b))
 | _,_=>none
noncomputable def fIc(c:Int->Int->Bool)(g:Int->Int->D):Sl->Sl->Option Sl
 | .sh (.int a),.sh (.int b)=>if c a b=true then some (.sh (g a b)) else none
 | _,_=>none
noncomputable def Jdz(x y:Sl):Option Sl:=x.m.bind fun a=>y.m.bind fun b=>if a.length+b.length<=Qk then some (.own (a++b)) else none
noncomputable def JJ:Sl->Sl->Option Sl
 | .sh (.int a),.sh (.int b)=>some (.sh (.int (a+b)))
 | .sh (.str a),.sh (.str b)=>if a.length+b.length<=Qk then some (.sh (.str (a++b))) else none
 | .sh (.tup a),.sh (.tup b)=>if a.isEmpty=false/\b.isEmpty=false/\a.length+b.length<=Qk then some (.sh (.tup (a++b))) else none
 | .sh (.lst a),y=>Jdz (.sh (.lst a)) y
 | .bo a,y=>Jdz (.bo a) y
 | .own a,y=>Jdz (.own a) y
 | _,_=>none
noncomputable abbrev JbJ:=fI fun a b=>.int (a-b)
noncomputable abbrev fLt:=fI fun a b=>.bl (decide (a<b))
noncomputable abbrev fLe:=fI fun a b=>.bl (decide (a<=b))
noncomputable abbrev fGt:=fI fun a b=>.bl (decide (b<a))
noncomputable def Vs(a:Int):Bool:=LC a.natAbs 18446744073709551615
theorem Ut{a:Int}:Vs a=true↔-18446744073709551616<a/\a<18446744073709551616:=by unfold Vs;rw[G7];omega
noncomputable def Jat(a:Int):Bool:=LC a.natAbs 1073741823 && decide (0<a)
theorem smallP_ok{a:Int}:Jat a=true↔0<a/\a<1073741824:=by unfold Jat;rw[Qz,G7,decide_eq_true_eq];omega
noncomputable abbrev JaT:=fIc (fun a b=>Vs a || Vs b) fun a b=>.int (a*b)
noncomputable abbrev J9:=fIc (fun _ b=>decide (0<b)) fun a b=>.int (a % b)
noncomputable abbrev Ue:=fIc (fun _ b=>Jat b) fun a b=>.int (a / b)
noncomputable abbrev JaU:=fIc (fun a b=>decide (0<=b) && LC b.natAbs 1000000 && Vs a) fun a b=>.int (a ^ b.toNat)
noncomputable def Zi:Sl->Option Sl
 | .sh (.int a)=>some (.sh (.int (-a)))
 | _=>none
noncomputable def eqD(d e:D):Option Bool:=if (d.py.canLay0 && e.py.canLay0 && decide (min d.py.depth e.py.depth<=60))=true then some (KL d.py e.py) else none
noncomputable def eqA:D->D->Option Bool
 | .int a,.int b=>some (decide (a=b))
 | .str a,.str b=>some (decide (a=b))
 | .bl a,.bl b=>some (decide (a=b))
 | .non,.non=>some true
 | .non,.int _=>some false
 | .int _,.non=>some false
 | .non,.str _=>some false
 | .str _,.non=>some false
 | .non,.bl _=>some false
 | .bl _,.non=>some false
 | .int _,.str _=>some false
 | .str _,.int _=>some false
 | d,e=>eqD d e
noncomputable def fEq(x y:Sl):Option Sl:=x.d.bind fun d=>y.d.bind fun e=>(eqA d e).map fun k=>.sh (.bl k)
noncomputable def fNe(x y:Sl):Option Sl:=x.d.bind fun d=>y.d.bind fun e=>(eqA d e).map fun k=>.sh (.bl (!k))
noncomputable def D.isNon:D->Bool
 | .non=>true
 | _=>false
noncomputable def fIs:Sl->Sl->Option Sl
 | x,.sh .non=>x.d.map fun d=>.sh (.bl d.isNon)
 | _,_=>none
noncomputable def YV:Sl->Sl->Option Sl
 | x,.sh .non=>x.d.map fun d=>.sh (.bl (!d.isNon))
 | _,_=>none
noncomputable def fIx:Sl->Sl->Option Sl
 | .sh (.str z),.sh (.int i)=>if z.length<=Qk then(atI z.cps.toList i).map fun c=>.sh (.str ⟨#[c]⟩) else none
 | x,.sh (.int i)=>x.q.bind fun ds=>(atI ds i).map .sh
 | _,_=>none
section
variable{K:Qn}{C:Qc}
theorem o_I{g:Int->Int->V}{g':Int->Int->D}(h:∀i j H,RD K C H (g i j) (g' i j)):OpS K C (rI0 g) (fI g'):=by
 intro Hs H0 H x y a b c Q i hs ra rb e q;unfold fI at e;split at e
 ·cases e;exact⟨_,_,RD.intI ra,RD.intI rb,q _ _ _ (.refl i) (h _ _ _)⟩
 ·cases e
theorem Jhi{P:Int->Int->Prop}{c':Int->Int->Bool}{g:Int->Int->V}{g':Int->Int->D}(hp:∀i j,c' i j=true->P i j)(h:∀i j H,RD K C H (g i j) (g' i j)):OpS K C (rI P g) (fIc c' g'):=by
 intro Hs H0 H x y a b c Q i hs ra rb e q;unfold fIc at e;split at e
 ·split at e
  ·cases e;exact⟨_,_,RD.intI ra,RD.intI rb,hp _ _ (by assumption),q _ _ _ (.refl i) (h _ _ _)⟩
  ·cases e
 ·cases e
theorem Ja8:OpS K C (rI0 fun i j=>.int (i-j)) JbJ:=o_I fun _ _ _=>.int _
theorem VL:OpS K C (rI0 fun i j=>.bl (decide (i<j))) fLt:=o_I fun _ _ _=>.bl _
theorem Jhj:OpS K C (rI0 fun i j=>.bl (decide (i<=j))) fLe:=o_I fun _ _ _=>.bl _
theorem Jfi:OpS K C (rI0 fun i j=>.bl (decide (j<i))) fGt:=o_I fun _ _ _=>.bl _
theorem Ja7:OpS K C (rI CMul fun i j=>.int (i*j)) JaT:=Jhi (fun i j h=>by simp only[Ky,Ut] at h;exact h) fun _ _ _=>.int _
theorem Yj:OpS K C (rI (fun _ j=>0<j) fun i j=>.int (i % j)) J9:=Jhi (fun i j h=>by simpa using h) fun _ _ _=>.int _
theorem UI:OpS K C (rI Jlf fun i j=>.int (i / j)) Ue:=Jhi (fun i j h=>smallP_ok.mp h) fun _ _ _=>.int _
theorem JcS:OpS K C (rI Jlg fun i j=>.int (i ^ j.toNat)) JaU:=Jhi (fun i j h=>by simp only[Qz,decide_eq_true_eq,G7,Ut] at h;refine⟨h.1.1,by omega,?_⟩;show i.natAbs<18446744073709551616;omega) fun _ _ _=>.int _
theorem Jdm:UnS K C (rU fun i=>.int (-i)) Zi:=by
 intro Hs H0 H x a c Q i hs ra e q;unfold Zi at e;split at e
 ·cases e;exact⟨_,RD.intI ra,q _ _ _ (.refl i) (RD.int _)⟩
 ·cases e
noncomputable def Jfz(K:Qn):R2:=fun x y H Q=>Jc1 K x y H Q\/JiF K x y H Q
theorem Jv{X:Cx}(hK:X.K=K):OpR X (binaryOp .Add) (Jfz K):=(Jho hK).or (hK▸Jhp)
theorem JR:OpS K C (Jfz K) JJ:=by
 intro Hs H0 H x y a b c Q i hs ra rb e q
 have cat:∀{a b:Sl},RR K C Hs H0 H x a->RR K C Hs H0 H y b->Jdz a b=some c->Jfz K x y H Q:=by
  intro a b ra rb e;obtain⟨xs,e1,e⟩:=bind_some e;obtain⟨ys,e2,e⟩:=bind_some e;split at e
  ·next hz=>cases e;obtain⟨l,us,rfl,h1,r1⟩:=ra.m i e1;obtain⟨l',ws,rfl,h2,r2⟩:=rb.m i e2;exact .inl (.inr (.inr ⟨l,l',us,ws,rfl,rfl,h1,h2,by rw[r1.1,r2.1];exact hz,fun p hp=>UV i hs hp (r1.append r2) q⟩))
  ·cases e
 unfold JJ at e;split at e
 ·cases e;exact .inl (.inl ⟨_,_,RD.intI ra,RD.intI rb,q _ _ _ (.refl i) (RD.int _)⟩)
 ·split at e
  ·cases e;exact .inl (.inr (.inl ⟨_,_,RD.strI ra,RD.strI rb,by assumption,q _ _ _ (.refl i) (RD.str _)⟩))
  ·cases e
 ·split at e
  ·next hz =>
   cases e;obtain⟨l,us,rfl,h1,r1⟩:=RD.tupI ra;obtain⟨l',ws,rfl,h2,r2⟩:=RD.tupI rb;have n1:us≠[]:=by rintro rfl;have:=r1.1;have z:=hz.1;simp at this;rw[Go this.symm] at z;cases z
   have n2:ws≠[]:=by rintro rfl;have:=r2.1;have z:=hz.2.1;simp at this;rw[Go this.symm] at z;cases z
   exact .inr ⟨l,l',us,ws,rfl,rfl,i.seqT h1,i.seqT h2,n1,by rw[r1.1,r2.1];exact hz.2.2,fun z=>absurd z n2,fun _ p hp=>JaD i hs hp (r1.append r2) q⟩
  ·cases e
 ·exact cat ra rb e
 ·exact cat ra rb e
 ·exact cat ra rb e
 ·cases e
theorem JaS{d e:D}{k:Bool}(h:eqD d e=some k):d.py.canLay0=true/\e.py.canLay0=true/\min d.py.depth e.py.depth<=60/\k=KL d.py e.py:=by
 unfold eqD at h;split at h
 ·next z=>cases h;simp only[Qz,decide_eq_true_eq] at z;exact⟨z.1.1,z.1.2,z.2,rfl⟩
 ·cases h
theorem map_some{α β:Type}{x:Option α}{f:α->β}{b:β}(e:x.map f=some b):∃a,x=some a/\f a=b:=by
 cases x with
 | none=>cases e
 | some a=>cases e;exact⟨a,rfl,rfl⟩
theorem JaR{H:Hp}{x y:V}{d e:D}{k:Bool}(h:eqA d e=some k)(rx:RD K C H x d)(ry:RD K C H y e):(JkU x y=true/\decide (x=y)=k)\/eqD d e=some k:=by
 unfold eqA at h;split at h
 ·cases h;rw[RD.intI rx,RD.intI ry];exact .inl ⟨rfl,by simp⟩
 ·cases h;rw[RD.strI rx,RD.strI ry];exact .inl ⟨rfl,by simp⟩
 ·cases h;rw[RD.blI rx,RD.blI ry];exact .inl ⟨rfl,by simp⟩
 ·cases h;rw[RD.nonI rx,RD.nonI ry];exact .inl ⟨rfl,by simp⟩
 ·cases h;rw[RD.nonI rx,RD.intI ry];exact .inl ⟨rfl,by simp⟩
 ·cases h;rw[RD.intI rx,RD.nonI ry];exact .inl ⟨rfl,by simp⟩
 ·cases h;rw[RD.nonI rx,RD.strI ry];exact .inl ⟨rfl,by simp⟩
 ·cases h;rw[RD.strI rx,RD.nonI ry];exact .inl ⟨rfl,by simp⟩
 ·cases h;rw[RD.nonI rx,RD.blI ry];exact .inl ⟨rfl,by simp⟩
 ·cases h;rw[RD.blI rx,RD.nonI ry];exact .inl ⟨rfl,by simp⟩
 ·cases h;rw[RD.intI rx,RD.strI ry];exact .inl ⟨rfl,by simp⟩
 ·cases h;rw[RD.strI rx,RD.intI ry];exact .inl ⟨rfl,by simp⟩
 ·exact .inr h
theorem UJ:OpS K C (JfA K) fEq:=by
 intro Hs H0 H x y a b c Q i hs ra rb e q;obtain⟨d,e1,e⟩:=bind_some e;obtain⟨d',e2,e⟩:=bind_some e;obtain⟨k,e3,rfl⟩:=map_some e;have r1:=ra.dat i e1;have r2:=rb.dat i e2;rcases JaR e3 r1 r2 with ⟨h1,h2⟩|h
 ·exact .inl ⟨h1,by rw[h2];exact q _ _ _ (.refl i) (RD.bl _)⟩
 ·obtain⟨h1,h2,h3,rfl⟩:=JaS h;exact .inr ⟨_,_,r1.rep h1,r2.rep h2,h1,h2,h3,q _ _ _ (.refl i) (RD.bl _)⟩
theorem Jfj:OpS K C (JfB K) fNe:=by
 intro Hs H0 H x y a b c Q i hs ra rb e q;obtain⟨d,e1,e⟩:=bind_some e;obtain⟨d',e2,e⟩:=bind_some e;obtain⟨k,e3,rfl⟩:=map_some e;have r1:=ra.dat i e1;have r2:=rb.dat i e2;rcases JaR e3 r1 r2 with ⟨h1,h2⟩|h
 ·exact .inl ⟨h1,by rw[h2];exact q _ _ _ (.refl i) (RD.bl _)⟩
 ·obtain⟨h1,h2,h3,rfl⟩:=JaS h;exact .inr ⟨_,_,r1.rep h1,r2.rep h2,h1,h2,h3,q _ _ _ (.refl i) (RD.bl _)⟩
theorem JaZ{H:Hp}{x:V}{d:D}(r:RD K C H x d):decide (x=.non)=d.isNon:=by cases r <;> simp[D.isNon]
theorem JdR:OpS K C Jkk fIs:=by
 intro Hs H0 H x y a b c Q i hs ra rb e q;unfold fIs at e;split at e
 ·obtain⟨d,e1,rfl⟩:=map_some e;refine⟨RD.nonI rb,?_⟩;rw[JaZ (ra.dat i e1)];exact q _ _ _ (.refl i) (RD.bl _)
 ·cases e
theorem Wi:OpS K C JfC YV:=by
 intro Hs H0 H x y a b c Q i hs ra rb e q;unfold YV at e;split at e
 ·obtain⟨d,e1,rfl⟩:=map_some e;refine⟨RD.nonI rb,?_⟩;rw[JaZ (ra.dat i e1)];exact q _ _ _ (.refl i) (RD.bl _)
 ·cases e
theorem RDL.atI{H:Hp}{xs:List V}{ds:List D}{i:Int}{d:D}(r:RDL K C H xs ds)(e:L2.atI ds i=some d):∃x,L2.atI xs i=some x/\RD K C H x d:=by unfold L2.atI at e ⊢;rw[r.1];obtain⟨j,e1,e⟩:=bind_some e;obtain⟨x,e2,r2⟩:=r.get e;exact⟨x,by rw[e1];exact e2,r2⟩
theorem UK:OpS K C (rIx K) fIx:=by
 intro Hs H0 H x y a b c Q i hs ra rb e q;unfold fIx at e;split at e
 ·split at e
  ·obtain⟨z,e1,rfl⟩:=map_some e;rw[RD.strI ra,RD.intI rb];exact Jky (by assumption) e1 (q _ _ _ (.refl i) (RD.str _))
  ·cases e
 ·obtain⟨ds,e1,e⟩:=bind_some e;obtain⟨d,e2,rfl⟩:=map_some e;obtain⟨l,xs,rfl,h,r⟩:=ra.q i e1;obtain⟨v,e3,r3⟩:=r.atI e2;rw[RD.intI rb];rcases h with h|h
  ·exact Jkx h e3 (q _ _ _ (.refl i) r3)
  ·exact Jkz h e3 (q _ _ _ (.refl i) r3)
 ·cases e
end
end LE

namespace LE
open PySem L2 LR

noncomputable def Wy:List Sl->Option (List D)
 | []=>some []
 | s::ss=>s.frz.bind fun d=>(Wy ss).bind fun ds=>some (d::ds)
noncomputable def JaQ(as:En->Option (List Sl)):Ev:=fun E=>(as E).bind fun ss=>(Wy ss).bind fun ds=>if ds.length<=100 then some (.sh (.tup ds)) else none
noncomputable def Yg(as:En->Option (List Sl)):Ev:=fun E=>(as E).bind fun ss=>(Wy ss).bind fun ds=>if ds.length<=100 then some (.own ds) else none
section
variable{K:Qn}{C:Qc}{t:TA}{ev:En->Option (List Sl)}{Hs H0 H:Hp}{ta te:TE}{ea:Ev}
theorem RRL.frz{vs:List V}{ss:List Sl}(i:Same H0 H)(r:RRL K C Hs H0 H vs ss):∀{ds:List D},Wy ss=some ds->RDL K C (YO Hs H0 H) vs ds:=by
 induction r with
 | nil=>intro ds e;cases e;exact .nil
 | cons h _ ih=>intro ds e;obtain⟨d,e1,e⟩:=bind_some e;obtain⟨ds',e2,e⟩:=bind_some e;cases e;exact .cons (h.frz i e1) (ih e2)
theorem Jbj(ha:SA K C t ev):SE K C (Jk1 t) (JaQ ev):=by
 intro B H0 H σ E c Q I e q;obtain⟨ss,e1,e⟩:=bind_some e;obtain⟨ds,e2,e⟩:=bind_some e;split at e
 ·next hl =>
  cases e;refine ha B H0 H σ E ss _ I e1 fun vs H1 H1' s1 r1=>?_
  have f:=JX (Hs:=H) s1.i
  have r2:=r1.frz s1.i e2;exact⟨by rw[r2.1];exact QP hl (by decide),fun p hp=>JaD f.i s1.h hp r2 fun v H2 H2' s2 r2=>q v H2 H2' ((s1.comp f fun _ z=>z).comp s2 fun _ z=>z) r2⟩
 ·cases e
theorem Ye(ha:SA K C t ev):SE K C (Jii t) (Yg ev):=by
 intro B H0 H σ E c Q I e q;obtain⟨ss,e1,e⟩:=bind_some e;obtain⟨ds,e2,e⟩:=bind_some e;split at e
 ·next hl =>
  cases e;refine ha B H0 H σ E ss _ I e1 fun vs H1 H1' s1 r1=>?_
  have f:=JX (Hs:=H) s1.i
  have r2:=r1.frz s1.i e2;exact⟨by rw[r2.1];exact QP hl (by decide),fun p hp=>UV f.i s1.h hp r2 fun v H2 H2' s2 r2=>q v H2 H2' ((s1.comp f fun _ z=>z).comp s2 fun _ z=>z) r2⟩
 ·cases e

noncomputable def Sl.pass:Sl->Option Sl
 | .sh d=>some (.sh d)
 | .own ds=>some (.sh (.lst ds))
 | .bo ds=>some (.bo ds)
 | .bd ks ds=>some (.bd ks ds)
 | .od ks ds=>some (.sh (.dct ks ds))
 | .bt _ _=>none
 | .ot _ _=>none
 | .no=>none
end
noncomputable def UX:List Sl->Option (List Sl)
 | []=>some []
 | s::ss=>s.pass.bind fun d=>(UX ss).bind fun ds=>some (d::ds)
noncomputable def spE(K:Qn)(C:Qc)(n:Nat)(f:List Sl->Option Sl):Sp:=fun vs H Q _=>∃H0 as r,Same H0 H/\RRL K C H H0 H vs as/\as.all (fun s=>!JK s)=true/\as.length=n/\f as=some r ∧
 ∀v H0' H',Step H H0 H H0' H'->RR K C H H0' H' v r->Q v H'
noncomputable def eU(n:Nat)(f:List Sl->Option Sl)(as:En->Option (List Sl)):Ev:=fun E=>(as E).bind fun ss=>(UX ss).bind fun bs=>if bs.length=n then f bs else none
section
variable{K:Qn}{C:Qc}{t:TA}{ev:En->Option (List Sl)}{Hs H0 H:Hp}{ta te:TE}{ea:Ev}
theorem RRL.len{vs:List V}{ss:List Sl}(r:RRL K C Hs H0 H vs ss):vs.length=ss.length:=by
 induction r with
 | nil=>rfl
 | cons _ _ ih=>simp[ih]
theorem Jde{n:Nat}{f:List Sl->Option Sl}{vs:List V}{Q:VK}{E:XK}(h:spE K C n f vs H Q E):vs.length=n:=by obtain⟨H0,as,r,_,h1,_,h2,_⟩:=h;rw[h1.len];exact h2
theorem RR.pass{v:V}{s s':Sl}(i:Same H0 H)(r:RR K C Hs H0 H v s)(e:s.pass=some s'):RR K C H (YO Hs H0 H) H v s'/\JK s'=false:=by
 have st:Step Hs H0 H (YO Hs H0 H) H:=JX i
 cases s with
 | no=>cases e
 | sh d=>cases e;exact⟨RD.mono st.z r,rfl⟩
 | own ds=>cases e;exact⟨RR.frz (s:=.own ds) i r rfl,rfl⟩
 | bo ds=>cases e;obtain⟨l,xs,h1,h2,h3⟩:=r;exact⟨⟨l,xs,h1,h2,h3.mono st.z⟩,rfl⟩
 | od ks ds=>cases e;exact⟨RR.frz (s:=.od ks ds) i r rfl,rfl⟩
 | ot ks ds=>cases e
 | bd ks ds=>cases e;obtain⟨l,xs,h1,h2,hk,h3⟩:=r;exact⟨⟨l,xs,h1,h2,hk,h3.mono st.z⟩,rfl⟩
 | bt ks ds=>cases e
theorem RRL.pass{vs:List V}{ss:List Sl}(i:Same H0 H)(r:RRL K C Hs H0 H vs ss):∀{bs:List Sl},UX ss=some bs->RRL K C H (YO Hs H0 H) H vs bs/\bs.all (fun s=>!JK s)=true:=by
 induction r with
 | nil=>intro bs e;cases e;exact⟨.nil,rfl⟩
 | cons h _ ih=>intro bs e;obtain⟨d,e1,e⟩:=bind_some e;obtain⟨ds',e2,e⟩:=bind_some e;cases e;obtain⟨h1,h2⟩:=h.pass i e1;obtain⟨h3,h4⟩:=ih e2;exact⟨.cons h1 h3,by rw[Kq,h2,h4];rfl⟩
theorem Ya{n:Nat}{f:List Sl->Option Sl}{X:XK}(ha:SA K C t ev):SE K C (Vw (spE K C n f) [] X t) (eU n f ev):=by
 intro B H0 H σ E c Q I e q;obtain⟨ss,e1,e⟩:=bind_some e;obtain⟨bs,e2,e⟩:=bind_some e;split at e
 ·next hl=>refine Vq (ha B H0 H σ E ss _ I e1 fun vs H1 H1' s1 r1=>?_);obtain⟨h1,h2⟩:=r1.pass s1.i e2;have f:=JX (Hs:=H) s1.i;exact⟨_,bs,c,f.i,h1,h2,hl,e,fun v H2 H2' s2 r2=>q v H2 H2' ((s1.comp f fun _ z=>z).comp s2 fun a z=>Same.free s1.h z) (r2.weak fun a z=>Same.free s1.h z)⟩
 ·cases e

noncomputable def prE(p:Pr):D:=.tup [.int p.1,.int p.2]
noncomputable def Jk8:D->Option Pr
 | .tup [.int a,.int b]=>some (a,b)
 | _=>none
noncomputable def Jbw:List D->Option (List Pr)
 | []=>some []
 | d::ds=>(Jk8 d).bind fun p=>(Jbw ds).bind fun ps=>some (p::ps)
end
theorem VY:∀ps:List Pr,Jbw (ps.map prE)=some ps
 | []=>rfl
 | p::ps=>by rw[Qr,Jbw,VY ps];rfl
theorem Jd8{d:D}{p:Pr}(e:Jk8 d=some p):d=prE p:=by
 unfold Jk8 at e;split at e
 ·cases e;rfl
 ·cases e
theorem W7:∀{ds:List D} {ps:List Pr},Jbw ds=some ps->ds=ps.map prE
 | [],_,e=>by cases e;rfl
 | d::ds,_,e=>by obtain⟨p,e1,e⟩:=bind_some e;obtain⟨ps,e2,e⟩:=bind_some e;cases e;rw[Jd8 e1,W7 e2];rfl
noncomputable def U2:List Pr->Bool
 | []=>true
 | [p]=>decide (1<=p.2)
 | p::q::r=>decide (1<=p.2) && decide (p.1+p.2<q.1) && U2 (q::r)
theorem Ul:∀{ps:List Pr},U2 ps=true->Good ps
 | [],_=>.nil
 | [p],h=>⟨fun i q e=>by
  cases i with
  | zero=>simp at e;subst e;simpa [U2] using h
  | succ i=>simp at e,fun i q r e1 e2=>by simp at e2⟩
 | p::q::r,h=>by
  simp only[U2,Qz,decide_eq_true_eq] at h;have g:=Ul h.2;refine⟨fun i x e=>?_,fun i x y e1 e2=>?_⟩
  ·cases i with
   | zero=>simp at e;subst e;exact h.1.1
   | succ i=>exact g.one i x (by simpa using e)
  ·cases i with
   | zero=>simp at e1 e2;subst e1 e2;exact h.1.2
   | succ i=>exact g.gap i x y (by simpa using e1) (by simpa using e2)
theorem Wz:∀{ps:List Pr},Good ps->U2 ps=true
 | [],_=>rfl
 | [p],g=>by simpa [U2] using g.one 0 p rfl
 | p::q::r,g=>by
  have g':Good (q::r):=⟨fun i x e=>g.one (i+1) x (by simpa using e),fun i x y e1 e2=>g.gap (i+1) x y (by simpa using e1) (by simpa using e2)⟩
  simp only[U2,Qz,decide_eq_true_eq];exact⟨⟨g.one 0 p rfl,g.gap 0 p q rfl rfl⟩,Wz g'⟩
noncomputable def JeH:List Sl->Option Sl
 | [s]=>s.q.bind fun ds=>(Jbw ds).bind fun ps=>if (U2 ps && decide (ps.length<=30))=true then some (.sh (.row ds)) else none
 | _=>none
section
variable{K:Qn}{C:Qc}{t:TA}{ev:En->Option (List Sl)}{Hs H0 H:Hp}{ta te:TE}{ea:Ev}
theorem Jke{xs:List V}{ps:List Pr}(r:RDL K C H xs (ps.map prE)):Prs K H xs ps:=by
 refine⟨by rw[r.1];simp,fun i x d h1 h2=>?_⟩;rw[QJ] at h2
 cases e:ps[i]? with
 | none=>rw[e] at h2;cases h2
 | some p=>rw[e] at h2;cases h2;have h:=r.2 i x (prE p) h1 (by rw[QJ,e];rfl);exact RD.rep h rfl
theorem JjW{xs:List V}{ps:List Pr}(i:Same H0 H)(r:Prs K H xs ps):RDL K C (YO Hs H0 H) xs (ps.map prE):=by refine⟨by rw[r.len];simp,fun j x d h1 h2=>?_⟩;obtain⟨p,a,e1,e2,e3⟩:=r.at h1;rw[QJ,e1] at h2;cases h2;subst e2;exact .mkT (JcA i e3) (.cons (.int _) (.cons (.int _) .nil))
noncomputable def ints?:List D->Option (List Int)
 | []=>some []
 | .int i::ds=>(ints? ds).map (i::·)
 | _::_=>none
noncomputable def bls?:List D->Option (List Bool)
 | []=>some []
 | .bl i::ds=>(bls? ds).map (i::·)
 | _::_=>none
noncomputable def strs?:List D->Option (List Str)
 | []=>some []
 | .str i::ds=>(strs? ds).map (i::·)
 | _::_=>none
end
theorem WD:∀ns:List Int,ints? (ns.map .int)=some ns
 | []=>rfl
 | n::ns=>by rw[Qr,ints?,WD ns];rfl
theorem Jcl:∀ns:List Bool,bls? (ns.map .bl)=some ns
 | []=>rfl
 | n::ns=>by rw[Qr,bls?,Jcl ns];rfl
theorem Jbq:∀ns:List Str,strs? (ns.map .str)=some ns
 | []=>rfl
 | n::ns=>by rw[Qr,strs?,Jbq ns];rfl
theorem VF:∀{ds:List D} {ns:List Int},ints? ds=some ns->ds=ns.map .int
 | [],_,e=>by cases e;rfl
 | .int i::ds,_,e=>by obtain⟨ns,e1,e2⟩:=map_some (show(ints? ds).map (i::·)=_ from e);rw[<- e2,VF e1];rfl
 | .non::_,_,e|.bl _::_,_,e|.str _::_,_,e|.tup _::_,_,e|.lst _::_,_,e|.fz _::_,_,e|.row _::_,_,e=>by cases e
theorem Ws:∀{ds:List D} {ns:List Bool},bls? ds=some ns->ds=ns.map .bl
 | [],_,e=>by cases e;rfl
 | .bl i::ds,_,e=>by obtain⟨ns,e1,e2⟩:=map_some (show(bls? ds).map (i::·)=_ from e);rw[<- e2,Ws e1];rfl
 | .non::_,_,e|.int _::_,_,e|.str _::_,_,e|.tup _::_,_,e|.lst _::_,_,e|.fz _::_,_,e|.row _::_,_,e=>by cases e
theorem ZT:∀{ds:List D} {ns:List Str},strs? ds=some ns->ds=ns.map .str
 | [],_,e=>by cases e;rfl
 | .str i::ds,_,e=>by obtain⟨ns,e1,e2⟩:=map_some (show(strs? ds).map (i::·)=_ from e);rw[<- e2,ZT e1];rfl
 | .non::_,_,e|.int _::_,_,e|.bl _::_,_,e|.tup _::_,_,e|.lst _::_,_,e|.fz _::_,_,e|.row _::_,_,e=>by cases e
noncomputable def YI:List Sl->Option Sl
 | [.sh (.str x)]=>if x.length<=Qk then some (.sh (.int x.length)) else none
 | [s]=>s.q.map fun ds=>.sh (.int ds.length)
 | _=>none
noncomputable def Jcx:List Sl->Option Sl
 | [s]=>s.q.map fun ds=>.own ds
 | _=>none
noncomputable def JeJ:List Sl->Option Sl
 | [s]=>s.q.bind fun ds=>(ints? ds).map fun ns=>.sh (.int ns.sum)
 | _=>none
noncomputable def JeE:List Sl->Option Sl
 | [s]=>s.q.bind fun ds=>(bls? ds).map fun ns=>.sh (.bl (ns.all id))
 | _=>none
section
variable{K:Qn}{C:Qc}{Hs H0 H:Hp}
theorem RRL.one{vs:List V}{s:Sl}(r:RRL K C Hs H0 H vs [s]):∃v,vs=[v]/\RR K C Hs H0 H v s:=by
 cases r with
 | cons h t=>cases t;exact⟨_,rfl,h⟩
theorem RRL.two{vs:List V}{s t:Sl}(r:RRL K C Hs H0 H vs [s,t]):∃v w,vs=[v,w]/\RR K C Hs H0 H v s/\RR K C Hs H0 H w t:=by
 cases r with
 | cons h r=>cases r with
  | cons h' r=>cases r;exact⟨_,_,rfl,h,h'⟩
theorem YU:V1 K C (Jb4 K) YI:=by
 intro Hs H0 H xs as c Q i hs r e q;unfold YI at e;split at e
 ·split at e
  ·cases e;obtain⟨v,rfl,r0⟩:=r.one;rw[RD.strI r0];exact JhM (by assumption) (q _ _ _ (.refl i) (RD.int _))
  ·cases e
 ·obtain⟨v,rfl,r0⟩:=r.one;obtain⟨ds,e1,rfl⟩:=map_some e;obtain⟨l,xs,rfl,h,r1⟩:=r0.q i e1;have z:=q (.int ds.length) _ _ (.refl i) (RD.int _);rw[<- r1.1] at z;exact Jbi h z
 ·cases e
theorem Ji7:V1 K C (Jan K) Jcx:=by
 intro Hs H0 H xs as c Q i hs r e q;unfold Jcx at e;split at e
 ·obtain⟨v,rfl,r0⟩:=r.one;obtain⟨ds,e1,rfl⟩:=map_some e;obtain⟨l,ys,rfl,h,r1⟩:=r0.q i e1;exact⟨l,ys,rfl,h,fun p hp=>UV i hs hp r1 q⟩
 ·cases e
theorem Jlo:V1 K C (Jkn K) JeJ:=by
 intro Hs H0 H xs as c Q i hs r e q;unfold JeJ at e;split at e
 ·obtain⟨v,rfl,r0⟩:=r.one;obtain⟨ds,e1,e⟩:=bind_some e;obtain⟨ns,e2,rfl⟩:=map_some e;obtain⟨l,ys,rfl,h,r1⟩:=r0.q i e1;rw[VF e2] at r1;have:=r1.ints;subst this;exact⟨l,ns,rfl,h,q _ _ _ (.refl i) (RD.int _)⟩
 ·cases e
theorem Jln:V1 K C (Jkj K) JeE:=by
 intro Hs H0 H xs as c Q i hs r e q;unfold JeE at e;split at e
 ·obtain⟨v,rfl,r0⟩:=r.one;obtain⟨ds,e1,e⟩:=bind_some e;obtain⟨ns,e2,rfl⟩:=map_some e;obtain⟨l,ys,rfl,h,r1⟩:=r0.q i e1;rw[Ws e2] at r1;have:=r1.bls;subst this;exact⟨l,ns,rfl,h,q _ _ _ (.refl i) (RD.bl _)⟩
 ·cases e
end

noncomputable def Jk4:Sl->Option Bool
 | .sh .non=>some false
 | .sh (.bl b)=>some b
 | .sh (.int i)=>some (i != 0)
 | .sh (.str y)=>if y.length<=Qk then some ((y.length:Int) != 0) else none
 | s=>s.q.map fun ds=>!ds.isEmpty
noncomputable def tTru?(a:Ev):En->Option Bool:=fun E=>(a E).bind Jk4
noncomputable def tyN:D->Option String
 | .non=>some "NoneType"
 | .bl _=>some "bool"
 | .int _=>some "int"
 | .str _=>some "str"
 | .tup _=>some "tuple"
 | .lst _=>some "list"
 | .fz _=>some "list"
 | .row _=>none
 | .dct _ _=>none
 | .dfz _ _=>none
 | .exc _=>none
noncomputable def Ja1(t n:String):Bool:=t == n || (t == "bool" && n == "int")
noncomputable def Jgt(n:String)(a:Ev):Ev:=fun E=>(a E).bind fun s=>s.d.bind fun d=>(tyN d).map fun t=>.sh (.bl (Ja1 t n))
noncomputable def D.isRow:D->Bool
 | .row _=>true
 | _=>false
section
variable{K:Qn}{C:Qc}{Hs H0 H:Hp}{te:TE}{ea:Ev}
theorem RDL.empty{xs:List V}{ds:List D}(r:RDL K C H xs ds):xs.isEmpty=ds.isEmpty:=by cases xs <;> cases ds <;> first|rfl|(have:=r.1;simp at this)
theorem WZ(ha:SE K C te ea):ST K C (Jij K te) (tTru? ea):=by
 intro B H0 H σ E k Q I e q;obtain⟨a,e1,e⟩:=bind_some e;refine ha B H0 H σ E a _ I e1 fun x H1 H1' s1 r1=>?_
 have seq:∀{a:Sl},RR K C H H1 H1' x a->a.q.map (fun ds=>!ds.isEmpty)=some k->∃k',Jdp K x H1' k'/\Q k' H1':=fun {a} r1 e=>by
  obtain⟨ds,e2,rfl⟩:=map_some e;obtain⟨l,xs,rfl,h,r⟩:=r1.q s1.i e2;have z:=q _ _ s1;rw[<- r.empty] at z;rcases h with h|h
  ·exact⟨_,.inl ⟨xs,h,rfl⟩,z⟩
  ·exact⟨_,.inr (.inl ⟨xs,h,rfl⟩),z⟩
 unfold Jk4 at e;split at e
 ·cases e;rw[RD.nonI r1];exact⟨_,rfl,q _ _ s1⟩
 ·cases e;rw[RD.blI r1];exact⟨_,rfl,q _ _ s1⟩
 ·cases e;rw[RD.intI r1];exact⟨_,rfl,q _ _ s1⟩
 ·split at e
  ·cases e;rw[RD.strI r1];exact⟨_,⟨by assumption,rfl⟩,q _ _ s1⟩
  ·cases e
 ·exact seq r1 e
theorem RD.ty{x:V}{d:D}{t:String}(r:RD K C H x d)(e:tyN d=some t):TyS K H x (.type t):=by
 cases r with
 | non=>cases e;exact .of .non
 | bl b=>cases e;exact .of (.bl b)
 | int i=>cases e;exact .of (.int i)
 | str i=>cases e;exact .of (.str i)
 | tup h _ _=>cases e;exact .sqT h
 | lst h _ _=>cases e;exact .sqL (.of h)
 | fz h _ _=>cases e;exact .sqL h
 | row _ _ _ _=>cases e
 | dct _ _ _ _=>cases e
 | dfz _ _ _ _=>cases e
 | exc _ _=>cases e
noncomputable def Jed(K:Qn)(n:String):Prop:=∀t∈["NoneType","bool","int","str","tuple","list"],kitOne K (.type t) (.type n)=some (Ja1 t n)
theorem Jim{d:D}{t:String}(e:tyN d=some t):t∈["NoneType","bool","int","str","tuple","list"]:=by cases d <;> cases e <;> simp
theorem JiO{n:String}(hk:Jed K n)(ha:SE K C te ea):SE K C (tCB (JhE K) (Y0 te (Y0 (tC (.ty n)) Zo))) (Jgt n ea):=by
 intro B H0 H σ E c Q I e q;obtain⟨a,e1,e⟩:=bind_some e;obtain⟨d,e2,e⟩:=bind_some e;obtain⟨t,e3,rfl⟩:=map_some e;refine ha B H0 H σ E a _ I e1 fun x H1 H1' s1 r1=>?_
 exact Jkw (RD.ty (r1.dat s1.i e2) e3) (hk t (Jim e3)) (q _ _ _ s1 (RD.bl _))
end
theorem Jg4{K:Qn}:Jed K "int":=fun t ht=>by simp only[Qm,Lo,or_false] at ht;rcases ht with rfl | rfl | rfl | rfl | rfl | rfl <;> kernel_rfl
theorem Je3{K:Qn}:Jed K "bool":=fun t ht=>by simp only[Qm,Lo,or_false] at ht;rcases ht with rfl | rfl | rfl | rfl | rfl | rfl <;> kernel_rfl
end LE

namespace LE
open PySem L2 LR

mutual
inductive Pt where
 | nm (i:Nat)
 | tp (l:Pts)
inductive Pts where
 | nil
 | cons (p:Pt) (l:Pts)
end
mutual
noncomputable def Pt.bind:Pt->D->En->Option En
 | .nm i,d,E=>if i<E.length then some (E.set i (.sh d)) else none
 | .tp l,.tup ds,E=>l.bind ds E
 | .tp _,_,_=>none
noncomputable def Pts.bind:Pts->List D->En->Option En
 | .nil,[],E=>some E
 | .cons p l,d::ds,E=>(p.bind d E).bind fun E'=>l.bind ds E'
 | _,_,_=>none
end
mutual
noncomputable def Pt.slots:Pt->List Nat
 | .nm i=>[i]
 | .tp l=>l.slots
noncomputable def Pts.slots:Pts->List Nat
 | .nil=>[]
 | .cons p l=>p.slots++l.slots
end
mutual
theorem Pt.keep:∀{p:Pt} {d:D} {E E':En},p.bind d E=some E'->E'.length=E.length/\∀i,i∉p.slots->E'[i]?=E[i]?
 | .nm i,d,E,E',e=>by
  unfold Pt.bind at e;split at e
  ·cases e;refine⟨by simp,fun j hj=>?_⟩;rw[QM,if_neg];intro z;exact hj (by simp[Pt.slots,z])
  ·cases e
 | .tp l,d,E,E',e=>by
  cases d with
  | tup ds=>exact Pts.keep (p:=l) (ds:=ds) (by simpa [Pt.bind] using e)
  | _=>simp[Pt.bind] at e
theorem Pts.keep:∀{p:Pts} {ds:List D} {E E':En},p.bind ds E=some E'->E'.length=E.length/\∀i,i∉p.slots->E'[i]?=E[i]?
 | .nil,[],E,E',e=>by simp[Pts.bind] at e;subst e;exact⟨rfl,fun _ _=>rfl⟩
 | .nil,_::_,_,_,e=>by simp[Pts.bind] at e
 | .cons _ _,[],_,_,e=>by simp[Pts.bind] at e
 | .cons p l,d::ds,E,E',e=>by rw[Pts.bind] at e;obtain⟨E1,e1,e2⟩:=bind_some e;obtain⟨h1,h2⟩:=Pt.keep e1;obtain⟨h3,h4⟩:=Pts.keep e2;refine⟨h3.trans h1,fun i hi=>?_⟩;simp[Pts.slots] at hi;rw[h4 i hi.2,h2 i hi.1]
end
section
variable(K:Qn)(C:Qc)
noncomputable def SG(g:TG)(p:Pt):Prop:=∀(B H0 H:Hp) (σ:St) (E E':En) (x:V) (d:D) (Q:St->Hp->Prop),EnvR K C B H0 H σ E->RD K C H0 x d->p.bind d E=some E'->(∀σ',EnvR K C B H0 H σ' E'->Q σ' H)->g x σ H Q
noncomputable def SGs(g:TGs)(p:Pts):Prop:=∀(B H0 H:Hp) (σ:St) (E E':En) (xs:List V) (ds:List D) (Q:St->Hp->Prop),EnvR K C B H0 H σ E->RDL K C H0 xs ds->p.bind ds E=some E'->(∀σ',EnvR K C B H0 H σ' E'->Q σ' H)->g xs σ H Q
end
section
variable{K:Qn}{C:Qc}
theorem EnvR.setSh{B H0 H:Hp}{σ:St}{E:En}{i:Nat}{v:V}{d:D}(I:EnvR K C B H0 H σ E)(hi:i<E.length)(r:RD K C H0 v d):EnvR K C B H0 H (σ.set i (some v)) (E.set i (.sh d)) :=
 I.put' (s:=.sh d) (.refl I.h) hi r rfl
theorem Zk(i:Nat):SG K C (UG i) (.nm i):=by
 intro B H0 H σ E E' x d Q I r e q;rw[Pt.bind] at e;split at e
 ·cases e;exact q _ (I.setSh (by assumption) r)
 ·cases e
theorem JeT:SGs K C Jjs .nil:=by
 intro B H0 H σ E E' xs ds Q I r e q
 cases ds with
 | nil =>
  cases xs with
  | nil=>rw[Pts.bind] at e;cases e;exact⟨rfl,q σ I⟩
  | cons _ _=>have:=r.1;simp at this
 | cons _ _=>simp[Pts.bind] at e
theorem VE{g:TG}{gs:TGs}{p:Pt}{ps:Pts}(h:SG K C g p)(hs:SGs K C gs ps):SGs K C (JeR g gs) (.cons p ps):=by
 intro B H0 H σ E E' xs ds Q I r e q
 cases ds with
 | nil=>simp[Pts.bind] at e
 | cons d ds =>
  cases xs with
  | nil=>have:=r.1;simp at this
  | cons x xs=>rw[Pts.bind] at e;obtain⟨E1,e1,e2⟩:=bind_some e;exact⟨x,xs,rfl,h B H0 H σ E E1 x d _ I r.head e1 fun σ1 I1=>hs B H0 H σ1 E1 E' xs ds Q I1 r.tail e2 q⟩
theorem Jmm{n:Nat}{gs:TGs}{ps:Pts}(hn:∀(ds:List D) (E E':En),ps.bind ds E=some E'->ds.length=n)(hs:SGs K C gs ps):SG K C (JeS K n gs) (.tp ps):=by
 intro B H0 H σ E E' x d Q I r e q
 cases d with
 | tup ds=>rw[Pt.bind] at e;obtain⟨a,xs,rfl,h,r⟩:=RD.tupI r;exact⟨a,xs,rfl,I.h.seqT h,by rw[r.1];exact hn ds E E' e,hs B H0 H σ E E' xs ds Q I r e q⟩
 | _=>simp[Pt.bind] at e
noncomputable def Pts.len:Pts->Nat
 | .nil=>0
 | .cons _ l=>l.len+1
theorem Pts.bind_len:∀{ps:Pts} {ds:List D} {E E':En},ps.bind ds E=some E'->ds.length=ps.len
 | .nil,[],_,_,_=>rfl
 | .nil,_::_,_,_,e=>by simp[Pts.bind] at e
 | .cons _ _,[],_,_,e=>by simp[Pts.bind] at e
 | .cons p l,d::ds,E,E',e=>by rw[Pts.bind] at e;obtain⟨E1,e1,e2⟩:=bind_some e;rw[Qh,Pts.bind_len e2];rfl
theorem JeU{n:Nat}{gs:TGs}{ps:Pts}(hs:SGs K C gs ps)(hn:ps.len=n):SG K C (JeS K n gs) (.tp ps):=Jmm (fun _ _ _ e=>(Pts.bind_len e).trans hn) hs
end

section
variable(K:Qn)(C:Qc)
noncomputable def Jgb(A:Hp)(J:It)(ds:List D)(H0:Hp):Prop:=∀H0' H',SStep A H0 H0' H'->(∀(i:Nat) (d:D),ds[i]?=some d->J.go i H'/\∀x H2,J.yld i H' x H2->∃H02,Step H' H0' H' H02 H2/\RD K C H02 x d)/\J.stop ds.length H'
noncomputable def SI(m:Bool)(wi:TI)(ev:En->Option (List D)):Prop:=∀(B H0 H:Hp) (σ:St) (E:En) (ds:List D) (R:It->Hp->Prop),EnvR K C B H0 H σ E->ev E=some ds ->
 (∀J H0' H',Step H H0 H H0' H'->Jgb K C (if m=true then H' else B) J ds H0'->R J H')->wi σ H R
end
noncomputable def Sl.it(m:Bool):Sl->Option (List D)
 | .bo ds=>if m=true then some ds else none
 | s=>s.q
noncomputable def iE(m:Bool)(a:Ev):En->Option (List D):=fun E=>(a E).bind (Sl.it m)
noncomputable def iV(i:Nat):En->Option (List D):=fun E=>match E[i]? with
 | some (.bo ds)=>some ds
 | some (.sh d)=>(Sl.sh d).q
 | _=>none
noncomputable def rng(lo:Int)(n:Nat):List D:=(Gi n).map fun(i:Nat)=>.int (lo+(i:Int))
noncomputable def JeW(a:Int):Bool:=LC a.natAbs 4611686018427387903
noncomputable def iR1(as:En->Option (List Sl)):En->Option (List D):=fun E=>(as E).bind fun ss=>match ss with
 | [.sh (.int n)]=>if JeW n=true then some (rng 0 n.toNat) else none
 | _=>none
section
variable{K:Qn}{C:Qc}{te:TE}{ea:Ev}{m:Bool}
theorem Vl{A H0:Hp}{a:Qc}{xs:List V}{ds:List D}(hd:∀H0' H',SStep A H0 H0' H'->SqL K H' a xs)(r:RDL K C H0 xs ds):Jgb K C A (Itl K a) ds H0:=by intro H0' H' st;have hq:=hd H0' H' st;refine⟨fun i d e=>?_,⟨xs,hq,by rw[r.1];exact Qq _⟩⟩;obtain⟨x,e1,r1⟩:=r.get e;refine⟨⟨xs,x,hq,e1⟩,fun y H2 ⟨e2,e3⟩=>?_⟩;subst e2;have:=e3 xs hq;rw[e1] at this;cases this;exact⟨H0',.refl st.i,r1.mono st.z⟩
theorem JjC{A H0:Hp}{a:Qc}{xs:List V}{ds:List D}(hd:∀H0' H',SStep A H0 H0' H'->SqT K H' a xs)(r:RDL K C H0 xs ds):Jgb K C A (Itt K a) ds H0:=by intro H0' H' st;have hq:=hd H0' H' st;refine⟨fun i d e=>?_,⟨xs,hq,by rw[r.1];exact Qq _⟩⟩;obtain⟨x,e1,r1⟩:=r.get e;refine⟨⟨xs,x,hq,e1⟩,fun y H2 ⟨e2,e3⟩=>?_⟩;subst e2;have:=e3 xs hq;rw[e1] at this;cases this;exact⟨H0',.refl st.i,r1.mono st.z⟩
theorem JkS(ha:SE K C te ea):SI K C m (JbK K te) (iE m ea):=by
 intro B H0 H σ E ds R I e q;obtain⟨s,e1,e⟩:=bind_some e
 cases s with
 | no=>cases e
 | bd _ _=>cases e
 | bt _ _=>cases e
 | od _ _=>cases e
 | ot _ _=>cases e
 | bo es =>
  unfold Sl.it at e;dsimp only at e;split at e
  ·next hm=>cases e;refine .inl (ha B H0 H σ E _ _ I e1 fun x H1 H1' s1 r1=>?_);obtain⟨l,xs,rfl,h,r⟩:=r1;refine⟨l,rfl,⟨xs,.of h⟩,q _ _ _ s1 ?_⟩;rw[if_pos hm];exact Vl (fun H0' H' st=>.of (st.b _ _ h)) r
  ·cases e
 | own es=>cases (show some es=some ds from e);refine .inl (ha B H0 H σ E _ _ I e1 fun x H1 H1' s1 r1=>?_);have f:=JX (Hs:=H) s1.i;have r2:=RR.frz s1.i r1 rfl;obtain⟨l,xs,rfl,h,r⟩:=RD.lstI r2;exact⟨l,rfl,⟨xs,.of (f.i _ _ h)⟩,q _ _ _ (s1.comp f fun _ z=>z) (Vl (fun H0' H' st=>.of (st.i _ _ (st.z _ _ h))) r)⟩
 | sh d =>
  cases d with
  | lst es=>cases (show some es=some ds from e);refine .inl (ha B H0 H σ E _ _ I e1 fun x H1 H1' s1 r1=>?_);obtain⟨l,xs,rfl,h,r⟩:=RD.lstI r1;exact⟨l,rfl,⟨xs,.of (s1.i _ _ h)⟩,q _ _ _ s1 (Vl (fun H0' H' st=>.of (st.i _ _ (st.z _ _ h))) r)⟩
  | fz es=>cases (show some es=some ds from e);refine .inl (ha B H0 H σ E _ _ I e1 fun x H1 H1' s1 r1=>?_);obtain⟨l,xs,rfl,h,r⟩:=RD.fzI r1;exact⟨l,rfl,⟨xs,s1.i.seq h⟩,q _ _ _ s1 (Vl (fun H0' H' st=>(st.z.trans st.i).seq h) r)⟩
  | tup es=>cases (show some es=some ds from e);refine .inr (ha B H0 H σ E _ _ I e1 fun x H1 H1' s1 r1=>?_);obtain⟨l,xs,rfl,h,r⟩:=RD.tupI r1;exact⟨l,rfl,⟨xs,s1.i.seqT h⟩,q _ _ _ s1 (JjC (fun H0' H' st=>(st.z.trans st.i).seqT h) r)⟩
  | _=>cases (show none=some ds from e)
theorem Jl8(i:Nat):SI K C false (JbK K (JaA i)) (iV i):=by
 intro B H0 H σ E ds R I e q;unfold iV at e;split at e
 ·next es h =>
  cases e;rcases I.at' i _ h with z|⟨v,h1,h2⟩
  ·cases z
  ·obtain⟨l,xs,rfl,hl,r⟩:=h2;refine .inl ⟨_,h1,l,rfl,⟨xs,.of (I.b _ _ hl)⟩,q _ _ _ (.refl I.h) (Vl (fun H0' H' st=>.of (st.b _ _ hl)) r)⟩
 ·next d h=>refine JkS (m:=false) (ea:=Jc i) (Jb i) B H0 H σ E ds R I ?_ q;show(Jc i E).bind _=_;unfold Jc;rw[h];exact e
 ·cases e
theorem JhV{lo:Int}{n i:Nat}{d:D}(e:(rng lo n)[i]?=some d):i<n/\d=.int (lo+(i:Int)):=by
 unfold rng at e;rw[QJ] at e
 cases h:(Gi n)[i]? with
 | none=>rw[h] at e;cases e
 | some j=>rw[h] at e;cases e;obtain⟨h1,h2⟩:=Qi.mp h;simp at h1 h2;subst h2;exact⟨h1,rfl⟩
theorem JjB{A H0:Hp}{lo:Int}{n:Nat}:Jgb K C A (Itr lo n) (rng lo n) H0:=by intro H0' H' st;refine⟨fun i d e=>?_,by show n<=_;simp[rng]⟩;obtain⟨h1,rfl⟩:=JhV e;refine⟨h1,fun x H2 ⟨e1,e2⟩=>?_⟩;subst e1 e2;exact⟨H0',.refl st.i,.int _⟩
theorem JcF{a:Int}(h:JeW a=true):-(2 ^ 62)<=a/\a<2 ^ 62:=by unfold JeW at h;rw[G7] at h;omega
theorem JiM{t:TA}{ev:En->Option (List Sl)}(ha:SA K C t ev):SI K C m (JiA t) (iR1 ev):=by
 intro B H0 H σ E ds R I e q;obtain⟨ss,e1,e⟩:=bind_some e;split at e
 ·split at e
  ·next hn =>
   cases e;refine ha B H0 H σ E _ _ I e1 fun vs H1 H1' s1 r1=>?_
   obtain⟨v,rfl,r⟩:=r1.one;rw[RD.intI r];exact⟨_,rfl,(JcF hn).1,(JcF hn).2,q _ _ _ s1 JjB⟩
  ·cases e
 ·cases e
end

noncomputable def yes?:En->Option Bool:=fun _=>some true
noncomputable def Vk(imp:List (Option Nat))(E:En):En:=imp.map fun o=>match o with
 | none=>.no
 | some k=>match E[k]? with
  | some (.own ds)=>.bo ds
  | some (.od ks ds)=>.bd ks ds
  | some (.ot ks ds)=>.bt ks ds
  | some s=>s
  | none=>.no
noncomputable def UC(p:Pt)(c:En->Option Bool)(a:Ev)(E1:En):List D->Option (List D)
 | []=>some []
 | d::ds=>(p.bind d E1).bind fun E2=>(c E2).bind fun k=>if k=true then(a E2).bind fun s=>s.frz.bind fun y=>(UC p c a E1 ds).bind fun ys=>some (y::ys) else UC p c a E1 ds
noncomputable def Zz(it:En->Option (List D))(p:Pt)(c:En->Option Bool)(a:Ev)(imp:List (Option Nat)):Ev:=fun E=>(it E).bind fun ds=>if ds.length<=Qk then(UC p c a (Vk imp E) ds).map .own else none
section
variable{K:Qn}{C:Qc}
theorem Jda:ST K C Jk2 yes?:=fun _ _ _ _ _ _ _ I e q=>by cases e;exact q _ _ (.refl I.h)
theorem Jgx{B H0 H:Hp}{σ:St}{E:En}{imp:List (Option Nat)}(I:EnvR K C B H0 H σ E):EnvR K C H H0 H (WB imp σ) (Vk imp E):=by
 have get:∀(i:Nat) (s:Sl),(Vk imp E)[i]?=some s->s=.no\/∃v,(WB imp σ)[i]?=some (some v)/\RSl K C H H0 H v s/\JK s=false:=fun i s e=>by
  unfold Vk at e;unfold WB;rw[QJ] at e ⊢
  cases h:imp[i]? with
  | none=>rw[h] at e;cases e
  | some o =>
   rw[h] at e
   cases o with
   | none=>cases e;exact .inl rfl
   | some k =>
    have e':(match E[k]? with|some (.own ds)=>Sl.bo ds|some (.od ks ds)=>Sl.bd ks ds|some (.ot ks ds)=>Sl.bt ks ds|some s=>s|none=>.no)=s:=QL e
    cases hE:E[k]? with
    | none=>rw[hE] at e';exact .inl e'.symm
    | some s' =>
     rw[hE] at e';rcases I.at' k s' hE with z|⟨v,h1,h2⟩
     ·subst z;exact .inl e'.symm
     ·have g:(σ[k]?).join=some v:=by rw[h1];rfl
      cases s' with
      | no=>exact .inl e'.symm
      | sh d=>dsimp only at e';subst e';exact .inr ⟨v,by show some ((σ[k]?).join)=_;rw[g],h2,rfl⟩
      | bo ds=>dsimp only at e';subst e';obtain⟨l,xs,q1,q2,q3⟩:=h2;exact .inr ⟨v,by show some ((σ[k]?).join)=_;rw[g],⟨l,xs,q1,I.b _ _ q2,q3⟩,rfl⟩
      | own ds=>dsimp only at e';subst e';obtain⟨l,xs,q1,q2,_,_,q3⟩:=h2;exact .inr ⟨v,by show some ((σ[k]?).join)=_;rw[g],⟨l,xs,q1,q2,q3⟩,rfl⟩
      | bd ks ds=>dsimp only at e';subst e';obtain⟨l,xs,q1,q2,q3⟩:=h2;exact .inr ⟨v,by show some ((σ[k]?).join)=_;rw[g],⟨l,xs,q1,I.b _ _ q2,q3⟩,rfl⟩
      | bt ks ds=>dsimp only at e';subst e';obtain⟨l,xs,q1,q2,q3⟩:=h2;exact .inr ⟨v,by show some ((σ[k]?).join)=_;rw[g],⟨l,xs,q1,I.b _ _ q2,q3⟩,rfl⟩
      | od ks ds=>dsimp only at e';subst e';obtain⟨l,xs,q1,q2,_,_,q3⟩:=h2;exact .inr ⟨v,by show some ((σ[k]?).join)=_;rw[g],⟨l,xs,q1,q2,q3⟩,rfl⟩
      | ot ks ds=>dsimp only at e';subst e';obtain⟨l,xs,q1,q2,_,_,q3⟩:=h2;exact .inr ⟨v,by show some ((σ[k]?).join)=_;rw[g],⟨l,xs,q1,q2,q3⟩,rfl⟩
 refine⟨Same.refl _,I.h,by simp[WB,Vk],fun i s e=>?_,fun i j s t v hij e1 e2 o1 o2=>?_⟩
 ·rcases get i s e with z|⟨v,h1,h2,_⟩
  ·exact .inl z
  ·exact .inr ⟨v,h1,h2⟩
 ·rcases get i _ e1 with z|⟨v,h1,h2,h3⟩
  ·subst z;cases o1
  ·rw[h3] at o1;cases o1
theorem Jaq{wi:TI}{g:TG}{tt:TT}{te:TE}{imp:List (Option Nat)}{it:En->Option (List D)}{p:Pt}{c:En->Option Bool}{a:Ev}(hi:SI K C true wi it)(hg:SG K C g p)(hc:ST K C tt c)(ha:SE K C te a)
 (hp:(p.slots.all fun i=>match imp[i]? with|some none=>true|_=>false)=true):SE K C (Jdj wi g tt te imp) (Zz it p c a imp):=by
 intro B H0 H σ E r Q I e q;obtain⟨ds,e1,e⟩:=bind_some e;split at e
 ·next hl =>
  obtain⟨es,e2,rfl⟩:=map_some e;refine hi B H0 H σ E ds _ I e1 fun J H1 H1' s1 ok=>?_
  rw[if_pos rfl] at ok;have I1:EnvR K C H1' H1 H1' (WB imp σ) (Vk imp E):=Jgx (I.step s1)
  -- the loop: what was gathered,what comes
  refine⟨fun i m ys σ' H'=>m=ds.length-i/\i<=ds.length/\∃H0' gs rs,EnvR K C H1' H0' H' σ' (Vk imp E)/\Step H1' H1 H1' H0' H'/\RDL K C H0' ys gs/\UC p c a (Vk imp E) (ds.drop i)=some rs/\es=gs++rs/\gs.length<=i,
   ⟨ds.length,by simp,G4 _,H1,[],es,I1,.refl s1.i,.nil,e2,rfl,Qq _⟩,?_⟩
  rintro i m ys σ' H' ⟨rfl,hi',H0',gs,rs,I',st,rys,er,ees,hgl⟩;have stop:=ok H0' H' ⟨st.h,st.z,st.n,st.i⟩
  by_cases hlt:i<ds.length
  ·have hd:ds[i]?=some ds[i]:=by simp[hlt]
   obtain⟨go,yl⟩:=stop.1 i _ hd;refine .inr ⟨go,by rw[rys.1];omega,fun ys' σ2 H2=>∃H02 gs rs,EnvR K C H1' H02 H2 σ2 (Vk imp E)/\Step H1' H1 H1' H02 H2/\RDL K C H02 ys' gs/\UC p c a (Vk imp E) (ds.drop (i+1))=some rs/\es=gs++rs/\gs.length<=i+1,
    fun ys' σ2 H2 h=>⟨ds.length-(i+1),by omega,rfl,hlt,h⟩,fun x H2 y=>?_⟩
   obtain⟨H02,st2,rx⟩:=yl x H2 y;rw[Kj hlt,UC] at er;obtain⟨E2,b1,er⟩:=bind_some er;obtain⟨k,b2,er⟩:=bind_some er;refine hg H1' H02 H2 σ' (Vk imp E) E2 x _ _ (I'.step st2) rx b1 fun σ2 I2=>?_
   have back:∀{H03 H3:Hp},EnvR K C H1' H03 H3 σ2 E2->EnvR K C H1' H03 H3 σ2 (Vk imp E):=fun {H03 H3} J=>by
    obtain⟨k1,k2⟩:=Pt.keep b1;refine J.sub k1.symm fun j s ej=>?_
    by_cases hj:j∈p.slots
    ·have:=QS.mp hp j hj
     have ej':=ej;unfold Vk at ej';rw[QJ] at ej'
     cases hm:imp[j]? with
     | none=>rw[hm] at this;cases this
     | some o =>
      rw[hm] at this ej'
      cases o with
      | none=>cases ej';exact .inl rfl
      | some _=>cases this
    ·exact .inr (by rw[k2 j hj];exact ej)
   refine hc H1' H02 H2 σ2 E2 k _ I2 b2 fun H03 H3 st3=>?_
   have st13:Step H1' H1 H1' H03 H3:=(st.trans st2).trans st3
   cases k with
   | false=>rw[if_neg (by simp)];rw[if_neg (by simp)] at er;exact⟨H03,gs,rs,back (I2.step st3),st13,rys.mono (st2.z.trans st3.z),er,ees,by omega⟩
   | true =>
    rw[if_pos rfl];rw[if_pos rfl] at er;obtain⟨s,b3,er⟩:=bind_some er;obtain⟨y',b4,er⟩:=bind_some er;obtain⟨ws,b5,er⟩:=bind_some er;cases er;refine ha H1' H03 H3 σ2 E2 s _ (I2.step st3) b3 fun v H04 H4 st4 r4=>?_
    have f:=JX (Hs:=H3) st4.i
    have st5:Step H3 H03 H3 (YO H3 H04 H4) H4:=st4.comp f fun _ z=>z
    exact⟨_,gs++[y'],ws,back ((I2.step st3).step st5),st13.trans st5,(rys.mono ((st2.z.trans st3.z).trans st5.z)).snoc (RR.frz st4.i r4 b4),b5,by rw[ees,G0];rfl,by rw[Qu];simp;exact hgl⟩
  ·have e3:i=ds.length:=by omega
   subst e3;refine .inl ⟨stop.2,by rw[rys.1];omega,fun p hp=>?_⟩;rw[Lp,UC] at er;cases er;rw[QY] at ees;subst ees;exact UV (Hs:=H) st.i (s1.h.trans st.h) hp rys fun v H2 H2' s2 r2=>q v H2 H2' ((s1.trans st).comp s2 fun _ z=>z) r2
 ·cases e
end
end LE

namespace LE
open PySem L2 LR

inductive Out where
 | nx (E:En)|rt (r:Sl)|bk (E:En)|ct (E:En)
noncomputable abbrev Es:=En->Option Out
section
variable(K:Qn)(C:Qc)
noncomputable def Fin(B H0:Hp)(D:Ends):Out->Prop
 | .nx E=>∀σ' H0' H',SStep B H0 H0' H'->EnvR K C B H0' H' σ' E->D.nx σ' H'
 | .bk E=>∀σ' H0' H',SStep B H0 H0' H'->EnvR K C B H0' H' σ' E->D.bk σ' H'
 | .ct E=>∀σ' H0' H',SStep B H0 H0' H'->EnvR K C B H0' H' σ' E->D.ct σ' H'
 | .rt r=>∀v H0' H',SStep B H0 H0' H'->RR K C B H0' H' v r->D.rt v H'
noncomputable def SS(ts:TS)(ev:Es):Prop:=∀(B H0 H:Hp) (σ:St) (E:En) (o:Out) (D:Ends),EnvR K C B H0 H σ E->ev E=some o->Fin K C B H0 D o->ts D σ H
end
noncomputable def JD:Es:=fun E=>some (.nx E)
noncomputable def JfO(b:Es):Out->Option Out
 | .nx E=>b E
 | .rt r=>some (.rt r)
 | .bk E=>some (.bk E)
 | .ct E=>some (.ct E)
noncomputable def Jn(a b:Es):Es:=fun E=>(a E).bind (JfO b)
noncomputable def xIf(c:En->Option Bool)(a b:Es):Es:=fun E=>(c E).bind fun k=>if k=true then a E else b E
noncomputable def keep?:Sl->Option Sl
 | .sh d=>some (.sh d)
 | .own ds=>some (.own ds)
 | .od ks ds=>some (.od ks ds)
 | .ot ks ds=>some (.ot ks ds)
 | _=>none
noncomputable def We(i:Nat)(a:Ev):Es:=fun E=>(a E).bind fun s=>(keep? s).bind fun s=>if i<E.length then some (.nx (E.set i s)) else none
noncomputable def Jo(i:Nat)(a:Ev):Es:=fun E=>(a E).bind fun s=>s.frz.bind fun d=>if i<E.length then some (.nx (E.set i (.sh d))) else none
noncomputable def VA(a:Ev):Es:=fun E=>(a E).map fun _=>.nx E
noncomputable def Yy(a:Ev):Es:=fun E=>(a E).bind fun s=>(keep? s).map .rt
noncomputable def JbB(i:Nat):Es:=fun E=>match E[i]? with
 | some (.sh d)=>some (.rt (.sh d))
 | some (.own ds)=>some (.rt (.own ds))
 | some (.od ks ds)=>some (.rt (.od ks ds))
 | _=>none
noncomputable def Yt:Es:=fun _=>none
noncomputable def Jeb(i:Nat)(a:Ev):Es:=fun E=>match E[i]? with
 | some (.own ds)=>(a E).bind fun s=>s.frz.bind fun d=>if ds.length<Qk then some (.nx (E.set i (.own (ds++[d])))) else none
 | _=>none
noncomputable def UU(i:Nat)(k a:Ev):Es:=fun E=>match E[i]? with
 | some (.own ds)=>(a E).bind fun s=>s.frz.bind fun d=>(k E).bind fun t=>match t with
  | .sh (.int z)=>(ixN ds.length z).map fun j=>.nx (E.set i (.own (ds.set j d)))
  | _=>none
 | _=>none
noncomputable def Jjr(i:Nat)(E:En):En:=match E[i]? with
 | some (.own ds)=>E.set i (.sh (.lst ds))
 | some (.od ks ds)=>E.set i (.sh (.dct ks ds))
 | _=>E
noncomputable def Y1(p:Pt)(b:Es):List D->Es
 | [],E=>some (.nx E)
 | d::ds,E=>(p.bind d E).bind fun E1=>(b E1).bind fun o=>match o with
  | .nx E2=>Y1 p b ds E2
  | .ct E2=>Y1 p b ds E2
  | .bk E2=>some (.nx E2)
  | .rt r=>some (.rt r)
noncomputable def Jip(it:En->Option (List D))(p:Pt)(b:Es):Es:=fun E=>(it E).bind fun ds=>Y1 p b ds E
section
variable{K:Qn}{C:Qc}{B H0 H H0' H':Hp}{σ:St}{E:En}{D:Ends}{o:Out}{te:TE}{ea:Ev}{t u:TS}{et eu:Es}
theorem Fin.step(st:SStep B H0 H0' H')(f:Fin K C B H0 D o):Fin K C B H0' D o:=by
 cases o with
 | nx E=>exact fun σ' H1 H1' s1 I=>f σ' H1 H1' (st.trans s1) I
 | bk E=>exact fun σ' H1 H1' s1 I=>f σ' H1 H1' (st.trans s1) I
 | ct E=>exact fun σ' H1 H1' s1 I=>f σ' H1 H1' (st.trans s1) I
 | rt r=>exact fun v H1 H1' s1 I=>f v H1 H1' (st.trans s1) I
theorem EnvR.ss(I:EnvR K C B H0 H σ E):SStep B H0 H0 H:=.refl I.b I.h
theorem JF:SS K C Jf1 JD:=fun _ _ _ _ _ _ _ I e f=>by cases e;exact f _ _ _ I.ss I
theorem Jq(ht:SS K C t et)(hu:SS K C u eu):SS K C (Jd6 t u) (Jn et eu):=by
 intro B H0 H σ E o D I e f;obtain⟨o1,e1,e⟩:=bind_some e;refine ht B H0 H σ E o1 _ I e1 ?_
 cases o1 with
 | nx E1=>exact fun σ1 H1 H1' s1 I1=>hu B H1 H1' σ1 E1 o D I1 e (f.step s1)
 | bk E1=>cases e;exact f
 | ct E1=>cases e;exact f
 | rt r=>cases e;exact f
theorem Yl{c:TT}{ec:En->Option Bool}(hc:ST K C c ec)(ht:SS K C t et)(hu:SS K C u eu):SS K C (Jih c t u) (xIf ec et eu):=by
 intro B H0 H σ E o D I e f;obtain⟨k,e1,e⟩:=bind_some e;refine hc B H0 H σ E k _ I e1 fun H1 H1' s1=>?_
 cases k with
 | true=>rw[if_pos rfl];exact ht B H1 H1' σ E o D (I.step s1) e (f.step (s1.ss I.b))
 | false=>rw[if_neg (by simp)];exact hu B H1 H1' σ E o D (I.step s1) e (f.step (s1.ss I.b))
theorem ZG{s r:Sl}(e:keep? s=some r):s=r/\JjA r=false:=by cases s <;> cases e <;> exact⟨rfl,rfl⟩
theorem Jdn{i:Nat}(ha:SE K C te ea):SS K C (Jaz te (UG i)) (We i ea):=by
 intro B H0 H σ E o D I e f;obtain⟨s,e1,e⟩:=bind_some e;obtain⟨s',e2,e⟩:=bind_some e;obtain⟨rfl,hb⟩:=ZG e2;split at e
 ·cases e;exact ha B H0 H σ E _ _ I e1 fun v H1 H1' s1 r1=>f _ _ _ (s1.ss I.b) (I.put' s1 (by assumption) r1 hb)
 ·cases e
theorem Ju{i:Nat}(ha:SE K C te ea):SS K C (Jaz te (UG i)) (Jo i ea):=by
 intro B H0 H σ E o D I e f;obtain⟨s,e1,e⟩:=bind_some e;obtain⟨d,e2,e⟩:=bind_some e;split at e
 ·cases e;refine ha B H0 H σ E _ _ I e1 fun v H1 H1' s1 r1=>?_
  have s2:Step H H0 H (YO H H1 H1') H1':=s1.comp (JX s1.i) fun _ z=>z
  exact f _ _ _ (s2.ss I.b) ((I.step s2).setSh (by assumption) (RR.frz s1.i r1 e2))
 ·cases e
theorem Jla(ha:SE K C te ea):SS K C (ZU te) (VA ea):=by intro B H0 H σ E o D I e f;obtain⟨s,e1,rfl⟩:=map_some e;exact ha B H0 H σ E _ _ I e1 fun v H1 H1' s1 r1=>f _ _ _ (s1.ss I.b) (I.step s1)
theorem Yk(ha:SE K C te ea):SS K C (Jf2 te) (Yy ea):=by intro B H0 H σ E o D I e f;obtain⟨s,e1,e⟩:=bind_some e;obtain⟨s',e2,rfl⟩:=map_some e;obtain⟨rfl,hb⟩:=ZG e2;exact ha B H0 H σ E _ _ I e1 fun v H1 H1' s1 r1=>f _ _ _ (s1.ss I.b) (r1.weak fun a z=>Same.free I.b z)
theorem Jf7{i:Nat}:SS K C (Jf2 (JaA i)) (JbB i):=by
 intro B H0 H σ E o D I e f;unfold JbB at e;split at e
 ·next d h =>
  cases e;rcases I.at' i _ h with z|⟨v,h1,h2⟩
  ·cases z
  ·exact⟨v,h1,f _ _ _ I.ss h2⟩
 ·next d h =>
  cases e;rcases I.at' i _ h with z|⟨v,h1,h2⟩
  ·cases z
  ·exact⟨v,h1,f _ _ _ I.ss h2⟩
 ·next d h =>
  cases e;rcases I.at' i _ h with z|⟨v,h1,h2⟩
  ·cases z
  ·exact⟨v,h1,f _ _ _ I.ss h2⟩
 ·cases e
theorem EnvR.mutG{i:Nat}{l:Qc}{t t':Sl}{o':HO}(I:EnvR K C B H0 H σ E)(e1:E[i]?=some t)(ho:JK t=true)(ho':JK t'=true)(e2:σ[i]?=some (some (.ref l)))(r:RSl K C B H0 (upd H l o') (.ref l) t') :
 EnvR K C B H0 (upd H l o') σ (E.set i t'):=by
 obtain⟨h1,h2,h3⟩:=I.ownG e1 ho e2;have hi:i<E.length:=(Qi.mp e1).1;have nb:∀{A:Hp},A l=none->Same A H->Same A (upd H l o'):=fun {A} n s a o e=>by rw[Jj (Jt e n)];exact s a o e
 refine⟨nb h3 I.b,nb h2 I.h,by simp[I.len],fun j s e=>?_,fun j k s1 s2 v hjk a1 a2 p1 p2 a3=>?_⟩
 ·rw[QM] at e
  by_cases hj:i=j
  ·subst hj;rw[if_pos rfl,if_pos hi] at e;cases e;exact .inr ⟨_,e2,r⟩
  ·rw[if_neg hj] at e;rcases I.at' j s e with z|⟨v,q1,q2⟩
   ·exact .inl z
   ·refine .inr ⟨v,q1,?_⟩
    cases s with
    | no=>trivial
    | sh d=>exact q2
    | bo es=>exact q2
    | bd ks es=>exact q2
    | bt ks es=>exact q2
    | own es =>
     obtain⟨l',ys,p1,p2,p3,p4,p5⟩:=q2;subst p1;have:l'≠l:=fun z=>by subst z;exact I.sep i j t _ (.ref l') hj e1 e ho rfl e2 q1
     exact⟨l',ys,rfl,by rw[Jj this];exact p2,p3,p4,p5⟩
    | od ks es =>
     obtain⟨l',ys,p1,p2,p3,p4,p5⟩:=q2;subst p1;have:l'≠l:=fun z=>by subst z;exact I.sep i j t _ (.ref l') hj e1 e ho rfl e2 q1
     exact⟨l',ys,rfl,by rw[Jj this];exact p2,p3,p4,p5⟩
    | ot ks es =>
     obtain⟨l',ys,p1,p2,p3,p4,p5⟩:=q2;subst p1;have:l'≠l:=fun z=>by subst z;exact I.sep i j t _ (.ref l') hj e1 e ho rfl e2 q1
     exact⟨l',ys,rfl,by rw[Jj this];exact p2,p3,p4,p5⟩
 ·have own:∀{j:Nat} {u:Sl},(E.set i t')[j]?=some u->JK u=true->∃g,E[j]?=some g/\JK g=true:=fun {j u} a w=>by
   rw[QM] at a
   by_cases hj:i=j
   ·subst hj;exact⟨t,e1,ho⟩
   ·rw[if_neg hj] at a;exact⟨_,a,w⟩
  obtain⟨g1,b1,c1⟩:=own a1 p1;obtain⟨g2,b2,c2⟩:=own a2 p2;exact I.sep j k g1 g2 v hjk b1 b2 c1 c2 a3
theorem EnvR.mut{i:Nat}{l:Qc}{ds ds':List LE.D}{xs xs':List V}(I:EnvR K C B H0 H σ E)(e1:E[i]?=some (.own ds))(e2:σ[i]?=some (some (.ref l)))(r:RDL K C H0 xs' ds') :
 EnvR K C B H0 (upd H l (.lst xs')) σ (E.set i (.own ds')):=by
 obtain⟨_,h2,h3⟩:=I.ownG e1 rfl e2;exact I.mutG (t':=.own ds') e1 rfl rfl e2 ⟨l,xs',rfl,JE,h2,h3,r⟩
theorem EnvR.slot{i:Nat}{ds:List LE.D}(I:EnvR K C B H0 H σ E)(e1:E[i]?=some (.own ds)):∃l xs,σ[i]?=some (some (.ref l))/\H l=some (.lst xs)/\H0 l=none/\B l=none/\RDL K C H0 xs ds:=by
 rcases I.at' i _ e1 with z|⟨v,h1,l,xs,rfl,h2,h3,h4,h5⟩
 ·cases z
 ·exact⟨l,xs,h1,h2,h3,h4,h5⟩
theorem JiV{i:Nat}(ha:SE K C te ea):SS K C (ZU (tBM K "list" Jc2 (JaA i) (Y0 te Zo))) (Jeb i ea):=by
 intro B H0 H σ E o D I e f;unfold Jeb at e;split at e
 ·next ds h =>
  obtain⟨s,e1,e⟩:=bind_some e;obtain⟨d,e2,e⟩:=bind_some e;split at e
  ·next hz =>
   cases e;obtain⟨l,xs,g1,g2,g3,g4,g5⟩:=I.slot h;refine⟨_,g1,.inl ⟨rfl,_,.of g2⟩,?_⟩;refine ha B H0 H σ E _ _ I e1 fun v H1 H1' s1 r1=>?_
   have s2:Step H H0 H (YO H H1 H1') H1':=s1.comp (JX s1.i) fun _ z=>z
   have I2:=I.step s2
   have m:=I2.mut (xs:=xs) h g1 ((g5.mono s2.z).snoc (RR.frz s1.i r1 e2));exact⟨l,xs,v,rfl,rfl,s2.h _ _ g2,by rw[g5.1];exact hz,f _ _ _ ⟨m.b,s2.z,(s2.ss I.b).n,m.h⟩ m⟩
  ·cases e
 ·cases e
theorem JaG{i:Nat}{ti:TE}{ei:Ev}(ha:SE K C te ea)(hi:SE K C ti ei):SS K C (Jaz te (Jjt (JaA i) ti JiJ)) (UU i ei ea):=by
 intro B H0 H σ E o D I e f;unfold UU at e;split at e
 ·next ds h =>
  obtain⟨s,e1,e⟩:=bind_some e;obtain⟨d,e2,e⟩:=bind_some e;obtain⟨k,e3,e⟩:=bind_some e;split at e
  ·next z =>
   obtain⟨j,e4,rfl⟩:=map_some e;obtain⟨l,xs,g1,g2,g3,g4,g5⟩:=I.slot h;refine ha B H0 H σ E _ _ I e1 fun v H1 H1' s1 r1=>?_
   have s2:Step H H0 H (YO H H1 H1') H1':=s1.comp (JX s1.i) fun _ z=>z
   have rv:=RR.frz s1.i r1 e2;refine⟨_,g1,?_⟩;refine hi B _ H1' σ E _ _ (I.step s2) e3 fun w H3 H3' s3 r3=>?_
   have s4:=s2.trans s3
   have m:=(I.step s4).mut (xs:=xs) h g1 ((g5.mono s4.z).set j (rv.mono s3.z));rw[RD.intI r3];exact⟨l,xs,z,j,rfl,rfl,s4.h _ _ g2,by rw[g5.1];exact e4,f _ _ _ ⟨m.b,s4.z,(s4.ss I.b).n,m.h⟩ m⟩
  ·cases e
 ·cases e
theorem EnvR.slotD{i:Nat}{ks:List Int}{ds:List LE.D}(I:EnvR K C B H0 H σ E)(e1:E[i]?=some (.od ks ds)):∃l xs,σ[i]?=some (some (.ref l))/\H l=some (dkO ks xs)/\H0 l=none/\B l=none/\ks.length=ds.length/\RDL K C H0 xs ds:=by
 rcases I.at' i _ e1 with z|⟨v,h1,l,xs,rfl,h2,h3,h4,h5⟩
 ·cases z
 ·exact⟨l,xs,h1,h2,h3,h4,h5⟩
theorem EnvR.frzG(I:EnvR K C B H0 H σ E){i:Nat}{t:Sl}{l:Qc}{o:HO}{d:LE.D}(h:E[i]?=some t)(ho:JK t=true)(g1:σ[i]?=some (some (.ref l)))(g2:H l=some o)(g5:∀H1,Same H0 H1->H1 l=some o->RD K C H1 (.ref l) d):∃H0',SStep B H0 H0' H/\EnvR K C B H0' H σ (E.set i (.sh d)):=by
 obtain⟨_,g3,g4⟩:=I.ownG h ho g1;have hi:i<E.length:=(Qi.mp h).1;have s0:Same H0 (upd H0 l o):=.new g3
 have s1:Same (upd H0 l o) H:=fun a o e=>by
  by_cases ha:a=l
  ·subst ha;rw[JE] at e;cases e;exact g2
  ·rw[Jj ha] at e;exact I.h a o e
 refine⟨upd H0 l o,⟨I.b,s0,fun a o e=>?_,s1⟩,I.b,s1,by simp[I.len],fun j s e=>?_,fun j k u1 u2 v hjk a1 a2 w1 w2 a3=>?_⟩
 ·by_cases ha:a=l
  ·subst ha;exact .inr (.inl g4)
  ·rw[Jj ha] at e;exact .inl e
 ·rw[QM] at e
  by_cases hj:i=j
  ·subst hj;rw[if_pos rfl,if_pos hi] at e;cases e;exact .inr ⟨_,g1,g5 _ s0 JE⟩
  ·rw[if_neg hj] at e;rcases I.at' j s e with z|⟨v,q1,q2⟩
   ·exact .inl z
   ·refine .inr ⟨v,q1,?_⟩
    cases s with
    | no=>trivial
    | sh d=>exact RD.mono s0 q2
    | bo es=>obtain⟨l',ys,p1,p2,p3⟩:=q2;exact⟨l',ys,p1,p2,p3.mono s0⟩
    | bd ks es=>obtain⟨l',ys,p1,p2,hk,p3⟩:=q2;exact⟨l',ys,p1,p2,hk,p3.mono s0⟩
    | bt ks es=>obtain⟨l',ys,p1,p2,hk,p3⟩:=q2;exact⟨l',ys,p1,p2,hk,p3.mono s0⟩
    | own es =>
     obtain⟨l',ys,p1,p2,p3,p4,p5⟩:=q2;subst p1;have:l'≠l:=fun z=>by subst z;exact I.sep i j t _ (.ref l') hj h e ho rfl g1 q1
     exact⟨l',ys,rfl,p2,by rw[Jj this];exact p3,p4,p5.mono s0⟩
    | od ks es =>
     obtain⟨l',ys,p1,p2,p3,p4,hk,p5⟩:=q2;subst p1;have:l'≠l:=fun z=>by subst z;exact I.sep i j t _ (.ref l') hj h e ho rfl g1 q1
     exact⟨l',ys,rfl,p2,by rw[Jj this];exact p3,p4,hk,p5.mono s0⟩
    | ot ks es =>
     obtain⟨l',ys,p1,p2,p3,p4,hk,p5⟩:=q2;subst p1;have:l'≠l:=fun z=>by subst z;exact I.sep i j t _ (.ref l') hj h e ho rfl g1 q1
     exact⟨l',ys,rfl,p2,by rw[Jj this];exact p3,p4,hk,p5.mono s0⟩
 ·have own:∀{j:Nat} {u:Sl},(E.set i (.sh d))[j]?=some u->JK u=true->E[j]?=some u:=fun {j u} a w=>by
   rw[QM] at a
   by_cases hj:i=j
   ·subst hj;rw[if_pos rfl,if_pos hi] at a;cases a;cases w
   ·rw[if_neg hj] at a;exact a
  exact I.sep j k u1 u2 v hjk (own a1 w1) (own a2 w2) w1 w2 a3
theorem EnvR.frz(I:EnvR K C B H0 H σ E)(i:Nat):∃H0',SStep B H0 H0' H/\EnvR K C B H0' H σ (Jjr i E):=by
 unfold Jjr;split
 ·next ds h=>obtain⟨l,xs,g1,g2,g3,g4,g5⟩:=I.slot h;exact I.frzG h rfl g1 g2 fun H1 s0 hl=>.mkL hl (g5.mono s0)
 ·next ks ds h=>obtain⟨l,xs,g1,g2,g3,g4,hk,g5⟩:=I.slotD h;exact I.frzG h rfl g1 g2 fun H1 s0 hl=>.mkD hl hk (g5.mono s0)
 ·exact⟨H0,I.ss,I⟩
theorem JiW{wi:TI}{g:TG}{it:En->Option (List LE.D)}{p:Pt}(hi:SI K C false wi it)(hg:SG K C g p)(ht:SS K C t et):SS K C (Jig wi g t) (Jip it p et):=by
 intro B H0 H σ E o D I e f;obtain⟨ds,e1,e⟩:=bind_some e;refine hi B H0 H σ E ds _ I e1 fun J H1 H1' s1 ok=>?_
 rw[if_neg (by simp)] at ok;refine⟨fun i m σ' H'=>m=ds.length-i/\i<=ds.length/\∃H0' E',EnvR K C B H0' H' σ' E'/\SStep B H1 H0' H'/\Y1 p et (ds.drop i) E'=some o,
  ⟨ds.length,by simp,G4 _,H1,E,I.step s1,.refl (I.b.trans s1.h) s1.i,e⟩,?_⟩
 rintro i m σ' H' ⟨rfl,hi',H0',E',I',st,er⟩;have stop:=ok H0' H' st;have f':Fin K C B H0' D o:=(f.step (s1.ss I.b)).step st
 by_cases hlt:i<ds.length
 ·have hd:ds[i]?=some ds[i]:=by simp[hlt]
  obtain⟨go,yl⟩:=stop.1 i _ hd;refine .inr ⟨go,fun σ2 H2=>∃H02 E2,EnvR K C B H02 H2 σ2 E2/\SStep B H1 H02 H2/\Y1 p et (ds.drop (i+1)) E2=some o,fun σ2 H2 h=>⟨ds.length-(i+1),by omega,rfl,hlt,h⟩,fun x H2 y=>?_⟩;obtain⟨H02,st2,rx⟩:=yl x H2 y;rw[Kj hlt,Y1] at er;obtain⟨E1,b1,er⟩:=bind_some er;obtain⟨o1,b2,er⟩:=bind_some er;have ss2:SStep B H0' H02 H2:=st2.ss I'.b;refine hg B H02 H2 σ' E' E1 x _ _ (I'.step st2) rx b1 fun σ2 I2=>?_
  refine ht B H02 H2 σ2 E1 o1 _ I2 b2 ?_
  cases o1 with
  | nx E2=>exact fun σ3 H3 H3' s3 I3=>⟨H3,E2,I3,(st.trans ss2).trans s3,er⟩
  | ct E2=>exact fun σ3 H3 H3' s3 I3=>⟨H3,E2,I3,(st.trans ss2).trans s3,er⟩
  | bk E2=>cases er;exact f'.step ss2
  | rt r=>cases er;exact f'.step ss2
 ·have e3:i=ds.length:=by omega
  subst e3;rw[Lp,Y1] at er;cases er;exact .inl ⟨stop.2,f' _ _ _ I'.ss I'⟩
end

noncomputable def Zh:Out->Option Sl
 | .nx _=>some (.sh .non)
 | .rt r=>some r
 | .bk _=>none
 | .ct _=>none
noncomputable def Uf(N:Nat)(b:Es):List Sl->Option Sl:=fun as=>(b (as++QK (N-as.length) .no)).bind Zh
section
variable{K:Qn}{C:Qc}
theorem RRL.get{Hs H0 H:Hp}:∀{vs:List V} {ss:List Sl} {i:Nat} {s:Sl},RRL K C Hs H0 H vs ss->ss[i]?=some s->∃v,vs[i]?=some v/\RR K C Hs H0 H v s
 | _,_,_,_,.nil,e=>by simp at e
 | _,_,0,_,.cons h _,e=>by simp at e;subst e;exact⟨_,rfl,h⟩
 | _,_,i+1,s,.cons _ t,e=>by obtain⟨v,h1,h2⟩:=RRL.get (i:=i) (s:=s) t (by simpa using e);exact⟨v,by simpa using h1,h2⟩
theorem Z7{N:List Str}{n:Nat}{b:Es}{ts:TS}{vs:List V}{H:Hp}{Q:VK}{E:XK}(hb:SS K C ts b)(h:spE K C n (Uf N.length b) vs H Q E):ts { nx:=fun _ H'=>Q .non H',rt:=Q } (L2.Yr N vs) H:=by
 obtain⟨H0,as,r,i,ra,ho,hl,e,q⟩:=h;have lens:=ra.len
 have noOwn:∀(j:Nat) (s:Sl),as[j]?=some s->JK s=false:=fun j s e=>by
  have:=QS.mp ho s (QQ e)
  simpa using this
 have get:∀(j:Nat) (s:Sl),(as++QK (N.length-as.length) Sl.no)[j]?=some s->s=.no\/as[j]?=some s:=fun j s e=>by
  by_cases hj:j<as.length
  ·rw[QA hj] at e;exact .inr e
  ·rw[QN (by omega),GJ] at e;split at e
   ·cases e;exact .inl rfl
   ·cases e
 have I:EnvR K C H H0 H (L2.Yr N vs) (as++QK (N.length-as.length) .no):=by
  refine⟨Same.refl _,i,by simp[L2.Yr,lens],fun j s e=>?_,fun j k s1 s2 v hjk e1 e2 w1 w2=>?_⟩
  ·rcases get j s e with z|z
   ·exact .inl z
   ·obtain⟨v,h1,h2⟩:=ra.get z;refine .inr ⟨v,?_,?_⟩
    ·unfold L2.Yr;rw[QA (by have:=(Qi.mp h1).1;simpa using this),QJ,h1];rfl
    ·cases s with
     | no=>trivial
     | sh d=>exact h2
     | bo ds=>exact h2
     | own ds=>exact absurd (noOwn j _ z) (by simp[JK])
     | bd ks ds=>exact h2
     | bt ks ds=>exact h2
     | od ks ds=>exact absurd (noOwn j _ z) (by simp[JK])
     | ot ks ds=>exact absurd (noOwn j _ z) (by simp[JK])
  ·rcases get j _ e1 with z|z
   ·subst z;cases w1
   ·rw[noOwn j _ z] at w1;cases w1
 obtain⟨o,e1,e⟩:=bind_some e;refine hb H H0 H _ _ o _ I e1 ?_
 cases o with
 | nx E1=>cases e;exact fun σ' H1 H1' s1 I1=>q _ H1 H1' ⟨s1.b,s1.z,s1.n,s1.i⟩ RD.non
 | rt r'=>cases e;exact fun v H1 H1' s1 r1=>q v H1 H1' ⟨s1.b,s1.z,s1.n,s1.i⟩ r1
 | bk _=>cases e
 | ct _=>cases e
theorem Jg6{P:Qo}{w:QC}{mg:Str->Option Qa}{base:QI}{k:Nat}{f:Qc}{fd:QE}{ps:List Str}{ev:List Sl->Option Sl}(F:FnOk P w K mg base CX0 k f fd ps (spE K C 1 ev))
 (h:∀ns:List Int,ns.length<=63->ev [.sh (.fz (ns.map .int))]=some (.sh (.bl true))):FnOk P w K mg base CX0 k f fd ps (Jdg K) :=
 F.imp fun vs H Q E ⟨a,ns,e,hS,hl,q⟩=>by subst e;exact⟨H,[.sh (.fz (ns.map .int))],_,Same.refl _,.cons (show RD K C H _ _ from RD.mkF hS (RDL.ofInts ns)) .nil,rfl,rfl,h ns hl,fun v H0' H' _ r=>by rw[RD.blI r];exact q H'⟩
structure RowK (K:Qn) (C:Qc):Prop where
 t:RowC K C
 k1:findIn K (.ref C) "__class__"=some (some (.builtin "object.__class__"))
 k2:specialIn K (.builtin "object.__class__") "__get__"=some (some (.builtin "getset_descriptor.__get__"))
 k3:takesIn K (.builtin "object.__class__")=some true
 k4:mroIn K C (.type "object")=some true
end
end LE

namespace L2
open PySem PySem.Spec PyProof.Rows
end L2
namespace LE
open PySem L2 LR
noncomputable def Jjv(a:Int):Bool:=LC a.natAbs 1152921504606846975
theorem in60_ok{a:Int}:Jjv a=true↔-1152921504606846976<a/\a<1152921504606846976:=by unfold Jjv;rw[G7];omega
section
variable{K:Qn}{C:Qc}{m:Bool}
noncomputable def JeI:List Sl->Option Sl
 | [.sh (.int i)]=>if i.natAbs.log2<1920 then some (.sh (.str (strI i))) else none
 | _=>none
theorem Jiw:V1 K C Jkm JeI:=by
 intro Hs H0 H xs as c Q i hs r e q;unfold JeI at e;split at e
 ·split at e
  ·next hl=>cases e;obtain⟨v,rfl,r0⟩:=r.one;rw[RD.intI r0];exact JkK hl (q _ _ _ (.refl i) (RD.str _))
  ·cases e
 ·cases e
noncomputable def MtS(K:Qn)(C:Qc)(rm:V->List V->Hp->VK->Prop)(f:Str->List Sl->Option Sl):Prop:=∀(Hs H0 H:Hp) (z:Str) (xs:List V) (as:List Sl) (c:Sl) (Q:VK),Same H0 H->Same Hs H->RRL K C Hs H0 H xs as->f z as=some c ->
 (∀v H0' H',Step Hs H0 H H0' H'->RR K C Hs H0' H' v c->Q v H')->rm (.str z) xs H Q
noncomputable def str?:Sl->Option Str
 | .sh (.str z)=>some z
 | _=>none
noncomputable def eM(f:Str->List Sl->Option Sl)(o:Ev)(as:En->Option (List Sl)):Ev:=fun E=>(o E).bind fun a=>(str? a).bind fun z=>(as E).bind fun xs=>f z xs
theorem W5{s:Sl}{z:Str}(e:str? s=some z):s=.sh (.str z):=by
 cases s with
 | sh d=>cases d with
  | str x=>cases e;rfl
  | _=>cases e
 | _=>cases e
theorem Jap{rm:V->List V->Hp->VK->Prop}{f:Str->List Sl->Option Sl}{to:TE}{eo:Ev}{t:TA}{ev:En->Option (List Sl)}(hm:MtS K C rm f)(ho:SE K C to eo)(ha:SA K C t ev):SE K C (tBM K "str" rm to t) (eM f eo ev):=by
 intro B H0 H σ E c Q I e q;obtain⟨a,e1,e⟩:=bind_some e;obtain⟨z,e2,e0⟩:=bind_some e;obtain⟨as,e3,e4⟩:=bind_some e0;obtain rfl:=W5 e2;refine ho B H0 H σ E _ _ I e1 fun x H1 H1' s1 r1=>?_
 rw[RD.strI r1];refine⟨rfl,ha B H1 H1' σ E as _ (I.step s1) e3 fun xs H2 H2' s2 r2=>?_⟩;exact hm H H2 H2' z xs as c Q s2.i (s1.h.trans s2.h) (r2.weak fun a q=>Same.free s1.h q) e4 fun v H3 H3' s3 r3=>q v H3 H3' ((s1.trans s2).comp s3 fun _ z=>z) r3
noncomputable def U4(z:Str):List Sl->Option Sl
 | [s]=>s.r.bind fun ds=>(strs? ds).bind fun ys=>if (ys.map (·.length)).sum+ys.length*z.length<=16777216 then some (.sh (.str (Gh z ys))) else none
 | _=>none
theorem Je9:MtS K C (Jc5 K) U4:=by
 intro Hs H0 H z xs as c Q i hs r e q;unfold U4 at e;split at e
 ·obtain⟨ds,e1,e⟩:=bind_some e;obtain⟨ys,e2,e⟩:=bind_some e;split at e
  ·next hl=>cases e;obtain⟨v,rfl,r0⟩:=r.one;obtain⟨l,us,rfl,h,r1⟩:=r0.r i e1;rw[ZT e2] at r1;have:=r1.strs;subst this;exact JhK h hl (q _ _ _ (.refl i) (RD.str _))
  ·cases e
 ·cases e
end
end LE

namespace LE
open PySem L2 LR
noncomputable def okS(P:En->Prop):Option Out->Prop
 | some (.nx E)=>P E
 | some (.ct E)=>P E
 | _=>False
theorem JjY{P:En->Prop}{E:En}:okS P (some (.nx E))=P E:=rfl
theorem JjX{P:En->Prop}{E:En}:okS P (some (.ct E))=P E:=rfl
theorem Ja9{P:En->Prop}{o:Option Out}(h:okS P o):∃E,(o=some (.nx E)\/o=some (.ct E))/\P E:=by
 unfold okS at h;split at h
 ·exact⟨_,.inl rfl,h⟩
 ·exact⟨_,.inr rfl,h⟩
 ·exact h.elim
theorem Ja2{γ α β:Type}{p:Pt}{b:Es}{f:α->D}{k:Out->Option γ}{r:Option γ}(R:List α->β->En->Prop)(g:β->α->β):∀{as:List α} {E:En} (s:β) (h0:R as s E)
 (h:∀a as s E,R (a::as) s E->okS (R as (g s a)) ((p.bind (f a) E).bind b)) (fin:∀E',R [] (as.foldl g s) E'->k (.nx E')=r),(Y1 p b (as.map f) E).bind k=r
 | [],E,s,h0,_,fin=>fin E h0
 | a::as,E,s,h0,h,fin=>by
  obtain⟨E2,e2,r2⟩:=Ja9 (h a as s E h0);have ih:=Ja2 (k:=k) (r:=r) R g (as:=as) (E:=E2) (g s a) r2 h fin;rw[Qr,Y1]
  cases hp:p.bind (f a) E with
  | none=>rw[hp] at e2;rcases e2 with e2|e2 <;> cases e2
  | some E1=>rw[hp,QF] at e2;rw[QF];rcases e2 with e2|e2 <;> (rw[e2,QF];exact ih)
theorem Je8{γ:Type}{p:Pt}{b:Es}{f:Nat->D}{n:Nat}{E:En}{k:Out->Option γ}{r:Option γ}(R:Nat->En->Prop)(h0:R 0 E)
 (h:∀i E,i<n->R i E->okS (R (i+1)) ((p.bind (f i) E).bind b)) (fin:∀E',R n E'->k (.nx E')=r):(Y1 p b ((Gi n).map f) E).bind k=r:=by
 refine Ja2 (fun(as:List Nat) (i:Nat) E=>i+as.length=n/\as=List.range' i as.length/\R i E) (fun i _=>i+1) 0 ⟨by simp,by simp[List.range_eq_range'],h0⟩ (fun a as i E ⟨hk,e,q⟩=>?_) fun E' ⟨hk,_,q⟩=>?_
 ·rw[Qh,List.range'_succ] at e;have e1:a=i:=(List.cons.inj e).1;subst e1;obtain⟨E2,e2,r2⟩:=Ja9 (h a E (by rw[Qh] at hk;omega) q);have fin2:(a+1)+as.length=n/\as=List.range' (a+1) as.length/\R (a+1) E2:=⟨by rw[Qh] at hk;omega,(List.cons.inj e).2,r2⟩
  rcases e2 with e2|e2 <;> (rw[e2];exact fin2)
 ·have e3:(Gi n).foldl (fun i _=>i+1) 0=n:=by simpa using hk
  rw[e3] at q;exact fin E' q
theorem UE{α:Type}{p:Pt}{a:Ev}{E1:En}{f g:α->D}:∀{xs:List α},(∀x∈xs,((p.bind (f x) E1).bind a).bind Sl.frz=some (g x))->UC p yes? a E1 (xs.map f)=some (xs.map g)
 | [],_=>rfl
 | x::xs,h=>by have h1:=h x Qy;obtain⟨s,e1,e2⟩:=bind_some h1;obtain⟨E2,e3,e4⟩:=bind_some e1;rw[Qr,UC,e3];simp only[QF,yes?,if_true,e4,e2];rw[UE fun y hy=>h y (Qp _ hy)];rfl
theorem Jmy(n:Nat):rng 0 n=(Gi n).map fun i=>.int (i:Int):=by unfold rng;exact Kn fun i _=>by rw[Int.zero_add]
theorem Jh9:Qk=16777216:=rfl
theorem Yw{α β:Type}(f:α->β)(xs:List α)(i:Int):atI (xs.map f) i=(atI xs i).map f:=by
 unfold atI;rw[QB]
 cases ixN xs.length i with
 | none=>rfl
 | some j=>simp
theorem Ub{α:Type}{xs:List α}{k:Nat}(h:k<xs.length):atI xs (k:Int)=some xs[k]:=by unfold atI ixN;rw[if_pos (by omega),if_pos (by omega)];simp[h]
theorem JaH{ns:List Int}{k:Int}(h0:0<=k)(h:k<(ns.length:Int)):atI ns k=some (cell ns k):=by
 obtain⟨j,rfl⟩:=Int.eq_ofNat_of_zero_le h0;have hj:j<ns.length:=by omega
 rw[Ub hj];simp[cell,hj]
theorem JaI{l:List Int}{k:Int}(h0:0<=k)(h1:k<(l.length:Int)):atI (l.map D.int) k=some (.int (JbX l k)):=by rw[Yw,JaH h0 h1];rfl
structure Kd {α:Type} (f:α->D) (n:Nat):Prop where
 lay:∀a,(f a).py.canLay0=true
 dep:∀a,(f a).py.depth<=n
 eqv:∀a b,KL (f a).py (f b).py=true↔a=b
theorem Kd.eq{α:Type}[DecidableEq α]{f:α->D}{n:Nat}(k:Kd f n)(h:n<=60)(a b:α):eqD (f a) (f b)=some (decide (a=b)):=by unfold eqD;have:=k.dep a;rw[k.lay a,k.lay b,if_pos (by simp;omega)];congr 1;rw[Gf,k.eqv];simp
theorem JjF:Kd D.int 1:=⟨fun _=>rfl,fun _=>by simp[D.py,LD],fun a b=>by show(a == b)=true↔_;simp⟩
theorem VG{α:Type}{f:α->D}{n:Nat}(k:Kd f n):(∀xs:List α,GZ (D.pyL (xs.map f))=true)/\(∀xs:List α,KQ (D.pyL (xs.map f))<=n)/\∀xs ys:List α,Kr (D.pyL (xs.map f)) (D.pyL (ys.map f))=true↔xs=ys:=by
 refine⟨fun xs=>?_,fun xs=>?_,fun xs=>?_⟩
 ·induction xs with
  | nil=>rfl
  | cons x xs ih=>show(PyData.canLay0 _ && GZ _)=true;rw[k.lay,ih];rfl
 ·induction xs with
  | nil=>simp[D.pyL,KQ]
  | cons x xs ih=>have:=k.dep x;simp only[Qr,D.pyL,KQ];omega
 ·induction xs with
  | nil=>intro ys;cases ys with
   | nil=>simp[D.pyL,Kr]
   | cons y ys=>simp[D.pyL,Kr]
  | cons x xs ih=>intro ys;cases ys with
   | nil=>simp[D.pyL,Kr]
   | cons y ys=>simp only[Qr,D.pyL,Kr,Qz,k.eqv,ih,List.cons.injEq]
theorem Je2{α:Type}{f:α->D}{n:Nat}(k:Kd f n):Kd (fun xs:List α=>D.lst (xs.map f)) (n+1) :=
 ⟨fun xs=>(VG k).1 xs,fun xs=>by have:=(VG k).2.1 xs;simp only[D.py,LD];omega,fun xs ys=>by simp only[D.py,KL];exact(VG k).2.2 xs ys⟩
theorem JjG{α:Type}{f:α->D}{n:Nat}(k:Kd f n):Kd (fun xs:List α=>D.tup (xs.map f)) (n+1) :=
 ⟨fun xs=>(VG k).1 xs,fun xs=>by have:=(VG k).2.1 xs;simp only[D.py,LD];omega,fun xs ys=>by simp only[D.py,KL];exact(VG k).2.2 xs ys⟩
theorem kd_pr:Kd prE 2:=⟨fun _=>rfl,fun _=>by simp[prE,D.py,D.pyL,LD,KQ],fun a b=>by obtain⟨a1,a2⟩:=a;obtain⟨b1,b2⟩:=b;simp[prE,D.py,D.pyL,KL,Kr]⟩
theorem Jjg(a b:Pr):eqD (prE a) (prE b)=some (decide (a=b)):=kd_pr.eq (by decide) a b
theorem Jgy(a b:List Pr):eqD (.lst (a.map prE)) (.lst (b.map prE))=some (decide (a=b)):=(Je2 kd_pr).eq (by decide) a b
theorem Jgz(a b:List Pr):eqD (.tup (a.map prE)) (.tup (b.map prE))=some (decide (a=b)):=(JjG kd_pr).eq (by decide) a b
theorem Jew(a b:List Int):eqD (.lst (a.map .int)) (.lst (b.map .int))=some (decide (a=b)):=(Je2 JjF).eq (by decide) a b
theorem JgU{s:Sl}{ps:List Pr}(e:s.q=some (ps.map prE))(g:Good ps)(h:ps.length<=30):JeH [s]=some (.sh (.row (ps.map prE))):=by show(s.q.bind _)=_;rw[e,QF,VY,QF,Wz g,if_pos (by simp[h])]
section
variable{a b:Int}{xs ys:List D}{d:D}{x y:Str}{E:En}{B:Es}{r:Sl}
theorem U0:JfO B (.nx E)=B E:=rfl
theorem Jh4:JfO B (.rt r)=some (.rt r):=rfl
theorem Jh2:JfO B (.bk E)=some (.bk E):=rfl
theorem Jh3:JfO B (.ct E)=some (.ct E):=rfl
theorem Jgv:Zh (.nx E)=some (.sh .non):=rfl
theorem Jgw:Zh (.rt r)=some r:=rfl
theorem Jlw{g:Int->Int->D}:fI g (.sh (.int a)) (.sh (.int b))=some (.sh (g a b)):=rfl
theorem JgR(h:(-18446744073709551616<a/\a<18446744073709551616)\/(-18446744073709551616<b/\b<18446744073709551616)):JaT (.sh (.int a)) (.sh (.int b))=some (.sh (.int (a*b))):=by show(if _ then _ else _)=_;rw[if_pos];simp only[Ky,Ut];exact h
theorem JgQ(h:0<b):J9 (.sh (.int a)) (.sh (.int b))=some (.sh (.int (a % b))):=by show(if _ then _ else _)=_;rw[if_pos (by simpa using h)]
theorem JgO(h:0<b/\b<1073741824):Ue (.sh (.int a)) (.sh (.int b))=some (.sh (.int (a / b))):=by show(if _ then _ else _)=_;rw[if_pos (smallP_ok.mpr h)]
theorem JgT(h:0<=b/\b<=1000000/\-1000<a/\a<1000):JaU (.sh (.int a)) (.sh (.int b))=some (.sh (.int (a ^ b.toNat))):=by show(if _ then _ else _)=_;rw[if_pos];simp only[Qz,decide_eq_true_eq,G7,Ut];omega
theorem JgS:Zi (.sh (.int a))=some (.sh (.int (-a))):=rfl
theorem JgG:JJ (.sh (.int a)) (.sh (.int b))=some (.sh (.int (a+b))):=rfl
theorem Wg(h:x.length+y.length<=16777216):JJ (.sh (.str x)) (.sh (.str y))=some (.sh (.str (x++y))):=if_pos h
theorem Y7{p q:Sl}(h1:p.m=some xs)(h2:q.m=some ys)(h:xs.length+ys.length<=16777216):Jdz p q=some (.own (xs++ys)):=by unfold Jdz;rw[h1,h2];exact if_pos h
theorem JgK(h:xs.length+ys.length<=16777216):JJ (.own xs) (.own ys)=some (.own (xs++ys)):=Y7 rfl rfl h
theorem JgJ(h:xs.length+ys.length<=16777216):JJ (.own xs) (.bo ys)=some (.own (xs++ys)):=Y7 rfl rfl h
theorem JgE(h:xs.length+ys.length<=16777216):JJ (.bo xs) (.own ys)=some (.own (xs++ys)):=Y7 rfl rfl h
theorem JgD(h:xs.length+ys.length<=16777216):JJ (.bo xs) (.bo ys)=some (.own (xs++ys)):=Y7 rfl rfl h
theorem JgL(h:xs.length+ys.length<=16777216):JJ (.own xs) (.sh (.lst ys))=some (.own (xs++ys)):=Y7 rfl rfl h
theorem JgM(h:xs.length+ys.length<=16777216):JJ (.sh (.lst xs)) (.own ys)=some (.own (xs++ys)):=Y7 rfl rfl h
theorem JgH(h:xs.length+ys.length<=16777216):JJ (.sh (.lst xs)) (.bo ys)=some (.own (xs++ys)):=Y7 rfl rfl h
theorem JgF(h:xs.length+ys.length<=16777216):JJ (.bo xs) (.sh (.lst ys))=some (.own (xs++ys)):=Y7 rfl rfl h
theorem JgI(h:xs.length+ys.length<=16777216):JJ (.sh (.lst xs)) (.sh (.lst ys))=some (.own (xs++ys)):=Y7 rfl rfl h
theorem Jjo(h:x.length<=16777216):YI [.sh (.str x)]=some (.sh (.int x.length)):=if_pos h
theorem Jjm:YI [.sh (.lst xs)]=some (.sh (.int xs.length)):=rfl
theorem Jjl:YI [.sh (.fz xs)]=some (.sh (.int xs.length)):=rfl
theorem Jjp:YI [.sh (.tup xs)]=some (.sh (.int xs.length)):=rfl
theorem Jjk:YI [.bo xs]=some (.sh (.int xs.length)):=rfl
theorem Jjn:YI [.own xs]=some (.sh (.int xs.length)):=rfl
theorem Jlz:fIx (.sh (.lst xs)) (.sh (.int a))=(atI xs a).map .sh:=rfl
theorem Jly:fIx (.sh (.fz xs)) (.sh (.int a))=(atI xs a).map .sh:=rfl
theorem JlB:fIx (.sh (.tup xs)) (.sh (.int a))=(atI xs a).map .sh:=rfl
theorem Jlx:fIx (.bo xs) (.sh (.int a))=(atI xs a).map .sh:=rfl
theorem JlA:fIx (.own xs) (.sh (.int a))=(atI xs a).map .sh:=rfl
theorem JgV(h:a.natAbs.log2<1920):JeI [.sh (.int a)]=some (.sh (.str (strI a))):=if_pos h
theorem Jjd:eqA (.int a) (.int b)=some (decide (a=b)):=rfl
theorem Jjf:eqA (.str x) (.str y)=some (decide (x=y)):=rfl
theorem Jjc{p q:Bool}:eqA (.bl p) (.bl q)=some (decide (p=q)):=rfl
theorem Jje(p q:Pr):eqA (prE p) (prE q)=some (decide (p=q)):=Jjg p q
theorem Jeu(p q:List Pr):eqA (.lst (p.map prE)) (.lst (q.map prE))=some (decide (p=q)):=Jgy p q
theorem Jjb(p q:List Pr):eqA (.tup (p.map prE)) (.tup (q.map prE))=some (decide (p=q)):=Jgz p q
theorem Jja(p q:List Int):eqA (.lst (p.map .int)) (.lst (q.map .int))=some (decide (p=q)):=Jew p q
theorem Jjx(h:-4611686018427387904<a/\a<4611686018427387904):JeW a=true:=by unfold JeW;rw[G7];omega
theorem Jjw(h:-1152921504606846976<a/\a<1152921504606846976):Jjv a=true:=in60_ok.mpr h
theorem JfR(h:0<a/\a<1073741824):Jat a=true:=smallP_ok.mpr h
theorem JgW{s:Sl}{ns:List Int}(e:s.q=some (ns.map .int)):JeJ [s]=some (.sh (.int ns.sum)):=by show(s.q.bind _)=_;rw[e,QF,WD];rfl
theorem JgN{s:Sl}{ns:List Bool}(e:s.q=some (ns.map .bl)):JeE [s]=some (.sh (.bl (ns.all id))):=by show(s.q.bind _)=_;rw[e,QF,Jcl];rfl
theorem Jll{i:Nat}:(Pt.nm i).bind d E=if i<E.length then some (E.set i (.sh d)) else none:=by rw[Pt.bind]
theorem Jlm{l:Pts}:(Pt.tp l).bind (.tup xs) E=l.bind xs E:=by rw[Pt.bind]
theorem Jgd:Pts.nil.bind [] E=some E:=by rw[Pts.bind]
theorem Jef{q:Pt}{l:Pts}:(Pts.cons q l).bind (d::xs) E=(q.bind d E).bind fun E'=>l.bind xs E':=by rw[Pts.bind]
theorem Jmg:((0:Nat):Int)=0:=rfl
theorem Jmh:((1:Nat):Int)=1:=rfl
theorem Jmi:((2:Nat):Int)=2:=rfl
theorem Jmj:((3:Nat):Int)=3:=rfl
theorem Jmk:((4:Nat):Int)=4:=rfl
theorem JdI:D.isNon .non=true:=rfl
theorem JdG:D.isNon (.int a)=false:=rfl
theorem JeY{k:Bool}:D.isNon (.bl k)=false:=rfl
theorem JdK:D.isNon (.str x)=false:=rfl
theorem JdL:D.isNon (.tup xs)=false:=rfl
theorem JdH:D.isNon (.lst xs)=false:=rfl
theorem JeZ:D.isNon (.fz xs)=false:=rfl
theorem JdJ:D.isNon (.row xs)=false:=rfl
theorem JjM:Ja1 "int" "int"=true:=by decide
theorem Jg3:Ja1 "int" "bool"=false:=by decide
theorem JjL:Ja1 "bool" "bool"=true:=by decide
theorem JjP:Ja1 "tuple" "tuple"=true:=by decide
theorem JjN:Ja1 "list" "list"=true:=by decide
theorem JjO:Ja1 "str" "str"=true:=by decide
end
end LE

namespace HT
open PySem PySem.Spec PyProof.Rows
section
variable{prog:Qo}{w:QC}{A:Qw}{E:Qa->Qd->Prop}{s:Qd}
theorem Vi{t sl:Qc}{items:Array Qa}{vl vu:Qa}{lo hi:Option Int}{Q:Qa->Qd->Prop}(ht:IsTup s.heap t items)(hs:s.heap.IsSliceOf sl vl vu .none)(pl:IsPart vl lo)(pu:IsPart vu hi)
 (hw:sIx items.size 0 lo=0/\sIx items.size items.size hi=items.size) (h:Q (.ref t) s):wpAny (model prog w) A (getItem (.ref t) (.ref sl)) Q E s:=by
 obtain⟨os,hos,hcs,hds⟩:=id hs;have hTs:s.TypeIs (.ref sl) "slice":=⟨os,hos,hcs⟩
 unfold getItem
 try with_reducible refine Gx ?_
 first|refine Qf (Qv ?_)|skip
 refine Qf (wpAny_sequenceKey ht.typeIs (by decide) ?_);refine Qf (GL (name:=Qe "__getitem__") ht.typeIs QW
  (KJ QW ht.typeIs entry_tuple_getitem ?_ (args_tuple_getitem _ _)))
 show wpAny _ _ (K7 (.ref t) >>= _) _ _ s;refine Qf (tupleItemsOf_ ht ?_);refine Qf (Ly hTs ?_);rw[if_pos (by decide)];refine Qf (Uh hs pl pu ?_)
 have yes:(((sIx items.size 0 lo:Nat):Int) == 0 && (1:Int) == 1 && (sIx items.size items.size hi-sIx items.size 0 lo) == items.size)=true:=by rw[hw.1,hw.2];simp
 show wpAny _ _ (if (((sIx items.size 0 lo:Nat):Int) == 0 && (1:Int) == 1 && (sIx items.size items.size hi-sIx items.size 0 lo) == items.size)=true then _ else _) _ _ s;rw[if_pos yes];unfold Builtin.Tuple.tupleIsExact;refine Qf (Qf (Ly ht.typeIs (Qv ?_)));rw[if_pos (by decide)];refine Qf (wpAny_rule ?_);exact Qv ⟨_,rfl,Qv h⟩
end
end HT
namespace L2
open PySem PySem.Spec PyProof.Rows
section
variable{X:Cx}{K:Qn}
noncomputable def JlZ(K:Qn):V->Option Int->Option Int->Hp->VK->Prop:=fun x lo hi H Q=>∃a xs,x=.ref a/\SqT K H a xs/\(HT.sIx xs.length 0 lo=0/\HT.sIx xs.length xs.length hi=xs.length)/\Q (.ref a) H
theorem JfQ:SlR X (JlZ X.K):=by
 intro pins s σ H x v vl vu lo hi sl Q I rx hs pl pu h;obtain⟨a,xs,rfl,hx,hw,q⟩:=h;cases rx;obtain⟨its,r,ht,hz⟩:=I.tuple hx;have hlen:its.toArray.size=xs.length:=by rw[Qt];exact r.length.symm
 refine⟨"tuple",_,QW.lookup,ht.typeIs,?_⟩;exact HT.Vi ht hs pl pu (by rw[hlen];exact hw) ⟨.ref a,H,I,rfl,q⟩
noncomputable def Jkl(K:Qn):V->Option Int->Option Int->Hp->VK->Prop:=fun x lo hi H Q=>JlW K x lo hi H Q\/JlY K x lo hi H Q\/JlZ K x lo hi H Q
theorem Jia(hK:X.K=K):SlR X (Jkl K):=by subst hK;exact sl_list.or (sl_tup.or JfQ)
end
end L2
namespace LE
open PySem L2 LR
noncomputable def JbH{α:Type}(xs:List α)(lo hi:Option Int):List α:=(xs.drop (HT.sIx xs.length 0 lo)).take (HT.sIx xs.length xs.length hi-HT.sIx xs.length 0 lo)
noncomputable def fSl(s:Sl)(lo hi:Option Int):Option Sl:=match s with
 | .sh (.tup ds)=>some (.sh (.tup (JbH ds lo hi)))
 | s=>s.r.map fun ds=>.own (JbH ds lo hi)
noncomputable def UD(o:Option Ev):En->Option (Option Int):=fun E=>match o with
 | none=>some none
 | some a=>(a E).bind fun s=>match s with
  | .sh (.int i)=>some (some i)
  | _=>none
noncomputable def eSl(a:Ev)(lo hi:Option Ev):Ev:=fun E=>(a E).bind fun s=>(UD lo E).bind fun l=>(UD hi E).bind fun h=>fSl s l h
section
variable{K:Qn}{C:Qc}{te:TE}{ea:Ev}{tl th:TO}{el eh:Option Ev}
noncomputable def SP'(K:Qn)(C:Qc)(t:TO)(ev:En->Option (Option Int)):Prop:=∀(B H0 H:Hp) (σ:St) (E:En) (r:Option Int) (Q:Option Int->Hp->Prop),EnvR K C B H0 H σ E->ev E=some r ->
 (∀H0' H',Step H H0 H H0' H'->Q r H')->t σ H Q
theorem UL:SP' K C Jdk (UD none):=fun _ _ _ _ _ _ _ I e q=>by cases e;exact q _ _ (.refl I.h)
theorem UM(ha:SE K C te ea):SP' K C (JiQ te) (UD (some ea)):=by
 intro B H0 H σ E r Q I e q;obtain⟨s,e1,e⟩:=bind_some e;split at e
 ·cases e;exact ha B H0 H σ E _ _ I e1 fun x H1 H1' s1 r1=>⟨_,RD.intI r1,q _ _ s1⟩
 ·cases e
theorem RDL.cut{H:Hp}{xs:List V}{ds:List D}{lo hi:Option Int}(r:RDL K C H xs ds):RDL K C H (Zg xs lo hi) (JbH ds lo hi):=by unfold Zg JbH;rw[r.1];exact(r.drop _).take _
theorem JmB(ha:SE K C te ea)(hl:SP' K C tl (UD el))(hh:SP' K C th (UD eh)):SE K C (tSl (Jkl K) te tl th) (eSl ea el eh):=by
 intro B H0 H σ E c Q I e q;obtain⟨s,e1,e⟩:=bind_some e;obtain⟨l,e2,e⟩:=bind_some e;obtain⟨h,e3,e⟩:=bind_some e;refine ha B H0 H σ E _ _ I e1 fun x H1 H1' s1 r1=>hl B H1 H1' σ E l _ (I.step s1) e2 fun H2 H2' s2=>hh B H2 H2' σ E h _ (I.step (s1.trans s2)) e3 fun H3 H3' s3=>?_
 have s13:=(s1.trans s2).trans s3
 have r3:=(r1.step s2).step s3
 have lst:∀{ds:List D},s.r=some ds->c=.own (JbH ds l h)->Jkl K x l h H3' Q:=fun {ds} er ec=>by subst ec;obtain⟨a,xs,rfl,hq,r⟩:=r3.r s13.i er;exact .inl ⟨a,xs,rfl,hq,fun p hp=>UV s13.i s13.h hp r.cut fun v H4 H4' s4 r4=>q v H4 H4' (s13.comp s4 fun _ z=>z) r4⟩
 unfold fSl at e;split at e
 ·cases e;obtain⟨a,xs,rfl,hq,r⟩:=RD.tupI r3
  by_cases hw:HT.sIx xs.length 0 l=0/\HT.sIx xs.length xs.length h=xs.length
  ·refine .inr (.inr ⟨a,xs,rfl,s13.i.seqT hq,hw,q _ _ _ s13 ?_⟩);have e5:Zg xs l h=xs:=by unfold Zg;rw[hw.1,hw.2];simp
   have r5:=r.cut (lo:=l) (hi:=h);rw[e5] at r5;exact RD.mkT hq r5
  ·exact .inr (.inl ⟨a,xs,rfl,s13.i.seqT hq,hw,fun p hp=>JaD s13.i s13.h hp r.cut fun v H4 H4' s4 r4=>q v H4 H4' (s13.comp s4 fun _ z=>z) r4⟩)
 ·obtain⟨ds,e4,e5⟩:=map_some e;exact lst e4 e5.symm
end
end LE

namespace PySem
section
variable{prog:Qo}{w:QC}{A:Qw}
theorem Draws.tup(hh:A.handled=none)(j a:Qc)(ne:a≠j)(xs:Array Qa):Draws prog w A j [j,a] xs.size (fun i v=>xs[i]?=some v) (fun i h=>h.IsTupleIter j a i/\h.IsTuple a xs) where
 live:=fun _ _ q=>let ⟨o,ho,_⟩:=q.1;⟨o,ho⟩
 frame:=fun _ _ _ q k=>⟨q.1.at fun o e=>k j (by simp) o e,q.2.at fun o e=>k a (by simp) o e⟩
 item:=fun i s Q E hi q hQ=>by
  obtain⟨o,ho,hc,hd⟩:=id q.1;obtain⟨ol,hol,_,nl,hdl⟩:=id q.2;have hx:xs[i]?=some xs[i]:=by simp[hi]
  unfold La;refine Qf (GL (name:=Qe "__next__") q.1.typeIs GA (KJ GA q.1.typeIs KY ?_ (KR _)));show wpAny _ _ (field (.ref j) 0 >>= _) _ _ s;refine Qf (Gy ho hd (x:=.ref a) rfl ?_);show wpAny _ _ (if (Value.ref a == Value.none)=true then _ else _) _ _ s;rw[if_neg (show ¬((Value.ref a == Value.none)=true) from Qx)]
  show wpAny _ _ (field (.ref j) 1 >>= _) _ _ s;refine Qf (Gy ho hd (x:=.int i 0) rfl (show wpAny _ _ (seqItems? (.ref a) >>= _) _ _ s from Qf (wpAny_seqItems hol hdl ?_)));simp only[GY,hx];refine Qf (GB ho hd (by simp) (Qv ⟨xs[i],rfl,Qv (hQ _ _ s.toks hx ⟨⟨_,Gg _ ho (GU (Gm hd _)),(Le ..).trans hc,?_⟩,q.2.extBut (KU ..).extBut ne⟩ (KU ..))⟩))
  rw[Gm hd];simp[rawInt]
 done:=fun s Q E q hE=>by
  obtain⟨o,ho,hc,hd⟩:=id q.1;obtain⟨ol,hol,_,nl,hdl⟩:=id q.2;have hx:xs[xs.size]?=none:=by simp
  unfold La;refine Qf (GL (name:=Qe "__next__") q.1.typeIs GA (KJ GA q.1.typeIs KY ?_ (KR _)));show wpAny _ _ (field (.ref j) 0 >>= _) _ _ s;refine Qf (Gy ho hd (x:=.ref a) rfl ?_);show wpAny _ _ (if (Value.ref a == Value.none)=true then _ else _) _ _ s;rw[if_neg (show ¬((Value.ref a == Value.none)=true) from Qx)]
  show wpAny _ _ (field (.ref j) 1 >>= _) _ _ s;refine Qf (Gy ho hd (x:=.int xs.size 0) rfl (show wpAny _ _ (seqItems? (.ref a) >>= _) _ _ s from Qf (wpAny_seqItems hol hdl ?_)));simp only[GY,hx];refine Qf (wpAny_rule (Qf (GB ho hd (by simp) (show wpAny _ _ (newExc (.type "StopIteration") [] >>= _) _ _ _ from Qf ?_))));simp only[newExc,newTuple];refine Qf (Gd (Qf (m:=firstArgMember _ _) (wpAny_of_eq (a:=Value.none) (by first | rfl | (simp only[firstArgMember];rfl)) (Gd ?_ (by size_fits)))) (by size_fits))
  simp only[raiseNew];refine Qf (wpAny_handled ?_)
  first|rw[show A.in1.handled=none from hh]|rw[hh]
  refine Qf (Qv (wpAny_throw ?_));exact hE _ _ (((KU ..).extBut.push _).push _) ⟨_,QH _ rfl,rfl⟩
end

structure ZA (z TI TO i1 i2:Qc) (p1 p2:List Qc):Prop where
 a1:TI≠z
 a2:TO≠z
 a3:TI≠TO
 m1:i1∈p1
 m2:i2∈p2
 z1:z∉p1
 z2:z∉p2
 t1:TI∉p1
 t2:TI∉p2
 o1:TO∉p1
 o2:TO∉p2
 x1:i1∉p2
 x2:i2∉p1
section
variable{prog:Qo}{w:QC}{A:Qw}{E:Qa->Qd->Prop}{s:Qd}{z TI TO i1 i2:Qc}{p1 p2:List Qc}{n1 n2 k:Nat}{P1 P2:Nat->Qa->Prop}{S1 S2:Nat->QI->Prop}
end
end PySem

namespace PySem
def IsSq(b:Bool)(h:QI)(a:Qc)(xs:Array Qa):Prop:=match b with
 | true=>h.IsTuple a xs
 | false=>h.IsList a xs
def IsItr(b:Bool)(h:QI)(j a:Qc)(i:Nat):Prop:=match b with
 | true=>h.IsTupleIter j a i
 | false=>h.IsListIter j a i
def itO(b:Bool)(a:Qc):Obj:=match b with
 | true=>{ cls:=.type "tuple_iterator",data:=.fields #[.ref a,.int 0 0] }
 | false=>{ cls:=.type "list_iterator",data:=.fields #[.ref a,.int 0 0] }
section
variable{prog:Qo}{w:QC}{A:Qw}{E:Qa->Qd->Prop}{s:Qd}{b b1 b2:Bool}{a a1 a2:Qc}{xs ys:Array Qa}
theorem IsSq.push{h:QI}(q:IsSq b h a xs)(o:Obj):IsSq b (h.push o) a xs:=by
 cases b with
 | true=>exact Heap.IsTuple.push q o
 | false=>exact Heap.IsList.push q o
theorem IsSq.lt{h:QI}(q:IsSq b h a xs):a<h.objs.size:=by
 cases b with
 | true=>obtain⟨o,e,_⟩:=q;exact Qj e
 | false=>obtain⟨o,e,_⟩:=q;exact Qj e
theorem IsItr.new{h:QI}(e:h.get? a1=some (itO b a)):IsItr b h a1 a 0:=by
 cases b with
 | true=>exact⟨_,e,rfl,rfl⟩
 | false=>exact⟨_,e,rfl,rfl⟩
end
end PySem

namespace L2
open PySem PySem.Spec PyProof.Rows
section
variable{X:Cx}{pins:List (Qc×Obj)}{σ:St}{H:Hp}{s:Qd}{h':QI}
noncomputable def Sq(b:Bool)(K:Qn)(H:Hp)(a:Qc)(xs:List V):Prop:=match b with
 | true=>SqT K H a xs
 | false=>SqL K H a xs
theorem Sq.heap{b:Bool}{a:Qc}{xs:List V}(I:Inv X pins σ H s)(q:Sq b X.K H a xs):∃its:List Qa,Vals xs its/\IsSq b s.heap a its.toArray:=by
 cases b with
 | true=>obtain⟨its,r,p,_⟩:=I.tuple q;exact⟨its,r,p⟩
 | false=>obtain⟨its,r,p,_⟩:=I.list q;exact⟨its,r,p.isList⟩
theorem Sq.inj{b:Bool}{a:Qc}{xs ys:List V}(I:Inv X pins σ H s)(q:Sq b X.K H a xs)(q':Sq b X.K H a ys):xs=ys:=by
 cases b with
 | true=>exact I.tuple_inj q q'
 | false=>exact I.list_inj q q'
theorem FpOk.off{b:Bool}{a c:Qc}{xs:List V}(I:Inv X pins σ H s)(q:Sq b X.K H a xs)(f:FpOk X pins H c):a≠c:=by
 intro e;subst e;have own:∀{o:HO},H a=some o->False:=fun h=>by rw[f.1] at h;cases h
 have mod:∀{o:Obj},X.K.lookup a=some o->False:=fun {o} h=>by
  have hb:=I.ok.mod.kin a o h;rcases f.2.2.2.1 with z|z
  ·exact I.ok.noex a o hb z
  ·exact absurd (Qj hb) (Nat.not_lt.mpr (QP I.ok.bsz z))
 cases b with
 | true =>
  rcases q with (h|⟨o,h⟩)|⟨o,its,n,h,_⟩
  ·exact own h
  ·exact own h
  ·exact mod h
 | false =>
  rcases q with (h|⟨o,h⟩)|⟨o,its,n,h,_⟩
  ·exact own h
  ·exact own h
  ·exact mod h
theorem IsItr.keep{b:Bool}{h h':QI}{j a:Qc}{i:Nat}(q:IsItr b h j a i)(k:∀o,h.get? j=some o->h'.get? j=some o):IsItr b h' j a i:=by
 cases b with
 | true=>obtain⟨o,e,r⟩:=q;exact⟨o,k o e,r⟩
 | false=>obtain⟨o,e,r⟩:=q;exact⟨o,k o e,r⟩
theorem IsItr.obj{b:Bool}{h:QI}{j a:Qc}{i:Nat}(q:IsItr b h j a i):∃o,h.get? j=some o/\∀v,o.data≠.cell v:=by
 cases b with
 | true=>obtain⟨o,e,_,d⟩:=q;exact⟨o,e,fun v z=>by rw[d] at z;cases z⟩
 | false=>obtain⟨o,e,_,d⟩:=q;exact⟨o,e,fun v z=>by rw[d] at z;cases z⟩
end
end L2

namespace LE
open PySem L2 LR
section
variable{K:Qn}{C:Qc}{m:Bool}
end
end LE

namespace PySem
namespace F
end F
section
variable{prog:Qo}{w:QC}{A:Qw}{E:Qa->Qd->Prop}{s:Qd}{a r:Qc}{xs:Array Qa}
end
end PySem
namespace L2
open PySem PySem.Spec PyProof.Rows
end L2
namespace LE
open PySem L2 LR
section
variable{K:Qn}{C:Qc}{m:Bool}
end
end LE

namespace PySem
open AutoSeq1 (wpAny_loadPart')
section
variable{prog:Qo}{w:QC}{A:Qw}{E:Qa->Qd->Prop}{s:Qd}{b:Bool}{a e it:Qc}{xs:Array Qa}
end
end PySem
namespace L2
open PySem PySem.Spec PyProof.Rows
end L2
namespace LE
open PySem L2 LR
section
variable{K:Qn}{C:Qc}{m:Bool}
end
end LE

namespace L2
open PySem PySem.Spec PyProof.Rows
section
variable{X:Cx}
end
theorem Jhq{X:Cx}{K:Qn}(hK:X.K=K):OpR X (compareOp .In) (rIn K false):=hK▸JdT
end L2
namespace LE
open PySem L2 LR
noncomputable def fIn(x y:Sl):Option Sl:=match x with
 | .sh (.int i)=>y.q.bind fun ds=>(ints? ds).map fun ns=>.sh (.bl (decide (i∈ns)))
 | _=>none
section
variable{K:Qn}{C:Qc}
theorem Jg0(i:Int)(ns:List Int):inV (.int i) (ns.map V.int)=decide (i∈ns):=by
 unfold inV
 induction ns with
 | nil=>rfl
 | cons n ns ih =>
  rw[Qr,Q9,ih]
  have:eqV (V.int n) (V.int i)=decide (i=n):=by show decide (n=i)=decide (i=n);exact decide_eq_decide.mpr eq_comm
  rw[this];simp[Qm]
theorem JdB(ns:List Int):(ns.map V.int).all Vh=true:=by rw[QS];intro x hx;obtain⟨n,_,rfl⟩:=Q4.mp hx;rfl
theorem Jmr:OpS K C (rIn K false) fIn:=by
 intro Hs H0 H x y a b c Q i hs ra rb e q;unfold fIn at e;split at e
 ·obtain⟨ds,e1,e⟩:=bind_some e;obtain⟨ns,e2,rfl⟩:=map_some e;obtain⟨l,xs,rfl,h,r⟩:=rb.q i e1;rw[VF e2] at r;have:=r.ints;subst this;rw[RD.intI ra];refine⟨l,_,rfl,h,rfl,JdB ns,?_⟩;rw[if_neg Qx,Jg0];exact q _ _ _ (.refl i) (RD.bl _)
 ·cases e
end
end LE

namespace PySem
namespace F
end F
section
variable{prog:Qo}{w:QC}{A:Qw}{E:Qa->Qd->Prop}{s:Qd}{l:Qc}{lo hi:Int}{t u v:Tok}
end
end PySem
namespace L2
open PySem PySem.Spec PyProof.Rows
end L2
namespace LE
open PySem L2 LR
section
variable{K:Qn}{C:Qc}{m:Bool}
end
end LE

namespace PySem
namespace F
end F
structure ZB (z TI TO i1 i2 i3:Qc) (p1 p2 p3:List Qc):Prop where
 a1:TI≠z
 a2:TO≠z
 a3:TI≠TO
 m1:i1∈p1
 m2:i2∈p2
 m3:i3∈p3
 z1:z∉p1
 z2:z∉p2
 z3:z∉p3
 t1:TI∉p1
 t2:TI∉p2
 t3:TI∉p3
 o1:TO∉p1
 o2:TO∉p2
 o3:TO∉p3
 x12:i1∉p2
 x13:i1∉p3
 x21:i2∉p1
 x23:i2∉p3
 x31:i3∉p1
 x32:i3∉p2
section
variable{prog:Qo}{w:QC}{A:Qw}{E:Qa->Qd->Prop}{s:Qd}{z TI TO i1 i2 i3:Qc}{p1 p2 p3:List Qc}{n1 n2 n3 k:Nat}{P1 P2 P3:Nat->Qa->Prop}{S1 S2 S3:Nat->QI->Prop}
end
end PySem

namespace PySem
section
variable{prog:Qo}{w:QC}{A:Qw}{E:Qa->Qd->Prop}{s:Qd}{b1 b2 b3:Bool}{a1 a2 a3:Qc}{xs ys zs:Array Qa}
end
end PySem
namespace L2
open PySem PySem.Spec PyProof.Rows
end L2
namespace LE
open PySem L2 LR
section
variable{K:Qn}{C:Qc}{m:Bool}
end
end LE

namespace L2
open PySem PySem.Spec PyProof.Rows
section
variable{X:Cx}
end
end L2
namespace LE
open PySem L2 LR
section
variable{K:Qn}{C:Qc}
end
end LE

namespace PySem

section
variable{prog:Qo}{w:QC}{A:Qw}{R:LY->Qd->Prop}{I:Qc}{fp wr:List Qc}{n:Nat}{P:Nat->Qa->Prop}{St:Nat->QI->Prop}
end
section
variable{prog:Qo}{w:QC}{A:Qw}{E:Qa->Qd->Prop}{s:Qd}{l:Qc}{xs:Array (Int×Tok)}
end

section
variable{prog:Qo}{w:QC}{A:Qw}{R:LY->Qd->Prop}{I:Qc}{fp wr:List Qc}{n:Nat}{P:Nat->Qa->Prop}{St:Nat->QI->Prop}
end
section
variable{prog:Qo}{w:QC}{A:Qw}{E:Qa->Qd->Prop}{s:Qd}{l:Qc}{xs:Array (Int×Tok)}
end

end PySem

namespace L2
open PySem PySem.Spec PyProof.Rows

section
variable{X:Cx}
end
section
variable{X:Cx}
end
end L2
namespace LE
open PySem L2 LR

end LE

namespace LE
open PySem L2 LR

noncomputable def look{α:Type}:List Int->List α->Int->Option α
 | k::ks,d::ds,n=>if k=n then some d else look ks ds n
 | _,_,_=>none
section
variable{K:Qn}{C:Qc}{Hs H0 H:Hp}
theorem RDL.look:∀{ks:List Int} {xs:List V} {ds:List D} {n:Int},RDL K C H xs ds->(LE.look ks xs n=none/\LE.look ks ds n=none)\/∃x d,LE.look ks xs n=some x/\LE.look ks ds n=some d/\RD K C H x d
 | [],_,_,_,_=>.inl ⟨rfl,rfl⟩
 | _::_,[],[],_,_=>.inl ⟨rfl,rfl⟩
 | _::_,[],_::_,_,h=>by have:=h.1;simp at this
 | _::_,_::_,[],_,h=>by have:=h.1;simp at this
 | k::ks,x::xs,d::ds,n,h=>by
  simp only[LE.look]
  by_cases e:k=n
  ·rw[if_pos e,if_pos e];exact .inr ⟨x,d,rfl,rfl,h.head⟩
  ·rw[if_neg e,if_neg e];exact RDL.look h.tail
end
noncomputable def Sl.dk:Sl->Option (List Int×List D)
 | .sh (.dct ks ds)=>some (ks,ds)
 | .sh (.dfz ks ds)=>some (ks,ds)
 | .bd ks ds=>some (ks,ds)
 | .od ks ds=>some (ks,ds)
 | _=>none
noncomputable def int?:Sl->Option Int
 | .sh (.int i)=>some i
 | _=>none
section
variable{K:Qn}{C:Qc}{Hs H0 H:Hp}{td ty tx te:TE}{ed ek ex ea:Ev}
theorem JeX{s:Sl}{n:Int}(e:int? s=some n):s=.sh (.int n):=by
 cases s with
 | sh d=>cases d with
  | int i=>cases e;rfl
  | _=>cases e
 | _=>cases e
theorem RR.dk{v:V}{s:Sl}{p:List Int×List D}(r:RR K C Hs H0 H v s)(i:Same H0 H)(e:s.dk=some p):∃l xs,v=.ref l/\Rd H l (dkO p.1 xs)/\p.1.length=p.2.length/\RDL K C H0 xs p.2:=by
 cases s with
 | bd ks ds=>cases e;obtain⟨l,xs,h1,h2,h3⟩:=r;exact⟨l,xs,h1,.inl h2,h3⟩
 | od ks ds=>cases e;obtain⟨l,xs,h1,h2,_,_,h3⟩:=r;exact⟨l,xs,h1,.inl h2,h3⟩
 | bt _ _=>cases e
 | ot _ _=>cases e
 | sh d=>cases d with
  | dct ks ds=>cases e;obtain⟨l,xs,h1,h2,h3⟩:=RD.dctI r;exact⟨l,xs,h1,.inl (i _ _ h2),h3⟩
  | dfz ks ds=>cases e;obtain⟨l,xs,o,h1,h2,h3⟩:=RD.dfzI r;exact⟨l,xs,h1,.inr ⟨o,i _ _ h2⟩,h3⟩
  | _=>cases e
 | _=>cases e
end

section
variable{K:Qn}{C:Qc}{H:Hp}
theorem RDL.rep{xs:List V}{ds:List D}(r:RDL K C H xs ds):∀k:Nat,RDL K C H (QK k xs).flatten (QK k ds).flatten
 | 0=>.nil
 | k+1=>by rw[Gs,Gs,Ge,Ge];exact r.append (RDL.rep r k)
end
end LE

namespace L2
open PySem PySem.Spec PyProof.Rows
theorem KV.get{κ:Type}:∀{kvs:List (κ×V)} {vs:List (κ×Qa)} {i:Nat} {p:κ×V},KV kvs vs->kvs[i]?=some p->∃u,vs[i]?=some (p.1,u)/\RelV p.2 u
 | _,_,0,p,.cons h _,e=>by simp at e;subst e;obtain⟨h1,h2⟩:=h;rename_i q _ _;exact⟨_,by simp;exact Prod.ext h1.symm rfl,h2⟩
 | _,_,i+1,p,.cons _ t,e=>by obtain⟨u,h1,h2⟩:=KV.get (i:=i) t (by simpa using e);exact⟨u,by simpa using h1,h2⟩
 | _,_,_,_,.nil,e=>by simp at e
end L2
namespace LE
open PySem L2 LR
noncomputable def JlF:List Int->List D->List D:=List.zipWith fun k d=>.tup [.int k,d]
section
variable{K:Qn}{C:Qc}{m:Bool}{t:TS}{et:Es}{td:TE}{ed:Ev}
end
end LE

namespace L2
open PySem PySem.Spec PyProof.Rows
section
variable{prog:Qo}{w:QC}{A:Qw}{E:Qa->Qd->Prop}{s:Qd}{T:String}{r d:Qc}{n:Nat}{P:Nat->Qa->Prop}{OK:QI->Prop}
end
end L2
namespace LE
open PySem L2 LR
noncomputable def JeG:List Sl->Option Sl
 | [.sh (.int i)]=>some (.sh (.int i))
 | [.sh (.bl b)]=>some (.sh (.int (if b then 1 else 0)))
 | _=>none
section
variable{K:Qn}{C:Qc}{td:TE}{ed:Ev}
theorem Rd.put{H:Hp}{l p:Qc}{o u:HO}(h:Rd H l o)(hp:H p=none):Rd (upd H p u) l o:=by
 rcases h with h|⟨ob,h⟩
 ·exact .inl (by rw[Jj (Jt h hp)];exact h)
 ·exact .inr ⟨ob,by rw[Jj (Jt h hp)];exact h⟩
theorem Jiv:V1 K C (fun xs H Q=>(∃i,xs=[V.int i]/\Q (.int i) H)\/∃k,xs=[V.bl k]/\Q (.int (if k then 1 else 0)) H) JeG:=by
 intro Hs H0 H xs as c Q i hs r e q;unfold JeG at e;split at e
 ·cases e;obtain⟨v,rfl,r0⟩:=r.one;exact .inl ⟨_,by rw[RD.intI r0],q _ _ _ (.refl i) (RD.int _)⟩
 ·cases e;obtain⟨v,rfl,r0⟩:=r.one;exact .inr ⟨_,by rw[RD.blI r0],q _ _ _ (.refl i) (RD.int _)⟩
 ·cases e
end
end LE

namespace L2
open PySem PySem.Spec PyProof.Rows
theorem Inv.more{X:Cx}{pins:List (Qc×Obj)}{σ:St}{H H':Hp}{s:Qd}{h':QI}{t':Nat}(I:Inv X pins σ H s)(k:∀b u,s.heap.get? b=some u->h'.get? b=some u)(hx:∀b,b<s.heap.objs.size->H' b=H b)
 (new:∀b o,s.heap.objs.size<=b->H' b=some o->ObjOk X.prog X.w H' h' b o):Inv X pins σ H' { s with heap:=h',toks:=t' }:=by
 have old:∀b o,H b=some o->H' b=some o:=fun b o e=>by rw[hx b (I.hok.lt e)];exact e
 refine I.un ⟨fun b u q _ _ _=>k b u q,fun b u q _ _ _=>⟨u.slots,k b u q⟩,fun b u q n _=>by rw[hx b (Qj q)];exact n,fun b u q _=>⟨u,k b u q⟩,fun b xs q=>old b _ q,fun b u xs q=>old b _ q,fun b ps q=>⟨#[],by rw[old b _ q];simp⟩⟩ fun b o e=>?_
 rcases Nat.lt_or_ge b s.heap.objs.size with z|z
 ·rw[hx b z] at e;exact(I.hok b o e).stay (fun c u _ q=>k c u q) (fun c q=>old c _ q) fun c xs q=>old c _ q
 ·exact new b o z e
end L2
namespace LE
open PySem L2 LR
section
variable{K:Qn}{C:Qc}{td:TE}{ed:Ev}
theorem RDL.items:∀{ks:List Int} {xs:List V} {ds:List D} {as:List Qc} {H:Hp},ks.length=ds.length->as.length=ks.length->(∀(j:Nat) (a:Qc) (k:Int) (x:V),as[j]?=some a->ks[j]?=some k->xs[j]?=some x->H a=some (.tup [.int k,x]))->RDL K C H xs ds->RDL K C H (as.map V.ref) (JlF ks ds)
 | [],[],[],[],_,_,_,_,_=>.nil
 | [],_,_,a::as,_,_,h,_,_=>by simp at h
 | [],_,d::ds,_,_,h,_,_,_=>by simp at h
 | k::ks,_,[],_,_,h,_,_,_=>by simp at h
 | k::ks,_,_,[],_,_,h,_,_=>by simp at h
 | [],x::xs,[],[],_,_,_,_,h=>by have:=h.1;simp at this
 | k::ks,[],d::ds,a::as,_,_,_,_,h=>by have:=h.1;simp at this
 | k::ks,x::xs,d::ds,a::as,H,h1,h2,h3,h4=>by show RDL K C H (V.ref a::as.map V.ref) (.tup [.int k,d]::JlF ks ds);refine .cons (.mkT (.of (h3 0 a k x rfl rfl rfl)) (.cons (.int k) (.cons h4.head .nil))) (RDL.items (by simpa using h1) (by simpa using h2) (fun j a k x e1 e2 e3=>h3 (j+1) a k x (by simpa using e1) (by simpa using e2) (by simpa using e3)) h4.tail)
end
end LE

namespace L2
open PySem PySem.Spec PyProof.Rows
noncomputable def wo:List Qc->QI->QI
 | [],h=>h
 | a::l,h=>(wo l h).update a fun _=>{ cls:=.none,data:=.freed }
theorem Jd9(h:QI)(a:Qc):(h.update a fun _=>{ cls:=.none,data:=.freed }).get? a=none:=by
 cases q:(h.update a fun _=>({ cls:=.none,data:=.freed }:Obj)).get? a with
 | none=>rfl
 | some o =>
  obtain⟨e,f⟩:=Heap.get?_some_iff.mp q;obtain⟨os,l⟩:=h;simp only[Heap.update,Array.getElem?_modify,if_true] at e
  cases z:os[a]? with
  | none=>rw[z] at e;cases e
  | some u=>rw[z] at e;cases e;cases f
theorem Zb{h:QI}{b:Qc}:∀{l:List Qc},b∈l->(wo l h).get? b=none
 | [],hb=>nomatch hb
 | a::l,hb=>by
  unfold wo
  by_cases e:a=b
  ·subst e;exact Jd9 _ _
  ·rw[QV _ _ e];exact Zb ((Qm.mp hb).resolve_left (Q0 e))
theorem VZ{h:QI}{b:Qc}:∀{l:List Qc},b∉l->(wo l h).get? b=h.get? b
 | [],_=>rfl
 | a::l,hb=>by unfold wo;rw[QV _ _ (fun e=>hb (by rw[e];exact Qy))];exact VZ fun z=>hb (Qp _ z)
theorem Z5{h base base':QI}:∀{l:List Env},h.FunFrames base l->(∀b∈frs l,base'.get? b=none)->h.FunFrames base' l
 | [],_,_=>trivial
 | env::l,⟨hk,⟨L,o,hf,hn,ho,hd⟩,hr⟩,n=>by
  have e:frs (env::l)=L::frs l:=by unfold frs;rw[GI,hf]
  rw[e] at n;exact⟨hk,⟨L,o,hf,n L Qy,ho,hd⟩,Z5 hr fun b hb=>n b (Qp _ hb)⟩
theorem Wh{h base:QI}{l:List Env}(x:h.FunFrames base l){b:Qc}(hb:b∈frs l):base.get? b=none/\∃o,h.get? b=some o/\∀vs,o.data≠.fields vs:=x.mem hb
theorem ObjOk.there{P:Qo}{w:QC}{H:Hp}{h:QI}{a:Qc}{o:HO}(x:ObjOk P w H h a o):∃u,h.get? a=some u:=by
 cases o with
 | lst xs=>obtain⟨_,_,_,_,e⟩:=x;exact⟨_,e⟩
 | tup xs=>obtain⟨_,_,_,p⟩:=x;obtain⟨o,e,_⟩:=p;exact⟨_,e⟩
 | dK kvs=>obtain⟨_,_,_,_,o,_,_,e,_⟩:=x;exact⟨_,e⟩
 | dT kvs=>obtain⟨_,_,_,_,o,_,_,e,_⟩:=x;exact⟨_,e⟩
 | set S n=>obtain⟨o,_,_,_,e,_⟩:=x;exact⟨_,e⟩
 | ins C dx fs=>obtain⟨_,_,_,e,_⟩:=x;exact⟨_,e⟩
 | own y=>obtain⟨_,e⟩:=x;exact⟨_,e⟩
 | xd fs=>obtain⟨_,⟨_,_,_,e,_⟩,_⟩:=x;exact⟨_,e⟩
 | rng lo hi=>obtain⟨_,_,_,e⟩:=x;exact⟨_,e⟩
 | frz ob u=>obtain⟨e,_⟩:=x;exact⟨_,e⟩
 | tbl ps=>exact⟨_,(show h.get? a=some _ from x)⟩
 | met f y=>exact⟨_,(show h.get? a=some _ from x)⟩
 | ext φ=>obtain⟨_,⟨_,e⟩,_⟩:=x;exact⟨_,e⟩

noncomputable def TrD(h base:QI)(e:Qc)(cls:Qa)(dct:Option Qc)(fl:Qa):Prop :=
 ∃oe vs T oT ts,h.get? e=some oe/\(oe.cls=cls/\oe.dict=dct)/\oe.data=.fields vs/\vs[1]?=some (.ref T)/\base.get? T=none/\T≠e/\h.get? T=some oT/\oT.data=.fields ts/\ts[3]?=some fl
noncomputable def Fl(base:QI)(l:List Env)(e:Qc)(cls:Qa)(h:QI):Prop :=
 base.StaysIn h/\base.get? e=none/\h.FunFrames base l/\(TrD h base e (LE.Wt cls) (LE.JaN cls) .none\/∃oe vs,h.get? e=some oe/\(oe.cls=LE.Wt cls/\oe.dict=LE.JaN cls)/\oe.data=.fields vs/\vs[1]?=some .none)
noncomputable def Cov(fs:List Qc)(H':Hp)(h h' base:QI):Prop:=∀b o,(H' b≠none\/∃u,h.get? b=some u)->b∉fs->h'.get? b=some o->base.get? b=some o
structure XF (P:Qo) (w:QC) (l:List Env) (H:Hp) (h:QI) (a:Qc) (cls:Qa) (H':Hp) (base h':QI):Prop where
 un:Un (frs l) [] H H' h h'
 hok:HOk P w H' h'
 fl:Fl base l a cls h'
 cov:Cov (frs l) H' h h' base
 free:H' a=none
 new:h.get? a=none
noncomputable def CX1(P:Qo)(w:QC):CXT:=fun l H s E e s'=>∃(a:Qc) (cls:Qa) (H':Hp) (base:QI),e=.ref a/\s'.os=s.os/\AllBare s'.gens/\XF P w l H s.heap a cls H' base s'.heap/\E cls (some a) H'
section
variable{P:Qo}{w:QC}{l:List Env}{H H':Hp}{h h1 h2 base base0:QI}{a:Qc}{cls:Qa}
theorem XF.on(x:XF P w l H h a cls H' base h1)(hf:h.FunFrames base0 l)(hn:∀b∈frs l,H b=none)(k:base.StaysIn h2)(us:h1.UpToSlots h2)(fl:Fl base l a cls h2):XF P w l H h a cls H' base h2:=by
 have ff:∀b∈frs l,∃o,h1.get? b=some o/\∀vs,o.data≠.fields vs:=fun b hb=>(Wh x.fl.2.2.1 hb).2
 have nfr:∀b u,H' b=some u->b∉frs l:=fun b u e hb=>by obtain⟨_,o,ho,_⟩:=Wh hf hb;rw[x.un.free b o ho (hn b hb) (by simp)] at e;cases e
 refine⟨⟨fun b o q n hb hx=>?_,fun b o q n hb hx=>?_,x.un.free,fun b o q hx=>?_,x.un.tups,x.un.frzs,x.un.tbls⟩,fun b u e=>?_,fl,fun b o hb hfr q=>?_,x.free,x.new⟩
 ·exact k b o (x.cov b o (.inr ⟨_,q⟩) hb (x.un.keep b o q n hb hx))
 ·obtain⟨sl,e1⟩:=x.un.slot b o q n hb hx;obtain⟨o',e2,nf⟩:=ff b hb;rw[e1] at e2;cases e2;obtain⟨sl',e3⟩:=us b _ e1 nf;exact⟨sl',e3⟩
 ·obtain⟨o',e1⟩:=x.un.there b o q hx
  by_cases hb:b∈frs l
  ·obtain⟨o2,e2,nf⟩:=ff b hb;obtain⟨sl',e3⟩:=us b _ e2 nf;exact⟨_,e3⟩
  ·exact⟨o',k b o' (x.cov b o' (.inr ⟨_,q⟩) hb e1)⟩
 ·refine(x.hok b u e).stay (fun c v hc q=>?_) (fun _ z=>z) fun _ _ z=>z
  have tr:∃u',H' c=some u':=by
   rcases hc with rfl|hc
   ·exact⟨_,e⟩
   ·exact⟨_,hc⟩
  obtain⟨u',e'⟩:=tr;exact k c v (x.cov c v (.inl (by rw[e'];intro z;cases z)) (nfr c u' e') q)
 ·have ex:∃o',h1.get? b=some o':=by
   rcases hb with hb|⟨u,hb⟩
   ·cases e:H' b with
    | none=>exact absurd e hb
    | some u=>exact(x.hok b u e).there
   ·exact x.un.there b u hb (by simp)
  obtain⟨o',e1⟩:=ex;have e2:=x.cov b o' hb hfr e1;have e3:=k b o' e2;rw[q] at e3;cases e3;exact e2
end
theorem JcN(o:Obj)(f:Array Qa->Array Qa):(o.mapFields f).dict=o.dict:=by obtain⟨c,d,dt,sl⟩:=o;cases dt <;> rfl
section
variable{M:Model}{A:Qw}{E:Qa->Qd->Prop}{s:Qd}{base:QI}{env:Env}{outer l:List Env}{L e:Qc}{cls fl:Qa}{dct:Option Qc}{Q:Unit->Qd->Prop}
theorem Jet{oe:Obj}{vs:Array Qa}{head:Qa}{had:Bool}(hfr:A.frames=some (env::outer))(hl:s.heap.FunFrames base (env::outer))(hf:env.frame=some L)
 (he:s.heap.get? e=some oe) (hkb:base.StaysIn s.heap) (hen:base.get? e=none) (hd:oe.data=.fields vs) (hsz:1<vs.size)
 (h:∀h',base.StaysIn h'->h'.FunFrames base (env::outer)->TrD h' base e oe.cls oe.dict (rawInt L)->s.heap.UpToSlots h'->Q () { s with heap:=h' }) :
 wpAny M A (do let a <- frameOf env;let pl <- entryPlaceOf L had;let b <- Ma head a .none (rawInt L) .none pl;setField (.ref e) 1 b) Q E s:=by
 refine Qf (wpAny_frameOf_fun hfr hl hf fun h₁ hs₁=>Qf (wpAny_entryPlaceOf fun pl hpl=>?_));unfold Ma newFields;refine Qf (Gd ?_ (hpl.sizeOk5 _ _ _ _ _))
 have ne:e∉(env::outer).filterMap (·.frame):=fun hm=>by obtain⟨_,o,ho,nf⟩:=hl.mem hm;rw[he] at ho;cases ho;exact nf vs hd
 have e1:h₁.get? e=some oe:=(hs₁.2.1 e ne).trans he
 have b1:base.StaysIn h₁:=fun b o hb=>(hs₁.2.1 b fun hm=>by rw[(hl.mem hm).1] at hb;cases hb).trans (hkb b o hb)
 generalize hot:({ cls:=.type "traceback",dict:=none,data:=.fields ([head,.ref L,.none,rawInt L,.none]++(if pl.isEmpty then QK 6 Value.none else pl)).toArray }:Obj)=ot
 have hotd:ot.data=.fields ([head,.ref L,.none,rawInt L,.none]++(if pl.isEmpty then QK 6 Value.none else pl)).toArray:=by rw[<- hot]
 have hotf:ot.isFreed=false:=by rw[<- hot];rfl
 have e2:=Qg (h:=h₁) ot e1;refine GB e2 hd hsz ?_
 have d3:=Gm hd (·.setIfInBounds 1 (Value.ref h₁.objs.size))
 have e3:=Gg (KM (·.setIfInBounds 1 (Value.ref h₁.objs.size))) e2 (GU d3)
 have tne:h₁.objs.size≠e:=KC (Qj e1)
 have t3:=(QV (h₁.push ot) (KM (·.setIfInBounds 1 (Value.ref h₁.objs.size))) (Q0 tne)).trans (QH h₁ hotf)
 have keep:∀b o,b≠e->h₁.get? b=some o->((h₁.push ot).update e (KM (·.setIfInBounds 1 (Value.ref h₁.objs.size)))).get? b=some o:=fun b o hb q=>by rw[QV _ _ (Q0 hb)];exact Qg _ q
 have nrec:∀b o,s.heap.get? b=some o->(∀ws,o.data≠.fields ws)->b≠e:=fun b o hb nf z=>by rw[z,he] at hb;cases hb;exact nf vs hd
 refine h _ (fun b o hb=>keep b o (fun z=>by rw[z,hen] at hb;cases hb) (b1 b o hb)) (hl.of_keeps fun b o hb nf=>?_) ⟨_,_,h₁.objs.size,_,_,e3,⟨Le _ _,JcN _ _⟩,d3,by simp[hsz],b1.fresh,tne,t3,hotd,by first|(simp;done)|(rcases hpl with rfl|⟨_,_,_,_,_,_,_,rfl⟩ <;> simp)⟩ fun b o hb nf=>?_
 ·obtain⟨sl,hs⟩:=hs₁.2.2 b o hb;exact⟨_,keep b _ (nrec b o hb nf) hs,rfl⟩
 ·obtain⟨sl,hs⟩:=hs₁.2.2 b o hb;exact⟨sl,keep b _ (nrec b o hb nf) hs⟩
theorem Z6(hkb:base.StaysIn s.heap)(hl:s.heap.FunFrames base l)(ht:TrD s.heap base e cls dct fl)
 (h:∀h',base.StaysIn h'->h'.FunFrames base l->TrD h' base e cls dct .none->s.heap.UpToSlots h'->Q () { s with heap:=h' }):wpAny M A (setFlight (.ref e) none) Q E s:=by
 obtain⟨oe,vs,T,oT,ts,he,hc,hd,h1,nT,hTe,hT,dT,h3⟩:=ht;have sz:3<ts.size:=(QO.mp h3).1;unfold setFlight;refine Qf (Gy he hd h1 ?_);rw[if_pos (show(Value.ref T != Value.none)=true from by simp)];have other:∀b,b≠T->(s.heap.update T (KM (·.setIfInBounds 3 ((none:Option Qc).elim Value.none fun f=>rawInt f)))).get? b=s.heap.get? b:=fun b hb=>QV _ _ (Q0 hb)
 have nrec:∀b o,s.heap.get? b=some o->(∀ws,o.data≠.fields ws)->b≠T:=fun b o hb nf z=>by rw[z,hT] at hb;cases hb;exact nf ts dT
 refine GB hT dT sz (h _ (fun b o hb=>(other b fun z=>by rw[z,nT] at hb;cases hb).trans (hkb b o hb)) (hl.of_keeps fun b o hb nf=>⟨o,(other b (nrec b o hb nf)).trans hb,rfl⟩) ?_ fun b o hb nf=>⟨o.slots,(other b (nrec b o hb nf)).trans hb⟩);exact⟨oe,vs,T,_,_,(other e (Q0 hTe)).trans he,hc,hd,h1,nT,hTe,Gg _ hT (GU (Gm dT _)),Gm dT _,by simp[sz]⟩
theorem Jcz(hfr:A.frames=some (env::outer))(hf:env.frame=some L)(x:Fl base (env::outer) e cls s.heap)
 (hQ:∀h',base.StaysIn h'->h'.FunFrames base (env::outer)->TrD h' base e (LE.Wt cls) (LE.JaN cls) (rawInt L)->s.heap.UpToSlots h'->Q () { s with heap:=h' }):wpAny M A (noteFrame (.ref e) env) Q E s:=by
 obtain⟨k1,k2,k3,tr|⟨oe,vs,he,hc,hd,h1⟩⟩:=x
 ·obtain⟨oe,vs,T,oT,ts,he,hc,hd,h1,nT,hTe,hT,dT,h3⟩:=tr;unfold noteFrame;simp only[hf];refine Qf (Gy he hd h1 ?_);rw[if_pos (show(Value.ref T != Value.none)=true from by simp)];refine Qf (Gy hT dT h3 ?_);rw[if_neg (show ¬((Value.none == rawInt L)=true) from by simp[rawInt])];refine Qf (GB hT dT (QO.mp h3).1 ?_);have other:∀b,b≠T->(s.heap.update T (KM (·.setIfInBounds 3 Value.none))).get? b=s.heap.get? b:=fun b hb=>QV _ _ (Q0 hb)
  have nrec:∀b o,s.heap.get? b=some o->(∀ws,o.data≠.fields ws)->b≠T:=fun b o hb nf z=>by rw[z,hT] at hb;cases hb;exact nf ts dT
  refine Jet hfr (k3.of_keeps fun b o hb nf=>⟨o,(other b (nrec b o hb nf)).trans hb,rfl⟩) hf ((other e (Q0 hTe)).trans he)
   (fun b o hb=>(other b fun z=>by rw[z,nT] at hb;cases hb).trans (k1 b o hb)) k2 hd (QO.mp h1).1 fun h' x1 x2 x3 x4=>?_
  rw[hc.1,hc.2] at x3;exact hQ h' x1 x2 x3 fun b o hb nf=>x4 b o ((other b (nrec b o hb nf)).trans hb) nf
 ·unfold noteFrame;simp only[hf];refine Qf (Gy he hd h1 ?_);rw[if_neg (by decide)];refine Jet hfr k3 hf he k1 k2 hd (QO.mp h1).1 fun h' x1 x2 x3 x4=>?_
  rw[hc.1,hc.2] at x3;exact hQ h' x1 x2 x3 x4
theorem JeM(hfr:A.frames=some (env::outer))(hf:env.frame=some L)(x:Fl base (env::outer) e cls s.heap)
 (hQ:∀h',Fl base (env::outer) e cls h'->Fl base outer e cls h'->s.heap.UpToSlots h'->Q () { s with heap:=h' }):wpAny M A (leaving env (.ref e)) Q E s:=by
 have k2:=x.2.1;unfold leaving;refine Qf (Jcz hfr hf x fun h1 x1 x2 x3 x4=>?_);refine Z6 (s:={ s with heap:=h1 }) x1 x2 x3 fun h2 y1 y2 y3 y4=>?_
 exact hQ h2 ⟨y1,k2,y2,.inl y3⟩ ⟨y1,k2,y2.2.2,.inl y3⟩ (x4.trans y4)
end

noncomputable def XP(X:Cx)(pins:List (Qc×Obj))(σ:St)(E:XK)(e:Qa)(s':Qd):Prop:=∃H s,Inv X pins σ H s/\CX1 X.prog X.w X.stack H s E e s'
section
variable{X:Cx}{pins:List (Qc×Obj)}{σ:St}{H H':Hp}{s s':Qd}{base:QI}{a:Qc}{cls:Qa}{E:XK}{e:Qa}
theorem Inv.fly(I:Inv X pins σ H s)(ho:s'.os=s.os)(hg:AllBare s'.gens)(x:XF X.prog X.w X.stack H s.heap a cls H' base s'.heap):Inv X pins σ H' s':=I.call' ho x.un x.hok hg fun b hb=>nomatch hb
theorem XP.made{args:List Qa}{h':QI}{ea:Qc}(I:Inv X pins σ H s)(m:Heap.MadeExcOf s.heap h' ea cls args)(q:E cls (some ea) H)(k1:LE.Wt cls=cls)(k2:LE.JaN cls=none):XP X pins σ E (.ref ea) { s with heap:=h' }:=by
 have nf:∀b∈frs X.stack,∃o,s.heap.get? b=some o:=fun b hb=>by obtain⟨_,o,ho,_⟩:=Wh I.stack hb;exact⟨o,ho⟩
 obtain⟨t,ht,_,_⟩:=m.there;refine⟨H,s,I,ea,cls,H,wo (frs X.stack) s.heap,rfl,rfl,I.bare,⟨⟨fun b o q _ _ _=>m.keeps b o q,fun b o q _ _ _=>⟨o.slots,m.keeps b o q⟩,fun _ _ _ n _=>n,fun b o q _=>⟨o,m.keeps b o q⟩,fun _ _ z=>z,fun _ _ _ z=>z,fun b ps z=>⟨#[],by rw[z];simp⟩⟩,I.hok.kept m.keeps,⟨fun b o q=>?_,?_,?_,.inr ⟨_,_,ht,⟨k1.symm,k2.symm⟩,rfl,rfl⟩⟩,fun b o hb hfr q=>?_,?_,m.new⟩,q⟩
 ·by_cases hb:b∈frs X.stack
  ·rw[Zb hb] at q;cases q
  ·rw[VZ hb] at q;exact m.keeps b o q
 ·by_cases hb:ea∈frs X.stack
  ·exact Zb hb
  ·rw[VZ hb];exact m.new
 ·exact(Z5 I.stack fun b hb=>Zb hb).of_keeps fun b o q _=>⟨o,m.keeps b o q,rfl⟩
 ·rw[VZ hfr]
  have ex:∃u,s.heap.get? b=some u:=by
   rcases hb with hb|hb
   ·cases e:H b with
    | none=>exact absurd e hb
    | some u=>exact(I.hok b u e).there
   ·exact hb
  obtain⟨u,hu⟩:=ex;have:=m.keeps b u hu;have q':h'.get? b=some o:=q;rw[q'] at this;cases this;exact hu
 ·cases e:H ea with
  | none=>rfl
  | some u=>obtain⟨o,ho⟩:=(I.hok ea u e).there;rw[m.new] at ho;cases ho
theorem XP.leave{M:Model}{E':Qa->Qd->Prop}{A:Qw}(hA:A.frames=some X.stack)(hs:X.stack=X.env::X.outer)(hf:X.env.frame=some X.env.locals)(hx:X.ex=[])(x:XP X pins σ E e s') :
 wpAny M A (leaving X.env e) (fun _ s''=>CX1 X.prog X.w X.outer X.H₀ X.s₀ E e s'') E' s':=by
 obtain⟨H,s,I,a,cls,H',base,rfl,ho,hg,xf,q⟩:=x;have fl:=xf.fl;rw[hs] at fl hA;refine JeM hA hf fl fun h' f1 f2 us=>?_
 have y:=xf.on I.stack I.stkFree f1.1 us (by rw[hs];exact f1)
 have J:Inv X pins σ H' { s' with heap:=h' }:=I.fly ho hg y
 have hfs:frs X.stack=X.env.locals::frs X.outer:=by rw[hs];unfold frs;rw[GI,hf]
 have nl:∀b o,X.s₀.heap.get? b=some o->b≠X.env.locals:=fun b o q z=>by have h1:=Qj q;rw[z] at h1;exact absurd h1 (Nat.not_lt.mpr I.ok.above)
 refine⟨a,cls,H',base,rfl,J.os,hg,⟨?_,J.hok,f2,fun b o hb hfr q=>?_,y.free,?_⟩,q⟩
 ·have:=J.base;rw[hx] at this;exact this
 ·refine y.cov b o ?_ ?_ q
  ·rcases hb with hb|⟨u,hb⟩
   ·exact .inl hb
   ·exact .inr (I.base.there b u hb (by rw[hx];simp))
  ·rw[hfs];intro z;rcases Qm.mp z with z|z
   ·rcases hb with hb|⟨u,hb⟩
    ·rw[z] at hb;exact hb J.free
    ·exact nl b u hb z
   ·exact hfr z
 ·cases z:X.s₀.heap.get? a with
  | none=>rfl
  | some u=>obtain⟨o,e⟩:=I.base.there a u z (by rw[hx];simp);rw[y.new] at e;cases e
end
end L2

namespace L2
open PySem PySem.Spec PyProof.Rows PySem.Calls
abbrev VEm:List Qa:=[.type "ValueError",.type "Exception",.type "BaseException",.type "object"]
section
variable{P:Qo}{w:QC}{K:Qn}{mg:Str->Option Qa}{base:QI}{N:List Str}{qual:Str}{scope:K3}{f:Qc}{cd:Qa}{A:Qw}{outer:List Env}{s:Qd}{H:Hp}{E:XK}
noncomputable def XOk(X:Cx)(E:XK):Prop:=∀(pins:List (Qc×Obj)) (σ:St) (e:Qa) (s':Qd),XP X pins σ E e s'->X.xe e s'
theorem xok_cx:XOk (Wu (CX1 P w) P w K mg base N qual scope f cd A outer s H E) E:=fun pins σ e s' x=>by
 have hA:(A.deeper (envOfC qual scope s.heap.objs.size f cd)).frames=some (Wu (CX1 P w) P w K mg base N qual scope f cd A outer s H E).stack:=by obtain⟨H1,s1,I,_⟩:=x;exact I.ok.frames
 exact XP.leave hA rfl rfl rfl x
theorem XOk.passes{X:Cx}{E:XK}(h:XOk X E):Uz (CX1 X.prog X.w) X E:=fun pins σ H s e s' I cx=>h pins σ e s' ⟨H,s,I,cx⟩
theorem Fun.okX{x qual:Str}{st:Gn}{f:Qc}{fd:QE}{N ps:List Str}{k:Nat}{sp:Sp}(F:Fun K x qual st f fd)(S:FnScope N ps (Jp st))(len:∀vs H Q E,sp vs H Q E->vs.length=ps.length)
 (hbody:∀(cdv:Qa) (A:Qw) (outer:List Env) (s:Qd) (H:Hp) (vs:List V) (Q:VK) (E:XK),Room k (A.deeper (envOfC qual (Jp st) s.heap.objs.size f cdv))->sp vs H Q E ->
  ∃t,PSs (Wu (CX1 P w) P w K mg base N qual (Jp st) f cdv A outer s H E) (Yx st) t/\t { nx:=fun _ H'=>Q .non H',rt:=Q } (Yr N vs) H):FnOk P w K mg base (CX1 P w) (k+1) f fd ps sp:=by
 obtain⟨oc,od,kV,doc,pm,an,cdv,ct,osl,rfl,lk,hcd⟩:=F.ex;exact Jiy lk hcd S len fun A outer s H vs Q E hr hsp=>hbody cdv A outer s H vs Q E hr hsp
end
noncomputable def Jcd(C:Qc)(E:XK)(t:TA):TS:=fun D σ H=>t σ H fun vs H1=>vs.length<=Qk/\∀a,E (.ref C) (some a) H1
section
variable{X:Cx}{x:Str}{np cpos pos:Pos}{C:Qc}{E:XK}{e:QR}{es:List QR}{t:TA}
theorem JgB{K:Qn}{h:QI}{bmB:List Qa}{newId:String}(X:K.In h)(q:excIn K C bmB newId=true):∃bm N nm q bs hdct sn sub ab col dd k0 k1 k2 k3 k5 mN,h.get? C=some (excClassObj nm q C N bs bm hdct sn sub ab col dd k0 k1 k2 k3 k5 newId)/\h.Ns N mN/\mN "__init__"=none/\OwnTail h bmB bm:=by
 unfold excIn at q;split at q
 ·rename_i dd cd sl ho;split at q
  ·rename_i C' bm k0 k1 k2 k3 n k5 hm hs;simp only[Qz,beq_iff_eq,KF] at q;obtain⟨⟨⟨⟨⟨rfl,rfl⟩,hdel⟩,ht⟩,hok⟩,hni⟩:=q;obtain⟨nm,bs,mro,ns,qn,hd,sn,sub,ab,col,del⟩:=cd;dsimp only at hm hdel hok hni;subst hm hdel
   have hsl:sl=#[k0,k1,k2,k3,some (.builtin n),k5]:=by obtain⟨l⟩:=sl;simp only at hs;rw[hs]
   subst hsl;exact⟨bm,ns,nm,qn,bs,hd,sn,sub,ab,col,dd,k0,k1,k2,k3,k5,_,X _ _ ho,.of_isNs (Mh X hok),PySem.W.nsMap_none_of_in X hok hni,Mi X ht⟩
  ·cases q
 ·cases q
theorem Jfu(ok:excIn X.K C VEm "ValueError.__new__"=true)(hg:Gl X x)(hm:X.mg x=some (.ref C))(hc:X.calm=true)(hx:XOk X E)(ha:PA X (e::es) t)(hdb:(x == ("__debug__":Str))=false:=by decide)
 (he:starEach (e::es) X.env=(false,eval e X.env)::starEach es X.env:=by rfl) (hpl:(backTo cpos (starEach es X.env)).any (·.1)=false:=by rfl) :
 PS X (.Raise (some (.Call (.Name x np) (e::es) [] cpos)) none pos) (Jcd C E t):=by
 intro pins s σ H D I h;obtain⟨tl,N,nm,q,bs,hdct,sn,sub,ab,col,dd,k0,k1,k2,k3,k5,mN,hC,hN,hni,T⟩:=JgB (h:=X.base) I.ok.mod.kin ok;refine wpAny_Raise_call_subU (C:=C) (nm:=nm) (q:=q) (N:=N) (bs:=bs) (bm:=tl) (hdct:=hdct) (sn:=sn) (sub:=sub) (ab:=ab) (col:=col) (dd:=dd) (k0:=k0) (k1:=k1) (k2:=k2) (k3:=k3) (k5:=k5)
  QZ (by decide) QZ (mN:=mN) (T.hasType QZ.hasBase) (I.ok.hd hc) (by rw[he];show(false || (backTo cpos (starEach es X.env)).any (·.1))=false;rw[hpl];rfl) hni (Y6 I hg hm ⟨rfl,?_⟩ hdb)
 have h1:=ha cpos pins s σ H _ I h;rw[he] at h1 ⊢;refine G6 (Q6 h1 (fun us s₂ ⟨vs,H1,I1,r,hl,q⟩=>⟨rfl,by rw[<- r.length];exact hl,I1.bk _ _ hC,hN.keeps I1.bk,T.keeps I1.bk,fun h' a m=>hx pins σ _ _ (XP.made I1 m (q a) rfl rfl)⟩) fun _ _ y=>y)
end
end L2

namespace L2
open PySem PySem.Spec PyProof.Rows PySem.Calls
noncomputable def XS(X:Cx)(pins:List (Qc×Obj))(E:St->XK)(e:Qa)(s':Qd):Prop:=∃σ',XP X pins σ' (E σ') e s'
noncomputable def PX(X:Cx)(e:QR)(T:XK->TE):Prop :=
 ∀(pins:List (Qc×Obj)) (s:Qd) (σ:St) (H:Hp) (Q:VK) (E:XK),Inv X pins σ H s->T E σ H Q->wpAny (model X.prog X.w) X.A (eval e X.env) (EP X pins σ Q) (XP X pins σ E) s
noncomputable def PCS(X:Cx)(st:Gn)(T:(St->XK)->TS):Prop :=
 ∀(pins:List (Qc×Obj)) (s:Qd) (σ:St) (H:Hp) (D:Ends) (E:St->XK),Inv X pins σ H s->T E D σ H->wpAny (model X.prog X.w) X.A (exec st X.env) (SP X pins D) (XS X pins E) s
noncomputable def JiZ(X:Cx)(st:List Gn)(T:(St->XK)->TS):Prop :=
 ∀(pins:List (Qc×Obj)) (s:Qd) (σ:St) (H:Hp) (D:Ends) (E:St->XK),Inv X pins σ H s->T E D σ H->wpAny (model X.prog X.w) X.A (execs st X.env) (SP X pins D) (XS X pins E) s
structure CalX (P:Qo) (w:QC) (K:Qn) (mg:Str->Option Qa) (base:QI) (x:Str) (k:Nat) (ps:List Str) (sp:Sp):Prop where
 ex:∃(f:Qc) (fd:QE),FnOk P w K mg base (CX1 P w) k f fd ps sp/\mg x=some (.ref f)/\keepIn K (.ref f)=true/\Binds K fd ps []
noncomputable def Jce(T:XK->TE):(St->XK)->TS:=fun E D σ H=>T (E σ) σ H fun _ H1=>D.nx σ H1
section
variable{X:Cx}{k:Nat}{C:Qc}{ps:List Str}{sp:Sp}{x:Str}{p pos:Pos}{e:QR}{es:List QR}{t:TA}{st:Gn}{rest:List Gn}{T:XK->TE}{TS1:(St->XK)->TS}{u:TS}
theorem Jfp{E:XK}(c:CalX X.prog X.w X.K X.mg X.base x k ps sp)(hr:Room k X.A)(hg:Gl X x)(hx:Uz (CX1 X.prog X.w) X E)(ha:PA X (e::es) t)(hdb:(x == ("__debug__":Str))=false:=by decide)
 (he:starEach (e::es) X.env=(false,eval e X.env)::starEach es X.env:=by rfl) (hpl:(backTo pos (starEach es X.env)).any (·.1)=false:=by rfl):PE X (.Call (.Name x p) (e::es) [] pos) (Vw sp [] E t):=by
 obtain⟨f,fd,F,h1,h2,h3⟩:=c.ex;exact JcX F hr hg h1 h2 h3 .nil hx ha hdb he hpl
theorem JhC(c:CalX X.prog X.w X.K X.mg X.base x k ps sp)(hr:Room k X.A)(hg:Gl X x)(ha:PA X.nox (e::es) t)(hdb:(x == ("__debug__":Str))=false:=by decide)
 (he:starEach (e::es) X.env=(false,eval e X.env)::starEach es X.env:=by rfl) (hpl:(backTo pos (starEach es X.env)).any (·.1)=false:=by rfl):PX X (.Call (.Name x p) (e::es) [] pos) (fun E=>Vw sp [] E t):=by
 obtain⟨f,fd,F,h1,h2,h3⟩:=c.ex;intro pins s σ H Q E I h;refine GP (Y6 I hg h1 ?_ hdb);refine callWith_K (h₀:=X.base) I.ok.mod.kin h2 (Q6 (ha pos pins s σ H _ (I.wish _) h) (fun us s1 ⟨vs,H1,I1,r,q⟩=>⟨I1.unwish.kIn,?_⟩) fun _ _ z=>QT z) he hpl;have I1:=I1.unwish;have r2:Vals (vs++[]) (us++[]):=r.append .nil;have hl:(us++[]).length=ps.length:=by rw[<- r2.length];exact F.len _ _ _ _ q
 refine K5 (KE (F.run X.A X.stack s1 H1 ⟨us,[]⟩ (us++[]) (vs++[]) Q E hr I1.env0 (h3 s1 us I1.kIn hl) r2 q) fun r s' hq=>?_)
 cases r with
 | error e=>exact⟨H1,s1,I1,hq⟩
 | ok fl =>
  cases fl with
  | ret u=>exact I1.after hq
  | next=>exact QT hq
  | brk=>exact QT hq
  | cont=>exact QT hq
theorem Jfm(h:PCS X st TS1):JiZ X [st] TS1:=by
 intro pins s σ H D E I q;refine Ll (thn (h pins s σ H D E I q) fun f s1 q=>?_)
 cases f with
 | next=>exact Ku q
 | ret v=>exact q
 | brk=>exact q
 | cont=>exact q
theorem Jfl(he:PX X e T)(hs:swapsWith e none pos.line X.env=pure false:=by rfl):PCS X (.Expr e pos) (Jce T):=by intro pins s σ H D E I h;exact wpAny_Expr_any (Q6 (he pins s σ H _ _ I h) (fun v s1 ⟨x,H1,I1,r1,q1⟩=>⟨σ,H1,I1,q1⟩) fun _ _ z=>⟨σ,z⟩) I.quiet hs
end
end L2
namespace L2
open PySem PySem.Spec PyProof.Rows PySem.Calls LE
noncomputable abbrev Cx.hand(X:Cx)(a:Qc):Cx:={ X with A:=X.A.mark (some (.ref a)),calm:=false,xe:=fun _ _=>False }
noncomputable def Jk0(K:Qn)(CL:Qc)(i:Nat)(T:(St->XK)->TS)(th:TS):TS:=fun D σ H=>T (fun σ' c oa H'=>∃a,oa=some a/\exmOne K (Wt c) (.ref CL)=some true ∧
 (H' a=none->th { nx:=fun σ2 H2=>D.nx (σ2.set i none) H2,rt:=D.rt,bk:=fun σ2 H2=>D.bk (σ2.set i none) H2,ct:=fun σ2 H2=>D.ct (σ2.set i none) H2 } (σ'.set i (some (.ref a))) (upd H' a (XO a c)))) D σ H
section
variable{X:Cx}{pins:List (Qc×Obj)}{σ:St}{H:Hp}{s:Qd}{a:Qc}
theorem Inv.hand(I:Inv X pins σ H s)(a:Qc):Inv (X.hand a) pins σ H s :=
 ⟨⟨I.ok.mod,I.ok.kind,I.ok.glob,I.ok.blt,I.ok.above,I.ok.inj,I.ok.has,I.ok.cab,(fun h=>nomatch h),I.ok.frames,I.ok.stk,I.ok.exf,I.ok.bs,I.ok.bsz,I.ok.noex,I.ok.exfs,I.ok.funs,I.ok.frf⟩,I.os,I.bare,I.base,I.loc,I.cell,I.free,I.freeC,I.pin,I.hok,I.len⟩
theorem Inv.unhand(hd:X.calm=true->X.A.handled=none)(I:Inv (X.hand a) pins σ H s):Inv X pins σ H s :=
 ⟨⟨I.ok.mod,I.ok.kind,I.ok.glob,I.ok.blt,I.ok.above,I.ok.inj,I.ok.has,I.ok.cab,hd,I.ok.frames,I.ok.stk,I.ok.exf,I.ok.bs,I.ok.bsz,I.ok.noex,I.ok.exfs,I.ok.funs,I.ok.frf⟩,I.os,I.bare,I.base,I.loc,I.cell,I.free,I.freeC,I.pin,I.hok,I.len⟩
theorem Inv.goes{i:Nat}{n:Str}{m:Str->Option Qa}{v:Option Qa}{h':QI}{t':Nat}(I:Inv X pins σ H s)(hi:X.N[i]?=some n)(hn:s.heap.Ns X.env.locals m)
 (hl:∀(i:Nat) (x:Str) (v:V),X.N[i]?=some x->σ[i]?=some (some v)->Vis X.env.scope x->∃u,RelV v u/\Jlj X.env s.heap m x u) (hN:X.N.Nodup) (hn':h'.Ns X.env.locals (fun x=>if x=n then v else m x)) (hs:Ke X.env.locals s.heap h'):Inv X pins (σ.set i none) H { s with heap:=h',toks:=t' }:=by
 obtain⟨oL,_,_,hoL,_⟩:=id hn;have cne:=I.cne;have hiσ:i<σ.length:=by rw[I.len];exact(Qi.mp hi).1
 refine⟨I.ok,I.os,I.bare,⟨fun b o e n hb hx=>?_,fun b o e n hb hx=>?_,I.base.free,fun b o e hx=>?_,I.base.tups,I.base.frzs,I.base.tbls⟩,⟨_,hn',fun j y v' e1 e2 e3=>?_⟩,fun y c e=>?_,I.free,I.freeC,fun p hp=>?_,fun b ob e=>?_,by simpa using I.len⟩
 ·exact(hs.2 b (QG (QD (Qj e) I.ok.above))).trans (I.base.keep b o e n hb hx)
 ·obtain⟨sl,e1⟩:=I.base.slot b o e n hb hx;exact⟨sl,(hs.2 b (QG (QD (Qj e) I.ok.above))).trans e1⟩
 ·obtain⟨o',e1⟩:=I.base.there b o e hx;exact⟨o',(hs.2 b (QG (QD (Qj e) I.ok.above))).trans e1⟩
 ·by_cases hj:j=i
  ·subst hj;rw[KB hiσ] at e2;cases e2
  ·rw[KN (Q0 hj)] at e2;obtain⟨u',r',q⟩:=hl j y v' e1 e2 e3;refine⟨u',r',?_⟩
   have hyn:y≠n:=fun z=>hj (by
    rw[z] at e1;have h1:=(Qi.mp e1)
    have h2:=(Qi.mp hi)
    exact(List.getElem_inj hN).mp (h1.2.trans h2.2.symm))
   rcases q with ⟨k1,k2⟩|⟨k1,c,k2,k3⟩
   ·exact .inl ⟨k1,by show(if y=n then v else m y)=some u';rw[if_neg hyn];exact k2⟩
   ·refine .inr ⟨k1,c,k2,?_⟩;obtain⟨oc,e4,e5⟩:=k3;exact⟨oc,(hs.2 c (cne y c k2)).trans e4,e5⟩
 ·obtain⟨v,oc,e4,e5⟩:=I.cell y c e;exact⟨v,oc,(hs.2 c (cne y c e)).trans e4,e5⟩
 ·obtain⟨h1,h2,h3,h4⟩:=I.pin p hp;exact⟨(hs.2 p.1 h3).trans h1,h2,h3,h4⟩
 ·refine(I.hok b ob e).stay (fun c w' hc q=>(hs.2 c ?_).trans q) (fun _ q=>q) fun _ _ q=>q
  rintro rfl;rcases hc with rfl|hc
  ·rw[I.free] at e;cases e
  ·rw[I.free] at hc;cases hc
theorem Inv.track{o:HO}(I:Inv X pins σ H s)(hx:X.ex=[])(ha:H a=none)(h0:X.s₀.heap.get? a=none)(hL:a≠X.env.locals)(hC:∀x c,X.env.cells.lookup x=some c->c≠a)(hP:∀p∈X.pn++pins,p.1≠a)(new:ObjOk X.prog X.w (upd H a o) s.heap a o):Inv X pins σ (upd H a o) s:=by
 have nt:∀b u,H b=some u->b≠a:=fun b u e z=>by rw[z,ha] at e;cases e
 refine⟨I.ok,I.os,I.bare,⟨I.base.keep,I.base.slot,fun b u e n hb=>?_,I.base.there,fun b xs e=>?_,fun b u xs e=>?_,fun b ps e=>?_⟩,I.loc,I.cell,?_,fun x c e=>?_,fun p hp=>?_,fun b u e=>?_,I.len⟩
 ·rw[Jj (fun z=>by rw[z,h0] at e;cases e)];exact I.base.free b u e n hb
 ·have:=I.base.tups b xs e;rw[Jj (nt _ _ this)];exact this
 ·have:=I.base.frzs b u xs e;rw[Jj (nt _ _ this)];exact this
 ·obtain⟨m,this⟩:=I.base.tbls b ps e;exact⟨m,by rw[Jj (nt _ _ this)];exact this⟩
 ·rw[Jj (Q0 hL)];exact I.free
 ·rw[Jj (hC x c e)];exact I.freeC x c e
 ·obtain⟨h1,h2,h3⟩:=I.pin p hp;exact⟨h1,by rw[Jj (hP p hp)];exact h2,h3⟩
 ·by_cases hb:b=a
  ·subst hb;rw[JE] at e;cases e;exact new
  ·rw[Jj hb] at e;exact(I.hok b u e).stay (fun _ _ _ q=>q) (fun c q=>by rw[Jj (nt _ _ q)];exact q) fun c xs q=>by rw[Jj (nt _ _ q)];exact q
end
section
variable{X:Cx}{body suite:List Gn}{b₀:Gn}{i:Nat}{n cn:Str}{np hpos pos:Pos}{CL:Qc}{T:(St->XK)->TS}{th:TS}
theorem Jkh(hs:X.stack=X.env::X.outer)(hf:X.env.frame=some X.env.locals)(hx:X.ex=[])(hN:X.N.Nodup)(hi:X.N[i]?=some n)(hk:X.env.kindOf n=some .local)(hg:Gl X cn)(hm:X.mg cn=some (.ref CL))
 (hb:JiZ X body T) (hh:∀a,PSs (X.hand a) (b₀::suite) th) (hdb:(cn == ("__debug__":Str))=false:=by decide) :
 PS X (.Try body [.ExceptHandler (some (.Name cn np)) (some n) (b₀::suite) hpos] [] [] pos) (Jk0 X.K CL i T th):=by
 intro pins s σ H D I h;refine wpAny_Try_except (Q6 (hb pins s σ H D _ I h) (fun f s1 q=>?_) fun e s1 ⟨σ',Hc,sc,Ic,a,cls,H',base,he,ho,hgn,xf,hE⟩=>?_)
 ·cases f with
  | next=>exact Ku q
  | ret v=>exact q
  | brk=>exact q
  | cont=>exact q
 ·subst he;obtain⟨a',ea,hxm,hth⟩:=hE;cases ea;have fl:=xf.fl;rw[hs] at fl;have hfr:X.A.frames=some (X.env::X.outer):=by rw[<- hs];exact Ic.ok.frames
  refine Jcz hfr hf fl fun h1 x1 x2 x3 x4=>?_
  refine Z6 (s:={ s1 with heap:=h1 }) x1 x2 x3 fun h2 y1 y2 y3 y4=>?_
  have J:Inv X pins σ' H' { s1 with heap:=h2 }:=Ic.fly ho hgn (xf.on Ic.stack Ic.stkFree y1 (x4.trans y4) (by rw[hs];exact⟨y1,fl.2.1,y2,.inl y3⟩))
  have LT:Looks (model X.prog X.w) h2 (typeOf (.ref a)) (Wt cls):=by obtain⟨oe,_,_,_,_,he,⟨hc,_⟩,_⟩:=y3;exact hc▸(PySem.W.Looks.ld he).andThen .now
  refine wpAny_handleBy_cons (codeAny_handlers_test (Y6 (X:=X.hand a) (J.hand a) hg hm ?_ hdb)) (by intro q;cases q);refine PySem.W.exm_one J.kIn LT hxm _ _ _ _ (fun _ _ q=>q) ?_;rw[if_pos rfl];refine codeAny_handlers_suite_as ?_;refine Z6 (s:={ s1 with heap:=h2 }) y1 y2 y3 fun h3 z1 z2 z3 z4=>?_
  have Y3:=xf.on Ic.stack Ic.stkFree z1 ((x4.trans y4).trans z4) (by rw[hs];exact⟨z1,fl.2.1,z2,.inl z3⟩)
  have J3:Inv X pins σ' H' { s1 with heap:=h3 }:=Ic.fly ho hgn Y3;obtain⟨oe,vs,_,_,_,he,⟨hc,hdn⟩,hd,_⟩:=z3
  have ncl:notCls oe=true:=by unfold notCls;rw[hd]
  have was:∀b o,sc.heap.get? b=some o->b≠a:=fun b o q z=>by rw[z,xf.new] at q;cases q
  have J4:Inv X pins σ' (upd H' a (XO a cls)) { s1 with heap:=h3 }:=by
   refine J3.track hx xf.free ?_ ?_ (fun x c e=>?_) (fun p hp=>?_) ⟨⟨oe,he,hc,ncl,hdn⟩,⟨oe,he⟩,fun g1 g2 ⟨o,q,r⟩ k=>⟨o,k o q,r⟩⟩
   ·cases z:X.s₀.heap.get? a with
    | none=>rfl
    | some u=>obtain⟨o,e⟩:=Ic.base.there a u z (by rw[hx];simp);exact absurd rfl (was a o e)
   ·obtain⟨m,⟨o,_,_,e,_⟩,_⟩:=Ic.loc;exact Q0 (was _ o e)
   ·obtain⟨v,o,e,_⟩:=Ic.cell x c e;exact was c o e
   ·exact was _ _ (Ic.pin p hp).1
  refine W4 (X:=X.hand a) (J4.hand a) hN hi (.inl hk) (show RelV (.ref a) (.ref a) from rfl) (fun s4 I4=>?_) (.inr hk);refine Q6 (hh a pins s4 _ _ _ I4 (hth xf.free)) (fun f s5 q=>?_) fun _ _ z=>QT z
  have hp:(X.env.scope.kind == .class || (X.env.scope.kind == .module && X.env.locals != X.env.globals))=false:=by rw[I.ok.kind];rfl
  cases f with
  | next=>obtain⟨σ5,H5,I5,q5⟩:=q;have I5':=I5.unhand I.ok.hd;obtain⟨m,hn,hl⟩:=id I5'.loc;exact G8 hk hn hp fun h6 v n6 s6=>⟨_,H5,I5'.goes hi hn hl hN n6 s6,q5⟩
  | brk=>obtain⟨σ5,H5,I5,q5⟩:=q;have I5':=I5.unhand I.ok.hd;obtain⟨m,hn,hl⟩:=id I5'.loc;exact G8 hk hn hp fun h6 v n6 s6=>⟨_,H5,I5'.goes hi hn hl hN n6 s6,q5⟩
  | cont=>obtain⟨σ5,H5,I5,q5⟩:=q;have I5':=I5.unhand I.ok.hd;obtain⟨m,hn,hl⟩:=id I5'.loc;exact G8 hk hn hp fun h6 v n6 s6=>⟨_,H5,I5'.goes hi hn hl hN n6 s6,q5⟩
  | ret u=>obtain⟨v5,σ5,H5,I5,r5,q5⟩:=q;have I5':=I5.unhand I.ok.hd;obtain⟨m,hn,hl⟩:=id I5'.loc;exact G8 hk hn hp fun h6 v n6 s6=>⟨v5,_,H5,I5'.goes hi hn hl hN n6 s6,r5,q5⟩
end
end L2

namespace L2
open PySem PySem.Spec PyProof.Rows PySem.Calls LE
structure ExcN (K:Qn) (n:Str):Prop where
 pl:∀c,nsIn K mainGlobals n=some (some (.ref c))->findIn K (.ref c) "__getattribute__"=some (some (.builtin "BaseException.__getattribute__"))/\findIn K (.ref c) "__getattr__"=some none/\mroIn K c (.type "BaseException")=some true/\hasDictIn K c=true/\findIn K (.ref c) "__class__"=some (some (.builtin "object.__class__"))/\mroIn K c (.type "object")=some true
structure ExcG (K:Qn):Prop where
 hn:specialIn K (.builtin "object.__class__") "__get__"=some (some (.builtin "getset_descriptor.__get__"))
 htk:takesIn K (.builtin "object.__class__")=some true
section
variable{prog:Qo}{w:QC}{A:Qw}{E:Qa->Qd->Prop}{s:Qd}{K:Qn}{x C D:Qc}{ox:Obj}
theorem Jdx{Q:Option Qa->Qd->Prop}(X:K.In s.heap){od:Option Obj}(I:InstAt s.heap x ox D od)(hga:findIn K (.ref D) "__getattribute__"=some (some (.builtin "BaseException.__getattribute__")))
 (hgn:findIn K (.ref D) "__getattr__"=some none) (hmB:mroIn K D (.type "BaseException")=some true)
 (hf:findObj K D od "__class__"=some (.bind (.builtin "getset_descriptor.__get__") (.builtin "object.__class__"))) (hm:mroIn K D (.type "object")=some true)
 (h:Q (some (.ref D)) { s with toks:=s.toks+1 }):wpAny (model prog w) A (getAttr? (.ref x) "__class__") Q E s:=by
 obtain⟨hh,g,d,t,os⟩:=s;have L0:=I.type (M:=model prog w);have L1:=looks_findIn (M:=model prog w) X hga;have L2:=looks_findIn (M:=model prog w) X hgn;have f3:=Gv.ga.bind (.ref x);unfold getAttr? getAttrBy? getAttrBy;refine Qf (wpAny_mkText (Qf (wpAny_attempt (Gx (Qf (L0.at (Qf (L1.at ?_))))))));have hx2:(Value.builtin "BaseException.__getattribute__" == Value.builtin "object.__getattribute__")=false:=by decide +kernel
 have hx1:(onTheHeap (Value.ref D) && Value.builtin "BaseException.__getattribute__" == Value.builtin "object.__getattribute__")=false:=by rw[hx2];rfl
 repeat (any_goals (first|assumption|(with_reducible refine L0.at ?_)|(with_reducible refine L1.at ?_)|(with_reducible refine L2.at ?_)|wp_step))
 have LB:=looks_mroIn (M:=model prog w) X hmB
 have LF:=Mj (M:=model prog w) X I hf
 have hk:builtinKind "BaseException.__getattribute__"=some .slot:=by decide +kernel
 have hsplit:splitId "BaseException.__getattribute__"=some ("BaseException","__getattribute__"):=by decide +kernel
 have hag:=L4 (.ref x) (Value.str "__class__" t);refine G9 Gv.ga.plain LO ?_;simp only[QU,Kz,checkBuiltinCall,hk,hsplit];refine Qf ?_;unfold isInstance
 repeat (first|(with_reducible refine L0.at ?_)|(with_reducible refine LB.at ?_)|(with_reducible refine LF.at ?_)|wp_step)
 refine PySem.W.class_get (s:=⟨hh,g,d,t+1,os⟩) (ox:=ox) (od:=od) X I hm ?_;show wpAny (model prog w) A.in1 (ret (Value.ref D)) _ _ _;refine Qv ?_;exact Mu rfl (Qv h)
end
section
variable{K:Qn}{x D:Qc}{ox:Obj}{od:Option Obj}
theorem Zj{a g:Qa}{name:Str}(hc:(clsIn K D).isSome=true)(ha:findIn K (.ref D) name=some (some a))(hg:specialIn K a "__get__"=some (some g))(ht:takesIn K a=some true):findObj K D od name=some (.bind g a):=by obtain⟨cd,hc⟩:=Kp.mp hc;unfold findObj;rw[hc,QF,ha,QF];simp[hg,ht]
theorem Je4(hga:findIn K (.ref D) "__getattribute__"=some (some (.builtin "BaseException.__getattribute__")))(hgn:findIn K (.ref D) "__getattr__"=some none)(hmB:mroIn K D (.type "BaseException")=some true)(hdct:hasDictIn K D=true)(ha:findIn K (.ref D) "__class__"=some (some (.builtin "object.__class__")))
 (hn:specialIn K (.builtin "object.__class__") "__get__"=some (some (.builtin "getset_descriptor.__get__"))) (htk:takesIn K (.builtin "object.__class__")=some true) (hm:mroIn K D (.type "object")=some true) :
 PySem.W.KitX K (.ref x) (.ref D) (fun h=>InstAt h x ox D od) where
 ty:=fun _ _ _ I=>I.type
 it:=fun _ _ X _=>by
  obtain⟨cdD,hcD,_⟩:=any_some hdct;unfold clsIn at hcD;split at hcD
  ·rename_i c' d' cd' sl' ho;intro A' Q' E' s' k q;unfold isType loadHead;exact Qf (LX (k _ _ (X _ _ ho)) (Qv q))
  ·cases hcD
 ne:=fun h tp dd its n sl X htp=>by
  obtain⟨cdD,hcD,_⟩:=any_some hdct;refine Bool.eq_false_iff.mpr fun q=>?_
  have e:D=tp:=Value.ref.inj (beq_iff_eq.mp q);subst e;unfold clsIn at hcD;split at hcD
  ·rename_i c' d' cd' sl' ho;have z:=(X _ _ ho).symm.trans htp;cases z
  ·cases hcD
 ca:=fun {_ _ _ _ _ s} X I k=>by have hf:findObj K D od "__class__"=some (.bind (.builtin "getset_descriptor.__get__") (.builtin "object.__class__")):=Zj (by obtain⟨cd,hc,_⟩:=any_some hdct;rw[hc];rfl) ha hn htk;exact Jdx X I hga hgn hmB hf hm k
end
section
variable{X:Cx}
inductive TyX (K:Qn) (H:Hp):V->Qa->Prop where
 | of {x:V} {t:Qa} (h:TyS K H x t):TyX K H x t
 | exc {a c:Qc} {v:Qa} {n:Str} (h:H a=some (XO a v)) (hv:Wt v=.ref c) (hd:XdO v H) (e:nsIn K mainGlobals n=some (some (.ref c))) (N:ExcN K n) (G:ExcG K):TyX K H (.ref a) (.ref c)
theorem Jjj{pins:List (Qc×Obj)}{σ:St}{H:Hp}{s:Qd}{a c:Qc}{v:Qa}(I:Inv X pins σ H s)(z:H a=some (XO a v))(hv:Wt v=.ref c)(hd:XdO v H):∃o od,InstAt s.heap a o c od:=by
 obtain⟨⟨o,h1,h2,h3,h4⟩,_⟩:=(show ObjOk X.prog X.w H s.heap a (XO a v) from I.hok a _ z)
 unfold XdO at hd
 cases q:JaN v with
 | none=>rw[q] at h4;exact⟨o,none,h1,h2.trans hv,h3,by rw[h4];trivial⟩
 | some t =>
  rw[q] at h4 hd;obtain⟨fs,hd⟩:=hd;obtain⟨_,⟨od,_,_,e,_⟩,_⟩:=(show ObjOk X.prog X.w H s.heap t (.xd fs) from I.hok t _ hd)
  exact⟨o,some od,h1,h2.trans hv,h3,by rw[h4];exact e⟩
theorem JbN{pins:List (Qc×Obj)}{σ:St}{H:Hp}{s:Qd}{A:Qw}{E:Qa->Qd->Prop}{Q:Qa->Qd->Prop}{c:Qa}{b:Bool}{x:V}{u t:Qa}(I:Inv X pins σ H s)(rx:RelV x u)(ty:TyX X.K H x t)(e:kitOne X.K t c=some b)(h:∀tk,Q (.bool b) { s with toks:=tk }) :
 wpAny (model X.prog X.w) A (call (.builtin "isinstance") [u,c]) Q E s:=by
 cases ty with
 | of z=>exact WF I rx z e h
 | @exc a c' v n z hv hd e' N G=>cases (show u=Value.ref a from rx);obtain⟨o,od,J⟩:=Jjj I z hv hd;obtain⟨q1,q2,q3,p2,p3,p4⟩:=N.pl c' e';exact kia_one (Je4 q1 q2 q3 p2 p3 G.hn G.htk p4) I.kIn J e (fun z=>nomatch z) h
noncomputable def JhD(K:Qn):List V->Hp->VK->Prop:=fun vs H Q=>∃x c t tc b,vs=[x,c]/\TyX K H x t/\(∀u,RelV c u->u=tc)/\kitOne K t tc=some b/\Q (.bl b) H
theorem Jel:CallR X (.builtin "isinstance") (JhD X.K):=by intro pins s σ H xs us Q I r h;obtain⟨x,c,t,tc,b,rfl,ty,hc,e,q⟩:=h;obtain⟨u,w',rfl,r1,r2⟩:=JiT r;cases hc w' r2;exact JbN I r1 ty e fun tk=>⟨.bl b,H,I.tok tk,rfl,q⟩
end
end L2

namespace LE
open PySem L2 LR
noncomputable abbrev Xv:=En->Option Xm
section
variable(K:Qn)(C:Qc)
noncomputable def spR(n:Nat)(ex:List Sl->Option Xm):Sp:=fun vs H Q W=>∃H0 as m,Same H0 H/\RRL K C H H0 H vs as/\as.all (fun s=>!JK s)=true/\as.length=n/\ex as=some m ∧
 ∀c a H0' H',XC K m c H0'->Step H H0 H H0' H'->W c (some a) H'
noncomputable def spX(n:Nat)(f:List Sl->Option Sl)(ex:List Sl->Option Xm):Sp:=fun vs H Q W=>spE K C n f vs H Q W\/spR K C n ex vs H Q W
noncomputable def SXE(W:XK)(te:TE)(ex:Xv):Prop:=∀(B H0 H:Hp) (σ:St) (E:En) (m:Xm) (Q:VK),EnvR K C B H0 H σ E->ex E=some m ->
 (∀c a H0' H',XC K m c H0'->Step H H0 H H0' H'->W c (some a) H')->te σ H Q
noncomputable def SXS(W:XK)(ts:TS)(ex:Xv):Prop:=∀(B H0 H:Hp) (σ:St) (E:En) (m:Xm) (D:Ends),EnvR K C B H0 H σ E->ex E=some m ->
 (∀c a H0' H',XC K m c H0'->SStep B H0 H0' H'->W c (some a) H')->ts D σ H
noncomputable def SXT(T:(St->XK)->TS)(ex:Xv):Prop:=∀(B H0 H:Hp) (σ:St) (E:En) (m:Xm) (D:Ends) (W:St->XK),EnvR K C B H0 H σ E->ex E=some m ->
 (∀c a H0' H',XC K m c H0'->Step H H0 H H0' H'->W σ c (some a) H')->T W D σ H
end
theorem Jid{K:Qn}{C:Qc}{n:Nat}{f:List Sl->Option Sl}{ex:List Sl->Option Xm}{vs:List V}{H:Hp}{Q:VK}{W:XK}(h:spX K C n f ex vs H Q W):vs.length=n:=by
 rcases h with ⟨_,as,_,_,r,_,hl,_⟩|⟨_,as,_,_,r,_,hl,_⟩
 ·rw[r.len,hl]
 ·rw[r.len,hl]
noncomputable def Uc:Xv:=fun _=>none
noncomputable def Yv(a:Es)(ea eb:Xv):Xv:=fun E=>match ea E with
 | some m=>some m
 | none=>match a E with
  | some (.nx E')=>eb E'
  | _=>none
noncomputable def U1(c:En->Option Bool)(a b:Xv):Xv:=fun E=>(c E).bind fun k=>if k=true then a E else b E
noncomputable def exU(n:Nat)(ex:List Sl->Option Xm)(as:En->Option (List Sl)):Xv:=fun E=>(as E).bind fun ss=>(UX ss).bind fun bs=>if bs.length=n then ex bs else none
noncomputable def YN(m:Str)(as:En->Option (List Sl)):Xv:=fun E=>(as E).bind fun ss=>if ss.length<=1000 then some (m:Xm) else none
noncomputable def Ud(N:Nat)(b:Xv):List Sl->Option Xm:=fun as=>b (as++QK (N-as.length) .no)
section
variable{K:Qn}{C:Qc}{W:XK}{t:TA}{ev:En->Option (List Sl)}{te:TE}{ts us:TS}{et eu:Es}{xt xu:Xv}{ex:Xv}
theorem JhY{n:Nat}{f:List Sl->Option Sl}{x:List Sl->Option Xm}{W:XK}(ha:SA K C t ev):SE K C (Vw (spX K C n f x) [] W t) (eU n f ev):=by
 intro B H0 H σ E c Q I e q;obtain⟨ss,e1,e⟩:=bind_some e;obtain⟨bs,e2,e⟩:=bind_some e;split at e
 ·next hl=>refine Vq (ha B H0 H σ E ss _ I e1 fun vs H1 H1' s1 r1=>?_);obtain⟨h1,h2⟩:=r1.pass s1.i e2;have f:=JX (Hs:=H) s1.i;exact .inl ⟨_,bs,c,f.i,h1,h2,hl,e,fun v H2 H2' s2 r2=>q v H2 H2' ((s1.comp f fun _ z=>z).comp s2 fun a z=>Same.free s1.h z) (r2.weak fun a z=>Same.free s1.h z)⟩
 ·cases e
theorem Jis{n:Nat}{f:List Sl->Option Sl}{x:List Sl->Option Xm}(ha:SA K C t ev):SXE K C W (Vw (spX K C n f x) [] W t) (exU n x ev):=by
 intro B H0 H σ E m Q I e q;obtain⟨ss,e1,e⟩:=bind_some e;obtain⟨bs,e2,e⟩:=bind_some e;split at e
 ·next hl=>refine Vq (ha B H0 H σ E ss _ I e1 fun vs H1 H1' s1 r1=>?_);obtain⟨h1,h2⟩:=r1.pass s1.i e2;have f:=JX (Hs:=H) s1.i;exact .inr ⟨_,bs,m,f.i,h1,h2,hl,e,fun c a H2 H2' hc s2=>q c a H2 H2' hc ((s1.comp f fun _ z=>z).comp s2 fun a z=>Same.free s1.h z)⟩
 ·cases e
theorem U3:SXS K C W ts Uc:=fun _ _ _ _ _ _ _ _ e _=>by cases e
theorem Uu(h1:SS K C ts et)(x1:SXS K C W ts xt)(x2:SXS K C W us xu):SXS K C W (Jd6 ts us) (Yv et xt xu):=by
 intro B H0 H σ E m D I e q;unfold Yv at e;split at e
 ·next m' hm=>cases e;exact x1 B H0 H σ E m _ I hm q
 ·split at e
  ·next E' hE=>refine h1 B H0 H σ E _ _ I hE ?_;exact fun σ' H1 H1' s1 I1=>x2 B H1 H1' σ' E' m D I1 e fun c a H2 H2' hc s2=>q c a H2 H2' hc (s1.trans s2)
  ·cases e
theorem ZX{c:TT}{ec:En->Option Bool}(hc:ST K C c ec)(x1:SXS K C W ts xt)(x2:SXS K C W us xu):SXS K C W (Jih c ts us) (U1 ec xt xu):=by
 intro B H0 H σ E m D I e q;obtain⟨k,e1,e⟩:=bind_some e;refine hc B H0 H σ E k _ I e1 fun H1 H1' s1=>?_
 have s1':=s1.ss I.b
 cases k with
 | true=>rw[if_pos rfl] at e ⊢;exact x1 B H1 H1' σ E m D (I.step s1) e fun c a H2 H2' hc s2=>q c a H2 H2' hc (s1'.trans s2)
 | false=>rw[if_neg (by decide)] at e ⊢;exact x2 B H1 H1' σ E m D (I.step s1) e fun c a H2 H2' hc s2=>q c a H2 H2' hc (s1'.trans s2)
theorem Jit(h:SXE K C W te ex):SXS K C W (ZU te) ex:=fun B H0 H σ E m D I e q=>h B H0 H σ E m _ I e fun c a H1 H1' hc s1=>q c a H1 H1' hc (s1.ss I.b)
theorem Jle(h:SXE K C W te ex):SXS K C W (Jf2 te) ex:=fun B H0 H σ E m D I e q=>h B H0 H σ E m _ I e fun c a H1 H1' hc s1=>q c a H1 H1' hc (s1.ss I.b)
theorem Zd{m:Str}{c:Qc}(hc:nsIn K mainGlobals m=some (some (.ref c)))(ha:SA K C t ev):SXS K C W (Jcd c W t) (YN m ev):=by
 intro B H0 H σ E m' D I e q;obtain⟨ss,e1,e⟩:=bind_some e;split at e
 ·next hl =>
  cases e;refine ha B H0 H σ E ss _ I e1 fun vs H1 H1' s1 r1=>⟨?_,fun a=>q (.ref c) a H1 H1' ⟨c,hc,rfl⟩ (s1.ss I.b)⟩
  rw[r1.len];exact QP hl (by decide)
 ·cases e
theorem Jir{T:XK->TE}{ex:Xv}(h:∀W,SXE K C W (T W) ex):SXT K C (Jce T) ex:=fun B H0 H σ E m D W I e q=>h (W σ) B H0 H σ E m _ I e q
end
section
variable{K:Qn}{C:Qc}{B H0 H:Hp}{σ:St}{E:En}
theorem ZC{N:List Str}{vs:List V}{as:List Sl}(i:Same H0 H)(ra:RRL K C H H0 H vs as)(ho:as.all (fun s=>!JK s)=true):EnvR K C H H0 H (L2.Yr N vs) (as++QK (N.length-as.length) .no):=by
 have lens:=ra.len
 have noOwn:∀(j:Nat) (s:Sl),as[j]?=some s->JK s=false:=fun j s e=>by
  have:=QS.mp ho s (QQ e)
  simpa using this
 have get:∀(j:Nat) (s:Sl),(as++QK (N.length-as.length) Sl.no)[j]?=some s->s=.no\/as[j]?=some s:=fun j s e=>by
  by_cases hj:j<as.length
  ·rw[QA hj] at e;exact .inr e
  ·rw[QN (by omega),GJ] at e;split at e
   ·cases e;exact .inl rfl
   ·cases e
 refine⟨Same.refl _,i,by simp[L2.Yr,lens],fun j s e=>?_,fun j k s1 s2 v hjk e1 e2 w1 w2=>?_⟩
 ·rcases get j s e with z|z
  ·exact .inl z
  ·obtain⟨v,h1,h2⟩:=ra.get z;refine .inr ⟨v,?_,?_⟩
   ·unfold L2.Yr;rw[QA (by have:=(Qi.mp h1).1;simpa using this),QJ,h1];rfl
   ·cases s with
    | no=>trivial
    | sh d=>exact h2
    | bo ds=>exact h2
    | own ds=>exact absurd (noOwn j _ z) (by simp[JK])
    | bd ks ds=>exact h2
    | bt ks ds=>exact h2
    | od ks ds=>exact absurd (noOwn j _ z) (by simp[JK])
    | ot ks ds=>exact absurd (noOwn j _ z) (by simp[JK])
 ·rcases get j _ e1 with z|z
  ·subst z;cases w1
  ·rw[noOwn j _ z] at w1;cases w1
theorem JeN{N:List Str}{n:Nat}{b:Es}{x:Xv}{ts:TS}{vs:List V}{Q:VK}{W:XK}(hb:SS K C ts b)(hx:SXS K C W ts x)(h:spX K C n (Uf N.length b) (Ud N.length x) vs H Q W):ts { nx:=fun _ H'=>Q .non H',rt:=Q } (L2.Yr N vs) H:=by
 rcases h with h|⟨H0,as,m,i,ra,ho,hl,e,q⟩
 ·exact Z7 hb h
 ·exact hx H H0 H _ _ m _ (ZC i ra ho) e fun c a H1 H1' hc s1=>q c a H1 H1' hc ⟨s1.b,s1.z,s1.n,s1.i⟩
theorem EnvR.del(I:EnvR K C B H0 H σ E)(i:Nat):EnvR K C B H0 H (σ.set i none) (E.set i .no):=by
 refine⟨I.b,I.h,by simp[I.len],fun j s e=>?_,fun j k s1 s2 v hjk e1 e2 o1 o2 e3 e4=>?_⟩
 ·rw[QM] at e
  by_cases hj:i=j
  ·rw[if_pos hj] at e;split at e
   ·cases e;exact .inl rfl
   ·cases e
  ·rw[if_neg hj] at e;rcases I.at' j s e with z|⟨v,h1,h2⟩
   ·exact .inl z
   ·exact .inr ⟨v,by rw[QM,if_neg hj];exact h1,h2⟩
 ·have ne:∀(j:Nat) (s:Sl),(E.set i Sl.no)[j]?=some s->JK s=true->i≠j/\E[j]?=some s:=fun j s e o=>by
   rw[QM] at e
   by_cases hj:i=j
   ·rw[if_pos hj] at e;split at e
    ·cases e;cases o
    ·cases e
   ·rw[if_neg hj] at e;exact⟨hj,e⟩
  obtain⟨n1,f1⟩:=ne j s1 e1 o1;obtain⟨n2,f2⟩:=ne k s2 e2 o2;rw[QM,if_neg n1] at e3;rw[QM,if_neg n2] at e4;exact I.sep j k s1 s2 v hjk f1 f2 o1 o2 e3 e4
end
noncomputable def Jj8(i:Nat):Out->Out
 | .nx E=>.nx (E.set i .no)
 | .rt r=>.rt r
 | .bk E=>.bk (E.set i .no)
 | .ct E=>.ct (E.set i .no)
noncomputable def JbC(R:List Str)(i:Nat)(b:Es)(x:Xv)(h:Es):Es:=fun E=>match b E with
 | some o=>some o
 | none=>(x E).bind fun m=>if m.n∈R/\i<E.length then(h (E.set i (.sh (.exc m)))).map (Jj8 i) else none
section
variable{K:Qn}{C:Qc}
theorem Jmb{R:List Str}{CL:Qc}{i:Nat}{T:(St->XK)->TS}{th:TS}{b h:Es}{x:Xv}(hm:∀m∈R,∀c,nsIn K mainGlobals m=some (some (.ref c))->exmOne K (.ref c) (.ref CL)=some true)
 (hb:∀W,SS K C (T W) b) (hx:SXT K C T x) (hh:SS K C th h):SS K C (Jk0 K CL i T th) (JbC R i b x h):=by
 intro B H0 H σ E o D I e fin;unfold JbC at e;split at e
 ·next o' hE=>cases e;exact hb _ B H0 H σ E o D I hE fin
 ·obtain⟨m,e1,e⟩:=bind_some e;split at e
  ·next hR =>
   obtain⟨o',e2,rfl⟩:=map_some e;refine hx B H0 H σ E m D _ I e1 fun c a H1 H1' hc s1=>⟨a,rfl,(by obtain⟨c',k1,k2⟩:=hc.cls;rw[k2];exact hm m.n hR.1 c' k1),fun ha=>?_⟩
   have ha0:H1 a=none:=by
    cases z:H1 a with
    | none=>rfl
    | some u=>rw[s1.i a u z] at ha;cases ha
   have I1:=I.step s1
   have st:Step H1' H1 H1' (upd H1 a (XO a c)) (upd H1' a (XO a c)):=by
    refine⟨fun b u z=>?_,fun b u z=>?_,fun b u z=>?_,fun b u z=>?_⟩
    ·rw[Jj (Jt z ha)];exact z
    ·rw[Jj (Jt z ha0)];exact z
    ·by_cases hb:b=a
     ·subst hb;exact .inr (.inl ha)
     ·rw[Jj hb] at z;exact .inl z
    ·by_cases hb:b=a
     ·subst hb;rw[JE] at z ⊢;exact z
     ·rw[Jj hb] at z ⊢;exact s1.i b u z
   have I2:EnvR K C B (upd H1 a (XO a c)) (upd H1' a (XO a c)) (σ.set i (some (.ref a))) (E.set i (.sh (.exc m))) :=
    I1.put' st hR.2 (show RR K C H1' _ _ (.ref a) (.sh (.exc m)) from RD.exc JE (hc.mono fun b u z=>by rw[Jj (Jt z ha0)];exact z)) rfl
   have ss:SStep B H0 (upd H1 a (XO a c)) (upd H1' a (XO a c)):=(s1.ss I.b).trans (st.ss I1.b);refine hh B _ _ _ _ o' _ I2 e2 ?_
   cases o' with
   | nx E2=>exact fun σ' H2 H2' s2 I3=>fin _ H2 H2' (ss.trans s2) (I3.del i)
   | bk E2=>exact fun σ' H2 H2' s2 I3=>fin _ H2 H2' (ss.trans s2) (I3.del i)
   | ct E2=>exact fun σ' H2 H2' s2 I3=>fin _ H2 H2' (ss.trans s2) (I3.del i)
   | rt r=>exact fun v H2 H2' s2 r2=>fin v H2 H2' (ss.trans s2) r2
  ·cases e
end
noncomputable def exB(n m:Str):Bool:=n == m || m == "LumpError"
noncomputable def Jml(R:List Str)(m:Str):D->Option Bool
 | .exc n=>if n.n∈R then some (exB n.n m) else none
 | .non=>some false
 | _=>none
noncomputable def VC(R:List Str)(m:Str)(a:Ev):Ev:=fun E=>(a E).bind fun s=>s.d.bind fun d=>(Jml R m d).map fun b=>.sh (.bl b)
noncomputable def Jlp(R:List Str)(a:Ev):Ev:=fun E=>(a E).bind fun s=>s.d.bind fun d=>(match d with|.exc n=>if n.n∈R then some true else none|.non=>some false|_=>none).map fun b=>.sh (.bl b)
section
variable{K:Qn}{C:Qc}{te:TE}{ea:Ev}
structure IsiN (K:Qn) (R:List Str) (m:Str) (c:Qc):Prop where
 own:∀n∈R,ExcN K n
 g:ExcG K
 k:∀n∈R,∀c',nsIn K mainGlobals n=some (some (.ref c'))->kitOne K (.ref c') (.ref c)=some (exB n m)
 o:kitOne K (.type "NoneType") (.ref c)=some false
theorem Uv{R:List Str}{m:Str}{c:Qc}(N:IsiN K R m c)(ha:SE K C te ea):SE K C (tCB (JhD K) (Y0 te (Y0 (tC (.ref c)) Zo))) (VC R m ea):=by
 intro B H0 H σ E r Q I e q;obtain⟨a,e1,e⟩:=bind_some e;obtain⟨d,e2,e⟩:=bind_some e;obtain⟨b,e3,rfl⟩:=map_some e;refine ha B H0 H σ E a _ I e1 fun x H1 H1' s1 r1=>?_
 have rd:=r1.dat s1.i e2
 cases d with
 | exc n =>
  have e3:(if n.n∈R then some (exB n.n m) else none)=some b:=e3;split at e3
  ·next hn=>cases e3;obtain⟨a',c',rfl,hx,hc⟩:=RD.excI rd;obtain⟨c1,k1,k2⟩:=hc.cls;exact⟨_,_,_,_,_,rfl,.exc hx k2 hc.xd k1 (N.own n.n hn) N.g,fun u z=>z,N.k n.n hn c1 k1,q _ _ _ s1 (RD.bl _)⟩
  ·cases e3
 | non=>cases e3;cases RD.nonI rd;exact⟨_,_,_,_,_,rfl,.of (.of .non),fun u z=>z,N.o,q _ _ _ s1 (RD.bl _)⟩
 | _=>cases e3
end
end LE
namespace L2
open PySem PySem.Spec PyProof.Rows PySem.Calls LE
section
variable{X:Cx}
end
end L2
namespace LE
open PySem L2 LR
noncomputable def IsiL(K:Qn)(R:List Str):List Str->List Qc->Prop
 | [],[]=>True
 | m::ms,c::cs=>IsiN K R m c/\IsiL K R ms cs
 | _,_=>False
theorem IsiL.exc{K:Qn}{R:List Str}{n:Str}{c':Qc}(hn:n∈R)(hc:nsIn K mainGlobals n=some (some (.ref c'))):∀{ms:List Str} {cs:List Qc},IsiL K R ms cs->kitAny K (.ref c') (cs.map Value.ref)=some (ms.any (exB n))
 | [],[],_=>rfl
 | m::ms,c::cs,⟨h,t⟩=>by show(match kitOne K (.ref c') (.ref c) with|some true=>some true|some false=>kitAny K (.ref c') (cs.map Value.ref)|none=>none)=_;rw[h.k n hn c' hc,t.exc hn hc,Q9];cases exB n m <;> rfl
theorem IsiL.non{K:Qn}{R:List Str}:∀{ms:List Str} {cs:List Qc},IsiL K R ms cs->kitAny K (.type "NoneType") (cs.map Value.ref)=some false
 | [],[],_=>rfl
 | m::ms,c::cs,⟨h,t⟩=>by show(match kitOne K (.type "NoneType") (.ref c) with | some true=>some true | some false=>kitAny K (.type "NoneType") (cs.map Value.ref) | none=>none)=_;rw[h.o,t.non]
section
variable{K:Qn}{C:Qc}{te:TE}{ea:Ev}
structure IsiV (K:Qn) (R:List Str):Prop where
 own:∀n∈R,ExcN K n
 g:ExcG K
 k:∀n∈R,∀c',nsIn K mainGlobals n=some (some (.ref c'))->kitOne K (.ref c') (.type "ValueError")=some true
theorem JlG{K:Qn}:kitOne K (.type "NoneType") (.type "ValueError")=some false:=by kernel_rfl
theorem Jl9{R:List Str}(N:IsiV K R)(ha:SE K C te ea):SE K C (tCB (JhD K) (Y0 te (Y0 (tC (.ty "ValueError")) Zo))) (Jlp R ea):=by
 intro B H0 H σ E r Q I e q;obtain⟨a,e1,e⟩:=bind_some e;obtain⟨d,e2,e⟩:=bind_some e;obtain⟨b,e3,rfl⟩:=map_some e;refine ha B H0 H σ E a _ I e1 fun x H1 H1' s1 r1=>?_
 have rd:=r1.dat s1.i e2
 cases d with
 | exc n =>
  have e3:(if n.n∈R then some true else none)=some b:=e3;split at e3
  ·next hn=>cases e3;obtain⟨a',c',rfl,hx,hc⟩:=RD.excI rd;obtain⟨c1,k1,k2⟩:=hc.cls;exact⟨_,_,_,_,_,rfl,.exc hx k2 hc.xd k1 (N.own n.n hn) N.g,fun u z=>z,N.k n.n hn c1 k1,q _ _ _ s1 (RD.bl _)⟩
  ·cases e3
 | non=>cases e3;cases RD.nonI rd;exact⟨_,_,_,_,_,rfl,.of (.of .non),fun u z=>z,JlG,q _ _ _ s1 (RD.bl _)⟩
 | _=>cases e3
end
end LE

namespace L2
open PySem PySem.Spec PyProof.Rows PySem.Calls LE
theorem Ze:bootBuiltins "ValueError"=some (.type "ValueError"):=by decide +kernel
section
variable{X:Cx}{K:Qn}
theorem J5(h:X.K=K):CallR X (.builtin "isinstance") (JhD K):=by subst h;exact Jel
theorem JhB{body suite:List Gn}{b₀:Gn}{i:Nat}{n cn:Str}{np hpos pos:Pos}{CL:Qc}{T:(St->XK)->TS}{th:TS}(h:X.K=K)(hs:X.stack=X.env::X.outer)(hf:X.env.frame=some X.env.locals)(hx:X.ex=[])(hN:X.N.Nodup)(hi:X.N[i]?=some n)(hk:X.env.kindOf n=some .local)(hg:Gl X cn)(hm:X.mg cn=some (.ref CL))
 (hb:JiZ X body T) (hh:∀a,PSs (X.hand a) (b₀::suite) th) (hdb:(cn == ("__debug__":Str))=false:=by decide) :
 PS X (.Try body [.ExceptHandler (some (.Name cn np)) (some n) (b₀::suite) hpos] [] [] pos) (Jk0 K CL i T th):=by subst h;exact Jkh hs hf hx hN hi hk hg hm hb hh hdb
theorem VO{x:Str}{np cpos pos:Pos}{C:Qc}{E:XK}{e:QR}{es:List QR}{t:TA}(h:X.K=K)(ok:excIn K C VEm "ValueError.__new__"=true)(hg:Gl X x)(hm:X.mg x=some (.ref C))(hc:X.calm=true)(hx:XOk X E)(ha:PA X (e::es) t)(hdb:(x == ("__debug__":Str))=false:=by decide)
 (he:starEach (e::es) X.env=(false,eval e X.env)::starEach es X.env:=by rfl) (hpl:(backTo cpos (starEach es X.env)).any (·.1)=false:=by rfl) :
 PS X (.Raise (some (.Call (.Name x np) (e::es) [] cpos)) none pos) (Jcd C E t):=by subst h;exact Jfu ok hg hm hc hx ha hdb he hpl
end
end L2
namespace LE
open PySem L2 LR
section
variable{K:Qn}{C:Qc}{ts:TS}
theorem YD:SS K C ts Yt:=fun _ _ _ _ _ _ _ _ e _=>by cases e
theorem Jf8{T:XK->TE}{ea:Ev}(h:∀W,SE K C (T W) ea)(W:St->XK):SS K C (Jce T W) (VA ea):=Jla (te:=fun σ H Q=>T (W σ) σ H Q) fun B H0 H σ E r Q I e q=>h (W σ) B H0 H σ E r Q I e q
structure AtY (K:Qn) (n:Str) (c:Qc):Prop where
 ns:nsIn K mainGlobals n=some (some (.ref c))
 ga:findIn K (.ref c) "__getattribute__"=some (some (.builtin "BaseException.__getattribute__"))
 gn:findIn K (.ref c) "__getattr__"=some none
 mb:mroIn K c (.type "BaseException")=some true
 hd:hasDictIn K c=true
 fi:findIn K (.ref c) "__class__"=some (some (.builtin "object.__class__"))
 mr:mroIn K c (.type "object")=some true
structure AtX (K:Qn) (n:Str) (c:Qc):Prop extends AtY K n c where
 ok:excIn K c VEm "ValueError.__new__"=true
theorem AtY.n{n:Str}{c:Qc}(h:AtY K n c):ExcN K n:=⟨fun c' e=>by have:=h.ns.symm.trans e;cases this;exact⟨h.ga,h.gn,h.mb,h.hd,h.fi,h.mr⟩⟩
noncomputable def OwnL(K:Qn):List Str->List Qc->Prop
 | [],[]=>True
 | n::ns,c::cs=>AtY K n c/\OwnL K ns cs
 | _,_=>False
theorem Jht:OwnL K [] []:=trivial
theorem WS{ns:List Str}{cs:List Qc}{n:Str}{c:Qc}(h:AtY K n c)(t:OwnL K ns cs):OwnL K (n::ns) (c::cs):=⟨h,t⟩
theorem OwnL.all:∀{ns:List Str} {cs:List Qc},OwnL K ns cs->∀n∈ns,ExcN K n
 | [],[],_,n,h=>nomatch h
 | m::ns,c::cs,⟨h,t⟩,n,hn=>by
  rcases Qm.mp hn with e|e
  ·rw[e];exact h.n
  ·exact t.all n e
noncomputable def ExmL(K:Qn)(CL:Qc):List Qc->Prop
 | []=>True
 | c::cs=>exmOne K (.ref c) (.ref CL)=some true/\ExmL K CL cs
theorem JgC{CL:Qc}:ExmL K CL []:=trivial
theorem Wx{CL c:Qc}{cs:List Qc}(h:exmOne K (.ref c) (.ref CL)=some true)(t:ExmL K CL cs):ExmL K CL (c::cs):=⟨h,t⟩
theorem ExmL.all{CL:Qc}:∀{ns:List Str} {cs:List Qc},OwnL K ns cs->ExmL K CL cs->∀m∈ns,∀c,nsIn K mainGlobals m=some (some (.ref c))->exmOne K (.ref c) (.ref CL)=some true
 | [],[],_,_,n,h=>nomatch h
 | m::ns,c::cs,⟨h,t⟩,⟨h',t'⟩,n,hn=>fun c' e=>by
  rcases Qm.mp hn with z|z
  ·rw[z,h.ns] at e;cases e;exact h'
  ·exact t'.all t n z c' e
noncomputable def KitL(K:Qn)(m:Str)(c:Qc):List Str->List Qc->Prop
 | [],[]=>True
 | n::ns,d::ds=>kitOne K (.ref d) (.ref c)=some (exB n m)/\KitL K m c ns ds
 | _,_=>False
theorem YR{m:Str}{c:Qc}:KitL K m c [] []:=trivial
theorem JB{m n:Str}{c d:Qc}{ns:List Str}{ds:List Qc}{b:Bool}(h:kitOne K (.ref d) (.ref c)=some b)(e:exB n m=b)(t:KitL K m c ns ds):KitL K m c (n::ns) (d::ds):=⟨by rw[e];exact h,t⟩
theorem KitL.all{m:Str}{c:Qc}:∀{ns:List Str} {cs:List Qc},OwnL K ns cs->KitL K m c ns cs->∀n∈ns,∀c',nsIn K mainGlobals n=some (some (.ref c'))->kitOne K (.ref c') (.ref c)=some (exB n m)
 | [],[],_,_,n,h=>nomatch h
 | m::ns,c::cs,⟨h,t⟩,⟨h',t'⟩,n,hn=>fun c' e=>by
  rcases Qm.mp hn with z|z
  ·rw[z] at e ⊢;rw[h.ns] at e;cases e;exact h'
  ·exact t'.all t n z c' e
theorem YQ{m:Str}{c:Qc}{ns:List Str}{cs:List Qc}(o:OwnL K ns cs)(g:ExcG K)(k:KitL K m c ns cs)(z:kitOne K (.type "NoneType") (.ref c)=some false):IsiN K ns m c:=⟨o.all,g,k.all o,z⟩
noncomputable def KivL(K:Qn):List Qc->Prop
 | []=>True
 | c::cs=>kitOne K (.ref c) (.type "ValueError")=some true/\KivL K cs
theorem Jg5:KivL K []:=trivial
theorem WI{c:Qc}{cs:List Qc}(h:kitOne K (.ref c) (.type "ValueError")=some true)(t:KivL K cs):KivL K (c::cs):=⟨h,t⟩
theorem KivL.all:∀{ns:List Str} {cs:List Qc},OwnL K ns cs->KivL K cs->∀n∈ns,∀c',nsIn K mainGlobals n=some (some (.ref c'))->kitOne K (.ref c') (.type "ValueError")=some true
 | [],[],_,_,n,h=>nomatch h
 | m::ns,c::cs,⟨h,t⟩,⟨h',t'⟩,n,hn=>fun c' e=>by
  rcases Qm.mp hn with z|z
  ·rw[z,h.ns] at e;cases e;exact h'
  ·exact t'.all t n z c' e
theorem Jg1{ns:List Str}{cs:List Qc}(o:OwnL K ns cs)(g:ExcG K)(k:KivL K cs):IsiV K ns:=⟨o.all,g,k.all o⟩
end
section
variable(K:Qn)(C:Qc)
end
section
variable{K:Qn}{C:Qc}{W:XK}{ta te:TE}{t tr:TA}{ea:Ev}{xa xr ex:Xv}{wi:TI}
end
end LE

namespace LE
open PySem L2 LR
noncomputable def Uj(p:Pt)(b:Es)(x:Xv):List D->Xv
 | []=>fun _=>none
 | d::ds=>fun E=>(p.bind d E).bind fun E1=>match x E1 with
  | some m=>some m
  | none=>match b E1 with
   | some (.nx E2)=>Uj p b x ds E2
   | some (.ct E2)=>Uj p b x ds E2
   | _=>none
noncomputable def Jez(it:En->Option (List D))(p:Pt)(b:Es)(x:Xv):Xv:=fun E=>(it E).bind fun ds=>Uj p b x ds E
section
variable{K:Qn}{C:Qc}{W:XK}{t:TS}{et:Es}{xt:Xv}
theorem Jiu{wi:TI}{g:TG}{it:En->Option (List LE.D)}{p:Pt}(hi:SI K C false wi it)(hg:SG K C g p)(ht:SS K C t et)(hx:SXS K C W t xt):SXS K C W (Jig wi g t) (Jez it p et xt):=by
 intro B H0 H σ E m D I e f;obtain⟨ds,e1,e⟩:=bind_some e;refine hi B H0 H σ E ds _ I e1 fun J H1 H1' s1 ok=>?_
 rw[if_neg (by simp)] at ok;refine⟨fun i k σ' H'=>k=ds.length-i/\i<=ds.length/\∃H0' E',EnvR K C B H0' H' σ' E'/\SStep B H1 H0' H'/\Uj p et xt (ds.drop i) E'=some m,
  ⟨ds.length,by simp,G4 _,H1,E,I.step s1,.refl (I.b.trans s1.h) s1.i,e⟩,?_⟩
 rintro i k σ' H' ⟨rfl,hi',H0',E',I',st,er⟩;have stop:=ok H0' H' st
 by_cases hlt:i<ds.length
 ·have hd:ds[i]?=some ds[i]:=by simp[hlt]
  obtain⟨go,yl⟩:=stop.1 i _ hd;refine .inr ⟨go,fun σ2 H2=>∃H02 E2,EnvR K C B H02 H2 σ2 E2/\SStep B H1 H02 H2/\Uj p et xt (ds.drop (i+1)) E2=some m,fun σ2 H2 h=>⟨ds.length-(i+1),by omega,rfl,hlt,h⟩,fun x H2 y=>?_⟩;obtain⟨H02,st2,rx⟩:=yl x H2 y;rw[Kj hlt,Uj] at er;obtain⟨E1,b1,er⟩:=bind_some er;have ss2:SStep B H0' H02 H2:=st2.ss I'.b;have all:SStep B H0 H02 H2:=((s1.ss I.b).trans st).trans ss2;refine hg B H02 H2 σ' E' E1 x _ _ (I'.step st2) rx b1 fun σ2 I2=>?_
  split at er
  ·next m' hm=>cases er;exact hx B H02 H2 σ2 E1 m _ I2 hm fun c a H3 H3' hc s3=>f c a H3 H3' hc (all.trans s3)
  ·split at er
   ·next E2 hb=>exact ht B H02 H2 σ2 E1 _ _ I2 hb fun σ3 H3 H3' s3 I3=>⟨H3,E2,I3,(st.trans ss2).trans s3,er⟩
   ·next E2 hb=>exact ht B H02 H2 σ2 E1 _ _ I2 hb fun σ3 H3 H3' s3 I3=>⟨H3,E2,I3,(st.trans ss2).trans s3,er⟩
   ·cases er
 ·have e3:i=ds.length:=by omega
  subst e3;rw[Lp,Uj] at er;cases er
end
end LE
namespace L2
open PySem PySem.Spec PyProof.Rows PySem.Calls LE
structure RoomH (k:Nat) (A:Qw):Prop where
 dp:A.depth+3*k+5<recursionLimit
 un:A.units+16*k+200<cLine
theorem Room.h{k:Nat}{A:Qw}(r:Room k A):RoomH k A:=⟨r.dp,r.un⟩
theorem RoomH.mono{j k:Nat}{A:Qw}(r:RoomH k A)(h:j<=k):RoomH j A:=⟨by have:=r.dp;omega,by have:=r.un;omega⟩
theorem RoomH.mark{k:Nat}{A:Qw}(r:RoomH k A)(v:Option Qa):RoomH k (A.mark v):=⟨r.dp,r.un⟩
theorem RoomH.deeper{k:Nat}{A:Qw}(r:RoomH (k+1) A)(env:Env):RoomH k (A.deeper env) :=
 ⟨by have:=r.dp;show A.depth+1+3*k+5<_;omega,by have:=r.un;show A.units+3+16*k+200<_;omega⟩
theorem RoomH.units{k:Nat}{A:Qw}(r:RoomH k A):A.units+64<cLine:=by have:=r.un;omega
structure FnH (P:Qo) (w:QC) (K:Qn) (mg:Str->Option Qa) (base:QI) (k:Nat) (f:Qc) (fd:QE) (ps:List Str) (sp:Sp):Prop where
 len:∀vs H Q E,sp vs H Q E->vs.length=ps.length
 run:∀(A:Qw) (outer:List Env) (s:Qd) (H:Hp) (args:Args) (us:List Qa) (vs:List V) (Q:VK) (E:XK),RoomH k A->Env0 P w K mg base A outer s H->BindsTo s fd args (ps.zip us)->Vals vs us->sp vs H Q E ->
  codeAny (model P w) A (.call (.ref f) args) (CR CX0 outer P w H s Q E) s
theorem FnH.ok{P:Qo}{w:QC}{K:Qn}{mg:Str->Option Qa}{base:QI}{k:Nat}{f:Qc}{fd:QE}{ps:List Str}{sp:Sp}(F:FnH P w K mg base k f fd ps sp):FnOk P w K mg base CX0 k f fd ps sp :=
 ⟨F.len,fun A outer s H args us vs Q E hr=>F.run A outer s H args us vs Q E hr.h⟩
structure CalH (P:Qo) (w:QC) (K:Qn) (mg:Str->Option Qa) (base:QI) (x:Str) (k:Nat) (ps:List Str) (sp:Sp):Prop where
 ex:∃(f:Qc) (fd:QE),FnH P w K mg base k f fd ps sp/\mg x=some (.ref f)/\keepIn K (.ref f)=true/\Binds K fd ps []
section
variable{X:Cx}{k:Nat}{ps:List Str}{sp:Sp}{x:Str}{p pos:Pos}{e:QR}{es:List QR}{t:TA}
end
end L2

namespace L2
open PySem PySem.Spec PyProof.Rows PySem.Calls LE
structure CalMX (P:Qo) (w:QC) (K:Qn) (mg:Str->Option Qa) (base:QI) (x:Str) (C:Qc) (k:Nat) (ps:List Str) (sp:Sp):Prop where
 ex:∃(f:Qc) (fd:QE),Mk K C f/\FnOk P w K mg base (CX1 P w) k f fd ps sp/\mg x=some (.ref C)/\Binds K fd ps []
section
variable{X:Cx}{k:Nat}{C:Qc}{ps:List Str}{sp:Sp}{x:Str}{p pos:Pos}{e:QR}{es:List QR}{t:TA}
theorem Jfq{E:XK}(c:CalMX X.prog X.w X.K X.mg X.base x C k ps sp)(hr:Room (k+1) X.A)(hg:Gl X x)(hx:Uz (CX1 X.prog X.w) X E)(ha:PA X (e::es) t)(hdb:(x == ("__debug__":Str))=false:=by decide)
 (he:starEach (e::es) X.env=(false,eval e X.env)::starEach es X.env:=by rfl) (hpl:(backTo pos (starEach es X.env)).any (·.1)=false:=by rfl):PE X (.Call (.Name x p) (e::es) [] pos) (Jbr C sp [] E t):=by
 obtain⟨f,fd,M,F,h1,h3⟩:=c.ex;exact Jhv M F hr hg h1 h3 .nil hx ha hdb he hpl
end
end L2
namespace LE
open PySem L2 LR
section
variable(K:Qn)(C:Qc)
noncomputable def Jd4(n:Nat)(ex:List Sl->Option Xm):Sp:=fun vs H Q W=>∃v ws H0 as m,vs=v::ws/\Same H0 H/\RRL K C H H0 H ws as/\as.all (fun s=>!JK s)=true/\as.length=n/\ex (.no::as)=some m ∧
 ∀c a H0' H',XC K m c H0'->Step H H0 H H0' H'->W c (some a) H'
end
noncomputable def Jji(n:Nat)(ex:List Sl->Option Xm)(as:En->Option (List Sl)):Xv:=fun E=>(as E).bind fun ss=>(UX ss).bind fun bs=>if bs.length=n then ex (.no::bs) else none
section
variable{K:Qn}{C:Qc}{W:XK}{t:TA}{ev:En->Option (List Sl)}{H0 H H2:Hp}
noncomputable def Jeg(ss:List Sl):Bool:=ss.all fun s=>!JK s
theorem RRL.more{vs:List V}{ss:List Sl}(st:Same H H2):Jeg ss=true->RRL K C H H0 H vs ss->RRL K C H2 H0 H2 vs ss:=fun ho r=>by
 revert ho
 induction r with
 | nil=>exact fun _=>.nil
 | @cons v s vs ss h _ ih =>
  intro ho
  have hs:JK s=false/\Jeg ss=true:=by unfold Jeg at ho ⊢;rw[Kq,Qz] at ho;exact⟨by simpa using ho.1,ho.2⟩
  refine .cons ?_ (ih hs.2)
  cases s with
  | no=>exact h
  | sh d=>exact h
  | bo ds=>obtain⟨l,xs,e,g,q⟩:=h;exact⟨l,xs,e,st _ _ g,q⟩
  | bd ks ds=>obtain⟨l,xs,e,g,q⟩:=h;exact⟨l,xs,e,st _ _ g,q⟩
  | bt ks ds=>obtain⟨l,xs,e,g,q⟩:=h;exact⟨l,xs,e,st _ _ g,q⟩
  | own ds=>exact absurd hs.1 (by simp[JK])
  | od ks ds=>exact absurd hs.1 (by simp[JK])
  | ot ks ds=>exact absurd hs.1 (by simp[JK])
theorem Jga{n:Nat}{sp:Sp}{x:List Sl->Option Xm}(hsp:∀vs H Q W,Jd4 K C n x vs H Q W->sp vs H Q W)(ha:SA K C t ev):SXE K C W (Jbr C sp [] W t) (Jji n x ev):=by
 intro B H0 H σ E m Q I e q;obtain⟨ss,e1,e⟩:=bind_some e;obtain⟨bs,e2,e⟩:=bind_some e;split at e
 ·next hl =>
  refine ha B H0 H σ E ss _ I e1 fun vs H1 H1' s1 r1=>fun y dy hy hdy hne=>hsp _ _ _ _ ?_
  obtain⟨h1,h2⟩:=r1.pass s1.i e2;have f:=JX (Hs:=H) s1.i
  have sm:Same H1' (upd (upd H1' dy (.own y)) y (.ins C dy [])):=fun b u z=>by rw[Jj (Jt z hy),Jj (Jt z hdy)];exact z
  have st:Step H1' (YO H H1 H1') H1' (YO H H1 H1') (upd (upd H1' dy (.own y)) y (.ins C dy [])):=⟨sm,Same.refl _,fun b u z=>.inl z,f.i.trans sm⟩
  refine⟨_,vs,_,bs,m,by rw[QY],f.i.trans sm,RRL.more sm h2 h1,h2,hl,e,fun c a H2 H2' hc s2=>q c a H2 H2' hc ?_⟩;exact((s1.comp f fun _ z=>z).comp st fun a z=>Same.free s1.h z).comp s2 fun a z=>Same.free s1.h (Same.free sm z)
 ·cases e
theorem JdC{N:List Str}{n:Nat}{x:Xv}{ts:TS}{vs:List V}{Q:VK}{D:Ends}(hx:SXS K C W ts x)(h:Jd4 K C n (Ud N.length x) vs H Q W):ts D (L2.Yr N vs) H:=by
 obtain⟨v,ws,H0,as,m,rfl,i,ra,ho,hl,e,q⟩:=h;refine hx H H0 H _ _ m D ?_ e fun c a H1 H1' hc s1=>q c a H1 H1' hc ⟨s1.b,s1.z,s1.n,s1.i⟩
 have lens:=ra.len
 have noOwn:∀(j:Nat) (s:Sl),as[j]?=some s->JK s=false:=fun j s e=>by
  have:=QS.mp ho s (QQ e)
  simpa using this
 have get:∀(j:Nat) (s:Sl),((Sl.no::as)++QK (N.length-(Sl.no::as).length) Sl.no)[j]?=some s->s=.no\/∃k,j=k+1/\as[k]?=some s:=fun j s e=>by
  cases j with
  | zero=>rw[QU,Lq] at e;cases e;exact .inl rfl
  | succ k =>
   rw[QU,GM] at e
   by_cases hj:k<as.length
   ·rw[QA hj] at e;exact .inr ⟨k,rfl,e⟩
   ·rw[QN (by omega),GJ] at e;split at e
    ·cases e;exact .inl rfl
    ·cases e
 refine⟨Same.refl _,i,by simp[L2.Yr,lens],fun j s e=>?_,fun j k s1 s2 v hjk e1 e2 w1 w2=>?_⟩
 ·rcases get j s e with z|⟨k,rfl,z⟩
  ·exact .inl z
  ·obtain⟨u,h1,h2⟩:=ra.get z;refine .inr ⟨u,?_,?_⟩
   ·unfold L2.Yr;rw[Qr,QU,GM,QA (by have:=(Qi.mp h1).1;simpa using this),QJ,h1];rfl
   ·cases s with
    | no=>trivial
    | sh d=>exact h2
    | bo ds=>exact h2
    | own ds=>exact absurd (noOwn k _ z) (by simp[JK])
    | bd ks ds=>exact h2
    | bt ks ds=>exact h2
    | od ks ds=>exact absurd (noOwn k _ z) (by simp[JK])
    | ot ks ds=>exact absurd (noOwn k _ z) (by simp[JK])
 ·rcases get j _ e1 with z|⟨k',rfl,z⟩
  ·subst z;cases w1
  ·rw[noOwn k' _ z] at w1;cases w1
end
end LE

namespace L2
open PySem PySem.Spec PyProof.Rows PySem.Calls
theorem Z4(a b:Bool):MeetsSeq.EqGives (.bool a) (.bool b) (a == b):=fun prog w A E s Q h=>by
 unfold eqBool;show wpAny _ _ (if (Value.bool a == Value.bool b)=true then _ else _) Q E s
 by_cases hab:(Value.bool a == Value.bool b)=true
 ·rw[if_pos hab];have e:a=b:=by have:=eq_of_beq hab;injection this
  subst e;exact Qf (wpAny_rule (Qv (by simpa using h)))
 ·rw[if_neg hab];exact Qf (PyProof.Rows.eq_bool (GX h))
theorem JaJ:∀{bs:List Bool} {its:List Qa},Vals (bs.map V.bl) its->its=bs.map Value.bool
 | [],_,r=>by cases r;rfl
 | b::bs,_,r=>by
  cases r with
  | cons h t=>cases (show _=Value.bool b from h);rw[JaJ t];rfl
noncomputable def Jc3:V->List V->Hp->VK->Prop:=fun x vs H Q=>∃(l:Qc) (bs:List Bool) (b:Bool),x=.ref l/\vs=[.bl b]/\H l=some (.lst (bs.map V.bl))/\Q (.int (bs.count b:Nat)) H
noncomputable def efB(b:Bool):Qa->Bool:=fun v=>match v with
 | .bool a=>a == b
 | _=>false
theorem Zy(b:Bool):∀bs:List Bool,(bs.map Value.bool).countP (efB b)=bs.count b
 | []=>rfl
 | a::bs=>by rw[Qr,List.countP_cons,Zy b bs,List.count_cons];rfl
section
variable{X:Cx}
theorem JdQ:MtR X "list.count" Jc3:=by
 intro pins s σ H x vs v us Q I rx rv h;obtain⟨l,bs,b,rfl,rfl,hH,q⟩:=h;cases rx;obtain⟨u,rfl,hu⟩:=rv.one;cases (show u=Value.bool b from hu);obtain⟨z,its,n,r,hl,e⟩:=I.lstM hH;cases JaJ r;refine call_meets F.slot_list_count ⟨_,e,rfl⟩ F.entry_list_count (F.args_list_count_2 _ _) (MeetsSeq.list_count l (bs.map Value.bool).toArray n (.bool b) (efB b) (fun y hy=>?_)) ⟨e,?_⟩
 ·have hy':y∈bs.map Value.bool:=by simpa using hy
  obtain⟨a,_,rfl⟩:=Q4.mp hy';exact Z4 a b
 ·refine⟨.int (bs.count b:Nat),H,I.tok _,⟨s.toks,?_⟩,q⟩;show Value.int (((bs.map Value.bool).countP (efB b):Nat):Int) s.toks=_;rw[Zy]
end
end L2
namespace LE
open PySem L2 LR
noncomputable def lst?:Sl->Option (List D)
 | .bo ds=>some ds
 | .own ds=>some ds
 | .sh (.lst ds)=>some ds
 | _=>none
noncomputable def eMB(f:List Bool->Bool->Option Int)(o a:Ev):Ev:=fun E=>(o E).bind fun s=>(lst? s).bind fun ds=>(bls? ds).bind fun bs=>(a E).bind fun y=>(bool? y).bind fun b=>(f bs b).map fun i=>.sh (.int i)
noncomputable def Jlv(bs:List Bool)(b:Bool):Option Int:=some (bs.count b:Nat)
section
variable{K:Qn}{C:Qc}{to te:TE}{eo ea:Ev}{Hs H0 H:Hp}{v:V}
theorem RR.lst{s:Sl}{ds:List D}(i:Same H0 H)(r:RR K C Hs H0 H v s)(e:lst? s=some ds):∃l xs,v=.ref l/\H l=some (.lst xs)/\RDL K C H0 xs ds:=by
 cases s with
 | bo es=>cases e;exact r
 | own es=>cases e;obtain⟨l,xs,e,h,_,_,q⟩:=r;exact⟨l,xs,e,h,q⟩
 | sh d =>
  cases d with
  | lst es=>cases e;obtain⟨l,xs,e,h,q⟩:=RD.lstI r;exact⟨l,xs,e,i _ _ h,q⟩
  | _=>cases e
 | _=>cases e
theorem JmA{rm:V->List V->Hp->VK->Prop}{f:List Bool->Bool->Option Int}(hm:∀(l:Qc) (bs:List Bool) (b:Bool) (i:Int) (H:Hp) (Q:VK),H l=some (.lst (bs.map V.bl))->f bs b=some i->Q (.int i) H->rm (.ref l) [.bl b] H Q)
 (ho:SE K C to eo) (ha:SE K C te ea):SE K C (tBM K "list" rm to (Y0 te Zo)) (eMB f eo ea):=by
 intro B H0 H σ E r Q I e q;obtain⟨s,e1,e⟩:=bind_some e;obtain⟨ds,e2,e⟩:=bind_some e;obtain⟨bs,e3,e⟩:=bind_some e;obtain⟨y,e4,e⟩:=bind_some e;obtain⟨b,e5,e⟩:=bind_some e;obtain⟨i,e6,rfl⟩:=map_some e;refine ho B H0 H σ E s _ I e1 fun x H1 H1' s1 r1=>?_
 obtain⟨l,xs,rfl,hl,rl⟩:=r1.lst s1.i e2;refine⟨.inl ⟨rfl,_,.of hl⟩,?_⟩;refine ha B H1 H1' σ E y _ (I.step s1) e4 fun u H2 H2' s2 r2=>?_
 rw[VB e5] at r2;cases RD.blI r2;rw[Ws e3] at rl;have hx:=RDL.bls rl;subst hx;exact hm l bs b i H2' Q (s2.h _ _ hl) e6 (q _ _ _ (s1.trans s2) (RD.int i))
theorem JhZ(ho:SE K C to eo)(ha:SE K C te ea):SE K C (tBM K "list" Jc3 to (Y0 te Zo)) (eMB Jlv eo ea) :=
 JmA (fun l bs b i H Q h e q=>by cases e;exact⟨l,bs,b,rfl,rfl,h,q⟩) ho ha
end
end LE

namespace LE
open PySem L2 LR
section
variable{K:Qn}{C:Qc}
end
end LE

namespace PySem
abbrev Ji0(h:QI)(z TI TO a:Qc)(f:Bool):Prop :=
 h.get? z=some { cls:=.type "zip",dict:=none,data:=.fields #[rawInt a,.bool f,.bool false,.ref TI,.ref TO],slots:=#[] }
section
variable{prog:Qo}{w:QC}{A:Qw}{E:Qa->Qd->Prop}{s:Qd}{z TI TO i1 i2 a:Qc}{f:Bool}{oa:Obj}{p1 p2:List Qc}{n1 n2 k:Nat}{P1 P2:Nat->Qa->Prop}{S1 S2:Nat->QI->Prop}
end
end PySem

namespace PySem
section
variable{prog:Qo}{w:QC}{A:Qw}{E:Qa->Qd->Prop}{s:Qd}{b1 b2:Bool}{a1 a2 z TI TO i1 i2 S:Qc}{xs ys:Array Qa}{i:Nat}
def LzSt(b1 b2:Bool)(a1 a2 z TI TO i1 i2 S:Qc)(xs ys:Array Qa)(i:Nat)(h:QI):Prop :=
 IsPair h TI (.ref i1) (.ref i2)/\(IsItr b1 h i1 a1 i/\IsSq b1 h a1 xs)/\(IsItr b2 h i2 a2 i/\IsSq b2 h a2 ys) ∧
 ((IsZip h z TI TO .none/\∃u v,IsPair h TO u v)\/∃a f oa,Ji0 h z TI TO a f/\h.get? a=some oa/\a≠S/\a≠z/\a≠i1/\a≠i2)
theorem IsSq.keep{b:Bool}{h h':QI}{a:Qc}{xs:Array Qa}(q:IsSq b h a xs)(k:∀o,h.get? a=some o->h'.get? a=some o):IsSq b h' a xs:=by
 cases b with
 | true=>obtain⟨o,e,r⟩:=q;exact⟨o,k o e,r⟩
 | false=>obtain⟨o,e,r⟩:=q;exact⟨o,k o e,r⟩
theorem IsItr.keep'{b:Bool}{h h':QI}{j a:Qc}{i:Nat}(q:IsItr b h j a i)(k:∀o,h.get? j=some o->h'.get? j=some o):IsItr b h' j a i:=by
 cases b with
 | true=>obtain⟨o,e,r⟩:=q;exact⟨o,k o e,r⟩
 | false=>obtain⟨o,e,r⟩:=q;exact⟨o,k o e,r⟩
theorem LzSt.keep{h h':QI}(x:LzSt b1 b2 a1 a2 z TI TO i1 i2 S xs ys i h)(k:∀b o,b≠S->h.get? b=some o->h'.get? b=some o)(n:S∉[z,TI,TO,i1,i2,a1,a2]):LzSt b1 b2 a1 a2 z TI TO i1 i2 S xs ys i h':=by
 simp only[Qm,Lo,or_false,not_or] at n;obtain⟨n1,n2,n3,n4,n5,n6,n7⟩:=n;obtain⟨x1,x2,x3,x4⟩:=x;refine⟨k _ _ (Q0 n2) x1,⟨IsItr.keep' x2.1 fun o e=>k _ o (Q0 n4) e,IsSq.keep x2.2 fun o e=>k _ o (Q0 n6) e⟩,⟨IsItr.keep' x3.1 fun o e=>k _ o (Q0 n5) e,IsSq.keep x3.2 fun o e=>k _ o (Q0 n7) e⟩,?_⟩;rcases x4 with ⟨y1,u,v,y2⟩|⟨a,f,oa,y1,y2,y3⟩
 ·exact .inl ⟨k _ _ (Q0 n1) y1,u,v,k _ _ (Q0 n3) y2⟩
 ·exact .inr ⟨a,f,oa,k _ _ (Q0 n1) y1,k _ _ y3.1 y2,y3⟩
end
structure LzG (xs ys:Array Qa) (lo:Qc) (h:QI) (as:List Qc):Prop where
 rise:as.Pairwise (·<·)
 above:∀a∈as,lo<a
 pairs:∀(j:Nat) (a:Qc),as[j]?=some a->∃u v,xs[j]?=some u/\ys[j]?=some v/\IsPair h a u v
theorem LzG.there{xs ys:Array Qa}{lo:Qc}{h:QI}{as:List Qc}(g:LzG xs ys lo h as){a:Qc}(ha:a∈as):a<h.objs.size:=by obtain⟨j,hj⟩:=GW.mp ha;obtain⟨_,_,_,_,e⟩:=g.pairs j a hj;exact Qj e
section
variable{prog:Qo}{w:QC}{A:Qw}{s:Qd}{R:LY->Qd->Prop}{b1 b2:Bool}{a1 a2 z TI TO i1 i2 S:Qc}{xs ys:Array Qa}
end
end PySem

namespace PySem
open PySem.Calls PyProof.Rows PyProof.V PySem.Spec
section
variable{prog:Qo}{w:QC}{A:Qw}{E:Qa->Qd->Prop}{s:Qd}{b1 b2:Bool}{a1 a2 z TI TO i1 i2:Qc}{xs ys:Array Qa}
end
end PySem

namespace L2
open PySem PySem.Spec PyProof.Rows
end L2

namespace LE
open PySem L2 LR
section
variable{K:Qn}{C:Qc}
end
end LE

namespace L2
open PySem PySem.Spec PyProof.Rows
section
variable{X:Cx}{pins:List (Qc×Obj)}{σ:St}{H:Hp}{s:Qd}{a:Qc}{kvs:List (Key×V)}{k:Key}{z:V}{u r:Qa}{A:Qw}{E:Qa->Qd->Prop}
end
section
variable{X:Cx}{o e f:QR}{apos cpos:Pos}{td ty tx:TE}
end
end L2
namespace LE
open PySem L2 LR
section
variable(K:Qn)(C:Qc)(j:Nat)
noncomputable def Left(σ:St)(E:En)(σ':St)(E':En):Prop:=σ'[j]?=σ[j]?/\∀(i:Nat) (s:Sl),E'[i]?=some s->JK s=true->E[i]?=some s/\σ'[i]?=σ[i]?
end
section
variable{K:Qn}{C:Qc}{j:Nat}
theorem Left.refl(σ:St)(E:En):Left j σ E σ E:=⟨rfl,fun _ _ e _=>⟨e,rfl⟩⟩
theorem Left.trans{σ σ1 σ2:St}{E E1 E2:En}(a:Left j σ E σ1 E1)(b:Left j σ1 E1 σ2 E2):Left j σ E σ2 E2 :=
 ⟨b.1.trans a.1,fun i s e o=>by obtain⟨h1,h2⟩:=b.2 i s e o;obtain⟨h3,h4⟩:=a.2 i s h1 o;exact⟨h3,h2.trans h4⟩⟩
end
end LE

namespace LE
open PySem L2 LR
section
variable(K:Qn)(C:Qc)
structure Grp (B H0 H:Hp) (σ:St) (E:En) (j c:Nat) (ks:List Int) (dss:List (List D)) (l:Qc) (ls:List Qc):Prop where
 at':σ[j]?=some (some (.ref l))
 dict:H l=some (dkO ks (ls.map V.ref))
 l0:H0 l=none
 lb:B l=none
 len:ks.length=ls.length
 len2:dss.length=ls.length
 cnt:ks.length<=c
 lists:∀(m:Nat) (a:Qc) (ds:List D),ls[m]?=some a->dss[m]?=some ds->ds.length<=c/\∃xs,H a=some (.lst xs)/\H0 a=none/\B a=none/\RDL K C H0 xs ds
 nd:(l::ls).Nodup
 own:∀(i:Nat) (s:Sl) (a:Qc),E[i]?=some s->JK s=true->σ[i]?=some (some (.ref a))->a∉l::ls
end
section
variable{K:Qn}{C:Qc}{B H0 H H0' H':Hp}{σ σ':St}{E E':En}{j c:Nat}{ks:List Int}{dss:List (List D)}{l:Qc}{ls:List Qc}
theorem Grp.there(g:Grp K C B H0 H σ E j c ks dss l ls){a:Qc}(ha:a∈l::ls):∃o,H a=some o/\isT o=false/\H0 a=none/\B a=none:=by
 rcases Qm.mp ha with z|z
 ·subst z;exact⟨_,g.dict,rfl,g.l0,g.lb⟩
 ·obtain⟨m,hm⟩:=GW.mp z;have hl:m<dss.length:=by rw[g.len2];exact(Qi.mp hm).1
  obtain⟨_,xs,h1,h2,h3,_⟩:=g.lists m a dss[m] hm (GH hl);exact⟨_,h1,rfl,h2,h3⟩
theorem Grp.off(g:Grp K C B H0 H σ E j c ks dss l ls)(st:Step H H0 H H0' H'){a:Qc}(ha:a∈l::ls):H0' a=none:=by
 obtain⟨o,h1,h2,h3,_⟩:=g.there ha
 cases z:H0' a with
 | none=>rfl
 | some u =>
  rcases st.n a u z with y|y|y
  ·rw[h3] at y;cases y
  ·rw[h1] at y;cases y
  ·have:=st.i a u z;rw[st.h a o h1] at this;cases this;rw[h2] at y;cases y
theorem Grp.step(g:Grp K C B H0 H σ E j c ks dss l ls)(st:Step H H0 H H0' H'):Grp K C B H0' H' σ E j c ks dss l ls :=
 ⟨g.at',st.h _ _ g.dict,g.off st Qy,g.lb,g.len,g.len2,g.cnt,fun m a ds e1 e2=>by obtain⟨h0,xs,h1,h2,h3,h4⟩:=g.lists m a ds e1 e2;exact⟨h0,xs,st.h _ _ h1,g.off st (Qp _ (QQ e1)),h3,h4.mono st.z⟩,g.nd,g.own⟩
theorem Grp.left(g:Grp K C B H0 H σ E j c ks dss l ls)(f:Left j σ E σ' E'):Grp K C B H0 H σ' E' j c ks dss l ls :=
 ⟨f.1.trans g.at',g.dict,g.l0,g.lb,g.len,g.len2,g.cnt,g.lists,g.nd,fun i s a e o q=>by obtain⟨h1,h2⟩:=f.2 i s e o;exact g.own i s a h1 o (by rw[<- h2];exact q)⟩
theorem Grp.free(g:Grp K C B H0 H σ E j c ks dss l ls){a:Qc}(ha:a∈l::ls):∀(i:Nat) (s:Sl),E[i]?=some s->JK s=true->σ[i]?≠some (some (.ref a)):=fun i s e o q=>g.own i s a e o q ha
theorem EnvR.fresh(I:EnvR K C B H0 H σ E){p:Qc}(hp:H p=none):∀(i:Nat) (s:Sl),E[i]?=some s->JK s=true->σ[i]?≠some (some (.ref p)):=fun i s e o q=>by
 rcases I.at' i s e with z|⟨v,q1,q2⟩
 ·subst z;cases o
 ·rw[q1] at q;cases q
  cases s with
  | own es=>obtain⟨l',ys,p1,p2,_⟩:=q2;cases p1;rw[hp] at p2;cases p2
  | od ks es=>obtain⟨l',ys,p1,p2,_⟩:=q2;cases p1;rw[hp] at p2;cases p2
  | ot ks es=>obtain⟨l',ys,p1,p2,_⟩:=q2;cases p1;rw[hp] at p2;cases p2
  | _=>cases o
end
end LE

namespace LE
open PySem L2 LR
section
variable{K:Qn}{C:Qc}{B H0 H H0' H':Hp}{σ σ':St}{E E':En}{j c:Nat}{ks:List Int}{dss:List (List D)}{l:Qc}{ls:List Qc}
noncomputable def JdD(H0 H:Hp)(ls:List Qc):Hp:=fun a=>if a∈ls then H a else H0 a
theorem ZO{Hz:Hp}:∀{ls:List Qc} {dss:List (List D)},dss.length=ls.length->(∀(m:Nat) (a:Qc) (ds:List D),ls[m]?=some a->dss[m]?=some ds->∃xs,Hz a=some (.lst xs)/\RDL K C Hz xs ds)->RDL K C Hz (ls.map V.ref) (dss.map .lst)
 | [],[],_,_=>.nil
 | [],_::_,h,_=>by simp at h
 | _::_,[],h,_=>by simp at h
 | a::ls,ds::dss,h,f=>by obtain⟨xs,h1,h2⟩:=f 0 a ds rfl rfl;exact .cons (.mkL h1 h2) (ZO (by simpa using h) fun m a ds e1 e2=>f (m+1) a ds (by simpa using e1) (by simpa using e2))
theorem Grp.done(I:EnvR K C B H0 H σ E)(g:Grp K C B H0 H σ E j c ks dss l ls)(hj:j<E.length):SStep B H0 (JdD H0 H ls) H/\EnvR K C B (JdD H0 H ls) H σ (E.set j (.od ks (dss.map .lst))):=by
 have out:∀{a:Qc},a∉ls->JdD H0 H ls a=H0 a:=fun {a} h=>if_neg h
 have inn:∀{a:Qc},a∈ls->JdD H0 H ls a=H a:=fun {a} h=>if_pos h
 have z:Same H0 (JdD H0 H ls):=fun a o e=>by
  by_cases c:a∈ls
  ·rw[inn c];exact I.h a o e
  ·rw[out c];exact e
 have i:Same (JdD H0 H ls) H:=fun a o e=>by
  by_cases c:a∈ls
  ·rw[inn c] at e;exact e
  ·rw[out c] at e;exact I.h a o e
 have ln:l∉ls:=(Kw.mp g.nd).1;refine⟨⟨I.b,z,fun a o e=>?_,i⟩,I.b,i,by simp[I.len],fun k s e=>?_,fun k m s t v hkm e1 e2 o1 o2 e3 e4=>?_⟩
 ·by_cases c:a∈ls
  ·exact .inr (.inl (g.there (Qp _ c)).choose_spec.2.2.2)
  ·rw[out c] at e;exact .inl e
 ·rw[QM] at e
  by_cases c:j=k
  ·subst c;rw[if_pos rfl,if_pos hj] at e;have e':=QL e;subst e';refine .inr ⟨_,g.at',l,ls.map V.ref,rfl,g.dict,by rw[out ln];exact g.l0,g.lb,by rw[QB,g.len2];exact g.len,ZO g.len2 fun m a ds q1 q2=>?_⟩;obtain⟨_,xs,h1,_,_,h4⟩:=g.lists m a ds q1 q2;exact⟨xs,by rw[inn (QQ q1)];exact h1,h4.mono z⟩
  ·rw[if_neg c] at e;rcases I.at' k s e with y|⟨v,q1,q2⟩
   ·exact .inl y
   ·refine .inr ⟨v,q1,?_⟩
    cases s with
    | no=>trivial
    | sh d=>exact RD.mono z q2
    | bo es=>obtain⟨l',ys,p1,p2,p3⟩:=q2;exact⟨l',ys,p1,p2,p3.mono z⟩
    | bd ks es=>obtain⟨l',ys,p1,p2,p3,p4⟩:=q2;exact⟨l',ys,p1,p2,p3,p4.mono z⟩
    | bt ks es=>obtain⟨l',ys,p1,p2,p3,p4⟩:=q2;exact⟨l',ys,p1,p2,p3,p4.mono z⟩
    | own es=>obtain⟨l',ys,p1,p2,p3,p4,p5⟩:=q2;subst p1;have:=g.own k _ l' e rfl q1;exact⟨l',ys,rfl,p2,by rw[out fun m=>this (Qp _ m)];exact p3,p4,p5.mono z⟩
    | od ks es=>obtain⟨l',ys,p1,p2,p3,p4,p5,p6⟩:=q2;subst p1;have:=g.own k _ l' e rfl q1;exact⟨l',ys,rfl,p2,by rw[out fun m=>this (Qp _ m)];exact p3,p4,p5,p6.mono z⟩
    | ot ks es=>obtain⟨l',ys,p1,p2,p3,p4,p5,p6⟩:=q2;subst p1;have:=g.own k _ l' e rfl q1;exact⟨l',ys,rfl,p2,by rw[out fun m=>this (Qp _ m)];exact p3,p4,p5,p6.mono z⟩
 ·have get:∀(i:Nat) (s:Sl),(E.set j (Sl.od ks (dss.map .lst)))[i]?=some s->i=j\/(i≠j/\E[i]?=some s):=fun i s e=>by
   rw[QM] at e
   by_cases c:j=i
   ·exact .inl c.symm
   ·rw[if_neg c] at e;exact .inr ⟨fun z=>c z.symm,e⟩
  rcases get k s e1 with y1|⟨n1,y1⟩
  ·subst y1;rcases get m t e2 with y2|⟨n2,y2⟩
   ·exact hkm y2.symm
   ·rw[g.at'] at e3;have e3':=QL (QL e3);subst e3';exact g.own m t l y2 o2 e4 Qy
  ·rcases get m t e2 with y2|⟨n2,y2⟩
   ·subst y2;rw[g.at'] at e4;have e4':=QL (QL e4);subst e4';exact g.own k s l y1 o1 e3 Qy
   ·exact I.sep k m s t v hkm y1 y2 o1 o2 e3 e4
end
end LE

namespace L2
open PySem PySem.Spec PyProof.Rows
section
open PySem.SeqAt
open PySem.AutoSeq1 (wpAny_loadPart')
open PySem.MeetsSeq PySem.MeetsSeq2 PySem.MeetsSeq3
end
section
variable{prog:Qo}{w:QC}{A:Qw}{E:Qa->Qd->Prop}{s:Qd}
end
end L2
namespace LE
open PySem L2 LR
section
variable{K:Qn}{C:Qc}
end
end LE

namespace L2
open PySem PySem.Spec PyProof.Rows
section
open PySem.SeqAt
open PySem.AutoSeq1 (wpAny_loadPart')
open PySem.MeetsSeq PySem.MeetsSeq2 PySem.MeetsSeq3
end
section
variable{prog:Qo}{w:QC}{A:Qw}{E:Qa->Qd->Prop}{s:Qd}
end
end L2
namespace LE
open PySem L2 LR
section
variable{K:Qn}{C:Qc}
end
end LE

namespace L2
open PySem PySem.Spec PyProof.Rows
end L2
namespace LE
open PySem L2 LR
noncomputable def Wr(a:Int):Bool:=LC a.natAbs (10 ^ 200)
section
variable{K:Qn}{C:Qc}
end
end LE

namespace LE
open PySem L2 LR
noncomputable def JdV(a b:Sp):Sp:=fun vs H Q W=>a vs H Q W\/b vs H Q W
section
variable{K:Qn}{C:Qc}{W:XK}{t:TA}{ev:En->Option (List Sl)}{ts us:TS}{x:Xv}{H:Hp}
theorem Jf9{n:Nat}{sp:Sp}{x:List Sl->Option Xm}(ha:SA K C t ev):SXE K C W (Vw (JdV sp (spR K C n x)) [] W t) (exU n x ev):=by
 intro B H0 H σ E m Q I e q;obtain⟨ss,e1,e⟩:=bind_some e;obtain⟨bs,e2,e⟩:=bind_some e;split at e
 ·next hl=>refine Vq (ha B H0 H σ E ss _ I e1 fun vs H1 H1' s1 r1=>?_);obtain⟨h1,h2⟩:=r1.pass s1.i e2;have f:=JX (Hs:=H) s1.i;exact .inr ⟨_,bs,m,f.i,h1,h2,hl,e,fun c a H2 H2' hc s2=>q c a H2 H2' hc ((s1.comp f fun _ z=>z).comp s2 fun a z=>Same.free s1.h z)⟩
 ·cases e
theorem Jld(h:SXS K C W ts x):SXS K C W (Jd6 ts us) x:=fun B H0 H σ E m D I e q=>h B H0 H σ E m _ I e q
theorem JeO{N:List Str}{n:Nat}{vs:List V}{Q:VK}{D:Ends}(hx:SXS K C W ts x)(h:spR K C n (Ud N.length x) vs H Q W):ts D (L2.Yr N vs) H:=by obtain⟨H0,as,m,i,ra,ho,hl,e,q⟩:=h;exact hx H H0 H _ _ m _ (ZC i ra ho) e fun c a H1 H1' hc s1=>q c a H1 H1' hc ⟨s1.b,s1.z,s1.n,s1.i⟩
theorem Jic{n:Nat}{ex:List Sl->Option Xm}{vs:List V}{Q:VK}(h:spR K C n ex vs H Q W):vs.length=n:=by obtain⟨_,as,_,_,r,_,hl,_⟩:=h;rw[r.len,hl]
theorem JfU{n:Nat}{ex:List Sl->Option Xm}{vs:List V}{Q:VK}(h:Jd4 K C n ex vs H Q W):vs.length=n+1:=by obtain⟨v,ws,_,as,_,rfl,_,r,_,hl,_⟩:=h;rw[Qh,r.len,hl]
theorem JkT{X:XK}{sp:Sp}(hsp:∀vs H Q W,W2 C K vs H Q W->sp vs H Q W)(ha:SA K C t ev):SE K C (Jbr C sp [] X t) (eF JeH ev):=by
 intro B H0 H σ E c Q I e q;obtain⟨ss,e1,e⟩:=bind_some e;refine LR.Jc8 (ha B H0 H σ E ss _ I e1 fun vs H1 H1' s1 r1=>?_);unfold JeH at e;split at e
 ·next s =>
  cases r1 with
  | cons r1 r1' =>
   cases r1';obtain⟨ds,e2,e⟩:=bind_some e;obtain⟨ps,e3,e⟩:=bind_some e;split at e
   ·next hg =>
    cases e;simp only[Qz,decide_eq_true_eq] at hg;have e4:=W7 e3;subst e4;obtain⟨l,xs,rfl,hq,r⟩:=r1.q s1.i e2;refine fun x dx a b c=>hsp _ _ _ _ (rd_row ⟨l,xs,rfl,hq,Jke (r.mono s1.i)⟩ (Ul hg.1) hg.2 (fun x H2 nx s2 R=>?_) x dx a b c)
    obtain⟨x',dx,t',ts,ex,hx,ht,hp⟩:=R;cases ex;have i2:Same H1 H2:=s1.i.trans s2;have f:=JX (Hs:=H) i2;refine q _ (YO H H1 H2) H2 ⟨s1.h.trans s2,s1.z.trans f.z,fun a o e=>(f.n a o e).elim (fun z=>s1.n a o z) .inr,f.i⟩ ?_;have ts':=JjW (Hs:=H) (C:=C) i2 hp;exact .row (Z9 i2 (Same.free s1.h nx) hx) (JcA i2 (.of ht)) ts'.1 ts'.2
   ·cases e
 ·cases e
end
end LE

namespace PySem
open PySem.Calls PyProof.Rows PyProof.V PySem.Spec
section
variable{prog:Qo}{w:QC}{A:Qw}{E:Qa->Qd->Prop}{s:Qd}{r a:Qc}{xs:Array Qa}{n:Nat}
end
end PySem
namespace L2
open PySem PySem.Spec PyProof.Rows
end L2
namespace LE
open PySem L2 LR
section
variable{K:Qn}{C:Qc}
end
end LE

namespace L2
open PySem PySem.Spec PyProof.Rows PySem.Calls
section
variable{X:Cx}
noncomputable def JlX:V->Option Int->Option Int->Hp->VK->Prop:=fun x lo hi H Q=>∃z,x=.str z/\z.length<=Qk/\Q (.str (Gq z lo hi)) H
theorem VT:SlR X JlX:=by
 intro pins s σ H x v vl vu lo hi sl Q I rx hs pl pu h;obtain⟨z,rfl,hz,q⟩:=h;obtain⟨t,rfl⟩:=rx;have fin:∀t' k,EP X pins σ Q (.str (Gq z lo hi) t') { s with toks:=k }:=fun t' k=>⟨.str _,H,I.tok k,⟨t',rfl⟩,q⟩
 refine⟨"str",_,F.slot_str_getitem.lookup,typeIs_str _ _ _,?_⟩
 cases pl with
 | none =>
  cases pu with
  | none=>exact GN (l:=none) (u:=none) (st:=none) hs rfl (post_val_or_str ⟨QP (LG z _ _) hz,fun t' k=>fin t' k⟩)
  | int j u=>exact GN (l:=none) (u:=some (j,u)) (st:=none) hs rfl (post_val_or_str ⟨QP (LG z _ _) hz,fun t' k=>fin t' k⟩)
 | int i u' =>
  cases pu with
  | none=>exact GN (l:=some (i,u')) (u:=none) (st:=none) hs rfl (post_val_or_str ⟨QP (LG z _ _) hz,fun t' k=>fin t' k⟩)
  | int j u=>exact GN (l:=some (i,u')) (u:=some (j,u)) (st:=none) hs rfl (post_val_or_str ⟨QP (LG z _ _) hz,fun t' k=>fin t' k⟩)
noncomputable def Jc6:V->List V->Hp->VK->Prop:=fun x vs H Q=>∃z y,x=.str z/\vs=[.str y]/\Q (.bl (Ka z y)) H
theorem ZJ:MtM X "str.startswith" Jc6:=by intro pins s σ H x vs v us Q I rx rv h;obtain⟨z,y,rfl,rfl,q⟩:=h;obtain⟨t,rfl⟩:=rx;obtain⟨u,rfl,ru⟩:=rv.one;obtain⟨t',rfl⟩:=ru;exact SC.startswith ⟨.bl _,H,I,rfl,q⟩
noncomputable def JiH:List V->Hp->VK->Prop:=fun xs H Q=>∃z n,xs=[.str z]/\intText? z=some n/\z.length<=640/\Q (.int n) H
theorem Jdt:CallR X (.type "int") JiH:=by intro pins s σ H xs us Q I r h;obtain⟨z,n,rfl,hn,hl,q⟩:=h;obtain⟨u,rfl,t,rfl⟩:=Vx r;exact PySem.W.KIN.call_text hn hl ⟨.int n,H,I.tok _,⟨_,rfl⟩,q⟩
noncomputable def Zm(z:Str)(n:Nat):Str:=⟨(QK n z.cps.toList).flatten.toArray⟩
theorem JaW:∀(n:Nat) (a b:Array Nat),((QK n a).foldl (·++·) b).toList=b.toList++(QK n a.toList).flatten
 | 0,a,b=>by simp
 | n+1,a,b=>by rw[Gs,List.foldl_cons,JaW n a (b++a),Array.toList_append,G0];simp[Gs]
theorem Je6(n:Nat)(l:List Nat):(QK n l).flatten.length=n*l.length:=by simp
noncomputable def JiI:R2:=fun x y H Q=>∃z n,x=.str z/\y=.int n/\1<=n/\n<=16777216/\z.length*n.toNat<=Qk/\Q (.str (Zm z n.toNat)) H
theorem JcU:OpR X (binaryOp .Mult) JiI:=by
 intro pins s σ H x y v u Q I rx ry h;obtain⟨z,n,rfl,rfl,h1,h2,hz,q⟩:=h;obtain⟨t,rfl⟩:=rx;obtain⟨t',rfl⟩:=ry;have big:¬n<1:=by omega
 have e0:∀w:Str,w.cps.toList=(QK n.toNat z.cps.toList).flatten->w=Zm z n.toNat:=fun w e=>by
  cases w with
  | mk c=>unfold Zm;congr 1;apply Array.toList_inj.mp;simpa using e
 refine P.mul_str (by rw[decide_eq_false (by omega),decide_eq_false (by omega)];rfl) (fun _ _=>?_) (fun _ _=>?_) ?_
 ·intro hgt
  have:(z.length:Int)<=(2 ^ 63-1) / n:=by
   rw[Int.le_ediv_iff_mul_le (by omega)];have e:((z.length*n.toNat:Nat):Int)=(z.length:Int)*n:=by rw[Int.natCast_mul];congr 1;omega
   have:=sizeLine_eq;omega
  omega
 ·unfold Builtin.Str.tooLong;simp only[decide_eq_false_iff_not,gt_iff_lt,Nat.not_lt];exact hz
 ·rw[if_neg big];split
  ·next c =>
   rw[Ky] at c
   have e:z=Zm z n.toNat:=e0 z (by
    rcases c with c|c
    ·have:n=1:=by simpa using c
     subst this;simp
    ·have:z.cps.toList=[]:=Go (by simpa [Mg] using c);rw[this];simp)
   exact⟨.str z,H,I,⟨_,rfl⟩,by rw[e] at q ⊢;rw[<- e] at q ⊢;rw[e];exact q⟩
  ·have e:(⟨(QK n.toNat z.cps).foldl (·++·) #[]⟩:Str)=Zm z n.toNat:=e0 _ (by show((QK n.toNat z.cps).foldl (·++·) #[]).toList=_;rw[JaW];simp)
   rw[e];refine⟨?_,⟨.str _,H,I.tok _,⟨_,rfl⟩,q⟩⟩;show(Zm z n.toNat).cps.size<=Qk;unfold Zm;simp only[Qt,Je6];rw[Nat.mul_comm];exact hz
noncomputable def Itc(z:Str):It:=⟨fun i _=>i<z.cps.size,fun i H x H'=>H'=H/\∃c,z.cps[i]?=some c/\x=.str ⟨#[c]⟩,fun i _=>i=z.cps.size⟩
theorem Jbv{P:Qo}{w:QC}{K:Qn}{tg:QR}(it:Qc)(z:Str)(t:Tok)(T:String)(hT:T="str_ascii_iterator"\/T="str_iterator"):Turn P w K tg (Itc z) [it] it (fun i h=>h.IsStrIter it T z t i) where
 mem:=by simp
 obj:=fun i h st b hb=>by
  have e:b=it:=by simpa using hb
  subst e;obtain⟨o,e,c,d⟩:=st;exact⟨o,e,fun v z=>by rw[d] at z;cases z⟩
 keep:=fun i h h' st k=>by obtain⟨o,e,r⟩:=st;exact⟨o,k it (by simp) o e,r⟩
 item:=by
  intro X hP hw hK hc i pins s σ H E I hf st hg;subst hP hw hK;obtain⟨f0,f1,f2,f3,f4,f5⟩:=hf it (by simp);have hx:z.cps[i]?=some z.cps[i]:=Lb hg
  have go:∀h',h'.IsStrIter it T z t (i+1)->Ke it s.heap h'->∃u,some (Value.str ⟨#[z.cps[i]]⟩ s.toks)=some u ∧
   wpAny (model X.prog X.w) X.A (letOwnedTupleGo tg (.ref it) u) (fun _ s2=>∃x H',Inv X pins σ H' s2/\RelV x u/\(Itc z).yld i H x H'/\s2.heap.IsStrIter it T z t (i+1)/\∀b∈[it],H' b=none) E { s with heap:=h',toks:=s.toks+1 }:=fun h' st' sb=>by
   have I1:Inv X pins σ H { s with heap:=h',toks:=s.toks+1 }:=I.turned (fun b o hb e=>(sb.2 b hb).trans e) f0 f1 f3 f4 f5;obtain⟨o,e,c,d⟩:=id st';refine⟨_,rfl,JcC (s:={ s with heap:=h',toks:=s.toks+1 }) e c d ?_ ⟨.str ⟨#[z.cps[i]]⟩,H,I1,⟨_,rfl⟩,⟨rfl,_,hx,rfl⟩,st',fun b hb=>(hf b hb).1⟩⟩;rcases hT with rfl|rfl <;> decide
  rcases hT with rfl|rfl
  ·exact wpAny_pyNext_ascii_item st hx fun h' st' sb=>go h' st' sb
  ·exact wpAny_pyNext_wide_item st hx fun h' st' sb=>go h' st' sb
 done:=by
  intro X hP hw hK hc i pins s σ H E I hf st hg;subst hP hw hK;obtain⟨f0,f1,f2,f3,f4,f5⟩:=hf it (by simp);have hx:z.cps[i]?=none:=Array.getElem?_eq_none (Mo (show i=z.cps.size from hg).symm);rcases hT with rfl|rfl
  ·exact wpAny_pyNext_ascii_end (I.ok.hd hc) st hx fun h' eb=>⟨rfl,I.turned (t':=s.toks) (fun b o hb e=>eb b o hb e) f0 f1 f3 f4 f5⟩
  ·exact wpAny_pyNext_wide_end (I.ok.hd hc) st hx fun h' eb=>⟨rfl,I.turned (t':=s.toks) (fun b o hb e=>eb b o hb e) f0 f1 f3 f4 f5⟩
 self:=fun _ _ _ _ _ st h=>by
  rcases hT with rfl|rfl
  ·exact wpAny_pyIter_striter_ascii st h
  ·exact wpAny_pyIter_striter_wide st h
noncomputable def JlD(tl:TE):TI:=fun σ H R=>tl σ H fun x H1=>∃z,x=.str z/\R (Itc z) H1
theorem Jkd{tg l:QR}{tl:TE}(hl:PE X l tl):PI X tg l (JlD tl):=by
 intro pins s σ H R I h;refine thn (hl pins s σ H _ I h) fun v s1 ⟨x,H1,I1,r1,q1⟩=>?_
 obtain⟨z,rfl,q⟩:=q1;obtain⟨t,rfl⟩:=r1
 have fr:∀b∈[s1.heap.objs.size],FpOk X pins H1 b:=fun b hb=>by
  have e:b=s1.heap.objs.size:=by simpa using hb
  subst e;exact I1.fpOk (Qq _) (I1.hok.fresh (Qq _))
 cases ha:z.cps.all (·<128)
 ·exact wpAny_pyIter_wide ha ⟨s1.heap.objs.size,[s1.heap.objs.size],_,_,H1,rfl,I1.kept (t':=s1.toks) fun b o e=>Qg _ e,Jbv _ z t _ (.inr rfl),⟨_,QH _ rfl,rfl,rfl⟩,fr,q⟩
 ·exact wpAny_pyIter_ascii ha ⟨s1.heap.objs.size,[s1.heap.objs.size],_,_,H1,rfl,I1.kept (t':=s1.toks) fun b o e=>Qg _ e,Jbv _ z t _ (.inl rfl),⟨_,QH _ rfl,rfl,rfl⟩,fr,q⟩
end
end L2
namespace L2
open PySem PySem.Spec PyProof.Rows PySem.Calls
section
variable{X:Cx}{es:List QR}{t:TA}{x:Str}{j:Nat}{p:Pos}
noncomputable def Vv:Nat->List QR->List Str->Option (List Str×List QR)
 | 0,es,acc=>some (acc.reverse,es)
 | n+1,.Constant (.str x) _ _::es,acc=>Vv n es (x::acc)
 | _,_,_=>none
noncomputable def Jbs:List Str->TA->TA
 | [],t=>t
 | y::ys,t=>Y0 (tC (.str y)) (Jbs ys t)
theorem Jbf:∀(n:Nat) {es rest:List QR} {acc ys:List Str} {t:TA},Vv n es acc=some (ys,rest)->PA X rest t->∃zs,ys=acc.reverse++zs/\PA X es (Jbs zs t)
 | 0,es,rest,acc,ys,t,h,hr=>by have h':some (acc.reverse,es)=some (ys,rest):=h;cases h';exact⟨[],by simp,hr⟩
 | n+1,.Constant (.str x) j p::es,rest,acc,ys,t,h,hr=>by obtain⟨zs,e1,e2⟩:=Jbf n (show Vv n es (x::acc)=some (ys,rest) from h) hr;exact⟨x::zs,by rw[e1];simp,Ja Jx e2 rfl⟩
theorem Vo(n:Nat){rest:List QR}{ys:List Str}(h:Vv n es []=some (ys,rest))(hr:PA X rest t):PA X es (Jbs ys t):=by
 obtain⟨zs,e1,e2⟩:=Jbf n h hr;have:ys=zs:=by simpa using e1
 rw[this];exact e2
structure PSi (X:Cx) (st:Gn) (ts:TS):Prop where
 out:PS X st ts
theorem Jfv{i:Nat}{pos pos' lp:Pos}(n:Nat){rest:List QR}{ys:List Str}(hN:X.N.Nodup)(hi:X.N[i]?=some x)(hx:Loc X.env.scope x)(h:Vv n es []=some (ys,rest))(hr:PA X rest t)(hf:X.fn x=true\/X.env.scope.names.lookup x=some .local:=by first|exact .inl rfl|exact .inr rfl|assumption) :
 PSi X (.Assign [.Name x pos'] (.List es lp) pos) (Jaz (Jii (Jbs ys t)) (UG i)):=⟨Jam hN hi hx (JN (Vo n h hr)) rfl hf⟩
structure PSsi (X:Cx) (ss:List Gn) (ts:TS):Prop where
 out:PSs X ss ts
theorem ZM{s:Gn}{ss:List Gn}{ts us:TS}(h:PSi X s ts)(r:PSsi X ss us):PSsi X (s::ss) (Jd6 ts us):=⟨Jf h.out r.out⟩
theorem Jfw{s:Gn}{ts:TS}(h:PSi X s ts):PSsi X [s] ts:=⟨Jl h.out⟩
theorem Fun.okI{P:Qo}{w:QC}{K:Qn}{mg:Str->Option Qa}{base:QI}{x qual:Str}{st:Gn}{f:Qc}{fd:QE}{N ps:List Str}{k:Nat}{sp:Sp}(F:Fun K x qual st f fd)(S:FnScope N ps (Jp st))(len:∀vs H Q E,sp vs H Q E->vs.length=ps.length)
 (hbody:∀(cdv:Qa) (A:Qw) (outer:List Env) (s:Qd) (H:Hp) (vs:List V) (Q:VK) (E:XK),Room k (A.deeper (envOfC qual (Jp st) s.heap.objs.size f cdv))->sp vs H Q E ->
  ∃t,PSsi (Wu CX0 P w K mg base N qual (Jp st) f cdv A outer s H E).nox (Yx st) t/\t { nx:=fun _ H'=>Q .non H',rt:=Q } (Yr N vs) H):FnOk P w K mg base CX0 (k+1) f fd ps sp :=
 F.ok S len fun cdv A outer s H vs Q E hr h=>(hbody cdv A outer s H vs Q E hr h).elim fun t q=>⟨t,q.1.out,q.2⟩
end
end L2

namespace LE
open PySem L2 LR
noncomputable def inS(i j:Str):Bool:=!(Q5 j i 0 j.length 1).isEmpty
noncomputable def JeF:Sl->Sl->Option Sl
 | .sh (.str i),.sh (.str j)=>some (.sh (.bl (inS i j)))
 | _,_=>none
noncomputable def VD(a:Ev)(lo hi:Option Ev):Ev:=fun E=>(a E).bind fun s=>(UD lo E).bind fun l=>(UD hi E).bind fun h=>(str? s).bind fun z=>if z.length<=16777216 then some (.sh (.str (Gq z l h))) else none
noncomputable def Yo(z:Str):List Sl->Option Sl
 | [.sh (.str y)]=>some (.sh (.bl (Ka z y)))
 | _=>none
noncomputable def Jcv:List Sl->Option Sl
 | [.sh (.str z)]=>if z.length<=640 then(intText? z).map fun n=>.sh (.int n) else none
 | _=>none
noncomputable def JaV:Sl->Sl->Option Sl
 | .sh (.str z),.sh (.int n)=>if 1<=n/\n<=16777216/\z.length*n.toNat<=16777216 then some (.sh (.str (Zm z n.toNat))) else none
 | _,_=>none
noncomputable def sgE(c:Nat):D:=.str ⟨#[c]⟩
noncomputable def iTx(a:Ev):En->Option (List D):=fun E=>(a E).bind fun s=>(str? s).map fun z=>z.cps.toList.map sgE
noncomputable def Y4(ys:List Str)(r:En->Option (List Sl)):En->Option (List Sl):=fun E=>(r E).map fun ss=>ys.map (fun y=>.sh (.str y))++ss
section
variable{K:Qn}{C:Qc}{te:TE}{ea:Ev}{tl th:TO}{el eh:Option Ev}{m:Bool}
theorem VS{t:TA}{ev:En->Option (List Sl)}(h:SA K C t ev):∀{ys:List Str},SA K C (Jbs ys t) (Y4 ys ev)
 | []=>by
  have e:Y4 [] ev=ev:=by funext E;unfold Y4;cases ev E <;> rfl
  rw[e];exact h
 | y::ys=>by
  have e:Y4 (y::ys) ev=aC (eC (.str y)) (Y4 ys ev):=by
   funext E
   show Ml _ (ev E)=(some (Sl.sh (D.str y))).bind fun x=>(Ml _ (ev E)).bind fun xs=>some (x::xs)
   cases ev E <;> rfl
  rw[e];exact Jd JG (VS h)
theorem JlJ:OpS K C (fun x y H Q=>∃i j,x=.str i/\y=.str j/\Q (.bl (!(Q5 j i 0 j.length 1).isEmpty)) H) JeF:=by
 intro Hs H0 H x y a b c Q i hs ra rb e q;unfold JeF at e;split at e
 ·cases e;exact⟨_,_,RD.strI ra,RD.strI rb,q _ _ _ (.refl i) (RD.bl _)⟩
 ·cases e
theorem Jfk:OpS K C JiI JaV:=by
 intro Hs H0 H x y a b c Q i hs ra rb e q;unfold JaV at e;split at e
 ·split at e
  ·next h=>cases e;exact⟨_,_,RD.strI ra,RD.intI rb,h.1,h.2.1,h.2.2,q _ _ _ (.refl i) (RD.str _)⟩
  ·cases e
 ·cases e
theorem WY(ha:SE K C te ea)(hl:SP' K C tl (UD el))(hh:SP' K C th (UD eh)):SE K C (tSl JlX te tl th) (VD ea el eh):=by
 intro B H0 H σ E c Q I e q;obtain⟨s,e1,e⟩:=bind_some e;obtain⟨l,e2,e⟩:=bind_some e;obtain⟨h,e3,e⟩:=bind_some e;obtain⟨z,e4,e⟩:=bind_some e;split at e
 ·next hz =>
  cases e;have e5:=W5 e4;subst e5;refine ha B H0 H σ E _ _ I e1 fun x H1 H1' s1 r1=>hl B H1 H1' σ E l _ (I.step s1) e2 fun H2 H2' s2=>hh B H2 H2' σ E h _ (I.step (s1.trans s2)) e3 fun H3 H3' s3=>?_
  exact⟨z,RD.strI r1,hz,q _ _ _ ((s1.trans s2).trans s3) (RD.str _)⟩
 ·cases e
theorem Vm:MtS K C Jc6 Yo:=by
 intro Hs H0 H z xs as c Q i hs r e q;unfold Yo at e;split at e
 ·cases e;obtain⟨v,rfl,r0⟩:=r.one;exact⟨z,_,rfl,by rw[RD.strI r0],q _ _ _ (.refl i) (RD.bl _)⟩
 ·cases e
theorem Ji6:V1 K C JiH Jcv:=by
 intro Hs H0 H xs as c Q i hs r e q;unfold Jcv at e;split at e
 ·split at e
  ·next hl=>obtain⟨n,e1,rfl⟩:=map_some e;obtain⟨v,rfl,r0⟩:=r.one;exact⟨_,n,by rw[RD.strI r0],e1,hl,q _ _ _ (.refl i) (RD.int _)⟩
  ·cases e
 ·cases e
theorem Jl7(ha:SE K C te ea):SI K C m (JlD te) (iTx ea):=by
 intro B H0 H σ E ds R I e q;obtain⟨s,e1,e⟩:=bind_some e;obtain⟨z,e2,rfl⟩:=map_some e;have e5:=W5 e2;subst e5;refine ha B H0 H σ E _ _ I e1 fun x H1 H1' s1 r1=>⟨z,RD.strI r1,q _ _ _ s1 ?_⟩
 intro H0' H' st;refine⟨fun i d e=>?_,by show(z.cps.toList.map sgE).length=z.cps.size;simp⟩;rw[QJ,LP] at e
 cases hc:z.cps[i]? with
 | none=>rw[hc] at e;cases e
 | some c=>rw[hc] at e;cases e;refine⟨(QO.mp hc).1,fun x H2 ⟨e1,c',e2,e3⟩=>?_⟩;rw[hc] at e2;cases e2;subst e1 e3;exact⟨H0',.refl st.i,.str _⟩
end
end LE

namespace L2
open PySem PySem.Spec PyProof.Rows PySem.Calls
section
variable{X:Cx}
end
end L2
namespace LE
open PySem L2 LR
section
variable{K:Qn}{C:Qc}{to te:TE}{eo ea:Ev}{Hs H0 H:Hp}{v:V}
end
end LE

namespace L2
open PySem PySem.Spec PyProof.Rows PySem.Calls
section
variable{X:Cx}
theorem ZW:∀(ys:List Str) (k:Nat),Vals (ys.map V.str) (strsFrom k ys)
 | [],_=>.nil
 | y::ys,k=>.cons ⟨k,rfl⟩ (ZW ys (k+1))
noncomputable def JfD:V->List V->Hp->VK->Prop:=fun x vs H Q=>∃z y,x=.str z/\vs=[.str y]/\(y.length == 0)=false/\z.length<=Qk/\(GO z y).length<=Qk/\∀l,H l=none->Q (.ref l) (upd H l (.lst ((GO z y).map V.str)))
theorem Ja4:MtM X "str.split" JfD:=by
 intro pins s σ H x vs v us Q I rx rv h;obtain⟨z,y,rfl,rfl,hy,hz,hn,q⟩:=h;obtain⟨t,rfl⟩:=rx;obtain⟨u,rfl,ru⟩:=rv.one;obtain⟨t',rfl⟩:=ru;have hne:H s.heap.objs.size=none:=I.hok.fresh (Qq _)
 have fin:∀(us:List Qa) (k:Nat),Vals ((GO z y).map V.str) us->EP X pins σ Q (.ref s.heap.objs.size) { s with heap:=s.heap.push { cls:=.type "list",data:=.seq us.toArray },toks:=k }:=fun us k r=>⟨.ref s.heap.objs.size,_,I.laid (t':=k) (fun b o x=>Qg _ x) (Qq _) (show ObjOk X.prog X.w _ _ _ (.lst ((GO z y).map V.str)) from⟨by rw[QB];exact hn,us,0,r,QH _ rfl⟩),rfl,q _ hne⟩
 cases h1:(decide (z.length<y.length) || decide (Gu z<Gu y)) with
 | true=>have e:GO z y=[z]:=if_pos h1;refine call_meets Lr (typeIs_str _ _ _) Lf (K9 _ _) (meets_str_split_cannot_occur z y t t' h1) ?_;exact fin [.str z t] s.toks (by rw[e];exact .cons ⟨t,rfl⟩ .nil)
 | false =>
  cases hf:(Q5 z y 0 z.length (z.length+1)).isEmpty with
  | true=>have e:GO z y=[z]:=(if_neg (ne_true_of_eq_false h1)).trans (if_pos hf);refine call_meets Lr (typeIs_str _ _ _) Lf (K9 _ _) (meets_str_split_not_found z y t t' h1 hy hf) ?_;exact fin [.str z t] s.toks (by rw[e];exact .cons ⟨t,rfl⟩ .nil)
  | false=>have e:GO z y=Li z (Q5 z y 0 z.length (z.length+1)) y.length:=(if_neg (ne_true_of_eq_false h1)).trans (if_neg (ne_true_of_eq_false hf));refine call_meets Lr (typeIs_str _ _ _) Lf (K9 _ _) (meets_str_split_sep z y t t' h1 hy hf hz (by rw[<- e];exact hn)) ?_;exact fin _ _ (by rw[e];exact ZW _ _)
noncomputable def JiG:V->List V->Hp->VK->Prop:=fun x vs H Q=>∃z y,x=.str z/\vs=[.str y]/\Q (.int (Mv z y)) H
theorem JcP:MtM X "str.find" JiG:=by intro pins s σ H x vs v us Q I rx rv h;obtain⟨z,y,rfl,rfl,q⟩:=h;obtain⟨t,rfl⟩:=rx;obtain⟨u,rfl,ru⟩:=rv.one;obtain⟨t',rfl⟩:=ru;exact SC.find ⟨.int _,H,I.tok _,⟨_,rfl⟩,q⟩
end
noncomputable def JjV:V->Bool
 | .non=>true
 | _=>false
noncomputable def Jfg:Qa->Bool
 | .none=>true
 | _=>false
noncomputable def JlR(K:Qn):R2:=fun x y H Q=>∃p xs,x=.non/\y=.ref p/\SqL K H p xs/\(∀v∈xs,v=.non\/(∃i,v=.int i)\/∃a ys,v=.ref a/\SqT K H a ys)/\Q (.bl (xs.any JjV)) H
theorem Jgh{xs:List V}{us:List Qa}(r:Vals xs us)(h:∀v∈xs,v=.non\/(∃i,v=.int i)\/∃a,v=.ref a):us.any Jfg=xs.any JjV:=by
 induction r with
 | nil=>rfl
 | cons r0 rs ih =>
  rw[Q9,Q9,ih fun v hv=>h v (Qp _ hv)];rcases h _ Qy with e|⟨i,e⟩|⟨a,e⟩ <;> subst e
  ·cases r0;rfl
  ·obtain⟨t,rfl⟩:=r0;rfl
  ·cases r0;rfl
theorem Jjh{X:Cx}{A:Qw}{pins:List (Qc×Obj)}{s:Qd}{σ:St}{H:Hp}(hu:A.units<cLine)(I:Inv X pins σ H s){xs:List V}{us:List Qa}(r:Vals xs us)(h:∀v∈xs,v=.non\/(∃i,v=.int i)\/∃a ys,v=.ref a/\SqT X.K H a ys):∀u∈us,SeqAt.EqAt A s u .none (Jfg u):=by
 induction r with
 | nil=>intro u hu;cases hu
 | cons r0 rs ih =>
  intro u hu';rcases Qm.mp hu' with e|e
  ·subst e;rcases h _ Qy with e|⟨i,e⟩|⟨a,ys,e,q⟩ <;> subst e
   ·cases r0;exact Jev (x:=.non) (y:=.non) rfl rfl rfl rfl
   ·obtain⟨t,rfl⟩:=r0;exact L9 i t
   ·cases r0;obtain⟨its,_,pl,_⟩:=I.tuple q;exact SeqAt.EqAt.tuple_none pl hu
  ·exact ih (fun v hv=>h v (Qp _ hv)) u e
theorem Jj4{X:Cx}{K:Qn}(hK:X.K=K)(hu:X.A.units+64<cLine):OpR X (compareOp .In) (JlR K):=by subst hK;intro pins s σ H x y v u Q I rx ry h;obtain⟨p,xs,rfl,rfl,hq,hx,q⟩:=h;cases ry;cases rx;obtain⟨its,r,pl,hz⟩:=I.list hq;refine SeqAt.in_listAt Jfg pl.isList (fun w hw=>Jjh (show X.A.units+1<cLine by omega) I r hx w (by simpa using hw)) ⟨.bl _,H,I,rfl,?_⟩;rw[show its.toArray.any Jfg=its.any Jfg by simp,Jgh r fun v hv=>(hx v hv).imp id (Or.imp id fun⟨a,_,e,_⟩=>⟨a,e⟩)];exact q
end L2
namespace LE
open PySem L2 LR
noncomputable def Uk(z:Str):List Sl->Option Sl
 | [.sh (.str y)]=>if (y.length == 0)=false/\z.length<=16777216/\(GO z y).length<=16777216 then some (.own ((GO z y).map .str)) else none
 | _=>none
noncomputable def UF(z:Str):List Sl->Option Sl
 | [.sh (.str y)]=>some (.sh (.int (Mv z y)))
 | _=>none
noncomputable def okN:D->Bool
 | .non=>true
 | .int _=>true
 | .tup _=>true
 | _=>false
noncomputable def JgP(x y:Sl):Option Sl:=match x with
 | .sh .non=>y.r.bind fun ds=>if ds.all okN=true then some (.sh (.bl (ds.any D.isNon))) else none
 | _=>none
section
variable{K:Qn}{C:Qc}
theorem JlI:OpS K C (JlR K) JgP:=by
 intro Hs H0 H x y a b c Q i hs ra rb e q;unfold JgP at e;split at e
 ·obtain⟨ds,e1,e⟩:=bind_some e;split at e
  ·next hok =>
   cases e;obtain⟨l,xs,rfl,h,r⟩:=rb.r i e1
   have item:∀(j:Nat) (v:V),xs[j]?=some v->∃d,ds[j]?=some d/\RD K C H0 v d/\okN d=true:=fun j v hv=>by obtain⟨d,h1,h2⟩:=r.get' hv;exact⟨d,h1,h2,QS.mp hok d (QQ h1)⟩
   have an:∀{xs:List V} {ds:List D},RDL K C H0 xs ds->ds.all okN=true->xs.any JjV=ds.any D.isNon:=by
    intro xs
    induction xs with
    | nil=>intro ds r _;cases ds with
     | nil=>rfl
     | cons d ds=>have:=r.1;cases this
    | cons v xs ih=>intro ds r hk;cases ds with
     | nil=>have:=r.1;cases this
     | cons d ds =>
      rw[Kq,Qz] at hk;rw[Q9,Q9,ih r.tail hk.2];congr 1;have r0:=r.head
      cases d with
      | non=>rw[RD.nonI r0];rfl
      | int i=>rw[RD.intI r0];rfl
      | tup l=>obtain⟨a,ys,rfl,_,_⟩:=RD.tupI r0;rfl
      | _=>cases hk.1
   refine⟨l,xs,RD.nonI ra,rfl,h,fun v hv=>?_,?_⟩
   ·obtain⟨j,hj⟩:=GW.mp hv;obtain⟨d,_,h2,h3⟩:=item j v hj
    cases d with
    | non=>exact .inl (RD.nonI h2)
    | int i=>exact .inr (.inl ⟨i,RD.intI h2⟩)
    | tup l=>obtain⟨a,ys,rfl,hq,_⟩:=RD.tupI (h2.mono i);exact .inr (.inr ⟨a,ys,rfl,hq⟩)
    | _=>cases h3
   ·rw[an r hok];exact q _ _ _ (.refl i) (RD.bl _)
  ·cases e
 ·cases e
theorem JfI{H:Hp}(ns:List Str):RDL K C H (ns.map V.str) (ns.map D.str):=by refine⟨by simp,fun i x d h1 h2=>?_⟩;rw[QJ] at h1 h2;obtain⟨n,e,rfl⟩:=KG.mp h1;rw[e] at h2;cases h2;exact .str n
theorem JcM:MtS K C JfD Uk:=by
 intro Hs H0 H z xs as c Q i hs r e q;unfold Uk at e;split at e
 ·split at e
  ·next hn=>cases e;obtain⟨v,rfl,r0⟩:=r.one;exact⟨z,_,rfl,by rw[RD.strI r0],hn.1,hn.2.1,hn.2.2,fun p hp=>UV i hs hp (JfI _) q⟩
  ·cases e
 ·cases e
theorem JbP:MtS K C JiG UF:=by
 intro Hs H0 H z xs as c Q i hs r e q;unfold UF at e;split at e
 ·cases e;obtain⟨v,rfl,r0⟩:=r.one;exact⟨z,_,rfl,by rw[RD.strI r0],q _ _ _ (.refl i) (RD.int _)⟩
 ·cases e
end
end LE

namespace PySem
open AutoSeq1 (wpAny_loadPart')
section
variable{prog:Qo}{w:QC}{A:Qw}{E:Qa->Qd->Prop}{s:Qd}
end
section
variable{prog:Qo}{w:QC}{A:Qw}{E:Qa->Qd->Prop}{s:Qd}
end
section
variable{prog:Qo}{w:QC}{A:Qw}{E:Qa->Qd->Prop}{s:Qd}{b:Bool}{a e it:Qc}{xs:Array Qa}
end
end PySem
namespace L2
open PySem PySem.Spec PyProof.Rows
end L2
namespace LE
open PySem L2 LR
section
variable{K:Qn}{C:Qc}{m:Bool}
end
end LE

namespace L2
open PySem PySem.Spec PyProof.Rows PySem.Calls
section
variable{X:Cx}{K:Qn}{e:QR}{te:TE}{p2 pos:Pos}
end
end L2
namespace LE
open PySem L2 LR
section
variable{K:Qn}{C:Qc}{te:TE}{ea:Ev}
end
end LE

namespace LE
open PySem L2 LR
section
variable{K:Qn}{C:Qc}
end
end LE

namespace L2
open PySem PySem.Spec PyProof.Rows
structure Blk1 (X:Cx) (sc:K3) (cl:List (Str×Qc)) (y:Str) (N':List Str) (imp:List (Option Nat)):Prop where
 clos:closureFor sc X.env=pure cl
 kind:sc.kind=.function
 cf:∀n,cellsFrom n sc.names cl=(y,n)::cl
 cf0:∀n,cellsFrom n sc.names []=[(y,n)]
 names:∀y∈sc.names,y.2=.local->sc.names.lookup y.1=some .local
 sub:∀p∈cl,X.env.cells.lookup p.1=some p.2
 has:∀z∈(relabel sc X.env).names,(z.2=.cell\/z.2=.free)->z.1=y\/(cl.lookup z.1).isSome=true
 len:imp.length=N'.length
 im:∀p∈imp.zip N',∀k,p.1=some k->p.2≠y/\X.N[k]?=some p.2/\(X.env.scope.names.lookup p.2=some .cell\/X.env.scope.names.lookup p.2=some .free)/\((relabel sc X.env).names.lookup p.2=some .cell\/(relabel sc X.env).names.lookup p.2=some .free)
section
variable{X:Cx}{tg iter elt:QR}{ifs:List QR}{sc:K3}{cl:List (Str×Qc)}{y:Str}{N':List Str}{imp:List (Option Nat)}{pos:Pos}{wi:TI}{g:TG}{tt:TT}{te:TE}
theorem Blk1.subL(B:Blk1 X sc cl y N' imp):∀x c,cl.lookup x=some c->X.env.cells.lookup x=some c:=fun x c e=>B.sub (x,c) (Um e)
end
end L2

namespace L2
open PySem PySem.W PyProof.Rows
structure Pm (p:Array Nat) (N:Nat):Prop where
 size:p.size=N
 low:∀a,a<N->p.getD a 0<N
 inj:∀a b,a<N->b<N->p.getD a 0=p.getD b 0->a=b
theorem JjU{l:List Nat}(nd:l.Nodup){a b:Nat}(h1:a<l.length)(h2:b<l.length)(e:l[a]=l[b]):a=b:=by
 rcases Nat.lt_trichotomy a b with c|c|c
 ·exact absurd e (Kk.mp nd a b h1 h2 c)
 ·exact c
 ·exact absurd e.symm (Kk.mp nd b a h2 h1 c)
theorem Pm.of{p:Array Nat}{N:Nat}(h:p.toList.Perm (Gi N)):Pm p N:=by
 have hz:p.size=N:=by have:=h.length_eq;simpa using this
 have get:∀a,a<N->p.toList[a]?=some (p.getD a 0):=fun a ha=>by rw[LP,Lb (by omega)];simp[Array.getD,show a<p.size by omega]
 refine⟨hz,fun a ha=>?_,fun a b ha hb e=>?_⟩
 ·have:=h.mem_iff.mp (QQ (get a ha))
  simpa using this
 ·have nd:p.toList.Nodup:=h.nodup_iff.mpr List.nodup_range
  have ga:=get a ha
  have gb:=get b hb;rw[e] at ga;obtain⟨h1,e1⟩:=Qi.mp ga;obtain⟨h2,e2⟩:=Qi.mp gb;exact JjU nd h1 h2 (e1.trans e2.symm)
section
variable{N:Nat}{lt:Nat->Nat->Bool}{cmp:Nat->Nat->(Bool->Qd->Prop)->Qd->Prop}{I:Qd->Prop}
end
end L2

namespace L2
open PySem PySem.W PyProof.Rows
section
variable{prog:Qo}{w:QC}{A:Qw}{E:Qa->Qd->Prop}{s:Qd}
end
end L2

namespace L2
open PySem PySem.W PyProof.Rows
noncomputable abbrev PrI:=Int×Int
noncomputable def TupP(h:QI)(v:Qa)(p:PrI):Prop:=∃a o n t u,v=.ref a/\h.get? a=some o/\o.cls=.type "tuple"/\o.data=.seq #[.int p.1 t,.int p.2 u] n
section
variable{prog:Qo}{w:QC}{A:Qw}{E:Qa->Qd->Prop}{s:Qd}
theorem TupP.off{h h1:QI}{a:Qc}{vs:Array Qa}{n:Nat}{v:Qa}{p:PrI}(ho:h.get? a=some (seqObj "list" vs n))(keep:∀b ob,b≠a->h.get? b=some ob->h1.get? b=some ob)(t:TupP h v p):TupP h1 v p:=by obtain⟨b,o,m,t,u,rfl,hb,hc,hd⟩:=t;refine⟨b,o,m,t,u,rfl,keep b o (fun e=>?_) hb,hc,hd⟩;subst e;rw[ho] at hb;cases hb;have z:(Value.type "list":Qa)=.type "tuple":=hc;exact absurd z (by decide)
end
end L2

namespace L2
open PySem PySem.Spec PySem.W PyProof.Rows
section
variable{prog:Qo}{w:QC}{A:Qw}{E:Qa->Qd->Prop}{s:Qd}
end
section
variable{X:Cx}
end
end L2

namespace L2
open PySem PySem.Spec PySem.W PyProof.Rows
noncomputable def RawD(h:QI)(d:Qc)(es:Array DictEntry)(ep:Nat):Prop:=∃o,h.get? d=some o/\o.ExactDict/\o.data=.dict es ep
section
variable{prog:Qo}{w:QC}{A:Qw}{E:Qa->Qd->Prop}{s:Qd}{it d v:Qc}{i ep:Nat}{es:Array DictEntry}
theorem RawD.at{h h':QI}(x:RawD h d es ep)(e:∀o,h.get? d=some o->h'.get? d=some o):RawD h' d es ep:=let ⟨o,ho,r⟩:=x;⟨o,e _ ho,r⟩
theorem RawD.lt{h:QI}(x:RawD h d es ep):d<h.objs.size:=let ⟨_,ho,_⟩:=x;Qj ho
end
end L2

namespace L2
open PySem PySem.Spec PySem.W PyProof.Rows
theorem KT.get{H:Hp}:∀{kvs:List (List Key×V)} {xs:List (List Key×Qc×Qa)},KT H kvs xs->kvs.length=xs.length/\∀(i:Nat) (k:List Key×V) (x:List Key×Qc×Qa),kvs[i]?=some k->xs[i]?=some x->k.1=x.1/\H x.2.1=some (.tup (k.1.map kV))
 | _,_,.nil=>⟨rfl,fun i k x e=>by simp at e⟩
 | _,_,.cons h t=>by
  obtain⟨h1,h2⟩:=KT.get t;refine⟨by simp[h1],fun i k x e1 e2=>?_⟩
  cases i with
  | zero=>simp at e1 e2;subst e1 e2;exact⟨h.1,h.2.1⟩
  | succ i=>exact h2 i k x (by simpa using e1) (by simpa using e2)
end L2

namespace L2
open PySem PySem.Spec PySem.W PyProof.Rows
end L2
namespace LE
open PySem L2 LR
section
variable{K:Qn}{C:Qc}{Hs H0 H:Hp}
end
noncomputable def Sl.dt:Sl->Option (List (Int×Int)×List D)
 | .bt ks ds=>some (ks,ds)
 | .ot ks ds=>some (ks,ds)
 | _=>none
noncomputable def pr?:Sl->Option (Int×Int)
 | .sh (.tup [.int a,.int b])=>some (a,b)
 | _=>none
section
variable{K:Qn}{C:Qc}{Hs H0 H:Hp}{td ty te tk1 tk2:TE}{ed ek ea k1 k2:Ev}
theorem RR.dt{v:V}{s:Sl}{p:List (Int×Int)×List D}(r:RR K C Hs H0 H v s)(e:s.dt=some p):∃l xs,v=.ref l/\H l=some (dtO p.1 xs)/\p.1.length=p.2.length/\RDL K C H0 xs p.2:=by
 cases s with
 | bt ks ds=>cases e;exact r
 | ot ks ds=>cases e;obtain⟨l,xs,h1,h2,_,_,h3⟩:=r;exact⟨l,xs,h1,h2,h3⟩
 | _=>cases e
noncomputable def JlE:List Sl->Option (Int×Int)
 | [.sh (.int a),.sh (.int b)]=>some (a,b)
 | _=>none
end
end LE

namespace LE
open PySem L2 LR
section
variable{K:Qn}{C:Qc}
end
end LE

namespace LE
open PySem L2 LR
noncomputable def Y2{α:Type}(xs:List α)(k:Nat)(x:α):List α:=xs.take k++x::xs.drop k
section
variable{X:Cx}
noncomputable def Jc4:V->List V->Hp->VK->Prop:=fun x vs H Q=>∃l xs i y,x=.ref l/\vs=[.int i,y]/\H l=some (.lst xs)/\0<=i/\i<=(xs.length:Int)/\xs.length<Qk/\Q .non (upd H l (.lst (Y2 xs i.toNat y)))
theorem WC{α:Type}(xs:List α)(k:Nat)(x:α)(h:k<=xs.length):(Y2 xs k x).length=xs.length+1:=by unfold Y2;rw[Qu,Gj,Qh,GK];omega
theorem VJ:MtM X "list.insert" Jc4:=by
 intro pins s σ H x vs v us Q I rx rv h;obtain⟨l,xs,i,y,rfl,rfl,hH,h0,h1,hz,q⟩:=h;cases rx;obtain⟨u,w,rfl,ru,rw'⟩:=rv.two;obtain⟨t,rfl⟩:=ru;obtain⟨z,its,n,r,hl,e⟩:=I.lstM hH;have hzz:xs.length<16777216:=hz;refine call_meets F.slot_list_insert ⟨_,e,rfl⟩ F.entry_list_insert (F.args_list_insert_3 _ _ _)
  (AutoSeq1.list_insert_list_int_val_1 l its.toArray n i t w (by rw[fitsIndex_both (by omega) (by omega)];exact Qx) (by rw[Qt];omega)) ⟨e,?_⟩
 refine⟨.non,_,I.lset (its':=Y2 its i.toNat w) hH e ?_ ((r.take _).append (.cons rw' (r.drop _))) ?_,rfl,q⟩
 ·show(have k:=if i<0 then(i+(its.toArray.size:Int)).toNat else min i.toNat its.toArray.size;(its.toArray.extract 0 k).push w++its.toArray.extract k)=_;rw[if_neg (by omega),Qt,<- hl,show min i.toNat xs.length=i.toNat by omega];unfold Y2;simp;exact Gw (by rw[GK];omega)
 ·show(Y2 xs i.toNat y).length<=16777216;rw[WC _ _ _ (by omega)];omega
end
noncomputable def JbA(i:Nat)(a b:Ev):Es:=fun E=>match E[i]? with
 | some (.own ds)=>((a E).bind int?).bind fun z=>(b E).bind fun s=>s.frz.bind fun d=>if 0<=z/\z<=(ds.length:Int)/\ds.length<=1000 then some (.nx (E.set i (.own (Y2 ds z.toNat d)))) else none
 | _=>none
section
variable{K:Qn}{C:Qc}
theorem RDL.drp{H:Hp}:∀{xs:List V} {ds:List D} (k:Nat),RDL K C H xs ds->RDL K C H (xs.drop k) (ds.drop k)
 | xs,ds,0,h=>h
 | [],[],k+1,h=>by simpa using h
 | [],_::_,_,h=>by have:=h.1;simp at this
 | _::_,[],_,h=>by have:=h.1;simp at this
 | x::xs,d::ds,k+1,h=>by rw[List.drop_succ_cons,List.drop_succ_cons];exact RDL.drp k h.tail
theorem Jf6{i:Nat}{ta tb:TE}{ea eb:Ev}(ha:SE K C ta ea)(hb:SE K C tb eb):SS K C (ZU (tBM K "list" Jc4 (JaA i) (Y0 ta (Y0 tb Zo)))) (JbA i ea eb):=by
 intro B H0 H σ E o D I e f;unfold JbA at e;split at e
 ·next ds h =>
  obtain⟨z,e1,e⟩:=bind_some e;obtain⟨t,e1,e2⟩:=bind_some e1;obtain rfl:=JeX e2;obtain⟨s,e3,e⟩:=bind_some e;obtain⟨d,e4,e⟩:=bind_some e;split at e
  ·next hz =>
   cases e;obtain⟨l,xs,g1,g2,g3,g4,g5⟩:=I.slot h;refine⟨_,g1,.inl ⟨rfl,_,.of g2⟩,?_⟩;refine ha B H0 H σ E _ _ I e1 fun v H1 H1' s1 r1=>?_
   refine hb B H1 H1' σ E _ _ (I.step s1) e3 fun w H3 H3' s3 r3=>?_
   have s4:Step H1' H1 H1' (YO H1' H3 H3') H3':=s3.comp (JX s3.i) fun _ z=>z
   have s2:=s1.trans s4
   have I2:=I.step s2;rw[RD.intI r1]
   have hl:xs.length=ds.length:=g5.1
   have g6:=g5.mono s2.z
   have m:=I2.mut (xs:=Y2 xs z.toNat w) h g1 ((g6.take z.toNat).append (RDL.cons (RR.frz s3.i r3 e4) (g6.drp z.toNat)));refine⟨l,xs,z,w,rfl,rfl,s2.h _ _ g2,hz.1,by omega,?_,f _ _ _ ⟨m.b,s2.z,(s2.ss I.b).n,m.h⟩ m⟩
   show xs.length<16777216;omega
  ·cases e
 ·cases e
end
end LE

namespace L2
open PySem
noncomputable def Ris(xs:Array Nat):Prop:=xs.toList.Pairwise (·<·)
theorem Ris.lt{xs:Array Nat}(r:Ris xs){i j:Nat}(h:i<j)(hj:j<xs.size):xs[i]'(by omega)<xs[j]:=by
 have:=Kk.mp r i j (by simp;omega) (by simpa using hj) h
 simpa using this
noncomputable def TOk(led:Bool)(t:SetTable):Prop:=(t.plain=true->Ris t.place)/\t.led=led
end L2

namespace L2
open PySem PyProof.Rows
structure SetS (prog:Qo) (w:QC) (led:Bool) (h:QI) (a:Qc) (S:Int->Bool) (n:Nat) (o:Obj) (es:Array (Int×Qa)) (ep:Nat) (t:SetTable):Prop where
 got:h.get? a=some o
 ex:o.ExactSet
 data:o.data=.set es ep t
 els:ElemsOf (intKind prog w) es.toList
 mem:∀k,S k=true↔∃e∈es.toList,(intKind prog w).is k e.2=true
 few:es.size<scanBound
 fits:t.fits es.size=true
 size:es.size=n
 tok:TOk led t
noncomputable def SetL(prog:Qo)(w:QC)(led:Bool)(h:QI)(a:Qc)(S:Int->Bool)(n:Nat):Prop:=∃o es ep t,SetS prog w led h a S n o es ep t
section
variable{prog:Qo}{w:QC}{A:Qw}{E:Qa->Qd->Prop}{s:Qd}{led:Bool}{a:Qc}{S:Int->Bool}{n:Nat}
theorem SetL.as{h:QI}{S':Int->Bool}{n':Nat}(x:SetL prog w led h a S n)(e:∀k,S k=S' k)(en:n=n'):SetL prog w led h a S' n':=by have:S=S':=funext e;subst this en;exact x
end
section
variable{prog:Qo}{w:QC}{A:Qw}{R:LY->Qd->Prop}{I:Qc}{fp wr:List Qc}{G:Array GenState->Array GenState->Prop}{n:Nat}{P:Nat->Qa->Prop}{St:Nat->Qd->Prop}
end
end L2

namespace L2
open PySem PyProof.Rows
section
variable{prog:Qo}{w:QC}{A:Qw}{E:Qa->Qd->Prop}{s:Qd}
end
end L2

namespace L2
open PySem PyProof.Rows PySem.W
end L2

namespace L2
open PySem PyProof.Rows PySem.W
noncomputable def SIt(h:QI)(I d:Qc)(f:Qa)(i n ep:Nat):Prop:=∃o,h.get? I=some o/\o.cls=.type "set_iterator"/\o.data=.fields #[f,.int i 0,.ref d,.int n 0,.int ep 0]
section
variable{prog:Qo}{w:QC}{A:Qw}{E:Qa->Qd->Prop}{s:Qd}{I d:Qc}{f:Qa}{i n ep:Nat}{es:Array (Int×Qa)}{t:SetTable}{o:Obj}
theorem SIt.type{s:Qd}(x:SIt s.heap I d f i n ep):s.TypeIs (.ref I) "set_iterator":=let ⟨o,ho,hc,_⟩:=x;⟨o,ho,hc⟩
theorem SIt.at{h h':QI}(x:SIt h I d f i n ep)(e:∀o,h.get? I=some o->h'.get? I=some o):SIt h' I d f i n ep:=let ⟨o,ho,r⟩:=x;⟨o,e _ ho,r⟩
noncomputable def SHas(h:QI)(d:Qc)(es:Array (Int×Qa))(ep:Nat)(t:SetTable):Prop:=∃o,h.get? d=some o/\o.ExactSet/\o.data=.set es ep t
theorem SHas.at{h h':QI}(x:SHas h d es ep t)(e:∀o,h.get? d=some o->h'.get? d=some o):SHas h' d es ep t:=let ⟨o,ho,r⟩:=x;⟨o,e _ ho,r⟩
end
end L2

namespace L2
open PySem PyProof.Rows PySem.W PySem.Spec
section
variable{prog:Qo}{w:QC}{A:Qw}{E:Qa->Qd->Prop}{s:Qd}{d:Qc}{ep:Nat}{es:Array (Int×Qa)}{t:SetTable}
end
section
variable{X:Cx}
theorem PE.imp{e:QR}{t1 t2:TE}(h:PE X e t1)(i:∀σ H Q,t2 σ H Q->t1 σ H Q):PE X e t2:=fun pins s σ H Q I x=>h pins s σ H Q I (i σ H Q x)
end
section
variable{X:Cx}{e:QR}{te:TE}{p1 p2 q1 q2:Pos}
end
end L2

namespace LE
open PySem L2 LR
section
variable{K:Qn}{C:Qc}{td:TE}{ed:Ev}
end
end LE

namespace L2
open PySem PyProof.Rows PySem.W PySem.Spec
section
variable{X:Cx}
end
end L2
namespace LE
open PySem L2 LR
section
variable{K:Qn}{C:Qc}
end
end LE

namespace L2
open PySem PyProof.Rows PySem.W PySem.Spec
end L2
namespace LE
open PySem L2 LR
section
variable{K:Qn}{C:Qc}
end
end LE

namespace L2
open PySem PyProof.Rows PySem.W PySem.Spec
section
variable{prog:Qo}{w:QC}{A:Qw}{E:Qa->Qd->Prop}{s:Qd}
end
section
variable{prog:Qo}{w:QC}{A:Qw}{R:LY->Qd->Prop}{I:Qc}{fp wr:List Qc}{G:Array GenState->Array GenState->Prop}{n:Nat}{P:Nat->Qa->Prop}{St:Nat->Qd->Prop}
end
section
variable{prog:Qo}{w:QC}{A:Qw}{E:Qa->Qd->Prop}{s:Qd}
end
end L2

namespace L2
open PySem PyProof.Rows PySem.W PySem.Spec
end L2
namespace LE
open PySem L2 LR
noncomputable def prs?:List D->Option (List PrI)
 | []=>some []
 | .tup [.int a,.int b]::r=>(prs? r).map ((a,b)::·)
 | _=>none
theorem JcZ:∀ps:List PrI,prs? (ps.map prE)=some ps
 | []=>rfl
 | p::ps=>by show(prs? (ps.map prE)).map _=_;rw[JcZ ps];rfl
section
variable{K:Qn}{C:Qc}{td:TE}{ed:Ev}
end
end LE

namespace LE
open PySem L2 LR
noncomputable def ifB(f:Sl->Sl->Option Sl)(d:D)(ew:Ev)(a b:Es):Es:=fun E=>((ew E).bind fun s=>(f (.sh d) s).bind bool?).bind fun k=>if k=true then a E else b E
section
variable{K:Qn}{C:Qc}{r:R2}{f:Sl->Sl->Option Sl}{j:Nat}{ty tx tw:TE}{ek ev ew:Ev}{t u:TS}{et eu:Es}
end
end LE

namespace LE
open PySem L2 LR
section
variable{K:Qn}{C:Qc}{Hs H0 H:Hp}{td tx:TE}{ed ex:Ev}
end
end LE

namespace L2
open PySem PySem.Spec PyProof.Rows
end L2
namespace LE
open PySem L2 LR
section
variable{K:Qn}{C:Qc}{te:TE}{ea:Ev}
end
theorem Jhf{x y:Int}{α:Type}{r:α}(h:x.natAbs<=10 ^ 200/\y.natAbs<=10 ^ 200):(if (Wr x && Wr y)=true then some r else none)=some r:=by rw[if_pos];simp only[Qz,Wr,G7];exact h
end LE

namespace LE
open PySem L2 LR
end LE

namespace L2
open PySem PySem.Spec PyProof.Rows
section
variable{X:Cx}{pos:Pos}
theorem pgN(i:Nat){x:Str}(hN:X.N.Nodup)(hi:X.N[i]?=some x:=by rfl)(hx:Loc X.env.scope x:=by exact Or.inl rfl)(hf:X.fn x=true\/X.env.scope.names.lookup x=some .local:=by exact Or.inr rfl):PG X (.Name x pos) (UG i):=UY hN hi hx hf
theorem psN(i:Nat){x:Str}{e:QR}{te:TE}{pos':Pos}(hN:X.N.Nodup)(he:PE X e te)(hi:X.N[i]?=some x:=by rfl)(hx:Loc X.env.scope x:=by exact Or.inl rfl)(hs:swapsWith e (some (.Name x pos')) pos.line X.env=pure false:=by rfl)(hf:X.fn x=true\/X.env.scope.names.lookup x=some .local:=by first|exact .inl rfl|exact .inr rfl|assumption):PS X (.Assign [.Name x pos'] e pos) (Jaz te (UG i)):=Jam hN hi hx he hs hf
theorem pxK(K:Qn){a b:QR}{ta tb:TE}(ha:PE X a ta)(hb:PE X b tb)(hK:X.K=K:=by rfl)(hs:Jcj b:=by exact fun _ _=>rfl):PE X (.Subscript a b pos) (tOp (rIx K) ta tb):=JlO (Jg2 hK) ha hb hs
theorem piK(K:Qn){tg l:QR}{tl:TE}(hl:PE X l tl)(hK:X.K=K:=by rfl):PI X tg l (JbK K tl):=Jhx hK hl
theorem hrM{j k:Nat}{A:Qw}(r:Room k A)(h:j<=k:=by decide):Room j A:=r.mono h
end
end L2
namespace LE
open PySem PyProof.Rows L2 LR
structure PB (P:Qo) (w:QC) (base:QI):Prop where
section
variable{P:Qo}{w:QC}{K:Qn}{mg:Str->Option Qa}{base:QI}{x y q:Str}{st:Gn}{f:Qc}{fd:QE}{k:Nat}{ps:List Str}{sp:Sp}
theorem YF(Z:PB P w base)(F:Fun K x q st f fd)(o:FnOk P w K mg base CX0 k f fd ps sp)(m:mg y=some (.ref f))
 (h:∀(kV doc pm:Qa) (an:Option Qc) (cdv ct:Qa) (us:List Qa),us.length=ps.length->bindArgs (fnOf x q (Y5 st) (Yx st) (Jp st) .none kV doc pm an cdv ct) ⟨us,[]⟩=pure (ps.zip us)):Cal P w K mg base y k ps sp:=⟨f,fd,o,m,F.kp,F.binds h⟩
theorem Jcn(Z:PB P w base)(F:Fun K x q st f fd)(o:FnOk P w K mg base (CX1 P w) k f fd ps sp)(m:mg y=some (.ref f))
 (h:∀(kV doc pm:Qa) (an:Option Qc) (cdv ct:Qa) (us:List Qa),us.length=ps.length->bindArgs (fnOf x q (Y5 st) (Yx st) (Jp st) .none kV doc pm an cdv ct) ⟨us,[]⟩=pure (ps.zip us)):CalX P w K mg base y k ps sp:=⟨f,fd,o,m,F.kp,F.binds h⟩
end
section
variable{P:Qo}{w:QC}{K:Qn}{C:Qc}{mg:Str->Option Qa}{base:QI}{x qual:Str}{st:Gn}{f:Qc}{fd:QE}{N ps:List Str}{k n:Nat}{b:Es}
theorem okE(F:Fun K x qual st f fd)(S:FnScope N ps (Jp st))(hn:n=ps.length)
 (hb:∀(cdv:Qa) (A:Qw) (outer:List Env) (s:Qd) (H:Hp) (E:XK),Room k (A.deeper (envOfC qual (Jp st) s.heap.objs.size f cdv))->(A.deeper (envOfC qual (Jp st) s.heap.objs.size f cdv)).units+64<cLine ->
  ∃t,PSs (Wu CX0 P w K mg base N qual (Jp st) f cdv A outer s H E).nox (Yx st) t/\SS K C t b):FnOk P w K mg base CX0 (k+1) f fd ps (spE K C n (Uf N.length b)) :=
 F.ok S (fun vs H Q E h=>(Jde h).trans hn) fun cdv A outer s H vs Q E hr h=>(hb cdv A outer s H E hr hr.units).elim fun t q=>⟨t,q.1,Z7 q.2 h⟩
end
end LE

namespace L2
open PySem PySem.Spec PyProof.Rows
end L2
namespace LE
open PySem L2 LR
section
variable{K:Qn}{C:Qc}{te:TE}{ea:Ev}
end
theorem Jgq{y:Int}{α:Type}{r:α}(h:0<y/\y.natAbs<=10 ^ 200):(if (decide (0<y) && Wr y)=true then some r else none)=some r:=by rw[if_pos];simp only[Qz,Wr,G7,decide_eq_true_eq];exact h
end LE

namespace L2
open PySem PySem.Spec PyProof.Rows
end L2
namespace LE
open PySem L2 LR
section
variable{K:Qn}{C:Qc}{td:TE}{ed:Ev}
end
end LE

namespace LE
open PySem L2 LR
section
variable{K:Qn}{C:Qc}{W:XK}{t:TS}{a b:Xv}
end
end LE

namespace L2
open PySem PySem.Spec PyProof.Rows PySem.Calls Builtin Builtin.ObjectAttr
section
variable{prog:Qo}{w:QC}{A:Qw}{E:Qa->Qd->Prop}{h:QI}{g:Array GenState}{d:Drawn}{t:Nat}{os:OsState}
variable{nm q:Str}{C N:Qc}{bs bm bmB:List Qa}{hdct:Bool}{sn:List Str}{sub:List Qa}{ab:Bool}{col:Option Bool}{dd:Option Qc}{k0 k1 k2 k3 k5:Option Qa}{B Bn newId nid initId inN:String}{bmN:List Qa}
theorem JeD(Fn:ExcBaseFacts Bn newId inN bmN)(hBn:bmB.contains (.type Bn)=true)(F:ExcBaseFacts B nid initId bmB)(T:OwnTail h bmB bm){mN:Str->Option Qa}{rest:List Qa}{fI:Qc}{oI:Obj}{Q:Fin->Qd->Prop}
 (hC:h.get? C=some (excClassObj nm q C N bs bm hdct sn sub ab col dd k0 k1 k2 k3 k5 newId)) (hn:h.Ns N mN) (hi:mN "__init__"=some (.ref fI)) (hfI:h.get? fI=some oI) (hfc:oI.cls=.type "function")
 (hq:∀h' e,Heap.MadeExcOf h h' e (.ref C) rest->wpAny (model prog w) A (call (.ref fI) (.ref e::rest)) (fun r s'=>r=.none/\Q (.done (.ret (.ref e))) s') E ⟨h',g,d,t,os⟩) (hrest:rest.length<=Qk) :
 wpAny (model prog w) A (Builtin.«type.__call__» ⟨.ref C::rest,[]⟩) Q E ⟨h,g,d,t,os⟩:=by
 repeat (first|with_reducible refine G1 hC ?_|with_reducible refine wpAny_madeBy_exc hC ?_|wp_step)
 refine codeAny_call_builtin_code (Code.quiet_builtin _ Fn.quiet) (wpAny_check_new_subU Fn hBn T hC ?_);refine codeAny_exc_new_subU Fn hBn F T hC ?_ hrest;show wpAny _ _ _ _ _ _;have kp:∀b o,h.get? b=some o->((h.push { cls:=.type "tuple",data:=.seq rest.toArray }).push { cls:=.ref C,data:=.fields #[.ref h.objs.size,.none,.none,.none,.bool false,.none] }).get? b=some o:=fun b o e=>Qg _ (Qg _ e)
 have hC₁:=kp _ _ hC
 have hfI₁:=kp _ _ hfI
 have hn₁:=hn.keeps kp
 have T₁:=T.keeps kp
 have hget:((h.push { cls:=.type "tuple",data:=.seq rest.toArray }).push
  { cls:=.ref C,data:=.fields #[.ref h.objs.size,.none,.none,.none,.bool false,.none] }).get? (h.objs.size+1)=some
  { cls:=.ref C,data:=.fields #[.ref h.objs.size,.none,.none,.none,.bool false,.none] }:=by heap_get
 have hcC:(Value.ref C::bm).contains (.ref C)=true:=by simp
 unfold isInstance
 repeat (first|with_reducible refine G1 hget ?_|(with_reducible refine wpAny_isSubtype_exc hC₁ ?_;rw[hcC])|wp_step)
 show wpAny _ _ (typeLookup (.ref C) _) _ _ _;refine wpAny_typeLookup_tail hC₁ hn₁ T₁ F.mroIs F.init.lookup ?_;rw[hi];refine Gx (Qf ?_);unfold bindSpecial;refine Qf (Ly (T:="function") ⟨_,hfI₁,hfc⟩ ?_);rw[if_pos (by decide)];refine Qv (Qf (Q6 (hq _ (h.objs.size+1) ⟨kp,G3 (Nat.le_succ _),h.objs.size,hget,G3 (Qq _),?_⟩) (fun r s' hr=>?_) fun _ _ x=>x))
 ·exact Qg _ (Heap.get?_push_at rfl rfl)
 ·obtain⟨rfl,hQ⟩:=hr;wp_walk;exact hQ
theorem JeB(Fn:ExcBaseFacts Bn newId inN bmN)(hBn:bmB.contains (.type Bn)=true)(F:ExcBaseFacts B nid initId bmB)(T:OwnTail h bmB bm){mN:Str->Option Qa}{rest:List Qa}{fI:Qc}{oI:Obj}{Q:Qa->Qd->Prop}
 (hC:h.get? C=some (excClassObj nm q C N bs bm hdct sn sub ab col dd k0 k1 k2 k3 k5 newId)) (hn:h.Ns N mN) (hi:mN "__init__"=some (.ref fI)) (hfI:h.get? fI=some oI) (hfc:oI.cls=.type "function")
 (hq:∀h' e,Heap.MadeExcOf h h' e (.ref C) rest->wpAny (model prog w) (A.under (.builtin "type.__call__" ⟨.ref C::rest,[]⟩)) (call (.ref fI) (.ref e::rest)) (fun r s'=>r=.none/\Q (.ref e) s') E ⟨h',g,d,t,os⟩) (hrest:rest.length<=Qk) :
 wpAny (model prog w) A (call (.ref C) rest) Q E ⟨h,g,d,t,os⟩:=by
 have f1:=tc_lookup
 have f2:=tc_bind (.ref C)
 have hT:(⟨h,g,d,t,os⟩:Qd).TypeIs (.ref C) "type":=⟨_,hC,rfl⟩
 refine K5 (codeAny_of_tree ?_);show wpAny _ _ (callAny (.ref C) _) _ _ _
 repeat (any_goals (first|assumption|with_reducible refine G1 hC ?_|wp_step))
 refine⟨rfl,?_⟩;exact codeAny_call_builtin_at (Code.quiet_builtin _ (by decide +kernel)) entry_typeCall (wpAny_check_type_call_sub hC (JeD Fn hBn F T hC hn hi hfI hfc (fun h' e hm=>hq h' e hm) hrest))
theorem JeA(F:ExcBaseFacts B nid initId bmB)(T:OwnTail h bmB bm){e:Qc}{rest:List Qa}{oe:Obj}{vs:Array Qa}{Q:Qa->Qd->Prop}
 (hC:h.get? C=some (excClassObj nm q C N bs bm hdct sn sub ab col dd k0 k1 k2 k3 k5 newId)) (he:h.get? e=some oe) (hc:oe.cls=.ref C) {t0:Qc} (hd:oe.data=.fields vs) (hz:vs[0]?=some (.ref t0)) (hrest:rest.length<=Qk)
 (hq:∀h' tup,(∀b o,b≠e->h.get? b=some o->h'.get? b=some o)->h'.get? e=some (oe.mapFields (·.setIfInBounds 0 (.ref tup)))->Q .none ⟨h',g,d,t,os⟩) :
 wpAny (model prog w) A (call (.builtin initId) (.ref e::rest)) Q E ⟨h,g,d,t,os⟩:=by
 refine K5 (G9 F.init.plain F.initEntry (wpAny_check_init_subU F T hC he hc ?_));have hp:=Qg { cls:=.type "tuple",data:=.seq rest.toArray } he;have hne:h.objs.size≠e:=KC (Qj he)
 repeat (first|(with_reducible refine GB hp hd (QO.mp hz).1 ?_)|wp_step)
 rw[hd]
 repeat (first|(with_reducible refine GB hp hd (QO.mp hz).1 ?_)|wp_step)
 rw[hz]
 repeat (first|(with_reducible refine GB hp hd (QO.mp hz).1 ?_)|wp_step)
 refine hq _ h.objs.size (fun b o hb q=>?_) ?_
 ·rw[QV _ _ (Q0 hb)];exact Qg _ q
 ·exact Gg _ hp (GU (Gm hd _))
end
end L2
namespace L2
open PySem PySem.Spec PyProof.Rows PySem.Calls Builtin Builtin.ObjectAttr
noncomputable abbrev VEt:List Qa:=[.type "ValueError",.type "Exception",.type "BaseException",.type "object"]
noncomputable def Je0:Qa->Bool
 | .ref _=>true
 | _=>false
theorem V8(self:Qa)(what:Str):∀l:List Qa,refuseLoop self what l=refuseLoop self what (l.dropWhile Je0)
 | []=>rfl
 | v::l=>by
  cases v with
  | ref c=>rw[refuseLoop_ref,V8 self what l];rfl
  | _=>rfl
noncomputable def JcW(K:Qn)(C:Qc):Bool:=(clsIn K C).any fun cd=>cd.mro.dropWhile Je0 == VEt && cd.hasDict
section
variable{prog:Qo}{w:QC}{A:Qw}{R:LY->Qd->Prop}{s:Qd}{K:Qn}{x C:Qc}{ox:Obj}{name:Str}{tk:Tok}{v:Qa}
theorem Jhs(X:K.In s.heap)(hx:s.heap.get? x=some ox)(hcl:ox.cls=.ref C)(hn:notCls ox=true)(hdn:ox.dict=none)(hov:JcW K C=true)(hm:mroIn K C (.type "object")=some true)(ht:takerIn K C name=some none)
 (h:∀h' tk',h'.get? x=some { ox with dict:=some s.heap.objs.size }->h'.Ns1 s.heap.objs.size (fun y=>if y=name then some v else none)->(∀b o,b≠x->s.heap.get? b=some o->h'.get? b=some o)->R (.ok (.ret .none)) { s with heap:=h',toks:=tk' }) :
 codeAny (model prog w) A (.call (.builtin "object.__setattr__") ⟨[.ref x,.str name tk,v],[]⟩) R s:=by
 have SF:=PySem.F.store_object
 have I:InstAt s.heap x ox C none:=⟨hx,hcl,hn,by rw[hdn];trivial⟩
 obtain⟨cd,hc,ho⟩:=any_some hov;rw[Qz,beq_iff_eq] at ho;have sub:Looks (model prog w) s.heap (isInstance (.ref x) (.type "object")) true:=I.type.andThen (looks_mroIn X hm);refine G9 SF.slot.plain SF.entry (@PySem.W.check_slot (model prog w) _ _ s "object.__setattr__" "object" "__setattr__" (.ref x) [.str name tk,v] [] _ SF.kind SF.split sub (SF.args (.ref x) (.str name tk) v) ?_);obtain⟨attr,ha,hr⟩:=Option.bind_eq_some_iff.mp ht
 have hmr:Looks (model prog w) s.heap (mroOf (.ref C)) cd.mro:=(looks_clsIn X hc).andThen .now
 have L3:Looks (model prog w) s.heap (storeTaker? attr) none:=by
  cases attr with
  | none=>exact .now
  | some a =>
   obtain⟨b,hb,e⟩:=KG.mp hr;refine(PySem.W.looks_takesIn X hb).andThen ?_;cases b
   ·exact .now
   ·cases e
 rw[PySem.W.osa_eq,refuse_eq];refine Qf (Qf (I.type.here (Qf (hmr.here ?_))));rw[V8,ho.1,PySem.F.store_ValueError.passes];refine Qv (Qf (I.type.here (Qf ((looks_findIn X ha).here (Qf (L3.here ?_))))));obtain⟨oc,odi,oda,osl⟩:=ox;dsimp only at hcl hdn;subst hcl hdn;refine Qf (Qv (Qf (Qf (LX hx (Qf ((looks_clsIn X hc).here ?_))))));rw[ho.2];have hx₁:(s.heap.push { cls:=.type "dict",data:=.dict #[] }).get? x=some ⟨.ref C,none,oda,osl⟩:=Qg _ hx
 have hxs:x≠s.heap.objs.size:=QG (Qj hx)
 have hgd:((s.heap.push { cls:=.type "dict",data:=.dict #[] }).update x fun o=>{ o with dict:=some s.heap.objs.size }).get? s.heap.objs.size=some { cls:=.type "dict",data:=.dict #[] } :=
  (Heap.get?_update_ne _ _ _ _ hxs.symm).trans (Heap.get?_push_at rfl rfl)
 have hnd:((s.heap.push { cls:=.type "dict",data:=.dict #[] }).update x fun o=>{ o with dict:=some s.heap.objs.size }).Ns s.heap.objs.size (fun _=>none) :=
  ⟨_,#[],_,hgd,rfl,fun e he=>absurd he (by simp),fun _=>rfl⟩
 have hx2:((s.heap.push { cls:=.type "dict",data:=.dict #[] }).update x fun o=>{ o with dict:=some s.heap.objs.size }).get? x=some ⟨.ref C,some s.heap.objs.size,oda,osl⟩:=by refine Gg _ hx₁ ?_;have hfr:=(Heap.get?_some_iff.mp hx).2;cases oda <;> first | rfl | exact hfr
 have fin:wpAny (model prog w) A.in1 (storeInDict s.heap.objs.size (.str name tk) name v) (fun fin s'=>match fin with|.done f=>R (.ok f) s'|.again c'=>c'.quiet=true/\codeAny (model prog w) A c' R s') (fun e s'=>R (.error e) s')
  { s with heap:=(s.heap.push { cls:=.type "dict",data:=.dict #[] }).update x fun o=>{ o with dict:=some s.heap.objs.size } }:=by
  unfold storeInDict newKeyGuard;refine Qf (Qv (Qf (wpAny_nsSet1 (Mp hnd) fun h' hn' hs=>?_)));obtain⟨oD,esD,epD,hoD,hdD,hcD⟩:=hn'.count (Within.cons name v Within.nil);refine Qf (wpAny_lookBehind hoD (by rw[hdD];exact pastItsLine_dict (QP hcD (by rw[Qh,KA,sizeLine_eq];omega))) ?_);refine Qv (h h' _ ((hs.2 x hxs).trans hx2) hn' fun b o hb q=>?_);exact(hs.2 b (QG (Qj q))).trans ((Heap.get?_update_ne _ _ _ _ hb).trans (Qg _ q))
 cases oda with
 | cls _=>cases hn
 | _=>refine Qf (wpAny_alloc' ?_);refine Qf (wpAny_update' hx₁ ?_);exact Qv fin
end
end L2
namespace L2
open PySem PySem.Spec PyProof.Rows PySem.Calls Builtin Builtin.ObjectAttr
section
variable{prog:Qo}{w:QC}{A:Qw}{E:Qa->Qd->Prop}{s:Qd}{K:Qn}{x C:Qc}{ox:Obj}{name:Str}{v:Qa}
theorem Jh6{Q:Unit->Qd->Prop}(X:K.In s.heap)(hx:s.heap.get? x=some ox)(hcl:ox.cls=.ref C)(hn:notCls ox=true)(hdn:ox.dict=none)(hov:JcW K C=true)(hm:mroIn K C (.type "object")=some true)(ht:takerIn K C name=some none)
 (hs:findIn K (.ref C) "__setattr__"=some (some (.builtin "object.__setattr__")))
 (h:∀h' tk',h'.get? x=some { ox with dict:=some s.heap.objs.size }->h'.Ns1 s.heap.objs.size (fun y=>if y=name then some v else none)->(∀b o,b≠x->s.heap.get? b=some o->h'.get? b=some o)->Q () { s with heap:=h',toks:=tk' }) :
 wpAny (model prog w) A (setAttr (.ref x) name v) Q E s :=
 Mn X (ox:=ox) (od:=none) ⟨hx,hcl,hn,by rw[hdn];trivial⟩ hs (Jhs (s:={ s with toks:=s.toks+1 }) X hx hcl hn hdn hov hm ht fun h' tk' a b c=>h h' tk' a b c)
theorem JgA{Q:Qa->Qd->Prop}{expr:Bool}{od:Option Obj}(X:K.In s.heap)(I:InstAt s.heap x ox C od)(hga:findIn K (.ref C) "__getattribute__"=some (some (.builtin "BaseException.__getattribute__")))
 (hgn:findIn K (.ref C) "__getattr__"=some none) (hmB:mroIn K C (.type "BaseException")=some true)
 (hf:findObj K C od name=some (.value v)) (hv:PySem.W.handedIn v=true)
 (h:Q v { s with toks:=s.toks+1 }):wpAny (model prog w) A (getAttr (.ref x) name expr) Q E s:=by
 obtain⟨hh,g,d,t,os⟩:=s;have L0:=I.type (M:=model prog w);have L1:=looks_findIn (M:=model prog w) X hga;have L2:=looks_findIn (M:=model prog w) X hgn;have f3:=Gv.ga.bind (.ref x);have hx2:(Value.builtin "BaseException.__getattribute__" == Value.builtin "object.__getattribute__")=false:=by decide +kernel
 have hx1:(onTheHeap (Value.ref C) && Value.builtin "BaseException.__getattribute__" == Value.builtin "object.__getattribute__")=false:=by rw[hx2];rfl
 have hx0:(expr && onTheHeap (Value.builtin "BaseException.__getattribute__"))=false:=by cases expr <;> rfl
 unfold getAttr getAttrBy
 repeat (any_goals (first|assumption|(with_reducible refine L0.at ?_)|(with_reducible refine L1.at ?_)|(with_reducible refine L2.at ?_)|wp_step))
 have LB:=looks_mroIn (M:=model prog w) X hmB
 have LF:=Mj (M:=model prog w) X I hf
 have hk:builtinKind "BaseException.__getattribute__"=some .slot:=by decide +kernel
 have hsplit:splitId "BaseException.__getattribute__"=some ("BaseException","__getattribute__"):=by decide +kernel
 have hag:=L4 (.ref x) (Value.str name t);refine G9 Gv.ga.plain LO ?_;simp only[QU,Kz,checkBuiltinCall,hk,hsplit];refine Qf ?_;unfold isInstance
 repeat (first|(with_reducible refine L0.at ?_)|(with_reducible refine LB.at ?_)|(with_reducible refine LF.at ?_)|wp_step)
 exact Mu hv h
end
section
variable{M:Model}{A:Qw}{E:Qa->Qd->Prop}{s:Qd}{env:Env}
variable{nm q:Str}{C N:Qc}{bs bm bmB:List Qa}{hdct:Bool}{sn:List Str}{sub:List Qa}{ab:Bool}{col:Option Bool}{dd:Option Qc}{k0 k1 k2 k3 k5:Option Qa}{B Bn newId nid initId inN:String}{bmN:List Qa}
theorem JeC{x:Sem Qa}{Q:Flow->Qd->Prop}(hbase:bm.contains (.type "BaseException")=true)(hh:A.handled=none)
 (h:wpAny M A x (fun v s₁=>∃e oe vs,v=.ref e/\s₁.heap.get? C=some (excClassObj nm q C N bs bm hdct sn sub ab col dd k0 k1 k2 k3 k5 newId) ∧
  s₁.heap.get? e=some oe/\oe.cls=.ref C/\oe.data=.fields vs/\vs[1]?=some .none/\E (.ref e) s₁) E s) :
 wpAny M A (raiseStmt env (some x) none) Q E s:=by
 have hcB:(Value.ref C::bm).contains (.type "BaseException")=true:=by rw[List.contains_cons,hbase,Bool.or_true]
 unfold raiseStmt;refine Qf (Q6 h (fun v s₁ h₁=>?_) fun _ _ x=>x);obtain⟨e,oe,vs,rfl,hC,he,hc,hd,hv1,hE⟩:=h₁;obtain⟨c0,d0,dt,sl⟩:=oe;cases hc;cases hd;obtain⟨hp,g,d,tk,os⟩:=s₁
 repeat (first|with_reducible refine G1 he ?_|with_reducible refine G1 hC ?_|(with_reducible refine wpAny_isSubtype_exc hC ?_;rw[hcB])|wp_step)
 rw[hv1];refine Qv ?_;rw[if_neg (by decide)];exact Qv (wpAny_raiseNew_none hh hE)
end
section
variable{prog:Qo}{w:QC}{A:Qw}{E:Qa->Qd->Prop}{s:Qd}{env:Env}
variable{nm q:Str}{C N:Qc}{bs bm bmB:List Qa}{hdct:Bool}{sn:List Str}{sub:List Qa}{ab:Bool}{col:Option Bool}{dd:Option Qc}{k0 k1 k2 k3 k5:Option Qa}{B Bn newId nid initId inN:String}{bmN:List Qa}
theorem Jdy(Fn:ExcBaseFacts Bn newId inN bmN)(hBn:bmB.contains (.type Bn)=true)(F:ExcBaseFacts B nid initId bmB){mN:Str->Option Qa}{x:Str}{np cpos pos:Pos}{args:List PySem.Expr}{fI:Qc}{oI:Obj}{Q:Flow->Qd->Prop}
 (hbase:bm.contains (.type "BaseException")=true) (hh:A.handled=none) (hplain:(backTo cpos (starEach args env)).any (·.1)=false) (hi:mN "__init__"=some (.ref fI)) (hfc:oI.cls=.type "function")
 (h:wpAny (model prog w) A (eval (.Name x np) env) (fun f s₁=>f=.ref C/\wpAny (model prog w) A (evalArgs (.ref C) true (backTo cpos (starEach args env)) [])
  (fun a s₂=>a.kw=[]/\a.pos.length<=Qk/\s₂.heap.get? C=some (excClassObj nm q C N bs bm hdct sn sub ab col dd k0 k1 k2 k3 k5 newId)/\s₂.heap.Ns N mN/\OwnTail s₂.heap bmB bm/\s₂.heap.get? fI=some oI ∧
   ∀h' e,Heap.MadeExcOf s₂.heap h' e (.ref C) a.pos->wpAny (model prog w) (A.under (.builtin "type.__call__" ⟨.ref C::a.pos,[]⟩)) (call (.ref fI) (.ref e::a.pos))
    (fun r s₃=>r=.none/\∃oe vs,s₃.heap.get? C=some (excClassObj nm q C N bs bm hdct sn sub ab col dd k0 k1 k2 k3 k5 newId)/\s₃.heap.get? e=some oe/\oe.cls=.ref C/\oe.data=.fields vs/\vs[1]?=some .none/\E (.ref e) s₃) E { s₂ with heap:=h' }) E s₁) E s) :
 wpAny (model prog w) A (exec (.Raise (some (.Call (.Name x np) args [] cpos)) none pos) env) Q E s:=by
 rw[arm_exec_Raise];refine Qf (Ko (JeC (C:=C) (nm:=nm) (q:=q) (N:=N) (bs:=bs) (bm:=bm) (hdct:=hdct) (sn:=sn) (sub:=sub) (ab:=ab) (col:=col) (dd:=dd) (k0:=k0) (k1:=k1) (k2:=k2) (k3:=k3) (k5:=k5) (newId:=newId) hbase hh (Qf (Q6 (wpAny_Call_ofName (Q6 h (fun f s₁ h₁=>?_) fun _ _ x=>x)) (fun v s₃ h₃=>Qf (Ko (Qv h₃))) fun _ _ x=>x))));obtain⟨rfl,h₁⟩:=h₁;unfold callWith;refine Qf (Gx (Q6 h₁ (fun a s₂ h₂=>Qf (Ko ?_)) fun _ _ x=>x))
 obtain⟨apos,akw⟩:=a;obtain⟨hkw,hlen,hC,hn,T,hfI,h₂⟩:=h₂;obtain rfl:akw=[]:=hkw;obtain⟨hp,g,d,tk,os⟩:=s₂;simp only[hplain];refine Qf (wpAny_keeperOf_exc hC ?_);refine Qf (JeB Fn hBn F T hC hn hi hfI hfc (fun h' e hm=>Q6 (h₂ h' e hm) (fun r s₃ ⟨hr,oe,vs,k1,k2,k3,k4,k5,k6⟩=>⟨hr,Qf (Gx (wpAny_point (Qv ?_)))⟩) fun _ _ z=>z) hlen);exact⟨e,oe,vs,rfl,k1,k2,k3,k4,k5,k6⟩
end
end L2

namespace L2
open PySem PySem.Spec PyProof.Rows PySem.Calls LE
noncomputable def Jct(K:Qn)(C f:Qc):Bool:=match K.lookup C with
 | some ⟨.type "type",_,.cls cd,sl⟩=>(match cd.mro,sl.toList with
  | .ref C'::bm,[_,_,_,_,some (.builtin n),_]=>C' == C && n == "ValueError.__new__" && !cd.hasDel && PySem.W.tailIn K VEm bm && PySem.W.nsOkIn K cd.ns && nsIn K cd.ns "__init__" == some (some (.ref f))
  | _,_=>false)
 | _=>false
theorem JbT{K:Qn}{h:QI}{N:Qc}{mg:Str->Option Qa}{n:Str}{v:Qa}(X:K.In h)(G:h.Ns N mg)(e:nsIn K N n=some (some v)):mg n=some v:=by
 obtain⟨o,es,ep,ho,hd,_,hf⟩:=G;unfold nsIn at e;split at e
 ·rename_i c d es' n' sl q;have:=X _ _ q;rw[ho] at this;cases this;cases hd;split at e
  ·rename_i en he;cases e;rw[<- hf];unfold nsFind findBy;rw[<- Array.find?_toList,he];rfl
  ·split at e <;> cases e
 ·cases e
theorem Jcu{K:Qn}{h:QI}{C f:Qc}(X:K.In h)(q:Jct K C f=true):∃bm N nm q bs hdct sn sub ab col dd k0 k1 k2 k3 k5 mN,h.get? C=some (excClassObj nm q C N bs bm hdct sn sub ab col dd k0 k1 k2 k3 k5 "ValueError.__new__")/\h.Ns N mN/\mN "__init__"=some (.ref f)/\OwnTail h VEm bm:=by
 unfold Jct at q;split at q
 ·rename_i dd cd sl ho;split at q
  ·rename_i C' bm k0 k1 k2 k3 n k5 hm hs;simp only[Qz,beq_iff_eq,KF] at q;obtain⟨⟨⟨⟨⟨rfl,rfl⟩,hdel⟩,ht⟩,hok⟩,hni⟩:=q;obtain⟨nm,bs,mro,ns,qn,hd,sn,sub,ab,col,del⟩:=cd;dsimp only at hm hdel hok hni;subst hm hdel
   have hsl:sl=#[k0,k1,k2,k3,some (.builtin "ValueError.__new__"),k5]:=by obtain⟨l⟩:=sl;simp only at hs;rw[hs]
   subst hsl;have hN:h.Ns ns (h.nsMap ns):=.of_isNs (Mh X hok);exact⟨bm,ns,nm,qn,bs,hd,sn,sub,ab,col,dd,k0,k1,k2,k3,k5,_,X _ _ ho,hN,JbT X hN hni,Mi X ht⟩
  ·cases q
 ·cases q
noncomputable def XN(a C:Qc)(d:Option Qc):HO:=.ext fun h=>∃o t0,h.get? a=some o/\o.cls=.ref C/\o.dict=d/\o.data=.fields #[.ref t0,.none,.none,.none,.bool false,.none]
noncomputable def ZQ(C:Qc):Sp:=fun vs H Q _=>∃a k,vs=[.ref a,.int k]/\k.natAbs.log2<1920/\H a=some (XN a C none)/\∀D,D≠a->H D=none->Q .non (upd (upd H a (XN a C (some D))) D (.xd [("at",.int k)]))
theorem Jd3{C:Qc}{vs:List V}{H:Hp}{Q:VK}{E:XK}(h:ZQ C vs H Q E):vs.length=2:=by obtain⟨a,k,rfl,_⟩:=h;rfl
section
variable{X:Cx}
theorem Jhu{i:Nat}{x z:Str}{p p1 p2 p3:Pos}{j:Nat}(hN:X.N[i]?=some x)(hv:Vis X.env.scope x)(hz:z.length<=1000)(hd:(x == ("__debug__":Str))=false:=by decide)(hcd:(x == ("__classdict__":Str))=false:=by decide) :
 PE X (.JoinedStr [.Constant (.str z) j p,.FormattedValue (.Name x p1) (-1) none p2] p3) (fun σ H Q=>∃k,σ[i]?=some (some (.int k))/\k.natAbs.log2<1920/\Q (.str (Q3++z++(toString k:String))) H):=by
 intro pins s σ H Q I h;obtain⟨k,hk,hl,q⟩:=h;have e1:(Q3++z).length<=1000:=by rw[strLen_append];show 0+z.length<=1000;omega
 have e2:(Q3++z++Qe (toString k)).length<=Qk:=by have e:=int_text_length_le (k:=1920) (by decide) hl;rw[strLen_append,PySem.ofString_length,sizeLine_eq];omega
 refine wpAny_JoinedStr ?_;refine thn (Jx (X:=X) pins s σ H (fun v H'=>v=.str z/\H'=H) I ⟨rfl,rfl⟩) fun v s1 ⟨v1,H1,I1,r1,e3,e4⟩=>?_
 subst e3 e4;obtain⟨t,rfl⟩:=(show ∃t,v=Value.str z t from r1)
 refine⟨z,t,rfl,QP e1 (by decide),?_⟩;refine wpAny_FormattedValue_plain (thn (WU hN hv hd hcd pins s1 σ H1 (fun v H'=>v=.int k/\H'=H1) I1 ⟨_,hk,rfl,rfl⟩) fun u s2 ⟨v2,H2,I2,r2,e5,e6⟩=>?_);subst e5 e6;obtain⟨t2,rfl⟩:=(show ∃t,u=Value.int k t from r2)
 refine wpAny_formatField_int hl ⟨Qe (toString k),_,rfl,e2,⟨e2,?_⟩⟩;exact⟨.str _,H2,I2.tok _,⟨_,rfl⟩,q⟩
end
end L2
namespace L2
open PySem PySem.Spec PyProof.Rows PySem.Calls LE
structure IniC (K:Qn) (C f B:Qc):Prop where
 ok:Jct K C f=true
 fn:isFn K (.ref f)=true
 ov:JcW K C=true
 mo:mroIn K C (.type "object")=some true
 tk:takerIn K C "at"=some none
 sa:findIn K (.ref C) "__setattr__"=some (some (.builtin "object.__setattr__"))
 rd:PySem.W.readsIn K B (.type "type")=true
 fc:PySem.W.findCls K (.ref B) (.type "type") "__init__"=some (.val (.builtin "ValueError.__init__"))
 ga:specialIn K (.ref B) "__getattribute__"=some (some (.builtin "type.__getattribute__"))
noncomputable def JmD(C:Qc):TS:=fun D σ H=>∃a k,σ[0]?=some (some (.ref a))/\σ[1]?=some (some (.int k))/\H a=some (XN a C none)/\∀t,t≠a->H t=none->D.nx σ (upd (upd H a (XN a C (some t))) t (.xd [("at",.int k)]))
section
variable{X:Cx}{C f B:Qc}
theorem Jft{x y n z:Str}{p0 p1 p2 p3 p4 p5 p6 p7:Pos}{j:Nat}{pl:Sem Bool}(T:IniC X.K C f B)(hg:Gl X n)(hm:X.mg n=some (.ref B))(h0:X.N[0]?=some x)(h1:X.N[1]?=some y)(v0:Vis X.env.scope x)(v1:Vis X.env.scope y)(hz:z.length<=1000)
 (d0:(x == ("__debug__":Str))=false:=by decide) (c0:(x == ("__classdict__":Str))=false:=by decide) (d1:(y == ("__debug__":Str))=false:=by decide) (c1:(y == ("__classdict__":Str))=false:=by decide) (dn:(n == ("__debug__":Str))=false:=by decide)
 (hst:starEach [.Name x p2,.JoinedStr [.Constant (.str z) j p3,.FormattedValue (.Name y p4) (-1) none p5] p6] X.env=(false,eval (.Name x p2) X.env)::starEach [.JoinedStr [.Constant (.str z) j p3,.FormattedValue (.Name y p4) (-1) none p5] p6] X.env:=by rfl)
 (hpl:(backTo p7 (starEach [.JoinedStr [.Constant (.str z) j p3,.FormattedValue (.Name y p4) (-1) none p5] p6] X.env)).any (·.1)=false:=by rfl)
 (ht:eval (.Call (.Attribute (.Name n p0) "__init__" p1) [.Name x p2,.JoinedStr [.Constant (.str z) j p3,.FormattedValue (.Name y p4) (-1) none p5] p6] [] p7) X.env=(do
  let ov <- eval (.Name n p0) X.env
  standAt p1.atName
  let (f,first) <- holding [ov] (getMethod ov "__init__" pl)
  callWith p7 f first (backTo p7 (starEach [.Name x p2,.JoinedStr [.Constant (.str z) j p3,.FormattedValue (.Name y p4) (-1) none p5] p6] X.env)) (backToKw p7 (keywordEach [] X.env))):=by rfl)
 (hs:swapsWith (.Call (.Attribute (.Name n p0) "__init__" p1) [.Name x p2,.JoinedStr [.Constant (.str z) j p3,.FormattedValue (.Name y p4) (-1) none p5] p6] [] p7) none p0.line X.env=pure false:=by rfl) :
 PE X (.Call (.Attribute (.Name n p0) "__init__" p1) [.Name x p2,.JoinedStr [.Constant (.str z) j p3,.FormattedValue (.Name y p4) (-1) none p5] p6] [] p7) (fun σ H Q=>∃a k,σ[0]?=some (some (.ref a))/\σ[1]?=some (some (.int k))/\k.natAbs.log2<1920/\H a=some (XN a C none)/\Q .non H):=by
 intro pins s σ H Q I h;obtain⟨a,k,e0,e1,hk,ha,q⟩:=h;refine PySem.W.methodCall_KW (pl:=pl) (Y6 I hg hm ?_ dn) ht;refine PySem.W.method_cls I.kIn T.ga (PySem.W.cls_value I.kIn T.rd T.fc rfl ?_);have I1:=I.tok (s.toks+1);have hA:=(Ja (WU h0 v0 d0 c0) (Ja (Jhu (p:=p3) (p1:=p4) (p2:=p5) (p3:=p6) (j:=j) h1 v1 hz d1 c1) Je) hst) p7 pins _ σ H (fun vs H'=>∃z',vs=[.ref a,.str z']/\H'=H) I1 ⟨_,e0,k,e1,hk,_,rfl,rfl⟩;rw[hst] at hA ⊢
 refine LA (by show(false || (backTo p7 (starEach _ X.env)).any (·.1))=false;rw[hpl] <;> rfl) (G6 ?_);refine thn hA fun us s2 ⟨vs,H2,I2,r2,z',e2,e3⟩=>?_
 subst e2 e3;obtain⟨u,v,rfl,r3,r4⟩:=Vals.two r2;cases (show u=Value.ref a from r3);obtain⟨bm,N,nm,qn,bs,hdct,sn,sub,ab,col,dd,k0,k1,k2,k3,k5,mN,hC,hN,hi,OT⟩:=Jcu I2.kIn T.ok;obtain⟨⟨o,t0,g1,g2,g3,g4⟩,_⟩:=(show ObjOk X.prog X.w H2 s2.heap a (XN a C none) from I2.hok a _ ha)
 obtain⟨hh,g,d,tk,os⟩:=s2;refine JeA QZ OT hC g1 g2 g4 rfl (show 1<=Qk by decide) fun h' tup kp he=>?_
 refine⟨.non,H2,?_,rfl,q⟩;have:=I2.write (x:=a) (e:=a) (h':=h') (t':=tk) (o:=XN a C none) (by rw[ha];exact True.intro) (.inl rfl) kp ⟨_,he⟩ ⟨⟨_,tup,he,?_,?_,?_⟩,⟨_,he⟩,fun g1 g2 ⟨o,t,q,r⟩ k=>⟨o,t,k o q,r⟩⟩
 ·have e:upd H2 a (XN a C none)=H2:=by
   funext b
   by_cases hb:b=a
   ·rw[hb,JE,ha]
   ·rw[Jj hb]
  rw[e] at this;exact this
 ·rw[Le];exact g2
 ·rw[JcN];exact g3
 ·rw[Gm g4];rfl
theorem Jkg{x y:Str}{p0 p1 p2 p3:Pos}(T:IniC X.K C f B)(hx:X.ex=[])(h0:X.N[0]?=some x)(h1:X.N[1]?=some y)(v0:Vis X.env.scope x)(v1:Vis X.env.scope y)
 (d0:(x == ("__debug__":Str))=false:=by decide) (c0:(x == ("__classdict__":Str))=false:=by decide) (d1:(y == ("__debug__":Str))=false:=by decide) (c1:(y == ("__classdict__":Str))=false:=by decide)
 (hs:swapsWith (.Name y p2) (some (.Attribute (.Name x p0) "at" p1)) p3.line X.env=pure false:=by rfl) :
 PS X (.Assign [.Attribute (.Name x p0) "at" p1] (.Name y p2) p3) (JmD C):=by
 intro pins s σ H D I h;obtain⟨a,k,e0,e1,ha,q⟩:=h;refine plainObj_wpAny_Assign_Attribute (thn (WU h1 v1 d1 c1 pins s σ H (fun v H'=>v=.int k/\H'=H) I ⟨_,e1,rfl,rfl⟩) fun u s1 ⟨v2,H1,I1,r1,z1,z2⟩=>thn (WU h0 v0 d0 c0 pins s1 σ H1 (fun v H'=>v=.ref a/\H'=H1) I1 ⟨_,e0,rfl,rfl⟩) fun ov s2 ⟨v3,H2,I2,r2,z3,z4⟩=>?_) hs
 subst z1 z2 z3 z4;cases (show ov=Value.ref a from r2);obtain⟨⟨o,t0,g1,g2,g3,g4⟩,_⟩:=(show ObjOk X.prog X.w _ s2.heap a (XN a C none) from I2.hok a _ ha)
 refine Jh6 I2.kIn g1 g2 (by unfold notCls;rw[g4]) g3 T.ov T.mo T.tk T.sa fun h' tk' n1 n2 n3=>?_
 have hne:s2.heap.objs.size≠a:=KC (Qj g1)
 have hf:=I2.hok.fresh (Qq s2.heap.objs.size)
 have J1:=I2.write (x:=a) (e:=a) (h':=h') (t':=tk') (o:=XN a C (some s2.heap.objs.size)) (by rw[ha];exact True.intro) (.inl rfl) n3 ⟨_,n1⟩ ⟨⟨_,t0,n1,g2,rfl,g4⟩,⟨_,n1⟩,fun g1 g2 ⟨o,t,q,r⟩ k=>⟨o,t,k o q,r⟩⟩
 have hf1:upd H2 a (XN a C (some s2.heap.objs.size)) s2.heap.objs.size=none:=by rw[Jj hne];exact hf
 refine⟨σ,_,J1.track hx hf1 (G3 I2.sz) (KC I2.lt) (fun y c e=>?_) (fun p hp=>?_) ?_,q _ hne hf⟩
 ·obtain⟨v,oc,e,_⟩:=I2.cell y c e;exact QG (Qj e)
 ·exact QG (Qj (I2.pin p hp).1)
 ·refine⟨_,n2,fun f=>?_⟩;show RelO (G5 f [(("at":Str),V.int k)]) (if f="at" then some u else none)
  by_cases hfa:f="at"
  ·subst hfa;exact r1
  ·rw[if_neg hfa,List.lookup_cons];rw[show(f == ("at":Str))=false from beq_eq_false_iff_ne.mpr hfa];exact True.intro
end
end L2

namespace L2
open PySem PySem.Spec PyProof.Rows PySem.Calls LE
noncomputable def Wn(C:Qc)(E:XK)(te:TE):TS:=fun D σ H=>te σ H fun x H1=>∃k,[x]=[V.int k]/\k.natAbs.log2<1920/\∀a t,H1 t=none->E (.int C t) (some a) (upd H1 t (.xd [("at",.int k)]))
section
variable{X:Cx}{pins:List (Qc×Obj)}{σ:St}{H:Hp}{s:Qd}{C e:Qc}{h':QI}{args:List Qa}
theorem Inv.newX(I:Inv X pins σ H s)(hx:X.ex=[])(m:Heap.MadeExcOf s.heap h' e (.ref C) args):Inv X pins σ (upd H e (XN e C none)) { s with heap:=h' }:=by
 have J:Inv X pins σ H { s with heap:=h' }:=I.kept (t':=s.toks) m.keeps
 have was:∀b o,s.heap.get? b=some o->b≠e:=fun b o q z=>by rw[z,m.new] at q;cases q
 obtain⟨t,ht,_,_⟩:=m.there;refine J.track hx ?_ ?_ ?_ (fun x c q=>?_) (fun p hp=>?_) ⟨⟨_,t,ht,rfl,rfl,rfl⟩,⟨_,ht⟩,fun g1 g2 ⟨o,t,q,r⟩ k=>⟨o,t,k o q,r⟩⟩
 ·cases z:H e with
  | none=>rfl
  | some u=>obtain⟨o,ho⟩:=(I.hok e u z).there;rw[m.new] at ho;cases ho
 ·cases z:X.s₀.heap.get? e with
  | none=>rfl
  | some u=>obtain⟨o,q⟩:=I.base.there e u z (by rw[hx];simp);exact absurd rfl (was e o q)
 ·obtain⟨m,⟨o,_,_,q,_⟩,_⟩:=I.loc;exact Q0 (was _ o q)
 ·obtain⟨v,o,q,_⟩:=I.cell x c q;exact was c o q
 ·exact was _ _ (I.pin p hp).1
theorem XP.madeF{E:XK}{s3:Qd}{t:Qc}{k:Int}(I:Inv X pins σ H s)(m:Heap.MadeExcOf s.heap h' e (.ref C) args)(hte:t≠e)(hht:H t=none)(os:s3.os=s.os)(bare:AllBare s3.gens)
 (un:Un (frs X.stack) [] (upd H e (XN e C none)) (upd (upd (upd H e (XN e C none)) e (XN e C (some t))) t (.xd [("at",.int k)])) h' s3.heap)
 (hok:HOk X.prog X.w (upd (upd (upd H e (XN e C none)) e (XN e C (some t))) t (.xd [("at",.int k)])) s3.heap)
 (st:s3.heap.FunFrames X.base X.stack) (q:E (.int C t) (some e) (upd H t (.xd [("at",.int k)]))):XP X pins σ E (.ref e) s3:=by
 have was:∀b o,s.heap.get? b=some o->b≠e:=fun b o q z=>by rw[z,m.new] at q;cases q
 have he:H e=none:=by
  cases z:H e with
  | none=>rfl
  | some u=>obtain⟨o,ho⟩:=(I.hok e u z).there;rw[m.new] at ho;cases ho
 have h2:∀b,b≠e->upd H e (XN e C none) b=H b:=fun b hb=>Jj hb
 have h3:∀b,b≠e->upd (upd (upd H e (XN e C none)) e (XN e C (some t))) t (.xd [("at",.int k)]) b=upd H t (.xd [("at",.int k)]) b:=fun b hb=>by
  by_cases hb':b=t
  ·rw[hb',JE,JE]
  ·rw[Jj hb',Jj hb',Jj hb,Jj hb]
 have hfe:upd H t (.xd [("at",.int k)]) e=none:=by rw[Jj (Q0 hte)];exact he
 have tr:∀b u,H b=some u->b≠e:=fun b u q z=>by rw[z,he] at q;cases q
 have xe:upd (upd (upd H e (XN e C none)) e (XN e C (some t))) t (.xd [("at",.int k)]) e=some (XN e C (some t)):=by rw[Jj (Q0 hte),JE]
 obtain⟨⟨oe,t0,g1,g2,g3,g4⟩,_⟩:=(show ObjOk X.prog X.w _ s3.heap e (XN e C (some t)) from hok e _ xe)
 have nfr:e∉frs X.stack:=fun hb=>by obtain⟨_,o,ho,_⟩:=Wh I.stack hb;exact was _ _ ho rfl
 refine⟨H,s,I,e,.int C t,upd H t (.xd [("at",.int k)]),wo (e::frs X.stack) s3.heap,rfl,os,bare,⟨⟨fun b o q n hb hx=>?_,fun b o q n hb hx=>?_,fun b o q n hx=>?_,fun b o q hx=>?_,fun b xs z=>?_,fun b o u z=>?_,fun b ps z=>?_⟩,fun b u z=>?_,⟨fun b o q=>?_,Zb Qy,Z5 st fun b hb=>Zb (Qp _ hb),.inr ⟨oe,_,g1,⟨g2,g3⟩,g4,rfl⟩⟩,fun b o hb hfr q=>?_,hfe,m.new⟩,q⟩
 ·exact un.keep b o (m.keeps b o q) (by rw[h2 b (was b o q)];exact n) hb hx
 ·exact un.slot b o (m.keeps b o q) (by rw[h2 b (was b o q)];exact n) hb hx
 ·have:=un.free b o (m.keeps b o q) (by rw[h2 b (was b o q)];exact n) hx;rw[h3 b (was b o q)] at this;exact this
 ·exact un.there b o (m.keeps b o q) hx
 ·have:=un.tups b xs (by rw[h2 b (tr b _ z)];exact z);rw[h3 b (tr b _ z)] at this;exact this
 ·have:=un.frzs b o u (by rw[h2 b (tr b _ z)];exact z);rw[h3 b (tr b _ z)] at this;exact this
 ·obtain⟨more,this⟩:=un.tbls b ps (by rw[h2 b (tr b _ z)];exact z);rw[h3 b (tr b _ z)] at this;exact⟨more,this⟩
 ·have hb:b≠e:=fun y=>by rw[y,hfe] at z;cases z
  refine(hok b u (by rw[h3 b hb];exact z)).stay (fun _ _ _ q=>q) (fun c q=>?_) fun c xs q=>?_
  ·have hc:c≠e:=fun y=>by rw[y,xe] at q;cases q
   rw[h3 c hc] at q;exact q
  ·have hc:c≠e:=fun y=>by rw[y,xe] at q;cases q
   rw[h3 c hc] at q;exact q
 ·by_cases hb:b∈e::frs X.stack
  ·rw[Zb hb] at q;cases q
  ·rw[VZ hb] at q;exact q
 ·have hbe:b≠e:=by
   rcases hb with hb|⟨u,hb⟩
   ·exact fun y=>hb (by rw[y];exact hfe)
   ·exact was b u hb
  rw[VZ (fun z=>(Qm.mp z).elim hbe hfr)];exact q
end
section
variable{X:Cx}{x:Str}{np cpos pos:Pos}{C f B:Qc}{fd:QE}{E:XK}{e:QR}{te:TE}{k:Nat}{ps:List Str}
theorem JdX(T:IniC X.K C f B)(F:FnOk X.prog X.w X.K X.mg X.base CX0 k f fd ps (ZQ C))(hb:Binds X.K fd ps [])(hr:Room (k+1) X.A)(hg:Gl X x)(hm:X.mg x=some (.ref C))(hx:XOk X E)(hex:X.ex=[])(ha:PE X e te)(hdb:(x == ("__debug__":Str))=false:=by decide)
 (he:starEach [e] X.env=(false,eval e X.env)::starEach [] X.env:=by rfl) :
 PS X (.Raise (some (.Call (.Name x np) [e] [] cpos)) none pos) (Wn C E te):=by
 intro pins s σ H D I h;obtain⟨tl,N,nm,q,bs,hdct,sn,sub,ab,col,dd,k0,k1,k2,k3,k5,mN,hC,hN,hni,OT⟩:=Jcu (h:=X.base) I.ok.mod.kin T.ok;obtain⟨oI,hoI,hoc⟩:=KG.mp (show(X.K.lookup f).map (·.cls)=some (.type "function") from beq_iff_eq.mp T.fn);have hoI':X.base.get? f=some oI:=I.ok.mod.kin _ _ hoI;refine Jdy (C:=C) (nm:=nm) (q:=q) (N:=N) (bs:=bs) (bm:=tl) (hdct:=hdct) (sn:=sn) (sub:=sub) (ab:=ab) (col:=col) (dd:=dd) (k0:=k0) (k1:=k1) (k2:=k2) (k3:=k3) (k5:=k5)
  QZ (by decide) QZ (mN:=mN) (fI:=f) (oI:=oI) (OT.hasType QZ.hasBase) hr.hd (by rw[he];rfl) hni hoc (Y6 I hg hm ⟨rfl,?_⟩ hdb)
 have h1:=(Ja ha Je he) cpos pins s σ H (fun vs H1=>∃k,vs=[.int k]/\k.natAbs.log2<1920/\∀a t,H1 t=none->E (.int C t) (some a) (upd H1 t (.xd [("at",.int k)]))) I h;rw[he] at h1 ⊢;refine G6 (Q6 h1 (fun us s₂ ⟨vs,H1,I1,r,kk,e1,hk,hq⟩=>?_) fun _ _ y=>y);subst e1;refine⟨rfl,by rw[<- r.length];exact(show 1<=Qk by decide),I1.bk _ _ hC,hN.keeps I1.bk,OT.keeps I1.bk,I1.bk _ _ hoI',fun h' ea m=>?_⟩
 have I2:=I1.newX hex m
 have r2:Vals [V.ref ea,V.int kk] (Value.ref ea::us):=.cons rfl r
 have hsp:ZQ C [V.ref ea,V.int kk] (upd H1 ea (XN ea C none)) (fun v H'=>v=.non/\∃t,t≠ea/\H1 t=none/\H'=upd (upd (upd H1 ea (XN ea C none)) ea (XN ea C (some t))) t (.xd [("at",.int kk)])) E0 :=
  ⟨ea,kk,rfl,hk,JE,fun t ht hn=>⟨rfl,t,ht,by rw[Jj ht] at hn;exact hn,rfl⟩⟩
 have hl:(Value.ref ea::us).length=ps.length:=by rw[<- r2.length];exact F.len _ _ _ _ hsp
 refine K5 (KE (F.run _ X.stack _ _ ⟨Value.ref ea::us,[]⟩ (Value.ref ea::us) _ _ _ (hr.make C us []) (I2.env0.make C us []) (by have:=hb { s₂ with heap:=h' } (Value.ref ea::us) I2.kIn (by rw[QY];exact hl);rw[QY] at this;exact this) r2 hsp) fun r s' hq'=>?_)
 cases r with
 | error e=>exact hq'.elim
 | ok fl =>
  cases fl with
  | ret u =>
   obtain⟨v,H',hos,bare,un,hok,rv,rfl,t,ht,hn,rfl⟩:=hq';have J:=I2.after (Q:=fun _ H''=>H''=upd (upd (upd H1 ea (XN ea C none)) ea (XN ea C (some t))) t (.xd [("at",.int kk)])) ⟨_,_,hos,bare,un,hok,rv,rfl⟩;obtain⟨_,H3,I3,_,rfl⟩:=J;obtain⟨⟨oe,t0,g1,g2,g3,g4⟩,_⟩:=(show ObjOk X.prog X.w _ s'.heap ea (XN ea C (some t)) from hok ea _ (by rw[Jj (Q0 ht),JE]))
   exact⟨rv,oe,_,I3.bk _ _ hC,g1,g2,g4,rfl,hx pins σ _ _ (XP.madeF I1 m ht hn hos bare un hok I3.stack (hq ea t hn))⟩
  | next=>exact QT hq'
  | brk=>exact QT hq'
  | cont=>exact QT hq'
end
end L2

namespace L2
open PySem PySem.Spec PyProof.Rows PySem.Calls LE
structure AtA (K:Qn) (c:Qc):Prop where
 ga:findIn K (.ref c) "__getattribute__"=some (some (.builtin "BaseException.__getattribute__"))
 gn:findIn K (.ref c) "__getattr__"=some none
 mb:mroIn K c (.type "BaseException")=some true
 hd:hasDictIn K c=true
 fa:findIn K (.ref c) "at"=some none
noncomputable def tAt(K:Qn)(te:TE):TE:=fun σ H Q=>te σ H fun x H1=>∃a v c t k,x=.ref a/\H1 a=some (XO a v)/\Wt v=.ref c/\JaN v=some t/\H1 t=some (.xd [("at",.int k)])/\AtA K c/\Q (.int k) H1
section
variable{X:Cx}{e:QR}{te:TE}{pos:Pos}{K:Qn}
theorem Jfo(hK:X.K=K)(he:PE X e te)(hb:attributeBase e "at" X.env (eval e X.env)=eval e X.env:=by rfl):PE X (.Attribute e "at" pos) (tAt K te):=by
 subst hK;intro pins s σ H Q I h;refine Jgj hb (thn (he pins s σ H _ I h) fun u s1 ⟨x,H1,I1,rx,a,v,c,t,k,ex,h1,h2,h3,h4,N,q⟩=>?_);subst ex;obtain rfl:u=Value.ref a:=rx;obtain⟨⟨o,g1,g2,g3,g4⟩,_⟩:=(show ObjOk X.prog X.w H1 s1.heap a (XO a v) from I1.hok a _ h1)
 obtain⟨mA,hns,rel⟩:=(show ObjOk X.prog X.w H1 s1.heap t (.xd [("at",.int k)]) from I1.hok t _ h4)
 obtain⟨od,ho,hl⟩:=ZH hns;have J:InstAt s1.heap a o c (some od):=⟨g1,g2.trans h2,g3,by rw[g4,h3];exact ho⟩
 have r1:RelO (some (.int k)) (mA "at"):=rel "at"
 cases hm:mA "at" with
 | none=>rw[hm] at r1;exact r1.elim
 | some u =>
  rw[hm] at r1;obtain⟨tk,rfl⟩:=(show ∃t,u=Value.int k t from r1)
  exact JgA I1.kIn J N.ga N.gn N.mb (PySem.W.findObj_own N.hd N.fa rfl (by rw[hl,hm])) rfl ⟨.int k,H1,I1.tok _,⟨_,rfl⟩,q⟩
theorem Jb1{x:Str}{np cpos:Pos}{C f B:Qc}{fd:QE}{E:XK}{k:Nat}{ps:List Str}(hK:X.K=K)(T:IniC K C f B)(F:FnOk X.prog X.w K X.mg X.base CX0 k f fd ps (ZQ C))(hb:Binds K fd ps [])(hr:Room (k+1) X.A)(hg:Gl X x)(hm:X.mg x=some (.ref C))(hx:XOk X E)(hex:X.ex=[])(ha:PE X e te)(hdb:(x == ("__debug__":Str))=false:=by decide)
 (he:starEach [e] X.env=(false,eval e X.env)::starEach [] X.env:=by rfl) :
 PS X (.Raise (some (.Call (.Name x np) [e] [] cpos)) none pos) (Wn C E te):=by subst hK;exact JdX T F hb hr hg hm hx hex ha hdb he
end
structure RaiF (P:Qo) (w:QC) (K:Qn) (mg:Str->Option Qa) (base:QI) (x:Str) (C:Qc) (k:Nat):Prop where
 ex:∃(f B:Qc) (fd:QE) (ps:List Str),IniC K C f B/\FnOk P w K mg base CX0 k f fd ps (ZQ C)/\Binds K fd ps []/\mg x=some (.ref C)
theorem VP{X:Cx}{e:QR}{te:TE}{pos:Pos}{K:Qn}{x:Str}{np cpos:Pos}{C:Qc}{E:XK}{k:Nat}(hK:X.K=K)(c:RaiF X.prog X.w K X.mg X.base x C k)(hr:Room (k+1) X.A)(hg:Gl X x)(hx:XOk X E)(hex:X.ex=[])(ha:PE X e te)(hdb:(x == ("__debug__":Str))=false:=by decide)
 (he:starEach [e] X.env=(false,eval e X.env)::starEach [] X.env:=by rfl) :
 PS X (.Raise (some (.Call (.Name x np) [e] [] cpos)) none pos) (Wn C E te):=by
 obtain⟨f,B,fd,ps,T,F,hb,hm⟩:=c.ex;exact Jb1 hK T F hb hr hg hm hx hex ha hdb he
end L2
namespace LE
open PySem L2 LR
noncomputable def Vg(m:Str)(a:Ev):Xv:=fun E=>(a E).bind fun s=>s.d.bind fun d=>match d with
 | .int k=>if LC k.natAbs 1000000000=true then some ⟨m,some k⟩ else none
 | _=>none
noncomputable def eAt(R:List Str)(a:Ev):Ev:=fun E=>(a E).bind fun s=>s.d.bind fun d=>match d with
 | .exc ⟨n,some k⟩=>if n∈R then some (.sh (.int k)) else none
 | _=>none
noncomputable def Jdo(K:Qn)(R:List Str):Prop:=∀n∈R,∀c,nsIn K mainGlobals n=some (some (.ref c))->AtA K c
section
variable{K:Qn}{C:Qc}{te:TE}{ea:Ev}{W:XK}
theorem Jgi:Jdo K []:=fun _ h=>nomatch h
theorem Jeh{n:Str}{c:Qc}{R:List Str}(x:AtY K n c)(f:findIn K (.ref c) "at"=some none)(t:Jdo K R):Jdo K (n::R):=fun m hm c' e=>by
 rcases Qm.mp hm with z|z
 ·rw[z,x.ns] at e;cases e;exact⟨x.ga,x.gn,x.mb,x.hd,f⟩
 ·exact t m z c' e
theorem JbO{k:Nat}(h:k<=1000000000):k.log2<1920:=by
 by_cases h0:k=0
 ·subst h0;decide
 ·rw[Nat.log2_lt h0];exact K8 h (QD (by decide:1000000000<2 ^ 30) (Nat.pow_le_pow_right (by decide) (by decide)))
theorem V0{m:Str}{c:Qc}(hc:nsIn K mainGlobals m=some (some (.ref c)))(ha:SE K C te ea):SXS K C W (Wn c W te) (Vg m ea):=by
 intro B H0 H σ E m' D I e q;obtain⟨a,e1,e⟩:=bind_some e;obtain⟨d,e2,e⟩:=bind_some e;refine ha B H0 H σ E a _ I e1 fun x H1 H1' s1 r1=>?_
 have rd:=r1.dat s1.i e2
 cases d with
 | int k =>
  have e:(if LC k.natAbs 1000000000=true then some (⟨m,some k⟩:Xm) else none)=some m':=e;split at e
  ·next hl =>
   cases e;cases RD.intI rd;refine⟨k,rfl,JbO (Nat.le_of_ble_eq_true hl),fun a t ht=>?_⟩
   have ha0:H1 t=none:=by
    cases z:H1 t with
    | none=>rfl
    | some u=>rw[s1.i t u z] at ht;cases ht
   have I1:=I.step s1
   have st:Step H1' H1 H1' (upd H1 t (.xd [("at",.int k)])) (upd H1' t (.xd [("at",.int k)])):=by
    refine⟨fun b u z=>?_,fun b u z=>?_,fun b u z=>?_,fun b u z=>?_⟩
    ·rw[Jj (Jt z ht)];exact z
    ·rw[Jj (Jt z ha0)];exact z
    ·by_cases hb:b=t
     ·subst hb;exact .inr (.inl ht)
     ·rw[Jj hb] at z;exact .inl z
    ·by_cases hb:b=t
     ·subst hb;rw[JE] at z ⊢;exact z
     ·rw[Jj hb] at z ⊢;exact s1.i b u z
   exact q (.int c t) a _ _ ⟨c,hc,t,rfl,JE⟩ ((s1.ss I.b).trans (st.ss I1.b))
  ·cases e
 | _=>cases e
theorem JkR{R:List Str}(N:Jdo K R)(ha:SE K C te ea):SE K C (tAt K te) (eAt R ea):=by
 intro B H0 H σ E r Q I e q;obtain⟨a,e1,e⟩:=bind_some e;obtain⟨d,e2,e⟩:=bind_some e;refine ha B H0 H σ E a _ I e1 fun x H1 H1' s1 r1=>?_
 have rd:=r1.dat s1.i e2
 cases d with
 | exc n =>
  obtain⟨n,k⟩:=n
  cases k with
  | none=>cases e
  | some k =>
   have e:(if n∈R then some (Sl.sh (.int k)) else none)=some r:=e;split at e
   ·next hn=>cases e;obtain⟨a',c',rfl,hx,c1,k1,t,k2,k3⟩:=RD.excI rd;subst k2;exact⟨a',_,c1,t,k,rfl,hx,rfl,rfl,k3,N n hn c1 k1,q _ _ _ s1 (RD.int _)⟩
   ·cases e
 | _=>cases e
end
end LE

end
open L2 LR
local macro_rules | `(tactic| walk_at "side")=>`(tactic| first | decide | exact⟨by decide,by decide,by decide⟩ | exact⟨by decide,by decide⟩ | (show(0:Int)<_;omega) | (show(0:Int)<_/\_<(1073741824:Int);omega) | exact Or.inl ⟨by omega,by omega⟩ | exact Or.inr ⟨by omega,by omega⟩ | assumption)
local macro_rules | `(tactic| walk_at "rd1")=>`(tactic| with_reducible first | refine JkJ ?_ | refine Jkp ?_ | refine Jku ?_ | refine JkI ?_ | refine JhH ?_ | refine JhP ?_ | refine Jl3 ?_ | refine Jl6 ?_ | refine JhT ?_ | refine Jl5 ?_ | refine JhU ?_ | refine Jko ?_ | refine Jl4 ?_ | refine JkG ?_ | refine JhR ?_ | refine JhF ?_ | refine JkH ?_ | refine Jkt ?_ | refine JhG ?_ | refine JkF ?_ | refine Jl0 ?_ | refine Vq ?_ | refine LR.Jc8 ?_ | refine JkL ?_ | refine JkA ?_ | refine Jl2 ?_ | refine JfH ?_ | refine JhJ ?_ | refine JfG ?_ | refine JhI ?_ | refine Jks ?_ | refine JhS ?_ | refine JfF ?_ | refine JkN ?_ | refine Jmv ?_ | refine Jl1 ?_ | refine Jmx ?_ | refine Jao ?_ | refine Jkq ?_ | refine JkD ?_ | refine Jkr ?_ | refine JkE ?_ | refine Jkv ?_ | refine JhQ ?_ | refine JkB ?_ | refine JkC ?_ | refine Exists.intro _ (And.intro (LR.Jk5 _ _ _) ?_))
local macro_rules | `(tactic| walk_at "rd2")=>`(tactic| first | ((with_reducible refine Jmw ?hc ?_);(case hc=>walk_at "side")) | ((with_reducible refine JkM (v:=?vv) ?hx ?_);(case hx=>exact rfl)) | (with_reducible refine Exists.intro _ (And.intro (Eq.refl (V.bl _)) ?_)))
local macro_rules | `(tactic| walk_at "rd")=>`(tactic| repeat (first | walk_at "rd1" | walk_at "rd2"))
noncomputable section
namespace LK
open PySem L2 LR LE
noncomputable def Ui:List Sl->Option Sl:=Uf 2 (Jn (Jo 1 (Yg (aC (VC ["BadRow","BadText","TooMany"] "BadRow" (Jc 0)) (aC (VC ["BadRow","BadText","TooMany"] "TooMany" (Jc 0)) (aC (VC ["BadRow","BadText","TooMany"] "BadText" (Jc 0)) (aC (VC ["BadRow","BadText","TooMany"] "BadSeats" (Jc 0)) a0))))))
 (Jn (Jo 1 (e2 JJ (Jc 1) (Yg (aC (VC ["BadRow","BadText","TooMany"] "BadTable" (Jc 0)) (aC (VC ["BadRow","BadText","TooMany"] "BadDeed" (Jc 0)) (aC (VC ["BadRow","BadText","TooMany"] "Unlike" (Jc 0)) (aC (VC ["BadRow","BadText","TooMany"] "NoRow" (Jc 0)) a0)))))))
 (Yy (Jgs (e2 fEq (eMB Jlv (Jc 1) (eC (.bl true))) (eC (.int 1))) (Jgs (VC ["BadRow","BadText","TooMany"] "LumpError" (Jc 0)) (Jlp ["BadRow","BadText","TooMany"] (Jc 0)))))))
noncomputable def J7:List Sl->Option Xm:=Ud 4 (Yv (Jo 1 (eC .non))
 Uc (Jez (iV 0) (.tp (.cons (.nm 2) (.cons (.nm 3) .nil))) (Jn (xIf (tB? (e2 fLt (Jc 3) (eC (.int 1)))) Yt JD)
 (Jn (xIf (tAnd? (tB? (e2 YV (Jc 1) (eC .non))) (tB? (e2 fLe (Jc 2) (Jc 1)))) Yt JD)
 (Jo 1 (e2 JJ (Jc 2) (Jc 3))))) (Yv (xIf (tB? (e2 fLt (Jc 3) (eC (.int 1)))) Yt JD)
 (U1 (tB? (e2 fLt (Jc 3) (eC (.int 1)))) (YN "BadRow" (aC (eC (.str "a stretch has at least one ball")) a0)) Uc) (Yv (xIf (tAnd? (tB? (e2 YV (Jc 1) (eC .non))) (tB? (e2 fLe (Jc 2) (Jc 1)))) Yt JD)
 (U1 (tAnd? (tB? (e2 YV (Jc 1) (eC .non))) (tB? (e2 fLe (Jc 2) (Jc 1)))) (YN "BadRow" (aC (eC (.str "a gap lies between two stretches, which stand from left to right")) a0)) Uc) Uc))))
noncomputable def Yc:List Sl->Option Xm:=Ud 2 (Yv (xIf (tB? (e2 fGt (eF YI (aC (Jc 1) a0)) (eC (.int 30)))) Yt JD)
 (U1 (tB? (e2 fGt (eF YI (aC (Jc 1) a0)) (eC (.int 30)))) (YN "TooMany" (aC (eC (.str "a row has at most 30 stretches")) a0)) Uc) (exU 1 J7 (aC (Jc 1) a0)))
noncomputable def Yi:List Sl->Option Sl:=Uf 2 (Jn (Jo 1 (eIf (tTru? (eM Yo (Jc 0) (aC (eC (.str "-")) a0))) (VD (Jc 0) (some (eC (.int 1))) none) (Jc 0)))
 (Jn (xIf (tOr? (tB? (e2 fEq (Jc 1) (eC (.str "")))) (tB? (e2 fGt (eF YI (aC (Jc 1) a0)) (eC (.int 200))))) (Yy (eC .non)) JD)
 (Jn (xIf (tNot? (tTru? (eF JeE (aC (Zz (iTx (Jc 1)) (.nm 0) yes? (e2 JeF (Jc 0) (eC (.str "0123456789"))) [none]) a0)))) (Yy (eC .non)) JD)
 (Jn (xIf (tAnd? (tTru? (eM Yo (Jc 1) (aC (eC (.str "0")) a0))) (tB? (e2 fNe (Jc 0) (eC (.str "0"))))) (Yy (eC .non)) JD)
 (Yy (eF Jcv (aC (Jc 0) a0)))))))
noncomputable def JW:List Sl->Option Sl:=Uf 4 (Jn (Jo 1 (eM UF (Jc 0) (aC (eC (.str "+")) a0)))
 (Jn (xIf (tB? (e2 fLt (Jc 1) (eC (.int 0)))) (Yy (eC .non)) JD)
 (Jn (Jo 2 (eU 1 Yi (aC (VD (Jc 0) none (some (Jc 1))) a0)))
 (Jn (Jo 3 (eU 1 Yi (aC (VD (Jc 0) (some (e2 JJ (Jc 1) (eC (.int 1)))) none) a0)))
 (Jn (xIf (tOr? (tB? (e2 fIs (Jc 2) (eC .non))) (tOr? (tB? (e2 fIs (Jc 3) (eC .non))) (tB? (e2 fLt (Jc 3) (eC (.int 0)))))) (Yy (eC .non)) JD)
 (Yy (JaQ (aC (Jc 2) (aC (Jc 3) a0)))))))))
noncomputable def JM:List Sl->Option Sl:=Uf 3 (Jn (Jo 1 (eM Uk (Jc 0) (aC (eC (.str " ")) a0)))
 (Jn (xIf (tB? (e2 fNe (e2 fIx (Jc 1) (eC (.int 0))) (eC (.str "row")))) (Yy (eC .non)) JD)
 (Jn (Jo 2 (Zz (iE true (eSl (Jc 1) (some (eC (.int 1))) none)) (.nm 0) yes? (eU 1 JW (aC (Jc 0) a0)) [none]))
 (Yy (eIf (tB? (e2 JgP (eC .non) (Jc 2))) (eC .non) (Jc 2))))))
noncomputable def JL:List Sl->Option Sl:=Uf 3 (Jn (Jo 1 (eM UF (Jc 0) (aC (eC (.str "\n")) a0)))
 (Jn (xIf (tB? (e2 fLt (Jc 1) (eC (.int 0)))) Yt JD)
 (Jn (Jo 2 (eU 1 JM (aC (VD (Jc 0) none (some (Jc 1))) a0)))
 (Jn (xIf (tB? (e2 fIs (Jc 2) (eC .non))) Yt JD)
 (Jn (xIf (tB? (e2 fLt (e2 JJ (Jc 1) (eC (.int 1))) (eF YI (aC (Jc 0) a0)))) Yt JD)
 (Yy (eF JeH (aC (Jc 2) a0))))))))
noncomputable def JU:List Sl->Option Xm:=Ud 3 (Yv (Jo 1 (eM UF (Jc 0) (aC (eC (.str "\n")) a0)))
 Uc (Yv (xIf (tB? (e2 fLt (Jc 1) (eC (.int 0)))) Yt JD)
 (U1 (tB? (e2 fLt (Jc 1) (eC (.int 0)))) (Vg "BadText" (eC (.int 1))) Uc) (Yv (Jo 2 (eU 1 JM (aC (VD (Jc 0) none (some (Jc 1))) a0)))
 Uc (Yv (xIf (tB? (e2 fIs (Jc 2) (eC .non))) Yt JD)
 (U1 (tB? (e2 fIs (Jc 2) (eC .non))) (Vg "BadText" (eC (.int 1))) Uc) (Yv (xIf (tB? (e2 fLt (e2 JJ (Jc 1) (eC (.int 1))) (eF YI (aC (Jc 0) a0)))) Yt JD)
 (U1 (tB? (e2 fLt (e2 JJ (Jc 1) (eC (.int 1))) (eF YI (aC (Jc 0) a0)))) (Vg "BadText" (eC (.int 2))) Uc) (Jji 1 Yc (aC (Jc 2) a0)))))))
noncomputable def JY:List Sl->Option Sl:=Uf 3 (Jn (Jo 1 (eC .non))
 (Jn (JbC ["BadRow","BadText","TooMany"] 2 (VA (eU 1 JL (aC (Jc 0) a0))) (exU 1 JU (aC (Jc 0) a0)) (Jo 1 (Jc 2)))
 (Jn (xIf (tB? (e2 fIs (Jc 1) (eC .non))) (Yy (Yg (aC (eC (.str "made")) (aC (eC .non) a0)))) JD)
 (Jn (xIf (tNot? (tTru? (eU 1 Ui (aC (Jc 1) a0)))) (Yy (Yg (aC (eC (.str "other")) (aC (eC .non) a0)))) JD)
 (Jn (xIf (tTru? (VC ["BadRow","BadText","TooMany"] "BadText" (Jc 1))) (Jn (xIf (tOr? (tNot? (tTru? (Jgt "int" (eAt ["BadText"] (Jc 1))))) (tTru? (Jgt "bool" (eAt ["BadText"] (Jc 1))))) (Yy (Yg (aC (eC (.str "other")) (aC (eC .non) a0)))) JD)
 (Yy (Yg (aC (eC (.str "text")) (aC (eAt ["BadText"] (Jc 1)) a0))))) JD)
 (Yy (Yg (aC (e2 fIx (Yg (aC (eC (.str "other")) (aC (eC (.str "row")) (aC (eC (.str "many")) a0)))) (e2 JJ (eF JeG (aC (VC ["BadRow","BadText","TooMany"] "BadRow" (Jc 1)) a0)) (e2 JaT (eC (.int 2)) (eF JeG (aC (VC ["BadRow","BadText","TooMany"] "TooMany" (Jc 1)) a0))))) (aC (eC .non) a0)))))))))
noncomputable def J2:List Sl->Option Sl:=Uf 2 (Jn (Jo 1 (Yg (Y4 ["5","5+","+5","5+-1","5++1","05+1","5+01","-0+1","5+1+","","a+1","5+b","5 +1","+5+1","--5+1"] a0)))
 (Jn (Jo 1 (e2 JJ (Jc 1) (Yg (Y4 ["5-1","1_0+1","5+1_0","5.0+1"] (aC (e2 JJ (e2 JJ (eC (.str "1")) (e2 JaV (eC (.str "0")) (eC (.int 200)))) (eC (.str "+1"))) (aC (e2 JJ (eC (.str "5+1")) (e2 JaV (eC (.str "0")) (eC (.int 200)))) (aC (eC (.str "5+ 1")) a0)))))))
 (Yy (e2 fIx (Jc 1) (e2 J9 (Jc 0) (eF YI (aC (Jc 1) a0)))))))
noncomputable def J0:List Sl->Option Sl:=Uf 1 (Yy (e2 JJ (eM U4 (eC (.str "")) (aC (e2 JJ (Yg (aC (eC (.str "row")) a0)) (Zz (iE true (Jc 0)) (.tp (.cons (.nm 0) (.cons (.nm 1) .nil))) yes? (e2 JJ (e2 JJ (e2 JJ (eC (.str " ")) (eF JeI (aC (Jc 0) a0))) (eC (.str "+"))) (eF JeI (aC (Jc 1) a0))) [none,none])) a0)) (eC (.str "\n"))))
noncomputable def Yh:List Sl->Option Sl:=Uf 5 (Jn (We 3 (eM Uk (VD (eU 1 J0 (aC (Jc 0) a0)) none (some (e1 Zi (eC (.int 1))))) (aC (eC (.str " ")) a0)))
 (Jn (Jo 4 (e2 JJ (eC (.int 1)) (e2 J9 (e2 Ue (Jc 2) (eC (.int 32))) (eF YI (aC (Jc 3) a0)))))
 (Jn (xIf (tB? (e2 fEq (Jc 1) (eC (.int 1)))) (JbA 3 (Jc 4) (eU 1 J2 (aC (Jc 2) a0))) JD)
 (Jn (xIf (tB? (e2 fEq (Jc 1) (eC (.int 2)))) (UU 3 (eC (.int 0)) (e2 fIx (Yg (Y4 ["","Row","rows","ro"," row","row+","row 1+"] a0)) (e2 J9 (Jc 2) (eC (.int 7))))) JD)
 (Jn (xIf (tB? (e2 fEq (Jc 1) (eC (.int 3)))) (JbA 3 (Jc 4) (eC (.str ""))) JD)
 (Jn (xIf (tAnd? (tB? (e2 fEq (Jc 1) (eC (.int 4)))) (tB? (e2 fGt (eF YI (aC (Jc 3) a0)) (eC (.int 1))))) (UU 3 (e2 JJ (eC (.int 1)) (e2 J9 (e2 Ue (Jc 2) (eC (.int 32))) (e2 JbJ (eF YI (aC (Jc 3) a0)) (eC (.int 1))))) (eU 1 J2 (aC (Jc 2) a0))) (xIf (tB? (e2 fEq (Jc 1) (eC (.int 4)))) (Jeb 3 (eU 1 J2 (aC (Jc 2) a0))) JD))
 (Yy (eM U4 (eC (.str " ")) (aC (Jc 3) a0)))))))))
noncomputable def JO:List Sl->Option Sl:=Uf 2 (Jn (xIf (tB? (e2 fLt (Jc 1) (eF YI (aC (Jc 0) a0)))) (Yy (e2 fIx (Jc 0) (Jc 1))) JD)
 (Yy (eC (.int 0))))
noncomputable def J6:List Sl->Option Sl:=Uf 4 (Jn (xIf (tB? (e2 fGt (eF YI (aC (Jc 0) a0)) (eC (.int 30)))) (Yy (Yg (aC (eC (.str "many")) (aC (eC .non) a0)))) JD)
 (Jn (Jo 1 (eC .non))
 (Jn (Jip (iV 0) (.tp (.cons (.nm 2) (.cons (.nm 3) .nil))) (Jn (xIf (tOr? (tB? (e2 fLt (Jc 3) (eC (.int 1)))) (tAnd? (tB? (e2 YV (Jc 1) (eC .non))) (tB? (e2 fLe (Jc 2) (Jc 1))))) (Yy (Yg (aC (eC (.str "row")) (aC (eC .non) a0)))) JD)
 (Jo 1 (e2 JJ (Jc 2) (Jc 3)))))
 (Yy (Yg (aC (eC (.str "made")) (aC (eC .non) a0)))))))
noncomputable def JA:List Sl->Option Sl:=Uf 6 (Jn (We 3 (eF Jcx (aC (Jc 0) a0)))
 (Jn (xIf (tAnd? (tB? (e2 fEq (Jc 1) (eC (.int 1)))) (tB? (e2 fNe (Jc 3) (Yg a0)))) (Jn (Jo 4 (e2 J9 (Jc 2) (eF YI (aC (Jc 3) a0))))
 (UU 3 (Jc 4) (JaQ (aC (e2 fIx (e2 fIx (Jc 3) (Jc 4)) (eC (.int 0))) (aC (eC (.int 0)) a0))))) JD)
 (Jn (xIf (tAnd? (tB? (e2 fEq (Jc 1) (eC (.int 2)))) (tB? (e2 fNe (Jc 3) (Yg a0)))) (Jn (Jo 4 (e2 J9 (Jc 2) (eF YI (aC (Jc 3) a0))))
 (JbA 3 (Jc 4) (JaQ (aC (e2 JbJ (e2 JbJ (e2 fIx (e2 fIx (Jc 3) (Jc 4)) (eC (.int 0))) (eC (.int 1))) (e2 J9 (e2 Ue (Jc 2) (eC (.int 30))) (eC (.int 3)))) (aC (e2 JJ (eC (.int 1)) (e2 J9 (e2 Ue (Jc 2) (eC (.int 30))) (eC (.int 3)))) a0))))) JD)
 (Jn (xIf (tB? (e2 fEq (Jc 1) (eC (.int 3)))) (Jn (Jo 5 (eC (.int 0)))
 (Jn (xIf (tB? (e2 fNe (Jc 3) (Yg a0))) (Jo 5 (e2 JJ (e2 JJ (e2 fIx (e2 fIx (Jc 3) (e1 Zi (eC (.int 1)))) (eC (.int 0))) (e2 fIx (e2 fIx (Jc 3) (e1 Zi (eC (.int 1)))) (eC (.int 1)))) (eC (.int 1)))) JD)
 (We 3 (e2 JJ (Jc 3) (Zz (iR1 (aC (e2 JbJ (eC (.int 31)) (eF YI (aC (Jc 3) a0))) a0)) (.nm 0) yes? (JaQ (aC (e2 JJ (Jc 1) (e2 JaT (eC (.int 2)) (Jc 0))) (aC (eC (.int 1)) a0))) [none,some 5]))))) JD)
 (JbB 3)))))
noncomputable def Yu:List Sl->Option Sl:=Uf 9 (Jn (Jo 5 (e2 JbJ (e2 J9 (eU 2 JO (aC (Jc 0) (aC (Jc 1) a0))) (e2 JJ (e2 JaT (eC (.int 2)) (Jc 4)) (eC (.int 1)))) (Jc 4)))
 (Jn (We 6 (Yg a0))
 (Jn (Jip (iR1 (aC (Jc 2) a0)) (.nm 7) (Jn (Jo 8 (e2 JJ (eC (.int 1)) (e2 J9 (eU 2 JO (aC (Jc 0) (aC (e2 JJ (e2 JJ (Jc 1) (eC (.int 1))) (e2 JaT (eC (.int 2)) (Jc 7))) a0))) (Jc 3))))
 (Jn (Jeb 6 (JaQ (aC (Jc 5) (aC (Jc 8) a0))))
 (Jo 5 (e2 JJ (e2 JJ (e2 JJ (Jc 5) (Jc 8)) (eC (.int 1))) (e2 J9 (eU 2 JO (aC (Jc 0) (aC (e2 JJ (e2 JJ (Jc 1) (eC (.int 2))) (e2 JaT (eC (.int 2)) (Jc 7))) a0))) (Jc 3)))))))
 (JbB 6))))
noncomputable def Yn:List Sl->Option Sl:=Uf 4 (Jn (Jo 1 (eU 2 JO (aC (Jc 0) (aC (eC (.int 0)) a0))))
 (Jn (Jo 2 (e2 fIx (Yg (aC (eC (.int 2)) (aC (eC (.int 7)) (aC (eC (.int 1000)) (aC (e2 JaU (eC (.int 10)) (eC (.int 30))) a0))))) (e2 J9 (e2 Ue (Jc 1) (eC (.int 31))) (eC (.int 4)))))
 (Jn (Jo 3 (e2 fIx (Yg (aC (eC (.int 3)) (aC (eC (.int 1000)) (aC (e2 JaU (eC (.int 10)) (eC (.int 40))) a0)))) (e2 J9 (e2 Ue (Jc 1) (eC (.int 124))) (eC (.int 3)))))
 (Yy (eU 5 Yu (aC (Jc 0) (aC (eC (.int 1)) (aC (e2 J9 (Jc 1) (eC (.int 31))) (aC (Jc 2) (aC (Jc 3) a0))))))))))
noncomputable def Jey:List Sl->Option Sl:=Uf 7 (Jn (Jo 1 (eU 1 Yn (aC (Jc 0) a0)))
 (Jn (Jo 2 (eF JeJ (aC (Jc 0) a0)))
 (Jn (Jo 1 (eU 3 JA (aC (Jc 1) (aC (e2 J9 (Jc 2) (eC (.int 4))) (aC (e2 J9 (e2 Ue (Jc 2) (eC (.int 4))) (e2 JaU (eC (.int 10)) (eC (.int 9)))) a0)))))
 (Jn (Jo 3 (eU 1 J6 (aC (Jc 1) a0)))
 (Jn (Jo 4 (e2 J9 (eU 2 JO (aC (Jc 0) (aC (eC (.int 1)) a0))) (e2 JaU (eC (.int 10)) (eC (.int 12)))))
 (Jn (Jo 5 (e2 fIx (Yg (Y4 ["\n","row\n"," ","x","\n\n","row 1+1"] a0)) (e2 J9 (e2 Ue (Jc 4) (eC (.int 16))) (eC (.int 6)))))
 (Jn (Jo 6 (eU 1 J0 (aC (Jc 1) a0)))
 (Jn (xIf (tOr? (tB? (e2 fEq (e2 J9 (Jc 4) (eC (.int 16))) (eC (.int 9)))) (tB? (e2 fEq (e2 J9 (Jc 4) (eC (.int 16))) (eC (.int 10))))) (Jn (Jo 6 (e2 JJ (Jc 6) (Jc 5)))
 (Jo 3 (Yg (aC (eC (.str "text")) (aC (eC (.int 2)) a0))))) JD)
 (Jn (xIf (tB? (e2 fIn (e2 J9 (Jc 4) (eC (.int 16))) (Yg (aC (eC (.int 1)) (aC (eC (.int 2)) (aC (eC (.int 3)) (aC (eC (.int 4)) a0))))))) (Jn (Jo 6 (e2 JJ (eU 3 Yh (aC (Jc 1) (aC (e2 J9 (Jc 4) (eC (.int 16))) (aC (e2 Ue (Jc 4) (eC (.int 16))) a0)))) (eC (.str "\n"))))
 (Jn (Jo 3 (Yg (aC (eC (.str "text")) (aC (eC (.int 1)) a0))))
 (xIf (tB? (e2 fEq (e2 J9 (e2 Ue (Jc 4) (eC (.int 11))) (eC (.int 3))) (eC (.int 1)))) (Jo 6 (e2 JJ (Jc 6) (Jc 5))) JD))) JD)
 (Jn (xIf (tB? (e2 fEq (e2 J9 (Jc 4) (eC (.int 16))) (eC (.int 5)))) (Jn (Jo 6 (VD (Jc 6) none (some (e1 Zi (eC (.int 1))))))
 (Jo 3 (Yg (aC (eC (.str "text")) (aC (eC (.int 1)) a0))))) JD)
 (Jn (xIf (tB? (e2 fEq (e2 J9 (Jc 4) (eC (.int 16))) (eC (.int 6)))) (Jn (Jo 6 (e2 fIx (Yg (Y4 [""," ","row"] a0)) (e2 J9 (e2 Ue (Jc 4) (eC (.int 16))) (eC (.int 3)))))
 (Jo 3 (Yg (aC (eC (.str "text")) (aC (eC (.int 1)) a0))))) JD)
 (Jn (xIf (tB? (e2 fEq (e2 J9 (Jc 4) (eC (.int 16))) (eC (.int 7)))) (Jn (Jo 6 (e2 JJ (eC (.str "\n")) (Jc 6)))
 (Jo 3 (Yg (aC (eC (.str "text")) (aC (eC (.int 1)) a0))))) JD)
 (Yy (e2 fEq (eU 1 JY (aC (Jc 6) a0)) (Jc 3)))))))))))))))
end LK
end
namespace LK
open PySem L2 LR LE
local macro_rules | `(tactic| omega)=>`(tactic| first | lia | omega (config:={}))
local macro_rules | `(tactic| walk_at "sd")=>`(tactic| first | omega (config:={}) | assumption | (simp only[Qu,QB,List.length_reverse,Qh,KA,GS];omega (config:={})))
local macro_rules | `(tactic| walk_at "ev")=>`(tactic| simp -implicitDefEqProofs (disch:=walk_at "sd") only[Uf,Jh9,Int.reduceToNat,Qh,KA,Nat.reduceAdd,Nat.reduceSub,Nat.reduceLT,Nat.reduceLeDiff,Q8,Nat.zero_lt_succ,Nat.succ_lt_succ_iff,L5,QU,Kz,QY,List.set_cons_zero,List.set_cons_succ,GM,Lq,QB,List.length_reverse,Kx,QF,Option.map_some,Option.bind_none,Option.map_none,if_true,if_false,ite_true,ite_false,decide_true,decide_false,Bool.not_true,Bool.not_false,Bool.and_true,Bool.true_and,reduceIte,reduceCtorEq,Bool.false_eq_true,Qr,GF,if_pos,
 Jn,xIf,Yy,JbB,JD,We,Jo,VA,Jeb,UU,JbA,Jhf,Jgq,Sl.dt,pr?,JlE,JcZ,ifB,lst?,Y4,VD,JeF,Yo,iTx,JeG,Sl.dk,int?,Jjr,Jip,tB?,tTru?,tAnd?,tOr?,tNot?,Jk4,e2,e1,Jc,eF,eM,eC,aC,a0,eU,UX,Sl.pass,JaQ,Yg,Wy,Sl.frz,Jgs,eIf,sh?,bool?,str?,keep?,Jgt,tyN,D.isRow,JjY,JjX,U0,Jh4,Jh2,Jh3,Jgv,Jgw,
 Jlw,JgR,JgQ,JgO,JgT,JgS,JgG,Wg,JgK,JgJ,JgE,JgD,JgL,JgM,JgH,JgF,JgI,Jjo,Jjm,Jjl,Jjp,Jjk,Jjn,Jlz,Jly,JlB,Jlx,JlA,JgV,Jcx,Sl.q,Sl.r,Sl.m,Sl.d,Sl.it,fEq,fNe,Jjd,Jjf,Jjc,Jje,Jeu,Jjb,Jja,fIs,YV,JdI,JdG,JeY,JdK,JdL,JdH,JeZ,JdJ,iE,iV,iR1,Zz,Vk,JgP,fIn,WD,eSl,UD,fSl,Jjx,Jjw,JfR,JjM,Jg3,JjL,JjP,JjN,JjO,Jll,Jlm,Jgd,Jef,Jmg,Jmh,Jmi,Jmj,Jmk,eq_self])
noncomputable section
theorem Good.cons'{p:Pr}{ps:List Pr}(g:Good (p::ps)):Good ps:=⟨fun i q e=>g.one (i+1) q (by simpa using e),fun i q r e1 e2=>g.gap (i+1) q r (by simpa using e1) (by simpa using e2)⟩
theorem Good.all{ps:List Pr}(g:Good ps):∀p∈ps,1<=p.2:=fun p hp=>by obtain⟨i,hi,e⟩:=LZ.mp hp;exact g.one i p (by simp[hi,e])
theorem Good.first{p:Pr}:∀{ps:List Pr},Good (p::ps)->∀q∈ps,p.1+p.2<q.1
 | [],_,q,hq=>nomatch hq
 | r::ps,g,q,hq=>by
  have h1:=g.gap 0 p r rfl rfl;rcases Qm.mp hq with z|z
  ·rw[z];exact h1
  ·have h2:=Good.first (Good.cons' g) q z
   have h3:=g.one 1 r rfl;omega
theorem WK(ns:List Int)(k:Int)(hk:0<=k):JO [.sh (.fz (ns.map .int)),.sh (.int k)]=some (.sh (.int (cell ns k))):=by
 unfold JO;walk_at "ev"
 by_cases h:k<(ns.length:Int)
 ·simp only[h,Yw,JaH hk h];walk_at "ev"
 ·simp only[h,Jeo h];walk_at "ev"
theorem Jfa(ns:List Int)(at' many span side:Int)(h1:0<=at')(h2:0<=many)(h3:many<=1000)(h4:0<span)(h5:0<=side) :
 Yu [.sh (.fz (ns.map .int)),.sh (.int at'),.sh (.int many),.sh (.int span),.sh (.int side)]=some (.own ((spr ns at' span (cell ns at' % (2*side+1)-side) many.toNat).2.map prE)):=by
 unfold Yu;walk_at "ev";rw[WK _ _ h1];walk_at "ev";rw[Jmy,Option.bind_assoc];refine Je8 (fun i E=>∃j7 j8,E=[Sl.sh (D.fz (ns.map .int)),Sl.sh (D.int at'),Sl.sh (D.int many),Sl.sh (D.int span),Sl.sh (D.int side),Sl.sh (D.int (spr ns at' span (cell ns at' % (2*side+1)-side) i).1),Sl.own ((spr ns at' span (cell ns at' % (2*side+1)-side) i).2.map prE),j7,j8]) ⟨.no,.no,rfl⟩ ?_ ?_
 ·rintro i E hi ⟨j7,j8,rfl⟩;have hl:=Jay ns at' span (cell ns at' % (2*side+1)-side) i;walk_at "ev";rw[WK _ _ (by omega)];walk_at "ev";rw[WK _ _ (by omega)];walk_at "ev";simp only[spr,GD,Qr,GF];exact⟨_,_,rfl⟩
 ·rintro E' ⟨j7,j8,rfl⟩;walk_at "ev"
theorem Jha(ns:List Int):Yn [.sh (.fz (ns.map .int))]=some (.own ((UW ns).map prE)):=by
 unfold Yn;walk_at "ev";rw[WK _ _ (by decide)];walk_at "ev";have a4:=JaI (l:=[2,7,1000,10 ^ 30]) (k:=cell ns 0 / 31 % 4) (by omega) (by show _<(4:Int);omega);have a3:=JaI (l:=[3,1000,10 ^ 40]) (k:=cell ns 0 / 124 % 3) (by omega) (by show _<(3:Int);omega);simp only[Qr,GF] at a4 a3;rw[a4];walk_at "ev";rw[a3];walk_at "ev";rw[Jfa ns 1 (cell ns 0 % 31) (JbX [2,7,1000,10 ^ 30] (cell ns 0 / 31 % 4)) (JbX [3,1000,10 ^ 40] (cell ns 0 / 124 % 3)) (by decide) (by omega) (by omega) (Jbn ns) (Jdb ns)]
 rfl
noncomputable def tx(l:List Nat):Str:=⟨l.toArray⟩
theorem Jf4{a b:List Nat}:tx a=tx b↔a=b:=by
 constructor
 ·intro h;have:=congrArg (fun z:Str=>z.cps.toList) h
  simpa [tx] using this
 ·rintro rfl;rfl
theorem JiS(z:Str):z=tx z.cps.toList:=rfl
theorem JQ(l:List Nat):(tx l).length=l.length:=by simp[tx,Mg]
theorem YT(l:List Nat):(tx l).cps.toList=l:=rfl
theorem Ys(a b:List Nat):tx a++tx b=tx (a++b):=by
 apply Str.mk.injEq _ _ |>.mpr
 apply Array.toList_inj.mp
 simp[tx]
noncomputable def dig(c:Nat):Bool:=decide (48<=c) && decide (c<=57)
theorem Jdi(s:Str)(c i:Nat):KH s ⟨#[c]⟩ i=(((s.cps.toList.drop i).take 1) == [c]):=by rw[StrLaws.subAt_eq];rfl
theorem W3(l:List Nat)(c:Nat):Ka (tx l) ⟨#[c]⟩=(l.take 1 == [c]):=by
 unfold Ka;rw[Jdi,YT,List.drop_zero]
 cases l with
 | nil=>rfl
 | cons a r =>
  have:(0+Mg ⟨#[c]⟩<=(tx (a::r)).length):=by rw[JQ];show 0+1<=r.length+1;omega
  rw[decide_eq_true this,Bool.true_and]
theorem JfS:∀c:Nat,c<128->inS ⟨#[c]⟩ (Qe "0123456789")=dig c:=by decide +kernel
theorem Jjy(c:Nat):inS ⟨#[c]⟩ (Qe "0123456789")=dig c:=by
 by_cases h:c<128
 ·exact JfS c h
 ·have e:(Qe "0123456789").cps.toList=[48,49,50,51,52,53,54,55,56,57]:=by decide +kernel
  have no:∀i,KH (Qe "0123456789") ⟨#[c]⟩ i=false:=fun i=>by
   rw[Jdi,e]
   cases hb:((([48,49,50,51,52,53,54,55,56,57]:List Nat).drop i).take 1 == [c]) with
   | false=>rfl
   | true =>
    have e1:(([48,49,50,51,52,53,54,55,56,57]:List Nat).drop i).take 1=[c]:=by simpa using hb
    have m:c∈([48,49,50,51,52,53,54,55,56,57]:List Nat):=KO (KP (show c∈(([48,49,50,51,52,53,54,55,56,57]:List Nat).drop i).take 1 by rw[e1];exact Qy));simp at m;omega
  unfold inS;rw[StrLaws.occ_eq,(StrLaws.occ_none _ _ _ _ 0 (fun i _=>G4 _)).mpr (fun i _ z=>by rw[no i] at z;cases z.2)];unfold dig;rw[decide_eq_false (show ¬c<=57 by omega),Bool.and_false];rfl
theorem Jar(l:List Nat)(k:Nat)(h:k<=l.length):Gq (tx l) (some (k:Int)) none=tx (l.drop k):=by
 have e:=StrLaws.sliceText_from (x:=tx l) (i:=(k:Int)) ⟨by omega,by rw[YT];omega⟩;rw[YT] at e
 show Mw _ _ _=_;rw[e];unfold tx;congr 2;rw[GY,Gw (by rw[GK];omega)]
theorem Jdd(l:List Nat)(k:Nat)(h:k<=l.length):Gq (tx l) none (some (k:Int))=tx (l.take k):=by
 have e:=StrLaws.sliceText_to (x:=tx l) (j:=(k:Int)) ⟨by omega,by rw[YT];omega⟩;rw[YT] at e
 show Mw _ _ _=_;rw[e];unfold tx;rw[List.drop_zero,show((k:Int)-0).toNat=k by omega]
theorem JfP(l:List Nat):Gq (tx l) (some 1) none=tx (l.drop 1):=by
 cases l with
 | nil=>rfl
 | cons a r=>exact Jar (a::r) 1 (by simp)
noncomputable def J8:List Nat->List Nat
 | []=>[]
 | c::r=>if c=45 then r else c::r
theorem YE(c:Nat)(r:List Nat):J8 (c::r)=if c=45 then r else c::r:=rfl
noncomputable def okL(l:List Nat):Bool:=!(J8 l).isEmpty && decide ((J8 l).length<=200) && (J8 l).all dig && !((J8 l).take 1 == [48] && !(l == [48]))
noncomputable def Jbx(l:List Nat):Int:=(intText? (tx l)).getD 0
noncomputable def Jaj(l:List Nat):D:=if okL l=true then .int (Jbx l) else .non
theorem Jcm(l:List Nat):(J8 l).length<=l.length/\l.length<=(J8 l).length+1:=by
 cases l with
 | nil=>exact⟨Qq _,Nat.le_succ _⟩
 | cons c r=>rw[YE];split <;> simp
theorem Wf{l:List Nat}(h:l.all dig=true):NumText.AllDigits l:=fun c hc=>by have:=QS.mp h c hc;unfold dig at this;simp at this;exact this
theorem Jjz(l:List Nat)(h:okL l=true):intText? (tx l)=some (Jbx l):=by
 unfold okL at h;simp only[Qz,KF,decide_eq_true_eq] at h;obtain⟨⟨⟨h1,h2⟩,h3⟩,_⟩:=h;have hb:=Jcm l;have hne:J8 l≠[]:=fun e=>by rw[e] at h1;cases h1
 have some_:∀{n:Int},intText? (tx l)=some n->intText? (tx l)=some (Jbx l):=fun {n} e=>by unfold Jbx;rw[e];rfl
 cases l with
 | nil=>exact absurd rfl hne
 | cons c r =>
  by_cases hc:c=45
  ·subst hc;have e:J8 (45::r)=r:=by rw[YE,if_pos rfl]
   rw[e] at h3 hne h2;exact some_ (intText_neg (x:=tx (45::r)) (cs:=r) rfl (Wf h3) hne (by rw[JQ];simp;omega))
  ·have e:J8 (c::r)=c::r:=by rw[YE,if_neg hc]
   rw[e] at h3 h2;exact some_ (intText_digits (x:=tx (c::r)) (Wf h3) (by rw[YT];simp) (by rw[JQ];omega))
theorem Jh0:Qe "-"=tx [45]:=by decide +kernel
theorem JfM:Qe ""=tx []:=by decide +kernel
theorem JfN:Qe "0"=tx [48]:=by decide +kernel
theorem JbI(a b:List Nat):decide (tx a=tx b)=decide (a=b):=by simp only[Jf4]
theorem Jdq(l:List Nat):J8 l=if l.take 1=[45] then l.drop 1 else l:=by
 cases l with
 | nil=>rfl
 | cons c r =>
  rw[YE]
  by_cases h:c=45
  ·rw[if_pos h,if_pos (by simp[h])];rfl
  ·rw[if_neg h,if_neg (by simp[h])]
theorem Jgu(b:List Nat):UC (.nm 0) yes? (e2 JeF (Jc 0) (eC (.str (Qe "0123456789")))) [.no] (b.map sgE)=some (b.map fun c=>D.bl (dig c)):=UE fun c _=>by simp only[sgE];walk_at "ev";rw[Jjy]
theorem Jcw(l:List Nat){n:Int}(hl:l.length<=640)(h:intText? (tx l)=some n):Jcv [.sh (.str (tx l))]=some (.sh (.int n)):=by show(if _ then _ else _)=_;rw[if_pos (by rw[JQ];exact hl),h];rfl
theorem Jac(l:List Nat)(hl:l.length<=640):Yi [.sh (.str (tx l))]=some (.sh (Jaj l)):=by
 have hb:=Jcm l
 have ll:=JQ l
 have lb:=JQ (J8 l)
 have st:Ka (tx l) (Qe "-")=decide (l.take 1=[45]):=by rw[Jh0];exact(W3 l 45).trans (by rw[Gf];simp)
 have sz:Ka (tx (J8 l)) (Qe "0")=decide ((J8 l).take 1=[48]):=by rw[JfN];exact(W3 _ 48).trans (by rw[Gf];simp)
 have fal:JeE [.own ((J8 l).map fun c=>D.bl (dig c))]=some (.sh (.bl ((J8 l).all dig))):=by
  rw[JgN (ns:=(J8 l).map dig) (by simp[Sl.q]),List.all_map]
  all_goals rfl
 have fig:∀T:Es,(Jn (Jo 1 (eIf (tTru? (eM Yo (Jc 0) (aC (eC (.str "-")) a0))) (VD (Jc 0) (some (eC (.int 1))) none) (Jc 0))) T) [.sh (.str (tx l)),.no]=T [.sh (.str (tx l)),.sh (.str (tx (J8 l)))]:=fun T=>by
  rw[Jdq];walk_at "ev";rw[st]
  by_cases h:l.take 1=[45]
  ·rw[decide_eq_true h,if_pos h];walk_at "ev";rw[JfP]
  ·rw[decide_eq_false h,if_neg h];walk_at "ev"
 unfold Yi Uf;simp only[Qh,KA,Nat.reduceAdd,Nat.reduceSub,L5,QU,Kz];rw[fig];walk_at "ev";rw[JfM,JbI];unfold Jaj okL
 by_cases h1:J8 l=[]
 ·rw[decide_eq_true h1,h1];walk_at "ev"
  all_goals rfl
 ·have h1':(J8 l).isEmpty=false:=by cases e:J8 l with|nil=>exact absurd e h1|cons _ _=>rfl
  rw[decide_eq_false h1,h1'];walk_at "ev"
  by_cases h2:(J8 l).length<=200
  ·rw[decide_eq_false (show ¬(((tx (J8 l)).length:Int)>200) by omega),decide_eq_true h2];walk_at "ev";rw[YT,Jgu];walk_at "ev";rw[fal];walk_at "ev"
   cases h3:(J8 l).all dig with
   | false =>
    walk_at "ev"
    all_goals rfl
   | true =>
    walk_at "ev";rw[sz];rw[JfN,JbI];have io:=Jjz l;unfold okL at io;rw[h1',decide_eq_true h2,h3] at io
    by_cases h4:(J8 l).take 1=[48]
    ·by_cases h5:l=[48]
     ·rw[decide_eq_true h4,decide_eq_true h5];have e5:(l == [48])=true:=by simp[h5]
      rw[e5,Bool.not_true,Bool.and_false] at io ⊢;walk_at "ev";rw[Jcw l hl (io rfl)]
      all_goals rfl
     ·rw[decide_eq_true h4,decide_eq_false h5];have e4:((J8 l).take 1 == [48])=true:=by simp[h4]
      have e5:(l == [48])=false:=by simp[h5]
      rw[e4,e5];walk_at "ev"
      all_goals rfl
    ·rw[decide_eq_false h4];have e4:((J8 l).take 1 == [48])=false:=by simp[h4]
     rw[e4] at io ⊢;walk_at "ev";rw[Jcw l hl (io rfl)]
     all_goals rfl
  ·rw[decide_eq_true (show(((tx (J8 l)).length:Int)>200) by omega),decide_eq_false h2];walk_at "ev"
   all_goals rfl
noncomputable def YL(m:Nat):List Nat:=(LH 10 m).map Char.toNat
theorem JaP:∀d:Nat,d<10->(Mc d).toNat=d+48:=by decide
theorem Vf{m:Nat}(h:m<10):YL m=[m+48]:=by unfold YL;rw[Ls h];show [(Mc m).toNat]=_;rw[JaP m h]
theorem Z3{m:Nat}(h:¬m<10):YL m=YL (m / 10)++[m % 10+48]:=by
 have hm:m % 10<10:=Nat.mod_lt m (by decide)
 have t:LH 10 (m / 10)++LH 10 (m % 10)=LH 10 (10*(m / 10)+m % 10):=Nat.toDigits_append_toDigits (by decide) (by omega) hm;rw[Nat.div_add_mod] at t;unfold YL;rw[<- t,GD,Ls hm]
 show _++[(Mc _).toNat]=_;rw[JaP _ hm]
theorem Ve(m:Nat):(YL m).all dig=true:=by
 induction m using Nat.strongRecOn with
 | _ m ih =>
  by_cases h:m<10
  ·rw[Vf h];simp[dig];omega
  ·rw[Z3 h,List.all_append,ih (m / 10) (by omega)];simp[dig];omega
theorem Wv:∀(k m:Nat),m<10 ^ (k+1)->(YL m).length<=k+1
 | 0,m,h=>by rw[Vf (by simpa using h)];simp
 | k+1,m,h=>by
  by_cases z:m<10
  ·rw[Vf z];simp
  ·have:=Wv k (m / 10) (by rw[Nat.pow_succ] at h;omega);rw[Z3 z,Qu,GS];omega
theorem JaO(m:Nat):∃c r,YL m=c::r/\(0<m->c≠48):=by
 induction m using Nat.strongRecOn with
 | _ m ih =>
  by_cases h:m<10
  ·exact⟨m+48,[],Vf h,fun _=>by omega⟩
  ·obtain⟨c,r,e,n⟩:=ih (m / 10) (by omega);exact⟨c,r++[m % 10+48],by rw[Z3 h,e];rfl,fun _=>n (by omega)⟩
theorem Jbo(m:Nat):strI (m:Int)=tx (YL m):=by have e:=PySem.W.KIN.signs_num m;rw[JiS (strI (m:Int))];exact congrArg tx e
theorem Jbp(m:Nat):strI (Int.negSucc m)=tx (45::YL (m+1)):=by rw[JiS (strI (Int.negSucc m))];refine congrArg tx ?_;show(Qe ("-"++Nat.repr (m+1))).cps.toList=_;rw[PyProof.Rows.signs_ofString,String.toList_append,GD,Nat.toList_repr];rfl
theorem JjR(n:Int)(h:n.natAbs<10 ^ 200):∃l,strI n=tx l/\l.length<=201/\okL l=true/\Jbx l=n:=by
 cases n with
 | ofNat m =>
  have hl:=Wv 199 m h;obtain⟨c,r,e,z⟩:=JaO m
  have hd:=Ve m
  have hc:c≠45:=fun q=>by rw[e,q,Kq] at hd;exact absurd hd (by simp[dig])
  have hb:J8 (YL m)=YL m:=by rw[e,YE,if_neg hc]
  refine⟨YL m,Jbo m,by omega,?_,?_⟩
  ·unfold okL;rw[hb,hd,decide_eq_true hl,e]
   by_cases h0:m=0
   ·subst h0;rw[Vf (by decide)] at e
    injection e with e1 e2
    rw[<- e1,<- e2];rfl
   ·have:=z (by omega);simp[this]
  ·unfold Jbx;rw[intText_digits (x:=tx (YL m)) (Wf hd) (by rw[YT,e];simp) (by rw[JQ];omega),YT];show((Lu (YL m):Nat):Int)=_;unfold YL;rw[L6];rfl
 | negSucc m =>
  have hl:=Wv 199 (m+1) h;obtain⟨c,r,e,z⟩:=JaO (m+1)
  have hd:=Ve (m+1)
  have hb:J8 (45::YL (m+1))=YL (m+1):=by rw[YE,if_pos rfl]
  refine⟨45::YL (m+1),Jbp m,by rw[Qh];omega,?_,?_⟩
  ·unfold okL;rw[hb,hd,decide_eq_true hl,e];have:=z (by omega);simp[this]
  ·unfold Jbx;rw[intText_neg (x:=tx (45::YL (m+1))) (cs:=YL (m+1)) rfl (Wf hd) (by rw[e];simp) (by rw[JQ,Qh];omega)];show -((Lu (YL (m+1)):Nat):Int)=_;unfold YL;rw[L6];rfl
theorem Jio{p:Pr}(h:Wp p):(strI p.1).length<=1921/\(strI p.2).length<=1921:=⟨Vt h.1,Vt h.2⟩
theorem Je7:((("+":String):Str)).length=1:=by decide +kernel
theorem JdO:(((" ":String):Str)).length=1:=by decide +kernel
theorem JjQ:((("\n":String):Str)).length=1:=by decide +kernel
theorem Jg8:((("row":String):Str)).length=3:=by decide +kernel
theorem Jg7:((("":String):Str)).length=0:=by decide +kernel
theorem ZD{z:Str}{s:Sl}{ys:List Str}(e:s.r=some (ys.map D.str))(h:(ys.map (·.length)).sum+ys.length*z.length<=16777216):U4 z [s]=some (.sh (.str (Gh z ys))):=by show(s.r.bind _)=_;rw[e,QF,Jbq,QF,if_pos h]
theorem Jfb(ps:List Pr)(hl:ps.length<=39)(hs:∀p∈ps,Wp p):J0 [.sh (.lst (ps.map prE))]=some (.sh (.str (JaB ps))):=by
 unfold J0
 have hf:=JdN (ys:=("row":Str)::ps.map Uw) (z:=(("":String):Str)) (by simp;omega) (by rw[Jg7];omega) (fun y hy=>by
  rcases Qm.mp hy with z|z
  ·rw[z,Jg8];omega
  ·obtain⟨p,hp,rfl⟩:=Q4.mp z;have:=Jea (hs p hp);omega)
 have hj:=join_len (z:=(("":String):Str)) (("row":Str)::ps.map Uw)
 have hn:=JjQ;walk_at "ev";rw[UE (g:=fun p=>D.str (Uw p))]
 ·walk_at "ev";rw[ZD (ys:=("row":Str)::ps.map Uw) (by simp[Sl.r]) (by omega)];walk_at "ev";rw[Jbt]
 ·intro p hp;obtain⟨a1,a2⟩:=hs p hp;obtain⟨b1,b2⟩:=Jio (hs p hp);have c1:=Je7;have c2:=JdO;unfold Small at a1 a2;simp only[prE];walk_at "ev";have l1:=Gp (((" ":String):Str)) (strI p.1);have l2:=Gp (((" ":String):Str)++strI p.1) ((("+":String):Str));walk_at "ev";rfl
noncomputable def Y8(c:Nat):Nat->List Nat->List Nat
 | _,[]=>[]
 | k,a::l=>if a=c then k::Y8 c (k+1) l else Y8 c (k+1) l
noncomputable def spL(c:Nat):List Nat->List (List Nat)
 | []=>[[]]
 | a::l=>if a=c then []::spL c l else match spL c l with
  | p::ps=>(a::p)::ps
  | []=>[[a]]
theorem JfY(x:Str)(c i:Nat):KH x ⟨#[c]⟩ i=decide (x.cps[i]?=some c):=by
 unfold KH;show(x.cps.extract i (i+1) == #[c])=_;rw[Gf,beq_iff_eq,decide_eq_true_iff];constructor
 ·intro h;have h1:(x.cps.extract i (i+1))[0]?=some c:=by rw[h];rfl
  rw[Array.getElem?_extract] at h1;split at h1
  ·simpa using h1
  ·cases h1
 ·intro h;obtain⟨hi,e⟩:=QO.mp h
  apply Array.ext
  ·rw[Array.size_extract];simp;omega
  ·intro j h1 h2;have:j=0:=by simpa using h2
   subst this;simp[e]
theorem Jae(x:Str)(c:Nat):∀(l:List Nat) (k:Nat) (found:Array Nat) (free:Nat),free<=k->found.size<=k->(∀i,l[i]?=x.cps[k+i]?) ->
 (forIn (List.range' k (l.length+1)) (found,free) (LL x ⟨#[c]⟩ x.length (x.length+1))).run.fst.toList=found.toList++Y8 c k l
 | [],k,found,free,h1,h2,h=>by
  have hk:x.cps[k]?=none:=by have:=h 0;simpa using this.symm
  have hn:¬(k+1<=x.length):=by
   have:=Array.getElem?_eq_none_iff.mp hk
   show ¬(k+1<=x.cps.size);omega
  rw[show([]:List Nat).length+1=1 from rfl,List.range'_one,List.forIn_cons];unfold LL;rw[if_neg fun z=>hn z.1.2];simp[Y8]
 | a::l,k,found,free,h1,h2,h=>by
  have hk:x.cps[k]?=some a:=by have:=h 0;simpa using this.symm
  obtain⟨hi,e⟩:=QO.mp hk;have hn:∀i,l[i]?=x.cps[k+1+i]?:=fun i=>by have:=h (i+1);rw[GM] at this;rw[this];congr 1;omega
  rw[Qh,List.range'_succ,List.forIn_cons];unfold LL;rw[JfY,hk]
  by_cases hc:a=c
  ·rw[if_pos ⟨⟨⟨by show found.size<x.cps.size+1;omega,h1⟩,by show k+1<=x.cps.size;omega⟩,by rw[hc];simp⟩];have ih:=Jae x c l (k+1) (found.push k) (k+1) (Qq _) (by rw[Array.size_push];omega) hn;rw[Y8,if_pos hc];have e2:found.toList++k::Y8 c (k+1) l=(found.push k).toList++Y8 c (k+1) l:=by simp
   rw[e2];exact ih
  ·rw[if_neg fun z=>hc (by simpa using z.2)];have ih:=Jae x c l (k+1) found free (by omega) (by omega) hn;rw[Y8,if_neg hc];exact ih
theorem Jhk(x:Str)(c:Nat):Q5 x ⟨#[c]⟩ 0 x.length (x.length+1)=Y8 c 0 x.cps.toList:=by rw[StrLaws.occ_eq];have h:=Jae x c x.cps.toList 0 #[] 0 (Qq _) (by simp) (fun i=>by simp);rw[Km] at h;exact h
noncomputable def Jms(a:List Nat):List (List Nat)->List (List Nat)
 | []=>[]
 | p::ps=>(a++p)::ps
theorem U8(x:List Nat)(c:Nat):∀(l:List Nat) (k b:Nat),x.drop k=l->b<=k->((b::(Y8 c k l).map (·+1)).zip (Y8 c k l++[x.length])).map (fun p=>(x.take p.2).drop p.1)=Jms ((x.take k).drop b) (spL c l)
 | [],k,b,h,hb=>by
  have hk:x.length<=k:=by have:=congrArg List.length h;simp at this;omega
  show [((x.take x.length).drop b)]=[(x.take k).drop b++[]]
  rw[QY,Ln,Gw hk]
 | a::l,k,b,h,hb=>by
  have hl:k<x.length:=by have:=congrArg List.length h;simp at this;omega
  have hd:x.drop (k+1)=l:=by rw[<- List.drop_drop,h];rfl
  have ha:x[k]?=some a:=by have:=congrArg (·[0]?) h;simpa using this
  have ht:x.take (k+1)=x.take k++[a]:=by rw[Ld,ha];rfl
  have hbl:b<=(x.take k).length:=by rw[Gj];omega
  by_cases hc:a=c
  ·have ih:=U8 x c l (k+1) (k+1) hd (Qq _);rw[Y8,if_pos hc,spL,if_pos hc];rw[Qr,QU,List.zip_cons_cons,Qr,ih]
   have e0:(x.take (k+1)).drop (k+1)=[]:=KI (by rw[Gj];omega)
   cases hs:spL c l with
   | nil =>
    exfalso
    cases l with
    | nil=>cases hs
    | cons a' l' =>
     rw[spL] at hs;split at hs
     ·cases hs
     ·split at hs <;> cases hs
   | cons p ps=>show(x.take k).drop b::((x.take (k+1)).drop (k+1)++p)::ps=((x.take k).drop b++[])::p::ps;rw[e0,QY];rfl
  ·have ih:=U8 x c l (k+1) b hd (by omega);rw[Y8,if_neg hc,spL,if_neg hc,ih]
   cases hs:spL c l with
   | nil =>
    exfalso
    cases l with
    | nil=>cases hs
    | cons a' l' =>
     rw[spL] at hs;split at hs
     ·cases hs
     ·split at hs <;> cases hs
   | cons p ps=>show((x.take (k+1)).drop b++p)::ps=((x.take k).drop b++a::p)::ps;rw[ht,List.drop_append_of_le_length hbl,G0];rfl
theorem WA{c:Nat}:∀{l:List Nat} {k:Nat},Y8 c k l=[]->spL c l=[l]
 | [],_,_=>rfl
 | a::l,k,h=>by
  rw[Y8] at h;split at h
  ·cases h
  ·next hc=>rw[spL,if_neg hc,WA h]
theorem V5{c:Nat}:∀{l:List Nat} {k:Nat},c∉l->Y8 c k l=[]
 | [],_,_=>rfl
 | a::l,k,h=>by rw[Y8,if_neg fun e=>h (by rw[e];exact Qy),V5 fun m=>h (Qp _ m)]
noncomputable def mkS(l:List Nat):Str:=⟨l.toArray⟩
theorem Jd5(l:List Nat)(c:Nat)(hc:c<256):GO (mkS l) ⟨#[c]⟩=(spL c l).map mkS:=by
 have o:Q5 (mkS l) ⟨#[c]⟩ 0 (mkS l).length ((mkS l).length+1)=Y8 c 0 l:=by rw[Jhk];rfl
 unfold GO;split
 ·next h =>
  have k1:Gu (⟨#[c]⟩:Str)=1:=by unfold Gu;rw[if_pos (by simp[hc])]
  have k2:¬Gu (mkS l)<1:=by unfold Gu;split <;> (try split) <;> omega
  rw[k1,decide_eq_false k2,Bool.or_false,decide_eq_true_iff] at h
  have:l=[]:=Go (by
   have h':l.toArray.size<1:=h
   simpa using h')
  subst this;rfl
 ·rw[o];split
  ·next h=>have:Y8 c 0 l=[]:=List.isEmpty_iff.mp h;rw[WA this];rfl
  ·unfold Li;have p:=U8 l c l 0 0 rfl (Qq _)
   have e:spL c l=((0::(Y8 c 0 l).map (·+1)).zip (Y8 c 0 l++[l.length])).map (fun p=>(l.take p.2).drop p.1):=by
    rw[p]
    cases hs:spL c l with
    | nil=>rfl
    | cons p ps=>rfl
   rw[e,Kh];have e2:(mkS l).length=l.length:=by show l.toArray.size=_;simp
   rw[e2];refine Kn fun q _=>?_
   show(⟨l.toArray.extract q.1 q.2⟩:Str)=mkS ((l.take q.2).drop q.1);unfold mkS;congr 1;simp[List.extract_eq_drop_take,List.drop_take]
theorem Jav(c:Nat):∀l:List Nat,spL c l≠[]
 | []=>by simp[spL]
 | a::l=>by
  rw[spL];split
  ·simp
  ·split <;> simp
theorem JfT{c:Nat}{p:List Nat}(h:c∉p):spL c p=[p]:=WA (k:=0) (V5 h)
theorem Jdf{c:Nat}:∀{p:List Nat} (r:List Nat),c∉p->spL c (p++c::r)=p::spL c r
 | [],r,_=>by show spL c (c::r)=_;rw[spL,if_pos rfl]
 | a::p,r,h=>by show spL c (a::(p++c::r))=_;rw[spL,if_neg fun e=>h (by rw[e];exact Qy),Jdf r fun m=>h (Qp _ m)]
theorem JeK(l:List Nat)(c:Nat):Mv (mkS l) ⟨#[c]⟩=if c∈l then(l.idxOf c:Int) else -1:=by
 have at':∀i,StrLaws.At (mkS l) ⟨#[c]⟩ (mkS l).length i↔l[i]?=some c:=fun i=>by
  unfold StrLaws.At;rw[JfY,decide_eq_true_iff];have e:(mkS l).cps[i]?=l[i]?:=by show l.toArray[i]?=_;simp
  rw[e];constructor
  ·exact fun h=>h.2
  ·intro h;refine⟨?_,h⟩;have:=(Qi.mp h).1;show i+1<=l.toArray.size;simp;omega
 unfold Mv;rcases StrLaws.occ_head (mkS l) ⟨#[c]⟩ 1 (Qq _) with ⟨h0,hn⟩|⟨i,r,h0,hi,hn⟩
 ·rw[h0,if_neg];intro hm;obtain⟨i,hi⟩:=GW.mp hm;exact hn i ((at' i).mpr hi)
 ·have hi':=(at' i).mp hi
  have hm:c∈l:=QQ hi';rw[h0,if_pos hm]
  show(i:Int)=_;congr 1
  have hj:=KZ hm
  have ej:l[l.idxOf c]?=some c:=by rw[GH hj,List.getElem_idxOf hj]
  have a1:¬l.idxOf c<i:=fun z=>hn _ z ((at' _).mpr ej)
  have first:∀(l:List Nat) (i:Nat),l[i]?=some c->l.idxOf c<=i:=by
   intro l
   induction l with
   | nil=>intro i h;cases h
   | cons a l ih =>
    intro i h
    by_cases e:a=c
    ·rw[e,L7];omega
    ·rw[List.idxOf_cons,show(a == c)=false by simpa using e,cond_false]
     cases i with
     | zero=>simp at h;exact absurd h e
     | succ i=>have:=ih i (by simpa using h);omega
  have a2:=first l i hi'
  omega
noncomputable def Ug(n:Int):List Nat:=match n with
 | Int.ofNat m=>YL m
 | Int.negSucc m=>45::YL (m+1)
theorem VW(n:Int):strI n=tx (Ug n):=by
 cases n with
 | ofNat m=>exact Jbo m
 | negSucc m=>exact Jbp m
theorem UH{n:Int}(h:n.natAbs<10 ^ 200):(Ug n).length<=201/\okL (Ug n)=true/\Jbx (Ug n)=n:=by obtain⟨l,e,h1,h2,h3⟩:=JjR n h;rw[VW,Jf4] at e;rw[e];exact⟨h1,h2,h3⟩
theorem JcR{n:Int}(h:n.natAbs<10 ^ 200):Jaj (Ug n)=.int n:=by obtain⟨_,h2,h3⟩:=UH h;unfold Jaj;rw[if_pos h2,h3]
theorem Jfh(n:Int):∀c∈Ug n,c=45\/dig c=true:=by
 cases n with
 | ofNat m=>exact fun c hc=>.inr (QS.mp (Ve m) c hc)
 | negSucc m =>
  intro c hc;rcases Qm.mp hc with e|e
  ·exact .inl e
  ·exact .inr (QS.mp (Ve (m+1)) c e)
theorem JbU{n:Int}{c:Nat}(h1:c≠45)(h2:dig c=false):c∉Ug n:=fun hc=>by
 rcases Jfh n c hc with e|e
 ·exact h1 e
 ·rw[h2] at e;cases e
theorem Jch:Qe "+"=tx [43]:=by decide +kernel
theorem Wd:Qe "\n"=tx [10]:=by decide +kernel
theorem Wo:Qe " "=tx [32]:=by decide +kernel
theorem JiU:Qe "row"=tx [114,111,119]:=by decide +kernel
noncomputable def JT(p:Pr):List Nat:=Ug p.1++43::Ug p.2
noncomputable def tlL:List Pr->List Nat
 | []=>[]
 | p::ps=>32::(JT p++tlL ps)
noncomputable def YS(ps:List Pr):List Nat:=[114,111,119]++tlL ps
noncomputable def Fig(p:Pr):Prop:=p.1.natAbs<10 ^ 200/\p.2.natAbs<10 ^ 200
theorem Vy{p:Pr}(h:Fig p):(JT p).length<=403:=by
 have a:=(UH h.1).1
 have b:=(UH h.2).1;unfold JT;rw[Qu,Qh];omega
theorem JaC:∀{ps:List Pr},(∀p∈ps,Fig p)->(tlL ps).length<=404*ps.length
 | [],_=>Qq _
 | p::ps,h=>by
  have a:=Vy (h p Qy)
  have b:=JaC fun q hq=>h q (Qp _ hq)
  rw[tlL,Qh,Qu,Qh];omega
theorem JaF{p:Pr}{c:Nat}(h0:c≠43)(h1:c≠45)(h2:dig c=false):c∉JT p:=fun hc=>by
 unfold JT at hc;rcases Q2.mp hc with z|z
 ·exact JbU h1 h2 z
 ·rcases Qm.mp z with y|y
  ·exact h0 y
  ·exact JbU h1 h2 y
theorem JiR{c:Nat}(h:c≠32)(h0:c≠43)(h1:c≠45)(h2:dig c=false):∀ps:List Pr,c∉tlL ps
 | []=>Lv
 | p::ps=>fun hc=>by
  rcases Qm.mp hc with z|z
  ·exact h z
  ·rcases Q2.mp z with y|y
   ·exact JaF h0 h1 h2 y
   ·exact JiR h h0 h1 h2 ps y
theorem JiP:∀(ps:List Pr) (w:List Nat),32∉w->spL 32 (w++tlL ps)=w::ps.map JT
 | [],w,h=>by rw[tlL,QY,JfT h];rfl
 | p::ps,w,h=>by rw[tlL,Jdf _ h,JiP ps (JT p) (JaF (by decide) (by decide) (by decide))];rfl
theorem VU(ps:List Pr):spL 32 (YS ps)=[114,111,119]::ps.map JT:=JiP ps _ (by decide)
theorem JcE{c:Nat}{a b:List Nat}(h:c∉a):(a++c::b).idxOf c=a.length/\c∈a++c::b:=by refine⟨?_,QX _ Qy⟩;rw[List.idxOf_append,if_neg h,L7];omega
theorem Z8(l:List Nat)(c:Nat):UF (tx l) [.sh (.str (tx [c]))]=some (.sh (.int (if c∈l then(l.idxOf c:Int) else -1))):=by show some (Sl.sh (D.int (Mv (mkS l) ⟨#[c]⟩)))=_;rw[JeK]
theorem JfX(l:List Nat)(c:Nat)(hc:c<256)(h1:l.length<=16777216)(h2:(spL c l).length<=16777216):Uk (tx l) [.sh (.str (tx [c]))]=some (.own ((spL c l).map fun p=>D.str (tx p))):=by
 have e:GO (tx l) (tx [c])=(spL c l).map mkS:=Jd5 l c hc
 show(if _ then _ else _)=_;rw[e,if_pos ⟨rfl,by rw[JQ];exact h1,by rw[QB];exact h2⟩,Kh];rfl
theorem JdP(p:Pr)(h:Fig p)(h0:0<=p.2):JW [.sh (.str (tx (JT p)))]=some (.sh (prE p)):=by
 have n43:43∉Ug p.1:=JbU (by decide) (by decide);obtain⟨i1,i2⟩:=JcE (b:=Ug p.2) n43
 have wl:=Vy h
 have l1:=(UH h.1).1
 have l2:=(UH h.2).1
 have f:UF (tx (JT p)) [.sh (.str (tx [43]))]=some (.sh (.int ((Ug p.1).length:Int))):=by have z:=Z8 (JT p) 43;rw[if_pos (show 43∈JT p from i2),show(JT p).idxOf 43=(Ug p.1).length from i1] at z;exact z
 have tl:(tx (JT p)).length<=403:=by rw[JQ];exact wl
 have s1:Gq (tx (JT p)) none (some ((Ug p.1).length:Int))=tx (Ug p.1):=by rw[Jdd _ _ (by unfold JT;rw[Qu];omega)];unfold JT;rw[L8]
 have s2:Gq (tx (JT p)) (some ((Ug p.1).length+1:Int)) none=tx (Ug p.2):=by rw[show((Ug p.1).length+1:Int)=(((Ug p.1).length+1:Nat):Int) by omega,Jar _ _ (by unfold JT;rw[Qu,Qh];omega)];unfold JT;rw[List.drop_append];rw[KI (by omega),Nat.add_sub_cancel_left];rfl
 have d0:decide (((Ug p.1).length:Int)<0)=false:=decide_eq_false (by omega)
 have d1:decide (p.2<0)=false:=decide_eq_false (by omega);unfold JW;walk_at "ev";rw[Jch,f];walk_at "ev";rw[d0];walk_at "ev";rw[s1,Jac _ (by omega),JcR h.1];walk_at "ev";rw[s2,Jac _ (by omega),JcR h.2];walk_at "ev";rw[d1];walk_at "ev";rfl
noncomputable abbrev ckP:Pt:=(.tp (.cons (.nm 2) (.cons (.nm 3) .nil)))
noncomputable abbrev ckB:Es:=(Jn (xIf (tB? (e2 fLt (Jc 3) (eC (.int 1)))) Yt JD) (Jn (xIf (tAnd? (tB? (e2 YV (Jc 1) (eC .non))) (tB? (e2 fLe (Jc 2) (Jc 1)))) Yt JD) (Jo 1 (e2 JJ (Jc 2) (Jc 3)))))
noncomputable abbrev ckX:Xv:=(Yv (xIf (tB? (e2 fLt (Jc 3) (eC (.int 1)))) Yt JD) (U1 (tB? (e2 fLt (Jc 3) (eC (.int 1)))) (YN "BadRow" (aC (eC (.str "a stretch has at least one ball")) a0)) Uc) (Yv (xIf (tAnd? (tB? (e2 YV (Jc 1) (eC .non))) (tB? (e2 fLe (Jc 2) (Jc 1)))) Yt JD) (U1 (tAnd? (tB? (e2 YV (Jc 1) (eC .non))) (tB? (e2 fLe (Jc 2) (Jc 1)))) (YN "BadRow" (aC (eC (.str "a gap lies between two stretches, which stand from left to right")) a0)) Uc) Uc))
noncomputable def leB:Option Int->Int->Bool
 | none,_=>false
 | some e,x=>decide (x<=e)
noncomputable def Ux:Option Int->List Pr->Bool
 | _,[]=>false
 | b,p::r=>decide (p.2<1) || leB b p.1 || Ux (some (p.1+p.2)) r
noncomputable def bhD:Option Int->D
 | none=>.non
 | some e=>.int e
theorem ZE:∀{b:Option Int} {ps:List Pr},Ux b ps=false->U2 ps=true/\∀e p,b=some e->ps[0]?=some p->e<p.1
 | _,[],_=>⟨rfl,fun _ _ _ h=>by simp at h⟩
 | b,[p],h=>by rw[Ux,Kb,Kb,decide_eq_false_iff_not] at h;refine⟨decide_eq_true (by omega),fun e q he hq=>?_⟩;subst he;have:=of_decide_eq_false (show decide (p.1<=e)=false from h.1.2);cases (show p=q by simpa using hq);omega
 | b,p::q::r,h=>by
  rw[Ux,Kb,Kb,decide_eq_false_iff_not] at h;obtain⟨i1,i2⟩:=ZE h.2;refine⟨?_,fun e x he hx=>?_⟩
  ·rw[U2,decide_eq_true (by omega),decide_eq_true (i2 _ q rfl rfl),i1];rfl
  ·subst he;have:=of_decide_eq_false (show decide (p.1<=e)=false from h.1.2);cases (show p=x by simpa using hx);omega
theorem Wq{ps:List Pr}(h:¬Good ps):Ux none ps=true:=by
 cases e:Ux none ps with
 | true=>rfl
 | false=>exact absurd (Ul (ZE e).1) h
theorem Jk9(x:Sl):∀(ps:List Pr) (b:Option Int) (j2 j3:Sl),Ux b ps=true->Uj ckP ckB ckX (ps.map prE) [x,.sh (bhD b),j2,j3]=some ⟨Qe "BadRow",none⟩
 | [],_,_,_,h=>by cases h
 | p::r,b,j2,j3,h=>by
  rw[Ux,Ky,Ky] at h;rw[Qr,Uj];simp only[prE];unfold ckX ckB Yv U1 YN Uc;walk_at "ev"
  by_cases c:p.2<1
  ·rw[decide_eq_true c];walk_at "ev"
  ·rw[decide_eq_false c];walk_at "ev"
   cases b with
   | none =>
    have hr:Ux (some (p.1+p.2)) r=true:=by
     rcases h with (h|h)|h
     ·exact absurd (of_decide_eq_true h) c
     ·cases h
     ·exact h
    simp only[bhD];walk_at "ev";exact Jk9 x r (some (p.1+p.2)) _ _ hr
   | some e =>
    simp only[bhD];walk_at "ev"
    by_cases c2:p.1<=e
    ·rw[decide_eq_true c2];walk_at "ev"
    ·have hr:Ux (some (p.1+p.2)) r=true:=by
      rcases h with (h|h)|h
      ·exact absurd (of_decide_eq_true h) c
      ·exact absurd (of_decide_eq_true h) c2
      ·exact h
     rw[decide_eq_false c2];walk_at "ev";exact Jk9 x r (some (p.1+p.2)) _ _ hr
theorem Jiq(ps:List Pr)(h:Ux none ps=true):J7 [.sh (.lst (ps.map prE))]=some ⟨Qe "BadRow",none⟩:=by unfold J7 Ud Yv Jez Uc;walk_at "ev";exact Jk9 _ ps none _ _ h
theorem Jlb(ps:List Pr)(h:Ux none ps=true)(hl:ps.length<=30):Yc [.no,.sh (.lst (ps.map prE))]=some ⟨Qe "BadRow",none⟩:=by unfold Yc Ud Yv U1 YN exU;walk_at "ev";rw[decide_eq_false (show ¬(ps.length:Int)>30 by omega)];walk_at "ev";exact Jiq ps h
theorem Jlc(ps:List Pr)(hl:30<ps.length):Yc [.no,.sh (.lst (ps.map prE))]=some ⟨Qe "TooMany",none⟩:=by unfold Yc Ud Yv U1 YN exU;walk_at "ev";rw[decide_eq_true (show(ps.length:Int)>30 by omega)];walk_at "ev"
theorem JfJ(s:Sl)(ps:List Pr)(e:s.q=some (ps.map prE))(h:¬(Good ps/\ps.length<=30)):JeH [s]=none:=by show(s.q.bind _)=_;rw[e,QF,VY,QF];rw[if_neg];intro z;rw[Qz,decide_eq_true_eq] at z;exact h ⟨Ul z.1,z.2⟩
theorem Jf5(p:Pr):Uw p=tx (32::JT p):=by unfold Uw JT;rw[VW,VW];rw[show((" ":String):Str)=tx [32] from Wo,show(("+":String):Str)=tx [43] from Jch,Ys,Ys,Ys];simp
theorem JcK:∀(ps:List Pr) (w:List Nat),Gh Q3 (tx w::ps.map Uw)=tx (w++tlL ps)
 | [],w=>by rw[tlL,QY];rfl
 | p::ps,w=>by
  have ih:=JcK ps (32::JT p);rw[Qr,Jf5]
  show tx w++Q3++Gh Q3 (tx (32::JT p)::ps.map Uw)=_;rw[ih,show Q3=tx [] from rfl,Ys,Ys,QY];rfl
theorem Jdl(ps:List Pr):JaB ps=tx (YS ps++[10]):=by rw[<- Jbt];have h:=JcK ps [114,111,119];rw[show(("":String):Str)=Q3 from by decide +kernel,show(("row":String):Str)=tx [114,111,119] from JiU,h,show(("\n":String):Str)=tx [10] from Wd,Ys];rfl

noncomputable def stL(w:List Nat):D:=if 43∈w then(match Jaj (w.take (w.idxOf 43)),Jaj (w.drop (w.idxOf 43+1)) with
 | .int b,.int l=>if l<0 then .non else .tup [.int b,.int l]
 | _,_=>.non) else .non
theorem JcV(l:List Nat):Jaj l=.non\/∃n,Jaj l=.int n:=by
 unfold Jaj;split
 ·exact .inr ⟨_,rfl⟩
 ·exact .inl rfl
theorem JiD(w:List Nat)(hw:w.length<=600):JW [.sh (.str (tx w))]=some (.sh (stL w)):=by
 have f:=Z8 w 43;unfold JW;walk_at "ev";rw[Jch,f]
 by_cases h:43∈w
 ·rw[if_pos h];have hi:w.idxOf 43<w.length:=KZ h;have d0:decide ((w.idxOf 43:Int)<0)=false:=decide_eq_false (by omega);have tl:(tx w).length<=600:=by rw[JQ];exact hw
  have s1:Gq (tx w) none (some (w.idxOf 43:Int))=tx (w.take (w.idxOf 43)):=Jdd _ _ (by omega)
  have s2:Gq (tx w) (some ((w.idxOf 43:Int)+1)) none=tx (w.drop (w.idxOf 43+1)):=by rw[show((w.idxOf 43:Int)+1)=((w.idxOf 43+1:Nat):Int) by omega];exact Jar _ _ (by omega)
  have m1:=Jac (w.take (w.idxOf 43)) (by rw[Gj];omega)
  have m2:=Jac (w.drop (w.idxOf 43+1)) (by rw[GK];omega);unfold stL;rw[if_pos h];walk_at "ev";rw[d0];walk_at "ev";rw[s1,m1];rcases JcV (w.take (w.idxOf 43)) with e1 | ⟨b,e1⟩
  ·rw[e1];walk_at "ev";rw[s2,m2];walk_at "ev"
  ·rw[e1];walk_at "ev";rw[s2,m2];rcases JcV (w.drop (w.idxOf 43+1)) with e2 | ⟨l,e2⟩
   ·rw[e2];walk_at "ev"
   ·rw[e2];walk_at "ev"
    by_cases hl:l<0
    ·rw[decide_eq_true hl,if_pos hl];walk_at "ev"
    ·rw[decide_eq_false hl,if_neg hl];walk_at "ev"
 ·rw[if_neg h];unfold stL;rw[if_neg h];walk_at "ev";rw[show decide ((-1:Int)<0)=true from rfl];walk_at "ev"
theorem Jif(p:Pr)(h:Fig p)(h0:0<=p.2):stL (JT p)=prE p:=by have a:=JiD (JT p) (by have:=Vy h;omega);rw[JdP p h h0] at a;exact(Sl.sh.inj (QL a)).symm
noncomputable def Vu(ws:List (List Nat)):D:=match ws with
 | []=>.non
 | w::r=>if w=[114,111,119] then(if (r.map stL).any D.isNon=true then .non else .lst (r.map stL)) else .non
theorem JkW(w:List Nat):okN (stL w)=true:=by
 unfold stL;split
 ·split
  ·split <;> rfl
  ·rfl
 ·rfl
theorem JjT(l:List Nat)(h1:l.length<=16777216)(h2:(spL 32 l).length<=16777216)(h3:∀w∈spL 32 l,w.length<=600):JM [.sh (.str (tx l))]=some (.sh (Vu (spL 32 l))):=by
 have f:=JfX l 32 (by decide) h1 h2
 have a0':∀(x:D) (l:List D),atI (x::l) 0=some x:=fun x l=>by unfold atI ixN;rw[if_pos (by omega),if_pos (by rw[Qh];omega)];rfl
 unfold JM;walk_at "ev";rw[Wo,f]
 cases hs:spL 32 l with
 | nil=>exact absurd hs (Jav 32 l)
 | cons w r =>
  rw[hs] at h2 h3;rw[Qh] at h2
  have c1:JbH (D.str (tx w)::r.map fun p=>D.str (tx p)) (some 1) none=r.map fun p=>D.str (tx p):=by unfold JbH;rw[HT.JfL,show(1:Int)=((1:Nat):Int) from rfl,HT.JhX];simp;exact Gw (by simp)
  rw[Qr];walk_at "ev";rw[a0',JiU];walk_at "ev";rw[JbI];unfold Vu
  by_cases hw:w=[114,111,119]
  ·rw[decide_eq_true hw];simp only[hw];walk_at "ev";rw[<- hw,c1];walk_at "ev";rw[UE (g:=stL) (fun p hp=>by walk_at "ev";rw[JiD p (h3 p (Qp _ hp))];walk_at "ev")]
   have ok:(r.map stL).all okN=true:=by rw[QS];intro d hd;obtain⟨p,_,rfl⟩:=Q4.mp hd;exact JkW p
   walk_at "ev"
   cases hn:(r.map stL).any D.isNon with
   | true=>rw[if_pos rfl];walk_at "ev"
   | false=>rw[if_neg (by decide)];walk_at "ev"
  ·rw[decide_eq_false hw];simp only[if_neg hw];walk_at "ev"

noncomputable def Yq:List (List Nat)->List Nat
 | []=>[]
 | [w]=>w
 | w::v::r=>w++32::Yq (v::r)
theorem JiB:∀ws:List (List Nat),Gh (tx [32]) (ws.map tx)=tx (Yq ws)
 | []=>rfl
 | [w]=>rfl
 | w::v::r=>by
  have ih:=JiB (v::r);rw[Qr] at ih ⊢;rw[Qr]
  show tx w++tx [32]++Gh (tx [32]) (tx v::r.map tx)=_;rw[ih,Ys,Ys];simp[Yq]
theorem Jib(a b:List Nat):spL 32 (a++32::b)=spL 32 a++spL 32 b:=by
 induction a with
 | nil=>simp[spL]
 | cons c r ih =>
  by_cases hc:c=32
  ·subst hc;rw[QU];simp only[spL,if_pos];rw[ih];rfl
  ·rw[QU];simp only[spL,if_neg hc];rw[ih]
   cases h:spL 32 r with
   | nil=>exact absurd h (Jav 32 r)
   | cons x y=>rfl
theorem Jaw:∀ws:List (List Nat),ws≠[]->spL 32 (Yq ws)=(ws.map (spL 32)).flatten
 | [],h=>absurd rfl h
 | [w],_=>by simp[Yq]
 | w::v::r,_=>by rw[Yq,Jib,Jaw (v::r) (by simp)];rfl
theorem JcJ{c:Nat}(hc:c≠32):∀ws:List (List Nat),(∀w∈ws,c∉w)->c∉Yq ws
 | [],_=>by simp[Yq]
 | [w],h=>h w (by simp)
 | w::v::r,h=>by
  rw[Yq,Q2,Qm];rintro(z|z|z)
  ·exact h w (by simp) z
  ·exact hc z
  ·exact JcJ hc (v::r) (fun x hx=>h x (by simp only[Qm] at hx ⊢;exact .inr hx)) z
theorem join_len:∀(ws:List (List Nat)) (n:Nat),(∀w∈ws,w.length<=n)->(Yq ws).length<=ws.length*(n+1)
 | [],n,_=>by simp[Yq]
 | [w],n,h=>by have:=h w (by simp);simp[Yq];omega
 | w::v::r,n,h=>by
  have:=h w (by simp)
  have ih:=join_len (v::r) n (fun x hx=>h x (by simp only[Qm] at hx ⊢;exact .inr hx));rw[Yq,Qu,Qh,Qh,Mt];rw[Qh] at ih ⊢;omega
noncomputable def NoR(ws:List (List Nat)):Prop:=Vu ((ws.map (spL 32)).flatten)=.non
noncomputable def Jei(w:List Nat):Bool:=(spL 32 w).any fun p=>(stL p).isNon
theorem JcQ{a b:List (List Nat)}{r w:List Nat}(h:Jei w=true)(hr:32∉r):NoR (r::(a++w::b)):=by
 unfold NoR Vu;rw[Qr,Ge,JfT hr];simp only[QU,Kz];split
 ·rw[if_pos ?_];rw[List.any_map,GD,Qr,List.flatten_append,Ge,LM,LM];have:(spL 32 w).any (D.isNon ∘ stL)=true:=h;rw[this];simp
 ·rfl
theorem Jff{a:List (List Nat)}{w:List Nat}(h:(spL 32 w).head?≠some [114,111,119]):NoR (w::a):=by
 unfold NoR Vu;rw[Qr,Ge]
 cases hs:spL 32 w with
 | nil=>exact absurd hs (Jav 32 w)
 | cons x y=>simp only[QU];rw[if_neg (fun z=>h (by rw[hs,z];rfl))]
theorem Jhh{a:List (List Nat)}{w:List Nat}{x:List Nat}{y:List (List Nat)}(hs:spL 32 w=x::y)(h:(y.any fun p=>(stL p).isNon)=true):NoR (w::a):=by
 unfold NoR Vu;rw[Qr,Ge,hs];simp only[QU];split
 ·rw[if_pos ?_];rw[List.any_map,LM];have:y.any (D.isNon ∘ stL)=true:=h;rw[this];rfl
 ·rfl

noncomputable def Bd(qs:List Pr):Prop:=qs.length<=31/\∀p∈qs,-(10 ^ 42)<=p.1/\p.1<=10 ^ 42/\0<=p.2/\p.2<=10 ^ 42
theorem Bd.fig{qs:List Pr}(b:Bd qs):∀p∈qs,Fig p/\0<=p.2:=fun p hp=>by obtain⟨h1,h2,h3,h4⟩:=b.2 p hp;unfold Fig;omega
theorem Bd.small{qs:List Pr}(b:Bd qs):∀p∈qs,Wp p:=fun p hp=>by
 obtain⟨h1,h2,h3,h4⟩:=b.2 p hp;have k:(10:Nat) ^ 42<2 ^ 1920:=by decide +kernel
 exact⟨Small.of (by omega),Small.of (by omega)⟩
theorem Bd.pairs(ns:List Int):Bd (UW ns):=⟨by have:=ZK ns;omega,fun p hp=>by have:=V6 ns p hp;omega⟩
theorem Je1{n k:Nat}(h:k<n):ixN n (k:Int)=some k:=by unfold ixN;rw[if_pos (by omega),if_pos (by omega)];simp
theorem Bd.pair{ps:List Pr}{q:Pr}(b:Bd ps)(hl:ps.length<=30)(hq:-(10 ^ 42)<=q.1/\q.1<=10 ^ 42/\0<=q.2/\q.2<=10 ^ 42)(k:Nat)(hk:k<=ps.length):Bd (Y2 ps k q):=by
 refine⟨by rw[WC _ _ _ hk];omega,fun p hp=>?_⟩;unfold Y2 at hp;rcases Q2.mp hp with z|z
 ·exact b.2 p (KP z)
 ·rcases Qm.mp z with y|y
  ·rw[y];exact hq
  ·exact b.2 p (KO y)
theorem JaY{α β:Type}(f:α->β)(xs:List α)(k:Nat)(x:α):Y2 (xs.map f) k (f x)=(Y2 xs k x).map f:=by unfold Y2;rw[GD,Qr,List.map_take,List.map_drop]
theorem Ji2(x y:D):atI [x,y] 0=some x:=rfl
theorem Jme(x y:D):atI [x,y] 1=some y:=rfl
theorem Zx(st:Int)(n:Nat)(hn:n<=31):UC (.nm 0) yes? (JaQ (aC (e2 JJ (Jc 1) (e2 JaT (eC (.int 2)) (Jc 0))) (aC (eC (.int 1)) a0))) [.no,.sh (.int st)] (rng 0 n)=some (((Gi n).map fun(i:Nat)=>(st+2*(i:Int),(1:Int))).map prE):=by
 rw[Kh];exact UE (f:=fun(i:Nat)=>D.int (0+(i:Int))) (g:=fun(i:Nat)=>prE (st+2*(i:Int),1)) fun i _=>by walk_at "ev";rw[Int.zero_add];rfl
theorem JjS(ps:List Pr)(b:Bd ps)(b2:∀p∈ps,-(10 ^ 40)<=p.1/\p.1<=2*10 ^ 40/\1<=p.2/\p.2<=10 ^ 30)(hl:ps.length<=30)(w c:Int)(hc:0<=c):∃qs:List Pr,Bd qs/\JA [.sh (.lst (ps.map prE)),.sh (.int w),.sh (.int c)]=some (.own (qs.map prE)):=by
 by_cases h0:ps=[]
 ·subst h0
  by_cases h3:w=3
  ·refine⟨(Gi 31).map fun(i:Nat)=>(0+2*(i:Int),1),⟨by simp,fun p hp=>?_⟩,?_⟩
   ·obtain⟨i,hi,rfl⟩:=Q4.mp hp;have:=K2.mp hi;dsimp only;omega
   ·have en:eqA (D.lst []) (D.lst [])=some true:=rfl;unfold JA;walk_at "ev";rw[decide_eq_false (show ¬w=1 by omega)];walk_at "ev";rw[decide_eq_false (show ¬w=2 by omega)];walk_at "ev";rw[decide_eq_true h3];walk_at "ev";rw[en];walk_at "ev";rw[show(31-(0:Int)).toNat=31 from rfl,Zx 0 31 (by decide),if_pos (by rw[show(rng 0 31).length=31 from rfl];decide)];walk_at "ev";rfl
  ·refine⟨[],b,?_⟩;have en:eqA (D.lst []) (D.lst [])=some true:=rfl;have d3:=decide_eq_false h3;unfold JA;walk_at "ev"
   by_cases h1:w=1
   ·rw[decide_eq_true h1,en];walk_at "ev";rw[decide_eq_false (show ¬w=2 by omega)];walk_at "ev";rw[d3];walk_at "ev"
   ·rw[decide_eq_false h1];walk_at "ev"
    by_cases h2:w=2
    ·rw[decide_eq_true h2,en];walk_at "ev";rw[d3];walk_at "ev"
    ·rw[decide_eq_false h2];walk_at "ev";rw[d3];walk_at "ev"
 ·have hpos:0<ps.length:=List.length_pos_iff.mpr h0
  have e1:eqA (D.lst (ps.map prE)) (D.lst [])=some false:=by rw[show(D.lst [])=D.lst (([]:List Pr).map prE) from rfl,Jeu,decide_eq_false h0]
  obtain⟨k,hk⟩:∃k:Nat,c % (ps.length:Int)=(k:Int):=⟨(c % (ps.length:Int)).toNat,by have:=Ga c (show(ps.length:Int)≠0 by omega);omega⟩
  have hk':k<ps.length:=by have:=Gb c (show 0<(ps.length:Int) by omega);omega
  have hg:atI (ps.map prE) (k:Int)=some (.tup [.int ps[k].1,.int ps[k].2]):=by rw[Yw,Ub hk'];rfl
  have hb:=b2 ps[k] (Gz hk')
  have hm:=Ga (c / 30) (show(3:Int)≠0 by decide)
  have hm2:=Gb (c / 30) (show(0:Int)<3 by decide)
  by_cases h1:w=1
  ·refine⟨ps.set k (ps[k].1,0),⟨by rw[Kx];omega,fun p hp=>?_⟩,?_⟩
   ·rcases Kl hp with z|z
    ·exact b.2 p z
    ·rw[z];dsimp only;omega
   ·unfold JA;walk_at "ev";rw[decide_eq_true h1,e1];walk_at "ev";rw[hk,hg];walk_at "ev";rw[Je1 hk',Ji2];walk_at "ev";rw[decide_eq_false (show ¬w=2 by omega)];walk_at "ev";rw[decide_eq_false (show ¬w=3 by omega)];walk_at "ev";rw[List.map_set];rfl
  ·by_cases h2:w=2
   ·refine⟨Y2 ps k (ps[k].1-1-c / 30 % 3,1+c / 30 % 3),b.pair hl (by dsimp only;omega) k (by omega),?_⟩;rw[<- JaY];unfold JA;walk_at "ev";rw[decide_eq_false h1];walk_at "ev";rw[decide_eq_true h2,e1];walk_at "ev";rw[hk,hg];walk_at "ev";rw[Ji2];walk_at "ev";rw[decide_eq_false (show ¬w=3 by omega)];walk_at "ev";rfl
   ·by_cases h3:w=3
    ·obtain⟨p,hp⟩:∃p,ps[ps.length-1]?=some p:=⟨ps[ps.length-1],GH (by omega)⟩
     have hb3:=b2 p (QQ hp);obtain⟨n,hn⟩:∃n:Nat,31-(ps.length:Int)=(n:Int):=⟨31-ps.length,by omega⟩
     have hlast:atI (ps.map prE) (-1)=some (.tup [.int p.1,.int p.2]):=by rw[Yw];unfold atI ixN;rw[if_neg (by omega),if_pos (by omega)];rw[show((-1+(ps.length:Int)).toNat)=ps.length-1 by omega];rw[QF,hp];rfl
     refine⟨ps++(Gi n).map fun(i:Nat)=>(p.1+p.2+1+2*(i:Int),1),⟨by rw[Qu,QB,Lg];omega,fun q hq=>?_⟩,?_⟩
     ·rcases Q2.mp hq with z|z
      ·exact b.2 q z
      ·obtain⟨i,hi,rfl⟩:=Q4.mp z;have:=K2.mp hi;dsimp only;omega
     ·unfold JA;walk_at "ev";rw[decide_eq_false h1];walk_at "ev";rw[decide_eq_false h2];walk_at "ev";rw[decide_eq_true h3];walk_at "ev";rw[e1];walk_at "ev";rw[hlast];walk_at "ev";rw[Ji2];walk_at "ev";rw[Jme];walk_at "ev";rw[hn,GY,Zx _ n (by omega),if_pos (by unfold rng;rw[QB,Lg];omega)];walk_at "ev";rw[show JJ (Sl.bo (ps.map prE)) (Sl.own (((Gi n).map fun(i:Nat)=>(p.1+p.2+1+2*(i:Int),(1:Int))).map prE))=_ from Y7 rfl rfl (by simp only[QB,Lg];omega)]
      walk_at "ev";rw[GD]
    ·refine⟨ps,b,?_⟩;unfold JA;walk_at "ev";rw[decide_eq_false h1];walk_at "ev";rw[decide_eq_false h2];walk_at "ev";rw[decide_eq_false h3];walk_at "ev"

noncomputable def bt(k:Int):Xm:=⟨Qe "BadText",some k⟩
theorem JiK(l:List Nat)(h:10∉l):JL [.sh (.str (tx l))]=none/\JU [.sh (.str (tx l))]=some (bt 1):=by
 have f:=Z8 l 10;rw[if_neg h] at f;constructor
 ·unfold JL;walk_at "ev";rw[Wd,f];walk_at "ev";rw[show decide ((-1:Int)<0)=true from rfl];rfl
 ·unfold JU Ud;simp only[Yv,Uc];walk_at "ev";rw[Wd,f];walk_at "ev";simp only[U1];walk_at "ev";rw[show decide ((-1:Int)<0)=true from rfl];rfl
noncomputable def JbD(pre rest:List Nat):Prop:=10∉pre/\pre.length<=1000000/\rest.length<=1000000/\(spL 32 pre).length<=1000000/\∀w∈spL 32 pre,w.length<=600
section
variable{pre rest:List Nat}
theorem Jb7(o:JbD pre rest):UF (tx (pre++10::rest)) [.sh (.str (tx [10]))]=some (.sh (.int (pre.length:Int)))/\Gq (tx (pre++10::rest)) none (some (pre.length:Int))=tx pre/\(tx (pre++10::rest)).length=pre.length+1+rest.length/\decide ((pre.length:Int)<0)=false/\JM [.sh (.str (tx pre))]=some (.sh (Vu (spL 32 pre))):=by
 obtain⟨h1,h2,h3,h4,h5⟩:=o;obtain⟨i1,i2⟩:=JcE (b:=rest) h1;refine⟨?_,?_,?_,decide_eq_false (by omega),JjT pre (by omega) (by omega) h5⟩
 ·have z:=Z8 (pre++10::rest) 10;rw[if_pos i2,i1] at z;exact z
 ·rw[Jdd _ _ (by rw[Qu];omega),L8]
 ·rw[JQ,Qu,Qh];omega
theorem Jb5(o:JbD pre rest)(h:Vu (spL 32 pre)=.non):JL [.sh (.str (tx (pre++10::rest)))]=none/\JU [.sh (.str (tx (pre++10::rest)))]=some (bt 1):=by
 obtain⟨f,s1,tl,d0,m⟩:=Jb7 o;have h2:=o.2.1;have h3:=o.2.2.1;rw[h] at m;constructor
 ·unfold JL;walk_at "ev";rw[Wd,f];walk_at "ev";rw[d0];walk_at "ev";rw[s1,m];walk_at "ev";rfl
 ·unfold JU Ud;simp only[Yv,Uc];walk_at "ev";rw[Wd,f];walk_at "ev";simp only[U1];walk_at "ev";rw[d0];walk_at "ev";rw[s1,m];walk_at "ev";rfl
theorem JhO{ds:List D}(o:JbD pre rest)(h:Vu (spL 32 pre)=.lst ds)(hr:rest≠[]):JL [.sh (.str (tx (pre++10::rest)))]=none/\JU [.sh (.str (tx (pre++10::rest)))]=some (bt 2):=by
 obtain⟨f,s1,tl,d0,m⟩:=Jb7 o;have h2:=o.2.1;have h3:=o.2.2.1;have hp:=List.length_pos_iff.mpr hr;rw[h] at m;have d1:decide ((pre.length:Int)+1<((pre.length+1+rest.length:Nat):Int))=true:=decide_eq_true (by omega);constructor
 ·unfold JL;walk_at "ev";rw[Wd,f];walk_at "ev";rw[d0];walk_at "ev";rw[s1,m];walk_at "ev";rw[tl,d1];rfl
 ·unfold JU Ud;simp only[Yv,Uc];walk_at "ev";rw[Wd,f];walk_at "ev";simp only[U1];walk_at "ev";rw[d0];walk_at "ev";rw[s1,m];walk_at "ev";rw[tl,d1];rfl
theorem rd_row{ps:List Pr}(o:JbD pre [])(h:Vu (spL 32 pre)=.lst (ps.map prE)):(Good ps/\ps.length<=30->JL [.sh (.str (tx (pre++[10])))]=some (.sh (.row (ps.map prE)))) ∧
 (¬(Good ps/\ps.length<=30)->JL [.sh (.str (tx (pre++[10])))]=none/\JU [.sh (.str (tx (pre++[10])))]=Yc [.no,.sh (.lst (ps.map prE))]):=by
 obtain⟨f,s1,tl,d0,m⟩:=Jb7 o;have h2:=o.2.1;rw[h] at m;rw[KA,Nat.add_zero] at tl;have d1:decide ((pre.length:Int)+1<((pre.length+1:Nat):Int))=false:=decide_eq_false (by omega);refine⟨fun⟨g,hl⟩=>?_,fun hg=>⟨?_,?_⟩⟩
 ·unfold JL;walk_at "ev";rw[Wd,f];walk_at "ev";rw[d0];walk_at "ev";rw[s1,m];walk_at "ev";rw[tl,d1];walk_at "ev";rw[JgU (s:=.sh (.lst (ps.map prE))) rfl g hl];walk_at "ev"
 ·unfold JL;walk_at "ev";rw[Wd,f];walk_at "ev";rw[d0];walk_at "ev";rw[s1,m];walk_at "ev";rw[tl,d1];walk_at "ev";rw[JfJ _ ps rfl hg];rfl
 ·unfold JU Ud;simp only[Yv,Uc];walk_at "ev";rw[Wd,f];walk_at "ev";simp only[U1];walk_at "ev";rw[d0];walk_at "ev";rw[s1,m];walk_at "ev";rw[tl,d1];walk_at "ev";unfold Jji;walk_at "ev";rfl
end

noncomputable def dT(w:String)(d:D):D:=.lst [.str (Qe w),d]
theorem Jcy(t:Str)(k:Int)(h1:JL [.sh (.str t)]=none)(h2:JU [.sh (.str t)]=some (bt k)):JY [.sh (.str t)]=some (.own [.str (Qe "text"),.int k]):=by
 have tr:JbC [Qe "BadRow",Qe "BadText",Qe "TooMany"] 2 (VA (eU 1 JL (aC (Jc 0) a0))) (exU 1 JU (aC (Jc 0) a0)) (Jo 1 (Jc 2)) [.sh (.str t),.sh .non,.no]=some (.nx [.sh (.str t),.sh (.exc (bt k)),.no]):=by
  have a:VA (eU 1 JL (aC (Jc 0) a0)) [.sh (.str t),.sh .non,.no]=none:=by walk_at "ev";rw[h1];rfl
  have b:exU 1 JU (aC (Jc 0) a0) [.sh (.str t),.sh .non,.no]=some (bt k):=by unfold exU;walk_at "ev";rw[h2]
  unfold JbC;rw[a,b];rfl
 show(Jn (Jo 1 (eC .non)) (Jn _ _) [.sh (.str t),.no,.no]).bind Zh=_;rw[Jn,show Jo 1 (eC .non) _=some (.nx [.sh (.str t),.sh .non,.no]) from rfl,QF,U0];rw[Jn,tr,QF,U0];rfl
theorem Jjq(t:Str)(h1:JL [.sh (.str t)]=none)(h2:JU [.sh (.str t)]=some ⟨Qe "BadRow",none⟩):JY [.sh (.str t)]=some (.own [.str (Qe "row"),.non]):=by
 have a:VA (eU 1 JL (aC (Jc 0) a0)) [.sh (.str t),.sh .non,.no]=none:=by walk_at "ev";rw[h1];rfl
 have b:exU 1 JU (aC (Jc 0) a0) [.sh (.str t),.sh .non,.no]=some ⟨Qe "BadRow",none⟩:=by unfold exU;walk_at "ev";rw[h2]
 show(Jn (Jo 1 (eC .non)) (Jn _ _) [.sh (.str t),.no,.no]).bind Zh=_;rw[Jn,show Jo 1 (eC .non) _=some (.nx [.sh (.str t),.sh .non,.no]) from rfl,QF,U0];rw[Jn,JbC,a,b];rfl
theorem JgY(t:Str)(h1:JL [.sh (.str t)]=none)(h2:JU [.sh (.str t)]=some ⟨Qe "TooMany",none⟩):JY [.sh (.str t)]=some (.own [.str (Qe "many"),.non]):=by
 have a:VA (eU 1 JL (aC (Jc 0) a0)) [.sh (.str t),.sh .non,.no]=none:=by walk_at "ev";rw[h1];rfl
 have b:exU 1 JU (aC (Jc 0) a0) [.sh (.str t),.sh .non,.no]=some ⟨Qe "TooMany",none⟩:=by unfold exU;walk_at "ev";rw[h2]
 show(Jn (Jo 1 (eC .non)) (Jn _ _) [.sh (.str t),.no,.no]).bind Zh=_;rw[Jn,show Jo 1 (eC .non) _=some (.nx [.sh (.str t),.sh .non,.no]) from rfl,QF,U0];rw[Jn,JbC,a,b];rfl
theorem JgX(t:Str)(ds:List D)(h1:JL [.sh (.str t)]=some (.sh (.row ds))):JY [.sh (.str t)]=some (.own [.str (Qe "made"),.non]):=by
 have a:VA (eU 1 JL (aC (Jc 0) a0)) [.sh (.str t),.sh .non,.no]=some (.nx [.sh (.str t),.sh .non,.no]):=by walk_at "ev";rw[h1];walk_at "ev"
 show(Jn (Jo 1 (eC .non)) (Jn _ _) [.sh (.str t),.no,.no]).bind Zh=_;rw[Jn,show Jo 1 (eC .non) _=some (.nx [.sh (.str t),.sh .non,.no]) from rfl,QF,U0];rw[Jn,JbC,a];rfl

noncomputable abbrev duP:Pt:=(.tp (.cons (.nm 2) (.cons (.nm 3) .nil)))
noncomputable abbrev duB:Es:=(Jn (xIf (tOr? (tB? (e2 fLt (Jc 3) (eC (.int 1)))) (tAnd? (tB? (e2 YV (Jc 1) (eC .non))) (tB? (e2 fLe (Jc 2) (Jc 1))))) (Yy (Yg (aC (eC (.str "row")) (aC (eC .non) a0)))) JD) (Jo 1 (e2 JJ (Jc 2) (Jc 3))))
theorem Ww(x:Sl):∀(ps:List Pr) (b:Option Int) (j2 j3:Sl),(Ux b ps=true->Y1 duP duB (ps.map prE) [x,.sh (bhD b),j2,j3]=some (.rt (.own [.str (Qe "row"),.non]))) ∧
 (Ux b ps=false->∃e k2 k3,Y1 duP duB (ps.map prE) [x,.sh (bhD b),j2,j3]=some (.nx [x,e,k2,k3]))
 | [],b,j2,j3=>⟨fun h=>by(cases h),fun _=>⟨_,_,_,rfl⟩⟩
 | p::r,b,j2,j3=>by
  obtain⟨i1,i2⟩:=Ww x r (some (p.1+p.2)) (.sh (.int p.1)) (.sh (.int p.2));simp only[bhD] at i1 i2;rw[Ux,Qr,Y1];simp only[prE];unfold duB;walk_at "ev"
  by_cases c:p.2<1
  ·rw[decide_eq_true c];walk_at "ev";exact⟨fun _=>trivial,fun h=>by simp at h⟩
  ·rw[decide_eq_false c]
   cases b with
   | none=>simp only[bhD,leB];walk_at "ev";exact⟨i1,i2⟩
   | some e =>
    simp only[bhD,leB];walk_at "ev"
    by_cases c2:p.1<=e
    ·rw[decide_eq_true c2];walk_at "ev";exact⟨fun _=>trivial,fun h=>by simp at h⟩
    ·rw[decide_eq_false c2];walk_at "ev";exact⟨i1,i2⟩
theorem JcD:∀{ps:List Pr} {b:Option Int},Good ps->(∀e p,b=some e->ps[0]?=some p->e<p.1)->Ux b ps=false
 | [],_,_,_=>rfl
 | p::r,b,g,h=>by
  have h1:=g.one 0 p rfl
  have i:=JcD (b:=some (p.1+p.2)) (Good.cons' g) fun e q he hq=>by cases he;exact g.gap 0 p q rfl (by simpa using hq)
  rw[Ux,i,decide_eq_false (by omega)]
  cases b with
  | none=>rfl
  | some e=>have:=h e p rfl rfl;simp only[leB];rw[decide_eq_false (by omega)];rfl
theorem Jes(ps:List Pr)(h:30<ps.length)(h2:ps.length<=1000):J6 [.sh (.lst (ps.map prE))]=some (.own [.str (Qe "many"),.non]):=by unfold J6;walk_at "ev";rw[decide_eq_true (show(30:Int)<(ps.length:Int) by omega)];walk_at "ev"
theorem Jgr(ps:List Pr)(h:ps.length<=30)(b:Ux none ps=true):J6 [.sh (.lst (ps.map prE))]=some (.own [.str (Qe "row"),.non]):=by have d:=(Ww (.sh (.lst (ps.map prE))) ps none .no .no).1 b;unfold J6;walk_at "ev";rw[decide_eq_false (show ¬(30:Int)<(ps.length:Int) by omega)];walk_at "ev";rw[show Y1 (Pt.tp (Pts.cons (Pt.nm 2) (Pts.cons (Pt.nm 3) Pts.nil))) _ (ps.map prE) [.sh (.lst (ps.map prE)),.sh .non,.no,.no]=_ from d];walk_at "ev"
theorem Jer(ps:List Pr)(h:ps.length<=30)(g:Good ps):J6 [.sh (.lst (ps.map prE))]=some (.own [.str (Qe "made"),.non]):=by obtain⟨e,k2,k3,d⟩:=(Ww (.sh (.lst (ps.map prE))) ps none .no .no).2 (JcD g fun _ _ h=>by cases h);unfold J6;walk_at "ev";rw[decide_eq_false (show ¬(30:Int)<(ps.length:Int) by omega)];walk_at "ev";rw[show Y1 (Pt.tp (Pts.cons (Pt.nm 2) (Pts.cons (Pt.nm 3) Pts.nil))) _ (ps.map prE) [.sh (.lst (ps.map prE)),.sh .non,.no,.no]=_ from d];walk_at "ev"

noncomputable def zz:List Nat:=QK 200 48
noncomputable def zA:List Nat:=49::zz
noncomputable def zB:List Nat:=zA++[43,49]
noncomputable def zC:List Nat:=53::43::49::zz
noncomputable def menuL:List (List Nat):=[[53],[53,43],[43,53],[53,43,45,49],[53,43,43,49],[48,53,43,49],[53,43,48,49],[45,48,43,49],[53,43,49,43],[],[97,43,49],[53,43,98],[53,32,43,49],[43,53,43,49],[45,45,53,43,49],[53,45,49],[49,95,48,43,49],[53,43,49,95,48],[53,46,48,43,49]]++[zB,zC,[53,43,32,49]]
theorem Jfe:menuL.all (fun w=>Jei w && decide (w.length<=210) && !w.contains 10)=true:=by decide +kernel
theorem JmI:JaV (.sh (.str (Qe "0"))) (.sh (.int 200))=some (.sh (.str (tx zz))):=by show(if (1:Int)<=200/\(200:Int)<=16777216/\(Qe "0").length*(200:Int).toNat<=16777216 then some (Sl.sh (.str (Zm (Qe "0") (200:Int).toNat))) else none)=_;rw[if_pos (by rw[show(Qe "0").length=1 by decide +kernel];decide)];rw[show Zm (Qe "0") (200:Int).toNat=tx zz by decide +kernel]
theorem z1:JJ (.sh (.str (Qe "1"))) (.sh (.str (tx zz)))=some (.sh (.str (tx zA))):=by rw[show Qe "1"=tx [49] by decide +kernel,Wg (by rw[JQ,JQ];decide +kernel),Ys];rfl
theorem z2:JJ (.sh (.str (tx zA))) (.sh (.str (Qe "+1")))=some (.sh (.str (tx zB))):=by rw[show Qe "+1"=tx [43,49] by decide +kernel,Wg (by rw[JQ,JQ];decide +kernel),Ys];rfl
theorem z3:JJ (.sh (.str (Qe "5+1"))) (.sh (.str (tx zz)))=some (.sh (.str (tx zC))):=by rw[show Qe "5+1"=tx [53,43,49] by decide +kernel,Wg (by rw[JQ,JQ];decide +kernel),Ys];rfl
theorem Jhb:[Qe "5",Qe "5+",Qe "+5",Qe "5+-1",Qe "5++1",Qe "05+1",Qe "5+01",Qe "-0+1",Qe "5+1+",Qe "",Qe "a+1",Qe "5+b",Qe "5 +1",Qe "+5+1",Qe "--5+1",
 Qe "5-1",Qe "1_0+1",Qe "5+1_0",Qe "5.0+1",tx zB,tx zC,Qe "5+ 1"]=menuL.map tx:=by decide +kernel
theorem Jg9(c:Int):∃w∈menuL,J2 [.sh (.int c)]=some (.sh (.str (tx w))):=by
 have hk:=Ga c (show(22:Int)≠0 by decide)
 have hk2:=Gb c (show(0:Int)<22 by decide);obtain⟨k,hk3⟩:∃k:Nat,c % 22=(k:Int):=⟨(c % 22).toNat,by omega⟩
 have hl:menuL.length=22:=by decide +kernel
 have hk4:k<menuL.length:=by omega
 refine⟨menuL[k],Gz hk4,?_⟩
 have hat:atI ((menuL.map tx).map D.str) (k:Int)=some (.str (tx menuL[k])):=by rw[Yw,Yw,Ub hk4];rfl
 rw[<- Jhb] at hat;simp only[Qr,GF] at hat;unfold J2;walk_at "ev";rw[JmI];walk_at "ev";rw[z1];walk_at "ev";rw[z2];walk_at "ev";rw[z3];walk_at "ev";rw[show c % ((22:Nat):Int)=(k:Int) from hk3,hat];walk_at "ev"

theorem Jhc{w:List Nat}(h:w∈menuL):Jei w=true/\w.length<=210/\10∉w:=by have:=QS.mp Jfe w h;simp only[Qz,decide_eq_true_eq,KF,List.contains_eq_mem,decide_eq_false_iff_not] at this;exact⟨this.1.1,this.1.2,this.2⟩
noncomputable def firstL:List (List Nat):=[[],[82,111,119],[114,111,119,115],[114,111],[32,114,111,119],[114,111,119,43],[114,111,119,32,49,43]]
theorem JeL:[Qe "",Qe "Row",Qe "rows",Qe "ro",Qe " row",Qe "row+",Qe "row 1+"]=firstL.map tx:=by decide +kernel
theorem JdA{w:List Nat}(h:w∈firstL)(a:List (List Nat)):NoR (w::a)/\w.length<=210/\10∉w:=by
 have k:∀v∈firstL,((spL 32 v).head?≠some [114,111,119]\/∃y,spL 32 v=[114,111,119]::y/\(y.any fun p=>(stL p).isNon)=true)/\v.length<=210/\10∉v:=by
  intro v hv;simp only[firstL,Qm,Lv,or_false] at hv;rcases hv with rfl|rfl|rfl|rfl|rfl|rfl|rfl
  ·exact⟨.inl (by decide +kernel),by decide,by decide⟩
  ·exact⟨.inl (by decide +kernel),by decide,by decide⟩
  ·exact⟨.inl (by decide +kernel),by decide,by decide⟩
  ·exact⟨.inl (by decide +kernel),by decide,by decide⟩
  ·exact⟨.inl (by decide +kernel),by decide,by decide⟩
  ·exact⟨.inl (by decide +kernel),by decide,by decide⟩
  ·exact⟨.inr ⟨[[49,43]],by decide +kernel,by decide +kernel⟩,by decide,by decide⟩
 obtain⟨h1,h2,h3⟩:=k w h;refine⟨?_,h2,h3⟩;rcases h1 with h1|⟨y,h1,h4⟩
 ·exact Jff h1
 ·exact Jhh h1 h4
noncomputable def Yz(ps:List Pr):List (List Nat):=[114,111,119]::ps.map JT
noncomputable def SpW(ws:List (List Nat)):Prop:=ws≠[]/\ws.length<=40/\NoR ws/\∀w∈ws,w.length<=500/\10∉w
theorem Vz{ps:List Pr}(b:Bd ps):(Yz ps).length<=32/\∀w∈Yz ps,w.length<=500/\10∉w:=by
 refine⟨by unfold Yz;rw[Qh,QB];have:=b.1;omega,fun w hw=>?_⟩;rcases Qm.mp hw with z|z
 ·rw[z];decide
 ·obtain⟨p,hp,rfl⟩:=Q4.mp z;exact⟨by have:=Vy (b.fig p hp).1;omega,JaF (by decide) (by decide) (by decide)⟩
theorem Jfd{α:Type}{xs:List α}{k:Nat}{x y:α}(h:y∈Y2 xs k x):y∈xs\/y=x:=by
 unfold Y2 at h;rcases Q2.mp h with z|z
 ·exact .inl (KP z)
 ·rcases Qm.mp z with z|z
  ·exact .inr z
  ·exact .inl (KO z)
theorem Jcc{ps:List Pr}(b:Bd ps){w:List Nat}(h:Jei w=true)(h2:w.length<=500)(h3:10∉w)(k:Nat)(hk:1<=k)(hk2:k<=(Yz ps).length):SpW (Y2 (Yz ps) k w):=by
 obtain⟨o1,o2⟩:=Vz b;obtain⟨j,rfl⟩:∃j,k=j+1:=⟨k-1,by omega⟩
 refine⟨by unfold Y2;simp,by rw[WC _ _ _ hk2];omega,?_,fun v hv=>?_⟩
 ·show NoR ([114,111,119]::((ps.map JT).take j++w::(ps.map JT).drop j));exact JcQ h (by decide)
 ·rcases Jfd hv with z|z
  ·exact o2 v z
  ·rw[z];exact⟨h2,h3⟩
theorem JkV{ps:List Pr}(b:Bd ps){w:List Nat}(h:Jei w=true)(h2:w.length<=500)(h3:10∉w)(k:Nat)(hk:1<=k)(hk2:k<(Yz ps).length):SpW ((Yz ps).set k w):=by
 obtain⟨o1,o2⟩:=Vz b;obtain⟨j,rfl⟩:∃j,k=j+1:=⟨k-1,by omega⟩
 refine⟨by unfold Yz;simp,by rw[Kx];omega,?_,fun v hv=>?_⟩
 ·show NoR ([114,111,119]::(ps.map JT).set j w)
  have hj:j<(ps.map JT).length:=by unfold Yz at hk2;rw[Qh] at hk2;omega
  rw[List.set_eq_take_append_cons_drop,if_pos hj];exact JcQ h (by decide)
 ·rcases Kl hv with z|z
  ·exact o2 v z
  ·rw[z];exact⟨h2,h3⟩
theorem JfV{ps:List Pr}(b:Bd ps){w:List Nat}(h:w∈firstL):SpW ((Yz ps).set 0 w):=by
 obtain⟨o1,o2⟩:=Vz b;obtain⟨n1,n2,n3⟩:=JdA h (ps.map JT);refine⟨by unfold Yz;simp,by rw[Kx];omega,n1,fun v hv=>?_⟩;rcases Kl hv with z|z
 ·exact o2 v z
 ·rw[z];exact⟨by omega,n3⟩
theorem SpW.ok{ws:List (List Nat)}(s:SpW ws)(rest:List Nat)(hr:rest.length<=1000000):JbD (Yq ws) rest/\Vu (spL 32 (Yq ws))=.non:=by
 obtain⟨h1,h2,h3,h4⟩:=s;have jl:=join_len ws 500 fun w hw=>(h4 w hw).1
 have hsz:∀l:List Nat,(spL 32 l).length<=l.length+1/\∀w∈spL 32 l,w.length<=l.length:=by
  intro l
  induction l with
  | nil=>simp[spL]
  | cons c r ih =>
   unfold spL;split
   ·refine⟨by rw[Qh,Qh];omega,fun w hw=>?_⟩;rcases Qm.mp hw with z|z
    ·rw[z];simp
    ·have:=ih.2 w z;rw[Qh];omega
   ·cases hs:spL 32 r with
    | nil=>exact absurd hs (Jav 32 r)
    | cons p q =>
     rw[hs] at ih;refine⟨by simp only[Qh] at ih ⊢;omega,fun w hw=>?_⟩;rcases Qm.mp hw with z|z
     ·rw[z,Qh,Qh];have:=ih.2 p (by simp);omega
     ·have:=ih.2 w (by simp only[Qm];exact .inr z);rw[Qh];omega
 refine⟨⟨JcJ (by decide) ws fun w hw=>(h4 w hw).2,?_,hr,?_,fun w hw=>?_⟩,by rw[Jaw ws h1];exact h3⟩
 ·have:ws.length*(500+1)<=40*501:=Nat.mul_le_mul_right _ h2;omega
 ·have:=(hsz (Yq ws)).1
  have:ws.length*(500+1)<=40*501:=Nat.mul_le_mul_right _ h2;omega
 ·rw[Jaw ws h1] at hw;obtain⟨l,hl,hw⟩:=List.mem_flatten.mp hw;obtain⟨v,hv,rfl⟩:=Q4.mp hl;have:=(hsz v).2 w hw;have:=(h4 v hv).1;omega

theorem Jdc(l:List Nat)(c:Nat):Gq (tx (l++[c])) none (some (-1))=tx l:=by
 have i:G2 none (some (-1)) 1 (tx (l++[c])).length=G2 none (some (l.length:Int)) 1 (tx (l++[c])).length:=by unfold G2;rw[JQ,Qu,GS];dsimp only;rw[if_pos (show(-1:Int)<0 by decide),if_neg (show ¬(l.length:Int)<0 by omega),show(-1:Int)+((l.length+1:Nat):Int)=(l.length:Int) by omega]
 have e:Gq (tx (l++[c])) none (some (-1))=Gq (tx (l++[c])) none (some (l.length:Int)):=by unfold Gq;rw[i]
 rw[e,Jdd _ _ (by rw[Qu];omega),L8]
noncomputable def wD(w:List Nat):D:=.str (tx w)
theorem JfW{ps:List Pr}(b:Bd ps):eM Uk (VD (eU 1 J0 (aC (Jc 0) a0)) none (some (LE.e1 Zi (eC (.int 1))))) (aC (eC (.str (Qe " "))) a0) [.sh (.lst (ps.map prE)),w,c,.no,.no]=some (.own ((Yz ps).map wD)):=by
 have hl:ps.length<=31:=b.1
 have m:=Jfb ps (by omega) b.small
 have tl:=JaC fun p hp=>(b.fig p hp).1
 have rl:(YS ps).length<=20000:=by unfold YS;rw[Qu];have:404*ps.length<=404*31:=KS _ hl;show 3+_<=_;omega
 have ln:(tx (YS ps++[10])).length<=20001:=by rw[JQ,Qu];show _+1<=_;omega
 have f:=JfX (YS ps) 32 (by decide) (by omega) (by rw[VU ps,Qh,QB];omega);rw[VU] at f;walk_at "ev";rw[m,Jdl];walk_at "ev";rw[Jdc,Wo,f];rfl
theorem Ja0{ws:List (List Nat)}(s:SpW ws):U4 (Qe " ") [.bo (ws.map wD)]=some (.sh (.str (tx (Yq ws)))):=by
 have e:(Sl.bo (ws.map wD)).r=some ((ws.map tx).map D.str):=by rw[Kh];rfl
 rw[Wo,ZD e,JiB];rw[Kh,QB]
 have:((ws.map ((·.length) ∘ tx)).sum)<=(ws.map ((·.length) ∘ tx)).length*500:=JfZ fun x hx=>by obtain⟨w,hw,rfl⟩:=Q4.mp hx;show(tx w).length<=500;rw[JQ];exact(s.2.2.2 w hw).1
 rw[QB] at this;have h:=s.2.1;have l1:(tx [32]).length=1:=rfl;rw[l1];omega
theorem Za(ws:List (List Nat))(k:Nat)(w:List Nat):(ws.map wD).set k (.str (tx w))=(ws.set k w).map wD:=by rw[List.map_set];rfl
theorem Vd(ws:List (List Nat))(k:Nat)(w:List Nat):Y2 (ws.map wD) k (.str (tx w))=(Y2 ws k w).map wD:=JaY wD ws k w
theorem JlH{ps:List Pr}(b:Bd ps)(w c:Int)(hw:1<=w/\w<=4)(hc:0<=c):∃ws,SpW ws/\Yh [.sh (.lst (ps.map prE)),.sh (.int w),.sh (.int c)]=some (.sh (.str (tx (Yq ws)))):=by
 obtain⟨o1,o2⟩:=Vz b;have hlen:(Yz ps).length=ps.length+1:=by unfold Yz;rw[Qh,QB]
 have hb:=b.1
 have hp:(0:Int)<(((Yz ps).length:Nat):Int):=by omega
 obtain⟨k,hk⟩:∃k:Nat,c / 32 % ((Yz ps).length:Int)=(k:Int):=⟨(c / 32 % ((Yz ps).length:Int)).toNat,by have:=Ga (c / 32) (Int.ne_of_gt hp);omega⟩
 have hk':k<(Yz ps).length:=by have:=Gb (c / 32) hp;omega
 obtain⟨v,hv,ev⟩:=Jg9 c;obtain⟨v1,v2,v3⟩:=Jhc hv;have sp:=JfW (w:=.sh (.int w)) (c:=.sh (.int c)) b;have go:∀r,(Jn (We 3 (eM Uk (VD (eU 1 J0 (aC (Jc 0) a0)) none (some (LE.e1 Zi (eC (.int 1))))) (aC (eC (.str (Qe " "))) a0))) (Jn (Jo 4 (e2 JJ (eC (.int 1)) (e2 J9 (e2 Ue (Jc 2) (eC (.int 32))) (eF YI (aC (Jc 3) a0))))) (Jn (xIf (tB? (e2 fEq (Jc 1) (eC (.int 1)))) (JbA 3 (Jc 4) (eU 1 J2 (aC (Jc 2) a0))) JD) (Jn (xIf (tB? (e2 fEq (Jc 1) (eC (.int 2)))) (UU 3 (eC (.int 0)) (e2 fIx (Yg (Y4 ["","Row","rows","ro"," row","row+","row 1+"] a0)) (e2 J9 (Jc 2) (eC (.int 7))))) JD) (Jn (xIf (tB? (e2 fEq (Jc 1) (eC (.int 3)))) (JbA 3 (Jc 4) (eC (.str ""))) JD) (Jn (xIf (tAnd? (tB? (e2 fEq (Jc 1) (eC (.int 4)))) (tB? (e2 fGt (eF YI (aC (Jc 3) a0)) (eC (.int 1))))) (UU 3 (e2 JJ (eC (.int 1)) (e2 J9 (e2 Ue (Jc 2) (eC (.int 32))) (e2 JbJ (eF YI (aC (Jc 3) a0)) (eC (.int 1))))) (eU 1 J2 (aC (Jc 2) a0))) (xIf (tB? (e2 fEq (Jc 1) (eC (.int 4)))) (Jeb 3 (eU 1 J2 (aC (Jc 2) a0))) JD)) (Yy (eM U4 (eC (.str " ")) (aC (Jc 3) a0)))))))) [.sh (.lst (ps.map prE)),.sh (.int w),.sh (.int c),.no,.no]).bind Zh=r->Yh [.sh (.lst (ps.map prE)),.sh (.int w),.sh (.int c)]=r:=fun r h=>h
 rcases(show w=1\/w=2\/w=3\/w=4 by omega) with h|h|h|h
 ·have S:=Jcc b v1 (by omega) v3 (1+k) (by omega) (by omega);refine⟨_,S,go _ ?_⟩
  have jn:=Ja0 S;rw[Jn,We,sp];walk_at "ev";rw[hk,decide_eq_true h];walk_at "ev";rw[ev];walk_at "ev";rw[decide_eq_false (show ¬w=2 by omega)];walk_at "ev";rw[decide_eq_false (show ¬w=3 by omega)];walk_at "ev";rw[decide_eq_false (show ¬w=4 by omega)];walk_at "ev";rw[show(1+(k:Int)).toNat=1+k by omega,Vd,jn];walk_at "ev"
 ·obtain⟨j,hj⟩:∃j:Nat,c % 7=(j:Int):=⟨(c % 7).toNat,by omega⟩
  have hj':j<firstL.length:=by show j<7;omega
  have hat:atI ((firstL.map tx).map D.str) (j:Int)=some (.str (tx firstL[j])):=by rw[Yw,Yw,Ub hj'];rfl
  rw[<- JeL] at hat;simp only[Qr,GF] at hat;have S:=JfV b (Gz hj');refine⟨_,S,go _ ?_⟩;have jn:=Ja0 S;have ix:=Je1 (n:=(Yz ps).length) (k:=0) (by omega);rw[Jn,We,sp];walk_at "ev";rw[decide_eq_false (show ¬w=1 by omega)];walk_at "ev";rw[decide_eq_true h];walk_at "ev";rw[hj,hat];walk_at "ev";rw[show ixN (Yz ps).length 0=some 0 from ix];walk_at "ev";rw[decide_eq_false (show ¬w=3 by omega)];walk_at "ev"
  rw[decide_eq_false (show ¬w=4 by omega)];walk_at "ev";rw[Za,jn];walk_at "ev"
 ·have S:=Jcc b (w:=[]) (by decide +kernel) (by decide) (by decide) (1+k) (by omega) (by omega);refine⟨_,S,go _ ?_⟩
  have jn:=Ja0 S;rw[Jn,We,sp];walk_at "ev";rw[decide_eq_false (show ¬w=1 by omega)];walk_at "ev";rw[decide_eq_false (show ¬w=2 by omega)];walk_at "ev";rw[hk,decide_eq_true h];walk_at "ev";rw[decide_eq_false (show ¬w=4 by omega)];walk_at "ev";rw[show(1+(k:Int)).toNat=1+k by omega,JfM,Vd,jn];walk_at "ev"
 ·by_cases h0:ps.length=0
  ·have hw1:(Yz ps).length=1:=by omega
   have S:=Jcc b v1 (by omega) v3 1 (by omega) (by omega);refine⟨_,S,go _ ?_⟩
   have jn:=Ja0 S
   have ap:(Yz ps).map wD++[D.str (tx v)]=(Y2 (Yz ps) 1 v).map wD:=by rw[<- Vd];unfold Y2;rw[Gw (by rw[QB];omega),KI (by rw[QB];omega)]
   rw[Jn,We,sp];walk_at "ev";rw[decide_eq_false (show ¬w=1 by omega)];walk_at "ev";rw[decide_eq_false (show ¬w=2 by omega)];walk_at "ev";rw[decide_eq_false (show ¬w=3 by omega)];walk_at "ev";rw[decide_eq_true h,decide_eq_false (show ¬(1:Int)<((Yz ps).length:Int) by omega)];walk_at "ev";rw[ev];walk_at "ev";rw[ap,jn];walk_at "ev"
  ·have hp2:(0:Int)<((Yz ps).length:Int)-1:=by omega
   obtain⟨j,hj⟩:∃j:Nat,c / 32 % (((Yz ps).length:Int)-1)=(j:Int):=⟨(c / 32 % (((Yz ps).length:Int)-1)).toNat,by have:=Ga (c / 32) (Int.ne_of_gt hp2);omega⟩
   have hj':1+j<(Yz ps).length:=by have:=Gb (c / 32) hp2;omega
   have S:=JkV b v1 (by omega) v3 (1+j) (by omega) hj';refine⟨_,S,go _ ?_⟩
   have jn:=Ja0 S
   have ix:=Je1 hj';rw[Jn,We,sp];walk_at "ev";rw[decide_eq_false (show ¬w=1 by omega)];walk_at "ev";rw[decide_eq_false (show ¬w=2 by omega)];walk_at "ev";rw[decide_eq_false (show ¬w=3 by omega)];walk_at "ev";rw[decide_eq_true h,decide_eq_true (show(1:Int)<((Yz ps).length:Int) by omega)];walk_at "ev";rw[ev];walk_at "ev";rw[hj,show(1+(j:Int))=((1+j:Nat):Int) by omega,ix];walk_at "ev";rw[Za,jn];walk_at "ev"

theorem Jdh{qs:List Pr}(b:Bd qs):Vu (Yz qs)=.lst (qs.map prE):=by
 have e:(qs.map JT).map stL=qs.map prE:=by rw[Kh];exact Kn fun p hp=>Jif p (b.fig p hp).1 (b.fig p hp).2
 show(if [114,111,119]=[114,111,119] then(if ((qs.map JT).map stL).any D.isNon=true then D.non else .lst ((qs.map JT).map stL)) else .non)=_;rw[if_pos rfl,e,if_neg];rw[Bool.not_eq_true,List.any_eq_false];intro d hd;obtain⟨p,_,rfl⟩:=Q4.mp hd;simp[prE,D.isNon]
theorem Jc9{qs:List Pr}(b:Bd qs):(YS qs).length<=20000:=by
 have hl:qs.length<=31:=b.1
 have tl:=JaC fun p hp=>(b.fig p hp).1
 unfold YS;rw[Qu];have:404*qs.length<=404*31:=KS _ hl;show 3+_<=_;omega
theorem Jb8{qs:List Pr}(b:Bd qs)(rest:List Nat)(hr:rest.length<=1000000):JbD (YS qs) rest:=by
 have hl:qs.length<=31:=b.1
 have rl:=Jc9 b;refine⟨fun hc=>?_,by omega,hr,by rw[VU,Qh,QB];omega,fun w hw=>?_⟩
 ·rcases Q2.mp hc with z|z
  ·revert z;decide
  ·exact JiR (by decide) (by decide) (by decide) (by decide) qs z
 ·rw[VU] at hw;have:=((Vz b).2 w hw).1;omega
noncomputable def Fd(t:List Nat)(d:D):Prop:=∃l,JY [.sh (.str (tx t))]=some (.own l)/\eqA (.lst l) d=some true
noncomputable def UB(k:Int):D:=.lst [.str (Qe "text"),.int k]
noncomputable def Ji8(w:Str):D:=.lst [.str w,.non]
theorem Jlq:eqA (.lst [.str (Qe "text"),.int 1]) (UB 1)=some true:=by decide +kernel
theorem Jlr:eqA (.lst [.str (Qe "text"),.int 2]) (UB 2)=some true:=by decide +kernel
theorem Jlu:eqA (.lst [.str (Qe "row"),.non]) (Ji8 (Qe "row"))=some true:=by decide +kernel
theorem Jlt:eqA (.lst [.str (Qe "many"),.non]) (Ji8 (Qe "many"))=some true:=by decide +kernel
theorem Jls:eqA (.lst [.str (Qe "made"),.non]) (Ji8 (Qe "made"))=some true:=by decide +kernel
theorem fd1{t:List Nat}(h:JL [.sh (.str (tx t))]=none/\JU [.sh (.str (tx t))]=some (bt 1)):Fd t (UB 1):=⟨_,Jcy _ 1 h.1 h.2,Jlq⟩
theorem fd2{t:List Nat}(h:JL [.sh (.str (tx t))]=none/\JU [.sh (.str (tx t))]=some (bt 2)):Fd t (UB 2):=⟨_,Jcy _ 2 h.1 h.2,Jlr⟩
theorem Ji9{qs:List Pr}(b:Bd qs):∃d,J6 [.sh (.lst (qs.map prE))]=some (.own d)/\Fd (YS qs++[10]) (.lst d):=by
 have hl:qs.length<=31:=b.1
 have o:=Jb8 b [] (by decide)
 have st:Vu (spL 32 (YS qs))=.lst (qs.map prE):=by rw[VU];exact Jdh b
 obtain⟨r1,r2⟩:=rd_row o st
 by_cases h30:30<qs.length
 ·obtain⟨q1,q2⟩:=r2 (fun z=>by omega);rw[Jlc qs h30] at q2;exact⟨_,Jes qs h30 (by omega),_,JgY _ q1 q2,Jlt⟩
 ·by_cases g:Good qs
  ·exact⟨_,Jer qs (by omega) g,_,JgX _ _ (r1 ⟨g,by omega⟩),Jls⟩
  ·obtain⟨q1,q2⟩:=r2 (fun z=>g z.1);rw[Jlb qs (Wq g) (by omega)] at q2;exact⟨_,Jgr qs (by omega) (Wq g),_,Jjq _ q1 q2,Jlu⟩
noncomputable def moreL:List (List Nat):=[[10],[114,111,119,10],[32],[120],[10,10],[114,111,119,32,49,43,49]]
theorem Jhd:[Qe "\n",Qe "row\n",Qe " ",Qe "x",Qe "\n\n",Qe "row 1+1"]=moreL.map tx:=by decide +kernel
theorem JcO{m:List Nat}(h:m∈moreL):m≠[]/\m.length<=10:=by
 have:∀m∈moreL,m≠[]/\m.length<=10:=by decide
 exact this m h
noncomputable def shrtL:List (List Nat):=[[],[32],[114,111,119]]
theorem Jh7:[Qe "",Qe " ",Qe "row"]=shrtL.map tx:=by decide +kernel
theorem Jju(ns:List Int):∃(qs:List Pr) (d:List D) (m:List Nat) (s2:Sl) (rest:Int),Bd qs/\m∈moreL/\0<=rest/\Fd (YS qs++[10]) (.lst d)/\∀T:Es,(Jn (Jo 1 (eU 1 Yn (aC (Jc 0) a0))) (Jn (Jo 2 (eF JeJ (aC (Jc 0) a0))) (Jn (Jo 1 (eU 3 JA (aC (Jc 1) (aC (e2 J9 (Jc 2) (eC (.int 4))) (aC (e2 J9 (e2 Ue (Jc 2) (eC (.int 4))) (e2 JaU (eC (.int 10)) (eC (.int 9)))) a0))))) (Jn (Jo 3 (eU 1 J6 (aC (Jc 1) a0))) (Jn (Jo 4 (e2 J9 (eU 2 JO (aC (Jc 0) (aC (eC (.int 1)) a0))) (e2 JaU (eC (.int 10)) (eC (.int 12))))) (Jn (Jo 5 (e2 fIx (Yg (Y4 ["\n","row\n"," ","x","\n\n","row 1+1"] a0)) (e2 J9 (e2 Ue (Jc 4) (eC (.int 16))) (eC (.int 6))))) (Jn (Jo 6 (eU 1 J0 (aC (Jc 1) a0))) T))))))) [.sh (.fz (ns.map .int)),.no,.no,.no,.no,.no,.no]=T [.sh (.fz (ns.map .int)),.sh (.lst (qs.map prE)),s2,.sh (.lst d),.sh (.int rest),.sh (.str (tx m)),.sh (.str (tx (YS qs++[10])))]:=by
 obtain⟨qs,b,u1⟩:=JjS (UW ns) (Bd.pairs ns) (V6 ns) (ZK ns) (ns.sum % 4) (ns.sum / 4 % 10 ^ 9) (Ga _ (by decide));obtain⟨d,u2,fd⟩:=Ji9 b;have hr:=Ga (cell ns 1) (show(10:Int) ^ 12≠0 by decide);obtain⟨k,hk⟩:∃k:Nat,(cell ns 1 % 10 ^ 12) / 16 % 6=(k:Int):=⟨((cell ns 1 % 10 ^ 12) / 16 % 6).toNat,by omega⟩
 have hk':k<moreL.length:=by show k<6;omega
 have hat:atI ((moreL.map tx).map D.str) (k:Int)=some (.str (tx moreL[k])):=by rw[Yw,Yw,Ub hk'];rfl
 rw[<- Jhd] at hat;simp only[Qr,GF] at hat;have hl:qs.length<=31:=b.1;have mt:=Jfb qs (by omega) b.small;rw[Jdl] at mt;refine⟨qs,d,moreL[k],.sh (.int ns.sum),_,b,Gz hk',hr,fd,fun T=>?_⟩;walk_at "ev";rw[Jha];walk_at "ev";rw[JgW (ns:=ns) rfl];walk_at "ev";rw[u1];walk_at "ev";rw[u2];walk_at "ev";rw[WK ns 1 (by decide)];walk_at "ev";rw[hk,hat];walk_at "ev";rw[mt];walk_at "ev"
noncomputable abbrev VX:Es:=(Jn (xIf (tOr? (tB? (e2 fEq (e2 J9 (Jc 4) (eC (.int 16))) (eC (.int 9)))) (tB? (e2 fEq (e2 J9 (Jc 4) (eC (.int 16))) (eC (.int 10))))) (Jn (Jo 6 (e2 JJ (Jc 6) (Jc 5))) (Jo 3 (Yg (aC (eC (.str "text")) (aC (eC (.int 2)) a0))))) JD) (Jn (xIf (tB? (e2 fIn (e2 J9 (Jc 4) (eC (.int 16))) (Yg (aC (eC (.int 1)) (aC (eC (.int 2)) (aC (eC (.int 3)) (aC (eC (.int 4)) a0))))))) (Jn (Jo 6 (e2 JJ (eU 3 Yh (aC (Jc 1) (aC (e2 J9 (Jc 4) (eC (.int 16))) (aC (e2 Ue (Jc 4) (eC (.int 16))) a0)))) (eC (.str "\n")))) (Jn (Jo 3 (Yg (aC (eC (.str "text")) (aC (eC (.int 1)) a0)))) (xIf (tB? (e2 fEq (e2 J9 (e2 Ue (Jc 4) (eC (.int 11))) (eC (.int 3))) (eC (.int 1)))) (Jo 6 (e2 JJ (Jc 6) (Jc 5))) JD))) JD) (Jn (xIf (tB? (e2 fEq (e2 J9 (Jc 4) (eC (.int 16))) (eC (.int 5)))) (Jn (Jo 6 (VD (Jc 6) none (some (e1 Zi (eC (.int 1)))))) (Jo 3 (Yg (aC (eC (.str "text")) (aC (eC (.int 1)) a0))))) JD) (Jn (xIf (tB? (e2 fEq (e2 J9 (Jc 4) (eC (.int 16))) (eC (.int 6)))) (Jn (Jo 6 (e2 fIx (Yg (Y4 [""," ","row"] a0)) (e2 J9 (e2 Ue (Jc 4) (eC (.int 16))) (eC (.int 3))))) (Jo 3 (Yg (aC (eC (.str "text")) (aC (eC (.int 1)) a0))))) JD) (Jn (xIf (tB? (e2 fEq (e2 J9 (Jc 4) (eC (.int 16))) (eC (.int 7)))) (Jn (Jo 6 (e2 JJ (eC (.str "\n")) (Jc 6))) (Jo 3 (Yg (aC (eC (.str "text")) (aC (eC (.int 1)) a0))))) JD) (Yy (e2 fEq (eU 1 JY (aC (Jc 6) a0)) (Jc 3))))))))
theorem in4(r:Int):Ml (fun ns=>Sl.sh (D.bl (decide (r∈ns)))) (ints? [.int 1,.int 2,.int 3,.int 4])=some (.sh (.bl (decide (1<=r/\r<=4)))):=by
 have e:Ml (fun ns=>Sl.sh (D.bl (decide (r∈ns)))) (ints? [.int 1,.int 2,.int 3,.int 4])=some (.sh (.bl (decide (r∈[(1:Int),2,3,4])))):=rfl;rw[e]
 have:decide (r∈[(1:Int),2,3,4])=decide (1<=r/\r<=4):=by rw[decide_eq_decide];simp only[Qm,Lv,or_false];omega
 rw[this]
section
variable{qs:List Pr}{d:List D}{m:List Nat}(fz:D)(s2:Sl)(rest:Int)(hr:0<=rest)(b:Bd qs)(hm:m∈moreL)(fd:Fd (YS qs++[10]) (.lst d))
noncomputable def VV(fz:D)(qs:List Pr)(s2:Sl)(d:List D)(rest:Int)(m:List Nat):En:=[.sh fz,.sh (.lst (qs.map prE)),s2,.sh (.lst d),.sh (.int rest),.sh (.str (tx m)),.sh (.str (tx (YS qs++[10])))]
theorem Jik(n1:¬rest % 16=9)(n2:¬rest % 16=10)(n3:¬(1<=rest % 16/\rest % 16<=4))(n5:¬rest % 16=5)(n6:¬rest % 16=6)(n7:¬rest % 16=7)(fd:Fd (YS qs++[10]) (.lst d)):VX (VV fz qs s2 d rest m)=some (.rt (.sh (.bl true))):=by unfold VX VV;walk_at "ev";rw[decide_eq_false n1];walk_at "ev";rw[decide_eq_false n2];walk_at "ev";rw[in4,decide_eq_false n3];walk_at "ev";rw[decide_eq_false n5];walk_at "ev";rw[decide_eq_false n6];walk_at "ev";rw[decide_eq_false n7];walk_at "ev";obtain⟨l,h1,h2⟩:=fd;rw[h1];walk_at "ev";rw[h2];walk_at "ev"
theorem Jil(h:rest % 16=9\/rest % 16=10)(b:Bd qs)(hm:m∈moreL):VX (VV fz qs s2 d rest m)=some (.rt (.sh (.bl true))):=by
 obtain⟨m1,m2⟩:=JcO hm;have o:=Jb8 b m (by omega);have rl:=o.2.1;have ln:(tx (YS qs++[10])).length<=1000001:=by rw[JQ,Qu];show _+1<=_;omega
 have lm:(tx m).length<=10:=by rw[JQ];exact m2
 have st:Vu (spL 32 (YS qs))=.lst (qs.map prE):=by rw[VU];exact Jdh b
 have F:Fd (YS qs++[10]++m) (UB 2):=by rw[G0];exact fd2 (JhO o st m1)
 have or:(decide (rest % 16=9)=true)\/(decide (rest % 16=9)=false/\decide (rest % 16=10)=true):=by
  rcases h with h|h
  ·exact .inl (decide_eq_true h)
  ·exact .inr ⟨decide_eq_false (by omega),decide_eq_true h⟩
 unfold VX VV;walk_at "ev";rcases or with h9 | ⟨h9,h10⟩
 ·rw[h9];walk_at "ev";rw[in4,decide_eq_false (show ¬(1<=rest % 16/\rest % 16<=4) by omega)];walk_at "ev";rw[decide_eq_false (show ¬rest % 16=5 by omega)];walk_at "ev";rw[decide_eq_false (show ¬rest % 16=6 by omega)];walk_at "ev";rw[decide_eq_false (show ¬rest % 16=7 by omega)];walk_at "ev";rw[Ys];obtain⟨l,h1,h2⟩:=F;simp only[UB] at h2;rw[h1];walk_at "ev";rw[h2];walk_at "ev"
 ·rw[h9,h10];walk_at "ev";rw[in4,decide_eq_false (show ¬(1<=rest % 16/\rest % 16<=4) by omega)];walk_at "ev";rw[decide_eq_false (show ¬rest % 16=5 by omega)];walk_at "ev";rw[decide_eq_false (show ¬rest % 16=6 by omega)];walk_at "ev";rw[decide_eq_false (show ¬rest % 16=7 by omega)];walk_at "ev";rw[Ys];obtain⟨l,h1,h2⟩:=F;simp only[UB] at h2;rw[h1];walk_at "ev";rw[h2];walk_at "ev"
theorem Jk3(h:1<=rest % 16/\rest % 16<=4)(hr:0<=rest)(b:Bd qs)(hm:m∈moreL):VX (VV fz qs s2 d rest m)=some (.rt (.sh (.bl true))):=by
 obtain⟨m1,m2⟩:=JcO hm;obtain⟨ws,S,u⟩:=JlH b (rest % 16) (rest / 16) h (by omega);obtain⟨o1,z1⟩:=S.ok [] (by decide);obtain⟨o2,z2⟩:=S.ok m (by omega);have F1:Fd (Yq ws++[10]) (UB 1):=fd1 (Jb5 o1 z1);have F2:Fd (Yq ws++[10]++m) (UB 1):=by rw[G0];exact fd1 (Jb5 o2 z2)
 have rl:=o1.2.1
 have ln0:(tx (Yq ws)).length<=1000000:=by rw[JQ];exact rl
 have l1:(Qe "\n").length=1:=by decide +kernel
 have ln:(tx (Yq ws++[10])).length<=1000001:=by rw[JQ,Qu];show _+1<=_;omega
 have lm:(tx m).length<=10:=by rw[JQ];exact m2
 unfold VX VV;walk_at "ev";rw[decide_eq_false (show ¬rest % 16=9 by omega)];walk_at "ev";rw[decide_eq_false (show ¬rest % 16=10 by omega)];walk_at "ev";rw[in4,decide_eq_true h];walk_at "ev";rw[u];walk_at "ev";rw[Wd,Ys]
 by_cases h3:rest / 11 % 3=1
 ·rw[decide_eq_true h3];walk_at "ev";rw[decide_eq_false (show ¬rest % 16=5 by omega)];walk_at "ev";rw[decide_eq_false (show ¬rest % 16=6 by omega)];walk_at "ev";rw[decide_eq_false (show ¬rest % 16=7 by omega)];walk_at "ev";rw[Ys];obtain⟨l,h1,h2⟩:=F2;simp only[UB] at h2;rw[h1];walk_at "ev";rw[h2];walk_at "ev"
 ·rw[decide_eq_false h3];walk_at "ev";rw[decide_eq_false (show ¬rest % 16=5 by omega)];walk_at "ev";rw[decide_eq_false (show ¬rest % 16=6 by omega)];walk_at "ev";rw[decide_eq_false (show ¬rest % 16=7 by omega)];walk_at "ev";obtain⟨l,h1,h2⟩:=F1;simp only[UB] at h2;rw[h1];walk_at "ev";rw[h2];walk_at "ev"
theorem JmF(h:rest % 16=5)(b:Bd qs):VX (VV fz qs s2 d rest m)=some (.rt (.sh (.bl true))):=by
 have o:=Jb8 b [] (by decide)
 have rl:=o.2.1
 have ln:(tx (YS qs++[10])).length<=1000001:=by rw[JQ,Qu];show _+1<=_;omega
 have F:Fd (YS qs) (UB 1):=fd1 (JiK _ o.1);unfold VX VV;walk_at "ev";rw[decide_eq_false (show ¬rest % 16=9 by omega)];walk_at "ev";rw[decide_eq_false (show ¬rest % 16=10 by omega)];walk_at "ev";rw[in4,decide_eq_false (show ¬(1<=rest % 16/\rest % 16<=4) by omega)];walk_at "ev";rw[decide_eq_true h];walk_at "ev";rw[decide_eq_false (show ¬rest % 16=6 by omega)];walk_at "ev";rw[decide_eq_false (show ¬rest % 16=7 by omega)];walk_at "ev";rw[Jdc]
 obtain⟨l,h1,h2⟩:=F;simp only[UB] at h2;rw[h1];walk_at "ev";rw[h2];walk_at "ev"
theorem JmG(h:rest % 16=6):VX (VV fz qs s2 d rest m)=some (.rt (.sh (.bl true))):=by
 obtain⟨k,hk⟩:∃k:Nat,rest / 16 % 3=(k:Int):=⟨(rest / 16 % 3).toNat,by omega⟩
 have hk':k<shrtL.length:=by show k<3;omega
 have hat:atI ((shrtL.map tx).map D.str) (k:Int)=some (.str (tx shrtL[k])):=by rw[Yw,Yw,Ub hk'];rfl
 rw[<- Jh7] at hat;simp only[Qr,GF] at hat
 have no:10∉shrtL[k]:=by
  have:∀w∈shrtL,10∉w:=by decide
  exact this _ (Gz hk')
 have F:Fd shrtL[k] (UB 1):=fd1 (JiK _ no);unfold VX VV;walk_at "ev";rw[decide_eq_false (show ¬rest % 16=9 by omega)];walk_at "ev";rw[decide_eq_false (show ¬rest % 16=10 by omega)];walk_at "ev";rw[in4,decide_eq_false (show ¬(1<=rest % 16/\rest % 16<=4) by omega)];walk_at "ev";rw[decide_eq_false (show ¬rest % 16=5 by omega)];walk_at "ev";rw[decide_eq_true h];walk_at "ev";rw[hk,hat];walk_at "ev";rw[decide_eq_false (show ¬rest % 16=7 by omega)];walk_at "ev"
 obtain⟨l,h1,h2⟩:=F;simp only[UB] at h2;rw[h1];walk_at "ev";rw[h2];walk_at "ev"
theorem JmH(h:rest % 16=7)(b:Bd qs):VX (VV fz qs s2 d rest m)=some (.rt (.sh (.bl true))):=by
 have rl:=Jc9 b
 have ln:(tx (YS qs++[10])).length<=1000001:=by rw[JQ,Qu];show _+1<=_;omega
 have o:JbD [] (YS qs++[10]):=⟨by decide,by decide,by rw[Qu];show _+1<=_;omega,by decide,by decide⟩
 have F:Fd ([10]++(YS qs++[10])) (UB 1):=fd1 (Jb5 (pre:=[]) o rfl)
 have l1:(Qe "\n").length=1:=by decide +kernel
 unfold VX VV;walk_at "ev";rw[decide_eq_false (show ¬rest % 16=9 by omega)];walk_at "ev";rw[decide_eq_false (show ¬rest % 16=10 by omega)];walk_at "ev";rw[in4,decide_eq_false (show ¬(1<=rest % 16/\rest % 16<=4) by omega)];walk_at "ev";rw[decide_eq_false (show ¬rest % 16=5 by omega)];walk_at "ev";rw[decide_eq_false (show ¬rest % 16=6 by omega)];walk_at "ev";rw[decide_eq_true h];walk_at "ev";rw[Wd,Ys];obtain⟨l,h1,h2⟩:=F;simp only[UB] at h2
 rw[h1];walk_at "ev";rw[h2];walk_at "ev"
end
theorem law_true(ns:List Int)(hn:ns.length<=63):Jey [.sh (.fz (ns.map .int))]=some (.sh (.bl true)):=by
 obtain⟨qs,d,m,s2,rest,b,hm,hr,fd,hd⟩:=Jju ns;refine(congrArg (fun o:Option Out=>o.bind Zh) (hd _)).trans ?_
 have t:VX (VV (.fz (ns.map .int)) qs s2 d rest m)=some (.rt (.sh (.bl true))):=by
  by_cases h1:rest % 16=9\/rest % 16=10
  ·exact Jil _ _ _ h1 b hm
  ·by_cases h2:1<=rest % 16/\rest % 16<=4
   ·exact Jk3 _ _ _ h2 hr b hm
   ·by_cases h3:rest % 16=5
    ·exact JmF _ _ _ h3 b
    ·by_cases h4:rest % 16=6
     ·exact JmG _ _ _ h4
     ·by_cases h5:rest % 16=7
      ·exact JmH _ _ _ h5 b
      ·exact Jik _ _ _ (fun z=>h1 (.inl z)) (fun z=>h1 (.inr z)) h2 h3 h4 h5 fd
 exact congrArg (fun o:Option Out=>o.bind Zh) t
end
end LK
noncomputable section
namespace LK
open PySem L2 LR LE
noncomputable def top(i:Nat):Gn:=PySem.Challenge.pw_lumprow_k10_texts_refused.main.body.getD i (.Pass ⟨0,0,0,0⟩)
noncomputable abbrev YX:Gn:=JcG (top 4) 0
noncomputable abbrev UP:Gn:=top 26
noncomputable abbrev YC:Gn:=top 13
noncomputable abbrev U9:Gn:=JcG (top 12) 0
noncomputable abbrev Ua:Gn:=top 17
noncomputable abbrev YZ:Gn:=top 20
noncomputable abbrev YH:Gn:=top 19
noncomputable abbrev Jb9:Gn:=top 18
noncomputable abbrev UQ:Gn:=top 31
noncomputable abbrev Vc:Gn:=top 27
noncomputable abbrev Vb:Gn:=top 25
noncomputable abbrev Y9:Gn:=top 28
noncomputable abbrev Va:Gn:=top 22
noncomputable abbrev VR:Gn:=top 30
noncomputable abbrev YM:Gn:=top 29
noncomputable abbrev Us:Gn:=top 23
noncomputable abbrev UR:Gn:=top 24
noncomputable abbrev Vr:Gn:=top 32
local macro_rules | `(tactic| walk_at "c")=>`(tactic| exact⟨rfl,rfl,rfl,by decide +kernel,rfl,by decide +kernel,by decide +kernel⟩)
theorem Jhg:(["begin","length"]:List Str).Nodup:=by decide +kernel
theorem Jmo:(["figure"]:List Str).Nodup:=by decide +kernel
theorem Jmp:(["word"]:List Str).Nodup:=by decide +kernel
theorem Jmq:(["k","start"]:List Str).Nodup:=by decide +kernel
section
variable{P:Qo}{w:QC}{K:Qn}{C:Qc}{mg:Str->Option Qa}{base:QI}{qf:Qc}{qy:Qc}{qo:Qc}{ql:Qc}{qi:Qc}{qj:Qc}{qa:Qc}{qb:Qc}{qd:Qc}
theorem Wb:FnScope ["self","at"] ["self","at"] (Jp YX):=by walk_at "c"
theorem JaX{f B c:Qc}{fd:QE}(F:Fun K "__init__" "BadText.__init__" YX f fd)(T:IniC K c f B)(qh:mg "LumpError"=some (.ref B)):FnOk P w K mg base CX0 1 f fd ["self","at"] (ZQ c):=by refine F.ok Wb (fun vs H Q E h=>Jd3 h) (fun cdv A outer s H vs Q E hr h=>?_);refine⟨_,Jf (Uq (Jft T rfl qh rfl rfl (.inl rfl) (.inl rfl) (by decide))) (Jl (Jkg T rfl rfl rfl (.inl rfl) (.inl rfl))),?_⟩;obtain⟨a,k,e,hk,ha,q⟩:=h;subst e;exact⟨a,k,rfl,rfl,hk,ha,a,k,rfl,rfl,ha,q⟩
theorem sc_law_alone:FnScope ["e","kinds"] ["e"] (Jp UP):=by walk_at "c"
theorem Jaf{f:Qc}{fd:QE}(F:Fun K "_law_alone" "_law_alone" UP f fd)(qe:mg "isinstance"=none)(qK:mg "ValueError"=none)(xG:ExcG K)(xO:OwnL K ["BadRow","BadText","TooMany"] [qd,qa,qb])(iV:IsiV K ["BadRow","BadText","TooMany"])(qh:mg "LumpError"=some (.ref qf))(qO:IsiN K ["BadRow","BadText","TooMany"] "LumpError" qf)(wO:mg "NoRow"=some (.ref qy))(wP:IsiN K ["BadRow","BadText","TooMany"] "NoRow" qy)(wK:mg "Unlike"=some (.ref qo))(wL:IsiN K ["BadRow","BadText","TooMany"] "Unlike" qo)(wy:mg "BadDeed"=some (.ref ql))(wz:IsiN K ["BadRow","BadText","TooMany"] "BadDeed" ql)(q4:mg "BadTable"=some (.ref qi))(q9:IsiN K ["BadRow","BadText","TooMany"] "BadTable" qi)(wa:mg "BadSeats"=some (.ref qj))(wb:IsiN K ["BadRow","BadText","TooMany"] "BadSeats" qj)(qt:mg "BadText"=some (.ref qa))(qB:IsiN K ["BadRow","BadText","TooMany"] "BadText" qa)(qm:mg "TooMany"=some (.ref qb))(qC:IsiN K ["BadRow","BadText","TooMany"] "TooMany" qb)(qp:mg "BadRow"=some (.ref qd))(qI:IsiN K ["BadRow","BadText","TooMany"] "BadRow" qd):FnOk P w K mg base CX0 1 f fd ["e"] (spE K C 1 Ui) :=
 okE F sc_law_alone rfl fun _ _ _ _ _ _ hr hu=>⟨_,(Jf (psN 1 sc_law_alone.nd (JN (Ja (Jw (J5 (K:=K) rfl) rfl qe Jy (Ja (pv 0) (Ja (Yp (v:=V.ref qd) rfl qp rfl) Je))) (Ja (Jw (J5 (K:=K) rfl) rfl qe Jy (Ja (pv 0) (Ja (Yp (v:=V.ref qb) rfl qm rfl) Je))) (Ja (Jw (J5 (K:=K) rfl) rfl qe Jy (Ja (pv 0) (Ja (Yp (v:=V.ref qa) rfl qt rfl) Je))) (Ja (Jw (J5 (K:=K) rfl) rfl qe Jy (Ja (pv 0) (Ja (Yp (v:=V.ref qj) rfl wa rfl) Je))) Je))))))
  (Jf (psN 1 sc_law_alone.nd (Jm (Jv (K:=K) rfl) (pv 1) (JN (Ja (Jw (J5 (K:=K) rfl) rfl qe Jy (Ja (pv 0) (Ja (Yp (v:=V.ref qi) rfl q4 rfl) Je))) (Ja (Jw (J5 (K:=K) rfl) rfl qe Jy (Ja (pv 0) (Ja (Yp (v:=V.ref ql) rfl wy rfl) Je))) (Ja (Jw (J5 (K:=K) rfl) rfl qe Jy (Ja (pv 0) (Ja (Yp (v:=V.ref qo) rfl wK rfl) Je))) (Ja (Jw (J5 (K:=K) rfl) rfl qe Jy (Ja (pv 0) (Ja (Yp (v:=V.ref qy) rfl wO rfl) Je))) Je)))))))
  (Jl (JP (Jfn (Jal (Ym (K:=K) rfl hu) (YB (K:=K) rfl Gc PySem.F.slot_list_count PySem.F.type_list_count JdQ (pv 1) (Ja JlM Je)) Jg (JC _)) (Jfn (Jw (J5 (K:=K) rfl) rfl qe Jy (Ja (pv 0) (Ja (Yp (v:=V.ref qf) rfl qh rfl) Je))) (Jj9 (Jw (J5 (K:=K) rfl) rfl qe Jy (Ja (pv 0) (Ja (Jak (v:=V.ty "ValueError") rfl qK Ze rfl) Je)))))))))),(Jq (Ju (Ye (Jd (Uv qI (Jb 0)) (Jd (Uv qC (Jb 0)) (Jd (Uv qB (Jb 0)) (Jd (Uv wb (Jb 0)) Jk))))))
  (Jq (Ju (Ji JR (Jb 1) (Ye (Jd (Uv q9 (Jb 0)) (Jd (Uv wz (Jb 0)) (Jd (Uv wL (Jb 0)) (Jd (Uv wP (Jb 0)) Jk)))))))
  (Yk (JiL (Ji UJ (JhZ (Jb 1) Jmz) Jh) (JiL (Uv qO (Jb 0)) (Jl9 iV (Jb 0)))))))⟩
theorem sc_check_stretches:FnScope ["stretches","behind","begin","length"] ["stretches"] (Jp YC):=by walk_at "c"
theorem U7{f:Qc}{fd:QE}(F:Fun K "check_stretches" "check_stretches" YC f fd)(qp:mg "BadRow"=some (.ref qd))(qD:AtX K "BadRow" qd):FnOk P w K mg base (CX1 P w) 1 f fd ["stretches"] (JdV (Jau K) (spR K C 1 J7)):=by
 refine Fun.okX F sc_check_stretches (fun vs H Q E h=>h.elim (fun h=>by obtain⟨v,ps,rfl,_⟩:=h;rfl) Jic) (fun cdv A outer s H vs Q E hr h=>?_);have hu:=hr.units;refine⟨_,(Jf (psN 1 sc_check_stretches.nd JZ)
  (Jl (Jb0 PassesOwn.leaving rfl (piK K (pv 0)) (Wl (K:=K) (n:=2) rfl rfl (YJ (UY (i:=2) sc_check_stretches.nd rfl (.inl rfl)) (YJ (UY (i:=3) sc_check_stretches.nd rfl (.inl rfl)) Wm)) rfl rfl) (Jf (JV (Js WO (pv 3) Jg (JC _)) (Jl (VO (K:=K) rfl qD.ok rfl qp rfl xok_cx (Ja Jx Je))) Jz)
  (Jf (JV (PW.pt (VQ (Js Jbe (pv 1) JZ (JC _)) (UZ (Js JiE (pv 2) (pv 1) (JC _))))) (Jl (VO (K:=K) rfl qD.ok rfl qp rfl xok_cx (Ja Jx Je))) Jz)
  (Jl (psN 1 sc_check_stretches.nd (Jm (Jv (K:=K) rfl) (pv 2) (pv 3))))))))),?_⟩
 rcases h with h|h
 ·obtain⟨v,ps,rfl,⟨a,vs,rfl,hq,hp⟩,g,q⟩:=h;walk_at "rd";refine JdZ (H1:=H) (a:=a) (xs:=vs) (fun R r=>⟨_,rfl,r⟩) hq
   (fun i σ' H'=>∃vb vl,σ'=[some (.ref a),some (Jck ps i),vb,vl]/\H'=H) ⟨none,none,rfl,rfl⟩ (fun i σ' H' ⟨_,_,_,e⟩=>e▸Same.refl _) ?_ ?_
  ·rintro i x σ' H' hi ⟨vb,vl,rfl,rfl⟩;obtain⟨p,b,e1,rfl,sp⟩:=hp.at hi;refine Jc7 sp rfl ?_;walk_at "rd";refine ifd (fun hlt=>absurd (g.one i p e1) (by omega)) (fun _=>?_);walk_at "rd"
   cases i with
   | zero=>refine ifF rfl ?_;refine ifF rfl ?_;walk_at "rd";refine .inl (Jao ?_);walk_at "rd";exact⟨_,_,by rw[UA e1];rfl,rfl⟩
   | succ j =>
    obtain⟨q1,e2⟩:∃q1,ps[j]?=some q1:=⟨ps[j]'(by have:=(Qi.mp e1).1;omega),by have:=(Qi.mp e1).1;simp[show j<ps.length by omega]⟩
    rw[UA e2];refine ifT rfl ?_;walk_at "rd";refine ifd (fun hle=>absurd (g.gap j q1 p e2 e1) (by omega)) (fun _=>?_);walk_at "rd";refine .inl (Jao ?_);walk_at "rd";exact⟨_,_,by rw[UA e1];rfl,rfl⟩
  ·rintro σ' H' ⟨vb,vl,rfl,rfl⟩;exact q _ (Same.refl _)
 ·exact JeO (N:=["stretches","behind","begin","length"]) (Uu (Ju Yf)
   U3 (Jiu (Jl8 0) (JeU (VE (Zk 2) (VE (Zk 3) JeT)) rfl) (Jq (Yl (Jr (Ji VL (Jb 3) Jh)) YD JF)
   (Jq (Yl (US (Jr (Ji Wi (Jb 1) Yf)) (Jr (Ji Jhj (Jb 2) (Jb 1)))) YD JF)
   (Ju (Ji JR (Jb 2) (Jb 3))))) (Uu (Yl (Jr (Ji VL (Jb 3) Jh)) YD JF)
   (ZX (Jr (Ji VL (Jb 3) Jh)) (Zd qD.ns (Jd JG Jk)) U3) (Uu (Yl (US (Jr (Ji Wi (Jb 1) Yf)) (Jr (Ji Jhj (Jb 2) (Jb 1)))) YD JF)
   (ZX (US (Jr (Ji Wi (Jb 1) Yf)) (Jr (Ji Jhj (Jb 2) (Jb 1)))) (Zd qD.ns (Jd JG Jk)) U3) U3)))) h
theorem Jbk:FnScope ["self","stretches"] ["self","stretches"] (Jp U9):=by walk_at "c"
theorem Jba{f:Qc}{fd:QE}(F:Fun K "__init__" "Row.__init__" U9 f fd)(qk:mg "len"=none)(wQ:mg "tuple"=none)(qu:GV mg "MOST_STRETCHES" (.int 30))(qq:CalX P w K mg base "check_stretches" 1 ["stretches"] (JdV (Jau K) (spR K C 1 J7)))(T:RowC K C)(qm:mg "TooMany"=some (.ref qb))(qJ:AtX K "TooMany" qb):FnOk P w K mg base (CX1 P w) 2 f fd ["self","stretches"] (JdV (W2 C K) (Jd4 K C 1 Yc)):=by
 refine Fun.okX F Jbk (fun vs H Q E h=>h.elim (fun h=>by obtain⟨x,dx,v,ps,rfl,_⟩:=h;rfl) JfU) (fun cdv A outer s H vs Q E hr h=>?_);have hu:=hr.units;refine⟨_,(Jf (JV (Js JcT (Jw (Yb (K:=K) rfl) rfl qk YK (Ja (pv 1) Je)) (WT rfl qu) (JC _)) (Jl (VO (K:=K) rfl qJ.ok rfl qm rfl xok_cx (Ja Jx Je))) Jz)
  (Jf (Uq (Jfp qq (hrM hr) rfl xok_cx.passes (Ja (pv 1) Je)))
  (Jl (JhA (K:=K) rfl (pv 0) (YG (JaK (K:=K) rfl) rfl wQ Jek (Ja (Wk (N':=["begin","length"]) (imp:=[none,none]) rfl (piK K (pv 1)) (Jgk rfl rfl) (fun _ _ _ _=>(Wl (K:=K) (n:=2) rfl rfl (YJ (pgN 0 Jhg) (YJ (pgN 1 Jhg) Wm)) rfl rfl)) (fun _ _ _ _=>UN) (fun _ _ _ _=>(VN (Ja (pv 0) (Ja (pv 1) Je))))) Je)) rfl)))),?_⟩
 rcases h with h|h
 ·obtain⟨x,dx,v,ps,rfl,hx,⟨a,vs,rfl,hq,hp⟩,g,hl,q⟩:=h;have hn:=hp.len;walk_at "rd";refine Jbi hq ?_;walk_at "rd";refine ifd (fun hgt=>absurd hl (by omega)) (fun _=>?_);walk_at "rd";refine .inl (Jep ⟨a,vs,rfl,hq,hp⟩ g fun H1 s1=>?_);walk_at "rd";refine Jb6 (H1:=H1) (a:=a) (xs:=vs) (fun R r=>⟨_,rfl,r⟩) (hq.imp s1.seq s1.seqT) (Kc (Jd2 (by omega)))
   (fun i ys σ' H'=>∃vb vl,σ'=[vb,vl]/\Same H1 H'/\Prs K H' ys (ps.take i)) ⟨none,none,rfl,Same.refl _,by rw[List.take_zero];exact RepL.nil⟩
   (fun i ys σ' H' ⟨_,_,_,_,r⟩=>by have:=r.len;rw[this,Gj];omega) (fun i ys σ' H' ⟨_,_,_,s',_⟩=>s') ?_ ?_
  ·rintro i ys y σ' H' hi ⟨vb,vl,rfl,s',r⟩;obtain⟨p,b,e1,rfl,sp⟩:=Prs.at (K:=K) (ps:=ps) (RepL.mono (s1.trans s') hp) hi;refine Jc7 sp rfl ?_;walk_at "rd";refine ifT rfl ?_;walk_at "rd";refine Ji1 sz2 fun t H2 nt s2 ht=>?_
   refine⟨_,_,rfl,s'.trans s2,?_⟩;rw[Ld,e1];exact Prs.snoc (RepL.mono s2 r) (Jhz ht)
  ·rintro ys σ' H' ⟨vb,vl,rfl,s',r⟩ l H2 nl s2 hl2;walk_at "rd";refine Jd0 (.of hl2) fun t H3 nt s3 ht=>?_
   walk_at "rd";have sA:Same H H3:=((s1.trans s').trans s2).trans s3;refine⟨x,C,dx,[],rfl,sA _ _ hx,T.cl,T.ns,by decide,?_⟩;rw[hn,Ln] at r;have r3:Prs K H3 ys ps:=RepL.mono (s2.trans s3) r;have ntx:t≠x:=Ja5 ht (sA _ _ hx) (by intro z;cases z);refine q _ t ys (sA.ex_trans SameEx.upd) (by rw[Jfy];exact JE) (by rw[Jj ntx];exact ht) ?_;exact Prs.monoIns SameEx.upd (sA _ _ hx) r3
 ·exact JdC (N:=["self","stretches"]) (Uu (Yl (Jr (Ji Jfi (YY YU (Jd (Jb 1) Jk)) Jh)) YD JF)
   (ZX (Jr (Ji Jfi (YY YU (Jd (Jb 1) Jk)) Jh)) (Zd qJ.ns (Jd JG Jk)) U3) (Jld (Jit (Jf9 (Jd (Jb 1) Jk))))) h
theorem sc_number_told:FnScope ["text","figures"] ["text"] (Jp Ua):=by walk_at "c"
theorem WN{f:Qc}{fd:QE}(F:Fun K "number_told" "number_told" Ua f fd)(wI:mg "int"=none)(vh:mg "all"=none)(qk:mg "len"=none)(wA:GV mg "FIGURES" (.str "0123456789"))(qE:GV mg "MOST_FIGURES" (.int 200)):FnOk P w K mg base CX0 1 f fd ["text"] (spE K C 1 Yi) :=
 okE F sc_number_told rfl fun _ _ _ _ _ _ hr hu=>⟨_,(Jf (psN 1 sc_number_told.nd (Jbg (Ur (K:=K) rfl (YB (K:=K) rfl Q1 K0 K1 ZJ (pv 0) (Ja Jx Je)) (fun _=>rfl)) (YW VT (pv 0) (Up Jg) Uo) (pv 0)))
  (Jf (JV (PW.pt (ZN (Js (Ym (K:=K) rfl hu) (pv 1) Jx (JC _)) (WW (Js JcT (Jw (Yb (K:=K) rfl) rfl qk YK (Ja (pv 1) Je)) (WT rfl qE) (JC _))))) (Jl (JP JZ)) Jz)
  (Jf (JV (Jb3 (Ur (K:=K) rfl (Jw (Jdr (K:=K) rfl rfl) rfl vh Ji4 (Ja (Wk (N':=["figure"]) (imp:=[none]) rfl (Jkd (pv 1)) (Jgk rfl rfl) (fun _ _ _ _=>(pgN 0 Jmo)) (fun _ _ _ _=>UN) (fun _ _ _ _=>(Jal JdU (pv 0) (WT rfl wA) rfl))) Je)) (fun _=>rfl))) (Jl (JP JZ)) Jz)
  (Jf (JV (PW.pt (VQ (Ur (K:=K) rfl (YB (K:=K) rfl Q1 K0 K1 ZJ (pv 1) (Ja Jx Je)) (fun _=>rfl)) (UZ (Js (WQ (K:=K) rfl hu) (pv 0) Jx (JC _))))) (Jl (JP JZ)) Jz)
  (Jl (JP (YG Jdt rfl wI Z0 (Ja (pv 0) Je)))))))),(Jq (Ju (JiN (WZ (Jap Vm (Jb 0) (Jd JG Jk))) (WY (Jb 0) (UM Jh) UL) (Jb 0)))
  (Jq (Yl (ZP (Jr (Ji UJ (Jb 1) JG)) (Jr (Ji Jfi (YY YU (Jd (Jb 1) Jk)) Jh))) (Yk Yf) JF)
  (Jq (Yl (Jca (WZ (YY Jln (Jd (Jaq (Jl7 (Jb 1)) (Zk 0) Jda (Ji JlJ (Jb 0) JG) rfl) Jk)))) (Yk Yf) JF)
  (Jq (Yl (US (WZ (Jap Vm (Jb 1) (Jd JG Jk))) (Jr (Ji Jfj (Jb 0) JG))) (Yk Yf) JF)
  (Yk (YY Ji6 (Jd (Jb 0) Jk)))))))⟩
theorem sc_stretch_told:FnScope ["word","plus","begin","length"] ["word"] (Jp YZ):=by walk_at "c"
theorem Wa{f:Qc}{fd:QE}(F:Fun K "stretch_told" "stretch_told" YZ f fd)(qz:Cal P w K mg base "number_told" 1 ["text"] (spE K C 1 Yi)):FnOk P w K mg base CX0 2 f fd ["word"] (spE K C 1 JW) :=
 okE F sc_stretch_told rfl fun _ _ _ _ _ _ hr hu=>⟨_,(Jf (psN 1 sc_stretch_told.nd (YB (K:=K) rfl Q1 LQ LS JcP (pv 0) (Ja Jx Je)))
  (Jf (JV (Js WO (pv 1) Jg (JC _)) (Jl (JP JZ)) Jz)
  (Jf (psN 2 sc_stretch_told.nd (JI qz (hrM hr) rfl (Ja (YW VT (pv 0) Uo (Up (pv 1))) Je)))
  (Jf (psN 3 sc_stretch_told.nd (JI qz (hrM hr) rfl (Ja (YW VT (pv 0) (Up (Jm (Jv (K:=K) rfl) (pv 1) Jg)) Uo) Je)))
  (Jf (JV (PW.pt (ZN (Js Wj (pv 2) JZ (JC _)) (ZN (Js Wj (pv 3) JZ (JC _)) (WW (Js WO (pv 3) Jg (JC _)))))) (Jl (JP JZ)) Jz)
  (Jl (JP (VN (Ja (pv 2) (Ja (pv 3) Je)))))))))),(Jq (Ju (Jap JbP (Jb 0) (Jd JG Jk)))
  (Jq (Yl (Jr (Ji VL (Jb 1) Jh)) (Yk Yf) JF)
  (Jq (Ju (Ya (Jd (WY (Jb 0) UL (UM (Jb 1))) Jk)))
  (Jq (Ju (Ya (Jd (WY (Jb 0) (UM (Ji JR (Jb 1) Jh)) UL) Jk)))
  (Jq (Yl (ZP (Jr (Ji JdR (Jb 2) Yf)) (ZP (Jr (Ji JdR (Jb 3) Yf)) (Jr (Ji VL (Jb 3) Jh)))) (Yk Yf) JF)
  (Yk (Jbj (Jd (Jb 2) (Jd (Jb 3) Jk)))))))))⟩
theorem sc_stretches_told:FnScope ["line","words","stretches"] ["line"] (Jp YH):=by walk_at "c"
theorem Vn{f:Qc}{fd:QE}(F:Fun K "stretches_told" "stretches_told" YH f fd)(qF:Cal P w K mg base "stretch_told" 2 ["word"] (spE K C 1 JW)):FnOk P w K mg base CX0 3 f fd ["line"] (spE K C 1 JM) :=
 okE F sc_stretches_told rfl fun _ _ _ _ _ _ hr hu=>⟨_,(Jf (psN 1 sc_stretches_told.nd (YB (K:=K) rfl Q1 LI LJ Ja4 (pv 0) (Ja Jx Je)))
  (Jf (JV (Js (WQ (K:=K) rfl hu) (pxK K (pv 1) Jg) Jx (JC _)) (Jl (JP JZ)) Jz)
  (Jf (Jb2 (i:=2) (N':=["word"]) (imp:=[none]) sc_stretches_told.nd rfl (.inl rfl) rfl (piK K (YW (Jia (K:=K) rfl) (pv 1) (Up Jg) Uo)) (Jgk rfl rfl) (fun _ _ _ _=>(pgN 0 Jmp)) (fun _ _ _ _=>UN) (fun _ _ _ _=>(JI qF (hrM hr) rfl (Ja (pv 0) Je))) rfl (.inl rfl))
  (Jl (JP (Jbg (Js (Jj4 (K:=K) rfl hu) JZ (pv 2) rfl) JZ (pv 2))))))),(Jq (Ju (Jap JcM (Jb 0) (Jd JG Jk)))
  (Jq (Yl (Jr (Ji Jfj (Ji UK (Jb 1) Jh) JG)) (Yk Yf) JF)
  (Jq (Ju (Jaq (JkS (JmB (Jb 1) (UM Jh) UL)) (Zk 0) Jda (Ya (Jd (Jb 0) Jk)) rfl))
  (Yk (JiN (Jr (Ji JlI Yf (Jb 2))) Yf (Jb 2))))))⟩
theorem sc_read:FnScope ["text","end","stretches"] ["text"] (Jp Jb9):=by walk_at "c"
theorem Jhm{f:Qc}{fd:QE}(F:Fun K "read" "read" Jb9 f fd)(qk:mg "len"=none)(CMX_Row:CalMX P w K mg base "Row" C 2 ["self","stretches"] (JdV (W2 C K) (Jd4 K C 1 Yc)))(qv:Cal P w K mg base "stretches_told" 3 ["line"] (spE K C 1 JM))(qw:AtY K "BadText" qa)(R_BadText:RaiF P w K mg base "BadText" qa 1):FnOk P w K mg base (CX1 P w) 4 f fd ["text"] (spX K C 1 JL JU):=by
 refine Fun.okX F sc_read (fun vs H Q E h=>Jid h) (fun cdv A outer s H vs Q E hr h=>?_);have hu:=hr.units;refine⟨_,(Jf (psN 1 sc_read.nd (YB (K:=K) rfl Q1 LQ LS JcP (pv 0) (Ja Jx Je)))
  (Jf (JV (Js WO (pv 1) Jg (JC _)) (Jl (VP (K:=K) rfl R_BadText (hrM hr) rfl xok_cx rfl Jg)) Jz)
  (Jf (psN 2 sc_read.nd (JI qv (hrM hr) rfl (Ja (YW VT (pv 0) Uo (Up (pv 1))) Je)))
  (Jf (JV (Js Wj (pv 2) JZ (JC _)) (Jl (VP (K:=K) rfl R_BadText (hrM hr) rfl xok_cx rfl Jg)) Jz)
  (Jf (JV (Js WO (Jm (Jv (K:=K) rfl) (pv 1) Jg) (Jw (Yb (K:=K) rfl) rfl qk YK (Ja (pv 0) Je)) (JC _)) (Jl (VP (K:=K) rfl R_BadText (hrM hr) rfl xok_cx rfl Jg)) Jz)
  (Jl (JP (Jfq CMX_Row (hrM hr) rfl xok_cx.passes (Ja (pv 2) Je))))))))),?_⟩
 exact JeN (N:=["text","end","stretches"]) (Jq (Ju (Jap JbP (Jb 0) (Jd JG Jk)))
  (Jq (Yl (Jr (Ji VL (Jb 1) Jh)) YD JF)
  (Jq (Ju (Ya (Jd (WY (Jb 0) UL (UM (Jb 1))) Jk)))
  (Jq (Yl (Jr (Ji JdR (Jb 2) Yf)) YD JF)
  (Jq (Yl (Jr (Ji VL (Ji JR (Jb 1) Jh) (YY YU (Jd (Jb 0) Jk)))) YD JF)
  (Yk (JkT (fun _ _ _ _ h=>.inl h) (Jd (Jb 2) Jk)))))))) (Uu (Ju (Jap JbP (Jb 0) (Jd JG Jk)))
  U3 (Uu (Yl (Jr (Ji VL (Jb 1) Jh)) YD JF)
  (ZX (Jr (Ji VL (Jb 1) Jh)) (V0 qw.ns Jh) U3) (Uu (Ju (Ya (Jd (WY (Jb 0) UL (UM (Jb 1))) Jk)))
  U3 (Uu (Yl (Jr (Ji JdR (Jb 2) Yf)) YD JF)
  (ZX (Jr (Ji JdR (Jb 2) Yf)) (V0 qw.ns Jh) U3) (Uu (Yl (Jr (Ji VL (Ji JR (Jb 1) Jh) (YY YU (Jd (Jb 0) Jk)))) YD JF)
  (ZX (Jr (Ji VL (Ji JR (Jb 1) Jh) (YY YU (Jd (Jb 0) Jk)))) (V0 qw.ns Jh) U3) (Jle (Jga (fun _ _ _ _ h=>.inr h) (Jd (Jb 2) Jk)))))))) h
theorem sc_law_found:FnScope ["text","found","e"] ["text"] (Jp UQ):=by walk_at "c"
theorem Jag{f:Qc}{fd:QE}(F:Fun K "_law_found" "_law_found" UQ f fd)(wI:mg "int"=none)(qe:mg "isinstance"=none)(wX:mg "bool"=none)(qL:Cal P w K mg base "_law_alone" 1 ["e"] (spE K C 1 Ui))(wR:CalX P w K mg base "read" 4 ["text"] (spX K C 1 JL JU))(qp:mg "BadRow"=some (.ref qd))(xG:ExcG K)(xO:OwnL K ["BadRow","BadText","TooMany"] [qd,qa,qb])(qI:IsiN K ["BadRow","BadText","TooMany"] "BadRow" qd)(qm:mg "TooMany"=some (.ref qb))(qC:IsiN K ["BadRow","BadText","TooMany"] "TooMany" qb)(qt:mg "BadText"=some (.ref qa))(qB:IsiN K ["BadRow","BadText","TooMany"] "BadText" qa)(xF:Jdo K ["BadText"])(qh:mg "LumpError"=some (.ref qf))(qP:ExmL K qf [qd,qa,qb]):FnOk P w K mg base CX0 5 f fd ["text"] (spE K C 1 JY) :=
 okE F sc_law_found rfl fun _ _ _ _ _ _ hr hu=>⟨_,(Jf (psN 1 sc_law_found.nd JZ)
  (Jf (JhB (K:=K) (i:=2) rfl rfl rfl rfl sc_law_found.nd rfl rfl rfl qh (Jfm (Jfl (JhC wR (hrM hr) rfl (Ja (pv 0) Je)))) (fun a=>(Jl (psN 1 sc_law_found.nd (pv 2)))))
  (Jf (JV (Js Wj (pv 1) JZ (JC _)) (Jl (JP (JN (Ja Jx (Ja JZ Je))))) Jz)
  (Jf (JV (Jb3 (Ur (K:=K) rfl (JI qL (hrM hr) rfl (Ja (pv 1) Je)) (fun _=>rfl))) (Jl (JP (JN (Ja Jx (Ja JZ Je))))) Jz)
  (Jf (JV (Ur (K:=K) rfl (Jw (J5 (K:=K) rfl) rfl qe Jy (Ja (pv 1) (Ja (Yp (v:=V.ref qa) rfl qt rfl) Je))) (fun _=>rfl)) (Jf (JV (PW.pt (ZN (Jb3 (Ur (K:=K) rfl (Jw (Zu (K:=K) rfl) rfl qe Jy (Ja (Jfo (K:=K) rfl (pv 1)) (Ja (Jak (v:=V.ty "int") rfl wI Z0 rfl) Je))) (fun _=>rfl))) (WW (Ur (K:=K) rfl (Jw (Zu (K:=K) rfl) rfl qe Jy (Ja (Jfo (K:=K) rfl (pv 1)) (Ja (Jak (v:=V.ty "bool") rfl wX Jgn rfl) Je))) (fun _=>rfl))))) (Jl (JP (JN (Ja Jx (Ja JZ Je))))) Jz)
  (Jl (JP (JN (Ja Jx (Ja (Jfo (K:=K) rfl (pv 1)) Je)))))) Jz)
  (Jl (JP (JN (Ja (pxK K (JN (Ja Jx (Ja Jx (Ja Jx Je)))) (Jm (Jv (K:=K) rfl) (YG Zt rfl wI Z0 (Ja (Jw (J5 (K:=K) rfl) rfl qe Jy (Ja (pv 1) (Ja (Yp (v:=V.ref qd) rfl qp rfl) Je))) Je)) (Jm WP Jg (YG Zt rfl wI Z0 (Ja (Jw (J5 (K:=K) rfl) rfl qe Jy (Ja (pv 1) (Ja (Yp (v:=V.ref qb) rfl qm rfl) Je))) Je))))) (Ja JZ Je)))))))))),(Jq (Ju Yf)
  (Jq (Jmb (qP.all xO) (fun W=>(Jf8 (fun W=>JhY (Jd (Jb 0) Jk)) W)) (Jir (fun W=>Jis (Jd (Jb 0) Jk))) (Ju (Jb 2)))
  (Jq (Yl (Jr (Ji JdR (Jb 1) Yf)) (Yk (Ye (Jd JG (Jd Yf Jk)))) JF)
  (Jq (Yl (Jca (WZ (Ya (Jd (Jb 1) Jk)))) (Yk (Ye (Jd JG (Jd Yf Jk)))) JF)
  (Jq (Yl (WZ (Uv qB (Jb 1))) (Jq (Yl (ZP (Jca (WZ (JiO Jg4 (JkR xF (Jb 1))))) (WZ (JiO Je3 (JkR xF (Jb 1))))) (Yk (Ye (Jd JG (Jd Yf Jk)))) JF)
  (Yk (Ye (Jd JG (Jd (JkR xF (Jb 1)) Jk))))) JF)
  (Yk (Ye (Jd (Ji UK (Ye (Jd JG (Jd JG (Jd JG Jk)))) (Ji JR (YY Jiv (Jd (Uv qI (Jb 1)) Jk)) (Ji Ja7 Jh (YY Jiv (Jd (Uv qC (Jb 1)) Jk))))) (Jd Yf Jk)))))))))⟩
theorem sc_law_word:FnScope ["cell","menu"] ["cell"] (Jp Vc):=by walk_at "c"
theorem Jbd{f:Qc}{fd:QE}(F:Fun K "_law_word" "_law_word" Vc f fd)(qk:mg "len"=none):FnOk P w K mg base CX0 1 f fd ["cell"] (spE K C 1 J2):=by
 refine Fun.okI F sc_law_word (fun vs H Q E h=>Jde h) (fun cdv A outer s H vs Q E hr h=>?_);have hu:=hr.units;refine⟨_,(ZM (Jfv (i:=1) (ys:=["5","5+","+5","5+-1","5++1","05+1","5+01","-0+1","5+1+","","a+1","5+b","5 +1","+5+1","--5+1"]) 15 sc_law_word.nd rfl (.inl rfl) rfl Je)
  (ZM (PSi.mk (psN 1 sc_law_word.nd (Jm (Jv (K:=K) rfl) (pv 1) (JN (Vo 4 rfl (Ja (Jm (Jv (K:=K) rfl) (Jm (Jv (K:=K) rfl) Jx (Jm JcU Jx Jg)) Jx) (Ja (Jm (Jv (K:=K) rfl) Jx (Jm JcU Jx Jg)) (Ja Jx Je))))))))
  (Jfw (PSi.mk (JP (pxK K (pv 1) (Jm JS (pv 0) (Jw (Yb (K:=K) rfl) rfl qk YK (Ja (pv 1) Je))))))))),?_⟩
 exact Z7 (N:=["cell","menu"]) (Jq (Ju (Ye (VS Jk)))
  (Jq (Ju (Ji JR (Jb 1) (Ye (VS (Jd (Ji JR (Ji JR JG (Ji Jfk JG Jh)) JG) (Jd (Ji JR JG (Ji Jfk JG Jh)) (Jd JG Jk)))))))
  (Yk (Ji UK (Jb 1) (Ji Yj (Jb 0) (YY YU (Jd (Jb 1) Jk))))))) h
theorem Jbm:FnScope ["pairs"] ["pairs"] (Jp Vb):=by walk_at "c"
theorem Jbc{f:Qc}{fd:QE}(F:Fun K "_law_text" "_law_text" Vb f fd)(va:mg "str"=none):FnOk P w K mg base CX0 1 f fd ["pairs"] (spE K C 1 J0) :=
 okE F Jbm rfl fun _ _ _ _ _ _ hr hu=>⟨_,(Jl (JP (Jm (Jv (K:=K) rfl) (YB (K:=K) rfl Q1 LU LV (Ja3 (K:=K) rfl) Jx (Ja (Jm (Jv (K:=K) rfl) (JN (Ja Jx Je)) (Wk (N':=["begin","length"]) (imp:=[none,none]) rfl (piK K (pv 0)) (Jgk rfl rfl) (fun _ _ _ _=>(Wl (K:=K) (n:=2) rfl rfl (YJ (pgN 0 Jhg) (YJ (pgN 1 Jhg) Wm)) rfl rfl)) (fun _ _ _ _=>UN) (fun _ _ _ _=>(Jm (Jv (K:=K) rfl) (Jm (Jv (K:=K) rfl) (Jm (Jv (K:=K) rfl) Jx (YG Zv rfl va Jej (Ja (pv 0) Je))) Jx) (YG Zv rfl va Jej (Ja (pv 1) Je)))))) Je)) Jx))),(Yk (Ji JR (Jap Je9 JG (Jd (Ji JR (Ye (Jd JG Jk)) (Jaq (JkS (Jb 0)) (JeU (VE (Zk 0) (VE (Zk 1) JeT)) rfl) Jda (Ji JR (Ji JR (Ji JR JG (YY Jiw (Jd (Jb 0) Jk))) JG) (YY Jiw (Jd (Jb 1) Jk))) rfl)) Jk)) JG))⟩
theorem sc_law_spoiled:FnScope ["pairs","way","cell","words","at"] ["pairs","way","cell"] (Jp Y9):=by walk_at "c"
theorem WM{f:Qc}{fd:QE}(F:Fun K "_law_spoiled" "_law_spoiled" Y9 f fd)(qk:mg "len"=none)(qA:Cal P w K mg base "_law_word" 1 ["cell"] (spE K C 1 J2))(qr:Cal P w K mg base "_law_text" 1 ["pairs"] (spE K C 1 J0)):FnOk P w K mg base CX0 2 f fd ["pairs","way","cell"] (spE K C 3 Yh) :=
 okE F sc_law_spoiled rfl fun _ _ _ _ _ _ hr hu=>⟨_,(Jf (psN 3 sc_law_spoiled.nd (YB (K:=K) rfl Q1 LI LJ Ja4 (YW VT (JI qr (hrM hr) rfl (Ja (pv 0) Je)) Uo (Up (JcY JaE Jg))) (Ja Jx Je)))
  (Jf (psN 4 sc_law_spoiled.nd (Jm (Jv (K:=K) rfl) Jg (Jm JS (Jm YA (pv 2) Jg) (Jw (Yb (K:=K) rfl) rfl qk YK (Ja (pv 3) Je)))))
  (Jf (JV (Js (Ym (K:=K) rfl hu) (pv 1) Jg (JC _)) (Jl (Uq (YB (K:=K) rfl Gc Ks Kt VJ (pv 3) (Ja (pv 4) (Ja (JI qA (hrM hr) rfl (Ja (pv 2) Je)) Je))))) Jz)
  (Jf (JV (Js (Ym (K:=K) rfl hu) (pv 1) Jg (JC _)) (Jl (JbZ (pxK K (JN (Vo 7 rfl Je)) (Jm JS (pv 2) Jg)) (JbW (pv 3) Jg W0))) Jz)
  (Jf (JV (Js (Ym (K:=K) rfl hu) (pv 1) Jg (JC _)) (Jl (Uq (YB (K:=K) rfl Gc Ks Kt VJ (pv 3) (Ja (pv 4) (Ja Jx Je))))) Jz)
  (Jf (JV (PW.pt (VQ (Js (Ym (K:=K) rfl hu) (pv 1) Jg (JC _)) (UZ (Js JcT (Jw (Yb (K:=K) rfl) rfl qk YK (Ja (pv 3) Je)) Jg (JC _))))) (Jl (JbZ (JI qA (hrM hr) rfl (Ja (pv 2) Je)) (JbW (pv 3) (Jm (Jv (K:=K) rfl) Jg (Jm JS (Jm YA (pv 2) Jg) (Jm WR (Jw (Yb (K:=K) rfl) rfl qk YK (Ja (pv 3) Je)) Jg))) W0))) (Jl (JV (Js (Ym (K:=K) rfl hu) (pv 1) Jg (JC _)) (Jl (Uq (YB (K:=K) rfl Gc Lj Lk ZI (pv 3) (Ja (JI qA (hrM hr) rfl (Ja (pv 2) Je)) Je)))) Jz)))
  (Jl (JP (YB (K:=K) rfl Q1 LU LV (Ja3 (K:=K) rfl) Jx (Ja (pv 3) Je)))))))))),(Jq (Jdn (Jap JcM (WY (Ya (Jd (Jb 0) Jk)) UL (UM (Jh1 Jdm Jh))) (Jd JG Jk)))
  (Jq (Ju (Ji JR Jh (Ji Yj (Ji UI (Jb 2) Jh) (YY YU (Jd (Jb 3) Jk)))))
  (Jq (Yl (Jr (Ji UJ (Jb 1) Jh)) (Jf6 (Jb 4) (Ya (Jd (Jb 2) Jk))) JF)
  (Jq (Yl (Jr (Ji UJ (Jb 1) Jh)) (JaG (Ji UK (Ye (VS Jk)) (Ji Yj (Jb 2) Jh)) Jh) JF)
  (Jq (Yl (Jr (Ji UJ (Jb 1) Jh)) (Jf6 (Jb 4) JG) JF)
  (Jq (Yl (US (Jr (Ji UJ (Jb 1) Jh)) (Jr (Ji Jfi (YY YU (Jd (Jb 3) Jk)) Jh))) (JaG (Ya (Jd (Jb 2) Jk)) (Ji JR Jh (Ji Yj (Ji UI (Jb 2) Jh) (Ji Ja8 (YY YU (Jd (Jb 3) Jk)) Jh)))) (Yl (Jr (Ji UJ (Jb 1) Jh)) (JiV (Ya (Jd (Jb 2) Jk))) JF))
  (Yk (Jap Je9 JG (Jd (Jb 3) Jk)))))))))⟩
theorem Jbl:FnScope ["script","k"] ["script","k"] (Jp Va):=by walk_at "c"
theorem Jbb{f:Qc}{fd:QE}(F:Fun K "_law_cell" "_law_cell" Va f fd)(qk:mg "len"=none):FnOk P w K mg base CX0 1 f fd ["script","k"] (spE K C 2 JO) :=
 okE F Jbl rfl fun _ _ _ _ _ _ hr hu=>⟨_,(Jf (JV (Js WO (pv 1) (Jw (Yb (K:=K) rfl) rfl qk YK (Ja (pv 0) Je)) (JC _)) (Jl (JP (pxK K (pv 0) (pv 1)))) Jz)
  (Jl (JP Jg))),(Jq (Yl (Jr (Ji VL (Jb 1) (YY YU (Jd (Jb 0) Jk)))) (Yk (Ji UK (Jb 0) (Jb 1))) JF)
  (Yk Jh))⟩
theorem sc_law_due:FnScope ["pairs","edge","begin","length"] ["pairs"] (Jp VR):=by walk_at "c"
theorem JbV{f:Qc}{fd:QE}(F:Fun K "_law_due" "_law_due" VR f fd)(qk:mg "len"=none):FnOk P w K mg base CX0 1 f fd ["pairs"] (spE K C 1 J6) :=
 okE F sc_law_due rfl fun _ _ _ _ _ _ hr hu=>⟨_,(Jf (JV (Js JcT (Jw (Yb (K:=K) rfl) rfl qk YK (Ja (pv 0) Je)) Jg (JC _)) (Jl (JP (JN (Ja Jx (Ja JZ Je))))) Jz)
  (Jf (psN 1 sc_law_due.nd JZ)
  (Jf (Jb0 Mx rfl (piK K (pv 0)) (Wl (K:=K) (n:=2) rfl rfl (YJ (UY (i:=2) sc_law_due.nd rfl (.inl rfl)) (YJ (UY (i:=3) sc_law_due.nd rfl (.inl rfl)) Wm)) rfl rfl) (Jf (JV (PW.pt (ZN (Js WO (pv 3) Jg (JC _)) (WW (PW.pt (VQ (Js Jbe (pv 1) JZ (JC _)) (UZ (Js JiE (pv 2) (pv 1) (JC _)))))))) (Jl (JP (JN (Ja Jx (Ja JZ Je))))) Jz)
  (Jl (psN 1 sc_law_due.nd (Jm (Jv (K:=K) rfl) (pv 2) (pv 3))))))
  (Jl (JP (JN (Ja Jx (Ja JZ Je)))))))),(Jq (Yl (Jr (Ji Jfi (YY YU (Jd (Jb 0) Jk)) Jh)) (Yk (Ye (Jd JG (Jd Yf Jk)))) JF)
  (Jq (Ju Yf)
  (Jq (JiW (Jl8 0) (JeU (VE (Zk 2) (VE (Zk 3) JeT)) rfl) (Jq (Yl (ZP (Jr (Ji VL (Jb 3) Jh)) (US (Jr (Ji Wi (Jb 1) Yf)) (Jr (Ji Jhj (Jb 2) (Jb 1))))) (Yk (Ye (Jd JG (Jd Yf Jk)))) JF)
  (Ju (Ji JR (Jb 2) (Jb 3)))))
  (Yk (Ye (Jd JG (Jd Yf Jk)))))))⟩
theorem sc_law_bad_pairs:FnScope ["pairs","way","cell","some","at","start"] ["pairs","way","cell"] (Jp YM):=by walk_at "c"
theorem VM{f:Qc}{fd:QE}(F:Fun K "_law_bad_pairs" "_law_bad_pairs" YM f fd)(qU:mg "range"=none)(qk:mg "len"=none)(wY:mg "list"=none):FnOk P w K mg base CX0 1 f fd ["pairs","way","cell"] (spE K C 3 JA) :=
 okE F sc_law_bad_pairs rfl fun _ _ _ _ _ _ hr hu=>⟨_,(Jf (psN 3 sc_law_bad_pairs.nd (YG (JbF (K:=K) rfl) rfl wY Jgo (Ja (pv 0) Je)))
  (Jf (JV (PW.pt (VQ (Js (Ym (K:=K) rfl hu) (pv 1) Jg (JC _)) (UZ (Js (WQ (K:=K) rfl hu) (pv 3) (JN Je) (JC _))))) (Jf (psN 4 sc_law_bad_pairs.nd (Jm JS (pv 2) (Jw (Yb (K:=K) rfl) rfl qk YK (Ja (pv 3) Je))))
  (Jl (JbZ (VN (Ja (pxK K (pxK K (pv 3) (pv 4)) Jg) (Ja Jg Je))) (JbW (pv 3) (pv 4) W0)))) Jz)
  (Jf (JV (PW.pt (VQ (Js (Ym (K:=K) rfl hu) (pv 1) Jg (JC _)) (UZ (Js (WQ (K:=K) rfl hu) (pv 3) (JN Je) (JC _))))) (Jf (psN 4 sc_law_bad_pairs.nd (Jm JS (pv 2) (Jw (Yb (K:=K) rfl) rfl qk YK (Ja (pv 3) Je))))
  (Jl (Uq (YB (K:=K) rfl Gc Ks Kt VJ (pv 3) (Ja (pv 4) (Ja (VN (Ja (Jm WR (Jm WR (pxK K (pxK K (pv 3) (pv 4)) Jg) Jg) (Jm JS (Jm YA (pv 2) Jg) Jg)) (Ja (Jm (Jv (K:=K) rfl) Jg (Jm JS (Jm YA (pv 2) Jg) Jg)) Je))) Je)))))) Jz)
  (Jf (JV (Js (Ym (K:=K) rfl hu) (pv 1) Jg (JC _)) (Jf (Jam (i:=5) sc_law_bad_pairs.nd rfl (.inr rfl) Jg)
  (Jf (JV (Js (WQ (K:=K) rfl hu) (pv 3) (JN Je) (JC _)) (Jl (Jam (i:=5) sc_law_bad_pairs.nd rfl (.inr rfl) (Jm (Jv (K:=K) rfl) (Jm (Jv (K:=K) rfl) (pxK K (pxK K (pv 3) (JcY JaE Jg)) Jg) (pxK K (pxK K (pv 3) (JcY JaE Jg)) Jg)) Jg))) Jz)
  (Jl (psN 3 sc_law_bad_pairs.nd (Jm (Jv (K:=K) rfl) (pv 3) (Wk (N':=["k","start"]) (imp:=[none,some 5]) rfl (ZL rfl qU (Ja (Jm WR Jg (Jw (Yb (K:=K) rfl) rfl qk YK (Ja (pv 3) Je))) Je)) (Jmf (own:=["k"]) (fr:=[("start",5)]) rfl rfl rfl ⟨rfl,trivial⟩ rfl ⟨⟨rfl,rfl,rfl⟩,trivial⟩) (fun _ _ _ _=>(pgN 0 Jmq)) (fun _ _ _ _=>UN) (fun _ _ _ _=>(VN (Ja (Jm (Jv (K:=K) rfl) (pv 1) (Jm WP Jg (pv 0))) (Ja Jg Je)))))))))) Jz)
  (Jl (JP (pv 3))))))),(Jq (Jdn (YY Ji7 (Jd (Jb 0) Jk)))
  (Jq (Yl (US (Jr (Ji UJ (Jb 1) Jh)) (Jr (Ji Jfj (Jb 3) (Ye Jk)))) (Jq (Ju (Ji Yj (Jb 2) (YY YU (Jd (Jb 3) Jk))))
  (JaG (Jbj (Jd (Ji UK (Ji UK (Jb 3) (Jb 4)) Jh) (Jd Jh Jk))) (Jb 4))) JF)
  (Jq (Yl (US (Jr (Ji UJ (Jb 1) Jh)) (Jr (Ji Jfj (Jb 3) (Ye Jk)))) (Jq (Ju (Ji Yj (Jb 2) (YY YU (Jd (Jb 3) Jk))))
  (Jf6 (Jb 4) (Jbj (Jd (Ji Ja8 (Ji Ja8 (Ji UK (Ji UK (Jb 3) (Jb 4)) Jh) Jh) (Ji Yj (Ji UI (Jb 2) Jh) Jh)) (Jd (Ji JR Jh (Ji Yj (Ji UI (Jb 2) Jh) Jh)) Jk))))) JF)
  (Jq (Yl (Jr (Ji UJ (Jb 1) Jh)) (Jq (Ju Jh)
  (Jq (Yl (Jr (Ji Jfj (Jb 3) (Ye Jk))) (Ju (Ji JR (Ji JR (Ji UK (Ji UK (Jb 3) (Jh1 Jdm Jh)) Jh) (Ji UK (Ji UK (Jb 3) (Jh1 Jdm Jh)) Jh)) Jh)) JF)
  (Jdn (Ji JR (Jb 3) (Jaq (JiM (Jd (Ji Ja8 Jh (YY YU (Jd (Jb 3) Jk))) Jk)) (Zk 0) Jda (Jbj (Jd (Ji JR (Jb 1) (Ji Ja7 Jh (Jb 0))) (Jd Jh Jk))) rfl))))) JF)
  Jf7))))⟩
theorem sc_law_spread:FnScope ["script","at","many","span","side","place","pairs","k","length"] ["script","at","many","span","side"] (Jp Us):=by walk_at "c"
theorem Zl{f:Qc}{fd:QE}(F:Fun K "_law_spread" "_law_spread" Us f fd)(qU:mg "range"=none)(qg:Cal P w K mg base "_law_cell" 1 ["script","k"] (spE K C 2 JO)):FnOk P w K mg base CX0 2 f fd ["script","at","many","span","side"] (spE K C 5 Yu) :=
 okE F sc_law_spread rfl fun _ _ _ _ _ _ hr hu=>⟨_,(Jf (psN 5 sc_law_spread.nd (Jm WR (Jm JS (JI qg (hrM hr) rfl (Ja (pv 0) (Ja (pv 1) Je))) (Jm (Jv (K:=K) rfl) (Jm WP Jg (pv 4)) Jg)) (pv 4)))
  (Jf (psN 6 sc_law_spread.nd (JN Je))
  (Jf (Jb0 Mx rfl (ZL rfl qU (Ja (pv 2) Je)) (UY (i:=7) sc_law_spread.nd rfl (.inl rfl)) (Jf (psN 8 sc_law_spread.nd (Jm (Jv (K:=K) rfl) Jg (Jm JS (JI qg (hrM hr) rfl (Ja (pv 0) (Ja (Jm (Jv (K:=K) rfl) (Jm (Jv (K:=K) rfl) (pv 1) Jg) (Jm WP Jg (pv 7))) Je))) (pv 3))))
  (Jf (Uq (YB (K:=K) rfl Gc Lj Lk ZI (pv 6) (Ja (VN (Ja (pv 5) (Ja (pv 8) Je))) Je)))
  (Jl (psN 5 sc_law_spread.nd (Jm (Jv (K:=K) rfl) (Jm (Jv (K:=K) rfl) (Jm (Jv (K:=K) rfl) (pv 5) (pv 8)) Jg) (Jm JS (JI qg (hrM hr) rfl (Ja (pv 0) (Ja (Jm (Jv (K:=K) rfl) (Jm (Jv (K:=K) rfl) (pv 1) Jg) (Jm WP Jg (pv 7))) Je))) (pv 3))))))))
  (Jl (JP (pv 6)))))),(Jq (Ju (Ji Ja8 (Ji Yj (Ya (Jd (Jb 0) (Jd (Jb 1) Jk))) (Ji JR (Ji Ja7 Jh (Jb 4)) Jh)) (Jb 4)))
  (Jq (Jdn (Ye Jk))
  (Jq (JiW (JiM (Jd (Jb 2) Jk)) (Zk 7) (Jq (Ju (Ji JR Jh (Ji Yj (Ya (Jd (Jb 0) (Jd (Ji JR (Ji JR (Jb 1) Jh) (Ji Ja7 Jh (Jb 7))) Jk))) (Jb 3))))
  (Jq (JiV (Jbj (Jd (Jb 5) (Jd (Jb 8) Jk))))
  (Ju (Ji JR (Ji JR (Ji JR (Jb 5) (Jb 8)) Jh) (Ji Yj (Ya (Jd (Jb 0) (Jd (Ji JR (Ji JR (Jb 1) Jh) (Ji Ja7 Jh (Jb 7))) Jk))) (Jb 3)))))))
  Jf7)))⟩
theorem sc_law_pairs:FnScope ["script","lead","span","side"] ["script"] (Jp UR):=by walk_at "c"
theorem Jah{f:Qc}{fd:QE}(F:Fun K "_law_pairs" "_law_pairs" UR f fd)(qH:Cal P w K mg base "_law_spread" 2 ["script","at","many","span","side"] (spE K C 5 Yu))(qg:Cal P w K mg base "_law_cell" 1 ["script","k"] (spE K C 2 JO)):FnOk P w K mg base CX0 3 f fd ["script"] (spE K C 1 Yn) :=
 okE F sc_law_pairs rfl fun _ _ _ _ _ _ hr hu=>⟨_,(Jf (psN 1 sc_law_pairs.nd (JI qg (hrM hr) rfl (Ja (pv 0) (Ja Jg Je))))
  (Jf (psN 2 sc_law_pairs.nd (pxK K (JN (Ja Jg (Ja Jg (Ja Jg (Ja (Jm Jai Jg Jg) Je))))) (Jm JS (Jm YA (pv 1) Jg) Jg)))
  (Jf (psN 3 sc_law_pairs.nd (pxK K (JN (Ja Jg (Ja Jg (Ja (Jm Jai Jg Jg) Je)))) (Jm JS (Jm YA (pv 1) Jg) Jg)))
  (Jl (JP (JI qH (hrM hr) rfl (Ja (pv 0) (Ja Jg (Ja (Jm JS (pv 1) Jg) (Ja (pv 2) (Ja (pv 3) Je))))))))))),(Jq (Ju (Ya (Jd (Jb 0) (Jd Jh Jk))))
  (Jq (Ju (Ji UK (Ye (Jd Jh (Jd Jh (Jd Jh (Jd (Ji JcS Jh Jh) Jk))))) (Ji Yj (Ji UI (Jb 1) Jh) Jh)))
  (Jq (Ju (Ji UK (Ye (Jd Jh (Jd Jh (Jd (Ji JcS Jh Jh) Jk)))) (Ji Yj (Ji UI (Jb 1) Jh) Jh)))
  (Yk (Ya (Jd (Jb 0) (Jd Jh (Jd (Ji Yj (Jb 1) Jh) (Jd (Jb 2) (Jd (Jb 3) Jk))))))))))⟩
theorem sc_law:FnScope ["script","pairs","cell","due","rest","more","text"] ["script"] (Jp Vr):=by walk_at "c"
theorem JjZ{f:Qc}{fd:QE}(F:Fun K "law" "law" Vr f fd)(vi:mg "sum"=none)(qM:Cal P w K mg base "_law_found" 5 ["text"] (spE K C 1 JY))(qG:Cal P w K mg base "_law_spoiled" 2 ["pairs","way","cell"] (spE K C 3 Yh))(qr:Cal P w K mg base "_law_text" 1 ["pairs"] (spE K C 1 J0))(qg:Cal P w K mg base "_law_cell" 1 ["script","k"] (spE K C 2 JO))(wc:Cal P w K mg base "_law_due" 1 ["pairs"] (spE K C 1 J6))(qx:Cal P w K mg base "_law_bad_pairs" 1 ["pairs","way","cell"] (spE K C 3 JA))(qN:Cal P w K mg base "_law_pairs" 3 ["script"] (spE K C 1 Yn)):FnOk P w K mg base CX0 6 f fd ["script"] (spE K C 1 Jey) :=
 okE F sc_law rfl fun _ _ _ _ _ _ hr hu=>⟨_,(Jf (psN 1 sc_law.nd (JI qN (hrM hr) rfl (Ja (pv 0) Je)))
  (Jf (psN 2 sc_law.nd (Jw (Jdv (K:=K) rfl rfl) rfl vi Ji5 (Ja (pv 0) Je)))
  (Jf (psN 1 sc_law.nd (JI qx (hrM hr) rfl (Ja (pv 1) (Ja (Jm JS (pv 2) Jg) (Ja (Jm JS (Jm YA (pv 2) Jg) (Jm Jai Jg Jg)) Je)))))
  (Jf (psN 3 sc_law.nd (JI wc (hrM hr) rfl (Ja (pv 1) Je)))
  (Jf (psN 4 sc_law.nd (Jm JS (JI qg (hrM hr) rfl (Ja (pv 0) (Ja Jg Je))) (Jm Jai Jg Jg)))
  (Jf (psN 5 sc_law.nd (pxK K (JN (Vo 6 rfl Je)) (Jm JS (Jm YA (pv 4) Jg) Jg)))
  (Jf (psN 6 sc_law.nd (JI qr (hrM hr) rfl (Ja (pv 1) Je)))
  (Jf (JV (PW.pt (ZN (Js (Ym (K:=K) rfl hu) (Jm JS (pv 4) Jg) Jg (JC _)) (WW (Js (Ym (K:=K) rfl hu) (Jm JS (pv 4) Jg) Jg (JC _))))) (Jf (psN 6 sc_law.nd (Jm (Jv (K:=K) rfl) (pv 6) (pv 5)))
  (Jl (psN 3 sc_law.nd (JN (Ja Jx (Ja Jg Je)))))) Jz)
  (Jf (JV (Js (Jhq (K:=K) rfl) (Jm JS (pv 4) Jg) (JN (Ja Jg (Ja Jg (Ja Jg (Ja Jg Je))))) rfl) (Jf (psN 6 sc_law.nd (Jm (Jv (K:=K) rfl) (JI qG (hrM hr) rfl (Ja (pv 1) (Ja (Jm JS (pv 4) Jg) (Ja (Jm YA (pv 4) Jg) Je)))) Jx))
  (Jf (psN 3 sc_law.nd (JN (Ja Jx (Ja Jg Je))))
  (Jl (JV (Js (Ym (K:=K) rfl hu) (Jm JS (Jm YA (pv 4) Jg) Jg) Jg (JC _)) (Jl (psN 6 sc_law.nd (Jm (Jv (K:=K) rfl) (pv 6) (pv 5)))) Jz)))) Jz)
  (Jf (JV (Js (Ym (K:=K) rfl hu) (Jm JS (pv 4) Jg) Jg (JC _)) (Jf (psN 6 sc_law.nd (YW VT (pv 6) Uo (Up (JcY JaE Jg))))
  (Jl (psN 3 sc_law.nd (JN (Ja Jx (Ja Jg Je)))))) Jz)
  (Jf (JV (Js (Ym (K:=K) rfl hu) (Jm JS (pv 4) Jg) Jg (JC _)) (Jf (psN 6 sc_law.nd (pxK K (JN (Vo 3 rfl Je)) (Jm JS (Jm YA (pv 4) Jg) Jg)))
  (Jl (psN 3 sc_law.nd (JN (Ja Jx (Ja Jg Je)))))) Jz)
  (Jf (JV (Js (Ym (K:=K) rfl hu) (Jm JS (pv 4) Jg) Jg (JC _)) (Jf (psN 6 sc_law.nd (Jm (Jv (K:=K) rfl) Jx (pv 6)))
  (Jl (psN 3 sc_law.nd (JN (Ja Jx (Ja Jg Je)))))) Jz)
  (Jl (JP (Jal (Ym (K:=K) rfl hu) (JI qM (hrM hr) rfl (Ja (pv 6) Je)) (pv 3) (JC _)))))))))))))))),(Jq (Ju (Ya (Jd (Jb 0) Jk)))
  (Jq (Ju (YY Jlo (Jd (Jb 0) Jk)))
  (Jq (Ju (Ya (Jd (Jb 1) (Jd (Ji Yj (Jb 2) Jh) (Jd (Ji Yj (Ji UI (Jb 2) Jh) (Ji JcS Jh Jh)) Jk)))))
  (Jq (Ju (Ya (Jd (Jb 1) Jk)))
  (Jq (Ju (Ji Yj (Ya (Jd (Jb 0) (Jd Jh Jk))) (Ji JcS Jh Jh)))
  (Jq (Ju (Ji UK (Ye (VS Jk)) (Ji Yj (Ji UI (Jb 4) Jh) Jh)))
  (Jq (Ju (Ya (Jd (Jb 1) Jk)))
  (Jq (Yl (ZP (Jr (Ji UJ (Ji Yj (Jb 4) Jh) Jh)) (Jr (Ji UJ (Ji Yj (Jb 4) Jh) Jh))) (Jq (Ju (Ji JR (Jb 6) (Jb 5)))
  (Ju (Ye (Jd JG (Jd Jh Jk))))) JF)
  (Jq (Yl (Jr (Ji Jmr (Ji Yj (Jb 4) Jh) (Ye (Jd Jh (Jd Jh (Jd Jh (Jd Jh Jk))))))) (Jq (Ju (Ji JR (Ya (Jd (Jb 1) (Jd (Ji Yj (Jb 4) Jh) (Jd (Ji UI (Jb 4) Jh) Jk)))) JG))
  (Jq (Ju (Ye (Jd JG (Jd Jh Jk))))
  (Yl (Jr (Ji UJ (Ji Yj (Ji UI (Jb 4) Jh) Jh) Jh)) (Ju (Ji JR (Jb 6) (Jb 5))) JF))) JF)
  (Jq (Yl (Jr (Ji UJ (Ji Yj (Jb 4) Jh) Jh)) (Jq (Ju (WY (Jb 6) UL (UM (Jh1 Jdm Jh))))
  (Ju (Ye (Jd JG (Jd Jh Jk))))) JF)
  (Jq (Yl (Jr (Ji UJ (Ji Yj (Jb 4) Jh) Jh)) (Jq (Ju (Ji UK (Ye (VS Jk)) (Ji Yj (Ji UI (Jb 4) Jh) Jh)))
  (Ju (Ye (Jd JG (Jd Jh Jk))))) JF)
  (Jq (Yl (Jr (Ji UJ (Ji Yj (Jb 4) Jh) Jh)) (Jq (Ju (Ji JR JG (Jb 6)))
  (Ju (Ye (Jd JG (Jd Jh Jk))))) JF)
  (Yk (Ji UJ (Ya (Jd (Jb 6) Jk)) (Jb 3)))))))))))))))⟩
end
theorem vl1{α:Type}{us:List α}(h:us.length=1):∃a,us=[a]:=match us,h with|[a],_=>⟨a,rfl⟩
theorem vl2{α:Type}{us:List α}(h:us.length=2):∃a b,us=[a,b]:=match us,h with|[a,b],_=>⟨a,b,rfl⟩
theorem vl3{α:Type}{us:List α}(h:us.length=3):∃a b c,us=[a,b,c]:=match us,h with|[a,b,c],_=>⟨a,b,c,rfl⟩
theorem vl5{α:Type}{us:List α}(h:us.length=5):∃a b c d e,us=[a,b,c,d,e]:=match us,h with|[a,b,c,d,e],_=>⟨a,b,c,d,e,rfl⟩
local macro_rules | `(tactic| walk_at "b")=>`(tactic| (intro _ _ _ _ _ _ us hl;first | (obtain⟨_,e⟩:=vl1 hl;subst e;rfl) | (obtain⟨_,_,e⟩:=vl2 hl;subst e;rfl) | (obtain⟨_,_,_,e⟩:=vl3 hl;subst e;rfl) | (obtain⟨_,_,_,_,_,e⟩:=vl5 hl;subst e;rfl)))
theorem all_mk{l:PySem.W.OpenLaw}{w:QC}{K:Qn}{h:QI}{mg:Str->Option Qa}{fa:Qc}{C:Qc}{f17:Qc}{od17 an17:Option Qc}{sl17:Array (Option Qa)}{oc17 kV17 dc17 pm17 cd17 ct17:Qa}{f1 f2 f3 f4 f5 f6 f7 f8 f9 f10 f11 f12 f13 f14 f15 f16:Qc}{d1 d2 d3 d4 d5 d6 d7 d8 d9 d10 d11 d12 d13 d14 d15 d16:QE}{qf:Qc}{qy:Qc}{qo:Qc}{ql:Qc}{qi:Qc}{qj:Qc}{qa:Qc}{qb:Qc}{qd:Qc}{fI_BadText:Qc}{dI_BadText:QE}{wB:Tok}{vc:Tok}{wM:Tok}(X:K.In h)(G:h.Ns mainGlobals mg)(hfa:mg "law"=some (.ref fa))
 (aC:nsIn K mainGlobals "Row"=some (some (.ref C)))
 (a1:nsIn K mainGlobals "_law_alone"=some (some (.ref f1)))
 (F1:Fun K "_law_alone" "_law_alone" UP f1 d1)
 (a2:nsIn K mainGlobals "check_stretches"=some (some (.ref f2)))
 (F2:Fun K "check_stretches" "check_stretches" YC f2 d2)
 (a3:findIn K (.ref C) "__init__"=some (some (.ref f3)))
 (i3:isFn K (.ref f3)=true)
 (F3:Fun K "__init__" "Row.__init__" U9 f3 d3)
 (a4:nsIn K mainGlobals "number_told"=some (some (.ref f4)))
 (F4:Fun K "number_told" "number_told" Ua f4 d4)
 (a5:nsIn K mainGlobals "stretch_told"=some (some (.ref f5)))
 (F5:Fun K "stretch_told" "stretch_told" YZ f5 d5)
 (a6:nsIn K mainGlobals "stretches_told"=some (some (.ref f6)))
 (F6:Fun K "stretches_told" "stretches_told" YH f6 d6)
 (a7:nsIn K mainGlobals "read"=some (some (.ref f7)))
 (F7:Fun K "read" "read" Jb9 f7 d7)
 (a8:nsIn K mainGlobals "_law_found"=some (some (.ref f8)))
 (F8:Fun K "_law_found" "_law_found" UQ f8 d8)
 (a9:nsIn K mainGlobals "_law_word"=some (some (.ref f9)))
 (F9:Fun K "_law_word" "_law_word" Vc f9 d9)
 (a10:nsIn K mainGlobals "_law_text"=some (some (.ref f10)))
 (F10:Fun K "_law_text" "_law_text" Vb f10 d10)
 (a11:nsIn K mainGlobals "_law_spoiled"=some (some (.ref f11)))
 (F11:Fun K "_law_spoiled" "_law_spoiled" Y9 f11 d11)
 (a12:nsIn K mainGlobals "_law_cell"=some (some (.ref f12)))
 (F12:Fun K "_law_cell" "_law_cell" Va f12 d12)
 (a13:nsIn K mainGlobals "_law_due"=some (some (.ref f13)))
 (F13:Fun K "_law_due" "_law_due" VR f13 d13)
 (a14:nsIn K mainGlobals "_law_bad_pairs"=some (some (.ref f14)))
 (F14:Fun K "_law_bad_pairs" "_law_bad_pairs" YM f14 d14)
 (a15:nsIn K mainGlobals "_law_spread"=some (some (.ref f15)))
 (F15:Fun K "_law_spread" "_law_spread" Us f15 d15)
 (a16:nsIn K mainGlobals "_law_pairs"=some (some (.ref f16)))
 (F16:Fun K "_law_pairs" "_law_pairs" UR f16 d16)
 (a17:nsIn K mainGlobals "law"=some (some (.ref f17)))
 (l17:K.lookup f17=some ⟨oc17,od17,.func (fnOf "law" "law" (Y5 Vr) (Yx Vr) (Jp Vr) .none kV17 dc17 pm17 an17 cd17 ct17),sl17⟩)
 (c17:codeIn K cd17 "law"=true)
 (k17:keepIn K (.ref f17)=true)
 (pg:plainGet K C Q3=true)
 (hd:hasDictIn K C=true)
 (po:plainOver K C=true)
 (sa:findIn K (.ref C) "__setattr__"=some (some (.builtin "object.__setattr__")))
 (mk:makesIn K C=true)
 (kc:keepIn K (.ref C)=true)
 (nS:findIn K (.ref C) "stretches"=some none)
 (n_LumpError:nsIn K mainGlobals "LumpError"=some (some (.ref qf)))
 (n_NoRow:nsIn K mainGlobals "NoRow"=some (some (.ref qy)))
 (n_Unlike:nsIn K mainGlobals "Unlike"=some (some (.ref qo)))
 (n_BadDeed:nsIn K mainGlobals "BadDeed"=some (some (.ref ql)))
 (n_BadTable:nsIn K mainGlobals "BadTable"=some (some (.ref qi)))
 (n_BadSeats:nsIn K mainGlobals "BadSeats"=some (some (.ref qj)))
 (n_BadText:nsIn K mainGlobals "BadText"=some (some (.ref qa)))
 (n_TooMany:nsIn K mainGlobals "TooMany"=some (some (.ref qb)))
 (n_BadRow:nsIn K mainGlobals "BadRow"=some (some (.ref qd)))
 (aI_BadText:findIn K (.ref qa) "__init__"=some (some (.ref fI_BadText)))
 (FI_BadText:Fun K "__init__" "BadText.__init__" YX fI_BadText dI_BadText)
 (xi_BadText:Jct K qa fI_BadText=true)
 (xn_BadText:isFn K (.ref fI_BadText)=true)
 (xv_BadText:JcW K qa=true)
 (xt_BadText:takerIn K qa "at"=some none)
 (xs_BadText:findIn K (.ref qa) "__setattr__"=some (some (.builtin "object.__setattr__")))
 (xa_BadText:findIn K (.ref qa) "at"=some none)
 (lb1:PySem.W.readsIn K qf (.type "type")=true)
 (lb2:PySem.W.findCls K (.ref qf) (.type "type") "__init__"=some (.val (.builtin "ValueError.__init__")))
 (lb3:specialIn K (.ref qf) "__getattribute__"=some (some (.builtin "type.__getattribute__")))
 (xo_BadRow:excIn K qd VEm "ValueError.__new__"=true)
 (xga_BadRow:findIn K (.ref qd) "__getattribute__"=some (some (.builtin "BaseException.__getattribute__")))
 (xgn_BadRow:findIn K (.ref qd) "__getattr__"=some none)
 (xmb_BadRow:mroIn K qd (.type "BaseException")=some true)
 (xh_BadRow:hasDictIn K qd=true)
 (xf_BadRow:findIn K (.ref qd) "__class__"=some (some (.builtin "object.__class__")))
 (xm_BadRow:mroIn K qd (.type "object")=some true)
 (xga_BadText:findIn K (.ref qa) "__getattribute__"=some (some (.builtin "BaseException.__getattribute__")))
 (xgn_BadText:findIn K (.ref qa) "__getattr__"=some none)
 (xmb_BadText:mroIn K qa (.type "BaseException")=some true)
 (xh_BadText:hasDictIn K qa=true)
 (xf_BadText:findIn K (.ref qa) "__class__"=some (some (.builtin "object.__class__")))
 (xm_BadText:mroIn K qa (.type "object")=some true)
 (xo_TooMany:excIn K qb VEm "ValueError.__new__"=true)
 (xga_TooMany:findIn K (.ref qb) "__getattribute__"=some (some (.builtin "BaseException.__getattribute__")))
 (xgn_TooMany:findIn K (.ref qb) "__getattr__"=some none)
 (xmb_TooMany:mroIn K qb (.type "BaseException")=some true)
 (xh_TooMany:hasDictIn K qb=true)
 (xf_TooMany:findIn K (.ref qb) "__class__"=some (some (.builtin "object.__class__")))
 (xm_TooMany:mroIn K qb (.type "object")=some true)
 (xg1:specialIn K (.builtin "object.__class__") "__get__"=some (some (.builtin "getset_descriptor.__get__")))
 (xg2:takesIn K (.builtin "object.__class__")=some true)
 (vd:kitOne K (.ref qd) (.type "ValueError")=some true)
 (wZ:kitOne K (.ref qa) (.type "ValueError")=some true)
 (w4:kitOne K (.ref qb) (.type "ValueError")=some true)
 (qV:kitOne K (.ref qd) (.ref qf)=some true)
 (qQ:kitOne K (.ref qa) (.ref qf)=some true)
 (qR:kitOne K (.ref qb) (.ref qf)=some true)
 (wS:kitOne K (.type "NoneType") (.ref qf)=some false)
 (wJ:kitOne K (.ref qd) (.ref qy)=some false)
 (wC:kitOne K (.ref qa) (.ref qy)=some false)
 (wE:kitOne K (.ref qb) (.ref qy)=some false)
 (vj:kitOne K (.type "NoneType") (.ref qy)=some false)
 (wF:kitOne K (.ref qd) (.ref qo)=some false)
 (wp:kitOne K (.ref qa) (.ref qo)=some false)
 (wq:kitOne K (.ref qb) (.ref qo)=some false)
 (ve:kitOne K (.type "NoneType") (.ref qo)=some false)
 (wt:kitOne K (.ref qd) (.ref ql)=some false)
 (wd:kitOne K (.ref qa) (.ref ql)=some false)
 (we:kitOne K (.ref qb) (.ref ql)=some false)
 (w5:kitOne K (.type "NoneType") (.ref ql)=some false)
 (wf:kitOne K (.ref qd) (.ref qi)=some false)
 (qW:kitOne K (.ref qa) (.ref qi)=some false)
 (qX:kitOne K (.ref qb) (.ref qi)=some false)
 (wV:kitOne K (.type "NoneType") (.ref qi)=some false)
 (wg:kitOne K (.ref qd) (.ref qj)=some false)
 (qY:kitOne K (.ref qa) (.ref qj)=some false)
 (qZ:kitOne K (.ref qb) (.ref qj)=some false)
 (wW:kitOne K (.type "NoneType") (.ref qj)=some false)
 (wu:kitOne K (.ref qd) (.ref qa)=some false)
 (wj:kitOne K (.ref qa) (.ref qa)=some true)
 (wk:kitOne K (.ref qb) (.ref qa)=some false)
 (w6:kitOne K (.type "NoneType") (.ref qa)=some false)
 (wv:kitOne K (.ref qd) (.ref qb)=some false)
 (wm:kitOne K (.ref qa) (.ref qb)=some false)
 (wn:kitOne K (.ref qb) (.ref qb)=some true)
 (w9:kitOne K (.type "NoneType") (.ref qb)=some false)
 (wG:kitOne K (.ref qd) (.ref qd)=some true)
 (ww:kitOne K (.ref qa) (.ref qd)=some false)
 (wx:kitOne K (.ref qb) (.ref qd)=some false)
 (vf:kitOne K (.type "NoneType") (.ref qd)=some false)
 (q0:exmOne K (.ref qd) (.ref qf)=some true)
 (qS:exmOne K (.ref qa) (.ref qf)=some true)
 (qT:exmOne K (.ref qb) (.ref qf)=some true)
 (wT:nsIn K mainGlobals "isinstance"=some none)
 (wU:nsIn K mainGlobals "ValueError"=some none)
 (vp:nsIn K mainGlobals "len"=some none)
 (vk:nsIn K mainGlobals "tuple"=some none)
 (vq:nsIn K mainGlobals "int"=some none)
 (vt:nsIn K mainGlobals "all"=some none)
 (vn:nsIn K mainGlobals "bool"=some none)
 (vw:nsIn K mainGlobals "str"=some none)
 (vm:nsIn K mainGlobals "range"=some none)
 (vo:nsIn K mainGlobals "list"=some none)
 (vx:nsIn K mainGlobals "sum"=some none)
 (wH:nsIn K mainGlobals "MOST_STRETCHES"=some (some (.int 30 wB)))
 (vg:nsIn K mainGlobals "FIGURES"=some (some (.str "0123456789" vc)))
 (wN:nsIn K mainGlobals "MOST_FIGURES"=some (some (.int 200 wM)))
:∃fd:QE,(∀(s:Qd) (v:Qa),BindsTo s fd ⟨[v],[]⟩ [("script",v)])/\∀base:QI,K.In base->base.Ns mainGlobals mg->FnOk l.prog w K mg base CX0 6 fa fd ["script"] (Jdg K):=by
 have e:=hfa.symm.trans (mg_of X G a17);cases e
 have T:RowC K C:=⟨⟨pg,hd,po,sa⟩,nS⟩
 have vy:=mg_of X G aC
 have qh:=mg_of X G n_LumpError
 have wO:=mg_of X G n_NoRow
 have wK:=mg_of X G n_Unlike
 have wy:=mg_of X G n_BadDeed
 have q4:=mg_of X G n_BadTable
 have wa:=mg_of X G n_BadSeats
 have qt:=mg_of X G n_BadText
 have qm:=mg_of X G n_TooMany
 have qp:=mg_of X G n_BadRow
 have qD:AtX K "BadRow" qd:=⟨⟨n_BadRow,xga_BadRow,xgn_BadRow,xmb_BadRow,xh_BadRow,xf_BadRow,xm_BadRow⟩,xo_BadRow⟩
 have qJ:AtX K "TooMany" qb:=⟨⟨n_TooMany,xga_TooMany,xgn_TooMany,xmb_TooMany,xh_TooMany,xf_TooMany,xm_TooMany⟩,xo_TooMany⟩
 have qw:AtY K "BadText" qa:=⟨n_BadText,xga_BadText,xgn_BadText,xmb_BadText,xh_BadText,xf_BadText,xm_BadText⟩
 have xF:Jdo K ["BadText"]:=Jeh qw xa_BadText (Jgi)
 have xG:ExcG K:=⟨xg1,xg2⟩
 have xO:OwnL K ["BadRow","BadText","TooMany"] [qd,qa,qb]:=WS qD.toAtY (WS qw (WS qJ.toAtY (Jht)))
 have iV:IsiV K ["BadRow","BadText","TooMany"]:=Jg1 xO xG (WI vd (WI wZ (WI w4 (Jg5))))
 have qO:IsiN K ["BadRow","BadText","TooMany"] "LumpError" qf:=YQ xO xG (JB qV (by decide +kernel) (JB qQ (by decide +kernel) (JB qR (by decide +kernel) (YR)))) wS
 have wP:IsiN K ["BadRow","BadText","TooMany"] "NoRow" qy:=YQ xO xG (JB wJ (by decide +kernel) (JB wC (by decide +kernel) (JB wE (by decide +kernel) (YR)))) vj
 have wL:IsiN K ["BadRow","BadText","TooMany"] "Unlike" qo:=YQ xO xG (JB wF (by decide +kernel) (JB wp (by decide +kernel) (JB wq (by decide +kernel) (YR)))) ve
 have wz:IsiN K ["BadRow","BadText","TooMany"] "BadDeed" ql:=YQ xO xG (JB wt (by decide +kernel) (JB wd (by decide +kernel) (JB we (by decide +kernel) (YR)))) w5
 have q9:IsiN K ["BadRow","BadText","TooMany"] "BadTable" qi:=YQ xO xG (JB wf (by decide +kernel) (JB qW (by decide +kernel) (JB qX (by decide +kernel) (YR)))) wV
 have wb:IsiN K ["BadRow","BadText","TooMany"] "BadSeats" qj:=YQ xO xG (JB wg (by decide +kernel) (JB qY (by decide +kernel) (JB qZ (by decide +kernel) (YR)))) wW
 have qB:IsiN K ["BadRow","BadText","TooMany"] "BadText" qa:=YQ xO xG (JB wu (by decide +kernel) (JB wj (by decide +kernel) (JB wk (by decide +kernel) (YR)))) w6
 have qC:IsiN K ["BadRow","BadText","TooMany"] "TooMany" qb:=YQ xO xG (JB wv (by decide +kernel) (JB wm (by decide +kernel) (JB wn (by decide +kernel) (YR)))) w9
 have qI:IsiN K ["BadRow","BadText","TooMany"] "BadRow" qd:=YQ xO xG (JB wG (by decide +kernel) (JB ww (by decide +kernel) (JB wx (by decide +kernel) (YR)))) vf
 have qP:ExmL K qf [qd,qa,qb]:=Wx q0 (Wx qS (Wx qT (JgC)))
 have qe:=mg_none_of X G wT
 have qK:=mg_none_of X G wU
 have qk:=mg_none_of X G vp
 have wQ:=mg_none_of X G vk
 have wI:=mg_none_of X G vq
 have vh:=mg_none_of X G vt
 have wX:=mg_none_of X G vn
 have va:=mg_none_of X G vw
 have qU:=mg_none_of X G vm
 have wY:=mg_none_of X G vo
 have vi:=mg_none_of X G vx
 have qu:GV mg "MOST_STRETCHES" (.int 30):=⟨_,mg_of X G wH,⟨_,rfl⟩⟩
 have wA:GV mg "FIGURES" (.str "0123456789"):=⟨_,mg_of X G vg,⟨_,rfl⟩⟩
 have qE:GV mg "MOST_FIGURES" (.int 200):=⟨_,mg_of X G wN,⟨_,rfl⟩⟩
 have F17:=JeQ (st:=Vr) l17 c17 k17;refine⟨fnOf "law" "law" (Y5 Vr) (Yx Vr) (Jp Vr) .none kV17 dc17 pm17 an17 cd17 ct17,fun s v=>.of_eq rfl,fun base _ _=>?_⟩
 have Z:PB l.prog w base:=⟨⟩
 have T_BadText:IniC K qa fI_BadText qf:=⟨xi_BadText,xn_BadText,xv_BadText,xm_BadText,xt_BadText,xs_BadText,lb1,lb2,lb3⟩
 have R_BadText:RaiF l.prog w K mg base "BadText" qa 1:=⟨fI_BadText,qf,dI_BadText,["self","at"],T_BadText,JaX FI_BadText T_BadText qh,FI_BadText.binds (by walk_at "b"),qt⟩
 have qL:=YF Z F1 (Jaf (C:=C) F1 qe qK xG xO iV qh qO wO wP wK wL wy wz q4 q9 wa wb qt qB qm qC qp qI) (mg_of X G a1) (by walk_at "b")
 have qq:=Jcn Z F2 (U7 (C:=C) F2 qp qD) (mg_of X G a2) (by walk_at "b")
 have CMX_Row:CalMX l.prog w K mg base "Row" C 2 ["self","stretches"] (JdV (W2 C K) (Jd4 K C 1 Yc)):=⟨f3,_,⟨mk,a3,i3,kc⟩,Jba (C:=C) F3 qk wQ qu qq T qm qJ,vy,F3.binds (by walk_at "b")⟩
 have qz:=YF Z F4 (WN (C:=C) F4 wI vh qk wA qE) (mg_of X G a4) (by walk_at "b")
 have qF:=YF Z F5 (Wa (C:=C) F5 qz) (mg_of X G a5) (by walk_at "b")
 have qv:=YF Z F6 (Vn (C:=C) F6 qF) (mg_of X G a6) (by walk_at "b")
 have wR:=Jcn Z F7 (Jhm (C:=C) F7 qk CMX_Row qv qw R_BadText) (mg_of X G a7) (by walk_at "b")
 have qM:=YF Z F8 (Jag (C:=C) F8 wI qe wX qL wR qp xG xO qI qm qC qt qB xF qh qP) (mg_of X G a8) (by walk_at "b")
 have qA:=YF Z F9 (Jbd (C:=C) F9 qk) (mg_of X G a9) (by walk_at "b")
 have qr:=YF Z F10 (Jbc (C:=C) F10 va) (mg_of X G a10) (by walk_at "b")
 have qG:=YF Z F11 (WM (C:=C) F11 qk qA qr) (mg_of X G a11) (by walk_at "b")
 have qg:=YF Z F12 (Jbb (C:=C) F12 qk) (mg_of X G a12) (by walk_at "b")
 have wc:=YF Z F13 (JbV (C:=C) F13 qk) (mg_of X G a13) (by walk_at "b")
 have qx:=YF Z F14 (VM (C:=C) F14 qU qk wY) (mg_of X G a14) (by walk_at "b")
 have qH:=YF Z F15 (Zl (C:=C) F15 qU qg) (mg_of X G a15) (by walk_at "b")
 have qN:=YF Z F16 (Jah (C:=C) F16 qH qg) (mg_of X G a16) (by walk_at "b");exact Jg6 (JjZ (C:=C) F17 vi qM qG qr qg wc qx qN) law_true
theorem walk{l:PySem.W.OpenLaw}{q:Qo}{loose:List Str}{XP:(Str->Option Qa)->QI->Prop}{YP:QC->QI->Prop}{d:DefRec}{K:Params->Qn}(hn:l.most=some 63)(hdf:d.params.defaults=[])
 (hY:∀(w:QC) (h:QI),YP w h->(K w.params).In h)
 (F:∀(w:QC) (mg:Str->Option Qa) (fa:Qc) (h:QI),(K w.params).In h->h.Ns mainGlobals mg->mg d.name=some (.ref fa) ->
  ∃fd:QE,(∀(s:Qd) (u:Qa),BindsTo s fd ⟨[u],[]⟩ [("script",u)])/\∀base:QI,(K w.params).In base->base.Ns mainGlobals mg->FnOk l.prog w (K w.params) mg base CX0 6 fa fd ["script"] (Jdg (K w.params))) :
 PySem.W.WalkO q loose XP YP l.row.toRowW d [] (fun f vs=>PySem.call f vs) :=
 L2.Jin (n:=63) (k:=6) (x:="script") (CX:=fun _=>CX0) (sp:=fun w=>Jdg (K w.params)) hn (by decide) hdf ⟨rfl,by decide,by decide⟩ hY F (fun _ _ a ns hl _ hS=>⟨a,ns,rfl,hS,hl,fun _=>rfl⟩) fun _ _ _ _ _ z=>z
end LK
end
namespace PySem.W.Fast
theorem tw13938827977146201607:True:=⟨⟩
theorem tw84825772332340081:True:=⟨⟩
theorem tw2434069647085336808:True:=⟨⟩
theorem tw11985641632505906572:True:=⟨⟩
theorem tw10715860841704639919:True:=⟨⟩
theorem tw3754659161930308940:True:=⟨⟩
theorem tw9404240066541859514:True:=⟨⟩
theorem tw8267949461392064413:True:=⟨⟩
theorem tw815909274117341148:True:=⟨⟩
theorem tw14374562687645954131:True:=⟨⟩
theorem tw13935261612006186628:True:=⟨⟩
theorem tw15427222938892464796:True:=⟨⟩
theorem tw12966736833215211649:True:=⟨⟩
theorem tw5969062116175285583:True:=⟨⟩
theorem tw10218586573667430530:True:=⟨⟩
theorem tw15583631765182864240:True:=⟨⟩
theorem tw11311462570047633602:True:=⟨⟩
theorem tw17955245787101561691:True:=⟨⟩
theorem tw6882530967010515312:True:=⟨⟩
theorem tw977398383747515962:True:=⟨⟩
theorem tw3190351610592399194:True:=⟨⟩
theorem tw11305649347585882289:True:=⟨⟩
theorem tw17658423782436688401:True:=⟨⟩
theorem tw3586562449532534344:True:=⟨⟩
theorem tw6117342969449327664:True:=⟨⟩
theorem tw8459368084965448310:True:=⟨⟩
theorem tw1979002111260710957:True:=⟨⟩
theorem tw17847627039556772834:True:=⟨⟩
theorem tw16490956270771063900:True:=⟨⟩
theorem tw1931304529824949704:True:=⟨⟩
theorem tw14611137357396070779:True:=⟨⟩
theorem tw5692254765708844193:True:=⟨⟩
theorem tw8695774286753174382:True:=⟨⟩
theorem tw13232370451110632504:True:=⟨⟩
theorem tw15203094470066406609:True:=⟨⟩
theorem tw2233138466991093485:True:=⟨⟩
theorem tw2009694506794229820:True:=⟨⟩
theorem tw5324303656076508208:True:=⟨⟩
theorem tw16669128917777297449:True:=⟨⟩
theorem tw3440011534436816725:True:=⟨⟩
theorem tw4644160946377209560:True:=⟨⟩
theorem tw13955514982632878462:True:=⟨⟩
theorem tw15758469969066824430:True:=⟨⟩
theorem tw16870780201964608476:True:=⟨⟩
theorem tw5781100552349565000:True:=⟨⟩
theorem tw16399878119820835451:True:=⟨⟩
theorem tw2357179648190404942:True:=⟨⟩
theorem tw6725716655468210678:True:=⟨⟩
theorem tw2158963036618293899:True:=⟨⟩
theorem tw3308187722182501283:True:=⟨⟩
theorem tw11842013912094199476:True:=⟨⟩
theorem tw6343516697342447860:True:=⟨⟩
theorem tw14045695970531738715:True:=⟨⟩
theorem tw14484097298924755435:True:=⟨⟩
theorem tw16093294999627466946:True:=⟨⟩
theorem tw6991185404521094627:True:=⟨⟩
theorem tw13925316774952286274:True:=⟨⟩
theorem tw4675317309669745405:True:=⟨⟩
theorem tw4488380292349714413:True:=⟨⟩
theorem tw11350819107309134098:True:=⟨⟩
theorem tw5850579970851314053:True:=⟨⟩
theorem tw12506660843751768485:True:=⟨⟩
theorem tw17460138044829141616:True:=⟨⟩
theorem tw14795281983011575977:True:=⟨⟩
theorem tw15708905089612281788:True:=⟨⟩
theorem tw4275619988729309148:True:=⟨⟩
theorem tw15965636088176534086:True:=⟨⟩
theorem tw10662705133871221438:True:=⟨⟩
theorem tw13923225825271220193:True:=⟨⟩
theorem tw5651396734143742348:True:=⟨⟩
theorem tw9244308943964096956:True:=⟨⟩
theorem tw7466895175100289064:True:=⟨⟩
theorem tw15586327341231944866:True:=⟨⟩
theorem tw9117303303433002868:True:=⟨⟩
theorem tw8353324137702597789:True:=⟨⟩
theorem tw14407271923154558729:True:=⟨⟩
theorem tw9983066019326298876:True:=⟨⟩
theorem tw13272337873440798794:True:=⟨⟩
theorem tw14358082083853323580:True:=⟨⟩
theorem tw9647790552784723802:True:=⟨⟩
theorem tw9686636903297224224:True:=⟨⟩
theorem tw484783632670086831:True:=⟨⟩
theorem tw1819125329597145045:True:=⟨⟩
theorem tw2815034895369255421:True:=⟨⟩
theorem tw14630438784891217189:True:=⟨⟩
theorem tw3243140238505478609:True:=⟨⟩
theorem tw852624888019769794:True:=⟨⟩
theorem tw2935739022301906889:True:=⟨⟩
theorem tw17455602480073959400:True:=⟨⟩
theorem tw13040733381871154421:True:=⟨⟩
theorem tw11196131844462202612:True:=⟨⟩
theorem tw15681840952082985635:True:=⟨⟩
theorem tw4345173680867333134:True:=⟨⟩
theorem tw6135532060346642373:True:=⟨⟩
theorem tw16197780038259277983:True:=⟨⟩
theorem tw16938120015841268361:True:=⟨⟩
theorem tw13847014976787078496:True:=⟨⟩
theorem tw2446002855064579056:True:=⟨⟩
theorem tw7983947157517766902:True:=⟨⟩
theorem tw12255059796999971091:True:=⟨⟩
theorem tw3150723874000207645:True:=⟨⟩
theorem tw5694892462840107820:True:=⟨⟩
theorem tw4815518007943316405:True:=⟨⟩
theorem tw1928539354531661795:True:=⟨⟩
theorem tw17625879807468610008:True:=⟨⟩
theorem tw1415959847977469554:True:=⟨⟩
theorem tw8267643976680959819:True:=⟨⟩
theorem tw7335441523848952118:True:=⟨⟩
end PySem.W.Fast
open PySem PySem.W PyProof.Rows
set_option maxRecDepth 100000 in
set_option maxHeartbeats 0 in
theorem PySem.Challenge.cw_lumprow_k10_texts_refused_holds : PySem.Challenge.rw_lumprow_k10_texts_refused.Holds := by
 w_on; o_law; k_head; (case hw => w_witness2)
 k_fill
 refine LK.walk (l := PySem.Challenge.rw_lumprow_k10_texts_refused) rfl rfl (fun w h Y => PySem.W.kIn_of Y) ?F
 case F =>
  intro w mg fa h KX G hmg; apply LK.all_mk KX G hmg; all_goals first | exact L2.JeQ (by k_is) (by k_is) (by k_is) | k_is | k_exc | kit_is | kts_exm | kernel_rfl
