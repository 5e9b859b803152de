import PyProof.Rows.All
import Wide.All
import OpenK.AllK
import Wide.FinOn
import Lean
import PyProof.EqAt
import PyProof.EqKinds
import PyProof.TupleCall
import PySem.Challenge.RW_lumprow_k11_pictures
open Array renaming getElem?_eq_some_iff→QT,getElem?_toList→Kt,length_toList→LD
open Bool renaming false_ne_true→QF,and_eq_true→QL,eq_iff_iff→GJ,false_and→GX,or_false→Kz,false_or→KB,true_and→KD,or_eq_true→Li
open False renaming elim→QS
open Function renaming comp_def→L4
open Int renaming le_refl→Km,emod_nonneg→KF,toNat_natCast→KS
open List renaming getElem?_eq_some_iff→Qh,replicate→Qi,mem_cons_of_mem→Qo,length_cons→Qp,mem_cons→Qq,map_cons→Qt,size_toArray→Qv,getElem?_map→Qw,getElem?_append_left→Qx,mem_cons_self→Qz,getElem?_append_right→QG,getElem?_set→QJ,replicate_succ→QK,length_append→QN,length_nil→QP,length_map→QR,range→QV,mem_nil_iff→QW,mem_of_getElem?→QY,cons_append→Q1,mem_append_right→Q2,getD_eq_getElem?_getD→Q3,append_nil→Q4,map_nil→Q8,flatten_cons→Q9,length_take→Gc,getElem?_eq_getElem→Ge,eq_nil_of_length_eq_zero→Gf,getElem?_replicate→Gi,map_append→Gk,all_eq_true→Gr,length_replicate→Gw,mem_append→Gx,eq_of_mem_replicate→Gz,filterMap_cons→GA,of_mem_zip→GK,nil_append→GL,find?_cons→GM,length_singleton→GN,getElem?_eq_none→GO,append_assoc→GR,lookup→GY,zipIdx_cons→G3,drop_eq_getElem_cons→G4,pairwise_iff_getElem→G5,map_congr_left→G6,nodup_cons→Ki,eraseIdx_cons_succ→Kk,getElem?_cons_succ→Kl,getElem?_set_self→Ko,mem_map→Kr,flatten_replicate_singleton→Ks,getElem_mem→Kw,length_drop→Ky,any_cons→KA,getElem?_set_ne→KE,getElem?_range→KJ,filter_cons→K4,lookup_cons→K5,drop_length→K6,getElem?_cons_zero→K7,range_succ_eq_map→Lf,foldl_cons→Lh,getElem?_reverse→Lk,dropLast_eq_take→Ll,mem_iff_getElem?→Ln,mem_range→Lq,mem_append_left→Lr,length_dropLast→Lv,mem_iff_getElem→Lw,range_eq_range'→Ly,map_map→LZ
open List.cons renaming inj→K0
open Nat renaming le_refl→Qr,lt_of_lt_of_le→QD,ne_of_lt→QI,le_trans→QQ,lt_irrefl→Q7,ble_eq→GG,ne_of_gt→G1,lt_succ_self→G2,zero_le→Kj,le_of_lt→Kn,ble→KR,lt_trans→Lc
open Ne renaming symm→Q0
open Option renaming bind_some→Qg,bind_assoc→Gy,map_eq_some_iff→GI,isSome_iff_exists→G9,map_some→Lj,map→LO
open Option.some renaming inj→QM
open PyProof.Rows renaming callWith_type1→Go
open PySem renaming Value→Qa,Addr→Qc,Shared→Qd,wpAny_bind→Qe,sizeLine→Qk,Program→Qm,Around→Qu,World→QB,FuncData→QC,wpAny_pure→QE,Heap→QH,Expr→QO,wpAny_mono→QZ,wpAny_field→Q6,Stmt→Ga,codeAny_call_builtin→Gg,wpAny_truthy_bool→Gh,mem_of_lookup→Gn,wpAny_holding→Gq,wpAny_Call_Name_kw→Gs,wpAny_setField→Gv,wpAny_callSpecial?_slot→GC,wpAny_getItem_str_slice→GD,codeAny_mono→GF,wpAny_setField_rec→GH,wpAny_loadPart_at→GU,wpAny_nameGoes_keeps→G0,wpAny_standAt→G8,wpAny_execs_nil→Kg,wpAny_passesOwn→Kh,wpAny_newObj_type→Kq,wpAny_call→Ku,wpAny_call_entry→Kx,Keyword→KL,Scope→KN,wpAny_pyIter_strU→KW,wpAny_pyIter_enum→KY,wpAny_execs_cons→K1,wpAny_loadPart→Ls,Result→Lu,Within→LP
open PySem.Around renaming under→LV
open PySem.Builtin.List renaming listTooLong→Ka
open PySem.Builtin.Range renaming rangeSize→K2
open PySem.Builtin.SmallTypes renaming ownedTupleHandOut→G7,ownedTupleIsFree→Kc,nextOf→KQ
open PySem.Calls renaming evalArgs_plain→GZ,callWith_builtin→Kp,Name_function_global→KO
open PySem.Code renaming quiet_builtin→KP,isFrame→LW
open PySem.EntryCells renaming newEntry→LH
open PySem.F renaming excBase_ValueError→QX,plainAttrs_list→Gj,attrBase_ValueError→Gp,slot_tuple_iterator_next→Gu,slot_enumerate_next→GQ,slot_list_append→Ke,type_list_append→Kf,args_tuple_iterator_next_1→KH,entry_tuple_iterator_next→KM,args_tuple_add_2→KZ,entry_tuple_add→K3,args_enumerate_next_1→K8,slot_tuple_add→La,plainAttrs_str→Lg,entry_bexc_ga→Lm,slot_str_join→Lo,type_str_join→Lp,args_bexc_ga→Lz
open PySem.Heap renaming get?_push_of_some→Qf,lt_size→Qj,get?_push_size→QA,get?_update_other→QU,SameBut→Q5,get?_update_self→Gb,size_push→GB,get?_none_of_le→GW
open PySem.Heap.Ns1 renaming of_empty→LS
open PySem.Heap.SameBut renaming update→KI
open PySem.IsRange renaming new→L6
open PySem.Obj renaming data_mapFields→Gd,isFreed_of_fields→GP,mapFields→KC,cls_mapFields→KU,mapSeq→Lb
open PySem.Paired renaming length→LI
open PySem.PassesOwn renaming never→Gm,leaving→L5
open PySem.PyData renaming canLayAll0→GS,eqvAll→Kb,eqv→Kv,depthAll→KG,depth→Ld
open PySem.Str renaming ofString→Qy,join→Lx,empty→LA
open PySem.StrLaws renaming sliceText→LY
open PySem.Txt renaming slice_le→Le,slice→LC
open PySem.W renaming Frag→Qn,cellsFrom_some→K9,findObj_own→LG,kitx_tuple→LJ,isNs_of_in→LL,tail_of_in→LM,looks_find→LN,set_plain→LQ,kitx_dict→LU,handed_on→LX
set_option Elab.async false
set_option linter.all false
set_option maxRecDepth 100000
set_option maxHeartbeats 4000000
open PySem.W (instObj methodObj Frag lookIn InstAt plainGet hasDictIn findIn handedIn plainOver takerIn any_some looks_clsIn makesIn emptyDict looks_findIn specialIn isFn keepIn takesIn mroIn kitOne kia_one kitx_list callWith_K fnOf codeIn notCls nsIn excIn exmOne Looks findObj looks_mroIn clsIn kitAny mg_of mg_none_of)
noncomputable section
namespace L2
open PySem PySem.Spec PyProof.Rows

noncomputable abbrev Key:=Sum Int Str
noncomputable def Jia:Key->Qa->Bool
 | .inl k,v=>Value.isInt k v
 | .inr x,v=>Value.isStrOf x v
noncomputable def JlC(w:QB):Key->Int
 | .inl k=>hashInt k
 | .inr x=>hashStr w x
theorem J7:∀{k:Key} {v:Qa},Jia k v=true->(∃i t,k=Sum.inl i/\v=Value.int i t)\/(∃x t,k=Sum.inr x/\v=Value.str x t)
 | .inl i,v,h=>by obtain⟨t,e⟩:=Value.isInt_shape (k:=i) (v:=v) h;exact .inl ⟨i,t,rfl,e⟩
 | .inr x,v,h=>by obtain⟨t,e⟩:=Value.isStrOf_shape (x:=x) (v:=v) h;exact .inr ⟨x,t,rfl,e⟩
theorem Ji2(a b:Int):decide ((Sum.inl a:Key)=Sum.inl b)=(a == b):=by
 by_cases e:a=b
 ·subst e;simp
 ·have h:¬(Sum.inl a:Key)=Sum.inl b:=fun q=>e (Sum.inl.inj q)
  rw[decide_eq_false h];exact(beq_eq_false_iff_ne.mpr e).symm
theorem Ji5(a b:Str):decide ((Sum.inr a:Key)=Sum.inr b)=decide (a=b):=by
 by_cases e:a=b
 ·subst e;simp
 ·have h:¬(Sum.inr a:Key)=Sum.inr b:=fun q=>e (Sum.inr.inj q)
  rw[decide_eq_false h,decide_eq_false e]
theorem Ji3(a:Int)(b:Str):decide ((Sum.inl a:Key)=Sum.inr b)=false:=decide_eq_false (fun q=>nomatch q)
theorem Ji4(a:Str)(b:Int):decide ((Sum.inr a:Key)=Sum.inl b)=false:=decide_eq_false (fun q=>nomatch q)

noncomputable def Jak(prog:Qm)(w:QB):PySem.KeyKind prog w Key where
 is:=Jia
 hash:=JlC w
 inj:=fun v a b ha hb=>by
  rcases J7 ha with ⟨i,t,rfl,rfl⟩|⟨x,t,rfl,rfl⟩
  ·rcases J7 hb with ⟨j,u,rfl,e⟩|⟨y,u,rfl,e⟩
   ·injection e with e1 _;rw[e1]
   ·exact nomatch e
  ·rcases J7 hb with ⟨j,u,rfl,e⟩|⟨y,u,rfl,e⟩
   ·exact nomatch e
   ·injection e with e1 _;rw[e1]
 byValue:=fun k v h=>by rcases J7 h with ⟨i,t,rfl,rfl⟩|⟨x,t,rfl,rfl⟩ <;> rfl
 pyHash:=fun hv h=>by
  rcases J7 hv with ⟨i,t,rfl,rfl⟩|⟨x,t,rfl,rfl⟩
  ·exact wpAny_pyHash_int h
  ·exact wpAny_pyHash_str h
 eqBool:=fun hu hv h=>by
  rcases J7 hu with ⟨i,t,rfl,rfl⟩|⟨x,t,rfl,rfl⟩
  ·rcases J7 hv with ⟨j,u,rfl,rfl⟩|⟨y,u,rfl,rfl⟩
   ·rw[Ji2] at h;exact wpAny_eqBool_int h
   ·rw[Ji3] at h;exact SeqAt.EqAt.int_str i t y u _ _ _ _ h
  ·rcases J7 hv with ⟨j,u,rfl,rfl⟩|⟨y,u,rfl,rfl⟩
   ·rw[Ji4] at h;exact SeqAt.EqAt.str_int x t j u _ _ _ _ h
   ·rw[Ji5] at h;exact wpAny_eqBool_str h
 «strs»:=fun k x t v h=>by
  rcases J7 h with ⟨i,u,rfl,e⟩|⟨y,u,rfl,e⟩
  ·exact nomatch e
  ·injection e with e1 _
   subst e1;cases v <;> rfl

end L2

namespace L2
open PySem PySem.Spec PyProof.Rows

inductive V where
 | non|bl (b:Bool)|int (i:Int)|str (x:Str)|byt (b:Array UInt8)|flt (b:UInt64)|ref (a:Qc)|ty (n:String)
 deriving DecidableEq

noncomputable def RelV:V->Qa->Prop
 | .non,u=>u=Value.none
 | .bl b,u=>u=Value.bool b
 | .int i,u=>∃t,u=Value.int i t
 | .str x,u=>∃t,u=Value.str x t
 | .byt b,u=>∃t,u=Value.bytes b t
 | .flt b,u=>∃t,u=Value.float b t
 | .ref a,u=>u=Value.ref a
 | .ty n,u=>u=Value.type n

noncomputable abbrev Vals:List V->List Qa->Prop:=Paired RelV
theorem Vals.length{xs:List V}{us:List Qa}(r:Vals xs us):xs.length=us.length:=LI r
theorem Vals.get:∀{xs:List V} {us:List Qa} {i:Nat} {x:V},Vals xs us->xs[i]?=some x->∃u,us[i]?=some u/\RelV x u
 | _,_,_,_,.nil,e=>by simp at e
 | _,_,0,_,.cons r _,e=>by simp at e;subst e;exact⟨_,rfl,r⟩
 | _,_,i+1,x,.cons _ t,e=>by obtain⟨u,h1,h2⟩:=Vals.get (i:=i) (x:=x) t (by simpa using e);exact⟨u,by simpa using h1,h2⟩
theorem Vals.set{x:V}{u:Qa}(r:RelV x u):∀{xs:List V} {us:List Qa} (i:Nat),Vals xs us->Vals (xs.set i x) (us.set i u)
 | _,_,_,.nil=>.nil
 | _,_,0,.cons _ t=>.cons r t
 | _,_,i+1,.cons q t=>.cons q (Vals.set r i t)
theorem Vals.append:∀{xs ys:List V} {us ws:List Qa},Vals xs us->Vals ys ws->Vals (xs++ys) (us++ws)
 | _,_,_,_,.nil,s=>s
 | _,_,_,_,.cons r t,s=>.cons r (Vals.append t s)
theorem Vals.take:∀{xs:List V} {us:List Qa} (n:Nat),Vals xs us->Vals (xs.take n) (us.take n)
 | _,_,0,_=>.nil
 | _,_,_+1,.nil=>.nil
 | _,_,n+1,.cons r t=>.cons r (Vals.take n t)
theorem Vals.drop:∀{xs:List V} {us:List Qa} (n:Nat),Vals xs us->Vals (xs.drop n) (us.drop n)
 | _,_,0,r=>r
 | _,_,_+1,.nil=>.nil
 | _,_,n+1,.cons _ t=>Vals.drop n t
noncomputable def RelO:Option V->Option Qa->Prop
 | some v,some u=>RelV v u
 | none,none=>True
 | _,_=>False
noncomputable def KV{κ:Type}:List (κ×V)->List (κ×Qa)->Prop:=Paired fun(p:κ×V) (q:κ×Qa)=>p.1=q.1/\RelV p.2 q.2

noncomputable def kV:Key->V
 | .inl i=>.int i
 | .inr x=>.str x

inductive HO where
 | lst (xs:List V)
 | tup (xs:List V)
 | dK (kvs:List (Key×V))|dT (kvs:List (List Key×V))
 | set (S:Int->Bool) (n:Nat)
 | ins (C dx:Qc) (fs:List (Str×V))
 | own (x:Qc)
 | xd (fs:List (Str×V))
 | met (f x:Qc)
 | rng (lo hi:Int)
 | frz (o:Obj) (u:HO)
 | tbl (ps:Array Qa)
 | ext (φ:QH->Prop)

noncomputable abbrev Hp:=Qc->Option HO
noncomputable def upd(H:Hp)(a:Qc)(o:HO):Hp:=fun b=>if b=a then some o else H b
theorem Jx{H:Hp}{a:Qc}{o:HO}:upd H a o a=some o:=by unfold upd;rw[if_pos rfl]
theorem Jl{H:Hp}{a b:Qc}{o:HO}(h:b≠a):upd H a o b=H b:=by unfold upd;rw[if_neg h]
theorem Ja0{H:Hp}{a b:Qc}{o u:HO}(h:H a=some o)(h':H b=some u)(d:o≠u):a≠b:=by intro e;subst e;rw[h] at h';exact d (QM h')
theorem Jt{H:Hp}{a b:Qc}{o:HO}(h:H a=some o)(h':H b=none):a≠b:=by intro e;subst e;rw[h] at h';cases h'

section
variable(P:Qm)(w:QB)
noncomputable def ObjOk(H:Hp)(h:QH)(a:Qc):HO->Prop
 | .lst xs=>xs.length<=Qk/\∃(its:List Qa) (n:Nat),Vals xs its/\h.get? a=some { cls:=.type "list",data:=.seq its.toArray n }
 | .tup xs=>xs.length<=Qk/\∃its:List Qa,Vals xs its/\IsTup h a its.toArray
 | .dK kvs=>kvs.length<=Qk/\(a == sysModules)=false/\∃vs,KV kvs vs/\h.DictOf (Jak P w) a vs
 | .dT kvs=>kvs.length<=Qk/\(a == sysModules)=false/\∃xs:List (List Key×Qc×Qa),
  Paired (fun(p:List Key×V) (q:List Key×Qc×Qa)=>p.1=q.1/\H q.2.1=some (.tup (p.1.map kV))/\RelV p.2 q.2.2) kvs xs ∧
  ∃o es ep,h.get? a=some o/\o.ExactDict/\o.data=.dict es ep/\es.toList=xs.map (entryOfKey (tupleKind (Jak P w)))/\(xs.map (·.1)).Nodup
 | .set S n=>h.SetOf (intKind P w) a S n
 | .ins C dx fs=>H dx=some (.own a)/\fs.length<=1000/\dx≠a/\h.get? a=some (instObj C dx) ∧
  ∃mA,h.Ns1 dx mA/\(∀f,RelO (fs.lookup f) (mA f))/\LP mA (fs.map (·.1))
 | .own _=>∃o,h.get? a=some o
 | .xd fs=>∃mA,h.Ns1 a mA/\∀f,RelO (fs.lookup f) (mA f)
 | .rng lo hi=>∃t u v,h.get? a=some { cls:=.type "range",data:=.fields #[.int lo t,.int hi u,.int 1 v] }
 | .frz o u=>h.get? a=some o/\ObjOk H h a u
 | .tbl ps=>h.get? a=some { cls:=.none,data:=.fields ps }
 | .met f x=>h.get? a=some (methodObj (.ref f) (.ref x))
 | .ext φ=>φ h/\(∃o,h.get? a=some o)/\∀h1 h2:QH,φ h1->(∀o,h1.get? a=some o->h2.get? a=some o)->φ h2
noncomputable def HOk(H:Hp)(h:QH):Prop:=∀a o,H a=some o->ObjOk P w H h a o
end

section
variable{P:Qm}{w:QB}{H H':Hp}{h h':QH}{a:Qc}{o:HO}
theorem ObjOk.lt(x:ObjOk P w H h a o):a<h.objs.size:=by
 cases o with
 | lst xs=>obtain⟨_,_,_,_,e⟩:=x;exact Qj e
 | tup xs=>obtain⟨_,_,_,p⟩:=x;exact p.lt
 | dK kvs=>obtain⟨_,_,_,_,o,_,_,e,_⟩:=x;exact Qj e
 | dT kvs=>obtain⟨_,_,_,_,o,_,_,e,_⟩:=x;exact Qj e
 | set S n=>obtain⟨o,_,_,_,e,_⟩:=x;exact Qj e
 | ins C dx fs=>obtain⟨_,_,_,e,_⟩:=x;exact Qj e
 | own y=>obtain⟨_,e⟩:=x;exact Qj e
 | xd fs=>obtain⟨_,⟨_,_,_,e,_⟩,_⟩:=x;exact Qj e
 | rng lo hi=>obtain⟨_,_,_,e⟩:=x;exact Qj e
 | frz ob u=>obtain⟨e,_⟩:=x;exact Qj e
 | tbl ps=>exact Qj (show h.get? a=some _ from x)
 | met f y=>exact Qj (show h.get? a=some _ from x)
 | ext φ=>obtain⟨_,⟨_,e⟩,_⟩:=x;exact Qj e
theorem Paired.mapP{α β:Type}{F G:α->β->Prop}:∀{l₁:List α} {l₂:List β},Paired F l₁ l₂->(∀a b,F a b->G a b)->Paired G l₁ l₂
 | _,_,.nil,_=>.nil
 | _,_,.cons r t,f=>.cons (f _ _ r) (Paired.mapP t f)
theorem ObjOk.stay(x:ObjOk P w H h a o)(k:∀b u,(b=a\/H b=some (.own a))->h.get? b=some u->h'.get? b=some u)
 (ho:∀b,H b=some (.own a)->H' b=some (.own a)) (ht:∀b xs,H b=some (.tup xs)->H' b=some (.tup xs)):ObjOk P w H' h' a o:=by
 induction o with
 | lst xs=>obtain⟨z,its,n,r,e⟩:=x;exact⟨z,its,n,r,k _ _ (.inl rfl) e⟩
 | tup xs=>obtain⟨z,its,r,ob,e,c⟩:=x;exact⟨z,its,r,ob,k _ _ (.inl rfl) e,c⟩
 | dK kvs=>obtain⟨z,y,vs,r,ob,es,ep,e,c⟩:=x;exact⟨z,y,vs,r,ob,es,ep,k _ _ (.inl rfl) e,c⟩
 | dT kvs=>obtain⟨z,y,xs,r,ob,es,ep,e,c⟩:=x;exact⟨z,y,xs,Paired.mapP r fun p q z=>⟨z.1,ht _ _ z.2.1,z.2.2⟩,ob,es,ep,k _ _ (.inl rfl) e,c⟩
 | set S n=>obtain⟨ob,es,ep,t,e,c⟩:=x;exact⟨ob,es,ep,t,k _ _ (.inl rfl) e,c⟩
 | ins C dx fs=>obtain⟨d,z,ne,e,mA,⟨od,es,ep,e2,c⟩,r⟩:=x;exact⟨ho _ d,z,ne,k _ _ (.inl rfl) e,mA,⟨od,es,ep,k _ _ (.inr d) e2,c⟩,r⟩
 | own y=>obtain⟨ob,e⟩:=x;exact⟨ob,k _ _ (.inl rfl) e⟩
 | xd fs=>obtain⟨mA,⟨od,es,ep,e,c⟩,r⟩:=x;exact⟨mA,⟨od,es,ep,k _ _ (.inl rfl) e,c⟩,r⟩
 | rng lo hi=>obtain⟨t,u,v,e⟩:=x;exact⟨t,u,v,k _ _ (.inl rfl) e⟩
 | frz ob u ih=>obtain⟨e,q⟩:=x;exact⟨k _ _ (.inl rfl) e,ih q⟩
 | tbl ps =>
  have e:h.get? a=some { cls:=.none,data:=.fields ps }:=x
  show h'.get? a=some { cls:=.none,data:=.fields ps };exact k a _ (.inl rfl) e
 | met f y =>
  have e:h.get? a=some (methodObj (.ref f) (.ref y)):=x
  show h'.get? a=some (methodObj (.ref f) (.ref y));exact k a _ (.inl rfl) e
 | ext φ=>obtain⟨p,⟨o,e⟩,st⟩:=x;exact⟨st _ _ p fun o q=>k _ _ (.inl rfl) q,⟨o,k _ _ (.inl rfl) e⟩,st⟩
theorem HOk.lt(x:HOk P w H h)(e:H a=some o):a<h.objs.size:=(x a o e).lt
theorem HOk.fresh(x:HOk P w H h)(e:h.objs.size<=a):H a=none:=by
 cases q:H a with
 | none=>rfl
 | some u=>exact absurd (QD (x.lt q) e) (Q7 _)
theorem HOk.kept(x:HOk P w H h)(k:∀b u,h.get? b=some u->h'.get? b=some u):HOk P w H h':=fun a o e=>(x a o e).stay (fun b u _ q=>k b u q) (fun _ q=>q) fun _ _ q=>q
theorem HOk.laid(x:HOk P w H h)(k:∀b u,h.get? b=some u->h'.get? b=some u)(hp:h.objs.size<=a)(new:ObjOk P w (upd H a o) h' a o):HOk P w (upd H a o) h':=fun b u e=>by
 have hn:=x.fresh hp
 by_cases hb:b=a
 ·subst hb;rw[Jx] at e;cases e;exact new
 ·rw[Jl hb] at e;exact(x b u e).stay (fun c v _ q=>k c v q) (fun c q=>by rw[Jl (Jt q hn)];exact q) fun c xs q=>by rw[Jl (Jt q hn)];exact q
end

noncomputable def Rd(H:Hp)(a:Qc)(u:HO):Prop:=H a=some u\/∃o,H a=some (.frz o u)
theorem Rd.of{H:Hp}{a:Qc}{u:HO}(h:H a=some u):Rd H a u:=.inl h
theorem Rd.ok{P:Qm}{w:QB}{H:Hp}{h:QH}{a:Qc}{u:HO}(r:Rd H a u)(x:HOk P w H h):ObjOk P w H h a u:=by
 rcases r with r|⟨o,r⟩
 ·exact x a u r
 ·obtain⟨_,q⟩:=x a _ r;exact q
noncomputable def Mut:Option HO->Prop
 | some (.lst _)=>True
 | some (.dK _)=>True
 | some (.dT _)=>True
 | some (.set _ _)=>True
 | some (.ins _ _ _)=>True
 | some (.ext _)=>True
 | _=>False
section
variable{P:Qm}{w:QB}{H:Hp}{h h':QH}{x e:Qc}{o':HO}
theorem HOk.write(ok:HOk P w H h)(mu:Mut (H x))(he:e=x\/H e=some (.own x))(k:∀b u,b≠e->h.get? b=some u->h'.get? b=some u)(heo:∃u,h'.get? e=some u)
 (new:ObjOk P w (upd H x o') h' x o'):HOk P w (upd H x o') h':=fun b u q=>by
 have nown:∀c y,H c=some (.own y)->c≠x:=fun c y r z=>by subst z;rw[r] at mu;exact mu
 have ntup:∀c xs,H c=some (.tup xs)->c≠x:=fun c xs r z=>by subst z;rw[r] at mu;exact mu
 by_cases hb:b=x
 ·subst hb;rw[Jx] at q;cases q;exact new
 ·rw[Jl hb] at q
  by_cases hbe:b=e
  ·have q':H b=some (.own x):=by
    rcases he with z|z
    ·exact absurd (hbe.trans z) hb
    ·rw[hbe];exact z
   rw[q] at q';cases q';obtain⟨v,hv⟩:=heo;exact⟨v,by rw[hbe];exact hv⟩
  ·refine(ok b u q).stay (fun c v hc r=>k c v ?_ r) (fun c r=>by rw[Jl (nown c b r)];exact r) fun c xs r=>by rw[Jl (ntup c xs r)];exact r
   rcases hc with rfl|hc
   ·exact hbe
   ·rintro rfl;rcases he with z|z
    ·exact nown c b hc z
    ·rw[hc] at z;cases z;exact hb rfl
end

structure Un (fs ex:List Qc) (H H':Hp) (h h':QH):Prop where
 keep:∀b o,h.get? b=some o->H b=none->b∉fs->b∉ex->h'.get? b=some o
 slot:∀b o,h.get? b=some o->H b=none->b∈fs->b∉ex->∃sl,h'.get? b=some { o with slots:=sl }
 free:∀b o,h.get? b=some o->H b=none->b∉ex->H' b=none
 there:∀b o,h.get? b=some o->b∉ex->∃o',h'.get? b=some o'
 tups:∀b xs,H b=some (.tup xs)->H' b=some (.tup xs)
 frzs:∀b o u,H b=some (.frz o u)->H' b=some (.frz o u)
 tbls:∀b ps,H b=some (.tbl ps)->∃more,H' b=some (.tbl (ps++more))
section
variable{fs fs' ex ex':List Qc}{H H1 H2:Hp}{h h1 h2 h':QH}{a x e:Qc}{o:HO}
theorem Un.any(u:Un fs ex H H1 h h1){b:Qc}{ob:Obj}(q:h.get? b=some ob)(n:H b=none)(hx:b∉ex):∃sl,h1.get? b=some { ob with slots:=sl }:=by
 by_cases hb:b∈fs
 ·exact u.slot b ob q n hb hx
 ·exact⟨ob.slots,u.keep b ob q n hb hx⟩
theorem Un.trans(a:Un fs ex H H1 h h1)(b:Un fs ex H1 H2 h1 h2):Un fs ex H H2 h h2 where
 keep:=fun c ob q n hc hx=>b.keep c ob (a.keep c ob q n hc hx) (a.free c ob q n hx) hc hx
 slot:=fun c ob q n hc hx=>by obtain⟨sl,e1⟩:=a.slot c ob q n hc hx;obtain⟨sl',e2⟩:=b.slot c _ e1 (a.free c ob q n hx) hc hx;exact⟨sl',e2⟩
 free:=fun c ob q n hx=>by obtain⟨o',e1⟩:=a.there c ob q hx;exact b.free c o' e1 (a.free c ob q n hx) hx
 there:=fun c ob q hx=>by obtain⟨o',e1⟩:=a.there c ob q hx;exact b.there c o' e1 hx
 tups:=fun c xs q=>b.tups c xs (a.tups c xs q)
 frzs:=fun c ob xs q=>b.frzs c ob xs (a.frzs c ob xs q)
 tbls:=fun c ps q=>by obtain⟨m1,e1⟩:=a.tbls c ps q;obtain⟨m2,e2⟩:=b.tbls c _ e1;exact⟨m1++m2,by rw[e2,Array.append_assoc]⟩
theorem Un.kept(k:∀b u,h.get? b=some u->h'.get? b=some u):Un fs ex H H h h' :=
 ⟨fun b ob q _ _ _=>k b ob q,fun b ob q _ _ _=>⟨ob.slots,k b ob q⟩,fun _ _ _ n _=>n,fun b ob q _=>⟨ob,k b ob q⟩,fun _ _ q=>q,fun _ _ _ q=>q,fun _ ps q=>⟨#[],by rw[q];simp⟩⟩
theorem Un.refl:Un fs ex H H h h:=Un.kept fun _ _ q=>q
theorem Un.laid(k:∀b u,h.get? b=some u->h'.get? b=some u)(hp:h.objs.size<=a)(hn:H a=none):Un fs ex H (upd H a o) h h' where
 keep:=fun b u q _ _ _=>k b u q
 slot:=fun b u q _ _ _=>⟨u.slots,k b u q⟩
 free:=fun b u q n _=>by rw[Jl (QI (QD (Qj q) hp))];exact n
 there:=fun b u q _=>⟨u,k b u q⟩
 tups:=fun b xs q=>by rw[Jl (Jt q hn)];exact q
 frzs:=fun b u xs q=>by rw[Jl (Jt q hn)];exact q
 tbls:=fun b ps q=>⟨#[],by rw[Jl (Jt q hn),q];simp⟩
theorem Un.write(mu:Mut (H x))(he:e=x\/H e=some (.own x))(k:∀b u,b≠e->h.get? b=some u->h'.get? b=some u)(heo:∃u,h'.get? e=some u):Un fs ex H (upd H x o) h h':=by
 have hx:∀b,H b=none->b≠x:=fun b n z=>by subst z;rw[n] at mu;exact mu
 have hb:∀b,H b=none->b≠e:=fun b n z=>by
  subst z;rcases he with r|r
  ·exact hx b n r
  ·rw[n] at r;cases r
 have hm:∀b u,H b=some u->¬Mut (some u)->b≠x:=fun b u q nm z=>by subst z;rw[q] at mu;exact nm mu
 refine⟨fun b u q n _ _=>k b u (hb b n) q,fun b u q n _ _=>⟨u.slots,k b u (hb b n) q⟩,fun b u q n _=>by rw[Jl (hx b n)];exact n,fun b u q _=>?_,
  fun b xs q=>by rw[Jl (hm b _ q fun z=>z)];exact q,fun b u xs q=>by rw[Jl (hm b _ q fun z=>z)];exact q,fun b ps q=>⟨#[],by rw[Jl (hm b _ q fun z=>z),q];simp⟩⟩
 by_cases hbe:b=e
 ·subst hbe;exact heo
 ·exact⟨u,k b u hbe q⟩
theorem Un.mono(u:Un fs ex H H1 h h1)(hs:∀b∈fs,b∈fs')(hx:∀b∈ex,b∈ex'):Un fs' ex' H H1 h h1 :=
 ⟨fun b ob q n hb he=>u.keep b ob q n (fun z=>hb (hs b z)) fun z=>he (hx b z),fun _ _ q n _ he=>u.any q n fun z=>he (hx _ z),fun b ob q n he=>u.free b ob q n fun z=>he (hx b z),fun b ob q he=>u.there b ob q fun z=>he (hx b z),u.tups,u.frzs,u.tbls⟩
end

noncomputable def trk(h:QH)(H:Hp):List Qc:=(QV h.objs.size).filter fun a=>(H a).isSome
noncomputable def Jaf(h:QH)(H:Hp):QH:=PySem.W.hideAll h (trk h H)
theorem JdD(h:QH)(H:Hp):(Jaf h H).objs.size=h.objs.size:=PySem.W.hideAll_size _ _
theorem JeP{h:QH}{H:Hp}{b:Qc}{o:Obj}(e:h.get? b=some o)(n:H b=none):(Jaf h H).get? b=some o :=
 PySem.W.hideAll_get _ e fun hm=>by have q:(H b).isSome=true:=(List.mem_filter.mp hm).2;rw[n] at q;simp at q
theorem JgY{h:QH}{H:Hp}{b:Qc}{o:Obj}(e:(Jaf h H).get? b=some o):h.get? b=some o/\H b=none:=by
 have e':h.get? b=some o:=PySem.W.of_hideAll (trk h H) e;refine⟨e',?_⟩
 cases q:H b with
 | none=>rfl
 | some x =>
  have hm:b∈trk h H:=List.mem_filter.mpr ⟨Lq.mpr (Qj e'),by simp[q]⟩
  have z:(Jaf h H).get? b=none:=PySem.W.hideAll_none (trk h H) hm;rw[z] at e;cases e

noncomputable def Jf7(g h:QH)(L:Qc):List (Qc×Obj):=(QV h.objs.size).filterMap fun a=>if a=L\/(g.get? a).isSome=true then none else(h.get? a).map fun o=>(a,o)
noncomputable def rest(g h:QH)(L d:Qc):List (Qc×Obj):=(Jf7 g h L).filter fun p=>decide (p.1≠d)
end L2

namespace L2
open PySem PySem.Spec PyProof.Rows

structure Mod (K:Qn) (mg:Str->Option Qa) (base:QH):Prop where
 kin:K.In base
 glob:base.Ns mainGlobals mg
 blt:∃mb,base.Ns builtinsNs mb/\∀x:Str,x≠"__name__"->mb x=bootBuiltins x
 nolimit:base.NoLimit

structure Cx where
 prog:Qm
 w:QB
 K:Qn
 mg:Str->Option Qa
 base:QH
 A:Qu
 N:List Str
 s₀:Qd
 H₀:Hp
 env:Env
 outer:List Env
 stack:List Env
 ex:List Qc
 fn:Str->Bool
 calm:Bool
 pn:List (Qc×Obj)
 xe:Qa->Qd->Prop
noncomputable def frs(l:List Env):List Qc:=l.filterMap (·.frame)
noncomputable abbrev Cx.fs(X:Cx):List Qc:=frs X.outer

noncomputable def Vis(sc:KN)(x:Str):Prop:=sc.names.lookup x=some .local\/sc.names.lookup x=some .cell\/sc.names.lookup x=some .free
noncomputable def Loc(sc:KN)(x:Str):Prop:=sc.names.lookup x=some .local\/sc.names.lookup x=some .cell
noncomputable def JkC(env:Env)(h:QH)(m:Str->Option Qa)(x:Str)(u:Qa):Prop :=
 (env.kindOf x=some .local/\m x=some u)\/((env.kindOf x=some .cell\/env.kindOf x=some .free)/\∃c,env.cells.lookup x=some c/\h.IsCell c (some u))

structure Cx.Ok (X:Cx):Prop where
 mod:Mod X.K X.mg X.base
 kind:X.env.scope.kind=.function
 glob:X.env.globals=mainGlobals
 blt:X.env.builtins=builtinsNs
 above:X.s₀.heap.objs.size<=X.env.locals
 inj:∀x y c,X.env.cells.lookup x=some c->X.env.cells.lookup y=some c->x=y
 has:∀x,(X.env.kindOf x=some .cell\/X.env.kindOf x=some .free)->∃c,X.env.cells.lookup x=some c
 cab:∀x c,X.fn x=true->X.env.cells.lookup x=some c->X.s₀.heap.objs.size<=c
 hd:X.calm=true->X.A.handled=none
 frames:X.A.frames=some X.stack
 stk:X.stack=X.outer\/(X.stack=X.env::X.outer/\X.env.frame=some X.env.locals)
 exf:∀b∈X.ex,b≠X.env.locals/\∀x c,X.env.cells.lookup x=some c->c≠b
 bs:∀b o,X.base.get? b=some o->X.s₀.heap.get? b=some o/\X.H₀ b=none
 bsz:X.base.objs.size<=X.s₀.heap.objs.size
 noex:∀b o,X.base.get? b=some o->b∉X.ex
 exfs:∀b∈X.ex,b∉X.fs
 funs:X.s₀.heap.FunFrames X.base X.outer
 frf:∀b∈X.fs,X.H₀ b=none

structure Inv (X:Cx) (pins:List (Qc×Obj)) (σ:List (Option V)) (H:Hp) (s:Qd):Prop where
 ok:X.Ok
 os:s.os=X.s₀.os
 bare:AllBare s.gens
 base:Un X.fs X.ex X.H₀ H X.s₀.heap s.heap
 loc:∃m,s.heap.Ns X.env.locals m/\∀(i:Nat) (x:Str) (v:V),X.N[i]?=some x->σ[i]?=some (some v)->Vis X.env.scope x->∃u,RelV v u/\JkC X.env s.heap m x u
 cell:∀x c,X.env.cells.lookup x=some c->∃v,s.heap.IsCell c v
 free:H X.env.locals=none
 freeC:∀x c,X.env.cells.lookup x=some c->H c=none
 pin:∀p∈X.pn++pins,s.heap.get? p.1=some p.2/\H p.1=none/\p.1≠X.env.locals/\p.1∉X.fs/\∀v,p.2.data≠.cell v
 hok:HOk X.prog X.w H s.heap
 len:σ.length=X.N.length

section
variable{X:Cx}{pins:List (Qc×Obj)}{σ:List (Option V)}{H H':Hp}{s:Qd}{h':QH}

theorem Cx.Ok.nofr(ok:X.Ok){b:Qc}{o:Obj}(e:X.base.get? b=some o):b∉X.fs:=fun hb=>by have:=(ok.funs.mem hb).1;rw[e] at this;cases this
theorem Inv.bs(I:Inv X pins σ H s):∀b o,X.base.get? b=some o->s.heap.get? b=some o/\H b=none:=fun b o e=>⟨I.base.keep b o (I.ok.bs b o e).1 (I.ok.bs b o e).2 (I.ok.nofr e) (I.ok.noex b o e),I.base.free b o (I.ok.bs b o e).1 (I.ok.bs b o e).2 (I.ok.noex b o e)⟩
theorem Inv.bk(I:Inv X pins σ H s):∀b o,X.base.get? b=some o->s.heap.get? b=some o:=fun b o e=>(I.bs b o e).1
theorem Inv.mod(I:Inv X pins σ H s):Mod X.K X.mg X.base:=I.ok.mod
theorem Inv.kIn(I:Inv X pins σ H s):X.K.In s.heap:=I.ok.mod.kin.keeps I.bk
theorem Inv.nolimit(I:Inv X pins σ H s):s.heap.NoLimit:=I.ok.mod.nolimit.keeps I.bk
theorem Inv.fr(I:Inv X pins σ H s):∃m,Fr X.base X.env.locals s.heap m :=
 let ⟨m,hn,_⟩:=I.loc
 ⟨m,hn,I.bk,QQ I.ok.bsz I.ok.above⟩
theorem Inv.lt(I:Inv X pins σ H s):X.env.locals<s.heap.objs.size:=let ⟨_,hn,_⟩:=I.loc;hn.lt
theorem Inv.sz(I:Inv X pins σ H s):X.s₀.heap.objs.size<=s.heap.objs.size:=QQ I.ok.above (Kn I.lt)
theorem Inv.nofs(I:Inv X pins σ H s){a:Qc}(h:s.heap.objs.size<=a):a∉X.fs:=fun hb=>by obtain⟨_,o,ho,_⟩:=I.ok.funs.mem hb;exact absurd (QD (Qj ho) (QQ I.sz h)) (Q7 _)
theorem Inv.cne(I:Inv X pins σ H s):∀x c,X.env.cells.lookup x=some c->c≠X.env.locals:=fun x c e z=>by obtain⟨v,o,ho,hd⟩:=I.cell x c e;obtain⟨m,⟨o',es,ep,ho',hd',_⟩,_⟩:=I.loc;rw[z,ho'] at ho;cases ho;rw[hd'] at hd;cases hd
theorem Inv.funs(I:Inv X pins σ H s):s.heap.FunFrames X.base X.outer:=by
 have all:∀(l:List Env),(∀b∈frs l,b∈X.fs)->X.s₀.heap.FunFrames X.base l->s.heap.FunFrames X.base l:=by
  intro l
  induction l with
  | nil=>intro _ _;trivial
  | cons env r ih =>
   intro hs hl;obtain⟨hk,⟨L,o,hf,hn,ho,hd⟩,hr⟩:=hl;have hL:L∈X.fs:=hs L (by unfold frs;rw[GA,hf];exact Qz);obtain⟨sl,e⟩:=I.base.slot L o ho (I.ok.frf L hL) hL fun z=>I.ok.exfs L z hL
   exact⟨hk,⟨L,_,hf,hn,e,hd⟩,ih (fun b hb=>hs b (by unfold frs;rw[GA,hf];exact Qo _ hb)) hr⟩
 exact all X.outer (fun _ hb=>hb) I.ok.funs

theorem Inv.stack(I:Inv X pins σ H s):s.heap.FunFrames X.base X.stack:=by
 rcases I.ok.stk with e|⟨e,hf⟩
 ·rw[e];exact I.funs
 ·rw[e];obtain⟨m,hn,_⟩:=I.loc;refine .cons (by rw[I.ok.kind];decide) hf hn ?_ I.funs;exact GW (QQ I.ok.bsz I.ok.above)
theorem Inv.stkSub(I:Inv X pins σ H s):∀b∈frs X.stack,b∈X.env.locals::X.fs:=fun b hb=>by
 rcases I.ok.stk with e|⟨e,hf⟩
 ·rw[e] at hb;exact Qo _ hb
 ·rw[e] at hb;unfold frs at hb;rw[GA,hf] at hb;exact hb
theorem Inv.stkFree(I:Inv X pins σ H s):∀b∈frs X.stack,H b=none:=fun b hb=>by
 rcases Qq.mp (I.stkSub b hb) with e|hb
 ·rw[e];exact I.free
 ·obtain⟨_,o,ho,_⟩:=I.ok.funs.mem hb;exact I.base.free b o ho (I.ok.frf b hb) fun z=>I.ok.exfs b z hb

theorem Inv.step{g':Array GenState}{t':Nat}{d':Drawn}{ch:List Qc}(I:Inv X pins σ H s)
 (hch:∀b∈ch,(b∈X.ex\/X.s₀.heap.objs.size<=b)/\b≠X.env.locals/\(∀x c,X.env.cells.lookup x=some c->c≠b)/\∀p∈X.pn++pins,p.1≠b)
 (keep:∀b o,b≠X.env.locals->b∉X.fs->b∉ch->s.heap.get? b=some o->H b=none->h'.get? b=some o)
 (slot:∀b o,b≠X.env.locals->b∈X.fs->b∉ch->s.heap.get? b=some o->H b=none->∃sl,h'.get? b=some { o with slots:=sl }) (free:∀b o,b∉ch->s.heap.get? b=some o->H b=none->H' b=none)
 (there:∀b o,b∉ch->s.heap.get? b=some o->∃o',h'.get? b=some o')
 (tups:∀b xs,H b=some (.tup xs)->H' b=some (.tup xs)) (frzs:∀b o u,H b=some (.frz o u)->H' b=some (.frz o u)) (tbls:∀b ps,H b=some (.tbl ps)->∃more,H' b=some (.tbl (ps++more)))
 (ns:∀m,s.heap.Ns X.env.locals m->h'.Ns X.env.locals m) (hok:HOk X.prog X.w H' h') (hg:AllBare g') :
 Inv X pins σ H' { s with heap:=h',gens:=g',drawn:=d',toks:=t' }:=by
 have neL:∀b o,X.s₀.heap.get? b=some o->b≠X.env.locals:=fun b o e=>QI (QD (Qj e) I.ok.above)
 have neC:∀b o,X.s₀.heap.get? b=some o->b∉X.ex->b∉ch:=fun b o e hx hb=>by
  rcases(hch b hb).1 with z|z
  ·exact hx z
  ·exact absurd (QD (Qj e) z) (Q7 _)
 have cellK:∀x c,X.env.cells.lookup x=some c->∀v,s.heap.IsCell c v->h'.IsCell c v:=fun x c e v ⟨o,ho,hd⟩=>by
  have nch:c∉ch:=fun z=>(hch c z).2.2.1 x c e rfl
  by_cases hc:c∈X.fs
  ·obtain⟨sl,q⟩:=slot c o (I.cne x c e) hc nch ho (I.freeC x c e);exact⟨_,q,hd⟩
  ·exact⟨o,keep c o (I.cne x c e) hc nch ho (I.freeC x c e),hd⟩
 refine⟨I.ok,I.os,hg,⟨fun b o e n hb hx=>?_,fun b o e n hb hx=>?_,fun b o e n hx=>?_,fun b o e hx=>?_,fun b xs e=>tups b xs (I.base.tups b xs e),fun b o xs e=>frzs b o xs (I.base.frzs b o xs e),fun b ps e=>?_⟩,?_,fun x c e=>?_,?_,fun x c e=>?_,fun p hp=>?_,hok,I.len⟩
 ·exact keep b o (neL b o e) hb (neC b o e hx) (I.base.keep b o e n hb hx) (I.base.free b o e n hx)
 ·obtain⟨sl,e1⟩:=I.base.slot b o e n hb hx;obtain⟨sl',e2⟩:=slot b _ (neL b o e) hb (neC b o e hx) e1 (I.base.free b o e n hx);exact⟨sl',e2⟩
 ·obtain⟨o',e1⟩:=I.base.there b o e hx;exact free b o' (neC b o e hx) e1 (I.base.free b o e n hx)
 ·obtain⟨o',e1⟩:=I.base.there b o e hx;exact there b o' (neC b o e hx) e1
 ·obtain⟨m1,e1⟩:=I.base.tbls b ps e;obtain⟨m2,e2⟩:=tbls b _ e1;exact⟨m1++m2,by rw[e2,Array.append_assoc]⟩
 ·obtain⟨m,hn,hl⟩:=I.loc;refine⟨m,ns m hn,fun i x v e1 e2 e3=>?_⟩;obtain⟨u,r,l⟩:=hl i x v e1 e2 e3;refine⟨u,r,?_⟩;rcases l with l|⟨k,c,e,z⟩
  ·exact .inl l
  ·exact .inr ⟨k,c,e,cellK x c e _ z⟩
 ·obtain⟨v,z⟩:=I.cell x c e;exact⟨v,cellK x c e v z⟩
 ·obtain⟨m,⟨o,_,_,ho,_⟩,_⟩:=I.loc;exact free _ o (fun z=>(hch _ z).2.1 rfl) ho I.free
 ·obtain⟨v,o,ho,hd⟩:=I.cell x c e;exact free c o (fun z=>(hch c z).2.2.1 x c e rfl) ho (I.freeC x c e)
 ·obtain⟨e,n,ne,nf,d⟩:=I.pin p hp;have nch:p.1∉ch:=fun z=>(hch p.1 z).2.2.2 p hp rfl
  exact⟨keep p.1 p.2 ne nf nch e n,free p.1 p.2 nch e n,ne,nf,d⟩
theorem Inv.un{t':Nat}(I:Inv X pins σ H s)(u:Un X.fs [] H H' s.heap h')(hok:HOk X.prog X.w H' h'):Inv X pins σ H' { s with heap:=h',toks:=t' }:=by
 obtain⟨m,⟨o,es,ep,ho,r⟩,_⟩:=id I.loc;obtain⟨sl,hL⟩:=u.any ho I.free (by simp);exact I.step (g':=s.gens) (d':=s.drawn) (ch:=[]) (fun _ z=>nomatch z) (fun b o _ hb _ e n=>u.keep b o e n hb (by simp)) (fun b o _ hb _ e n=>u.slot b o e n hb (by simp)) (fun b o _ e n=>u.free b o e n (by simp)) (fun b o _ e=>u.there b o e (by simp)) u.tups u.frzs u.tbls (fun m' hm=>by obtain⟨o',es',ep',ho',r'⟩:=hm;rw[ho] at ho';cases ho';exact⟨_,es',ep',hL,r'⟩) hok I.bare
theorem Inv.call{g':Array GenState}{t':Nat}{d':Drawn}{ch:List Qc}(I:Inv X pins σ H s)(u:Un (frs X.stack) ch H H' s.heap h')(hok:HOk X.prog X.w H' h')(hg:AllBare g')
 (hch:∀b∈ch,(b∈X.ex\/X.s₀.heap.objs.size<=b)/\b≠X.env.locals/\(∀x c,X.env.cells.lookup x=some c->c≠b)/\∀p∈X.pn++pins,p.1≠b) :
 Inv X pins σ H' { s with heap:=h',gens:=g',drawn:=d',toks:=t' }:=by
 obtain⟨m,⟨o,es,ep,ho,r⟩,_⟩:=id I.loc;obtain⟨sl,hL⟩:=u.any ho I.free fun z=>(hch _ z).2.1 rfl
 exact I.step (ch:=ch) hch (fun b o hL hb hc e n=>u.keep b o e n (fun z=>(Qq.mp (I.stkSub b z)).elim hL hb) hc) (fun b o _ _ hc e n=>u.any e n hc) (fun b o hc e n=>u.free b o e n hc) (fun b o hc e=>u.there b o e hc) u.tups u.frzs u.tbls (fun m' hm=>by obtain⟨o',es',ep',ho',r'⟩:=hm;rw[ho] at ho';cases ho';exact⟨_,es',ep',hL,r'⟩) hok hg
theorem Inv.turned{t':Nat}{it:Qc}(I:Inv X pins σ H s)(k:∀b o,b≠it->s.heap.get? b=some o->h'.get? b=some o)(hn:H it=none)(hL:it≠X.env.locals)
 (h1:it∈X.ex\/X.s₀.heap.objs.size<=it) (h2:∀x c,X.env.cells.lookup x=some c->c≠it) (h3:∀p∈X.pn++pins,p.1≠it):Inv X pins σ H { s with heap:=h',toks:=t' }:=by
 have nit:∀b u,H b=some u->b≠it:=fun b u e z=>by rw[z,hn] at e;cases e
 refine I.step (g':=s.gens) (d':=s.drawn) (ch:=[it]) (fun b hb=>?_) (fun b o _ _ hc e _=>k b o (fun z=>hc (by simp[z])) e) (fun b o _ _ hc e _=>⟨o.slots,k b o (fun z=>hc (by simp[z])) e⟩) (fun _ _ _ _ n=>n)
  (fun b o hc e=>⟨o,k b o (fun z=>hc (by simp[z])) e⟩) (fun _ _ e=>e) (fun _ _ _ e=>e) (fun b ps e=>⟨#[],by rw[e];simp⟩) (fun m hm=>?_) (fun b u e=>?_) I.bare
 ·have e:b=it:=by simpa using hb
  subst e;exact⟨h1,hL,h2,h3⟩
 ·obtain⟨o,es,ep,ho,r⟩:=hm;exact⟨o,es,ep,k _ o (Q0 hL) ho,r⟩
 ·refine(I.hok b u e).stay (fun c v hc q=>k c v ?_ q) (fun _ q=>q) fun _ _ q=>q
  rcases hc with z|z
  ·rw[z];exact nit b u e
  ·exact nit c _ z
theorem Inv.tok(I:Inv X pins σ H s)(t:Nat):Inv X pins σ H { s with toks:=t }:=I.un (h':=s.heap) (t':=t) Un.refl I.hok
theorem Inv.kept{t':Nat}(I:Inv X pins σ H s)(k:∀b u,s.heap.get? b=some u->h'.get? b=some u):Inv X pins σ H { s with heap:=h',toks:=t' }:=I.un (Un.kept k) (I.hok.kept k)
theorem Inv.laid{a:Qc}{o:HO}{t':Nat}(I:Inv X pins σ H s)(k:∀b u,s.heap.get? b=some u->h'.get? b=some u)(hp:s.heap.objs.size<=a)(new:ObjOk X.prog X.w (upd H a o) h' a o) :
 Inv X pins σ (upd H a o) { s with heap:=h',toks:=t' }:=I.un (Un.laid k hp (I.hok.fresh hp)) (I.hok.laid k hp new)
theorem Inv.write{x e:Qc}{o:HO}{t':Nat}(I:Inv X pins σ H s)(mu:Mut (H x))(he:e=x\/H e=some (.own x))(k:∀b u,b≠e->s.heap.get? b=some u->h'.get? b=some u)(heo:∃u,h'.get? e=some u)
 (new:ObjOk X.prog X.w (upd H x o) h' x o):Inv X pins σ (upd H x o) { s with heap:=h',toks:=t' }:=I.un (Un.write mu he k heo) (I.hok.write mu he k heo new)
theorem Inv.weak{σ':List (Option V)}(I:Inv X pins σ H s)(hl:σ'.length=σ.length)(w:∀(i:Nat) v,σ'[i]?=some (some v)->σ[i]?=some (some v)):Inv X pins σ' H s :=
 ⟨I.ok,I.os,I.bare,I.base,let ⟨m,hn,hl'⟩:=I.loc;⟨m,hn,fun i x v e1 e2 e3=>hl' i x v e1 (w i v e2) e3⟩,I.cell,I.free,I.freeC,I.pin,I.hok,hl.trans I.len⟩
theorem Inv.pins_of{pins':List (Qc×Obj)}(I:Inv X pins σ H s)(h:∀p∈pins',s.heap.get? p.1=some p.2/\H p.1=none/\p.1≠X.env.locals/\p.1∉X.fs/\∀v,p.2.data≠.cell v):Inv X pins' σ H s :=
 ⟨I.ok,I.os,I.bare,I.base,I.loc,I.cell,I.free,I.freeC,fun p hp=>(Gx.mp hp).elim (fun z=>I.pin p (Lr _ z)) (h p),I.hok,I.len⟩

theorem Ja2{N:List Str}(hN:N.Nodup){i j:Nat}{x:Str}(a:N[i]?=some x)(b:N[j]?=some x):i=j:=by obtain⟨h1,e1⟩:=Qh.mp a;obtain⟨h2,e2⟩:=Qh.mp b;exact(List.getElem_inj hN).mp (e1.trans e2.symm)

theorem Jd6{M:Model}{A:Qu}{E:Qa->Qd->Prop}{i:Nat}{x:Str}{v:V}{u:Qa}{Q:Unit->Qd->Prop}(I:Inv X pins σ H s)(hN:X.N.Nodup)(hi:X.N[i]?=some x)(hx:Loc X.env.scope x)(r:RelV v u)
 (h:∀s',Inv X pins (σ.set i (some v)) H s'->(∃a,Q5 a s.heap s'.heap/\(a=X.env.locals\/X.env.cells.lookup x=some a))->Q () s') (hf:X.fn x=true\/X.env.scope.names.lookup x=some .local:=by first|exact .inl rfl|exact .inr rfl|assumption):wpAny M A (storeName X.env x u) Q E s:=by
 obtain⟨m,hn,hl⟩:=id I.loc;have hcls:(X.env.scope.kind == .class || (X.env.scope.kind == .module && X.env.locals != X.env.globals))=false:=by rw[I.ok.kind];rfl
 have hiσ:i<σ.length:=by rw[I.len];exact(Qh.mp hi).1
 have cne:=I.cne
 have tracked:∀{a:Qc} {h':QH},(∃o,s.heap.get? a=some o/\H a=none)->Q5 a s.heap h'->HOk X.prog X.w H h':=fun {a h'} ha hs b ob e=>by
  obtain⟨_,_,hfree⟩:=ha;refine(I.hok b ob e).stay (fun c w' hc q=>(hs.2 c ?_).trans q) (fun _ q=>q) fun _ _ q=>q
  rintro rfl;rcases hc with rfl|hc
  ·rw[hfree] at e;cases e
  ·rw[hfree] at hc;cases hc
 rcases hx with hk|hk
 ·refine wpAny_storeName_local hk hn (fun h' hn' hs=>?_) hcls;obtain⟨oL,_,_,hoL,_⟩:=id hn;refine h _ ⟨I.ok,I.os,I.bare,⟨fun b o e n hb hx=>?_,fun b o e n hb hx=>?_,I.base.free,fun b o e hx=>?_,I.base.tups,I.base.frzs,I.base.tbls⟩,⟨_,hn',fun j y v' e1 e2 e3=>?_⟩,fun y c e=>?_,I.free,I.freeC,fun p hp=>?_,tracked ⟨oL,hoL,I.free⟩ hs,by simpa using I.len⟩ ⟨_,hs,.inl rfl⟩
  ·exact(hs.2 b (QI (QD (Qj e) I.ok.above))).trans (I.base.keep b o e n hb hx)
  ·obtain⟨sl,e1⟩:=I.base.slot b o e n hb hx;exact⟨sl,(hs.2 b (QI (QD (Qj e) I.ok.above))).trans e1⟩
  ·obtain⟨o',e1⟩:=I.base.there b o e hx;exact⟨o',(hs.2 b (QI (QD (Qj e) I.ok.above))).trans e1⟩
  ·by_cases hj:j=i
   ·subst hj;rw[hi] at e1;cases e1;rw[Ko hiσ] at e2;cases e2;exact⟨u,r,.inl ⟨hk,by simp⟩⟩
   ·rw[KE (Q0 hj)] at e2;obtain⟨u',r',q⟩:=hl j y v' e1 e2 e3;refine⟨u',r',?_⟩;rcases q with ⟨k,e⟩|⟨k,c,e,z⟩
    ·refine .inl ⟨k,?_⟩;have:y≠x:=fun e=>hj (Ja2 hN e1 (e▸hi))
     simp[this,e]
    ·exact .inr ⟨k,c,e,z.sameBut hs (cne y c e)⟩
  ·obtain⟨w',z⟩:=I.cell y c e;exact⟨w',z.sameBut hs (cne y c e)⟩
  ·obtain⟨e,n,ne,nf,d⟩:=I.pin p hp;exact⟨(hs.2 p.1 ne).trans e,n,ne,nf,d⟩
 ·have hfn:X.fn x=true:=by
   rcases hf with z|z
   ·exact z
   ·rw[z] at hk;cases hk
  obtain⟨c,hc⟩:=I.ok.has x (.inl hk);obtain⟨w',z⟩:=I.cell x c hc;refine wpAny_storeName_cell I.ok.kind hk hc z (fun h' hc' hs=>?_);obtain⟨oc,hoc,hocd⟩:=id z;refine h { s with heap:=h' } ⟨I.ok,I.os,I.bare,⟨fun b o e n hb hx=>?_,fun b o e n hb hx=>?_,I.base.free,fun b o e hx=>?_,I.base.tups,I.base.frzs,I.base.tbls⟩,⟨m,hn.sameBut hs (Q0 (cne x c hc)),fun j y v' e1 e2 e3=>?_⟩,fun y c' e=>?_,I.free,I.freeC,fun p hp=>?_,tracked ⟨oc,hoc,I.freeC x c hc⟩ hs,by simpa using I.len⟩ ⟨c,hs,.inr hc⟩
  ·exact(hs.2 b (QI (QD (Qj e) (I.ok.cab x c hfn hc)))).trans (I.base.keep b o e n hb hx)
  ·obtain⟨sl,e1⟩:=I.base.slot b o e n hb hx;exact⟨sl,(hs.2 b (QI (QD (Qj e) (I.ok.cab x c hfn hc)))).trans e1⟩
  ·obtain⟨o',e1⟩:=I.base.there b o e hx;exact⟨o',(hs.2 b (QI (QD (Qj e) (I.ok.cab x c hfn hc)))).trans e1⟩
  ·by_cases hj:j=i
   ·subst hj;rw[hi] at e1;cases e1;rw[Ko hiσ] at e2;cases e2;exact⟨u,r,.inr ⟨.inl hk,c,hc,hc'⟩⟩
   ·rw[KE (Q0 hj)] at e2;obtain⟨u',r',q⟩:=hl j y v' e1 e2 e3;refine⟨u',r',?_⟩;rcases q with q|⟨k,c',e,z'⟩
    ·exact .inl q
    ·refine .inr ⟨k,c',e,z'.sameBut hs ?_⟩;rintro rfl;exact hj (Ja2 hN e1 (I.ok.inj _ _ _ e hc▸hi))
  ·by_cases hcc:c'=c
   ·subst hcc;exact⟨_,hc'⟩
   ·obtain⟨w2,z2⟩:=I.cell y c' e;exact⟨w2,z2.sameBut hs hcc⟩
  ·obtain⟨e,n,ne,nf,d⟩:=I.pin p hp;refine⟨(hs.2 p.1 ?_).trans e,n,ne,nf,d⟩;intro q;rw[q,hoc] at e;have q':oc=p.2:=QM e;exact d w' (by rw[<- q'];exact hocd)
theorem Zf{M:Model}{A:Qu}{E:Qa->Qd->Prop}{i:Nat}{x:Str}{v:V}{u:Qa}{Q:Unit->Qd->Prop}(I:Inv X pins σ H s)(hN:X.N.Nodup)(hi:X.N[i]?=some x)(hx:Loc X.env.scope x)(r:RelV v u)
 (h:∀s',Inv X pins (σ.set i (some v)) H s'->Q () s') (hf:X.fn x=true\/X.env.scope.names.lookup x=some .local:=by first|exact .inl rfl|exact .inr rfl|assumption):wpAny M A (storeName X.env x u) Q E s :=
 Jd6 I hN hi hx r (fun s' I' _=>h s' I') hf
theorem Inv.call'{s':Qd}{ch:List Qc}(I:Inv X pins σ H s)(ho:s'.os=s.os)(u:Un (frs X.stack) ch H H' s.heap s'.heap)(hok:HOk X.prog X.w H' s'.heap)(hg:AllBare s'.gens)
 (hch:∀b∈ch,(b∈X.ex\/X.s₀.heap.objs.size<=b)/\b≠X.env.locals/\(∀x c,X.env.cells.lookup x=some c->c≠b)/\∀p∈X.pn++pins,p.1≠b):Inv X pins σ H' s':=by
 obtain⟨h',g',d',t',o'⟩:=s';have e:o'=s.os:=ho;subst e;exact I.call (g':=g') (t':=t') (d':=d') u hok hg hch
end

noncomputable abbrev XK:=Qa->Option Qc->Hp->Prop
noncomputable abbrev St:=List (Option V)
noncomputable abbrev VK:=V->Hp->Prop
noncomputable abbrev TE:=St->Hp->VK->Prop
noncomputable abbrev TT:=St->Hp->(Bool->Hp->Prop)->Prop
noncomputable abbrev TA:=St->Hp->(List V->Hp->Prop)->Prop
structure Ends where
 nx:St->Hp->Prop
 rt:VK
 bk:St->Hp->Prop:=fun _ _=>False
 ct:St->Hp->Prop:=fun _ _=>False
noncomputable abbrev TS:=Ends->St->Hp->Prop

noncomputable def EP(X:Cx)(pins:List (Qc×Obj))(σ:St)(Q:VK)(u:Qa)(s':Qd):Prop:=∃v H',Inv X pins σ H' s'/\RelV v u/\Q v H'
noncomputable def TP(X:Cx)(pins:List (Qc×Obj))(σ:St)(Q:Bool->Hp->Prop)(b:Bool)(s':Qd):Prop:=∃H',Inv X pins σ H' s'/\Q b H'
noncomputable def AP(X:Cx)(pins:List (Qc×Obj))(σ:St)(Q:List V->Hp->Prop)(us:List Qa)(s':Qd):Prop:=∃vs H',Inv X pins σ H' s'/\Vals vs us/\Q vs H'
noncomputable def SP(X:Cx)(pins:List (Qc×Obj))(D:Ends)(f:Flow)(s':Qd):Prop :=
 match f with
 | .next=>∃σ' H',Inv X pins σ' H' s'/\D.nx σ' H'
 | .brk=>∃σ' H',Inv X pins σ' H' s'/\D.bk σ' H'
 | .cont=>∃σ' H',Inv X pins σ' H' s'/\D.ct σ' H'
 | .ret u=>∃v σ' H',Inv X pins σ' H' s'/\RelV v u/\D.rt v H'

noncomputable def PE(X:Cx)(e:QO)(t:TE):Prop :=
 ∀(pins:List (Qc×Obj)) (s:Qd) (σ:St) (H:Hp) (Q:VK),Inv X pins σ H s->t σ H Q->wpAny (model X.prog X.w) X.A (eval e X.env) (EP X pins σ Q) X.xe s
noncomputable def PT(X:Cx)(e:QO)(t:TT):Prop :=
 ∀(pins:List (Qc×Obj)) (s:Qd) (σ:St) (H:Hp) (Q:Bool->Hp->Prop),Inv X pins σ H s->t σ H Q->wpAny (model X.prog X.w) X.A (isTrue e X.env (eval e X.env)) (TP X pins σ Q) X.xe s
noncomputable def PW(X:Cx)(e:QO)(t:TT):Prop :=
 ∀(whole:Sem Qa) (pins:List (Qc×Obj)) (s:Qd) (σ:St) (H:Hp) (Q:Bool->Hp->Prop),Inv X pins σ H s->t σ H Q->wpAny (model X.prog X.w) X.A (isTrue e X.env whole) (TP X pins σ Q) X.xe s
theorem PW.pt{X:Cx}{e:QO}{t:TT}(h:PW X e t):PT X e t:=h _
noncomputable def PA(X:Cx)(es:List QO)(t:TA):Prop :=
 ∀(pos:Pos) (pins:List (Qc×Obj)) (s:Qd) (σ:St) (H:Hp) (Q:List V->Hp->Prop),Inv X pins σ H s->t σ H Q->wpAny (model X.prog X.w) X.A (spliced (backTo pos (starEach es X.env))) (AP X pins σ Q) X.xe s
noncomputable def PS(X:Cx)(st:Ga)(t:TS):Prop :=
 ∀(pins:List (Qc×Obj)) (s:Qd) (σ:St) (H:Hp) (D:Ends),Inv X pins σ H s->t D σ H->wpAny (model X.prog X.w) X.A (exec st X.env) (SP X pins D) X.xe s
noncomputable def PSs(X:Cx)(st:List Ga)(t:TS):Prop :=
 ∀(pins:List (Qc×Obj)) (s:Qd) (σ:St) (H:Hp) (D:Ends),Inv X pins σ H s->t D σ H->wpAny (model X.prog X.w) X.A (execs st X.env) (SP X pins D) X.xe s
theorem thn{α:Type}{t:Sem α}{Q Q':α->Qd->Prop}{M:Model}{A:Qu}{E:Qa->Qd->Prop}{s:Qd}(h:wpAny M A t Q E s)(hQ:∀a s,Q a s->Q' a s):wpAny M A t Q' E s:=QZ h hQ fun _ _ x=>x
end L2

namespace L2
open PySem PySem.Spec PyProof.Rows
section
variable{X:Cx}

noncomputable def JaC(i:Nat):TE:=fun σ H Q=>∃v,σ[i]?=some (some v)/\Q v H
noncomputable def tC(v:V):TE:=fun _ H Q=>Q v H
theorem Za{i:Nat}{x:Str}{pos:Pos}(hN:X.N[i]?=some x)(hv:Vis X.env.scope x)(hd:(x == ("__debug__":Str))=false:=by decide)(hcd:(x == ("__classdict__":Str))=false:=by decide):PE X (.Name x pos) (JaC i):=by
 intro pins s σ H Q I h;obtain⟨v,e,h⟩:=h;obtain⟨m,hn,hl⟩:=I.loc;obtain⟨u,r,l⟩:=hl i x v hN e hv;have fin:EP X pins σ Q u s:=⟨v,H,I,r,h⟩
 rcases l with ⟨hk,hm⟩|⟨hk,c,hc,hcell⟩
 ·exact wpAny_Name (wpAny_loadName_local I.ok.kind hk hn hm fin) hd
 ·rcases hk with hk|hk
  ·exact wpAny_Name (wpAny_loadName_cell I.ok.kind hk hc hcell fin) hd
  ·exact wpAny_Name (wpAny_loadName_free I.ok.kind hk hc hcell fin hcd) hd
theorem Jf{i j pos}:PE X (.Constant (.int i) j pos) (tC (.int i)):=fun _ _ _ H _ I h=>wpAny_Constant_int ⟨.int i,H,I.tok _,⟨_,rfl⟩,h⟩
theorem Y9{b j pos}:PE X (.Constant (.bool b) j pos) (tC (.bl b)):=fun _ _ _ H _ I h=>Constant_bool ⟨.bl b,H,I,rfl,h⟩
theorem W9{j pos}:PE X (.Constant .none j pos) (tC .non):=fun _ _ _ H _ I h=>Constant_none ⟨.non,H,I,rfl,h⟩
theorem Yh{x j pos}:PE X (.Constant (.str x) j pos) (tC (.str x)):=fun _ _ _ H _ I h=>Calls.Constant_str ⟨.str x,H,I.tok _,⟨_,rfl⟩,h⟩

noncomputable def Gl(X:Cx)(x:Str):Prop:=X.env.kindOf x=some .globalImplicit
theorem Y7{E:Qa->Qd->Prop}{pins:List (Qc×Obj)}{s:Qd}{σ:St}{H:Hp}{x:Str}{u:Qa}{pos:Pos}{Q:Qa->Qd->Prop}(I:Inv X pins σ H s)(hg:Gl X x)(hm:X.mg x=some u)(h:Q u s)
 (hd:(x == ("__debug__":Str))=false:=by decide):wpAny (model X.prog X.w) X.A (eval (.Name x pos) X.env) Q E s :=
 KO I.ok.kind hg (Calls.loadGlobal_global (by rw[I.ok.glob];exact I.mod.glob.keeps I.bk) hm h) hd
theorem Vf{E:Qa->Qd->Prop}{pins:List (Qc×Obj)}{s:Qd}{σ:St}{H:Hp}{x:Str}{u:Qa}{pos:Pos}{Q:Qa->Qd->Prop}(I:Inv X pins σ H s)(hg:Gl X x)(hm:X.mg x=none)(hv:bootBuiltins x=some u)(h:Q u s)
 (hn:x≠"__name__":=by decide) (hd:(x == ("__debug__":Str))=false:=by decide):wpAny (model X.prog X.w) X.A (eval (.Name x pos) X.env) Q E s:=by
 obtain⟨mb,h1,h2⟩:=I.mod.blt;exact KO I.ok.kind hg (Calls.loadGlobal_builtin (by rw[I.ok.glob];exact I.mod.glob.keeps I.bk) hm (by rw[I.ok.blt];exact h1.keeps I.bk) ((h2 x hn).trans hv) h) hd
theorem Yo{x:Str}{v:V}{u:Qa}{pos:Pos}(hg:Gl X x)(hm:X.mg x=some u)(r:RelV v u)(hd:(x == ("__debug__":Str))=false:=by decide):PE X (.Name x pos) (tC v) :=
 fun _ _ _ H _ I h=>Y7 I hg hm ⟨v,H,I,r,h⟩ hd
theorem U0{x:Str}{v:V}{u:Qa}{pos:Pos}(hg:Gl X x)(hm:X.mg x=none)(hv:bootBuiltins x=some u)(r:RelV v u)(hn:x≠"__name__":=by decide)(hd:(x == ("__debug__":Str))=false:=by decide):PE X (.Name x pos) (tC v) :=
 fun _ _ _ H _ I h=>Vf I hg hm hv ⟨v,H,I,r,h⟩ hn hd

variable{a b:QO}{ta tb:TE}{pos:Pos}
noncomputable def tB(t:TE):TT:=fun σ H Q=>t σ H fun x H1=>∃c,x=.bl c/\Q c H1
variable{tA tB':TT}{rest:List QO}
noncomputable def Jkh(t u:TT):TT:=fun σ H Q=>t σ H fun c H1=>if c=true then u σ H1 Q else Q false H1
noncomputable def tOr(t u:TT):TT:=fun σ H Q=>t σ H fun c H1=>if c=true then Q true H1 else u σ H1 Q
noncomputable def Jkj(t:TT):TT:=fun σ H Q=>t σ H fun c H1=>Q (!c) H1
theorem Wy(ha:PT X a tA):PW X (.BoolOp .And [a] pos) tA:=by
 intro wh pins s σ H Q I h;refine isTrue_and (thn (ha pins s σ H Q I h) fun c s1 e=>?_)
 cases c with
 | true=>exact isTrue_and_nil e
 | false=>exact e
theorem UJ(ha:PT X a tA):PW X (.BoolOp .Or [a] pos) tA:=by
 intro wh pins s σ H Q I h;refine isTrue_or (thn (ha pins s σ H Q I h) fun c s1 e=>?_)
 cases c with
 | false=>exact isTrue_or_nil e
 | true=>exact e
theorem Jat(ha:PT X a tA)(hb:PW X (.BoolOp .And (b::rest) pos) tB'):PW X (.BoolOp .And (a::b::rest) pos) (Jkh tA tB'):=by
 intro wh pins s σ H Q I h;refine isTrue_and (thn (ha pins s σ H _ I h) fun c s1 ⟨H1,I1,q1⟩=>?_)
 cases c with
 | true=>exact hb wh pins s1 σ H1 Q I1 q1
 | false=>exact⟨H1,I1,q1⟩
theorem VM(ha:PT X a tA)(hb:PW X (.BoolOp .Or (b::rest) pos) tB'):PW X (.BoolOp .Or (a::b::rest) pos) (tOr tA tB'):=by
 intro wh pins s σ H Q I h;refine isTrue_or (thn (ha pins s σ H _ I h) fun c s1 ⟨H1,I1,q1⟩=>?_)
 cases c with
 | true=>exact⟨H1,I1,q1⟩
 | false=>exact hb wh pins s1 σ H1 Q I1 q1
theorem YI(ha:PT X a tA):PT X (.UnaryOp .Not a pos) (Jkj tA):=by intro pins s σ H Q I h;exact isTrue_not (ha pins s σ H (fun c H1=>Q (!c) H1) I h)
noncomputable def JfQ(ta tb:TE):TE:=fun σ H Q=>ta σ H fun x H1=>∃c,x=.bl c/\if c=true then tb σ H1 Q else Q (.bl false) H1
noncomputable def JlM(ta tb:TE):TE:=fun σ H Q=>ta σ H fun x H1=>∃c,x=.bl c/\if c=true then Q (.bl true) H1 else tb σ H1 Q
noncomputable def JfT(ta:TE):TE:=fun σ H Q=>ta σ H fun x H1=>∃c,x=.bl c/\Q (.bl (!c)) H1
theorem Jas{op}{t:TE}(h:PE X a t):PE X (.BoolOp op [a] pos) t:=fun pins s σ H Q I hw=>BoolOp_one (h pins s σ H Q I hw)
theorem W7(ha:PE X a ta)(hb:PE X (.BoolOp .And (b::rest) pos) tb):PE X (.BoolOp .And (a::b::rest) pos) (JfQ ta tb):=by
 intro pins s σ H Q I h;refine BoolOp_and (thn (ha pins s σ H _ I h) fun v s1 ⟨x,H1,I1,r1,q1⟩=>?_);obtain⟨c,rfl,q1⟩:=q1;cases r1;refine Gh ?_
 cases c with
 | true=>exact hb pins s1 σ H1 Q I1 q1
 | false=>exact⟨.bl false,H1,I1,rfl,q1⟩
theorem Jjx(ha:PE X a ta):PE X (.UnaryOp .Not a pos) (JfT ta):=by intro pins s σ H Q I h;refine UnaryOp_ (thn (ha pins s σ H _ I h) fun v s1 ⟨x,H1,I1,r1,q1⟩=>?_);obtain⟨c,rfl,q1⟩:=q1;cases r1;exact not_of (Gh ⟨.bl (!c),H1,I1,rfl,q1⟩)
noncomputable def tIf(t:TT)(ta tb:TE):TE:=fun σ H Q=>t σ H fun c H1=>if c=true then ta σ H1 Q else tb σ H1 Q
theorem Jff{c:QO}(hc:PT X c tA)(ha:PE X a ta)(hb:PE X b tb):PE X (.IfExp c a b pos) (tIf tA ta tb):=by
 intro pins s σ H Q I h;refine wpAny_IfExp (thn (hc pins s σ H _ I h) fun d s1 ⟨H1,I1,q1⟩=>?_)
 cases d with
 | true=>exact ha pins s1 σ H1 Q I1 q1
 | false=>exact hb pins s1 σ H1 Q I1 q1
end
end L2

namespace L2
open PySem PySem.Spec PyProof.Rows

noncomputable def SqL(K:Qn)(H:Hp)(a:Qc)(xs:List V):Prop :=
 Rd H a (.lst xs) ∨
  ∃(o:Obj) (its:Array Qa) (n:Nat),K.lookup a=some o/\o.cls=.type "list"/\o.dict=none/\o.data=.seq its n/\its.size<=Qk/\Vals xs its.toList
noncomputable def SqT(K:Qn)(H:Hp)(a:Qc)(xs:List V):Prop :=
 Rd H a (.tup xs) ∨
  ∃(o:Obj) (its:Array Qa) (n:Nat),K.lookup a=some o/\o.cls=.type "tuple"/\o.data=.seq its n/\its.size<=Qk/\Vals xs its.toList
noncomputable def Jls:Qa->Option V
 | .none=>some .non
 | .bool b=>some (.bl b)
 | .int i _=>some (.int i)
 | .str x _=>some (.str x)
 | .bytes b _=>some (.byt b)
 | .float b _=>some (.flt b)
 | .ref a=>some (.ref a)
 | .type n=>some (.ty n)
 | _=>none
theorem RelV.abs{x:V}{u:Qa}(r:RelV x u):Jls u=some x:=by
 cases x with
 | non=>cases r;rfl
 | bl _=>cases r;rfl
 | int _=>obtain⟨t,rfl⟩:=r;rfl
 | str _=>obtain⟨t,rfl⟩:=r;rfl
 | byt _=>obtain⟨t,rfl⟩:=r;rfl
 | flt _=>obtain⟨t,rfl⟩:=r;rfl
 | ref _=>cases r;rfl
 | ty _=>cases r;rfl
theorem RelV.inj{x y:V}{u:Qa}(r:RelV x u)(q:RelV y u):x=y:=QM (r.abs.symm.trans q.abs)
theorem Vals.inj:∀{xs ys:List V} {us:List Qa},Vals xs us->Vals ys us->xs=ys
 | _,_,_,.nil,.nil=>rfl
 | _,_,_,.cons r t,.cons r' t'=>by rw[r.inj r',Vals.inj t t']
section
variable{X:Cx}{pins:List (Qc×Obj)}{σ:St}{H:Hp}{s:Qd}{a:Qc}{xs ys:List V}
theorem SqL.of{K:Qn}(h:H a=some (.lst xs)):SqL K H a xs:=.inl (.inl h)
theorem SqT.of{K:Qn}(h:H a=some (.tup xs)):SqT K H a xs:=.inl (.inl h)
theorem Inv.list(I:Inv X pins σ H s)(h:SqL X.K H a xs):∃its:List Qa,Vals xs its/\PlainL s.heap a its.toArray/\xs.length<=Qk:=by
 rcases h with h|⟨o,its,n,hk,hc,hd,hs,hz,r⟩
 ·obtain⟨z,its,n,r,e⟩:=h.ok I.hok;exact⟨its,r,⟨_,n,e,rfl,rfl,rfl⟩,z⟩
 ·refine⟨its.toList,r,⟨o,n,I.kIn a o hk,hc,hd,by simpa using hs⟩,?_⟩;have e:=r.length;simp only[LD] at e;omega
theorem Inv.tuple(I:Inv X pins σ H s)(h:SqT X.K H a xs):∃its:List Qa,Vals xs its/\IsTup s.heap a its.toArray/\xs.length<=Qk:=by
 rcases h with h|⟨o,its,n,hk,hc,hs,hz,r⟩
 ·obtain⟨z,its,r,p⟩:=h.ok I.hok;exact⟨its,r,p,z⟩
 ·refine⟨its.toList,r,⟨o,I.kIn a o hk,hc,n,by simpa using hs⟩,?_⟩;have e:=r.length;simp only[LD] at e;omega
theorem Inv.list_inj(I:Inv X pins σ H s)(h:SqL X.K H a xs)(h':SqL X.K H a ys):xs=ys:=by
 obtain⟨its,r,⟨o,n,e,_,_,d⟩,_⟩:=I.list h;obtain⟨its',r',⟨o',n',e',_,_,d'⟩,_⟩:=I.list h';rw[e] at e';cases e';rw[d] at d'
 injection d' with d1 _
 have:its=its':=by simpa using congrArg Array.toList d1
 subst this;exact r.inj r'
theorem Inv.tuple_inj(I:Inv X pins σ H s)(h:SqT X.K H a xs)(h':SqT X.K H a ys):xs=ys:=by
 obtain⟨its,r,⟨o,e,_,n,d⟩,_⟩:=I.tuple h;obtain⟨its',r',⟨o',e',_,n',d'⟩,_⟩:=I.tuple h';rw[e] at e';cases e';rw[d] at d'
 injection d' with d1 _
 have:its=its':=by simpa using congrArg Array.toList d1
 subst this;exact r.inj r'
end

noncomputable abbrev Cx.wish(X:Cx)(E:Qa->Qd->Prop):Cx:={ X with xe:=E }
noncomputable abbrev Cx.nox(X:Cx):Cx:=X.wish fun _ _=>False
theorem Cx.Ok.wish{X:Cx}(ok:X.Ok)(E:Qa->Qd->Prop):(X.wish E).Ok :=
 ⟨ok.mod,ok.kind,ok.glob,ok.blt,ok.above,ok.inj,ok.has,ok.cab,ok.hd,ok.frames,ok.stk,ok.exf,ok.bs,ok.bsz,ok.noex,ok.exfs,ok.funs,ok.frf⟩
theorem Cx.Ok.unwish{X:Cx}{E:Qa->Qd->Prop}(ok:(X.wish E).Ok):X.Ok :=
 ⟨ok.mod,ok.kind,ok.glob,ok.blt,ok.above,ok.inj,ok.has,ok.cab,ok.hd,ok.frames,ok.stk,ok.exf,ok.bs,ok.bsz,ok.noex,ok.exfs,ok.funs,ok.frf⟩
section
variable{X:Cx}{pins:List (Qc×Obj)}{σ:St}{H:Hp}{s:Qd}{E:Qa->Qd->Prop}
theorem Inv.wish(I:Inv X pins σ H s)(E:Qa->Qd->Prop):Inv (X.wish E) pins σ H s:=⟨I.ok.wish E,I.os,I.bare,I.base,I.loc,I.cell,I.free,I.freeC,I.pin,I.hok,I.len⟩
theorem Inv.unwish(I:Inv (X.wish E) pins σ H s):Inv X pins σ H s:=⟨I.ok.unwish,I.os,I.bare,I.base,I.loc,I.cell,I.free,I.freeC,I.pin,I.hok,I.len⟩
theorem SP.unwish{D:Ends}{f:Flow}{s':Qd}(h:SP (X.wish E) pins D f s'):SP X pins D f s':=by
 cases f with
 | next=>obtain⟨σ',H',I,q⟩:=h;exact⟨σ',H',I.unwish,q⟩
 | brk=>obtain⟨σ',H',I,q⟩:=h;exact⟨σ',H',I.unwish,q⟩
 | cont=>obtain⟨σ',H',I,q⟩:=h;exact⟨σ',H',I.unwish,q⟩
 | ret u=>obtain⟨v,σ',H',I,r,q⟩:=h;exact⟨v,σ',H',I.unwish,r,q⟩
theorem PE.nox{e:QO}{t:TE}(h:PE X.nox e t):PE X e t:=fun pins s σ H Q I hw=>QZ (h pins s σ H Q (I.wish _) hw) (fun _ _ ⟨v,H',I',r,q⟩=>⟨v,H',I'.unwish,r,q⟩) fun _ _ z=>QS z
theorem PT.nox{e:QO}{t:TT}(h:PT X.nox e t):PT X e t:=fun pins s σ H Q I hw=>QZ (h pins s σ H Q (I.wish _) hw) (fun _ _ ⟨H',I',q⟩=>⟨H',I'.unwish,q⟩) fun _ _ z=>QS z
theorem PSs.nox{st:List Ga}{t:TS}(h:PSs X.nox st t):PSs X st t:=fun pins s σ H D I hw=>QZ (h pins s σ H D (I.wish _) hw) (fun _ _ q=>q.unwish) fun _ _ z=>QS z
end

section
variable{X:Cx}{st:Ga}{rest:List Ga}{t u:TS}{e:QO}{te:TE}{pos:Pos}
noncomputable def JfS:TS:=fun D σ H=>D.nx σ H
noncomputable def Jd8(t u:TS):TS:=fun D σ H=>t { D with nx:=u D } σ H
theorem JL:PSs X [] JfS:=fun _ _ σ H _ I h=>Kg ⟨σ,H,I,h⟩
theorem Jg(h1:PS X st t)(h2:PSs X rest u):PSs X (st::rest) (Jd8 t u):=by
 intro pins s σ H D I h;refine K1 (thn (h1 pins s σ H { D with nx:=u D } I h) fun f s1 q=>?_)
 cases f with
 | next=>obtain⟨σ',H',I',q⟩:=q;exact h2 pins s1 σ' H' D I' q
 | ret v=>exact q
 | brk=>exact q
 | cont=>exact q
theorem Jm(h1:PS X st t):PSs X [st] t:=by
 intro pins s σ H D I h;refine K1 (thn (h1 pins s σ H D I h) fun f s1 q=>?_)
 cases f with
 | next=>exact Kg q
 | ret v=>exact q
 | brk=>exact q
 | cont=>exact q
theorem Inv.quiet{pins:List (Qc×Obj)}{σ:St}{H:Hp}{s:Qd}(I:Inv X pins σ H s):interactive X.env=false:=by simp[interactive,I.ok.kind]
noncomputable def Jbu(te:TE):TS:=fun D σ H=>te σ H fun _ H1=>D.nx σ H1
theorem VL(he:PE X e te)(hs:swapsWith e none pos.line X.env=pure false:=by rfl):PS X (.Expr e pos) (Jbu te):=by intro pins s σ H D I h;exact wpAny_Expr_any (thn (he pins s σ H _ I h) fun v s1 ⟨x,H1,I1,r1,q1⟩=>⟨σ,H1,I1,q1⟩) I.quiet hs
noncomputable def JfU(te:TE):TS:=fun D σ H=>te σ H D.rt
theorem JI(he:PE X e te):PS X (.Return (some e) pos) (JfU te):=by intro pins s σ H D I h;exact wpAny_Return_some (thn (he pins s σ H _ I h) fun v s1 ⟨x,H1,I1,r1,q1⟩=>⟨x,σ,H1,I1,r1,q1⟩)
noncomputable def Jd7(c:TT)(t u:TS):TS:=fun D σ H=>c σ H fun b H1=>if b=true then t D σ H1 else u D σ H1
theorem Ym{c:QO}{a b:List Ga}{tc:TT}(hc:PT X c tc)(ha:PSs X a t)(hb:PSs X b u):PS X (.If c a b pos) (Jd7 tc t u):=by
 intro pins s σ H D I h;refine wpAny_If (thn (hc pins s σ H _ I h) fun d s1 ⟨H1,I1,q1⟩=>?_)
 cases d with
 | true=>exact ha pins s1 σ H1 D I1 q1
 | false=>exact hb pins s1 σ H1 D I1 q1
end

noncomputable abbrev TG:=V->St->Hp->(St->Hp->Prop)->Prop
noncomputable abbrev TGs:=List V->St->Hp->(St->Hp->Prop)->Prop
noncomputable def PG(X:Cx)(target:QO)(t:TG):Prop :=
 ∀(pins:List (Qc×Obj)) (s:Qd) (σ:St) (H:Hp) (v:V) (u:Qa) (Q:St->Hp->Prop),Inv X pins σ H s->RelV v u->t v σ H Q ->
  wpAny (model X.prog X.w) X.A (assign target X.env u) (fun _ s'=>∃σ' H',Inv X pins σ' H' s'/\Q σ' H') X.xe s
noncomputable def PGs(X:Cx)(ts:List QO)(t:TGs):Prop :=
 ∀(pins:List (Qc×Obj)) (s:Qd) (σ:St) (H:Hp) (vs:List V) (us:List Qa) (Q:St->Hp->Prop),Inv X pins σ H s->Vals vs us->t vs σ H Q ->
  wpAny (model X.prog X.w) X.A (assignInOrder ((assignEach ts X.env).map (·.2)) us) (fun _ s'=>∃σ' H',Inv X pins σ' H' s'/\Q σ' H') X.xe s
noncomputable abbrev Jf6:=V->V->V->Hp->(Hp->Prop)->Prop
noncomputable def JkD(X:Cx)(t:Jf6):Prop :=
 ∀(pins:List (Qc×Obj)) (s:Qd) (σ:St) (H:Hp) (o i v:V) (ov iv u:Qa) (Q:Hp->Prop),Inv X pins σ H s->RelV o ov->RelV i iv->RelV v u->t o i v H Q ->
  wpAny (model X.prog X.w) X.A (setItem ov iv u) (fun _ s'=>∃H',Inv X pins σ H' s'/\Q H') X.xe s
section
variable{X:Cx}{pos:Pos}
noncomputable def U8(i:Nat):TG:=fun v σ H Q=>Q (σ.set i (some v)) H
theorem J8{i:Nat}{x:Str}(hN:X.N.Nodup)(hi:X.N[i]?=some x)(hx:Loc X.env.scope x)(hf:X.fn x=true\/X.env.scope.names.lookup x=some .local:=by first|exact .inl rfl|exact .inr rfl|assumption):PG X (.Name x pos) (U8 i):=by intro pins s σ H v u Q I r h;exact wpAny_assign_Name (Zf I hN hi hx r (fun s' I'=>⟨_,H,I',h⟩) hf)
noncomputable def JiQ:TGs:=fun vs σ H Q=>vs=[]/\Q σ H
noncomputable def JeN(t:TG)(u:TGs):TGs:=fun vs σ H Q=>∃v r,vs=v::r/\t v σ H fun σ' H'=>u r σ' H' Q
theorem Ub:PGs X [] JiQ:=by intro pins s σ H vs us Q I r h;obtain⟨e,h⟩:=h;subst e;cases r;exact assignInOrder_nil ⟨σ,H,I,h⟩
theorem JU{e:QO}{es:List QO}{t:TG}{u:TGs}(h1:PG X e t)(h2:PGs X es u)
 (hs:(assignEach (e::es) X.env).map (·.2)=assign e X.env::(assignEach es X.env).map (·.2):=by rfl):PGs X (e::es) (JeN t u):=by
 intro pins s σ H vs us Q I r h;obtain⟨v,vr,e1,h⟩:=h;subst e1
 cases r with
 | cons r rr=>rw[hs];refine assignInOrder_cons (thn (h1 pins s σ H _ _ _ I r h) fun _ s1 ⟨σ1,H1,I1,q1⟩=>?_);exact h2 pins s1 σ1 H1 _ _ Q I1 rr q1
noncomputable def JeO(K:Qn)(n:Nat)(t:TGs):TG:=fun v σ H Q=>∃a xs,v=.ref a/\SqT K H a xs/\xs.length=n/\t xs σ H Q
theorem Jjz{es:List QO}{k:Nat}{t:TGs}{n:Nat}(hc:X.calm=true)(h:PGs X es t)
 (hn:(assignEach es X.env).length=n:=by rfl) (hst:(assignEach es X.env).findIdx? (·.1)=none:=by rfl):PG X (.Tuple es k pos) (JeO X.K n t):=by
 intro pins s σ H v u Q I r hw;obtain⟨a,xs,e1,hq,hl,hw⟩:=hw;subst e1;cases r;obtain⟨its,rv,ht,hz⟩:=I.tuple hq;refine assign_Tuple_tuple (I.ok.hd hc) ht (by simp[hn,<- hl,rv.length]) hst fun h' hx=>?_
 have I1:Inv X pins σ H { s with heap:=h' }:=I.kept (t':=s.toks) fun b o e=>hx b o (QI (Qj e)) e
 exact h pins _ σ H xs _ Q I1 (by simpa using rv) hw
noncomputable def JiR(to ti:TE)(t:Jf6):TG:=fun v σ H Q=>to σ H fun o H1=>ti σ H1 fun i H2=>t o i v H2 fun H3=>Q σ H3
theorem Jjy{o i:QO}{to ti:TE}{t:Jf6}(ho:PE X o to)(hi:PE X i ti)(hs:JkD X t)
 (ha:∀v,assign (.Subscript o i pos) X.env v=(do
  let ov <- holding [v] (eval o X.env)
  let iv <- holding [v,ov] (eval i X.env)
  standAt pos
  holding [v,ov,iv] (setItem ov iv v)
  release [v,ov,iv] []):=by intro _;rfl):PG X (.Subscript o i pos) (JiR to ti t):=by
 intro pins s σ H v u Q I r h;rw[ha];refine Qe (Gq (thn (ho pins s σ H _ I h) fun ov s1 ⟨x,H1,I1,r1,q1⟩=>?_));refine Qe (Gq (thn (hi pins s1 σ H1 _ I1 q1) fun iv s2 ⟨y,H2,I2,r2,q2⟩=>?_));refine Qe (G8 (Qe (Gq (thn (hs pins s2 σ H2 x y v ov iv u _ I2 r1 r2 r q2) fun _ s3 ⟨H3,I3,q3⟩=>?_))));exact wpAny_release ⟨σ,H3,I3,q3⟩
noncomputable def Zz(te:TE)(g:TG):TS:=fun D σ H=>te σ H fun x H1=>g x σ H1 D.nx
theorem Jfm{tg e:QO}{te:TE}{g:TG}(he:PE X e te)(hg:PG X tg g)(hs:swapsWithSole [tg] e pos.line X.env=pure false:=by rfl)(hw:swappedStores [tg] e X.env=pure none:=by rfl)
 (h1:(assignEach [tg] X.env).map (·.2)=[assign tg X.env]:=by rfl):PS X (.Assign [tg] e pos) (Zz te g):=by
 intro pins s σ H D I h;refine wpAny_Assign_stores (thn (he pins s σ H _ I h) fun v s1 ⟨x,H1,I1,r1,q1⟩=>?_) hs hw;rw[h1];exact thn (hg pins s1 σ H1 x v _ I1 r1 q1) fun _ s2 q=>q
theorem Jfp{i:Nat}{x:Str}{e:QO}{te:TE}{pos':Pos}(hN:X.N.Nodup)(hi:X.N[i]?=some x)(hx:Loc X.env.scope x)(he:PE X e te)(hs:swapsWith e (some (.Name x pos')) pos.line X.env=pure false:=by rfl)(hf:X.fn x=true\/X.env.scope.names.lookup x=some .local:=by first|exact .inl rfl|exact .inr rfl|assumption) :
 PS X (.Assign [.Name x pos'] e pos) (Zz te (U8 i)):=by
 intro pins s σ H D I h;refine wpAny_Assign_Name (thn (he pins s σ H _ I h) fun v s1 ⟨y,H1,I1,r1,q1⟩=>?_) hs;exact Zf I1 hN hi hx r1 (fun s2 I2=>⟨_,H1,I2,q1⟩) hf
end

section
variable{X:Cx}{pos:Pos}
end

structure It where
 go:Nat->Hp->Prop
 yld:Nat->Hp->V->Hp->Prop
 stop:Nat->Hp->Prop
noncomputable def FpOk(X:Cx)(pins:List (Qc×Obj))(H:Hp)(b:Qc):Prop :=
 H b=none/\b≠X.env.locals/\b∉X.fs/\(b∈X.ex\/X.s₀.heap.objs.size<=b)/\(∀x c,X.env.cells.lookup x=some c->c≠b)/\∀p∈X.pn++pins,p.1≠b
theorem Inv.fpOk{X:Cx}{pins:List (Qc×Obj)}{σ:St}{H H':Hp}{s:Qd}{b:Qc}(I:Inv X pins σ H s)(hb:s.heap.objs.size<=b)(hn:H' b=none):FpOk X pins H' b:=by
 refine⟨hn,G1 (QD I.lt hb),I.nofs hb,.inr (QQ I.sz hb),fun x c e z=>?_,fun p hp z=>?_⟩
 ·obtain⟨v,q⟩:=I.cell x c e;exact absurd (QD q.lt (by rw[z];exact hb)) (Q7 _)
 ·exact absurd (QD (Qj (I.pin p hp).1) (by rw[z];exact hb)) (Q7 _)
structure Turn (P:Qm) (w:QB) (K:Qn) (tg:QO) (J:It) (fp:List Qc) (it:Qc) (tn:Nat->QH->Prop):Prop where
 mem:it∈fp
 obj:∀i h,tn i h->∀b∈fp,∃o,h.get? b=some o/\∀v,o.data≠.cell v
 keep:∀i h h',tn i h->(∀b∈fp,∀o,h.get? b=some o->h'.get? b=some o)->tn i h'
 item:∀(X:Cx),X.prog=P->X.w=w->X.K=K->X.calm=true->∀(i:Nat) (pins:List (Qc×Obj)) (s:Qd) (σ:St) (H:Hp) (E:Qa->Qd->Prop),Inv X pins σ H s->(∀b∈fp,FpOk X pins H b)->tn i s.heap->J.go i H ->
  wpAny (model P w) X.A (pyNext (.ref it)) (fun r s1=>∃u,r=some u ∧
   wpAny (model P w) X.A (letOwnedTupleGo tg (.ref it) u) (fun _ s2=>∃x H',Inv X pins σ H' s2/\RelV x u/\J.yld i H x H'/\tn (i+1) s2.heap/\∀b∈fp,H' b=none) E s1) E s
 done:∀(X:Cx),X.prog=P->X.w=w->X.K=K->X.calm=true->∀(i:Nat) (pins:List (Qc×Obj)) (s:Qd) (σ:St) (H:Hp) (E:Qa->Qd->Prop),Inv X pins σ H s->(∀b∈fp,FpOk X pins H b)->tn i s.heap->J.stop i H ->
  wpAny (model P w) X.A (pyNext (.ref it)) (fun r s1=>r=none/\Inv X pins σ H s1) E s
 self:∀(A:Qu) (i:Nat) (s:Qd) (Q:Qa->Qd->Prop) (E:Qa->Qd->Prop),tn i s.heap->Q (.ref it) s->wpAny (model P w) A (pyIter (.ref it)) Q E s
noncomputable abbrev TI:=St->Hp->(It->Hp->Prop)->Prop
noncomputable def PIE(X:Cx)(pins:List (Qc×Obj))(σ:St)(tg:QO)(R:It->Hp->Prop)(itv:Qa)(s2:Qd):Prop :=
 ∃(it:Qc) (fp:List Qc) (tn:Nat->QH->Prop) (J:It) (H':Hp),itv=.ref it/\Inv X pins σ H' s2/\Turn X.prog X.w X.K tg J fp it tn/\tn 0 s2.heap/\(∀b∈fp,FpOk X pins H' b)/\R J H'
noncomputable def PI(X:Cx)(tg iter:QO)(wi:TI):Prop :=
 ∀(pins:List (Qc×Obj)) (s:Qd) (σ:St) (H:Hp) (R:It->Hp->Prop),Inv X pins σ H s->wi σ H R ->
  wpAny (model X.prog X.w) X.A (eval iter X.env) (fun v s1=>wpAny (model X.prog X.w) X.A (pyIter v) (PIE X pins σ tg R) X.xe s1) X.xe s

theorem JcG{M:Model}{A:Qu}{E:Qa->Qd->Prop}{s:Qd}{tg:QO}{it:Qc}{u:Qa}{o:Obj}{n:String}{vs:Array Qa}{Q:Unit->Qd->Prop}(ho:s.heap.get? it=some o)(hc:o.cls=.type n)(hd:o.data=.fields vs)
 (hn:["enumerate","zip","dict_itemiterator","dict_reverseitemiterator","odict_iterator","itertools.zip_longest","itertools.pairwise"].contains n=false) (hQ:Q () s):wpAny M A (letOwnedTupleGo tg (.ref it) u) Q E s:=by
 unfold letOwnedTupleGo;cases tg <;> first
  | exact QE hQ
  | (cases u <;> first
   | exact QE hQ
   | (refine Qe (wpAny_load ho ?_)
      rw[hc,hd];show wpAny M A (if (["enumerate","zip","dict_itemiterator","dict_reverseitemiterator","odict_iterator","itertools.zip_longest","itertools.pairwise"].contains n && vs[0]? == some (rawInt _))=true then _ else _) Q E s;rw[if_neg (by intro h;rw[hn,GX] at h;cases h)];exact QE hQ))

noncomputable def Itl(K:Qn)(a:Qc):It :=
 ⟨fun i H=>∃xs x,SqL K H a xs/\xs[i]?=some x,fun i H x H'=>H'=H/\∀xs,SqL K H a xs->xs[i]?=some x,fun i H=>∃xs,SqL K H a xs/\xs.length<=i⟩
noncomputable def Itt(K:Qn)(a:Qc):It :=
 ⟨fun i H=>∃xs x,SqT K H a xs/\xs[i]?=some x,fun i H x H'=>H'=H/\∀xs,SqT K H a xs->xs[i]?=some x,fun i H=>∃xs,SqT K H a xs/\xs.length<=i⟩
noncomputable def Itr(lo:Int)(n:Nat):It:=⟨fun i _=>i<n,fun i H x H'=>H'=H/\x=.int (lo+i),fun i _=>n<=i⟩
theorem Jd9{P:Qm}{w:QB}{K:Qn}{tg:QO}(a it:Qc):Turn P w K tg (Itl K a) [it] it (fun i h=>h.IsListIter it a i) where
 mem:=by simp
 obj:=fun i h st b hb=>by
  have e:b=it:=by simpa using hb
  subst e;obtain⟨o,e,c,d⟩:=st;exact⟨o,e,fun v z=>by rw[d] at z;cases z⟩
 keep:=fun i h h' st k=>st.at fun o e=>k it (by simp) o e
 item:=by
  intro X hP hw hK hc i pins s σ H E I hf st hg;subst hP hw hK;obtain⟨xs,x,hq,hx⟩:=hg;obtain⟨its,rv,p,hz⟩:=I.list hq;obtain⟨u,hu,ru⟩:=rv.get hx;obtain⟨f0,f1,f2,f3,f4,f5⟩:=hf it (by simp);refine wpAny_pyNext_list_item st p.isList (x:=u) (by simpa using hu) fun h' st' sb=>?_
  have I1:Inv X pins σ H { s with heap:=h' }:=I.turned (t':=s.toks) (fun b o hb e=>(sb.2 b hb).trans e) f0 f1 f3 f4 f5;obtain⟨o,e,c,d⟩:=id st';exact⟨u,rfl,JcG (s:={ s with heap:=h' }) e c d (by decide) ⟨x,H,I1,ru,⟨rfl,fun ys hy=>by rw[I.list_inj hy hq];exact hx⟩,st',fun b hb=>(hf b hb).1⟩⟩
 done:=by intro X hP hw hK hc i pins s σ H E I hf st hg;subst hP hw hK;obtain⟨xs,hq,hx⟩:=hg;obtain⟨its,rv,p,hz⟩:=I.list hq;obtain⟨f0,f1,f2,f3,f4,f5⟩:=hf it (by simp);have hl:=rv.length;exact wpAny_pyNext_list_end (I.ok.hd hc) st p.isList (by simp;omega) fun h' eb=>⟨rfl,I.turned (t':=s.toks) (fun b o hb e=>eb b o hb e) f0 f1 f3 f4 f5⟩
 self:=fun _ _ _ _ _ st h=>wpAny_pyIter_listiter st h
theorem Jci{P:Qm}{w:QB}{K:Qn}{tg:QO}(a it:Qc):Turn P w K tg (Itt K a) [it] it (fun i h=>h.IsTupleIter it a i) where
 mem:=by simp
 obj:=fun i h st b hb=>by
  have e:b=it:=by simpa using hb
  subst e;obtain⟨o,e,c,d⟩:=st;exact⟨o,e,fun v z=>by rw[d] at z;cases z⟩
 keep:=fun i h h' st k=>st.at fun o e=>k it (by simp) o e
 item:=by
  intro X hP hw hK hc i pins s σ H E I hf st hg;subst hP hw hK;obtain⟨xs,x,hq,hx⟩:=hg;obtain⟨its,rv,p,hz⟩:=I.tuple hq;obtain⟨u,hu,ru⟩:=rv.get hx;obtain⟨f0,f1,f2,f3,f4,f5⟩:=hf it (by simp);refine wpAny_pyNext_tuple_item st (show s.heap.IsTuple a its.toArray from p) (x:=u) (by simpa using hu) fun h' st' sb=>?_
  have I1:Inv X pins σ H { s with heap:=h' }:=I.turned (t':=s.toks) (fun b o hb e=>(sb.2 b hb).trans e) f0 f1 f3 f4 f5;obtain⟨o,e,c,d⟩:=id st';exact⟨u,rfl,JcG (s:={ s with heap:=h' }) e c d (by decide) ⟨x,H,I1,ru,⟨rfl,fun ys hy=>by rw[I.tuple_inj hy hq];exact hx⟩,st',fun b hb=>(hf b hb).1⟩⟩
 done:=by intro X hP hw hK hc i pins s σ H E I hf st hg;subst hP hw hK;obtain⟨xs,hq,hx⟩:=hg;obtain⟨its,rv,p,hz⟩:=I.tuple hq;obtain⟨f0,f1,f2,f3,f4,f5⟩:=hf it (by simp);have hl:=rv.length;exact wpAny_pyNext_tuple_end (I.ok.hd hc) st (show s.heap.IsTuple a its.toArray from p) (by simp;omega) fun h' eb=>⟨rfl,I.turned (t':=s.toks) (fun b o hb e=>eb b o hb e) f0 f1 f3 f4 f5⟩
 self:=fun _ _ _ _ _ st h=>wpAny_pyIter_tupleiter st h
theorem Zi{P:Qm}{w:QB}{K:Qn}{tg:QO}(it:Qc)(lo:Int)(n:Nat):Turn P w K tg (Itr lo n) [it] it (fun i h=>IsRangeIter h it (lo+(i:Nat)*1) ((n:Int)-(i:Nat)) 1) where
 mem:=by simp
 obj:=fun i h st b hb=>by
  have e:b=it:=by simpa using hb
  subst e;exact⟨_,st,fun v z=>by have z':Data.fields _=Data.cell v:=z;cases z'⟩
 keep:=fun i h h' st k=>k it (by simp) _ st
 item:=by
  intro X hP hw hK hc i pins s σ H E I hf st hg;subst hP hw hK;obtain⟨f0,f1,f2,f3,f4,f5⟩:=hf it (by simp);have W:=Walks.range (prog:=X.prog) (w:=X.w) (I.ok.hd hc) it lo 1 n;refine W.item i s _ _ hg st fun v h' tk hv st' kk=>?_
  obtain⟨t,rfl⟩:=hv;have I1:Inv X pins σ H { s with heap:=h',toks:=tk }:=I.turned (fun b o hb e=>kk b o (by simpa using hb) e) f0 f1 f3 f4 f5;refine⟨_,rfl,JcG (s:={ s with heap:=h',toks:=tk }) (n:="range_iterator") st' rfl rfl (by decide) ⟨.int (lo+i),H,I1,⟨t,?_⟩,⟨rfl,rfl⟩,st',fun b hb=>(hf b hb).1⟩⟩;rw[Int.mul_one]
 done:=by intro X hP hw hK hc i pins s σ H E I hf st hg;subst hP hw hK;obtain⟨f0,f1,f2,f3,f4,f5⟩:=hf it (by simp);exact wpAny_pyNext_range_end (I.ok.hd hc) st (by have:n<=i:=hg;omega) fun h' eb=>⟨rfl,I.turned (t':=s.toks) (fun b o hb e=>eb b o hb e) f0 f1 f3 f4 f5⟩
 self:=fun _ _ _ _ _ st h=>wpAny_pyIter_rangeiter st h
end L2

namespace L2
open PySem PySem.Spec PyProof.Rows
section
variable{X:Cx}{tg:QO}
noncomputable def Jh7(K:Qn)(tl:TE):TI:=fun σ H R=>tl σ H fun x H1=>∃a,x=.ref a/\(∃xs,SqL K H1 a xs)/\R (Itl K a) H1
noncomputable def JkQ(K:Qn)(tl:TE):TI:=fun σ H R=>tl σ H fun x H1=>∃a,x=.ref a/\(∃xs,SqT K H1 a xs)/\R (Itt K a) H1
theorem Jhb{l:QO}{tl:TE}(hl:PE X l tl):PI X tg l (Jh7 X.K tl):=by
 intro pins s σ H R I h;refine thn (hl pins s σ H _ I h) fun v s1 ⟨x,H1,I1,r1,q1⟩=>?_
 obtain⟨a,e,⟨xs,hq⟩,q⟩:=q1;subst e;cases r1;obtain⟨its,rv,p,hz⟩:=I1.list hq;refine wpAny_pyIter_list p.isList ?_;refine⟨s1.heap.objs.size,[s1.heap.objs.size],_,_,H1,rfl,I1.kept (t':=s1.toks) fun b o e=>Qf _ e,Jd9 a _,⟨_,QA _ rfl,rfl,rfl⟩,fun b hb=>?_,q⟩;have e:b=s1.heap.objs.size:=by simpa using hb
 subst e;exact I1.fpOk (Qr _) (I1.hok.fresh (Qr _))
theorem JjB{l:QO}{tl:TE}(hl:PE X l tl):PI X tg l (JkQ X.K tl):=by
 intro pins s σ H R I h;refine thn (hl pins s σ H _ I h) fun v s1 ⟨x,H1,I1,r1,q1⟩=>?_
 obtain⟨a,e,⟨xs,hq⟩,q⟩:=q1;subst e;cases r1;obtain⟨its,rv,p,hz⟩:=I1.tuple hq;refine wpAny_pyIter_tuple (show s1.heap.IsTuple a its.toArray from p) ?_;refine⟨s1.heap.objs.size,[s1.heap.objs.size],_,_,H1,rfl,I1.kept (t':=s1.toks) fun b o e=>Qf _ e,Jci a _,⟨_,QA _ rfl,rfl,rfl⟩,fun b hb=>?_,q⟩;have e:b=s1.heap.objs.size:=by simpa using hb
 subst e;exact I1.fpOk (Qr _) (I1.hok.fresh (Qr _))
theorem Jfy{pins:List (Qc×Obj)}{σ:St}{H:Hp}{s:Qd}{R:It->Hp->Prop}{E:Qa->Qd->Prop}{lo hi:Int}{t u v:Tok}{tk:Nat}(I:Inv X pins σ H s)(h1:-(2 ^ 62)<=lo)(h2:lo<2 ^ 62)(h3:-(2 ^ 62)<=hi)(h4:hi<2 ^ 62)
 (q:R (Itr lo (hi-lo).toNat) H):wpAny (model X.prog X.w) X.A (pyIter (.ref s.heap.objs.size)) (PIE X pins σ tg R) E { s with heap:=s.heap.push { cls:=.type "range",data:=.fields #[.int lo t,.int hi u,.int 1 v] },toks:=tk }:=by
 refine wpAny_pyIter_range (L6 ..) (small_one h1 h2 h3 h4) ?_;have I1:Inv X pins σ H { s with heap:=s.heap.push { cls:=.type "range",data:=.fields #[.int lo t,.int hi u,.int 1 v] },toks:=tk }:=I.kept fun b o e=>Qf _ e
 refine⟨(s.heap.push { cls:=.type "range",data:=.fields #[.int lo t,.int hi u,.int 1 v] }).objs.size,[(s.heap.push { cls:=.type "range",data:=.fields #[.int lo t,.int hi u,.int 1 v] }).objs.size],_,_,H,rfl,
  I1.kept (t':=tk) fun b o e=>Qf _ e,Zi _ lo (hi-lo).toNat,?_,fun b hb=>?_,q⟩
 ·have e1:lo+((0:Nat):Int)*1=lo:=by simp
  have e2:(((hi-lo).toNat:Nat):Int)-((0:Nat):Int)=K2 lo hi 1:=by rw[rangeSize_one];split <;> omega
  show IsRangeIter _ _ (lo+((0:Nat):Int)*1) ((((hi-lo).toNat:Nat):Int)-((0:Nat):Int)) 1;rw[e1,e2];exact QA _ rfl
 ·have e:b=(s.heap.push { cls:=.type "range",data:=.fields #[.int lo t,.int hi u,.int 1 v] }).objs.size:=by simpa using hb
  subst e;exact I1.fpOk (Qr _) (I1.hok.fresh (Qr _))
noncomputable def Jh8(ta:TA):TI:=fun σ H R=>ta σ H fun vs H1=>∃j:Int,vs=[.int j]/\-(2 ^ 62)<=j/\j<2 ^ 62/\R (Itr 0 j.toNat) H1
theorem U1{a:QO}{ta:TA}{p pos:Pos}(hg:Gl X "range")(hm:X.mg "range"=none)(ha:PA X [a] ta)(hs:starEach [a] X.env=[(false,eval a X.env)]:=by rfl):PI X tg (.Call (.Name "range" p) [a] [] pos) (Jh8 ta):=by
 intro pins s σ H R I h;refine Call_ (Vf I hg hm boot_range (Go (thn (ha pos pins s σ H _ I h) fun us s1 ⟨vs,H1,I1,r1,q1⟩=>?_) hs rfl));obtain⟨j,e,q1,q2,q⟩:=q1;subst e
 cases r1 with
 | cons r rr=>cases rr;obtain⟨t,rfl⟩:=r;exact call_range_1 (Jfy I1 (by omega) (by omega) q1 q2 (by simpa using q))
noncomputable def JhS(wi:TI)(g:TG)(tb:TS):TS:=fun D σ H=>wi σ H fun J H1=>∃W:Nat->Nat->St->Hp->Prop,(∃m,W 0 m σ H1)/\∀i m σ H,W i m σ H ->
 (J.stop i H/\D.nx σ H)\/(J.go i H/\∃N:St->Hp->Prop,(∀σ' H',N σ' H'->∃m',m'<m/\W (i+1) m' σ' H')/\∀x H',J.yld i H x H'->g x σ H' fun σ2 H2=>tb { D with nx:=N,ct:=N,bk:=D.nx } σ2 H2)
noncomputable def Zd(fp:List Qc)(h:QH):List (Qc×Obj):=fp.filterMap fun b=>(h.get? b).map fun o=>(b,o)
theorem Vi{fp:List Qc}{h:QH}{b:Qc}{o:Obj}(hb:b∈fp)(e:h.get? b=some o):(b,o)∈Zd fp h:=List.mem_filterMap.mpr ⟨b,hb,by rw[e];rfl⟩
theorem JdQ{fp:List Qc}{h:QH}{p:Qc×Obj}(hp:p∈Zd fp h):p.1∈fp/\h.get? p.1=some p.2:=by
 obtain⟨b,hb,e⟩:=List.mem_filterMap.mp hp
 cases q:h.get? b with
 | none=>rw[q] at e;cases e
 | some o=>rw[q] at e;have e':(b,o)=p:=QM e;subst e';exact⟨hb,q⟩
theorem Inv.pinned{pins:List (Qc×Obj)}{σ:St}{H:Hp}{s:Qd}{fp:List Qc}(I:Inv X pins σ H s)(hf:∀b∈fp,FpOk X pins H b)(ho:∀b∈fp,∃o,s.heap.get? b=some o/\∀v,o.data≠.cell v):Inv X (pins++Zd fp s.heap) σ H s :=
 I.pins_of fun p hp=>(Gx.mp hp).elim (fun z=>I.pin p (Q2 _ z)) fun z=>by obtain⟨hb,e⟩:=JdQ z;obtain⟨f0,f1,f2,_⟩:=hf p.1 hb;obtain⟨o,e',d⟩:=ho p.1 hb;rw[e] at e';cases e';exact⟨e,f0,f1,f2,d⟩
theorem Inv.unpinned{pins pl:List (Qc×Obj)}{σ:St}{H:Hp}{s:Qd}(I:Inv X (pins++pl) σ H s):Inv X pins σ H s:=I.pins_of fun p hp=>I.pin p (Q2 _ (Lr _ hp))
theorem Ue{iter:QO}{body:List Ga}{wi:TI}{g:TG}{tb:TS}{pos:Pos}(hp:PassesOwn (model X.prog X.w) X.A X.env X.xe)(hc:X.calm=true)(hi:PI X tg iter wi)(hg:PG X tg g)(hb:PSs X body tb)
 (hs:∀x,foldedSetIterable iter X.env x=pure x:=by intro _;rfl):PS X (.For tg iter body [] pos) (JhS wi g tb):=by
 intro pins s σ H D I h;refine wpAny_For (thn (hi pins s σ H _ I h) fun v s1 h1=>thn h1 fun itv s2 h2=>?_) hs;obtain⟨it,fp,tn,J,H2,e,I2,T,st2,f2,W,⟨m0,w0⟩,turn⟩:=h2;subst e
 -- what stays true of the iterator's objects through the loop
 have stat:∀{H':Hp},(∀b∈fp,H' b=none)->∀b∈fp,FpOk X pins H' b:=fun hn b hb=>⟨hn b hb,(f2 b hb).2⟩
 refine codeAny_forLoop_any (fun n s'=>∃i σ' H',Inv X pins σ' H' s'/\tn i s'.heap/\(∀b∈fp,H' b=none)/\W i n σ' H') ?_ m0 ⟨0,σ,H2,I2,st2,fun b hb=>(f2 b hb).1,w0⟩;rintro n s3 ⟨i,σ3,H3,I3,st3,fr3,w3⟩;rcases turn i n σ3 H3 w3 with ⟨stop,qn⟩|⟨go,N,hN,step⟩
 ·refine Kh hp (thn (T.done X rfl rfl rfl hc i pins s3 σ3 H3 X.xe I3 (stat fr3) st3 stop) fun r s4 ⟨hr,I4⟩=>?_);subst hr;exact Kg ⟨σ3,H3,I4,qn⟩
 ·refine Kh hp (thn (T.item X rfl rfl rfl hc i pins s3 σ3 H3 X.xe I3 (stat fr3) st3 go) fun r s4 ⟨u,hr,h4⟩=>?_);subst hr;refine Kh hp (thn h4 fun _ s5 ⟨x,H5,I5,r5,y5,st5,fr5⟩=>?_);have I5':=I5.pinned (stat fr5) (T.obj _ _ st5);refine Kh hp (thn (hg _ s5 σ3 H5 x u _ I5' r5 (step x H5 y5)) fun _ s6 ⟨σ6,H6,I6,q6⟩=>?_);refine Kh hp (thn (hb _ s6 σ6 H6 _ I6 q6) fun f s7 q7=>?_)
  have again:∀{σ7:St} {H7:Hp},Inv X (pins++Zd fp s5.heap) σ7 H7 s7->N σ7 H7->∃m,m<n/\∃i σ' H',Inv X pins σ' H' s7/\tn i s7.heap/\(∀b∈fp,H' b=none)/\W i m σ' H':=fun {σ7 H7} I7 n7=>by obtain⟨m',hm,w7⟩:=hN σ7 H7 n7;refine⟨m',hm,i+1,σ7,H7,I7.unpinned,T.keep _ _ _ st5 fun b hb o e=>(I7.pin (b,o) (Q2 _ (Q2 _ (Vi hb e)))).1,fun b hb=>?_,w7⟩;obtain⟨o,e,d⟩:=T.obj _ _ st5 b hb;exact(I7.pin (b,o) (Q2 _ (Q2 _ (Vi hb e)))).2.1
  cases f with
  | next=>obtain⟨σ7,H7,I7,n7⟩:=q7;exact again I7 n7
  | cont=>obtain⟨σ7,H7,I7,n7⟩:=q7;exact again I7 n7
  | brk=>obtain⟨σ7,H7,I7,q7⟩:=q7;exact⟨σ7,H7,I7.unpinned,q7⟩
  | ret v=>obtain⟨x7,σ7,H7,I7,r7,q7⟩:=q7;exact⟨x7,σ7,H7,I7.unpinned,r7,q7⟩
end

theorem JeL{K:Qn}{a:Qc}{xs:List V}{g:TG}{tb:TS}{D:Ends}{σ:St}{H:Hp}(Pv:Nat->St->Hp->Prop)(h0:Pv 0 σ H)(hl:∀i σ H,i<=xs.length->Pv i σ H->SqL K H a xs)
 (hs:∀i x σ H,xs[i]?=some x->Pv i σ H->g x σ H fun σ2 H2=>tb { D with nx:=Pv (i+1),ct:=Pv (i+1),bk:=D.nx } σ2 H2) (hd:∀σ H,Pv xs.length σ H->D.nx σ H) :
 ∃W:Nat->Nat->St->Hp->Prop,(∃m,W 0 m σ H)/\∀i m σ H,W i m σ H ->
  ((Itl K a).stop i H/\D.nx σ H)\/((Itl K a).go i H/\∃N:St->Hp->Prop,(∀σ' H',N σ' H'->∃m',m'<m/\W (i+1) m' σ' H')/\∀x H',(Itl K a).yld i H x H'->g x σ H' fun σ2 H2=>tb { D with nx:=N,ct:=N,bk:=D.nx } σ2 H2):=by
 refine⟨fun i m σ H=>m=xs.length-i/\i<=xs.length/\Pv i σ H,⟨xs.length,by simp,Kj _,h0⟩,?_⟩;rintro i m σ H ⟨rfl,hi,p⟩;have q:=hl i σ H hi p
 by_cases hlt:i<xs.length
 ·refine .inr ⟨⟨xs,xs[i],q,by simp[hlt]⟩,Pv (i+1),fun σ' H' p'=>⟨xs.length-(i+1),by omega,rfl,hlt,p'⟩,fun x H' y=>?_⟩;obtain⟨e,y⟩:=y;subst e;exact hs i x σ _ (y xs q) p
 ·have e:i=xs.length:=by omega
  subst e;exact .inl ⟨⟨xs,q,Qr _⟩,hd σ H p⟩
theorem JgG{K:Qn}{a:Qc}{xs:List V}{g:TG}{tb:TS}{D:Ends}{σ:St}{H:Hp}(Pv:Nat->St->Hp->Prop)(h0:Pv 0 σ H)(hl:∀i σ H,i<=xs.length->Pv i σ H->SqT K H a xs)
 (hs:∀i x σ H,xs[i]?=some x->Pv i σ H->g x σ H fun σ2 H2=>tb { D with nx:=Pv (i+1),ct:=Pv (i+1),bk:=D.nx } σ2 H2) (hd:∀σ H,Pv xs.length σ H->D.nx σ H) :
 ∃W:Nat->Nat->St->Hp->Prop,(∃m,W 0 m σ H)/\∀i m σ H,W i m σ H ->
  ((Itt K a).stop i H/\D.nx σ H)\/((Itt K a).go i H/\∃N:St->Hp->Prop,(∀σ' H',N σ' H'->∃m',m'<m/\W (i+1) m' σ' H')/\∀x H',(Itt K a).yld i H x H'->g x σ H' fun σ2 H2=>tb { D with nx:=N,ct:=N,bk:=D.nx } σ2 H2):=by
 refine⟨fun i m σ H=>m=xs.length-i/\i<=xs.length/\Pv i σ H,⟨xs.length,by simp,Kj _,h0⟩,?_⟩;rintro i m σ H ⟨rfl,hi,p⟩;have q:=hl i σ H hi p
 by_cases hlt:i<xs.length
 ·refine .inr ⟨⟨xs,xs[i],q,by simp[hlt]⟩,Pv (i+1),fun σ' H' p'=>⟨xs.length-(i+1),by omega,rfl,hlt,p'⟩,fun x H' y=>?_⟩;obtain⟨e,y⟩:=y;subst e;exact hs i x σ _ (y xs q) p
 ·have e:i=xs.length:=by omega
  subst e;exact .inl ⟨⟨xs,q,Qr _⟩,hd σ H p⟩
end L2

namespace L2
open PySem PySem.Spec PyProof.Rows

noncomputable abbrev R2:=V->V->Hp->VK->Prop
noncomputable def OpR(X:Cx)(f:Qa->Qa->Sem Qa)(r:R2):Prop :=
 ∀(pins:List (Qc×Obj)) (s:Qd) (σ:St) (H:Hp) (x y:V) (v u:Qa) (Q:VK),Inv X pins σ H s->RelV x v->RelV y u->r x y H Q ->
  wpAny (model X.prog X.w) X.A (f v u) (EP X pins σ Q) X.xe s
noncomputable def UnR(X:Cx)(f:Qa->Sem Qa)(r:V->Hp->VK->Prop):Prop :=
 ∀(pins:List (Qc×Obj)) (s:Qd) (σ:St) (H:Hp) (x:V) (v:Qa) (Q:VK),Inv X pins σ H s->RelV x v->r x H Q ->
  wpAny (model X.prog X.w) X.A (f v) (EP X pins σ Q) X.xe s
noncomputable def CallR(X:Cx)(f:Qa)(r:List V->Hp->VK->Prop):Prop :=
 ∀(pins:List (Qc×Obj)) (s:Qd) (σ:St) (H:Hp) (xs:List V) (us:List Qa) (Q:VK),Inv X pins σ H s->Vals xs us->r xs H Q ->
  wpAny (model X.prog X.w) X.A (call f us) (EP X pins σ Q) X.xe s
noncomputable def Jlr(X:Cx)(r:V->Hp->(Bool->Hp->Prop)->Prop):Prop :=
 ∀(pins:List (Qc×Obj)) (s:Qd) (σ:St) (H:Hp) (x:V) (v:Qa) (Q:Bool->Hp->Prop),Inv X pins σ H s->RelV x v->r x H Q ->
  wpAny (model X.prog X.w) X.A (truthy v) (TP X pins σ Q) X.xe s

noncomputable def tOp(r:R2)(ta tb:TE):TE:=fun σ H Q=>ta σ H fun x H1=>tb σ H1 fun y H2=>r x y H2 Q
noncomputable def tUn(r:V->Hp->VK->Prop)(ta:TE):TE:=fun σ H Q=>ta σ H fun x H1=>r x H1 Q
noncomputable def rI(C:Int->Int->Prop)(g:Int->Int->V):R2:=fun x y H Q=>∃i j,x=.int i/\y=.int j/\C i j/\Q (g i j) H
noncomputable def rI0(g:Int->Int->V):R2:=fun x y H Q=>∃i j,x=.int i/\y=.int j/\Q (g i j) H
noncomputable def rU(g:Int->V):V->Hp->VK->Prop:=fun x H Q=>∃i,x=.int i/\Q (g i) H

section
variable{X:Cx}{a b c:QO}{ta tb tc:TE}{pos:Pos}

theorem Jit(ha:PE X a ta)(hb:PE X b tb){pins:List (Qc×Obj)}{s:Qd}{σ:St}{H:Hp}{R:V->V->Hp->Prop}(I:Inv X pins σ H s)
 (h:ta σ H fun x H1=>tb σ H1 fun y H2=>R x y H2) {Q:Qa->Qd->Prop} {f:Qa->Qa->Sem Qa}
 (hf:∀v u s2 x y H2,Inv X pins σ H2 s2->RelV x v->RelV y u->R x y H2->wpAny (model X.prog X.w) X.A (f v u) Q X.xe s2) :
 wpAny (model X.prog X.w) X.A (eval a X.env) (fun v s₁=>wpAny (model X.prog X.w) X.A (eval b X.env) (fun u s₂=>wpAny (model X.prog X.w) X.A (f v u) Q X.xe s₂) X.xe s₁) X.xe s:=by
 refine thn (ha pins s σ H _ I h) fun v s1 ⟨x,H1,I1,r1,q1⟩=>?_
 refine thn (hb pins s1 σ H1 _ I1 q1) fun u s2 ⟨y,H2,I2,r2,q2⟩=>?_
 exact hf v u s2 x y H2 I2 r1 r2 q2

theorem Jj{op:Operator}{r:R2}(ho:OpR X (binaryOp op) r)(ha:PE X a ta)(hb:PE X b tb):PE X (.BinOp a op b pos) (tOp r ta tb):=by intro pins s σ H Q I h;exact wpAny_BinOp (Jit ha hb I h fun v u s2 x y H2 I2 rx ry q=>ho pins s2 σ H2 x y v u Q I2 rx ry q)
theorem JcU{op:UnaryOp}{r:V->Hp->VK->Prop}(ho:UnR X (unaryOp op) r)(ha:PE X a ta):PE X (.UnaryOp op a pos) (tUn r ta):=by intro pins s σ H Q I h;exact UnaryOp_ (thn (ha pins s σ H _ I h) fun v s1 ⟨x,H1,I1,r1,q1⟩=>ho pins s1 σ H1 x v Q I1 r1 q1)
theorem opI{f:Qa->Qa->Sem Qa}{C:Int->Int->Prop}{g:Int->Int->Int}
 (rule:∀(i j:Int) (t u:Tok) (s:Qd) (Q:Qa->Qd->Prop) (E:Qa->Qd->Prop),C i j->Q (.int (g i j) s.toks) { s with toks:=s.toks+1 }->wpAny (model X.prog X.w) X.A (f (.int i t) (.int j u)) Q E s) :
 OpR X f (rI C fun i j=>.int (g i j)):=by
 intro pins s σ H x y v u Q I rx ry h;obtain⟨i,j,rfl,rfl,hc,q⟩:=h;obtain⟨t,rfl⟩:=rx;obtain⟨t',rfl⟩:=ry;exact rule i j t t' s _ _ hc ⟨.int (g i j),H,I.tok _,⟨_,rfl⟩,q⟩
theorem JkX{f:Qa->Qa->Sem Qa}{g:Int->Int->Int}
 (rule:∀(i j:Int) (t u:Tok) (s:Qd) (Q:Qa->Qd->Prop) (E:Qa->Qd->Prop),Q (.int (g i j) s.toks) { s with toks:=s.toks+1 }->wpAny (model X.prog X.w) X.A (f (.int i t) (.int j u)) Q E s) :
 OpR X f (rI0 fun i j=>.int (g i j)):=by
 intro pins s σ H x y v u Q I rx ry h;obtain⟨i,j,rfl,rfl,q⟩:=h;obtain⟨t,rfl⟩:=rx;obtain⟨t',rfl⟩:=ry;exact rule i j t t' s _ _ ⟨.int (g i j),H,I.tok _,⟨_,rfl⟩,q⟩
theorem Jjk{f:Qa->Qa->Sem Qa}{g:Int->Int->Bool}
 (rule:∀(i j:Int) (t u:Tok) (s:Qd) (Q:Qa->Qd->Prop) (E:Qa->Qd->Prop),Q (.bool (g i j)) s->wpAny (model X.prog X.w) X.A (f (.int i t) (.int j u)) Q E s) :
 OpR X f (rI0 fun i j=>.bl (g i j)):=by
 intro pins s σ H x y v u Q I rx ry h;obtain⟨i,j,rfl,rfl,q⟩:=h;obtain⟨t,rfl⟩:=rx;obtain⟨t',rfl⟩:=ry;exact rule i j t t' s _ _ ⟨.bl (g i j),H,I,rfl,q⟩

noncomputable def Jky(i j:Int):Prop:=0<j/\j<1073741824
noncomputable def Jkz(i j:Int):Prop:=0<=j/\j<=1000000/\i.natAbs<2 ^ 64
noncomputable def CMul(i j:Int):Prop:=(-(2 ^ 64)<i/\i<2 ^ 64)\/(-(2 ^ 64)<j/\j<2 ^ 64)
theorem CMul.ok{i j:Int}(h:CMul i j):IntMulOk i j:=by
 rcases h with ⟨h1,h2⟩|⟨h1,h2⟩
 ·exact .of_left (intBits_le_64 h1 h2)
 ·exact .of_right (intBits_le_64 h1 h2)
theorem op_add:OpR X (binaryOp .Add) (rI0 fun i j=>.int (i+j)):=JkX fun _ _ _ _ _ _ _ q=>add_int q
theorem YF:OpR X (binaryOp .Sub) (rI0 fun i j=>.int (i-j)):=JkX fun _ _ _ _ _ _ _ q=>sub_int q
theorem Vm:OpR X (binaryOp .Mult) (rI CMul fun i j=>.int (i*j)):=opI fun _ _ _ _ _ _ _ hc q=>mul_int q hc.ok
theorem Yb:OpR X (binaryOp .FloorDiv) (rI Jky fun i j=>.int (i / j)):=opI fun i j _ _ _ _ _ hc q=>by
 have h1:(0:Int)<j:=hc.1
 have h2:j<1073741824:=hc.2;exact floordiv_int (by omega) (by rw[Int.fdiv_eq_ediv_of_nonneg i (by omega)];exact q) (.inl (PyProof.noPylong_small (by omega)))
theorem JO:OpR X (binaryOp .Mod) (rI (fun _ j=>0<j) fun i j=>.int (i % j)):=opI fun i j _ _ _ _ _ hc q=>by have h1:(0:Int)<j:=hc;exact mod_int' (by omega) (by rw[Int.fmod_eq_emod_of_nonneg i (by omega)];exact q)
theorem Vn:OpR X (binaryOp .Pow) (rI Jkz fun i j=>.int (i ^ j.toNat)):=opI fun _ _ _ _ _ _ _ hc q=>pow_int_small hc.1 hc.2.1 hc.2.2 q
theorem unI{f:Qa->Sem Qa}{g:Int->Int}
 (rule:∀(i:Int) (t:Tok) (s:Qd) (Q:Qa->Qd->Prop) (E:Qa->Qd->Prop),Q (.int (g i) s.toks) { s with toks:=s.toks+1 }->wpAny (model X.prog X.w) X.A (f (.int i t)) Q E s) :
 UnR X f (rU fun i=>.int (g i)):=by
 intro pins s σ H x v Q I rx h;obtain⟨i,rfl,q⟩:=h;obtain⟨t,rfl⟩:=rx;exact rule i t s _ _ ⟨.int (g i),H,I.tok _,⟨_,rfl⟩,q⟩
theorem JaH:UnR X (unaryOp .USub) (rU fun i=>.int (-i)):=unI fun _ _ _ _ _ q=>neg_int q
end

noncomputable def Jkf:V->V->Bool
 | .non,.non=>true|.non,.int _=>true|.int _,.non=>true|.non,.bl _=>true|.bl _,.non=>true|.non,.str _=>true|.str _,.non=>true
 | .int _,.int _=>true|.bl _,.bl _=>true|.str _,.str _=>true|.byt _,.byt _=>true
 | .int _,.str _=>true|.str _,.int _=>true|.bl _,.str _=>true|.str _,.bl _=>true
 | _,_=>false
noncomputable def rEq:R2:=fun x y H Q=>Jkf x y=true/\Q (.bl (decide (x=y))) H
noncomputable def rNe:R2:=fun x y H Q=>Jkf x y=true/\Q (.bl (!decide (x=y))) H

theorem Jcw{i j:Int}:decide (V.int i=V.int j)=(i == j):=by rw[GJ];simp
theorem Jev{i j:Bool}:decide (V.bl i=V.bl j)=(i == j):=by rw[GJ];simp
theorem Jcx{i j:Str}:decide (V.str i=V.str j)=(i == j):=by rw[GJ];simp
theorem Jcv{i j:Array UInt8}:decide (V.byt i=V.byt j)=(i.toList == j.toList):=by rw[GJ];cases i;cases j;simp

section
variable{X:Cx}{a b c:QO}{ta tb tc:TE}{pos:Pos}
theorem JH{pins:List (Qc×Obj)}{σ:St}{H:Hp}{s:Qd}{Q:VK}{k k':Bool}(I:Inv X pins σ H s)(q:Q (.bl k) H)(e:k=k'):EP X pins σ Q (.bool k') s:=by subst e;exact⟨.bl k,H,I,rfl,q⟩
theorem op_eq:OpR X (compareOp .Eq) rEq:=by
 intro pins s σ H x y v u Q I rx ry h;obtain⟨hs,q⟩:=h
 cases x with
 | non =>
  cases rx
  cases y with
  | non=>cases ry;exact PySem.EqNone.eq_none_none (JH I q (by simp))
  | bl j=>cases ry;exact PySem.EqNone.eq_none_bool (JH I q (by simp))
  | int j=>obtain⟨t',rfl⟩:=ry;exact PySem.EqNone.eq_none_int (JH I q (by simp))
  | str j=>obtain⟨t',rfl⟩:=ry;exact PySem.EqNone.eq_none_str (JH I q (by simp))
  | _=>exact absurd (show false=true from hs) QF
 | bl i =>
  cases rx
  cases y with
  | non=>cases ry;exact PySem.EqNone.eq_bool_none (JH I q (by simp))
  | bl j=>cases ry;exact eq_bool (JH I q Jev)
  | str j=>obtain⟨t',rfl⟩:=ry;exact PySem.EqMixed.eq_bool_str (JH I q (by simp))
  | _=>exact absurd (show false=true from hs) QF
 | int i =>
  obtain⟨t,rfl⟩:=rx
  cases y with
  | non=>cases ry;exact PySem.EqNone.eq_int_none (JH I q (by simp))
  | int j=>obtain⟨t',rfl⟩:=ry;exact eq_int (JH I q Jcw)
  | str j=>obtain⟨t',rfl⟩:=ry;exact PySem.EqMixed.eq_int_str (JH I q (by simp))
  | _=>exact absurd (show false=true from hs) QF
 | str i =>
  obtain⟨t,rfl⟩:=rx
  cases y with
  | non=>cases ry;exact PySem.EqNone.eq_str_none (JH I q (by simp))
  | bl j=>cases ry;exact PySem.EqMixed.eq_str_bool (JH I q (by simp))
  | int j=>obtain⟨t',rfl⟩:=ry;exact PySem.EqMixed.eq_str_int (JH I q (by simp))
  | str j=>obtain⟨t',rfl⟩:=ry;exact eq_str (JH I q Jcx)
  | _=>exact absurd (show false=true from hs) QF
 | byt i =>
  obtain⟨t,rfl⟩:=rx
  cases y with
  | byt j=>obtain⟨t',rfl⟩:=ry;exact PySem.W.eq_bytes (JH I q Jcv)
  | _=>exact absurd (show false=true from hs) QF
 | _=>cases y <;> exact absurd (show false=true from hs) QF
theorem op_ne:OpR X (compareOp .NotEq) rNe:=by
 intro pins s σ H x y v u Q I rx ry h;obtain⟨hs,q⟩:=h
 cases x with
 | non =>
  cases rx
  cases y with
  | non=>cases ry;exact PySem.EqNone.ne_none_none (JH I q (by simp))
  | bl j=>cases ry;exact PySem.EqNone.ne_none_bool (JH I q (by simp))
  | int j=>obtain⟨t',rfl⟩:=ry;exact PySem.EqNone.ne_none_int (JH I q (by simp))
  | str j=>obtain⟨t',rfl⟩:=ry;exact PySem.EqNone.ne_none_str (JH I q (by simp))
  | _=>exact absurd (show false=true from hs) QF
 | bl i =>
  cases rx
  cases y with
  | non=>cases ry;exact PySem.EqNone.ne_bool_none (JH I q (by simp))
  | bl j=>cases ry;exact ne_bool (JH I q (congrArg not Jev))
  | str j=>obtain⟨t',rfl⟩:=ry;exact PySem.EqMixed.ne_bool_str (JH I q (by simp))
  | _=>exact absurd (show false=true from hs) QF
 | int i =>
  obtain⟨t,rfl⟩:=rx
  cases y with
  | non=>cases ry;exact PySem.EqNone.ne_int_none (JH I q (by simp))
  | int j=>obtain⟨t',rfl⟩:=ry;exact ne_int (JH I q (congrArg not Jcw))
  | str j=>obtain⟨t',rfl⟩:=ry;exact PySem.EqMixed.ne_int_str (JH I q (by simp))
  | _=>exact absurd (show false=true from hs) QF
 | str i =>
  obtain⟨t,rfl⟩:=rx
  cases y with
  | non=>cases ry;exact PySem.EqNone.ne_str_none (JH I q (by simp))
  | bl j=>cases ry;exact PySem.EqMixed.ne_str_bool (JH I q (by simp))
  | int j=>obtain⟨t',rfl⟩:=ry;exact PySem.EqMixed.ne_str_int (JH I q (by simp))
  | str j=>obtain⟨t',rfl⟩:=ry;exact ne_str (JH I q (congrArg not Jcx))
  | _=>exact absurd (show false=true from hs) QF
 | byt i =>
  obtain⟨t,rfl⟩:=rx
  cases y with
  | byt j=>obtain⟨t',rfl⟩:=ry;exact PySem.W.ne_bytes (JH I q (congrArg not Jcv))
  | _=>exact absurd (show false=true from hs) QF
 | _=>cases y <;> exact absurd (show false=true from hs) QF

theorem Je9:OpR X (compareOp .Lt) (rI0 fun i j=>.bl (decide (i<j))):=Jjk fun _ _ _ _ _ _ _ q=>lt_int q
theorem Jic:OpR X (compareOp .LtE) (rI0 fun i j=>.bl (decide (i<=j))):=Jjk fun _ _ _ _ _ _ _ q=>le_int q
theorem Jib:OpR X (compareOp .Gt) (rI0 fun i j=>.bl (decide (j<i))):=Jjk fun _ _ _ _ _ _ _ q=>gt_int q
theorem Jjo:OpR X (compareOp .Is) (fun x y H Q=>y=.non/\Q (.bl (decide (x=.non))) H):=by
 intro pins s σ H x y v u Q I rx ry h;obtain⟨rfl,q⟩:=h;cases ry;refine is_none_gen (JH I q ?_);cases x <;> first
  | (cases rx;rfl)
  | (obtain⟨t,rfl⟩:=rx;rfl)
theorem Jg3:OpR X (compareOp .IsNot) (fun x y H Q=>y=.non/\Q (.bl (!decide (x=.non))) H):=by
 intro pins s σ H x y v u Q I rx ry h;obtain⟨rfl,q⟩:=h;cases ry;refine isnot_none_gen (JH I q ?_);cases x <;> first
  | (cases rx;rfl)
  | (obtain⟨t,rfl⟩:=rx;rfl)

theorem OpR.or{f:Qa->Qa->Sem Qa}{r r':R2}(h:OpR X f r)(h':OpR X f r'):OpR X f (fun x y H Q=>r x y H Q\/r' x y H Q):=by
 intro pins s σ H x y v u Q I rx ry q;rcases q with q|q
 ·exact h pins s σ H x y v u Q I rx ry q
 ·exact h' pins s σ H x y v u Q I rx ry q

theorem JN(b:QO){op:CmpOp}(h:op≠.In:=by decide)(h2:op≠.NotIn:=by decide):behindInMarks op b=false:=by
 have e1:(op == CmpOp.In)=false:=by cases op <;> first|rfl|exact absurd rfl h
 have e2:(op == CmpOp.NotIn)=false:=by cases op <;> first|rfl|exact absurd rfl h2
 cases b <;> simp[behindInMarks,e1,e2]
theorem VI{op:CmpOp}{r:R2}(ho:OpR X (compareOp op) r)(ha:PE X a ta)(hb:PE X b tb)(hm:behindInMarks op b=false):PE X (.Compare a [op] [b] pos) (tOp r ta tb):=by intro pins s σ H Q I h;exact wpAny_Compare1 (Jit ha hb I h fun v u s2 x y H2 I2 rx ry q=>ho pins s2 σ H2 x y v u Q I2 rx ry q) hm
noncomputable def JfV(t:TE):TT:=fun σ H Q=>t σ H fun x H'=>∃k,x=.bl k/\Q k H'
theorem JM{op:CmpOp}{r:R2}(ho:OpR X (compareOp op) r)(ha:PE X a ta)(hb:PE X b tb)(hm:behindInMarks op b=false):PT X (.Compare a [op] [b] pos) (JfV (tOp r ta tb)):=by
 intro pins s σ H Q I h;refine wpAny_isTrue_Compare1 (thn (ha pins s σ H _ I h) fun v s1 ⟨x,H1,I1,r1,q1⟩=>thn (hb pins s1 σ H1 _ I1 q1) fun u s2 ⟨y,H2,I2,r2,q2⟩=>thn (ho pins s2 σ H2 x y v u _ I2 r1 r2 q2) fun c s3 ⟨z,H3,I3,r3,k,e,q3⟩=>?_) hm
 subst e;cases r3;exact Gh ⟨H3,I3,q3⟩
noncomputable def Jce(r r':R2)(ta tb tc:TE):TE:=fun σ H Q=>ta σ H fun x H1=>tb σ H1 fun y H2=>r x y H2 fun z H3=>∃k,z=.bl k ∧
 (if k=true then tc σ H3 fun w' H4=>r' y w' H4 Q else Q (.bl false) H3)
theorem Jfe{op op':CmpOp}{r r':R2}(ho:OpR X (compareOp op) r)(ho':OpR X (compareOp op') r')(ha:PE X a ta)(hb:PE X b tb)(hc:PE X c tc)
 (hm:lastMarks [op,op'] [b,c]=false:=by with_unfolding_all rfl):PE X (.Compare a [op,op'] [b,c] pos) (Jce r r' ta tb tc):=by
 intro pins s σ H Q I h;refine Compare_chain (thn (ha pins s σ H _ I h) fun v s1 ⟨x,H1,I1,r1,q1⟩=>chain_link (thn (hb pins s1 σ H1 _ I1 q1) fun u s2 ⟨y,H2,I2,r2,q2⟩=>thn (ho pins s2 σ H2 x y v u _ I2 r1 r2 q2) fun d s3 ⟨z,H3,I3,r3,k,e,q3⟩=>?_)) hm
 subst e;cases r3;refine Gh ?_
 cases k with
 | false=>exact ite_ff ⟨.bl false,H3,I3,rfl,q3⟩
 | true=>exact ite_tt (chain_last (thn (hc pins s3 σ H3 _ I3 q3) fun w' s4 ⟨z',H4,I4,r4,q4⟩=>ho' pins s4 σ H4 y z' u w' Q I4 r2 r4 q4))
noncomputable def Jdm(K:Qn)(x:V)(H:Hp)(k:Bool):Prop :=
 match x with
 | .non=>k=false
 | .bl b=>k=b
 | .int i=>k=(i != 0)
 | .str y=>y.length<=Qk/\k=((y.length:Int) != 0)
 | .byt y=>y.size<=Qk/\k=((y.size:Int) != 0)
 | .ref p=>(∃xs,SqL K H p xs/\k=!xs.isEmpty)\/(∃xs,SqT K H p xs/\k=!xs.isEmpty)\/∃kvs,H p=some (.dK kvs)/\k=!kvs.isEmpty
 | _=>False
theorem JbR{κ:Type}{kvs:List (κ×V)}{vs:List (κ×Qa)}(r:KV kvs vs):(!vs.isEmpty)=!kvs.isEmpty:=by cases r <;> rfl
theorem WW{xs:List V}{its:List Qa}(r:Vals xs its):(!its.toArray.isEmpty)=!xs.isEmpty:=by cases r <;> simp
theorem V0:(Qk:Nat)<2 ^ 63:=by rw[sizeLine_eq];decide
theorem Jkq:Jlr X (fun x H Q=>∃k,Jdm X.K x H k/\Q k H):=by
 intro pins s σ H x v Q I rx h;obtain⟨k,e,q⟩:=h;have hl:=V0;have hs:Qk=16777216:=sizeLine_eq
 cases x with
 | non=>cases rx;have e':k=false:=e;subst e';exact truthy_none ⟨H,I,q⟩
 | bl b=>cases rx;have e':k=b:=e;subst e';exact Gh ⟨H,I,q⟩
 | int i=>obtain⟨t,rfl⟩:=rx;have e':k=(i != 0):=e;subst e';exact PySem.P.truthy_int ⟨H,I,q⟩
 | str y=>obtain⟨t,rfl⟩:=rx;obtain⟨hy,e'⟩:y.length<=Qk/\k=((y.length:Int) != 0):=e;subst e';exact PySem.P.truthy_str (by omega) ⟨H,I.tok _,q⟩
 | byt y=>obtain⟨t,rfl⟩:=rx;obtain⟨hy,e'⟩:y.size<=Qk/\k=((y.size:Int) != 0):=e;subst e';exact PySem.W.truthy_bytes (by omega) ⟨H,I.tok _,q⟩
 | ref p =>
  cases rx;have e':(∃xs,SqL X.K H p xs/\k=!xs.isEmpty)\/(∃xs,SqT X.K H p xs/\k=!xs.isEmpty)\/∃kvs,H p=some (.dK kvs)/\k=!kvs.isEmpty:=e
  rcases e' with ⟨xs,hx,e'⟩|⟨xs,hx,e'⟩|⟨kvs,hx,e'⟩
  ·subst e';obtain⟨its,r,pl,hz⟩:=I.list hx;have hlen:=r.length;exact wpAny_truthy_list pl.isList (by simp only[Qv];omega) ⟨H,I.tok _,by rw[WW r];exact q⟩
  ·subst e';obtain⟨its,r,pl,hz⟩:=I.tuple hx;have hlen:=r.length;exact truthy_tuple pl (by simp only[Qv];omega) ⟨H,I.tok _,by rw[WW r];exact q⟩
  ·subst e';obtain⟨hz,hS,vs,r,m⟩:kvs.length<=Qk/\(p == sysModules)=false/\∃vs,KV kvs vs/\s.heap.DictOf (Jak X.prog X.w) p vs:=I.hok p _ hx
   have hlen:kvs.length=vs.length:=LI r;exact wpAny_truthy_dict hS m (by omega) ⟨H,I.tok _,by rw[JbR r];exact q⟩
 | _=>exact(show False from e).elim
theorem Jfs(ha:PE X a ta)(he:∀whole,isTrue a X.env whole=(do let v <- whole;standAt a.pos;holding [v] (truthy v))) :
 PT X a (fun σ H Q=>ta σ H fun x H'=>∃k,Jdm X.K x H' k/\Q k H'):=by
 intro pins s σ H Q I h;exact isTrue_plain (thn (ha pins s σ H _ I h) fun v s1 ⟨x,H1,I1,r1,q1⟩=>Jkq pins s1 σ H1 x v Q I1 r1 q1) (he _)

theorem op_add_str:OpR X (binaryOp .Add) (fun x y H Q=>∃i j,x=.str i/\y=.str j/\i.length+j.length<=Qk/\Q (.str (i++j)) H):=by intro pins s σ H x y v u Q I rx ry h;obtain⟨i,j,rfl,rfl,hz,q⟩:=h;obtain⟨t,rfl⟩:=rx;obtain⟨t',rfl⟩:=ry;exact add_str (fun t' tk=>⟨.str (i++j),H,I.tok _,⟨_,rfl⟩,q⟩) hz
theorem Zm{x:V}{us:List Qa}(r:Vals [x] us):∃u,us=[u]/\RelV x u:=by
 cases r with
 | cons r1 r2=>cases r2;exact⟨_,rfl,r1⟩
theorem Jdg{x y:V}{us:List Qa}(r:Vals [x,y] us):∃u w',us=[u,w']/\RelV x u/\RelV y w':=by
 cases r with
 | cons r1 r2 =>
  cases r2 with
  | cons r3 r4=>cases r4;exact⟨_,_,rfl,r1,r3⟩
theorem Jdr(hc:X.calm=true):CallR X (.builtin "max") (fun xs H Q=>∃i j,xs=[.int i,.int j]/\Q (.int (if j>i then j else i)) H):=by
 intro pins s σ H xs us Q I r h;obtain⟨i,j,rfl,q⟩:=h;obtain⟨u,w',rfl,⟨t,rfl⟩,⟨t',rfl⟩⟩:=Jdg r;refine max_two_ints (I.ok.hd hc) fun h' tk k=>⟨_,H,I.kept k,?_,q⟩
 by_cases hj:j>i
 ·rw[if_pos hj,if_pos hj];exact⟨_,rfl⟩
 ·rw[if_neg hj,if_neg hj];exact⟨_,rfl⟩
theorem Jds(hc:X.calm=true):CallR X (.builtin "min") (fun xs H Q=>∃i j,xs=[.int i,.int j]/\Q (.int (if j<i then j else i)) H):=by
 intro pins s σ H xs us Q I r h;obtain⟨i,j,rfl,q⟩:=h;obtain⟨u,w',rfl,⟨t,rfl⟩,⟨t',rfl⟩⟩:=Jdg r;refine min_two_ints (I.ok.hd hc) fun h' tk k=>⟨_,H,I.kept k,?_,q⟩
 by_cases hj:j<i
 ·rw[if_pos hj,if_pos hj];exact⟨_,rfl⟩
 ·rw[if_neg hj,if_neg hj];exact⟨_,rfl⟩
noncomputable def JkB(K:Qn)(x:V)(H:Hp)(n:Nat):Prop :=
 match x with
 | .str y=>y.length<=Qk/\n=y.length
 | .byt y=>y.size<=Qk/\n=y.size
 | .ref p=>(∃xs,SqL K H p xs/\n=xs.length)\/∃xs,SqT K H p xs/\n=xs.length
 | _=>False
theorem Jes:CallR X (.builtin "len") (fun xs H Q=>∃x n,xs=[x]/\JkB X.K x H n/\Q (.int n) H):=by
 intro pins s σ H xs us Q I r h;obtain⟨x,n,rfl,e,q⟩:=h;obtain⟨u,rfl,rx⟩:=Zm r;have hl:=V0;have hs:Qk=16777216:=sizeLine_eq
 cases x with
 | str y=>obtain⟨t,rfl⟩:=rx;obtain⟨hy,e'⟩:y.length<=Qk/\n=y.length:=e;subst e';exact len_str (by omega) ⟨.int _,H,I.tok _,⟨_,rfl⟩,q⟩
 | byt y=>obtain⟨t,rfl⟩:=rx;obtain⟨hy,e'⟩:y.size<=Qk/\n=y.size:=e;subst e';exact PySem.W.len_bytes (by omega) ⟨.int _,H,I.tok _,⟨_,rfl⟩,q⟩
 | ref p =>
  cases rx;have e':(∃xs,SqL X.K H p xs/\n=xs.length)\/∃xs,SqT X.K H p xs/\n=xs.length:=e
  rcases e' with ⟨xs,hx,e'⟩|⟨xs,hx,e'⟩
  ·subst e';obtain⟨its,r',pl,hz⟩:=I.list hx;have hlen:=r'.length;exact Calls.call_len_list pl.isList (by simp only[Qv];omega) ⟨.int xs.length,H,I.tok _,⟨_,by simp only[Qv];rw[hlen]⟩,q⟩
  ·subst e';obtain⟨its,r',pl,hz⟩:=I.tuple hx;have hlen:=r'.length;exact len_tuple pl (by simp only[Qv];omega) ⟨.int xs.length,H,I.tok _,⟨_,by simp only[Qv];rw[hlen]⟩,q⟩
 | _=>exact(show False from e).elim
end
end L2

namespace L2
open PySem PySem.Spec PyProof.Rows

structure ObjM (h:QH) (x dx C:Qc) (mA:Str->Option Qa):Prop where
 obj:h.get? x=some (instObj C dx)
 ns:h.Ns1 dx mA
 ne:dx≠x

theorem ZR{h:QH}{dx:Qc}{mA:Str->Option Qa}(n:h.Ns1 dx mA):∃od,h.get? dx=some od/\∀name,lookIn name od=some (mA name):=by
 obtain⟨o,es,ep,ho,hd,hk,_,hm⟩:=n;refine⟨o,ho,fun name=>?_⟩;have e:=hm name;unfold nsFind findBy at e;rw[<- Array.find?_toList] at e;unfold lookIn;rw[hd];dsimp only;split
 ·rename_i y q;rw[q] at e;exact congrArg some e
 ·rename_i q;rw[q] at e
  have a:es.toList.any (·.refKey)=false:=by rw[List.any_eq_false];intro y hy;obtain⟨z,t,hkey⟩:=hk y (Array.mem_toList_iff.mp hy);simp[DictEntry.refKey,hkey]
  have a':¬es.toList.any (·.refKey)=true:=by rw[a];exact QF
  rw[if_neg a'];exact congrArg some e

theorem ObjM.look{h:QH}{x dx C:Qc}{mA:Str->Option Qa}(I:ObjM h x dx C mA):∃od,InstAt h x (instObj C dx) C (some od)/\∀name,lookIn name od=some (mA name) :=
 let ⟨od,ho,hl⟩:=ZR I.ns
 ⟨od,⟨I.obj,rfl,rfl,ho⟩,hl⟩

section
variable{prog:Qm}{w:QB}{A:Qu}{E:Qa->Qd->Prop}{s:Qd}{K:Qn}{x dx C f:Qc}{mA:Str->Option Qa}{name:Str}{v:Qa}

theorem JgH{expr:Bool}{Q:Qa->Qd->Prop}(X:K.In s.heap)(I:ObjM s.heap x dx C mA)(hg:plainGet K C name=true)(hh:hasDictIn K C=true)
 (ha:findIn K (.ref C) name=some none) (hv:mA name=some v) (hv':handedIn v=true) (h:Q v { s with toks:=s.toks+1 }) :
 wpAny (model prog w) A (getAttr (.ref x) name expr) Q E s:=by
 obtain⟨od,J,hl⟩:=I.look;exact PySem.W.get_value X J (PySem.W.plainGet_of hg).1 (LG hh ha rfl (by rw[hl,hv])) hv' h

theorem JhJ{ns:List Str}{Q:Unit->Qd->Prop}(X:K.In s.heap)(I:ObjM s.heap x dx C mA)
 (hs:findIn K (.ref C) "__setattr__"=some (some (.builtin "object.__setattr__"))) (hp:plainOver K C=true) (ht:takerIn K C name=some none) (hh:hasDictIn K C=true)
 (hw:LP mA ns) (hsz:ns.length<=Qk)
 (h:∀h',ObjM h' x dx C (fun y=>if y=name then some v else mA y)->Q5 dx s.heap h'->Q () { s with heap:=h',toks:=s.toks+2 }) :
 wpAny (model prog w) A (setAttr (.ref x) name v) Q E s:=by
 obtain⟨od,J,hl⟩:=I.look;refine LQ X J hs (PySem.W.osa_open (s:={ s with toks:=s.toks+1 }) (r:=none) X J hp ht fun b=>?_);obtain⟨cd,hc,hd'⟩:=any_some hh;have hx:s.heap.get? x=some ⟨.ref C,some dx,.plain,#[]⟩:=I.obj;refine Qe (QE (Qe (Qe (Ls hx (Qe (PySem.W.Looks.here (s:={ s with toks:=s.toks+1 }) (looks_clsIn X hc) ?_))))));rw[hd'];refine QE (a:=some dx) (Qe (QE (Qe ?_)))
 refine wpAny_nsSet1 (s:={ s with toks:=s.toks+1 }) I.ns fun h' hn2 hs2=>?_
 obtain⟨oD,esD,epD,hoD,hdD,hcD⟩:=hn2.count (PySem.Within.cons name v hw);refine Qe (wpAny_lookBehind hoD (by rw[hdD];exact pastItsLine_dict (QQ hcD (by rw[Qp];omega))) ?_);exact QE (h _ ⟨(hs2.2 _ (Q0 I.ne)).trans I.obj,hn2,I.ne⟩ hs2)

theorem Je4{R:Lu->Qd->Prop}{vs:List Qa}{kw:List (Str×Qa)}(X:K.In s.heap)(hm:makesIn K C=true)
 (hi:findIn K (.ref C) "__init__"=some (some (.ref f))) (hf:PySem.W.typeIn K (.ref f)=some (.type "function"))
 (h:codeAny (model prog w) (A.under (.builtin "type.__call__" ⟨.ref C::vs,kw⟩)) (.call (.ref f) ⟨.ref (s.heap.objs.size+1)::vs,kw⟩) (PySem.W.InitBack (s.heap.objs.size+1) R)
  { s with heap:=(s.heap.push emptyDict).push (instObj C s.heap.objs.size) }) :
 codeAny (model prog w) A (.call (.ref C) ⟨vs,kw⟩) R s:=by
 obtain⟨hh,g,d,t,os⟩:=s;exact PySem.W.make_core (PySem.W.makes_of X hm) (looks_findIn X hi) (fun self=>PySem.W.bind_fn X self hf) (.inl rfl) h
end

noncomputable def UB(f:Str)(v:V):List (Str×V)->List (Str×V)
 | []=>[(f,v)]
 | (g,x)::r=>if g=f then(g,v)::r else(g,x)::UB f v r
theorem Wf(f g:Str)(v:V):∀fs:List (Str×V),(UB f v fs).lookup g=if g=f then some v else fs.lookup g
 | []=>by
  show GY g [(f,v)]=_
  by_cases h:g=f
  ·have hb:(g == f)=true:=beq_iff_eq.mpr h;simp only[GY,hb,if_pos h]
  ·have hb:(g == f)=false:=beq_eq_false_iff_ne.mpr h;simp only[GY,hb,if_neg h]
 | (k,x)::r=>by
  have ih:=Wf f g v r;rw[show UB f v ((k,x)::r)=(if k=f then(k,v)::r else(k,x)::UB f v r) from rfl]
  by_cases hk:k=f
  ·rw[if_pos hk]
   by_cases h:g=k
   ·have hb:(g == k)=true:=beq_iff_eq.mpr h;simp only[GY,hb,if_pos (h.trans hk)]
   ·have hb:(g == k)=false:=beq_eq_false_iff_ne.mpr h;simp only[GY,hb,if_neg (fun e:g=f=>h (e.trans hk.symm))]
  ·rw[if_neg hk]
   by_cases h:g=k
   ·have hb:(g == k)=true:=beq_iff_eq.mpr h;simp only[GY,hb,if_neg (fun e:g=f=>hk (h.symm.trans e))]
   ·have hb:(g == k)=false:=beq_eq_false_iff_ne.mpr h;simp only[GY,hb];exact ih
theorem VZ(f:Str)(v:V):∀fs:List (Str×V),f∈(UB f v fs).map (·.1)/\∀g,g∈fs.map (·.1)->g∈(UB f v fs).map (·.1)
 | []=>⟨by simp[UB],fun g h=>by simp at h⟩
 | (k,x)::r=>by
  obtain⟨i1,i2⟩:=VZ f v r;rw[show UB f v ((k,x)::r)=(if k=f then(k,v)::r else(k,x)::UB f v r) from rfl]
  by_cases hk:k=f
  ·rw[if_pos hk];subst hk;exact⟨by simp,fun g h=>by simpa using h⟩
  ·rw[if_neg hk];refine⟨?_,fun g h=>?_⟩
   ·rw[Qt];exact Qo _ i1
   ·rw[Qt] at h ⊢;rcases Qq.mp h with e|e
    ·exact Qq.mpr (.inl e)
    ·exact Qo _ (i2 g e)
theorem We(f:Str)(v:V):∀fs:List (Str×V),(UB f v fs).length<=fs.length+1
 | []=>by simp[UB]
 | (k,x)::r=>by
  have ih:=We f v r;rw[show UB f v ((k,x)::r)=(if k=f then(k,v)::r else(k,x)::UB f v r) from rfl]
  by_cases hk:k=f
  ·rw[if_pos hk,Qp,Qp];omega
  ·rw[if_neg hk,Qp,Qp];omega

theorem RelO.some_of{v:V}{o:Option Qa}(r:RelO (some v) o):∃u,o=some u/\RelV v u:=by
 cases o with
 | none=>exact(show False from r).elim
 | some u=>exact⟨u,rfl,r⟩
theorem JdC{v:V}{u:Qa}(r:RelV v u):handedIn u=true:=by
 cases v with
 | non=>cases (show u=Value.none from r);rfl
 | bl b=>cases (show u=Value.bool b from r);rfl
 | int i=>obtain⟨t,e⟩:=(show ∃t,u=Value.int i t from r);cases e;rfl
 | str x=>obtain⟨t,e⟩:=(show ∃t,u=Value.str x t from r);cases e;rfl
 | byt b=>obtain⟨t,e⟩:=(show ∃t,u=Value.bytes b t from r);cases e;rfl
 | flt b=>obtain⟨t,e⟩:=(show ∃t,u=Value.float b t from r);cases e;rfl
 | ref a=>cases (show u=Value.ref a from r);rfl
 | ty n=>cases (show u=Value.type n from r);rfl

section
variable{P:Qm}{w:QB}{H H':Hp}{h h':QH}{a C dx:Qc}{fs fs':List (Str×V)}
theorem Jai(hok:HOk P w H h)(e:H a=some (.ins C dx fs)):∃mA,ObjM h a dx C mA/\(∀f,RelO (fs.lookup f) (mA f))/\LP mA (fs.map (·.1))/\fs.length<=1000/\H dx=some (.own a):=by
 obtain⟨d,z,ne,ob,mA,n,r,q⟩:=(show ObjOk P w H h a (.ins C dx fs) from hok a _ e)
 exact⟨mA,⟨ob,n,ne⟩,r,q,z,d⟩
end

structure Cls (K:Qn) (C:Qc):Prop where
 pg:plainGet K C LA=true
 hd:hasDictIn K C=true
 po:plainOver K C=true
 sa:findIn K (.ref C) "__setattr__"=some (some (.builtin "object.__setattr__"))
theorem Cls.get{K:Qn}{C:Qc}(c:Cls K C)(f:Str):plainGet K C f=true:=c.pg
noncomputable def NoAttr(K:Qn)(C:Qc)(f:Str):Prop:=findIn K (.ref C) f=some none
theorem NoAttr.taker{K:Qn}{C:Qc}{f:Str}(n:NoAttr K C f):takerIn K C f=some none:=by unfold takerIn;rw[show findIn K (.ref C) f=some none from n];rfl
structure Con (K:Qn) (C:Qc) (f:Str) (v:V) (u:Qa):Prop where
 at_:findIn K (.ref C) f=some (some u)
 rel:RelV v u
 get:specialIn K u "__get__"=some none
 cp:PySem.W.copiedNames.contains f=false
structure Meth (K:Qn) (C:Qc) (m:Str) (f:Qc):Prop where
 at_:findIn K (.ref C) m=some (some (.ref f))
 fn:isFn K (.ref f)=true
 kp:keepIn K (.ref f)=true

section
variable{X:Cx}{pins:List (Qc×Obj)}{σ:St}{H:Hp}{s:Qd}{a C dx:Qc}{fs:List (Str×V)}{f:Str}{v:V}{A:Qu}{E:Qa->Qd->Prop}

theorem JbN{b:Bool}{Q:Qa->Qd->Prop}(I:Inv X pins σ H s)(e:H a=some (.ins C dx fs))(c:Cls X.K C)(n:NoAttr X.K C f)(l:fs.lookup f=some v)
 (h:∀u s',Inv X pins σ H s'->RelV v u->Q u s'):wpAny (model X.prog X.w) A (getAttr (.ref a) f b) Q E s:=by
 obtain⟨mA,O,r,_,_,_⟩:=Jai I.hok e;obtain⟨u,hu,ru⟩:=RelO.some_of (v:=v) (o:=mA f) (by rw[<- l];exact r f);exact JgH I.kIn O (c.get f) c.hd n hu (JdC ru) (h u _ (I.tok _) ru)

theorem Jcb{y:V}{u:Qa}{Q:Unit->Qd->Prop}(I:Inv X pins σ H s)(e:H a=some (.ins C dx fs))(c:Cls X.K C)(n:NoAttr X.K C f)(hl:fs.length<1000)(ry:RelV y u)
 (h:∀s',Inv X pins σ (upd H a (.ins C dx (UB f y fs))) s'->Q () s'):wpAny (model X.prog X.w) A (setAttr (.ref a) f u) Q E s:=by
 obtain⟨mA,O,r,wi,_,ho⟩:=Jai I.hok e;have hz:(fs.map (·.1)).length<=Qk:=by rw[QR,sizeLine_eq];omega
 refine JhJ I.kIn O c.sa c.po n.taker c.hd wi hz fun h' O' sb=>h _ ?_
 have hd:∃o,h'.get? dx=some o:=let ⟨o,_,_,e',_⟩:=O'.ns;⟨o,e'⟩
 refine I.write (x:=a) (e:=dx) (by rw[e];exact True.intro) (.inr ho) (fun b q hb z=>(sb.2 b hb).trans z) hd ?_;refine⟨by rw[Jl O.ne];exact ho,?_,O.ne,O'.obj,_,O'.ns,fun g=>?_,fun g hg=>?_⟩
 ·have:=We f y fs;omega
 ·show RelO ((UB f y fs).lookup g) (if g=f then some u else mA g);rw[Wf]
  by_cases q:g=f
  ·rw[if_pos q,if_pos q];exact ry
  ·rw[if_neg q,if_neg q];exact r g
 ·by_cases q:g=f
  ·rw[q];exact(VZ f y fs).1
  ·refine(VZ f y fs).2 g (wi g fun z=>hg ?_);show(if g=f then some u else mA g)=none;rw[if_neg q];exact z

theorem Inv.made(I:Inv X pins σ H s):Inv X pins σ (upd (upd H s.heap.objs.size (.own (s.heap.objs.size+1))) (s.heap.objs.size+1) (.ins C s.heap.objs.size []))
 { s with heap:=(s.heap.push emptyDict).push (instObj C s.heap.objs.size) }:=by
 have e1:(s.heap.push emptyDict).get? s.heap.objs.size=some emptyDict:=QA s.heap rfl
 have e2:((s.heap.push emptyDict).push (instObj C s.heap.objs.size)).get? (s.heap.objs.size+1)=some (instObj C s.heap.objs.size):=by
  have:=QA (s.heap.push emptyDict) (o:=instObj C s.heap.objs.size) rfl
  rwa [GB] at this
 have e3:(s.heap.push emptyDict).Ns s.heap.objs.size (fun _=>none):=⟨emptyDict,#[],_,e1,rfl,(fun e he=>absurd he (by simp)),fun _=>rfl⟩
 have I1:=I.laid (a:=s.heap.objs.size) (o:=.own (s.heap.objs.size+1)) (h':=s.heap.push emptyDict) (t':=s.toks) (fun b u q=>Qf _ q) (Qr _) ⟨_,e1⟩;refine I1.laid (a:=s.heap.objs.size+1) (o:=.ins C s.heap.objs.size []) (t':=s.toks) (fun b u q=>Qf _ q) (Nat.le_of_eq (GB _ _)) ?_
 have ne:s.heap.objs.size≠s.heap.objs.size+1:=QI (G2 _);refine⟨by rw[Jl ne,Jx],Kj _,ne,e2,fun _=>none,(LS e3).at fun o q=>Qf _ q,fun _=>True.intro,fun y hy=>absurd rfl hy⟩

theorem Jcp{prog:Qm}{w:QB}{env:Env}{e:QO}{f:Str}{pos:Pos}{s:Qd}{Q:Qa->Qd->Prop}(hb:attributeBase e f env (eval e env)=eval e env)
 (h:wpAny (model prog w) A (eval e env) (fun o s₁=>wpAny (model prog w) A (getAttr o f true) Q E s₁) E s):wpAny (model prog w) A (eval (.Attribute e f pos) env) Q E s :=
 Attribute_any_ h (by rw[arm_eval_Attribute,hb])
end

noncomputable def JhR(K:Qn)(ta:TE)(f:Str):TE:=fun σ H Q=>ta σ H fun x H1=>∃a C dx fs v,x=.ref a/\H1 a=some (.ins C dx fs)/\Cls K C/\NoAttr K C f/\fs.lookup f=some v/\Q v H1
noncomputable def Jkb(K:Qn)(ta tv:TE)(f:Str):TS:=fun D σ H=>tv σ H fun y H1=>ta σ H1 fun x H2=>∃a C dx fs,x=.ref a/\H2 a=some (.ins C dx fs)/\Cls K C/\NoAttr K C f/\fs.length<1000 ∧
 D.nx σ (upd H2 a (.ins C dx (UB f y fs)))
section
variable{X:Cx}{o e value:QO}{f:Str}{pos pos' tpos:Pos}{ta tv:TE}
theorem Jjw(he:PE X e ta)(hb:attributeBase e f X.env (eval e X.env)=eval e X.env):PE X (.Attribute e f pos) (JhR X.K ta f):=by intro pins s σ H Q I h;refine Jcp hb (thn (he pins s σ H _ I h) fun u s1 ⟨x,H1,I1,rx,a,C,dx,fs,v,ex,ea,c,n,l,q⟩=>?_);subst ex;obtain rfl:u=Value.ref a:=rx;exact JbN I1 ea c n l fun u' s2 I2 ru=>⟨v,H1,I2,ru,q⟩
theorem JjD(ha:PE X o ta)(hv:PE X value tv)(hs:swapsWith value (some (.Attribute o f pos')) pos.line X.env=pure false):PS X (.Assign [.Attribute o f pos'] value pos) (Jkb X.K ta tv f):=by intro pins s σ H D I h;refine plainObj_wpAny_Assign_Attribute (thn (hv pins s σ H _ I h) fun u s1 ⟨y,H1,I1,ry,q⟩=>thn (ha pins s1 σ H1 _ I1 q) fun ov s2 ⟨x,H2,I2,rx,a,C,dx,fs,ex,ea,c,n,l,q2⟩=>?_) hs;subst ex;obtain rfl:ov=Value.ref a:=rx;exact Jcb I2 ea c n l ry fun s3 I3=>⟨σ,_,I3,q2⟩
end

section
variable{X:Cx}{pins:List (Qc×Obj)}{σ:St}{H:Hp}{s:Qd}{A:Qu}{E:Qa->Qd->Prop}{Q:Qa->Qd->Prop}{c:Qa}{b:Bool}
inductive TyOf (K:Qn) (H:Hp):V->Qa->Prop where
 | non:TyOf K H .non (.type "NoneType")
 | bl (x:Bool):TyOf K H (.bl x) (.type "bool")
 | int (i:Int):TyOf K H (.int i) (.type "int")
 | str (x:Str):TyOf K H (.str x) (.type "str")
 | flt (x:UInt64):TyOf K H (.flt x) (.type "float")
 | lst {a:Qc} {xs:List V} (e:H a=some (.lst xs)):TyOf K H (.ref a) (.type "list")
 | frz {a:Qc} {o:Obj} {xs:List V} (e:H a=some (.frz o (.lst xs))):TyOf K H (.ref a) (.type "list")
 | tup {a:Qc} {xs:List V} (e:H a=some (.tup xs)):TyOf K H (.ref a) (.type "tuple")
 | dK {a:Qc} {kvs:List (Key×V)} (e:H a=some (.dK kvs)):TyOf K H (.ref a) (.type "dict")
 | dT {a:Qc} {kvs:List (List Key×V)} (e:H a=some (.dT kvs)):TyOf K H (.ref a) (.type "dict")
 | ins {a C dx:Qc} {fs:List (Str×V)} (e:H a=some (.ins C dx fs)) (cl:Cls K C) (ha:findIn K (.ref C) "__class__"=some (some (.builtin "object.__class__")))
  (hn:specialIn K (.builtin "object.__class__") "__get__"=some (some (.builtin "getset_descriptor.__get__"))) (htk:takesIn K (.builtin "object.__class__")=some true)
  (hm:mroIn K C (.type "object")=some true):TyOf K H (.ref a) (.ref C)
theorem JdL{x:V}{u t:Qa}(I:Inv X pins σ H s)(rx:RelV x u)(ty:TyOf X.K H x t)(e:kitOne X.K t c=some b)(h:∀tk,Q (.bool b) { s with toks:=tk }) :
 wpAny (model X.prog X.w) A (call (.builtin "isinstance") [u,c]) Q E s:=by
 cases ty with
 | non=>cases (show u=Value.none from rx);exact kia_one PySem.W.kitx_none I.kIn True.intro e (fun z=>nomatch z) h
 | bl y=>cases (show u=Value.bool y from rx);exact kia_one PySem.W.kitx_bool I.kIn True.intro e (fun z=>nomatch z) h
 | int i=>obtain⟨t,q⟩:=(show ∃t,u=Value.int i t from rx);cases q;exact kia_one PySem.W.kitx_int I.kIn True.intro e (fun z=>nomatch z) h
 | str y=>obtain⟨t,q⟩:=(show ∃t,u=Value.str y t from rx);cases q;exact kia_one PySem.W.kitx_str I.kIn True.intro e (fun z=>nomatch z) h
 | flt y=>obtain⟨t,q⟩:=(show ∃t,u=Value.float y t from rx);cases q;exact kia_one PySem.W.kitx_float I.kIn True.intro e (fun z=>nomatch z) h
 | @lst a xs ea =>
  cases (show u=Value.ref a from rx);obtain⟨_,_,n,_,h1⟩:=(show ObjOk X.prog X.w H s.heap a (.lst xs) from I.hok a _ ea)
  exact kia_one kitx_list I.kIn ⟨_,h1,rfl⟩ e (fun z=>nomatch z) h
 | @frz a ob xs ea =>
  cases (show u=Value.ref a from rx);obtain⟨_,_,_,n,_,h1⟩:=(show ObjOk X.prog X.w H s.heap a (.frz ob (.lst xs)) from I.hok a _ ea)
  exact kia_one kitx_list I.kIn ⟨_,h1,rfl⟩ e (fun z=>nomatch z) h
 | @tup a xs ea =>
  cases (show u=Value.ref a from rx);obtain⟨_,_,_,p⟩:=(show ObjOk X.prog X.w H s.heap a (.tup xs) from I.hok a _ ea)
  obtain⟨o,h1,h2,_⟩:=p;exact kia_one LJ I.kIn ⟨o,h1,h2⟩ e (fun z=>nomatch z) h
 | @dK a kvs ea =>
  cases (show u=Value.ref a from rx);obtain⟨_,_,vs,_,p⟩:=(show ObjOk X.prog X.w H s.heap a (.dK kvs) from I.hok a _ ea)
  obtain⟨o,es,ep,h1,h2,_⟩:=p;exact kia_one LU I.kIn ⟨o,h1,h2.1⟩ e (fun z=>nomatch z) h
 | @dT a kvs ea =>
  cases (show u=Value.ref a from rx);obtain⟨_,_,xs,_,o,es,ep,h1,h2,_⟩:=(show ObjOk X.prog X.w H s.heap a (.dT kvs) from I.hok a _ ea)
  exact kia_one LU I.kIn ⟨o,h1,h2.1⟩ e (fun z=>nomatch z) h
 | @ins a C dx fs ea cl ha hn htk hm=>cases (show u=Value.ref a from rx);obtain⟨mA,O,_⟩:=Jai I.hok ea;obtain⟨od,J,_⟩:=O.look;exact kia_one (PySem.W.kitx_own (cl.get _) cl.hd ha hn htk hm) I.kIn J e (fun z=>nomatch z) h
end
end L2

namespace L2
open PySem PySem.Spec PyProof.Rows

structure Room (k:Nat) (A:Qu):Prop where
 hd:A.handled=none
 dp:A.depth+3*k+5<recursionLimit
 un:A.units+16*k+200<cLine
theorem Room.mono{j k:Nat}{A:Qu}(r:Room k A)(h:j<=k):Room j A:=⟨r.hd,by have:=r.dp;omega,by have:=r.un;omega⟩
theorem Room.deeper{k:Nat}{A:Qu}(r:Room (k+1) A)(env:Env):Room k (A.deeper env) :=
 ⟨r.hd,by have:=r.dp;show A.depth+1+3*k+5<_;omega,by have:=r.un;show A.units+3+16*k+200<_;omega⟩
theorem Room.in1{k:Nat}{A:Qu}(r:Room (k+1) A):Room k A.in1 :=
 ⟨r.hd,by have:=r.dp;show A.depth+3*k+5<_;omega,by have:=r.un;show A.units+1+16*k+200<_;omega⟩
theorem JbV{A:Qu}{C:Qc}{us:List Qa}{kw:List (Str×Qa)}:(A.under (.builtin "type.__call__" ⟨.ref C::us,kw⟩)).depth=A.depth+1:=by first | rfl | simp[LV,Code.weight,Code.isCreation,Code.isGuard,Code.isCaller,Code.frames,LW,guardIds]
theorem JbW{A:Qu}{C:Qc}{us:List Qa}{kw:List (Str×Qa)}:(A.under (.builtin "type.__call__" ⟨.ref C::us,kw⟩)).units=A.units+1:=by first | rfl | simp[LV,Code.cUnits,Code.frames,LW]
theorem Room.make{k:Nat}{A:Qu}(r:Room (k+1) A)(C:Qc)(us:List Qa)(kw:List (Str×Qa)):Room k (A.under (.builtin "type.__call__" ⟨.ref C::us,kw⟩)) :=
 ⟨r.hd,by have:=r.dp;rw[JbV];omega,by have:=r.un;rw[JbW];omega⟩
theorem Room.depth{k:Nat}{A:Qu}(r:Room k A):A.depth<recursionLimit:=by have:=r.dp;omega
theorem Room.units{k:Nat}{A:Qu}(r:Room k A):A.units+64<cLine:=by have:=r.un;omega
noncomputable def ZC:TA:=fun _ H Q=>Q [] H
noncomputable def Y0(ta:TE)(tr:TA):TA:=fun σ H Q=>ta σ H fun x H1=>tr σ H1 fun xs H2=>Q (x::xs) H2
section
variable{X:Cx}{e:QO}{es:List QO}{te:TE}{t:TA}{pos:Pos}
theorem Je:PA X [] ZC:=fun _ _ _ _ H Q I h=>Calls.spliced_nil ⟨[],H,I,.nil,h⟩
theorem Ja(ha:PE X e te)(hr:PA X es t)(hs:starEach (e::es) X.env=(false,eval e X.env)::starEach es X.env:=by rfl):PA X (e::es) (Y0 te t):=by intro pos pins s σ H Q I h;rw[hs];show wpAny _ _ (spliced ((false,eval e X.env)::backTo pos (starEach es X.env))) _ _ s;refine Calls.spliced_cons (thn (ha pins s σ H _ I h) fun u s1 ⟨x,H1,I1,r1,q1⟩=>?_);exact thn (hr pos pins s1 σ H1 _ I1 q1) fun us s2 ⟨xs,H2,I2,r2,q2⟩=>⟨x::xs,H2,I2,.cons r1 r2,q2⟩

noncomputable def Jkl(t:TA):TE:=fun σ H Q=>t σ H fun xs H1=>xs.length<=Qk/\∀p,H1 p=none->Q (.ref p) (upd H1 p (.tup xs))
noncomputable def JhT(t:TA):TE:=fun σ H Q=>t σ H fun xs H1=>xs.length<=Qk/\∀p,H1 p=none->Q (.ref p) (upd H1 p (.lst xs))
theorem YG{x1}(h:PA X es t):PE X (.Tuple es x1 pos) (Jkl t):=by intro pins s σ H Q I hq;refine wpAny_Tuple_spliced (thn (h pos pins s σ H _ I hq) fun us s1 ⟨xs,H1,I1,r,z,q⟩=>⟨by rw[<- r.length];exact z,?_⟩);have hf:H1 s1.heap.objs.size=none:=I1.hok.fresh (Qr _);refine⟨.ref s1.heap.objs.size,upd H1 s1.heap.objs.size (.tup xs),I1.laid (t':=s1.toks) (fun b u e=>Qf _ e) (Qr _) ?_,rfl,q _ hf⟩;exact⟨z,us,r,⟨_,QA _ rfl,rfl,_,rfl⟩⟩
theorem Yu(h:PA X es t):PE X (.List es pos) (JhT t):=by intro pins s σ H Q I hq;refine wpAny_List_spliced (thn (h pos pins s σ H _ I hq) fun us s1 ⟨xs,H1,I1,r,z,q⟩=>⟨by rw[<- r.length];exact z,?_⟩);have hf:H1 s1.heap.objs.size=none:=I1.hok.fresh (Qr _);refine⟨.ref s1.heap.objs.size,upd H1 s1.heap.objs.size (.lst xs),I1.laid (t':=s1.toks) (fun b u e=>Qf _ e) (Qr _) ?_,rfl,q _ hf⟩;exact⟨z,us,0,r,QA _ rfl⟩
end

noncomputable abbrev Sp:=List V->Hp->VK->XK->Prop
noncomputable abbrev CXT:=List Env->Hp->Qd->XK->Qa->Qd->Prop

structure Env0 (P:Qm) (w:QB) (K:Qn) (mg:Str->Option Qa) (base:QH) (A:Qu) (outer:List Env) (s:Qd) (H:Hp):Prop where
 frames:A.frames=some outer
 mod:Mod K mg base
 bs:∀b o,base.get? b=some o->s.heap.get? b=some o/\H b=none
 bsz:base.objs.size<=s.heap.objs.size
 funs:s.heap.FunFrames base outer
 frf:∀b∈frs outer,H b=none
 hok:HOk P w H s.heap
 bare:AllBare s.gens
noncomputable def CE(outer:List Env)(P:Qm)(w:QB)(H:Hp)(s:Qd)(Q:VK)(u:Qa)(s':Qd):Prop :=
 ∃v H',s'.os=s.os/\AllBare s'.gens/\Un (frs outer) [] H H' s.heap s'.heap/\HOk P w H' s'.heap/\RelV v u/\Q v H'
noncomputable def CR(CX:CXT)(outer:List Env)(P:Qm)(w:QB)(H:Hp)(s:Qd)(Q:VK)(E:XK)(r:Lu)(s':Qd):Prop :=
 match r with
 | .ok (.ret u)=>CE outer P w H s Q u s'
 | .ok _=>False
 | .error e=>CX outer H s E e s'
structure FnOk (P:Qm) (w:QB) (K:Qn) (mg:Str->Option Qa) (base:QH) (CX:CXT) (k:Nat) (f:Qc) (fd:QC) (ps:List Str) (sp:Sp):Prop where
 len:∀vs H Q E,sp vs H Q E->vs.length=ps.length
 run:∀(A:Qu) (outer:List Env) (s:Qd) (H:Hp) (args:Args) (us:List Qa) (vs:List V) (Q:VK) (E:XK),Room k A->Env0 P w K mg base A outer s H->BindsTo s fd args (ps.zip us)->Vals vs us->sp vs H Q E ->
  codeAny (model P w) A (.call (.ref f) args) (CR CX outer P w H s Q E) s
theorem FnOk.mono{P:Qm}{w:QB}{K:Qn}{mg:Str->Option Qa}{base:QH}{CX:CXT}{j k:Nat}{f:Qc}{fd:QC}{ps:List Str}{sp:Sp}(F:FnOk P w K mg base CX j f fd ps sp)(h:j<=k) :
 FnOk P w K mg base CX k f fd ps sp:=⟨F.len,fun A outer s H args us vs Q E hr=>F.run A outer s H args us vs Q E (hr.mono h)⟩
theorem FnOk.imp{P:Qm}{w:QB}{K:Qn}{mg:Str->Option Qa}{base:QH}{CX:CXT}{k:Nat}{f:Qc}{fd:QC}{ps:List Str}{sp sp':Sp}(F:FnOk P w K mg base CX k f fd ps sp)
 (h:∀vs H Q E,sp' vs H Q E->sp vs H Q E):FnOk P w K mg base CX k f fd ps sp' :=
 ⟨fun vs H Q E q=>F.len vs H Q E (h _ _ _ _ q),fun A outer s H args us vs Q E hr he hb hv hs=>F.run A outer s H args us vs Q E hr he hb hv (h _ _ _ _ hs)⟩

theorem Env0.make{P:Qm}{w:QB}{K:Qn}{mg:Str->Option Qa}{base:QH}{A:Qu}{outer:List Env}{s:Qd}{H:Hp}(e:Env0 P w K mg base A outer s H)(C:Qc)(us:List Qa)(kw:List (Str×Qa)) :
 Env0 P w K mg base (A.under (.builtin "type.__call__" ⟨.ref C::us,kw⟩)) outer s H:=⟨by first | exact e.frames | (simpa [LV,Code.envs,LW,pushEnvs] using e.frames),e.mod,e.bs,e.bsz,e.funs,e.frf,e.hok,e.bare⟩
theorem Env0.in1{P:Qm}{w:QB}{K:Qn}{mg:Str->Option Qa}{base:QH}{A:Qu}{outer:List Env}{s:Qd}{H:Hp}(e:Env0 P w K mg base A outer s H) :
 Env0 P w K mg base A.in1 outer s H:=⟨e.frames,e.mod,e.bs,e.bsz,e.funs,e.frf,e.hok,e.bare⟩

section
variable{X:Cx}{pins:List (Qc×Obj)}{σ:St}{H:Hp}{s s':Qd}
theorem Inv.env0(I:Inv X pins σ H s):Env0 X.prog X.w X.K X.mg X.base X.A X.stack s H :=
 ⟨I.ok.frames,I.ok.mod,I.bs,QQ I.ok.bsz I.sz,I.stack,I.stkFree,I.hok,I.bare⟩
theorem Inv.after{Q:VK}{u:Qa}(I:Inv X pins σ H s)(h:CE X.stack X.prog X.w H s Q u s'):EP X pins σ Q u s':=by obtain⟨v,H',os,bare,un,hok,r,q⟩:=h;obtain⟨hh,g,d,t,os'⟩:=s';obtain rfl:os'=s.os:=os;exact⟨v,H',I.call (h':=hh) (g':=g) (d':=d) (t':=t) (ch:=[]) un hok bare (fun b z=>absurd z (by simp)),r,q⟩
end

noncomputable def VU(sp:Sp)(dvs:List V)(E:XK)(t:TA):TE:=fun σ H Q=>t σ H fun vs H1=>sp (vs++dvs) H1 Q E
noncomputable def Jbv(C:Qc)(sp:Sp)(dvs:List V)(E:XK)(t:TA):TE:=fun σ H Q=>t σ H fun vs H1=>∀x dx,H1 x=none->H1 dx=none->dx≠x ->
 sp (.ref x::(vs++dvs)) (upd (upd H1 dx (.own x)) x (.ins C dx [])) (fun v H2=>v=.non/\Q (.ref x) H2) E

noncomputable def Binds(K:Qn)(fd:QC)(ps:List Str)(ds:List Qa):Prop :=
 ∀(s:Qd) (us:List Qa),K.In s.heap->(us++ds).length=ps.length->BindsTo s fd ⟨us,[]⟩ (ps.zip (us++ds))
theorem Binds.all{K:Qn}{fd:QC}{ps:List Str}(h:∀us:List Qa,us.length=ps.length->bindArgs fd ⟨us,[]⟩=pure (ps.zip us)):Binds K fd ps []:=fun s us _ hl=>by rw[Q4] at hl ⊢;exact .of_eq (h us hl)

noncomputable def Ul(CX:CXT)(X:Cx)(E:XK):Prop:=∀(pins:List (Qc×Obj)) (σ:St) (H:Hp) (s:Qd) (e:Qa) (s':Qd),Inv X pins σ H s->CX X.stack H s E e s'->X.xe e s'

section
variable{X:Cx}{CX:CXT}{k:Nat}{f C:Qc}{fd:QC}{ps:List Str}{sp:Sp}{dvs:List V}{ds:List Qa}{E:XK}{x m:Str}{p pos apos:Pos}{e o:QO}{es:List QO}{ta:TE}{t:TA}

theorem Jka{pins:List (Qc×Obj)}{σ:St}{H:Hp}{s:Qd}{Q:VK}{us:List Qa}{vs:List V}(F:FnOk X.prog X.w X.K X.mg X.base CX k f fd ps sp)(hr:Room k X.A)(hb:Binds X.K fd ps ds)(hd:Vals dvs ds)(hx:Ul CX X E)
 (I:Inv X pins σ H s) (r:Vals vs us) (h:sp (vs++dvs) H Q E):wpAny (model X.prog X.w) X.A (call (.ref f) us) (EP X pins σ Q) X.xe s:=by
 have r2:Vals (vs++dvs) (us++ds):=r.append hd
 have hl:(us++ds).length=ps.length:=by rw[<- r2.length];exact F.len _ _ _ _ h
 refine Ku (GF (F.run X.A X.stack s H ⟨us,[]⟩ (us++ds) (vs++dvs) Q E hr I.env0 (hb s us I.kIn hl) r2 h) fun r s' hq=>?_)
 cases r with
 | error e=>exact hx pins σ H s e s' I hq
 | ok fl =>
  cases fl with
  | ret u=>exact I.after hq
  | next=>exact QS hq
  | brk=>exact QS hq
  | cont=>exact QS hq

theorem JcT(F:FnOk X.prog X.w X.K X.mg X.base CX k f fd ps sp)(hr:Room k X.A)(hg:Gl X x)(hm:X.mg x=some (.ref f))(hk:keepIn X.K (.ref f)=true)(hb:Binds X.K fd ps ds)(hd:Vals dvs ds)(hx:Ul CX X E)
 (ha:PA X (e::es) t) (hdb:(x == ("__debug__":Str))=false:=by decide) (he:starEach (e::es) X.env=(false,eval e X.env)::starEach es X.env:=by rfl) (hpl:(backTo pos (starEach es X.env)).any (·.1)=false:=by rfl) :
 PE X (.Call (.Name x p) (e::es) [] pos) (VU sp dvs E t):=by
 intro pins s σ H Q I h;refine Gs (Y7 I hg hm ?_ hdb);refine callWith_K (h₀:=X.base) I.ok.mod.kin hk (thn (ha pos pins s σ H _ I h) fun us s1 ⟨vs,H1,I1,r,q⟩=>⟨I1.kIn,?_⟩) he hpl;exact Jka F hr hb hd hx I1 r q
structure Mk (K:Qn) (C f:Qc):Prop where
 makes:makesIn K C=true
 init:findIn K (.ref C) "__init__"=some (some (.ref f))
 fn:isFn K (.ref f)=true
 kp:keepIn K (.ref C)=true

theorem JfH{pins:List (Qc×Obj)}{σ:St}{H:Hp}{s:Qd}{Q:VK}{us:List Qa}{vs:List V}(M:Mk X.K C f)(F:FnOk X.prog X.w X.K X.mg X.base CX k f fd ps sp)(hr:Room (k+1) X.A)(hb:Binds X.K fd ps ds)(hd:Vals dvs ds)
 (hx:Ul CX X E) (I:Inv X pins σ H s) (r:Vals vs us)
 (h:∀x dx,H x=none->H dx=none->dx≠x->sp (.ref x::(vs++dvs)) (upd (upd H dx (.own x)) x (.ins C dx [])) (fun v H2=>v=.non/\Q (.ref x) H2) E) :
 wpAny (model X.prog X.w) X.A (call (.ref C) us) (EP X pins σ Q) X.xe s:=by
 have hq:=h (s.heap.objs.size+1) s.heap.objs.size (I.hok.fresh (Nat.le_succ _)) (I.hok.fresh (Qr _)) (QI (G2 _))
 have I2:=Inv.made (C:=C) I
 have r2:Vals (V.ref (s.heap.objs.size+1)::(vs++dvs)) (Value.ref (s.heap.objs.size+1)::(us++ds)):=.cons rfl (r.append hd)
 have hl:(Value.ref (s.heap.objs.size+1)::us++ds).length=ps.length:=by have e:=r2.length;rw[F.len _ _ _ _ hq] at e;exact e.symm
 refine Ku (Je4 (f:=f) I.kIn M.makes M.init (beq_iff_eq.mp M.fn) (GF (F.run _ X.stack _ _ ⟨Value.ref (s.heap.objs.size+1)::us,[]⟩ (Value.ref (s.heap.objs.size+1)::(us++ds)) _ _ E (hr.make C us [])
  (I2.env0.make C us []) (hb _ (Value.ref (s.heap.objs.size+1)::us) I2.kIn hl) r2 hq) fun r s' hq'=>?_))
 cases r with
 | error e=>exact hx pins σ _ _ e s' I2 hq'
 | ok fl =>
  cases fl with
  | ret u=>obtain⟨v,H',I3,rv,ev,q3⟩:=I2.after hq';subst ev;exact⟨rv,⟨V.ref (s.heap.objs.size+1),H',I3,rfl,q3⟩⟩
  | next=>exact QS hq'
  | brk=>exact QS hq'
  | cont=>exact QS hq'
theorem Jha(M:Mk X.K C f)(F:FnOk X.prog X.w X.K X.mg X.base CX k f fd ps sp)(hr:Room (k+1) X.A)(hg:Gl X x)(hm:X.mg x=some (.ref C))(hb:Binds X.K fd ps ds)(hd:Vals dvs ds)(hx:Ul CX X E)
 (ha:PA X (e::es) t) (hdb:(x == ("__debug__":Str))=false:=by decide) (he:starEach (e::es) X.env=(false,eval e X.env)::starEach es X.env:=by rfl) (hpl:(backTo pos (starEach es X.env)).any (·.1)=false:=by rfl) :
 PE X (.Call (.Name x p) (e::es) [] pos) (Jbv C sp dvs E t):=by
 intro pins s σ H Q I h;refine Gs (Y7 I hg hm ?_ hdb);refine callWith_K (h₀:=X.base) I.ok.mod.kin M.kp (thn (ha pos pins s σ H _ I h) fun us s1 ⟨vs,H1,I1,r,q⟩=>⟨I1.kIn,?_⟩) he hpl;exact JfH M F hr hb hd hx I1 r q
end

section
variable{X:Cx}{CX:CXT}{k:Nat}{f C:Qc}{fd:QC}{ps ks:List Str}{sp:Sp}{E:XK}{x m:Str}{p pos apos kpos:Pos}{e o:QO}{es:List QO}{kws:List KL}{te ta:TE}{t tk:TA}{nm:Option Str}
structure KBinds (K:Qn) (fd:QC) (ps ks:List Str) (g:List Qa->List Qa->List Qa) (gV:List V->List V->List V):Prop where
 to:∀(s:Qd) (us ws:List Qa),K.In s.heap->(g us ws).length=ps.length->BindsTo s fd ⟨us,ks.zip ws⟩ (ps.zip (g us ws))
 rel:∀{vs:List V} {us:List Qa} {zs:List V} {ws:List Qa},Vals vs us->Vals zs ws->Vals (gV vs zs) (g us ws)
variable{g:List Qa->List Qa->List Qa}{gV:List V->List V->List V}
end

structure FnScope (N P:List Str) (sc:KN):Prop where
 kind:sc.kind=.function
 co:sc.isCoroutine=false
 gen:sc.isGenerator=false
 nd:N.Nodup
 pre:N.take P.length=P
 par:∀x∈P,sc.names.lookup x=some .local\/sc.names.lookup x=some .cell
 nofree:∀y∈sc.names,y.2≠.free

theorem ZG{kindOf:Str->Option NameKind}{x:Str}:∀{binds:List (Str×Qa)} {m:Str->Option Qa},(∀v,(x,v)∉binds)->bindL kindOf binds m x=m x
 | [],_,_=>rfl
 | (n,v)::r,m,h=>by
  unfold bindL;rw[ZG fun w hw=>h w (Qo _ hw)];split
  ·have:x≠n:=by rintro rfl;exact h v Qz
   simp[this]
  ·rfl
theorem ZE{kindOf:Str->Option NameKind}{x:Str}:∀{binds:List (Str×Qa)} {m:Str->Option Qa},(∀v,(x,v)∉binds)->bindC kindOf binds m x=m x
 | [],_,_=>rfl
 | (n,v)::r,m,h=>by
  unfold bindC;rw[ZE fun w hw=>h w (Qo _ hw)];split
  ·rfl
  ·have:x≠n:=by rintro rfl;exact h v Qz
   simp[this]
theorem ZF{kindOf:Str->Option NameKind}{x:Str}{v:Qa}:∀{P:List Str} {vs:List Qa} {i:Nat} {m:Str->Option Qa},P.Nodup->P[i]?=some x->vs[i]?=some v->kindOf x=some .local ->
 bindL kindOf (P.zip vs) m x=some v
 | [],_,_,_,_,h,_,_=>by simp at h
 | _::_,[],_,_,_,_,h,_=>by simp at h
 | p::P,w::vs,0,m,nd,h1,h2,hk=>by simp at h1 h2;subst h1;subst h2;show bindL kindOf ((p,w)::P.zip vs) m p=_;unfold bindL;rw[ZG fun v hv=>(Ki.mp nd).1 (GK hv).1,if_pos hk];simp
 | p::P,w::vs,i+1,m,nd,h1,h2,hk=>by show bindL kindOf ((p,w)::P.zip vs) m x=_;unfold bindL;exact ZF (i:=i) (Ki.mp nd).2 (by simpa using h1) (by simpa using h2) hk
theorem ZD{kindOf:Str->Option NameKind}{x:Str}{v:Qa}:∀{P:List Str} {vs:List Qa} {i:Nat} {m:Str->Option Qa},P.Nodup->P[i]?=some x->vs[i]?=some v->kindOf x≠some .local ->
 bindC kindOf (P.zip vs) m x=some v
 | [],_,_,_,_,h,_,_=>by simp at h
 | _::_,[],_,_,_,_,h,_=>by simp at h
 | p::P,w::vs,0,m,nd,h1,h2,hk=>by simp at h1 h2;subst h1;subst h2;show bindC kindOf ((p,w)::P.zip vs) m p=_;unfold bindC;rw[ZE fun v hv=>(Ki.mp nd).1 (GK hv).1,if_neg hk];simp
 | p::P,w::vs,i+1,m,nd,h1,h2,hk=>by show bindC kindOf ((p,w)::P.zip vs) m x=_;unfold bindC;exact ZD (i:=i) (Ki.mp nd).2 (by simpa using h1) (by simpa using h2) hk

noncomputable def Yp(N:List Str)(vs:List V):St:=vs.map some++Qi (N.length-vs.length) none

noncomputable def WI(CX:CXT)(P:Qm)(w:QB)(K:Qn)(mg:Str->Option Qa)(base:QH)(N:List Str)(qual:Str)(scope:KN)(f:Qc)(cd:Qa)(A:Qu)(outer:List Env)(s:Qd)(H:Hp)(E:XK):Cx where
 prog:=P
 w:=w
 K:=K
 mg:=mg
 base:=base
 A:=A.deeper (envOfC qual scope s.heap.objs.size f cd)
 N:=N
 s₀:=s
 H₀:=H
 env:=envOfC qual scope s.heap.objs.size f cd
 outer:=outer
 stack:=envOfC qual scope s.heap.objs.size f cd::outer
 ex:=[]
 calm:=true
 fn:=fun _=>true
 pn:=[]
 xe:=fun e s'=>wpAny (model P w) (A.deeper (envOfC qual scope s.heap.objs.size f cd)) (leaving (envOfC qual scope s.heap.objs.size f cd) e) (fun _ s''=>CX outer H s E e s'') (fun e' s''=>CX outer H s E e' s'') s'

theorem JaN{sc:KN}{n:Nat}{x:Str}(h:sc.names.lookup x=some .cell):∃c,(cellsFrom n sc.names []).lookup x=some c:=by have q:=K9 sc.names n [] (.inl h);exact G9.mp q

theorem JdE{CX:CXT}{P:Qm}{w:QB}{K:Qn}{mg:Str->Option Qa}{base:QH}{N ps:List Str}{qual:Str}{scope:KN}{f:Qc}{cd:Qa}{A:Qu}{outer:List Env}{s s1:Qd}{H:Hp}{E:XK}{us:List Qa}{vs:List V}
 (S:FnScope N ps scope) (hd:A.handled=none) (e0:Env0 P w K mg base A outer s H) (hl:vs.length=ps.length) (r:Vals vs us)
 (x:InCallC s s.heap.objs.size (bindL (envOfC qual scope s.heap.objs.size f cd).kindOf (ps.zip us) fun _=>none) (cellsFrom (s.heap.objs.size+1) scope.names []) (bindC (envOfC qual scope s.heap.objs.size f cd).kindOf (ps.zip us) fun _=>none) s1) :
 Inv (WI CX P w K mg base N qual scope f cd A outer s H E) [] (Yp N vs) H s1:=by
 have hpl:ps.length<=N.length:=by have:=congrArg List.length S.pre;rw[Gc] at this;omega
 obtain⟨h1,tk,rfl,hk⟩:=x.done;have noA:∀b:Qc,b∉(WI CX P w K mg base N qual scope f cd A outer s H E).ex:=fun b z=>absurd (show b∈([]:List Qc) from z) (by simp)
 refine⟨⟨e0.mod,S.kind,rfl,rfl,Qr _,fun y z c h1 h2=>?_,fun y hy=>?_,fun y c _ h=>?_,fun _=>hd,Around.frames_deeper e0.frames,.inr ⟨rfl,rfl⟩,fun b z=>absurd z (noA b),e0.bs,e0.bsz,fun b _ _=>noA b,fun b z=>absurd z (noA b),e0.funs,e0.frf⟩,
  rfl,e0.bare,Un.kept hk,⟨_,x.toInCall.ns,fun i y v h1 h2 h3=>?_⟩,fun y c h=>⟨_,x.cell y c h⟩,e0.hok.fresh (Qr _),fun y c h=>?_,fun p hp=>absurd (show p∈([]:List (Qc×Obj)) from hp) (by simp),e0.hok.kept hk,?_⟩
 ·exact name_of_addr x.apart (Gn h1) (Gn h2)
 ·have hy:scope.names.lookup y=some .cell\/scope.names.lookup y=some .free:=hy;rcases hy with hy|hy
  ·exact JaN hy
  ·exact absurd rfl (S.nofree _ (Gn hy))
 ·exact Kn (x.above y c (Gn h))
 ·have hi:i<vs.length:=by
   unfold Yp at h2
   by_cases hi:i<vs.length
   ·exact hi
   ·rw[QG (by simpa using hi)] at h2;rw[Gi] at h2;split at h2 <;> cases h2
  have ha:vs[i]?=some v:=by
   unfold Yp at h2;rw[Qx (by simpa using hi),Qw] at h2
   cases e:vs[i]? with
   | none=>rw[e] at h2;cases h2
   | some a=>rw[e] at h2;cases h2;rfl
  obtain⟨u,hu,rv⟩:=r.get ha
  have hp:ps[i]?=some y:=by rw[<- S.pre,List.getElem?_take_of_lt (by omega)];exact h1
  have ndP:ps.Nodup:=by rw[<- S.pre];exact S.nd.sublist (List.take_sublist _ _)
  refine⟨u,rv,?_⟩;rcases S.par y (QY hp) with k|k
  ·exact .inl ⟨k,ZF ndP hp hu k⟩
  ·obtain⟨c,e⟩:=JaN (n:=s.heap.objs.size+1) k;refine .inr ⟨.inl k,c,e,?_⟩;have q:=x.cell y c e;rw[ZD ndP hp hu (by show scope.names.lookup y≠_;rw[k];decide)] at q;exact q
 ·exact e0.hok.fresh (Kn (x.above y c (Gn h)))
 ·unfold Yp;show _=N.length;rw[QN,QR,Gw];omega

theorem Jh6{CX:CXT}{P:Qm}{w:QB}{K:Qn}{mg:Str->Option Qa}{base:QH}{k:Nat}{f:Qc}{name qual:Str}{params:Arguments}{body:List Ga}{scope:KN}{dV kV doc pm cdv ct oc:Qa}{an od:Option Qc}
 {osl:Array (Option Qa)} {N ps:List Str} {sp:Sp} (lk:K.lookup f=some ⟨oc,od,.func (fnOf name qual params body scope dV kV doc pm an cdv ct),osl⟩) (hcd:codeIn K cdv qual=true) (S:FnScope N ps scope)
 (len:∀vs H Q E,sp vs H Q E->vs.length=ps.length)
 (hbody:∀(A:Qu) (outer:List Env) (s:Qd) (H:Hp) (vs:List V) (Q:VK) (E:XK),Room k (A.deeper (envOfC qual scope s.heap.objs.size f cdv))->sp vs H Q E ->
  ∃t,PSs (WI CX P w K mg base N qual scope f cdv A outer s H E) body t/\t { nx:=fun _ H'=>Q .non H',rt:=Q } (Yp N vs) H) :
 FnOk P w K mg base CX (k+1) f (fnOf name qual params body scope dV kV doc pm an cdv ct) ps sp:=by
 refine⟨len,fun A outer s H args us vs Q E hr e0 hb r hsp=>?_⟩;have hl:=len _ _ _ _ hsp;have KX:K.In s.heap:=e0.mod.kin.keeps fun b o e=>(e0.bs b o e).1
 have lim:s.heap.NoLimit:=e0.mod.nolimit.keeps fun b o e=>(e0.bs b o e).1
 have hkind:∀y∈ps.zip us,scope.names.lookup y.1=some .local\/(scope.names.lookup y.1=some .cell/\((cellsFrom (s.heap.objs.size+1) scope.names []).lookup y.1).isSome=true):=fun⟨n,v⟩ hy=>by
  rcases S.par n (GK hy).1 with q|q
  ·exact .inl q
  ·exact .inr ⟨q,K9 _ _ _ (.inl q)⟩
 refine codeAny_call_function hr.depth (KX _ _ lk) rfl S.co S.gen rfl (PySem.W.codeRec_of KX hcd) (hb _ _ _ _ ?_);refine wpAny_newFunctionEnv_cells S.kind hkind fun env he s1 x=>?_
 subst he;refine⟨lim.keeps x.toInCall.keep,codeAny_func ?_⟩;obtain⟨t,ht,hq⟩:=hbody A outer s H vs Q E (hr.deeper _) hsp;have I:Inv (WI CX P w K mg base N qual scope f cdv A outer s H E) [] (Yp N vs) H s1:=JdE S hr.hd e0 hl r x;refine QZ (ht [] s1 (Yp N vs) H _ I hq) (fun fl s' hs=>?_) fun e s' hs=>hs
 have fin:∀{σ':St} {H':Hp} {v:V} {u:Qa},Inv (WI CX P w K mg base N qual scope f cdv A outer s H E) [] σ' H' s'->RelV v u->Q v H'->CE outer P w H s Q u s' :=
  fun {σ' H' v u} J rv q=>⟨v,H',J.os,J.bare,J.base,J.hok,rv,q⟩
 cases fl with
 | ret u=>obtain⟨v,σ',H',J,rv,q⟩:=hs;exact fin J rv q
 | next=>obtain⟨σ',H',J,q⟩:=hs;exact fin (v:=V.non) (u:=Value.none) J rfl q
 | brk=>obtain⟨_,_,_,q⟩:=hs;exact QS q
 | cont=>obtain⟨_,_,_,q⟩:=hs;exact QS q
end L2

namespace L2
open PySem PySem.Spec PyProof.Rows
section
variable{X:Cx}{x:Str}{p pos:Pos}{e:QO}{es:List QO}{t:TA}{id T:String}{r:List V->Hp->VK->Prop}

noncomputable def tCB(r:List V->Hp->VK->Prop)(t:TA):TE:=fun σ H Q=>t σ H fun vs H1=>r vs H1 Q
theorem Ju(hc:CallR X (.builtin id) r)(hg:Gl X x)(hm:X.mg x=none)(hv:bootBuiltins x=some (.builtin id))(ha:PA X (e::es) t)(hn:x≠"__name__":=by decide)(hdb:(x == ("__debug__":Str))=false:=by decide)
 (he:starEach (e::es) X.env=(false,eval e X.env)::starEach es X.env:=by rfl) (hpl:(backTo pos (starEach es X.env)).any (·.1)=false:=by rfl):PE X (.Call (.Name x p) (e::es) [] pos) (tCB r t):=by
 intro pins s σ H Q I h;refine Gs (Vf I hg hm hv ?_ hn hdb);exact PyProof.Rows.callWith_builtin1 (thn (ha pos pins s σ H _ I h) fun us s1 ⟨vs,H1,I1,r1,q1⟩=>hc pins s1 σ H1 vs us Q I1 r1 q1) he hpl
theorem Ui(hc:CallR X (.type T) r)(hg:Gl X x)(hm:X.mg x=none)(hv:bootBuiltins x=some (.type T))(ha:PA X (e::es) t)(hn:x≠"__name__":=by decide)(hdb:(x == ("__debug__":Str))=false:=by decide)
 (he:starEach (e::es) X.env=(false,eval e X.env)::starEach es X.env:=by rfl) (hpl:(backTo pos (starEach es X.env)).any (·.1)=false:=by rfl):PE X (.Call (.Name x p) (e::es) [] pos) (tCB r t):=by
 intro pins s σ H Q I h;refine Gs (Vf I hg hm hv ?_ hn hdb);exact Go (thn (ha pos pins s σ H _ I h) fun us s1 ⟨vs,H1,I1,r1,q1⟩=>hc pins s1 σ H1 vs us Q I1 r1 q1) he hpl
end
end L2

namespace HT
open PySem PyProof.Rows

section
open PySem.SeqAt
open PySem.AutoSeq1 (wpAny_loadPart')
open PySem.MeetsSeq PySem.MeetsSeq2 PySem.MeetsSeq3

end

section
variable{prog:Qm}{w:QB}{A:Qu}{E:Qa->Qd->Prop}{s:Qd}

theorem Jgc{t b:Qc}{vs ws:List Qa}{Q:Qa->Qd->Prop}(ht:IsTup s.heap t vs.toArray)(hb:IsTup s.heap b ws.toArray)(hv:vs≠[])
 (h1:ws=[]->Q (.ref t) s) (h2:ws≠[]->Q (.ref s.heap.objs.size) { s with heap:=s.heap.push { cls:=.type "tuple",data:=.seq (vs++ws).toArray } })
 (hsz:vs.length+ws.length<=Qk):wpAny (model prog w) A (binaryOp .Add (.ref t) (.ref b)) Q E s:=by
 obtain⟨⟨cls,dd,data,sl⟩,ho,hc,n,hd⟩:=id ht;obtain⟨⟨cls2,dd2,data2,sl2⟩,ho2,hc2,n2,hd2⟩:=id hb;simp only at hc hd hc2 hd2;subst hc hd hc2 hd2;have e:vs.toArray++ws.toArray=(vs++ws).toArray:=by simp
 by_cases hw:ws=[]
 ·exact concat_meets ⟨_,ho,rfl⟩ ⟨_,ho2,rfl⟩ noFill_tuple_add seq_tuple_add La K3 (KZ _ _)
   (tuple_addW1 t b vs.toArray ws.toArray n n2 dd dd2 sl sl2 (by simpa using hv) (by simp[hw])) ⟨ho,ho2,h1 hw⟩
 ·refine concat_meets ⟨_,ho,rfl⟩ ⟨_,ho2,rfl⟩ noFill_tuple_add seq_tuple_add La K3 (KZ _ _)
   (tuple_addW2 t b vs.toArray ws.toArray n n2 dd dd2 sl sl2 (by simpa using hv) (by simpa using hw) (by rw[Qv,Qv];exact hsz)) ⟨ho,ho2,?_⟩
  rw[e];exact h2 hw

end
end HT

namespace L2
open PySem PySem.Spec PyProof.Rows

noncomputable abbrev TO:=St->Hp->(Option Int->Hp->Prop)->Prop
noncomputable def PO(X:Cx)(e:Option QO)(t:TO):Prop :=
 ∀(pins:List (Qc×Obj)) (s:Qd) (σ:St) (H:Hp) (Q:Option Int->Hp->Prop),Inv X pins σ H s->t σ H Q ->
  wpAny (model X.prog X.w) X.A (evalPart e X.env) (fun u s'=>∃o H',Inv X pins σ H' s'/\IsPart u o/\Q o H') X.xe s
noncomputable def Jdd:TO:=fun _ H Q=>Q none H
noncomputable def Jio(t:TE):TO:=fun σ H Q=>t σ H fun x H1=>∃i,x=.int i/\Q (some i) H1

theorem JbQ{ns:List Int}:∀{us:List Qa},Vals (ns.map V.int) us->IntsAre us ns:=by
 induction ns with
 | nil=>intro us r;rw[Q8] at r;cases r;exact .nil
 | cons n ns ih =>
  intro us r;rw[Qt] at r
  cases r with
  | cons r1 r2=>obtain⟨t,e⟩:=r1;subst e;exact .cons n t (ih r2)

section
variable{X:Cx}{e:QO}{te:TE}{lo hi:Option QO}{tl th:TO}{pos p2:Pos}

theorem JcV:PO X none Jdd:=by intro pins s σ H Q I h;rw[evalPart_none];exact QE ⟨none,H,I,.none,h⟩
theorem JcW(h:PE X e te):PO X (some e) (Jio te):=by
 intro pins s σ H Q I hw;rw[evalPart_some];refine thn (h pins s σ H _ I hw) fun u s1 ⟨x,H1,I1,r1,q1⟩=>?_
 obtain⟨i,rfl,q⟩:=q1;obtain⟨t,rfl⟩:=r1;exact⟨some i,H1,I1,.int i t,q⟩

noncomputable def SlR(X:Cx)(r:V->Option Int->Option Int->Hp->VK->Prop):Prop :=
 ∀(pins:List (Qc×Obj)) (s:Qd) (σ:St) (H:Hp) (x:V) (v vl vu:Qa) (lo hi:Option Int) (sl:Qc) (Q:VK),Inv X pins σ H s->RelV x v->s.heap.IsSliceOf sl vl vu .none->IsPart vl lo->IsPart vu hi->r x lo hi H Q ->
  ∃T id,typeLookup (.type T) "__getitem__"=pure (some (.builtin id))/\s.TypeIs v T/\wpAny (model X.prog X.w) X.A (getItem v (.ref sl)) (EP X pins σ Q) X.xe s
theorem SlR.or{r r':V->Option Int->Option Int->Hp->VK->Prop}(h:SlR X r)(h':SlR X r'):SlR X (fun x lo hi H Q=>r x lo hi H Q\/r' x lo hi H Q):=by
 intro pins s σ H x v vl vu lo hi sl Q I rx hs pl pu q;rcases q with q|q
 ·exact h pins s σ H x v vl vu lo hi sl Q I rx hs pl pu q
 ·exact h' pins s σ H x v vl vu lo hi sl Q I rx hs pl pu q
noncomputable def tSl(r:V->Option Int->Option Int->Hp->VK->Prop)(te:TE)(tl th:TO):TE:=fun σ H Q=>te σ H fun x H1=>tl σ H1 fun l H2=>th σ H2 fun u H3=>r x l u H3 Q
theorem Jbg{r:V->Option Int->Option Int->Hp->VK->Prop}(hr:SlR X r)(he:PE X e te)(hl:PO X lo tl)(hu:PO X hi th):PE X (.Subscript e (.Slice lo hi none p2) pos) (tSl r te tl th):=by
 intro pins s σ H Q I h;refine Subscript_ (thn (he pins s σ H _ I h) fun v s1 ⟨x,H1,I1,r1,q1⟩=>?_);refine wpAny_Slice (thn (hl pins s1 σ H1 _ I1 q1) fun vl s2 ⟨l,H2,I2,pl,q2⟩=>thn (hu pins s2 σ H2 _ I2 q2) fun vu s3 ⟨u,H3,I3,pu,q3⟩=>?_);rw[evalPart_none];refine QE ?_;have I4:Inv X pins σ H3 { s3 with heap:=s3.heap.push { cls:=.type "slice",data:=.fields #[vl,vu,.none] } }:=I3.kept (t':=s3.toks) fun b ob q=>Qf _ q
 obtain⟨T,id,hT,ht,hg⟩:=hr pins { s3 with heap:=s3.heap.push { cls:=.type "slice",data:=.fields #[vl,vu,.none] } } σ H3 x v vl vu l u s3.heap.objs.size Q I4 r1 (Heap.IsSliceOf.new ..) pl pu q3;show wpAny (model X.prog X.w) X.A (subscriptTail e (.Slice lo hi none p2) v (.ref s3.heap.objs.size)) (EP X pins σ Q) X.xe { s3 with heap:=s3.heap.push { cls:=.type "slice",data:=.fields #[vl,vu,.none] } };exact tail_any (ops:=[.ref s3.heap.objs.size,v]) ht hT hg (by with_unfolding_all rfl)

noncomputable def Jie(K:Qn):R2:=fun x y H Q=>∃a b xs ys,x=.ref a/\y=.ref b/\SqT K H a xs/\SqT K H b ys/\xs≠[]/\xs.length+ys.length<=Qk ∧
 (ys=[]->Q (.ref a) H)/\(ys≠[]->∀p,H p=none->Q (.ref p) (upd H p (.tup (xs++ys))))
theorem Vals.nil_iff{xs:List V}{us:List Qa}(r:Vals xs us):us=[]↔xs=[]:=by
 cases r with
 | nil=>simp
 | cons _ _=>simp
theorem Jg1:OpR X (binaryOp .Add) (Jie X.K):=by
 intro pins s σ H x y v u Q I rx ry h;obtain⟨a,b,xs,ys,rfl,rfl,ha,hb,hx,hz,q1,q2⟩:=h;cases rx;cases ry;obtain⟨its,r1,p1,_⟩:=I.tuple ha;obtain⟨its2,r2,p2,_⟩:=I.tuple hb;refine HT.Jgc p1 p2 (fun z=>hx (r1.nil_iff.mp z)) (fun z=>⟨.ref a,H,I,rfl,q1 (r2.nil_iff.mp z)⟩) (fun z=>?_) (by rw[<- r1.length,<- r2.length];exact hz);refine⟨.ref s.heap.objs.size,_,I.laid (t':=s.toks) (o:=.tup (xs++ys)) (fun b ob q=>Qf _ q) (Qr _) ?_,rfl,q2 (fun w=>z (r2.nil_iff.mpr w)) _ (I.hok.fresh (Qr _))⟩
 exact⟨by rw[QN];exact hz,_,r1.append r2,IsTup.new _ _⟩
end
end L2

namespace L2
open PySem PySem.Spec PyProof.Rows

noncomputable def ixN(n:Nat)(i:Int):Option Nat:=if 0<=i then(if i<n then some i.toNat else none) else if -(n:Int)<=i then some (i+n).toNat else none
noncomputable def atI{α:Type}(xs:List α)(i:Int):Option α:=(ixN xs.length i).bind fun j=>xs[j]?
theorem JcI{n:Nat}{i:Int}{j:Nat}(h:ixN n i=some j):seqIndex? i n=some j/\j<n/\-(n:Int)<=i/\i<n:=by
 unfold ixN at h
 by_cases h0:0<=i
 ·rw[if_pos h0] at h
  by_cases h1:i<n
  ·rw[if_pos h1] at h;have e:i.toNat=j:=QM h;exact⟨by rw[seqIndex_of h0 h1,e],by omega,by omega,h1⟩
  ·rw[if_neg h1] at h;cases h
 ·rw[if_neg h0] at h
  by_cases h1:-(n:Int)<=i
  ·rw[if_pos h1] at h;have e:(i+n).toNat=j:=QM h;exact⟨by rw[seqIndex_neg (by omega) h1,e],by omega,h1,by omega⟩
  ·rw[if_neg h1] at h;cases h
theorem Z0{α:Type}{xs:List α}{i:Int}{v:α}(h:atI xs i=some v):∃j,seqIndex? i xs.length=some j/\xs[j]?=some v/\j<xs.length/\-(xs.length:Int)<=i/\i<xs.length:=by
 unfold atI at h
 cases e:ixN xs.length i with
 | none=>rw[e] at h;cases h
 | some j=>rw[e] at h;obtain⟨h1,h2,h3,h4⟩:=JcI e;exact⟨j,h1,h,h2,h3,h4⟩
noncomputable def Jcn(b:QO):Prop:=∀o i,subscripted b false o i=operate [o,i] (getItem o i)
noncomputable def IxR(X:Cx)(r:R2):Prop :=
 ∀(value slice:QO) (pins:List (Qc×Obj)) (s:Qd) (σ:St) (H:Hp) (x y:V) (v u:Qa) (Q:VK),Inv X pins σ H s->RelV x v->RelV y u->r x y H Q ->
  subscripted slice false v u=operate [v,u] (getItem v u)->wpAny (model X.prog X.w) X.A (subscriptTail value slice v u) (EP X pins σ Q) X.xe s
noncomputable def MtR(X:Cx)(id:String)(r:V->List V->Hp->VK->Prop):Prop :=
 ∀(pins:List (Qc×Obj)) (s:Qd) (σ:St) (H:Hp) (x:V) (xs:List V) (v:Qa) (us:List Qa) (Q:VK),Inv X pins σ H s->RelV x v->Vals xs us->r x xs H Q ->
  wpAny (model X.prog X.w) X.A (call (.builtin id) (v::us)) (EP X pins σ Q) X.xe s
section
variable{X:Cx}{a b:QO}{ta tb:TE}{pos:Pos}
theorem IxR.or{r r':R2}(h:IxR X r)(h':IxR X r'):IxR X (fun x y H Q=>r x y H Q\/r' x y H Q):=by
 intro value slice pins s σ H x y v u Q I rx ry q hs;rcases q with q|q
 ·exact h value slice pins s σ H x y v u Q I rx ry q hs
 ·exact h' value slice pins s σ H x y v u Q I rx ry q hs
theorem MtR.or{id:String}{r r':V->List V->Hp->VK->Prop}(h:MtR X id r)(h':MtR X id r'):MtR X id (fun x xs H Q=>r x xs H Q\/r' x xs H Q):=by
 intro pins s σ H x xs v us Q I rx rs q;rcases q with q|q
 ·exact h pins s σ H x xs v us Q I rx rs q
 ·exact h' pins s σ H x xs v us Q I rx rs q
theorem Jk1{r:R2}(hr:IxR X r)(ha:PE X a ta)(hb:PE X b tb)(hs:Jcn b):PE X (.Subscript a b pos) (tOp r ta tb):=by intro pins s σ H Q I h;exact Subscript_ (Jit ha hb I h fun v u s2 x y H2 I2 rx ry q=>hr a b pins s2 σ H2 x y v u Q I2 rx ry q (hs _ _))

noncomputable def Jk4(K:Qn):R2:=fun x y H Q=>∃p xs i v,x=.ref p/\y=.int i/\SqL K H p xs/\atI xs i=some v/\Q v H
noncomputable def Jk6(K:Qn):R2:=fun x y H Q=>∃p xs i v,x=.ref p/\y=.int i/\SqT K H p xs/\atI xs i=some v/\Q v H
noncomputable def Jk5:R2:=fun x y H Q=>∃z i c,x=.str z/\y=.int i/\z.length<=Qk/\atI z.cps.toList i=some c/\Q (.str ⟨#[c]⟩) H
theorem ix_list:IxR X (Jk4 X.K):=by
 intro value slice pins s σ H x y v u Q I rx ry h hs;obtain⟨p,xs,i,z,rfl,rfl,hq,he,q⟩:=h;cases rx;obtain⟨t,rfl⟩:=ry;obtain⟨its,r,pl,hz⟩:=I.list hq;obtain⟨j,h1,h2,h3,h4,h5⟩:=Z0 he;obtain⟨w,ew,rw'⟩:=r.get h2;have hl:=r.length;have hn:=V0;have fin:EP X pins σ Q w s:=⟨z,H,I,rw',q⟩
 by_cases h0:0<=i
 ·have hj:i.toNat=j:=by rw[seqIndex_of h0 h5] at h1;exact QM h1
  exact item_listR pl.isList h0 (by omega) (by rw[hj];simpa using ew) fin hs
 ·have hj:(i+(its.toArray.size:Int)).toNat=j:=by rw[seqIndex_neg (by omega) h4] at h1;rw[Qv,<- hl];exact QM h1
  exact subscriptTail_builtinR (x:=w) pl.isList.typeIs slot_list_getitem.lookup
   (wpAny_getItem_list_neg (Q:=fun r s'=>r=w/\EP X pins σ Q r s') pl.isList (by omega) (by rw[Qv] <;> omega) (by omega) (by rw[hj];simpa using ew) ⟨rfl,fin⟩) hs
theorem ix_tup:IxR X (Jk6 X.K):=by
 intro value slice pins s σ H x y v u Q I rx ry h hs;obtain⟨p,xs,i,z,rfl,rfl,hq,he,q⟩:=h;cases rx;obtain⟨t,rfl⟩:=ry;obtain⟨its,r,pl,hz⟩:=I.tuple hq;obtain⟨j,h1,h2,h3,h4,h5⟩:=Z0 he;obtain⟨w,ew,rw'⟩:=r.get h2;have hl:=r.length;have hn:=V0;have fin:EP X pins σ Q w s:=⟨z,H,I,rw',q⟩
 exact subscriptTail_builtinR (x:=w) pl.typeIs slot_tuple_getitem.lookup
  (getItem_tuple (j:=j) (Q:=fun r s'=>r=w/\EP X pins σ Q r s') pl (by omega) (by omega) (by rw[Qv,<- hl];exact h1) (by simpa using ew) ⟨rfl,fin⟩) hs
theorem JiZ:IxR X Jk5:=by
 intro value slice pins s σ H x y v u Q I rx ry h hs;obtain⟨z,i,c,rfl,rfl,hz,he,q⟩:=h;obtain⟨t,rfl⟩:=rx;obtain⟨t',rfl⟩:=ry;obtain⟨j,h1,h2,h3,h4,h5⟩:=Z0 he;have hl:z.cps.toList.length=z.length:=by simp[Str.length]
 rw[hl] at h1 h4 h5;have hn:=V0;exact tail_any (typeIs_str s z t) slot_str_getitem.lookup (getItem_str (c:=c) (by
  have e1:decide (i < -(2 ^ 63:Int))=false:=decide_eq_false (by omega)
  have e2:decide (i ≥ 2 ^ 63)=false:=decide_eq_false (by omega);rw[e1,e2,Kz]) (by rw[h1];simpa using h2) ⟨.str ⟨#[c]⟩,H,I.tok _,⟨_,rfl⟩,q⟩) hs
noncomputable def rIx(K:Qn):R2:=fun x y H Q=>Jk4 K x y H Q\/Jk6 K x y H Q\/Jk5 x y H Q
theorem JiY:IxR X (rIx X.K):=ix_list.or (ix_tup.or JiZ)

theorem JbX(its:List Qa)(n j:Nat)(u:Qa):Lb (·.setIfInBounds j u) { cls:=.type "list",data:=.seq its.toArray n }={ cls:=.type "list",data:=.seq (its.set j u).toArray n }:=by simp[Lb]
theorem Inv.lst{pins:List (Qc×Obj)}{σ:St}{H:Hp}{s:Qd}{p:Qc}{xs:List V}(I:Inv X pins σ H s)(h:H p=some (.lst xs)) :
 ∃(its:List Qa) (n:Nat),Vals xs its/\s.heap.get? p=some { cls:=.type "list",data:=.seq its.toArray n }/\xs.length<=Qk:=by
 obtain⟨z,its,n,r,e⟩:=I.hok p _ h;exact⟨its,n,r,e,z⟩
theorem Inv.lstUpd{pins:List (Qc×Obj)}{σ:St}{H:Hp}{s:Qd}{p:Qc}{xs ys:List V}{its its':List Qa}{n n':Nat}{f:Obj->Obj}(I:Inv X pins σ H s)(h:H p=some (.lst xs))
 (ho:s.heap.get? p=some { cls:=.type "list",data:=.seq its.toArray n }) (hf:f { cls:=.type "list",data:=.seq its.toArray n }={ cls:=.type "list",data:=.seq its'.toArray n' }) (r:Vals ys its') (hz:ys.length<=Qk) (t:Nat) :
 Inv X pins σ (upd H p (.lst ys)) { s with heap:=s.heap.update p f,toks:=t }:=by
 have e:(s.heap.update p f).get? p=some { cls:=.type "list",data:=.seq its'.toArray n' }:=by rw[Gb f ho (by rw[hf] <;> rfl),hf]
 refine I.write (x:=p) (e:=p) (by rw[h];trivial) (.inl rfl) (fun b u hb q=>(QU _ _ (Q0 hb)).trans q) ⟨_,e⟩ ?_;exact⟨hz,its',n',r,e⟩
noncomputable def Jih:V->V->V->Hp->(Hp->Prop)->Prop:=fun o i v H Q=>∃p xs k j,o=.ref p/\i=.int k/\H p=some (.lst xs)/\ixN xs.length k=some j/\Q (upd H p (.lst (xs.set j v)))
theorem JfL:JkD X Jih:=by
 intro pins s σ H o i v ov iv u Q I ro ri rv h;obtain⟨p,xs,k,j,rfl,rfl,hp,hj,q⟩:=h;cases ro;obtain⟨t,rfl⟩:=ri;obtain⟨its,n,r,ho,hz⟩:=I.lst hp;obtain⟨h1,h2,h3,h4⟩:=JcI hj;have hl:=r.length;have hn:=V0
 have I':Inv X pins σ (upd H p (.lst (xs.set j v))) { s with heap:=s.heap.update p (Lb (·.setIfInBounds j u)) } :=
  I.lstUpd hp ho (JbX its n j u) (r.set rv j) (by rw[List.length_set];exact hz) s.toks
 by_cases h0:0<=k
 ·have hk:k.toNat=j:=by rw[seqIndex_of h0 h4] at h1;exact QM h1
  exact PySem.W.ki_setAt ho h0 (by omega) (by rw[Qv,<- hl];exact h4) (by rw[hk];exact⟨_,I',q⟩)
 ·have hk:(k+(its.toArray.size:Int)).toNat=j:=by rw[seqIndex_neg (by omega) h3] at h1;rw[Qv,<- hl];exact QM h1
  exact PySem.W.ki_setBack ho (by omega) (by rw[Qv,<- hl];exact h3) (by omega) (by rw[hk];exact⟨_,I',q⟩)

theorem CallR.or{f:Qa}{r r':List V->Hp->VK->Prop}(h:CallR X f r)(h':CallR X f r'):CallR X f (fun xs H Q=>r xs H Q\/r' xs H Q):=by
 intro pins s σ H xs us Q I rs q;rcases q with q|q
 ·exact h pins s σ H xs us Q I rs q
 ·exact h' pins s σ H xs us Q I rs q
theorem Z4:CallR X (.type "list") (fun xs H Q=>∃p ys,xs=[.ref p]/\(SqL X.K H p ys\/SqT X.K H p ys)/\∀l,H l=none->Q (.ref l) (upd H l (.lst ys))):=by
 intro pins s σ H xs us Q I r h;obtain⟨p,ys,rfl,hq,q⟩:=h;obtain⟨u,rfl,rx⟩:=Zm r;cases rx
 have fin:∀(its:List Qa),Vals ys its->ys.length<=Qk->∀(h':QH) (c':Nat),(∀b o',s.heap.get? b=some o'->h'.get? b=some o') ->
  h'.get? s.heap.objs.size=some { cls:=.type "list",dict:=none,data:=.seq its.toArray c',slots:=#[] }->EP X pins σ Q (.ref s.heap.objs.size) { s with heap:=h' }:=fun its r' hz h' c' kp e =>
  ⟨.ref s.heap.objs.size,_,I.laid (t':=s.toks) kp (Qr _) (show ObjOk X.prog X.w _ h' _ (.lst ys) from⟨hz,its,c',r',e⟩),rfl,q _ (I.hok.fresh (Qr _))⟩
 rcases hq with hq|hq
 ·obtain⟨its,r',pl,hz⟩:=I.list hq;have hlen:=r'.length;obtain⟨o,ho,hc,n,hd⟩:=pl.isList;exact call_list_seq p (.inl rfl) ho hc hd (fun h' c' kp e=>fin its r' hz h' c' kp e) (by simp only[Qv] <;> omega)
 ·obtain⟨its,r',pl,hz⟩:=I.tuple hq;have hlen:=r'.length;obtain⟨o,ho,hc,n,hd⟩:=pl;exact call_list_seq p (.inr rfl) ho hc hd (fun h' c' kp e=>fin its r' hz h' c' kp e) (by simp only[Qv] <;> omega)
theorem Zt:CallR X (.type "tuple") (fun xs H Q=>∃p ys,xs=[.ref p]/\((SqL X.K H p ys/\∀l,H l=none->Q (.ref l) (upd H l (.tup ys)))\/(SqT X.K H p ys/\Q (.ref p) H))):=by
 intro pins s σ H xs us Q I r h;obtain⟨p,ys,rfl,h⟩:=h;obtain⟨u,rfl,rx⟩:=Zm r;cases rx;rcases h with ⟨hq,q⟩|⟨hq,q⟩
 ·obtain⟨its,r',pl,hz⟩:=I.list hq;have hlen:=r'.length;refine call_tuple_list pl.isList (fun h' kp=>?_) (by simp only[Qv] <;> omega);have I1:Inv X pins σ H { s with heap:=h' }:=I.kept (t':=s.toks) kp
  have I2:Inv X pins σ (upd H h'.objs.size (.tup ys)) { s with heap:=h'.push { cls:=.type "tuple",data:=.seq its.toArray } } :=
   I1.laid (t':=s.toks) (fun b o e=>Qf _ e) (Qr _) (show ObjOk X.prog X.w _ _ _ (.tup ys) from⟨hz,its,r',IsTup.new _ _⟩)
  exact⟨.ref h'.objs.size,_,I2,rfl,q _ (I1.hok.fresh (Qr _))⟩
 ·obtain⟨its,r',pl,hz⟩:=I.tuple hq;exact call_tuple_same pl ⟨.ref p,H,I,rfl,q⟩

noncomputable def tyV(K:Qn)(T:String)(x:V)(H:Hp):Prop:=match x with
 | .str _=>T="str"
 | .int _=>T="int"
 | .ref p=>(T="list"/\∃xs,SqL K H p xs)\/(T="tuple"/\∃o,K.lookup p=some o/\o.cls=.type "tuple"/\o.dict=none) ∨
  (T="dict"/\((∃kvs,H p=some (.dK kvs))\/∃kvs,H p=some (.dT kvs)))\/(T="set"/\∃S n,H p=some (.set S n))
 | _=>False
theorem JfY{pins:List (Qc×Obj)}{σ:St}{H:Hp}{s:Qd}{T:String}{x:V}{v:Qa}(I:Inv X pins σ H s)(r:RelV x v)(ty:tyV X.K T x H) :
 s.TypeIs v T/\∀a,v=.ref a->∃ob,s.heap.get? a=some ob/\ob.dict=none:=by
 cases x with
 | str z=>obtain⟨t,rfl⟩:=r;cases (show T="str" from ty);exact⟨typeIs_str s z t,fun _ e=>nomatch e⟩
 | int i=>obtain⟨t,rfl⟩:=r;cases (show T="int" from ty);exact⟨typeIs_int s i t,fun _ e=>nomatch e⟩
 | ref p =>
  cases r;rcases ty with ⟨rfl,xs,hq⟩|⟨rfl,o,hk,hc,hd⟩|⟨rfl,hk⟩|⟨rfl,S,n,hk⟩
  ·obtain⟨its,_,pl,_⟩:=I.list hq;refine⟨pl.isList.typeIs,fun a e=>?_⟩;cases e;obtain⟨o,n,e,c,hd,_⟩:=pl;exact⟨o,e,hd⟩
  ·refine⟨⟨o,I.kIn p o hk,hc⟩,fun a e=>?_⟩;cases e;exact⟨o,I.kIn _ o hk,hd⟩
  ·have z:∃o,s.heap.get? p=some o/\o.ExactDict:=by
    rcases hk with ⟨kvs,hk⟩|⟨kvs,hk⟩
    ·obtain⟨_,_,_,_,o,_,_,e,ex,_⟩:=I.hok p _ hk;exact⟨o,e,ex⟩
    ·obtain⟨_,_,_,_,o,_,_,e,ex,_⟩:=I.hok p _ hk;exact⟨o,e,ex⟩
   obtain⟨o,e,ex⟩:=z;refine⟨⟨o,e,ex.1⟩,fun a e2=>?_⟩;cases e2;exact⟨o,e,ex.2.1⟩
  ·obtain⟨o,_,_,_,e,ex,_⟩:=I.hok p _ hk;refine⟨⟨o,e,ex.1⟩,fun a e2=>?_⟩;cases e2;exact⟨o,e,ex.2.1⟩
 | _=>exact QS ty
noncomputable def Jki(K:Qn)(T:String)(r:V->List V->Hp->VK->Prop)(to:TE):TE:=fun σ H Q=>to σ H fun x H1=>tyV K T x H1/\r x [] H1 Q
noncomputable def tBM(K:Qn)(T:String)(r:V->List V->Hp->VK->Prop)(to:TE)(t:TA):TE:=fun σ H Q=>to σ H fun x H1=>tyV K T x H1/\t σ H1 fun xs H2=>r x xs H2 Q
variable{o e:QO}{es:List QO}{to:TE}{t:TA}{name:Str}{apos cpos:Pos}{T id:String}{r:V->List V->Hp->VK->Prop}
theorem Jjv(pa:PlainAttrs T)(slot:Slot T name id)(hty:typeOf (.builtin id)=pure (.type "method_descriptor"))(hm:MtR X id r)(ho:PE X o to)
 (hbase:attributeBase o name X.env (eval o X.env)=eval o X.env:=by rfl) (hline:(apos.endLine == cpos.line)=true:=by rfl):PE X (.Call (.Attribute o name apos) [] [] cpos) (Jki X.K T r to):=by
 intro pins s σ H Q I h;refine wpAny_Call_method0_late hbase hline (thn (ho pins s σ H _ I h) fun v s1 ⟨x,H1,I1,r1,ty,q1⟩=>?_);obtain⟨h1,h2⟩:=JfY I1 r1 ty;exact⟨T,id,pa,slot,hty,h1,h2,Kp rfl (PySem.evalArgs_none (hm pins s1 σ H1 x [] v [] Q I1 r1 .nil q1))⟩
theorem Jk0(pa:PlainAttrs T)(slot:Slot T name id)(hty:typeOf (.builtin id)=pure (.type "method_descriptor"))(hm:MtR X id r)(ho:PE X o to)(ha:PA X (e::es) t)
 (hbase:attributeBase o name X.env (eval o X.env)=eval o X.env:=by rfl)
 (hfew:((backTo cpos (starEach (e::es) X.env)).all (fun x=>!x.1) && (backToKw cpos (keywordEach [] X.env)).all (fun x=>x.1.isSome)
  && decide ((e::es).length+([]:List KL).length+(if ([]:List KL).isEmpty then 0 else 1)<30))=true:=by rfl)
 (hline:(apos.endLine == cpos.line)=true:=by rfl) (hs:starEach (e::es) X.env=(false,eval e X.env)::starEach es X.env:=by rfl) (hplain:(backTo cpos (starEach es X.env)).any (·.1)=false:=by rfl) :
 PE X (.Call (.Attribute o name apos) (e::es) [] cpos) (tBM X.K T r to t):=by
 intro pins s σ H Q I h;refine wpAny_Call_method_late hbase hfew hline rfl (thn (ho pins s σ H _ I h) fun v s1 ⟨x,H1,I1,r1,ty,q1⟩=>?_);obtain⟨h1,h2⟩:=JfY I1 r1 ty;refine⟨T,id,pa,slot,hty,h1,h2,?_⟩;have hA:=ha cpos pins s1 σ H1 _ I1 q1;rw[hs] at hA ⊢;refine Kp (by show(false || (backTo cpos (starEach es X.env)).any (·.1))=false;rw[hplain] <;> rfl) (GZ ?_);exact thn hA fun us s2 ⟨vs,H2,I2,r2,q2⟩=>hm pins s2 σ H2 x vs v us Q I2 r1 r2 q2
/- xs.append(e),list.index on a module's tuple .. are MtR facts of 06m -/
end
end L2

namespace L2
open PySem PySem.Spec PyProof.Rows

noncomputable def MtM(X:Cx)(id:String)(r:V->List V->Hp->VK->Prop):Prop :=
 ∀(pins:List (Qc×Obj)) (s:Qd) (σ:St) (H:Hp) (x:V) (xs:List V) (v:Qa) (us:List Qa) (Q:VK),Inv X pins σ H s->RelV x v->Vals xs us->r x xs H Q ->
  wpAny (model X.prog X.w) X.A (call (.builtin id) (v::us)) (EP X pins σ Q) X.xe s

theorem Vals.one:∀{x:V} {us:List Qa},Vals [x] us->∃u,us=[u]/\RelV x u
 | _,_,.cons r .nil=>⟨_,rfl,r⟩
theorem Vals.two:∀{x y:V} {us:List Qa},Vals [x,y] us->∃u v,us=[u,v]/\RelV x u/\RelV y v
 | _,_,_,.cons r (.cons q .nil)=>⟨_,_,rfl,r,q⟩
theorem Vals.zero:∀{us:List Qa},Vals [] us->us=[]
 | _,.nil=>rfl
theorem Vals.dropLast{xs:List V}{us:List Qa}(h:Vals xs us):Vals xs.dropLast us.dropLast:=by
 induction h with
 | nil=>exact .nil
 | cons r t ih =>
  cases t with
  | nil=>exact .nil
  | cons q t'=>exact .cons r ih
theorem Vals.eraseIdx:∀{xs:List V} {us:List Qa} (i:Nat),Vals xs us->Vals (xs.eraseIdx i) (us.eraseIdx i)
 | _,_,_,.nil=>.nil
 | _,_,0,.cons _ t=>t
 | _,_,i+1,.cons r t=>.cons r (Vals.eraseIdx i t)
theorem Vals.reverse{xs:List V}{us:List Qa}(h:Vals xs us):Vals xs.reverse us.reverse:=by
 induction h with
 | nil=>exact .nil
 | cons r t ih=>rw[List.reverse_cons,List.reverse_cons];exact Vals.append ih (.cons r .nil)
theorem Vals.rep{xs:List V}{us:List Qa}(h:Vals xs us):∀k:Nat,Vals (Qi k xs).flatten (Qi k us).flatten
 | 0=>.nil
 | k+1=>by rw[QK,QK,Q9,Q9];exact Vals.append h (Vals.rep h k)
theorem JbL{α:Type}(l:List α):l.eraseIdx (l.length-1)=l.dropLast:=by
 induction l with
 | nil=>rfl
 | cons a r ih =>
  cases r with
  | nil=>rfl
  | cons b r =>
   have e:(a::b::r).length-1=((b::r).length-1)+1:=by
    have h1:(a::b::r).length=r.length+2:=rfl
    have h2:(b::r).length=r.length+1:=rfl;omega
   rw[e,Kk,ih]
   all_goals rfl
theorem ZL(its:List Qa):∀(k:Nat) (acc:List Qa),
 List.foldl (fun x1 x2=>x1++x2) acc.toArray (Qi k its.toArray)=(acc++(Qi k its).flatten).toArray
 | 0,acc=>by simp
 | k+1,acc=>by
  have e:acc.toArray++its.toArray=(acc++its).toArray:=by simp
  have e2:(acc++its)++(Qi k its).flatten=acc++(Qi (k+1) its).flatten:=by rw[QK,Q9,GR]
  rw[<- e2,<- ZL its k (acc++its),<- e,QK,Lh]

section
variable{X:Cx}{pins:List (Qc×Obj)}{σ:St}{H:Hp}{s:Qd}{l b:Qc}{xs ys zs:List V}

theorem Inv.lset{its its':List Qa}{n:Nat}{f:Array Qa->Array Qa}{t':Nat}(I:Inv X pins σ H s)(hH:H l=some (.lst xs))
 (e:s.heap.get? l=some { cls:=.type "list",data:=.seq its.toArray n }) (hf:f its.toArray=its'.toArray) (hv:Vals ys its') (hz:ys.length<=Qk) :
 Inv X pins σ (upd H l (.lst ys)) { s with heap:=s.heap.update l (Lb f),toks:=t' }:=by
 have q:=PySem.IsL.update e f;rw[hf] at q;refine I.write (x:=l) (e:=l) (by rw[hH];exact trivial) (.inl rfl) (fun b' u hb hu=>(QU s.heap (Lb f) (Q0 hb)).trans hu) ⟨_,q⟩ ?_;exact⟨hz,its',_,hv,q⟩
theorem Inv.lnew{its:List Qa}{t':Nat}(I:Inv X pins σ H s)(hv:Vals ys its)(hz:ys.length<=Qk) :
 Inv X pins σ (upd H s.heap.objs.size (.lst ys)) { s with heap:=s.heap.push { cls:=.type "list",data:=.seq its.toArray },toks:=t' } :=
 I.laid (fun _ _ q=>Qf _ q) (Qr _) ⟨hz,its,0,hv,QA _ rfl⟩
theorem Inv.fresh(I:Inv X pins σ H s):H s.heap.objs.size=none:=I.hok.fresh (Qr _)
theorem Inv.lstM(I:Inv X pins σ H s)(hH:H l=some (.lst xs)):xs.length<=Qk/\∃(its:List Qa) (n:Nat),Vals xs its/\xs.length=its.length/\s.heap.get? l=some { cls:=.type "list",data:=.seq its.toArray n }:=by obtain⟨z,its,n,r,e⟩:=I.hok l _ hH;exact⟨z,its,n,r,r.length,e⟩

theorem Je5{n:Nat}(h:n<=Qk):Ka n=false:=by unfold Ka;exact decide_eq_false (by omega)
end

section
variable{X:Cx}

noncomputable def Jc1:V->List V->Hp->VK->Prop:=fun x vs H Q=>∃l xs y,x=.ref l/\vs=[y]/\H l=some (.lst xs)/\xs.length<Qk/\Q .non (upd H l (.lst (xs++[y])))
theorem V1:MtM X "list.append" Jc1:=by intro pins s σ H x vs v us Q I rx rv h;obtain⟨l,xs,y,rfl,rfl,hH,hz,q⟩:=h;cases rx;obtain⟨u,rfl,ru⟩:=rv.one;obtain⟨z,its,n,r,hl,e⟩:=I.lstM hH;refine call_meets F.slot_list_append ⟨_,e,rfl⟩ F.entry_list_append (F.args_list_append_2 _ _) (PySem.list_append l its.toArray n u (by rw[Qv];omega)) ⟨e,?_⟩;refine⟨.non,_,I.lset (its':=its++[u]) hH e (by simp) (r.append (.cons ru .nil)) ?_,rfl,q⟩;rw[QN,GN];omega

noncomputable def Jk8:V->List V->Hp->VK->Prop:=fun x vs H Q=>∃l xs y,x=.ref l/\vs=[]/\H l=some (.lst xs)/\xs[xs.length-1]?=some y/\Q y (upd H l (.lst xs.dropLast))
theorem Jje:MtM X "list.pop" Jk8:=by
 intro pins s σ H x vs v us Q I rx rv h;obtain⟨l,xs,y,rfl,rfl,hH,hy,q⟩:=h;cases rx;have hus:=rv.zero;subst hus;obtain⟨z,its,n,r,hl,e⟩:=I.lstM hH;obtain⟨u,hu,ru⟩:=r.get hy
 have hy':its.toArray[its.toArray.size-1]?=some u:=by show its.toArray[its.length-1]?=some u;rw[<- Kt,<- hl];exact hu
 refine call_meets F.slot_list_pop ⟨_,e,rfl⟩ F.entry_list_pop (F.args_list_pop_1 _) (MeetsSeq.list_pop_last l its.toArray n u hy' (by rw[Qv];omega)) ⟨e,?_⟩;refine⟨y,_,I.lset (its':=its.dropLast) hH e ?_ r.dropLast ?_,ru,q⟩
 ·show its.toArray.eraseIdxIfInBounds (its.toArray.size-1)=its.dropLast.toArray;rw[Qv,List.eraseIdxIfInBounds_toArray,JbL]
 ·rw[Lv];omega

noncomputable def Jk2:R2:=fun x y H Q=>∃l b xs zs,x=.ref l/\y=.ref b/\H l=some (.lst xs)/\H b=some (.lst zs)/\xs.length+zs.length<=Qk/\∀p,H p=none->Q (.ref p) (upd H p (.lst (xs++zs)))
theorem Jjl:OpR X (binaryOp .Add) Jk2:=by
 intro pins s σ H x y v u Q I rx ry h;obtain⟨l,b,xs,zs,rfl,rfl,hH,hB,hz,q⟩:=h;cases rx;cases ry;obtain⟨z,its,n,r,hl,e⟩:=I.lstM hH;obtain⟨z2,its2,n2,r2,hl2,e2⟩:=I.lstM hB;refine PySem.P.add_list e e2 ?_ (by rw[Qv,Qv];omega);have ea:its.toArray++its2.toArray=(its++its2).toArray:=by simp
 rw[ea];exact⟨.ref _,_,I.lnew (t':=s.toks) (r.append r2) (by rw[QN];omega),rfl,q _ I.fresh⟩
noncomputable def Jk9:R2:=fun x y H Q=>∃l k xs,x=.ref l/\y=.int k/\H l=some (.lst xs)/\-(2 ^ 63)<=k/\k<2 ^ 63/\xs.length*k.toNat<=Qk ∧
 ∀p,H p=none->Q (.ref p) (upd H p (.lst (Qi k.toNat xs).flatten))
theorem JgP{α:Type}(xs:List α)(k:Nat):(Qi k xs).flatten.length=k*xs.length:=by
 induction k with
 | zero=>simp
 | succ k ih=>rw[QK,Q9,QN,ih,Nat.succ_mul,Nat.add_comm]
theorem Jjr:OpR X (binaryOp .Mult) Jk9:=by
 intro pins s σ H x y v u Q I rx ry h;obtain⟨l,k,xs,rfl,rfl,hH,h1,h2,hz,q⟩:=h;cases rx;obtain⟨t,rfl⟩:=ry;obtain⟨z,its,n,r,hl,e⟩:=I.lstM hH;have hlen:its.toArray.size*k.toNat<=Qk:=by rw[Qv,<- hl];exact hz
 have hcap:¬its.toArray.size*k.toNat>(2 ^ 63-1) / 8:=by
  have:(Qk:Nat)<=(2 ^ 63-1) / 8:=by decide
  omega
 have hfit:¬(!Builtin.List.listFitsIndex k)=true:=by rw[fitsIndex_both h1 h2];exact QF
 have hlong:¬Ka (its.toArray.size*k.toNat)=true:=by rw[Je5 hlen];exact QF
 have hnew:List.foldl (fun x1 x2=>x1++x2) #[] (Qi (if its.toArray.isEmpty=true then 0 else k.toNat) its.toArray)=(Qi k.toNat its).flatten.toArray:=by
  have f0:∀m:Nat,List.foldl (fun x1 x2=>x1++x2) #[] (Qi m its.toArray)=(Qi m its).flatten.toArray:=fun m=>by have:=ZL its m [];rw[GL] at this;exact this
  rw[f0]
  cases its with
  | nil=>simp
  | cons a r'=>rw[if_neg (by simp)]
 refine wpAny_binaryOp_repeat_ref (T:="list") (U:="int") (by decide) ⟨_,e,rfl⟩ (fun s'=>typeIs_int s' k t) noFill_list_mul F.fills_int_mul F.slot_int_rmul repeat_list F.slot_int_index.lookup
  (call_meets F.slot_int_rmul (typeIs_int s k t) F.entry_int_rmul (F.args_int_rmul_2 _ _) (int___rmul___int_list k t l its.toArray n)
   ⟨e,rfl,⟨_,e,rfl⟩,call_meets F.slot_list_mul ⟨_,e,rfl⟩ F.entry_list_mul (F.args_list_mul_2 _ _) (AutoListH.list___mul___list_int_3 l its.toArray n k t hfit hcap hlong) ⟨e,?_⟩⟩)
 rw[hnew];exact⟨.ref _,_,I.lnew (t':=s.toks) (r.rep k.toNat) (by rw[JgP,Nat.mul_comm];exact hz),rfl,q _ I.fresh⟩

end

section
variable{prog:Qm}{w:QB}{A:Qu}{E:Qa->Qd->Prop}{s:Qd}
end

section
variable{X:Cx}
end
end L2

namespace Att
open PySem PySem.W PySem.Calls PyProof.Rows

theorem Wn{P:Params}{h:QH}:∀(ns:List Int) (vs:List Qa),WellAll P h vs (ns.map WData.int)->IntsAre vs ns:=by
 intro ns
 induction ns with
 | nil=>intro vs w;rw[Q8] at w;cases w;exact .nil
 | cons n ns ih =>
  intro vs w;rw[Qt] at w
  cases w with
  | cons a b=>cases a;exact .cons _ _ (ih _ b)

theorem Jd2{l:OpenLaw}{n:Nat}(hn:l.most=some n){P:Params}{h:QH}{args:List WData}{vals:List Qa}
 (hpre:l.row.toRowW.claim.pre args=true) (hwl:WellAll P h vals args) :
 ∃a vs ns,vals=[Value.ref a]/\args=[WData.list (ns.map WData.int)]/\h.get? a=some { cls:=.type "list",data:=.seq vs.toArray }/\IntsAre vs ns/\ns.length<=n:=by
 have hsh:WShape.hasAll [] args [.list .int]=true:=(pre_splitW hpre).1
 have hc:l.pre.holds [] { args:=args }=true:=(pre_splitW hpre).2;obtain⟨d,r,rfl,h1,h2⟩:=hasAllW_cons hsh;obtain rfl:=hasAllW_nil h2;obtain⟨xs,rfl,h3⟩:=hasW_list h1;obtain⟨ns,rfl⟩:=items_int h3
 have hlen:ns.length<=n:=by
  unfold OpenLaw.pre at hc
  have h4:(WTm.not (.lt (.lit (.int (n:Int))) (.len (.arg 0)))).holds [] { args:=[.list (ns.map .int)] }=true:=by have h4:=(holds_andW hc).1;rw[hn] at h4;exact h4
  have h5:=condW_of h4 (w_not (w_lt w_lit (w_len_list (w_arg rfl))));rw[QR] at h5;refine Nat.le_of_not_lt fun q=>?_
  have q':(n:Int)<((ns.length:Nat):Int):=by omega
  first
   | (rw[decide_eq_true q'] at h5;exact absurd h5 (by decide))
   | (simp at h5;omega)
 cases hwl with
 | cons w1 w2 =>
  cases w2
  cases w1 with
  | list ho hall=>exact⟨_,_,ns,rfl,rfl,ho,Wn ns _ hall,hlen⟩

theorem JdT(l:OpenLaw)(args:List WData):l.row.toRowW.claim.post args (.bool true) args=true :=
 postW_of (r:=l.row.toRowW) (X:=(true == true))
  (show WShape.has [] (.bool true) .bool=true by first|rfl|decide|simp[WShape.has,WShape.arms,WShape.armsAll])
  (show(WTm.eq .res (.lit (.bool true))).value [] { args:=args,res:=some (.bool true),after:=args }=some (.bool (true == true)) from w_eq_bool (w_res rfl) w_lit) rfl

theorem attach_call{l:OpenLaw}{n:Nat}{q:Qm}{loose:List Str}{XP:(Str->Option Qa)->QH->Prop}{YP:QB->QH->Prop}{d:DefRec}
 (hn:l.most=some n) (hdf:d.params.defaults=[])
 (call:∀(w:QB) (s₀ s₁:Qd) (mg mb:Str->Option Qa) (fa:Qc) (o:Obj) (pm cd doc:Qa) (a:Qc) (vs:List Qa) (ns:List Int),
  Ground q loose [] XP w s₀ mg mb s₁.heap->YP w s₁.heap ->
  s₁.heap.get? fa=some o->o.data=.func (docDef d.name d.params d.body d.scope pm cd doc)->s₁.heap.CodeRec cd d.name->mg d.name=some (.ref fa) ->
  s₁.heap.get? a=some { cls:=.type "list",data:=.seq vs.toArray }->IntsAre vs ns->ns.length<=n->s₁.gens=#[] ->
  codeAny (model l.prog w) callerA (.call (.ref fa) ⟨[.ref a],[]⟩) (fun r s'=>r=.ok (.ret (.bool true))/\OldK s₁.heap s'.heap/\s'.os=s₁.os/\AllBare s'.gens) s₁) :
 WalkO q loose XP YP l.row.toRowW d [] (fun f vs=>PySem.call f vs):=by
 intro w s₀ s₁ mg mb G Y fa o pm cd doc dV kV ho hd hcd hD hmg hg args vals as hpre hlay hrd hwl hlo;obtain rfl:dV=.none:=Dflts.none hD hdf;obtain rfl:kV=.none:=Dflts.noKw hD;obtain⟨a,vs,ns,rfl,rfl,hobj,hints,hlen⟩:=Jd2 hn hpre hwl;refine enter_call (GF (call w s₀ s₁ mg mb fa o pm cd doc a vs ns G Y ho (fd_plain hd) hcd hmg hobj hints hlen hg) fun r s' hq=>?_);obtain⟨rfl,h2,h3,h4⟩:=hq;exact⟨.inl ⟨.bool true,.bool true,[],rfl,fun _=>rfl,.bool true,JdT l _,fun _=>⟨List.Pairwise.nil,fun _ hm=>(nomatch hm)⟩⟩,h2,h3,h4⟩

section
variable{prog:Qm}{w:QB}{A:Qu}{E:Qa->Qd->Prop}{s:Qd}{K:Qn}

end
end Att

namespace L2
open PySem PySem.Spec PyProof.Rows

theorem ZZ:∀{vs:List Qa} {ns:List Int},IntsAre vs ns->Vals (ns.map V.int) vs
 | _,_,.nil=>.nil
 | _,_,.cons n t h=>.cons ⟨t,rfl⟩ (ZZ h)

noncomputable def Jiq(H:Hp):Prop:=∀b,H b=none\/∃o xs,H b=some (.frz o (.lst xs))

theorem JeZ{P:Qm}{w:QB}{K:Qn}{mg mb:Str->Option Qa}{CX:CXT}{k:Nat}{fa a:Qc}{fd:QC}{x:Str}{sp:Sp}{s₁:Qd}{vs:List Qa}{ns:List Int}
 (KX:K.In s₁.heap) (hns:s₁.heap.Ns mainGlobals mg) (hb:s₁.heap.Ns builtinsNs mb) (hbb:∀x:Str,x≠"__name__"->mb x=bootBuiltins x) (hlim:s₁.heap.NoLimit) (hg:s₁.gens=#[])
 (ha:s₁.heap.get? a=some { cls:=.type "list",data:=.seq vs.toArray }) (hi:IntsAre vs ns) (hl:ns.length<=Qk) (hr:Room k callerA)
 (F:∀base:QH,K.In base->base.Ns mainGlobals mg->FnOk P w K mg base CX k fa fd [x] sp) (hbind:∀(s:Qd) (u:Qa),BindsTo s fd ⟨[u],[]⟩ [(x,u)])
 (hsp:∀H:Hp,Jiq H->SqL K H a (ns.map V.int)->sp [.ref a] H (fun v _=>v=.bl true) fun _ _ _=>False)
 (hCX:∀H e s',CX [] H s₁ (fun _ _ _=>False) e s'->False) :
 codeAny (model P w) callerA (.call (.ref fa) ⟨[.ref a],[]⟩) (fun r s'=>r=.ok (.ret (.bool true))/\OldK s₁.heap s'.heap/\s'.os=s₁.os/\AllBare s'.gens) s₁:=by
 have rv:=ZZ hi
 have lenV:=hi.length
 -- from an abstract heap in which nothing but the script may be tracked
 have core:∀H:Hp,Jiq H->SqL K H a (ns.map V.int)->HOk P w H s₁.heap->(∀b,H b≠none->b=a)->(H a≠none->K.lookup a=none) ->
  codeAny (model P w) callerA (.call (.ref fa) ⟨[.ref a],[]⟩) (fun r s'=>r=.ok (.ret (.bool true))/\OldK s₁.heap s'.heap/\s'.os=s₁.os/\AllBare s'.gens) s₁:=by
  intro H hO hS hok hA hK;have base_of:∀{b:Qc} {o:Obj},s₁.heap.get? b=some o->H b=none->(Jaf s₁.heap H).get? b=some o:=fun e n=>JeP e n
  have noA:∀{b:Qc} {o:Obj} {es:Array DictEntry} {ep:Nat},s₁.heap.get? b=some o->o.data=.dict es ep->H b=none:=fun {b o es ep} e d=>by
   cases q:H b with
   | none=>rfl
   | some u =>
    have e':b=a:=hA b (by rw[q];simp);subst e';rw[ha] at e;cases e
    have d':Data.seq vs.toArray _=Data.dict es ep:=d;cases d'
  have nsK:∀{b:Qc} {m:Str->Option Qa},s₁.heap.Ns b m->(Jaf s₁.heap H).Ns b m:=fun {b m} ⟨o,es,ep,e,d,r⟩=>⟨o,es,ep,base_of e (noA e d),d,r⟩
  have hKb:K.In (Jaf s₁.heap H):=fun b o e=>base_of (KX b o e) (by
   cases q:H b with
   | none=>rfl
   | some u=>have e':b=a:=hA b (by rw[q];simp);subst e';rw[hK (by rw[q];simp)] at e;cases e)
  have hM:Mod K mg (Jaf s₁.heap H):=⟨hKb,nsK hns,⟨mb,nsK hb,hbb⟩,let ⟨mc,h1,h2⟩:=hlim;⟨mc,nsK h1,h2⟩⟩
  have e0:Env0 P w K mg (Jaf s₁.heap H) callerA [] s₁ H:=⟨rfl,hM,fun b o e=>JgY e,Nat.le_of_eq (JdD _ _),trivial,fun b hb=>absurd (show b∈([]:List Qc) from hb) (by simp),hok,.of_eq hg⟩
  refine GF ((F _ hKb (nsK hns)).run callerA [] s₁ H ⟨[.ref a],[]⟩ [.ref a] [.ref a] _ _ hr e0 (hbind s₁ (.ref a)) (.cons rfl .nil) (hsp H hO hS)) fun r s' h=>?_
  cases r with
  | error e=>exact(hCX H e s' h).elim
  | ok fl =>
   cases fl with
   | next=>exact QS h
   | brk=>exact QS h
   | cont=>exact QS h
   | ret u =>
    obtain⟨v,H',os,bare,un,hok',r',q⟩:=h;have q':v=.bl true:=q;subst q';obtain rfl:u=Value.bool true:=r';refine⟨rfl,OldK.of_keep fun b o e=>?_,os,bare⟩
    cases q:H b with
    | none=>exact un.keep b o e q (by intro z;exact absurd (show b∈([]:List Qc) from z) (by simp)) (by simp)
    | some u =>
     rcases hO b with z|⟨ob,xs,z⟩
     ·rw[q] at z;cases z
     ·have z2:=un.frzs b ob _ z;obtain⟨e1,_⟩:=hok b _ z;obtain⟨e2,_⟩:=hok' b _ z2;rw[e] at e1;cases e1;exact e2
 cases hk:K.lookup a with
 | some o =>
  -- the script is one of the module's own objects
  have e:=KX a o hk;rw[ha] at e;cases e;refine core (fun _=>none) (fun _=>.inl rfl) (.inr ⟨_,vs.toArray,_,hk,rfl,rfl,rfl,by rw[Qv,lenV];exact hl,by simpa using rv⟩) (fun b u z=>by have z':(none:Option HO)=some u:=z;cases z') (fun b z=>absurd rfl z) fun z=>absurd rfl z
 | none =>
  refine core (fun b=>if b=a then some (.frz { cls:=.type "list",data:=.seq vs.toArray } (.lst (ns.map V.int))) else none) (fun b=>?_) (.inl (.inr ⟨{ cls:=.type "list",data:=.seq vs.toArray },if_pos rfl⟩)) (fun b u z=>?_) (fun b z=>?_) fun _=>hk
  ·by_cases hb:b=a
   ·exact .inr ⟨_,_,if_pos hb⟩
   ·exact .inl (if_neg hb)
  ·by_cases hb:b=a
   ·have z':=(if_pos hb).symm.trans z;cases z';subst hb;exact⟨ha,by rw[QR];exact hl,vs,_,rv,ha⟩
   ·have z':=(if_neg hb).symm.trans z;cases z'
  ·by_cases hb:b=a
   ·exact hb
   ·exact absurd (if_neg hb) z
end L2

namespace L2
open PySem PySem.Spec PyProof.Rows

theorem JhY{l:PySem.W.OpenLaw}{n k:Nat}{q:Qm}{loose:List Str}{XP:(Str->Option Qa)->QH->Prop}{YP:QB->QH->Prop}{d:DefRec}{K:Params->Qn}{CX:QB->CXT}{sp:QB->Sp}{x:Str}
 (hn:l.most=some n) (hn2:n<=Qk) (hdf:d.params.defaults=[]) (hr:Room k callerA)
 (hY:∀(w:QB) (h:QH),YP w h->(K w.params).In h)
 (F:∀(w:QB) (mg:Str->Option Qa) (fa:Qc) (h:QH),(K w.params).In h->h.Ns mainGlobals mg->mg d.name=some (.ref fa) ->
  ∃fd:QC,(∀(s:Qd) (u:Qa),BindsTo s fd ⟨[u],[]⟩ [(x,u)]) ∧
   ∀base:QH,(K w.params).In base->base.Ns mainGlobals mg->FnOk l.prog w (K w.params) mg base (CX w) k fa fd [x] (sp w))
 (hsp:∀(w:QB) (H:Hp) (a:Qc) (ns:List Int),ns.length<=n->Jiq H->SqL (K w.params) H a (ns.map V.int)->sp w [.ref a] H (fun v _=>v=.bl true) fun _ _ _=>False)
 (hCX:∀(w:QB) (H:Hp) (s:Qd) (e:Qa) (s':Qd),CX w [] H s (fun _ _ _=>False) e s'->False) :
 PySem.W.WalkO q loose XP YP l.row.toRowW d [] (fun f vs=>PySem.call f vs):=by
 refine Att.attach_call hn hdf fun w s₀ s₁ mg mb fa o pm cd doc a vs ns G Y ho hd hcd hmg hobj hints hlen hg=>?_
 have KX:=hY w _ Y;obtain⟨fd,hb,hF⟩:=F w mg fa _ KX G.T.g hmg;exact JeZ KX G.T.g G.T.b G.T.builtins G.T.nolimit hg hobj hints (QQ hlen hn2) hr hF hb (fun H hO hS=>hsp w H a ns hlen hO hS) fun H e s'=>hCX w H s₁ e s'
end L2

namespace L2
open PySem PySem.Spec PyProof.Rows

noncomputable def JcH(s:Ga)(j:Nat):Ga:=match s with
 | .ClassDef _ _ _ body _ _ _ _ _ _ _=>body.getD j (.Pass ⟨0,0,0,0⟩)
 | _=>.Pass ⟨0,0,0,0⟩
noncomputable def Y5(s:Ga):Arguments:=match s with
 | .FunctionDef _ a _ _ _ _ _ _ _ _=>a
 | _=>{ posonlyargs:=[],args:=[],vararg:=none,kwonlyargs:=[],kw_defaults:=[],kwarg:=none,defaults:=[] }
noncomputable def Ys(s:Ga):List Ga:=match s with
 | .FunctionDef _ _ b _ _ _ _ _ _ _=>b
 | _=>[]
noncomputable def Jn(s:Ga):KN:=match s with
 | .FunctionDef _ _ _ _ _ _ sc _ _ _=>sc
 | _=>{ kind:=.function,names:=[],isGenerator:=false,isCoroutine:=false }

noncomputable abbrev CX0:CXT:=fun _ _ _ _ _ _=>False
noncomputable abbrev E0:XK:=fun _ _ _=>False
theorem JkY{X:Cx}:Ul CX0 X E0:=fun _ _ _ _ _ _ _ h=>h.elim

structure Fun (K:Qn) (x qual:Str) (st:Ga) (f:Qc) (fd:QC):Prop where
 ex:∃(oc:Qa) (od:Option Qc) (kV doc pm:Qa) (an:Option Qc) (cdv ct:Qa) (osl:Array (Option Qa)),
  fd=fnOf x qual (Y5 st) (Ys st) (Jn st) .none kV doc pm an cdv ct/\K.lookup f=some ⟨oc,od,.func fd,osl⟩/\codeIn K cdv qual=true
 kp:keepIn K (.ref f)=true
section
variable{P:Qm}{w:QB}{K:Qn}{mg:Str->Option Qa}{base:QH}
theorem Fun.ok{x qual:Str}{st:Ga}{f:Qc}{fd:QC}{N ps:List Str}{k:Nat}{sp:Sp}(F:Fun K x qual st f fd)(S:FnScope N ps (Jn st))(len:∀vs H Q E,sp vs H Q E->vs.length=ps.length)
 (hbody:∀(cdv:Qa) (A:Qu) (outer:List Env) (s:Qd) (H:Hp) (vs:List V) (Q:VK) (E:XK),Room k (A.deeper (envOfC qual (Jn st) s.heap.objs.size f cdv))->sp vs H Q E ->
  ∃t,PSs (WI CX0 P w K mg base N qual (Jn st) f cdv A outer s H E).nox (Ys st) t/\t { nx:=fun _ H'=>Q .non H',rt:=Q } (Yp N vs) H):FnOk P w K mg base CX0 (k+1) f fd ps sp:=by
 obtain⟨oc,od,kV,doc,pm,an,cdv,ct,osl,rfl,lk,hcd⟩:=F.ex;refine Jh6 lk hcd S len fun A outer s H vs Q E hr hsp=>?_
 obtain⟨t,h,q⟩:=hbody cdv A outer s H vs Q E hr hsp;exact⟨t,h.nox,q⟩
theorem Fun.binds{x qual:Str}{st:Ga}{f:Qc}{fd:QC}{ps:List Str}(F:Fun K x qual st f fd)
 (h:∀(kV doc pm:Qa) (an:Option Qc) (cdv ct:Qa) (us:List Qa),us.length=ps.length->bindArgs (fnOf x qual (Y5 st) (Ys st) (Jn st) .none kV doc pm an cdv ct) ⟨us,[]⟩=pure (ps.zip us)):Binds K fd ps []:=by
 obtain⟨oc,od,kV,doc,pm,an,cdv,ct,osl,rfl,lk,hcd⟩:=F.ex;exact .all (h kV doc pm an cdv ct)
theorem JeM{x qual:Str}{st:Ga}{f:Qc}{oc:Qa}{od an:Option Qc}{osl:Array (Option Qa)}{kV doc pm cdv ct:Qa}(l:K.lookup f=some ⟨oc,od,.func (fnOf x qual (Y5 st) (Ys st) (Jn st) .none kV doc pm an cdv ct),osl⟩)
 (c:codeIn K cdv qual=true) (k:keepIn K (.ref f)=true):Fun K x qual st f (fnOf x qual (Y5 st) (Ys st) (Jn st) .none kV doc pm an cdv ct):=⟨⟨oc,od,kV,doc,pm,an,cdv,ct,osl,rfl,l,c⟩,k⟩
end
theorem Jd4{n:Nat}(h:n<=1000):n<Qk:=Nat.lt_of_le_of_lt h (by decide)

section
variable{X:Cx}
theorem pv(i:Nat){x:Str}{pos:Pos}(hN:X.N[i]?=some x:=by rfl)(hv:Vis X.env.scope x:=by first | exact Or.inl rfl | exact Or.inr (.inl rfl) | exact Or.inr (.inr rfl))(hd:(x == ("__debug__":Str))=false:=by decide)
 (hcd:(x == ("__classdict__":Str))=false:=by decide):PE X (.Name x pos) (JaC i):=Za hN hv hd hcd
end

noncomputable def Same(H H':Hp):Prop:=∀b o,H b=some o->H' b=some o
theorem Same.refl(H:Hp):Same H H:=fun _ _ h=>h
theorem Same.trans{H H1 H2:Hp}(a:Same H H1)(b:Same H1 H2):Same H H2:=fun c o h=>b c o (a c o h)
theorem Same.free{H H':Hp}(e:Same H H'){l:Qc}(h:H' l=Option.none):H l=Option.none:=by
 cases q:H l with
 | none=>rfl
 | some o=>rw[e l o q] at h;cases h
theorem Same.seq{K:Qn}{H H':Hp}{a:Qc}{xs:List V}(e:Same H H')(h:SqL K H a xs):SqL K H' a xs:=by
 rcases h with (h|⟨o,h⟩)|h
 ·exact .inl (.inl (e _ _ h))
 ·exact .inl (.inr ⟨o,e _ _ h⟩)
 ·exact .inr h

end L2

namespace L2
open PySem PySem.Spec PyProof.Rows

section
variable{κ:Type}[DecidableEq κ]
noncomputable def Wq(kvs:List (κ×V))(k:κ):Option V:=(kvs.find? fun kv=>decide (kv.1=k)).map (·.2)
noncomputable def Jbj(kvs:List (κ×V))(k:κ)(v:V):List (κ×V) :=
 if (kvs.any fun kv=>decide (kv.1=k))=true then kvs.map (fun kv=>if kv.1=k then(kv.1,v) else kv) else kvs++[(k,v)]
noncomputable def Jh5(kvs:List (κ×V))(k:κ):List (κ×V):=kvs.filter fun kv=>decide (kv.1≠k)

theorem Zl{p:κ×V}{r:List (κ×V)}{k:κ}(e:p.1=k):Wq (p::r) k=some p.2:=by simp[Wq,GM,e]
theorem Zk{p:κ×V}{r:List (κ×V)}{k:κ}(e:¬p.1=k):Wq (p::r) k=Wq r k:=by simp[Wq,GM,e]
theorem JbD(k:κ):∀kvs:List (κ×V),(kvs.any fun kv=>decide (kv.1=k))=(Wq kvs k).isSome
 | []=>rfl
 | p::r=>by
  rw[KA]
  by_cases e:p.1=k
  ·simp only[Zl e,decide_eq_true e,Bool.true_or,Option.isSome_some]
  ·rw[Zk e,decide_eq_false e,KB];exact JbD k r
theorem RelO.isSome_eq{o:Option V}{u:Option Qa}(r:RelO o u):o.isSome=u.isSome:=by
 cases o with
 | none=>cases u with
  | none=>rfl
  | some _=>exact(show False from r).elim
 | some _=>cases u with
  | none=>exact(show False from r).elim
  | some _=>rfl
theorem RelO.getD{o:Option V}{u:Option Qa}{d:V}{d':Qa}(r:RelO o u)(rd:RelV d d'):RelV (o.getD d) (u.getD d'):=by
 cases o with
 | none=>cases u with
  | none=>exact rd
  | some _=>exact(show False from r).elim
 | some _=>cases u with
  | none=>exact(show False from r).elim
  | some _=>exact r

theorem KV.val{kvs:List (κ×V)}{vs:List (κ×Qa)}(r:KV kvs vs)(k:κ):RelO (Wq kvs k) (valueAt vs k):=by
 unfold KV at r
 induction r with
 | nil=>exact True.intro
 | @cons p q ps qs h t ih =>
  obtain⟨h1,h2⟩:=h
  by_cases e:p.1=k
  ·have e':q.1=k:=h1.symm.trans e
   have b:valueAt (q::qs) k=some q.2:=by simp[valueAt,GM,e']
   rw[Zl e,b];exact h2
  ·have e':¬q.1=k:=fun z=>e (h1.trans z)
   have b:valueAt (q::qs) k=valueAt qs k:=by simp[valueAt,GM,e']
   rw[Zk e,b];exact ih
theorem KV.any{kvs:List (κ×V)}{vs:List (κ×Qa)}(r:KV kvs vs)(k:κ):(kvs.any fun kv=>decide (kv.1=k))=vs.any fun kv=>decide (kv.1=k):=by
 unfold KV at r
 induction r with
 | nil=>rfl
 | cons h t ih=>rw[KA,KA,ih,h.1]
theorem KV.repl{kvs:List (κ×V)}{vs:List (κ×Qa)}(r:KV kvs vs)(k:κ){y:V}{u:Qa}(ry:RelV y u) :
 KV (kvs.map fun kv=>if kv.1=k then(kv.1,y) else kv) (vs.map fun kv=>if kv.1=k then(kv.1,u) else kv):=by
 unfold KV at r ⊢
 induction r with
 | nil=>exact .nil
 | @cons p q ps qs h t ih =>
  rw[Qt,Qt];refine .cons ?_ ih;obtain⟨h1,h2⟩:=h
  by_cases e:p.1=k
  ·rw[if_pos e,if_pos (h1.symm.trans e)];exact⟨h1,ry⟩
  ·rw[if_neg e,if_neg (fun z=>e (h1.trans z))];exact⟨h1,h2⟩
theorem KV.put{kvs:List (κ×V)}{vs:List (κ×Qa)}(r:KV kvs vs)(k:κ){y:V}{u:Qa}(ry:RelV y u):KV (Jbj kvs k y) (stored vs k u):=by
 unfold Jbj stored;rw[r.any k]
 by_cases e:(vs.any fun kv=>decide (kv.1=k))=true
 ·rw[if_pos e,if_pos e];exact r.repl k ry
 ·rw[if_neg e,if_neg e];exact Paired.snoc r ⟨rfl,ry⟩
theorem KV.drop{kvs:List (κ×V)}{vs:List (κ×Qa)}(r:KV kvs vs)(k:κ):KV (Jh5 kvs k) (without vs k):=by
 unfold KV at r ⊢;unfold Jh5 without
 induction r with
 | nil=>exact .nil
 | @cons p q ps qs h t ih =>
  obtain⟨h1,h2⟩:=h;rw[K4,K4]
  by_cases e:p.1=k
  ·have a:¬decide (p.1≠k)=true:=by simp[e]
   have b:¬decide (q.1≠k)=true:=by simp[h1.symm.trans e]
   rw[if_neg a,if_neg b];exact ih
  ·have e':¬q.1=k:=fun z=>e (h1.trans z)
   have a:decide (p.1≠k)=true:=by simp[e]
   have b:decide (q.1≠k)=true:=by simp[e']
   rw[if_pos a,if_pos b];exact .cons ⟨h1,h2⟩ ih
theorem KV.keys{kvs:List (κ×V)}{vs:List (κ×Qa)}(r:KV kvs vs):kvs.map (·.1)=vs.map (·.1):=by
 unfold KV at r
 induction r with
 | nil=>rfl
 | cons h t ih=>rw[Qt,Qt,ih,h.1]
theorem KV.length{kvs:List (κ×V)}{vs:List (κ×Qa)}(r:KV kvs vs):kvs.length=vs.length:=LI r
end

noncomputable abbrev KT(H:Hp):List (List Key×V)->List (List Key×Qc×Qa)->Prop:=Paired fun p q=>p.1=q.1/\H q.2.1=some (.tup (p.1.map kV))/\RelV p.2 q.2.2
theorem KT.val{H:Hp}{kvs:List (List Key×V)}{xs:List (List Key×Qc×Qa)}(r:KT H kvs xs)(k:List Key):RelO (Wq kvs k) ((atKey xs k).map (·.2)):=by
 induction r with
 | nil=>exact True.intro
 | @cons p q ps qs h t ih =>
  obtain⟨h1,_,h2⟩:=h
  by_cases e:p.1=k
  ·have e':q.1=k:=h1.symm.trans e
   have b:atKey (q::qs) k=some q.2:=by simp[atKey,GM,e']
   rw[Zl e,b];exact h2
  ·have e':¬q.1=k:=fun z=>e (h1.trans z)
   have b:atKey (q::qs) k=atKey qs k:=by simp[atKey,GM,e']
   rw[Zk e,b];exact ih
theorem KT.repl{H:Hp}{kvs:List (List Key×V)}{xs:List (List Key×Qc×Qa)}(r:KT H kvs xs)(k:List Key){y:V}{u:Qa}(ry:RelV y u) :
 KT H (kvs.map fun kv=>if kv.1=k then(kv.1,y) else kv) (xs.map (putAt k u)):=by
 induction r with
 | nil=>exact .nil
 | @cons p q ps qs h t ih =>
  rw[Qt,Qt];refine .cons ?_ ih;obtain⟨h1,h2,h3⟩:=h;unfold putAt
  by_cases e:p.1=k
  ·rw[if_pos e,if_pos (h1.symm.trans e)];exact⟨h1,h2,ry⟩
  ·rw[if_neg e,if_neg (fun z=>e (h1.trans z))];exact⟨h1,h2,h3⟩
theorem KT.put{H:Hp}{kvs:List (List Key×V)}{xs:List (List Key×Qc×Qa)}(r:KT H kvs xs)(k:List Key){b:Qc}{y:V}{u:Qa}(hb:H b=some (.tup (k.map kV)))(ry:RelV y u) :
 KT H (Jbj kvs k y) (storedH xs k b u):=by
 have e:(kvs.any fun kv=>decide (kv.1=k))=(atKey xs k).isSome:=by rw[JbD,(r.val k).isSome_eq,Option.isSome_map]
 unfold Jbj storedH;rw[e]
 by_cases q:(atKey xs k).isSome=true
 ·rw[if_pos q,if_pos q];exact r.repl k ry
 ·rw[if_neg q,if_neg q];exact Paired.snoc r ⟨rfl,hb,ry⟩
theorem KT.keeps{H H':Hp}{kvs:List (List Key×V)}{xs:List (List Key×Qc×Qa)}(r:KT H kvs xs)(ht:∀b ys,H b=some (.tup ys)->H' b=some (.tup ys)):KT H' kvs xs :=
 Paired.mapP r fun _ _ z=>⟨z.1,ht _ _ z.2.1,z.2.2⟩

section
variable{P:Qm}{w:QB}{H:Hp}{h:QH}{a:Qc}
end

noncomputable def DGet(H:Hp)(a:Qc)(y:V)(r:Option V):Prop :=
 (∃kvs k,Rd H a (.dK kvs)/\y=kV k/\r=Wq kvs k)\/∃kvs k b,Rd H a (.dT kvs)/\y=.ref b/\H b=some (.tup (k.map kV))/\r=Wq kvs k
noncomputable def DPut(H:Hp)(a:Qc)(y v:V)(H':Hp):Prop :=
 (∃kvs k,H a=some (.dK kvs)/\y=kV k/\kvs.length<Qk/\H'=upd H a (.dK (Jbj kvs k v))) ∨
 ∃kvs k b,H a=some (.dT kvs)/\y=.ref b/\H b=some (.tup (k.map kV))/\kvs.length<Qk/\H'=upd H a (.dT (Jbj kvs k v))
theorem DGet.k{H:Hp}{a:Qc}{kvs:List (Key×V)}{k:Key}(e:H a=some (.dK kvs)):DGet H a (kV k) (Wq kvs k):=.inl ⟨kvs,k,.inl e,rfl,rfl⟩
theorem DGet.t{H:Hp}{a b:Qc}{kvs:List (List Key×V)}{k:List Key}(e:H a=some (.dT kvs))(eb:H b=some (.tup (k.map kV))):DGet H a (.ref b) (Wq kvs k):=.inr ⟨kvs,k,b,.inl e,rfl,eb,rfl⟩
theorem DPut.k{H:Hp}{a:Qc}{kvs:List (Key×V)}{k:Key}{v:V}(e:H a=some (.dK kvs))(hl:kvs.length<Qk):DPut H a (kV k) v (upd H a (.dK (Jbj kvs k v))):=.inl ⟨kvs,k,e,rfl,hl,rfl⟩
theorem DPut.t{H:Hp}{a b:Qc}{kvs:List (List Key×V)}{k:List Key}{v:V}(e:H a=some (.dT kvs))(eb:H b=some (.tup (k.map kV)))(hl:kvs.length<Qk) :
 DPut H a (.ref b) v (upd H a (.dT (Jbj kvs k v))):=.inr ⟨kvs,k,b,e,rfl,eb,hl,rfl⟩

section
variable{X:Cx}{pins:List (Qc×Obj)}{σ:St}{H:Hp}{s:Qd}{a:Qc}{y v:V}{u r:Qa}{o:Option V}{A:Qu}{E:Qa->Qd->Prop}

theorem Inv.big(I:Inv X pins σ H s):sysModules<s.heap.objs.size:=by have h:mainGlobals<s.heap.objs.size:=(I.mod.glob.keeps I.bk).lt;exact Lc (by decide) h

end

section
variable{X:Cx}{pins:List (Qc×Obj)}{σ:St}{H:Hp}{s:Qd}{a:Qc}{kvs:List (Key×V)}{k:Key}{u:Qa}{A:Qu}{E:Qa->Qd->Prop}
end

section
variable{X:Cx}{o i e value:QO}{pos pos' tpos:Pos}{td ty tv:TE}
end

section
variable{X:Cx}{pos:Pos}
end

structure M1 (X:Cx) (o:QO) (m:Str) (apos:Pos) (e:QO) (cpos:Pos):Prop where
 base:attributeBase o m X.env (eval o X.env)=eval o X.env
 few:((backTo cpos (starEach [e] X.env)).all (fun x=>!x.1) && (backToKw cpos (keywordEach [] X.env)).all (fun x=>x.1.isSome)
  && decide (([e]:List QO).length+([]:List KL).length+(if ([]:List KL).isEmpty then 0 else 1)<30))=true
 line:(apos.endLine == cpos.line)=true
 trees:backTo cpos (starEach [e] X.env)=[(false,eval e X.env)]
structure M2 (X:Cx) (o:QO) (m:Str) (apos:Pos) (e f:QO) (cpos:Pos):Prop where
 base:attributeBase o m X.env (eval o X.env)=eval o X.env
 few:((backTo cpos (starEach [e,f] X.env)).all (fun x=>!x.1) && (backToKw cpos (keywordEach [] X.env)).all (fun x=>x.1.isSome)
  && decide (([e,f]:List QO).length+([]:List KL).length+(if ([]:List KL).isEmpty then 0 else 1)<30))=true
 line:(apos.endLine == cpos.line)=true
 trees:backTo cpos (starEach [e,f] X.env)=[(false,eval e X.env),(false,eval f X.env)]

section
variable{X:Cx}{pins:List (Qc×Obj)}{σ:St}{H:Hp}{s:Qd}{a:Qc}{y d:V}{u r:Qa}{o:Option V}{A:Qu}{E:Qa->Qd->Prop}
end

section
variable{X:Cx}{o e f:QO}{apos cpos:Pos}{td ty tx:TE}
end

section
variable{X:Cx}{pins:List (Qc×Obj)}{σ:St}{H:Hp}{s:Qd}{a:Qc}{kvs:List (Key×V)}{A:Qu}{E:Qa->Qd->Prop}
end

section
variable{X:Cx}{pins:List (Qc×Obj)}{σ:St}{H:Hp}{s:Qd}{a:Qc}{y:V}{u:Qa}{A:Qu}{E:Qa->Qd->Prop}
end
end L2
namespace L2
open PySem PySem.Spec PyProof.Rows

noncomputable def Jf3(X:Cx)(ifs:List QO)(t:TT):Prop :=
 ∀(pins:List (Qc×Obj)) (s:Qd) (σ:St) (H:Hp) (Q:Bool->Hp->Prop),Inv X pins σ H s->t σ H Q ->
  wpAny (model X.prog X.w) X.A (forIn ifs true fun c r=>if r=true then do let ok <- isTrue c X.env (eval c X.env);pure (ForInStep.yield ok) else pure (ForInStep.yield r)) (TP X pins σ Q) X.xe s
noncomputable def Jkm:TT:=fun _ H Q=>Q true H
theorem Zc{X:Cx}:Jf3 X [] Jkm:=fun _ _ _ H _ I h=>wpAny_tests_nil ⟨H,I,h⟩
theorem Jfh{X:Cx}{c:QO}{t:TT}(h:PT X c t):Jf3 X [c] t:=fun pins s σ H Q I q=>wpAny_tests_one (h pins s σ H Q I q)

noncomputable def blk(X:Cx)(sc:KN)(cl:List (Str×Qc))(N':List Str)(C:Qc)(s:Qd)(H:Hp)(fp:List Qc):Cx where
 prog:=X.prog
 w:=X.w
 K:=X.K
 mg:=X.mg
 base:=X.base
 A:=X.A
 N:=N'
 s₀:=s
 H₀:=H
 env:=compEnvC sc cl C X.env
 outer:=X.stack
 stack:=X.stack
 ex:=fp
 fn:=fun _=>false
 calm:=X.calm
 pn:=[]
 xe:=fun _ _=>False

noncomputable def WU(imp:List (Option Nat))(σ:St):St:=imp.map fun o=>match o with
 | none=>none
 | some k=>(σ[k]?).join

structure Blk (X:Cx) (sc:KN) (cl:List (Str×Qc)) (N':List Str) (imp:List (Option Nat)):Prop where
 clos:closureFor sc X.env=pure cl
 kind:sc.kind=.function
 nocell:∀y∈sc.names,y.2≠.cell
 names:∀y∈sc.names,y.2=.local->sc.names.lookup y.1=some .local
 sub:∀p∈cl,X.env.cells.lookup p.1=some p.2
 has:∀y∈(relabel sc X.env).names,(y.2=.cell\/y.2=.free)->(cl.lookup y.1).isSome=true
 len:imp.length=N'.length
 im:∀p∈imp.zip N',∀k,p.1=some k->X.N[k]?=some p.2/\(X.env.scope.names.lookup p.2=some .cell\/X.env.scope.names.lookup p.2=some .free)/\((relabel sc X.env).names.lookup p.2=some .cell\/(relabel sc X.env).names.lookup p.2=some .free)

noncomputable def JfR(wi:TI)(g:TG)(tt:TT)(te:TE)(imp:List (Option Nat)):TE:=fun σ H Q=>wi σ H fun J H1=>∃W:Nat->Nat->List V->St->Hp->Prop,(∃m,W 0 m [] (WU imp σ) H1)/\∀i m ys σ' H',W i m ys σ' H' ->
 (J.stop i H'/\ys.length<=Qk/\∀D,H' D=none->Q (.ref D) (upd H' D (.lst ys))) ∨
 (J.go i H'/\ys.length<Qk/\∃N:List V->St->Hp->Prop,(∀ys' σ2 H2,N ys' σ2 H2->∃m',m'<m/\W (i+1) m' ys' σ2 H2) ∧
  ∀x H2,J.yld i H' x H2->g x σ' H2 fun σ2 H3=>tt σ2 H3 fun b H4=>if b=true then te σ2 H4 fun y H5=>N (ys++[y]) σ2 H5 else N ys σ2 H4)

section
variable{P:Qm}{w:QB}{H:Hp}{h h':QH}
theorem HOk.sameBut{C:Qc}(x:HOk P w H h)(hC:H C=none)(k:∀b o,b≠C->h.get? b=some o->h'.get? b=some o):HOk P w H h':=fun a o e =>
 (x a o e).stay (fun b u hb q=>k b u (by
  rintro rfl;rcases hb with z|z
  ·rw[<- z,hC] at e;cases e
  ·rw[hC] at z;cases z) q) (fun _ q=>q) fun _ _ q=>q
theorem HOk.track{D:Qc}{o:HO}(x:HOk P w H h)(hD:H D=none)(new:ObjOk P w (upd H D o) h D o):HOk P w (upd H D o) h:=fun b u e=>by
 by_cases hb:b=D
 ·subst hb;rw[Jx] at e;cases e;exact new
 ·rw[Jl hb] at e;exact(x b u e).stay (fun c v _ q=>q) (fun c q=>by rw[Jl (Jt q hD)];exact q) fun c xs q=>by rw[Jl (Jt q hD)];exact q
end

theorem Us{α:Type}{x:Str}{c:α}:∀{l:List (Str×α)},l.lookup x=some c->(x,c)∈l:=fun h=>Gn h

section
variable{X:Cx}{tg iter elt:QO}{ifs:List QO}{sc:KN}{cl:List (Str×Qc)}{N':List Str}{imp:List (Option Nat)}{pos:Pos}{wi:TI}{g:TG}{tt:TT}{te:TE}

theorem Blk.subL(B:Blk X sc cl N' imp):∀x c,cl.lookup x=some c->X.env.cells.lookup x=some c:=fun x c e=>B.sub (x,c) (Us e)

theorem Jga{pins:List (Qc×Obj)}{σ:St}{H:Hp}{s:Qd}{fp:List Qc}{h₁:QH}{C:Qc}(B:Blk X sc cl N' imp)(I:Inv X pins σ H s)(hf:∀b∈fp,FpOk X pins H b)(hfo:∀b∈fp,∃o,s.heap.get? b=some o)
 (hC:s.heap.objs.size<C) (old:∀b o,s.heap.get? b=some o->h₁.get? b=some o) (ns:h₁.Ns C fun _=>none) :
 Inv (blk X sc cl N' C s H fp) [] (WU imp σ) H { s with heap:=h₁,toks:=s.toks }:=by
 have hlt:∀b∈fp,b<s.heap.objs.size:=fun b hb=>let ⟨_,e⟩:=hfo b hb;Qj e
 have clt:∀x c,X.env.cells.lookup x=some c->c<s.heap.objs.size:=fun x c e=>let ⟨_,q⟩:=I.cell x c e;q.lt
 have ok:(blk X sc cl N' C s H fp).Ok:={
  mod:=I.ok.mod
  kind:=B.kind
  glob:=I.ok.glob
  blt:=I.ok.blt
  above:=Kn hC
  inj:=fun x y c h1 h2=>I.ok.inj x y c (B.subL x c h1) (B.subL y c h2)
  has:=fun x hx=>by
   have hx':(relabel sc X.env).names.lookup x=some .cell\/(relabel sc X.env).names.lookup x=some .free:=hx
   have:(cl.lookup x).isSome=true:=by
    rcases hx' with z|z
    ·exact B.has (x,.cell) (Us z) (.inl rfl)
    ·exact B.has (x,.free) (Us z) (.inr rfl)
   exact G9.mp this
  cab:=fun x c z=>nomatch z
  hd:=I.ok.hd
  frames:=I.ok.frames
  stk:=.inl rfl
  exf:=fun b hb=>⟨QI (Lc (hlt b hb) hC),fun x c e=>(hf b hb).2.2.2.2.1 x c (B.subL x c e)⟩
  bs:=I.bs
  bsz:=QQ I.ok.bsz I.sz
  noex:=fun b o e hb=>by
   rcases(hf b hb).2.2.2.1 with z|z
   ·exact I.ok.noex b o e z
   ·exact absurd (QD (Qj e) (QQ I.ok.bsz z)) (Q7 _)
  exfs:=fun b hb z=>by
   rcases Qq.mp (I.stkSub b z) with q|q
   ·exact(hf b hb).2.1 q
   ·exact(hf b hb).2.2.1 q
  funs:=I.stack
  frf:=I.stkFree }
 refine⟨ok,rfl,I.bare,Un.kept old,⟨_,ns,fun i x v h1 h2 h3=>?_⟩,fun x c e=>?_,I.hok.fresh (Kn hC),fun x c e=>I.freeC x c (B.subL x c e),fun p hp=>absurd (show p∈([]:List (Qc×Obj)) from hp) (by simp),I.hok.kept old,?_⟩
 ·have h1':N'[i]?=some x:=h1
  have h2':(imp.map fun o=>match o with|none=>none|some k=>(σ[k]?).join)[i]?=some (some v):=h2;rw[Qw] at h2'
  cases e:imp[i]? with
  | none=>rw[e] at h2';cases h2'
  | some q =>
   rw[e] at h2'
   cases q with
   | none=>cases h2'
   | some k =>
    have h2'':(σ[k]?).join=some v:=QM h2'
    have hk:σ[k]?=some (some v):=by
     cases e':σ[k]? with
     | none=>rw[e'] at h2'';cases h2''
     | some z=>rw[e'] at h2'';cases z with
      | none=>cases h2''
      | some z=>cases h2'';rfl
    have hm:(some k,x)∈imp.zip N':=by refine QY (i:=i) ?_;rw[List.getElem?_zip_eq_some];exact⟨e,h1'⟩
    obtain⟨b1,b2,b3⟩:=B.im _ hm k rfl;obtain⟨m,hn,hl⟩:=I.loc;obtain⟨u,r,l⟩:=hl k x v b1 hk (b2.elim (fun z=>.inr (.inl z)) fun z=>.inr (.inr z));refine⟨u,r,.inr ⟨b3,?_⟩⟩
    have hc:∃c,X.env.cells.lookup x=some c/\s.heap.IsCell c (some u):=by
     rcases l with ⟨z,_⟩|⟨_,z⟩
     ·have z':X.env.scope.names.lookup x=some .local:=z;rcases b2 with y|y <;> rw[y] at z' <;> cases z'
     ·exact z
    obtain⟨c,hc,oc,ho,hd⟩:=hc;obtain⟨c',hc'⟩:=ok.has x b3;have e2:=B.subL x c' hc';rw[hc] at e2;cases e2;exact⟨c,hc',oc,old c oc ho,hd⟩
 ·obtain⟨v,o,ho,hd⟩:=I.cell x c (B.subL x c e);exact⟨v,o,old c o ho,hd⟩
 ·show(imp.map _).length=N'.length;rw[QR];exact B.len

theorem Jf9{pins pn:List (Qc×Obj)}{σ σ':St}{H2 H':Hp}{s2 s4:Qd}{fp:List Qc}{C D:Qc}{Cs:Qc}{ys:List V}{its:List Qa}{k:Nat}{h':QH}(I2:Inv X pins σ H2 s2)(f2:∀b∈fp,FpOk X pins H2 b)
 (I5:Inv (blk X sc cl N' C s2 H2 fp) pn σ' H' s4) (hC:s2.heap.objs.size<C) (hD:H' D=none) (hDs:s2.heap.objs.size<=D) (hDC:D≠C) (eD:s4.heap.get? D=some { cls:=.type "list",data:=.seq its.toArray k })
 (rv:Vals ys its) (hz:ys.length<=Qk) (hsb:Q5 C s4.heap h'):Inv X pins σ (upd H' D (.lst ys)) { s4 with heap:=h' }:=by
 have U:Un (frs X.stack) fp H2 H' s2.heap s4.heap:=I5.base
 have kk:∀b o,b≠C->s4.heap.get? b=some o->h'.get? b=some o:=hsb.extBut
 have hC':H' C=none:=I5.free
 have ok1:HOk X.prog X.w H' h':=HOk.sameBut (C:=C) I5.hok hC' kk
 have ok2:HOk X.prog X.w (upd H' D (.lst ys)) h':=ok1.track hD ⟨hz,its,k,rv,kk _ _ hDC eD⟩
 have lt:∀b o,s2.heap.get? b=some o->b≠C/\b≠D:=fun b o e=>⟨QI (Lc (Qj e) hC),QI (QD (Qj e) hDs)⟩
 refine I2.call' (s':={ s4 with heap:=h' }) (ch:=fp) I5.os ⟨fun b o e n hb hx=>kk b o (lt b o e).1 (U.keep b o e n hb hx),fun b o e n hb hx=>?_,fun b o e n hx=>?_,fun b o e hx=>?_,fun b xs e=>?_,fun b o u e=>?_,fun b ps e=>?_⟩ ok2 I5.bare
  fun b hb=>⟨(f2 b hb).2.2.2.1,(f2 b hb).2.1,(f2 b hb).2.2.2.2.1,(f2 b hb).2.2.2.2.2⟩
 ·obtain⟨sl,q⟩:=U.slot b o e n hb hx;exact⟨sl,kk b _ (lt b o e).1 q⟩
 ·rw[Jl (lt b o e).2];exact U.free b o e n hx
 ·obtain⟨o',q⟩:=U.there b o e hx;exact⟨o',kk b o' (lt b o e).1 q⟩
 ·have q:=U.tups b xs e;rw[Jl (Jt q hD)];exact q
 ·have q:=U.frzs b o u e;rw[Jl (Jt q hD)];exact q
 ·obtain⟨more,q⟩:=U.tbls b ps e;exact⟨more,by rw[Jl (Jt q hD)];exact q⟩

noncomputable def JkA(g:TG)(tt:TT)(te:TE)(imp:List (Option Nat))(σ:St)(Q:VK)(J:It)(H1:Hp):Prop:=∃W:Nat->Nat->List V->St->Hp->Prop,(∃m,W 0 m [] (WU imp σ) H1)/\∀i m ys σ' H',W i m ys σ' H' ->
 (J.stop i H'/\ys.length<=Qk/\∀D,H' D=none->Q (.ref D) (upd H' D (.lst ys))) ∨
 (J.go i H'/\ys.length<Qk/\∃N:List V->St->Hp->Prop,(∀ys' σ2 H2,N ys' σ2 H2->∃m',m'<m/\W (i+1) m' ys' σ2 H2) ∧
  ∀x H2,J.yld i H' x H2->g x σ' H2 fun σ2 H3=>tt σ2 H3 fun b H4=>if b=true then te σ2 H4 fun y H5=>N (ys++[y]) σ2 H5 else N ys σ2 H4)
theorem Jdv{pins:List (Qc×Obj)}{σ:St}{Q:VK}{itv:Qa}{s2:Qd}{RR:Qa->Qc->Lu->Qd->Prop}{E:Qa->Qd->Prop}(hc:X.calm=true)(B:Blk X sc cl N' imp)
 (hg:∀C s H fp,PG (blk X sc cl N' C s H fp) tg g) (ht:∀C s H fp,Jf3 (blk X sc cl N' C s H fp) ifs tt) (he:∀C s H fp,PE (blk X sc cl N' C s H fp) elt te)
 (h2:PIE X pins σ tg (JkA g tt te imp σ Q) itv s2)
 (fin:∀(C D:Qc) (s4:Qd) (H':Hp) (ys:List V) (m:Str->Option Qa),s2.heap.objs.size<C->s4.heap.Ns C m->H' C=none->(∀h',Q5 C s4.heap h'->Inv X pins σ H' { s4 with heap:=h' })->Q (.ref D) H'->RR (.ref D) C (.ok .next) s4) :
 wpAny (model X.prog X.w) X.A (newList []) (fun acc s₃=>wpAny (model X.prog X.w) X.A (newFunctionEnv sc X.env.globals cl [] X.env.qual none .none (some X.env)) (fun cenv s₄=>codeAny (model X.prog X.w) X.A (.compStart (.ListComp elt [⟨tg,iter,ifs,0⟩] sc pos) 0 itv acc { cenv with scope:=relabel sc X.env }) (RR acc cenv.locals) s₄) E s₃) E s2:=by
 obtain⟨it,fp,tn,J,H2,e,I2,T,st2,f2,W,⟨m0,w0⟩,turn⟩:=h2;subst e;refine Kq (wpAny_newFunctionEnv B.nocell (by intro y hy;simp at hy) (fun h₁ hns₁ hsb₁=>?_) B.kind);dsimp only at hns₁ hsb₁ ⊢
 generalize hG:s2.heap.push { cls:=.type "list",dict:=none,data:=.seq ([]:List Qa).toArray }=G at hns₁ hsb₁ ⊢
 have hCs:G.objs.size=s2.heap.objs.size+1:=by rw[<- hG,GB]
 have hC:s2.heap.objs.size<G.objs.size:=by rw[hCs];exact G2 _
 have below:∀b,b<s2.heap.objs.size->b≠G.objs.size:=fun b hb=>QI (Lc hb hC)
 have old:∀b o,s2.heap.get? b=some o->h₁.get? b=some o:=fun b o e=>hsb₁.extBut b o (below b (Qj e)) (Qf _ (hG▸Qf _ e))
 have hD1:h₁.get? s2.heap.objs.size=some { cls:=.type "list",data:=.seq ([]:List Qa).toArray }:=hsb₁.extBut _ _ (QI hC) (Qf _ (hG▸QA _ rfl))
 have fpo:∀b∈fp,∃o,s2.heap.get? b=some o:=fun b hb=>let ⟨o,e,_⟩:=T.obj 0 _ st2 b hb;⟨o,e⟩
 have I4:=Jga B I2 f2 fpo hC old (show h₁.Ns G.objs.size fun _=>none from hns₁)
 -- the records of the block: the list that grows,the iterator's
 have stD:∀{H':Hp} {pn:List (Qc×Obj)},(∀b∈s2.heap.objs.size::fp,H' b=none)->(∀p∈pn,p.1∉s2.heap.objs.size::fp)->∀b∈s2.heap.objs.size::fp,FpOk (blk X sc cl N' G.objs.size s2 H2 fp) pn H' b:=fun {H' pn} hn hp b hb=>by
  have hp':∀p∈([]++pn:List (Qc×Obj)),p.1≠b:=fun p z q=>hp p (by simpa using z) (q▸hb)
  rcases Qq.mp hb with z|z
  ·subst z;refine⟨hn _ hb,QI hC,fun q=>?_,.inr (Qr _),fun x c e q=>?_,hp'⟩
   ·rcases Qq.mp (I2.stkSub _ q) with q|q
    ·exact absurd I2.lt (by rw[<- q];exact Q7 _)
    ·exact I2.nofs (Qr _) q
   ·obtain⟨v,qc⟩:=I2.cell x c (B.subL x c e);exact absurd qc.lt (by rw[q];exact Q7 _)
  ·refine⟨hn _ hb,below b (let ⟨_,e⟩:=fpo b z;Qj e),fun q=>?_,.inl z,fun x c e=>(f2 b z).2.2.2.2.1 x c (B.subL x c e),hp'⟩;rcases Qq.mp (I2.stkSub b q) with q|q
   ·exact(f2 b z).2.1 q
   ·exact(f2 b z).2.2.1 q
 have nDf:s2.heap.objs.size∉fp:=fun z=>let ⟨_,e⟩:=fpo _ z;absurd (Qj e) (Q7 _)
 have loop:codeAny (model X.prog X.w) X.A (.compLoop (.ListComp elt [⟨tg,iter,ifs,0⟩] sc pos) 0 (.ref it) (.ref s2.heap.objs.size) (compEnvC sc cl G.objs.size X.env))
  (RR (.ref s2.heap.objs.size) G.objs.size) { s2 with heap:=h₁,toks:=s2.toks }:=by
  refine codeAny_loop rfl (fun n s'=>∃i ys its k σ' H',Inv (blk X sc cl N' G.objs.size s2 H2 fp) [] σ' H' s'/\tn i s'.heap/\(∀b∈s2.heap.objs.size::fp,H' b=none)/\Vals ys its/\s'.heap.get? s2.heap.objs.size=some { cls:=.type "list",data:=.seq its.toArray k }/\W i n ys σ' H') ?_ m0
   ⟨0,[],[],0,_,H2,I4,T.keep _ _ _ st2 (fun b _ o e=>old b o e),fun b hb=>?_,.nil,hD1,w0⟩
  ·rintro n s3 ⟨i,ys,its,k,σ3,H3,I3,st3,fr3,rv3,hD3,w3⟩;have fr3':∀b∈fp,FpOk (blk X sc cl N' G.objs.size s2 H2 fp) [] H3 b:=fun b hb=>stD (pn:=[]) fr3 (fun p z=>nomatch z) b (Qo _ hb)
   show wpAny _ X.A ((compTurn (.ListComp elt [⟨tg,iter,ifs,0⟩] sc pos) 0 (.ref it) (.ref s2.heap.objs.size) (compEnvC sc cl G.objs.size X.env)).onRaise (fun x=>do noteFrame x (compEnvC sc cl G.objs.size X.env);theTreesLotGoes x)) _ _ s3;refine wpAny_noted (wpAny_noRaise ?_);rw[compTurn_list];refine Qe (G8 (Qe ?_))
   have fD:=stD (pn:=[]) fr3 (fun p z=>nomatch z) s2.heap.objs.size Qz
   have hDH:H3 s2.heap.objs.size=none:=fr3 _ Qz
   have I3p:Inv (blk X sc cl N' G.objs.size s2 H2 fp) [(s2.heap.objs.size,{ cls:=.type "list",data:=.seq its.toArray k })] σ3 H3 s3:=I3.pins_of fun p hp=>by
    have e:p=(s2.heap.objs.size,{ cls:=.type "list",data:=.seq its.toArray k }):=by simpa using hp
    subst e;exact⟨hD3,hDH,fD.2.1,fD.2.2.1,fun v z=>by cases z⟩
   have pfp:∀p∈[(s2.heap.objs.size,({ cls:=.type "list",data:=.seq its.toArray k }:Obj))],p.1∉fp:=fun p hp=>by
    have e:p=(s2.heap.objs.size,{ cls:=.type "list",data:=.seq its.toArray k }):=by simpa using hp
    subst e;exact nDf
   have fpP:∀{H':Hp},(∀b∈fp,H' b=none)->∀b∈fp,FpOk (blk X sc cl N' G.objs.size s2 H2 fp) [(s2.heap.objs.size,({ cls:=.type "list",data:=.seq its.toArray k }:Obj))] H' b:=fun {H'} hn b hb =>
    have f:=stD (pn:=[]) fr3 (fun p z=>nomatch z) b (Qo _ hb)
    ⟨hn b hb,f.2.1,f.2.2.1,f.2.2.2.1,f.2.2.2.2.1,fun p hp q=>pfp p ((Gx.mp hp).elim (fun z=>nomatch (show p∈([]:List (Qc×Obj)) from z)) id) (q▸hb)⟩
   rcases turn i n ys σ3 H3 w3 with ⟨stop,hz,q⟩|⟨go,hz,N,hN,step⟩
   ·refine thn (T.done (blk X sc cl N' G.objs.size s2 H2 fp) rfl rfl rfl hc i _ s3 σ3 H3 _ I3p (fpP fun b hb=>fr3 b (Qo _ hb)) st3 stop) fun r s4 ⟨hr,I5⟩=>?_
    subst hr;refine QE ?_;obtain⟨m,hn,_⟩:=I5.loc;have eD:=(I5.pin (s2.heap.objs.size,{ cls:=.type "list",data:=.seq its.toArray k }) (by simp)).1;have hCf:H3 G.objs.size=none:=I5.free;exact fin G.objs.size s2.heap.objs.size s4 _ ys m hC hn (by rw[Jl (G1 hC)];exact hCf) (fun h' hsb=>Jf9 (Cs:=0) I2 f2 I5 hC hDH (Qr _) (QI hC) eD rv3 hz hsb) (q _ hDH)
   ·refine thn (T.item (blk X sc cl N' G.objs.size s2 H2 fp) rfl rfl rfl hc i _ s3 σ3 H3 _ I3p (fpP fun b hb=>fr3 b (Qo _ hb)) st3 go) fun r s4 ⟨u,hr,h4⟩=>?_
    subst hr;refine Qe (thn h4 fun _ s5 ⟨x,H5,I5,r5,y5,st5,fr5⟩=>?_);have I5':=I5.pinned (fpP fr5) (T.obj _ _ st5);refine Qe (thn (hg G.objs.size s2 H2 fp _ s5 σ3 H5 x u _ I5' r5 (step x H5 y5)) fun _ s6 ⟨σ6,H6,I6,q6⟩=>?_);refine Qe (thn (ht G.objs.size s2 H2 fp _ s6 σ6 H6 _ I6 q6) fun ok s7 ⟨H7,I7,q7⟩=>?_)
    -- what stays of the records
    have recs:∀{σ':St} {H':Hp} {s':Qd},Inv (blk X sc cl N' G.objs.size s2 H2 fp) ([(s2.heap.objs.size,({ cls:=.type "list",data:=.seq its.toArray k }:Obj))]++Zd fp s5.heap) σ' H' s' ->
     tn (i+1) s'.heap/\(∀b∈s2.heap.objs.size::fp,H' b=none)/\s'.heap.get? s2.heap.objs.size=some { cls:=.type "list",data:=.seq its.toArray k }:=fun {σ' H' s'} I'=>by
     have pd:=I'.pin (s2.heap.objs.size,{ cls:=.type "list",data:=.seq its.toArray k }) (by simp)
     have pf:∀b∈fp,∀o,s5.heap.get? b=some o->s'.heap.get? b=some o/\H' b=none:=fun b hb o e=>by have z:=I'.pin (b,o) (Q2 _ (Q2 _ (Vi hb e)));exact⟨z.1,z.2.1⟩
     refine⟨T.keep _ _ _ st5 fun b hb o e=>(pf b hb o e).1,fun b hb=>?_,pd.1⟩;rcases Qq.mp hb with z|z
     ·subst z;exact pd.2.1
     ·obtain⟨o,e,d⟩:=T.obj _ _ st5 b z;exact(pf b z o e).2
    cases ok with
    | false=>obtain⟨m',hm,w7⟩:=hN _ _ _ (show N ys σ6 H7 from by simpa using q7);obtain⟨r1,r2,r3⟩:=recs I7;exact QE ⟨rfl,m',hm,i+1,ys,its,k,σ6,H7,I7.pins_of (fun p hp=>nomatch hp),r1,r2,rv3,r3,w7⟩
    | true =>
     have q7':te σ6 H7 fun y H5=>N (ys++[y]) σ6 H5:=by simpa using q7
     refine Qe (Qe (thn (he G.objs.size s2 H2 fp _ s7 σ6 H7 _ I7 q7') fun y s8 ⟨y8,H8,I8,ry,q8⟩=>Qe ?_));obtain⟨r1,r2,r3⟩:=recs I8;have hl:=rv3.length;refine wpAny_list_append_plain (hsz:=by rw[Qv];omega) ⟨k,r3⟩ fun h9 ⟨k9,hl9⟩ hs9=>QE (QE ?_)
     have hD8:H8 s2.heap.objs.size=none:=r2 _ Qz
     have f8:=stD (pn:=[]) r2 (fun p z=>nomatch z) s2.heap.objs.size Qz
     have I8':Inv (blk X sc cl N' G.objs.size s2 H2 fp) [] σ6 H8 s8:=I8.pins_of (fun p hp=>nomatch hp)
     have I9:Inv (blk X sc cl N' G.objs.size s2 H2 fp) [] σ6 H8 { s8 with heap:=h9 }:=I8'.turned (t':=s8.toks) (it:=s2.heap.objs.size) (fun b o hb e=>hs9.extBut b o hb e) hD8 f8.2.1 f8.2.2.2.1 f8.2.2.2.2.1 f8.2.2.2.2.2;obtain⟨m',hm,w8⟩:=hN _ _ _ q8;refine⟨rfl,m',hm,i+1,ys++[y8],its++[y],k9,σ6,H8,I9,?_,r2,rv3.append (.cons ry .nil),?_,w8⟩
     ·exact T.keep _ _ _ r1 fun b hb o e=>hs9.extBut b o (fun z=>nDf (z▸hb)) e
     ·rw[hl9];simp
  ·rcases Qq.mp hb with z|z
   ·subst z;exact I2.hok.fresh (Qr _)
   ·exact(f2 b z).1
 exact codeAny_compStart_list loop (T.self _ 0 _ _ _ (T.keep _ _ _ st2 fun b _ o e=>old b o e) loop)

theorem Wt(hc:X.calm=true)(hi:PI X tg iter wi)(B:Blk X sc cl N' imp)
 (hg:∀C s H fp,PG (blk X sc cl N' C s H fp) tg g) (ht:∀C s H fp,Jf3 (blk X sc cl N' C s H fp) ifs tt) (he:∀C s H fp,PE (blk X sc cl N' C s H fp) elt te)
 (hs:∀x,foldedSetIterable iter X.env x=pure x:=by intro _;rfl):PE X (.ListComp elt [⟨tg,iter,ifs,0⟩] sc pos) (JfR wi g tt te imp):=by
 intro pins s σ H Q I h;rw[eval_ListComp];refine wpAny_comprehension_free (use:=none) rfl hs B.clos B.kind B.names (thn (hi pins s σ H _ I h) fun v s1 h1=>thn h1 fun itv s2 h2=>?_);refine Jdv (RR:=fun acc C=>compPost (model X.prog X.w) X.A X.xe none (EP X pins σ Q) acc C) hc B hg ht he h2 fun C D s4 H' ys m hC hn hCf hI q=>?_
 exact⟨m,hn,fun h' hsb=>⟨.ref D,H',hI h' hsb,rfl,q⟩⟩
end
end L2

namespace L2
open PySem PySem.Spec PyProof.Rows

inductive Rep (K:Qn) (H:Hp):V->PyData->Prop
 | non:Rep K H .non .none
 | bl (b:Bool):Rep K H (.bl b) (.bool b)
 | int (i:Int):Rep K H (.int i) (.int i)
 | str (x:Str):Rep K H (.str x) (.str x)
 | tup {a:Qc} {xs:List V} {ds:List PyData}:SqT K H a xs->xs.length=ds.length->(∀(i:Nat) (x:V) (d:PyData),xs[i]?=some x->ds[i]?=some d->Rep K H x d)->Rep K H (.ref a) (.tuple ds)
 | lst {a:Qc} {xs:List V} {ds:List PyData}:SqL K H a xs->xs.length=ds.length->(∀(i:Nat) (x:V) (d:PyData),xs[i]?=some x->ds[i]?=some d->Rep K H x d)->Rep K H (.ref a) (.list ds)

noncomputable def RepL(K:Qn)(H:Hp)(xs:List V)(ds:List PyData):Prop :=
 xs.length=ds.length/\∀(i:Nat) (x:V) (d:PyData),xs[i]?=some x->ds[i]?=some d->Rep K H x d

section
variable{K:Qn}{H H':Hp}
theorem RepL.nil:RepL K H [] []:=⟨rfl,fun i x d e=>by simp at e⟩
theorem RepL.cons{x:V}{d:PyData}{xs:List V}{ds:List PyData}(h:Rep K H x d)(r:RepL K H xs ds):RepL K H (x::xs) (d::ds):=by
 refine⟨by simp[r.1],fun i y e h1 h2=>?_⟩
 cases i with
 | zero=>simp at h1 h2;subst h1 h2;exact h
 | succ i=>exact r.2 i y e (by simpa using h1) (by simpa using h2)
theorem RepL.append{xs ys:List V}{ds es:List PyData}(r:RepL K H xs ds)(q:RepL K H ys es):RepL K H (xs++ys) (ds++es):=by
 refine⟨by simp[r.1,q.1],fun i x d h1 h2=>?_⟩
 by_cases hi:i<xs.length
 ·rw[Qx hi] at h1;rw[Qx (by rw[<- r.1];exact hi)] at h2;exact r.2 i x d h1 h2
 ·rw[QG (by omega)] at h1;rw[QG (by rw[<- r.1];omega)] at h2;rw[<- r.1] at h2;exact q.2 _ x d h1 h2
theorem RepL.snoc{xs:List V}{ds:List PyData}{x:V}{d:PyData}(r:RepL K H xs ds)(h:Rep K H x d):RepL K H (xs++[x]) (ds++[d]):=r.append (.cons h .nil)
theorem RepL.get{xs:List V}{ds:List PyData}{i:Nat}{d:PyData}(r:RepL K H xs ds)(e:ds[i]?=some d):∃x,xs[i]?=some x/\Rep K H x d:=by
 have hi:=(Qh.mp e).1
 have hx:i<xs.length:=by rw[r.1];exact hi
 exact⟨xs[i],by simp[hx],r.2 i _ d (by simp[hx]) e⟩
theorem RepL.get'{xs:List V}{ds:List PyData}{i:Nat}{x:V}(r:RepL K H xs ds)(e:xs[i]?=some x):∃d,ds[i]?=some d/\Rep K H x d:=by
 have hi:=(Qh.mp e).1
 have hx:i<ds.length:=by rw[<- r.1];exact hi
 exact⟨ds[i],by simp[hx],r.2 i x _ e (by simp[hx])⟩
theorem Rep.tupL{a:Qc}{xs:List V}{ds:List PyData}(h:SqT K H a xs)(r:RepL K H xs ds):Rep K H (.ref a) (.tuple ds):=.tup h r.1 r.2
theorem Rep.lstL{a:Qc}{xs:List V}{ds:List PyData}(h:SqL K H a xs)(r:RepL K H xs ds):Rep K H (.ref a) (.list ds):=.lst h r.1 r.2
theorem Rep.tupI{v:V}{ds:List PyData}(r:Rep K H v (.tuple ds)):∃a xs,v=.ref a/\SqT K H a xs/\RepL K H xs ds:=by
 cases r with
 | tup h l q=>exact⟨_,_,rfl,h,l,q⟩
theorem Rep.lstI{v:V}{ds:List PyData}(r:Rep K H v (.list ds)):∃a xs,v=.ref a/\SqL K H a xs/\RepL K H xs ds:=by
 cases r with
 | lst h l q=>exact⟨_,_,rfl,h,l,q⟩
theorem Rep.intI{v:V}{i:Int}(r:Rep K H v (.int i)):v=.int i:=by cases r;rfl
theorem Rep.strI{v:V}{i:Str}(r:Rep K H v (.str i)):v=.str i:=by cases r;rfl
theorem Rep.blI{v:V}{i:Bool}(r:Rep K H v (.bool i)):v=.bl i:=by cases r;rfl
theorem Same.seqT{a:Qc}{xs:List V}(e:Same H H')(h:SqT K H a xs):SqT K H' a xs:=by
 rcases h with (h|⟨o,h⟩)|h
 ·exact .inl (.inl (e _ _ h))
 ·exact .inl (.inr ⟨o,e _ _ h⟩)
 ·exact .inr h
theorem Rep.mono{v:V}{d:PyData}(e:Same H H')(r:Rep K H v d):Rep K H' v d:=by
 induction r with
 | non=>exact .non
 | bl b=>exact .bl b
 | int i=>exact .int i
 | str x=>exact .str x
 | tup h l _ ih=>exact .tup (e.seqT h) l ih
 | lst h l _ ih=>exact .lst (e.seq h) l ih
theorem RepL.mono{xs:List V}{ds:List PyData}(e:Same H H')(r:RepL K H xs ds):RepL K H' xs ds:=⟨r.1,fun i x d h1 h2=>(r.2 i x d h1 h2).mono e⟩

noncomputable def SameEx(l:Qc)(H H':Hp):Prop:=∀b o,b≠l->H b=some o->H' b=some o
theorem SameEx.upd{l:Qc}{o:HO}:SameEx l H (upd H l o):=fun b o' hb e=>by rw[Jl hb];exact e
theorem Same.ex{H0:Hp}{l:Qc}(s:Same H0 H)(hn:H0 l=none)(e:SameEx l H H'):Same H0 H':=fun b o h=>e b o (Jt h hn) (s b o h)
theorem Same.new{p:Qc}{o:HO}(hn:H p=none):Same H (upd H p o):=fun b o' e=>by rw[Jl (Jt e hn)];exact e
theorem SameEx.sqT{l a:Qc}{ys xs:List V}(e:SameEx l H H')(hl:H l=some (.lst ys))(h:SqT K H a xs):SqT K H' a xs:=by
 rcases h with (h|⟨o,h⟩)|h
 ·exact .inl (.inl (e _ _ (Ja0 h hl (by intro z;cases z)) h))
 ·exact .inl (.inr ⟨o,e _ _ (Ja0 h hl (by intro z;cases z)) h⟩)
 ·exact .inr h
theorem Same.ex_trans{l:Qc}{H2:Hp}(s:Same H H')(e:SameEx l H' H2):SameEx l H H2:=fun b o hb h=>e b o hb (s b o h)
inductive NoLst:PyData->Prop
 | non:NoLst .none
 | bl (b:Bool):NoLst (.bool b)
 | int (i:Int):NoLst (.int i)
 | str (x:Str):NoLst (.str x)
 | tup {ds:List PyData}:(∀d∈ds,NoLst d)->NoLst (.tuple ds)
end

theorem Vals.get':∀{xs:List V} {us:List Qa} {i:Nat} {u:Qa},Vals xs us->us[i]?=some u->∃x,xs[i]?=some x/\RelV x u
 | _,_,_,_,.nil,e=>by simp at e
 | _,_,0,_,.cons r _,e=>by simp at e;subst e;exact⟨_,rfl,r⟩
 | _,_,i+1,u,.cons _ t,e=>by obtain⟨x,h1,h2⟩:=Vals.get' (i:=i) (u:=u) t (by simpa using e);exact⟨x,by simpa using h1,h2⟩
theorem UL{h:QH}:∀(us:List Qa) (ds:List PyData),us.length=ds.length->(∀(i:Nat) (u:Qa) (d:PyData),us[i]?=some u->ds[i]?=some d->∃as,Reads h u d as)->∃as,ReadsAll h us ds as
 | [],[],_,_=>⟨_,.nil⟩
 | [],_::_,e,_=>by simp at e
 | _::_,[],e,_=>by simp at e
 | u::us,d::ds,e,f=>by
  obtain⟨as,h1⟩:=f 0 u d rfl rfl;obtain⟨bs,h2⟩:=UL us ds (by simpa using e) fun i v c q1 q2=>f (i+1) v c (by simpa using q1) (by simpa using q2)
  exact⟨_,.cons h1 h2⟩
section
variable{X:Cx}{pins:List (Qc×Obj)}{σ:St}{H:Hp}{s:Qd}
theorem Rep.reads{v:V}{d:PyData}(I:Inv X pins σ H s)(r:Rep X.K H v d):∀u,RelV v u->∃as,Reads s.heap u d as:=by
 induction r with
 | non=>intro u r;cases r;exact⟨_,.none⟩
 | bl b=>intro u r;cases r;exact⟨_,.bool b⟩
 | int i=>intro u r;obtain⟨t,rfl⟩:=r;exact⟨_,.int i t⟩
 | str x=>intro u r;obtain⟨t,rfl⟩:=r;exact⟨_,.str x t⟩
 | tup h l _ ih =>
  intro u r;cases r;obtain⟨its,rv,p,hz⟩:=I.tuple h;obtain⟨o,ho,hc,n,hd⟩:=p
  obtain⟨as,q⟩:=UL (h:=s.heap) its _ (rv.length.symm.trans l) fun i u d h1 h2=>by obtain⟨x,e1,e2⟩:=rv.get' h1;exact ih i x d e1 h2 u e2
  exact⟨_,.tuple ho hc hd q⟩
 | lst h l _ ih =>
  intro u r;cases r;obtain⟨its,rv,p,hz⟩:=I.list h;obtain⟨o,ho,hc,n,hd⟩:=p.isList
  obtain⟨as,q⟩:=UL (h:=s.heap) its _ (rv.length.symm.trans l) fun i u d h1 h2=>by obtain⟨x,e1,e2⟩:=rv.get' h1;exact ih i x d e1 h2 u e2
  exact⟨_,.list ho hc hd q⟩
end

section
variable{X:Cx}
noncomputable def Jc0(K:Qn):R2:=fun x y H Q=>rI0 (fun i j=>.int (i+j)) x y H Q\/(∃i j,x=.str i/\y=.str j/\i.length+j.length<=Qk/\Q (.str (i++j)) H)\/Jk2 x y H Q
theorem JgZ:OpR X (binaryOp .Add) (Jc0 X.K):=op_add.or (op_add_str.or Jjl)
noncomputable def Jk3(K:Qn):R2:=fun x y H Q=>∃d e,Rep K H x d/\Rep K H y e/\d.canLay0=true/\e.canLay0=true/\min d.depth e.depth<=60/\Q (.bl (Kv d e)) H
noncomputable def Jk7(K:Qn):R2:=fun x y H Q=>∃d e,Rep K H x d/\Rep K H y e/\d.canLay0=true/\e.canLay0=true/\min d.depth e.depth<=60/\Q (.bl (!PyData.eqv d e)) H
theorem Jjn(hu:X.A.units+64<cLine):OpR X (compareOp .Eq) (Jk3 X.K):=by intro pins s σ H x y v u Q I rx ry h;obtain⟨d,e,h1,h2,c1,c2,hd,q⟩:=h;obtain⟨as,r1⟩:=h1.reads I v rx;obtain⟨bs,r2⟩:=h2.reads I u ry;exact SeqAt.compareEq_reads r1 r2 c1 c2 (by omega) ⟨.bl _,H,I,rfl,q⟩
theorem Jjq(hu:X.A.units+64<cLine):OpR X (compareOp .NotEq) (Jk7 X.K):=by intro pins s σ H x y v u Q I rx ry h;obtain⟨d,e,h1,h2,c1,c2,hd,q⟩:=h;obtain⟨as,r1⟩:=h1.reads I v rx;obtain⟨bs,r2⟩:=h2.reads I u ry;exact SeqAt.compareNe_reads r1 r2 c1 c2 (by omega) ⟨.bl _,H,I,rfl,q⟩
noncomputable def Jfv(K:Qn):R2:=fun x y H Q=>rEq x y H Q\/Jk3 K x y H Q
noncomputable def Jfw(K:Qn):R2:=fun x y H Q=>rNe x y H Q\/Jk7 K x y H Q
theorem Jjm(hu:X.A.units+64<cLine):OpR X (compareOp .Eq) (Jfv X.K):=op_eq.or (Jjn hu)
theorem Jjp(hu:X.A.units+64<cLine):OpR X (compareOp .NotEq) (Jfw X.K):=op_ne.or (Jjq hu)
noncomputable def Jb5(K:Qn):List V->Hp->VK->Prop:=fun xs H Q=>∃x n,xs=[x]/\JkB K x H n/\Q (.int n) H
theorem Jdq:CallR X (.builtin "len") (Jb5 X.K):=Jes
noncomputable def UK(K:Qn):List V->Hp->VK->Prop:=fun xs H Q=>∃p ys,xs=[.ref p]/\((SqL K H p ys/\∀l,H l=none->Q (.ref l) (upd H l (.tup ys)))\/(SqT K H p ys/\Q (.ref p) H))
theorem JaM:CallR X (.type "tuple") (UK X.K):=Zt
noncomputable def Jau(K:Qn):List V->Hp->VK->Prop:=fun xs H Q=>∃p ys,xs=[.ref p]/\(SqL K H p ys\/SqT K H p ys)/\∀l,H l=none->Q (.ref l) (upd H l (.lst ys))
theorem JbG:CallR X (.type "list") (Jau X.K):=Z4
inductive TyS (K:Qn) (H:Hp):V->Qa->Prop where
 | of {x:V} {t:Qa} (h:TyOf K H x t):TyS K H x t
 | sqT {a:Qc} {xs:List V} (h:SqT K H a xs):TyS K H (.ref a) (.type "tuple")
 | sqL {a:Qc} {xs:List V} (h:SqL K H a xs):TyS K H (.ref a) (.type "list")
theorem WX{pins:List (Qc×Obj)}{σ:St}{H:Hp}{s:Qd}{A:Qu}{E:Qa->Qd->Prop}{Q:Qa->Qd->Prop}{c:Qa}{b:Bool}{x:V}{u t:Qa}(I:Inv X pins σ H s)(rx:RelV x u)(ty:TyS X.K H x t)(e:kitOne X.K t c=some b)(h:∀tk,Q (.bool b) { s with toks:=tk }) :
 wpAny (model X.prog X.w) A (call (.builtin "isinstance") [u,c]) Q E s:=by
 cases ty with
 | of z=>exact JdL I rx z e h
 | @sqT a xs z=>cases (show u=Value.ref a from rx);obtain⟨its,_,p,_⟩:=I.tuple z;obtain⟨o,h1,h2,_⟩:=p;exact kia_one LJ I.kIn ⟨o,h1,h2⟩ e (fun z=>nomatch z) h
 | @sqL a xs z=>cases (show u=Value.ref a from rx);obtain⟨its,_,p,_⟩:=I.list z;obtain⟨o,h1,h2,_⟩:=p.isList;exact kia_one kitx_list I.kIn ⟨o,h1,h2⟩ e (fun z=>nomatch z) h
noncomputable def JdW(K:Qn):List V->Hp->VK->Prop:=fun vs H Q=>∃x c t tc b,vs=[x,c]/\TyS K H x t/\(∀u,RelV c u->u=tc)/\kitOne K t tc=some b/\Q (.bl b) H
theorem Jer:CallR X (.builtin "isinstance") (JdW X.K):=by intro pins s σ H xs us Q I r h;obtain⟨x,c,t,tc,b,rfl,ty,hc,e,q⟩:=h;obtain⟨u,w',rfl,r1,r2⟩:=Jdg r;cases hc w' r2;exact WX I r1 ty e fun tk=>⟨.bl b,H,I.tok tk,rfl,q⟩
noncomputable def JjI:R2:=fun x y H Q=>y=.non/\Q (.bl (decide (x=.non))) H
noncomputable def Jfx:R2:=fun x y H Q=>y=.non/\Q (.bl (!decide (x=.non))) H
theorem Jg2:OpR X (compareOp .Is) JjI:=Jjo
theorem Jfa:OpR X (compareOp .IsNot) Jfx:=Jg3
noncomputable def JjJ:List V->Hp->VK->Prop:=fun xs H Q=>∃i j,xs=[.int i,.int j]/\Q (.int (if j>i then j else i)) H
noncomputable def JjK:List V->Hp->VK->Prop:=fun xs H Q=>∃i j,xs=[.int i,.int j]/\Q (.int (if j<i then j else i)) H
theorem ZH(hc:X.calm=true):CallR X (.builtin "max") JjJ:=Jdr hc
theorem Jdt(hc:X.calm=true):CallR X (.builtin "min") JjK:=Jds hc
noncomputable def JhU(K:Qn)(ta:TE):TT:=fun σ H Q=>ta σ H fun x H1=>∃k,Jdm K x H1 k/\Q k H1
theorem JjG{a:QO}{ta:TE}(ha:PE X a ta)(he:∀whole,isTrue a X.env whole=(do let v <- whole;standAt a.pos;holding [v] (truthy v))):PT X a (JhU X.K ta):=Jfs ha he
noncomputable def GV(mg:Str->Option Qa)(x:Str)(v:V):Prop:=∃u,mg x=some u/\RelV v u
theorem YX{x:Str}{v:V}{pos:Pos}(hg:Gl X x)(hm:GV X.mg x v)(hd:(x == ("__debug__":Str))=false:=by decide):PE X (.Name x pos) (tC v):=by obtain⟨u,h1,h2⟩:=hm;exact Yo hg h1 h2 hd
end
theorem Um:bootBuiltins "len"=some (.builtin "len"):=by decide +kernel
theorem Js:bootBuiltins "isinstance"=some (.builtin "isinstance"):=by decide +kernel
theorem Jen:bootBuiltins "max"=some (.builtin "max"):=by decide +kernel
theorem Jix:bootBuiltins "min"=some (.builtin "min"):=by decide +kernel
theorem Jeo:bootBuiltins "sum"=some (.builtin "sum"):=by decide +kernel
theorem Jiv:bootBuiltins "any"=some (.builtin "any"):=by decide +kernel
theorem Jiw:bootBuiltins "int"=some (.type "int"):=by decide +kernel
theorem Jgb:bootBuiltins "bool"=some (.type "bool"):=by decide +kernel
theorem Jiy:bootBuiltins "str"=some (.type "str"):=by decide +kernel
theorem Jcs:bootBuiltins "list"=some (.type "list"):=by decide +kernel
theorem UF:bootBuiltins "tuple"=some (.type "tuple"):=by decide +kernel
theorem Vy:bootBuiltins "enumerate"=some (.type "enumerate"):=by decide +kernel
structure Cal (P:Qm) (w:QB) (K:Qn) (mg:Str->Option Qa) (base:QH) (x:Str) (k:Nat) (ps:List Str) (sp:Sp):Prop where
 ex:∃(f:Qc) (fd:QC),FnOk P w K mg base CX0 k f fd ps sp/\mg x=some (.ref f)/\keepIn K (.ref f)=true/\Binds K fd ps []
structure CalM (P:Qm) (w:QB) (K:Qn) (mg:Str->Option Qa) (base:QH) (x:Str) (C:Qc) (k:Nat) (ps:List Str) (sp:Sp):Prop where
 ex:∃(f:Qc) (fd:QC),Mk K C f/\FnOk P w K mg base CX0 k f fd ps sp/\mg x=some (.ref C)/\Binds K fd ps []
section
variable{X:Cx}{k:Nat}{C:Qc}{ps:List Str}{sp:Sp}{x:Str}{p pos:Pos}{e:QO}{es:List QO}{t:TA}
theorem Jv(c:Cal X.prog X.w X.K X.mg X.base x k ps sp)(hr:Room k X.A)(hg:Gl X x)(ha:PA X (e::es) t)(hdb:(x == ("__debug__":Str))=false:=by decide)
 (he:starEach (e::es) X.env=(false,eval e X.env)::starEach es X.env:=by rfl) (hpl:(backTo pos (starEach es X.env)).any (·.1)=false:=by rfl):PE X (.Call (.Name x p) (e::es) [] pos) (VU sp [] E0 t):=by
 obtain⟨f,fd,F,h1,h2,h3⟩:=c.ex;exact JcT F hr hg h1 h2 h3 .nil JkY ha hdb he hpl
end

noncomputable def JbO(K:Qn)(tl:TE):TI:=fun σ H R=>Jh7 K tl σ H R\/JkQ K tl σ H R
theorem JjA{X:Cx}{tg l:QO}{tl:TE}(hl:PE X l tl):PI X tg l (JbO X.K tl):=by
 intro pins s σ H R I h;rcases h with h|h
 ·exact Jhb hl pins s σ H R I h
 ·exact JjB hl pins s σ H R I h

theorem Jlt{X:Cx}{sc:KN}{N':List Str}{imp:List (Option Nat)}(h1:sc.kind=.function)
 (h2:(sc.names.all (fun y=>y.2 != .free && y.2 != .cell && (y.2 != .local || sc.names.lookup y.1 == some .local)) && imp.all (·.isNone) && (imp.length == N'.length))=true):Blk X sc [] N' imp:=by
 simp only[QL,Gr] at h2;obtain⟨⟨h2,h3⟩,h4⟩:=h2
 have nofree:∀y∈sc.names,y.2≠.free:=fun y hy=>by
  have:=(h2 y hy).1.1
  simpa using this
 have nocell:∀y∈sc.names,y.2≠.cell:=fun y hy=>by
  have:=(h2 y hy).1.2
  simpa using this
 refine⟨closureFor_none nofree,h1,nocell,fun y hy hl=>?_,(fun p hp=>nomatch hp),fun y hy hk=>?_,by simpa using h4,fun p hp k e=>?_⟩
 ·have:=(h2 y hy).2;rw[hl] at this
  simpa using this
 ·have:(relabel sc X.env).names=sc.names:=by
   unfold relabel;refine map_eq_self fun x hx=>?_
   obtain⟨n,q⟩:=x;have:(q == NameKind.free)=false:=by simpa using nofree _ hx
   simp[this]
  rw[this] at hy;rcases hk with z|z
  ·exact absurd z (nocell y hy)
  ·exact absurd z (nofree y hy)
 ·have:=h3 p.1 (GK hp).1;rw[e] at this;cases this

section
variable{K:Qn}{σ:St}{H H1:Hp}{Q:VK}{i:Nat}{v:V}{ta tb te:TE}{r:R2}{D:Ends}{t u:TS}{c:TT}
theorem Jj8(h:σ[i]?=some (some v))(q:Q v H):JaC i σ H Q:=⟨v,h,q⟩
theorem JlF(q:Q v H):tC v σ H Q:=q
theorem Jle(q:ta σ H fun x H1=>tb σ H1 fun y H2=>r x y H2 Q):tOp r ta tb σ H Q:=q
theorem Jlh{r:V->Hp->VK->Prop}(q:ta σ H fun x H1=>r x H1 Q):tUn r ta σ H Q:=q
theorem Jlc{g:Int->Int->V}{a b:Int}(q:Q (g a b) H):rI0 g (.int a) (.int b) H Q:=⟨a,b,rfl,rfl,q⟩
theorem JlG{C:Int->Int->Prop}{g:Int->Int->V}{a b:Int}(h:C a b)(q:Q (g a b) H):rI C g (.int a) (.int b) H Q:=⟨a,b,rfl,rfl,h,q⟩
theorem JlH{g:Int->V}{a:Int}(q:Q (g a) H):rU g (.int a) H Q:=⟨a,rfl,q⟩
theorem Jav{a b:Int}(q:Q (.int (a+b)) H):Jc0 K (.int a) (.int b) H Q:=.inl ⟨a,b,rfl,rfl,q⟩
theorem JjO{a b:Int}(q:Q (.bl (decide (a=b))) H):Jfv K (.int a) (.int b) H Q:=.inl ⟨rfl,by
 have:decide (V.int a=V.int b)=decide (a=b):=by simp
 rw[this];exact q⟩
theorem JjZ{a b:Int}(q:Q (.bl (!decide (a=b))) H):Jfw K (.int a) (.int b) H Q:=.inl ⟨rfl,by
 have:decide (V.int a=V.int b)=decide (a=b):=by simp
 rw[this];exact q⟩
theorem JjP{a b:Str}(q:Q (.bl (decide (a=b))) H):Jfv K (.str a) (.str b) H Q:=.inl ⟨rfl,by
 have:decide (V.str a=V.str b)=decide (a=b):=by simp
 rw[this];exact q⟩
theorem Jj0{a b:Str}(q:Q (.bl (!decide (a=b))) H):Jfw K (.str a) (.str b) H Q:=.inl ⟨rfl,by
 have:decide (V.str a=V.str b)=decide (a=b):=by simp
 rw[this];exact q⟩
theorem JjT{x:V}(q:Q (.bl (decide (x=.non))) H):JjI x .non H Q:=⟨rfl,q⟩
theorem Jht{x:V}(q:Q (.bl (!decide (x=.non))) H):Jfx x .non H Q:=⟨rfl,q⟩
theorem JfC{a b:Int}(q:Q (.int (max a b)) H):JjJ [.int a,.int b] H Q:=⟨a,b,rfl,by
 have e:(if b>a then b else a)=max a b:=by rw[Int.max_def];split <;> split <;> omega
 rw[e];exact q⟩
theorem JfD{a b:Int}(q:Q (.int (min a b)) H):JjK [.int a,.int b] H Q:=⟨a,b,rfl,by
 have e:(if b<a then b else a)=min a b:=by rw[Int.min_def];split <;> split <;> omega
 rw[e];exact q⟩
theorem Jhx{Qb:Bool->Hp->Prop}(q:ta σ H fun x H1=>∃k,Jdm K x H1 k/\Qb k H1):JhU K ta σ H Qb:=q
theorem JjQ{f:Str}(q:ta σ H fun x H1=>∃a C dx fs v,x=.ref a/\H1 a=some (.ins C dx fs)/\Cls K C/\NoAttr K C f/\fs.lookup f=some v/\Q v H1):JhR K ta f σ H Q:=q
theorem Jhw{Qb:Bool->Hp->Prop}(q:te σ H fun x H'=>∃k,x=.bl k/\Qb k H'):JfV te σ H Qb:=q
theorem Jlg{Qb:Bool->Hp->Prop}(q:te σ H fun x H'=>∃k,x=.bl k/\Qb k H'):tB te σ H Qb:=q
theorem JjM{c':TT}{Qb:Bool->Hp->Prop}(q:c σ H fun b H1=>if b=true then c' σ H1 Qb else Qb false H1):Jkh c c' σ H Qb:=q
theorem Jlf{c':TT}{Qb:Bool->Hp->Prop}(q:c σ H fun b H1=>if b=true then Qb true H1 else c' σ H1 Qb):tOr c c' σ H Qb:=q
theorem Jj2{Qb:Bool->Hp->Prop}(q:c σ H fun b H1=>Qb (!b) H1):Jkj c σ H Qb:=q
theorem Jhu(q:te σ H fun x H1=>∃b,x=.bl b/\Q (.bl (!b)) H1):JfT te σ H Q:=q
theorem Jhi(q:ta σ H fun x H1=>∃b,x=.bl b/\if b=true then tb σ H1 Q else Q (.bl false) H1):JfQ ta tb σ H Q:=q
theorem Jj3(q:ta σ H fun x H1=>∃b,x=.bl b/\if b=true then Q (.bl true) H1 else tb σ H1 Q):JlM ta tb σ H Q:=q
theorem JjR(q:c σ H fun b H1=>if b=true then ta σ H1 Q else tb σ H1 Q):tIf c ta tb σ H Q:=q
theorem Jj6(q:t { D with nx:=u D } σ H):Jd8 t u D σ H:=q
theorem JjN{g:TG}(q:te σ H fun x H1=>g x σ H1 D.nx):Zz te g D σ H:=q
theorem JfB{Qs:St->Hp->Prop}(q:Qs (σ.set i (some v)) H):U8 i v σ H Qs:=q
theorem JjS(q:c σ H fun b H1=>if b=true then t D σ H1 else u D σ H1):Jd7 c t u D σ H:=q
theorem Jj4(q:te σ H D.rt):JfU te D σ H:=q
theorem Jhk(q:te σ H fun _ H1=>D.nx σ H1):Jbu te D σ H:=q
theorem Jhs(q:D.nx σ H):JfS D σ H:=q
theorem Jhj{tr:TA}{Ql:List V->Hp->Prop}(q:ta σ H fun x H1=>tr σ H1 fun xs H2=>Ql (x::xs) H2):Y0 ta tr σ H Ql:=q
theorem Jj1{Ql:List V->Hp->Prop}(q:Ql [] H):ZC σ H Ql:=q
theorem Jlb{r:List V->Hp->VK->Prop}{ts:TA}(q:ts σ H fun vs H1=>r vs H1 Q):tCB r ts σ H Q:=q
theorem VN{sp:Sp}{E:XK}{ts:TA}(q:ts σ H fun vs H1=>sp vs H1 Q E):VU sp [] E ts σ H Q:=by
 have e:(fun vs H1=>sp (vs++[]) H1 Q E)=fun vs H1=>sp vs H1 Q E:=by funext vs H1;rw[Q4]
 show ts σ H fun vs H1=>sp (vs++[]) H1 Q E
 rw[e];exact q
noncomputable def Jeh(xs:List V)(H:Hp)(Q:VK):Prop:=xs.length<=Qk/\∀p,H p=none->Q (.ref p) (upd H p (.tup xs))
noncomputable def Jip(xs:List V)(H:Hp)(Q:VK):Prop:=xs.length<=Qk/\∀p,H p=none->Q (.ref p) (upd H p (.lst xs))
theorem Jj7{ts:TA}(q:ts σ H fun xs H1=>Jeh xs H1 Q):Jkl ts σ H Q:=q
theorem JjY{ts:TA}(q:ts σ H fun xs H1=>Jip xs H1 Q):JhT ts σ H Q:=q
theorem Jis{xs:List V}(hl:xs.length<=Qk)(q:∀p H',H p=none->Same H H'->H' p=some (.tup xs)->Q (.ref p) H'):Jeh xs H Q:=⟨hl,fun p hp=>q p _ hp (.new hp) Jx⟩
theorem Jhp{a:Qc}{xs:List V}(h:SqL K H a xs)(q:Q (.int xs.length) H):Jb5 K [.ref a] H Q:=⟨_,_,rfl,.inl ⟨xs,h,rfl⟩,q⟩
theorem Jhr{a:Qc}{xs:List V}(h:SqT K H a xs)(q:Q (.int xs.length) H):Jb5 K [.ref a] H Q:=⟨_,_,rfl,.inr ⟨xs,h,rfl⟩,q⟩
theorem Jhq{x:Str}(h:x.length<=Qk)(q:Q (.int x.length) H):Jb5 K [.str x] H Q:=⟨_,_,rfl,⟨h,rfl⟩,q⟩
theorem Jd0{a:Qc}{xs:List V}(h:SqL K H a xs)(q:∀p H',H p=none->Same H H'->H' p=some (.tup xs)->Q (.ref p) H'):UK K [.ref a] H Q:=⟨a,xs,rfl,.inl ⟨h,fun p hp=>q p _ hp (.new hp) Jx⟩⟩
theorem JjV{a:Qc}{xs:List V}{j:Int}{v:V}(h:SqL K H a xs)(e:atI xs j=some v)(q:Q v H):rIx K (.ref a) (.int j) H Q:=.inl ⟨a,xs,j,v,rfl,rfl,h,e,q⟩
theorem JjX{a:Qc}{xs:List V}{j:Int}{v:V}(h:SqT K H a xs)(e:atI xs j=some v)(q:Q v H):rIx K (.ref a) (.int j) H Q:=.inr (.inl ⟨a,xs,j,v,rfl,rfl,h,e,q⟩)
theorem JjW{z:Str}{j:Int}{c:Nat}(hz:z.length<=Qk)(e:atI z.cps.toList j=some c)(q:Q (.str ⟨#[c]⟩) H):rIx K (.str z) (.int j) H Q:=.inr (.inr ⟨z,j,c,rfl,rfl,hz,e,q⟩)
theorem JjU{x:V}{n:String}{t:Qa}{b:Bool}(ty:TyS K H x t)(e:kitOne K t (.type n)=some b)(q:Q (.bl b) H):JdW K [x,.ty n] H Q:=⟨x,_,t,_,b,rfl,ty,fun _ r=>r,e,q⟩
theorem Jhn{x:V}{C:Qc}{t:Qa}{b:Bool}(ty:TyS K H x t)(e:kitOne K t (.ref C)=some b)(q:Q (.bl b) H):JdW K [x,.ref C] H Q:=⟨x,_,t,_,b,rfl,ty,fun _ r=>r,e,q⟩
theorem Jld{T:String}{rm:V->List V->Hp->VK->Prop}{to:TE}{ts:TA}(q:to σ H fun x H1=>tyV K T x H1/\ts σ H1 fun xs H2=>rm x xs H2 Q):tBM K T rm to ts σ H Q:=q
theorem Jhm{to ti:TE}{ts:Jf6}{Qs:St->Hp->Prop}(q:to σ H fun o H1=>ti σ H1 fun i H2=>ts o i v H2 fun H3=>Qs σ H3):JiR to ti ts v σ H Qs:=q
theorem Jc4{a:Qc}{xs:List V}{n:Nat}{ts:TGs}{Qs:St->Hp->Prop}(h:SqT K H a xs)(hl:xs.length=n)(q:ts xs σ H Qs):JeO K n ts (.ref a) σ H Qs:=⟨a,xs,rfl,h,hl,q⟩
theorem JfA{t:TG}{u:TGs}{x:V}{xs:List V}{Qs:St->Hp->Prop}(q:t x σ H fun σ' H'=>u xs σ' H' Qs):JeN t u (x::xs) σ H Qs:=⟨x,xs,rfl,q⟩
theorem Jhl{Qs:St->Hp->Prop}(q:Qs σ H):JiQ [] σ H Qs:=⟨rfl,q⟩
theorem Jhv{f:Str}{tv:TE}(q:tv σ H fun y H1=>ta σ H1 fun x H2=>∃a C dx fs,x=.ref a/\H2 a=some (.ins C dx fs)/\Cls K C/\NoAttr K C f/\fs.length<1000/\D.nx σ (upd H2 a (.ins C dx (UB f y fs)))):Jkb K ta tv f D σ H:=q
theorem Jfz{r':R2}{tc:TE}(q:ta σ H fun x H1=>tb σ H1 fun y H2=>r x y H2 fun z H3=>∃k,z=.bl k/\(if k=true then tc σ H3 fun w' H4=>r' y w' H4 Q else Q (.bl false) H3)):Jce r r' ta tb tc σ H Q:=q
theorem Jj9{Qb:Bool->Hp->Prop}(q:Qb true H):Jkm σ H Qb:=q
theorem ifd{c A B:Prop}[Decidable c](h1:c->A)(h2:¬c->B):if decide c=true then A else B:=by
 by_cases h:c
 ·rw[if_pos (decide_eq_true h)];exact h1 h
 ·rw[if_neg (by simpa using h)];exact h2 h
theorem ifT{b:Bool}{A B:Prop}(e:b=true)(h:A):if b=true then A else B:=by rw[if_pos e];exact h
theorem ifF{b:Bool}{A B:Prop}(e:b=false)(h:B):if b=true then A else B:=by rw[if_neg (by rw[e];exact QF)];exact h

theorem JdZ{tl:TE}{g:TG}{a:Qc}{xs:List V}(hx:∀R:VK,R (.ref a) H1->tl σ H R)(hq:SqL K H1 a xs\/SqT K H1 a xs)(Pv:Nat->St->Hp->Prop)(h0:Pv 0 σ H1)(hS:∀i σ' H',Pv i σ' H'->Same H1 H')
 (hs:∀i x σ' H',xs[i]?=some x->Pv i σ' H'->g x σ' H' fun σ2 H2=>t { D with nx:=Pv (i+1),ct:=Pv (i+1),bk:=D.nx } σ2 H2) (hd:∀σ' H',Pv xs.length σ' H'->D.nx σ' H'):JhS (JbO K tl) g t D σ H:=by
 rcases hq with hq|hq
 ·exact .inl (hx _ ⟨a,rfl,⟨xs,hq⟩,JeL (xs:=xs) Pv h0 (fun i σ' H' _ p=>(hS i σ' H' p).seq hq) hs hd⟩)
 ·exact .inr (hx _ ⟨a,rfl,⟨xs,hq⟩,JgG (xs:=xs) Pv h0 (fun i σ' H' _ p=>(hS i σ' H' p).seqT hq) hs hd⟩)
theorem Jcu{J:It}{g:TG}{tt:TT}{imp:List (Option Nat)}{n:Nat}(hn:n<=Qk)(Pv:Nat->List V->St->Hp->Prop)(h0:Pv 0 [] (WU imp σ) H1)(hy:∀i ys σ' H',Pv i ys σ' H'->ys.length<=i)
 (hstop:∀ys σ' H',Pv n ys σ' H'->J.stop n H') (hgo:∀i ys σ' H',i<n->Pv i ys σ' H'->J.go i H')
 (hs:∀i ys x σ' H' H2,i<n->J.yld i H' x H2->Pv i ys σ' H'->g x σ' H2 fun σ2 H3=>tt σ2 H3 fun b H4=>if b=true then te σ2 H4 fun y H5=>Pv (i+1) (ys++[y]) σ2 H5 else Pv (i+1) ys σ2 H4)
 (hd:∀ys σ' H',Pv n ys σ' H'->∀p H2,H' p=none->Same H' H2->H2 p=some (.lst ys)->Q (.ref p) H2) :
 ∃W:Nat->Nat->List V->St->Hp->Prop,(∃m,W 0 m [] (WU imp σ) H1)/\∀i m ys σ' H',W i m ys σ' H' ->
  (J.stop i H'/\ys.length<=Qk/\∀D,H' D=none->Q (.ref D) (upd H' D (.lst ys))) ∨
  (J.go i H'/\ys.length<Qk/\∃N:List V->St->Hp->Prop,(∀ys' σ2 H2,N ys' σ2 H2->∃m',m'<m/\W (i+1) m' ys' σ2 H2) ∧
   ∀x H2,J.yld i H' x H2->g x σ' H2 fun σ2 H3=>tt σ2 H3 fun b H4=>if b=true then te σ2 H4 fun y H5=>N (ys++[y]) σ2 H5 else N ys σ2 H4):=by
 refine⟨fun i m ys σ' H'=>m=n-i/\i<=n/\Pv i ys σ' H',⟨n,by simp,Kj _,h0⟩,?_⟩;rintro i m ys σ' H' ⟨rfl,hi,p⟩;have hl:=hy i ys σ' H' p
 by_cases hlt:i<n
 ·exact .inr ⟨hgo i ys σ' H' hlt p,by omega,fun ys' σ2 H2=>Pv (i+1) ys' σ2 H2,fun ys' σ2 H2 p'=>⟨n-(i+1),by omega,rfl,hlt,p'⟩,fun x H2 y=>hs i ys x σ' H' H2 hlt y p⟩
 ·have e:i=n:=by omega
  subst e;exact .inl ⟨hstop ys σ' H' p,by omega,fun q hq=>hd ys σ' H' p q _ hq (.new hq) Jx⟩
theorem Jb6{tl:TE}{g:TG}{tt:TT}{imp:List (Option Nat)}{a:Qc}{xs:List V}(hx:∀R:VK,R (.ref a) H1->tl σ H R)(hq:SqL K H1 a xs\/SqT K H1 a xs)(hn:xs.length<=Qk)(Pv:Nat->List V->St->Hp->Prop)
 (h0:Pv 0 [] (WU imp σ) H1) (hy:∀i ys σ' H',Pv i ys σ' H'->ys.length<=i) (hS:∀i ys σ' H',Pv i ys σ' H'->Same H1 H')
 (hs:∀i ys x σ' H',xs[i]?=some x->Pv i ys σ' H'->g x σ' H' fun σ2 H3=>tt σ2 H3 fun b H4=>if b=true then te σ2 H4 fun y H5=>Pv (i+1) (ys++[y]) σ2 H5 else Pv (i+1) ys σ2 H4)
 (hd:∀ys σ' H',Pv xs.length ys σ' H'->∀p H2,H' p=none->Same H' H2->H2 p=some (.lst ys)->Q (.ref p) H2):JfR (JbO K tl) g tt te imp σ H Q:=by
 rcases hq with hq|hq
 ·refine .inl (hx _ ⟨a,rfl,⟨xs,hq⟩,Jcu (n:=xs.length) hn Pv h0 hy (fun ys σ' H' p=>⟨xs,(hS _ _ _ _ p).seq hq,Qr _⟩) (fun i ys σ' H' hi p=>⟨xs,xs[i],(hS _ _ _ _ p).seq hq,by simp[hi]⟩) (fun i ys x σ' H' H2 hi y p=>?_) hd⟩);obtain⟨e,y⟩:=y;subst e;exact hs i ys x σ' _ (y xs ((hS _ _ _ _ p).seq hq)) p
 ·refine .inr (hx _ ⟨a,rfl,⟨xs,hq⟩,Jcu (n:=xs.length) hn Pv h0 hy (fun ys σ' H' p=>⟨xs,(hS _ _ _ _ p).seqT hq,Qr _⟩) (fun i ys σ' H' hi p=>⟨xs,xs[i],(hS _ _ _ _ p).seqT hq,by simp[hi]⟩) (fun i ys x σ' H' H2 hi y p=>?_) hd⟩);obtain⟨e,y⟩:=y;subst e;exact hs i ys x σ' _ (y xs ((hS _ _ _ _ p).seqT hq)) p
end
end L2
namespace L2
open PySem PySem.Spec PyProof.Rows
section
variable{X:Cx}{K:Qn}{pos:Pos}
theorem Jg0(hK:X.K=K):OpR X (binaryOp .Add) (Jc0 K):=hK▸JgZ
theorem Ud(hK:X.K=K)(hu:X.A.units+64<cLine):OpR X (compareOp .Eq) (Jfv K):=hK▸Jjm hu
theorem Uu(hK:X.K=K)(hu:X.A.units+64<cLine):OpR X (compareOp .NotEq) (Jfw K):=hK▸Jjp hu
theorem Yn(hK:X.K=K):CallR X (.builtin "len") (Jb5 K):=hK▸Jdq
theorem UG(hK:X.K=K):CallR X (.type "tuple") (UK K):=hK▸JaM
theorem WG(hK:X.K=K):CallR X (.type "list") (Jau K):=hK▸JbG
theorem YT(hK:X.K=K):CallR X (.builtin "isinstance") (JdW K):=hK▸Jer
theorem JgJ(hK:X.K=K):IxR X (rIx K):=hK▸JiY
theorem VJ{e:QO}{ta:TE}{f:Str}(hK:X.K=K)(he:PE X e ta)(hb:attributeBase e f X.env (eval e X.env)=eval e X.env):PE X (.Attribute e f pos) (JhR K ta f):=hK▸Jjw he hb
theorem Jhf{o value:QO}{f:Str}{pos':Pos}{ta tv:TE}(hK:X.K=K)(ha:PE X o ta)(hv:PE X value tv)(hs:swapsWith value (some (.Attribute o f pos')) pos.line X.env=pure false):PS X (.Assign [.Attribute o f pos'] value pos) (Jkb K ta tv f):=hK▸JjD ha hv hs
theorem Jhc{tg l:QO}{tl:TE}(hK:X.K=K)(hl:PE X l tl):PI X tg l (JbO K tl):=hK▸JjA hl
theorem Ua{es:List QO}{k:Nat}{t:TGs}{n:Nat}(hK:X.K=K)(hc:X.calm=true)(h:PGs X es t)(hn:(assignEach es X.env).length=n)(hst:(assignEach es X.env).findIdx? (·.1)=none):PG X (.Tuple es k pos) (JeO K n t):=hK▸Jjz hc h hn hst
theorem Yc{a:QO}{ta:TE}(hK:X.K=K)(ha:PE X a ta)(he:∀whole,isTrue a X.env whole=(do let v <- whole;standAt a.pos;holding [v] (truthy v))):PT X a (JhU K ta):=hK▸JjG ha he
theorem V3{o e:QO}{es:List QO}{to:TE}{t:TA}{name:Str}{apos cpos:Pos}{T id:String}{r:V->List V->Hp->VK->Prop}(hK:X.K=K)(pa:PlainAttrs T)(slot:Slot T name id)(hty:typeOf (.builtin id)=pure (.type "method_descriptor"))(hm:MtR X id r)(ho:PE X o to)(ha:PA X (e::es) t)
 (hbase:attributeBase o name X.env (eval o X.env)=eval o X.env:=by rfl)
 (hfew:((backTo cpos (starEach (e::es) X.env)).all (fun x=>!x.1) && (backToKw cpos (keywordEach [] X.env)).all (fun x=>x.1.isSome)
  && decide ((e::es).length+([]:List KL).length+(if ([]:List KL).isEmpty then 0 else 1)<30))=true:=by rfl)
 (hline:(apos.endLine == cpos.line)=true:=by rfl) (hs:starEach (e::es) X.env=(false,eval e X.env)::starEach es X.env:=by rfl) (hplain:(backTo cpos (starEach es X.env)).any (·.1)=false:=by rfl) :
 PE X (.Call (.Attribute o name apos) (e::es) [] cpos) (tBM K T r to t):=hK▸Jk0 pa slot hty hm ho ha hbase hfew hline hs hplain
theorem Jg8{o:QO}{to:TE}{name:Str}{apos cpos:Pos}{T id:String}{r:V->List V->Hp->VK->Prop}(hK:X.K=K)(pa:PlainAttrs T)(slot:Slot T name id)(hty:typeOf (.builtin id)=pure (.type "method_descriptor"))(hm:MtR X id r)(ho:PE X o to)
 (hbase:attributeBase o name X.env (eval o X.env)=eval o X.env:=by rfl) (hline:(apos.endLine == cpos.line)=true:=by rfl):PE X (.Call (.Attribute o name apos) [] [] cpos) (Jki K T r to):=hK▸Jjv pa slot hty hm ho hbase hline
end
end L2

namespace LR
open PySem L2

theorem sz2{a b:V}:[a,b].length<=Qk:=by show 2<=Qk;decide
theorem Jkp(K:Qn)(H:Hp)(k:Bool):Jdm K (.bl k) H k:=rfl
noncomputable abbrev Pr:=Int×Int
noncomputable def prD(p:Pr):PyData:=.tuple [.int p.1,.int p.2]
section
variable{K:Qn}{H H':Hp}
theorem Jhd{v:V}{p:Pr}(r:Rep K H v (prD p)):∃a,v=.ref a/\SqT K H a [.int p.1,.int p.2]:=by
 obtain⟨a,xs,rfl,h,l,q⟩:=r.tupI
 match xs,l,q,h with
 | [x,y],_,q,h =>
  have e1:=(q 0 x (.int p.1) rfl rfl).intI
  have e2:=(q 1 y (.int p.2) rfl rfl).intI;subst e1 e2;exact⟨a,rfl,h⟩
theorem Jfl{a:Qc}{b n:Int}(h:SqT K H a [.int b,.int n]):Rep K H (.ref a) (prD (b,n)):=.tupL h (.cons (.int b) (.cons (.int n) .nil))
theorem Jhe{a:Qc}{b n:Int}(h:H a=some (.tup [.int b,.int n])):Rep K H (.ref a) (prD (b,n)):=Jfl (.of h)
noncomputable abbrev Prs(K:Qn)(H:Hp)(vs:List V)(ps:List Pr):Prop:=RepL K H vs (ps.map prD)
theorem Prs.len{vs:List V}{ps:List Pr}(r:Prs K H vs ps):vs.length=ps.length:=by have:=r.1;rwa [QR] at this
theorem Prs.at{vs:List V}{ps:List Pr}{i:Nat}{v:V}(r:Prs K H vs ps)(e:vs[i]?=some v):∃p a,ps[i]?=some p/\v=.ref a/\SqT K H a [.int p.1,.int p.2]:=by
 obtain⟨d,h1,h2⟩:=r.get' e;rw[Qw] at h1
 cases hp:ps[i]? with
 | none=>rw[hp] at h1;cases h1
 | some p=>rw[hp] at h1;cases h1;obtain⟨a,e1,e2⟩:=Jhd h2;exact⟨p,a,rfl,e1,e2⟩
theorem Prs.snoc{vs:List V}{ps:List Pr}{v:V}{p:Pr}(r:Prs K H vs ps)(h:Rep K H v (prD p)):Prs K H (vs++[v]) (ps++[p]):=by show RepL K H _ _;rw[Gk];exact RepL.snoc r h
noncomputable def Jf5(K:Qn)(H:Hp)(v:V)(ps:List Pr):Prop:=∃a vs,v=.ref a/\(SqL K H a vs\/SqT K H a vs)/\Prs K H vs ps
end

structure Good (ps:List Pr):Prop where
 one:∀(i:Nat) (p:Pr),ps[i]?=some p->1<=p.2
 gap:∀(i:Nat) (p q:Pr),ps[i]?=some p->ps[i+1]?=some q->p.1+p.2<q.1
theorem Good.nil:Good []:=⟨fun i p e=>by simp at e,fun i p q e=>by simp at e⟩
theorem Good.snoc{ps:List Pr}{p:Pr}(g:Good ps)(h1:1<=p.2)(h2:∀q,ps[ps.length-1]?=some q->q.1+q.2<p.1):Good (ps++[p]):=by
 refine⟨fun i q e=>?_,fun i q r e1 e2=>?_⟩
 ·by_cases hi:i<ps.length
  ·rw[Qx hi] at e;exact g.one i q e
  ·rw[QG (by omega)] at e;obtain⟨h3,h4⟩:=Qh.mp e;have:i-ps.length=0:=by simp at h3;omega
   rw[this] at e;simp at e;subst e;exact h1
 ·by_cases hi:i+1<ps.length
  ·rw[Qx (by omega)] at e1;rw[Qx hi] at e2;exact g.gap i q r e1 e2
  ·rw[QG (by omega)] at e2;obtain⟨h3,h4⟩:=Qh.mp e2;have h5:i+1-ps.length=0:=by simp at h3;omega
   rw[h5] at e2;simp at e2;subst e2;have h6:i=ps.length-1:=by omega
   have h7:i<ps.length:=by omega
   rw[Qx h7] at e1;rw[h6] at e1;exact h2 q e1

noncomputable def Jb7(t:Qc):List (Str×V):=[("stretches",.ref t)]
noncomputable def RowAt(C:Qc)(K:Qn)(H:Hp)(v:V)(ps:List Pr):Prop :=
 ∃x dx t ts,v=.ref x/\H x=some (.ins C dx (Jb7 t))/\H t=some (.tup ts)/\Prs K H ts ps
theorem RowAt.mono{C:Qc}{K:Qn}{H H':Hp}{v:V}{ps:List Pr}(e:Same H H')(r:RowAt C K H v ps):RowAt C K H' v ps:=by obtain⟨x,dx,t,ts,h0,h1,h2,h3⟩:=r;exact⟨x,dx,t,ts,h0,e _ _ h1,e _ _ h2,RepL.mono e h3⟩
structure RowC (K:Qn) (C:Qc):Prop where
 cl:Cls K C
 ns:NoAttr K C "stretches"
theorem Jd1(t:Qc):(Jb7 t).lookup ("stretches":Str)=some (.ref t):=by
 unfold Jb7;rw[K5];have:(("stretches":Str) == ("stretches":Str))=true:=by decide +kernel
 rw[this]
theorem Jft(t:Qc):UB "stretches" (.ref t) []=Jb7 t:=rfl

noncomputable def JaB(K:Qn):Sp:=fun vs H Q _=>∃v ps,vs=[v]/\Jf5 K H v ps/\Good ps/\∀H',Same H H'->Q .non H'
noncomputable def Vw(C:Qc)(K:Qn):Sp:=fun vs H Q _=>∃x dx v ps,vs=[.ref x,v]/\H x=some (.ins C dx [])/\Jf5 K H v ps/\Good ps/\ps.length<=30 ∧
 ∀H' t ts,SameEx x H H'->H' x=some (.ins C dx (Jb7 t))->H' t=some (.tup ts)->Prs K H' ts ps->Q .non H'
noncomputable def Jei(C:Qc)(sp:Sp)(E:XK)(vs:List V)(H1:Hp)(Q:VK):Prop:=∀x dx,H1 x=none->H1 dx=none->dx≠x ->
 sp (.ref x::vs) (upd (upd H1 dx (.own x)) x (.ins C dx [])) (fun v H2=>v=.non/\Q (.ref x) H2) E
theorem Jc5{C:Qc}{sp:Sp}{E:XK}{ts:TA}{σ:St}{H:Hp}{Q:VK}(q:ts σ H fun vs H1=>Jei C sp E vs H1 Q):Jbv C sp [] E ts σ H Q:=by
 have e:(fun vs H1=>Jei C sp E vs H1 Q)=fun vs H1=>∀x dx,H1 x=none->H1 dx=none->dx≠x->sp (.ref x::(vs++[])) (upd (upd H1 dx (.own x)) x (.ins C dx [])) (fun v H2=>v=.non/\Q (.ref x) H2) E:=by funext vs H1;rw[Q4];rfl
 show ts σ H _;rw[<- e];exact q
theorem Jj5{C:Qc}{K:Qn}{H:Hp}{Q:VK}{v:V}{ps:List Pr}{E:XK}(h:Jf5 K H v ps)(g:Good ps)(hl:ps.length<=30)(q:∀x H',H x=none->Same H H'->RowAt C K H' (.ref x) ps->Q (.ref x) H'):Jei C (Vw C K) E [v] H Q:=by
 intro x dx nx ndx nex
 have s0:Same H (upd (upd H dx (.own x)) x (.ins C dx [])):=fun b o e=>by rw[Jl (Jt e nx),Jl (Jt e ndx)];exact e
 obtain⟨a,vs,rfl,hq,hp⟩:=h;refine⟨x,dx,_,ps,rfl,Jx,⟨a,vs,rfl,hq.imp s0.seq s0.seqT,RepL.mono s0 hp⟩,g,hl,fun H' t ts e h1 h2 h3=>⟨rfl,q x H' nx (fun b o h=>e b o (Jt h nx) (s0 b o h)) ⟨x,dx,t,ts,rfl,h1,h2,h3⟩⟩⟩

noncomputable def cell(ns:List Int)(k:Int):Int:=ns.getD k.toNat 0
end LR

namespace LR
open PySem L2

theorem Jet{ns:List Int}{k:Int}(h:¬k<(ns.length:Int)):cell ns k=0:=by unfold cell;rw[Q3,GO (by omega)];rfl
noncomputable def spr(ns:List Int)(at' span p0:Int):Nat->Int×List Pr
 | 0=>(p0,[])
 | i+1=>((spr ns at' span p0 i).1+(1+cell ns (at'+1+2*i) % span)+1+cell ns (at'+2+2*i) % span,(spr ns at' span p0 i).2++[((spr ns at' span p0 i).1,1+cell ns (at'+1+2*i) % span)])
theorem U4(ns:List Int)(at' span p0:Int):∀i,(spr ns at' span p0 i).2.length=i
 | 0=>rfl
 | i+1=>by show(_++[_]).length=_;rw[QN,U4 ns at' span p0 i];rfl
theorem Jbt(ns:List Int)(at' span p0:Int)(hs:0<span):∀i,Good (spr ns at' span p0 i).2/\∀q,(spr ns at' span p0 i).2[i-1]?=some q->q.1+q.2<(spr ns at' span p0 i).1
 | 0=>⟨Good.nil,fun q e=>by simp[spr] at e⟩
 | i+1=>by
  obtain⟨g,h⟩:=Jbt ns at' span p0 hs i;have m1:=KF (cell ns (at'+1+2*i)) (b:=span) (by omega);have m2:=KF (cell ns (at'+2+2*i)) (b:=span) (by omega);refine⟨g.snoc (by show 1<=1+_;omega) (by rw[U4];exact h),fun q e=>?_⟩;have e':((spr ns at' span p0 i).2++[((spr ns at' span p0 i).1,1+cell ns (at'+1+2*i) % span)])[i]?=some q:=e;rw[QG (by rw[U4];exact Qr _),U4] at e'
  simp at e';subst e';show _+(1+_)<_+(1+_)+1+_;omega
noncomputable def Jb3(l:List Int)(k:Int):Int:=l.getD k.toNat 0
theorem Jbi{l:List Int}{k:Int}{P:Int->Prop}(h0:0<=k)(h1:k<(l.length:Int))(h:∀x∈l,P x):P (Jb3 l k):=by
 unfold Jb3;have:k.toNat<l.length:=by omega
 rw[Q3,Ge this];exact h _ (Kw this)
noncomputable def JfP(ns:List Int):Int:=Jb3 [2,7,1000,10 ^ 30] (cell ns 0 / 31 % 4)
noncomputable def Jcc(ns:List Int):Int:=Jb3 [3,1000,10 ^ 40] (cell ns 0 / 124 % 3)
theorem Jbs(ns:List Int):0<JfP ns:=Jbi (by omega) (by show _<(4:Int);omega) (by decide)
theorem JhO(ns:List Int):0<=Jcc ns:=Jbi (by omega) (by show _<(3:Int);omega) (by decide)
noncomputable def VG(ns:List Int):List Pr:=(spr ns 1 (JfP ns) (cell ns 1 % (2*Jcc ns+1)-Jcc ns) (cell ns 0 % 31).toNat).2
theorem Jb2(ns:List Int):Good (VG ns):=(Jbt ns 1 _ _ (Jbs ns) _).1
theorem JdR(ns:List Int):(VG ns).length<=30:=by unfold VG;rw[U4];omega
noncomputable def Jcq(ps:List Pr):Nat->V
 | 0=>.non
 | i+1=>match ps[i]? with
  | some p=>.int (p.1+p.2)
  | none=>.non
theorem UE{ps:List Pr}{i:Nat}{p:Pr}(e:ps[i]?=some p):Jcq ps (i+1)=.int (p.1+p.2):=by show(match ps[i]? with|some p=>V.int (p.1+p.2)|none=>V.non)=_;rw[e]
theorem Jeu{K:Qn}{v:V}{ps:List Pr}{H:Hp}{Q:VK}{E:XK}(h:Jf5 K H v ps)(g:Good ps)(q:∀H',Same H H'->Q .non H'):JaB K [v] H Q E:=⟨v,ps,rfl,h,g,q⟩
theorem Jbk{K:Qn}{a:Qc}{xs:List V}{H:Hp}{Q:VK}(h:SqL K H a xs\/SqT K H a xs)(q:Q (.int xs.length) H):Jb5 K [.ref a] H Q:=by
 rcases h with h|h
 ·exact Jhp h q
 ·exact Jhr h q
theorem SameEx.sqT'{K:Qn}{H H':Hp}{x a C dx:Qc}{fs:List (Str×V)}{xs:List V}(e:SameEx x H H')(hx:H x=some (.ins C dx fs))(h:SqT K H a xs):SqT K H' a xs:=by
 rcases h with (h|⟨o,h⟩)|h
 ·exact .inl (.inl (e _ _ (Ja0 h hx (by intro z;cases z)) h))
 ·exact .inl (.inr ⟨o,e _ _ (Ja0 h hx (by intro z;cases z)) h⟩)
 ·exact .inr h
theorem Prs.monoIns{K:Qn}{H H':Hp}{x C dx:Qc}{fs:List (Str×V)}{vs:List V}{ps:List Pr}(e:SameEx x H H')(hx:H x=some (.ins C dx fs))(r:Prs K H vs ps):Prs K H' vs ps:=by refine⟨r.1,fun i v d h1 h2=>?_⟩;obtain⟨p,a,e1,e2,e3⟩:=r.at h1;rw[Qw,e1] at h2;cases h2;subst e2;exact Jfl (SameEx.sqT' e hx e3)
noncomputable def Jdb(K:Qn):Sp:=fun vs H Q _=>∃(a:Qc) (ns:List Int),vs=[.ref a]/\SqL K H a (ns.map V.int)/\ns.length<=63/\∀H',Q (.bl true) H'
end LR
namespace LR
open PySem L2
end LR

namespace L2
open PySem PySem.Spec PyProof.Rows

section
variable{X:Cx}{pins:List (Qc×Obj)}{σ:St}{H:Hp}{s:Qd}
theorem ZO{A':Qu}{E:Qa->Qd->Prop}{Q:Qa->Qd->Prop}{a:Qc}{vs:List V}(hh:A'.handled=none)(I:Inv X pins σ H s)(hq:SqL X.K H a vs\/SqT X.K H a vs)
 (h:∀(its:List Qa) (J:Qc) (fp wr:List Qc) (Sx:Nat->QH->Prop) (s2:Qd),Vals vs its->Walks X.prog X.w A' J fp wr its.toArray.size (fun i v=>its.toArray[i]?=some v) Sx->Sx 0 s2.heap->(∀b∈fp,b<s2.heap.objs.size) ->
  (∀h' tk,(∀b o,b∉wr->s2.heap.get? b=some o->h'.get? b=some o)->Inv X pins σ H { s2 with heap:=h',toks:=tk })->Q (.ref J) s2):wpAny (model X.prog X.w) A' (pyIter (.ref a)) Q E s:=by
 have nin:∀b o,s.heap.get? b=some o->b∉[s.heap.objs.size]:=fun b o e z=>by
  have:b=s.heap.objs.size:=by simpa using z
  exact absurd (Qj e) (by rw[this];exact Q7 _)
 rcases hq with hq|hq
 ·obtain⟨its,rv,p,hz⟩:=I.list hq;have hlt:a<s.heap.objs.size:=by obtain⟨_,e,_⟩:=p.isList;exact Qj e
  refine wpAny_pyIter_list p.isList ?_;refine h its _ _ _ _ _ rv (Walks.list hh _ a (QI hlt) its.toArray) ⟨⟨_,QA _ rfl,rfl,rfl⟩,p.isList.push _⟩ (fun b hb=>?_) fun h' tk hk=>I.kept fun b o e=>hk b o (nin b o e) (Qf _ e)
  show b<(s.heap.push _).objs.size;rw[GB];rcases Qq.mp hb with z|z
  ·rw[z];exact G2 _
  ·have:b=a:=by simpa using z
   rw[this];exact Nat.lt_succ_of_lt hlt
 ·obtain⟨its,rv,p,hz⟩:=I.tuple hq;have ht:s.heap.IsTuple a its.toArray:=p;have hlt:a<s.heap.objs.size:=by obtain⟨_,e,_⟩:=ht;exact Qj e
  refine wpAny_pyIter_tuple ht ?_;refine h its _ _ _ _ _ rv (Walks.tuple hh _ a (QI hlt) its.toArray) ⟨⟨_,QA _ rfl,rfl,rfl⟩,?_⟩ (fun b hb=>?_) fun h' tk hk=>I.kept fun b o e=>hk b o (nin b o e) (Qf _ e)
  ·obtain⟨o,e,c⟩:=ht;exact⟨o,Qf _ e,c⟩
  ·show b<(s.heap.push _).objs.size;rw[GB];rcases Qq.mp hb with z|z
   ·rw[z];exact G2 _
   ·have:b=a:=by simpa using z
    rw[this];exact Nat.lt_succ_of_lt hlt
end

theorem Wg(l:List Int):∀j,j<=l.length->preSum (fun i=>l.getD i 0) j=(l.take j).sum
 | 0,_=>by simp[preSum]
 | j+1,h=>by
  rw[preSum,Wg l j (by omega)];have hj:j<l.length:=by omega
  rw[List.take_add_one,List.sum_append];simp[hj]
section
variable{X:Cx}
noncomputable def JjL(K:Qn):List V->Hp->VK->Prop:=fun xs H Q=>∃(a:Qc) (ns:List Int),xs=[.ref a]/\(SqL K H a (ns.map V.int)\/SqT K H a (ns.map V.int))/\Q (.int ns.sum) H
theorem Jdu(hc:X.calm=true):CallR X (.builtin "sum") (JjL X.K):=by
 intro pins s σ H xs us Q I r h;obtain⟨a,ns,rfl,hq,q⟩:=h;obtain⟨u,rfl,rx⟩:=Zm r;cases rx;refine call_sum_walkG (ZO (A':=X.A.in1) (I.ok.hd hc) I hq fun its J fp wr Sx s2 rv W st hfp hI=>?_);have hi:=JbQ rv;have hl:=rv.length;rw[QR] at hl;refine⟨J,fp,wr,_,_,Sx,fun i=>ns.getD i 0,rfl,W,st,hfp,fun i v e=>?_,fun h' tk t' hk=>?_⟩
 ·have e':its[i]?=some v:=by simpa using e
  obtain⟨x,e1,e2⟩:=rv.get' e';rw[Qw] at e1
  cases hn:ns[i]? with
  | none=>rw[hn] at e1;cases e1
  | some n=>rw[hn] at e1;cases e1;obtain⟨t,rfl⟩:=e2;exact⟨t,by simp[Q3,hn]⟩
 ·refine⟨.int ns.sum,H,hI h' tk hk,⟨t',?_⟩,q⟩;rw[show its.toArray.size=ns.length by simp[hl],Wg ns _ (Qr _),List.take_length]
noncomputable def JjH(K:Qn):List V->Hp->VK->Prop:=fun xs H Q=>∃(a:Qc) (bs:List Bool),xs=[.ref a]/\(SqL K H a (bs.map V.bl)\/SqT K H a (bs.map V.bl))/\Q (.bl (bs.any id)) H
theorem JdX(bs:List Bool):(QV bs.length).any (fun i=>bs.getD i false)=bs.any id:=by
 rw[GJ];simp only[List.any_eq_true,Lq,id];constructor
 ·rintro⟨i,hi,e⟩;simp[Q3,hi] at e;exact⟨bs[i],Kw hi,e⟩
 ·rintro⟨b,hb,rfl⟩;obtain⟨i,hi,e⟩:=Lw.mp hb;exact⟨i,hi,by simp[Q3,hi,e]⟩
theorem Jbz{A:Qu}{bs:List Bool}{its:List Qa}(rv:Vals (bs.map V.bl) its):TruthOf X.prog X.w A (fun i v=>its.toArray[i]?=some v) (fun i=>bs.getD i false):=by
 intro i v s Q E e q;have e':its[i]?=some v:=by simpa using e
 obtain⟨x,e1,e2⟩:=rv.get' e';rw[Qw] at e1
 cases hn:bs[i]? with
 | none=>rw[hn] at e1;cases e1
 | some n =>
  rw[hn] at e1;cases e1;cases e2;have:bs.getD i false=n:=by simp[Q3,hn]
  have q':Q (bs.getD i false) s:=q;rw[this] at q';exact Gh q'
theorem Jdo(hc:X.calm=true):CallR X (.builtin "any") (JjH X.K):=by intro pins s σ H xs us Q I r h;obtain⟨a,bs,rfl,hq,q⟩:=h;obtain⟨u,rfl,rx⟩:=Zm r;cases rx;refine call_any_walk (ZO (A':=X.A.in1) (I.ok.hd hc) I hq fun its J fp wr Sx s2 rv W st hfp hI=>?_);have hl:=rv.length;rw[QR] at hl;refine⟨J,fp,wr,_,_,Sx,_,rfl,W,st,Jbz rv,fun h' tk hk=>⟨.bl _,H,hI h' tk hk,rfl,?_⟩⟩;rw[show its.toArray.size=bs.length by simp[hl],JdX];exact q
noncomputable def strI(i:Int):Str:=(toString i:String)
theorem Zh:∀{ys:List Str} {us:List Qa},Vals (ys.map V.str) us->StrsAre us ys
 | [],_,r=>by cases r;exact .nil
 | y::ys,_,r=>by
  cases r with
  | cons r1 r2=>obtain⟨t,rfl⟩:=r1;exact .cons y t (Zh r2)
noncomputable def Jc3(K:Qn):V->List V->Hp->VK->Prop:=fun x vs H Q=>∃(z:Str) (a:Qc) (ys:List Str),x=.str z/\vs=[.ref a]/\SqL K H a (ys.map V.str)/\(ys.map (·.length)).sum+ys.length*z.length<=16777216/\Q (.str (Lx z ys)) H
theorem JgU:MtM X "str.join" (Jc3 X.K):=by intro pins s σ H x vs v us Q I rx rv h;obtain⟨z,a,ys,rfl,rfl,hq,hw,q⟩:=h;obtain⟨t,rfl⟩:=rx;obtain⟨u,rfl,ru⟩:=rv.one;cases ru;obtain⟨its,r,p,hz⟩:=I.list hq;have e:Txt.join z ys=Lx z ys:=eq_of_beq (join_closes rfl);exact join_list p.isList (Zh r) hw fun t' k=>⟨.str _,H,I.tok k,⟨t',by rw[e]⟩,q⟩
end
section
variable{X:Cx}{K:Qn}
theorem ZI(hK:X.K=K)(hc:X.calm=true):CallR X (.builtin "sum") (JjL K):=hK▸Jdu hc
theorem Jdn(hK:X.K=K)(hc:X.calm=true):CallR X (.builtin "any") (JjH K):=hK▸Jdo hc
theorem JaZ(hK:X.K=K):MtM X "str.join" (Jc3 K):=hK▸JgU
end
section
variable{K:Qn}{H:Hp}{Q:VK}
theorem Jho{z:Str}{a:Qc}{ys:List Str}(h:SqL K H a (ys.map V.str))(hw:(ys.map (·.length)).sum+ys.length*z.length<=16777216)(q:Q (.str (Lx z ys)) H):Jc3 K (.str z) [.ref a] H Q:=⟨z,a,ys,rfl,rfl,h,hw,q⟩
end
end L2
namespace L2
open PySem PySem.Spec PyProof.Rows
noncomputable def AllP{α:Type}(P:α->Prop):List α->Prop
 | []=>True
 | x::xs=>P x/\AllP P xs
theorem AllP.mem{α:Type}{P:α->Prop}:∀{l:List α},AllP P l->∀x∈l,P x
 | [],_,x,hx=>nomatch hx
 | y::l,h,x,hx=>by
  rcases Qq.mp hx with z|z
  ·rw[z];exact h.1
  ·exact AllP.mem h.2 x z
theorem Vg{cl:List (Str×Qc)}{x:Str}(h:cl.any (fun p=>p.1 == x)=true):(cl.lookup x).isSome=true:=by
 induction cl with
 | nil=>simp at h
 | cons p cl ih =>
  obtain⟨n,a⟩:=p;rw[K5]
  by_cases e:x == n
  ·rw[e];rfl
  ·have e':(x == n)=false:=by simpa using e
   rw[e'];rw[KA] at h;rcases Bool.or_eq_true_iff.mp h with z|z
   ·have:n=x:=eq_of_beq z;rw[this] at e';simp at e'
   ·exact ih z
theorem Jiu{X:Cx}{sc:KN}{cl:List (Str×Qc)}{own:List Str}{fr:List (Str×Nat)}(h1:sc.kind=.function)(h2:closureFor sc X.env=pure cl)
 (h3:(sc.names.all fun y=>y.2 != .cell && (y.2 != .local || sc.names.lookup y.1 == some .local))=true) (h4:AllP (fun p=>X.env.cells.lookup p.1=some p.2) cl)
 (h5:((relabel sc X.env).names.all fun y=>(y.2 != .cell && y.2 != .free) || cl.any (fun p=>p.1 == y.1))=true)
 (h6:AllP (fun p=>X.N[p.2]?=some p.1/\X.env.scope.names.lookup p.1=some .cell/\(relabel sc X.env).names.lookup p.1=some .cell) fr) :
 Blk X sc cl (own++fr.map (·.1)) (own.map (fun _=>none)++fr.map (fun p=>some p.2)):=by
 simp only[Gr,QL] at h3;simp only[Gr] at h5;refine⟨h2,h1,fun y hy=>?_,fun y hy hl=>?_,AllP.mem h4,fun y hy hk=>?_,by simp,fun p hp k e=>?_⟩
 ·have:=(h3 y hy).1
  simpa using this
 ·have:=(h3 y hy).2;rw[hl] at this
  simpa using this
 ·have:=h5 y hy;rcases Bool.or_eq_true_iff.mp this with z|z
  ·rcases hk with q|q
   ·rw[q] at z;simp at z
   ·rw[q] at z;simp at z
  ·exact Vg z
 ·rw[List.zip_append (by simp)] at hp;rcases Gx.mp hp with z|z
  ·have:=(GK z).1;obtain⟨_,_,q⟩:=Kr.mp this;rw[<- q] at e;cases e
  ·rw[List.zip_map_left] at z;obtain⟨q,hq,eq⟩:=Kr.mp z
   have hz:q.1∈fr/\q.1.1=q.2:=by
    clear h6 e eq z hp;rw[List.zip_map_right] at hq;obtain⟨q',hq',eq'⟩:=Kr.mp hq
    have:q'.1=q'.2:=by
     clear eq' hq
     induction fr with
     | nil=>cases hq'
     | cons x fr ih =>
      rcases Qq.mp hq' with z|z
      ·rw[z]
      ·exact ih z
    rw[<- eq'];exact⟨(GK hq').1,by show q'.1.1=q'.2.1;rw[this]⟩
   obtain⟨a1,a2,a3⟩:=AllP.mem h6 q.1 hz.1;rw[<- eq] at e ⊢;have ek:q.1.2=k:=by simpa using e
   subst ek;rw[hz.2] at a1 a2 a3;exact⟨a1,.inl a2,.inl a3⟩
end L2

namespace LR
open PySem L2

noncomputable def Small(i:Int):Prop:=i.natAbs.log2<1920
theorem Small.of{i:Int}(h:i.natAbs<2 ^ 1920):Small i:=by
 unfold Small
 by_cases h0:i.natAbs=0
 ·rw[h0];decide
 ·exact(Nat.log2_lt h0).mpr h
end LR

namespace LE
open PySem L2 LR

structure Xm where
 n:Str
 k:Option Int
instance:Coe Str Xm:=⟨fun s=>⟨s,none⟩⟩
noncomputable def WH:Qa->Qa
 | .int i _=>.ref i.toNat
 | v=>v
noncomputable def JaO:Qa->Option Qc
 | .int _ t=>some t
 | _=>none
inductive D where
 | non|bl (b:Bool)|int (i:Int)|str (x:Str)|tup (l:List D)|lst (l:List D)|fz (l:List D)|row (l:List D)|dct (ks:List Int) (l:List D)|dfz (ks:List Int) (l:List D)|exc (n:Xm)
noncomputable def dkO(ks:List Int)(xs:List V):HO:=.dK ((ks.map Sum.inl).zip xs)
noncomputable def dtK(p:Int×Int):List Key:=[Sum.inl p.1,Sum.inl p.2]
noncomputable def dtO(ps:List (Int×Int))(xs:List V):HO:=.dT ((ps.map dtK).zip xs)
noncomputable def XO(a:Qc)(c:Qa):HO:=.ext fun h=>∃o,h.get? a=some o/\o.cls=WH c/\notCls o=true/\o.dict=JaO c
noncomputable def XC(K:Qn)(n:Xm)(c:Qa)(H:Hp):Prop:=∃a:Nat,nsIn K mainGlobals n.n=some (some (.ref a))/\match n.k with
 | none=>c=.ref a
 | some k=>∃t,c=.int a t/\H t=some (.xd [("at",.int k)])
theorem XC.mono{K:Qn}{n:Xm}{c:Qa}{H H':Hp}(e:Same H H')(x:XC K n c H):XC K n c H':=by
 obtain⟨a,h1,h2⟩:=x;refine⟨a,h1,?_⟩
 cases z:n.k with
 | none=>rw[z] at h2;exact h2
 | some k=>rw[z] at h2;obtain⟨t,h3,h4⟩:=h2;exact⟨t,h3,e _ _ h4⟩
theorem XC.cls{K:Qn}{n:Xm}{c:Qa}{H:Hp}(x:XC K n c H):∃a,nsIn K mainGlobals n.n=some (some (.ref a))/\WH c=.ref a:=by
 obtain⟨a,h1,h2⟩:=x;refine⟨a,h1,?_⟩
 cases z:n.k with
 | none=>rw[z] at h2;cases h2;rfl
 | some k=>rw[z] at h2;obtain⟨t,h3,h4⟩:=h2;cases h3;rfl
noncomputable def XdO(c:Qa)(H:Hp):Prop:=match JaO c with
 | none=>True
 | some t=>∃fs,H t=some (.xd fs)
theorem XC.xd{K:Qn}{n:Xm}{c:Qa}{H:Hp}(x:XC K n c H):XdO c H:=by
 obtain⟨a,h1,h2⟩:=x
 cases z:n.k with
 | none=>rw[z] at h2;cases h2;exact True.intro
 | some k=>rw[z] at h2;obtain⟨t,h3,h4⟩:=h2;cases h3;exact⟨_,h4⟩

section
variable(K:Qn)(C:Qc)
inductive RD (H:Hp):V->D->Prop
 | non:RD H .non .non
 | bl (b:Bool):RD H (.bl b) (.bl b)
 | int (i:Int):RD H (.int i) (.int i)
 | str (x:Str):RD H (.str x) (.str x)
 | tup {a:Qc} {xs:List V} {ds:List D}:SqT K H a xs->xs.length=ds.length->(∀(i:Nat) (x:V) (d:D),xs[i]?=some x->ds[i]?=some d->RD H x d)->RD H (.ref a) (.tup ds)
 | lst {a:Qc} {xs:List V} {ds:List D}:H a=some (.lst xs)->xs.length=ds.length->(∀(i:Nat) (x:V) (d:D),xs[i]?=some x->ds[i]?=some d->RD H x d)->RD H (.ref a) (.lst ds)
 | fz {a:Qc} {xs:List V} {ds:List D}:SqL K H a xs->xs.length=ds.length->(∀(i:Nat) (x:V) (d:D),xs[i]?=some x->ds[i]?=some d->RD H x d)->RD H (.ref a) (.fz ds)
 | row {x dx t:Qc} {ts:List V} {ds:List D}:H x=some (.ins C dx (Jb7 t))->SqT K H t ts->ts.length=ds.length->(∀(i:Nat) (x:V) (d:D),ts[i]?=some x->ds[i]?=some d->RD H x d)->RD H (.ref x) (.row ds)
 | dct {a:Qc} {ks:List Int} {xs:List V} {ds:List D}:H a=some (dkO ks xs)->ks.length=ds.length->xs.length=ds.length->(∀(i:Nat) (x:V) (d:D),xs[i]?=some x->ds[i]?=some d->RD H x d)->RD H (.ref a) (.dct ks ds)
 | dfz {a:Qc} {ks:List Int} {xs:List V} {ds:List D} {o:Obj}:H a=some (.frz o (dkO ks xs))->ks.length=ds.length->xs.length=ds.length->(∀(i:Nat) (x:V) (d:D),xs[i]?=some x->ds[i]?=some d->RD H x d)->RD H (.ref a) (.dfz ks ds)
 | exc {a:Qc} {c:Qa} {n:Xm}:H a=some (XO a c)->XC K n c H->RD H (.ref a) (.exc n)
noncomputable def RDL(H:Hp)(xs:List V)(ds:List D):Prop:=xs.length=ds.length/\∀(i:Nat) (x:V) (d:D),xs[i]?=some x->ds[i]?=some d->RD K C H x d
end

section
variable{K:Qn}{C:Qc}{H H':Hp}
theorem RD.mono{v:V}{d:D}(e:Same H H')(r:RD K C H v d):RD K C H' v d:=by
 induction r with
 | non=>exact .non
 | bl b=>exact .bl b
 | int i=>exact .int i
 | str x=>exact .str x
 | tup h l _ ih=>exact .tup (e.seqT h) l ih
 | lst h l _ ih=>exact .lst (e _ _ h) l ih
 | fz h l _ ih=>exact .fz (e.seq h) l ih
 | row h1 h2 l _ ih=>exact .row (e _ _ h1) (e.seqT h2) l ih
 | dct h1 h2 l _ ih=>exact .dct (e _ _ h1) h2 l ih
 | dfz h1 h2 l _ ih=>exact .dfz (e _ _ h1) h2 l ih
 | exc h1 h2=>exact .exc (e _ _ h1) (h2.mono e)
theorem RDL.mono{xs:List V}{ds:List D}(e:Same H H')(r:RDL K C H xs ds):RDL K C H' xs ds:=⟨r.1,fun i x d h1 h2=>(r.2 i x d h1 h2).mono e⟩
theorem RDL.nil:RDL K C H [] []:=⟨rfl,fun i x d e=>by simp at e⟩
theorem RDL.cons{x:V}{d:D}{xs:List V}{ds:List D}(h:RD K C H x d)(r:RDL K C H xs ds):RDL K C H (x::xs) (d::ds):=by
 refine⟨by simp[r.1],fun i y e h1 h2=>?_⟩
 cases i with
 | zero=>simp at h1 h2;subst h1 h2;exact h
 | succ i=>exact r.2 i y e (by simpa using h1) (by simpa using h2)
theorem RDL.append{xs ys:List V}{ds es:List D}(r:RDL K C H xs ds)(q:RDL K C H ys es):RDL K C H (xs++ys) (ds++es):=by
 refine⟨by simp[r.1,q.1],fun i x d h1 h2=>?_⟩
 by_cases hi:i<xs.length
 ·rw[Qx hi] at h1;rw[Qx (by rw[<- r.1];exact hi)] at h2;exact r.2 i x d h1 h2
 ·rw[QG (by omega)] at h1;rw[QG (by rw[<- r.1];omega)] at h2;rw[<- r.1] at h2;exact q.2 _ x d h1 h2
theorem RDL.snoc{xs:List V}{ds:List D}{x:V}{d:D}(r:RDL K C H xs ds)(h:RD K C H x d):RDL K C H (xs++[x]) (ds++[d]):=r.append (.cons h .nil)
theorem RDL.get{xs:List V}{ds:List D}{i:Nat}{d:D}(r:RDL K C H xs ds)(e:ds[i]?=some d):∃x,xs[i]?=some x/\RD K C H x d:=by
 have hi:=(Qh.mp e).1
 have hx:i<xs.length:=by rw[r.1];exact hi
 exact⟨xs[i],by simp[hx],r.2 i _ d (by simp[hx]) e⟩
theorem RDL.get'{xs:List V}{ds:List D}{i:Nat}{x:V}(r:RDL K C H xs ds)(e:xs[i]?=some x):∃d,ds[i]?=some d/\RD K C H x d:=by
 have hi:=(Qh.mp e).1
 have hx:i<ds.length:=by rw[<- r.1];exact hi
 exact⟨ds[i],by simp[hx],r.2 i x _ e (by simp[hx])⟩
theorem RDL.head{x:V}{xs:List V}{d:D}{ds:List D}(r:RDL K C H (x::xs) (d::ds)):RD K C H x d:=r.2 0 x d rfl rfl
theorem RDL.tail{x:V}{xs:List V}{d:D}{ds:List D}(r:RDL K C H (x::xs) (d::ds)):RDL K C H xs ds:=⟨by have:=r.1;simpa using this,fun i y e h1 h2=>r.2 (i+1) y e (by simpa using h1) (by simpa using h2)⟩
theorem RDL.take{xs:List V}{ds:List D}(n:Nat)(r:RDL K C H xs ds):RDL K C H (xs.take n) (ds.take n):=by
 refine⟨by simp[r.1],fun i x d h1 h2=>?_⟩;rw[List.getElem?_take] at h1 h2;split at h1
 ·rw[if_pos (by assumption)] at h2;exact r.2 i x d h1 h2
 ·cases h1
theorem RDL.drop{xs:List V}{ds:List D}(n:Nat)(r:RDL K C H xs ds):RDL K C H (xs.drop n) (ds.drop n):=by refine⟨by simp[r.1],fun i x d h1 h2=>?_⟩;rw[List.getElem?_drop] at h1 h2;exact r.2 _ x d h1 h2
theorem RDL.set{xs:List V}{ds:List D}{v:V}{e:D}(n:Nat)(r:RDL K C H xs ds)(h:RD K C H v e):RDL K C H (xs.set n v) (ds.set n e):=by
 refine⟨by simp[r.1],fun i x d h1 h2=>?_⟩;rw[QJ] at h1 h2;split at h1
 ·rw[if_pos (by assumption)] at h2;split at h1
  ·rw[if_pos (by rw[<- r.1];assumption)] at h2;cases h1;cases h2;exact h
  ·cases h1
 ·rw[if_neg (by assumption)] at h2;exact r.2 i x d h1 h2
theorem RDL.reverse{xs:List V}{ds:List D}(r:RDL K C H xs ds):RDL K C H xs.reverse ds.reverse:=by
 refine⟨by simp[r.1],fun i x d h1 h2=>?_⟩;have hi:i<xs.length:=by have:=(Qh.mp h1).1;simpa using this
 rw[Lk hi] at h1;rw[Lk (by rw[<- r.1];exact hi)] at h2;rw[<- r.1] at h2;exact r.2 _ x d h1 h2
theorem RDL.ints:∀{xs:List V} {ns:List Int},RDL K C H xs (ns.map D.int)->xs=ns.map V.int
 | [],[],_=>rfl
 | [],_::_,r=>by have:=r.1;simp at this
 | _::_,[],r=>by have:=r.1;simp at this
 | x::xs,n::ns,r=>by have h:=r.head;cases h;rw[RDL.ints r.tail];rfl
theorem RDL.ofInts:∀(ns:List Int),RDL K C H (ns.map V.int) (ns.map D.int)
 | []=>.nil
 | n::ns=>.cons (.int n) (RDL.ofInts ns)
theorem RDL.bls:∀{xs:List V} {ns:List Bool},RDL K C H xs (ns.map D.bl)->xs=ns.map V.bl
 | [],[],_=>rfl
 | [],_::_,r=>by have:=r.1;simp at this
 | _::_,[],r=>by have:=r.1;simp at this
 | x::xs,n::ns,r=>by have h:=r.head;cases h;rw[RDL.bls r.tail];rfl
theorem RDL.strs:∀{xs:List V} {ns:List Str},RDL K C H xs (ns.map D.str)->xs=ns.map V.str
 | [],[],_=>rfl
 | [],_::_,r=>by have:=r.1;simp at this
 | _::_,[],r=>by have:=r.1;simp at this
 | x::xs,n::ns,r=>by have h:=r.head;cases h;rw[RDL.strs r.tail];rfl
theorem RD.mkT{a:Qc}{xs:List V}{ds:List D}(h:SqT K H a xs)(r:RDL K C H xs ds):RD K C H (.ref a) (.tup ds):=.tup h r.1 r.2
theorem RD.mkL{a:Qc}{xs:List V}{ds:List D}(h:H a=some (.lst xs))(r:RDL K C H xs ds):RD K C H (.ref a) (.lst ds):=.lst h r.1 r.2
theorem RD.mkF{a:Qc}{xs:List V}{ds:List D}(h:SqL K H a xs)(r:RDL K C H xs ds):RD K C H (.ref a) (.fz ds):=.fz h r.1 r.2
theorem RD.tupI{v:V}{ds:List D}(r:RD K C H v (.tup ds)):∃a xs,v=.ref a/\SqT K H a xs/\RDL K C H xs ds:=by
 cases r with
 | tup h l q=>exact⟨_,_,rfl,h,l,q⟩
theorem RD.lstI{v:V}{ds:List D}(r:RD K C H v (.lst ds)):∃a xs,v=.ref a/\H a=some (.lst xs)/\RDL K C H xs ds:=by
 cases r with
 | lst h l q=>exact⟨_,_,rfl,h,l,q⟩
theorem RD.fzI{v:V}{ds:List D}(r:RD K C H v (.fz ds)):∃a xs,v=.ref a/\SqL K H a xs/\RDL K C H xs ds:=by
 cases r with
 | fz h l q=>exact⟨_,_,rfl,h,l,q⟩
theorem RD.rowI{v:V}{ds:List D}(r:RD K C H v (.row ds)):∃x dx t ts,v=.ref x/\H x=some (.ins C dx (Jb7 t))/\SqT K H t ts/\RDL K C H ts ds:=by
 cases r with
 | row h1 h2 l q=>exact⟨_,_,_,_,rfl,h1,h2,l,q⟩
theorem RD.mkD{a:Qc}{ks:List Int}{xs:List V}{ds:List D}(h:H a=some (dkO ks xs))(hk:ks.length=ds.length)(r:RDL K C H xs ds):RD K C H (.ref a) (.dct ks ds):=.dct h hk r.1 r.2
theorem RD.dctI{v:V}{ks:List Int}{ds:List D}(r:RD K C H v (.dct ks ds)):∃a xs,v=.ref a/\H a=some (dkO ks xs)/\ks.length=ds.length/\RDL K C H xs ds:=by
 cases r with
 | dct h hk l q=>exact⟨_,_,rfl,h,hk,l,q⟩
theorem RD.dfzI{v:V}{ks:List Int}{ds:List D}(r:RD K C H v (.dfz ks ds)):∃a xs o,v=.ref a/\H a=some (.frz o (dkO ks xs))/\ks.length=ds.length/\RDL K C H xs ds:=by
 cases r with
 | dfz h hk l q=>exact⟨_,_,_,rfl,h,hk,l,q⟩
theorem RD.excI{v:V}{n:Xm}(r:RD K C H v (.exc n)):∃a c,v=.ref a/\H a=some (XO a c)/\XC K n c H:=by
 cases r with
 | exc h1 h2=>exact⟨_,_,rfl,h1,h2⟩
theorem RD.intI{v:V}{i:Int}(r:RD K C H v (.int i)):v=.int i:=by cases r;rfl
theorem RD.strI{v:V}{i:Str}(r:RD K C H v (.str i)):v=.str i:=by cases r;rfl
theorem RD.blI{v:V}{i:Bool}(r:RD K C H v (.bl i)):v=.bl i:=by cases r;rfl
theorem RD.nonI{v:V}(r:RD K C H v .non):v=.non:=by cases r;rfl
end

mutual
noncomputable def D.py:D->PyData
 | .non=>.none
 | .bl b=>.bool b
 | .int i=>.int i
 | .str x=>.str x
 | .tup l=>.tuple (D.pyL l)
 | .lst l=>.list (D.pyL l)
 | .fz l=>.list (D.pyL l)
 | .row _=>.dict []
 | .dct _ _=>.dict []
 | .dfz _ _=>.dict []
 | .exc _=>.dict []
noncomputable def D.pyL:List D->List PyData
 | []=>[]
 | d::ds=>d.py::D.pyL ds
end
theorem JcZ:∀ds:List D,D.pyL ds=ds.map D.py
 | []=>rfl
 | d::ds=>by rw[D.pyL,JcZ ds];rfl
theorem W1:∀{ds:List PyData},GS ds=true->∀d∈ds,d.canLay0=true
 | [],_,d,hd=>nomatch hd
 | x::ds,h,d,hd=>by
  have h':(PyData.canLay0 x && GS ds)=true:=h;rw[QL] at h';rcases Qq.mp hd with z|z
  ·rw[z];exact h'.1
  ·exact W1 h'.2 d z
theorem RD.rep{K:Qn}{C:Qc}{H:Hp}{v:V}{d:D}(r:RD K C H v d):d.py.canLay0=true->Rep K H v d.py:=by
 have all:∀{xs:List V} {ds:List D},xs.length=ds.length->(∀(i:Nat) (x:V) (d:D),xs[i]?=some x->ds[i]?=some d->d.py.canLay0=true->Rep K H x d.py)->GS (D.pyL ds)=true->RepL K H xs (D.pyL ds):=by
  intro xs ds l ih hc;rw[JcZ] at hc ⊢;refine⟨by simpa using l,fun i x d h1 h2=>?_⟩;rw[Qw] at h2
  cases e:ds[i]? with
  | none=>rw[e] at h2;cases h2
  | some q=>rw[e] at h2;cases h2;exact ih i x q h1 e (W1 hc _ (Kr.mpr ⟨q,QY e,rfl⟩))
 induction r with
 | non=>intro _;exact .non
 | bl b=>intro _;exact .bl b
 | int i=>intro _;exact .int i
 | str x=>intro _;exact .str x
 | tup h l _ ih=>intro hc;exact .tupL h (all l ih hc)
 | lst h l _ ih=>intro hc;exact .lstL (.of h) (all l ih hc)
 | fz h l _ ih=>intro hc;exact .lstL h (all l ih hc)
 | row h1 h2 l _ ih=>intro hc;cases hc
 | dct h1 h2 l _ ih=>intro hc;cases hc
 | dfz h1 h2 l _ ih=>intro hc;cases hc
 | exc h1 h2=>intro hc;cases hc

inductive Sl where
 | no|sh (d:D)|bo (ds:List D)|own (ds:List D)|bd (ks:List Int) (ds:List D)|od (ks:List Int) (ds:List D)|bt (ps:List (Int×Int)) (ds:List D)|ot (ps:List (Int×Int)) (ds:List D)
noncomputable def JK:Sl->Bool
 | .own _=>true
 | .od _ _=>true
 | .ot _ _=>true
 | _=>false
noncomputable def JiW:Sl->Bool
 | .bo _=>true
 | .bd _ _=>true
 | .bt _ _=>true
 | _=>false

section
variable(K:Qn)(C:Qc)
noncomputable def RR(Hs H0 H:Hp)(v:V):Sl->Prop
 | .no=>False
 | .sh d=>RD K C H0 v d
 | .bo ds=>∃l xs,v=.ref l/\H l=some (.lst xs)/\RDL K C H0 xs ds
 | .own ds=>∃l xs,v=.ref l/\H l=some (.lst xs)/\H0 l=none/\Hs l=none/\RDL K C H0 xs ds
 | .bd ks ds=>∃l xs,v=.ref l/\H l=some (dkO ks xs)/\ks.length=ds.length/\RDL K C H0 xs ds
 | .bt ks ds=>∃l xs,v=.ref l/\H l=some (dtO ks xs)/\ks.length=ds.length/\RDL K C H0 xs ds
 | .od ks ds=>∃l xs,v=.ref l/\H l=some (dkO ks xs)/\H0 l=none/\Hs l=none/\ks.length=ds.length/\RDL K C H0 xs ds
 | .ot ks ds=>∃l xs,v=.ref l/\H l=some (dtO ks xs)/\H0 l=none/\Hs l=none/\ks.length=ds.length/\RDL K C H0 xs ds
noncomputable def RSl(B H0 H:Hp)(v:V):Sl->Prop
 | .no=>True
 | .sh d=>RD K C H0 v d
 | .bo ds=>∃l xs,v=.ref l/\B l=some (.lst xs)/\RDL K C H0 xs ds
 | .own ds=>∃l xs,v=.ref l/\H l=some (.lst xs)/\H0 l=none/\B l=none/\RDL K C H0 xs ds
 | .bd ks ds=>∃l xs,v=.ref l/\B l=some (dkO ks xs)/\ks.length=ds.length/\RDL K C H0 xs ds
 | .bt ks ds=>∃l xs,v=.ref l/\B l=some (dtO ks xs)/\ks.length=ds.length/\RDL K C H0 xs ds
 | .od ks ds=>∃l xs,v=.ref l/\H l=some (dkO ks xs)/\H0 l=none/\B l=none/\ks.length=ds.length/\RDL K C H0 xs ds
 | .ot ks ds=>∃l xs,v=.ref l/\H l=some (dtO ks xs)/\H0 l=none/\B l=none/\ks.length=ds.length/\RDL K C H0 xs ds
structure EnvR (B H0 H:Hp) (σ:St) (E:List Sl):Prop where
 b:Same B H
 h:Same H0 H
 len:σ.length=E.length
 at':∀(i:Nat) (s:Sl),E[i]?=some s->s=.no\/∃v,σ[i]?=some (some v)/\RSl K C B H0 H v s
 sep:∀(i j:Nat) (s t:Sl) (v:V),i≠j->E[i]?=some s->E[j]?=some t->JK s=true->JK t=true->σ[i]?=some (some v)->σ[j]?≠some (some v)
end
noncomputable def isT:HO->Bool
 | .tup _=>true
 | .frz _ (.tup _)=>true
 | _=>false
structure Step (Hs H0 H H0' H':Hp):Prop where
 h:Same H H'
 z:Same H0 H0'
 n:∀a o,H0' a=some o->H0 a=some o\/Hs a=none\/isT o=true
 i:Same H0' H'
structure SStep (B H0 H0' H':Hp):Prop where
 b:Same B H'
 z:Same H0 H0'
 n:∀a o,H0' a=some o->H0 a=some o\/B a=none\/isT o=true
 i:Same H0' H'

section
variable{K:Qn}{C:Qc}{B Hs H0 H H0' H' H0'' H'':Hp}{σ:St}{E:List Sl}{v:V}{s:Sl}
theorem Step.refl(i:Same H0 H):Step Hs H0 H H0 H:=⟨Same.refl _,Same.refl _,fun _ _ e=>.inl e,i⟩
theorem Step.comp{Hs':Hp}(s1:Step Hs H0 H H0' H')(s2:Step Hs' H0' H' H0'' H'')(w:∀a,Hs' a=none->Hs a=none):Step Hs H0 H H0'' H'' :=
 ⟨s1.h.trans s2.h,s1.z.trans s2.z,fun a o e=>(s2.n a o e).elim (fun q=>s1.n a o q) fun q=>.inr (q.imp (w a) id),s2.i⟩
theorem Step.trans(s1:Step H H0 H H0' H')(s2:Step H' H0' H' H0'' H''):Step H H0 H H0'' H'':=s1.comp s2 fun _ q=>Same.free s1.h q
theorem Step.ss(b:Same B H)(s:Step H H0 H H0' H'):SStep B H0 H0' H':=⟨b.trans s.h,s.z,fun a o e=>(s.n a o e).imp id fun q=>q.imp (fun q=>Same.free b q) id,s.i⟩
theorem SStep.refl(b:Same B H)(i:Same H0 H):SStep B H0 H0 H:=⟨b,Same.refl _,fun _ _ e=>.inl e,i⟩
theorem SStep.trans(s1:SStep B H0 H0' H')(s2:SStep B H0' H0'' H''):SStep B H0 H0'' H'':=⟨s2.b,s1.z.trans s2.z,fun a o e=>(s2.n a o e).elim (fun q=>s1.n a o q) .inr,s2.i⟩
theorem RR.step(r:RR K C Hs H0 H v s)(st:Step H H0 H H0' H'):RR K C Hs H0' H' v s:=by
 cases s with
 | no=>exact r
 | sh d=>exact RD.mono st.z r
 | bo ds=>obtain⟨l,xs,e,h,q⟩:=r;exact⟨l,xs,e,st.h _ _ h,q.mono st.z⟩
 | bd ks ds=>obtain⟨l,xs,e,h,hk,q⟩:=r;exact⟨l,xs,e,st.h _ _ h,hk,q.mono st.z⟩
 | bt ks ds=>obtain⟨l,xs,e,h,hk,q⟩:=r;exact⟨l,xs,e,st.h _ _ h,hk,q.mono st.z⟩
 | own ds =>
  obtain⟨l,xs,e,h,n,m,q⟩:=r;refine⟨l,xs,e,st.h _ _ h,?_,m,q.mono st.z⟩
  cases z:H0' l with
  | none=>rfl
  | some o =>
   rcases st.n l o z with y|y|y
   ·rw[n] at y;cases y
   ·rw[h] at y;cases y
   ·have:=st.i l o z;rw[st.h _ _ h] at this;cases this;cases y
 | od ks ds =>
  obtain⟨l,xs,e,h,n,m,hk,q⟩:=r;refine⟨l,xs,e,st.h _ _ h,?_,m,hk,q.mono st.z⟩
  cases z:H0' l with
  | none=>rfl
  | some o =>
   rcases st.n l o z with y|y|y
   ·rw[n] at y;cases y
   ·rw[h] at y;cases y
   ·have:=st.i l o z;rw[st.h _ _ h] at this;cases this;cases y
 | ot ks ds =>
  obtain⟨l,xs,e,h,n,m,hk,q⟩:=r;refine⟨l,xs,e,st.h _ _ h,?_,m,hk,q.mono st.z⟩
  cases z:H0' l with
  | none=>rfl
  | some o =>
   rcases st.n l o z with y|y|y
   ·rw[n] at y;cases y
   ·rw[h] at y;cases y
   ·have:=st.i l o z;rw[st.h _ _ h] at this;cases this;cases y
theorem RR.weak{Hs':Hp}(r:RR K C Hs' H0 H v s)(w:∀a,Hs' a=none->Hs a=none):RR K C Hs H0 H v s:=by
 cases s with
 | own ds=>obtain⟨l,xs,e,h,n,m,q⟩:=r;exact⟨l,xs,e,h,n,w _ m,q⟩
 | od ks ds=>obtain⟨l,xs,e,h,n,m,q⟩:=r;exact⟨l,xs,e,h,n,w _ m,q⟩
 | ot ks ds=>obtain⟨l,xs,e,h,n,m,q⟩:=r;exact⟨l,xs,e,h,n,w _ m,q⟩
 | _=>exact r
theorem RSl.owned(r:RSl K C B H0 H v s)(o:JK s=true):∃l,v=.ref l/\H l≠none/\H0 l=none/\B l=none:=by
 cases s with
 | own ds=>obtain⟨l,xs,e,h,n,m,q⟩:=r;exact⟨l,e,(by rw[h];intro z;cases z),n,m⟩
 | od ks ds=>obtain⟨l,xs,e,h,n,m,q⟩:=r;exact⟨l,e,(by rw[h];intro z;cases z),n,m⟩
 | ot ks ds=>obtain⟨l,xs,e,h,n,m,q⟩:=r;exact⟨l,e,(by rw[h];intro z;cases z),n,m⟩
 | _=>cases o
theorem RR.owned(r:RR K C Hs H0 H v s)(o:JK s=true):∃l,v=.ref l/\H l≠none/\H0 l=none/\Hs l=none:=by
 cases s with
 | own ds=>obtain⟨l,xs,e,h,n,m,q⟩:=r;exact⟨l,e,(by rw[h];intro z;cases z),n,m⟩
 | od ks ds=>obtain⟨l,xs,e,h,n,m,q⟩:=r;exact⟨l,e,(by rw[h];intro z;cases z),n,m⟩
 | ot ks ds=>obtain⟨l,xs,e,h,n,m,q⟩:=r;exact⟨l,e,(by rw[h];intro z;cases z),n,m⟩
 | _=>cases o
theorem EnvR.step(I:EnvR K C B H0 H σ E)(st:Step H H0 H H0' H'):EnvR K C B H0' H' σ E:=by
 refine⟨I.b.trans st.h,st.i,I.len,fun i s e=>?_,I.sep⟩;rcases I.at' i s e with z|⟨v,h1,h2⟩
 ·exact .inl z
 ·refine .inr ⟨v,h1,?_⟩
  cases s with
  | no=>trivial
  | sh d=>exact RD.mono st.z h2
  | bo ds=>obtain⟨l,xs,e,h,q⟩:=h2;exact⟨l,xs,e,h,q.mono st.z⟩
  | own ds=>exact RR.step (Hs:=B) (s:=.own ds) h2 st
  | bd ks ds=>obtain⟨l,xs,e,h,hk,q⟩:=h2;exact⟨l,xs,e,h,hk,q.mono st.z⟩
  | bt ks ds=>obtain⟨l,xs,e,h,hk,q⟩:=h2;exact⟨l,xs,e,h,hk,q.mono st.z⟩
  | od ks ds=>exact RR.step (Hs:=B) (s:=.od ks ds) h2 st
  | ot ks ds=>exact RR.step (Hs:=B) (s:=.ot ks ds) h2 st
theorem EnvR.sub{E':List Sl}(I:EnvR K C B H0 H σ E)(hl:E'.length=E.length)(h:∀(i:Nat) (s:Sl),E'[i]?=some s->s=.no\/E[i]?=some s):EnvR K C B H0 H σ E':=by
 refine⟨I.b,I.h,I.len.trans hl.symm,fun i s e=>?_,fun i j s t v hij e1 e2 o1 o2=>?_⟩
 ·rcases h i s e with z|z
  ·exact .inl z
  ·exact I.at' i s z
 ·rcases h i _ e1 with z|z
  ·subst z;cases o1
  ·rcases h j _ e2 with y|y
   ·subst y;cases o2
   ·exact I.sep i j s t v hij z y o1 o2
theorem EnvR.put(I:EnvR K C B H0 H σ E){i:Nat}(hi:i<E.length){Hs:Hp}(hB:∀a,Hs a=none->B a=none)(hf:∀(j:Nat) (t:Sl) (l:Qc),E[j]?=some t->JK t=true->σ[j]?=some (some (.ref l))->Hs l≠none)(r:RR K C Hs H0 H v s)(hb:JiW s=false):EnvR K C B H0 H (σ.set i (some v)) (E.set i s):=by
 refine⟨I.b,I.h,by simp[I.len],fun j t e=>?_,fun j k s1 s2 u hjk e1 e2 o1 o2 e3 e4=>?_⟩
 ·rw[QJ] at e
  by_cases hj:i=j
  ·subst hj;rw[if_pos rfl,if_pos hi] at e;cases e;refine .inr ⟨v,by rw[QJ];simp[I.len,hi],?_⟩
   cases s with
   | no=>trivial
   | sh d=>exact r
   | bo ds=>cases hb
   | own ds=>obtain⟨l,xs,e,h,n,m,q⟩:=r;exact⟨l,xs,e,h,n,hB _ m,q⟩
   | bd ks ds=>cases hb
   | bt ks ds=>cases hb
   | od ks ds=>obtain⟨l,xs,e,h,n,m,q⟩:=r;exact⟨l,xs,e,h,n,hB _ m,q⟩
   | ot ks ds=>obtain⟨l,xs,e,h,n,m,q⟩:=r;exact⟨l,xs,e,h,n,hB _ m,q⟩
  ·rw[if_neg hj] at e;rcases I.at' j t e with z|⟨u,h1,h2⟩
   ·exact .inl z
   ·exact .inr ⟨u,by rw[QJ,if_neg hj];exact h1,h2⟩
 ·rw[QJ] at e1 e2 e3 e4
  by_cases hj:i=j
  ·subst hj;rw[if_neg hjk] at e2 e4;rw[if_pos rfl,if_pos hi] at e1;rw[if_pos rfl,if_pos (by rw[I.len];exact hi)] at e3;cases e3;cases e1;obtain⟨l,e,_,_,m⟩:=r.owned o1;subst e;exact hf k _ l e2 o2 e4 m
  ·rw[if_neg hj] at e1 e3
   by_cases hk:i=k
   ·subst hk;rw[if_pos rfl,if_pos hi] at e2;rw[if_pos rfl,if_pos (by rw[I.len];exact hi)] at e4;cases e2;have e4':v=u:=QM (QM e4);subst e4';obtain⟨l,e,_,_,m⟩:=r.owned o2;subst e;exact hf j _ l e1 o1 e3 m
   ·rw[if_neg hk] at e2 e4;exact I.sep j k _ _ u hjk e1 e2 o1 o2 e3 e4
theorem EnvR.ownG(I:EnvR K C B H0 H σ E){j:Nat}{t:Sl}{l:Qc}(e1:E[j]?=some t)(ho:JK t=true)(e2:σ[j]?=some (some (.ref l))):H l≠none/\H0 l=none/\B l=none:=by
 rcases I.at' j _ e1 with z|⟨v,h1,h2⟩
 ·subst z;cases ho
 ·rw[e2] at h1;cases h1;obtain⟨l',e,h⟩:=h2.owned ho;cases e;exact h
theorem EnvR.put'{H1 H01:Hp}(I:EnvR K C B H0 H σ E)(st:Step H H0 H H01 H1){i:Nat}(hi:i<E.length)(r:RR K C H H01 H1 v s)(hb:JiW s=false):EnvR K C B H01 H1 (σ.set i (some v)) (E.set i s) :=
 (I.step st).put hi (fun a q=>Same.free I.b q) (fun j t l e1 o1 e2=>(I.ownG e1 o1 e2).1) r hb
noncomputable def JcJ:Option HO->Option HO
 | some o=>if isT o=true then some o else none
 | none=>none
noncomputable def YQ(Hs H0 H:Hp):Hp:=fun a=>match H0 a with
 | some o=>some o
 | none=>match Hs a with
  | none=>H a
  | some _=>JcJ (H a)
theorem WZ{o:Option HO}{u:HO}(e:JcJ o=some u):o=some u/\isT u=true:=by
 cases o with
 | none=>cases e
 | some w =>
  unfold JcJ at e;dsimp only at e;split at e
  ·cases e;exact⟨rfl,by assumption⟩
  ·cases e
theorem JT(i:Same H0 H):Step Hs H0 H (YQ Hs H0 H) H:=by
 refine⟨Same.refl _,fun a o e=>by unfold YQ;rw[e],fun a o e=>?_,fun a o e=>?_⟩
 ·unfold YQ at e
  cases h:H0 a with
  | some u=>rw[h] at e;exact .inl e
  | none =>
   rw[h] at e
   cases h2:Hs a with
   | none=>exact .inr (.inl rfl)
   | some u=>rw[h2] at e;exact .inr (.inr (WZ e).2)
 ·unfold YQ at e
  cases h:H0 a with
  | some u=>rw[h] at e;cases e;exact i a _ h
  | none =>
   rw[h] at e
   cases h2:Hs a with
   | none=>rw[h2] at e;exact e
   | some u=>rw[h2] at e;exact(WZ e).1
theorem Jae{a:Qc}{o:HO}(i:Same H0 H)(n:Hs a=none)(h:H a=some o):YQ Hs H0 H a=some o:=by
 unfold YQ
 cases z:H0 a with
 | some u=>rw[i a u z] at h;exact h
 | none=>dsimp only;rw[n];exact h
theorem JcF{a:Qc}{o:HO}(i:Same H0 H)(n:isT o=true)(h:H a=some o):YQ Hs H0 H a=some o:=by
 unfold YQ
 cases z:H0 a with
 | some u=>rw[i a u z] at h;exact h
 | none =>
  dsimp only
  cases y:Hs a with
  | none=>exact h
  | some u=>dsimp only;rw[h];unfold JcJ;dsimp only;rw[if_pos n]
theorem JcE{a:Qc}{xs:List V}(i:Same H0 H)(h:SqT K H a xs):SqT K (YQ Hs H0 H) a xs:=by
 rcases h with (h|⟨o,h⟩)|h
 ·exact .inl (.inl (JcF i rfl h))
 ·exact .inl (.inr ⟨o,JcF i rfl h⟩)
 ·exact .inr h
noncomputable def Sl.frz:Sl->Option D
 | .sh d=>some d
 | .own ds=>some (.lst ds)
 | .od ks ds=>some (.dct ks ds)
 | _=>none
theorem RR.frz{d:D}(i:Same H0 H)(r:RR K C Hs H0 H v s)(e:s.frz=some d):RD K C (YQ Hs H0 H) v d:=by
 have st:Step Hs H0 H (YQ Hs H0 H) H:=JT i
 cases s with
 | no=>cases e
 | sh d'=>cases e;exact RD.mono st.z r
 | bo ds=>cases e
 | own ds=>cases e;obtain⟨l,xs,e,h,n,m,q⟩:=r;subst e;exact .mkL (Jae i m h) (q.mono st.z)
 | bd ks ds=>cases e
 | bt ks ds=>cases e
 | od ks ds=>cases e;obtain⟨l,xs,e,h,n,m,hk,q⟩:=r;subst e;exact .mkD (Jae i m h) hk (q.mono st.z)
 | ot ks ds=>cases e
end
end LE

namespace LE
open PySem L2 LR

noncomputable abbrev En:=List Sl
noncomputable abbrev Ev:=En->Option Sl
section
variable(K:Qn)(C:Qc)
noncomputable def SE(te:TE)(ev:Ev):Prop:=∀(B H0 H:Hp) (σ:St) (E:En) (r:Sl) (Q:VK),EnvR K C B H0 H σ E->ev E=some r ->
 (∀v H0' H',Step H H0 H H0' H'->RR K C H H0' H' v r->Q v H')->te σ H Q
noncomputable def ST(t:TT)(ev:En->Option Bool):Prop:=∀(B H0 H:Hp) (σ:St) (E:En) (r:Bool) (Q:Bool->Hp->Prop),EnvR K C B H0 H σ E->ev E=some r ->
 (∀H0' H',Step H H0 H H0' H'->Q r H')->t σ H Q
inductive RRL (Hs H0 H:Hp):List V->List Sl->Prop
 | nil:RRL Hs H0 H [] []
 | cons {v:V} {s:Sl} {vs:List V} {ss:List Sl}:RR K C Hs H0 H v s->RRL Hs H0 H vs ss->RRL Hs H0 H (v::vs) (s::ss)
noncomputable def SA(t:TA)(ev:En->Option (List Sl)):Prop:=∀(B H0 H:Hp) (σ:St) (E:En) (r:List Sl) (Q:List V->Hp->Prop),EnvR K C B H0 H σ E->ev E=some r ->
 (∀vs H0' H',Step H H0 H H0' H'->RRL K C H H0' H' vs r->Q vs H')->t σ H Q
noncomputable def OpS(r:R2)(f:Sl->Sl->Option Sl):Prop:=∀(Hs H0 H:Hp) (x y:V) (a b c:Sl) (Q:VK),Same H0 H->Same Hs H->RR K C Hs H0 H x a->RR K C Hs H0 H y b->f a b=some c ->
 (∀v H0' H',Step Hs H0 H H0' H'->RR K C Hs H0' H' v c->Q v H')->r x y H Q
noncomputable def UnS(r:V->Hp->VK->Prop)(f:Sl->Option Sl):Prop:=∀(Hs H0 H:Hp) (x:V) (a c:Sl) (Q:VK),Same H0 H->Same Hs H->RR K C Hs H0 H x a->f a=some c ->
 (∀v H0' H',Step Hs H0 H H0' H'->RR K C Hs H0' H' v c->Q v H')->r x H Q
noncomputable def Wc(r:List V->Hp->VK->Prop)(f:List Sl->Option Sl):Prop:=∀(Hs H0 H:Hp) (xs:List V) (as:List Sl) (c:Sl) (Q:VK),Same H0 H->Same Hs H->RRL K C Hs H0 H xs as->f as=some c ->
 (∀v H0' H',Step Hs H0 H H0' H'->RR K C Hs H0' H' v c->Q v H')->r xs H Q
end

noncomputable def Jb(i:Nat):Ev:=fun E=>match E[i]? with
 | some (.sh d)=>some (.sh d)
 | some (.bo ds)=>some (.bo ds)
 | some (.own ds)=>some (.bo ds)
 | some (.bd ks ds)=>some (.bd ks ds)
 | some (.od ks ds)=>some (.bd ks ds)
 | some (.bt ks ds)=>some (.bt ks ds)
 | some (.ot ks ds)=>some (.bt ks ds)
 | _=>none
noncomputable def eC(d:D):Ev:=fun _=>some (.sh d)
noncomputable def e2(f:Sl->Sl->Option Sl)(a b:Ev):Ev:=fun E=>(a E).bind fun x=>(b E).bind fun y=>f x y
noncomputable def e1(f:Sl->Option Sl)(a:Ev):Ev:=fun E=>(a E).bind f
noncomputable def a0:En->Option (List Sl):=fun _=>some []
noncomputable def aC(a:Ev)(as:En->Option (List Sl)):En->Option (List Sl):=fun E=>(a E).bind fun x=>(as E).bind fun xs=>some (x::xs)
noncomputable def eF(f:List Sl->Option Sl)(as:En->Option (List Sl)):Ev:=fun E=>(as E).bind f
noncomputable def bool?:Sl->Option Bool
 | .sh (.bl b)=>some b
 | _=>none
noncomputable def JbI(a b:Ev):Ev:=fun E=>((a E).bind bool?).bind fun k=>if k=true then b E else some (.sh (.bl false))
noncomputable def Jiz(a:Ev):Ev:=fun E=>((a E).bind bool?).bind fun k=>some (.sh (.bl (!k)))
noncomputable def eIf(c:En->Option Bool)(a b:Ev):Ev:=fun E=>(c E).bind fun k=>if k=true then a E else b E
noncomputable def sh?:Sl->Option D
 | .sh d=>some d
 | _=>none
noncomputable def JbJ(f g:Sl->Sl->Option Sl)(a b c:Ev):Ev:=fun E=>((a E).bind sh?).bind fun x=>((b E).bind sh?).bind fun y=>((f (.sh x) (.sh y)).bind bool?).bind fun k=>if k=true then((c E).bind sh?).bind fun z=>g (.sh y) (.sh z) else some (.sh (.bl false))
noncomputable def tB?(a:Ev):En->Option Bool:=fun E=>(a E).bind bool?
noncomputable def tAnd?(a b:En->Option Bool):En->Option Bool:=fun E=>(a E).bind fun k=>if k=true then b E else some false
noncomputable def tOr?(a b:En->Option Bool):En->Option Bool:=fun E=>(a E).bind fun k=>if k=true then some true else b E
noncomputable def tNot?(a:En->Option Bool):En->Option Bool:=fun E=>(a E).bind fun k=>some (!k)

section
variable{K:Qn}{C:Qc}
theorem bind_some{α β:Type}{x:Option α}{f:α->Option β}{b:β}(e:x.bind f=some b):∃a,x=some a/\f a=some b:=by
 cases x with
 | none=>cases e
 | some a=>exact⟨a,rfl,e⟩
theorem Ug{s:Sl}{b:Bool}(e:bool? s=some b):s=.sh (.bl b):=by
 cases s with
 | sh d=>cases d with
  | bl x=>cases e;rfl
  | _=>cases e
 | _=>cases e
variable{ta tb tc te:TE}{ea eb ec:Ev}
theorem Jc(i:Nat):SE K C (JaC i) (Jb i):=by
 intro B H0 H σ E r Q I e q;unfold Jb at e
 cases h:E[i]? with
 | none=>rw[h] at e;cases e
 | some s =>
  rw[h] at e;rcases I.at' i s h with z|⟨v,h1,h2⟩
  ·subst z;cases e
  ·refine⟨v,h1,q v H0 H (.refl I.h) ?_⟩
   cases s with
   | no=>cases e
   | sh d=>cases e;exact h2
   | bo ds=>cases e;obtain⟨l,xs,e,hl,r⟩:=h2;exact⟨l,xs,e,I.b _ _ hl,r⟩
   | own ds=>cases e;obtain⟨l,xs,e,hl,_,_,r⟩:=h2;exact⟨l,xs,e,hl,r⟩
   | bd ks ds=>cases e;obtain⟨l,xs,e,hl,r⟩:=h2;exact⟨l,xs,e,I.b _ _ hl,r⟩
   | bt ks ds=>cases e;obtain⟨l,xs,e,hl,r⟩:=h2;exact⟨l,xs,e,I.b _ _ hl,r⟩
   | od ks ds=>cases e;obtain⟨l,xs,e,hl,_,_,r⟩:=h2;exact⟨l,xs,e,hl,r⟩
   | ot ks ds=>cases e;obtain⟨l,xs,e,hl,_,_,r⟩:=h2;exact⟨l,xs,e,hl,r⟩
theorem Ze:SE K C (tC .non) (eC .non):=fun _ _ _ _ _ _ _ I e q=>by cases e;exact q _ _ _ (.refl I.h) .non
theorem VO{b:Bool}:SE K C (tC (.bl b)) (eC (.bl b)):=fun _ _ _ _ _ _ _ I e q=>by cases e;exact q _ _ _ (.refl I.h) (.bl b)
theorem Jh{i:Int}:SE K C (tC (.int i)) (eC (.int i)):=fun _ _ _ _ _ _ _ I e q=>by cases e;exact q _ _ _ (.refl I.h) (.int i)
theorem JY{x:Str}:SE K C (tC (.str x)) (eC (.str x)):=fun _ _ _ _ _ _ _ I e q=>by cases e;exact q _ _ _ (.refl I.h) (.str x)
theorem Ji{r:R2}{f:Sl->Sl->Option Sl}(ho:OpS K C r f)(ha:SE K C ta ea)(hb:SE K C tb eb):SE K C (tOp r ta tb) (e2 f ea eb):=by
 intro B H0 H σ E c Q I e q;obtain⟨a,e1,e⟩:=bind_some e;obtain⟨b,e2,e⟩:=bind_some e;exact ha B H0 H σ E a _ I e1 fun x H1 H1' s1 r1=>hb B H1 H1' σ E b _ (I.step s1) e2 fun y H2 H2' s2 r2=>ho H H2 H2' x y a b c Q s2.i (s1.h.trans s2.h) (r1.step s2) (r2.weak fun a q=>Same.free s1.h q) e fun v H3 H3' s3 r3=>q v H3 H3' ((s1.trans s2).comp s3 fun _ z=>z) r3
theorem JhF{r:V->Hp->VK->Prop}{f:Sl->Option Sl}(ho:UnS K C r f)(ha:SE K C ta ea):SE K C (tUn r ta) (e1 f ea):=by intro B H0 H σ E c Q I e q;obtain⟨a,e1,e⟩:=bind_some e;exact ha B H0 H σ E a _ I e1 fun x H1 H1' s1 r1=>ho H H1 H1' x a c Q s1.i s1.h r1 e fun v H3 H3' s3 r3=>q v H3 H3' (s1.comp s3 fun _ z=>z) r3
theorem Jk:SA K C ZC a0:=fun _ _ _ _ _ _ _ I e q=>by cases e;exact q _ _ _ (.refl I.h) .nil
theorem RRL.step{Hs H0 H H0' H':Hp}{vs:List V}{ss:List Sl}(r:RRL K C Hs H0 H vs ss)(st:Step H H0 H H0' H'):RRL K C Hs H0' H' vs ss:=by
 induction r with
 | nil=>exact .nil
 | cons h _ ih=>exact .cons (h.step st) ih
theorem RRL.weak{Hs Hs' H0 H:Hp}{vs:List V}{ss:List Sl}(r:RRL K C Hs' H0 H vs ss)(w:∀a,Hs' a=none->Hs a=none):RRL K C Hs H0 H vs ss:=by
 induction r with
 | nil=>exact .nil
 | cons h _ ih=>exact .cons (h.weak w) ih
theorem Jd{tr:TA}{er:En->Option (List Sl)}(ha:SE K C ta ea)(hr:SA K C tr er):SA K C (Y0 ta tr) (aC ea er):=by
 intro B H0 H σ E c Q I e q;obtain⟨a,e1,e⟩:=bind_some e;obtain⟨b,e2,e⟩:=bind_some e;cases e;exact ha B H0 H σ E a _ I e1 fun x H1 H1' s1 r1=>hr B H1 H1' σ E b _ (I.step s1) e2 fun y H2 H2' s2 r2=>q _ H2 H2' (s1.trans s2) (.cons (r1.step s2) (r2.weak fun a q=>Same.free s1.h q))
theorem Uk{r:List V->Hp->VK->Prop}{t:TA}{ev:En->Option (List Sl)}{f:List Sl->Option Sl}(hc:Wc K C r f)(ha:SA K C t ev):SE K C (tCB r t) (eF f ev):=by intro B H0 H σ E c Q I e q;obtain⟨a,e1,e⟩:=bind_some e;exact ha B H0 H σ E a _ I e1 fun x H1 H1' s1 r1=>hc H H1 H1' x a c Q s1.i s1.h r1 e fun v H3 H3' s3 r3=>q v H3 H3' (s1.comp s3 fun _ z=>z) r3
theorem Jbl(ha:SE K C ta ea)(hb:SE K C tb eb):SE K C (JfQ ta tb) (JbI ea eb):=by
 intro B H0 H σ E c Q I e q;obtain⟨k,e1,e⟩:=bind_some e;obtain⟨a,e0,e1⟩:=bind_some e1;refine ha B H0 H σ E a _ I e0 fun x H1 H1' s1 r1=>?_
 rw[Ug e1] at r1;refine⟨k,RD.blI r1,?_⟩
 cases k with
 | true=>exact hb B H1 H1' σ E c Q (I.step s1) e fun y H2 H2' s2 r2=>q y H2 H2' (s1.trans s2) (r2.weak fun a q=>Same.free s1.h q)
 | false=>cases e;exact q _ _ _ s1 (RD.bl false)
theorem Jlm(ha:SE K C ta ea):SE K C (JfT ta) (Jiz ea):=by
 intro B H0 H σ E c Q I e q;obtain⟨k,e1,e⟩:=bind_some e;obtain⟨a,e0,e1⟩:=bind_some e1;refine ha B H0 H σ E a _ I e0 fun x H1 H1' s1 r1=>?_
 rw[Ug e1] at r1;cases e;exact⟨k,RD.blI r1,q _ _ _ s1 (RD.bl _)⟩
theorem Jlk{c:TT}{cv:En->Option Bool}(hc:ST K C c cv)(ha:SE K C ta ea)(hb:SE K C tb eb):SE K C (tIf c ta tb) (eIf cv ea eb):=by
 intro B H0 H σ E r Q I e q;obtain⟨k,e1,e⟩:=bind_some e;refine hc B H0 H σ E k _ I e1 fun H1 H1' s1=>?_
 cases k with
 | true=>exact ha B H1 H1' σ E r Q (I.step s1) e fun y H2 H2' s2 r2=>q y H2 H2' (s1.trans s2) (r2.weak fun a q=>Same.free s1.h q)
 | false=>exact hb B H1 H1' σ E r Q (I.step s1) e fun y H2 H2' s2 r2=>q y H2 H2' (s1.trans s2) (r2.weak fun a q=>Same.free s1.h q)
theorem Wz{s:Sl}{d:D}(e:sh? s=some d):s=.sh d:=by
 cases s with
 | sh d'=>cases e;rfl
 | _=>cases e
theorem JhD{r r':R2}{f g:Sl->Sl->Option Sl}(ho:OpS K C r f)(ho':OpS K C r' g)(ha:SE K C ta ea)(hb:SE K C tb eb)(hc:SE K C tc ec):SE K C (Jce r r' ta tb tc) (JbJ f g ea eb ec):=by
 intro B H0 H σ E c Q I e q;obtain⟨a,e1,e⟩:=bind_some e;obtain⟨a',e1,f1⟩:=bind_some e1;obtain rfl:=Wz f1;obtain⟨b,e2,e⟩:=bind_some e;obtain⟨b',e2,f2⟩:=bind_some e2;obtain rfl:=Wz f2;obtain⟨k,e3,e⟩:=bind_some e;obtain⟨z,e4,e3⟩:=bind_some e3;refine ha B H0 H σ E _ _ I e1 fun x H1 H1' s1 r1=>hb B H1 H1' σ E _ _ (I.step s1) e2 fun y H2 H2' s2 r2=>?_
 have x2:RD K C H2 x a:=RD.mono s2.z r1
 have y2:RD K C H2 y b:=r2;refine ho H2' H2 H2' x y (.sh a) (.sh b) z _ s2.i (Same.refl _) x2 y2 e4 fun w H3 H3' s3 r3=>?_
 rw[Ug e3] at r3;have s13:=(s1.trans s2).trans s3;refine⟨k,RD.blI r3,?_⟩
 cases k with
 | false=>cases e;exact q _ _ _ s13 (RD.bl false)
 | true =>
  obtain⟨d,e5,e⟩:=bind_some e;obtain⟨d',e5,f5⟩:=bind_some e5;obtain rfl:=Wz f5;refine hc B H3 H3' σ E _ _ (I.step s13) e5 fun u H4 H4' s4 r4=>?_
  exact ho' H H4 H4' y u (.sh b) (.sh d) c Q s4.i (s13.h.trans s4.h) (RD.mono (s3.z.trans s4.z) y2) (show RD K C H4 u d from r4) e fun v H5 H5' s5 r5=>q v H5 H5' ((s13.trans s4).comp s5 fun _ z=>z) r5

theorem JA(ha:SE K C te ea):ST K C (JfV te) (tB? ea):=by
 intro B H0 H σ E k Q I e q;obtain⟨a,e1,e⟩:=bind_some e;refine ha B H0 H σ E a _ I e1 fun x H1 H1' s1 r1=>?_
 rw[Ug e] at r1;exact⟨k,RD.blI r1,q _ _ s1⟩
theorem Ux{c d:TT}{ev ew:En->Option Bool}(hc:ST K C c ev)(hd:ST K C d ew):ST K C (Jkh c d) (tAnd? ev ew):=by
 intro B H0 H σ E k Q I e q;obtain⟨a,e1,e⟩:=bind_some e;refine hc B H0 H σ E a _ I e1 fun H1 H1' s1=>?_
 cases a with
 | true=>exact hd B H1 H1' σ E k Q (I.step s1) e fun H2 H2' s2=>q H2 H2' (s1.trans s2)
 | false=>cases e;exact q _ _ s1
theorem VR{c d:TT}{ev ew:En->Option Bool}(hc:ST K C c ev)(hd:ST K C d ew):ST K C (tOr c d) (tOr? ev ew):=by
 intro B H0 H σ E k Q I e q;obtain⟨a,e1,e⟩:=bind_some e;refine hc B H0 H σ E a _ I e1 fun H1 H1' s1=>?_
 cases a with
 | false=>exact hd B H1 H1' σ E k Q (I.step s1) e fun H2 H2' s2=>q H2 H2' (s1.trans s2)
 | true=>cases e;exact q _ _ s1
theorem YJ{c:TT}{ev:En->Option Bool}(hc:ST K C c ev):ST K C (Jkj c) (tNot? ev):=by intro B H0 H σ E k Q I e q;obtain⟨a,e1,e⟩:=bind_some e;cases e;exact hc B H0 H σ E a _ I e1 fun H1 H1' s1=>q _ _ s1
end

noncomputable def Sl.m:Sl->Option (List D)
 | .sh (.lst ds)=>some ds
 | .bo ds=>some ds
 | .own ds=>some ds
 | _=>none
noncomputable def Sl.r:Sl->Option (List D)
 | .sh (.lst ds)=>some ds
 | .sh (.fz ds)=>some ds
 | .bo ds=>some ds
 | .own ds=>some ds
 | _=>none
noncomputable def Sl.q:Sl->Option (List D)
 | .sh (.lst ds)=>some ds
 | .sh (.fz ds)=>some ds
 | .sh (.tup ds)=>some ds
 | .bo ds=>some ds
 | .own ds=>some ds
 | _=>none
noncomputable def Sl.d:Sl->Option D
 | .sh d=>some d
 | .bo ds=>some (.lst ds)
 | .own ds=>some (.lst ds)
 | .bd ks ds=>some (.dct ks ds)
 | .od ks ds=>some (.dct ks ds)
 | .bt _ _=>none
 | .ot _ _=>none
 | .no=>none
section
variable{K:Qn}{C:Qc}{Hs H0 H:Hp}{v:V}{s:Sl}{ds:List D}{d:D}
theorem RR.m(r:RR K C Hs H0 H v s)(i:Same H0 H)(e:s.m=some ds):∃l xs,v=.ref l/\H l=some (.lst xs)/\RDL K C H0 xs ds:=by
 cases s with
 | no=>cases e
 | bo es=>cases e;exact r
 | own es=>cases e;obtain⟨l,xs,h1,h2,_,_,h3⟩:=r;exact⟨l,xs,h1,h2,h3⟩
 | bd _ _=>cases e
 | bt _ _=>cases e
 | od _ _=>cases e
 | ot _ _=>cases e
 | sh d=>cases d with
  | lst es=>cases e;obtain⟨l,xs,h1,h2,h3⟩:=RD.lstI r;exact⟨l,xs,h1,i _ _ h2,h3⟩
  | _=>cases e
theorem RR.r(r:RR K C Hs H0 H v s)(i:Same H0 H)(e:s.r=some ds):∃l xs,v=.ref l/\SqL K H l xs/\RDL K C H0 xs ds:=by
 cases s with
 | no=>cases e
 | bo es=>cases e;obtain⟨l,xs,h1,h2,h3⟩:=r;exact⟨l,xs,h1,.of h2,h3⟩
 | own es=>cases e;obtain⟨l,xs,h1,h2,_,_,h3⟩:=r;exact⟨l,xs,h1,.of h2,h3⟩
 | bd _ _=>cases e
 | bt _ _=>cases e
 | od _ _=>cases e
 | ot _ _=>cases e
 | sh d=>cases d with
  | lst es=>cases e;obtain⟨l,xs,h1,h2,h3⟩:=RD.lstI r;exact⟨l,xs,h1,.of (i _ _ h2),h3⟩
  | fz es=>cases e;obtain⟨l,xs,h1,h2,h3⟩:=RD.fzI r;exact⟨l,xs,h1,i.seq h2,h3⟩
  | _=>cases e
theorem RR.q(r:RR K C Hs H0 H v s)(i:Same H0 H)(e:s.q=some ds):∃l xs,v=.ref l/\(SqL K H l xs\/SqT K H l xs)/\RDL K C H0 xs ds:=by
 cases s with
 | no=>cases e
 | bo es=>cases e;obtain⟨l,xs,h1,h2,h3⟩:=r;exact⟨l,xs,h1,.inl (.of h2),h3⟩
 | own es=>cases e;obtain⟨l,xs,h1,h2,_,_,h3⟩:=r;exact⟨l,xs,h1,.inl (.of h2),h3⟩
 | bd _ _=>cases e
 | bt _ _=>cases e
 | od _ _=>cases e
 | ot _ _=>cases e
 | sh d=>cases d with
  | lst es=>cases e;obtain⟨l,xs,h1,h2,h3⟩:=RD.lstI r;exact⟨l,xs,h1,.inl (.of (i _ _ h2)),h3⟩
  | fz es=>cases e;obtain⟨l,xs,h1,h2,h3⟩:=RD.fzI r;exact⟨l,xs,h1,.inl (i.seq h2),h3⟩
  | tup es=>cases e;obtain⟨l,xs,h1,h2,h3⟩:=RD.tupI r;exact⟨l,xs,h1,.inr (i.seqT h2),h3⟩
  | _=>cases e
theorem RR.dat(r:RR K C Hs H0 H v s)(i:Same H0 H)(e:s.d=some d):RD K C H v d:=by
 cases s with
 | no=>cases e
 | bo es=>cases e;obtain⟨l,xs,h1,h2,h3⟩:=r;subst h1;exact .mkL h2 (h3.mono i)
 | own es=>cases e;obtain⟨l,xs,h1,h2,_,_,h3⟩:=r;subst h1;exact .mkL h2 (h3.mono i)
 | bd _ _=>cases e;obtain⟨l,xs,h1,h2,hk,h3⟩:=r;subst h1;exact .mkD h2 hk (h3.mono i)
 | bt _ _=>cases e
 | od _ _=>cases e;obtain⟨l,xs,h1,h2,_,_,hk,h3⟩:=r;subst h1;exact .mkD h2 hk (h3.mono i)
 | ot _ _=>cases e
 | sh d'=>cases e;exact RD.mono i r
theorem VF{p:Qc}{xs:List V}{Q:VK}(i:Same H0 H)(hs:Same Hs H)(hp:H p=none)(r:RDL K C H0 xs ds)(q:∀v H0' H',Step Hs H0 H H0' H'->RR K C Hs H0' H' v (.own ds)->Q v H'):Q (.ref p) (upd H p (.lst xs)) :=
 q _ H0 _ ⟨.new hp,Same.refl _,fun _ _ e=>.inl e,i.trans (.new hp)⟩ ⟨p,xs,rfl,Jx,Same.free i hp,Same.free hs hp,r⟩
theorem JaD{p:Qc}{xs:List V}{Q:VK}(i:Same H0 H)(hs:Same Hs H)(hp:H p=none)(r:RDL K C H0 xs ds)(q:∀v H0' H',Step Hs H0 H H0' H'->RR K C Hs H0' H' v (.sh (.tup ds))->Q v H'):Q (.ref p) (upd H p (.tup xs)):=by
 have h0:H0 p=none:=Same.free i hp;refine q _ (upd H0 p (.tup xs)) _ ⟨.new hp,.new h0,fun a o e=>?_,fun a o e=>?_⟩ ?_
 ·by_cases h:a=p
  ·subst h;exact .inr (.inl (Same.free hs hp))
  ·rw[Jl h] at e;exact .inl e
 ·by_cases h:a=p
  ·subst h;rw[Jx] at e ⊢;exact e
  ·rw[Jl h] at e ⊢;exact i a o e
 ·exact RD.mkT (.of Jx) (r.mono (.new h0))
end

noncomputable def fI(g:Int->Int->D):Sl->Sl->Option Sl
 | .sh (.int a),.sh (.int b)=>some (.sh (g a b))
 | _,_=>none
noncomputable def fIc(c:Int->Int->Bool)(g:Int->Int->D):Sl->Sl->Option Sl
 | .sh (.int a),.sh (.int b)=>if c a b=true then some (.sh (g a b)) else none
 | _,_=>none
noncomputable def Jdy(x y:Sl):Option Sl:=x.m.bind fun a=>y.m.bind fun b=>if a.length+b.length<=Qk then some (.own (a++b)) else none
noncomputable def Jy:Sl->Sl->Option Sl
 | .sh (.int a),.sh (.int b)=>some (.sh (.int (a+b)))
 | .sh (.str a),.sh (.str b)=>if a.length+b.length<=Qk then some (.sh (.str (a++b))) else none
 | .sh (.tup a),.sh (.tup b)=>if a.isEmpty=false/\b.isEmpty=false/\a.length+b.length<=Qk then some (.sh (.tup (a++b))) else none
 | .sh (.lst a),y=>Jdy (.sh (.lst a)) y
 | .bo a,y=>Jdy (.bo a) y
 | .own a,y=>Jdy (.own a) y
 | _,_=>none
noncomputable abbrev Y2:=fI fun a b=>.int (a-b)
noncomputable abbrev fLt:=fI fun a b=>.bl (decide (a<b))
noncomputable abbrev fLe:=fI fun a b=>.bl (decide (a<=b))
noncomputable abbrev fGt:=fI fun a b=>.bl (decide (b<a))
noncomputable def VS(a:Int):Bool:=KR a.natAbs 18446744073709551615
theorem Uz{a:Int}:VS a=true↔-18446744073709551616<a/\a<18446744073709551616:=by unfold VS;rw[GG];omega
noncomputable def JaA(a:Int):Bool:=KR a.natAbs 1073741823 && decide (0<a)
theorem smallP_ok{a:Int}:JaA a=true↔0<a/\a<1073741824:=by unfold JaA;rw[QL,GG,decide_eq_true_eq];omega
noncomputable abbrev WQ:=fIc (fun a b=>VS a || VS b) fun a b=>.int (a*b)
noncomputable abbrev J6:=fIc (fun _ b=>decide (0<b)) fun a b=>.int (a % b)
noncomputable abbrev Yy:=fIc (fun _ b=>JaA b) fun a b=>.int (a / b)
noncomputable abbrev Vc:=fIc (fun a b=>decide (0<=b) && KR b.natAbs 1000000 && VS a) fun a b=>.int (a ^ b.toNat)
noncomputable def VX:Sl->Option Sl
 | .sh (.int a)=>some (.sh (.int (-a)))
 | _=>none
noncomputable def eqD(d e:D):Option Bool:=if (d.py.canLay0 && e.py.canLay0 && decide (min d.py.depth e.py.depth<=60))=true then some (Kv d.py e.py) else none
noncomputable def eqA:D->D->Option Bool
 | .int a,.int b=>some (decide (a=b))
 | .str a,.str b=>some (decide (a=b))
 | .bl a,.bl b=>some (decide (a=b))
 | .non,.non=>some true
 | .non,.int _=>some false
 | .int _,.non=>some false
 | .non,.str _=>some false
 | .str _,.non=>some false
 | .non,.bl _=>some false
 | .bl _,.non=>some false
 | .int _,.str _=>some false
 | .str _,.int _=>some false
 | d,e=>eqD d e
noncomputable def fEq(x y:Sl):Option Sl:=x.d.bind fun d=>y.d.bind fun e=>(eqA d e).map fun k=>.sh (.bl k)
noncomputable def fNe(x y:Sl):Option Sl:=x.d.bind fun d=>y.d.bind fun e=>(eqA d e).map fun k=>.sh (.bl (!k))
noncomputable def D.isNon:D->Bool
 | .non=>true
 | _=>false
noncomputable def fIs:Sl->Sl->Option Sl
 | x,.sh .non=>x.d.map fun d=>.sh (.bl d.isNon)
 | _,_=>none
noncomputable def VW:Sl->Sl->Option Sl
 | x,.sh .non=>x.d.map fun d=>.sh (.bl (!d.isNon))
 | _,_=>none
noncomputable def fIx:Sl->Sl->Option Sl
 | .sh (.str z),.sh (.int i)=>if z.length<=Qk then(atI z.cps.toList i).map fun c=>.sh (.str ⟨#[c]⟩) else none
 | x,.sh (.int i)=>x.q.bind fun ds=>(atI ds i).map .sh
 | _,_=>none
section
variable{K:Qn}{C:Qc}
theorem o_I{g:Int->Int->V}{g':Int->Int->D}(h:∀i j H,RD K C H (g i j) (g' i j)):OpS K C (rI0 g) (fI g'):=by
 intro Hs H0 H x y a b c Q i hs ra rb e q;unfold fI at e;split at e
 ·cases e;exact⟨_,_,RD.intI ra,RD.intI rb,q _ _ _ (.refl i) (h _ _ _)⟩
 ·cases e
theorem JgW{P:Int->Int->Prop}{c':Int->Int->Bool}{g:Int->Int->V}{g':Int->Int->D}(hp:∀i j,c' i j=true->P i j)(h:∀i j H,RD K C H (g i j) (g' i j)):OpS K C (rI P g) (fIc c' g'):=by
 intro Hs H0 H x y a b c Q i hs ra rb e q;unfold fIc at e;split at e
 ·split at e
  ·cases e;exact⟨_,_,RD.intI ra,RD.intI rb,hp _ _ (by assumption),q _ _ _ (.refl i) (h _ _ _)⟩
  ·cases e
 ·cases e
theorem Y8:OpS K C (rI0 fun i j=>.int (i-j)) Y2:=o_I fun _ _ _=>.int _
theorem Je7:OpS K C (rI0 fun i j=>.bl (decide (i<j))) fLt:=o_I fun _ _ _=>.bl _
theorem JgX:OpS K C (rI0 fun i j=>.bl (decide (i<=j))) fLe:=o_I fun _ _ _=>.bl _
theorem Je6:OpS K C (rI0 fun i j=>.bl (decide (j<i))) fGt:=o_I fun _ _ _=>.bl _
theorem W2:OpS K C (rI CMul fun i j=>.int (i*j)) WQ:=JgW (fun i j h=>by simp only[Li,Uz] at h;exact h) fun _ _ _=>.int _
theorem Ya:OpS K C (rI (fun _ j=>0<j) fun i j=>.int (i % j)) J6:=JgW (fun i j h=>by simpa using h) fun _ _ _=>.int _
theorem YL:OpS K C (rI Jky fun i j=>.int (i / j)) Yy:=JgW (fun i j h=>smallP_ok.mp h) fun _ _ _=>.int _
theorem W3:OpS K C (rI Jkz fun i j=>.int (i ^ j.toNat)) Vc:=JgW (fun i j h=>by simp only[QL,decide_eq_true_eq,GG,Uz] at h;refine⟨h.1.1,by omega,?_⟩;show i.natAbs<18446744073709551616;omega) fun _ _ _=>.int _
theorem Jdf:UnS K C (rU fun i=>.int (-i)) VX:=by
 intro Hs H0 H x a c Q i hs ra e q;unfold VX at e;split at e
 ·cases e;exact⟨_,RD.intI ra,q _ _ _ (.refl i) (RD.int _)⟩
 ·cases e
noncomputable def Jfu(K:Qn):R2:=fun x y H Q=>Jc0 K x y H Q\/Jie K x y H Q
theorem Jo{X:Cx}(hK:X.K=K):OpR X (binaryOp .Add) (Jfu K):=(Jg0 hK).or (hK▸Jg1)
theorem JF:OpS K C (Jfu K) Jy:=by
 intro Hs H0 H x y a b c Q i hs ra rb e q
 have cat:∀{a b:Sl},RR K C Hs H0 H x a->RR K C Hs H0 H y b->Jdy a b=some c->Jfu K x y H Q:=by
  intro a b ra rb e;obtain⟨xs,e1,e⟩:=bind_some e;obtain⟨ys,e2,e⟩:=bind_some e;split at e
  ·next hz=>cases e;obtain⟨l,us,rfl,h1,r1⟩:=ra.m i e1;obtain⟨l',ws,rfl,h2,r2⟩:=rb.m i e2;exact .inl (.inr (.inr ⟨l,l',us,ws,rfl,rfl,h1,h2,by rw[r1.1,r2.1];exact hz,fun p hp=>VF i hs hp (r1.append r2) q⟩))
  ·cases e
 unfold Jy at e;split at e
 ·cases e;exact .inl (.inl ⟨_,_,RD.intI ra,RD.intI rb,q _ _ _ (.refl i) (RD.int _)⟩)
 ·split at e
  ·cases e;exact .inl (.inr (.inl ⟨_,_,RD.strI ra,RD.strI rb,by assumption,q _ _ _ (.refl i) (RD.str _)⟩))
  ·cases e
 ·split at e
  ·next hz =>
   cases e;obtain⟨l,us,rfl,h1,r1⟩:=RD.tupI ra;obtain⟨l',ws,rfl,h2,r2⟩:=RD.tupI rb;have n1:us≠[]:=by rintro rfl;have:=r1.1;have z:=hz.1;simp at this;rw[Gf this.symm] at z;cases z
   have n2:ws≠[]:=by rintro rfl;have:=r2.1;have z:=hz.2.1;simp at this;rw[Gf this.symm] at z;cases z
   exact .inr ⟨l,l',us,ws,rfl,rfl,i.seqT h1,i.seqT h2,n1,by rw[r1.1,r2.1];exact hz.2.2,fun z=>absurd z n2,fun _ p hp=>JaD i hs hp (r1.append r2) q⟩
  ·cases e
 ·exact cat ra rb e
 ·exact cat ra rb e
 ·exact cat ra rb e
 ·cases e
theorem JaQ{d e:D}{k:Bool}(h:eqD d e=some k):d.py.canLay0=true/\e.py.canLay0=true/\min d.py.depth e.py.depth<=60/\k=Kv d.py e.py:=by
 unfold eqD at h;split at h
 ·next z=>cases h;simp only[QL,decide_eq_true_eq] at z;exact⟨z.1.1,z.1.2,z.2,rfl⟩
 ·cases h
theorem map_some{α β:Type}{x:Option α}{f:α->β}{b:β}(e:x.map f=some b):∃a,x=some a/\f a=b:=by
 cases x with
 | none=>cases e
 | some a=>cases e;exact⟨a,rfl,rfl⟩
theorem JaP{H:Hp}{x y:V}{d e:D}{k:Bool}(h:eqA d e=some k)(rx:RD K C H x d)(ry:RD K C H y e):(Jkf x y=true/\decide (x=y)=k)\/eqD d e=some k:=by
 unfold eqA at h;split at h
 ·cases h;rw[RD.intI rx,RD.intI ry];exact .inl ⟨rfl,by simp⟩
 ·cases h;rw[RD.strI rx,RD.strI ry];exact .inl ⟨rfl,by simp⟩
 ·cases h;rw[RD.blI rx,RD.blI ry];exact .inl ⟨rfl,by simp⟩
 ·cases h;rw[RD.nonI rx,RD.nonI ry];exact .inl ⟨rfl,by simp⟩
 ·cases h;rw[RD.nonI rx,RD.intI ry];exact .inl ⟨rfl,by simp⟩
 ·cases h;rw[RD.intI rx,RD.nonI ry];exact .inl ⟨rfl,by simp⟩
 ·cases h;rw[RD.nonI rx,RD.strI ry];exact .inl ⟨rfl,by simp⟩
 ·cases h;rw[RD.strI rx,RD.nonI ry];exact .inl ⟨rfl,by simp⟩
 ·cases h;rw[RD.nonI rx,RD.blI ry];exact .inl ⟨rfl,by simp⟩
 ·cases h;rw[RD.blI rx,RD.nonI ry];exact .inl ⟨rfl,by simp⟩
 ·cases h;rw[RD.intI rx,RD.strI ry];exact .inl ⟨rfl,by simp⟩
 ·cases h;rw[RD.strI rx,RD.intI ry];exact .inl ⟨rfl,by simp⟩
 ·exact .inr h
theorem Wo:OpS K C (Jfv K) fEq:=by
 intro Hs H0 H x y a b c Q i hs ra rb e q;obtain⟨d,e1,e⟩:=bind_some e;obtain⟨d',e2,e⟩:=bind_some e;obtain⟨k,e3,rfl⟩:=map_some e;have r1:=ra.dat i e1;have r2:=rb.dat i e2;rcases JaP e3 r1 r2 with ⟨h1,h2⟩|h
 ·exact .inl ⟨h1,by rw[h2];exact q _ _ _ (.refl i) (RD.bl _)⟩
 ·obtain⟨h1,h2,h3,rfl⟩:=JaQ h;exact .inr ⟨_,_,r1.rep h1,r2.rep h2,h1,h2,h3,q _ _ _ (.refl i) (RD.bl _)⟩
theorem Vj:OpS K C (Jfw K) fNe:=by
 intro Hs H0 H x y a b c Q i hs ra rb e q;obtain⟨d,e1,e⟩:=bind_some e;obtain⟨d',e2,e⟩:=bind_some e;obtain⟨k,e3,rfl⟩:=map_some e;have r1:=ra.dat i e1;have r2:=rb.dat i e2;rcases JaP e3 r1 r2 with ⟨h1,h2⟩|h
 ·exact .inl ⟨h1,by rw[h2];exact q _ _ _ (.refl i) (RD.bl _)⟩
 ·obtain⟨h1,h2,h3,rfl⟩:=JaQ h;exact .inr ⟨_,_,r1.rep h1,r2.rep h2,h1,h2,h3,q _ _ _ (.refl i) (RD.bl _)⟩
theorem JaW{H:Hp}{x:V}{d:D}(r:RD K C H x d):decide (x=.non)=d.isNon:=by cases r <;> simp[D.isNon]
theorem JlE:OpS K C JjI fIs:=by
 intro Hs H0 H x y a b c Q i hs ra rb e q;unfold fIs at e;split at e
 ·obtain⟨d,e1,rfl⟩:=map_some e;refine⟨RD.nonI rb,?_⟩;rw[JaW (ra.dat i e1)];exact q _ _ _ (.refl i) (RD.bl _)
 ·cases e
theorem Jal:OpS K C Jfx VW:=by
 intro Hs H0 H x y a b c Q i hs ra rb e q;unfold VW at e;split at e
 ·obtain⟨d,e1,rfl⟩:=map_some e;refine⟨RD.nonI rb,?_⟩;rw[JaW (ra.dat i e1)];exact q _ _ _ (.refl i) (RD.bl _)
 ·cases e
theorem RDL.atI{H:Hp}{xs:List V}{ds:List D}{i:Int}{d:D}(r:RDL K C H xs ds)(e:L2.atI ds i=some d):∃x,L2.atI xs i=some x/\RD K C H x d:=by unfold L2.atI at e ⊢;rw[r.1];obtain⟨j,e1,e⟩:=bind_some e;obtain⟨x,e2,r2⟩:=r.get e;exact⟨x,by rw[e1];exact e2,r2⟩
theorem YW:OpS K C (rIx K) fIx:=by
 intro Hs H0 H x y a b c Q i hs ra rb e q;unfold fIx at e;split at e
 ·split at e
  ·obtain⟨z,e1,rfl⟩:=map_some e;rw[RD.strI ra,RD.intI rb];exact JjW (by assumption) e1 (q _ _ _ (.refl i) (RD.str _))
  ·cases e
 ·obtain⟨ds,e1,e⟩:=bind_some e;obtain⟨d,e2,rfl⟩:=map_some e;obtain⟨l,xs,rfl,h,r⟩:=ra.q i e1;obtain⟨v,e3,r3⟩:=r.atI e2;rw[RD.intI rb];rcases h with h|h
  ·exact JjV h e3 (q _ _ _ (.refl i) r3)
  ·exact JjX h e3 (q _ _ _ (.refl i) r3)
 ·cases e
end
end LE

namespace LE
open PySem L2 LR

noncomputable def WS:List Sl->Option (List D)
 | []=>some []
 | s::ss=>s.frz.bind fun d=>(WS ss).bind fun ds=>some (d::ds)
noncomputable def YN(as:En->Option (List Sl)):Ev:=fun E=>(as E).bind fun ss=>(WS ss).bind fun ds=>if ds.length<=100 then some (.sh (.tup ds)) else none
noncomputable def Uc(as:En->Option (List Sl)):Ev:=fun E=>(as E).bind fun ss=>(WS ss).bind fun ds=>if ds.length<=100 then some (.own ds) else none
section
variable{K:Qn}{C:Qc}{t:TA}{ev:En->Option (List Sl)}{Hs H0 H:Hp}{ta te:TE}{ea:Ev}
theorem RRL.frz{vs:List V}{ss:List Sl}(i:Same H0 H)(r:RRL K C Hs H0 H vs ss):∀{ds:List D},WS ss=some ds->RDL K C (YQ Hs H0 H) vs ds:=by
 induction r with
 | nil=>intro ds e;cases e;exact .nil
 | cons h _ ih=>intro ds e;obtain⟨d,e1,e⟩:=bind_some e;obtain⟨ds',e2,e⟩:=bind_some e;cases e;exact .cons (h.frz i e1) (ih e2)
theorem UU(ha:SA K C t ev):SE K C (Jkl t) (YN ev):=by
 intro B H0 H σ E c Q I e q;obtain⟨ss,e1,e⟩:=bind_some e;obtain⟨ds,e2,e⟩:=bind_some e;split at e
 ·next hl =>
  cases e;refine ha B H0 H σ E ss _ I e1 fun vs H1 H1' s1 r1=>?_
  have f:=JT (Hs:=H) s1.i
  have r2:=r1.frz s1.i e2;exact⟨by rw[r2.1];exact QQ hl (by decide),fun p hp=>JaD f.i s1.h hp r2 fun v H2 H2' s2 r2=>q v H2 H2' ((s1.comp f fun _ z=>z).comp s2 fun _ z=>z) r2⟩
 ·cases e
theorem YZ(ha:SA K C t ev):SE K C (JhT t) (Uc ev):=by
 intro B H0 H σ E c Q I e q;obtain⟨ss,e1,e⟩:=bind_some e;obtain⟨ds,e2,e⟩:=bind_some e;split at e
 ·next hl =>
  cases e;refine ha B H0 H σ E ss _ I e1 fun vs H1 H1' s1 r1=>?_
  have f:=JT (Hs:=H) s1.i
  have r2:=r1.frz s1.i e2;exact⟨by rw[r2.1];exact QQ hl (by decide),fun p hp=>VF f.i s1.h hp r2 fun v H2 H2' s2 r2=>q v H2 H2' ((s1.comp f fun _ z=>z).comp s2 fun _ z=>z) r2⟩
 ·cases e

noncomputable def Sl.pass:Sl->Option Sl
 | .sh d=>some (.sh d)
 | .own ds=>some (.sh (.lst ds))
 | .bo ds=>some (.bo ds)
 | .bd ks ds=>some (.bd ks ds)
 | .od ks ds=>some (.sh (.dct ks ds))
 | .bt _ _=>none
 | .ot _ _=>none
 | .no=>none
end
noncomputable def UY:List Sl->Option (List Sl)
 | []=>some []
 | s::ss=>s.pass.bind fun d=>(UY ss).bind fun ds=>some (d::ds)
noncomputable def spE(K:Qn)(C:Qc)(n:Nat)(f:List Sl->Option Sl):Sp:=fun vs H Q _=>∃H0 as r,Same H0 H/\RRL K C H H0 H vs as/\as.all (fun s=>!JK s)=true/\as.length=n/\f as=some r ∧
 ∀v H0' H',Step H H0 H H0' H'->RR K C H H0' H' v r->Q v H'
noncomputable def eU(n:Nat)(f:List Sl->Option Sl)(as:En->Option (List Sl)):Ev:=fun E=>(as E).bind fun ss=>(UY ss).bind fun bs=>if bs.length=n then f bs else none
section
variable{K:Qn}{C:Qc}{t:TA}{ev:En->Option (List Sl)}{Hs H0 H:Hp}{ta te:TE}{ea:Ev}
theorem RRL.len{vs:List V}{ss:List Sl}(r:RRL K C Hs H0 H vs ss):vs.length=ss.length:=by
 induction r with
 | nil=>rfl
 | cons _ _ ih=>simp[ih]
theorem Jda{n:Nat}{f:List Sl->Option Sl}{vs:List V}{Q:VK}{E:XK}(h:spE K C n f vs H Q E):vs.length=n:=by obtain⟨H0,as,r,_,h1,_,h2,_⟩:=h;rw[h1.len];exact h2
theorem RR.pass{v:V}{s s':Sl}(i:Same H0 H)(r:RR K C Hs H0 H v s)(e:s.pass=some s'):RR K C H (YQ Hs H0 H) H v s'/\JK s'=false:=by
 have st:Step Hs H0 H (YQ Hs H0 H) H:=JT i
 cases s with
 | no=>cases e
 | sh d=>cases e;exact⟨RD.mono st.z r,rfl⟩
 | own ds=>cases e;exact⟨RR.frz (s:=.own ds) i r rfl,rfl⟩
 | bo ds=>cases e;obtain⟨l,xs,h1,h2,h3⟩:=r;exact⟨⟨l,xs,h1,h2,h3.mono st.z⟩,rfl⟩
 | od ks ds=>cases e;exact⟨RR.frz (s:=.od ks ds) i r rfl,rfl⟩
 | ot ks ds=>cases e
 | bd ks ds=>cases e;obtain⟨l,xs,h1,h2,hk,h3⟩:=r;exact⟨⟨l,xs,h1,h2,hk,h3.mono st.z⟩,rfl⟩
 | bt ks ds=>cases e
theorem RRL.pass{vs:List V}{ss:List Sl}(i:Same H0 H)(r:RRL K C Hs H0 H vs ss):∀{bs:List Sl},UY ss=some bs->RRL K C H (YQ Hs H0 H) H vs bs/\bs.all (fun s=>!JK s)=true:=by
 induction r with
 | nil=>intro bs e;cases e;exact⟨.nil,rfl⟩
 | cons h _ ih=>intro bs e;obtain⟨d,e1,e⟩:=bind_some e;obtain⟨ds',e2,e⟩:=bind_some e;cases e;obtain⟨h1,h2⟩:=h.pass i e1;obtain⟨h3,h4⟩:=ih e2;exact⟨.cons h1 h3,by rw[List.all_cons,h2,h4];rfl⟩
theorem JG{n:Nat}{f:List Sl->Option Sl}{X:XK}(ha:SA K C t ev):SE K C (VU (spE K C n f) [] X t) (eU n f ev):=by
 intro B H0 H σ E c Q I e q;obtain⟨ss,e1,e⟩:=bind_some e;obtain⟨bs,e2,e⟩:=bind_some e;split at e
 ·next hl=>refine VN (ha B H0 H σ E ss _ I e1 fun vs H1 H1' s1 r1=>?_);obtain⟨h1,h2⟩:=r1.pass s1.i e2;have f:=JT (Hs:=H) s1.i;exact⟨_,bs,c,f.i,h1,h2,hl,e,fun v H2 H2' s2 r2=>q v H2 H2' ((s1.comp f fun _ z=>z).comp s2 fun a z=>Same.free s1.h z) (r2.weak fun a z=>Same.free s1.h z)⟩
 ·cases e

noncomputable def prE(p:Pr):D:=.tup [.int p.1,.int p.2]
noncomputable def Jks:D->Option Pr
 | .tup [.int a,.int b]=>some (a,b)
 | _=>none
noncomputable def JbC:List D->Option (List Pr)
 | []=>some []
 | d::ds=>(Jks d).bind fun p=>(JbC ds).bind fun ps=>some (p::ps)
end
theorem V9:∀ps:List Pr,JbC (ps.map prE)=some ps
 | []=>rfl
 | p::ps=>by rw[Qt,JbC,V9 ps];rfl
theorem Jeb{d:D}{p:Pr}(e:Jks d=some p):d=prE p:=by
 unfold Jks at e;split at e
 ·cases e;rfl
 ·cases e
theorem Zj:∀{ds:List D} {ps:List Pr},JbC ds=some ps->ds=ps.map prE
 | [],_,e=>by cases e;rfl
 | d::ds,_,e=>by obtain⟨p,e1,e⟩:=bind_some e;obtain⟨ps,e2,e⟩:=bind_some e;cases e;rw[Jeb e1,Zj e2];rfl
noncomputable def Wd:List Pr->Bool
 | []=>true
 | [p]=>decide (1<=p.2)
 | p::q::r=>decide (1<=p.2) && decide (p.1+p.2<q.1) && Wd (q::r)
theorem Ve:∀{ps:List Pr},Wd ps=true->Good ps
 | [],_=>.nil
 | [p],h=>⟨fun i q e=>by
  cases i with
  | zero=>simp at e;subst e;simpa [Wd] using h
  | succ i=>simp at e,fun i q r e1 e2=>by simp at e2⟩
 | p::q::r,h=>by
  simp only[Wd,QL,decide_eq_true_eq] at h;have g:=Ve h.2;refine⟨fun i x e=>?_,fun i x y e1 e2=>?_⟩
  ·cases i with
   | zero=>simp at e;subst e;exact h.1.1
   | succ i=>exact g.one i x (by simpa using e)
  ·cases i with
   | zero=>simp at e1 e2;subst e1 e2;exact h.1.2
   | succ i=>exact g.gap i x y (by simpa using e1) (by simpa using e2)
theorem WT:∀{ps:List Pr},Good ps->Wd ps=true
 | [],_=>rfl
 | [p],g=>by simpa [Wd] using g.one 0 p rfl
 | p::q::r,g=>by
  have g':Good (q::r):=⟨fun i x e=>g.one (i+1) x (by simpa using e),fun i x y e1 e2=>g.gap (i+1) x y (by simpa using e1) (by simpa using e2)⟩
  simp only[Wd,QL,decide_eq_true_eq];exact⟨⟨g.one 0 p rfl,g.gap 0 p q rfl rfl⟩,WT g'⟩
noncomputable def VA:List Sl->Option Sl
 | [s]=>s.q.bind fun ds=>(JbC ds).bind fun ps=>if (Wd ps && decide (ps.length<=30))=true then some (.sh (.row ds)) else none
 | _=>none
noncomputable def Wm:Sl->Option Sl
 | .sh (.row ds)=>some (.sh (.tup ds))
 | _=>none
section
variable{K:Qn}{C:Qc}{t:TA}{ev:En->Option (List Sl)}{Hs H0 H:Hp}{ta te:TE}{ea:Ev}
theorem JjC{xs:List V}{ps:List Pr}(r:RDL K C H xs (ps.map prE)):Prs K H xs ps:=by
 refine⟨by rw[r.1];simp,fun i x d h1 h2=>?_⟩;rw[Qw] at h2
 cases e:ps[i]? with
 | none=>rw[e] at h2;cases h2
 | some p=>rw[e] at h2;cases h2;have h:=r.2 i x (prE p) h1 (by rw[Qw,e];rfl);exact RD.rep h rfl
theorem Jjg{xs:List V}{ps:List Pr}(i:Same H0 H)(r:Prs K H xs ps):RDL K C (YQ Hs H0 H) xs (ps.map prE):=by refine⟨by rw[r.len];simp,fun j x d h1 h2=>?_⟩;obtain⟨p,a,e1,e2,e3⟩:=r.at h1;rw[Qw,e1] at h2;cases h2;subst e2;exact .mkT (JcE i e3) (.cons (.int _) (.cons (.int _) .nil))
theorem Jbm{K:Qn}{C:Qc}{ta:TE}{ea:Ev}(T:RowC K C)(ha:SE K C ta ea):SE K C (JhR K ta "stretches") (e1 Wm ea):=by
 intro B H0 H σ E c Q I e q;obtain⟨a,e1,e⟩:=bind_some e;refine ha B H0 H σ E a _ I e1 fun x H1 H1' s1 r1=>?_
 unfold Wm at e;split at e
 ·cases e;obtain⟨x',dx,t',ts,rfl,hx,ht,hp⟩:=RD.rowI r1;exact⟨x',C,dx,_,_,rfl,s1.i _ _ hx,T.cl,T.ns,Jd1 t',q _ _ _ s1 (RD.mkT ht hp)⟩
 ·cases e

noncomputable def ints?:List D->Option (List Int)
 | []=>some []
 | .int i::ds=>(ints? ds).map (i::·)
 | _::_=>none
noncomputable def bls?:List D->Option (List Bool)
 | []=>some []
 | .bl i::ds=>(bls? ds).map (i::·)
 | _::_=>none
noncomputable def strs?:List D->Option (List Str)
 | []=>some []
 | .str i::ds=>(strs? ds).map (i::·)
 | _::_=>none
end
theorem WV:∀ns:List Int,ints? (ns.map .int)=some ns
 | []=>rfl
 | n::ns=>by rw[Qt,ints?,WV ns];rfl
theorem Jcr:∀ns:List Bool,bls? (ns.map .bl)=some ns
 | []=>rfl
 | n::ns=>by rw[Qt,bls?,Jcr ns];rfl
theorem ZN:∀{ds:List D} {ns:List Int},ints? ds=some ns->ds=ns.map .int
 | [],_,e=>by cases e;rfl
 | .int i::ds,_,e=>by obtain⟨ns,e1,e2⟩:=map_some (show(ints? ds).map (i::·)=_ from e);rw[<- e2,ZN e1];rfl
 | .non::_,_,e|.bl _::_,_,e|.str _::_,_,e|.tup _::_,_,e|.lst _::_,_,e|.fz _::_,_,e|.row _::_,_,e=>by cases e
theorem WF:∀{ds:List D} {ns:List Bool},bls? ds=some ns->ds=ns.map .bl
 | [],_,e=>by cases e;rfl
 | .bl i::ds,_,e=>by obtain⟨ns,e1,e2⟩:=map_some (show(bls? ds).map (i::·)=_ from e);rw[<- e2,WF e1];rfl
 | .non::_,_,e|.int _::_,_,e|.str _::_,_,e|.tup _::_,_,e|.lst _::_,_,e|.fz _::_,_,e|.row _::_,_,e=>by cases e
theorem ZY:∀{ds:List D} {ns:List Str},strs? ds=some ns->ds=ns.map .str
 | [],_,e=>by cases e;rfl
 | .str i::ds,_,e=>by obtain⟨ns,e1,e2⟩:=map_some (show(strs? ds).map (i::·)=_ from e);rw[<- e2,ZY e1];rfl
 | .non::_,_,e|.int _::_,_,e|.bl _::_,_,e|.tup _::_,_,e|.lst _::_,_,e|.fz _::_,_,e|.row _::_,_,e=>by cases e
noncomputable def Uh:List Sl->Option Sl
 | [.sh (.str x)]=>if x.length<=Qk then some (.sh (.int x.length)) else none
 | [s]=>s.q.map fun ds=>.sh (.int ds.length)
 | _=>none
noncomputable def Vd:List Sl->Option Sl
 | [s]=>s.q.map fun ds=>.sh (.tup ds)
 | _=>none
noncomputable def WP:List Sl->Option Sl
 | [s]=>s.q.map fun ds=>.own ds
 | _=>none
noncomputable def Jaa:List Sl->Option Sl
 | [s]=>s.q.bind fun ds=>(ints? ds).map fun ns=>.sh (.int ns.sum)
 | _=>none
noncomputable def Jgy:List Sl->Option Sl
 | [s]=>s.q.bind fun ds=>(bls? ds).map fun ns=>.sh (.bl (ns.any id))
 | _=>none
noncomputable def JeI:List Sl->Option Sl
 | [.sh (.int a),.sh (.int b)]=>some (.sh (.int (max a b)))
 | _=>none
noncomputable def JgB:List Sl->Option Sl
 | [.sh (.int a),.sh (.int b)]=>some (.sh (.int (min a b)))
 | _=>none
section
variable{K:Qn}{C:Qc}{Hs H0 H:Hp}
theorem RRL.one{vs:List V}{s:Sl}(r:RRL K C Hs H0 H vs [s]):∃v,vs=[v]/\RR K C Hs H0 H v s:=by
 cases r with
 | cons h t=>cases t;exact⟨_,rfl,h⟩
theorem RRL.two{vs:List V}{s t:Sl}(r:RRL K C Hs H0 H vs [s,t]):∃v w,vs=[v,w]/\RR K C Hs H0 H v s/\RR K C Hs H0 H w t:=by
 cases r with
 | cons h r=>cases r with
  | cons h' r=>cases r;exact⟨_,_,rfl,h,h'⟩
theorem U7:Wc K C (Jb5 K) Uh:=by
 intro Hs H0 H xs as c Q i hs r e q;unfold Uh at e;split at e
 ·split at e
  ·cases e;obtain⟨v,rfl,r0⟩:=r.one;rw[RD.strI r0];exact Jhq (by assumption) (q _ _ _ (.refl i) (RD.int _))
  ·cases e
 ·obtain⟨v,rfl,r0⟩:=r.one;obtain⟨ds,e1,rfl⟩:=map_some e;obtain⟨l,xs,rfl,h,r1⟩:=r0.q i e1;have z:=q (.int ds.length) _ _ (.refl i) (RD.int _);rw[<- r1.1] at z;exact Jbk h z
 ·cases e
theorem Jct:Wc K C (UK K) Vd:=by
 intro Hs H0 H xs as c Q i hs r e q;unfold Vd at e;split at e
 ·obtain⟨v,rfl,r0⟩:=r.one;obtain⟨ds,e1,rfl⟩:=map_some e;rename_i s
  have lst:∀{l:Qc} {ys:List V},v=.ref l->SqL K H l ys->RDL K C H0 ys ds->UK K [v] H Q:=fun {l ys} ev h r2=>by subst ev;exact⟨l,ys,rfl,.inl ⟨h,fun p hp=>JaD i hs hp r2 q⟩⟩
  cases s with
  | no=>cases e1
  | bo es=>cases e1;obtain⟨l,ys,h1,h2,h3⟩:=r0;exact lst h1 (.of h2) h3
  | own es=>cases e1;obtain⟨l,ys,h1,h2,_,_,h3⟩:=r0;exact lst h1 (.of h2) h3
  | bd _ _=>cases e1
  | bt _ _=>cases e1
  | od _ _=>cases e1
  | ot _ _=>cases e1
  | sh d=>cases d with
   | lst es=>cases e1;obtain⟨l,ys,h1,h2,h3⟩:=RD.lstI r0;exact lst h1 (.of (i _ _ h2)) h3
   | fz es=>cases e1;obtain⟨l,ys,h1,h2,h3⟩:=RD.fzI r0;exact lst h1 (i.seq h2) h3
   | tup es=>cases e1;obtain⟨l,ys,rfl,h2,h3⟩:=RD.tupI r0;exact⟨l,ys,rfl,.inr ⟨i.seqT h2,q _ _ _ (.refl i) r0⟩⟩
   | _=>cases e1
 ·cases e
theorem Jep:Wc K C (Jau K) WP:=by
 intro Hs H0 H xs as c Q i hs r e q;unfold WP at e;split at e
 ·obtain⟨v,rfl,r0⟩:=r.one;obtain⟨ds,e1,rfl⟩:=map_some e;obtain⟨l,ys,rfl,h,r1⟩:=r0.q i e1;exact⟨l,ys,rfl,h,fun p hp=>VF i hs hp r1 q⟩
 ·cases e
theorem Jh4:Wc K C (JjL K) Jaa:=by
 intro Hs H0 H xs as c Q i hs r e q;unfold Jaa at e;split at e
 ·obtain⟨v,rfl,r0⟩:=r.one;obtain⟨ds,e1,e⟩:=bind_some e;obtain⟨ns,e2,rfl⟩:=map_some e;obtain⟨l,ys,rfl,h,r1⟩:=r0.q i e1;rw[ZN e2] at r1;have:=r1.ints;subst this;exact⟨l,ns,rfl,h,q _ _ _ (.refl i) (RD.int _)⟩
 ·cases e
theorem JkG:Wc K C (JjH K) Jgy:=by
 intro Hs H0 H xs as c Q i hs r e q;unfold Jgy at e;split at e
 ·obtain⟨v,rfl,r0⟩:=r.one;obtain⟨ds,e1,e⟩:=bind_some e;obtain⟨ns,e2,rfl⟩:=map_some e;obtain⟨l,ys,rfl,h,r1⟩:=r0.q i e1;rw[WF e2] at r1;have:=r1.bls;subst this;exact⟨l,ns,rfl,h,q _ _ _ (.refl i) (RD.bl _)⟩
 ·cases e
theorem Jh3:Wc K C JjJ JeI:=by
 intro Hs H0 H xs as c Q i hs r e q;unfold JeI at e;split at e
 ·cases e;obtain⟨v,w,rfl,r1,r2⟩:=r.two;rw[RD.intI r1,RD.intI r2];exact JfC (q _ _ _ (.refl i) (RD.int _))
 ·cases e
theorem JkH:Wc K C JjK JgB:=by
 intro Hs H0 H xs as c Q i hs r e q;unfold JgB at e;split at e
 ·cases e;obtain⟨v,w,rfl,r1,r2⟩:=r.two;rw[RD.intI r1,RD.intI r2];exact JfD (q _ _ _ (.refl i) (RD.int _))
 ·cases e
end

noncomputable def Jko:Sl->Option Bool
 | .sh .non=>some false
 | .sh (.bl b)=>some b
 | .sh (.int i)=>some (i != 0)
 | .sh (.str y)=>if y.length<=Qk then some ((y.length:Int) != 0) else none
 | s=>s.q.map fun ds=>!ds.isEmpty
noncomputable def tTru?(a:Ev):En->Option Bool:=fun E=>(a E).bind Jko
noncomputable def tyN:D->Option String
 | .non=>some "NoneType"
 | .bl _=>some "bool"
 | .int _=>some "int"
 | .str _=>some "str"
 | .tup _=>some "tuple"
 | .lst _=>some "list"
 | .fz _=>some "list"
 | .row _=>none
 | .dct _ _=>none
 | .dfz _ _=>none
 | .exc _=>none
noncomputable def JaX(t n:String):Bool:=t == n || (t == "bool" && n == "int")
noncomputable def JbK(n:String)(a:Ev):Ev:=fun E=>(a E).bind fun s=>s.d.bind fun d=>(tyN d).map fun t=>.sh (.bl (JaX t n))
noncomputable def D.isRow:D->Bool
 | .row _=>true
 | _=>false
noncomputable def Jew(a:Ev):Ev:=fun E=>(a E).bind fun s=>s.d.bind fun d=>if d.isRow=true then some (.sh (.bl true)) else none
section
variable{K:Qn}{C:Qc}{Hs H0 H:Hp}{te:TE}{ea:Ev}
theorem RDL.empty{xs:List V}{ds:List D}(r:RDL K C H xs ds):xs.isEmpty=ds.isEmpty:=by cases xs <;> cases ds <;> first|rfl|(have:=r.1;simp at this)
theorem YM(ha:SE K C te ea):ST K C (JhU K te) (tTru? ea):=by
 intro B H0 H σ E k Q I e q;obtain⟨a,e1,e⟩:=bind_some e;refine ha B H0 H σ E a _ I e1 fun x H1 H1' s1 r1=>?_
 have seq:∀{a:Sl},RR K C H H1 H1' x a->a.q.map (fun ds=>!ds.isEmpty)=some k->∃k',Jdm K x H1' k'/\Q k' H1':=fun {a} r1 e=>by
  obtain⟨ds,e2,rfl⟩:=map_some e;obtain⟨l,xs,rfl,h,r⟩:=r1.q s1.i e2;have z:=q _ _ s1;rw[<- r.empty] at z;rcases h with h|h
  ·exact⟨_,.inl ⟨xs,h,rfl⟩,z⟩
  ·exact⟨_,.inr (.inl ⟨xs,h,rfl⟩),z⟩
 unfold Jko at e;split at e
 ·cases e;rw[RD.nonI r1];exact⟨_,rfl,q _ _ s1⟩
 ·cases e;rw[RD.blI r1];exact⟨_,rfl,q _ _ s1⟩
 ·cases e;rw[RD.intI r1];exact⟨_,rfl,q _ _ s1⟩
 ·split at e
  ·cases e;rw[RD.strI r1];exact⟨_,⟨by assumption,rfl⟩,q _ _ s1⟩
  ·cases e
 ·exact seq r1 e
theorem RD.ty{x:V}{d:D}{t:String}(r:RD K C H x d)(e:tyN d=some t):TyS K H x (.type t):=by
 cases r with
 | non=>cases e;exact .of .non
 | bl b=>cases e;exact .of (.bl b)
 | int i=>cases e;exact .of (.int i)
 | str i=>cases e;exact .of (.str i)
 | tup h _ _=>cases e;exact .sqT h
 | lst h _ _=>cases e;exact .sqL (.of h)
 | fz h _ _=>cases e;exact .sqL h
 | row _ _ _ _=>cases e
 | dct _ _ _ _=>cases e
 | dfz _ _ _ _=>cases e
 | exc _ _=>cases e
noncomputable def JaI(K:Qn)(n:String):Prop:=∀t∈["NoneType","bool","int","str","tuple","list"],kitOne K (.type t) (.type n)=some (JaX t n)
theorem JhX{d:D}{t:String}(e:tyN d=some t):t∈["NoneType","bool","int","str","tuple","list"]:=by cases d <;> cases e <;> simp
theorem Jbn{n:String}(hk:JaI K n)(ha:SE K C te ea):SE K C (tCB (JdW K) (Y0 te (Y0 (tC (.ty n)) ZC))) (JbK n ea):=by
 intro B H0 H σ E c Q I e q;obtain⟨a,e1,e⟩:=bind_some e;obtain⟨d,e2,e⟩:=bind_some e;obtain⟨t,e3,rfl⟩:=map_some e;refine ha B H0 H σ E a _ I e1 fun x H1 H1' s1 r1=>?_
 exact JjU (RD.ty (r1.dat s1.i e2) e3) (hk t (JhX e3)) (q _ _ _ s1 (RD.bl _))
end
theorem JgL{K:Qn}:JaI K "int":=fun t ht=>by simp only[Qq,QW,or_false] at ht;rcases ht with rfl | rfl | rfl | rfl | rfl | rfl <;> kernel_rfl
theorem JeX{K:Qn}:JaI K "bool":=fun t ht=>by simp only[Qq,QW,or_false] at ht;rcases ht with rfl | rfl | rfl | rfl | rfl | rfl <;> kernel_rfl
theorem ZQ{K:Qn}:JaI K "tuple":=fun t ht=>by simp only[Qq,QW,or_false] at ht;rcases ht with rfl | rfl | rfl | rfl | rfl | rfl <;> kernel_rfl
theorem JgM{K:Qn}:JaI K "str":=fun t ht=>by simp only[Qq,QW,or_false] at ht;rcases ht with rfl | rfl | rfl | rfl | rfl | rfl <;> kernel_rfl
end LE

namespace LE
open PySem L2 LR

mutual
inductive Pt where
 | nm (i:Nat)
 | tp (l:Pts)
inductive Pts where
 | nil
 | cons (p:Pt) (l:Pts)
end
mutual
noncomputable def Pt.bind:Pt->D->En->Option En
 | .nm i,d,E=>if i<E.length then some (E.set i (.sh d)) else none
 | .tp l,.tup ds,E=>l.bind ds E
 | .tp _,_,_=>none
noncomputable def Pts.bind:Pts->List D->En->Option En
 | .nil,[],E=>some E
 | .cons p l,d::ds,E=>(p.bind d E).bind fun E'=>l.bind ds E'
 | _,_,_=>none
end
mutual
noncomputable def Pt.slots:Pt->List Nat
 | .nm i=>[i]
 | .tp l=>l.slots
noncomputable def Pts.slots:Pts->List Nat
 | .nil=>[]
 | .cons p l=>p.slots++l.slots
end
mutual
theorem Pt.keep:∀{p:Pt} {d:D} {E E':En},p.bind d E=some E'->E'.length=E.length/\∀i,i∉p.slots->E'[i]?=E[i]?
 | .nm i,d,E,E',e=>by
  unfold Pt.bind at e;split at e
  ·cases e;refine⟨by simp,fun j hj=>?_⟩;rw[QJ,if_neg];intro z;exact hj (by simp[Pt.slots,z])
  ·cases e
 | .tp l,d,E,E',e=>by
  cases d with
  | tup ds=>exact Pts.keep (p:=l) (ds:=ds) (by simpa [Pt.bind] using e)
  | _=>simp[Pt.bind] at e
theorem Pts.keep:∀{p:Pts} {ds:List D} {E E':En},p.bind ds E=some E'->E'.length=E.length/\∀i,i∉p.slots->E'[i]?=E[i]?
 | .nil,[],E,E',e=>by simp[Pts.bind] at e;subst e;exact⟨rfl,fun _ _=>rfl⟩
 | .nil,_::_,_,_,e=>by simp[Pts.bind] at e
 | .cons _ _,[],_,_,e=>by simp[Pts.bind] at e
 | .cons p l,d::ds,E,E',e=>by rw[Pts.bind] at e;obtain⟨E1,e1,e2⟩:=bind_some e;obtain⟨h1,h2⟩:=Pt.keep e1;obtain⟨h3,h4⟩:=Pts.keep e2;refine⟨h3.trans h1,fun i hi=>?_⟩;simp[Pts.slots] at hi;rw[h4 i hi.2,h2 i hi.1]
end
section
variable(K:Qn)(C:Qc)
noncomputable def SG(g:TG)(p:Pt):Prop:=∀(B H0 H:Hp) (σ:St) (E E':En) (x:V) (d:D) (Q:St->Hp->Prop),EnvR K C B H0 H σ E->RD K C H0 x d->p.bind d E=some E'->(∀σ',EnvR K C B H0 H σ' E'->Q σ' H)->g x σ H Q
noncomputable def SGs(g:TGs)(p:Pts):Prop:=∀(B H0 H:Hp) (σ:St) (E E':En) (xs:List V) (ds:List D) (Q:St->Hp->Prop),EnvR K C B H0 H σ E->RDL K C H0 xs ds->p.bind ds E=some E'->(∀σ',EnvR K C B H0 H σ' E'->Q σ' H)->g xs σ H Q
end
section
variable{K:Qn}{C:Qc}
theorem EnvR.setSh{B H0 H:Hp}{σ:St}{E:En}{i:Nat}{v:V}{d:D}(I:EnvR K C B H0 H σ E)(hi:i<E.length)(r:RD K C H0 v d):EnvR K C B H0 H (σ.set i (some v)) (E.set i (.sh d)) :=
 I.put' (s:=.sh d) (.refl I.h) hi r rfl
theorem YB(i:Nat):SG K C (U8 i) (.nm i):=by
 intro B H0 H σ E E' x d Q I r e q;rw[Pt.bind] at e;split at e
 ·cases e;exact q _ (I.setSh (by assumption) r)
 ·cases e
theorem U9:SGs K C JiQ .nil:=by
 intro B H0 H σ E E' xs ds Q I r e q
 cases ds with
 | nil =>
  cases xs with
  | nil=>rw[Pts.bind] at e;cases e;exact⟨rfl,q σ I⟩
  | cons _ _=>have:=r.1;simp at this
 | cons _ _=>simp[Pts.bind] at e
theorem Yd{g:TG}{gs:TGs}{p:Pt}{ps:Pts}(h:SG K C g p)(hs:SGs K C gs ps):SGs K C (JeN g gs) (.cons p ps):=by
 intro B H0 H σ E E' xs ds Q I r e q
 cases ds with
 | nil=>simp[Pts.bind] at e
 | cons d ds =>
  cases xs with
  | nil=>have:=r.1;simp at this
  | cons x xs=>rw[Pts.bind] at e;obtain⟨E1,e1,e2⟩:=bind_some e;exact⟨x,xs,rfl,h B H0 H σ E E1 x d _ I r.head e1 fun σ1 I1=>hs B H0 H σ1 E1 E' xs ds Q I1 r.tail e2 q⟩
theorem JlB{n:Nat}{gs:TGs}{ps:Pts}(hn:∀(ds:List D) (E E':En),ps.bind ds E=some E'->ds.length=n)(hs:SGs K C gs ps):SG K C (JeO K n gs) (.tp ps):=by
 intro B H0 H σ E E' x d Q I r e q
 cases d with
 | tup ds=>rw[Pt.bind] at e;obtain⟨a,xs,rfl,h,r⟩:=RD.tupI r;exact⟨a,xs,rfl,I.h.seqT h,by rw[r.1];exact hn ds E E' e,hs B H0 H σ E E' xs ds Q I r e q⟩
 | _=>simp[Pt.bind] at e
noncomputable def Pts.len:Pts->Nat
 | .nil=>0
 | .cons _ l=>l.len+1
theorem Pts.bind_len:∀{ps:Pts} {ds:List D} {E E':En},ps.bind ds E=some E'->ds.length=ps.len
 | .nil,[],_,_,_=>rfl
 | .nil,_::_,_,_,e=>by simp[Pts.bind] at e
 | .cons _ _,[],_,_,e=>by simp[Pts.bind] at e
 | .cons p l,d::ds,E,E',e=>by rw[Pts.bind] at e;obtain⟨E1,e1,e2⟩:=bind_some e;rw[Qp,Pts.bind_len e2];rfl
theorem Va{n:Nat}{gs:TGs}{ps:Pts}(hs:SGs K C gs ps)(hn:ps.len=n):SG K C (JeO K n gs) (.tp ps):=JlB (fun _ _ _ e=>(Pts.bind_len e).trans hn) hs
end

section
variable(K:Qn)(C:Qc)
noncomputable def Jf2(A:Hp)(J:It)(ds:List D)(H0:Hp):Prop:=∀H0' H',SStep A H0 H0' H'->(∀(i:Nat) (d:D),ds[i]?=some d->J.go i H'/\∀x H2,J.yld i H' x H2->∃H02,Step H' H0' H' H02 H2/\RD K C H02 x d)/\J.stop ds.length H'
noncomputable def SI(m:Bool)(wi:TI)(ev:En->Option (List D)):Prop:=∀(B H0 H:Hp) (σ:St) (E:En) (ds:List D) (R:It->Hp->Prop),EnvR K C B H0 H σ E->ev E=some ds ->
 (∀J H0' H',Step H H0 H H0' H'->Jf2 K C (if m=true then H' else B) J ds H0'->R J H')->wi σ H R
end
noncomputable def Sl.it(m:Bool):Sl->Option (List D)
 | .bo ds=>if m=true then some ds else none
 | s=>s.q
noncomputable def iE(m:Bool)(a:Ev):En->Option (List D):=fun E=>(a E).bind (Sl.it m)
noncomputable def iV(i:Nat):En->Option (List D):=fun E=>match E[i]? with
 | some (.bo ds)=>some ds
 | some (.sh d)=>(Sl.sh d).q
 | _=>none
noncomputable def rng(lo:Int)(n:Nat):List D:=(QV n).map fun(i:Nat)=>.int (lo+(i:Int))
noncomputable def JbP(a:Int):Bool:=KR a.natAbs 4611686018427387903
noncomputable def iR1(as:En->Option (List Sl)):En->Option (List D):=fun E=>(as E).bind fun ss=>match ss with
 | [.sh (.int n)]=>if JbP n=true then some (rng 0 n.toNat) else none
 | _=>none
section
variable{K:Qn}{C:Qc}{te:TE}{ea:Ev}{m:Bool}
theorem VC{A H0:Hp}{a:Qc}{xs:List V}{ds:List D}(hd:∀H0' H',SStep A H0 H0' H'->SqL K H' a xs)(r:RDL K C H0 xs ds):Jf2 K C A (Itl K a) ds H0:=by intro H0' H' st;have hq:=hd H0' H' st;refine⟨fun i d e=>?_,⟨xs,hq,by rw[r.1];exact Qr _⟩⟩;obtain⟨x,e1,r1⟩:=r.get e;refine⟨⟨xs,x,hq,e1⟩,fun y H2 ⟨e2,e3⟩=>?_⟩;subst e2;have:=e3 xs hq;rw[e1] at this;cases this;exact⟨H0',.refl st.i,r1.mono st.z⟩
theorem JiX{A H0:Hp}{a:Qc}{xs:List V}{ds:List D}(hd:∀H0' H',SStep A H0 H0' H'->SqT K H' a xs)(r:RDL K C H0 xs ds):Jf2 K C A (Itt K a) ds H0:=by intro H0' H' st;have hq:=hd H0' H' st;refine⟨fun i d e=>?_,⟨xs,hq,by rw[r.1];exact Qr _⟩⟩;obtain⟨x,e1,r1⟩:=r.get e;refine⟨⟨xs,x,hq,e1⟩,fun y H2 ⟨e2,e3⟩=>?_⟩;subst e2;have:=e3 xs hq;rw[e1] at this;cases this;exact⟨H0',.refl st.i,r1.mono st.z⟩
theorem Jkc(ha:SE K C te ea):SI K C m (JbO K te) (iE m ea):=by
 intro B H0 H σ E ds R I e q;obtain⟨s,e1,e⟩:=bind_some e
 cases s with
 | no=>cases e
 | bd _ _=>cases e
 | bt _ _=>cases e
 | od _ _=>cases e
 | ot _ _=>cases e
 | bo es =>
  unfold Sl.it at e;dsimp only at e;split at e
  ·next hm=>cases e;refine .inl (ha B H0 H σ E _ _ I e1 fun x H1 H1' s1 r1=>?_);obtain⟨l,xs,rfl,h,r⟩:=r1;refine⟨l,rfl,⟨xs,.of h⟩,q _ _ _ s1 ?_⟩;rw[if_pos hm];exact VC (fun H0' H' st=>.of (st.b _ _ h)) r
  ·cases e
 | own es=>cases (show some es=some ds from e);refine .inl (ha B H0 H σ E _ _ I e1 fun x H1 H1' s1 r1=>?_);have f:=JT (Hs:=H) s1.i;have r2:=RR.frz s1.i r1 rfl;obtain⟨l,xs,rfl,h,r⟩:=RD.lstI r2;exact⟨l,rfl,⟨xs,.of (f.i _ _ h)⟩,q _ _ _ (s1.comp f fun _ z=>z) (VC (fun H0' H' st=>.of (st.i _ _ (st.z _ _ h))) r)⟩
 | sh d =>
  cases d with
  | lst es=>cases (show some es=some ds from e);refine .inl (ha B H0 H σ E _ _ I e1 fun x H1 H1' s1 r1=>?_);obtain⟨l,xs,rfl,h,r⟩:=RD.lstI r1;exact⟨l,rfl,⟨xs,.of (s1.i _ _ h)⟩,q _ _ _ s1 (VC (fun H0' H' st=>.of (st.i _ _ (st.z _ _ h))) r)⟩
  | fz es=>cases (show some es=some ds from e);refine .inl (ha B H0 H σ E _ _ I e1 fun x H1 H1' s1 r1=>?_);obtain⟨l,xs,rfl,h,r⟩:=RD.fzI r1;exact⟨l,rfl,⟨xs,s1.i.seq h⟩,q _ _ _ s1 (VC (fun H0' H' st=>(st.z.trans st.i).seq h) r)⟩
  | tup es=>cases (show some es=some ds from e);refine .inr (ha B H0 H σ E _ _ I e1 fun x H1 H1' s1 r1=>?_);obtain⟨l,xs,rfl,h,r⟩:=RD.tupI r1;exact⟨l,rfl,⟨xs,s1.i.seqT h⟩,q _ _ _ s1 (JiX (fun H0' H' st=>(st.z.trans st.i).seqT h) r)⟩
  | _=>cases (show none=some ds from e)
theorem Jkd(i:Nat):SI K C false (JbO K (JaC i)) (iV i):=by
 intro B H0 H σ E ds R I e q;unfold iV at e;split at e
 ·next es h =>
  cases e;rcases I.at' i _ h with z|⟨v,h1,h2⟩
  ·cases z
  ·obtain⟨l,xs,rfl,hl,r⟩:=h2;refine .inl ⟨_,h1,l,rfl,⟨xs,.of (I.b _ _ hl)⟩,q _ _ _ (.refl I.h) (VC (fun H0' H' st=>.of (st.b _ _ hl)) r)⟩
 ·next d h=>refine Jkc (m:=false) (ea:=Jb i) (Jc i) B H0 H σ E ds R I ?_ q;show(Jb i E).bind _=_;unfold Jb;rw[h];exact e
 ·cases e
theorem JhC{lo:Int}{n i:Nat}{d:D}(e:(rng lo n)[i]?=some d):i<n/\d=.int (lo+(i:Int)):=by
 unfold rng at e;rw[Qw] at e
 cases h:(QV n)[i]? with
 | none=>rw[h] at e;cases e
 | some j=>rw[h] at e;cases e;obtain⟨h1,h2⟩:=Qh.mp h;simp at h1 h2;subst h2;exact⟨h1,rfl⟩
theorem JeV{A H0:Hp}{lo:Int}{n:Nat}:Jf2 K C A (Itr lo n) (rng lo n) H0:=by intro H0' H' st;refine⟨fun i d e=>?_,by show n<=_;simp[rng]⟩;obtain⟨h1,rfl⟩:=JhC e;refine⟨h1,fun x H2 ⟨e1,e2⟩=>?_⟩;subst e1 e2;exact⟨H0',.refl st.i,.int _⟩
theorem Jag{a:Int}(h:JbP a=true):-(2 ^ 62)<=a/\a<2 ^ 62:=by unfold JbP at h;rw[GG] at h;omega
theorem Jc8{t:TA}{ev:En->Option (List Sl)}(ha:SA K C t ev):SI K C m (Jh8 t) (iR1 ev):=by
 intro B H0 H σ E ds R I e q;obtain⟨ss,e1,e⟩:=bind_some e;split at e
 ·split at e
  ·next hn =>
   cases e;refine ha B H0 H σ E _ _ I e1 fun vs H1 H1' s1 r1=>?_
   obtain⟨v,rfl,r⟩:=r1.one;rw[RD.intI r];exact⟨_,rfl,(Jag hn).1,(Jag hn).2,q _ _ _ s1 JeV⟩
  ·cases e
 ·cases e
end

noncomputable def yes?:En->Option Bool:=fun _=>some true
noncomputable def VB(imp:List (Option Nat))(E:En):En:=imp.map fun o=>match o with
 | none=>.no
 | some k=>match E[k]? with
  | some (.own ds)=>.bo ds
  | some (.od ks ds)=>.bd ks ds
  | some (.ot ks ds)=>.bt ks ds
  | some s=>s
  | none=>.no
noncomputable def UH(p:Pt)(c:En->Option Bool)(a:Ev)(E1:En):List D->Option (List D)
 | []=>some []
 | d::ds=>(p.bind d E1).bind fun E2=>(c E2).bind fun k=>if k=true then(a E2).bind fun s=>s.frz.bind fun y=>(UH p c a E1 ds).bind fun ys=>some (y::ys) else UH p c a E1 ds
noncomputable def WJ(it:En->Option (List D))(p:Pt)(c:En->Option Bool)(a:Ev)(imp:List (Option Nat)):Ev:=fun E=>(it E).bind fun ds=>if ds.length<=Qk then(UH p c a (VB imp E) ds).map .own else none
section
variable{K:Qn}{C:Qc}
theorem Jik:ST K C Jkm yes?:=fun _ _ _ _ _ _ _ I e q=>by cases e;exact q _ _ (.refl I.h)
theorem Jgi{B H0 H:Hp}{σ:St}{E:En}{imp:List (Option Nat)}(I:EnvR K C B H0 H σ E):EnvR K C H H0 H (WU imp σ) (VB imp E):=by
 have get:∀(i:Nat) (s:Sl),(VB imp E)[i]?=some s->s=.no\/∃v,(WU imp σ)[i]?=some (some v)/\RSl K C H H0 H v s/\JK s=false:=fun i s e=>by
  unfold VB at e;unfold WU;rw[Qw] at e ⊢
  cases h:imp[i]? with
  | none=>rw[h] at e;cases e
  | some o =>
   rw[h] at e
   cases o with
   | none=>cases e;exact .inl rfl
   | some k =>
    have e':(match E[k]? with|some (.own ds)=>Sl.bo ds|some (.od ks ds)=>Sl.bd ks ds|some (.ot ks ds)=>Sl.bt ks ds|some s=>s|none=>.no)=s:=QM e
    cases hE:E[k]? with
    | none=>rw[hE] at e';exact .inl e'.symm
    | some s' =>
     rw[hE] at e';rcases I.at' k s' hE with z|⟨v,h1,h2⟩
     ·subst z;exact .inl e'.symm
     ·have g:(σ[k]?).join=some v:=by rw[h1];rfl
      cases s' with
      | no=>exact .inl e'.symm
      | sh d=>dsimp only at e';subst e';exact .inr ⟨v,by show some ((σ[k]?).join)=_;rw[g],h2,rfl⟩
      | bo ds=>dsimp only at e';subst e';obtain⟨l,xs,q1,q2,q3⟩:=h2;exact .inr ⟨v,by show some ((σ[k]?).join)=_;rw[g],⟨l,xs,q1,I.b _ _ q2,q3⟩,rfl⟩
      | own ds=>dsimp only at e';subst e';obtain⟨l,xs,q1,q2,_,_,q3⟩:=h2;exact .inr ⟨v,by show some ((σ[k]?).join)=_;rw[g],⟨l,xs,q1,q2,q3⟩,rfl⟩
      | bd ks ds=>dsimp only at e';subst e';obtain⟨l,xs,q1,q2,q3⟩:=h2;exact .inr ⟨v,by show some ((σ[k]?).join)=_;rw[g],⟨l,xs,q1,I.b _ _ q2,q3⟩,rfl⟩
      | bt ks ds=>dsimp only at e';subst e';obtain⟨l,xs,q1,q2,q3⟩:=h2;exact .inr ⟨v,by show some ((σ[k]?).join)=_;rw[g],⟨l,xs,q1,I.b _ _ q2,q3⟩,rfl⟩
      | od ks ds=>dsimp only at e';subst e';obtain⟨l,xs,q1,q2,_,_,q3⟩:=h2;exact .inr ⟨v,by show some ((σ[k]?).join)=_;rw[g],⟨l,xs,q1,q2,q3⟩,rfl⟩
      | ot ks ds=>dsimp only at e';subst e';obtain⟨l,xs,q1,q2,_,_,q3⟩:=h2;exact .inr ⟨v,by show some ((σ[k]?).join)=_;rw[g],⟨l,xs,q1,q2,q3⟩,rfl⟩
 refine⟨Same.refl _,I.h,by simp[WU,VB],fun i s e=>?_,fun i j s t v hij e1 e2 o1 o2=>?_⟩
 ·rcases get i s e with z|⟨v,h1,h2,_⟩
  ·exact .inl z
  ·exact .inr ⟨v,h1,h2⟩
 ·rcases get i _ e1 with z|⟨v,h1,h2,h3⟩
  ·subst z;cases o1
  ·rw[h3] at o1;cases o1
theorem Jax{wi:TI}{g:TG}{tt:TT}{te:TE}{imp:List (Option Nat)}{it:En->Option (List D)}{p:Pt}{c:En->Option Bool}{a:Ev}(hi:SI K C true wi it)(hg:SG K C g p)(hc:ST K C tt c)(ha:SE K C te a)
 (hp:(p.slots.all fun i=>match imp[i]? with|some none=>true|_=>false)=true):SE K C (JfR wi g tt te imp) (WJ it p c a imp):=by
 intro B H0 H σ E r Q I e q;obtain⟨ds,e1,e⟩:=bind_some e;split at e
 ·next hl =>
  obtain⟨es,e2,rfl⟩:=map_some e;refine hi B H0 H σ E ds _ I e1 fun J H1 H1' s1 ok=>?_
  rw[if_pos rfl] at ok;have I1:EnvR K C H1' H1 H1' (WU imp σ) (VB imp E):=Jgi (I.step s1)
  -- the loop: what was gathered,what comes
  refine⟨fun i m ys σ' H'=>m=ds.length-i/\i<=ds.length/\∃H0' gs rs,EnvR K C H1' H0' H' σ' (VB imp E)/\Step H1' H1 H1' H0' H'/\RDL K C H0' ys gs/\UH p c a (VB imp E) (ds.drop i)=some rs/\es=gs++rs/\gs.length<=i,
   ⟨ds.length,by simp,Kj _,H1,[],es,I1,.refl s1.i,.nil,e2,rfl,Qr _⟩,?_⟩
  rintro i m ys σ' H' ⟨rfl,hi',H0',gs,rs,I',st,rys,er,ees,hgl⟩;have stop:=ok H0' H' ⟨st.h,st.z,st.n,st.i⟩
  by_cases hlt:i<ds.length
  ·have hd:ds[i]?=some ds[i]:=by simp[hlt]
   obtain⟨go,yl⟩:=stop.1 i _ hd;refine .inr ⟨go,by rw[rys.1];omega,fun ys' σ2 H2=>∃H02 gs rs,EnvR K C H1' H02 H2 σ2 (VB imp E)/\Step H1' H1 H1' H02 H2/\RDL K C H02 ys' gs/\UH p c a (VB imp E) (ds.drop (i+1))=some rs/\es=gs++rs/\gs.length<=i+1,
    fun ys' σ2 H2 h=>⟨ds.length-(i+1),by omega,rfl,hlt,h⟩,fun x H2 y=>?_⟩
   obtain⟨H02,st2,rx⟩:=yl x H2 y;rw[G4 hlt,UH] at er;obtain⟨E2,b1,er⟩:=bind_some er;obtain⟨k,b2,er⟩:=bind_some er;refine hg H1' H02 H2 σ' (VB imp E) E2 x _ _ (I'.step st2) rx b1 fun σ2 I2=>?_
   have back:∀{H03 H3:Hp},EnvR K C H1' H03 H3 σ2 E2->EnvR K C H1' H03 H3 σ2 (VB imp E):=fun {H03 H3} J=>by
    obtain⟨k1,k2⟩:=Pt.keep b1;refine J.sub k1.symm fun j s ej=>?_
    by_cases hj:j∈p.slots
    ·have:=Gr.mp hp j hj
     have ej':=ej;unfold VB at ej';rw[Qw] at ej'
     cases hm:imp[j]? with
     | none=>rw[hm] at this;cases this
     | some o =>
      rw[hm] at this ej'
      cases o with
      | none=>cases ej';exact .inl rfl
      | some _=>cases this
    ·exact .inr (by rw[k2 j hj];exact ej)
   refine hc H1' H02 H2 σ2 E2 k _ I2 b2 fun H03 H3 st3=>?_
   have st13:Step H1' H1 H1' H03 H3:=(st.trans st2).trans st3
   cases k with
   | false=>rw[if_neg (by simp)];rw[if_neg (by simp)] at er;exact⟨H03,gs,rs,back (I2.step st3),st13,rys.mono (st2.z.trans st3.z),er,ees,by omega⟩
   | true =>
    rw[if_pos rfl];rw[if_pos rfl] at er;obtain⟨s,b3,er⟩:=bind_some er;obtain⟨y',b4,er⟩:=bind_some er;obtain⟨ws,b5,er⟩:=bind_some er;cases er;refine ha H1' H03 H3 σ2 E2 s _ (I2.step st3) b3 fun v H04 H4 st4 r4=>?_
    have f:=JT (Hs:=H3) st4.i
    have st5:Step H3 H03 H3 (YQ H3 H04 H4) H4:=st4.comp f fun _ z=>z
    exact⟨_,gs++[y'],ws,back ((I2.step st3).step st5),st13.trans st5,(rys.mono ((st2.z.trans st3.z).trans st5.z)).snoc (RR.frz st4.i r4 b4),b5,by rw[ees,GR];rfl,by rw[QN];simp;exact hgl⟩
  ·have e3:i=ds.length:=by omega
   subst e3;refine .inl ⟨stop.2,by rw[rys.1];omega,fun p hp=>?_⟩;rw[K6,UH] at er;cases er;rw[Q4] at ees;subst ees;exact VF (Hs:=H) st.i (s1.h.trans st.h) hp rys fun v H2 H2' s2 r2=>q v H2 H2' ((s1.trans st).comp s2 fun _ z=>z) r2
 ·cases e
end
end LE

namespace LE
open PySem L2 LR

inductive Out where
 | nx (E:En)|rt (r:Sl)|bk (E:En)|ct (E:En)
noncomputable abbrev Es:=En->Option Out
section
variable(K:Qn)(C:Qc)
noncomputable def Fin(B H0:Hp)(D:Ends):Out->Prop
 | .nx E=>∀σ' H0' H',SStep B H0 H0' H'->EnvR K C B H0' H' σ' E->D.nx σ' H'
 | .bk E=>∀σ' H0' H',SStep B H0 H0' H'->EnvR K C B H0' H' σ' E->D.bk σ' H'
 | .ct E=>∀σ' H0' H',SStep B H0 H0' H'->EnvR K C B H0' H' σ' E->D.ct σ' H'
 | .rt r=>∀v H0' H',SStep B H0 H0' H'->RR K C B H0' H' v r->D.rt v H'
noncomputable def SS(ts:TS)(ev:Es):Prop:=∀(B H0 H:Hp) (σ:St) (E:En) (o:Out) (D:Ends),EnvR K C B H0 H σ E->ev E=some o->Fin K C B H0 D o->ts D σ H
end
noncomputable def JJ:Es:=fun E=>some (.nx E)
noncomputable def Jd3(b:Es):Out->Option Out
 | .nx E=>b E
 | .rt r=>some (.rt r)
 | .bk E=>some (.bk E)
 | .ct E=>some (.ct E)
noncomputable def Jp(a b:Es):Es:=fun E=>(a E).bind (Jd3 b)
noncomputable def xIf(c:En->Option Bool)(a b:Es):Es:=fun E=>(c E).bind fun k=>if k=true then a E else b E
noncomputable def keep?:Sl->Option Sl
 | .sh d=>some (.sh d)
 | .own ds=>some (.own ds)
 | .od ks ds=>some (.od ks ds)
 | .ot ks ds=>some (.ot ks ds)
 | _=>none
noncomputable def Jed(i:Nat)(a:Ev):Es:=fun E=>(a E).bind fun s=>(keep? s).bind fun s=>if i<E.length then some (.nx (E.set i s)) else none
noncomputable def Jr(i:Nat)(a:Ev):Es:=fun E=>(a E).bind fun s=>s.frz.bind fun d=>if i<E.length then some (.nx (E.set i (.sh d))) else none
noncomputable def Jkt(p:Pt)(a:Ev):Es:=fun E=>(a E).bind fun s=>s.frz.bind fun d=>(p.bind d E).map .nx
noncomputable def Zo(a:Ev):Es:=fun E=>(a E).map fun _=>.nx E
noncomputable def JZ(a:Ev):Es:=fun E=>(a E).bind fun s=>(keep? s).map .rt
noncomputable def Zp(i:Nat):Es:=fun E=>match E[i]? with
 | some (.sh d)=>some (.rt (.sh d))
 | some (.own ds)=>some (.rt (.own ds))
 | some (.od ks ds)=>some (.rt (.od ks ds))
 | _=>none
noncomputable def YK:Es:=fun _=>none
noncomputable def Jck(i:Nat)(a:Ev):Es:=fun E=>match E[i]? with
 | some (.own ds)=>(a E).bind fun s=>s.frz.bind fun d=>if ds.length<Qk then some (.nx (E.set i (.own (ds++[d])))) else none
 | _=>none
noncomputable def Zq(i:Nat)(k a:Ev):Es:=fun E=>match E[i]? with
 | some (.own ds)=>(a E).bind fun s=>s.frz.bind fun d=>(k E).bind fun t=>match t with
  | .sh (.int z)=>(ixN ds.length z).map fun j=>.nx (E.set i (.own (ds.set j d)))
  | _=>none
 | _=>none
noncomputable def JhZ(i j:Nat)(f:Sl->Option Sl):Es:=fun E=>match E[i]? with
 | some (.own ds)=>(ds[ds.length-1]?).bind fun d=>(f (.sh d)).bind fun s=>(sh? s).bind fun d'=>if j<E.length then some (.nx ((E.set i (.own ds.dropLast)).set j (.sh d'))) else none
 | _=>none
noncomputable def JiP(i:Nat)(E:En):En:=match E[i]? with
 | some (.own ds)=>E.set i (.sh (.lst ds))
 | some (.od ks ds)=>E.set i (.sh (.dct ks ds))
 | _=>E
noncomputable def Yw(p:Pt)(b:Es):List D->Es
 | [],E=>some (.nx E)
 | d::ds,E=>(p.bind d E).bind fun E1=>(b E1).bind fun o=>match o with
  | .nx E2=>Yw p b ds E2
  | .ct E2=>Yw p b ds E2
  | .bk E2=>some (.nx E2)
  | .rt r=>some (.rt r)
noncomputable def Y4(it:En->Option (List D))(p:Pt)(b:Es):Es:=fun E=>(it E).bind fun ds=>Yw p b ds E
section
variable{K:Qn}{C:Qc}{B H0 H H0' H':Hp}{σ:St}{E:En}{D:Ends}{o:Out}{te:TE}{ea:Ev}{t u:TS}{et eu:Es}
theorem Fin.step(st:SStep B H0 H0' H')(f:Fin K C B H0 D o):Fin K C B H0' D o:=by
 cases o with
 | nx E=>exact fun σ' H1 H1' s1 I=>f σ' H1 H1' (st.trans s1) I
 | bk E=>exact fun σ' H1 H1' s1 I=>f σ' H1 H1' (st.trans s1) I
 | ct E=>exact fun σ' H1 H1' s1 I=>f σ' H1 H1' (st.trans s1) I
 | rt r=>exact fun v H1 H1' s1 I=>f v H1 H1' (st.trans s1) I
theorem EnvR.ss(I:EnvR K C B H0 H σ E):SStep B H0 H0 H:=.refl I.b I.h
theorem JP:SS K C JfS JJ:=fun _ _ _ _ _ _ _ I e f=>by cases e;exact f _ _ _ I.ss I
theorem Jw(ht:SS K C t et)(hu:SS K C u eu):SS K C (Jd8 t u) (Jp et eu):=by
 intro B H0 H σ E o D I e f;obtain⟨o1,e1,e⟩:=bind_some e;refine ht B H0 H σ E o1 _ I e1 ?_
 cases o1 with
 | nx E1=>exact fun σ1 H1 H1' s1 I1=>hu B H1 H1' σ1 E1 o D I1 e (f.step s1)
 | bk E1=>cases e;exact f
 | ct E1=>cases e;exact f
 | rt r=>cases e;exact f
theorem Yx{c:TT}{ec:En->Option Bool}(hc:ST K C c ec)(ht:SS K C t et)(hu:SS K C u eu):SS K C (Jd7 c t u) (xIf ec et eu):=by
 intro B H0 H σ E o D I e f;obtain⟨k,e1,e⟩:=bind_some e;refine hc B H0 H σ E k _ I e1 fun H1 H1' s1=>?_
 cases k with
 | true=>rw[if_pos rfl];exact ht B H1 H1' σ E o D (I.step s1) e (f.step (s1.ss I.b))
 | false=>rw[if_neg (by simp)];exact hu B H1 H1' σ E o D (I.step s1) e (f.step (s1.ss I.b))
theorem ZP{s r:Sl}(e:keep? s=some r):s=r/\JiW r=false:=by cases s <;> cases e <;> exact⟨rfl,rfl⟩
theorem Jdh{i:Nat}(ha:SE K C te ea):SS K C (Zz te (U8 i)) (Jed i ea):=by
 intro B H0 H σ E o D I e f;obtain⟨s,e1,e⟩:=bind_some e;obtain⟨s',e2,e⟩:=bind_some e;obtain⟨rfl,hb⟩:=ZP e2;split at e
 ·cases e;exact ha B H0 H σ E _ _ I e1 fun v H1 H1' s1 r1=>f _ _ _ (s1.ss I.b) (I.put' s1 (by assumption) r1 hb)
 ·cases e
theorem JB{i:Nat}(ha:SE K C te ea):SS K C (Zz te (U8 i)) (Jr i ea):=by
 intro B H0 H σ E o D I e f;obtain⟨s,e1,e⟩:=bind_some e;obtain⟨d,e2,e⟩:=bind_some e;split at e
 ·cases e;refine ha B H0 H σ E _ _ I e1 fun v H1 H1' s1 r1=>?_
  have s2:Step H H0 H (YQ H H1 H1') H1':=s1.comp (JT s1.i) fun _ z=>z
  exact f _ _ _ (s2.ss I.b) ((I.step s2).setSh (by assumption) (RR.frz s1.i r1 e2))
 ·cases e
theorem Jlo{g:TG}{p:Pt}(ha:SE K C te ea)(hg:SG K C g p):SS K C (Zz te g) (Jkt p ea):=by
 intro B H0 H σ E o D I e f;obtain⟨s,e1,e⟩:=bind_some e;obtain⟨d,e2,e⟩:=bind_some e;obtain⟨E',e3,rfl⟩:=map_some e;refine ha B H0 H σ E _ _ I e1 fun v H1 H1' s1 r1=>?_
 have s2:Step H H0 H (YQ H H1 H1') H1':=s1.comp (JT s1.i) fun _ z=>z
 exact hg B _ H1' σ E E' v d _ (I.step s2) (RR.frz s1.i r1 e2) e3 fun σ' I'=>f _ _ _ (s2.ss I.b) I'
theorem Jku(ha:SE K C te ea):SS K C (Jbu te) (Zo ea):=by intro B H0 H σ E o D I e f;obtain⟨s,e1,rfl⟩:=map_some e;exact ha B H0 H σ E _ _ I e1 fun v H1 H1' s1 r1=>f _ _ _ (s1.ss I.b) (I.step s1)
theorem J9(ha:SE K C te ea):SS K C (JfU te) (JZ ea):=by intro B H0 H σ E o D I e f;obtain⟨s,e1,e⟩:=bind_some e;obtain⟨s',e2,rfl⟩:=map_some e;obtain⟨rfl,hb⟩:=ZP e2;exact ha B H0 H σ E _ _ I e1 fun v H1 H1' s1 r1=>f _ _ _ (s1.ss I.b) (r1.weak fun a z=>Same.free I.b z)
theorem Jcm{i:Nat}:SS K C (JfU (JaC i)) (Zp i):=by
 intro B H0 H σ E o D I e f;unfold Zp at e;split at e
 ·next d h =>
  cases e;rcases I.at' i _ h with z|⟨v,h1,h2⟩
  ·cases z
  ·exact⟨v,h1,f _ _ _ I.ss h2⟩
 ·next d h =>
  cases e;rcases I.at' i _ h with z|⟨v,h1,h2⟩
  ·cases z
  ·exact⟨v,h1,f _ _ _ I.ss h2⟩
 ·next d h =>
  cases e;rcases I.at' i _ h with z|⟨v,h1,h2⟩
  ·cases z
  ·exact⟨v,h1,f _ _ _ I.ss h2⟩
 ·cases e
theorem EnvR.mutG{i:Nat}{l:Qc}{t t':Sl}{o':HO}(I:EnvR K C B H0 H σ E)(e1:E[i]?=some t)(ho:JK t=true)(ho':JK t'=true)(e2:σ[i]?=some (some (.ref l)))(r:RSl K C B H0 (upd H l o') (.ref l) t') :
 EnvR K C B H0 (upd H l o') σ (E.set i t'):=by
 obtain⟨h1,h2,h3⟩:=I.ownG e1 ho e2;have hi:i<E.length:=(Qh.mp e1).1;have nb:∀{A:Hp},A l=none->Same A H->Same A (upd H l o'):=fun {A} n s a o e=>by rw[Jl (Jt e n)];exact s a o e
 refine⟨nb h3 I.b,nb h2 I.h,by simp[I.len],fun j s e=>?_,fun j k s1 s2 v hjk a1 a2 p1 p2 a3=>?_⟩
 ·rw[QJ] at e
  by_cases hj:i=j
  ·subst hj;rw[if_pos rfl,if_pos hi] at e;cases e;exact .inr ⟨_,e2,r⟩
  ·rw[if_neg hj] at e;rcases I.at' j s e with z|⟨v,q1,q2⟩
   ·exact .inl z
   ·refine .inr ⟨v,q1,?_⟩
    cases s with
    | no=>trivial
    | sh d=>exact q2
    | bo es=>exact q2
    | bd ks es=>exact q2
    | bt ks es=>exact q2
    | own es =>
     obtain⟨l',ys,p1,p2,p3,p4,p5⟩:=q2;subst p1;have:l'≠l:=fun z=>by subst z;exact I.sep i j t _ (.ref l') hj e1 e ho rfl e2 q1
     exact⟨l',ys,rfl,by rw[Jl this];exact p2,p3,p4,p5⟩
    | od ks es =>
     obtain⟨l',ys,p1,p2,p3,p4,p5⟩:=q2;subst p1;have:l'≠l:=fun z=>by subst z;exact I.sep i j t _ (.ref l') hj e1 e ho rfl e2 q1
     exact⟨l',ys,rfl,by rw[Jl this];exact p2,p3,p4,p5⟩
    | ot ks es =>
     obtain⟨l',ys,p1,p2,p3,p4,p5⟩:=q2;subst p1;have:l'≠l:=fun z=>by subst z;exact I.sep i j t _ (.ref l') hj e1 e ho rfl e2 q1
     exact⟨l',ys,rfl,by rw[Jl this];exact p2,p3,p4,p5⟩
 ·have own:∀{j:Nat} {u:Sl},(E.set i t')[j]?=some u->JK u=true->∃g,E[j]?=some g/\JK g=true:=fun {j u} a w=>by
   rw[QJ] at a
   by_cases hj:i=j
   ·subst hj;exact⟨t,e1,ho⟩
   ·rw[if_neg hj] at a;exact⟨_,a,w⟩
  obtain⟨g1,b1,c1⟩:=own a1 p1;obtain⟨g2,b2,c2⟩:=own a2 p2;exact I.sep j k g1 g2 v hjk b1 b2 c1 c2 a3
theorem EnvR.mut{i:Nat}{l:Qc}{ds ds':List LE.D}{xs xs':List V}(I:EnvR K C B H0 H σ E)(e1:E[i]?=some (.own ds))(e2:σ[i]?=some (some (.ref l)))(r:RDL K C H0 xs' ds') :
 EnvR K C B H0 (upd H l (.lst xs')) σ (E.set i (.own ds')):=by
 obtain⟨_,h2,h3⟩:=I.ownG e1 rfl e2;exact I.mutG (t':=.own ds') e1 rfl rfl e2 ⟨l,xs',rfl,Jx,h2,h3,r⟩
theorem EnvR.slot{i:Nat}{ds:List LE.D}(I:EnvR K C B H0 H σ E)(e1:E[i]?=some (.own ds)):∃l xs,σ[i]?=some (some (.ref l))/\H l=some (.lst xs)/\H0 l=none/\B l=none/\RDL K C H0 xs ds:=by
 rcases I.at' i _ e1 with z|⟨v,h1,l,xs,rfl,h2,h3,h4,h5⟩
 ·cases z
 ·exact⟨l,xs,h1,h2,h3,h4,h5⟩
theorem JfZ{i:Nat}(ha:SE K C te ea):SS K C (Jbu (tBM K "list" Jc1 (JaC i) (Y0 te ZC))) (Jck i ea):=by
 intro B H0 H σ E o D I e f;unfold Jck at e;split at e
 ·next ds h =>
  obtain⟨s,e1,e⟩:=bind_some e;obtain⟨d,e2,e⟩:=bind_some e;split at e
  ·next hz =>
   cases e;obtain⟨l,xs,g1,g2,g3,g4,g5⟩:=I.slot h;refine⟨_,g1,.inl ⟨rfl,_,.of g2⟩,?_⟩;refine ha B H0 H σ E _ _ I e1 fun v H1 H1' s1 r1=>?_
   have s2:Step H H0 H (YQ H H1 H1') H1':=s1.comp (JT s1.i) fun _ z=>z
   have I2:=I.step s2
   have m:=I2.mut (xs:=xs) h g1 ((g5.mono s2.z).snoc (RR.frz s1.i r1 e2));exact⟨l,xs,v,rfl,rfl,s2.h _ _ g2,by rw[g5.1];exact hz,f _ _ _ ⟨m.b,s2.z,(s2.ss I.b).n,m.h⟩ m⟩
  ·cases e
 ·cases e
theorem Jh1{i:Nat}{ti:TE}{ei:Ev}(ha:SE K C te ea)(hi:SE K C ti ei):SS K C (Zz te (JiR (JaC i) ti Jih)) (Zq i ei ea):=by
 intro B H0 H σ E o D I e f;unfold Zq at e;split at e
 ·next ds h =>
  obtain⟨s,e1,e⟩:=bind_some e;obtain⟨d,e2,e⟩:=bind_some e;obtain⟨k,e3,e⟩:=bind_some e;split at e
  ·next z =>
   obtain⟨j,e4,rfl⟩:=map_some e;obtain⟨l,xs,g1,g2,g3,g4,g5⟩:=I.slot h;refine ha B H0 H σ E _ _ I e1 fun v H1 H1' s1 r1=>?_
   have s2:Step H H0 H (YQ H H1 H1') H1':=s1.comp (JT s1.i) fun _ z=>z
   have rv:=RR.frz s1.i r1 e2;refine⟨_,g1,?_⟩;refine hi B _ H1' σ E _ _ (I.step s2) e3 fun w H3 H3' s3 r3=>?_
   have s4:=s2.trans s3
   have m:=(I.step s4).mut (xs:=xs) h g1 ((g5.mono s4.z).set j (rv.mono s3.z));rw[RD.intI r3];exact⟨l,xs,z,j,rfl,rfl,s4.h _ _ g2,by rw[g5.1];exact e4,f _ _ _ ⟨m.b,s4.z,(s4.ss I.b).n,m.h⟩ m⟩
  ·cases e
 ·cases e
theorem Jh0{i j:Nat}{k:Int}:SS K C (Zz (tOp (rIx K) (Jki K "list" Jk8 (JaC i)) (tC (.int k))) (U8 j)) (JhZ i j fun s=>fIx s (.sh (.int k))):=by
 intro B H0 H σ E o D I e f;unfold JhZ at e;split at e
 ·next ds h =>
  obtain⟨d,e1,e⟩:=bind_some e;obtain⟨s,e2,e⟩:=bind_some e;obtain⟨d',e3,e⟩:=bind_some e;obtain rfl:=Wz e3;split at e
  ·next hj =>
   cases e;obtain⟨l,xs,g1,g2,g3,g4,g5⟩:=I.slot h;rw[<- g5.1] at e1;obtain⟨y,e4,r4⟩:=g5.get e1;have hd:RDL K C H0 xs.dropLast ds.dropLast:=by rw[Ll,Ll,g5.1];exact g5.take _
   have m:=I.mut (xs:=xs) h g1 hd;refine⟨_,g1,.inl ⟨rfl,_,.of g2⟩,l,xs,y,rfl,rfl,g2,e4,?_⟩;refine YW (K:=K) (C:=C) _ H0 _ y (.int k) (.sh d) (.sh (.int k)) (.sh d') _ m.h (Same.refl _) r4 (RD.int k) e2 fun v H2 H2' s2 r2=>?_
   exact f _ _ _ ⟨m.b.trans s2.h,s2.z,fun a o z=>(s2.n a o z).imp id fun z=>z.imp (fun z=>Same.free m.b z) id,s2.i⟩ ((m.step s2).setSh (by simpa using hj) r2)
  ·cases e
 ·cases e
theorem EnvR.slotD{i:Nat}{ks:List Int}{ds:List LE.D}(I:EnvR K C B H0 H σ E)(e1:E[i]?=some (.od ks ds)):∃l xs,σ[i]?=some (some (.ref l))/\H l=some (dkO ks xs)/\H0 l=none/\B l=none/\ks.length=ds.length/\RDL K C H0 xs ds:=by
 rcases I.at' i _ e1 with z|⟨v,h1,l,xs,rfl,h2,h3,h4,h5⟩
 ·cases z
 ·exact⟨l,xs,h1,h2,h3,h4,h5⟩
theorem EnvR.frzG(I:EnvR K C B H0 H σ E){i:Nat}{t:Sl}{l:Qc}{o:HO}{d:LE.D}(h:E[i]?=some t)(ho:JK t=true)(g1:σ[i]?=some (some (.ref l)))(g2:H l=some o)(g5:∀H1,Same H0 H1->H1 l=some o->RD K C H1 (.ref l) d):∃H0',SStep B H0 H0' H/\EnvR K C B H0' H σ (E.set i (.sh d)):=by
 obtain⟨_,g3,g4⟩:=I.ownG h ho g1;have hi:i<E.length:=(Qh.mp h).1;have s0:Same H0 (upd H0 l o):=.new g3
 have s1:Same (upd H0 l o) H:=fun a o e=>by
  by_cases ha:a=l
  ·subst ha;rw[Jx] at e;cases e;exact g2
  ·rw[Jl ha] at e;exact I.h a o e
 refine⟨upd H0 l o,⟨I.b,s0,fun a o e=>?_,s1⟩,I.b,s1,by simp[I.len],fun j s e=>?_,fun j k u1 u2 v hjk a1 a2 w1 w2 a3=>?_⟩
 ·by_cases ha:a=l
  ·subst ha;exact .inr (.inl g4)
  ·rw[Jl ha] at e;exact .inl e
 ·rw[QJ] at e
  by_cases hj:i=j
  ·subst hj;rw[if_pos rfl,if_pos hi] at e;cases e;exact .inr ⟨_,g1,g5 _ s0 Jx⟩
  ·rw[if_neg hj] at e;rcases I.at' j s e with z|⟨v,q1,q2⟩
   ·exact .inl z
   ·refine .inr ⟨v,q1,?_⟩
    cases s with
    | no=>trivial
    | sh d=>exact RD.mono s0 q2
    | bo es=>obtain⟨l',ys,p1,p2,p3⟩:=q2;exact⟨l',ys,p1,p2,p3.mono s0⟩
    | bd ks es=>obtain⟨l',ys,p1,p2,hk,p3⟩:=q2;exact⟨l',ys,p1,p2,hk,p3.mono s0⟩
    | bt ks es=>obtain⟨l',ys,p1,p2,hk,p3⟩:=q2;exact⟨l',ys,p1,p2,hk,p3.mono s0⟩
    | own es =>
     obtain⟨l',ys,p1,p2,p3,p4,p5⟩:=q2;subst p1;have:l'≠l:=fun z=>by subst z;exact I.sep i j t _ (.ref l') hj h e ho rfl g1 q1
     exact⟨l',ys,rfl,p2,by rw[Jl this];exact p3,p4,p5.mono s0⟩
    | od ks es =>
     obtain⟨l',ys,p1,p2,p3,p4,hk,p5⟩:=q2;subst p1;have:l'≠l:=fun z=>by subst z;exact I.sep i j t _ (.ref l') hj h e ho rfl g1 q1
     exact⟨l',ys,rfl,p2,by rw[Jl this];exact p3,p4,hk,p5.mono s0⟩
    | ot ks es =>
     obtain⟨l',ys,p1,p2,p3,p4,hk,p5⟩:=q2;subst p1;have:l'≠l:=fun z=>by subst z;exact I.sep i j t _ (.ref l') hj h e ho rfl g1 q1
     exact⟨l',ys,rfl,p2,by rw[Jl this];exact p3,p4,hk,p5.mono s0⟩
 ·have own:∀{j:Nat} {u:Sl},(E.set i (.sh d))[j]?=some u->JK u=true->E[j]?=some u:=fun {j u} a w=>by
   rw[QJ] at a
   by_cases hj:i=j
   ·subst hj;rw[if_pos rfl,if_pos hi] at a;cases a;cases w
   ·rw[if_neg hj] at a;exact a
  exact I.sep j k u1 u2 v hjk (own a1 w1) (own a2 w2) w1 w2 a3
theorem EnvR.frz(I:EnvR K C B H0 H σ E)(i:Nat):∃H0',SStep B H0 H0' H/\EnvR K C B H0' H σ (JiP i E):=by
 unfold JiP;split
 ·next ds h=>obtain⟨l,xs,g1,g2,g3,g4,g5⟩:=I.slot h;exact I.frzG h rfl g1 g2 fun H1 s0 hl=>.mkL hl (g5.mono s0)
 ·next ks ds h=>obtain⟨l,xs,g1,g2,g3,g4,hk,g5⟩:=I.slotD h;exact I.frzG h rfl g1 g2 fun H1 s0 hl=>.mkD hl hk (g5.mono s0)
 ·exact⟨H0,I.ss,I⟩
theorem Vb{wi:TI}{g:TG}{it:En->Option (List LE.D)}{p:Pt}(hi:SI K C false wi it)(hg:SG K C g p)(ht:SS K C t et):SS K C (JhS wi g t) (Y4 it p et):=by
 intro B H0 H σ E o D I e f;obtain⟨ds,e1,e⟩:=bind_some e;refine hi B H0 H σ E ds _ I e1 fun J H1 H1' s1 ok=>?_
 rw[if_neg (by simp)] at ok;refine⟨fun i m σ' H'=>m=ds.length-i/\i<=ds.length/\∃H0' E',EnvR K C B H0' H' σ' E'/\SStep B H1 H0' H'/\Yw p et (ds.drop i) E'=some o,
  ⟨ds.length,by simp,Kj _,H1,E,I.step s1,.refl (I.b.trans s1.h) s1.i,e⟩,?_⟩
 rintro i m σ' H' ⟨rfl,hi',H0',E',I',st,er⟩;have stop:=ok H0' H' st;have f':Fin K C B H0' D o:=(f.step (s1.ss I.b)).step st
 by_cases hlt:i<ds.length
 ·have hd:ds[i]?=some ds[i]:=by simp[hlt]
  obtain⟨go,yl⟩:=stop.1 i _ hd;refine .inr ⟨go,fun σ2 H2=>∃H02 E2,EnvR K C B H02 H2 σ2 E2/\SStep B H1 H02 H2/\Yw p et (ds.drop (i+1)) E2=some o,fun σ2 H2 h=>⟨ds.length-(i+1),by omega,rfl,hlt,h⟩,fun x H2 y=>?_⟩;obtain⟨H02,st2,rx⟩:=yl x H2 y;rw[G4 hlt,Yw] at er;obtain⟨E1,b1,er⟩:=bind_some er;obtain⟨o1,b2,er⟩:=bind_some er;have ss2:SStep B H0' H02 H2:=st2.ss I'.b;refine hg B H02 H2 σ' E' E1 x _ _ (I'.step st2) rx b1 fun σ2 I2=>?_
  refine ht B H02 H2 σ2 E1 o1 _ I2 b2 ?_
  cases o1 with
  | nx E2=>exact fun σ3 H3 H3' s3 I3=>⟨H3,E2,I3,(st.trans ss2).trans s3,er⟩
  | ct E2=>exact fun σ3 H3 H3' s3 I3=>⟨H3,E2,I3,(st.trans ss2).trans s3,er⟩
  | bk E2=>cases er;exact f'.step ss2
  | rt r=>cases er;exact f'.step ss2
 ·have e3:i=ds.length:=by omega
  subst e3;rw[K6,Yw] at er;cases er;exact .inl ⟨stop.2,f' _ _ _ I'.ss I'⟩
end

noncomputable def Wl:Out->Option Sl
 | .nx _=>some (.sh .non)
 | .rt r=>some r
 | .bk _=>none
 | .ct _=>none
noncomputable def YV(N:Nat)(b:Es):List Sl->Option Sl:=fun as=>(b (as++Qi (N-as.length) .no)).bind Wl
section
variable{K:Qn}{C:Qc}
theorem RRL.get{Hs H0 H:Hp}:∀{vs:List V} {ss:List Sl} {i:Nat} {s:Sl},RRL K C Hs H0 H vs ss->ss[i]?=some s->∃v,vs[i]?=some v/\RR K C Hs H0 H v s
 | _,_,_,_,.nil,e=>by simp at e
 | _,_,0,_,.cons h _,e=>by simp at e;subst e;exact⟨_,rfl,h⟩
 | _,_,i+1,s,.cons _ t,e=>by obtain⟨v,h1,h2⟩:=RRL.get (i:=i) (s:=s) t (by simpa using e);exact⟨v,by simpa using h1,h2⟩
theorem Jad{N:List Str}{n:Nat}{b:Es}{ts:TS}{vs:List V}{H:Hp}{Q:VK}{E:XK}(hb:SS K C ts b)(h:spE K C n (YV N.length b) vs H Q E):ts { nx:=fun _ H'=>Q .non H',rt:=Q } (L2.Yp N vs) H:=by
 obtain⟨H0,as,r,i,ra,ho,hl,e,q⟩:=h;have lens:=ra.len
 have noOwn:∀(j:Nat) (s:Sl),as[j]?=some s->JK s=false:=fun j s e=>by
  have:=Gr.mp ho s (QY e)
  simpa using this
 have get:∀(j:Nat) (s:Sl),(as++Qi (N.length-as.length) Sl.no)[j]?=some s->s=.no\/as[j]?=some s:=fun j s e=>by
  by_cases hj:j<as.length
  ·rw[Qx hj] at e;exact .inr e
  ·rw[QG (by omega),Gi] at e;split at e
   ·cases e;exact .inl rfl
   ·cases e
 have I:EnvR K C H H0 H (L2.Yp N vs) (as++Qi (N.length-as.length) .no):=by
  refine⟨Same.refl _,i,by simp[L2.Yp,lens],fun j s e=>?_,fun j k s1 s2 v hjk e1 e2 w1 w2=>?_⟩
  ·rcases get j s e with z|z
   ·exact .inl z
   ·obtain⟨v,h1,h2⟩:=ra.get z;refine .inr ⟨v,?_,?_⟩
    ·unfold L2.Yp;rw[Qx (by have:=(Qh.mp h1).1;simpa using this),Qw,h1];rfl
    ·cases s with
     | no=>trivial
     | sh d=>exact h2
     | bo ds=>exact h2
     | own ds=>exact absurd (noOwn j _ z) (by simp[JK])
     | bd ks ds=>exact h2
     | bt ks ds=>exact h2
     | od ks ds=>exact absurd (noOwn j _ z) (by simp[JK])
     | ot ks ds=>exact absurd (noOwn j _ z) (by simp[JK])
  ·rcases get j _ e1 with z|z
   ·subst z;cases w1
   ·rw[noOwn j _ z] at w1;cases w1
 obtain⟨o,e1,e⟩:=bind_some e;refine hb H H0 H _ _ o _ I e1 ?_
 cases o with
 | nx E1=>cases e;exact fun σ' H1 H1' s1 I1=>q _ H1 H1' ⟨s1.b,s1.z,s1.n,s1.i⟩ RD.non
 | rt r'=>cases e;exact fun v H1 H1' s1 r1=>q v H1 H1' ⟨s1.b,s1.z,s1.n,s1.i⟩ r1
 | bk _=>cases e
 | ct _=>cases e
theorem JgO{P:Qm}{w:QB}{mg:Str->Option Qa}{base:QH}{k:Nat}{f:Qc}{fd:QC}{ps:List Str}{ev:List Sl->Option Sl}(F:FnOk P w K mg base CX0 k f fd ps (spE K C 1 ev))
 (h:∀ns:List Int,ns.length<=63->ev [.sh (.fz (ns.map .int))]=some (.sh (.bl true))):FnOk P w K mg base CX0 k f fd ps (Jdb K) :=
 F.imp fun vs H Q E ⟨a,ns,e,hS,hl,q⟩=>by subst e;exact⟨H,[.sh (.fz (ns.map .int))],_,Same.refl _,.cons (show RD K C H _ _ from RD.mkF hS (RDL.ofInts ns)) .nil,rfl,rfl,h ns hl,fun v H0' H' _ r=>by rw[RD.blI r];exact q H'⟩
structure RowK (K:Qn) (C:Qc):Prop where
 t:RowC K C
 k1:findIn K (.ref C) "__class__"=some (some (.builtin "object.__class__"))
 k2:specialIn K (.builtin "object.__class__") "__get__"=some (some (.builtin "getset_descriptor.__get__"))
 k3:takesIn K (.builtin "object.__class__")=some true
 k4:mroIn K C (.type "object")=some true
theorem Jke{te:TE}{ea:Ev}(T:RowK K C)(ha:SE K C te ea):SE K C (tCB (JdW K) (Y0 te (Y0 (tC (.ref C)) ZC))) (Jew ea):=by
 intro B H0 H σ E c Q I e q;obtain⟨a,e1,e⟩:=bind_some e;obtain⟨d,e2,e⟩:=bind_some e;split at e
 ·next hd =>
  cases e;refine ha B H0 H σ E a _ I e1 fun x H1 H1' s1 r1=>?_
  cases d with
  | row ds=>obtain⟨x',dx,t',ts,rfl,hx,ht,hp⟩:=RD.rowI (r1.dat s1.i e2);refine Jhn (.of (.ins hx T.t.cl T.k1 T.k2 T.k3 T.k4)) ?_ (q _ _ _ s1 (RD.bl _));unfold kitOne;rw[if_pos (beq_self_eq_true _)]
  | _=>cases hd
 ·cases e
end
end LE

namespace L2
open PySem PySem.Spec PyProof.Rows
end L2
namespace LE
open PySem L2 LR
noncomputable def JiU(a:Int):Bool:=KR a.natAbs 1152921504606846975
theorem in60_ok{a:Int}:JiU a=true↔-1152921504606846976<a/\a<1152921504606846976:=by unfold JiU;rw[GG];omega
section
variable{K:Qn}{C:Qc}{m:Bool}
noncomputable def MtS(K:Qn)(C:Qc)(rm:V->List V->Hp->VK->Prop)(f:Str->List Sl->Option Sl):Prop:=∀(Hs H0 H:Hp) (z:Str) (xs:List V) (as:List Sl) (c:Sl) (Q:VK),Same H0 H->Same Hs H->RRL K C Hs H0 H xs as->f z as=some c ->
 (∀v H0' H',Step Hs H0 H H0' H'->RR K C Hs H0' H' v c->Q v H')->rm (.str z) xs H Q
noncomputable def str?:Sl->Option Str
 | .sh (.str z)=>some z
 | _=>none
noncomputable def eM(f:Str->List Sl->Option Sl)(o:Ev)(as:En->Option (List Sl)):Ev:=fun E=>(o E).bind fun a=>(str? a).bind fun z=>(as E).bind fun xs=>f z xs
theorem Zg{s:Sl}{z:Str}(e:str? s=some z):s=.sh (.str z):=by
 cases s with
 | sh d=>cases d with
  | str x=>cases e;rfl
  | _=>cases e
 | _=>cases e
theorem Jlj{rm:V->List V->Hp->VK->Prop}{f:Str->List Sl->Option Sl}{to:TE}{eo:Ev}{t:TA}{ev:En->Option (List Sl)}(hm:MtS K C rm f)(ho:SE K C to eo)(ha:SA K C t ev):SE K C (tBM K "str" rm to t) (eM f eo ev):=by
 intro B H0 H σ E c Q I e q;obtain⟨a,e1,e⟩:=bind_some e;obtain⟨z,e2,e0⟩:=bind_some e;obtain⟨as,e3,e4⟩:=bind_some e0;obtain rfl:=Zg e2;refine ho B H0 H σ E _ _ I e1 fun x H1 H1' s1 r1=>?_
 rw[RD.strI r1];refine⟨rfl,ha B H1 H1' σ E as _ (I.step s1) e3 fun xs H2 H2' s2 r2=>?_⟩;exact hm H H2 H2' z xs as c Q s2.i (s1.h.trans s2.h) (r2.weak fun a q=>Same.free s1.h q) e4 fun v H3 H3' s3 r3=>q v H3 H3' ((s1.trans s2).comp s3 fun _ z=>z) r3
noncomputable def WR(z:Str):List Sl->Option Sl
 | [s]=>s.r.bind fun ds=>(strs? ds).bind fun ys=>if (ys.map (·.length)).sum+ys.length*z.length<=16777216 then some (.sh (.str (Lx z ys))) else none
 | _=>none
theorem Je2:MtS K C (Jc3 K) WR:=by
 intro Hs H0 H z xs as c Q i hs r e q;unfold WR at e;split at e
 ·obtain⟨ds,e1,e⟩:=bind_some e;obtain⟨ys,e2,e⟩:=bind_some e;split at e
  ·next hl=>cases e;obtain⟨v,rfl,r0⟩:=r.one;obtain⟨l,us,rfl,h,r1⟩:=r0.r i e1;rw[ZY e2] at r1;have:=r1.strs;subst this;exact Jho h hl (q _ _ _ (.refl i) (RD.str _))
  ·cases e
 ·cases e
end
end LE

namespace LE
open PySem L2 LR
noncomputable def okS(P:En->Prop):Option Out->Prop
 | some (.nx E)=>P E
 | some (.ct E)=>P E
 | _=>False
theorem Jji{P:En->Prop}{E:En}:okS P (some (.nx E))=P E:=rfl
theorem Jjh{P:En->Prop}{E:En}:okS P (some (.ct E))=P E:=rfl
theorem VE{P:En->Prop}{o:Option Out}(h:okS P o):∃E,(o=some (.nx E)\/o=some (.ct E))/\P E:=by
 unfold okS at h;split at h
 ·exact⟨_,.inl rfl,h⟩
 ·exact⟨_,.inr rfl,h⟩
 ·exact h.elim
theorem UI{γ α β:Type}{p:Pt}{b:Es}{f:α->D}{k:Out->Option γ}{r:Option γ}(R:List α->β->En->Prop)(g:β->α->β):∀{as:List α} {E:En} (s:β) (h0:R as s E)
 (h:∀a as s E,R (a::as) s E->okS (R as (g s a)) ((p.bind (f a) E).bind b)) (fin:∀E',R [] (as.foldl g s) E'->k (.nx E')=r),(Yw p b (as.map f) E).bind k=r
 | [],E,s,h0,_,fin=>fin E h0
 | a::as,E,s,h0,h,fin=>by
  obtain⟨E2,e2,r2⟩:=VE (h a as s E h0);have ih:=UI (k:=k) (r:=r) R g (as:=as) (E:=E2) (g s a) r2 h fin;rw[Qt,Yw]
  cases hp:p.bind (f a) E with
  | none=>rw[hp] at e2;rcases e2 with e2|e2 <;> cases e2
  | some E1=>rw[hp,Qg] at e2;rw[Qg];rcases e2 with e2|e2 <;> (rw[e2,Qg];exact ih)
theorem VD{γ:Type}{p:Pt}{b:Es}{f:Nat->D}{n:Nat}{E:En}{k:Out->Option γ}{r:Option γ}(R:Nat->En->Prop)(h0:R 0 E)
 (h:∀i E,i<n->R i E->okS (R (i+1)) ((p.bind (f i) E).bind b)) (fin:∀E',R n E'->k (.nx E')=r):(Yw p b ((QV n).map f) E).bind k=r:=by
 refine UI (fun(as:List Nat) (i:Nat) E=>i+as.length=n/\as=List.range' i as.length/\R i E) (fun i _=>i+1) 0 ⟨by simp,by simp[Ly],h0⟩ (fun a as i E ⟨hk,e,q⟩=>?_) fun E' ⟨hk,_,q⟩=>?_
 ·rw[Qp,List.range'_succ] at e;have e1:a=i:=(K0 e).1;subst e1;obtain⟨E2,e2,r2⟩:=VE (h a E (by rw[Qp] at hk;omega) q);have fin2:(a+1)+as.length=n/\as=List.range' (a+1) as.length/\R (a+1) E2:=⟨by rw[Qp] at hk;omega,(K0 e).2,r2⟩
  rcases e2 with e2|e2 <;> (rw[e2];exact fin2)
 ·have e3:(QV n).foldl (fun i _=>i+1) 0=n:=by simpa using hk
  rw[e3] at q;exact fin E' q
theorem WL{α:Type}{p:Pt}{a:Ev}{E1:En}{f g:α->D}:∀{xs:List α},(∀x∈xs,((p.bind (f x) E1).bind a).bind Sl.frz=some (g x))->UH p yes? a E1 (xs.map f)=some (xs.map g)
 | [],_=>rfl
 | x::xs,h=>by have h1:=h x Qz;obtain⟨s,e1,e2⟩:=bind_some h1;obtain⟨E2,e3,e4⟩:=bind_some e1;rw[Qt,UH,e3];simp only[Qg,yes?,if_true,e4,e2];rw[WL fun y hy=>h y (Qo _ hy)];rfl
theorem Jcy{α:Type}{p:Pt}{c:En->Option Bool}{a:Ev}{E1:En}{f g:α->D}{k:α->Bool}:∀{xs:List α},(∀x∈xs,(p.bind (f x) E1).bind c=some (k x)/\(k x=true->((p.bind (f x) E1).bind a).bind Sl.frz=some (g x)))->UH p c a E1 (xs.map f)=some ((xs.filter k).map g)
 | [],_=>rfl
 | x::xs,h=>by
  obtain⟨h1,h2⟩:=h x Qz;obtain⟨E2,e3,e4⟩:=bind_some h1;have ih:=Jcy (xs:=xs) (fun y hy=>h y (Qo _ hy));rw[Qt,UH,e3];simp only[Qg,e4]
  cases hk:k x with
  | false=>rw[if_neg (by simp),ih,List.filter_cons_of_neg (by simp[hk])]
  | true=>obtain⟨s,e1,e2⟩:=bind_some (h2 hk);rw[e3,Qg] at e1;rw[if_pos rfl,e1];simp only[Qg,e2];rw[ih,List.filter_cons_of_pos hk];rfl
theorem JhB(n:Nat):rng 0 n=(QV n).map fun i=>.int (i:Int):=by unfold rng;exact G6 fun i _=>by rw[Int.zero_add]
theorem Jc9:Qk=16777216:=rfl
theorem Z1{α β:Type}(f:α->β)(xs:List α)(i:Int):atI (xs.map f) i=(atI xs i).map f:=by
 unfold atI;rw[QR]
 cases ixN xs.length i with
 | none=>rfl
 | some j=>simp
theorem JaK{α:Type}{xs:List α}{k:Nat}(h:k<xs.length):atI xs (k:Int)=some xs[k]:=by unfold atI ixN;rw[if_pos (by omega),if_pos (by omega)];simp[h]
theorem JaJ{ns:List Int}{k:Int}(h0:0<=k)(h:k<(ns.length:Int)):atI ns k=some (cell ns k):=by
 obtain⟨j,rfl⟩:=Int.eq_ofNat_of_zero_le h0;have hj:j<ns.length:=by omega
 rw[JaK hj];simp[cell,hj]
theorem WC{l:List Int}{k:Int}(h0:0<=k)(h1:k<(l.length:Int)):atI (l.map D.int) k=some (.int (Jb3 l k)):=by rw[Z1,JaJ h0 h1];rfl
structure Kd {α:Type} (f:α->D) (n:Nat):Prop where
 lay:∀a,(f a).py.canLay0=true
 dep:∀a,(f a).py.depth<=n
 eqv:∀a b,Kv (f a).py (f b).py=true↔a=b
theorem Kd.eq{α:Type}[DecidableEq α]{f:α->D}{n:Nat}(k:Kd f n)(h:n<=60)(a b:α):eqD (f a) (f b)=some (decide (a=b)):=by unfold eqD;have:=k.dep a;rw[k.lay a,k.lay b,if_pos (by simp;omega)];congr 1;rw[GJ,k.eqv];simp
theorem Ji0:Kd D.int 1:=⟨fun _=>rfl,fun _=>by simp[D.py,Ld],fun a b=>by show(a == b)=true↔_;simp⟩
theorem VY{α:Type}{f:α->D}{n:Nat}(k:Kd f n):(∀xs:List α,GS (D.pyL (xs.map f))=true)/\(∀xs:List α,KG (D.pyL (xs.map f))<=n)/\∀xs ys:List α,Kb (D.pyL (xs.map f)) (D.pyL (ys.map f))=true↔xs=ys:=by
 refine⟨fun xs=>?_,fun xs=>?_,fun xs=>?_⟩
 ·induction xs with
  | nil=>rfl
  | cons x xs ih=>show(PyData.canLay0 _ && GS _)=true;rw[k.lay,ih];rfl
 ·induction xs with
  | nil=>simp[D.pyL,KG]
  | cons x xs ih=>have:=k.dep x;simp only[Qt,D.pyL,KG];omega
 ·induction xs with
  | nil=>intro ys;cases ys with
   | nil=>simp[D.pyL,Kb]
   | cons y ys=>simp[D.pyL,Kb]
  | cons x xs ih=>intro ys;cases ys with
   | nil=>simp[D.pyL,Kb]
   | cons y ys=>simp only[Qt,D.pyL,Kb,QL,k.eqv,ih,List.cons.injEq]
theorem JeW{α:Type}{f:α->D}{n:Nat}(k:Kd f n):Kd (fun xs:List α=>D.lst (xs.map f)) (n+1) :=
 ⟨fun xs=>(VY k).1 xs,fun xs=>by have:=(VY k).2.1 xs;simp only[D.py,Ld];omega,fun xs ys=>by simp only[D.py,Kv];exact(VY k).2.2 xs ys⟩
theorem Ji1{α:Type}{f:α->D}{n:Nat}(k:Kd f n):Kd (fun xs:List α=>D.tup (xs.map f)) (n+1) :=
 ⟨fun xs=>(VY k).1 xs,fun xs=>by have:=(VY k).2.1 xs;simp only[D.py,Ld];omega,fun xs ys=>by simp only[D.py,Kv];exact(VY k).2.2 xs ys⟩
theorem kd_pr:Kd prE 2:=⟨fun _=>rfl,fun _=>by simp[prE,D.py,D.pyL,Ld,KG],fun a b=>by obtain⟨a1,a2⟩:=a;obtain⟨b1,b2⟩:=b;simp[prE,D.py,D.pyL,Kv,Kb]⟩
theorem JiH(a b:Pr):eqD (prE a) (prE b)=some (decide (a=b)):=kd_pr.eq (by decide) a b
theorem Jgj(a b:List Pr):eqD (.lst (a.map prE)) (.lst (b.map prE))=some (decide (a=b)):=(JeW kd_pr).eq (by decide) a b
theorem Jgk(a b:List Pr):eqD (.tup (a.map prE)) (.tup (b.map prE))=some (decide (a=b)):=(Ji1 kd_pr).eq (by decide) a b
theorem JeA(a b:List Int):eqD (.lst (a.map .int)) (.lst (b.map .int))=some (decide (a=b)):=(JeW Ji0).eq (by decide) a b
theorem Z9{s:Sl}{ps:List Pr}(e:s.q=some (ps.map prE))(g:Good ps)(h:ps.length<=30):VA [s]=some (.sh (.row (ps.map prE))):=by show(s.q.bind _)=_;rw[e,Qg,V9,Qg,WT g,if_pos (by simp[h])]
section
variable{a b:Int}{xs ys:List D}{d:D}{x y:Str}{E:En}{B:Es}{r:Sl}
theorem Uy:Jd3 B (.nx E)=B E:=rfl
theorem JhI:Jd3 B (.rt r)=some (.rt r):=rfl
theorem JhG:Jd3 B (.bk E)=some (.bk E):=rfl
theorem JhH:Jd3 B (.ct E)=some (.ct E):=rfl
theorem Jgg:Wl (.nx E)=some (.sh .non):=rfl
theorem Jgh:Wl (.rt r)=some r:=rfl
theorem JkK{g:Int->Int->D}:fI g (.sh (.int a)) (.sh (.int b))=some (.sh (g a b)):=rfl
theorem JgD(h:(-18446744073709551616<a/\a<18446744073709551616)\/(-18446744073709551616<b/\b<18446744073709551616)):WQ (.sh (.int a)) (.sh (.int b))=some (.sh (.int (a*b))):=by show(if _ then _ else _)=_;rw[if_pos];simp only[Li,Uz];exact h
theorem JgC(h:0<b):J6 (.sh (.int a)) (.sh (.int b))=some (.sh (.int (a % b))):=by show(if _ then _ else _)=_;rw[if_pos (by simpa using h)]
theorem JgA(h:0<b/\b<1073741824):Yy (.sh (.int a)) (.sh (.int b))=some (.sh (.int (a / b))):=by show(if _ then _ else _)=_;rw[if_pos (smallP_ok.mpr h)]
theorem JgF(h:0<=b/\b<=1000000/\-1000<a/\a<1000):Vc (.sh (.int a)) (.sh (.int b))=some (.sh (.int (a ^ b.toNat))):=by show(if _ then _ else _)=_;rw[if_pos];simp only[QL,decide_eq_true_eq,GG,Uz];omega
theorem JgE:VX (.sh (.int a))=some (.sh (.int (-a))):=rfl
theorem Jgr:Jy (.sh (.int a)) (.sh (.int b))=some (.sh (.int (a+b))):=rfl
theorem JcB(h:x.length+y.length<=16777216):Jy (.sh (.str x)) (.sh (.str y))=some (.sh (.str (x++y))):=if_pos h
theorem Uo{p q:Sl}(h1:p.m=some xs)(h2:q.m=some ys)(h:xs.length+ys.length<=16777216):Jdy p q=some (.own (xs++ys)):=by unfold Jdy;rw[h1,h2];exact if_pos h
theorem Jgv(h:xs.length+ys.length<=16777216):Jy (.own xs) (.own ys)=some (.own (xs++ys)):=Uo rfl rfl h
theorem Jgu(h:xs.length+ys.length<=16777216):Jy (.own xs) (.bo ys)=some (.own (xs++ys)):=Uo rfl rfl h
theorem Jgp(h:xs.length+ys.length<=16777216):Jy (.bo xs) (.own ys)=some (.own (xs++ys)):=Uo rfl rfl h
theorem Jgo(h:xs.length+ys.length<=16777216):Jy (.bo xs) (.bo ys)=some (.own (xs++ys)):=Uo rfl rfl h
theorem Jgw(h:xs.length+ys.length<=16777216):Jy (.own xs) (.sh (.lst ys))=some (.own (xs++ys)):=Uo rfl rfl h
theorem Jgx(h:xs.length+ys.length<=16777216):Jy (.sh (.lst xs)) (.own ys)=some (.own (xs++ys)):=Uo rfl rfl h
theorem Jgs(h:xs.length+ys.length<=16777216):Jy (.sh (.lst xs)) (.bo ys)=some (.own (xs++ys)):=Uo rfl rfl h
theorem Jgq(h:xs.length+ys.length<=16777216):Jy (.bo xs) (.sh (.lst ys))=some (.own (xs++ys)):=Uo rfl rfl h
theorem Jgt(h:xs.length+ys.length<=16777216):Jy (.sh (.lst xs)) (.sh (.lst ys))=some (.own (xs++ys)):=Uo rfl rfl h
theorem JiN(h:x.length<=16777216):Uh [.sh (.str x)]=some (.sh (.int x.length)):=if_pos h
theorem JiL:Uh [.sh (.lst xs)]=some (.sh (.int xs.length)):=rfl
theorem JiK:Uh [.sh (.fz xs)]=some (.sh (.int xs.length)):=rfl
theorem JiO:Uh [.sh (.tup xs)]=some (.sh (.int xs.length)):=rfl
theorem JiJ:Uh [.bo xs]=some (.sh (.int xs.length)):=rfl
theorem JiM:Uh [.own xs]=some (.sh (.int xs.length)):=rfl
theorem JkN:fIx (.sh (.lst xs)) (.sh (.int a))=(atI xs a).map .sh:=rfl
theorem JkM:fIx (.sh (.fz xs)) (.sh (.int a))=(atI xs a).map .sh:=rfl
theorem JkP:fIx (.sh (.tup xs)) (.sh (.int a))=(atI xs a).map .sh:=rfl
theorem JkL:fIx (.bo xs) (.sh (.int a))=(atI xs a).map .sh:=rfl
theorem JkO:fIx (.own xs) (.sh (.int a))=(atI xs a).map .sh:=rfl
theorem JiE:eqA (.int a) (.int b)=some (decide (a=b)):=rfl
theorem JiG:eqA (.str x) (.str y)=some (decide (x=y)):=rfl
theorem JiD{p q:Bool}:eqA (.bl p) (.bl q)=some (decide (p=q)):=rfl
theorem JiF(p q:Pr):eqA (prE p) (prE q)=some (decide (p=q)):=JiH p q
theorem Jez(p q:List Pr):eqA (.lst (p.map prE)) (.lst (q.map prE))=some (decide (p=q)):=Jgj p q
theorem JiC(p q:List Pr):eqA (.tup (p.map prE)) (.tup (q.map prE))=some (decide (p=q)):=Jgk p q
theorem JiB(p q:List Int):eqA (.lst (p.map .int)) (.lst (q.map .int))=some (decide (p=q)):=JeA p q
theorem JeQ(h:-4611686018427387904<a/\a<4611686018427387904):JbP a=true:=by unfold JbP;rw[GG];omega
theorem JiV(h:-1152921504606846976<a/\a<1152921504606846976):JiU a=true:=in60_ok.mpr h
theorem JfN(h:0<a/\a<1073741824):JaA a=true:=smallP_ok.mpr h
theorem JcC{s:Sl}{ns:List Int}(e:s.q=some (ns.map .int)):Jaa [s]=some (.sh (.int ns.sum)):=by show(s.q.bind _)=_;rw[e,Qg,WV];rfl
theorem Jgz{s:Sl}{ns:List Bool}(e:s.q=some (ns.map .bl)):Jgy [s]=some (.sh (.bl (ns.any id))):=by show(s.q.bind _)=_;rw[e,Qg,Jcr];rfl
theorem JkE{i:Nat}:(Pt.nm i).bind d E=if i<E.length then some (E.set i (.sh d)) else none:=by rw[Pt.bind]
theorem JkF{l:Pts}:(Pt.tp l).bind (.tup xs) E=l.bind xs E:=by rw[Pt.bind]
theorem Jf4:Pts.nil.bind [] E=some E:=by rw[Pts.bind]
theorem Jek{q:Pt}{l:Pts}:(Pts.cons q l).bind (d::xs) E=(q.bind d E).bind fun E'=>l.bind xs E':=by rw[Pts.bind]
theorem Jlu:((0:Nat):Int)=0:=rfl
theorem Jlv:((1:Nat):Int)=1:=rfl
theorem Jlw:((2:Nat):Int)=2:=rfl
theorem Jlx:((3:Nat):Int)=3:=rfl
theorem Jly:((4:Nat):Int)=4:=rfl
theorem JdH:D.isNon .non=true:=rfl
theorem JdF:D.isNon (.int a)=false:=rfl
theorem JeS{k:Bool}:D.isNon (.bl k)=false:=rfl
theorem JdJ:D.isNon (.str x)=false:=rfl
theorem JdK:D.isNon (.tup xs)=false:=rfl
theorem JdG:D.isNon (.lst xs)=false:=rfl
theorem JeT:D.isNon (.fz xs)=false:=rfl
theorem JdI:D.isNon (.row xs)=false:=rfl
theorem Ji7:JaX "int" "int"=true:=by decide
theorem JgK:JaX "int" "bool"=false:=by decide
theorem Ji6:JaX "bool" "bool"=true:=by decide
theorem Jja:JaX "tuple" "tuple"=true:=by decide
theorem Ji8:JaX "list" "list"=true:=by decide
theorem Ji9:JaX "str" "str"=true:=by decide
end
end LE

namespace HT
open PySem PySem.Spec PyProof.Rows
section
variable{prog:Qm}{w:QB}{A:Qu}{E:Qa->Qd->Prop}{s:Qd}
end
end HT
namespace L2
open PySem PySem.Spec PyProof.Rows
section
variable{X:Cx}{K:Qn}
end
end L2
namespace LE
open PySem L2 LR
noncomputable def WK(o:Option Ev):En->Option (Option Int):=fun E=>match o with
 | none=>some none
 | some a=>(a E).bind fun s=>match s with
  | .sh (.int i)=>some (some i)
  | _=>none
section
variable{K:Qn}{C:Qc}{te:TE}{ea:Ev}{tl th:TO}{el eh:Option Ev}
noncomputable def SP'(K:Qn)(C:Qc)(t:TO)(ev:En->Option (Option Int)):Prop:=∀(B H0 H:Hp) (σ:St) (E:En) (r:Option Int) (Q:Option Int->Hp->Prop),EnvR K C B H0 H σ E->ev E=some r ->
 (∀H0' H',Step H H0 H H0' H'->Q r H')->t σ H Q
theorem Jfb:SP' K C Jdd (WK none):=fun _ _ _ _ _ _ _ I e q=>by cases e;exact q _ _ (.refl I.h)
theorem Jfc(ha:SE K C te ea):SP' K C (Jio te) (WK (some ea)):=by
 intro B H0 H σ E r Q I e q;obtain⟨s,e1,e⟩:=bind_some e;split at e
 ·cases e;exact ha B H0 H σ E _ _ I e1 fun x H1 H1' s1 r1=>⟨_,RD.intI r1,q _ _ s1⟩
 ·cases e
end
end LE

namespace PySem
section
variable{prog:Qm}{w:QB}{A:Qu}
theorem Draws.tup(hh:A.handled=none)(j a:Qc)(ne:a≠j)(xs:Array Qa):Draws prog w A j [j,a] xs.size (fun i v=>xs[i]?=some v) (fun i h=>h.IsTupleIter j a i/\h.IsTuple a xs) where
 live:=fun _ _ q=>let ⟨o,ho,_⟩:=q.1;⟨o,ho⟩
 frame:=fun _ _ _ q k=>⟨q.1.at fun o e=>k j (by simp) o e,q.2.at fun o e=>k a (by simp) o e⟩
 item:=fun i s Q E hi q hQ=>by
  obtain⟨o,ho,hc,hd⟩:=id q.1;obtain⟨ol,hol,_,nl,hdl⟩:=id q.2;have hx:xs[i]?=some xs[i]:=by simp[hi]
  unfold KQ;refine Qe (GC (name:=Qy "__next__") q.1.typeIs Gu (Kx Gu q.1.typeIs KM ?_ (KH _)));show wpAny _ _ (field (.ref j) 0 >>= _) _ _ s;refine Qe (Q6 ho hd (x:=.ref a) rfl ?_);show wpAny _ _ (if (Value.ref a == Value.none)=true then _ else _) _ _ s;rw[if_neg (show ¬((Value.ref a == Value.none)=true) from QF)]
  show wpAny _ _ (field (.ref j) 1 >>= _) _ _ s;refine Qe (Q6 ho hd (x:=.int i 0) rfl (show wpAny _ _ (seqItems? (.ref a) >>= _) _ _ s from Qe (wpAny_seqItems hol hdl ?_)));simp only[KS,hx];refine Qe (Gv ho hd (by simp) (QE ⟨xs[i],rfl,QE (hQ _ _ s.toks hx ⟨⟨_,Gb _ ho (GP (Gd hd _)),(KU ..).trans hc,?_⟩,q.2.extBut (KI ..).extBut ne⟩ (KI ..))⟩))
  rw[Gd hd];simp[rawInt]
 done:=fun s Q E q hE=>by
  obtain⟨o,ho,hc,hd⟩:=id q.1;obtain⟨ol,hol,_,nl,hdl⟩:=id q.2;have hx:xs[xs.size]?=none:=by simp
  unfold KQ;refine Qe (GC (name:=Qy "__next__") q.1.typeIs Gu (Kx Gu q.1.typeIs KM ?_ (KH _)));show wpAny _ _ (field (.ref j) 0 >>= _) _ _ s;refine Qe (Q6 ho hd (x:=.ref a) rfl ?_);show wpAny _ _ (if (Value.ref a == Value.none)=true then _ else _) _ _ s;rw[if_neg (show ¬((Value.ref a == Value.none)=true) from QF)]
  show wpAny _ _ (field (.ref j) 1 >>= _) _ _ s;refine Qe (Q6 ho hd (x:=.int xs.size 0) rfl (show wpAny _ _ (seqItems? (.ref a) >>= _) _ _ s from Qe (wpAny_seqItems hol hdl ?_)));simp only[KS,hx];refine Qe (wpAny_rule (Qe (Gv ho hd (by simp) (show wpAny _ _ (newExc (.type "StopIteration") [] >>= _) _ _ _ from Qe ?_))));simp only[newExc,newTuple];refine Qe (Kq (Qe (m:=firstArgMember _ _) (wpAny_of_eq (a:=Value.none) (by first | rfl | (simp only[firstArgMember];rfl)) (Kq ?_ (by size_fits)))) (by size_fits))
  simp only[raiseNew];refine Qe (wpAny_handled ?_)
  first|rw[show A.in1.handled=none from hh]|rw[hh]
  refine Qe (QE (wpAny_throw ?_));exact hE _ _ (((KI ..).extBut.push _).push _) ⟨_,QA _ rfl,rfl⟩
end

structure ZA (z TI TO i1 i2:Qc) (p1 p2:List Qc):Prop where
 a1:TI≠z
 a2:TO≠z
 a3:TI≠TO
 m1:i1∈p1
 m2:i2∈p2
 z1:z∉p1
 z2:z∉p2
 t1:TI∉p1
 t2:TI∉p2
 o1:TO∉p1
 o2:TO∉p2
 x1:i1∉p2
 x2:i2∉p1
section
variable{prog:Qm}{w:QB}{A:Qu}{E:Qa->Qd->Prop}{s:Qd}{z TI TO i1 i2:Qc}{p1 p2:List Qc}{n1 n2 k:Nat}{P1 P2:Nat->Qa->Prop}{S1 S2:Nat->QH->Prop}
end
end PySem

namespace PySem
def IsSq(b:Bool)(h:QH)(a:Qc)(xs:Array Qa):Prop:=match b with
 | true=>h.IsTuple a xs
 | false=>h.IsList a xs
def IsItr(b:Bool)(h:QH)(j a:Qc)(i:Nat):Prop:=match b with
 | true=>h.IsTupleIter j a i
 | false=>h.IsListIter j a i
def itO(b:Bool)(a:Qc):Obj:=match b with
 | true=>{ cls:=.type "tuple_iterator",data:=.fields #[.ref a,.int 0 0] }
 | false=>{ cls:=.type "list_iterator",data:=.fields #[.ref a,.int 0 0] }
section
variable{prog:Qm}{w:QB}{A:Qu}{E:Qa->Qd->Prop}{s:Qd}{b b1 b2:Bool}{a a1 a2:Qc}{xs ys:Array Qa}
theorem IsSq.push{h:QH}(q:IsSq b h a xs)(o:Obj):IsSq b (h.push o) a xs:=by
 cases b with
 | true=>exact Heap.IsTuple.push q o
 | false=>exact Heap.IsList.push q o
theorem IsSq.lt{h:QH}(q:IsSq b h a xs):a<h.objs.size:=by
 cases b with
 | true=>obtain⟨o,e,_⟩:=q;exact Qj e
 | false=>obtain⟨o,e,_⟩:=q;exact Qj e
theorem IsItr.new{h:QH}(e:h.get? a1=some (itO b a)):IsItr b h a1 a 0:=by
 cases b with
 | true=>exact⟨_,e,rfl,rfl⟩
 | false=>exact⟨_,e,rfl,rfl⟩
end
end PySem

namespace L2
open PySem PySem.Spec PyProof.Rows
section
variable{X:Cx}{pins:List (Qc×Obj)}{σ:St}{H:Hp}{s:Qd}{h':QH}
theorem Inv.turnedL{t':Nat}{fp:List Qc}(I:Inv X pins σ H s)(k:∀b o,b∉fp->s.heap.get? b=some o->h'.get? b=some o)(hf:∀b∈fp,FpOk X pins H b):Inv X pins σ H { s with heap:=h',toks:=t' }:=by
 have nit:∀b u,H b=some u->b∉fp:=fun b u e z=>by rw[(hf b z).1] at e;cases e
 refine I.step (g':=s.gens) (d':=s.drawn) (ch:=fp) (fun b hb=>?_) (fun b o _ _ hc e _=>k b o hc e) (fun b o _ _ hc e _=>⟨o.slots,k b o hc e⟩) (fun _ _ _ _ n=>n)
  (fun b o hc e=>⟨o,k b o hc e⟩) (fun _ _ e=>e) (fun _ _ _ e=>e) (fun b ps e=>⟨#[],by rw[e];simp⟩) (fun m hm=>?_) (fun b u e=>?_) I.bare
 ·obtain⟨f0,f1,f2,f3,f4,f5⟩:=hf b hb;exact⟨f3,f1,f4,f5⟩
 ·obtain⟨o,es,ep,ho,r⟩:=hm;exact⟨o,es,ep,k _ o (fun z=>(hf _ z).2.1 rfl) ho,r⟩
 ·refine(I.hok b u e).stay (fun c v hc q=>k c v ?_ q) (fun _ q=>q) fun _ _ q=>q
  rcases hc with z|z
  ·rw[z];exact nit b u e
  ·exact nit c _ z
noncomputable def Sq(b:Bool)(K:Qn)(H:Hp)(a:Qc)(xs:List V):Prop:=match b with
 | true=>SqT K H a xs
 | false=>SqL K H a xs
theorem Sq.heap{b:Bool}{a:Qc}{xs:List V}(I:Inv X pins σ H s)(q:Sq b X.K H a xs):∃its:List Qa,Vals xs its/\IsSq b s.heap a its.toArray:=by
 cases b with
 | true=>obtain⟨its,r,p,_⟩:=I.tuple q;exact⟨its,r,p⟩
 | false=>obtain⟨its,r,p,_⟩:=I.list q;exact⟨its,r,p.isList⟩
theorem Sq.inj{b:Bool}{a:Qc}{xs ys:List V}(I:Inv X pins σ H s)(q:Sq b X.K H a xs)(q':Sq b X.K H a ys):xs=ys:=by
 cases b with
 | true=>exact I.tuple_inj q q'
 | false=>exact I.list_inj q q'
theorem FpOk.off{b:Bool}{a c:Qc}{xs:List V}(I:Inv X pins σ H s)(q:Sq b X.K H a xs)(f:FpOk X pins H c):a≠c:=by
 intro e;subst e;have own:∀{o:HO},H a=some o->False:=fun h=>by rw[f.1] at h;cases h
 have mod:∀{o:Obj},X.K.lookup a=some o->False:=fun {o} h=>by
  have hb:=I.ok.mod.kin a o h;rcases f.2.2.2.1 with z|z
  ·exact I.ok.noex a o hb z
  ·exact absurd (Qj hb) (Nat.not_lt.mpr (QQ I.ok.bsz z))
 cases b with
 | true =>
  rcases q with (h|⟨o,h⟩)|⟨o,its,n,h,_⟩
  ·exact own h
  ·exact own h
  ·exact mod h
 | false =>
  rcases q with (h|⟨o,h⟩)|⟨o,its,n,h,_⟩
  ·exact own h
  ·exact own h
  ·exact mod h
theorem IsItr.keep{b:Bool}{h h':QH}{j a:Qc}{i:Nat}(q:IsItr b h j a i)(k:∀o,h.get? j=some o->h'.get? j=some o):IsItr b h' j a i:=by
 cases b with
 | true=>obtain⟨o,e,r⟩:=q;exact⟨o,k o e,r⟩
 | false=>obtain⟨o,e,r⟩:=q;exact⟨o,k o e,r⟩
theorem IsItr.obj{b:Bool}{h:QH}{j a:Qc}{i:Nat}(q:IsItr b h j a i):∃o,h.get? j=some o/\∀v,o.data≠.cell v:=by
 cases b with
 | true=>obtain⟨o,e,_,d⟩:=q;exact⟨o,e,fun v z=>by rw[d] at z;cases z⟩
 | false=>obtain⟨o,e,_,d⟩:=q;exact⟨o,e,fun v z=>by rw[d] at z;cases z⟩
end
end L2

namespace LE
open PySem L2 LR
section
variable{K:Qn}{C:Qc}{m:Bool}
end
end LE

namespace PySem
namespace F
end F
section
variable{prog:Qm}{w:QB}{A:Qu}{E:Qa->Qd->Prop}{s:Qd}{a r:Qc}{xs:Array Qa}
end
end PySem
namespace L2
open PySem PySem.Spec PyProof.Rows
end L2
namespace LE
open PySem L2 LR
section
variable{K:Qn}{C:Qc}{m:Bool}
end
end LE

namespace PySem
open AutoSeq1 (wpAny_loadPart')
section
variable{prog:Qm}{w:QB}{A:Qu}{E:Qa->Qd->Prop}{s:Qd}{b:Bool}{a e it:Qc}{xs:Array Qa}
end
end PySem
namespace L2
open PySem PySem.Spec PyProof.Rows
end L2
namespace LE
open PySem L2 LR
section
variable{K:Qn}{C:Qc}{m:Bool}
end
end LE

namespace L2
open PySem PySem.Spec PyProof.Rows
section
variable{X:Cx}
end
end L2
namespace LE
open PySem L2 LR
section
variable{K:Qn}{C:Qc}
end
end LE

namespace PySem
namespace F
end F
section
variable{prog:Qm}{w:QB}{A:Qu}{E:Qa->Qd->Prop}{s:Qd}{l:Qc}{lo hi:Int}{t u v:Tok}
end
end PySem
namespace L2
open PySem PySem.Spec PyProof.Rows
end L2
namespace LE
open PySem L2 LR
section
variable{K:Qn}{C:Qc}{m:Bool}
end
end LE

namespace PySem
namespace F
end F
structure ZB (z TI TO i1 i2 i3:Qc) (p1 p2 p3:List Qc):Prop where
 a1:TI≠z
 a2:TO≠z
 a3:TI≠TO
 m1:i1∈p1
 m2:i2∈p2
 m3:i3∈p3
 z1:z∉p1
 z2:z∉p2
 z3:z∉p3
 t1:TI∉p1
 t2:TI∉p2
 t3:TI∉p3
 o1:TO∉p1
 o2:TO∉p2
 o3:TO∉p3
 x12:i1∉p2
 x13:i1∉p3
 x21:i2∉p1
 x23:i2∉p3
 x31:i3∉p1
 x32:i3∉p2
section
variable{prog:Qm}{w:QB}{A:Qu}{E:Qa->Qd->Prop}{s:Qd}{z TI TO i1 i2 i3:Qc}{p1 p2 p3:List Qc}{n1 n2 n3 k:Nat}{P1 P2 P3:Nat->Qa->Prop}{S1 S2 S3:Nat->QH->Prop}
end
end PySem

namespace PySem
section
variable{prog:Qm}{w:QB}{A:Qu}{E:Qa->Qd->Prop}{s:Qd}{b1 b2 b3:Bool}{a1 a2 a3:Qc}{xs ys zs:Array Qa}
end
end PySem
namespace L2
open PySem PySem.Spec PyProof.Rows
end L2
namespace LE
open PySem L2 LR
section
variable{K:Qn}{C:Qc}{m:Bool}
end
end LE

namespace L2
open PySem PySem.Spec PyProof.Rows
section
variable{X:Cx}
end
end L2
namespace LE
open PySem L2 LR
section
variable{K:Qn}{C:Qc}
end
end LE

namespace PySem

section
variable{prog:Qm}{w:QB}{A:Qu}{R:Lu->Qd->Prop}{I:Qc}{fp wr:List Qc}{n:Nat}{P:Nat->Qa->Prop}{St:Nat->QH->Prop}
end
section
variable{prog:Qm}{w:QB}{A:Qu}{E:Qa->Qd->Prop}{s:Qd}{l:Qc}{xs:Array (Int×Tok)}
end

section
variable{prog:Qm}{w:QB}{A:Qu}{R:Lu->Qd->Prop}{I:Qc}{fp wr:List Qc}{n:Nat}{P:Nat->Qa->Prop}{St:Nat->QH->Prop}
end
section
variable{prog:Qm}{w:QB}{A:Qu}{E:Qa->Qd->Prop}{s:Qd}{l:Qc}{xs:Array (Int×Tok)}
end

end PySem

namespace L2
open PySem PySem.Spec PyProof.Rows

section
variable{X:Cx}
end
section
variable{X:Cx}
end
end L2
namespace LE
open PySem L2 LR

end LE

namespace LE
open PySem L2 LR

noncomputable def look{α:Type}:List Int->List α->Int->Option α
 | k::ks,d::ds,n=>if k=n then some d else look ks ds n
 | _,_,_=>none
section
variable{K:Qn}{C:Qc}{Hs H0 H:Hp}
theorem RDL.look:∀{ks:List Int} {xs:List V} {ds:List D} {n:Int},RDL K C H xs ds->(LE.look ks xs n=none/\LE.look ks ds n=none)\/∃x d,LE.look ks xs n=some x/\LE.look ks ds n=some d/\RD K C H x d
 | [],_,_,_,_=>.inl ⟨rfl,rfl⟩
 | _::_,[],[],_,_=>.inl ⟨rfl,rfl⟩
 | _::_,[],_::_,_,h=>by have:=h.1;simp at this
 | _::_,_::_,[],_,h=>by have:=h.1;simp at this
 | k::ks,x::xs,d::ds,n,h=>by
  simp only[LE.look]
  by_cases e:k=n
  ·rw[if_pos e,if_pos e];exact .inr ⟨x,d,rfl,rfl,h.head⟩
  ·rw[if_neg e,if_neg e];exact RDL.look h.tail
end
noncomputable def Sl.dk:Sl->Option (List Int×List D)
 | .sh (.dct ks ds)=>some (ks,ds)
 | .sh (.dfz ks ds)=>some (ks,ds)
 | .bd ks ds=>some (ks,ds)
 | .od ks ds=>some (ks,ds)
 | _=>none
noncomputable def int?:Sl->Option Int
 | .sh (.int i)=>some i
 | _=>none
section
variable{K:Qn}{C:Qc}{Hs H0 H:Hp}{td ty tx te:TE}{ed ek ex ea:Ev}
theorem JeR{s:Sl}{n:Int}(e:int? s=some n):s=.sh (.int n):=by
 cases s with
 | sh d=>cases d with
  | int i=>cases e;rfl
  | _=>cases e
 | _=>cases e
theorem RR.dk{v:V}{s:Sl}{p:List Int×List D}(r:RR K C Hs H0 H v s)(i:Same H0 H)(e:s.dk=some p):∃l xs,v=.ref l/\Rd H l (dkO p.1 xs)/\p.1.length=p.2.length/\RDL K C H0 xs p.2:=by
 cases s with
 | bd ks ds=>cases e;obtain⟨l,xs,h1,h2,h3⟩:=r;exact⟨l,xs,h1,.inl h2,h3⟩
 | od ks ds=>cases e;obtain⟨l,xs,h1,h2,_,_,h3⟩:=r;exact⟨l,xs,h1,.inl h2,h3⟩
 | bt _ _=>cases e
 | ot _ _=>cases e
 | sh d=>cases d with
  | dct ks ds=>cases e;obtain⟨l,xs,h1,h2,h3⟩:=RD.dctI r;exact⟨l,xs,h1,.inl (i _ _ h2),h3⟩
  | dfz ks ds=>cases e;obtain⟨l,xs,o,h1,h2,h3⟩:=RD.dfzI r;exact⟨l,xs,h1,.inr ⟨o,i _ _ h2⟩,h3⟩
  | _=>cases e
 | _=>cases e
end

noncomputable def Jdz(x y:Sl):Option Sl:=x.m.bind fun ds=>(int? y).bind fun k=>if JbP k=true/\ds.length*k.toNat<=Qk then some (.own (Qi k.toNat ds).flatten) else none
section
variable{K:Qn}{C:Qc}{H:Hp}
theorem RDL.rep{xs:List V}{ds:List D}(r:RDL K C H xs ds):∀k:Nat,RDL K C H (Qi k xs).flatten (Qi k ds).flatten
 | 0=>.nil
 | k+1=>by rw[QK,QK,Q9,Q9];exact r.append (RDL.rep r k)
theorem JkW:OpS K C Jk9 Jdz:=by
 intro Hs H0 H x y a b c Q i hs ra rb e q;obtain⟨ds,e1,e⟩:=bind_some e;obtain⟨k,e2,e3⟩:=bind_some e;have hb:=JeR e2;subst hb;split at e3
 ·next hz=>cases e3;obtain⟨l,us,rfl,h1,r1⟩:=ra.m i e1;obtain⟨b1,b2⟩:=Jag hz.1;exact⟨l,k,us,rfl,RD.intI rb,h1,by omega,by omega,by rw[r1.1];exact hz.2,fun p hp=>VF i hs hp (r1.rep k.toNat) q⟩
 ·cases e3
end
theorem fRep_one{d:D}{s:Sl}{k:Int}(e:s.m=some [d])(h1:JbP k=true)(h2:k.toNat<=16777216):Jdz s (.sh (.int k))=some (.own (Qi k.toNat d)):=by
 unfold Jdz;rw[e,Qg];show(some k).bind _=_;rw[Qg,if_pos ⟨h1,by rw[GN,Nat.one_mul];exact h2⟩];congr 2
 generalize k.toNat=n
 induction n with
 | zero=>rfl
 | succ n ih=>rw[QK,Q9,ih];rfl
end LE

namespace L2
open PySem PySem.Spec PyProof.Rows
theorem KV.get{κ:Type}:∀{kvs:List (κ×V)} {vs:List (κ×Qa)} {i:Nat} {p:κ×V},KV kvs vs->kvs[i]?=some p->∃u,vs[i]?=some (p.1,u)/\RelV p.2 u
 | _,_,0,p,.cons h _,e=>by simp at e;subst e;obtain⟨h1,h2⟩:=h;rename_i q _ _;exact⟨_,by simp;exact Prod.ext h1.symm rfl,h2⟩
 | _,_,i+1,p,.cons _ t,e=>by obtain⟨u,h1,h2⟩:=KV.get (i:=i) t (by simpa using e);exact⟨u,by simpa using h1,h2⟩
 | _,_,_,_,.nil,e=>by simp at e
end L2
namespace LE
open PySem L2 LR
section
variable{K:Qn}{C:Qc}{m:Bool}{t:TS}{et:Es}{td:TE}{ed:Ev}
end
end LE

namespace L2
open PySem PySem.Spec PyProof.Rows
section
variable{prog:Qm}{w:QB}{A:Qu}{E:Qa->Qd->Prop}{s:Qd}{T:String}{r d:Qc}{n:Nat}{P:Nat->Qa->Prop}{OK:QH->Prop}
end
end L2
namespace LE
open PySem L2 LR
section
variable{K:Qn}{C:Qc}{td:TE}{ed:Ev}
theorem Rd.put{H:Hp}{l p:Qc}{o u:HO}(h:Rd H l o)(hp:H p=none):Rd (upd H p u) l o:=by
 rcases h with h|⟨ob,h⟩
 ·exact .inl (by rw[Jl (Jt h hp)];exact h)
 ·exact .inr ⟨ob,by rw[Jl (Jt h hp)];exact h⟩
end
end LE

namespace L2
open PySem PySem.Spec PyProof.Rows
theorem Inv.more{X:Cx}{pins:List (Qc×Obj)}{σ:St}{H H':Hp}{s:Qd}{h':QH}{t':Nat}(I:Inv X pins σ H s)(k:∀b u,s.heap.get? b=some u->h'.get? b=some u)(hx:∀b,b<s.heap.objs.size->H' b=H b)
 (new:∀b o,s.heap.objs.size<=b->H' b=some o->ObjOk X.prog X.w H' h' b o):Inv X pins σ H' { s with heap:=h',toks:=t' }:=by
 have old:∀b o,H b=some o->H' b=some o:=fun b o e=>by rw[hx b (I.hok.lt e)];exact e
 refine I.un ⟨fun b u q _ _ _=>k b u q,fun b u q _ _ _=>⟨u.slots,k b u q⟩,fun b u q n _=>by rw[hx b (Qj q)];exact n,fun b u q _=>⟨u,k b u q⟩,fun b xs q=>old b _ q,fun b u xs q=>old b _ q,fun b ps q=>⟨#[],by rw[old b _ q];simp⟩⟩ fun b o e=>?_
 rcases Nat.lt_or_ge b s.heap.objs.size with z|z
 ·rw[hx b z] at e;exact(I.hok b o e).stay (fun c u _ q=>k c u q) (fun c q=>old c _ q) fun c xs q=>old c _ q
 ·exact new b o z e
end L2
namespace LE
open PySem L2 LR
section
variable{K:Qn}{C:Qc}{td:TE}{ed:Ev}
end
end LE

namespace L2
open PySem PySem.Spec PyProof.Rows
noncomputable def wo:List Qc->QH->QH
 | [],h=>h
 | a::l,h=>(wo l h).update a fun _=>{ cls:=.none,data:=.freed }
theorem Jec(h:QH)(a:Qc):(h.update a fun _=>{ cls:=.none,data:=.freed }).get? a=none:=by
 cases q:(h.update a fun _=>({ cls:=.none,data:=.freed }:Obj)).get? a with
 | none=>rfl
 | some o =>
  obtain⟨e,f⟩:=Heap.get?_some_iff.mp q;obtain⟨os,l⟩:=h;simp only[Heap.update,Array.getElem?_modify,if_true] at e
  cases z:os[a]? with
  | none=>rw[z] at e;cases e
  | some u=>rw[z] at e;cases e;cases f
theorem Zn{h:QH}{b:Qc}:∀{l:List Qc},b∈l->(wo l h).get? b=none
 | [],hb=>nomatch hb
 | a::l,hb=>by
  unfold wo
  by_cases e:a=b
  ·subst e;exact Jec _ _
  ·rw[QU _ _ e];exact Zn ((Qq.mp hb).resolve_left (Q0 e))
theorem Wa{h:QH}{b:Qc}:∀{l:List Qc},b∉l->(wo l h).get? b=h.get? b
 | [],_=>rfl
 | a::l,hb=>by unfold wo;rw[QU _ _ (fun e=>hb (by rw[e];exact Qz))];exact Wa fun z=>hb (Qo _ z)
theorem Jab{h base base':QH}:∀{l:List Env},h.FunFrames base l->(∀b∈frs l,base'.get? b=none)->h.FunFrames base' l
 | [],_,_=>trivial
 | env::l,⟨hk,⟨L,o,hf,hn,ho,hd⟩,hr⟩,n=>by
  have e:frs (env::l)=L::frs l:=by unfold frs;rw[GA,hf]
  rw[e] at n;exact⟨hk,⟨L,o,hf,n L Qz,ho,hd⟩,Jab hr fun b hb=>n b (Qo _ hb)⟩
theorem Wr{h base:QH}{l:List Env}(x:h.FunFrames base l){b:Qc}(hb:b∈frs l):base.get? b=none/\∃o,h.get? b=some o/\∀vs,o.data≠.fields vs:=x.mem hb
theorem ObjOk.there{P:Qm}{w:QB}{H:Hp}{h:QH}{a:Qc}{o:HO}(x:ObjOk P w H h a o):∃u,h.get? a=some u:=by
 cases o with
 | lst xs=>obtain⟨_,_,_,_,e⟩:=x;exact⟨_,e⟩
 | tup xs=>obtain⟨_,_,_,p⟩:=x;obtain⟨o,e,_⟩:=p;exact⟨_,e⟩
 | dK kvs=>obtain⟨_,_,_,_,o,_,_,e,_⟩:=x;exact⟨_,e⟩
 | dT kvs=>obtain⟨_,_,_,_,o,_,_,e,_⟩:=x;exact⟨_,e⟩
 | set S n=>obtain⟨o,_,_,_,e,_⟩:=x;exact⟨_,e⟩
 | ins C dx fs=>obtain⟨_,_,_,e,_⟩:=x;exact⟨_,e⟩
 | own y=>obtain⟨_,e⟩:=x;exact⟨_,e⟩
 | xd fs=>obtain⟨_,⟨_,_,_,e,_⟩,_⟩:=x;exact⟨_,e⟩
 | rng lo hi=>obtain⟨_,_,_,e⟩:=x;exact⟨_,e⟩
 | frz ob u=>obtain⟨e,_⟩:=x;exact⟨_,e⟩
 | tbl ps=>exact⟨_,(show h.get? a=some _ from x)⟩
 | met f y=>exact⟨_,(show h.get? a=some _ from x)⟩
 | ext φ=>obtain⟨_,⟨_,e⟩,_⟩:=x;exact⟨_,e⟩

noncomputable def TrD(h base:QH)(e:Qc)(cls:Qa)(dct:Option Qc)(fl:Qa):Prop :=
 ∃oe vs T oT ts,h.get? e=some oe/\(oe.cls=cls/\oe.dict=dct)/\oe.data=.fields vs/\vs[1]?=some (.ref T)/\base.get? T=none/\T≠e/\h.get? T=some oT/\oT.data=.fields ts/\ts[3]?=some fl
noncomputable def Fl(base:QH)(l:List Env)(e:Qc)(cls:Qa)(h:QH):Prop :=
 base.StaysIn h/\base.get? e=none/\h.FunFrames base l/\(TrD h base e (LE.WH cls) (LE.JaO cls) .none\/∃oe vs,h.get? e=some oe/\(oe.cls=LE.WH cls/\oe.dict=LE.JaO cls)/\oe.data=.fields vs/\vs[1]?=some .none)
noncomputable def Cov(fs:List Qc)(H':Hp)(h h' base:QH):Prop:=∀b o,(H' b≠none\/∃u,h.get? b=some u)->b∉fs->h'.get? b=some o->base.get? b=some o
structure XF (P:Qm) (w:QB) (l:List Env) (H:Hp) (h:QH) (a:Qc) (cls:Qa) (H':Hp) (base h':QH):Prop where
 un:Un (frs l) [] H H' h h'
 hok:HOk P w H' h'
 fl:Fl base l a cls h'
 cov:Cov (frs l) H' h h' base
 free:H' a=none
 new:h.get? a=none
noncomputable def CX1(P:Qm)(w:QB):CXT:=fun l H s E e s'=>∃(a:Qc) (cls:Qa) (H':Hp) (base:QH),e=.ref a/\s'.os=s.os/\AllBare s'.gens/\XF P w l H s.heap a cls H' base s'.heap/\E cls (some a) H'
section
variable{P:Qm}{w:QB}{l:List Env}{H H':Hp}{h h1 h2 base base0:QH}{a:Qc}{cls:Qa}
theorem XF.on(x:XF P w l H h a cls H' base h1)(hf:h.FunFrames base0 l)(hn:∀b∈frs l,H b=none)(k:base.StaysIn h2)(us:h1.UpToSlots h2)(fl:Fl base l a cls h2):XF P w l H h a cls H' base h2:=by
 have ff:∀b∈frs l,∃o,h1.get? b=some o/\∀vs,o.data≠.fields vs:=fun b hb=>(Wr x.fl.2.2.1 hb).2
 have nfr:∀b u,H' b=some u->b∉frs l:=fun b u e hb=>by obtain⟨_,o,ho,_⟩:=Wr hf hb;rw[x.un.free b o ho (hn b hb) (by simp)] at e;cases e
 refine⟨⟨fun b o q n hb hx=>?_,fun b o q n hb hx=>?_,x.un.free,fun b o q hx=>?_,x.un.tups,x.un.frzs,x.un.tbls⟩,fun b u e=>?_,fl,fun b o hb hfr q=>?_,x.free,x.new⟩
 ·exact k b o (x.cov b o (.inr ⟨_,q⟩) hb (x.un.keep b o q n hb hx))
 ·obtain⟨sl,e1⟩:=x.un.slot b o q n hb hx;obtain⟨o',e2,nf⟩:=ff b hb;rw[e1] at e2;cases e2;obtain⟨sl',e3⟩:=us b _ e1 nf;exact⟨sl',e3⟩
 ·obtain⟨o',e1⟩:=x.un.there b o q hx
  by_cases hb:b∈frs l
  ·obtain⟨o2,e2,nf⟩:=ff b hb;obtain⟨sl',e3⟩:=us b _ e2 nf;exact⟨_,e3⟩
  ·exact⟨o',k b o' (x.cov b o' (.inr ⟨_,q⟩) hb e1)⟩
 ·refine(x.hok b u e).stay (fun c v hc q=>?_) (fun _ z=>z) fun _ _ z=>z
  have tr:∃u',H' c=some u':=by
   rcases hc with rfl|hc
   ·exact⟨_,e⟩
   ·exact⟨_,hc⟩
  obtain⟨u',e'⟩:=tr;exact k c v (x.cov c v (.inl (by rw[e'];intro z;cases z)) (nfr c u' e') q)
 ·have ex:∃o',h1.get? b=some o':=by
   rcases hb with hb|⟨u,hb⟩
   ·cases e:H' b with
    | none=>exact absurd e hb
    | some u=>exact(x.hok b u e).there
   ·exact x.un.there b u hb (by simp)
  obtain⟨o',e1⟩:=ex;have e2:=x.cov b o' hb hfr e1;have e3:=k b o' e2;rw[q] at e3;cases e3;exact e2
end
theorem JcN(o:Obj)(f:Array Qa->Array Qa):(o.mapFields f).dict=o.dict:=by obtain⟨c,d,dt,sl⟩:=o;cases dt <;> rfl
section
variable{M:Model}{A:Qu}{E:Qa->Qd->Prop}{s:Qd}{base:QH}{env:Env}{outer l:List Env}{L e:Qc}{cls fl:Qa}{dct:Option Qc}{Q:Unit->Qd->Prop}
theorem Jey{oe:Obj}{vs:Array Qa}{head:Qa}{had:Bool}(hfr:A.frames=some (env::outer))(hl:s.heap.FunFrames base (env::outer))(hf:env.frame=some L)
 (he:s.heap.get? e=some oe) (hkb:base.StaysIn s.heap) (hen:base.get? e=none) (hd:oe.data=.fields vs) (hsz:1<vs.size)
 (h:∀h',base.StaysIn h'->h'.FunFrames base (env::outer)->TrD h' base e oe.cls oe.dict (rawInt L)->s.heap.UpToSlots h'->Q () { s with heap:=h' }) :
 wpAny M A (do let a <- frameOf env;let pl <- entryPlaceOf L had;let b <- LH head a .none (rawInt L) .none pl;setField (.ref e) 1 b) Q E s:=by
 refine Qe (wpAny_frameOf_fun hfr hl hf fun h₁ hs₁=>Qe (wpAny_entryPlaceOf fun pl hpl=>?_));unfold LH newFields;refine Qe (Kq ?_ (hpl.sizeOk5 _ _ _ _ _))
 have ne:e∉(env::outer).filterMap (·.frame):=fun hm=>by obtain⟨_,o,ho,nf⟩:=hl.mem hm;rw[he] at ho;cases ho;exact nf vs hd
 have e1:h₁.get? e=some oe:=(hs₁.2.1 e ne).trans he
 have b1:base.StaysIn h₁:=fun b o hb=>(hs₁.2.1 b fun hm=>by rw[(hl.mem hm).1] at hb;cases hb).trans (hkb b o hb)
 generalize hot:({ cls:=.type "traceback",dict:=none,data:=.fields ([head,.ref L,.none,rawInt L,.none]++(if pl.isEmpty then Qi 6 Value.none else pl)).toArray }:Obj)=ot
 have hotd:ot.data=.fields ([head,.ref L,.none,rawInt L,.none]++(if pl.isEmpty then Qi 6 Value.none else pl)).toArray:=by rw[<- hot]
 have hotf:ot.isFreed=false:=by rw[<- hot];rfl
 have e2:=Qf (h:=h₁) ot e1;refine Gv e2 hd hsz ?_
 have d3:=Gd hd (·.setIfInBounds 1 (Value.ref h₁.objs.size))
 have e3:=Gb (KC (·.setIfInBounds 1 (Value.ref h₁.objs.size))) e2 (GP d3)
 have tne:h₁.objs.size≠e:=G1 (Qj e1)
 have t3:=(QU (h₁.push ot) (KC (·.setIfInBounds 1 (Value.ref h₁.objs.size))) (Q0 tne)).trans (QA h₁ hotf)
 have keep:∀b o,b≠e->h₁.get? b=some o->((h₁.push ot).update e (KC (·.setIfInBounds 1 (Value.ref h₁.objs.size)))).get? b=some o:=fun b o hb q=>by rw[QU _ _ (Q0 hb)];exact Qf _ q
 have nrec:∀b o,s.heap.get? b=some o->(∀ws,o.data≠.fields ws)->b≠e:=fun b o hb nf z=>by rw[z,he] at hb;cases hb;exact nf vs hd
 refine h _ (fun b o hb=>keep b o (fun z=>by rw[z,hen] at hb;cases hb) (b1 b o hb)) (hl.of_keeps fun b o hb nf=>?_) ⟨_,_,h₁.objs.size,_,_,e3,⟨KU _ _,JcN _ _⟩,d3,by simp[hsz],b1.fresh,tne,t3,hotd,by first|(simp;done)|(rcases hpl with rfl|⟨_,_,_,_,_,_,_,rfl⟩ <;> simp)⟩ fun b o hb nf=>?_
 ·obtain⟨sl,hs⟩:=hs₁.2.2 b o hb;exact⟨_,keep b _ (nrec b o hb nf) hs,rfl⟩
 ·obtain⟨sl,hs⟩:=hs₁.2.2 b o hb;exact⟨sl,keep b _ (nrec b o hb nf) hs⟩
theorem Jac(hkb:base.StaysIn s.heap)(hl:s.heap.FunFrames base l)(ht:TrD s.heap base e cls dct fl)
 (h:∀h',base.StaysIn h'->h'.FunFrames base l->TrD h' base e cls dct .none->s.heap.UpToSlots h'->Q () { s with heap:=h' }):wpAny M A (setFlight (.ref e) none) Q E s:=by
 obtain⟨oe,vs,T,oT,ts,he,hc,hd,h1,nT,hTe,hT,dT,h3⟩:=ht;have sz:3<ts.size:=(QT.mp h3).1;unfold setFlight;refine Qe (Q6 he hd h1 ?_);rw[if_pos (show(Value.ref T != Value.none)=true from by simp)];have other:∀b,b≠T->(s.heap.update T (KC (·.setIfInBounds 3 ((none:Option Qc).elim Value.none fun f=>rawInt f)))).get? b=s.heap.get? b:=fun b hb=>QU _ _ (Q0 hb)
 have nrec:∀b o,s.heap.get? b=some o->(∀ws,o.data≠.fields ws)->b≠T:=fun b o hb nf z=>by rw[z,hT] at hb;cases hb;exact nf ts dT
 refine Gv hT dT sz (h _ (fun b o hb=>(other b fun z=>by rw[z,nT] at hb;cases hb).trans (hkb b o hb)) (hl.of_keeps fun b o hb nf=>⟨o,(other b (nrec b o hb nf)).trans hb,rfl⟩) ?_ fun b o hb nf=>⟨o.slots,(other b (nrec b o hb nf)).trans hb⟩);exact⟨oe,vs,T,_,_,(other e (Q0 hTe)).trans he,hc,hd,h1,nT,hTe,Gb _ hT (GP (Gd dT _)),Gd dT _,by simp[sz]⟩
theorem JcD(hfr:A.frames=some (env::outer))(hf:env.frame=some L)(x:Fl base (env::outer) e cls s.heap)
 (hQ:∀h',base.StaysIn h'->h'.FunFrames base (env::outer)->TrD h' base e (LE.WH cls) (LE.JaO cls) (rawInt L)->s.heap.UpToSlots h'->Q () { s with heap:=h' }):wpAny M A (noteFrame (.ref e) env) Q E s:=by
 obtain⟨k1,k2,k3,tr|⟨oe,vs,he,hc,hd,h1⟩⟩:=x
 ·obtain⟨oe,vs,T,oT,ts,he,hc,hd,h1,nT,hTe,hT,dT,h3⟩:=tr;unfold noteFrame;simp only[hf];refine Qe (Q6 he hd h1 ?_);rw[if_pos (show(Value.ref T != Value.none)=true from by simp)];refine Qe (Q6 hT dT h3 ?_);rw[if_neg (show ¬((Value.none == rawInt L)=true) from by simp[rawInt])];refine Qe (Gv hT dT (QT.mp h3).1 ?_);have other:∀b,b≠T->(s.heap.update T (KC (·.setIfInBounds 3 Value.none))).get? b=s.heap.get? b:=fun b hb=>QU _ _ (Q0 hb)
  have nrec:∀b o,s.heap.get? b=some o->(∀ws,o.data≠.fields ws)->b≠T:=fun b o hb nf z=>by rw[z,hT] at hb;cases hb;exact nf ts dT
  refine Jey hfr (k3.of_keeps fun b o hb nf=>⟨o,(other b (nrec b o hb nf)).trans hb,rfl⟩) hf ((other e (Q0 hTe)).trans he)
   (fun b o hb=>(other b fun z=>by rw[z,nT] at hb;cases hb).trans (k1 b o hb)) k2 hd (QT.mp h1).1 fun h' x1 x2 x3 x4=>?_
  rw[hc.1,hc.2] at x3;exact hQ h' x1 x2 x3 fun b o hb nf=>x4 b o ((other b (nrec b o hb nf)).trans hb) nf
 ·unfold noteFrame;simp only[hf];refine Qe (Q6 he hd h1 ?_);rw[if_neg (by decide)];refine Jey hfr k3 hf he k1 k2 hd (QT.mp h1).1 fun h' x1 x2 x3 x4=>?_
  rw[hc.1,hc.2] at x3;exact hQ h' x1 x2 x3 x4
theorem JeJ(hfr:A.frames=some (env::outer))(hf:env.frame=some L)(x:Fl base (env::outer) e cls s.heap)
 (hQ:∀h',Fl base (env::outer) e cls h'->Fl base outer e cls h'->s.heap.UpToSlots h'->Q () { s with heap:=h' }):wpAny M A (leaving env (.ref e)) Q E s:=by
 have k2:=x.2.1;unfold leaving;refine Qe (JcD hfr hf x fun h1 x1 x2 x3 x4=>?_);refine Jac (s:={ s with heap:=h1 }) x1 x2 x3 fun h2 y1 y2 y3 y4=>?_
 exact hQ h2 ⟨y1,k2,y2,.inl y3⟩ ⟨y1,k2,y2.2.2,.inl y3⟩ (x4.trans y4)
end

noncomputable def XP(X:Cx)(pins:List (Qc×Obj))(σ:St)(E:XK)(e:Qa)(s':Qd):Prop:=∃H s,Inv X pins σ H s/\CX1 X.prog X.w X.stack H s E e s'
section
variable{X:Cx}{pins:List (Qc×Obj)}{σ:St}{H H':Hp}{s s':Qd}{base:QH}{a:Qc}{cls:Qa}{E:XK}{e:Qa}
theorem Inv.fly(I:Inv X pins σ H s)(ho:s'.os=s.os)(hg:AllBare s'.gens)(x:XF X.prog X.w X.stack H s.heap a cls H' base s'.heap):Inv X pins σ H' s':=I.call' ho x.un x.hok hg fun b hb=>nomatch hb
theorem XP.made{args:List Qa}{h':QH}{ea:Qc}(I:Inv X pins σ H s)(m:Heap.MadeExcOf s.heap h' ea cls args)(q:E cls (some ea) H)(k1:LE.WH cls=cls)(k2:LE.JaO cls=none):XP X pins σ E (.ref ea) { s with heap:=h' }:=by
 have nf:∀b∈frs X.stack,∃o,s.heap.get? b=some o:=fun b hb=>by obtain⟨_,o,ho,_⟩:=Wr I.stack hb;exact⟨o,ho⟩
 obtain⟨t,ht,_,_⟩:=m.there;refine⟨H,s,I,ea,cls,H,wo (frs X.stack) s.heap,rfl,rfl,I.bare,⟨⟨fun b o q _ _ _=>m.keeps b o q,fun b o q _ _ _=>⟨o.slots,m.keeps b o q⟩,fun _ _ _ n _=>n,fun b o q _=>⟨o,m.keeps b o q⟩,fun _ _ z=>z,fun _ _ _ z=>z,fun b ps z=>⟨#[],by rw[z];simp⟩⟩,I.hok.kept m.keeps,⟨fun b o q=>?_,?_,?_,.inr ⟨_,_,ht,⟨k1.symm,k2.symm⟩,rfl,rfl⟩⟩,fun b o hb hfr q=>?_,?_,m.new⟩,q⟩
 ·by_cases hb:b∈frs X.stack
  ·rw[Zn hb] at q;cases q
  ·rw[Wa hb] at q;exact m.keeps b o q
 ·by_cases hb:ea∈frs X.stack
  ·exact Zn hb
  ·rw[Wa hb];exact m.new
 ·exact(Jab I.stack fun b hb=>Zn hb).of_keeps fun b o q _=>⟨o,m.keeps b o q,rfl⟩
 ·rw[Wa hfr]
  have ex:∃u,s.heap.get? b=some u:=by
   rcases hb with hb|hb
   ·cases e:H b with
    | none=>exact absurd e hb
    | some u=>exact(I.hok b u e).there
   ·exact hb
  obtain⟨u,hu⟩:=ex;have:=m.keeps b u hu;have q':h'.get? b=some o:=q;rw[q'] at this;cases this;exact hu
 ·cases e:H ea with
  | none=>rfl
  | some u=>obtain⟨o,ho⟩:=(I.hok ea u e).there;rw[m.new] at ho;cases ho
theorem XP.leave{M:Model}{E':Qa->Qd->Prop}{A:Qu}(hA:A.frames=some X.stack)(hs:X.stack=X.env::X.outer)(hf:X.env.frame=some X.env.locals)(hx:X.ex=[])(x:XP X pins σ E e s') :
 wpAny M A (leaving X.env e) (fun _ s''=>CX1 X.prog X.w X.outer X.H₀ X.s₀ E e s'') E' s':=by
 obtain⟨H,s,I,a,cls,H',base,rfl,ho,hg,xf,q⟩:=x;have fl:=xf.fl;rw[hs] at fl hA;refine JeJ hA hf fl fun h' f1 f2 us=>?_
 have y:=xf.on I.stack I.stkFree f1.1 us (by rw[hs];exact f1)
 have J:Inv X pins σ H' { s' with heap:=h' }:=I.fly ho hg y
 have hfs:frs X.stack=X.env.locals::frs X.outer:=by rw[hs];unfold frs;rw[GA,hf]
 have nl:∀b o,X.s₀.heap.get? b=some o->b≠X.env.locals:=fun b o q z=>by have h1:=Qj q;rw[z] at h1;exact absurd h1 (Nat.not_lt.mpr I.ok.above)
 refine⟨a,cls,H',base,rfl,J.os,hg,⟨?_,J.hok,f2,fun b o hb hfr q=>?_,y.free,?_⟩,q⟩
 ·have:=J.base;rw[hx] at this;exact this
 ·refine y.cov b o ?_ ?_ q
  ·rcases hb with hb|⟨u,hb⟩
   ·exact .inl hb
   ·exact .inr (I.base.there b u hb (by rw[hx];simp))
  ·rw[hfs];intro z;rcases Qq.mp z with z|z
   ·rcases hb with hb|⟨u,hb⟩
    ·rw[z] at hb;exact hb J.free
    ·exact nl b u hb z
   ·exact hfr z
 ·cases z:X.s₀.heap.get? a with
  | none=>rfl
  | some u=>obtain⟨o,e⟩:=I.base.there a u z (by rw[hx];simp);rw[y.new] at e;cases e
end
end L2

namespace L2
open PySem PySem.Spec PyProof.Rows PySem.Calls
abbrev VEm:List Qa:=[.type "ValueError",.type "Exception",.type "BaseException",.type "object"]
section
variable{P:Qm}{w:QB}{K:Qn}{mg:Str->Option Qa}{base:QH}{N:List Str}{qual:Str}{scope:KN}{f:Qc}{cd:Qa}{A:Qu}{outer:List Env}{s:Qd}{H:Hp}{E:XK}
noncomputable def XOk(X:Cx)(E:XK):Prop:=∀(pins:List (Qc×Obj)) (σ:St) (e:Qa) (s':Qd),XP X pins σ E e s'->X.xe e s'
theorem xok_cx:XOk (WI (CX1 P w) P w K mg base N qual scope f cd A outer s H E) E:=fun pins σ e s' x=>by
 have hA:(A.deeper (envOfC qual scope s.heap.objs.size f cd)).frames=some (WI (CX1 P w) P w K mg base N qual scope f cd A outer s H E).stack:=by obtain⟨H1,s1,I,_⟩:=x;exact I.ok.frames
 exact XP.leave hA rfl rfl rfl x
theorem XOk.passes{X:Cx}{E:XK}(h:XOk X E):Ul (CX1 X.prog X.w) X E:=fun pins σ H s e s' I cx=>h pins σ e s' ⟨H,s,I,cx⟩
noncomputable def EF:XK:=fun _ _ _=>False
theorem Jbe{X:Cx}:Ul (CX1 X.prog X.w) X EF:=fun _ _ _ _ _ _ _ ⟨_,_,_,_,_,_,_,_,q⟩=>q.elim
theorem Fun.okX{x qual:Str}{st:Ga}{f:Qc}{fd:QC}{N ps:List Str}{k:Nat}{sp:Sp}(F:Fun K x qual st f fd)(S:FnScope N ps (Jn st))(len:∀vs H Q E,sp vs H Q E->vs.length=ps.length)
 (hbody:∀(cdv:Qa) (A:Qu) (outer:List Env) (s:Qd) (H:Hp) (vs:List V) (Q:VK) (E:XK),Room k (A.deeper (envOfC qual (Jn st) s.heap.objs.size f cdv))->sp vs H Q E ->
  ∃t,PSs (WI (CX1 P w) P w K mg base N qual (Jn st) f cdv A outer s H E) (Ys st) t/\t { nx:=fun _ H'=>Q .non H',rt:=Q } (Yp N vs) H):FnOk P w K mg base (CX1 P w) (k+1) f fd ps sp:=by
 obtain⟨oc,od,kV,doc,pm,an,cdv,ct,osl,rfl,lk,hcd⟩:=F.ex;exact Jh6 lk hcd S len fun A outer s H vs Q E hr hsp=>hbody cdv A outer s H vs Q E hr hsp
end
noncomputable def Jcf(C:Qc)(E:XK)(t:TA):TS:=fun D σ H=>t σ H fun vs H1=>vs.length<=Qk/\∀a,E (.ref C) (some a) H1
section
variable{X:Cx}{x:Str}{np cpos pos:Pos}{C:Qc}{E:XK}{e:QO}{es:List QO}{t:TA}
theorem Jgm{K:Qn}{h:QH}{bmB:List Qa}{newId:String}(X:K.In h)(q:excIn K C bmB newId=true):∃bm N nm q bs hdct sn sub ab col dd k0 k1 k2 k3 k5 mN,h.get? C=some (excClassObj nm q C N bs bm hdct sn sub ab col dd k0 k1 k2 k3 k5 newId)/\h.Ns N mN/\mN "__init__"=none/\OwnTail h bmB bm:=by
 unfold excIn at q;split at q
 ·rename_i dd cd sl ho;split at q
  ·rename_i C' bm k0 k1 k2 k3 n k5 hm hs;simp only[QL,beq_iff_eq,Bool.not_eq_true'] at q;obtain⟨⟨⟨⟨⟨rfl,rfl⟩,hdel⟩,ht⟩,hok⟩,hni⟩:=q;obtain⟨nm,bs,mro,ns,qn,hd,sn,sub,ab,col,del⟩:=cd;dsimp only at hm hdel hok hni;subst hm hdel
   have hsl:sl=#[k0,k1,k2,k3,some (.builtin n),k5]:=by obtain⟨l⟩:=sl;simp only at hs;rw[hs]
   subst hsl;exact⟨bm,ns,nm,qn,bs,hd,sn,sub,ab,col,dd,k0,k1,k2,k3,k5,_,X _ _ ho,.of_isNs (LL X hok),PySem.W.nsMap_none_of_in X hok hni,LM X ht⟩
  ·cases q
 ·cases q
theorem Jfo(ok:excIn X.K C VEm "ValueError.__new__"=true)(hg:Gl X x)(hm:X.mg x=some (.ref C))(hc:X.calm=true)(hx:XOk X E)(ha:PA X (e::es) t)(hdb:(x == ("__debug__":Str))=false:=by decide)
 (he:starEach (e::es) X.env=(false,eval e X.env)::starEach es X.env:=by rfl) (hpl:(backTo cpos (starEach es X.env)).any (·.1)=false:=by rfl) :
 PS X (.Raise (some (.Call (.Name x np) (e::es) [] cpos)) none pos) (Jcf C E t):=by
 intro pins s σ H D I h;obtain⟨tl,N,nm,q,bs,hdct,sn,sub,ab,col,dd,k0,k1,k2,k3,k5,mN,hC,hN,hni,T⟩:=Jgm (h:=X.base) I.ok.mod.kin ok;refine wpAny_Raise_call_subU (C:=C) (nm:=nm) (q:=q) (N:=N) (bs:=bs) (bm:=tl) (hdct:=hdct) (sn:=sn) (sub:=sub) (ab:=ab) (col:=col) (dd:=dd) (k0:=k0) (k1:=k1) (k2:=k2) (k3:=k3) (k5:=k5)
  QX (by decide) QX (mN:=mN) (T.hasType QX.hasBase) (I.ok.hd hc) (by rw[he];show(false || (backTo cpos (starEach es X.env)).any (·.1))=false;rw[hpl];rfl) hni (Y7 I hg hm ⟨rfl,?_⟩ hdb)
 have h1:=ha cpos pins s σ H _ I h;rw[he] at h1 ⊢;refine GZ (QZ h1 (fun us s₂ ⟨vs,H1,I1,r,hl,q⟩=>⟨rfl,by rw[<- r.length];exact hl,I1.bk _ _ hC,hN.keeps I1.bk,T.keeps I1.bk,fun h' a m=>hx pins σ _ _ (XP.made I1 m (q a) rfl rfl)⟩) fun _ _ y=>y)
end
end L2

namespace L2
open PySem PySem.Spec PyProof.Rows PySem.Calls
noncomputable def XS(X:Cx)(pins:List (Qc×Obj))(E:St->XK)(e:Qa)(s':Qd):Prop:=∃σ',XP X pins σ' (E σ') e s'
noncomputable def PX(X:Cx)(e:QO)(T:XK->TE):Prop :=
 ∀(pins:List (Qc×Obj)) (s:Qd) (σ:St) (H:Hp) (Q:VK) (E:XK),Inv X pins σ H s->T E σ H Q->wpAny (model X.prog X.w) X.A (eval e X.env) (EP X pins σ Q) (XP X pins σ E) s
noncomputable def PCS(X:Cx)(st:Ga)(T:(St->XK)->TS):Prop :=
 ∀(pins:List (Qc×Obj)) (s:Qd) (σ:St) (H:Hp) (D:Ends) (E:St->XK),Inv X pins σ H s->T E D σ H->wpAny (model X.prog X.w) X.A (exec st X.env) (SP X pins D) (XS X pins E) s
noncomputable def Jej(X:Cx)(st:List Ga)(T:(St->XK)->TS):Prop :=
 ∀(pins:List (Qc×Obj)) (s:Qd) (σ:St) (H:Hp) (D:Ends) (E:St->XK),Inv X pins σ H s->T E D σ H->wpAny (model X.prog X.w) X.A (execs st X.env) (SP X pins D) (XS X pins E) s
structure CalX (P:Qm) (w:QB) (K:Qn) (mg:Str->Option Qa) (base:QH) (x:Str) (k:Nat) (ps:List Str) (sp:Sp):Prop where
 ex:∃(f:Qc) (fd:QC),FnOk P w K mg base (CX1 P w) k f fd ps sp/\mg x=some (.ref f)/\keepIn K (.ref f)=true/\Binds K fd ps []
noncomputable def Jcg(T:XK->TE):(St->XK)->TS:=fun E D σ H=>T (E σ) σ H fun _ H1=>D.nx σ H1
section
variable{X:Cx}{k:Nat}{C:Qc}{ps:List Str}{sp:Sp}{x:Str}{p pos:Pos}{e:QO}{es:List QO}{t:TA}{st:Ga}{rest:List Ga}{T:XK->TE}{TS1:(St->XK)->TS}{u:TS}
theorem VH{E:XK}(c:CalX X.prog X.w X.K X.mg X.base x k ps sp)(hr:Room k X.A)(hg:Gl X x)(hx:Ul (CX1 X.prog X.w) X E)(ha:PA X (e::es) t)(hdb:(x == ("__debug__":Str))=false:=by decide)
 (he:starEach (e::es) X.env=(false,eval e X.env)::starEach es X.env:=by rfl) (hpl:(backTo pos (starEach es X.env)).any (·.1)=false:=by rfl):PE X (.Call (.Name x p) (e::es) [] pos) (VU sp [] E t):=by
 obtain⟨f,fd,F,h1,h2,h3⟩:=c.ex;exact JcT F hr hg h1 h2 h3 .nil hx ha hdb he hpl
theorem JcY(c:CalX X.prog X.w X.K X.mg X.base x k ps sp)(hr:Room k X.A)(hg:Gl X x)(ha:PA X.nox (e::es) t)(hdb:(x == ("__debug__":Str))=false:=by decide)
 (he:starEach (e::es) X.env=(false,eval e X.env)::starEach es X.env:=by rfl) (hpl:(backTo pos (starEach es X.env)).any (·.1)=false:=by rfl):PX X (.Call (.Name x p) (e::es) [] pos) (fun E=>VU sp [] E t):=by
 obtain⟨f,fd,F,h1,h2,h3⟩:=c.ex;intro pins s σ H Q E I h;refine Gs (Y7 I hg h1 ?_ hdb);refine callWith_K (h₀:=X.base) I.ok.mod.kin h2 (QZ (ha pos pins s σ H _ (I.wish _) h) (fun us s1 ⟨vs,H1,I1,r,q⟩=>⟨I1.unwish.kIn,?_⟩) fun _ _ z=>QS z) he hpl;have I1:=I1.unwish;have r2:Vals (vs++[]) (us++[]):=r.append .nil;have hl:(us++[]).length=ps.length:=by rw[<- r2.length];exact F.len _ _ _ _ q
 refine Ku (GF (F.run X.A X.stack s1 H1 ⟨us,[]⟩ (us++[]) (vs++[]) Q E hr I1.env0 (h3 s1 us I1.kIn hl) r2 q) fun r s' hq=>?_)
 cases r with
 | error e=>exact⟨H1,s1,I1,hq⟩
 | ok fl =>
  cases fl with
  | ret u=>exact I1.after hq
  | next=>exact QS hq
  | brk=>exact QS hq
  | cont=>exact QS hq
theorem W6(h:PCS X st TS1):Jej X [st] TS1:=by
 intro pins s σ H D E I q;refine K1 (thn (h pins s σ H D E I q) fun f s1 q=>?_)
 cases f with
 | next=>exact Kg q
 | ret v=>exact q
 | brk=>exact q
 | cont=>exact q
theorem Jbf(he:PX X e T)(hs:swapsWith e none pos.line X.env=pure false:=by rfl):PCS X (.Expr e pos) (Jcg T):=by intro pins s σ H D E I h;exact wpAny_Expr_any (QZ (he pins s σ H _ _ I h) (fun v s1 ⟨x,H1,I1,r1,q1⟩=>⟨σ,H1,I1,q1⟩) fun _ _ z=>⟨σ,z⟩) I.quiet hs
end
end L2
namespace L2
open PySem PySem.Spec PyProof.Rows PySem.Calls LE
noncomputable abbrev Cx.hand(X:Cx)(a:Qc):Cx:={ X with A:=X.A.mark (some (.ref a)),calm:=false,xe:=fun _ _=>False }
noncomputable def Jkk(K:Qn)(CL:Qc)(i:Nat)(T:(St->XK)->TS)(th:TS):TS:=fun D σ H=>T (fun σ' c oa H'=>∃a,oa=some a/\exmOne K (WH c) (.ref CL)=some true ∧
 (H' a=none->th { nx:=fun σ2 H2=>D.nx (σ2.set i none) H2,rt:=D.rt,bk:=fun σ2 H2=>D.bk (σ2.set i none) H2,ct:=fun σ2 H2=>D.ct (σ2.set i none) H2 } (σ'.set i (some (.ref a))) (upd H' a (XO a c)))) D σ H
section
variable{X:Cx}{pins:List (Qc×Obj)}{σ:St}{H:Hp}{s:Qd}{a:Qc}
theorem Inv.hand(I:Inv X pins σ H s)(a:Qc):Inv (X.hand a) pins σ H s :=
 ⟨⟨I.ok.mod,I.ok.kind,I.ok.glob,I.ok.blt,I.ok.above,I.ok.inj,I.ok.has,I.ok.cab,(fun h=>nomatch h),I.ok.frames,I.ok.stk,I.ok.exf,I.ok.bs,I.ok.bsz,I.ok.noex,I.ok.exfs,I.ok.funs,I.ok.frf⟩,I.os,I.bare,I.base,I.loc,I.cell,I.free,I.freeC,I.pin,I.hok,I.len⟩
theorem Inv.unhand(hd:X.calm=true->X.A.handled=none)(I:Inv (X.hand a) pins σ H s):Inv X pins σ H s :=
 ⟨⟨I.ok.mod,I.ok.kind,I.ok.glob,I.ok.blt,I.ok.above,I.ok.inj,I.ok.has,I.ok.cab,hd,I.ok.frames,I.ok.stk,I.ok.exf,I.ok.bs,I.ok.bsz,I.ok.noex,I.ok.exfs,I.ok.funs,I.ok.frf⟩,I.os,I.bare,I.base,I.loc,I.cell,I.free,I.freeC,I.pin,I.hok,I.len⟩
theorem Inv.goes{i:Nat}{n:Str}{m:Str->Option Qa}{v:Option Qa}{h':QH}{t':Nat}(I:Inv X pins σ H s)(hi:X.N[i]?=some n)(hn:s.heap.Ns X.env.locals m)
 (hl:∀(i:Nat) (x:Str) (v:V),X.N[i]?=some x->σ[i]?=some (some v)->Vis X.env.scope x->∃u,RelV v u/\JkC X.env s.heap m x u) (hN:X.N.Nodup) (hn':h'.Ns X.env.locals (fun x=>if x=n then v else m x)) (hs:Q5 X.env.locals s.heap h'):Inv X pins (σ.set i none) H { s with heap:=h',toks:=t' }:=by
 obtain⟨oL,_,_,hoL,_⟩:=id hn;have cne:=I.cne;have hiσ:i<σ.length:=by rw[I.len];exact(Qh.mp hi).1
 refine⟨I.ok,I.os,I.bare,⟨fun b o e n hb hx=>?_,fun b o e n hb hx=>?_,I.base.free,fun b o e hx=>?_,I.base.tups,I.base.frzs,I.base.tbls⟩,⟨_,hn',fun j y v' e1 e2 e3=>?_⟩,fun y c e=>?_,I.free,I.freeC,fun p hp=>?_,fun b ob e=>?_,by simpa using I.len⟩
 ·exact(hs.2 b (QI (QD (Qj e) I.ok.above))).trans (I.base.keep b o e n hb hx)
 ·obtain⟨sl,e1⟩:=I.base.slot b o e n hb hx;exact⟨sl,(hs.2 b (QI (QD (Qj e) I.ok.above))).trans e1⟩
 ·obtain⟨o',e1⟩:=I.base.there b o e hx;exact⟨o',(hs.2 b (QI (QD (Qj e) I.ok.above))).trans e1⟩
 ·by_cases hj:j=i
  ·subst hj;rw[Ko hiσ] at e2;cases e2
  ·rw[KE (Q0 hj)] at e2;obtain⟨u',r',q⟩:=hl j y v' e1 e2 e3;refine⟨u',r',?_⟩
   have hyn:y≠n:=fun z=>hj (by
    rw[z] at e1;have h1:=(Qh.mp e1)
    have h2:=(Qh.mp hi)
    exact(List.getElem_inj hN).mp (h1.2.trans h2.2.symm))
   rcases q with ⟨k1,k2⟩|⟨k1,c,k2,k3⟩
   ·exact .inl ⟨k1,by show(if y=n then v else m y)=some u';rw[if_neg hyn];exact k2⟩
   ·refine .inr ⟨k1,c,k2,?_⟩;obtain⟨oc,e4,e5⟩:=k3;exact⟨oc,(hs.2 c (cne y c k2)).trans e4,e5⟩
 ·obtain⟨v,oc,e4,e5⟩:=I.cell y c e;exact⟨v,oc,(hs.2 c (cne y c e)).trans e4,e5⟩
 ·obtain⟨h1,h2,h3,h4⟩:=I.pin p hp;exact⟨(hs.2 p.1 h3).trans h1,h2,h3,h4⟩
 ·refine(I.hok b ob e).stay (fun c w' hc q=>(hs.2 c ?_).trans q) (fun _ q=>q) fun _ _ q=>q
  rintro rfl;rcases hc with rfl|hc
  ·rw[I.free] at e;cases e
  ·rw[I.free] at hc;cases hc
theorem Inv.track{o:HO}(I:Inv X pins σ H s)(hx:X.ex=[])(ha:H a=none)(h0:X.s₀.heap.get? a=none)(hL:a≠X.env.locals)(hC:∀x c,X.env.cells.lookup x=some c->c≠a)(hP:∀p∈X.pn++pins,p.1≠a)(new:ObjOk X.prog X.w (upd H a o) s.heap a o):Inv X pins σ (upd H a o) s:=by
 have nt:∀b u,H b=some u->b≠a:=fun b u e z=>by rw[z,ha] at e;cases e
 refine⟨I.ok,I.os,I.bare,⟨I.base.keep,I.base.slot,fun b u e n hb=>?_,I.base.there,fun b xs e=>?_,fun b u xs e=>?_,fun b ps e=>?_⟩,I.loc,I.cell,?_,fun x c e=>?_,fun p hp=>?_,fun b u e=>?_,I.len⟩
 ·rw[Jl (fun z=>by rw[z,h0] at e;cases e)];exact I.base.free b u e n hb
 ·have:=I.base.tups b xs e;rw[Jl (nt _ _ this)];exact this
 ·have:=I.base.frzs b u xs e;rw[Jl (nt _ _ this)];exact this
 ·obtain⟨m,this⟩:=I.base.tbls b ps e;exact⟨m,by rw[Jl (nt _ _ this)];exact this⟩
 ·rw[Jl (Q0 hL)];exact I.free
 ·rw[Jl (hC x c e)];exact I.freeC x c e
 ·obtain⟨h1,h2,h3⟩:=I.pin p hp;exact⟨h1,by rw[Jl (hP p hp)];exact h2,h3⟩
 ·by_cases hb:b=a
  ·subst hb;rw[Jx] at e;cases e;exact new
  ·rw[Jl hb] at e;exact(I.hok b u e).stay (fun _ _ _ q=>q) (fun c q=>by rw[Jl (nt _ _ q)];exact q) fun c xs q=>by rw[Jl (nt _ _ q)];exact q
end
section
variable{X:Cx}{body suite:List Ga}{b₀:Ga}{i:Nat}{n cn:Str}{np hpos pos:Pos}{CL:Qc}{T:(St->XK)->TS}{th:TS}
theorem JjF(hs:X.stack=X.env::X.outer)(hf:X.env.frame=some X.env.locals)(hx:X.ex=[])(hN:X.N.Nodup)(hi:X.N[i]?=some n)(hk:X.env.kindOf n=some .local)(hg:Gl X cn)(hm:X.mg cn=some (.ref CL))
 (hb:Jej X body T) (hh:∀a,PSs (X.hand a) (b₀::suite) th) (hdb:(cn == ("__debug__":Str))=false:=by decide) :
 PS X (.Try body [.ExceptHandler (some (.Name cn np)) (some n) (b₀::suite) hpos] [] [] pos) (Jkk X.K CL i T th):=by
 intro pins s σ H D I h;refine wpAny_Try_except (QZ (hb pins s σ H D _ I h) (fun f s1 q=>?_) fun e s1 ⟨σ',Hc,sc,Ic,a,cls,H',base,he,ho,hgn,xf,hE⟩=>?_)
 ·cases f with
  | next=>exact Kg q
  | ret v=>exact q
  | brk=>exact q
  | cont=>exact q
 ·subst he;obtain⟨a',ea,hxm,hth⟩:=hE;cases ea;have fl:=xf.fl;rw[hs] at fl;have hfr:X.A.frames=some (X.env::X.outer):=by rw[<- hs];exact Ic.ok.frames
  refine JcD hfr hf fl fun h1 x1 x2 x3 x4=>?_
  refine Jac (s:={ s1 with heap:=h1 }) x1 x2 x3 fun h2 y1 y2 y3 y4=>?_
  have J:Inv X pins σ' H' { s1 with heap:=h2 }:=Ic.fly ho hgn (xf.on Ic.stack Ic.stkFree y1 (x4.trans y4) (by rw[hs];exact⟨y1,fl.2.1,y2,.inl y3⟩))
  have LT:Looks (model X.prog X.w) h2 (typeOf (.ref a)) (WH cls):=by obtain⟨oe,_,_,_,_,he,⟨hc,_⟩,_⟩:=y3;exact hc▸(PySem.W.Looks.ld he).andThen .now
  refine wpAny_handleBy_cons (codeAny_handlers_test (Y7 (X:=X.hand a) (J.hand a) hg hm ?_ hdb)) (by intro q;cases q);refine PySem.W.exm_one J.kIn LT hxm _ _ _ _ (fun _ _ q=>q) ?_;rw[if_pos rfl];refine codeAny_handlers_suite_as ?_;refine Jac (s:={ s1 with heap:=h2 }) y1 y2 y3 fun h3 z1 z2 z3 z4=>?_
  have Y3:=xf.on Ic.stack Ic.stkFree z1 ((x4.trans y4).trans z4) (by rw[hs];exact⟨z1,fl.2.1,z2,.inl z3⟩)
  have J3:Inv X pins σ' H' { s1 with heap:=h3 }:=Ic.fly ho hgn Y3;obtain⟨oe,vs,_,_,_,he,⟨hc,hdn⟩,hd,_⟩:=z3
  have ncl:notCls oe=true:=by unfold notCls;rw[hd]
  have was:∀b o,sc.heap.get? b=some o->b≠a:=fun b o q z=>by rw[z,xf.new] at q;cases q
  have J4:Inv X pins σ' (upd H' a (XO a cls)) { s1 with heap:=h3 }:=by
   refine J3.track hx xf.free ?_ ?_ (fun x c e=>?_) (fun p hp=>?_) ⟨⟨oe,he,hc,ncl,hdn⟩,⟨oe,he⟩,fun g1 g2 ⟨o,q,r⟩ k=>⟨o,k o q,r⟩⟩
   ·cases z:X.s₀.heap.get? a with
    | none=>rfl
    | some u=>obtain⟨o,e⟩:=Ic.base.there a u z (by rw[hx];simp);exact absurd rfl (was a o e)
   ·obtain⟨m,⟨o,_,_,e,_⟩,_⟩:=Ic.loc;exact Q0 (was _ o e)
   ·obtain⟨v,o,e,_⟩:=Ic.cell x c e;exact was c o e
   ·exact was _ _ (Ic.pin p hp).1
  refine Zf (X:=X.hand a) (J4.hand a) hN hi (.inl hk) (show RelV (.ref a) (.ref a) from rfl) (fun s4 I4=>?_) (.inr hk);refine QZ (hh a pins s4 _ _ _ I4 (hth xf.free)) (fun f s5 q=>?_) fun _ _ z=>QS z
  have hp:(X.env.scope.kind == .class || (X.env.scope.kind == .module && X.env.locals != X.env.globals))=false:=by rw[I.ok.kind];rfl
  cases f with
  | next=>obtain⟨σ5,H5,I5,q5⟩:=q;have I5':=I5.unhand I.ok.hd;obtain⟨m,hn,hl⟩:=id I5'.loc;exact G0 hk hn hp fun h6 v n6 s6=>⟨_,H5,I5'.goes hi hn hl hN n6 s6,q5⟩
  | brk=>obtain⟨σ5,H5,I5,q5⟩:=q;have I5':=I5.unhand I.ok.hd;obtain⟨m,hn,hl⟩:=id I5'.loc;exact G0 hk hn hp fun h6 v n6 s6=>⟨_,H5,I5'.goes hi hn hl hN n6 s6,q5⟩
  | cont=>obtain⟨σ5,H5,I5,q5⟩:=q;have I5':=I5.unhand I.ok.hd;obtain⟨m,hn,hl⟩:=id I5'.loc;exact G0 hk hn hp fun h6 v n6 s6=>⟨_,H5,I5'.goes hi hn hl hN n6 s6,q5⟩
  | ret u=>obtain⟨v5,σ5,H5,I5,r5,q5⟩:=q;have I5':=I5.unhand I.ok.hd;obtain⟨m,hn,hl⟩:=id I5'.loc;exact G0 hk hn hp fun h6 v n6 s6=>⟨v5,_,H5,I5'.goes hi hn hl hN n6 s6,r5,q5⟩
end
end L2

namespace L2
open PySem PySem.Spec PyProof.Rows PySem.Calls LE
structure ExcN (K:Qn) (n:Str):Prop where
 pl:∀c,nsIn K mainGlobals n=some (some (.ref c))->findIn K (.ref c) "__getattribute__"=some (some (.builtin "BaseException.__getattribute__"))/\findIn K (.ref c) "__getattr__"=some none/\mroIn K c (.type "BaseException")=some true/\hasDictIn K c=true/\findIn K (.ref c) "__class__"=some (some (.builtin "object.__class__"))/\mroIn K c (.type "object")=some true
structure ExcG (K:Qn):Prop where
 hn:specialIn K (.builtin "object.__class__") "__get__"=some (some (.builtin "getset_descriptor.__get__"))
 htk:takesIn K (.builtin "object.__class__")=some true
section
variable{prog:Qm}{w:QB}{A:Qu}{E:Qa->Qd->Prop}{s:Qd}{K:Qn}{x C D:Qc}{ox:Obj}
theorem Jdw{Q:Option Qa->Qd->Prop}(X:K.In s.heap){od:Option Obj}(I:InstAt s.heap x ox D od)(hga:findIn K (.ref D) "__getattribute__"=some (some (.builtin "BaseException.__getattribute__")))
 (hgn:findIn K (.ref D) "__getattr__"=some none) (hmB:mroIn K D (.type "BaseException")=some true)
 (hf:findObj K D od "__class__"=some (.bind (.builtin "getset_descriptor.__get__") (.builtin "object.__class__"))) (hm:mroIn K D (.type "object")=some true)
 (h:Q (some (.ref D)) { s with toks:=s.toks+1 }):wpAny (model prog w) A (getAttr? (.ref x) "__class__") Q E s:=by
 obtain⟨hh,g,d,t,os⟩:=s;have L0:=I.type (M:=model prog w);have L1:=looks_findIn (M:=model prog w) X hga;have L2:=looks_findIn (M:=model prog w) X hgn;have f3:=Gp.ga.bind (.ref x);unfold getAttr? getAttrBy? getAttrBy;refine Qe (wpAny_mkText (Qe (wpAny_attempt (Gq (Qe (L0.at (Qe (L1.at ?_))))))));have hx2:(Value.builtin "BaseException.__getattribute__" == Value.builtin "object.__getattribute__")=false:=by decide +kernel
 have hx1:(onTheHeap (Value.ref D) && Value.builtin "BaseException.__getattribute__" == Value.builtin "object.__getattribute__")=false:=by rw[hx2];rfl
 repeat (any_goals (first|assumption|(with_reducible refine L0.at ?_)|(with_reducible refine L1.at ?_)|(with_reducible refine L2.at ?_)|wp_step))
 have LB:=looks_mroIn (M:=model prog w) X hmB
 have LF:=LN (M:=model prog w) X I hf
 have hk:builtinKind "BaseException.__getattribute__"=some .slot:=by decide +kernel
 have hsplit:splitId "BaseException.__getattribute__"=some ("BaseException","__getattribute__"):=by decide +kernel
 have hag:=Lz (.ref x) (Value.str "__class__" t);refine Gg Gp.ga.plain Lm ?_;simp only[Q1,GL,checkBuiltinCall,hk,hsplit];refine Qe ?_;unfold isInstance
 repeat (first|(with_reducible refine L0.at ?_)|(with_reducible refine LB.at ?_)|(with_reducible refine LF.at ?_)|wp_step)
 refine PySem.W.class_get (s:=⟨hh,g,d,t+1,os⟩) (ox:=ox) (od:=od) X I hm ?_;show wpAny (model prog w) A.in1 (ret (Value.ref D)) _ _ _;refine QE ?_;exact LX rfl (QE h)
end
section
variable{K:Qn}{x D:Qc}{ox:Obj}{od:Option Obj}
theorem Zv{a g:Qa}{name:Str}(hc:(clsIn K D).isSome=true)(ha:findIn K (.ref D) name=some (some a))(hg:specialIn K a "__get__"=some (some g))(ht:takesIn K a=some true):findObj K D od name=some (.bind g a):=by obtain⟨cd,hc⟩:=G9.mp hc;unfold findObj;rw[hc,Qg,ha,Qg];simp[hg,ht]
theorem JeY(hga:findIn K (.ref D) "__getattribute__"=some (some (.builtin "BaseException.__getattribute__")))(hgn:findIn K (.ref D) "__getattr__"=some none)(hmB:mroIn K D (.type "BaseException")=some true)(hdct:hasDictIn K D=true)(ha:findIn K (.ref D) "__class__"=some (some (.builtin "object.__class__")))
 (hn:specialIn K (.builtin "object.__class__") "__get__"=some (some (.builtin "getset_descriptor.__get__"))) (htk:takesIn K (.builtin "object.__class__")=some true) (hm:mroIn K D (.type "object")=some true) :
 PySem.W.KitX K (.ref x) (.ref D) (fun h=>InstAt h x ox D od) where
 ty:=fun _ _ _ I=>I.type
 it:=fun _ _ X _=>by
  obtain⟨cdD,hcD,_⟩:=any_some hdct;unfold clsIn at hcD;split at hcD
  ·rename_i c' d' cd' sl' ho;intro A' Q' E' s' k q;unfold isType loadHead;exact Qe (Ls (k _ _ (X _ _ ho)) (QE q))
  ·cases hcD
 ne:=fun h tp dd its n sl X htp=>by
  obtain⟨cdD,hcD,_⟩:=any_some hdct;refine Bool.eq_false_iff.mpr fun q=>?_
  have e:D=tp:=Value.ref.inj (beq_iff_eq.mp q);subst e;unfold clsIn at hcD;split at hcD
  ·rename_i c' d' cd' sl' ho;have z:=(X _ _ ho).symm.trans htp;cases z
  ·cases hcD
 ca:=fun {_ _ _ _ _ s} X I k=>by have hf:findObj K D od "__class__"=some (.bind (.builtin "getset_descriptor.__get__") (.builtin "object.__class__")):=Zv (by obtain⟨cd,hc,_⟩:=any_some hdct;rw[hc];rfl) ha hn htk;exact Jdw X I hga hgn hmB hf hm k
end
section
variable{X:Cx}
inductive TyX (K:Qn) (H:Hp):V->Qa->Prop where
 | of {x:V} {t:Qa} (h:TyS K H x t):TyX K H x t
 | exc {a c:Qc} {v:Qa} {n:Str} (h:H a=some (XO a v)) (hv:WH v=.ref c) (hd:XdO v H) (e:nsIn K mainGlobals n=some (some (.ref c))) (N:ExcN K n) (G:ExcG K):TyX K H (.ref a) (.ref c)
theorem JiI{pins:List (Qc×Obj)}{σ:St}{H:Hp}{s:Qd}{a c:Qc}{v:Qa}(I:Inv X pins σ H s)(z:H a=some (XO a v))(hv:WH v=.ref c)(hd:XdO v H):∃o od,InstAt s.heap a o c od:=by
 obtain⟨⟨o,h1,h2,h3,h4⟩,_⟩:=(show ObjOk X.prog X.w H s.heap a (XO a v) from I.hok a _ z)
 unfold XdO at hd
 cases q:JaO v with
 | none=>rw[q] at h4;exact⟨o,none,h1,h2.trans hv,h3,by rw[h4];trivial⟩
 | some t =>
  rw[q] at h4 hd;obtain⟨fs,hd⟩:=hd;obtain⟨_,⟨od,_,_,e,_⟩,_⟩:=(show ObjOk X.prog X.w H s.heap t (.xd fs) from I.hok t _ hd)
  exact⟨o,some od,h1,h2.trans hv,h3,by rw[h4];exact e⟩
theorem JbS{pins:List (Qc×Obj)}{σ:St}{H:Hp}{s:Qd}{A:Qu}{E:Qa->Qd->Prop}{Q:Qa->Qd->Prop}{c:Qa}{b:Bool}{x:V}{u t:Qa}(I:Inv X pins σ H s)(rx:RelV x u)(ty:TyX X.K H x t)(e:kitOne X.K t c=some b)(h:∀tk,Q (.bool b) { s with toks:=tk }) :
 wpAny (model X.prog X.w) A (call (.builtin "isinstance") [u,c]) Q E s:=by
 cases ty with
 | of z=>exact WX I rx z e h
 | @exc a c' v n z hv hd e' N G=>cases (show u=Value.ref a from rx);obtain⟨o,od,J⟩:=JiI I z hv hd;obtain⟨q1,q2,q3,p2,p3,p4⟩:=N.pl c' e';exact kia_one (JeY q1 q2 q3 p2 p3 G.hn G.htk p4) I.kIn J e (fun z=>nomatch z) h
noncomputable def Jhh(K:Qn):List V->Hp->VK->Prop:=fun vs H Q=>∃x c t tc b,vs=[x,c]/\TyX K H x t/\(∀u,RelV c u->u=tc)/\kitOne K t tc=some b/\Q (.bl b) H
theorem Jeq:CallR X (.builtin "isinstance") (Jhh X.K):=by intro pins s σ H xs us Q I r h;obtain⟨x,c,t,tc,b,rfl,ty,hc,e,q⟩:=h;obtain⟨u,w',rfl,r1,r2⟩:=Jdg r;cases hc w' r2;exact JbS I r1 ty e fun tk=>⟨.bl b,H,I.tok tk,rfl,q⟩
end
end L2

namespace LE
open PySem L2 LR
noncomputable abbrev Xv:=En->Option Xm
section
variable(K:Qn)(C:Qc)
noncomputable def spR(n:Nat)(ex:List Sl->Option Xm):Sp:=fun vs H Q W=>∃H0 as m,Same H0 H/\RRL K C H H0 H vs as/\as.all (fun s=>!JK s)=true/\as.length=n/\ex as=some m ∧
 ∀c a H0' H',XC K m c H0'->Step H H0 H H0' H'->W c (some a) H'
noncomputable def spX(n:Nat)(f:List Sl->Option Sl)(ex:List Sl->Option Xm):Sp:=fun vs H Q W=>spE K C n f vs H Q W\/spR K C n ex vs H Q W
noncomputable def SXE(W:XK)(te:TE)(ex:Xv):Prop:=∀(B H0 H:Hp) (σ:St) (E:En) (m:Xm) (Q:VK),EnvR K C B H0 H σ E->ex E=some m ->
 (∀c a H0' H',XC K m c H0'->Step H H0 H H0' H'->W c (some a) H')->te σ H Q
noncomputable def SXS(W:XK)(ts:TS)(ex:Xv):Prop:=∀(B H0 H:Hp) (σ:St) (E:En) (m:Xm) (D:Ends),EnvR K C B H0 H σ E->ex E=some m ->
 (∀c a H0' H',XC K m c H0'->SStep B H0 H0' H'->W c (some a) H')->ts D σ H
noncomputable def SXT(T:(St->XK)->TS)(ex:Xv):Prop:=∀(B H0 H:Hp) (σ:St) (E:En) (m:Xm) (D:Ends) (W:St->XK),EnvR K C B H0 H σ E->ex E=some m ->
 (∀c a H0' H',XC K m c H0'->Step H H0 H H0' H'->W σ c (some a) H')->T W D σ H
end
theorem Jdc{K:Qn}{C:Qc}{n:Nat}{f:List Sl->Option Sl}{ex:List Sl->Option Xm}{vs:List V}{H:Hp}{Q:VK}{W:XK}(h:spX K C n f ex vs H Q W):vs.length=n:=by
 rcases h with ⟨_,as,_,_,r,_,hl,_⟩|⟨_,as,_,_,r,_,hl,_⟩
 ·rw[r.len,hl]
 ·rw[r.len,hl]
noncomputable def Zu:Xv:=fun _=>none
noncomputable def Y6(a:Es)(ea eb:Xv):Xv:=fun E=>match ea E with
 | some m=>some m
 | none=>match a E with
  | some (.nx E')=>eb E'
  | _=>none
noncomputable def U5(c:En->Option Bool)(a b:Xv):Xv:=fun E=>(c E).bind fun k=>if k=true then a E else b E
noncomputable def exU(n:Nat)(ex:List Sl->Option Xm)(as:En->Option (List Sl)):Xv:=fun E=>(as E).bind fun ss=>(UY ss).bind fun bs=>if bs.length=n then ex bs else none
noncomputable def Uq(m:Str)(as:En->Option (List Sl)):Xv:=fun E=>(as E).bind fun ss=>if ss.length<=1000 then some (m:Xm) else none
noncomputable def Vz(N:Nat)(b:Xv):List Sl->Option Xm:=fun as=>b (as++Qi (N-as.length) .no)
section
variable{K:Qn}{C:Qc}{W:XK}{t:TA}{ev:En->Option (List Sl)}{te:TE}{ts us:TS}{et eu:Es}{xt xu:Xv}{ex:Xv}
theorem VP{n:Nat}{f:List Sl->Option Sl}{x:List Sl->Option Xm}{W:XK}(ha:SA K C t ev):SE K C (VU (spX K C n f x) [] W t) (eU n f ev):=by
 intro B H0 H σ E c Q I e q;obtain⟨ss,e1,e⟩:=bind_some e;obtain⟨bs,e2,e⟩:=bind_some e;split at e
 ·next hl=>refine VN (ha B H0 H σ E ss _ I e1 fun vs H1 H1' s1 r1=>?_);obtain⟨h1,h2⟩:=r1.pass s1.i e2;have f:=JT (Hs:=H) s1.i;exact .inl ⟨_,bs,c,f.i,h1,h2,hl,e,fun v H2 H2' s2 r2=>q v H2 H2' ((s1.comp f fun _ z=>z).comp s2 fun a z=>Same.free s1.h z) (r2.weak fun a z=>Same.free s1.h z)⟩
 ·cases e
theorem Jdj{n:Nat}{f:List Sl->Option Sl}{x:List Sl->Option Xm}(ha:SA K C t ev):SXE K C W (VU (spX K C n f x) [] W t) (exU n x ev):=by
 intro B H0 H σ E m Q I e q;obtain⟨ss,e1,e⟩:=bind_some e;obtain⟨bs,e2,e⟩:=bind_some e;split at e
 ·next hl=>refine VN (ha B H0 H σ E ss _ I e1 fun vs H1 H1' s1 r1=>?_);obtain⟨h1,h2⟩:=r1.pass s1.i e2;have f:=JT (Hs:=H) s1.i;exact .inr ⟨_,bs,m,f.i,h1,h2,hl,e,fun c a H2 H2' hc s2=>q c a H2 H2' hc ((s1.comp f fun _ z=>z).comp s2 fun a z=>Same.free s1.h z)⟩
 ·cases e
theorem Wi:SXS K C W ts Zu:=fun _ _ _ _ _ _ _ _ e _=>by cases e
theorem Wb(h1:SS K C ts et)(x1:SXS K C W ts xt)(x2:SXS K C W us xu):SXS K C W (Jd8 ts us) (Y6 et xt xu):=by
 intro B H0 H σ E m D I e q;unfold Y6 at e;split at e
 ·next m' hm=>cases e;exact x1 B H0 H σ E m _ I hm q
 ·split at e
  ·next E' hE=>refine h1 B H0 H σ E _ _ I hE ?_;exact fun σ' H1 H1' s1 I1=>x2 B H1 H1' σ' E' m D I1 e fun c a H2 H2' hc s2=>q c a H2 H2' hc (s1.trans s2)
  ·cases e
theorem JbF{c:TT}{ec:En->Option Bool}(hc:ST K C c ec)(x1:SXS K C W ts xt)(x2:SXS K C W us xu):SXS K C W (Jd7 c ts us) (U5 ec xt xu):=by
 intro B H0 H σ E m D I e q;obtain⟨k,e1,e⟩:=bind_some e;refine hc B H0 H σ E k _ I e1 fun H1 H1' s1=>?_
 have s1':=s1.ss I.b
 cases k with
 | true=>rw[if_pos rfl] at e ⊢;exact x1 B H1 H1' σ E m D (I.step s1) e fun c a H2 H2' hc s2=>q c a H2 H2' hc (s1'.trans s2)
 | false=>rw[if_neg (by decide)] at e ⊢;exact x2 B H1 H1' σ E m D (I.step s1) e fun c a H2 H2' hc s2=>q c a H2 H2' hc (s1'.trans s2)
theorem Jh2(h:SXE K C W te ex):SXS K C W (Jbu te) ex:=fun B H0 H σ E m D I e q=>h B H0 H σ E m _ I e fun c a H1 H1' hc s1=>q c a H1 H1' hc (s1.ss I.b)
theorem Jkx(h:SXE K C W te ex):SXS K C W (JfU te) ex:=fun B H0 H σ E m D I e q=>h B H0 H σ E m _ I e fun c a H1 H1' hc s1=>q c a H1 H1' hc (s1.ss I.b)
theorem VV{m:Str}{c:Qc}(hc:nsIn K mainGlobals m=some (some (.ref c)))(ha:SA K C t ev):SXS K C W (Jcf c W t) (Uq m ev):=by
 intro B H0 H σ E m' D I e q;obtain⟨ss,e1,e⟩:=bind_some e;split at e
 ·next hl =>
  cases e;refine ha B H0 H σ E ss _ I e1 fun vs H1 H1' s1 r1=>⟨?_,fun a=>q (.ref c) a H1 H1' ⟨c,hc,rfl⟩ (s1.ss I.b)⟩
  rw[r1.len];exact QQ hl (by decide)
 ·cases e
theorem Jdi{T:XK->TE}{ex:Xv}(h:∀W,SXE K C W (T W) ex):SXT K C (Jcg T) ex:=fun B H0 H σ E m D W I e q=>h (W σ) B H0 H σ E m _ I e q
end
section
variable{K:Qn}{C:Qc}{B H0 H:Hp}{σ:St}{E:En}
theorem ZK{N:List Str}{vs:List V}{as:List Sl}(i:Same H0 H)(ra:RRL K C H H0 H vs as)(ho:as.all (fun s=>!JK s)=true):EnvR K C H H0 H (L2.Yp N vs) (as++Qi (N.length-as.length) .no):=by
 have lens:=ra.len
 have noOwn:∀(j:Nat) (s:Sl),as[j]?=some s->JK s=false:=fun j s e=>by
  have:=Gr.mp ho s (QY e)
  simpa using this
 have get:∀(j:Nat) (s:Sl),(as++Qi (N.length-as.length) Sl.no)[j]?=some s->s=.no\/as[j]?=some s:=fun j s e=>by
  by_cases hj:j<as.length
  ·rw[Qx hj] at e;exact .inr e
  ·rw[QG (by omega),Gi] at e;split at e
   ·cases e;exact .inl rfl
   ·cases e
 refine⟨Same.refl _,i,by simp[L2.Yp,lens],fun j s e=>?_,fun j k s1 s2 v hjk e1 e2 w1 w2=>?_⟩
 ·rcases get j s e with z|z
  ·exact .inl z
  ·obtain⟨v,h1,h2⟩:=ra.get z;refine .inr ⟨v,?_,?_⟩
   ·unfold L2.Yp;rw[Qx (by have:=(Qh.mp h1).1;simpa using this),Qw,h1];rfl
   ·cases s with
    | no=>trivial
    | sh d=>exact h2
    | bo ds=>exact h2
    | own ds=>exact absurd (noOwn j _ z) (by simp[JK])
    | bd ks ds=>exact h2
    | bt ks ds=>exact h2
    | od ks ds=>exact absurd (noOwn j _ z) (by simp[JK])
    | ot ks ds=>exact absurd (noOwn j _ z) (by simp[JK])
 ·rcases get j _ e1 with z|z
  ·subst z;cases w1
  ·rw[noOwn j _ z] at w1;cases w1
theorem JaT{N:List Str}{n:Nat}{b:Es}{x:Xv}{ts:TS}{vs:List V}{Q:VK}{W:XK}(hb:SS K C ts b)(hx:SXS K C W ts x)(h:spX K C n (YV N.length b) (Vz N.length x) vs H Q W):ts { nx:=fun _ H'=>Q .non H',rt:=Q } (L2.Yp N vs) H:=by
 rcases h with h|⟨H0,as,m,i,ra,ho,hl,e,q⟩
 ·exact Jad hb h
 ·exact hx H H0 H _ _ m _ (ZK i ra ho) e fun c a H1 H1' hc s1=>q c a H1 H1' hc ⟨s1.b,s1.z,s1.n,s1.i⟩
theorem EnvR.del(I:EnvR K C B H0 H σ E)(i:Nat):EnvR K C B H0 H (σ.set i none) (E.set i .no):=by
 refine⟨I.b,I.h,by simp[I.len],fun j s e=>?_,fun j k s1 s2 v hjk e1 e2 o1 o2 e3 e4=>?_⟩
 ·rw[QJ] at e
  by_cases hj:i=j
  ·rw[if_pos hj] at e;split at e
   ·cases e;exact .inl rfl
   ·cases e
  ·rw[if_neg hj] at e;rcases I.at' j s e with z|⟨v,h1,h2⟩
   ·exact .inl z
   ·exact .inr ⟨v,by rw[QJ,if_neg hj];exact h1,h2⟩
 ·have ne:∀(j:Nat) (s:Sl),(E.set i Sl.no)[j]?=some s->JK s=true->i≠j/\E[j]?=some s:=fun j s e o=>by
   rw[QJ] at e
   by_cases hj:i=j
   ·rw[if_pos hj] at e;split at e
    ·cases e;cases o
    ·cases e
   ·rw[if_neg hj] at e;exact⟨hj,e⟩
  obtain⟨n1,f1⟩:=ne j s1 e1 o1;obtain⟨n2,f2⟩:=ne k s2 e2 o2;rw[QJ,if_neg n1] at e3;rw[QJ,if_neg n2] at e4;exact I.sep j k s1 s2 v hjk f1 f2 o1 o2 e3 e4
end
noncomputable def Jjs(i:Nat):Out->Out
 | .nx E=>.nx (E.set i .no)
 | .rt r=>.rt r
 | .bk E=>.bk (E.set i .no)
 | .ct E=>.ct (E.set i .no)
noncomputable def Jcl(R:List Str)(i:Nat)(b:Es)(x:Xv)(h:Es):Es:=fun E=>match b E with
 | some o=>some o
 | none=>(x E).bind fun m=>if m.n∈R/\i<E.length then(h (E.set i (.sh (.exc m)))).map (Jjs i) else none
section
variable{K:Qn}{C:Qc}
theorem Jlp{R:List Str}{CL:Qc}{i:Nat}{T:(St->XK)->TS}{th:TS}{b h:Es}{x:Xv}(hm:∀m∈R,∀c,nsIn K mainGlobals m=some (some (.ref c))->exmOne K (.ref c) (.ref CL)=some true)
 (hb:∀W,SS K C (T W) b) (hx:SXT K C T x) (hh:SS K C th h):SS K C (Jkk K CL i T th) (Jcl R i b x h):=by
 intro B H0 H σ E o D I e fin;unfold Jcl at e;split at e
 ·next o' hE=>cases e;exact hb _ B H0 H σ E o D I hE fin
 ·obtain⟨m,e1,e⟩:=bind_some e;split at e
  ·next hR =>
   obtain⟨o',e2,rfl⟩:=map_some e;refine hx B H0 H σ E m D _ I e1 fun c a H1 H1' hc s1=>⟨a,rfl,(by obtain⟨c',k1,k2⟩:=hc.cls;rw[k2];exact hm m.n hR.1 c' k1),fun ha=>?_⟩
   have ha0:H1 a=none:=by
    cases z:H1 a with
    | none=>rfl
    | some u=>rw[s1.i a u z] at ha;cases ha
   have I1:=I.step s1
   have st:Step H1' H1 H1' (upd H1 a (XO a c)) (upd H1' a (XO a c)):=by
    refine⟨fun b u z=>?_,fun b u z=>?_,fun b u z=>?_,fun b u z=>?_⟩
    ·rw[Jl (Jt z ha)];exact z
    ·rw[Jl (Jt z ha0)];exact z
    ·by_cases hb:b=a
     ·subst hb;exact .inr (.inl ha)
     ·rw[Jl hb] at z;exact .inl z
    ·by_cases hb:b=a
     ·subst hb;rw[Jx] at z ⊢;exact z
     ·rw[Jl hb] at z ⊢;exact s1.i b u z
   have I2:EnvR K C B (upd H1 a (XO a c)) (upd H1' a (XO a c)) (σ.set i (some (.ref a))) (E.set i (.sh (.exc m))) :=
    I1.put' st hR.2 (show RR K C H1' _ _ (.ref a) (.sh (.exc m)) from RD.exc Jx (hc.mono fun b u z=>by rw[Jl (Jt z ha0)];exact z)) rfl
   have ss:SStep B H0 (upd H1 a (XO a c)) (upd H1' a (XO a c)):=(s1.ss I.b).trans (st.ss I1.b);refine hh B _ _ _ _ o' _ I2 e2 ?_
   cases o' with
   | nx E2=>exact fun σ' H2 H2' s2 I3=>fin _ H2 H2' (ss.trans s2) (I3.del i)
   | bk E2=>exact fun σ' H2 H2' s2 I3=>fin _ H2 H2' (ss.trans s2) (I3.del i)
   | ct E2=>exact fun σ' H2 H2' s2 I3=>fin _ H2 H2' (ss.trans s2) (I3.del i)
   | rt r=>exact fun v H2 H2' s2 r2=>fin v H2 H2' (ss.trans s2) r2
  ·cases e
end
noncomputable def exB(n m:Str):Bool:=n == m || m == "LumpError"
noncomputable def Jlz(R:List Str)(m:Str):D->Option Bool
 | .exc n=>if n.n∈R then some (exB n.n m) else none
 | .non=>some false
 | _=>none
noncomputable def Wk(R:List Str)(m:Str)(a:Ev):Ev:=fun E=>(a E).bind fun s=>s.d.bind fun d=>(Jlz R m d).map fun b=>.sh (.bl b)
noncomputable def JkI(R:List Str)(a:Ev):Ev:=fun E=>(a E).bind fun s=>s.d.bind fun d=>(match d with|.exc n=>if n.n∈R then some true else none|.non=>some false|_=>none).map fun b=>.sh (.bl b)
section
variable{K:Qn}{C:Qc}{te:TE}{ea:Ev}
structure IsiN (K:Qn) (R:List Str) (m:Str) (c:Qc):Prop where
 own:∀n∈R,ExcN K n
 g:ExcG K
 k:∀n∈R,∀c',nsIn K mainGlobals n=some (some (.ref c'))->kitOne K (.ref c') (.ref c)=some (exB n m)
 o:kitOne K (.type "NoneType") (.ref c)=some false
theorem UN{R:List Str}{m:Str}{c:Qc}(N:IsiN K R m c)(ha:SE K C te ea):SE K C (tCB (Jhh K) (Y0 te (Y0 (tC (.ref c)) ZC))) (Wk R m ea):=by
 intro B H0 H σ E r Q I e q;obtain⟨a,e1,e⟩:=bind_some e;obtain⟨d,e2,e⟩:=bind_some e;obtain⟨b,e3,rfl⟩:=map_some e;refine ha B H0 H σ E a _ I e1 fun x H1 H1' s1 r1=>?_
 have rd:=r1.dat s1.i e2
 cases d with
 | exc n =>
  have e3:(if n.n∈R then some (exB n.n m) else none)=some b:=e3;split at e3
  ·next hn=>cases e3;obtain⟨a',c',rfl,hx,hc⟩:=RD.excI rd;obtain⟨c1,k1,k2⟩:=hc.cls;exact⟨_,_,_,_,_,rfl,.exc hx k2 hc.xd k1 (N.own n.n hn) N.g,fun u z=>z,N.k n.n hn c1 k1,q _ _ _ s1 (RD.bl _)⟩
  ·cases e3
 | non=>cases e3;cases RD.nonI rd;exact⟨_,_,_,_,_,rfl,.of (.of .non),fun u z=>z,N.o,q _ _ _ s1 (RD.bl _)⟩
 | _=>cases e3
end
end LE
namespace L2
open PySem PySem.Spec PyProof.Rows PySem.Calls LE
section
variable{X:Cx}
end
end L2
namespace LE
open PySem L2 LR
noncomputable def IsiL(K:Qn)(R:List Str):List Str->List Qc->Prop
 | [],[]=>True
 | m::ms,c::cs=>IsiN K R m c/\IsiL K R ms cs
 | _,_=>False
theorem IsiL.exc{K:Qn}{R:List Str}{n:Str}{c':Qc}(hn:n∈R)(hc:nsIn K mainGlobals n=some (some (.ref c'))):∀{ms:List Str} {cs:List Qc},IsiL K R ms cs->kitAny K (.ref c') (cs.map Value.ref)=some (ms.any (exB n))
 | [],[],_=>rfl
 | m::ms,c::cs,⟨h,t⟩=>by show(match kitOne K (.ref c') (.ref c) with|some true=>some true|some false=>kitAny K (.ref c') (cs.map Value.ref)|none=>none)=_;rw[h.k n hn c' hc,t.exc hn hc,KA];cases exB n m <;> rfl
theorem IsiL.non{K:Qn}{R:List Str}:∀{ms:List Str} {cs:List Qc},IsiL K R ms cs->kitAny K (.type "NoneType") (cs.map Value.ref)=some false
 | [],[],_=>rfl
 | m::ms,c::cs,⟨h,t⟩=>by show(match kitOne K (.type "NoneType") (.ref c) with | some true=>some true | some false=>kitAny K (.type "NoneType") (cs.map Value.ref) | none=>none)=_;rw[h.o,t.non]
section
variable{K:Qn}{C:Qc}{te:TE}{ea:Ev}
structure IsiV (K:Qn) (R:List Str):Prop where
 own:∀n∈R,ExcN K n
 g:ExcG K
 k:∀n∈R,∀c',nsIn K mainGlobals n=some (some (.ref c'))->kitOne K (.ref c') (.type "ValueError")=some true
theorem JkS{K:Qn}:kitOne K (.type "NoneType") (.type "ValueError")=some false:=by kernel_rfl
theorem Jll{R:List Str}(N:IsiV K R)(ha:SE K C te ea):SE K C (tCB (Jhh K) (Y0 te (Y0 (tC (.ty "ValueError")) ZC))) (JkI R ea):=by
 intro B H0 H σ E r Q I e q;obtain⟨a,e1,e⟩:=bind_some e;obtain⟨d,e2,e⟩:=bind_some e;obtain⟨b,e3,rfl⟩:=map_some e;refine ha B H0 H σ E a _ I e1 fun x H1 H1' s1 r1=>?_
 have rd:=r1.dat s1.i e2
 cases d with
 | exc n =>
  have e3:(if n.n∈R then some true else none)=some b:=e3;split at e3
  ·next hn=>cases e3;obtain⟨a',c',rfl,hx,hc⟩:=RD.excI rd;obtain⟨c1,k1,k2⟩:=hc.cls;exact⟨_,_,_,_,_,rfl,.exc hx k2 hc.xd k1 (N.own n.n hn) N.g,fun u z=>z,N.k n.n hn c1 k1,q _ _ _ s1 (RD.bl _)⟩
  ·cases e3
 | non=>cases e3;cases RD.nonI rd;exact⟨_,_,_,_,_,rfl,.of (.of .non),fun u z=>z,JkS,q _ _ _ s1 (RD.bl _)⟩
 | _=>cases e3
end
end LE

namespace L2
open PySem PySem.Spec PyProof.Rows PySem.Calls LE
theorem Zr:bootBuiltins "ValueError"=some (.type "ValueError"):=by decide +kernel
section
variable{X:Cx}{K:Qn}
theorem J0(h:X.K=K):CallR X (.builtin "isinstance") (Jhh K):=by subst h;exact Jeq
theorem Jhg{body suite:List Ga}{b₀:Ga}{i:Nat}{n cn:Str}{np hpos pos:Pos}{CL:Qc}{T:(St->XK)->TS}{th:TS}(h:X.K=K)(hs:X.stack=X.env::X.outer)(hf:X.env.frame=some X.env.locals)(hx:X.ex=[])(hN:X.N.Nodup)(hi:X.N[i]?=some n)(hk:X.env.kindOf n=some .local)(hg:Gl X cn)(hm:X.mg cn=some (.ref CL))
 (hb:Jej X body T) (hh:∀a,PSs (X.hand a) (b₀::suite) th) (hdb:(cn == ("__debug__":Str))=false:=by decide) :
 PS X (.Try body [.ExceptHandler (some (.Name cn np)) (some n) (b₀::suite) hpos] [] [] pos) (Jkk K CL i T th):=by subst h;exact JjF hs hf hx hN hi hk hg hm hb hh hdb
theorem U2{x:Str}{np cpos pos:Pos}{C:Qc}{E:XK}{e:QO}{es:List QO}{t:TA}(h:X.K=K)(ok:excIn K C VEm "ValueError.__new__"=true)(hg:Gl X x)(hm:X.mg x=some (.ref C))(hc:X.calm=true)(hx:XOk X E)(ha:PA X (e::es) t)(hdb:(x == ("__debug__":Str))=false:=by decide)
 (he:starEach (e::es) X.env=(false,eval e X.env)::starEach es X.env:=by rfl) (hpl:(backTo cpos (starEach es X.env)).any (·.1)=false:=by rfl) :
 PS X (.Raise (some (.Call (.Name x np) (e::es) [] cpos)) none pos) (Jcf C E t):=by subst h;exact Jfo ok hg hm hc hx ha hdb he hpl
end
end L2
namespace LE
open PySem L2 LR
section
variable{K:Qn}{C:Qc}{ts:TS}
theorem YC:SS K C ts YK:=fun _ _ _ _ _ _ _ _ e _=>by cases e
theorem JbE{T:XK->TE}{ea:Ev}(h:∀W,SE K C (T W) ea)(W:St->XK):SS K C (Jcg T W) (Zo ea):=Jku (te:=fun σ H Q=>T (W σ) σ H Q) fun B H0 H σ E r Q I e q=>h (W σ) B H0 H σ E r Q I e q
structure AtY (K:Qn) (n:Str) (c:Qc):Prop where
 ns:nsIn K mainGlobals n=some (some (.ref c))
 ga:findIn K (.ref c) "__getattribute__"=some (some (.builtin "BaseException.__getattribute__"))
 gn:findIn K (.ref c) "__getattr__"=some none
 mb:mroIn K c (.type "BaseException")=some true
 hd:hasDictIn K c=true
 fi:findIn K (.ref c) "__class__"=some (some (.builtin "object.__class__"))
 mr:mroIn K c (.type "object")=some true
structure AtX (K:Qn) (n:Str) (c:Qc):Prop extends AtY K n c where
 ok:excIn K c VEm "ValueError.__new__"=true
theorem AtY.n{n:Str}{c:Qc}(h:AtY K n c):ExcN K n:=⟨fun c' e=>by have:=h.ns.symm.trans e;cases this;exact⟨h.ga,h.gn,h.mb,h.hd,h.fi,h.mr⟩⟩
noncomputable def OwnL(K:Qn):List Str->List Qc->Prop
 | [],[]=>True
 | n::ns,c::cs=>AtY K n c/\OwnL K ns cs
 | _,_=>False
theorem Jg5:OwnL K [] []:=trivial
theorem W5{ns:List Str}{cs:List Qc}{n:Str}{c:Qc}(h:AtY K n c)(t:OwnL K ns cs):OwnL K (n::ns) (c::cs):=⟨h,t⟩
theorem OwnL.all:∀{ns:List Str} {cs:List Qc},OwnL K ns cs->∀n∈ns,ExcN K n
 | [],[],_,n,h=>nomatch h
 | m::ns,c::cs,⟨h,t⟩,n,hn=>by
  rcases Qq.mp hn with e|e
  ·rw[e];exact h.n
  ·exact t.all n e
noncomputable def ExmL(K:Qn)(CL:Qc):List Qc->Prop
 | []=>True
 | c::cs=>exmOne K (.ref c) (.ref CL)=some true/\ExmL K CL cs
theorem Jgn{CL:Qc}:ExmL K CL []:=trivial
theorem WO{CL c:Qc}{cs:List Qc}(h:exmOne K (.ref c) (.ref CL)=some true)(t:ExmL K CL cs):ExmL K CL (c::cs):=⟨h,t⟩
theorem ExmL.all{CL:Qc}:∀{ns:List Str} {cs:List Qc},OwnL K ns cs->ExmL K CL cs->∀m∈ns,∀c,nsIn K mainGlobals m=some (some (.ref c))->exmOne K (.ref c) (.ref CL)=some true
 | [],[],_,_,n,h=>nomatch h
 | m::ns,c::cs,⟨h,t⟩,⟨h',t'⟩,n,hn=>fun c' e=>by
  rcases Qq.mp hn with z|z
  ·rw[z,h.ns] at e;cases e;exact h'
  ·exact t'.all t n z c' e
noncomputable def KitL(K:Qn)(m:Str)(c:Qc):List Str->List Qc->Prop
 | [],[]=>True
 | n::ns,d::ds=>kitOne K (.ref d) (.ref c)=some (exB n m)/\KitL K m c ns ds
 | _,_=>False
theorem YS{m:Str}{c:Qc}:KitL K m c [] []:=trivial
theorem Jz{m n:Str}{c d:Qc}{ns:List Str}{ds:List Qc}{b:Bool}(h:kitOne K (.ref d) (.ref c)=some b)(e:exB n m=b)(t:KitL K m c ns ds):KitL K m c (n::ns) (d::ds):=⟨by rw[e];exact h,t⟩
theorem KitL.all{m:Str}{c:Qc}:∀{ns:List Str} {cs:List Qc},OwnL K ns cs->KitL K m c ns cs->∀n∈ns,∀c',nsIn K mainGlobals n=some (some (.ref c'))->kitOne K (.ref c') (.ref c)=some (exB n m)
 | [],[],_,_,n,h=>nomatch h
 | m::ns,c::cs,⟨h,t⟩,⟨h',t'⟩,n,hn=>fun c' e=>by
  rcases Qq.mp hn with z|z
  ·rw[z] at e ⊢;rw[h.ns] at e;cases e;exact h'
  ·exact t'.all t n z c' e
theorem YR{m:Str}{c:Qc}{ns:List Str}{cs:List Qc}(o:OwnL K ns cs)(g:ExcG K)(k:KitL K m c ns cs)(z:kitOne K (.type "NoneType") (.ref c)=some false):IsiN K ns m c:=⟨o.all,g,k.all o,z⟩
noncomputable def KivL(K:Qn):List Qc->Prop
 | []=>True
 | c::cs=>kitOne K (.ref c) (.type "ValueError")=some true/\KivL K cs
theorem JgN:KivL K []:=trivial
theorem W0{c:Qc}{cs:List Qc}(h:kitOne K (.ref c) (.type "ValueError")=some true)(t:KivL K cs):KivL K (c::cs):=⟨h,t⟩
theorem KivL.all:∀{ns:List Str} {cs:List Qc},OwnL K ns cs->KivL K cs->∀n∈ns,∀c',nsIn K mainGlobals n=some (some (.ref c'))->kitOne K (.ref c') (.type "ValueError")=some true
 | [],[],_,_,n,h=>nomatch h
 | m::ns,c::cs,⟨h,t⟩,⟨h',t'⟩,n,hn=>fun c' e=>by
  rcases Qq.mp hn with z|z
  ·rw[z,h.ns] at e;cases e;exact h'
  ·exact t'.all t n z c' e
theorem JgI{ns:List Str}{cs:List Qc}(o:OwnL K ns cs)(g:ExcG K)(k:KivL K cs):IsiV K ns:=⟨o.all,g,k.all o⟩
end
section
variable(K:Qn)(C:Qc)
end
section
variable{K:Qn}{C:Qc}{W:XK}{ta te:TE}{t tr:TA}{ea:Ev}{xa xr ex:Xv}{wi:TI}
end
end LE

namespace LE
open PySem L2 LR
noncomputable def YE(p:Pt)(b:Es)(x:Xv):List D->Xv
 | []=>fun _=>none
 | d::ds=>fun E=>(p.bind d E).bind fun E1=>match x E1 with
  | some m=>some m
  | none=>match b E1 with
   | some (.nx E2)=>YE p b x ds E2
   | some (.ct E2)=>YE p b x ds E2
   | _=>none
noncomputable def WM(it:En->Option (List D))(p:Pt)(b:Es)(x:Xv):Xv:=fun E=>(it E).bind fun ds=>YE p b x ds E
section
variable{K:Qn}{C:Qc}{W:XK}{t:TS}{et:Es}{xt:Xv}
theorem Jdk{wi:TI}{g:TG}{it:En->Option (List LE.D)}{p:Pt}(hi:SI K C false wi it)(hg:SG K C g p)(ht:SS K C t et)(hx:SXS K C W t xt):SXS K C W (JhS wi g t) (WM it p et xt):=by
 intro B H0 H σ E m D I e f;obtain⟨ds,e1,e⟩:=bind_some e;refine hi B H0 H σ E ds _ I e1 fun J H1 H1' s1 ok=>?_
 rw[if_neg (by simp)] at ok;refine⟨fun i k σ' H'=>k=ds.length-i/\i<=ds.length/\∃H0' E',EnvR K C B H0' H' σ' E'/\SStep B H1 H0' H'/\YE p et xt (ds.drop i) E'=some m,
  ⟨ds.length,by simp,Kj _,H1,E,I.step s1,.refl (I.b.trans s1.h) s1.i,e⟩,?_⟩
 rintro i k σ' H' ⟨rfl,hi',H0',E',I',st,er⟩;have stop:=ok H0' H' st
 by_cases hlt:i<ds.length
 ·have hd:ds[i]?=some ds[i]:=by simp[hlt]
  obtain⟨go,yl⟩:=stop.1 i _ hd;refine .inr ⟨go,fun σ2 H2=>∃H02 E2,EnvR K C B H02 H2 σ2 E2/\SStep B H1 H02 H2/\YE p et xt (ds.drop (i+1)) E2=some m,fun σ2 H2 h=>⟨ds.length-(i+1),by omega,rfl,hlt,h⟩,fun x H2 y=>?_⟩;obtain⟨H02,st2,rx⟩:=yl x H2 y;rw[G4 hlt,YE] at er;obtain⟨E1,b1,er⟩:=bind_some er;have ss2:SStep B H0' H02 H2:=st2.ss I'.b;have all:SStep B H0 H02 H2:=((s1.ss I.b).trans st).trans ss2;refine hg B H02 H2 σ' E' E1 x _ _ (I'.step st2) rx b1 fun σ2 I2=>?_
  split at er
  ·next m' hm=>cases er;exact hx B H02 H2 σ2 E1 m _ I2 hm fun c a H3 H3' hc s3=>f c a H3 H3' hc (all.trans s3)
  ·split at er
   ·next E2 hb=>exact ht B H02 H2 σ2 E1 _ _ I2 hb fun σ3 H3 H3' s3 I3=>⟨H3,E2,I3,(st.trans ss2).trans s3,er⟩
   ·next E2 hb=>exact ht B H02 H2 σ2 E1 _ _ I2 hb fun σ3 H3 H3' s3 I3=>⟨H3,E2,I3,(st.trans ss2).trans s3,er⟩
   ·cases er
 ·have e3:i=ds.length:=by omega
  subst e3;rw[K6,YE] at er;cases er
end
end LE
namespace L2
open PySem PySem.Spec PyProof.Rows PySem.Calls LE
structure RoomH (k:Nat) (A:Qu):Prop where
 dp:A.depth+3*k+5<recursionLimit
 un:A.units+16*k+200<cLine
theorem Room.h{k:Nat}{A:Qu}(r:Room k A):RoomH k A:=⟨r.dp,r.un⟩
theorem RoomH.mono{j k:Nat}{A:Qu}(r:RoomH k A)(h:j<=k):RoomH j A:=⟨by have:=r.dp;omega,by have:=r.un;omega⟩
theorem RoomH.mark{k:Nat}{A:Qu}(r:RoomH k A)(v:Option Qa):RoomH k (A.mark v):=⟨r.dp,r.un⟩
theorem RoomH.deeper{k:Nat}{A:Qu}(r:RoomH (k+1) A)(env:Env):RoomH k (A.deeper env) :=
 ⟨by have:=r.dp;show A.depth+1+3*k+5<_;omega,by have:=r.un;show A.units+3+16*k+200<_;omega⟩
theorem RoomH.units{k:Nat}{A:Qu}(r:RoomH k A):A.units+64<cLine:=by have:=r.un;omega
structure FnH (P:Qm) (w:QB) (K:Qn) (mg:Str->Option Qa) (base:QH) (k:Nat) (f:Qc) (fd:QC) (ps:List Str) (sp:Sp):Prop where
 len:∀vs H Q E,sp vs H Q E->vs.length=ps.length
 run:∀(A:Qu) (outer:List Env) (s:Qd) (H:Hp) (args:Args) (us:List Qa) (vs:List V) (Q:VK) (E:XK),RoomH k A->Env0 P w K mg base A outer s H->BindsTo s fd args (ps.zip us)->Vals vs us->sp vs H Q E ->
  codeAny (model P w) A (.call (.ref f) args) (CR CX0 outer P w H s Q E) s
theorem FnH.ok{P:Qm}{w:QB}{K:Qn}{mg:Str->Option Qa}{base:QH}{k:Nat}{f:Qc}{fd:QC}{ps:List Str}{sp:Sp}(F:FnH P w K mg base k f fd ps sp):FnOk P w K mg base CX0 k f fd ps sp :=
 ⟨F.len,fun A outer s H args us vs Q E hr=>F.run A outer s H args us vs Q E hr.h⟩
structure CalH (P:Qm) (w:QB) (K:Qn) (mg:Str->Option Qa) (base:QH) (x:Str) (k:Nat) (ps:List Str) (sp:Sp):Prop where
 ex:∃(f:Qc) (fd:QC),FnH P w K mg base k f fd ps sp/\mg x=some (.ref f)/\keepIn K (.ref f)=true/\Binds K fd ps []
section
variable{X:Cx}{k:Nat}{ps:List Str}{sp:Sp}{x:Str}{p pos:Pos}{e:QO}{es:List QO}{t:TA}
end
end L2

namespace L2
open PySem PySem.Spec PyProof.Rows PySem.Calls LE
structure CalMX (P:Qm) (w:QB) (K:Qn) (mg:Str->Option Qa) (base:QH) (x:Str) (C:Qc) (k:Nat) (ps:List Str) (sp:Sp):Prop where
 ex:∃(f:Qc) (fd:QC),Mk K C f/\FnOk P w K mg base (CX1 P w) k f fd ps sp/\mg x=some (.ref C)/\Binds K fd ps []
section
variable{X:Cx}{k:Nat}{C:Qc}{ps:List Str}{sp:Sp}{x:Str}{p pos:Pos}{e:QO}{es:List QO}{t:TA}
theorem W8{E:XK}(c:CalMX X.prog X.w X.K X.mg X.base x C k ps sp)(hr:Room (k+1) X.A)(hg:Gl X x)(hx:Ul (CX1 X.prog X.w) X E)(ha:PA X (e::es) t)(hdb:(x == ("__debug__":Str))=false:=by decide)
 (he:starEach (e::es) X.env=(false,eval e X.env)::starEach es X.env:=by rfl) (hpl:(backTo pos (starEach es X.env)).any (·.1)=false:=by rfl):PE X (.Call (.Name x p) (e::es) [] pos) (Jbv C sp [] E t):=by
 obtain⟨f,fd,M,F,h1,h3⟩:=c.ex;exact Jha M F hr hg h1 h3 .nil hx ha hdb he hpl
end
end L2
namespace LE
open PySem L2 LR
section
variable(K:Qn)(C:Qc)
noncomputable def Jbr(n:Nat)(ex:List Sl->Option Xm):Sp:=fun vs H Q W=>∃v ws H0 as m,vs=v::ws/\Same H0 H/\RRL K C H H0 H ws as/\as.all (fun s=>!JK s)=true/\as.length=n/\ex (.no::as)=some m ∧
 ∀c a H0' H',XC K m c H0'->Step H H0 H H0' H'->W c (some a) H'
end
noncomputable def JeC(n:Nat)(ex:List Sl->Option Xm)(as:En->Option (List Sl)):Xv:=fun E=>(as E).bind fun ss=>(UY ss).bind fun bs=>if bs.length=n then ex (.no::bs) else none
section
variable{K:Qn}{C:Qc}{W:XK}{t:TA}{ev:En->Option (List Sl)}{H0 H H2:Hp}
noncomputable def Jel(ss:List Sl):Bool:=ss.all fun s=>!JK s
theorem RRL.more{vs:List V}{ss:List Sl}(st:Same H H2):Jel ss=true->RRL K C H H0 H vs ss->RRL K C H2 H0 H2 vs ss:=fun ho r=>by
 revert ho
 induction r with
 | nil=>exact fun _=>.nil
 | @cons v s vs ss h _ ih =>
  intro ho
  have hs:JK s=false/\Jel ss=true:=by unfold Jel at ho ⊢;rw[List.all_cons,QL] at ho;exact⟨by simpa using ho.1,ho.2⟩
  refine .cons ?_ (ih hs.2)
  cases s with
  | no=>exact h
  | sh d=>exact h
  | bo ds=>obtain⟨l,xs,e,g,q⟩:=h;exact⟨l,xs,e,st _ _ g,q⟩
  | bd ks ds=>obtain⟨l,xs,e,g,q⟩:=h;exact⟨l,xs,e,st _ _ g,q⟩
  | bt ks ds=>obtain⟨l,xs,e,g,q⟩:=h;exact⟨l,xs,e,st _ _ g,q⟩
  | own ds=>exact absurd hs.1 (by simp[JK])
  | od ks ds=>exact absurd hs.1 (by simp[JK])
  | ot ks ds=>exact absurd hs.1 (by simp[JK])
theorem Jf1{n:Nat}{sp:Sp}{x:List Sl->Option Xm}(hsp:∀vs H Q W,Jbr K C n x vs H Q W->sp vs H Q W)(ha:SA K C t ev):SXE K C W (Jbv C sp [] W t) (JeC n x ev):=by
 intro B H0 H σ E m Q I e q;obtain⟨ss,e1,e⟩:=bind_some e;obtain⟨bs,e2,e⟩:=bind_some e;split at e
 ·next hl =>
  refine ha B H0 H σ E ss _ I e1 fun vs H1 H1' s1 r1=>fun y dy hy hdy hne=>hsp _ _ _ _ ?_
  obtain⟨h1,h2⟩:=r1.pass s1.i e2;have f:=JT (Hs:=H) s1.i
  have sm:Same H1' (upd (upd H1' dy (.own y)) y (.ins C dy [])):=fun b u z=>by rw[Jl (Jt z hy),Jl (Jt z hdy)];exact z
  have st:Step H1' (YQ H H1 H1') H1' (YQ H H1 H1') (upd (upd H1' dy (.own y)) y (.ins C dy [])):=⟨sm,Same.refl _,fun b u z=>.inl z,f.i.trans sm⟩
  refine⟨_,vs,_,bs,m,by rw[Q4],f.i.trans sm,RRL.more sm h2 h1,h2,hl,e,fun c a H2 H2' hc s2=>q c a H2 H2' hc ?_⟩;exact((s1.comp f fun _ z=>z).comp st fun a z=>Same.free s1.h z).comp s2 fun a z=>Same.free s1.h (Same.free sm z)
 ·cases e
theorem JdA{N:List Str}{n:Nat}{x:Xv}{ts:TS}{vs:List V}{Q:VK}{D:Ends}(hx:SXS K C W ts x)(h:Jbr K C n (Vz N.length x) vs H Q W):ts D (L2.Yp N vs) H:=by
 obtain⟨v,ws,H0,as,m,rfl,i,ra,ho,hl,e,q⟩:=h;refine hx H H0 H _ _ m D ?_ e fun c a H1 H1' hc s1=>q c a H1 H1' hc ⟨s1.b,s1.z,s1.n,s1.i⟩
 have lens:=ra.len
 have noOwn:∀(j:Nat) (s:Sl),as[j]?=some s->JK s=false:=fun j s e=>by
  have:=Gr.mp ho s (QY e)
  simpa using this
 have get:∀(j:Nat) (s:Sl),((Sl.no::as)++Qi (N.length-(Sl.no::as).length) Sl.no)[j]?=some s->s=.no\/∃k,j=k+1/\as[k]?=some s:=fun j s e=>by
  cases j with
  | zero=>rw[Q1,K7] at e;cases e;exact .inl rfl
  | succ k =>
   rw[Q1,Kl] at e
   by_cases hj:k<as.length
   ·rw[Qx hj] at e;exact .inr ⟨k,rfl,e⟩
   ·rw[QG (by omega),Gi] at e;split at e
    ·cases e;exact .inl rfl
    ·cases e
 refine⟨Same.refl _,i,by simp[L2.Yp,lens],fun j s e=>?_,fun j k s1 s2 v hjk e1 e2 w1 w2=>?_⟩
 ·rcases get j s e with z|⟨k,rfl,z⟩
  ·exact .inl z
  ·obtain⟨u,h1,h2⟩:=ra.get z;refine .inr ⟨u,?_,?_⟩
   ·unfold L2.Yp;rw[Qt,Q1,Kl,Qx (by have:=(Qh.mp h1).1;simpa using this),Qw,h1];rfl
   ·cases s with
    | no=>trivial
    | sh d=>exact h2
    | bo ds=>exact h2
    | own ds=>exact absurd (noOwn k _ z) (by simp[JK])
    | bd ks ds=>exact h2
    | bt ks ds=>exact h2
    | od ks ds=>exact absurd (noOwn k _ z) (by simp[JK])
    | ot ks ds=>exact absurd (noOwn k _ z) (by simp[JK])
 ·rcases get j _ e1 with z|⟨k',rfl,z⟩
  ·subst z;cases w1
  ·rw[noOwn k' _ z] at w1;cases w1
end
end LE

namespace L2
open PySem PySem.Spec PyProof.Rows PySem.Calls
theorem Z6(a b:Bool):MeetsSeq.EqGives (.bool a) (.bool b) (a == b):=fun prog w A E s Q h=>by
 unfold eqBool;show wpAny _ _ (if (Value.bool a == Value.bool b)=true then _ else _) Q E s
 by_cases hab:(Value.bool a == Value.bool b)=true
 ·rw[if_pos hab];have e:a=b:=by have:=eq_of_beq hab;injection this
  subst e;exact Qe (wpAny_rule (QE (by simpa using h)))
 ·rw[if_neg hab];exact Qe (PyProof.Rows.eq_bool (Gh h))
theorem JaL:∀{bs:List Bool} {its:List Qa},Vals (bs.map V.bl) its->its=bs.map Value.bool
 | [],_,r=>by cases r;rfl
 | b::bs,_,r=>by
  cases r with
  | cons h t=>cases (show _=Value.bool b from h);rw[JaL t];rfl
noncomputable def Jc2:V->List V->Hp->VK->Prop:=fun x vs H Q=>∃(l:Qc) (bs:List Bool) (b:Bool),x=.ref l/\vs=[.bl b]/\H l=some (.lst (bs.map V.bl))/\Q (.int (bs.count b:Nat)) H
noncomputable def efB(b:Bool):Qa->Bool:=fun v=>match v with
 | .bool a=>a == b
 | _=>false
theorem ZJ(b:Bool):∀bs:List Bool,(bs.map Value.bool).countP (efB b)=bs.count b
 | []=>rfl
 | a::bs=>by rw[Qt,List.countP_cons,ZJ b bs,List.count_cons];rfl
section
variable{X:Cx}
theorem JdP:MtR X "list.count" Jc2:=by
 intro pins s σ H x vs v us Q I rx rv h;obtain⟨l,bs,b,rfl,rfl,hH,q⟩:=h;cases rx;obtain⟨u,rfl,hu⟩:=rv.one;cases (show u=Value.bool b from hu);obtain⟨z,its,n,r,hl,e⟩:=I.lstM hH;cases JaL r;refine call_meets F.slot_list_count ⟨_,e,rfl⟩ F.entry_list_count (F.args_list_count_2 _ _) (MeetsSeq.list_count l (bs.map Value.bool).toArray n (.bool b) (efB b) (fun y hy=>?_)) ⟨e,?_⟩
 ·have hy':y∈bs.map Value.bool:=by simpa using hy
  obtain⟨a,_,rfl⟩:=Kr.mp hy';exact Z6 a b
 ·refine⟨.int (bs.count b:Nat),H,I.tok _,⟨s.toks,?_⟩,q⟩;show Value.int (((bs.map Value.bool).countP (efB b):Nat):Int) s.toks=_;rw[ZJ]
end
end L2
namespace LE
open PySem L2 LR
noncomputable def lst?:Sl->Option (List D)
 | .bo ds=>some ds
 | .own ds=>some ds
 | .sh (.lst ds)=>some ds
 | _=>none
noncomputable def eMB(f:List Bool->Bool->Option Int)(o a:Ev):Ev:=fun E=>(o E).bind fun s=>(lst? s).bind fun ds=>(bls? ds).bind fun bs=>(a E).bind fun y=>(bool? y).bind fun b=>(f bs b).map fun i=>.sh (.int i)
noncomputable def JkJ(bs:List Bool)(b:Bool):Option Int:=some (bs.count b:Nat)
section
variable{K:Qn}{C:Qc}{to te:TE}{eo ea:Ev}{Hs H0 H:Hp}{v:V}
theorem RR.lst{s:Sl}{ds:List D}(i:Same H0 H)(r:RR K C Hs H0 H v s)(e:lst? s=some ds):∃l xs,v=.ref l/\H l=some (.lst xs)/\RDL K C H0 xs ds:=by
 cases s with
 | bo es=>cases e;exact r
 | own es=>cases e;obtain⟨l,xs,e,h,_,_,q⟩:=r;exact⟨l,xs,e,h,q⟩
 | sh d =>
  cases d with
  | lst es=>cases e;obtain⟨l,xs,e,h,q⟩:=RD.lstI r;exact⟨l,xs,e,i _ _ h,q⟩
  | _=>cases e
 | _=>cases e
theorem JlK{rm:V->List V->Hp->VK->Prop}{f:List Bool->Bool->Option Int}(hm:∀(l:Qc) (bs:List Bool) (b:Bool) (i:Int) (H:Hp) (Q:VK),H l=some (.lst (bs.map V.bl))->f bs b=some i->Q (.int i) H->rm (.ref l) [.bl b] H Q)
 (ho:SE K C to eo) (ha:SE K C te ea):SE K C (tBM K "list" rm to (Y0 te ZC)) (eMB f eo ea):=by
 intro B H0 H σ E r Q I e q;obtain⟨s,e1,e⟩:=bind_some e;obtain⟨ds,e2,e⟩:=bind_some e;obtain⟨bs,e3,e⟩:=bind_some e;obtain⟨y,e4,e⟩:=bind_some e;obtain⟨b,e5,e⟩:=bind_some e;obtain⟨i,e6,rfl⟩:=map_some e;refine ho B H0 H σ E s _ I e1 fun x H1 H1' s1 r1=>?_
 obtain⟨l,xs,rfl,hl,rl⟩:=r1.lst s1.i e2;refine⟨.inl ⟨rfl,_,.of hl⟩,?_⟩;refine ha B H1 H1' σ E y _ (I.step s1) e4 fun u H2 H2' s2 r2=>?_
 rw[Ug e5] at r2;cases RD.blI r2;rw[WF e3] at rl;have hx:=RDL.bls rl;subst hx;exact hm l bs b i H2' Q (s2.h _ _ hl) e6 (q _ _ _ (s1.trans s2) (RD.int i))
theorem JhE(ho:SE K C to eo)(ha:SE K C te ea):SE K C (tBM K "list" Jc2 to (Y0 te ZC)) (eMB JkJ eo ea) :=
 JlK (fun l bs b i H Q h e q=>by cases e;exact⟨l,bs,b,rfl,rfl,h,q⟩) ho ha
end
end LE

namespace LE
open PySem L2 LR
section
variable{K:Qn}{C:Qc}
end
end LE

namespace PySem
abbrev Jir(h:QH)(z TI TO a:Qc)(f:Bool):Prop :=
 h.get? z=some { cls:=.type "zip",dict:=none,data:=.fields #[rawInt a,.bool f,.bool false,.ref TI,.ref TO],slots:=#[] }
section
variable{prog:Qm}{w:QB}{A:Qu}{E:Qa->Qd->Prop}{s:Qd}{z TI TO i1 i2 a:Qc}{f:Bool}{oa:Obj}{p1 p2:List Qc}{n1 n2 k:Nat}{P1 P2:Nat->Qa->Prop}{S1 S2:Nat->QH->Prop}
end
end PySem

namespace PySem
section
variable{prog:Qm}{w:QB}{A:Qu}{E:Qa->Qd->Prop}{s:Qd}{b1 b2:Bool}{a1 a2 z TI TO i1 i2 S:Qc}{xs ys:Array Qa}{i:Nat}
def LzSt(b1 b2:Bool)(a1 a2 z TI TO i1 i2 S:Qc)(xs ys:Array Qa)(i:Nat)(h:QH):Prop :=
 IsPair h TI (.ref i1) (.ref i2)/\(IsItr b1 h i1 a1 i/\IsSq b1 h a1 xs)/\(IsItr b2 h i2 a2 i/\IsSq b2 h a2 ys) ∧
 ((IsZip h z TI TO .none/\∃u v,IsPair h TO u v)\/∃a f oa,Jir h z TI TO a f/\h.get? a=some oa/\a≠S/\a≠z/\a≠i1/\a≠i2)
theorem IsSq.keep{b:Bool}{h h':QH}{a:Qc}{xs:Array Qa}(q:IsSq b h a xs)(k:∀o,h.get? a=some o->h'.get? a=some o):IsSq b h' a xs:=by
 cases b with
 | true=>obtain⟨o,e,r⟩:=q;exact⟨o,k o e,r⟩
 | false=>obtain⟨o,e,r⟩:=q;exact⟨o,k o e,r⟩
theorem IsItr.keep'{b:Bool}{h h':QH}{j a:Qc}{i:Nat}(q:IsItr b h j a i)(k:∀o,h.get? j=some o->h'.get? j=some o):IsItr b h' j a i:=by
 cases b with
 | true=>obtain⟨o,e,r⟩:=q;exact⟨o,k o e,r⟩
 | false=>obtain⟨o,e,r⟩:=q;exact⟨o,k o e,r⟩
theorem LzSt.keep{h h':QH}(x:LzSt b1 b2 a1 a2 z TI TO i1 i2 S xs ys i h)(k:∀b o,b≠S->h.get? b=some o->h'.get? b=some o)(n:S∉[z,TI,TO,i1,i2,a1,a2]):LzSt b1 b2 a1 a2 z TI TO i1 i2 S xs ys i h':=by
 simp only[Qq,QW,or_false,not_or] at n;obtain⟨n1,n2,n3,n4,n5,n6,n7⟩:=n;obtain⟨x1,x2,x3,x4⟩:=x;refine⟨k _ _ (Q0 n2) x1,⟨IsItr.keep' x2.1 fun o e=>k _ o (Q0 n4) e,IsSq.keep x2.2 fun o e=>k _ o (Q0 n6) e⟩,⟨IsItr.keep' x3.1 fun o e=>k _ o (Q0 n5) e,IsSq.keep x3.2 fun o e=>k _ o (Q0 n7) e⟩,?_⟩;rcases x4 with ⟨y1,u,v,y2⟩|⟨a,f,oa,y1,y2,y3⟩
 ·exact .inl ⟨k _ _ (Q0 n1) y1,u,v,k _ _ (Q0 n3) y2⟩
 ·exact .inr ⟨a,f,oa,k _ _ (Q0 n1) y1,k _ _ y3.1 y2,y3⟩
end
structure LzG (xs ys:Array Qa) (lo:Qc) (h:QH) (as:List Qc):Prop where
 rise:as.Pairwise (·<·)
 above:∀a∈as,lo<a
 pairs:∀(j:Nat) (a:Qc),as[j]?=some a->∃u v,xs[j]?=some u/\ys[j]?=some v/\IsPair h a u v
theorem LzG.there{xs ys:Array Qa}{lo:Qc}{h:QH}{as:List Qc}(g:LzG xs ys lo h as){a:Qc}(ha:a∈as):a<h.objs.size:=by obtain⟨j,hj⟩:=Ln.mp ha;obtain⟨_,_,_,_,e⟩:=g.pairs j a hj;exact Qj e
section
variable{prog:Qm}{w:QB}{A:Qu}{s:Qd}{R:Lu->Qd->Prop}{b1 b2:Bool}{a1 a2 z TI TO i1 i2 S:Qc}{xs ys:Array Qa}
end
end PySem

namespace PySem
open PySem.Calls PyProof.Rows PyProof.V PySem.Spec
section
variable{prog:Qm}{w:QB}{A:Qu}{E:Qa->Qd->Prop}{s:Qd}{b1 b2:Bool}{a1 a2 z TI TO i1 i2:Qc}{xs ys:Array Qa}
end
end PySem

namespace L2
open PySem PySem.Spec PyProof.Rows
end L2

namespace LE
open PySem L2 LR
section
variable{K:Qn}{C:Qc}
end
end LE

namespace L2
open PySem PySem.Spec PyProof.Rows
section
variable{X:Cx}{pins:List (Qc×Obj)}{σ:St}{H:Hp}{s:Qd}{a:Qc}{kvs:List (Key×V)}{k:Key}{z:V}{u r:Qa}{A:Qu}{E:Qa->Qd->Prop}
end
section
variable{X:Cx}{o e f:QO}{apos cpos:Pos}{td ty tx:TE}
end
end L2
namespace LE
open PySem L2 LR
section
variable(K:Qn)(C:Qc)(j:Nat)
noncomputable def Left(σ:St)(E:En)(σ':St)(E':En):Prop:=σ'[j]?=σ[j]?/\∀(i:Nat) (s:Sl),E'[i]?=some s->JK s=true->E[i]?=some s/\σ'[i]?=σ[i]?
end
section
variable{K:Qn}{C:Qc}{j:Nat}
theorem Left.refl(σ:St)(E:En):Left j σ E σ E:=⟨rfl,fun _ _ e _=>⟨e,rfl⟩⟩
theorem Left.trans{σ σ1 σ2:St}{E E1 E2:En}(a:Left j σ E σ1 E1)(b:Left j σ1 E1 σ2 E2):Left j σ E σ2 E2 :=
 ⟨b.1.trans a.1,fun i s e o=>by obtain⟨h1,h2⟩:=b.2 i s e o;obtain⟨h3,h4⟩:=a.2 i s h1 o;exact⟨h3,h2.trans h4⟩⟩
end
end LE

namespace LE
open PySem L2 LR
section
variable(K:Qn)(C:Qc)
structure Grp (B H0 H:Hp) (σ:St) (E:En) (j c:Nat) (ks:List Int) (dss:List (List D)) (l:Qc) (ls:List Qc):Prop where
 at':σ[j]?=some (some (.ref l))
 dict:H l=some (dkO ks (ls.map V.ref))
 l0:H0 l=none
 lb:B l=none
 len:ks.length=ls.length
 len2:dss.length=ls.length
 cnt:ks.length<=c
 lists:∀(m:Nat) (a:Qc) (ds:List D),ls[m]?=some a->dss[m]?=some ds->ds.length<=c/\∃xs,H a=some (.lst xs)/\H0 a=none/\B a=none/\RDL K C H0 xs ds
 nd:(l::ls).Nodup
 own:∀(i:Nat) (s:Sl) (a:Qc),E[i]?=some s->JK s=true->σ[i]?=some (some (.ref a))->a∉l::ls
end
section
variable{K:Qn}{C:Qc}{B H0 H H0' H':Hp}{σ σ':St}{E E':En}{j c:Nat}{ks:List Int}{dss:List (List D)}{l:Qc}{ls:List Qc}
theorem Grp.there(g:Grp K C B H0 H σ E j c ks dss l ls){a:Qc}(ha:a∈l::ls):∃o,H a=some o/\isT o=false/\H0 a=none/\B a=none:=by
 rcases Qq.mp ha with z|z
 ·subst z;exact⟨_,g.dict,rfl,g.l0,g.lb⟩
 ·obtain⟨m,hm⟩:=Ln.mp z;have hl:m<dss.length:=by rw[g.len2];exact(Qh.mp hm).1
  obtain⟨_,xs,h1,h2,h3,_⟩:=g.lists m a dss[m] hm (Ge hl);exact⟨_,h1,rfl,h2,h3⟩
theorem Grp.off(g:Grp K C B H0 H σ E j c ks dss l ls)(st:Step H H0 H H0' H'){a:Qc}(ha:a∈l::ls):H0' a=none:=by
 obtain⟨o,h1,h2,h3,_⟩:=g.there ha
 cases z:H0' a with
 | none=>rfl
 | some u =>
  rcases st.n a u z with y|y|y
  ·rw[h3] at y;cases y
  ·rw[h1] at y;cases y
  ·have:=st.i a u z;rw[st.h a o h1] at this;cases this;rw[h2] at y;cases y
theorem Grp.step(g:Grp K C B H0 H σ E j c ks dss l ls)(st:Step H H0 H H0' H'):Grp K C B H0' H' σ E j c ks dss l ls :=
 ⟨g.at',st.h _ _ g.dict,g.off st Qz,g.lb,g.len,g.len2,g.cnt,fun m a ds e1 e2=>by obtain⟨h0,xs,h1,h2,h3,h4⟩:=g.lists m a ds e1 e2;exact⟨h0,xs,st.h _ _ h1,g.off st (Qo _ (QY e1)),h3,h4.mono st.z⟩,g.nd,g.own⟩
theorem Grp.left(g:Grp K C B H0 H σ E j c ks dss l ls)(f:Left j σ E σ' E'):Grp K C B H0 H σ' E' j c ks dss l ls :=
 ⟨f.1.trans g.at',g.dict,g.l0,g.lb,g.len,g.len2,g.cnt,g.lists,g.nd,fun i s a e o q=>by obtain⟨h1,h2⟩:=f.2 i s e o;exact g.own i s a h1 o (by rw[<- h2];exact q)⟩
theorem Grp.free(g:Grp K C B H0 H σ E j c ks dss l ls){a:Qc}(ha:a∈l::ls):∀(i:Nat) (s:Sl),E[i]?=some s->JK s=true->σ[i]?≠some (some (.ref a)):=fun i s e o q=>g.own i s a e o q ha
theorem EnvR.fresh(I:EnvR K C B H0 H σ E){p:Qc}(hp:H p=none):∀(i:Nat) (s:Sl),E[i]?=some s->JK s=true->σ[i]?≠some (some (.ref p)):=fun i s e o q=>by
 rcases I.at' i s e with z|⟨v,q1,q2⟩
 ·subst z;cases o
 ·rw[q1] at q;cases q
  cases s with
  | own es=>obtain⟨l',ys,p1,p2,_⟩:=q2;cases p1;rw[hp] at p2;cases p2
  | od ks es=>obtain⟨l',ys,p1,p2,_⟩:=q2;cases p1;rw[hp] at p2;cases p2
  | ot ks es=>obtain⟨l',ys,p1,p2,_⟩:=q2;cases p1;rw[hp] at p2;cases p2
  | _=>cases o
end
end LE

namespace LE
open PySem L2 LR
section
variable{K:Qn}{C:Qc}{B H0 H H0' H':Hp}{σ σ':St}{E E':En}{j c:Nat}{ks:List Int}{dss:List (List D)}{l:Qc}{ls:List Qc}
noncomputable def JdB(H0 H:Hp)(ls:List Qc):Hp:=fun a=>if a∈ls then H a else H0 a
theorem ZW{Hz:Hp}:∀{ls:List Qc} {dss:List (List D)},dss.length=ls.length->(∀(m:Nat) (a:Qc) (ds:List D),ls[m]?=some a->dss[m]?=some ds->∃xs,Hz a=some (.lst xs)/\RDL K C Hz xs ds)->RDL K C Hz (ls.map V.ref) (dss.map .lst)
 | [],[],_,_=>.nil
 | [],_::_,h,_=>by simp at h
 | _::_,[],h,_=>by simp at h
 | a::ls,ds::dss,h,f=>by obtain⟨xs,h1,h2⟩:=f 0 a ds rfl rfl;exact .cons (.mkL h1 h2) (ZW (by simpa using h) fun m a ds e1 e2=>f (m+1) a ds (by simpa using e1) (by simpa using e2))
theorem Grp.done(I:EnvR K C B H0 H σ E)(g:Grp K C B H0 H σ E j c ks dss l ls)(hj:j<E.length):SStep B H0 (JdB H0 H ls) H/\EnvR K C B (JdB H0 H ls) H σ (E.set j (.od ks (dss.map .lst))):=by
 have out:∀{a:Qc},a∉ls->JdB H0 H ls a=H0 a:=fun {a} h=>if_neg h
 have inn:∀{a:Qc},a∈ls->JdB H0 H ls a=H a:=fun {a} h=>if_pos h
 have z:Same H0 (JdB H0 H ls):=fun a o e=>by
  by_cases c:a∈ls
  ·rw[inn c];exact I.h a o e
  ·rw[out c];exact e
 have i:Same (JdB H0 H ls) H:=fun a o e=>by
  by_cases c:a∈ls
  ·rw[inn c] at e;exact e
  ·rw[out c] at e;exact I.h a o e
 have ln:l∉ls:=(Ki.mp g.nd).1;refine⟨⟨I.b,z,fun a o e=>?_,i⟩,I.b,i,by simp[I.len],fun k s e=>?_,fun k m s t v hkm e1 e2 o1 o2 e3 e4=>?_⟩
 ·by_cases c:a∈ls
  ·exact .inr (.inl (g.there (Qo _ c)).choose_spec.2.2.2)
  ·rw[out c] at e;exact .inl e
 ·rw[QJ] at e
  by_cases c:j=k
  ·subst c;rw[if_pos rfl,if_pos hj] at e;have e':=QM e;subst e';refine .inr ⟨_,g.at',l,ls.map V.ref,rfl,g.dict,by rw[out ln];exact g.l0,g.lb,by rw[QR,g.len2];exact g.len,ZW g.len2 fun m a ds q1 q2=>?_⟩;obtain⟨_,xs,h1,_,_,h4⟩:=g.lists m a ds q1 q2;exact⟨xs,by rw[inn (QY q1)];exact h1,h4.mono z⟩
  ·rw[if_neg c] at e;rcases I.at' k s e with y|⟨v,q1,q2⟩
   ·exact .inl y
   ·refine .inr ⟨v,q1,?_⟩
    cases s with
    | no=>trivial
    | sh d=>exact RD.mono z q2
    | bo es=>obtain⟨l',ys,p1,p2,p3⟩:=q2;exact⟨l',ys,p1,p2,p3.mono z⟩
    | bd ks es=>obtain⟨l',ys,p1,p2,p3,p4⟩:=q2;exact⟨l',ys,p1,p2,p3,p4.mono z⟩
    | bt ks es=>obtain⟨l',ys,p1,p2,p3,p4⟩:=q2;exact⟨l',ys,p1,p2,p3,p4.mono z⟩
    | own es=>obtain⟨l',ys,p1,p2,p3,p4,p5⟩:=q2;subst p1;have:=g.own k _ l' e rfl q1;exact⟨l',ys,rfl,p2,by rw[out fun m=>this (Qo _ m)];exact p3,p4,p5.mono z⟩
    | od ks es=>obtain⟨l',ys,p1,p2,p3,p4,p5,p6⟩:=q2;subst p1;have:=g.own k _ l' e rfl q1;exact⟨l',ys,rfl,p2,by rw[out fun m=>this (Qo _ m)];exact p3,p4,p5,p6.mono z⟩
    | ot ks es=>obtain⟨l',ys,p1,p2,p3,p4,p5,p6⟩:=q2;subst p1;have:=g.own k _ l' e rfl q1;exact⟨l',ys,rfl,p2,by rw[out fun m=>this (Qo _ m)];exact p3,p4,p5,p6.mono z⟩
 ·have get:∀(i:Nat) (s:Sl),(E.set j (Sl.od ks (dss.map .lst)))[i]?=some s->i=j\/(i≠j/\E[i]?=some s):=fun i s e=>by
   rw[QJ] at e
   by_cases c:j=i
   ·exact .inl c.symm
   ·rw[if_neg c] at e;exact .inr ⟨fun z=>c z.symm,e⟩
  rcases get k s e1 with y1|⟨n1,y1⟩
  ·subst y1;rcases get m t e2 with y2|⟨n2,y2⟩
   ·exact hkm y2.symm
   ·rw[g.at'] at e3;have e3':=QM (QM e3);subst e3';exact g.own m t l y2 o2 e4 Qz
  ·rcases get m t e2 with y2|⟨n2,y2⟩
   ·subst y2;rw[g.at'] at e4;have e4':=QM (QM e4);subst e4';exact g.own k s l y1 o1 e3 Qz
   ·exact I.sep k m s t v hkm y1 y2 o1 o2 e3 e4
end
end LE

namespace L2
open PySem PySem.Spec PyProof.Rows
section
open PySem.SeqAt
open PySem.AutoSeq1 (wpAny_loadPart')
open PySem.MeetsSeq PySem.MeetsSeq2 PySem.MeetsSeq3
end
section
variable{prog:Qm}{w:QB}{A:Qu}{E:Qa->Qd->Prop}{s:Qd}
end
end L2
namespace LE
open PySem L2 LR
section
variable{K:Qn}{C:Qc}
end
end LE

namespace L2
open PySem PySem.Spec PyProof.Rows
section
open PySem.SeqAt
open PySem.AutoSeq1 (wpAny_loadPart')
open PySem.MeetsSeq PySem.MeetsSeq2 PySem.MeetsSeq3
end
section
variable{prog:Qm}{w:QB}{A:Qu}{E:Qa->Qd->Prop}{s:Qd}
end
end L2
namespace LE
open PySem L2 LR
section
variable{K:Qn}{C:Qc}
end
end LE

namespace L2
open PySem PySem.Spec PyProof.Rows
end L2
namespace LE
open PySem L2 LR
noncomputable def WE(a:Int):Bool:=KR a.natAbs (10 ^ 200)
section
variable{K:Qn}{C:Qc}
end
end LE

namespace LE
open PySem L2 LR
noncomputable def Jbc(a b:Sp):Sp:=fun vs H Q W=>a vs H Q W\/b vs H Q W
section
variable{K:Qn}{C:Qc}{W:XK}{t:TA}{ev:En->Option (List Sl)}{ts us:TS}{x:Xv}{H:Hp}
theorem Jf0{n:Nat}{sp:Sp}{x:List Sl->Option Xm}(ha:SA K C t ev):SXE K C W (VU (Jbc sp (spR K C n x)) [] W t) (exU n x ev):=by
 intro B H0 H σ E m Q I e q;obtain⟨ss,e1,e⟩:=bind_some e;obtain⟨bs,e2,e⟩:=bind_some e;split at e
 ·next hl=>refine VN (ha B H0 H σ E ss _ I e1 fun vs H1 H1' s1 r1=>?_);obtain⟨h1,h2⟩:=r1.pass s1.i e2;have f:=JT (Hs:=H) s1.i;exact .inr ⟨_,bs,m,f.i,h1,h2,hl,e,fun c a H2 H2' hc s2=>q c a H2 H2' hc ((s1.comp f fun _ z=>z).comp s2 fun a z=>Same.free s1.h z)⟩
 ·cases e
theorem Jkw(h:SXS K C W ts x):SXS K C W (Jd8 ts us) x:=fun B H0 H σ E m D I e q=>h B H0 H σ E m _ I e q
theorem JeK{N:List Str}{n:Nat}{vs:List V}{Q:VK}{D:Ends}(hx:SXS K C W ts x)(h:spR K C n (Vz N.length x) vs H Q W):ts D (L2.Yp N vs) H:=by obtain⟨H0,as,m,i,ra,ho,hl,e,q⟩:=h;exact hx H H0 H _ _ m _ (ZK i ra ho) e fun c a H1 H1' hc s1=>q c a H1 H1' hc ⟨s1.b,s1.z,s1.n,s1.i⟩
theorem JhQ{n:Nat}{ex:List Sl->Option Xm}{vs:List V}{Q:VK}(h:spR K C n ex vs H Q W):vs.length=n:=by obtain⟨_,as,_,_,r,_,hl,_⟩:=h;rw[r.len,hl]
theorem JfO{n:Nat}{ex:List Sl->Option Xm}{vs:List V}{Q:VK}(h:Jbr K C n ex vs H Q W):vs.length=n+1:=by obtain⟨v,ws,_,as,_,rfl,_,r,_,hl,_⟩:=h;rw[Qp,r.len,hl]
theorem Jb8{X:XK}{sp:Sp}(hsp:∀vs H Q W,Vw C K vs H Q W->sp vs H Q W)(ha:SA K C t ev):SE K C (Jbv C sp [] X t) (eF VA ev):=by
 intro B H0 H σ E c Q I e q;obtain⟨ss,e1,e⟩:=bind_some e;refine LR.Jc5 (ha B H0 H σ E ss _ I e1 fun vs H1 H1' s1 r1=>?_);unfold VA at e;split at e
 ·next s =>
  cases r1 with
  | cons r1 r1' =>
   cases r1';obtain⟨ds,e2,e⟩:=bind_some e;obtain⟨ps,e3,e⟩:=bind_some e;split at e
   ·next hg =>
    cases e;simp only[QL,decide_eq_true_eq] at hg;have e4:=Zj e3;subst e4;obtain⟨l,xs,rfl,hq,r⟩:=r1.q s1.i e2;refine fun x dx a b c=>hsp _ _ _ _ (Jj5 ⟨l,xs,rfl,hq,JjC (r.mono s1.i)⟩ (Ve hg.1) hg.2 (fun x H2 nx s2 R=>?_) x dx a b c)
    obtain⟨x',dx,t',ts,ex,hx,ht,hp⟩:=R;cases ex;have i2:Same H1 H2:=s1.i.trans s2;have f:=JT (Hs:=H) i2;refine q _ (YQ H H1 H2) H2 ⟨s1.h.trans s2,s1.z.trans f.z,fun a o e=>(f.n a o e).elim (fun z=>s1.n a o z) .inr,f.i⟩ ?_;have ts':=Jjg (Hs:=H) (C:=C) i2 hp;exact .row (Jae i2 (Same.free s1.h nx) hx) (JcE i2 (.of ht)) ts'.1 ts'.2
   ·cases e
 ·cases e
end
end LE

namespace PySem
open PySem.Calls PyProof.Rows PyProof.V PySem.Spec
section
variable{prog:Qm}{w:QB}{A:Qu}{E:Qa->Qd->Prop}{s:Qd}{r a:Qc}{xs:Array Qa}{n:Nat}
end
end PySem
namespace L2
open PySem PySem.Spec PyProof.Rows
end L2
namespace LE
open PySem L2 LR
section
variable{K:Qn}{C:Qc}
end
end LE

namespace L2
open PySem PySem.Spec PyProof.Rows PySem.Calls
section
variable{X:Cx}
noncomputable def Jla:V->Option Int->Option Int->Hp->VK->Prop:=fun x lo hi H Q=>∃z,x=.str z/\z.length<=Qk/\Q (.str (LC z lo hi)) H
theorem JfM:SlR X Jla:=by
 intro pins s σ H x v vl vu lo hi sl Q I rx hs pl pu h;obtain⟨z,rfl,hz,q⟩:=h;obtain⟨t,rfl⟩:=rx;have fin:∀t' k,EP X pins σ Q (.str (LC z lo hi) t') { s with toks:=k }:=fun t' k=>⟨.str _,H,I.tok k,⟨t',rfl⟩,q⟩
 refine⟨"str",_,F.slot_str_getitem.lookup,typeIs_str _ _ _,?_⟩
 cases pl with
 | none =>
  cases pu with
  | none=>exact GD (l:=none) (u:=none) (st:=none) hs rfl (post_val_or_str ⟨QQ (Le z _ _) hz,fun t' k=>fin t' k⟩)
  | int j u=>exact GD (l:=none) (u:=some (j,u)) (st:=none) hs rfl (post_val_or_str ⟨QQ (Le z _ _) hz,fun t' k=>fin t' k⟩)
 | int i u' =>
  cases pu with
  | none=>exact GD (l:=some (i,u')) (u:=none) (st:=none) hs rfl (post_val_or_str ⟨QQ (Le z _ _) hz,fun t' k=>fin t' k⟩)
  | int j u=>exact GD (l:=some (i,u')) (u:=some (j,u)) (st:=none) hs rfl (post_val_or_str ⟨QQ (Le z _ _) hz,fun t' k=>fin t' k⟩)
noncomputable def Zy(z:Str)(n:Nat):Str:=⟨(Qi n z.cps.toList).flatten.toArray⟩
theorem JaU:∀(n:Nat) (a b:Array Nat),((Qi n a).foldl (·++·) b).toList=b.toList++(Qi n a.toList).flatten
 | 0,a,b=>by simp
 | n+1,a,b=>by rw[QK,Lh,JaU n a (b++a),Array.toList_append,GR];simp[QK]
theorem Je0(n:Nat)(l:List Nat):(Qi n l).flatten.length=n*l.length:=by simp
noncomputable def Jig:R2:=fun x y H Q=>∃z n,x=.str z/\y=.int n/\1<=n/\n<=16777216/\z.length*n.toNat<=Qk/\Q (.str (Zy z n.toNat)) H
theorem UX:OpR X (binaryOp .Mult) Jig:=by
 intro pins s σ H x y v u Q I rx ry h;obtain⟨z,n,rfl,rfl,h1,h2,hz,q⟩:=h;obtain⟨t,rfl⟩:=rx;obtain⟨t',rfl⟩:=ry;have big:¬n<1:=by omega
 have e0:∀w:Str,w.cps.toList=(Qi n.toNat z.cps.toList).flatten->w=Zy z n.toNat:=fun w e=>by
  cases w with
  | mk c=>unfold Zy;congr 1;apply Array.toList_inj.mp;simpa using e
 refine P.mul_str (by rw[decide_eq_false (by omega),decide_eq_false (by omega)];rfl) (fun _ _=>?_) (fun _ _=>?_) ?_
 ·intro hgt
  have:(z.length:Int)<=(2 ^ 63-1) / n:=by
   rw[Int.le_ediv_iff_mul_le (by omega)];have e:((z.length*n.toNat:Nat):Int)=(z.length:Int)*n:=by rw[Int.natCast_mul];congr 1;omega
   have:=sizeLine_eq;omega
  omega
 ·unfold Builtin.Str.tooLong;simp only[decide_eq_false_iff_not,gt_iff_lt,Nat.not_lt];exact hz
 ·rw[if_neg big];split
  ·next c =>
   rw[Li] at c
   have e:z=Zy z n.toNat:=e0 z (by
    rcases c with c|c
    ·have:n=1:=by simpa using c
     subst this;simp
    ·have:z.cps.toList=[]:=Gf (by simpa [Str.length] using c);rw[this];simp)
   exact⟨.str z,H,I,⟨_,rfl⟩,by rw[e] at q ⊢;rw[<- e] at q ⊢;rw[e];exact q⟩
  ·have e:(⟨(Qi n.toNat z.cps).foldl (·++·) #[]⟩:Str)=Zy z n.toNat:=e0 _ (by show((Qi n.toNat z.cps).foldl (·++·) #[]).toList=_;rw[JaU];simp)
   rw[e];refine⟨?_,⟨.str _,H,I.tok _,⟨_,rfl⟩,q⟩⟩;show(Zy z n.toNat).cps.size<=Qk;unfold Zy;simp only[Qv,Je0];rw[Nat.mul_comm];exact hz
end
end L2
namespace L2
open PySem PySem.Spec PyProof.Rows PySem.Calls
section
variable{X:Cx}{es:List QO}{t:TA}{x:Str}{j:Nat}{p:Pos}
noncomputable def VT:Nat->List QO->List Str->Option (List Str×List QO)
 | 0,es,acc=>some (acc.reverse,es)
 | n+1,.Constant (.str x) _ _::es,acc=>VT n es (x::acc)
 | _,_,_=>none
noncomputable def Jbw:List Str->TA->TA
 | [],t=>t
 | y::ys,t=>Y0 (tC (.str y)) (Jbw ys t)
theorem Jbd:∀(n:Nat) {es rest:List QO} {acc ys:List Str} {t:TA},VT n es acc=some (ys,rest)->PA X rest t->∃zs,ys=acc.reverse++zs/\PA X es (Jbw zs t)
 | 0,es,rest,acc,ys,t,h,hr=>by have h':some (acc.reverse,es)=some (ys,rest):=h;cases h';exact⟨[],by simp,hr⟩
 | n+1,.Constant (.str x) j p::es,rest,acc,ys,t,h,hr=>by obtain⟨zs,e1,e2⟩:=Jbd n (show VT n es (x::acc)=some (ys,rest) from h) hr;exact⟨x::zs,by rw[e1];simp,Ja Yh e2 rfl⟩
theorem Jg6(n:Nat){rest:List QO}{ys:List Str}(h:VT n es []=some (ys,rest))(hr:PA X rest t):PA X es (Jbw ys t):=by
 obtain⟨zs,e1,e2⟩:=Jbd n h hr;have:ys=zs:=by simpa using e1
 rw[this];exact e2
structure PSi (X:Cx) (st:Ga) (ts:TS):Prop where
 out:PS X st ts
theorem Jfq{i:Nat}{pos pos' lp:Pos}(n:Nat){rest:List QO}{ys:List Str}(hN:X.N.Nodup)(hi:X.N[i]?=some x)(hx:Loc X.env.scope x)(h:VT n es []=some (ys,rest))(hr:PA X rest t)(hf:X.fn x=true\/X.env.scope.names.lookup x=some .local:=by first|exact .inl rfl|exact .inr rfl|assumption) :
 PSi X (.Assign [.Name x pos'] (.List es lp) pos) (Zz (JhT (Jbw ys t)) (U8 i)):=⟨Jfp hN hi hx (Yu (Jg6 n h hr)) rfl hf⟩
structure PSsi (X:Cx) (ss:List Ga) (ts:TS):Prop where
 out:PSs X ss ts
theorem U3{s:Ga}{ss:List Ga}{ts us:TS}(h:PSi X s ts)(r:PSsi X ss us):PSsi X (s::ss) (Jd8 ts us):=⟨Jg h.out r.out⟩
theorem Jfr{s:Ga}{ts:TS}(h:PSi X s ts):PSsi X [s] ts:=⟨Jm h.out⟩
theorem Fun.okI{P:Qm}{w:QB}{K:Qn}{mg:Str->Option Qa}{base:QH}{x qual:Str}{st:Ga}{f:Qc}{fd:QC}{N ps:List Str}{k:Nat}{sp:Sp}(F:Fun K x qual st f fd)(S:FnScope N ps (Jn st))(len:∀vs H Q E,sp vs H Q E->vs.length=ps.length)
 (hbody:∀(cdv:Qa) (A:Qu) (outer:List Env) (s:Qd) (H:Hp) (vs:List V) (Q:VK) (E:XK),Room k (A.deeper (envOfC qual (Jn st) s.heap.objs.size f cdv))->sp vs H Q E ->
  ∃t,PSsi (WI CX0 P w K mg base N qual (Jn st) f cdv A outer s H E).nox (Ys st) t/\t { nx:=fun _ H'=>Q .non H',rt:=Q } (Yp N vs) H):FnOk P w K mg base CX0 (k+1) f fd ps sp :=
 F.ok S len fun cdv A outer s H vs Q E hr h=>(hbody cdv A outer s H vs Q E hr h).elim fun t q=>⟨t,q.1.out,q.2⟩
end
end L2

namespace LE
open PySem L2 LR
noncomputable def inS(i j:Str):Bool:=!(Builtin.Str.occurrences j i 0 j.length 1).isEmpty
noncomputable def JlA:Sl->Sl->Option Sl
 | .sh (.str i),.sh (.str j)=>some (.sh (.bl (inS i j)))
 | _,_=>none
noncomputable def Jge(a:Ev)(lo hi:Option Ev):Ev:=fun E=>(a E).bind fun s=>(WK lo E).bind fun l=>(WK hi E).bind fun h=>(str? s).bind fun z=>if z.length<=16777216 then some (.sh (.str (LC z l h))) else none
noncomputable def Yz:Sl->Sl->Option Sl
 | .sh (.str z),.sh (.int n)=>if 1<=n/\n<=16777216/\z.length*n.toNat<=16777216 then some (.sh (.str (Zy z n.toNat))) else none
 | _,_=>none
noncomputable def sgE(c:Nat):D:=.str ⟨#[c]⟩
noncomputable def WB(ys:List Str)(r:En->Option (List Sl)):En->Option (List Sl):=fun E=>(r E).map fun ss=>ys.map (fun y=>.sh (.str y))++ss
section
variable{K:Qn}{C:Qc}{te:TE}{ea:Ev}{tl th:TO}{el eh:Option Ev}{m:Bool}
theorem JfJ{t:TA}{ev:En->Option (List Sl)}(h:SA K C t ev):∀{ys:List Str},SA K C (Jbw ys t) (WB ys ev)
 | []=>by
  have e:WB [] ev=ev:=by funext E;unfold WB;cases ev E <;> rfl
  rw[e];exact h
 | y::ys=>by
  have e:WB (y::ys) ev=aC (eC (.str y)) (WB ys ev):=by
   funext E
   show LO _ (ev E)=(some (Sl.sh (D.str y))).bind fun x=>(LO _ (ev E)).bind fun xs=>some (x::xs)
   cases ev E <;> rfl
  rw[e];exact Jd JY (JfJ h)
theorem V2:OpS K C Jig Yz:=by
 intro Hs H0 H x y a b c Q i hs ra rb e q;unfold Yz at e;split at e
 ·split at e
  ·next h=>cases e;exact⟨_,_,RD.strI ra,RD.intI rb,h.1,h.2.1,h.2.2,q _ _ _ (.refl i) (RD.str _)⟩
  ·cases e
 ·cases e
theorem Jij(ha:SE K C te ea)(hl:SP' K C tl (WK el))(hh:SP' K C th (WK eh)):SE K C (tSl Jla te tl th) (Jge ea el eh):=by
 intro B H0 H σ E c Q I e q;obtain⟨s,e1,e⟩:=bind_some e;obtain⟨l,e2,e⟩:=bind_some e;obtain⟨h,e3,e⟩:=bind_some e;obtain⟨z,e4,e⟩:=bind_some e;split at e
 ·next hz =>
  cases e;have e5:=Zg e4;subst e5;refine ha B H0 H σ E _ _ I e1 fun x H1 H1' s1 r1=>hl B H1 H1' σ E l _ (I.step s1) e2 fun H2 H2' s2=>hh B H2 H2' σ E h _ (I.step (s1.trans s2)) e3 fun H3 H3' s3=>?_
  exact⟨z,RD.strI r1,hz,q _ _ _ ((s1.trans s2).trans s3) (RD.str _)⟩
 ·cases e
end
end LE

namespace L2
open PySem PySem.Spec PyProof.Rows PySem.Calls
section
variable{X:Cx}
end
end L2
namespace LE
open PySem L2 LR
section
variable{K:Qn}{C:Qc}{to te:TE}{eo ea:Ev}{Hs H0 H:Hp}{v:V}
end
end LE

namespace L2
open PySem PySem.Spec PyProof.Rows PySem.Calls
section
variable{X:Cx}
end
end L2
namespace LE
open PySem L2 LR
section
variable{K:Qn}{C:Qc}
end
end LE

namespace PySem
open AutoSeq1 (wpAny_loadPart')
section
variable{prog:Qm}{w:QB}{A:Qu}{E:Qa->Qd->Prop}{s:Qd}
theorem Wj{T newId initId:String}{Bn Bi:Builtin}{args:List Qa}{kw:List (Str×Qa)}{S:Spec}{Q Q₁:Qa->Qd->Prop}(ft:TypeCalled T newId initId)
 (hct:checkTypeCall T ⟨args,kw⟩=pure ()) (hcn:checkBuiltinCall newId ⟨.type T::args,kw⟩=pure ())
 (entryN:entryFor table newId=some Bn) (entryI:entryFor table initId=some Bi) (g:Meets (Bn ⟨.type T::args,kw⟩) S)
 (h:S A.in1 (wants Q₁ E) s)
 (hnext:∀obj s₁,Q₁ obj s₁->s₁.TypeIs obj T/\argsOk initId ⟨obj::args,kw⟩/\∃Si,Meets (Bi ⟨obj::args,kw⟩) Si/\Si A.in1 (wants (fun r s₂=>r=.none/\Q obj s₂) E) s₁) :
 wpAny (model prog w) A (call (.type T) args kw) Q E s:=by
 obtain⟨c,tl,hmro⟩:=ft.mro;have hmade:=ft.made;have hsub:=ft.sub;refine Ku (codeAny_of_tree ?_);show wpAny _ _ (callAny (.type T) _) _ _ _;refine QE ⟨KP _ (by decide +kernel),codeAny_builtin F.entry_type_call ?_⟩;rw[Around.under_plain (weight_type_call_type T args kw) (units_type_call_type T args kw)];have h1:=ft.notType;have h2:=ft.canCreate
 repeat (any_goals (first|assumption|wp_step))
 refine GF (Gg ft.plain entryN (wpAny_of_eq hcn (g prog w A.in1 _ s h))) fun r s₁ hr=>?_
 cases r with
 | error e=>exact hr
 | ok fl =>
  cases fl with
  | ret obj =>
   obtain⟨hT,hok,Si,gi,hsi⟩:=hnext _ _ hr;have hli:=ft.init.lookup;have hbi:=ft.init.bind obj
   repeat (any_goals (first|assumption|wp_step))
   refine GF (Gg ft.init.plain entryI (ft.init.check _ _ _ _ _ _ _ _ hT hok (gi prog w A.in1 _ s₁ hsi))) fun r₂ s₂ hr₂=>?_
   cases r₂ with
   | error e=>exact hr₂
   | ok fl₂ =>
    cases fl₂ with
    | ret r =>
     obtain⟨rfl,hq⟩:=hr₂
     repeat (any_goals (first|assumption|wp_step))
    | _=>exact hr₂.elim
  | _=>exact hr.elim
theorem Vk{T newId:String}{self a:Qa}{rest:List Qa}{kw:List (Str×Qa)}(hl:typeLookup (.type T) "__init__"=pure (some (.builtin "object.__init__")))
 (hm:Bind.madeBy (.type T)=pure (some newId)) (hne:(some newId != some "object.__new__")=true) :
 Meets (Builtin.«object.__init__» ⟨self::a::rest,kw⟩) (fun _ R s=>s.TypeIs self T/\R (.ok (.ret .none)) s):=by
 refine Meets.of_wp fun prog w A R s hs=>?_
 obtain⟨hT,hq⟩:=hs
 repeat (any_goals (first|assumption|wp_step))
 exact⟨_,rfl,hq⟩
end
theorem JaG(a b:Qa):checkTypeCall "enumerate" ⟨[a],[("start",b)]⟩=pure ():=by kernel_rfl
theorem Ja1(a b:Qa):checkBuiltinCall "enumerate.__new__" ⟨[.type "enumerate",a],[("start",b)]⟩=pure ():=by kernel_rfl
theorem Jah(o a b:Qa):argsOk "object.__init__" ⟨[o,a],[("start",b)]⟩:=by unfold argsOk;rw[signature?_of (id:="object.__init__") (n:=['_','_','t','i','n','i','_','_']) (o:=['t','c','e','j','b','o']) (by kernel_rfl) F.owner_object];kernel_rfl
abbrev JiA(it:Qc):Obj:={ cls:=.type "enumerate",data:=.fields #[.none,.bool false,.ref it,rawInt 1,.none,.none] }
section
variable{prog:Qm}{w:QB}{A:Qu}{E:Qa->Qd->Prop}{s:Qd}
theorem Zs{T newId:String}{Bn:Builtin}{a:Qa}{args:List Qa}{kw:List (Str×Qa)}{S:Spec}{Q:Qa->Qd->Prop}(ft:TypeCalled T newId "object.__init__")
 (hne:(some newId != some "object.__new__")=true) (hct:checkTypeCall T ⟨a::args,kw⟩=pure ()) (hcn:checkBuiltinCall newId ⟨.type T::a::args,kw⟩=pure ())
 (hok:∀obj,argsOk "object.__init__" ⟨obj::a::args,kw⟩) (entryN:entryFor table newId=some Bn) (g:Meets (Bn ⟨.type T::a::args,kw⟩) S)
 (h:S A.in1 (wants (fun obj s₁=>s₁.TypeIs obj T/\Q obj s₁) E) s):wpAny (model prog w) A (call (.type T) (a::args) kw) Q E s :=
 Wj ft hct hcn entryN F.entry_object_init g h fun obj _ hq=>⟨hq.1,hok obj,_,Vk ft.init.lookup ft.made hne,hq.1,rfl,hq.2⟩
end
section
variable{prog:Qm}{w:QB}{A:Qu}{E:Qa->Qd->Prop}{s:Qd}{b:Bool}{a e it:Qc}{xs:Array Qa}
theorem Jex{p:List Qc}{n i:Nat}{j:Int}{P:Nat->Qa->Prop}{S:Nat->QH->Prop}{old:Qa}{Q:Qa->Qd->Prop}(D:Draws prog w A it p n P S)(he:IsEnum s.heap e it j old)(st:S i s.heap)(hi:i<n)(hne:e∉p)(him:it∈p)
 (hQ:∀x h' tk t,P i x->IsEnumOut h' e it (j+1) x s.heap.objs.size->S (i+1) h'->h'.get? s.heap.objs.size=some { cls:=.type "tuple",data:=.seq #[.int j t,x] }->h'.objs.size=s.heap.objs.size+1 ->
  (∀c o,c≠e->c≠it->s.heap.get? c=some o->h'.get? c=some o)->Q (.ref s.heap.objs.size) { s with heap:=h',toks:=tk }) :
 wpAny (model prog w) A (Builtin.«enumerate.__next__» ⟨[.ref e],[]⟩) (fun fin s'=>∃v,fin=.done (.ret v)/\Q v s') E s:=by
 obtain⟨hp,g,d,tk,os⟩:=s;have ne:e≠it:=fun q=>hne (q▸him)
 show wpAny _ _ (field (.ref e) 2 >>= _) _ _ _;refine Qe (Q6 he rfl (x:=.ref it) rfl (Qe (D.item i _ _ _ hi st fun x k1 t1 px s1 e1=>?_)))
 replace e1:Q5 it hp k1:=e1;have E1:IsEnum k1 e it j old:=(e1.2 e ne).trans he;refine Qe (Q6 (s:=⟨k1,g,d,t1,os⟩) E1 rfl (x:=rawInt j) rfl ?_);show wpAny _ _ (field (.ref e) 4 >>= _) _ _ ⟨k1,g,d,t1,os⟩;refine Qe (Q6 (s:=⟨k1,g,d,t1,os⟩) E1 rfl (x:=.none) rfl ?_);show wpAny _ _ (mkInt j >>= _) _ _ ⟨k1,g,d,t1,os⟩;refine Qe (wpAny_mkInt ?_);show wpAny _ _ (setField (.ref e) 3 (rawInt (j+1)) >>= _) _ _ ⟨k1,g,d,t1+1,os⟩
 refine Qe (GH E1 (by simp) fun k2 E2 e2=>?_)
 replace e2:Q5 e k1 k2:=e2
 replace E2:IsEnum k2 e it (j+1) old:=E2;show wpAny _ _ (setField (.ref e) 4 .none >>= _) _ _ ⟨k2,g,d,t1+1,os⟩;refine Qe (GH E2 (by simp) fun k3 E3 e3=>?_)
 replace e3:Q5 e k2 k3:=e3
 replace E3:IsEnum k3 e it (j+1) old:=E3;show wpAny _ _ (newTuple [.int j t1,x] >>= _) _ _ ⟨k3,g,d,t1+1,os⟩;refine Qe (wpAny_newTuple ?_);have hsz:k3.objs.size=hp.objs.size:=by rw[e3.1,e2.1,e1.1]
 have elt:e<hp.objs.size:=Qj he
 have E4:IsEnum (k3.push { cls:=.type "tuple",data:=.seq #[.int j t1,x] }) e it (j+1) old:=Qf _ E3
 have T4:(k3.push { cls:=.type "tuple",data:=.seq #[.int j t1,x] }).get? hp.objs.size=some { cls:=.type "tuple",data:=.seq #[.int j t1,x] }:=by rw[<- hsz];exact QA _ rfl
 have z4:(k3.push { cls:=.type "tuple",data:=.seq #[.int j t1,x] }).objs.size=hp.objs.size+1:=by rw[GB,hsz]
 have kp:∀c o,c≠e->k1.get? c=some o->(k3.push { cls:=.type "tuple",data:=.seq #[.int j t1,x] }).get? c=some o:=fun c o c1 q=>Qf _ (e3.extBut c o c1 (e2.extBut c o c1 q))
 show wpAny _ _ (Kc (.ref e) >>= _) _ _ ⟨k3.push { cls:=.type "tuple",data:=.seq #[.int j t1,x] },g,d,t1+1,os⟩;rw[hsz]
 generalize k3.push { cls:=.type "tuple",data:=.seq #[.int j t1,x] }=k4 at E4 T4 z4 kp ⊢
 refine Qe ?_;unfold Kc;refine Qe (Q6 (s:=⟨k4,g,d,t1+1,os⟩) E4 rfl (x:=.none) rfl (QE ?_));simp only[if_true];refine Qe (wpAny_rule (Qe (Q6 (s:=⟨k4,g,d,t1+1,os⟩) E4 rfl (x:=old) rfl (Qe (GH E4 (by simp) fun k5 E5 e5=>?_)))))
 replace e5:Q5 e k4 k5:=e5
 replace E5:IsEnum k5 e it (j+1) x:=E5;show wpAny _ _ (G7 (.ref e) (.ref hp.objs.size) >>= _) _ _ ⟨k5,g,d,t1+1,os⟩;refine Qe ?_;unfold G7;refine Qe (GH E5 (by simp) fun k6 E6 e6=>?_)
 replace e6:Q5 e k5 k6:=e6
 replace E6:IsEnumOut k6 e it (j+1) x hp.objs.size:=E6;refine GH E6 (by simp) fun k7 E7 e7=>?_
 replace e7:Q5 e k6 k7:=e7
 replace E7:IsEnumOut k7 e it (j+1) x hp.objs.size:=E7;have up:∀c o,c≠e->k4.get? c=some o->k7.get? c=some o:=fun c o c1 q=>e7.extBut c o c1 (e6.extBut c o c1 (e5.extBut c o c1 q))
 refine Qe (wpAny_letGo (QE ⟨_,rfl,hQ x k7 (t1+1) t1 px E7 ?_ (up _ _ (G1 elt) T4) (by rw[e7.1,e6.1,e5.1,z4]) fun c o c1 c2 q=>up c o c1 (kp c o c1 (e1.extBut c o c2 q))⟩));exact D.frame _ _ _ s1 fun c hc o q=>up c o (fun z=>hne (z▸hc)) (kp c o (fun z=>hne (z▸hc)) q)
theorem Jgf{p:List Qc}{n:Nat}{j:Int}{P:Nat->Qa->Prop}{S:Nat->QH->Prop}{old:Qa}{Q:Fin->Qd->Prop}(D:Draws prog w A it p n P S)(he:IsEnum s.heap e it j old)(st:S n s.heap)
 (hE:∀h' x tk,Heap.ExtBut it s.heap h'->(∃o,h'.get? x=some o/\o.cls=.type "StopIteration")->E (.ref x) { s with heap:=h',toks:=tk }) :
 wpAny (model prog w) A (Builtin.«enumerate.__next__» ⟨[.ref e],[]⟩) Q E s:=by
 show wpAny _ _ (field (.ref e) 2 >>= _) _ _ _;refine Qe (Q6 he rfl (x:=.ref it) rfl (Qe (D.done _ _ _ st fun k1 x e1 hx=>?_)));exact hE k1 x s.toks e1 hx
end
end PySem
namespace L2
open PySem PySem.Spec PyProof.Rows
theorem Z3{M:Model}{A:Qu}{E:Qa->Qd->Prop}{s:Qd}{env:Env}{pos:Pos}{T:String}{e:QO}{rest:List QO}{kws:List KL}{Q:Qa->Qd->Prop}
 (h:wpAny M A (spliced (backTo pos (starEach (e::rest) env))) (fun vs s₁=>wpAny M A (evalAll ((backToKw pos (keywordEach kws env)).map (·.2)))
  (fun kvs s₂=>wpAny M A (call (.type T) vs (((backToKw pos (keywordEach kws env)).filterMap (·.1)).zip kvs)) Q E s₂) E s₁) E s)
 (he:backTo pos (starEach (e::rest) env)=(false,eval e env)::backTo pos (starEach rest env):=by rfl)
 (hplain:(backTo pos (starEach (e::rest) env)).any (·.1)=false:=by rfl)
 (hall:(backToKw pos (keywordEach kws env)).all (·.1.isSome)=true:=by rfl)
 (hkw:(backToKw pos (keywordEach kws env)).any (·.1.isNone)=false:=by rfl) :
 wpAny M A (callWith pos (.type T) [] (backTo pos (starEach (e::rest) env)) (backToKw pos (keywordEach kws env))) Q E s:=by
 have h2:wpAny M A (evalArgs (.type T) true (backTo pos (starEach (e::rest) env)) (backToKw pos (keywordEach kws env))) (fun a s₁=>wpAny M A (call (.type T) ([]++a.pos) a.kw) Q E s₁) E s:=by rw[he] at h ⊢;exact evalArgs_kwB hall h
 unfold callWith;refine Qe (Gq (QZ h2 (fun a s₁ h₁=>Qe (G8 ?_)) fun _ _ x=>x));simp only[hplain,hkw,Kz];refine Qe (QE ?_);exact Qe (QZ h₁ (fun r s₂ hr=>Qe (Gq (wpAny_point (QE hr)))) fun _ _ x=>x)
end L2
namespace LE
open PySem L2 LR
section
variable{K:Qn}{C:Qc}{m:Bool}
end
end LE

namespace L2
open PySem PySem.Spec PyProof.Rows PySem.Calls
section
variable{X:Cx}{K:Qn}{e:QO}{te:TE}{p2 pos:Pos}
end
end L2
namespace LE
open PySem L2 LR
section
variable{K:Qn}{C:Qc}{te:TE}{ea:Ev}
end
end LE

namespace LE
open PySem L2 LR
section
variable{K:Qn}{C:Qc}
end
end LE

namespace L2
open PySem PySem.Spec PyProof.Rows
structure Blk1 (X:Cx) (sc:KN) (cl:List (Str×Qc)) (y:Str) (N':List Str) (imp:List (Option Nat)):Prop where
 clos:closureFor sc X.env=pure cl
 kind:sc.kind=.function
 cf:∀n,cellsFrom n sc.names cl=(y,n)::cl
 cf0:∀n,cellsFrom n sc.names []=[(y,n)]
 names:∀y∈sc.names,y.2=.local->sc.names.lookup y.1=some .local
 sub:∀p∈cl,X.env.cells.lookup p.1=some p.2
 has:∀z∈(relabel sc X.env).names,(z.2=.cell\/z.2=.free)->z.1=y\/(cl.lookup z.1).isSome=true
 len:imp.length=N'.length
 im:∀p∈imp.zip N',∀k,p.1=some k->p.2≠y/\X.N[k]?=some p.2/\(X.env.scope.names.lookup p.2=some .cell\/X.env.scope.names.lookup p.2=some .free)/\((relabel sc X.env).names.lookup p.2=some .cell\/(relabel sc X.env).names.lookup p.2=some .free)
section
variable{X:Cx}{tg iter elt:QO}{ifs:List QO}{sc:KN}{cl:List (Str×Qc)}{y:Str}{N':List Str}{imp:List (Option Nat)}{pos:Pos}{wi:TI}{g:TG}{tt:TT}{te:TE}
theorem Blk1.subL(B:Blk1 X sc cl y N' imp):∀x c,cl.lookup x=some c->X.env.cells.lookup x=some c:=fun x c e=>B.sub (x,c) (Us e)
end
end L2

namespace L2
open PySem PySem.W PyProof.Rows
structure Pm (p:Array Nat) (N:Nat):Prop where
 size:p.size=N
 low:∀a,a<N->p.getD a 0<N
 inj:∀a b,a<N->b<N->p.getD a 0=p.getD b 0->a=b
theorem Jjf{l:List Nat}(nd:l.Nodup){a b:Nat}(h1:a<l.length)(h2:b<l.length)(e:l[a]=l[b]):a=b:=by
 rcases Nat.lt_trichotomy a b with c|c|c
 ·exact absurd e (G5.mp nd a b h1 h2 c)
 ·exact c
 ·exact absurd e.symm (G5.mp nd b a h2 h1 c)
theorem Pm.of{p:Array Nat}{N:Nat}(h:p.toList.Perm (QV N)):Pm p N:=by
 have hz:p.size=N:=by have:=h.length_eq;simpa using this
 have get:∀a,a<N->p.toList[a]?=some (p.getD a 0):=fun a ha=>by rw[Kt,Array.getElem?_eq_getElem (by omega)];simp[Array.getD,show a<p.size by omega]
 refine⟨hz,fun a ha=>?_,fun a b ha hb e=>?_⟩
 ·have:=h.mem_iff.mp (QY (get a ha))
  simpa using this
 ·have nd:p.toList.Nodup:=h.nodup_iff.mpr List.nodup_range
  have ga:=get a ha
  have gb:=get b hb;rw[e] at ga;obtain⟨h1,e1⟩:=Qh.mp ga;obtain⟨h2,e2⟩:=Qh.mp gb;exact Jjf nd h1 h2 (e1.trans e2.symm)
section
variable{N:Nat}{lt:Nat->Nat->Bool}{cmp:Nat->Nat->(Bool->Qd->Prop)->Qd->Prop}{I:Qd->Prop}
end
end L2

namespace L2
open PySem PySem.W PyProof.Rows
section
variable{prog:Qm}{w:QB}{A:Qu}{E:Qa->Qd->Prop}{s:Qd}
end
end L2

namespace L2
open PySem PySem.W PyProof.Rows
noncomputable abbrev PrI:=Int×Int
noncomputable def TupP(h:QH)(v:Qa)(p:PrI):Prop:=∃a o n t u,v=.ref a/\h.get? a=some o/\o.cls=.type "tuple"/\o.data=.seq #[.int p.1 t,.int p.2 u] n
section
variable{prog:Qm}{w:QB}{A:Qu}{E:Qa->Qd->Prop}{s:Qd}
theorem TupP.off{h h1:QH}{a:Qc}{vs:Array Qa}{n:Nat}{v:Qa}{p:PrI}(ho:h.get? a=some (seqObj "list" vs n))(keep:∀b ob,b≠a->h.get? b=some ob->h1.get? b=some ob)(t:TupP h v p):TupP h1 v p:=by obtain⟨b,o,m,t,u,rfl,hb,hc,hd⟩:=t;refine⟨b,o,m,t,u,rfl,keep b o (fun e=>?_) hb,hc,hd⟩;subst e;rw[ho] at hb;cases hb;have z:(Value.type "list":Qa)=.type "tuple":=hc;exact absurd z (by decide)
end
end L2

namespace L2
open PySem PySem.Spec PySem.W PyProof.Rows
section
variable{prog:Qm}{w:QB}{A:Qu}{E:Qa->Qd->Prop}{s:Qd}
end
section
variable{X:Cx}
end
end L2

namespace L2
open PySem PySem.Spec PySem.W PyProof.Rows
noncomputable def RawD(h:QH)(d:Qc)(es:Array DictEntry)(ep:Nat):Prop:=∃o,h.get? d=some o/\o.ExactDict/\o.data=.dict es ep
section
variable{prog:Qm}{w:QB}{A:Qu}{E:Qa->Qd->Prop}{s:Qd}{it d v:Qc}{i ep:Nat}{es:Array DictEntry}
theorem RawD.at{h h':QH}(x:RawD h d es ep)(e:∀o,h.get? d=some o->h'.get? d=some o):RawD h' d es ep:=let ⟨o,ho,r⟩:=x;⟨o,e _ ho,r⟩
theorem RawD.lt{h:QH}(x:RawD h d es ep):d<h.objs.size:=let ⟨_,ho,_⟩:=x;Qj ho
end
end L2

namespace L2
open PySem PySem.Spec PySem.W PyProof.Rows
theorem KT.get{H:Hp}:∀{kvs:List (List Key×V)} {xs:List (List Key×Qc×Qa)},KT H kvs xs->kvs.length=xs.length/\∀(i:Nat) (k:List Key×V) (x:List Key×Qc×Qa),kvs[i]?=some k->xs[i]?=some x->k.1=x.1/\H x.2.1=some (.tup (k.1.map kV))
 | _,_,.nil=>⟨rfl,fun i k x e=>by simp at e⟩
 | _,_,.cons h t=>by
  obtain⟨h1,h2⟩:=KT.get t;refine⟨by simp[h1],fun i k x e1 e2=>?_⟩
  cases i with
  | zero=>simp at e1 e2;subst e1 e2;exact⟨h.1,h.2.1⟩
  | succ i=>exact h2 i k x (by simpa using e1) (by simpa using e2)
end L2

namespace L2
open PySem PySem.Spec PySem.W PyProof.Rows
end L2
namespace LE
open PySem L2 LR
section
variable{K:Qn}{C:Qc}{Hs H0 H:Hp}
end
noncomputable def Sl.dt:Sl->Option (List (Int×Int)×List D)
 | .bt ks ds=>some (ks,ds)
 | .ot ks ds=>some (ks,ds)
 | _=>none
noncomputable def pr?:Sl->Option (Int×Int)
 | .sh (.tup [.int a,.int b])=>some (a,b)
 | _=>none
section
variable{K:Qn}{C:Qc}{Hs H0 H:Hp}{td ty te tk1 tk2:TE}{ed ek ea k1 k2:Ev}
theorem RR.dt{v:V}{s:Sl}{p:List (Int×Int)×List D}(r:RR K C Hs H0 H v s)(e:s.dt=some p):∃l xs,v=.ref l/\H l=some (dtO p.1 xs)/\p.1.length=p.2.length/\RDL K C H0 xs p.2:=by
 cases s with
 | bt ks ds=>cases e;exact r
 | ot ks ds=>cases e;obtain⟨l,xs,h1,h2,_,_,h3⟩:=r;exact⟨l,xs,h1,h2,h3⟩
 | _=>cases e
noncomputable def JkR:List Sl->Option (Int×Int)
 | [.sh (.int a),.sh (.int b)]=>some (a,b)
 | _=>none
end
end LE

namespace LE
open PySem L2 LR
section
variable{K:Qn}{C:Qc}
theorem RDL.eraseIdx{H:Hp}:∀{xs:List V} {ds:List D} (k:Nat),RDL K C H xs ds->RDL K C H (xs.eraseIdx k) (ds.eraseIdx k)
 | [],[],_,h=>by simpa using h
 | [],_::_,_,h=>by have:=h.1;simp at this
 | _::_,[],_,h=>by have:=h.1;simp at this
 | x::xs,d::ds,0,h=>by simpa using h.tail
 | x::xs,d::ds,k+1,h=>by rw[Kk,Kk];exact .cons h.head (RDL.eraseIdx k h.tail)
end
end LE

namespace LE
open PySem L2 LR
section
variable{X:Cx}
end
section
variable{K:Qn}{C:Qc}
end
end LE

namespace L2
open PySem
noncomputable def Ris(xs:Array Nat):Prop:=xs.toList.Pairwise (·<·)
theorem Ris.lt{xs:Array Nat}(r:Ris xs){i j:Nat}(h:i<j)(hj:j<xs.size):xs[i]'(by omega)<xs[j]:=by
 have:=G5.mp r i j (by simp;omega) (by simpa using hj) h
 simpa using this
noncomputable def TOk(led:Bool)(t:SetTable):Prop:=(t.plain=true->Ris t.place)/\t.led=led
end L2

namespace L2
open PySem PyProof.Rows
structure SetS (prog:Qm) (w:QB) (led:Bool) (h:QH) (a:Qc) (S:Int->Bool) (n:Nat) (o:Obj) (es:Array (Int×Qa)) (ep:Nat) (t:SetTable):Prop where
 got:h.get? a=some o
 ex:o.ExactSet
 data:o.data=.set es ep t
 els:ElemsOf (intKind prog w) es.toList
 mem:∀k,S k=true↔∃e∈es.toList,(intKind prog w).is k e.2=true
 few:es.size<scanBound
 fits:t.fits es.size=true
 size:es.size=n
 tok:TOk led t
noncomputable def SetL(prog:Qm)(w:QB)(led:Bool)(h:QH)(a:Qc)(S:Int->Bool)(n:Nat):Prop:=∃o es ep t,SetS prog w led h a S n o es ep t
section
variable{prog:Qm}{w:QB}{A:Qu}{E:Qa->Qd->Prop}{s:Qd}{led:Bool}{a:Qc}{S:Int->Bool}{n:Nat}
theorem SetL.as{h:QH}{S':Int->Bool}{n':Nat}(x:SetL prog w led h a S n)(e:∀k,S k=S' k)(en:n=n'):SetL prog w led h a S' n':=by have:S=S':=funext e;subst this en;exact x
end
section
variable{prog:Qm}{w:QB}{A:Qu}{R:Lu->Qd->Prop}{I:Qc}{fp wr:List Qc}{G:Array GenState->Array GenState->Prop}{n:Nat}{P:Nat->Qa->Prop}{St:Nat->Qd->Prop}
end
end L2

namespace L2
open PySem PyProof.Rows
section
variable{prog:Qm}{w:QB}{A:Qu}{E:Qa->Qd->Prop}{s:Qd}
end
end L2

namespace L2
open PySem PyProof.Rows PySem.W
end L2

namespace L2
open PySem PyProof.Rows PySem.W
noncomputable def SIt(h:QH)(I d:Qc)(f:Qa)(i n ep:Nat):Prop:=∃o,h.get? I=some o/\o.cls=.type "set_iterator"/\o.data=.fields #[f,.int i 0,.ref d,.int n 0,.int ep 0]
section
variable{prog:Qm}{w:QB}{A:Qu}{E:Qa->Qd->Prop}{s:Qd}{I d:Qc}{f:Qa}{i n ep:Nat}{es:Array (Int×Qa)}{t:SetTable}{o:Obj}
theorem SIt.type{s:Qd}(x:SIt s.heap I d f i n ep):s.TypeIs (.ref I) "set_iterator":=let ⟨o,ho,hc,_⟩:=x;⟨o,ho,hc⟩
theorem SIt.at{h h':QH}(x:SIt h I d f i n ep)(e:∀o,h.get? I=some o->h'.get? I=some o):SIt h' I d f i n ep:=let ⟨o,ho,r⟩:=x;⟨o,e _ ho,r⟩
noncomputable def SHas(h:QH)(d:Qc)(es:Array (Int×Qa))(ep:Nat)(t:SetTable):Prop:=∃o,h.get? d=some o/\o.ExactSet/\o.data=.set es ep t
theorem SHas.at{h h':QH}(x:SHas h d es ep t)(e:∀o,h.get? d=some o->h'.get? d=some o):SHas h' d es ep t:=let ⟨o,ho,r⟩:=x;⟨o,e _ ho,r⟩
end
end L2

namespace L2
open PySem PyProof.Rows PySem.W PySem.Spec
section
variable{prog:Qm}{w:QB}{A:Qu}{E:Qa->Qd->Prop}{s:Qd}{d:Qc}{ep:Nat}{es:Array (Int×Qa)}{t:SetTable}
end
section
variable{X:Cx}
theorem PE.imp{e:QO}{t1 t2:TE}(h:PE X e t1)(i:∀σ H Q,t2 σ H Q->t1 σ H Q):PE X e t2:=fun pins s σ H Q I x=>h pins s σ H Q I (i σ H Q x)
end
section
variable{X:Cx}{e:QO}{te:TE}{p1 p2 q1 q2:Pos}
end
end L2

namespace LE
open PySem L2 LR
section
variable{K:Qn}{C:Qc}{td:TE}{ed:Ev}
end
end LE

namespace L2
open PySem PyProof.Rows PySem.W PySem.Spec
noncomputable def Jif:R2:=fun x y H Q=>∃a b,x=.bl a/\y=.bl b/\Q (.bl (!decide (a=b))) H
section
variable{X:Cx}
theorem JcO:OpR X (compareOp .IsNot) Jif:=by
 intro pins s σ H x y v u Q I rx ry h;obtain⟨a,b,rfl,rfl,q⟩:=h;cases rx;cases ry;have e:∀a b:Bool,wpAny (model X.prog X.w) X.A (compareOp .IsNot (.bool a) (.bool b)) (EP X pins σ Q) X.xe s=wpAny (model X.prog X.w) X.A (pure (Value.bool (!(Value.bool a == Value.bool b)))) (EP X pins σ Q) X.xe s:=fun a b=>rfl
 rw[e];exact QE (JH I q (by cases a <;> cases b <;> rfl))
end
end L2
namespace LE
open PySem L2 LR
noncomputable def YO:Sl->Sl->Option Sl
 | .sh (.bl a),.sh (.bl b)=>some (.sh (.bl (!decide (a=b))))
 | _,_=>none
theorem JbM(a b:Bool):YO (.sh (.bl a)) (.sh (.bl b))=some (.sh (.bl (!decide (a=b)))):=rfl
section
variable{K:Qn}{C:Qc}
theorem Ja3:OpS K C Jif YO:=by
 intro Hs H0 H x y a b c Q i hs ra rb e q;unfold YO at e;split at e
 ·cases e;exact⟨_,_,RD.blI ra,RD.blI rb,q _ _ _ (.refl i) (RD.bl _)⟩
 ·cases e
end
end LE

namespace L2
open PySem PyProof.Rows PySem.W PySem.Spec
end L2
namespace LE
open PySem L2 LR
section
variable{K:Qn}{C:Qc}
end
end LE

namespace L2
open PySem PyProof.Rows PySem.W PySem.Spec
section
variable{prog:Qm}{w:QB}{A:Qu}{E:Qa->Qd->Prop}{s:Qd}
end
section
variable{prog:Qm}{w:QB}{A:Qu}{R:Lu->Qd->Prop}{I:Qc}{fp wr:List Qc}{G:Array GenState->Array GenState->Prop}{n:Nat}{P:Nat->Qa->Prop}{St:Nat->Qd->Prop}
end
section
variable{prog:Qm}{w:QB}{A:Qu}{E:Qa->Qd->Prop}{s:Qd}
end
end L2

namespace L2
open PySem PyProof.Rows PySem.W PySem.Spec
end L2
namespace LE
open PySem L2 LR
noncomputable def prs?:List D->Option (List PrI)
 | []=>some []
 | .tup [.int a,.int b]::r=>(prs? r).map ((a,b)::·)
 | _=>none
theorem JcX:∀ps:List PrI,prs? (ps.map prE)=some ps
 | []=>rfl
 | p::ps=>by show(prs? (ps.map prE)).map _=_;rw[JcX ps];rfl
section
variable{K:Qn}{C:Qc}{td:TE}{ed:Ev}
end
end LE

namespace LE
open PySem L2 LR
noncomputable def ifB(f:Sl->Sl->Option Sl)(d:D)(ew:Ev)(a b:Es):Es:=fun E=>((ew E).bind fun s=>(f (.sh d) s).bind bool?).bind fun k=>if k=true then a E else b E
section
variable{K:Qn}{C:Qc}{r:R2}{f:Sl->Sl->Option Sl}{j:Nat}{ty tx tw:TE}{ek ev ew:Ev}{t u:TS}{et eu:Es}
end
end LE

namespace LE
open PySem L2 LR
section
variable{K:Qn}{C:Qc}{Hs H0 H:Hp}{td tx:TE}{ed ex:Ev}
end
end LE

namespace L2
open PySem PySem.Spec PyProof.Rows
end L2
namespace LE
open PySem L2 LR
section
variable{K:Qn}{C:Qc}{te:TE}{ea:Ev}
end
theorem JgV{x y:Int}{α:Type}{r:α}(h:x.natAbs<=10 ^ 200/\y.natAbs<=10 ^ 200):(if (WE x && WE y)=true then some r else none)=some r:=by rw[if_pos];simp only[QL,WE,GG];exact h
end LE

namespace LE
open PySem L2 LR
end LE

namespace L2
open PySem PySem.Spec PyProof.Rows
section
variable{X:Cx}{pos:Pos}
theorem pgN(i:Nat){x:Str}(hN:X.N.Nodup)(hi:X.N[i]?=some x:=by rfl)(hx:Loc X.env.scope x:=by exact Or.inl rfl)(hf:X.fn x=true\/X.env.scope.names.lookup x=some .local:=by exact Or.inr rfl):PG X (.Name x pos) (U8 i):=J8 hN hi hx hf
theorem psN(i:Nat){x:Str}{e:QO}{te:TE}{pos':Pos}(hN:X.N.Nodup)(he:PE X e te)(hi:X.N[i]?=some x:=by rfl)(hx:Loc X.env.scope x:=by exact Or.inl rfl)(hs:swapsWith e (some (.Name x pos')) pos.line X.env=pure false:=by rfl)(hf:X.fn x=true\/X.env.scope.names.lookup x=some .local:=by first|exact .inl rfl|exact .inr rfl|assumption):PS X (.Assign [.Name x pos'] e pos) (Zz te (U8 i)):=Jfp hN hi hx he hs hf
theorem pxK(K:Qn){a b:QO}{ta tb:TE}(ha:PE X a ta)(hb:PE X b tb)(hK:X.K=K:=by rfl)(hs:Jcn b:=by exact fun _ _=>rfl):PE X (.Subscript a b pos) (tOp (rIx K) ta tb):=Jk1 (JgJ hK) ha hb hs
theorem piK(K:Qn){tg l:QO}{tl:TE}(hl:PE X l tl)(hK:X.K=K:=by rfl):PI X tg l (JbO K tl):=Jhc hK hl
theorem hrM{j k:Nat}{A:Qu}(r:Room k A)(h:j<=k:=by decide):Room j A:=r.mono h
end
end L2
namespace LE
open PySem PyProof.Rows L2 LR
structure PB (P:Qm) (w:QB) (base:QH):Prop where
section
variable{P:Qm}{w:QB}{K:Qn}{mg:Str->Option Qa}{base:QH}{x y q:Str}{st:Ga}{f:Qc}{fd:QC}{k:Nat}{ps:List Str}{sp:Sp}
theorem Yq(Z:PB P w base)(F:Fun K x q st f fd)(o:FnOk P w K mg base CX0 k f fd ps sp)(m:mg y=some (.ref f))
 (h:∀(kV doc pm:Qa) (an:Option Qc) (cdv ct:Qa) (us:List Qa),us.length=ps.length->bindArgs (fnOf x q (Y5 st) (Ys st) (Jn st) .none kV doc pm an cdv ct) ⟨us,[]⟩=pure (ps.zip us)):Cal P w K mg base y k ps sp:=⟨f,fd,o,m,F.kp,F.binds h⟩
theorem Z2(Z:PB P w base)(F:Fun K x q st f fd)(o:FnOk P w K mg base (CX1 P w) k f fd ps sp)(m:mg y=some (.ref f))
 (h:∀(kV doc pm:Qa) (an:Option Qc) (cdv ct:Qa) (us:List Qa),us.length=ps.length->bindArgs (fnOf x q (Y5 st) (Ys st) (Jn st) .none kV doc pm an cdv ct) ⟨us,[]⟩=pure (ps.zip us)):CalX P w K mg base y k ps sp:=⟨f,fd,o,m,F.kp,F.binds h⟩
end
section
variable{P:Qm}{w:QB}{K:Qn}{C:Qc}{mg:Str->Option Qa}{base:QH}{x qual:Str}{st:Ga}{f:Qc}{fd:QC}{N ps:List Str}{k n:Nat}{b:Es}
theorem okE(F:Fun K x qual st f fd)(S:FnScope N ps (Jn st))(hn:n=ps.length)
 (hb:∀(cdv:Qa) (A:Qu) (outer:List Env) (s:Qd) (H:Hp) (E:XK),Room k (A.deeper (envOfC qual (Jn st) s.heap.objs.size f cdv))->(A.deeper (envOfC qual (Jn st) s.heap.objs.size f cdv)).units+64<cLine ->
  ∃t,PSs (WI CX0 P w K mg base N qual (Jn st) f cdv A outer s H E).nox (Ys st) t/\SS K C t b):FnOk P w K mg base CX0 (k+1) f fd ps (spE K C n (YV N.length b)) :=
 F.ok S (fun vs H Q E h=>(Jda h).trans hn) fun cdv A outer s H vs Q E hr h=>(hb cdv A outer s H E hr hr.units).elim fun t q=>⟨t,q.1,Jad q.2 h⟩
end
end LE

namespace L2
open PySem PySem.Spec PyProof.Rows
end L2
namespace LE
open PySem L2 LR
section
variable{K:Qn}{C:Qc}{te:TE}{ea:Ev}
end
theorem Jgd{y:Int}{α:Type}{r:α}(h:0<y/\y.natAbs<=10 ^ 200):(if (decide (0<y) && WE y)=true then some r else none)=some r:=by rw[if_pos];simp only[QL,WE,GG,decide_eq_true_eq];exact h
end LE

namespace L2
open PySem PySem.Spec PyProof.Rows
end L2
namespace LE
open PySem L2 LR
section
variable{K:Qn}{C:Qc}{td:TE}{ed:Ev}
end
end LE

namespace LE
open PySem L2 LR
section
variable{K:Qn}{C:Qc}{W:XK}{t:TS}{a b:Xv}
end
end LE

namespace L2
open PySem PySem.Spec PyProof.Rows PySem.Calls Builtin Builtin.ObjectAttr
section
variable{prog:Qm}{w:QB}{A:Qu}{E:Qa->Qd->Prop}{h:QH}{g:Array GenState}{d:Drawn}{t:Nat}{os:OsState}
variable{nm q:Str}{C N:Qc}{bs bm bmB:List Qa}{hdct:Bool}{sn:List Str}{sub:List Qa}{ab:Bool}{col:Option Bool}{dd:Option Qc}{k0 k1 k2 k3 k5:Option Qa}{B Bn newId nid initId inN:String}{bmN:List Qa}
theorem JeG(Fn:ExcBaseFacts Bn newId inN bmN)(hBn:bmB.contains (.type Bn)=true)(F:ExcBaseFacts B nid initId bmB)(T:OwnTail h bmB bm){mN:Str->Option Qa}{rest:List Qa}{fI:Qc}{oI:Obj}{Q:Fin->Qd->Prop}
 (hC:h.get? C=some (excClassObj nm q C N bs bm hdct sn sub ab col dd k0 k1 k2 k3 k5 newId)) (hn:h.Ns N mN) (hi:mN "__init__"=some (.ref fI)) (hfI:h.get? fI=some oI) (hfc:oI.cls=.type "function")
 (hq:∀h' e,Heap.MadeExcOf h h' e (.ref C) rest->wpAny (model prog w) A (call (.ref fI) (.ref e::rest)) (fun r s'=>r=.none/\Q (.done (.ret (.ref e))) s') E ⟨h',g,d,t,os⟩) (hrest:rest.length<=Qk) :
 wpAny (model prog w) A (Builtin.«type.__call__» ⟨.ref C::rest,[]⟩) Q E ⟨h,g,d,t,os⟩:=by
 repeat (first|with_reducible refine GU hC ?_|with_reducible refine wpAny_madeBy_exc hC ?_|wp_step)
 refine codeAny_call_builtin_code (KP _ Fn.quiet) (wpAny_check_new_subU Fn hBn T hC ?_);refine codeAny_exc_new_subU Fn hBn F T hC ?_ hrest;show wpAny _ _ _ _ _ _;have kp:∀b o,h.get? b=some o->((h.push { cls:=.type "tuple",data:=.seq rest.toArray }).push { cls:=.ref C,data:=.fields #[.ref h.objs.size,.none,.none,.none,.bool false,.none] }).get? b=some o:=fun b o e=>Qf _ (Qf _ e)
 have hC₁:=kp _ _ hC
 have hfI₁:=kp _ _ hfI
 have hn₁:=hn.keeps kp
 have T₁:=T.keeps kp
 have hget:((h.push { cls:=.type "tuple",data:=.seq rest.toArray }).push
  { cls:=.ref C,data:=.fields #[.ref h.objs.size,.none,.none,.none,.bool false,.none] }).get? (h.objs.size+1)=some
  { cls:=.ref C,data:=.fields #[.ref h.objs.size,.none,.none,.none,.bool false,.none] }:=by heap_get
 have hcC:(Value.ref C::bm).contains (.ref C)=true:=by simp
 unfold isInstance
 repeat (first|with_reducible refine GU hget ?_|(with_reducible refine wpAny_isSubtype_exc hC₁ ?_;rw[hcC])|wp_step)
 show wpAny _ _ (typeLookup (.ref C) _) _ _ _;refine wpAny_typeLookup_tail hC₁ hn₁ T₁ F.mroIs F.init.lookup ?_;rw[hi];refine Gq (Qe ?_);unfold bindSpecial;refine Qe (wpAny_typeOf (T:="function") ⟨_,hfI₁,hfc⟩ ?_);rw[if_pos (by decide)];refine QE (Qe (QZ (hq _ (h.objs.size+1) ⟨kp,GW (Nat.le_succ _),h.objs.size,hget,GW (Qr _),?_⟩) (fun r s' hr=>?_) fun _ _ x=>x))
 ·exact Qf _ (Heap.get?_push_at rfl rfl)
 ·obtain⟨rfl,hQ⟩:=hr;wp_walk;exact hQ
theorem JeE(Fn:ExcBaseFacts Bn newId inN bmN)(hBn:bmB.contains (.type Bn)=true)(F:ExcBaseFacts B nid initId bmB)(T:OwnTail h bmB bm){mN:Str->Option Qa}{rest:List Qa}{fI:Qc}{oI:Obj}{Q:Qa->Qd->Prop}
 (hC:h.get? C=some (excClassObj nm q C N bs bm hdct sn sub ab col dd k0 k1 k2 k3 k5 newId)) (hn:h.Ns N mN) (hi:mN "__init__"=some (.ref fI)) (hfI:h.get? fI=some oI) (hfc:oI.cls=.type "function")
 (hq:∀h' e,Heap.MadeExcOf h h' e (.ref C) rest->wpAny (model prog w) (A.under (.builtin "type.__call__" ⟨.ref C::rest,[]⟩)) (call (.ref fI) (.ref e::rest)) (fun r s'=>r=.none/\Q (.ref e) s') E ⟨h',g,d,t,os⟩) (hrest:rest.length<=Qk) :
 wpAny (model prog w) A (call (.ref C) rest) Q E ⟨h,g,d,t,os⟩:=by
 have f1:=tc_lookup
 have f2:=tc_bind (.ref C)
 have hT:(⟨h,g,d,t,os⟩:Qd).TypeIs (.ref C) "type":=⟨_,hC,rfl⟩
 refine Ku (codeAny_of_tree ?_);show wpAny _ _ (callAny (.ref C) _) _ _ _
 repeat (any_goals (first|assumption|with_reducible refine GU hC ?_|wp_step))
 refine⟨rfl,?_⟩;exact codeAny_call_builtin_at (KP _ (by decide +kernel)) entry_typeCall (wpAny_check_type_call_sub hC (JeG Fn hBn F T hC hn hi hfI hfc (fun h' e hm=>hq h' e hm) hrest))
theorem JeD(F:ExcBaseFacts B nid initId bmB)(T:OwnTail h bmB bm){e:Qc}{rest:List Qa}{oe:Obj}{vs:Array Qa}{Q:Qa->Qd->Prop}
 (hC:h.get? C=some (excClassObj nm q C N bs bm hdct sn sub ab col dd k0 k1 k2 k3 k5 newId)) (he:h.get? e=some oe) (hc:oe.cls=.ref C) {t0:Qc} (hd:oe.data=.fields vs) (hz:vs[0]?=some (.ref t0)) (hrest:rest.length<=Qk)
 (hq:∀h' tup,(∀b o,b≠e->h.get? b=some o->h'.get? b=some o)->h'.get? e=some (oe.mapFields (·.setIfInBounds 0 (.ref tup)))->Q .none ⟨h',g,d,t,os⟩) :
 wpAny (model prog w) A (call (.builtin initId) (.ref e::rest)) Q E ⟨h,g,d,t,os⟩:=by
 refine Ku (Gg F.init.plain F.initEntry (wpAny_check_init_subU F T hC he hc ?_));have hp:=Qf { cls:=.type "tuple",data:=.seq rest.toArray } he;have hne:h.objs.size≠e:=G1 (Qj he)
 repeat (first|(with_reducible refine Gv hp hd (QT.mp hz).1 ?_)|wp_step)
 rw[hd]
 repeat (first|(with_reducible refine Gv hp hd (QT.mp hz).1 ?_)|wp_step)
 rw[hz]
 repeat (first|(with_reducible refine Gv hp hd (QT.mp hz).1 ?_)|wp_step)
 refine hq _ h.objs.size (fun b o hb q=>?_) ?_
 ·rw[QU _ _ (Q0 hb)];exact Qf _ q
 ·exact Gb _ hp (GP (Gd hd _))
end
end L2
namespace L2
open PySem PySem.Spec PyProof.Rows PySem.Calls Builtin Builtin.ObjectAttr
noncomputable abbrev VEt:List Qa:=[.type "ValueError",.type "Exception",.type "BaseException",.type "object"]
noncomputable def JeU:Qa->Bool
 | .ref _=>true
 | _=>false
theorem Wh(self:Qa)(what:Str):∀l:List Qa,refuseLoop self what l=refuseLoop self what (l.dropWhile JeU)
 | []=>rfl
 | v::l=>by
  cases v with
  | ref c=>rw[refuseLoop_ref,Wh self what l];rfl
  | _=>rfl
noncomputable def JcP(K:Qn)(C:Qc):Bool:=(clsIn K C).any fun cd=>cd.mro.dropWhile JeU == VEt && cd.hasDict
section
variable{prog:Qm}{w:QB}{A:Qu}{R:Lu->Qd->Prop}{s:Qd}{K:Qn}{x C:Qc}{ox:Obj}{name:Str}{tk:Tok}{v:Qa}
theorem Jg4(X:K.In s.heap)(hx:s.heap.get? x=some ox)(hcl:ox.cls=.ref C)(hn:notCls ox=true)(hdn:ox.dict=none)(hov:JcP K C=true)(hm:mroIn K C (.type "object")=some true)(ht:takerIn K C name=some none)
 (h:∀h' tk',h'.get? x=some { ox with dict:=some s.heap.objs.size }->h'.Ns1 s.heap.objs.size (fun y=>if y=name then some v else none)->(∀b o,b≠x->s.heap.get? b=some o->h'.get? b=some o)->R (.ok (.ret .none)) { s with heap:=h',toks:=tk' }) :
 codeAny (model prog w) A (.call (.builtin "object.__setattr__") ⟨[.ref x,.str name tk,v],[]⟩) R s:=by
 have SF:=PySem.F.store_object
 have I:InstAt s.heap x ox C none:=⟨hx,hcl,hn,by rw[hdn];trivial⟩
 obtain⟨cd,hc,ho⟩:=any_some hov;rw[QL,beq_iff_eq] at ho;have sub:Looks (model prog w) s.heap (isInstance (.ref x) (.type "object")) true:=I.type.andThen (looks_mroIn X hm);refine Gg SF.slot.plain SF.entry (@PySem.W.check_slot (model prog w) _ _ s "object.__setattr__" "object" "__setattr__" (.ref x) [.str name tk,v] [] _ SF.kind SF.split sub (SF.args (.ref x) (.str name tk) v) ?_);obtain⟨attr,ha,hr⟩:=Option.bind_eq_some_iff.mp ht
 have hmr:Looks (model prog w) s.heap (mroOf (.ref C)) cd.mro:=(looks_clsIn X hc).andThen .now
 have L3:Looks (model prog w) s.heap (storeTaker? attr) none:=by
  cases attr with
  | none=>exact .now
  | some a =>
   obtain⟨b,hb,e⟩:=GI.mp hr;refine(PySem.W.looks_takesIn X hb).andThen ?_;cases b
   ·exact .now
   ·cases e
 rw[PySem.W.osa_eq,refuse_eq];refine Qe (Qe (I.type.here (Qe (hmr.here ?_))));rw[Wh,ho.1,PySem.F.store_ValueError.passes];refine QE (Qe (I.type.here (Qe ((looks_findIn X ha).here (Qe (L3.here ?_))))));obtain⟨oc,odi,oda,osl⟩:=ox;dsimp only at hcl hdn;subst hcl hdn;refine Qe (QE (Qe (Qe (Ls hx (Qe ((looks_clsIn X hc).here ?_))))));rw[ho.2];have hx₁:(s.heap.push { cls:=.type "dict",data:=.dict #[] }).get? x=some ⟨.ref C,none,oda,osl⟩:=Qf _ hx
 have hxs:x≠s.heap.objs.size:=QI (Qj hx)
 have hgd:((s.heap.push { cls:=.type "dict",data:=.dict #[] }).update x fun o=>{ o with dict:=some s.heap.objs.size }).get? s.heap.objs.size=some { cls:=.type "dict",data:=.dict #[] } :=
  (Heap.get?_update_ne _ _ _ _ hxs.symm).trans (Heap.get?_push_at rfl rfl)
 have hnd:((s.heap.push { cls:=.type "dict",data:=.dict #[] }).update x fun o=>{ o with dict:=some s.heap.objs.size }).Ns s.heap.objs.size (fun _=>none) :=
  ⟨_,#[],_,hgd,rfl,fun e he=>absurd he (by simp),fun _=>rfl⟩
 have hx2:((s.heap.push { cls:=.type "dict",data:=.dict #[] }).update x fun o=>{ o with dict:=some s.heap.objs.size }).get? x=some ⟨.ref C,some s.heap.objs.size,oda,osl⟩:=by refine Gb _ hx₁ ?_;have hfr:=(Heap.get?_some_iff.mp hx).2;cases oda <;> first | rfl | exact hfr
 have fin:wpAny (model prog w) A.in1 (storeInDict s.heap.objs.size (.str name tk) name v) (fun fin s'=>match fin with|.done f=>R (.ok f) s'|.again c'=>c'.quiet=true/\codeAny (model prog w) A c' R s') (fun e s'=>R (.error e) s')
  { s with heap:=(s.heap.push { cls:=.type "dict",data:=.dict #[] }).update x fun o=>{ o with dict:=some s.heap.objs.size } }:=by
  unfold storeInDict newKeyGuard;refine Qe (QE (Qe (wpAny_nsSet1 (LS hnd) fun h' hn' hs=>?_)));obtain⟨oD,esD,epD,hoD,hdD,hcD⟩:=hn'.count (Within.cons name v Within.nil);refine Qe (wpAny_lookBehind hoD (by rw[hdD];exact pastItsLine_dict (QQ hcD (by rw[Qp,QP,sizeLine_eq];omega))) ?_);refine QE (h h' _ ((hs.2 x hxs).trans hx2) hn' fun b o hb q=>?_);exact(hs.2 b (QI (Qj q))).trans ((Heap.get?_update_ne _ _ _ _ hb).trans (Qf _ q))
 cases oda with
 | cls _=>cases hn
 | _=>refine Qe (wpAny_alloc' ?_);refine Qe (wpAny_update' hx₁ ?_);exact QE fin
end
end L2
namespace L2
open PySem PySem.Spec PyProof.Rows PySem.Calls Builtin Builtin.ObjectAttr
section
variable{prog:Qm}{w:QB}{A:Qu}{E:Qa->Qd->Prop}{s:Qd}{K:Qn}{x C:Qc}{ox:Obj}{name:Str}{v:Qa}
theorem JhK{Q:Unit->Qd->Prop}(X:K.In s.heap)(hx:s.heap.get? x=some ox)(hcl:ox.cls=.ref C)(hn:notCls ox=true)(hdn:ox.dict=none)(hov:JcP K C=true)(hm:mroIn K C (.type "object")=some true)(ht:takerIn K C name=some none)
 (hs:findIn K (.ref C) "__setattr__"=some (some (.builtin "object.__setattr__")))
 (h:∀h' tk',h'.get? x=some { ox with dict:=some s.heap.objs.size }->h'.Ns1 s.heap.objs.size (fun y=>if y=name then some v else none)->(∀b o,b≠x->s.heap.get? b=some o->h'.get? b=some o)->Q () { s with heap:=h',toks:=tk' }) :
 wpAny (model prog w) A (setAttr (.ref x) name v) Q E s :=
 LQ X (ox:=ox) (od:=none) ⟨hx,hcl,hn,by rw[hdn];trivial⟩ hs (Jg4 (s:={ s with toks:=s.toks+1 }) X hx hcl hn hdn hov hm ht fun h' tk' a b c=>h h' tk' a b c)
theorem Jgl{Q:Qa->Qd->Prop}{expr:Bool}{od:Option Obj}(X:K.In s.heap)(I:InstAt s.heap x ox C od)(hga:findIn K (.ref C) "__getattribute__"=some (some (.builtin "BaseException.__getattribute__")))
 (hgn:findIn K (.ref C) "__getattr__"=some none) (hmB:mroIn K C (.type "BaseException")=some true)
 (hf:findObj K C od name=some (.value v)) (hv:handedIn v=true)
 (h:Q v { s with toks:=s.toks+1 }):wpAny (model prog w) A (getAttr (.ref x) name expr) Q E s:=by
 obtain⟨hh,g,d,t,os⟩:=s;have L0:=I.type (M:=model prog w);have L1:=looks_findIn (M:=model prog w) X hga;have L2:=looks_findIn (M:=model prog w) X hgn;have f3:=Gp.ga.bind (.ref x);have hx2:(Value.builtin "BaseException.__getattribute__" == Value.builtin "object.__getattribute__")=false:=by decide +kernel
 have hx1:(onTheHeap (Value.ref C) && Value.builtin "BaseException.__getattribute__" == Value.builtin "object.__getattribute__")=false:=by rw[hx2];rfl
 have hx0:(expr && onTheHeap (Value.builtin "BaseException.__getattribute__"))=false:=by cases expr <;> rfl
 unfold getAttr getAttrBy
 repeat (any_goals (first|assumption|(with_reducible refine L0.at ?_)|(with_reducible refine L1.at ?_)|(with_reducible refine L2.at ?_)|wp_step))
 have LB:=looks_mroIn (M:=model prog w) X hmB
 have LF:=LN (M:=model prog w) X I hf
 have hk:builtinKind "BaseException.__getattribute__"=some .slot:=by decide +kernel
 have hsplit:splitId "BaseException.__getattribute__"=some ("BaseException","__getattribute__"):=by decide +kernel
 have hag:=Lz (.ref x) (Value.str name t);refine Gg Gp.ga.plain Lm ?_;simp only[Q1,GL,checkBuiltinCall,hk,hsplit];refine Qe ?_;unfold isInstance
 repeat (first|(with_reducible refine L0.at ?_)|(with_reducible refine LB.at ?_)|(with_reducible refine LF.at ?_)|wp_step)
 exact LX hv h
end
section
variable{M:Model}{A:Qu}{E:Qa->Qd->Prop}{s:Qd}{env:Env}
variable{nm q:Str}{C N:Qc}{bs bm bmB:List Qa}{hdct:Bool}{sn:List Str}{sub:List Qa}{ab:Bool}{col:Option Bool}{dd:Option Qc}{k0 k1 k2 k3 k5:Option Qa}{B Bn newId nid initId inN:String}{bmN:List Qa}
theorem JeF{x:Sem Qa}{Q:Flow->Qd->Prop}(hbase:bm.contains (.type "BaseException")=true)(hh:A.handled=none)
 (h:wpAny M A x (fun v s₁=>∃e oe vs,v=.ref e/\s₁.heap.get? C=some (excClassObj nm q C N bs bm hdct sn sub ab col dd k0 k1 k2 k3 k5 newId) ∧
  s₁.heap.get? e=some oe/\oe.cls=.ref C/\oe.data=.fields vs/\vs[1]?=some .none/\E (.ref e) s₁) E s) :
 wpAny M A (raiseStmt env (some x) none) Q E s:=by
 have hcB:(Value.ref C::bm).contains (.type "BaseException")=true:=by rw[List.contains_cons,hbase,Bool.or_true]
 unfold raiseStmt;refine Qe (QZ h (fun v s₁ h₁=>?_) fun _ _ x=>x);obtain⟨e,oe,vs,rfl,hC,he,hc,hd,hv1,hE⟩:=h₁;obtain⟨c0,d0,dt,sl⟩:=oe;cases hc;cases hd;obtain⟨hp,g,d,tk,os⟩:=s₁
 repeat (first|with_reducible refine GU he ?_|with_reducible refine GU hC ?_|(with_reducible refine wpAny_isSubtype_exc hC ?_;rw[hcB])|wp_step)
 rw[hv1];refine QE ?_;rw[if_neg (by decide)];exact QE (wpAny_raiseNew_none hh hE)
end
section
variable{prog:Qm}{w:QB}{A:Qu}{E:Qa->Qd->Prop}{s:Qd}{env:Env}
variable{nm q:Str}{C N:Qc}{bs bm bmB:List Qa}{hdct:Bool}{sn:List Str}{sub:List Qa}{ab:Bool}{col:Option Bool}{dd:Option Qc}{k0 k1 k2 k3 k5:Option Qa}{B Bn newId nid initId inN:String}{bmN:List Qa}
theorem Jdx(Fn:ExcBaseFacts Bn newId inN bmN)(hBn:bmB.contains (.type Bn)=true)(F:ExcBaseFacts B nid initId bmB){mN:Str->Option Qa}{x:Str}{np cpos pos:Pos}{args:List PySem.Expr}{fI:Qc}{oI:Obj}{Q:Flow->Qd->Prop}
 (hbase:bm.contains (.type "BaseException")=true) (hh:A.handled=none) (hplain:(backTo cpos (starEach args env)).any (·.1)=false) (hi:mN "__init__"=some (.ref fI)) (hfc:oI.cls=.type "function")
 (h:wpAny (model prog w) A (eval (.Name x np) env) (fun f s₁=>f=.ref C/\wpAny (model prog w) A (evalArgs (.ref C) true (backTo cpos (starEach args env)) [])
  (fun a s₂=>a.kw=[]/\a.pos.length<=Qk/\s₂.heap.get? C=some (excClassObj nm q C N bs bm hdct sn sub ab col dd k0 k1 k2 k3 k5 newId)/\s₂.heap.Ns N mN/\OwnTail s₂.heap bmB bm/\s₂.heap.get? fI=some oI ∧
   ∀h' e,Heap.MadeExcOf s₂.heap h' e (.ref C) a.pos->wpAny (model prog w) (A.under (.builtin "type.__call__" ⟨.ref C::a.pos,[]⟩)) (call (.ref fI) (.ref e::a.pos))
    (fun r s₃=>r=.none/\∃oe vs,s₃.heap.get? C=some (excClassObj nm q C N bs bm hdct sn sub ab col dd k0 k1 k2 k3 k5 newId)/\s₃.heap.get? e=some oe/\oe.cls=.ref C/\oe.data=.fields vs/\vs[1]?=some .none/\E (.ref e) s₃) E { s₂ with heap:=h' }) E s₁) E s) :
 wpAny (model prog w) A (exec (.Raise (some (.Call (.Name x np) args [] cpos)) none pos) env) Q E s:=by
 rw[arm_exec_Raise];refine Qe (G8 (JeF (C:=C) (nm:=nm) (q:=q) (N:=N) (bs:=bs) (bm:=bm) (hdct:=hdct) (sn:=sn) (sub:=sub) (ab:=ab) (col:=col) (dd:=dd) (k0:=k0) (k1:=k1) (k2:=k2) (k3:=k3) (k5:=k5) (newId:=newId) hbase hh (Qe (QZ (wpAny_Call_ofName (QZ h (fun f s₁ h₁=>?_) fun _ _ x=>x)) (fun v s₃ h₃=>Qe (G8 (QE h₃))) fun _ _ x=>x))));obtain⟨rfl,h₁⟩:=h₁;unfold callWith;refine Qe (Gq (QZ h₁ (fun a s₂ h₂=>Qe (G8 ?_)) fun _ _ x=>x))
 obtain⟨apos,akw⟩:=a;obtain⟨hkw,hlen,hC,hn,T,hfI,h₂⟩:=h₂;obtain rfl:akw=[]:=hkw;obtain⟨hp,g,d,tk,os⟩:=s₂;simp only[hplain];refine Qe (wpAny_keeperOf_exc hC ?_);refine Qe (JeE Fn hBn F T hC hn hi hfI hfc (fun h' e hm=>QZ (h₂ h' e hm) (fun r s₃ ⟨hr,oe,vs,k1,k2,k3,k4,k5,k6⟩=>⟨hr,Qe (Gq (wpAny_point (QE ?_)))⟩) fun _ _ z=>z) hlen);exact⟨e,oe,vs,rfl,k1,k2,k3,k4,k5,k6⟩
end
end L2

namespace L2
open PySem PySem.Spec PyProof.Rows PySem.Calls LE
noncomputable def Jcz(K:Qn)(C f:Qc):Bool:=match K.lookup C with
 | some ⟨.type "type",_,.cls cd,sl⟩=>(match cd.mro,sl.toList with
  | .ref C'::bm,[_,_,_,_,some (.builtin n),_]=>C' == C && n == "ValueError.__new__" && !cd.hasDel && PySem.W.tailIn K VEm bm && PySem.W.nsOkIn K cd.ns && nsIn K cd.ns "__init__" == some (some (.ref f))
  | _,_=>false)
 | _=>false
theorem JbZ{K:Qn}{h:QH}{N:Qc}{mg:Str->Option Qa}{n:Str}{v:Qa}(X:K.In h)(G:h.Ns N mg)(e:nsIn K N n=some (some v)):mg n=some v:=by
 obtain⟨o,es,ep,ho,hd,_,hf⟩:=G;unfold nsIn at e;split at e
 ·rename_i c d es' n' sl q;have:=X _ _ q;rw[ho] at this;cases this;cases hd;split at e
  ·rename_i en he;cases e;rw[<- hf];unfold nsFind findBy;rw[<- Array.find?_toList,he];rfl
  ·split at e <;> cases e
 ·cases e
theorem JcA{K:Qn}{h:QH}{C f:Qc}(X:K.In h)(q:Jcz K C f=true):∃bm N nm q bs hdct sn sub ab col dd k0 k1 k2 k3 k5 mN,h.get? C=some (excClassObj nm q C N bs bm hdct sn sub ab col dd k0 k1 k2 k3 k5 "ValueError.__new__")/\h.Ns N mN/\mN "__init__"=some (.ref f)/\OwnTail h VEm bm:=by
 unfold Jcz at q;split at q
 ·rename_i dd cd sl ho;split at q
  ·rename_i C' bm k0 k1 k2 k3 n k5 hm hs;simp only[QL,beq_iff_eq,Bool.not_eq_true'] at q;obtain⟨⟨⟨⟨⟨rfl,rfl⟩,hdel⟩,ht⟩,hok⟩,hni⟩:=q;obtain⟨nm,bs,mro,ns,qn,hd,sn,sub,ab,col,del⟩:=cd;dsimp only at hm hdel hok hni;subst hm hdel
   have hsl:sl=#[k0,k1,k2,k3,some (.builtin "ValueError.__new__"),k5]:=by obtain⟨l⟩:=sl;simp only at hs;rw[hs]
   subst hsl;have hN:h.Ns ns (h.nsMap ns):=.of_isNs (LL X hok);exact⟨bm,ns,nm,qn,bs,hd,sn,sub,ab,col,dd,k0,k1,k2,k3,k5,_,X _ _ ho,hN,JbZ X hN hni,LM X ht⟩
  ·cases q
 ·cases q
noncomputable def XN(a C:Qc)(d:Option Qc):HO:=.ext fun h=>∃o t0,h.get? a=some o/\o.cls=.ref C/\o.dict=d/\o.data=.fields #[.ref t0,.none,.none,.none,.bool false,.none]
noncomputable def ZX(C:Qc):Sp:=fun vs H Q _=>∃a k,vs=[.ref a,.int k]/\k.natAbs.log2<1920/\H a=some (XN a C none)/\∀D,D≠a->H D=none->Q .non (upd (upd H a (XN a C (some D))) D (.xd [("at",.int k)]))
theorem Jd5{C:Qc}{vs:List V}{H:Hp}{Q:VK}{E:XK}(h:ZX C vs H Q E):vs.length=2:=by obtain⟨a,k,rfl,_⟩:=h;rfl
section
variable{X:Cx}
theorem Jg9{i:Nat}{x z:Str}{p p1 p2 p3:Pos}{j:Nat}(hN:X.N[i]?=some x)(hv:Vis X.env.scope x)(hz:z.length<=1000)(hd:(x == ("__debug__":Str))=false:=by decide)(hcd:(x == ("__classdict__":Str))=false:=by decide) :
 PE X (.JoinedStr [.Constant (.str z) j p,.FormattedValue (.Name x p1) (-1) none p2] p3) (fun σ H Q=>∃k,σ[i]?=some (some (.int k))/\k.natAbs.log2<1920/\Q (.str (LA++z++(toString k:String))) H):=by
 intro pins s σ H Q I h;obtain⟨k,hk,hl,q⟩:=h;have e1:(LA++z).length<=1000:=by rw[strLen_append];show 0+z.length<=1000;omega
 have e2:(LA++z++Qy (toString k)).length<=Qk:=by have e:=int_text_length_le (k:=1920) (by decide) hl;rw[strLen_append,PySem.ofString_length,sizeLine_eq];omega
 refine wpAny_JoinedStr ?_;refine thn (Yh (X:=X) pins s σ H (fun v H'=>v=.str z/\H'=H) I ⟨rfl,rfl⟩) fun v s1 ⟨v1,H1,I1,r1,e3,e4⟩=>?_
 subst e3 e4;obtain⟨t,rfl⟩:=(show ∃t,v=Value.str z t from r1)
 refine⟨z,t,rfl,QQ e1 (by decide),?_⟩;refine wpAny_FormattedValue_plain (thn (Za hN hv hd hcd pins s1 σ H1 (fun v H'=>v=.int k/\H'=H1) I1 ⟨_,hk,rfl,rfl⟩) fun u s2 ⟨v2,H2,I2,r2,e5,e6⟩=>?_);subst e5 e6;obtain⟨t2,rfl⟩:=(show ∃t,u=Value.int k t from r2)
 refine wpAny_formatField_int hl ⟨Qy (toString k),_,rfl,e2,⟨e2,?_⟩⟩;exact⟨.str _,H2,I2.tok _,⟨_,rfl⟩,q⟩
end
end L2
namespace L2
open PySem PySem.Spec PyProof.Rows PySem.Calls LE
structure IniC (K:Qn) (C f B:Qc):Prop where
 ok:Jcz K C f=true
 fn:isFn K (.ref f)=true
 ov:JcP K C=true
 mo:mroIn K C (.type "object")=some true
 tk:takerIn K C "at"=some none
 sa:findIn K (.ref C) "__setattr__"=some (some (.builtin "object.__setattr__"))
 rd:PySem.W.readsIn K B (.type "type")=true
 fc:PySem.W.findCls K (.ref B) (.type "type") "__init__"=some (.val (.builtin "ValueError.__init__"))
 ga:specialIn K (.ref B) "__getattribute__"=some (some (.builtin "type.__getattribute__"))
noncomputable def JlL(C:Qc):TS:=fun D σ H=>∃a k,σ[0]?=some (some (.ref a))/\σ[1]?=some (some (.int k))/\H a=some (XN a C none)/\∀t,t≠a->H t=none->D.nx σ (upd (upd H a (XN a C (some t))) t (.xd [("at",.int k)]))
section
variable{X:Cx}{C f B:Qc}
theorem Jfn{x y n z:Str}{p0 p1 p2 p3 p4 p5 p6 p7:Pos}{j:Nat}{pl:Sem Bool}(T:IniC X.K C f B)(hg:Gl X n)(hm:X.mg n=some (.ref B))(h0:X.N[0]?=some x)(h1:X.N[1]?=some y)(v0:Vis X.env.scope x)(v1:Vis X.env.scope y)(hz:z.length<=1000)
 (d0:(x == ("__debug__":Str))=false:=by decide) (c0:(x == ("__classdict__":Str))=false:=by decide) (d1:(y == ("__debug__":Str))=false:=by decide) (c1:(y == ("__classdict__":Str))=false:=by decide) (dn:(n == ("__debug__":Str))=false:=by decide)
 (hst:starEach [.Name x p2,.JoinedStr [.Constant (.str z) j p3,.FormattedValue (.Name y p4) (-1) none p5] p6] X.env=(false,eval (.Name x p2) X.env)::starEach [.JoinedStr [.Constant (.str z) j p3,.FormattedValue (.Name y p4) (-1) none p5] p6] X.env:=by rfl)
 (hpl:(backTo p7 (starEach [.JoinedStr [.Constant (.str z) j p3,.FormattedValue (.Name y p4) (-1) none p5] p6] X.env)).any (·.1)=false:=by rfl)
 (ht:eval (.Call (.Attribute (.Name n p0) "__init__" p1) [.Name x p2,.JoinedStr [.Constant (.str z) j p3,.FormattedValue (.Name y p4) (-1) none p5] p6] [] p7) X.env=(do
  let ov <- eval (.Name n p0) X.env
  standAt p1.atName
  let (f,first) <- holding [ov] (getMethod ov "__init__" pl)
  callWith p7 f first (backTo p7 (starEach [.Name x p2,.JoinedStr [.Constant (.str z) j p3,.FormattedValue (.Name y p4) (-1) none p5] p6] X.env)) (backToKw p7 (keywordEach [] X.env))):=by rfl)
 (hs:swapsWith (.Call (.Attribute (.Name n p0) "__init__" p1) [.Name x p2,.JoinedStr [.Constant (.str z) j p3,.FormattedValue (.Name y p4) (-1) none p5] p6] [] p7) none p0.line X.env=pure false:=by rfl) :
 PE X (.Call (.Attribute (.Name n p0) "__init__" p1) [.Name x p2,.JoinedStr [.Constant (.str z) j p3,.FormattedValue (.Name y p4) (-1) none p5] p6] [] p7) (fun σ H Q=>∃a k,σ[0]?=some (some (.ref a))/\σ[1]?=some (some (.int k))/\k.natAbs.log2<1920/\H a=some (XN a C none)/\Q .non H):=by
 intro pins s σ H Q I h;obtain⟨a,k,e0,e1,hk,ha,q⟩:=h;refine PySem.W.methodCall_KW (pl:=pl) (Y7 I hg hm ?_ dn) ht;refine PySem.W.method_cls I.kIn T.ga (PySem.W.cls_value I.kIn T.rd T.fc rfl ?_);have I1:=I.tok (s.toks+1);have hA:=(Ja (Za h0 v0 d0 c0) (Ja (Jg9 (p:=p3) (p1:=p4) (p2:=p5) (p3:=p6) (j:=j) h1 v1 hz d1 c1) Je) hst) p7 pins _ σ H (fun vs H'=>∃z',vs=[.ref a,.str z']/\H'=H) I1 ⟨_,e0,k,e1,hk,_,rfl,rfl⟩;rw[hst] at hA ⊢
 refine Kp (by show(false || (backTo p7 (starEach _ X.env)).any (·.1))=false;rw[hpl] <;> rfl) (GZ ?_);refine thn hA fun us s2 ⟨vs,H2,I2,r2,z',e2,e3⟩=>?_
 subst e2 e3;obtain⟨u,v,rfl,r3,r4⟩:=Vals.two r2;cases (show u=Value.ref a from r3);obtain⟨bm,N,nm,qn,bs,hdct,sn,sub,ab,col,dd,k0,k1,k2,k3,k5,mN,hC,hN,hi,OT⟩:=JcA I2.kIn T.ok;obtain⟨⟨o,t0,g1,g2,g3,g4⟩,_⟩:=(show ObjOk X.prog X.w H2 s2.heap a (XN a C none) from I2.hok a _ ha)
 obtain⟨hh,g,d,tk,os⟩:=s2;refine JeD QX OT hC g1 g2 g4 rfl (show 1<=Qk by decide) fun h' tup kp he=>?_
 refine⟨.non,H2,?_,rfl,q⟩;have:=I2.write (x:=a) (e:=a) (h':=h') (t':=tk) (o:=XN a C none) (by rw[ha];exact True.intro) (.inl rfl) kp ⟨_,he⟩ ⟨⟨_,tup,he,?_,?_,?_⟩,⟨_,he⟩,fun g1 g2 ⟨o,t,q,r⟩ k=>⟨o,t,k o q,r⟩⟩
 ·have e:upd H2 a (XN a C none)=H2:=by
   funext b
   by_cases hb:b=a
   ·rw[hb,Jx,ha]
   ·rw[Jl hb]
  rw[e] at this;exact this
 ·rw[KU];exact g2
 ·rw[JcN];exact g3
 ·rw[Gd g4];rfl
theorem JjE{x y:Str}{p0 p1 p2 p3:Pos}(T:IniC X.K C f B)(hx:X.ex=[])(h0:X.N[0]?=some x)(h1:X.N[1]?=some y)(v0:Vis X.env.scope x)(v1:Vis X.env.scope y)
 (d0:(x == ("__debug__":Str))=false:=by decide) (c0:(x == ("__classdict__":Str))=false:=by decide) (d1:(y == ("__debug__":Str))=false:=by decide) (c1:(y == ("__classdict__":Str))=false:=by decide)
 (hs:swapsWith (.Name y p2) (some (.Attribute (.Name x p0) "at" p1)) p3.line X.env=pure false:=by rfl) :
 PS X (.Assign [.Attribute (.Name x p0) "at" p1] (.Name y p2) p3) (JlL C):=by
 intro pins s σ H D I h;obtain⟨a,k,e0,e1,ha,q⟩:=h;refine plainObj_wpAny_Assign_Attribute (thn (Za h1 v1 d1 c1 pins s σ H (fun v H'=>v=.int k/\H'=H) I ⟨_,e1,rfl,rfl⟩) fun u s1 ⟨v2,H1,I1,r1,z1,z2⟩=>thn (Za h0 v0 d0 c0 pins s1 σ H1 (fun v H'=>v=.ref a/\H'=H1) I1 ⟨_,e0,rfl,rfl⟩) fun ov s2 ⟨v3,H2,I2,r2,z3,z4⟩=>?_) hs
 subst z1 z2 z3 z4;cases (show ov=Value.ref a from r2);obtain⟨⟨o,t0,g1,g2,g3,g4⟩,_⟩:=(show ObjOk X.prog X.w _ s2.heap a (XN a C none) from I2.hok a _ ha)
 refine JhK I2.kIn g1 g2 (by unfold notCls;rw[g4]) g3 T.ov T.mo T.tk T.sa fun h' tk' n1 n2 n3=>?_
 have hne:s2.heap.objs.size≠a:=G1 (Qj g1)
 have hf:=I2.hok.fresh (Qr s2.heap.objs.size)
 have J1:=I2.write (x:=a) (e:=a) (h':=h') (t':=tk') (o:=XN a C (some s2.heap.objs.size)) (by rw[ha];exact True.intro) (.inl rfl) n3 ⟨_,n1⟩ ⟨⟨_,t0,n1,g2,rfl,g4⟩,⟨_,n1⟩,fun g1 g2 ⟨o,t,q,r⟩ k=>⟨o,t,k o q,r⟩⟩
 have hf1:upd H2 a (XN a C (some s2.heap.objs.size)) s2.heap.objs.size=none:=by rw[Jl hne];exact hf
 refine⟨σ,_,J1.track hx hf1 (GW I2.sz) (G1 I2.lt) (fun y c e=>?_) (fun p hp=>?_) ?_,q _ hne hf⟩
 ·obtain⟨v,oc,e,_⟩:=I2.cell y c e;exact QI (Qj e)
 ·exact QI (Qj (I2.pin p hp).1)
 ·refine⟨_,n2,fun f=>?_⟩;show RelO (GY f [(("at":Str),V.int k)]) (if f="at" then some u else none)
  by_cases hfa:f="at"
  ·subst hfa;exact r1
  ·rw[if_neg hfa,K5];rw[show(f == ("at":Str))=false from beq_eq_false_iff_ne.mpr hfa];exact True.intro
end
end L2

namespace L2
open PySem PySem.Spec PyProof.Rows PySem.Calls LE
noncomputable def WA(C:Qc)(E:XK)(te:TE):TS:=fun D σ H=>te σ H fun x H1=>∃k,[x]=[V.int k]/\k.natAbs.log2<1920/\∀a t,H1 t=none->E (.int C t) (some a) (upd H1 t (.xd [("at",.int k)]))
section
variable{X:Cx}{pins:List (Qc×Obj)}{σ:St}{H:Hp}{s:Qd}{C e:Qc}{h':QH}{args:List Qa}
theorem Inv.newX(I:Inv X pins σ H s)(hx:X.ex=[])(m:Heap.MadeExcOf s.heap h' e (.ref C) args):Inv X pins σ (upd H e (XN e C none)) { s with heap:=h' }:=by
 have J:Inv X pins σ H { s with heap:=h' }:=I.kept (t':=s.toks) m.keeps
 have was:∀b o,s.heap.get? b=some o->b≠e:=fun b o q z=>by rw[z,m.new] at q;cases q
 obtain⟨t,ht,_,_⟩:=m.there;refine J.track hx ?_ ?_ ?_ (fun x c q=>?_) (fun p hp=>?_) ⟨⟨_,t,ht,rfl,rfl,rfl⟩,⟨_,ht⟩,fun g1 g2 ⟨o,t,q,r⟩ k=>⟨o,t,k o q,r⟩⟩
 ·cases z:H e with
  | none=>rfl
  | some u=>obtain⟨o,ho⟩:=(I.hok e u z).there;rw[m.new] at ho;cases ho
 ·cases z:X.s₀.heap.get? e with
  | none=>rfl
  | some u=>obtain⟨o,q⟩:=I.base.there e u z (by rw[hx];simp);exact absurd rfl (was e o q)
 ·obtain⟨m,⟨o,_,_,q,_⟩,_⟩:=I.loc;exact Q0 (was _ o q)
 ·obtain⟨v,o,q,_⟩:=I.cell x c q;exact was c o q
 ·exact was _ _ (I.pin p hp).1
theorem XP.madeF{E:XK}{s3:Qd}{t:Qc}{k:Int}(I:Inv X pins σ H s)(m:Heap.MadeExcOf s.heap h' e (.ref C) args)(hte:t≠e)(hht:H t=none)(os:s3.os=s.os)(bare:AllBare s3.gens)
 (un:Un (frs X.stack) [] (upd H e (XN e C none)) (upd (upd (upd H e (XN e C none)) e (XN e C (some t))) t (.xd [("at",.int k)])) h' s3.heap)
 (hok:HOk X.prog X.w (upd (upd (upd H e (XN e C none)) e (XN e C (some t))) t (.xd [("at",.int k)])) s3.heap)
 (st:s3.heap.FunFrames X.base X.stack) (q:E (.int C t) (some e) (upd H t (.xd [("at",.int k)]))):XP X pins σ E (.ref e) s3:=by
 have was:∀b o,s.heap.get? b=some o->b≠e:=fun b o q z=>by rw[z,m.new] at q;cases q
 have he:H e=none:=by
  cases z:H e with
  | none=>rfl
  | some u=>obtain⟨o,ho⟩:=(I.hok e u z).there;rw[m.new] at ho;cases ho
 have h2:∀b,b≠e->upd H e (XN e C none) b=H b:=fun b hb=>Jl hb
 have h3:∀b,b≠e->upd (upd (upd H e (XN e C none)) e (XN e C (some t))) t (.xd [("at",.int k)]) b=upd H t (.xd [("at",.int k)]) b:=fun b hb=>by
  by_cases hb':b=t
  ·rw[hb',Jx,Jx]
  ·rw[Jl hb',Jl hb',Jl hb,Jl hb]
 have hfe:upd H t (.xd [("at",.int k)]) e=none:=by rw[Jl (Q0 hte)];exact he
 have tr:∀b u,H b=some u->b≠e:=fun b u q z=>by rw[z,he] at q;cases q
 have xe:upd (upd (upd H e (XN e C none)) e (XN e C (some t))) t (.xd [("at",.int k)]) e=some (XN e C (some t)):=by rw[Jl (Q0 hte),Jx]
 obtain⟨⟨oe,t0,g1,g2,g3,g4⟩,_⟩:=(show ObjOk X.prog X.w _ s3.heap e (XN e C (some t)) from hok e _ xe)
 have nfr:e∉frs X.stack:=fun hb=>by obtain⟨_,o,ho,_⟩:=Wr I.stack hb;exact was _ _ ho rfl
 refine⟨H,s,I,e,.int C t,upd H t (.xd [("at",.int k)]),wo (e::frs X.stack) s3.heap,rfl,os,bare,⟨⟨fun b o q n hb hx=>?_,fun b o q n hb hx=>?_,fun b o q n hx=>?_,fun b o q hx=>?_,fun b xs z=>?_,fun b o u z=>?_,fun b ps z=>?_⟩,fun b u z=>?_,⟨fun b o q=>?_,Zn Qz,Jab st fun b hb=>Zn (Qo _ hb),.inr ⟨oe,_,g1,⟨g2,g3⟩,g4,rfl⟩⟩,fun b o hb hfr q=>?_,hfe,m.new⟩,q⟩
 ·exact un.keep b o (m.keeps b o q) (by rw[h2 b (was b o q)];exact n) hb hx
 ·exact un.slot b o (m.keeps b o q) (by rw[h2 b (was b o q)];exact n) hb hx
 ·have:=un.free b o (m.keeps b o q) (by rw[h2 b (was b o q)];exact n) hx;rw[h3 b (was b o q)] at this;exact this
 ·exact un.there b o (m.keeps b o q) hx
 ·have:=un.tups b xs (by rw[h2 b (tr b _ z)];exact z);rw[h3 b (tr b _ z)] at this;exact this
 ·have:=un.frzs b o u (by rw[h2 b (tr b _ z)];exact z);rw[h3 b (tr b _ z)] at this;exact this
 ·obtain⟨more,this⟩:=un.tbls b ps (by rw[h2 b (tr b _ z)];exact z);rw[h3 b (tr b _ z)] at this;exact⟨more,this⟩
 ·have hb:b≠e:=fun y=>by rw[y,hfe] at z;cases z
  refine(hok b u (by rw[h3 b hb];exact z)).stay (fun _ _ _ q=>q) (fun c q=>?_) fun c xs q=>?_
  ·have hc:c≠e:=fun y=>by rw[y,xe] at q;cases q
   rw[h3 c hc] at q;exact q
  ·have hc:c≠e:=fun y=>by rw[y,xe] at q;cases q
   rw[h3 c hc] at q;exact q
 ·by_cases hb:b∈e::frs X.stack
  ·rw[Zn hb] at q;cases q
  ·rw[Wa hb] at q;exact q
 ·have hbe:b≠e:=by
   rcases hb with hb|⟨u,hb⟩
   ·exact fun y=>hb (by rw[y];exact hfe)
   ·exact was b u hb
  rw[Wa (fun z=>(Qq.mp z).elim hbe hfr)];exact q
end
section
variable{X:Cx}{x:Str}{np cpos pos:Pos}{C f B:Qc}{fd:QC}{E:XK}{e:QO}{te:TE}{k:Nat}{ps:List Str}
theorem JdU(T:IniC X.K C f B)(F:FnOk X.prog X.w X.K X.mg X.base CX0 k f fd ps (ZX C))(hb:Binds X.K fd ps [])(hr:Room (k+1) X.A)(hg:Gl X x)(hm:X.mg x=some (.ref C))(hx:XOk X E)(hex:X.ex=[])(ha:PE X e te)(hdb:(x == ("__debug__":Str))=false:=by decide)
 (he:starEach [e] X.env=(false,eval e X.env)::starEach [] X.env:=by rfl) :
 PS X (.Raise (some (.Call (.Name x np) [e] [] cpos)) none pos) (WA C E te):=by
 intro pins s σ H D I h;obtain⟨tl,N,nm,q,bs,hdct,sn,sub,ab,col,dd,k0,k1,k2,k3,k5,mN,hC,hN,hni,OT⟩:=JcA (h:=X.base) I.ok.mod.kin T.ok;obtain⟨oI,hoI,hoc⟩:=GI.mp (show(X.K.lookup f).map (·.cls)=some (.type "function") from beq_iff_eq.mp T.fn);have hoI':X.base.get? f=some oI:=I.ok.mod.kin _ _ hoI;refine Jdx (C:=C) (nm:=nm) (q:=q) (N:=N) (bs:=bs) (bm:=tl) (hdct:=hdct) (sn:=sn) (sub:=sub) (ab:=ab) (col:=col) (dd:=dd) (k0:=k0) (k1:=k1) (k2:=k2) (k3:=k3) (k5:=k5)
  QX (by decide) QX (mN:=mN) (fI:=f) (oI:=oI) (OT.hasType QX.hasBase) hr.hd (by rw[he];rfl) hni hoc (Y7 I hg hm ⟨rfl,?_⟩ hdb)
 have h1:=(Ja ha Je he) cpos pins s σ H (fun vs H1=>∃k,vs=[.int k]/\k.natAbs.log2<1920/\∀a t,H1 t=none->E (.int C t) (some a) (upd H1 t (.xd [("at",.int k)]))) I h;rw[he] at h1 ⊢;refine GZ (QZ h1 (fun us s₂ ⟨vs,H1,I1,r,kk,e1,hk,hq⟩=>?_) fun _ _ y=>y);subst e1;refine⟨rfl,by rw[<- r.length];exact(show 1<=Qk by decide),I1.bk _ _ hC,hN.keeps I1.bk,OT.keeps I1.bk,I1.bk _ _ hoI',fun h' ea m=>?_⟩
 have I2:=I1.newX hex m
 have r2:Vals [V.ref ea,V.int kk] (Value.ref ea::us):=.cons rfl r
 have hsp:ZX C [V.ref ea,V.int kk] (upd H1 ea (XN ea C none)) (fun v H'=>v=.non/\∃t,t≠ea/\H1 t=none/\H'=upd (upd (upd H1 ea (XN ea C none)) ea (XN ea C (some t))) t (.xd [("at",.int kk)])) E0 :=
  ⟨ea,kk,rfl,hk,Jx,fun t ht hn=>⟨rfl,t,ht,by rw[Jl ht] at hn;exact hn,rfl⟩⟩
 have hl:(Value.ref ea::us).length=ps.length:=by rw[<- r2.length];exact F.len _ _ _ _ hsp
 refine Ku (GF (F.run _ X.stack _ _ ⟨Value.ref ea::us,[]⟩ (Value.ref ea::us) _ _ _ (hr.make C us []) (I2.env0.make C us []) (by have:=hb { s₂ with heap:=h' } (Value.ref ea::us) I2.kIn (by rw[Q4];exact hl);rw[Q4] at this;exact this) r2 hsp) fun r s' hq'=>?_)
 cases r with
 | error e=>exact hq'.elim
 | ok fl =>
  cases fl with
  | ret u =>
   obtain⟨v,H',hos,bare,un,hok,rv,rfl,t,ht,hn,rfl⟩:=hq';have J:=I2.after (Q:=fun _ H''=>H''=upd (upd (upd H1 ea (XN ea C none)) ea (XN ea C (some t))) t (.xd [("at",.int kk)])) ⟨_,_,hos,bare,un,hok,rv,rfl⟩;obtain⟨_,H3,I3,_,rfl⟩:=J;obtain⟨⟨oe,t0,g1,g2,g3,g4⟩,_⟩:=(show ObjOk X.prog X.w _ s'.heap ea (XN ea C (some t)) from hok ea _ (by rw[Jl (Q0 ht),Jx]))
   exact⟨rv,oe,_,I3.bk _ _ hC,g1,g2,g4,rfl,hx pins σ _ _ (XP.madeF I1 m ht hn hos bare un hok I3.stack (hq ea t hn))⟩
  | next=>exact QS hq'
  | brk=>exact QS hq'
  | cont=>exact QS hq'
end
end L2

namespace L2
open PySem PySem.Spec PyProof.Rows PySem.Calls LE
structure AtA (K:Qn) (c:Qc):Prop where
 ga:findIn K (.ref c) "__getattribute__"=some (some (.builtin "BaseException.__getattribute__"))
 gn:findIn K (.ref c) "__getattr__"=some none
 mb:mroIn K c (.type "BaseException")=some true
 hd:hasDictIn K c=true
 fa:findIn K (.ref c) "at"=some none
noncomputable def tAt(K:Qn)(te:TE):TE:=fun σ H Q=>te σ H fun x H1=>∃a v c t k,x=.ref a/\H1 a=some (XO a v)/\WH v=.ref c/\JaO v=some t/\H1 t=some (.xd [("at",.int k)])/\AtA K c/\Q (.int k) H1
section
variable{X:Cx}{e:QO}{te:TE}{pos:Pos}{K:Qn}
theorem Jid(hK:X.K=K)(he:PE X e te)(hb:attributeBase e "at" X.env (eval e X.env)=eval e X.env:=by rfl):PE X (.Attribute e "at" pos) (tAt K te):=by
 subst hK;intro pins s σ H Q I h;refine Jcp hb (thn (he pins s σ H _ I h) fun u s1 ⟨x,H1,I1,rx,a,v,c,t,k,ex,h1,h2,h3,h4,N,q⟩=>?_);subst ex;obtain rfl:u=Value.ref a:=rx;obtain⟨⟨o,g1,g2,g3,g4⟩,_⟩:=(show ObjOk X.prog X.w H1 s1.heap a (XO a v) from I1.hok a _ h1)
 obtain⟨mA,hns,rel⟩:=(show ObjOk X.prog X.w H1 s1.heap t (.xd [("at",.int k)]) from I1.hok t _ h4)
 obtain⟨od,ho,hl⟩:=ZR hns;have J:InstAt s1.heap a o c (some od):=⟨g1,g2.trans h2,g3,by rw[g4,h3];exact ho⟩
 have r1:RelO (some (.int k)) (mA "at"):=rel "at"
 cases hm:mA "at" with
 | none=>rw[hm] at r1;exact r1.elim
 | some u =>
  rw[hm] at r1;obtain⟨tk,rfl⟩:=(show ∃t,u=Value.int k t from r1)
  exact Jgl I1.kIn J N.ga N.gn N.mb (LG N.hd N.fa rfl (by rw[hl,hm])) rfl ⟨.int k,H1,I1.tok _,⟨_,rfl⟩,q⟩
theorem Jb4{x:Str}{np cpos:Pos}{C f B:Qc}{fd:QC}{E:XK}{k:Nat}{ps:List Str}(hK:X.K=K)(T:IniC K C f B)(F:FnOk X.prog X.w K X.mg X.base CX0 k f fd ps (ZX C))(hb:Binds K fd ps [])(hr:Room (k+1) X.A)(hg:Gl X x)(hm:X.mg x=some (.ref C))(hx:XOk X E)(hex:X.ex=[])(ha:PE X e te)(hdb:(x == ("__debug__":Str))=false:=by decide)
 (he:starEach [e] X.env=(false,eval e X.env)::starEach [] X.env:=by rfl) :
 PS X (.Raise (some (.Call (.Name x np) [e] [] cpos)) none pos) (WA C E te):=by subst hK;exact JdU T F hb hr hg hm hx hex ha hdb he
end
structure RaiF (P:Qm) (w:QB) (K:Qn) (mg:Str->Option Qa) (base:QH) (x:Str) (C:Qc) (k:Nat):Prop where
 ex:∃(f B:Qc) (fd:QC) (ps:List Str),IniC K C f B/\FnOk P w K mg base CX0 k f fd ps (ZX C)/\Binds K fd ps []/\mg x=some (.ref C)
theorem JdV{X:Cx}{e:QO}{te:TE}{pos:Pos}{K:Qn}{x:Str}{np cpos:Pos}{C:Qc}{E:XK}{k:Nat}(hK:X.K=K)(c:RaiF X.prog X.w K X.mg X.base x C k)(hr:Room (k+1) X.A)(hg:Gl X x)(hx:XOk X E)(hex:X.ex=[])(ha:PE X e te)(hdb:(x == ("__debug__":Str))=false:=by decide)
 (he:starEach [e] X.env=(false,eval e X.env)::starEach [] X.env:=by rfl) :
 PS X (.Raise (some (.Call (.Name x np) [e] [] cpos)) none pos) (WA C E te):=by
 obtain⟨f,B,fd,ps,T,F,hb,hm⟩:=c.ex;exact Jb4 hK T F hb hr hg hm hx hex ha hdb he
end L2
namespace LE
open PySem L2 LR
noncomputable def WN(m:Str)(a:Ev):Xv:=fun E=>(a E).bind fun s=>s.d.bind fun d=>match d with
 | .int k=>if KR k.natAbs 1000000000=true then some ⟨m,some k⟩ else none
 | _=>none
noncomputable def eAt(R:List Str)(a:Ev):Ev:=fun E=>(a E).bind fun s=>s.d.bind fun d=>match d with
 | .exc ⟨n,some k⟩=>if n∈R then some (.sh (.int k)) else none
 | _=>none
noncomputable def Jdl(K:Qn)(R:List Str):Prop:=∀n∈R,∀c,nsIn K mainGlobals n=some (some (.ref c))->AtA K c
section
variable{K:Qn}{C:Qc}{te:TE}{ea:Ev}{W:XK}
theorem Jf8:Jdl K []:=fun _ h=>nomatch h
theorem Jem{n:Str}{c:Qc}{R:List Str}(x:AtY K n c)(f:findIn K (.ref c) "at"=some none)(t:Jdl K R):Jdl K (n::R):=fun m hm c' e=>by
 rcases Qq.mp hm with z|z
 ·rw[z,x.ns] at e;cases e;exact⟨x.ga,x.gn,x.mb,x.hd,f⟩
 ·exact t m z c' e
theorem JbT{k:Nat}(h:k<=1000000000):k.log2<1920:=by
 by_cases h0:k=0
 ·subst h0;decide
 ·rw[Nat.log2_lt h0];exact Nat.lt_of_le_of_lt h (QD (by decide:1000000000<2 ^ 30) (Nat.pow_le_pow_right (by decide) (by decide)))
theorem Jeg{m:Str}{c:Qc}(hc:nsIn K mainGlobals m=some (some (.ref c)))(ha:SE K C te ea):SXS K C W (WA c W te) (WN m ea):=by
 intro B H0 H σ E m' D I e q;obtain⟨a,e1,e⟩:=bind_some e;obtain⟨d,e2,e⟩:=bind_some e;refine ha B H0 H σ E a _ I e1 fun x H1 H1' s1 r1=>?_
 have rd:=r1.dat s1.i e2
 cases d with
 | int k =>
  have e:(if KR k.natAbs 1000000000=true then some (⟨m,some k⟩:Xm) else none)=some m':=e;split at e
  ·next hl =>
   cases e;cases RD.intI rd;refine⟨k,rfl,JbT (Nat.le_of_ble_eq_true hl),fun a t ht=>?_⟩
   have ha0:H1 t=none:=by
    cases z:H1 t with
    | none=>rfl
    | some u=>rw[s1.i t u z] at ht;cases ht
   have I1:=I.step s1
   have st:Step H1' H1 H1' (upd H1 t (.xd [("at",.int k)])) (upd H1' t (.xd [("at",.int k)])):=by
    refine⟨fun b u z=>?_,fun b u z=>?_,fun b u z=>?_,fun b u z=>?_⟩
    ·rw[Jl (Jt z ht)];exact z
    ·rw[Jl (Jt z ha0)];exact z
    ·by_cases hb:b=t
     ·subst hb;exact .inr (.inl ht)
     ·rw[Jl hb] at z;exact .inl z
    ·by_cases hb:b=t
     ·subst hb;rw[Jx] at z ⊢;exact z
     ·rw[Jl hb] at z ⊢;exact s1.i b u z
   exact q (.int c t) a _ _ ⟨c,hc,t,rfl,Jx⟩ ((s1.ss I.b).trans (st.ss I1.b))
  ·cases e
 | _=>cases e
theorem Jli{R:List Str}(N:Jdl K R)(ha:SE K C te ea):SE K C (tAt K te) (eAt R ea):=by
 intro B H0 H σ E r Q I e q;obtain⟨a,e1,e⟩:=bind_some e;obtain⟨d,e2,e⟩:=bind_some e;refine ha B H0 H σ E a _ I e1 fun x H1 H1' s1 r1=>?_
 have rd:=r1.dat s1.i e2
 cases d with
 | exc n =>
  obtain⟨n,k⟩:=n
  cases k with
  | none=>cases e
  | some k =>
   have e:(if n∈R then some (Sl.sh (.int k)) else none)=some r:=e;split at e
   ·next hn=>cases e;obtain⟨a',c',rfl,hx,c1,k1,t,k2,k3⟩:=RD.excI rd;subst k2;exact⟨a',_,c1,t,k,rfl,hx,rfl,rfl,k3,N n hn c1 k1,q _ _ _ s1 (RD.int _)⟩
   ·cases e
 | _=>cases e
end
end LE

namespace PySem
theorem Draws.strU{prog:Qm}{w:QB}{A:Qu}(hh:A.handled=none)(it:Qc)(x:Str)(t:Tok) :
 Draws prog w A it [it] x.cps.size (fun i v=>∃c u,x.cps[i]?=some c/\v=.str ⟨#[c]⟩ u) (fun i h=>h.IsStrIter it (strIterType x) x t i):=by
 cases ha:x.cps.all (·<128)
 ·have e:strIterType x="str_iterator":=by simp[strIterType,ha]
  rw[e];exact Draws.strWide hh it x t
 ·have e:strIterType x="str_ascii_iterator":=by simp[strIterType,ha]
  rw[e];exact Draws.strAscii hh it x t
theorem JbY(x:Str)(t u:Tok):Meets (Builtin.«enumerate.__new__» ⟨[.type "enumerate",.str x t],[("start",.int 1 u)]⟩) (fun _ R s =>
 R (.ok (.ret (.ref (s.heap.push { cls:=.type (strIterType x),data:=.fields #[.str x t,.int 0 0] }).objs.size)))
  { s with heap:=(s.heap.push { cls:=.type (strIterType x),data:=.fields #[.str x t,.int 0 0] }).push (JiA s.heap.objs.size) }) :=
 .of_wp fun prog w A R s h=>by
  obtain⟨hp,g,d,tk,os⟩:=s;have hsub:=sub_enumerate;wp_walk;refine wpAny_stack_any fun st=>QE ?_
  split
  ·rename_i c _ _ _ _ _;cases (c == Value.type "enumerate")
   ·wp_walk using KW
    exact⟨_,rfl,h⟩
   ·wp_walk using KW
    exact⟨_,rfl,h⟩
  ·wp_walk using KW
   exact⟨_,rfl,h⟩
theorem Jdp{prog:Qm}{w:QB}{A:Qu}{E:Qa->Qd->Prop}{s:Qd}{x:Str}{t u:Tok}{Q:Qa->Qd->Prop}
 (h:∀h',IsEnum h' (s.heap.objs.size+1) s.heap.objs.size 1 .none->h'.IsStrIter s.heap.objs.size (strIterType x) x t 0 ->
  (∀b o,s.heap.get? b=some o->h'.get? b=some o)->Q (.ref (s.heap.objs.size+1)) { s with heap:=h' }) :
 wpAny (model prog w) A (call (.type "enumerate") [.str x t] [("start",.int 1 u)]) Q E s:=by
 refine Zs F.called_enumerate (by decide) (JaG _ _) (Ja1 _ _) (fun obj=>Jah obj _ _) F.entry_enumerate_new (JbY x t u) ?_;have hz:(s.heap.push { cls:=.type (strIterType x),data:=.fields #[.str x t,.int 0 0] }).objs.size=s.heap.objs.size+1:=GB ..;show _/\_;rw[hz]
 have he:IsEnum ((s.heap.push { cls:=.type (strIterType x),data:=.fields #[.str x t,.int 0 0] }).push (JiA s.heap.objs.size)) (s.heap.objs.size+1) s.heap.objs.size 1 .none:=by have:=QA (s.heap.push { cls:=.type (strIterType x),data:=.fields #[.str x t,.int 0 0] }) (o:=JiA s.heap.objs.size) rfl;rw[hz] at this;exact this
 exact⟨⟨_,he,rfl⟩,h _ he ⟨_,Qf _ (QA _ rfl),rfl,rfl⟩ fun b o y=>Qf _ (Qf _ y)⟩
end PySem
namespace L2
open PySem PySem.Spec PyProof.Rows
noncomputable def Itg(j0:Int)(z:Str):It :=
 ⟨fun i _=>i<z.cps.size,
  fun i H x H'=>∃p c,x=.ref p/\H p=none/\H'=upd H p (.tup [.int ((i:Int)+j0),.str ⟨#[c]⟩])/\z.cps[i]?=some c,
  fun i _=>i=z.cps.size⟩
theorem JbA{P:Qm}{w:QB}{K:Qn}{elts:List QO}{kk:Nat}{pos:Pos}(j0:Int)(z:Str)(tz:Tok)(e it:Qc)(ne:e≠it) :
 Turn P w K (.Tuple elts kk pos) (Itg j0 z) [e,it] e (fun i h=>(∃old,IsEnum h e it ((i:Int)+j0) old)/\h.IsStrIter it (strIterType z) z tz i) where
 mem:=by simp
 obj:=fun i h st c hc=>by
  obtain⟨⟨old,s1⟩,⟨o,s2,c2,d2⟩⟩:=st;simp only[Qq,QW,or_false] at hc;rcases hc with rfl|rfl
  ·exact⟨_,s1,fun v z=>nomatch (show Data.fields _=Data.cell v from z)⟩
  ·exact⟨o,s2,fun v z=>by rw[d2] at z;cases z⟩
 keep:=fun i h h' st k=>by obtain⟨⟨old,s1⟩,⟨o,s2,r2⟩⟩:=st;exact⟨⟨old,k e (by simp) _ s1⟩,⟨o,k it (by simp) o s2,r2⟩⟩
 item:=by
  intro X hP hw hK hc i pins s σ H E I hf st hg;subst hP hw hK;obtain⟨⟨old,s1⟩,s2⟩:=st;have hh:X.A.in1.handled=none:=I.ok.hd hc;have D1:=Draws.strU (prog:=X.prog) (w:=X.w) hh it z tz;have hT:s.TypeIs (.ref e) "enumerate":=⟨_,s1,rfl⟩
  unfold pyNext;refine Qe (wpAny_attempt (GC (name:=Qy "__next__") hT GQ (Kx GQ hT F.entry_enumerate_next
   (Jex D1 s1 s2 hg (by simp[ne]) (by simp) fun u k tk t pu t1 t2 t3 t4 t5=>QE ?_) (K8 _))))
  refine⟨_,rfl,wpAny_letOwnedTupleGo_enum (s:={ s with heap:=k,toks:=tk }) t1 fun k2 t9 e9=>?_⟩
  replace e9:Q5 e k k2:=e9;obtain⟨cc,u',hcc,rfl⟩:=pu
  have elt:∀c∈[e,it],c<s.heap.objs.size:=fun c hc=>by
   simp only[Qq,QW,or_false] at hc;rcases hc with rfl|rfl
   ·exact Qj s1
   ·obtain⟨_,q,_⟩:=s2;exact Qj q
  have ri:RelV (.int ((i:Int)+j0)) (.int ((i:Int)+j0) t):=⟨t,rfl⟩
  have rx:RelV (.str ⟨#[cc]⟩) (.str ⟨#[cc]⟩ u'):=⟨u',rfl⟩
  have I1:Inv X pins σ (upd H s.heap.objs.size (.tup [.int ((i:Int)+j0),.str ⟨#[cc]⟩])) { s with heap:=s.heap.push { cls:=.type "tuple",data:=.seq #[.int ((i:Int)+j0) t,.str ⟨#[cc]⟩ u'] },toks:=s.toks } :=
   I.laid (o:=.tup [.int ((i:Int)+j0),.str ⟨#[cc]⟩]) (fun c ob q=>Qf _ q) (Qr _) ⟨by show 2<=Qk;decide,[.int ((i:Int)+j0) t,.str ⟨#[cc]⟩ u'],.cons ri (.cons rx .nil),⟨_,QA _ rfl,rfl,_,rfl⟩⟩
  have hf1:∀c∈[e,it],FpOk X pins (upd H s.heap.objs.size (.tup [.int ((i:Int)+j0),.str ⟨#[cc]⟩])) c:=fun c hc=>⟨by rw[Jl (QI (elt c hc))];exact(hf c hc).1,(hf c hc).2⟩
  have I2:Inv X pins σ (upd H s.heap.objs.size (.tup [.int ((i:Int)+j0),.str ⟨#[cc]⟩])) { s with heap:=k2,toks:=tk }:=Inv.turnedL (s:={ s with heap:=s.heap.push { cls:=.type "tuple",data:=.seq #[.int ((i:Int)+j0) t,.str ⟨#[cc]⟩ u'] },toks:=s.toks }) I1 (fun c o hc q=>by
   simp only[Qq,QW,or_false,not_or] at hc;refine e9.extBut c o hc.1 ?_
   by_cases hcs:c=s.heap.objs.size
   ·subst hcs;have q':(s.heap.push { cls:=.type "tuple",data:=.seq #[.int ((i:Int)+j0) t,.str ⟨#[cc]⟩ u'] }).get? s.heap.objs.size=some o:=q;rw[QA _ rfl] at q';cases q';exact t3
   ·have q':s.heap.get? c=some o:=by have q2:(s.heap.push { cls:=.type "tuple",data:=.seq #[.int ((i:Int)+j0) t,.str ⟨#[cc]⟩ u'] }).get? c=some o:=q;exact(Heap.get?_push_ne s.heap c _ hcs).symm.trans q2
    exact t5 c o hc.1 hc.2 q') hf1
  refine⟨.ref s.heap.objs.size,_,I2,rfl,⟨_,cc,rfl,I.hok.fresh (Qr _),rfl,hcc⟩,⟨⟨.str ⟨#[cc]⟩ u',?_⟩,?_⟩,fun c hc=>(hf1 c hc).1⟩
  ·have ei:((i+1:Nat):Int)+j0=(i:Int)+j0+1:=by omega
   rw[ei];exact t9
  ·obtain⟨o,q,r⟩:=t2;exact⟨o,e9.extBut _ _ (Q0 ne) q,r⟩
 done:=by
  intro X hP hw hK hc i pins s σ H E I hf st hg;subst hP hw hK;obtain⟨⟨old,s1⟩,s2⟩:=st;have hh:X.A.in1.handled=none:=I.ok.hd hc;have D1:=Draws.strU (prog:=X.prog) (w:=X.w) hh it z tz;have hT:s.TypeIs (.ref e) "enumerate":=⟨_,s1,rfl⟩
  have n1:i=z.cps.size:=hg;subst n1;unfold pyNext;refine Qe (wpAny_attempt (GC (name:=Qy "__next__") hT GQ (Kx GQ hT F.entry_enumerate_next (Jgf D1 s1 s2 fun k x tk kk he=>?_) (K8 _))));obtain⟨o,ho,hoc⟩:=he;refine Qe (wpAny_isInstance (T:="StopIteration") (b:=true) ⟨o,ho,hoc⟩ isSubtype_stop (QE ⟨rfl,?_⟩));exact I.turnedL (fun c o hc q=>by simp only[Qq,QW,or_false,not_or] at hc;exact kk c o hc.2 q) hf
 self:=fun _ _ _ _ _ st h=>by obtain⟨⟨old,s1⟩,_⟩:=st;exact KY s1 h
noncomputable def JiT(j0:Int)(ta:TA):TI:=fun σ H R=>ta σ H fun vs H1=>∃z,vs=[.str z]/\R (Itg j0 z) H1
theorem Jfg{X:Cx}{elts:List QO}{kk:Nat}{tpos:Pos}{a:QO}{ta:TA}{p pos:Pos}(hg:Gl X "enumerate")(hm:X.mg "enumerate"=none)(ha:PA X [a] ta)(hs:starEach [a] X.env=[(false,eval a X.env)]:=by rfl)
:PI X (.Tuple elts kk tpos) (.Call (.Name "enumerate" p) [a] [] pos) (JiT 0 ta):=by
 intro pins s σ H R I h;refine Call_ (Vf I hg hm Vy (Go (thn (ha pos pins s σ H _ I h) fun us s1 ⟨vs,H1,I1,r1,q1⟩=>?_) (by rw[hs];rfl) (by rfl)));obtain⟨z,e,q⟩:=q1;subst e;obtain⟨u,rfl,t,rfl⟩:=Zm r1;refine call_enumerate_str fun h' t1 t2 t3 kp=>KY t1 ?_
 refine⟨_,[s1.heap.objs.size+1,s1.heap.objs.size],_,_,H1,rfl,I1.kept (t':=s1.toks) kp,JbA 0 z t _ _ (by simp),⟨⟨_,t1⟩,t2⟩,fun c hc=>?_,q⟩
 have hle:s1.heap.objs.size<=c:=by simp only[Qq,QW,or_false] at hc;rcases hc with rfl|rfl <;> first|exact Qr _|exact Nat.le_add_right _ _
 exact I1.fpOk hle (I1.hok.fresh hle)
theorem JdS{X:Cx}{elts:List QO}{kk:Nat}{tpos:Pos}{a ek:QO}{ta:TA}{p pos kpos:Pos}(hg:Gl X "enumerate")(hm:X.mg "enumerate"=none)(ha:PA X [a] ta)(hk:PE X ek (tC (.int 1)))
 (he:backTo pos (starEach [a] X.env)=(false,eval a X.env)::backTo pos (starEach [] X.env):=by rfl) (hpl:(backTo pos (starEach [a] X.env)).any (·.1)=false:=by rfl)
:PI X (.Tuple elts kk tpos) (.Call (.Name "enumerate" p) [a] [⟨some "start",ek,kpos⟩] pos) (JiT 1 ta):=by
 intro pins s σ H R I h;refine Gs (Vf I hg hm Vy ?_);refine Z3 (thn (ha pos pins s σ H _ I h) fun us s1 ⟨vs,H1,I1,r1,q1⟩=>?_) he hpl rfl rfl;refine kws_cons (thn (hk pins s1 σ H1 (fun v H2=>v=.int 1/\∃z,vs=[.str z]/\R (Itg 1 z) H2) I1 ⟨rfl,q1⟩) fun w s2 ⟨v,H2,I2,rz,e2,q2⟩=>kws_nil ?_);subst e2;obtain⟨t,rfl⟩:=rz;obtain⟨z,e,q⟩:=q2;subst e;obtain⟨u,rfl,t',rfl⟩:=Zm r1;refine Jdp fun h' t1 t2 kp=>KY t1 ?_
 refine⟨_,[s2.heap.objs.size+1,s2.heap.objs.size],_,_,H2,rfl,I2.kept (t':=s2.toks) kp,JbA 1 z t' _ _ (by simp),⟨⟨_,t1⟩,t2⟩,fun c hc=>?_,q⟩
 have hle:s2.heap.objs.size<=c:=by simp only[Qq,QW,or_false] at hc;rcases hc with rfl|rfl <;> first|exact Qr _|exact Nat.le_add_right _ _
 exact I2.fpOk hle (I2.hok.fresh hle)
end L2
namespace LE
open PySem L2 LR
noncomputable def enS(j0:Int)(cs:List Nat):List D:=cs.mapIdx fun i c=>.tup [.int ((i:Int)+j0),sgE c]
noncomputable def Yi(j0:Int)(as:En->Option (List Sl)):En->Option (List D):=fun E=>(as E).bind fun ss=>match ss with
 | [s]=>(str? s).map fun z=>enS j0 z.cps.toList
 | _=>none
section
variable{K:Qn}{C:Qc}{m:Bool}
theorem UM{j0:Int}{t:TA}{ev:En->Option (List Sl)}(ha:SA K C t ev):SI K C m (JiT j0 t) (Yi j0 ev):=by
 intro B H0 H σ E ds R I e q;obtain⟨ss,e1,e⟩:=bind_some e;split at e
 ·next s =>
  obtain⟨z,e2,rfl⟩:=map_some e;have e5:=Zg e2;subst e5;refine ha B H0 H σ E _ _ I e1 fun vs H1 H1' s1 r1=>?_
  obtain⟨v,rfl,ra⟩:=r1.one;refine⟨z,by rw[RD.strI ra],q _ _ _ s1 ?_⟩;intro H0' H' st;refine⟨fun i d e=>?_,by show(enS j0 z.cps.toList).length=z.cps.size;simp[enS]⟩;unfold enS at e;rw[List.getElem?_mapIdx,Kt] at e;obtain⟨c,hc,e⟩:=GI.mp e;subst e;refine⟨(QT.mp hc).1,?_⟩;rintro x H2 ⟨p,c',rfl,hp,rfl,hv⟩;rw[hc] at hv;cases hv;have h0:H0' p=none:=Same.free st.i hp;refine⟨upd H0' p (.tup [.int ((i:Int)+j0),.str ⟨#[c]⟩]),⟨.new hp,.new h0,fun a o e=>?_,fun a o e=>?_⟩,?_⟩
  ·by_cases h:a=p
   ·subst h;exact .inr (.inl hp)
   ·rw[Jl h] at e;exact .inl e
  ·by_cases h:a=p
   ·subst h;rw[Jx] at e ⊢;exact e
   ·rw[Jl h] at e ⊢;exact st.i a o e
  ·exact .mkT (.of Jx) (.cons (.int _) (.cons (.str _) .nil))
 ·cases e
end
end LE

namespace L2
open PySem PySem.Spec PyProof.Rows PySem.Calls LE
theorem Jju{X:Cx}{c:QO}{a b:List Ga}{tc:TT}{T U:(St->XK)->TS}{pos:Pos}(hc:PT X.nox c tc)(ha:Jej X a T)(hb:Jej X b U):PCS X (.If c a b pos) (fun E=>Jd7 tc (T E) (U E)):=by
 intro pins s σ H D E I h;refine wpAny_If (QZ (hc pins s σ H _ (I.wish _) h) (fun d s1 ⟨H1,I1,q1⟩=>?_) fun _ _ z=>QS z);have I1:=I1.unwish
 cases d with
 | true=>exact ha pins s1 σ H1 D E I1 q1
 | false=>exact hb pins s1 σ H1 D E I1 q1
end L2
namespace LE
open PySem L2 LR
theorem Jlq{K:Qn}{C:Qc}{T U:(St->XK)->TS}{xt xu:Xv}{c:TT}{ec:En->Option Bool}(hc:ST K C c ec)(x1:SXT K C T xt)(x2:SXT K C U xu):SXT K C (fun W=>Jd7 c (T W) (U W)) (U5 ec xt xu):=by
 intro B H0 H σ E m D W I e q;obtain⟨k,e1,e⟩:=bind_some e;refine hc B H0 H σ E k _ I e1 fun H1 H1' s1=>?_
 cases k with
 | true=>rw[if_pos rfl] at e ⊢;exact x1 B H1 H1' σ E m D W (I.step s1) e fun c a H2 H2' hc s2=>q c a H2 H2' hc (s1.trans s2)
 | false=>rw[if_neg (by simp)] at e ⊢;exact x2 B H1 H1' σ E m D W (I.step s1) e fun c a H2 H2' hc s2=>q c a H2 H2' hc (s1.trans s2)
end LE

namespace L2
open PySem PySem.Spec PyProof.Rows
theorem Jch{P:Qm}{w:QB}{K:Qn}{tg:QO}(it:Qc)(lo:Int)(n:Nat):Turn P w K tg (Itr lo n) [it] it (fun i h=>IsLongIter h it (lo+(i:Nat)*1) ((n:Int)-(i:Nat)) 1) where
 mem:=by simp
 obj:=fun i h st b hb=>by
  have e:b=it:=by simpa using hb
  subst e;exact⟨_,st,fun v z=>by have z':Data.fields _=Data.cell v:=z;cases z'⟩
 keep:=fun i h h' st k=>k it (by simp) _ st
 item:=by
  intro X hP hw hK hc i pins s σ H E I hf st hg;subst hP hw hK;obtain⟨f0,f1,f2,f3,f4,f5⟩:=hf it (by simp);have W:=Walks.longrange (prog:=X.prog) (w:=X.w) (I.ok.hd hc) it lo 1 n;refine W.item i s _ _ hg st fun v h' tk hv st' kk=>?_
  obtain⟨t,rfl⟩:=hv;have I1:Inv X pins σ H { s with heap:=h',toks:=tk }:=I.turned (fun b o hb e=>kk b o (by simpa using hb) e) f0 f1 f3 f4 f5;refine⟨_,rfl,JcG (s:={ s with heap:=h',toks:=tk }) (n:="longrange_iterator") st' rfl rfl (by decide) ⟨.int (lo+i),H,I1,⟨t,?_⟩,⟨rfl,rfl⟩,st',fun b hb=>(hf b hb).1⟩⟩;rw[Int.mul_one]
 done:=by intro X hP hw hK hc i pins s σ H E I hf st hg;subst hP hw hK;obtain⟨f0,f1,f2,f3,f4,f5⟩:=hf it (by simp);exact wpAny_pyNext_long_end (I.ok.hd hc) st (by have:n<=i:=hg;omega) fun h' eb=>⟨rfl,I.turned (t':=s.toks) (fun b o hb e=>eb b o hb e) f0 f1 f3 f4 f5⟩
 self:=fun _ _ _ _ _ st h=>wpAny_pyIter_longiter st h
section
variable{X:Cx}{tg:QO}
theorem JdY{pins:List (Qc×Obj)}{σ:St}{H:Hp}{s:Qd}{R:It->Hp->Prop}{E:Qa->Qd->Prop}{lo hi:Int}{t u v:Tok}{tk:Nat}(I:Inv X pins σ H s)
 (q:R (Itr lo (hi-lo).toNat) H):wpAny (model X.prog X.w) X.A (pyIter (.ref s.heap.objs.size)) (PIE X pins σ tg R) E { s with heap:=s.heap.push { cls:=.type "range",data:=.fields #[.int lo t,.int hi u,.int 1 v] },toks:=tk }:=by
 have I1:Inv X pins σ H { s with heap:=s.heap.push { cls:=.type "range",data:=.fields #[.int lo t,.int hi u,.int 1 v] },toks:=tk }:=I.kept fun b o e=>Qf _ e
 have e1:lo+((0:Nat):Int)*1=lo:=by simp
 have e2:(((hi-lo).toNat:Nat):Int)-((0:Nat):Int)=K2 lo hi 1:=by rw[rangeSize_one];split <;> omega
 have fr:∀b∈[(s.heap.push { cls:=.type "range",data:=.fields #[.int lo t,.int hi u,.int 1 v] }).objs.size],FpOk X pins H b:=fun b hb=>by
  have e:b=(s.heap.push { cls:=.type "range",data:=.fields #[.int lo t,.int hi u,.int 1 v] }).objs.size:=by simpa using hb
  subst e;exact I1.fpOk (Qr _) (I1.hok.fresh (Qr _))
 cases hs:Builtin.Range.small lo hi 1 with
 | true =>
  refine wpAny_pyIter_range (L6 ..) hs ?_;refine⟨(s.heap.push { cls:=.type "range",data:=.fields #[.int lo t,.int hi u,.int 1 v] }).objs.size,[(s.heap.push { cls:=.type "range",data:=.fields #[.int lo t,.int hi u,.int 1 v] }).objs.size],_,_,H,rfl,
   I1.kept (t':=tk) fun b o e=>Qf _ e,Zi _ lo (hi-lo).toNat,?_,fr,q⟩
  show IsRangeIter _ _ (lo+((0:Nat):Int)*1) ((((hi-lo).toNat:Nat):Int)-((0:Nat):Int)) 1;rw[e1,e2];exact QA _ rfl
 | false =>
  refine wpAny_pyIter_longrange (L6 ..) hs ?_;refine⟨(s.heap.push { cls:=.type "range",data:=.fields #[.int lo t,.int hi u,.int 1 v] }).objs.size,[(s.heap.push { cls:=.type "range",data:=.fields #[.int lo t,.int hi u,.int 1 v] }).objs.size],_,_,H,rfl,
   I1.kept (t':=tk) fun b o e=>Qf _ e,Jch _ lo (hi-lo).toNat,?_,fr,q⟩
  show IsLongIter _ _ (lo+((0:Nat):Int)*1) ((((hi-lo).toNat:Nat):Int)-((0:Nat):Int)) 1;rw[e1,e2];exact QA _ rfl
noncomputable def Jh9(ta:TA):TI:=fun σ H R=>ta σ H fun vs H1=>∃i j:Int,vs=[.int i,.int j]/\R (Itr i (j-i).toNat) H1
theorem ZT{a b:QO}{ta:TA}{p pos:Pos}(hg:Gl X "range")(hm:X.mg "range"=none)(ha:PA X [a,b] ta)(hs:starEach [a,b] X.env=[(false,eval a X.env),(false,eval b X.env)]:=by rfl)(hs2:starEach [b] X.env=[(false,eval b X.env)]:=by rfl) :
 PI X tg (.Call (.Name "range" p) [a,b] [] pos) (Jh9 ta):=by
 intro pins s σ H R I h;refine Call_ (Vf I hg hm boot_range (Go (thn (ha pos pins s σ H _ I h) fun us s1 ⟨vs,H1,I1,r1,q1⟩=>?_) (by rw[hs,hs2]) (by rw[hs2];rfl)));obtain⟨i,j,e,q⟩:=q1;subst e
 cases r1 with
 | cons r rr =>
  cases rr with
  | cons r' rr=>cases rr;obtain⟨t,rfl⟩:=r;obtain⟨t',rfl⟩:=r';exact call_range_2 (JdY I1 q)
end
end L2
namespace LE
open PySem L2 LR
noncomputable def iRW(as:En->Option (List Sl)):En->Option (List D):=fun E=>(as E).bind fun ss=>match ss with
 | [.sh (.int a),.sh (.int b)]=>some (rng a (b-a).toNat)
 | _=>none
theorem Jii{K:Qn}{C:Qc}{m:Bool}{t:TA}{ev:En->Option (List Sl)}(ha:SA K C t ev):SI K C m (Jh9 t) (iRW ev):=by
 intro B H0 H σ E ds R I e q;obtain⟨ss,e1,e⟩:=bind_some e;split at e
 ·cases e;refine ha B H0 H σ E _ _ I e1 fun vs H1 H1' s1 r1=>?_
  obtain⟨v,w,rfl,r,r'⟩:=r1.two;rw[RD.intI r,RD.intI r'];exact⟨_,_,rfl,q _ _ _ s1 JeV⟩
 ·cases e
end LE

end
open L2 LR
local macro_rules | `(tactic| walk_at "side")=>`(tactic| first | decide | exact⟨by decide,by decide,by decide⟩ | exact⟨by decide,by decide⟩ | (show(0:Int)<_;omega) | (show(0:Int)<_/\_<(1073741824:Int);omega) | exact Or.inl ⟨by omega,by omega⟩ | exact Or.inr ⟨by omega,by omega⟩ | assumption)
local macro_rules | `(tactic| walk_at "rd1")=>`(tactic| with_reducible first | refine Jj6 ?_ | refine JjN ?_ | refine JjS ?_ | refine Jj4 ?_ | refine Jhk ?_ | refine Jhs ?_ | refine Jle ?_ | refine Jlh ?_ | refine Jhw ?_ | refine Jlg ?_ | refine Jhx ?_ | refine JjM ?_ | refine Jlf ?_ | refine Jj2 ?_ | refine Jhu ?_ | refine Jhi ?_ | refine Jj3 ?_ | refine JjR ?_ | refine Jhj ?_ | refine Jj1 ?_ | refine Jlb ?_ | refine VN ?_ | refine LR.Jc5 ?_ | refine Jj7 ?_ | refine JjY ?_ | refine Jld ?_ | refine JfB ?_ | refine Jhm ?_ | refine JfA ?_ | refine Jhl ?_ | refine JjQ ?_ | refine Jhv ?_ | refine Jfz ?_ | refine Jj9 ?_ | refine JlF ?_ | refine Jlc ?_ | refine JlH ?_ | refine Jav ?_ | refine JjO ?_ | refine JjZ ?_ | refine JjP ?_ | refine Jj0 ?_ | refine JjT ?_ | refine Jht ?_ | refine JfC ?_ | refine JfD ?_ | refine Exists.intro _ (And.intro (LR.Jkp _ _ _) ?_))
local macro_rules | `(tactic| walk_at "rd2")=>`(tactic| first | ((with_reducible refine JlG ?hc ?_);(case hc=>walk_at "side")) | ((with_reducible refine Jj8 (v:=?vv) ?hx ?_);(case hx=>exact rfl)) | (with_reducible refine Exists.intro _ (And.intro (Eq.refl (V.bl _)) ?_)))
local macro_rules | `(tactic| walk_at "rd")=>`(tactic| repeat (first | walk_at "rd1" | walk_at "rd2"))
noncomputable section
namespace LK
open PySem L2 LR LE
noncomputable def J2:List Sl->Option Sl:=YV 1 (JZ (JbI (JbK "int" (Jb 0)) (Jiz (JbK "bool" (Jb 0)))))
noncomputable def Up:List Sl->Option Sl:=YV 2 (Jp (Jr 1 (Uc (aC (Wk ["BadRow","BadText","TooMany"] "BadRow" (Jb 0)) (aC (Wk ["BadRow","BadText","TooMany"] "TooMany" (Jb 0)) (aC (Wk ["BadRow","BadText","TooMany"] "BadText" (Jb 0)) (aC (Wk ["BadRow","BadText","TooMany"] "BadSeats" (Jb 0)) a0))))))
 (Jp (Jr 1 (e2 Jy (Jb 1) (Uc (aC (Wk ["BadRow","BadText","TooMany"] "BadTable" (Jb 0)) (aC (Wk ["BadRow","BadText","TooMany"] "BadDeed" (Jb 0)) (aC (Wk ["BadRow","BadText","TooMany"] "Unlike" (Jb 0)) (aC (Wk ["BadRow","BadText","TooMany"] "NoRow" (Jb 0)) a0)))))))
 (JZ (JbI (e2 fEq (eMB JkJ (Jb 1) (eC (.bl true))) (eC (.int 1))) (JbI (Wk ["BadRow","BadText","TooMany"] "LumpError" (Jb 0)) (JkI ["BadRow","BadText","TooMany"] (Jb 0)))))))
noncomputable def YU:List Sl->Option Sl:=YV 2 (JZ (eF Jgy (aC (WJ (iE true (e1 Wm (Jb 0))) (.tp (.cons (.nm 0) (.cons (.nm 1) .nil))) yes? (JbJ fLe fLt (Jb 0) (Jb 2) (e2 Jy (Jb 0) (Jb 1))) [none,none,some 1]) a0)))
noncomputable def JS:List Sl->Option Sl:=YV 3 (Jp (xIf (tB? (e2 fGt (e2 Y2 (Jb 2) (Jb 1)) (eC (.int 400)))) YK JJ)
 (JZ (eM WR (eC (.str "")) (aC (WJ (iRW (aC (Jb 1) (aC (Jb 2) a0))) (.nm 0) yes? (eIf (tTru? (eU 2 YU (aC (Jb 1) (aC (Jb 0) a0)))) (eC (.str "*")) (eC (.str "."))) [none,some 0]) a0))))
noncomputable def Yl:List Sl->Option Xm:=Vz 3 (Y6 (xIf (tB? (e2 fGt (e2 Y2 (Jb 2) (Jb 1)) (eC (.int 400)))) YK JJ)
 (U5 (tB? (e2 fGt (e2 Y2 (Jb 2) (Jb 1)) (eC (.int 400)))) (Uq "TooMany" (aC (eC (.str "a picture has at most 400 boxes")) a0)) Zu) Zu)
noncomputable def Yt:List Sl->Option Xm:=Vz 4 (Y6 (Jr 1 (eC .non))
 Zu (WM (iV 0) (.tp (.cons (.nm 2) (.cons (.nm 3) .nil))) (Jp (xIf (tB? (e2 fLt (Jb 3) (eC (.int 1)))) YK JJ)
 (Jp (xIf (tAnd? (tB? (e2 VW (Jb 1) (eC .non))) (tB? (e2 fLe (Jb 2) (Jb 1)))) YK JJ)
 (Jr 1 (e2 Jy (Jb 2) (Jb 3))))) (Y6 (xIf (tB? (e2 fLt (Jb 3) (eC (.int 1)))) YK JJ)
 (U5 (tB? (e2 fLt (Jb 3) (eC (.int 1)))) (Uq "BadRow" (aC (eC (.str "a stretch has at least one ball")) a0)) Zu) (Y6 (xIf (tAnd? (tB? (e2 VW (Jb 1) (eC .non))) (tB? (e2 fLe (Jb 2) (Jb 1)))) YK JJ)
 (U5 (tAnd? (tB? (e2 VW (Jb 1) (eC .non))) (tB? (e2 fLe (Jb 2) (Jb 1)))) (Uq "BadRow" (aC (eC (.str "a gap lies between two stretches, which stand from left to right")) a0)) Zu) Zu))))
noncomputable def JX:List Sl->Option Xm:=Vz 2 (Y6 (xIf (tB? (e2 fGt (eF Uh (aC (Jb 1) a0)) (eC (.int 30)))) YK JJ)
 (U5 (tB? (e2 fGt (eF Uh (aC (Jb 1) a0)) (eC (.int 30)))) (Uq "TooMany" (aC (eC (.str "a row has at most 30 stretches")) a0)) Zu) (exU 1 Yt (aC (Jb 1) a0)))
noncomputable def JD:List Sl->Option Sl:=YV 4 (Jp (Jed 1 (Uc a0))
 (Jp (Y4 (iV 0) (.nm 2) (Jp (Jr 3 (Jb 2))
 (Jp (xIf (tAnd? (tTru? (Jb 1)) (tB? (e2 fEq (eF Jaa (aC (e2 fIx (Jb 1) (e1 VX (eC (.int 1)))) a0)) (Jb 2)))) (JhZ 1 3 fun s=>fIx s (.sh (.int 0))) JJ)
 (Jck 1 (YN (aC (Jb 3) (aC (e2 Y2 (e2 Jy (Jb 2) (eC (.int 1))) (Jb 3)) a0)))))))
 (Zp 1)))
noncomputable def JE:List Sl->Option Sl:=YV 4 (Jp (Y4 (Yi 1 (aC (Jb 0) a0)) (.tp (.cons (.nm 2) (.cons (.nm 3) .nil))) (xIf (tAnd? (tB? (e2 fNe (Jb 3) (eC (.str "*")))) (tB? (e2 fNe (Jb 3) (eC (.str "."))))) YK JJ))
 (JZ (eF VA (aC (eU 1 JD (aC (WJ (Yi 0 (aC (Jb 0) a0)) (.tp (.cons (.nm 0) (.cons (.nm 1) .nil))) (tB? (e2 fEq (Jb 1) (eC (.str "*")))) (e2 Jy (Jb 2) (Jb 0)) [none,none,some 1]) a0)) a0))))
noncomputable def J5:List Sl->Option Xm:=Vz 4 (Y6 (Y4 (Yi 1 (aC (Jb 0) a0)) (.tp (.cons (.nm 2) (.cons (.nm 3) .nil))) (xIf (tAnd? (tB? (e2 fNe (Jb 3) (eC (.str "*")))) (tB? (e2 fNe (Jb 3) (eC (.str "."))))) YK JJ))
 (WM (Yi 1 (aC (Jb 0) a0)) (.tp (.cons (.nm 2) (.cons (.nm 3) .nil))) (xIf (tAnd? (tB? (e2 fNe (Jb 3) (eC (.str "*")))) (tB? (e2 fNe (Jb 3) (eC (.str "."))))) YK JJ) (U5 (tAnd? (tB? (e2 fNe (Jb 3) (eC (.str "*")))) (tB? (e2 fNe (Jb 3) (eC (.str "."))))) (WN "BadText" (Jb 2)) Zu)) (JeC 1 JX (aC (eU 1 JD (aC (WJ (Yi 0 (aC (Jb 0) a0)) (.tp (.cons (.nm 0) (.cons (.nm 1) .nil))) (tB? (e2 fEq (Jb 1) (eC (.str "*")))) (e2 Jy (Jb 2) (Jb 0)) [none,none,some 1]) a0)) a0)))
noncomputable def Jq:List Sl->Option Sl:=YV 6 (Jp (Jr 4 (eC .non))
 (Jp (Jcl ["BadRow","BadText","TooMany"] 5 (xIf (tB? (e2 fEq (Jb 0) (eC (.int 0)))) (Zo (eU 3 JS (aC (Jb 1) (aC (Jb 2) (aC (Jb 3) a0))))) (Zo (eU 2 JE (aC (Jb 1) (aC (Jb 2) a0))))) (U5 (tB? (e2 fEq (Jb 0) (eC (.int 0)))) (exU 3 Yl (aC (Jb 1) (aC (Jb 2) (aC (Jb 3) a0)))) (exU 2 J5 (aC (Jb 1) (aC (Jb 2) a0)))) (Jr 4 (Jb 5)))
 (Jp (xIf (tOr? (tB? (e2 fIs (Jb 4) (eC .non))) (tNot? (tTru? (eU 1 Up (aC (Jb 4) a0))))) (JZ (eC .non)) JJ)
 (Jp (xIf (tAnd? (tTru? (Wk ["BadRow","BadText","TooMany"] "BadText" (Jb 4))) (tTru? (eU 1 J2 (aC (eAt ["BadText"] (Jb 4)) a0)))) (JZ (eAt ["BadText"] (Jb 4))) JJ)
 (JZ (Wk ["BadRow","BadText","TooMany"] "TooMany" (Jb 4)))))))
noncomputable def YD:List Sl->Option Sl:=YV 3 (Jp (xIf (tOr? (tNot? (tTru? (JbK "tuple" (Jb 0)))) (tB? (e2 fNe (eF Uh (aC (Jb 0) a0)) (eF Uh (aC (Jb 1) a0))))) (JZ (eC (.bl false))) JJ)
 (Jp (Y4 (iR1 (aC (eF Uh (aC (Jb 1) a0)) a0)) (.nm 2) (Jp (xIf (tOr? (tNot? (tTru? (JbK "tuple" (e2 fIx (Jb 0) (Jb 2))))) (tOr? (tB? (e2 fNe (eF Uh (aC (e2 fIx (Jb 0) (Jb 2)) a0)) (eC (.int 2)))) (tB? (e2 fNe (e2 fIx (Jb 0) (Jb 2)) (e2 fIx (Jb 1) (Jb 2)))))) (JZ (eC (.bl false))) JJ)
 (xIf (tOr? (tNot? (tTru? (eU 1 J2 (aC (e2 fIx (e2 fIx (Jb 0) (Jb 2)) (eC (.int 0))) a0)))) (tNot? (tTru? (eU 1 J2 (aC (e2 fIx (e2 fIx (Jb 0) (Jb 2)) (eC (.int 1))) a0))))) (JZ (eC (.bl false))) JJ)))
 (JZ (eC (.bl true)))))
noncomputable def JW:List Sl->Option Sl:=YV 4 (Jp (Jr 3 (eU 2 JE (aC (Jb 0) (aC (Jb 1) a0))))
 (JZ (JbI (Jew (Jb 3)) (eU 2 YD (aC (e1 Wm (Jb 3)) (aC (Jb 2) a0))))))
noncomputable def Yj:List Sl->Option Sl:=YV 4 (Jp (Jr 2 (e2 Jy (eC (.int 401)) (e2 J6 (Jb 1) (eC (.int 3500)))))
 (Jp (Jr 3 (e2 Jy (eC (.int 1)) (e2 J6 (e2 Yy (Jb 1) (eC (.int 3500))) (eC (.int 1000)))))
 (Jp (xIf (tNot? (tTru? (eU 3 JW (aC (e2 Yz (eC (.str "*")) (Jb 2)) (aC (Jb 0) (aC (Uc (aC (YN (aC (Jb 0) (aC (Jb 2) a0))) a0)) a0)))))) (JZ (eC (.bl false))) JJ)
 (JZ (eU 3 JW (aC (e2 Jy (e2 Jy (e2 Yz (eC (.str ".")) (Jb 3)) (e2 Yz (eC (.str "*")) (Jb 2))) (eC (.str ".*"))) (aC (Jb 0) (aC (Uc (aC (YN (aC (e2 Jy (Jb 0) (Jb 3)) (aC (Jb 2) a0))) (aC (YN (aC (e2 Jy (e2 Jy (e2 Jy (Jb 0) (Jb 3)) (Jb 2)) (eC (.int 1))) (aC (eC (.int 1)) a0))) a0))) a0))))))))
noncomputable def JV:List Sl->Option Sl:=YV 7 (Jp (Jed 3 (e2 Jdz (Uc (aC (eC (.str ".")) a0)) (eF JeI (aC (eC (.int 0)) (aC (e2 Y2 (Jb 2) (Jb 1)) a0)))))
 (Jp (Y4 (iV 0) (.tp (.cons (.nm 4) (.cons (.nm 5) .nil))) (Y4 (iRW (aC (eF JeI (aC (Jb 1) (aC (Jb 4) a0))) (aC (eF JgB (aC (Jb 2) (aC (e2 Jy (Jb 4) (Jb 5)) a0))) a0))) (.nm 6) (Zq 3 (e2 Y2 (Jb 6) (Jb 1)) (eC (.str "*")))))
 (JZ (eM WR (eC (.str "")) (aC (Jb 3) a0)))))
noncomputable def JQ:List Sl->Option Sl:=YV 5 (Jp (Jr 4 (eU 3 JS (aC (Jb 0) (aC (Jb 2) (aC (Jb 3) a0)))))
 (JZ (JbI (JbK "str" (Jb 4)) (e2 fEq (Jb 4) (eU 3 JV (aC (Jb 1) (aC (Jb 2) (aC (Jb 3) a0))))))))
noncomputable def Yk:List Sl->Option Sl:=YV 7 (Jp (Jr 2 (eF VA (aC (eF WP (aC (Jb 0) a0)) a0)))
 (Jp (Y4 (iR1 (aC (eC (.int 4)) a0)) (.nm 3) (Jp (Jr 4 (e2 J6 (Jb 1) (eC (.int 1000))))
 (Jp (xIf (tB? (e2 fNe (Jb 0) (Uc a0))) (Jp (Jkt (.tp (.cons (.nm 5) (.cons (.nm 6) .nil))) (e2 fIx (Jb 0) (e2 J6 (e2 Jy (e2 Yy (Jb 1) (eC (.int 7))) (e2 WQ (Jb 3) (Jb 3))) (eF Uh (aC (Jb 0) a0)))))
 (Jr 4 (e2 Y2 (e2 fIx (Uc (aC (Jb 5) (aC (e2 Jy (Jb 5) (Jb 6)) (aC (e2 Jy (Jb 5) (e2 Yy (Jb 6) (eC (.int 2)))) (aC (e2 Y2 (Jb 5) (eC (.int 40))) a0))))) (Jb 3)) (e2 J6 (e2 Yy (Jb 1) (eC (.int 50))) (eC (.int 30)))))) JJ)
 (xIf (tNot? (tTru? (eU 4 JQ (aC (Jb 2) (aC (Jb 0) (aC (Jb 4) (aC (e2 Jy (e2 Jy (Jb 4) (eC (.int 20))) (e2 J6 (e2 Yy (Jb 1) (eC (.int 1500))) (eC (.int 40)))) a0))))))) (JZ (eC (.bl false))) JJ))))
 (JZ (e2 fEq (e1 Wm (Jb 2)) (eF Vd (aC (Jb 0) a0))))))
noncomputable def JC:List Sl->Option Sl:=YV 2 (Jp (xIf (tB? (e2 fLt (Jb 1) (eF Uh (aC (Jb 0) a0)))) (JZ (e2 fIx (Jb 0) (Jb 1))) JJ)
 (JZ (eC (.int 0))))
noncomputable def Yr:List Sl->Option Sl:=YV 9 (Jp (Jr 5 (e2 Y2 (e2 J6 (eU 2 JC (aC (Jb 0) (aC (Jb 1) a0))) (e2 Jy (e2 WQ (eC (.int 2)) (Jb 4)) (eC (.int 1)))) (Jb 4)))
 (Jp (Jed 6 (Uc a0))
 (Jp (Y4 (iR1 (aC (Jb 2) a0)) (.nm 7) (Jp (Jr 8 (e2 Jy (eC (.int 1)) (e2 J6 (eU 2 JC (aC (Jb 0) (aC (e2 Jy (e2 Jy (Jb 1) (eC (.int 1))) (e2 WQ (eC (.int 2)) (Jb 7))) a0))) (Jb 3))))
 (Jp (Jck 6 (YN (aC (Jb 5) (aC (Jb 8) a0))))
 (Jr 5 (e2 Jy (e2 Jy (e2 Jy (Jb 5) (Jb 8)) (eC (.int 1))) (e2 J6 (eU 2 JC (aC (Jb 0) (aC (e2 Jy (e2 Jy (Jb 1) (eC (.int 2))) (e2 WQ (eC (.int 2)) (Jb 7))) a0))) (Jb 3)))))))
 (Zp 6))))
noncomputable def Yf:List Sl->Option Sl:=YV 4 (Jp (Jr 1 (eU 2 JC (aC (Jb 0) (aC (eC (.int 0)) a0))))
 (Jp (Jr 2 (e2 fIx (Uc (aC (eC (.int 2)) (aC (eC (.int 7)) (aC (eC (.int 1000)) (aC (e2 Vc (eC (.int 10)) (eC (.int 30))) a0))))) (e2 J6 (e2 Yy (Jb 1) (eC (.int 31))) (eC (.int 4)))))
 (Jp (Jr 3 (e2 fIx (Uc (aC (eC (.int 3)) (aC (eC (.int 1000)) (aC (e2 Vc (eC (.int 10)) (eC (.int 40))) a0)))) (e2 J6 (e2 Yy (Jb 1) (eC (.int 124))) (eC (.int 3)))))
 (JZ (eU 5 Yr (aC (Jb 0) (aC (eC (.int 1)) (aC (e2 J6 (Jb 1) (eC (.int 31))) (aC (Jb 2) (aC (Jb 3) a0))))))))))
noncomputable def Ye:List Sl->Option Sl:=YV 6 (Jp (Jr 3 (Uc (WB [" ","o","-","0","+",",","#","\n"] a0)))
 (Jp (Jr 4 (e2 J6 (e2 Yy (Jb 2) (eC (.int 8))) (e2 Jy (eF Uh (aC (Jb 0) a0)) (eC (.int 1)))))
 (Jp (Jr 5 (e2 Jy (e2 Jy (Jge (Jb 0) none (some (Jb 4))) (e2 fIx (Jb 3) (e2 J6 (Jb 2) (eC (.int 8))))) (Jge (Jb 0) (some (Jb 4)) none)))
 (Jp (xIf (tB? (e2 fEq (e2 J6 (e2 Yy (Jb 2) (eC (.int 5))) (eC (.int 2))) (eC (.int 1)))) (Jr 5 (e2 Jy (e2 Jy (Jb 5) (e2 fIx (Jb 3) (e2 J6 (e2 Yy (Jb 2) (eC (.int 64))) (eC (.int 8))))) (eC (.str "*")))) JJ)
 (JZ (e2 fEq (eU 4 Jq (aC (eC (.int 1)) (aC (Jb 5) (aC (Jb 1) (aC (eC (.int 0)) a0))))) (e2 Jy (Jb 4) (eC (.int 1)))))))))
noncomputable def Yg:List Sl->Option Sl:=YV 6 (Jp (Jr 1 (eU 2 JC (aC (Jb 0) (aC (eC (.int 0)) a0))))
 (Jp (Jr 2 (e2 Y2 (e2 J6 (eU 2 JC (aC (Jb 0) (aC (eC (.int 1)) a0))) (e2 WQ (eC (.int 2)) (e2 Vc (eC (.int 10)) (eC (.int 59))))) (e2 Vc (eC (.int 10)) (eC (.int 59)))))
 (Jp (xIf (tB? (e2 fEq (e2 J6 (Jb 1) (eC (.int 2))) (eC (.int 0)))) (Jr 2 (e2 Y2 (e2 J6 (eU 2 JC (aC (Jb 0) (aC (eC (.int 1)) a0))) (eC (.int 41))) (eC (.int 20)))) JJ)
 (Jp (Jed 3 (Uc a0))
 (Jp (Y4 (iR1 (aC (e2 J6 (e2 Yy (Jb 1) (eC (.int 2))) (eC (.int 31))) a0)) (.nm 4) (Jp (Jr 5 (e2 Jy (eC (.int 1)) (e2 J6 (eU 2 JC (aC (Jb 0) (aC (e2 Jy (eC (.int 2)) (e2 WQ (eC (.int 2)) (Jb 4))) a0))) (eC (.int 5)))))
 (Jp (Jck 3 (YN (aC (Jb 2) (aC (Jb 5) a0))))
 (Jr 2 (e2 Jy (e2 Jy (e2 Jy (Jb 2) (Jb 5)) (eC (.int 1))) (e2 J6 (eU 2 JC (aC (Jb 0) (aC (e2 Jy (eC (.int 3)) (e2 WQ (eC (.int 2)) (Jb 4))) a0))) (eC (.int 4))))))))
 (Zp 3))))))
noncomputable def JeB:List Sl->Option Sl:=YV 12 (Jp (Jr 1 (eU 1 Yg (aC (Jb 0) a0)))
 (Jp (Jr 2 (eF VA (aC (eF WP (aC (Jb 1) a0)) a0)))
 (Jp (Jr 3 (eC (.int 0)))
 (Jp (Jr 4 (eC (.int 0)))
 (Jp (xIf (tB? (e2 fNe (Jb 1) (Uc a0))) (Jp (Jr 3 (e2 fIx (e2 fIx (Jb 1) (eC (.int 0))) (eC (.int 0))))
 (Jr 4 (e2 Jy (e2 fIx (e2 fIx (Jb 1) (e1 VX (eC (.int 1)))) (eC (.int 0))) (e2 fIx (e2 fIx (Jb 1) (e1 VX (eC (.int 1)))) (eC (.int 1)))))) JJ)
 (Jp (Jr 5 (eF Jaa (aC (Jb 0) a0)))
 (Jp (Jr 6 (e2 Y2 (Jb 3) (e2 J6 (Jb 5) (eC (.int 30)))))
 (Jp (Jr 7 (e2 Jy (e2 Y2 (Jb 3) (eC (.int 30))) (e2 J6 (e2 Yy (Jb 5) (eC (.int 7))) (e2 Jy (e2 Y2 (Jb 4) (Jb 3)) (eC (.int 60))))))
 (Jp (Y4 (iE false (Uc (aC (YN (aC (Jb 6) (aC (e2 J6 (e2 Yy (Jb 5) (eC (.int 30))) (eC (.int 401))) a0))) (aC (YN (aC (Jb 6) (aC (eC (.int 400)) a0))) (aC (YN (aC (Jb 7) (aC (eC (.int 60)) a0))) (aC (YN (aC (Jb 7) (aC (eC (.int 0)) a0))) (aC (YN (aC (Jb 7) (aC (e1 VX (eC (.int 5))) a0))) a0))))))) (.tp (.cons (.nm 8) (.cons (.nm 9) .nil))) (xIf (tNot? (tTru? (eU 4 JQ (aC (Jb 2) (aC (Jb 1) (aC (Jb 8) (aC (e2 Jy (Jb 8) (Jb 9)) a0))))))) (JZ (eC (.bl false))) JJ))
 (Jp (Jr 10 (eU 3 JV (aC (Jb 1) (aC (Jb 6) (aC (Jb 4) a0)))))
 (Jp (xIf (tOr? (tNot? (tTru? (eU 3 JW (aC (Jb 10) (aC (Jb 6) (aC (Jb 1) a0)))))) (tB? (e2 fNe (e1 Wm (Jb 2)) (eF Vd (aC (Jb 1) a0))))) (JZ (eC (.bl false))) JJ)
 (Jp (xIf (tOr? (tNot? (tTru? (eU 3 Ye (aC (Jb 10) (aC (Jb 6) (aC (e2 J6 (e2 Yy (Jb 5) (eC (.int 7))) (e2 Vc (eC (.int 10)) (eC (.int 9)))) a0)))))) (tB? (e2 YO (eU 4 Jq (aC (eC (.int 0)) (aC (Jb 2) (aC (Jb 7) (aC (e2 Jy (Jb 7) (eC (.int 401))) a0))))) (eC (.bl true))))) (JZ (eC (.bl false))) JJ)
 (Jp (xIf (tOr? (tNot? (tTru? (eU 2 Yk (aC (eU 1 Yf (aC (Jb 0) a0)) (aC (e2 J6 (e2 Yy (Jb 5) (eC (.int 11))) (e2 Vc (eC (.int 10)) (eC (.int 9)))) a0))))) (tNot? (tTru? (eU 2 Yj (aC (Jb 3) (aC (e2 J6 (e2 Yy (Jb 5) (eC (.int 13))) (e2 Vc (eC (.int 10)) (eC (.int 9)))) a0)))))) (JZ (eC (.bl false))) JJ)
 (Jp (Jr 11 (eU 2 JE (aC (e2 Yz (eC (.str "*.")) (eC (.int 30))) (aC (Jb 6) a0))))
 (Jp (xIf (tOr? (tB? (e2 fNe (eF Uh (aC (e1 Wm (Jb 11)) a0)) (eC (.int 30)))) (tB? (e2 YO (eU 4 Jq (aC (eC (.int 1)) (aC (e2 Yz (eC (.str "*.")) (eC (.int 31))) (aC (Jb 6) (aC (eC (.int 0)) a0))))) (eC (.bl true))))) (JZ (eC (.bl false))) JJ)
 (JZ (e2 fEq (eU 4 Jq (aC (eC (.int 1)) (aC (e2 Jy (e2 Yz (eC (.str "*.")) (eC (.int 31))) (eC (.str "x"))) (aC (Jb 6) (aC (eC (.int 0)) a0))))) (eC (.int 63)))))))))))))))))))
end LK
end
namespace LK
open PySem L2 LR LE
local macro_rules | `(tactic| omega)=>`(tactic| first | lia | omega (config:={}))
local macro_rules | `(tactic| walk_at "sd")=>`(tactic| first | omega (config:={}) | assumption | (simp only[QN,QR,List.length_reverse,Qp,QP,GN];omega (config:={})))
local macro_rules | `(tactic| walk_at "ev")=>`(tactic| simp -implicitDefEqProofs (disch:=walk_at "sd") only[YV,Jc9,Int.reduceToNat,Qp,QP,Nat.reduceAdd,Nat.reduceSub,Nat.reduceLT,Nat.reduceLeDiff,Q7,Nat.zero_lt_succ,Nat.succ_lt_succ_iff,List.reduceReplicate,Q1,GL,Q4,List.set_cons_zero,List.set_cons_succ,Kl,K7,QR,List.length_reverse,List.length_set,Qg,Lj,Option.bind_none,Option.map_none,if_true,if_false,ite_true,ite_false,decide_true,decide_false,Bool.not_true,Bool.not_false,Bool.and_true,KD,reduceIte,reduceCtorEq,Bool.false_eq_true,Qt,Q8,if_pos,
 Jp,xIf,JZ,Zp,JJ,Jed,Jr,Jkt,Zo,Jck,Zq,JhZ,JgV,Jgd,Sl.dt,pr?,JkR,JcX,ifB,lst?,WB,Jge,JlA,Sl.dk,int?,JiP,Y4,tB?,tTru?,tAnd?,tOr?,tNot?,Jko,e2,e1,Jb,eF,eM,eC,aC,a0,eU,UY,Sl.pass,YN,Uc,WS,Sl.frz,JbI,Jiz,eIf,JbJ,sh?,bool?,str?,keep?,JbK,Jew,tyN,D.isRow,Jji,Jjh,Uy,JhI,JhG,JhH,Jgg,Jgh,
 JkK,JgD,JgC,JgA,JgF,JgE,Jgr,JcB,Jgv,Jgu,Jgp,Jgo,Jgw,Jgx,Jgs,Jgq,Jgt,JiN,JiL,JiK,JiO,JiJ,JiM,JkN,JkM,JkP,JkL,JkO,Vd,WP,JeI,JgB,Wm,Sl.q,Sl.r,Sl.m,Sl.d,Sl.it,fEq,fNe,JiE,JiG,JiD,JiF,Jez,JiC,JiB,fIs,VW,JbM,JdH,JdF,JeS,JdJ,JdK,JdG,JeT,JdI,iE,iV,iR1,iRW,WJ,VB,Yi,WV,WK,JeQ,JiV,JfN,Ji7,JgK,Ji6,Jja,Ji8,Ji9,JkE,JkF,Jf4,Jek,Jlu,Jlv,Jlw,Jlx,Jly,eq_self])
noncomputable section
theorem JcM(i:Int):J2 [.sh (.int i)]=some (.sh (.bl true)):=by unfold J2;walk_at "ev"
theorem Good.cons'{p:Pr}{ps:List Pr}(g:Good (p::ps)):Good ps:=⟨fun i q e=>g.one (i+1) q (by simpa using e),fun i q r e1 e2=>g.gap (i+1) q r (by simpa using e1) (by simpa using e2)⟩
theorem Good.all{ps:List Pr}(g:Good ps):∀p∈ps,1<=p.2:=fun p hp=>by obtain⟨i,hi,e⟩:=Lw.mp hp;exact g.one i p (by simp[hi,e])
theorem Good.first{p:Pr}:∀{ps:List Pr},Good (p::ps)->∀q∈ps,p.1+p.2<q.1
 | [],_,q,hq=>nomatch hq
 | r::ps,g,q,hq=>by
  have h1:=g.gap 0 p r rfl rfl;rcases Qq.mp hq with z|z
  ·rw[z];exact h1
  ·have h2:=Good.first (Good.cons' g) q z
   have h3:=g.one 1 r rfl;omega
theorem Ut(ns:List Int)(k:Int)(hk:0<=k):JC [.sh (.fz (ns.map .int)),.sh (.int k)]=some (.sh (.int (cell ns k))):=by
 unfold JC;walk_at "ev"
 by_cases h:k<(ns.length:Int)
 ·simp only[h,Z1,JaJ hk h];walk_at "ev"
 ·simp only[h,Jet h];walk_at "ev"
theorem Je3(ns:List Int)(at' many span side:Int)(h1:0<=at')(h2:0<=many)(h3:many<=1000)(h4:0<span)(h5:0<=side) :
 Yr [.sh (.fz (ns.map .int)),.sh (.int at'),.sh (.int many),.sh (.int span),.sh (.int side)]=some (.own ((spr ns at' span (cell ns at' % (2*side+1)-side) many.toNat).2.map prE)):=by
 unfold Yr;walk_at "ev";rw[Ut _ _ h1];walk_at "ev";rw[JhB,Gy];refine VD (fun i E=>∃j7 j8,E=[Sl.sh (D.fz (ns.map .int)),Sl.sh (D.int at'),Sl.sh (D.int many),Sl.sh (D.int span),Sl.sh (D.int side),Sl.sh (D.int (spr ns at' span (cell ns at' % (2*side+1)-side) i).1),Sl.own ((spr ns at' span (cell ns at' % (2*side+1)-side) i).2.map prE),j7,j8]) ⟨.no,.no,rfl⟩ ?_ ?_
 ·rintro i E hi ⟨j7,j8,rfl⟩;have hl:=U4 ns at' span (cell ns at' % (2*side+1)-side) i;walk_at "ev";rw[Ut _ _ (by omega)];walk_at "ev";rw[Ut _ _ (by omega)];walk_at "ev";simp only[spr,Gk,Qt,Q8];exact⟨_,_,rfl⟩
 ·rintro E' ⟨j7,j8,rfl⟩;walk_at "ev"
theorem JgR(ns:List Int):Yf [.sh (.fz (ns.map .int))]=some (.own ((VG ns).map prE)):=by
 unfold Yf;walk_at "ev";rw[Ut _ _ (by decide)];walk_at "ev";have a4:=WC (l:=[2,7,1000,10 ^ 30]) (k:=cell ns 0 / 31 % 4) (by omega) (by show _<(4:Int);omega);have a3:=WC (l:=[3,1000,10 ^ 40]) (k:=cell ns 0 / 124 % 3) (by omega) (by show _<(3:Int);omega);simp only[Qt,Q8] at a4 a3;rw[a4];walk_at "ev";rw[a3];walk_at "ev";rw[Je3 ns 1 (cell ns 0 % 31) (Jb3 [2,7,1000,10 ^ 30] (cell ns 0 / 31 % 4)) (Jb3 [3,1000,10 ^ 40] (cell ns 0 / 124 % 3)) (by decide) (by omega) (by omega) (Jbs ns) (JhO ns)]
 rfl
theorem UC{α:Type}{xs:List α}{k:Nat}{x:α}(h:xs[k]?=some x):atI xs (k:Int)=some x:=by obtain⟨h1,h2⟩:=Qh.mp h;rw[JaK h1,h2]
noncomputable def tx(l:List Nat):Str:=⟨l.toArray⟩
theorem Jkr{a b:List Nat}:tx a=tx b↔a=b:=by
 constructor
 ·intro h;have:=congrArg (fun z:Str=>z.cps.toList) h
  simpa [tx] using this
 ·rintro rfl;rfl
theorem Vx(l:List Nat):(tx l).length=l.length:=by simp[tx,Str.length]
theorem UA(l:List Nat):(tx l).cps.toList=l:=rfl
theorem Jcj(a b:List Nat):tx a++tx b=tx (a++b):=by
 apply Str.mk.injEq _ _ |>.mpr
 apply Array.toList_inj.mp
 simp[tx]
theorem JhP(l:List Nat)(k:Nat)(h:k<=l.length):LC (tx l) (some (k:Int)) none=tx (l.drop k):=by
 have e:=StrLaws.sliceText_from (x:=tx l) (i:=(k:Int)) ⟨by omega,by rw[UA];omega⟩;rw[UA] at e
 show LY _ _ _=_;rw[e];unfold tx;congr 2;rw[KS,List.take_of_length_le (by rw[Ky];omega)]
theorem Jln(l:List Nat)(k:Nat)(h:k<=l.length):LC (tx l) none (some (k:Int))=tx (l.take k):=by
 have e:=StrLaws.sliceText_to (x:=tx l) (j:=(k:Int)) ⟨by omega,by rw[UA];omega⟩;rw[UA] at e
 show LY _ _ _=_;rw[e];unfold tx;rw[List.drop_zero,show((k:Int)-0).toNat=k by omega]
theorem JfI:Qy ""=tx []:=by decide +kernel
theorem JbH(a b:List Nat):decide (tx a=tx b)=decide (a=b):=by simp only[Jkr]
theorem Z8(p:Pr):fIx (.sh (prE p)) (.sh (.int 0))=some (.sh (.int p.1)):=rfl
theorem JeH(p:Pr):fIx (.sh (prE p)) (.sh (.int 1))=some (.sh (.int p.2)):=rfl
theorem Jkv(ps:List Pr)(hl:30<ps.length):JX [.no,.sh (.lst (ps.map prE))]=some ⟨Qy "TooMany",none⟩:=by unfold JX Vz Y6 U5 Uq exU;walk_at "ev";rw[decide_eq_true (show(ps.length:Int)>30 by omega)];walk_at "ev"
theorem JfG(s:Sl)(ps:List Pr)(e:s.q=some (ps.map prE))(h:¬(Good ps/\ps.length<=30)):VA [s]=none:=by show(s.q.bind _)=_;rw[e,Qg,V9,Qg];rw[if_neg];intro z;rw[QL,decide_eq_true_eq] at z;exact h ⟨Ve z.1,z.2⟩
noncomputable def JR(ps:List Pr)(x:Int):Bool:=(ps.map fun p=>decide (p.1<=x) && decide (x<p.1+p.2)).any id
theorem JdM(ps:List Pr)(x:Int)(h:ps.length<=1000):YU [.sh (.row (ps.map prE)),.sh (.int x)]=some (.sh (.bl (JR ps x))):=by
 unfold YU;walk_at "ev";rw[WL (g:=fun p=>D.bl (decide (p.1<=x) && decide (x<p.1+p.2)))]
 ·walk_at "ev";rw[Jgz (ns:=ps.map fun p=>decide (p.1<=x) && decide (x<p.1+p.2)) (by simp[Sl.q])];walk_at "ev";rfl
 ·intro p hp;simp only[prE];walk_at "ev"
  by_cases h1:p.1<=x
  ·simp only[h1];walk_at "ev"
  ·simp only[h1];walk_at "ev";simp
noncomputable def YA(ps:List Pr):List Int:=ps.flatMap fun p=>(QV p.2.toNat).map fun(k:Nat)=>p.1+(k:Int)
noncomputable def Y1(acc:List Pr)(y:Int):List Pr:=match acc[acc.length-1]? with
 | some q=>if q.1+q.2=y then acc.set (acc.length-1) (q.1,q.2+1) else acc++[(y,1)]
 | none=>acc++[(y,1)]
theorem JfW{acc:List Pr}{y:Int}(h:∀q,acc[acc.length-1]?=some q->q.1+q.2<y):Y1 acc y=acc++[(y,1)]:=by
 unfold Y1;split
 ·next q hq=>rw[if_neg (by have:=h q hq;omega)]
 ·rfl
theorem JhW(acc:List Pr)(b n:Int):Y1 (acc++[(b,n)]) (b+n)=acc++[(b,n+1)]:=by
 unfold Y1;have e:(acc++[(b,n)])[(acc++[(b,n)]).length-1]?=some (b,n):=by simp
 rw[e];dsimp only;rw[if_pos rfl];simp
theorem Jby{acc:List Pr}{b:Int}(h:∀q,acc[acc.length-1]?=some q->q.1+q.2<b):∀n:Nat,((QV (n+1)).map fun(k:Nat)=>b+(k:Int)).foldl Y1 acc=acc++[(b,(n:Int)+1)]
 | 0=>by show Y1 acc (b+((0:Nat):Int))=_;rw[show b+((0:Nat):Int)=b by simp,JfW h];rfl
 | n+1=>by rw[List.range_succ,Gk,List.foldl_append,Jby h n];show Y1 (acc++[(b,(n:Int)+1)]) (b+((n+1:Nat):Int))=_;rw[show b+((n+1:Nat):Int)=b+((n:Int)+1) by omega,JhW];rw[show(n:Int)+1+1=((n+1:Nat):Int)+1 by omega]
theorem Jbx:∀(qs acc:List Pr),Good qs->(∀q p,acc[acc.length-1]?=some q->qs[0]?=some p->q.1+q.2<p.1)->(YA qs).foldl Y1 acc=acc++qs
 | [],acc,_,_=>by simp[YA]
 | p::qs,acc,g,h=>by
  have hp:=g.one 0 p rfl
  show(((QV p.2.toNat).map fun(k:Nat)=>p.1+(k:Int))++YA qs).foldl Y1 acc=_;rw[List.foldl_append]
  have en:p.2.toNat=(p.2.toNat-1)+1:=by omega
  rw[en,Jby (fun q hq=>h q p hq rfl),Jbx qs _ (Good.cons' g) fun q p' hq hp'=>?_]
  ·rw[show((p.1,((p.2.toNat-1:Nat):Int)+1):Pr)=p from Prod.ext rfl (by dsimp only;omega)];simp
  ·have e:q=(p.1,((p.2.toNat-1:Nat):Int)+1):=by simpa using hq.symm
   subst e;have:=g.gap 0 p p' rfl (by simpa using hp');dsimp only;omega
theorem JhV{qs:List Pr}(g:Good qs):(YA qs).foldl Y1 []=qs:=Jbx qs [] g (fun q p h=>by simp at h)

theorem JgT(ps:List Pr)(h:ps.length<=1000):YD [.sh (.tup (ps.map prE)),.sh (.lst (ps.map prE))]=some (.sh (.bl true)):=by
 unfold YD;walk_at "ev";rw[JhB,Gy];refine VD (fun i E=>∃j2,E=[.sh (.tup (ps.map prE)),.sh (.lst (ps.map prE)),j2]) ⟨.no,rfl⟩ ?_ ?_
 ·rintro i E hi ⟨j2,rfl⟩;have hi':i<ps.length:=by simpa using hi
  have hg:(ps.map prE)[i]?=some (prE ps[i]):=by simp[hi']
  walk_at "ev";rw[UC hg];walk_at "ev";simp only[prE];walk_at "ev";rw[UC hg];walk_at "ev";rw[Z8,JeH];walk_at "ev";rw[JcM,JcM];walk_at "ev";exact⟨_,rfl⟩
 ·rintro E' ⟨j2,rfl⟩;walk_at "ev"
noncomputable def YH(ps:List Pr)(low:Int):Nat->List Nat
 | 0=>[]
 | n+1=>(if JR ps low=true then 42 else 46)::YH ps (low+1) n
noncomputable def plF(low:Int):List Nat->List Int
 | []=>[]
 | c::cs=>if c=42 then low::plF (low+1) cs else plF (low+1) cs
theorem UD(p:Pr)(ps:List Pr)(x:Int):JR (p::ps) x=(decide (p.1<=x) && decide (x<p.1+p.2) || JR ps x):=rfl
theorem WD:∀{ps:List Pr} {x:Int},(∀p∈ps,x<p.1\/p.1+p.2<=x)->JR ps x=false
 | [],x,_=>rfl
 | p::ps,x,h=>by
  rw[UD,WD fun q hq=>h q (Qo _ hq)];rcases h p Qz with z|z
  ·rw[decide_eq_false (show ¬p.1<=x by omega)];rfl
  ·rw[decide_eq_false (show ¬x<p.1+p.2 by omega)];simp
theorem Wu(ps:List Pr)(n:Nat):∀(m:Nat) (low:Int),YH ps low (m+n)=YH ps low m++YH ps (low+m) n
 | 0,low=>by rw[Nat.zero_add];simp[YH]
 | m+1,low=>by rw[show m+1+n=(m+n)+1 by omega,YH,YH,Wu ps n m (low+1),Q1,show low+1+(m:Int)=low+((m+1:Nat):Int) by omega]
theorem Zb(ps:List Pr):∀(m:Nat) (low:Int),(∀x,low<=x->x<low+m->JR ps x=false)->YH ps low m=Qi m 46
 | 0,low,_=>rfl
 | m+1,low,h=>by rw[YH,h low (Km _) (by omega),Zb ps m (low+1) fun x h1 h2=>h x (by omega) (by omega),QK];rfl
theorem Jbh(ps:List Pr):∀(m:Nat) (low:Int),(∀x,low<=x->x<low+m->JR ps x=true)->YH ps low m=Qi m 42
 | 0,low,_=>rfl
 | m+1,low,h=>by rw[YH,h low (Km _) (by omega),Jbh ps m (low+1) fun x h1 h2=>h x (by omega) (by omega),QK];rfl
theorem ZU(ps qs:List Pr):∀(m:Nat) (low:Int),(∀x,low<=x->x<low+m->JR ps x=JR qs x)->YH ps low m=YH qs low m
 | 0,low,_=>rfl
 | m+1,low,h=>by rw[YH,YH,h low (Km _) (by omega),ZU ps qs m (low+1) fun x h1 h2=>h x (by omega) (by omega)]
theorem Uj(ps:List Pr):∀(n:Nat) (low:Int),YH ps low n=(QV n).map fun(k:Nat)=>if JR ps (low+(k:Int))=true then 42 else 46
 | 0,low=>rfl
 | n+1,low=>by rw[Wu ps 1 n low,Uj ps n low,List.range_succ,Gk];rfl
theorem Wv(ps:List Pr)(low:Int)(n:Nat):(YH ps low n).length=n:=by rw[Uj];simp
theorem ZV(ps:List Pr)(low:Int)(n:Nat):∀c∈YH ps low n,c=42\/c=46:=by
 intro c hc;rw[Uj] at hc;obtain⟨k,_,rfl⟩:=Kr.mp hc;split
 ·exact .inl rfl
 ·exact .inr rfl
theorem Wx(cs:List Nat):∀(m:Nat) (low:Int),plF low (Qi m 46++cs)=plF (low+m) cs
 | 0,low=>by simp
 | m+1,low=>by rw[QK,Q1,plF,if_neg (by decide),Wx cs m (low+1),show low+1+(m:Int)=low+((m+1:Nat):Int) by omega]
theorem Ww(cs:List Nat):∀(m:Nat) (low:Int),plF low (Qi m 42++cs)=((QV m).map fun(k:Nat)=>low+(k:Int))++plF (low+m) cs
 | 0,low=>by simp
 | m+1,low=>by
  rw[QK,Q1,plF,if_pos rfl,Ww cs m (low+1),Lf,Qt,LZ,Q1];congr 1
  ·simp
  ·rw[show low+1+(m:Int)=low+((m+1:Nat):Int) by omega];congr 1;refine G6 fun k _=>?_
   simp only[Function.comp];omega
theorem Jfj:∀(ps:List Pr) (low:Int) (n:Nat),Good ps->(∀p∈ps,low<=p.1/\p.1+p.2<=low+n)->plF low (YH ps low n)=YA ps
 | [],low,n,_,_=>by rw[Zb [] n low fun _ _ _=>rfl];have:=Wx [] n low;rw[Q4] at this;rw[this];rfl
 | p::ps,low,n,g,h=>by
  have h1:=h p Qz
  have h2:=g.one 0 p rfl
  have hf:=Good.first g
  have g':=Good.cons' g
  have en:n=(p.1-low).toNat+(p.2.toNat+(n-(p.1-low).toNat-p.2.toNat)):=by omega
  have l1:low+((p.1-low).toNat:Int)=p.1:=by omega
  have l2:p.1+((p.2.toNat:Nat):Int)=p.1+p.2:=by omega
  have hg':=Good.all g';rw[en,Wu,Wu,l1,l2];rw[Zb (p::ps) _ low fun x h3 h4=>WD fun q hq=>by
   rcases Qq.mp hq with z|z
   ·subst z;omega
   ·have:=hf q z;omega]
  rw[Jbh (p::ps) _ p.1 fun x h3 h4=>by rw[UD,decide_eq_true (show p.1<=x from h3),decide_eq_true (show x<p.1+p.2 by omega)];rfl]
  rw[ZU (p::ps) ps _ (p.1+p.2) fun x h3 h4=>by rw[UD,decide_eq_false (show ¬x<p.1+p.2 by omega),Bool.and_false,KB]]
  rw[Wx,Ww,l1,l2,Jfj ps _ _ g' fun q hq=>?_]
  ·rfl
  ·have h5:=hf q hq
   have h6:=h q (Qo _ hq);omega
noncomputable def U6(low:Int)(n:Nat):List Pr:=(QV n).map fun(i:Nat)=>(low+2*(i:Int),1)
theorem JaF(low:Int)(n:Nat):(U6 low n).length=n:=by simp[U6]
theorem JaE(low:Int)(n i:Nat)(p:Pr)(h:(U6 low n)[i]?=some p):p=(low+2*(i:Int),1):=by unfold U6 at h;rw[Qw] at h;obtain⟨k,hk,rfl⟩:=GI.mp h;have:=Qh.mp hk;obtain⟨h1,h2⟩:=this;rw[List.getElem_range] at h2;rw[h2]
theorem JbB(low:Int)(n:Nat):Good (U6 low n):=⟨fun i q e=>by rw[JaE low n i q e];exact Km _,fun i q r e1 e2=>by rw[JaE low n i q e1,JaE low n (i+1) r e2];dsimp only;omega⟩
theorem JfX:∀(n:Nat) (low:Int) (cs:List Nat),plF low ((Qi n [42,46]).flatten++cs)=YA (U6 low n)++plF (low+2*n) cs
 | 0,low,cs=>by simp[U6,YA]
 | n+1,low,cs=>by
  rw[QK,Q9,GR];show plF low (42::46::((Qi n [42,46]).flatten++cs))=_;rw[plF,if_pos rfl,plF,if_neg (by decide),JfX n (low+1+1) cs]
  have e:U6 low (n+1)=(low,1)::U6 (low+1+1) n:=by
   unfold U6;rw[Lf,Qt,LZ];congr 1
   ·simp
   ·refine G6 fun k _=>?_
    simp only[Function.comp];exact Prod.ext (by dsimp only;omega) rfl
  rw[e,show low+1+1+2*(n:Int)=low+2*((n+1:Nat):Int) by omega];show _=((QV (1:Int).toNat).map fun(k:Nat)=>low+(k:Int))++YA (U6 (low+1+1) n)++_;simp
theorem Jfk(low:Int):∀(cs:List Nat) (k:Nat),((cs.zipIdx k).filter fun x=>x.1 == 42).map (fun x=>low+(x.2:Int))=plF (low+k) cs
 | [],k=>rfl
 | c::cs,k=>by
  rw[G3,K4,plF];have ih:=Jfk low cs (k+1);rw[show low+(k:Int)+1=low+((k+1:Nat):Int) by omega,<- ih]
  by_cases h:c=42
  ·subst h;simp
  ·rw[if_neg (by simpa using h),if_neg h]
theorem V4:Qy "*"=tx [42]:=by decide +kernel
theorem Jc7:Qy "."=tx [46]:=by decide +kernel
theorem Jil(c:Nat):sgE c=.str (tx [c]):=rfl
theorem WY:∀(l:List Nat),Lx (tx []) (l.map fun c=>tx [c])=tx l
 | []=>rfl
 | [c]=>rfl
 | c::d::l=>by
  have ih:=WY (d::l)
  show tx [c]++tx []++Lx (tx []) ((d::l).map fun c=>tx [c])=_;rw[ih,Jcj,Jcj];rfl
theorem Jcd(l:List Nat):strs? (l.map sgE)=some (l.map fun c=>tx [c]):=by
 induction l with
 | nil=>rfl
 | cons c l ih=>show(strs? (l.map sgE)).map _=_;rw[ih];rfl
theorem JaS{s:Sl}{l:List Nat}(e:s.r=some (l.map sgE))(h:l.length<=100000):WR (tx []) [s]=some (.sh (.str (tx l))):=by
 show s.r.bind _=_;rw[e,Qg,Jcd,Qg,WY];rw[if_pos]
 have e1:((l.map fun c=>tx [c]).map (·.length)).sum=l.length:=by
  clear e h
  induction l with
  | nil=>rfl
  | cons c l ih=>rw[Qt,Qt,List.sum_cons,ih,Vx];simp only[Qp,QP];omega
 rw[e1,Vx];simp only[QR,QP];omega
theorem Jaw(a:Int)(n:Nat):rng a n=(QV n).map fun(k:Nat)=>D.int (a+(k:Int)):=rfl
theorem JdN(ps:List Pr)(hl:ps.length<=1000)(low high:Int)(h:high-low<=400):JS [.sh (.row (ps.map prE)),.sh (.int low),.sh (.int high)]=some (.sh (.str (tx (YH ps low (high-low).toNat)))):=by
 unfold JS;have c:¬high-low>400:=by omega
 walk_at "ev";simp only[decide_eq_false c];walk_at "ev";have hn:(rng low (high-low).toNat).length=(high-low).toNat:=by rw[Jaw];simp
 have hz:(rng low (high-low).toNat).length<=16777216:=by omega
 simp only[hz];walk_at "ev";rw[Jaw,WL (g:=fun(k:Nat)=>sgE (if JR ps (low+(k:Int))=true then 42 else 46))]
 ·walk_at "ev";rw[JfI,JaS (l:=YH ps low (high-low).toNat) (by rw[Uj];simp[Sl.r,L4]) (by rw[Wv];omega)];rfl
 ·intro k hk;walk_at "ev";rw[JdM ps _ hl];walk_at "ev"
  by_cases hb:JR ps (low+(k:Int))=true
  ·simp only[hb];walk_at "ev";rw[V4];rfl
  ·simp only[hb];walk_at "ev";rw[Jc7];rfl
theorem Jee(ps:List Pr)(low high:Int)(h:400<high-low):JS [.sh (.row (ps.map prE)),.sh (.int low),.sh (.int high)]=none/\Yl [.sh (.row (ps.map prE)),.sh (.int low),.sh (.int high)]=some ⟨Qy "TooMany",none⟩:=by
 constructor
 ·unfold JS;walk_at "ev";simp only[decide_eq_true (show high-low>400 from h)];walk_at "ev";rfl
 ·unfold Yl Vz Y6 U5 Uq;walk_at "ev";simp only[decide_eq_true (show high-low>400 from h)];walk_at "ev"
theorem Jco{α:Type}{xs:List α}{x:α}(h:xs[xs.length-1]?=some x):atI xs (-1)=some x:=by
 obtain⟨h1,h2⟩:=Qh.mp h;unfold atI ixN;rw[if_neg (by omega),if_pos (by omega)];have:(-1+(xs.length:Int)).toNat=xs.length-1:=by omega
 simp only[Qg,this,h]
theorem JfK{acc:List Pr}{q:Pr}{y:Int}(he:acc[acc.length-1]?=some q)(h:q.1+q.2=y):acc.dropLast++[(q.1,y+1-q.1)]=acc.set (acc.length-1) (q.1,q.2+1):=by
 obtain⟨hl,e⟩:=Qh.mp he;have e2:y+1-q.1=q.2+1:=by omega
 rw[e2];have hne:acc≠[]:=fun z=>by subst z;simp at hl
 conv=>rhs;rw[<- List.dropLast_concat_getLast hne]
 rw[List.set_append_right _ _ (by simp)];simp
theorem JbU(l:List Int)(hl:l.length<=100000):JD [.sh (.lst (l.map .int))]=some (.own ((l.foldl Y1 []).map prE)):=by
 unfold JD;walk_at "ev";rw[Gy];refine UI (fun(rest:List Int) (acc:List Pr) E=>∃j2 j3,E=[.sh (.lst (l.map .int)),.own (acc.map prE),j2,j3]/\acc.length+rest.length<=100000) Y1 [] ⟨.no,.no,rfl,by simpa using hl⟩ ?_ ?_
 ·rintro y rest acc E ⟨j2,j3,rfl,hz⟩;rw[Qp] at hz;walk_at "ev"
  cases he:acc[acc.length-1]? with
  | none =>
   have hn:acc=[]:=by
    cases acc with
    | nil=>rfl
    | cons a acc=>simp at he
   subst hn;walk_at "ev";simp only[List.isEmpty_nil,Bool.not_true,Q8];walk_at "ev";refine⟨.sh (.int y),.sh (.int y),?_,?_⟩
   ·simp[Y1,prE];omega
   ·simp only[QP] at hz;simp[Y1];omega
  | some q =>
   have hl0:acc.length-1<acc.length:=(Qh.mp he).1
   have hne:(acc.map prE).isEmpty=false:=by cases acc with
    | nil=>simp at he
    | cons a acc=>rfl
   simp only[hne];walk_at "ev";rw[Z1,Jco he];walk_at "ev";have hs:Jaa [.sh (prE q)]=some (.sh (.int (q.1+q.2))):=by rw[JcC (ns:=[q.1,q.2]) rfl];simp
   rw[hs];walk_at "ev";unfold Y1;rw[he];dsimp only
   by_cases c2:q.1+q.2=y
   ·simp only[c2];walk_at "ev";have hg:(acc.map prE)[acc.length-1]?=some (prE q):=by rw[Qw,he];rfl
    rw[hg];walk_at "ev";rw[Z8];have hdl:(acc.map prE).dropLast.length<16777216:=by rw[Lv,QR];omega
    walk_at "ev";refine⟨.sh (.int y),.sh (.int q.1),?_,?_⟩
    ·rw[<- JfK he c2,Gk,List.map_dropLast];rfl
    ·omega
   ·simp only[c2];walk_at "ev";refine⟨.sh (.int y),.sh (.int y),?_,?_⟩
    ·rw[Gk];simp[prE];omega
    ·rw[QN,GN];omega
 ·rintro E' ⟨j2,j3,rfl,_⟩;walk_at "ev"
theorem JcK{α β:Type}{p:Pt}{b:Es}{f:α->D}(R:List α->β->En->Prop)(g:β->α->β):∀{as:List α} {E:En} (s:β) (h0:R as s E)
 (h:∀a as s E,R (a::as) s E->okS (R as (g s a)) ((p.bind (f a) E).bind b)),∃E',R [] (as.foldl g s) E'/\Yw p b (as.map f) E=some (.nx E')
 | [],E,s,h0,_=>⟨E,h0,rfl⟩
 | a::as,E,s,h0,h=>by
  obtain⟨E2,e2,r2⟩:=VE (h a as s E h0);obtain⟨E',h1,h2⟩:=JcK R g (as:=as) (E:=E2) (g s a) r2 h;refine⟨E',h1,?_⟩;rw[Qt,Yw]
  cases hp:p.bind (f a) E with
  | none=>rw[hp] at e2;rcases e2 with e2|e2 <;> cases e2
  | some E1=>rw[hp,Qg] at e2;rw[Qg];rcases e2 with e2|e2 <;> (rw[e2,Qg];exact h2)
theorem Je1{p:Pt}{b:Es}{f:Nat->D}{n:Nat}{E:En}(R:Nat->En->Prop)(h0:R 0 E)
 (h:∀i E,i<n->R i E->okS (R (i+1)) ((p.bind (f i) E).bind b)):∃E',R n E'/\Yw p b ((QV n).map f) E=some (.nx E'):=by
 obtain⟨E',⟨h1,_,h2⟩,h3⟩:=JcK (p:=p) (b:=b) (f:=f) (fun(as:List Nat) (i:Nat) E=>i+as.length=n/\as=List.range' i as.length/\R i E) (fun i _=>i+1) (as:=QV n) (E:=E) 0 ⟨by simp,by simp[Ly],h0⟩ (fun a as i E ⟨hk,e,q⟩=>by rw[Qp,List.range'_succ] at e;have e1:a=i:=(K0 e).1;subst e1;obtain⟨E2,e2,r2⟩:=VE (h a E (by rw[Qp] at hk;omega) q);rcases e2 with e2|e2 <;> rw[e2] <;> exact⟨by rw[Qp] at hk;omega,(K0 e).2,r2⟩)
 refine⟨E',?_,h3⟩;have e:(QV n).foldl (fun i _=>i+1) 0=n:=by simpa using h1
 rw[e] at h2;exact h2
noncomputable def sgs(f:Int->Bool)(low:Int)(n:Nat):List D:=(QV n).map fun(k:Nat)=>sgE (if f (low+(k:Int))=true then 42 else 46)
theorem JhL(f:Int->Bool)(low:Int)(n:Nat):(sgs f low n).length=n:=by simp[sgs]
theorem JhN(f:Int->Bool)(low:Int)(n j:Nat):(sgs f low n).set j (sgE 42)=sgs (fun x=>f x || decide (x=low+(j:Int))) low n:=by
 apply List.ext_getElem?
 intro i;unfold sgs;rw[QJ]
 by_cases h:j=i
 ·subst h;rw[if_pos rfl,QR,List.length_range]
  by_cases h2:j<n
  ·rw[if_pos h2,Qw,KJ h2];simp
  ·rw[if_neg h2,GO (by simpa using h2)]
 ·rw[if_neg h,Qw,Qw]
  by_cases h2:i<n
  ·rw[KJ h2];have:¬((i:Int)=(j:Int)):=by omega
   simp[this]
  ·rw[GO (by simpa using h2)];rfl
theorem V7{f g:Int->Bool}{low:Int}{n:Nat}(h:∀x,low<=x->x<low+n->f x=g x):sgs f low n=sgs g low n:=by
 unfold sgs;refine G6 fun k hk=>?_
 rw[h _ (by omega) (by have:=Lq.mp hk;omega)]
theorem JhM(low:Int)(n:Nat):(Qi n [D.str (Qy ".")]).flatten=sgs (fun _=>false) low n:=by
 rw[Jc7];unfold sgs;rw[Ks]
 apply List.ext_getElem?
 intro i;rw[Gi,Qw]
 by_cases h:i<n
 ·rw[if_pos h,KJ h];rfl
 ·rw[if_neg h,GO (by simpa using h)];rfl
theorem JcL(ps:List Pr)(low high:Int)(h:high-low<=100000):JV [.sh (.lst (ps.map prE)),.sh (.int low),.sh (.int high)]=some (.sh (.str (tx (YH ps low (high-low).toNat)))):=by
 unfold JV;walk_at "ev"
 have hr:Jdz (.own [.str (Qy ".")]) (.sh (.int (max 0 (high-low))))=some (.own (sgs (fun _=>false) low (high-low).toNat)):=by
  have e1:(max 0 (high-low)).toNat=(high-low).toNat:=by omega
  unfold Jdz;simp only[Sl.m,Qg,int?];rw[if_pos ⟨JeQ ⟨by omega,by omega⟩,by rw[Jc9,e1];simp only[Qp,QP];omega⟩,e1,JhM low]
 rw[hr];walk_at "ev";rw[Gy];refine UI (fun(rest:List Pr) (done:List Pr) E=>done++rest=ps/\∃j4 j5 j6,E=[.sh (.lst (ps.map prE)),.sh (.int low),.sh (.int high),.own (sgs (JR done) low (high-low).toNat),j4,j5,j6]) (fun d p=>d++[p]) [] ⟨rfl,.no,.no,.no,rfl⟩ ?_ ?_
 ·rintro p rest done E ⟨hd,j4,j5,j6,rfl⟩;simp only[prE];walk_at "ev";rw[Jaw]
  obtain⟨E',⟨j6',hE⟩,e'⟩:=Je1 (p:=.nm 6) (b:=Zq 3 (e2 Y2 (Jb 6) (Jb 1)) (eC (.str "*"))) (f:=fun(k:Nat)=>D.int (max low p.1+(k:Int))) (n:=(min high (p.1+p.2)-max low p.1).toNat)
   (fun i E=>∃j6,E=[.sh (.lst (ps.map prE)),.sh (.int low),.sh (.int high),.own (sgs (fun x=>JR done x || (decide (max low p.1<=x) && decide (x<max low p.1+(i:Int)))) low (high-low).toNat),.sh (.int p.1),.sh (.int p.2),j6])
   (E:=[.sh (.lst (ps.map prE)),.sh (.int low),.sh (.int high),.own (sgs (JR done) low (high-low).toNat),.sh (.int p.1),.sh (.int p.2),j6]) ⟨j6,by
    have e0:sgs (fun x=>JR done x || (decide (max low p.1<=x) && decide (x<max low p.1+((0:Nat):Int)))) low (high-low).toNat=sgs (JR done) low (high-low).toNat:=V7 fun x h1 h2=>by
     by_cases c:max low p.1<=x
     ·rw[decide_eq_false (show ¬x<max low p.1+((0:Nat):Int) by omega),Bool.and_false,Kz]
     ·rw[decide_eq_false c,GX,Kz]
    rw[e0]⟩ (by
    rintro i E hi ⟨j6,rfl⟩;walk_at "ev";rw[JhL]
    have hix:ixN (high-low).toNat (max low p.1+(i:Int)-low)=some (max low p.1+(i:Int)-low).toNat:=by unfold ixN;rw[if_pos (by omega),if_pos (by omega)]
    rw[hix];walk_at "ev";refine⟨.sh (.int (max low p.1+(i:Int))),?_⟩;rw[V4,show D.str (tx [42])=sgE 42 from rfl,JhN];have e0:=V7 (low:=low) (n:=(high-low).toNat) (f:=fun x=>(JR done x || (decide (max low p.1<=x) && decide (x<max low p.1+(i:Int)))) || decide (x=low+((max low p.1+(i:Int)-low).toNat:Int))) (g:=fun x=>JR done x || (decide (max low p.1<=x) && decide (x<max low p.1+((i+1:Nat):Int)))) fun x h1 h2=>?_
    ·rw[e0]
    cases JR done x with
    | true=>rfl
    | false =>
     rw[KB,KB]
     by_cases c1:max low p.1<=x
     ·rw[decide_eq_true c1,KD,KD]
      by_cases c2:x=max low p.1+(i:Int)
      ·rw[decide_eq_true (show x=low+((max low p.1+(i:Int)-low).toNat:Int) by omega),Bool.or_true,decide_eq_true (show x<max low p.1+((i+1:Nat):Int) by omega)]
      ·rw[decide_eq_false (show ¬x=low+((max low p.1+(i:Int)-low).toNat:Int) by omega),Kz];exact decide_eq_decide.mpr (by omega)
     ·rw[decide_eq_false c1,GX,GX,KB,decide_eq_false (show ¬x=low+((max low p.1+(i:Int)-low).toNat:Int) by omega)])
  rw[e'];subst hE;refine⟨by simpa using hd,.sh (.int p.1),.sh (.int p.2),j6',?_⟩;have e0:=V7 (low:=low) (n:=(high-low).toNat) (f:=fun x=>JR done x || (decide (max low p.1<=x) && decide (x<max low p.1+((min high (p.1+p.2)-max low p.1).toNat:Int)))) (g:=JR (done++[p])) fun x h1 h2=>?_
  ·rw[e0]
  have e3:JR (done++[p]) x=(JR done x || (decide (p.1<=x) && decide (x<p.1+p.2))):=by unfold JR;rw[Gk,List.any_append];simp
  rw[e3];congr 1
  by_cases c:p.1<=x
  ·rw[decide_eq_true c,decide_eq_true (show max low p.1<=x by omega),KD,KD];exact decide_eq_decide.mpr (by omega)
  ·rw[decide_eq_false c,decide_eq_false (show ¬max low p.1<=x by omega),GX,GX]
 ·rintro E' ⟨hd,j4,j5,j6,rfl⟩
  have ef:∀(qs acc:List Pr),qs.foldl (fun d p=>d++[p]) acc=acc++qs:=fun qs=>by
   induction qs with
   | nil=>intro acc;simp
   | cons q qs ih=>intro acc;rw[Lh,ih];simp
  rw[ef,GL];walk_at "ev";rw[JfI,JaS (l:=YH ps low (high-low).toNat) (by rw[Uj];simp[Sl.r,sgs,L4]) (by rw[Wv];omega)];rfl
theorem JaY(ps:List Pr)(hl:ps.length<=1000)(low high:Int)(h:high-low<=400):JQ [.sh (.row (ps.map prE)),.sh (.lst (ps.map prE)),.sh (.int low),.sh (.int high)]=some (.sh (.bl true)):=by unfold JQ;walk_at "ev";rw[JdN ps hl low high h];walk_at "ev";rw[JcL ps low high (by omega)];walk_at "ev"
noncomputable def zpD(j0:Int)(x:Nat×Nat):D:=.tup [.int ((x.2:Int)+j0),sgE x.1]
theorem Z5(j0:Int)(cs:List Nat):enS j0 cs=cs.zipIdx.map (zpD j0):=by unfold enS;rw[List.mapIdx_eq_zipIdx_map];rfl
noncomputable abbrev pcB:Es:=xIf (tAnd? (tB? (e2 fNe (Jb 3) (eC (.str "*")))) (tB? (e2 fNe (Jb 3) (eC (.str "."))))) YK JJ
noncomputable abbrev pcP:Pt:=.tp (.cons (.nm 2) (.cons (.nm 3) .nil))
noncomputable abbrev pcX:Xv:=U5 (tAnd? (tB? (e2 fNe (Jb 3) (eC (.str "*")))) (tB? (e2 fNe (Jb 3) (eC (.str "."))))) (WN "BadText" (Jb 2)) Zu
theorem UZ(a b:Sl)(x:Nat×Nat)(j2 j3:Sl):pcP.bind (zpD 1 x) [a,b,j2,j3]=some [a,b,.sh (.int ((x.2:Int)+1)),.sh (.str (tx [x.1]))]:=by unfold zpD;rw[Jil];walk_at "ev"
theorem Ws(a b c:Sl)(n:Nat):tAnd? (tB? (e2 fNe (Jb 3) (eC (.str "*")))) (tB? (e2 fNe (Jb 3) (eC (.str ".")))) [a,b,c,.sh (.str (tx [n]))]=some (!decide (n=42) && !decide (n=46)):=by
 walk_at "ev";rw[V4,Jc7,JbH,JbH]
 by_cases h:n=42
 ·subst h;simp
 ·by_cases h2:n=46
  ·subst h2;simp
  ·simp[h,h2]
theorem JcR(a b c:Sl)(n:Nat)(h:n=42\/n=46):pcB [a,b,c,.sh (.str (tx [n]))]=some (.nx [a,b,c,.sh (.str (tx [n]))]):=by unfold pcB xIf;rw[Ws];rcases h with rfl|rfl <;> rfl
theorem JkZ(a b c:Sl)(n:Nat)(h:¬(n=42\/n=46)):pcB [a,b,c,.sh (.str (tx [n]))]=none:=by unfold pcB xIf;rw[Ws,decide_eq_false (fun z=>h (.inl z)),decide_eq_false (fun z=>h (.inr z))];rfl
theorem Jfd(a b c:Sl)(n:Nat)(h:n=42\/n=46):pcX [a,b,c,.sh (.str (tx [n]))]=none:=by unfold pcX U5;rw[Ws];rcases h with rfl|rfl <;> rfl
theorem Jjt(a b:Sl)(k:Int)(n:Nat)(hk:k.natAbs<=1000000000)(h:¬(n=42\/n=46)):pcX [a,b,.sh (.int k),.sh (.str (tx [n]))]=some ⟨Qy "BadText",some k⟩:=by unfold pcX U5;rw[Ws,decide_eq_false (fun z=>h (.inl z)),decide_eq_false (fun z=>h (.inr z))];show(if KR k.natAbs 1000000000=true then some (⟨Qy "BadText",some k⟩:Xm) else none)=_;rw[if_pos (by rw[GG];exact hk)]
theorem JcQ(a b:Sl):∀(cs:List Nat) (k:Nat) (j2 j3:Sl),(∀c∈cs,c=42\/c=46)->∃i2 i3,Yw pcP pcB ((cs.zipIdx k).map (zpD 1)) [a,b,j2,j3]=some (.nx [a,b,i2,i3])/\YE pcP pcB pcX ((cs.zipIdx k).map (zpD 1)) [a,b,j2,j3]=none
 | [],k,j2,j3,_=>⟨j2,j3,rfl,rfl⟩
 | c::cs,k,j2,j3,h=>by
  obtain⟨i2,i3,e1,e2⟩:=JcQ a b cs (k+1) (.sh (.int ((k:Int)+1))) (.sh (.str (tx [c]))) fun d hd=>h d (Qo _ hd)
  have hc:=h c Qz;refine⟨i2,i3,?_,?_⟩
  ·rw[G3,Qt,Yw,UZ,Qg,JcR _ _ _ _ hc];exact e1
  ·rw[G3,Qt,YE];show(pcP.bind _ _).bind _=_;rw[UZ,Qg,Jfd _ _ _ _ hc];show(match pcB _ with|some (.nx E2)=>_|some (.ct E2)=>_|_=>none)=none;rw[JcR _ _ _ _ hc];exact e2
theorem JcS(a b:Sl)(c:Nat)(rest:List Nat)(hc:¬(c=42\/c=46)):∀(cs:List Nat) (k:Nat) (j2 j3:Sl),k+cs.length<=1000000->(∀c∈cs,c=42\/c=46)->Yw pcP pcB (((cs++c::rest).zipIdx k).map (zpD 1)) [a,b,j2,j3]=none/\YE pcP pcB pcX (((cs++c::rest).zipIdx k).map (zpD 1)) [a,b,j2,j3]=some ⟨Qy "BadText",some ((k:Int)+cs.length+1)⟩
 | [],k,j2,j3,hb,_=>by
  rw[GL,G3,Qt];constructor
  ·rw[Yw,UZ,Qg,JkZ _ _ _ _ hc];rfl
  ·rw[YE];show(pcP.bind _ _).bind _=_;rw[UZ,Qg,Jjt _ _ _ _ (by rw[QP] at hb;dsimp only;omega) hc];simp
 | d::cs,k,j2,j3,hb,h=>by
  rw[Qp] at hb;have hd:=h d Qz;obtain⟨e1,e2⟩:=JcS a b c rest hc cs (k+1) (.sh (.int ((k:Int)+1))) (.sh (.str (tx [d]))) (by omega) fun e he=>h e (Qo _ he)
  rw[Q1,G3,Qt];constructor
  ·rw[Yw,UZ,Qg,JcR _ _ _ _ hd];exact e1
  ·rw[YE];show(pcP.bind _ _).bind _=_;rw[UZ,Qg,Jfd _ _ _ _ hd];show(match pcB _ with|some (.nx E2)=>_|some (.ct E2)=>_|_=>none)=_;rw[JcR _ _ _ _ hd];refine e2.trans ?_;rw[Qp,show((k+1:Nat):Int)+(cs.length:Int)+1=(k:Int)+((cs.length+1:Nat):Int)+1 by omega]
theorem Jfi:∀(cs:List Nat) (low:Int),(plF low cs).length<=cs.length
 | [],low=>Qr _
 | c::cs,low=>by
  have:=Jfi cs (low+1);unfold plF;split
  ·simp only[Qp];omega
  ·simp only[Qp];omega
noncomputable abbrev pcC:Ev:=WJ (Yi 0 (aC (Jb 0) a0)) (.tp (.cons (.nm 0) (.cons (.nm 1) .nil))) (tB? (e2 fEq (Jb 1) (eC (.str "*")))) (e2 Jy (Jb 2) (Jb 0)) [none,none,some 1]
theorem Jg7(cs:List Nat)(hl:cs.length<=100000)(low:Int)(j2 j3:Sl):pcC [.sh (.str (tx cs)),.sh (.int low),j2,j3]=some (.own ((plF low cs).map .int)):=by
 unfold pcC;walk_at "ev";rw[UA,Z5];have hz:(cs.zipIdx.map (zpD 0)).length<=16777216:=by simp;omega
 simp only[hz];walk_at "ev";rw[Jcy (g:=fun(x:Nat×Nat)=>D.int (low+(x.2:Int))) (k:=fun x=>x.1 == 42)]
 ·walk_at "ev";have e:=Jfk low cs 0;rw[show low+((0:Nat):Int)=low by simp] at e;rw[<- e,LZ];rfl
 ·intro x _;unfold zpD;rw[Jil];constructor
  ·walk_at "ev";rw[V4,JbH];simp;rfl
  ·intro _;walk_at "ev";simp
theorem Vh(cs:List Nat)(hc:∀c∈cs,c=42\/c=46)(hl:cs.length<=100000)(low:Int)(ps:List Pr)(g:Good ps)(hp:plF low cs=YA ps) :
 (ps.length<=30->JE [.sh (.str (tx cs)),.sh (.int low)]=some (.sh (.row (ps.map prE)))) ∧
 (30<ps.length->JE [.sh (.str (tx cs)),.sh (.int low)]=none/\J5 [.sh (.str (tx cs)),.sh (.int low)]=some ⟨Qy "TooMany",none⟩):=by
 obtain⟨i2,i3,e1,e2⟩:=JcQ (.sh (.str (tx cs))) (.sh (.int low)) cs 0 .no .no hc
 have it:Yi 1 (aC (Jb 0) a0) [.sh (.str (tx cs)),.sh (.int low),.no,.no]=some (cs.zipIdx.map (zpD 1)):=by walk_at "ev";rw[UA,Z5]
 have ga:eU 1 JD (aC pcC a0) [.sh (.str (tx cs)),.sh (.int low),i2,i3]=some (.own (ps.map prE)):=by unfold eU aC;rw[Jg7 cs hl low i2 i3];walk_at "ev";rw[JbU _ (QQ (Jfi cs low) hl),hp,JhV g]
 have ga1:aC (eU 1 JD (aC pcC a0)) a0 [.sh (.str (tx cs)),.sh (.int low),i2,i3]=some [.own (ps.map prE)]:=by show(eU 1 JD (aC pcC a0) _).bind _=_;rw[ga];rfl
 have f1:Y4 (Yi 1 (aC (Jb 0) a0)) pcP pcB [.sh (.str (tx cs)),.sh (.int low),.no,.no]=some (.nx [.sh (.str (tx cs)),.sh (.int low),i2,i3]):=by unfold Y4;rw[it,Qg];exact e1
 refine⟨fun h30=>?_,fun h30=>⟨?_,?_⟩⟩
 ·show(Jp (Y4 (Yi 1 (aC (Jb 0) a0)) pcP pcB) (JZ (eF VA (aC (eU 1 JD (aC pcC a0)) a0))) [.sh (.str (tx cs)),.sh (.int low),.no,.no]).bind Wl=_;rw[Jp,f1,Qg,Uy]
  show(((aC (eU 1 JD (aC pcC a0)) a0 [.sh (.str (tx cs)),.sh (.int low),i2,i3]).bind VA).bind _).bind Wl=_;rw[ga1,Qg];rw[Z9 (ps:=ps) rfl g h30];rfl
 ·show(Jp (Y4 (Yi 1 (aC (Jb 0) a0)) pcP pcB) (JZ (eF VA (aC (eU 1 JD (aC pcC a0)) a0))) [.sh (.str (tx cs)),.sh (.int low),.no,.no]).bind Wl=_;rw[Jp,f1,Qg,Uy]
  show(((aC (eU 1 JD (aC pcC a0)) a0 [.sh (.str (tx cs)),.sh (.int low),i2,i3]).bind VA).bind _).bind Wl=_;rw[ga1,Qg];rw[JfG (.own (ps.map prE)) ps rfl (fun z=>by omega)];rfl
 ·show Y6 (Y4 (Yi 1 (aC (Jb 0) a0)) pcP pcB) (WM (Yi 1 (aC (Jb 0) a0)) pcP pcB pcX) (JeC 1 JX (aC (eU 1 JD (aC pcC a0)) a0)) [.sh (.str (tx cs)),.sh (.int low),.no,.no]=_;unfold Y6 WM;rw[it,Qg,e2,f1]
  show JeC 1 JX (aC (eU 1 JD (aC pcC a0)) a0) [.sh (.str (tx cs)),.sh (.int low),i2,i3]=_;unfold JeC;rw[ga1];exact Jkv ps h30
theorem Jef(cs rest:List Nat)(c:Nat)(hc:∀c∈cs,c=42\/c=46)(h:¬(c=42\/c=46))(hl:cs.length<=100000)(low:Int) :
 JE [.sh (.str (tx (cs++c::rest))),.sh (.int low)]=none/\J5 [.sh (.str (tx (cs++c::rest))),.sh (.int low)]=some ⟨Qy "BadText",some ((cs.length:Int)+1)⟩:=by
 obtain⟨e1,e2⟩:=JcS (.sh (.str (tx (cs++c::rest)))) (.sh (.int low)) c rest h cs 0 .no .no (by omega) hc
 have it:Yi 1 (aC (Jb 0) a0) [.sh (.str (tx (cs++c::rest))),.sh (.int low),.no,.no]=some ((cs++c::rest).zipIdx.map (zpD 1)):=by walk_at "ev";rw[UA,Z5]
 constructor
 ·show(Jp (Y4 (Yi 1 (aC (Jb 0) a0)) pcP pcB) _ [.sh (.str (tx (cs++c::rest))),.sh (.int low),.no,.no]).bind Wl=_;rw[Jp];unfold Y4;rw[it,Qg,e1];rfl
 ·show Y6 (Y4 (Yi 1 (aC (Jb 0) a0)) pcP pcB) (WM (Yi 1 (aC (Jb 0) a0)) pcP pcB pcX) _ [.sh (.str (tx (cs++c::rest))),.sh (.int low),.no,.no]=_;unfold Y6 WM;rw[it,Qg,e2];simp
noncomputable abbrev rfR:List Str:=["BadRow","BadText","TooMany"]
noncomputable abbrev rfB:Es:=xIf (tB? (e2 fEq (Jb 0) (eC (.int 0)))) (Zo (eU 3 JS (aC (Jb 1) (aC (Jb 2) (aC (Jb 3) a0))))) (Zo (eU 2 JE (aC (Jb 1) (aC (Jb 2) a0))))
noncomputable abbrev rfX:Xv:=U5 (tB? (e2 fEq (Jb 0) (eC (.int 0)))) (exU 3 Yl (aC (Jb 1) (aC (Jb 2) (aC (Jb 3) a0)))) (exU 2 J5 (aC (Jb 1) (aC (Jb 2) a0)))
theorem JfF(m:Xm)(hm:m.n∈rfR)(w t a b:Sl)(h1:rfB [w,t,a,b,.sh .non,.no]=none)(h2:rfX [w,t,a,b,.sh .non,.no]=some m) :
 Jcl rfR 5 rfB rfX (Jr 4 (Jb 5)) [w,t,a,b,.sh .non,.no]=some (.nx [w,t,a,b,.sh (.exc m),.no]):=by
 unfold Jcl;rw[h1,h2];show(if m.n∈rfR/\5<_ then _ else none)=_;rw[if_pos ⟨hm,by show 5<6;omega⟩];rfl
theorem Jc6(w t a b:Sl)(h1:rfB [w,t,a,b,.sh .non,.no]=none)(h2:rfX [w,t,a,b,.sh .non,.no]=some ⟨Qy "TooMany",none⟩):Jq [w,t,a,b]=some (.sh (.bl true)):=by
 have tr:=JfF ⟨Qy "TooMany",none⟩ (by decide +kernel) w t a b h1 h2
 show(Jp (Jr 4 (eC .non)) (Jp (Jcl rfR 5 rfB rfX (Jr 4 (Jb 5))) _) [w,t,a,b,.no,.no]).bind Wl=_;rw[Jp,show Jr 4 (eC .non) [w,t,a,b,.no,.no]=some (.nx [w,t,a,b,.sh .non,.no]) from rfl,Qg,Uy];rw[Jp,tr,Qg,Uy];rfl
theorem Jhz(k:Int)(w t a b:Sl)(h1:rfB [w,t,a,b,.sh .non,.no]=none)(h2:rfX [w,t,a,b,.sh .non,.no]=some ⟨Qy "BadText",some k⟩):Jq [w,t,a,b]=some (.sh (.int k)):=by
 have tr:=JfF ⟨Qy "BadText",some k⟩ (by show Qy "BadText"∈rfR;decide +kernel) w t a b h1 h2
 show(Jp (Jr 4 (eC .non)) (Jp (Jcl rfR 5 rfB rfX (Jr 4 (Jb 5))) _) [w,t,a,b,.no,.no]).bind Wl=_;rw[Jp,show Jr 4 (eC .non) [w,t,a,b,.no,.no]=some (.nx [w,t,a,b,.sh .non,.no]) from rfl,Qg,Uy];rw[Jp,tr,Qg,Uy];rfl
theorem JfE{t a b:D}{m:Xm}(h1:JE [.sh t,.sh a]=none)(h2:J5 [.sh t,.sh a]=some m) :
 rfB [.sh (.int 1),.sh t,.sh a,.sh b,.sh .non,.no]=none/\rfX [.sh (.int 1),.sh t,.sh a,.sh b,.sh .non,.no]=some m:=by
 have e:tB? (e2 fEq (Jb 0) (eC (.int 0))) [.sh (.int 1),.sh t,.sh a,.sh b,.sh .non,.no]=some false:=rfl;constructor
 ·unfold rfB xIf;rw[e];show(JE [.sh t,.sh a]).map _=none;rw[h1];rfl
 ·unfold rfX U5;rw[e];exact h2
theorem JhA{t a b:D}{m:Xm}(h1:JS [.sh t,.sh a,.sh b]=none)(h2:Yl [.sh t,.sh a,.sh b]=some m) :
 rfB [.sh (.int 0),.sh t,.sh a,.sh b,.sh .non,.no]=none/\rfX [.sh (.int 0),.sh t,.sh a,.sh b,.sh .non,.no]=some m:=by
 have e:tB? (e2 fEq (Jb 0) (eC (.int 0))) [.sh (.int 0),.sh t,.sh a,.sh b,.sh .non,.no]=some true:=rfl;constructor
 ·unfold rfB xIf;rw[e];show(JS [.sh t,.sh a,.sh b]).map _=none;rw[h1];rfl
 ·unfold rfX U5;rw[e];exact h2
theorem Jjd(ps:List Pr)(low:Int):Jq [.sh (.int 0),.sh (.row (ps.map prE)),.sh (.int low),.sh (.int (low+401))]=some (.sh (.bl true)):=by obtain⟨h1,h2⟩:=Jee ps low (low+401) (by omega);obtain⟨a,b⟩:=JhA h1 h2;exact Jc6 _ _ _ _ a b
theorem JdO(cs:List Nat)(hc:∀c∈cs,c=42\/c=46)(hl:cs.length<=100000)(low:Int)(ps:List Pr)(g:Good ps)(hp:plF low cs=YA ps)(h30:30<ps.length) :
 Jq [.sh (.int 1),.sh (.str (tx cs)),.sh (.int low),.sh (.int 0)]=some (.sh (.bl true)):=by
 obtain⟨h1,h2⟩:=(Vh cs hc hl low ps g hp).2 h30;obtain⟨a,b⟩:=JfE (b:=.int 0) h1 h2;exact Jc6 _ _ _ _ a b
theorem ZS(cs rest:List Nat)(c:Nat)(hc:∀c∈cs,c=42\/c=46)(h:¬(c=42\/c=46))(hl:cs.length<=100000)(low:Int) :
 Jq [.sh (.int 1),.sh (.str (tx (cs++c::rest))),.sh (.int low),.sh (.int 0)]=some (.sh (.int ((cs.length:Int)+1))):=by
 obtain⟨h1,h2⟩:=Jef cs rest c hc h hl low;obtain⟨a,b⟩:=JfE (b:=.int 0) h1 h2;exact Jhz _ _ _ _ _ a b
theorem Jaj(cs:List Nat)(hc:∀c∈cs,c=42\/c=46)(hl:cs.length<=100000)(low:Int)(ps:List Pr)(g:Good ps)(hp:plF low cs=YA ps)(h30:ps.length<=30) :
 JW [.sh (.str (tx cs)),.sh (.int low),.sh (.lst (ps.map prE))]=some (.sh (.bl true)):=by
 unfold JW;walk_at "ev";rw[(Vh cs hc hl low ps g hp).1 h30];walk_at "ev";rw[JgT ps (by omega)];walk_at "ev"
theorem Jhy(c n:Nat):Zy (tx [c]) n=tx (Qi n c):=by unfold Zy;rw[show(tx [c]).cps.toList=[c] from rfl,Ks];rfl
theorem fRep_one(c:Nat)(n:Int)(h:1<=n)(h2:n<=100000):Yz (.sh (.str (tx [c]))) (.sh (.int n))=some (.sh (.str (tx (Qi n.toNat c)))):=by show(if 1<=n/\n<=16777216/\(tx [c]).length*n.toNat<=16777216 then _ else none)=_;rw[if_pos ⟨h,by omega,by rw[Vx];simp only[Qp,QP];omega⟩,Jhy]
theorem JaR(n:Nat)(h:1<=n)(h2:n<=100):Yz (.sh (.str (tx [42,46]))) (.sh (.int n))=some (.sh (.str (tx (Qi n [42,46]).flatten))):=by show(if 1<=(n:Int)/\(n:Int)<=16777216/\(tx [42,46]).length*(n:Int).toNat<=16777216 then _ else none)=_;rw[if_pos ⟨by omega,by omega,by rw[Vx];simp only[Qp,QP];omega⟩];rfl
theorem Ur(a b:List Nat)(h:a.length+b.length<=1000000):Jy (.sh (.str (tx a))) (.sh (.str (tx b)))=some (.sh (.str (tx (a++b)))):=by rw[JcB (by rw[Vx,Vx];omega),Jcj]
theorem JlI:Qy "*."=tx [42,46]:=by decide +kernel
theorem JlJ:Qy ".*"=tx [46,42]:=by decide +kernel
theorem s_x:Qy "x"=tx [120]:=by decide +kernel
theorem Je8(b l:Int)(h:1<=l):Good [(b,l)]:=by
 refine⟨fun i q e=>?_,fun i q r e1 e2=>?_⟩
 ·match i,e with
  | 0,e=>cases e;exact h
  | i+1,e=>cases e
 ·match i,e1,e2 with
  | 0,e1,e2=>cases e2
  | i+1,e1,e2=>cases e1
theorem Jea(b l c m:Int)(h:1<=l)(h2:1<=m)(h3:b+l<c):Good [(b,l),(c,m)]:=by
 refine⟨fun i q e=>?_,fun i q r e1 e2=>?_⟩
 ·match i,e with
  | 0,e=>cases e;exact h
  | 1,e=>cases e;exact h2
  | i+2,e=>cases e
 ·match i,e1,e2 with
  | 0,e1,e2=>cases e1;cases e2;exact h3
  | 1,e1,e2=>cases e2
  | i+2,e1,e2=>cases e1
theorem Jjb(low cell:Int)(h0:0<=cell):Yj [.sh (.int low),.sh (.int cell)]=some (.sh (.bl true)):=by
 unfold Yj;walk_at "ev";rw[V4,Jc7,JlJ,fRep_one 42 _ (by omega) (by omega)];walk_at "ev"
 have m1:=Jaj (Qi (401+cell % 3500).toNat 42) (fun c hc=>.inl (Gz hc)) (by rw[Gw];omega) low [(low,401+cell % 3500)] (Je8 _ _ (by omega)) (by
  have:=Ww [] (401+cell % 3500).toNat low;rw[Q4] at this;rw[this];rfl) (by simp)
 simp only[Qt,Q8,prE] at m1;rw[m1];walk_at "ev";rw[fRep_one 46 _ (by omega) (by omega),fRep_one 42 _ (by omega) (by omega)];rw[Qg,Qg,Ur _ _ (by simp only[Gw];omega),Qg,Ur _ _ (by simp only[QN,Gw,Qp,QP];omega)];walk_at "ev"
 have m2:=Jaj (Qi (1+cell / 3500 % 1000).toNat 46++Qi (401+cell % 3500).toNat 42++[46,42]) (fun c hc=>by
  rcases Gx.mp hc with z|z
  ·rcases Gx.mp z with z|z
   ·exact .inr (Gz z)
   ·exact .inl (Gz z)
  ·simp at z;omega) (by simp only[QN,Gw,Qp,QP];omega) low
  [(low+(1+cell / 3500 % 1000),401+cell % 3500),(low+(1+cell / 3500 % 1000)+(401+cell % 3500)+1,1)] (Jea _ _ _ _ (by omega) (by omega) (by omega)) (by
  rw[GR,Wx,Ww];have e1:low+((1+cell / 3500 % 1000).toNat:Int)=low+(1+cell / 3500 % 1000):=by omega
  have e2:low+(1+cell / 3500 % 1000)+((401+cell % 3500).toNat:Int)=low+(1+cell / 3500 % 1000)+(401+cell % 3500):=by omega
  rw[e1,e2];simp[plF,YA]) (by simp)
 simp only[Qt,Q8,prE] at m2;rw[m2];walk_at "ev"
noncomputable def smF(ns:List Int)(p0:Int):Nat->Int×List Pr
 | 0=>(p0,[])
 | i+1=>((smF ns p0 i).1+(1+cell ns (2+2*i) % 5)+1+cell ns (3+2*i) % 4,(smF ns p0 i).2++[((smF ns p0 i).1,1+cell ns (2+2*i) % 5)])
theorem UV(ns:List Int)(p0:Int):∀i,(smF ns p0 i).2.length=i
 | 0=>rfl
 | i+1=>by show(_++[_]).length=_;rw[QN,UV ns p0 i];rfl
theorem Jaz(ns:List Int)(p0:Int):∀i,Good (smF ns p0 i).2/\∀q,(smF ns p0 i).2[i-1]?=some q->q.1+q.2<(smF ns p0 i).1
 | 0=>⟨Good.nil,fun q e=>by simp[smF] at e⟩
 | i+1=>by obtain⟨g,h⟩:=Jaz ns p0 i;refine⟨g.snoc (by show 1<=1+_;omega) (by rw[UV];exact h),fun q e=>?_⟩;have e':((smF ns p0 i).2++[((smF ns p0 i).1,1+cell ns (2+2*i) % 5)])[i]?=some q:=e;rw[QG (by rw[UV];exact Qr _),UV] at e';simp at e';subst e';show _+(1+_)<_+(1+_)+1+_;omega
theorem Jim(ns:List Int)(p0:Int):∀i:Nat,p0<=(smF ns p0 i).1/\(smF ns p0 i).1<=p0+9*i/\∀p∈(smF ns p0 i).2,p0<=p.1/\p.1+p.2<=p0+9*i
 | 0=>⟨Km _,by show p0<=_;omega,fun p hp=>nomatch hp⟩
 | i+1=>by
  obtain⟨h1,h2,h3⟩:=Jim ns p0 i;refine⟨by show p0<=_+(1+_)+1+_;omega,by show _+(1+_)+1+_<=_;omega,fun p hp=>?_⟩;rcases Gx.mp hp with z|z
  ·have:=h3 p z;omega
  ·have e:p=((smF ns p0 i).1,1+cell ns (2+2*i) % 5):=by simpa using z
   subst e;dsimp only;omega
theorem Jbq(ns:List Int)(p0:Int):∀i:Nat,(smF ns p0 (i+1)).2[0]?=some (p0,1+cell ns 2 % 5)
 | 0=>by simp[smF]
 | i+1=>by show((smF ns p0 (i+1)).2++[_])[0]?=_;rw[Qx (by rw[UV];omega)];exact Jbq ns p0 i
noncomputable def smP(ns:List Int):Int:=if cell ns 0 % 2=0 then cell ns 1 % 41-20 else cell ns 1 % (2*10 ^ 59)-10 ^ 59
noncomputable def smN(ns:List Int):Nat:=(cell ns 0 / 2 % 31).toNat
noncomputable def smL(ns:List Int):List Pr:=(smF ns (smP ns) (smN ns)).2
theorem JgS(ns:List Int):Yg [.sh (.fz (ns.map .int))]=some (.own ((smL ns).map prE)):=by
 have key:∀p0:Int,((Yw (.nm 4) (Jp (Jr 5 (e2 Jy (eC (.int 1)) (e2 J6 (eU 2 JC (aC (Jb 0) (aC (e2 Jy (eC (.int 2)) (e2 WQ (eC (.int 2)) (Jb 4))) a0))) (eC (.int 5)))))
 (Jp (Jck 3 (YN (aC (Jb 2) (aC (Jb 5) a0))))
 (Jr 2 (e2 Jy (e2 Jy (e2 Jy (Jb 2) (Jb 5)) (eC (.int 1))) (e2 J6 (eU 2 JC (aC (Jb 0) (aC (e2 Jy (eC (.int 3)) (e2 WQ (eC (.int 2)) (Jb 4))) a0))) (eC (.int 4))))))) (rng 0 (cell ns 0 / 2 % 31).toNat) [.sh (.fz (ns.map .int)),.sh (.int (cell ns 0)),.sh (.int p0),.own [],.no,.no]).bind (Jd3 (Zp 3))).bind Wl=some (.own ((smF ns p0 (smN ns)).2.map prE)):=by
  intro p0;rw[JhB,Gy];have hN:(cell ns 0 / 2 % 31).toNat<=30:=by omega
  refine VD (fun i E=>∃j4 j5,E=[.sh (.fz (ns.map .int)),.sh (.int (cell ns 0)),.sh (.int (smF ns p0 i).1),.own ((smF ns p0 i).2.map prE),j4,j5]) ⟨.no,.no,rfl⟩ ?_ ?_
  ·rintro i E hi ⟨j4,j5,rfl⟩;have hl:=UV ns p0 i;walk_at "ev";rw[Ut _ _ (by omega)];walk_at "ev";rw[Ut _ _ (by omega)];walk_at "ev";simp only[smF,Gk,Qt,Q8];exact⟨_,_,rfl⟩
  ·rintro E' ⟨j4,j5,rfl⟩;walk_at "ev";rfl
 unfold Yg smL smP;walk_at "ev";rw[Ut _ _ (by decide)];walk_at "ev";rw[Ut _ _ (by decide)];walk_at "ev"
 by_cases h:cell ns 0 % 2=0
 ·simp only[h];walk_at "ev";rw[Ut _ _ (by decide)];walk_at "ev";exact key _
 ·simp only[h];walk_at "ev";exact key _
noncomputable abbrev stD:List D:=[.str (Qy " "),.str (Qy "o"),.str (Qy "-"),.str (Qy "0"),.str (Qy "+"),.str (Qy ","),.str (Qy "#"),.str (Qy "\n")]
theorem Jkg:stD=[32,111,45,48,43,44,35,10].map fun c=>D.str (tx [c]):=by
 have h:∀(s:String) (c:Nat),Qy s=tx [c]->D.str (Qy s)=D.str (tx [c]):=fun s c e=>by rw[e]
 unfold stD;rw[h " " 32 (by decide +kernel),h "o" 111 (by decide +kernel),h "-" 45 (by decide +kernel),h "0" 48 (by decide +kernel),h "+" 43 (by decide +kernel),h "," 44 (by decide +kernel),h "#" 35 (by decide +kernel),h "\n" 10 (by decide +kernel)];rfl
theorem Jin(k:Int)(h0:0<=k)(h8:k<8):∃c,atI stD k=some (.str (tx [c]))/\¬(c=42\/c=46):=by
 have hl:k.toNat<[32,111,45,48,43,44,35,10].length:=by show k.toNat<8;omega
 refine⟨[32,111,45,48,43,44,35,10][k.toNat],?_,?_⟩
 ·rw[Jkg]
  have e:(([32,111,45,48,43,44,35,10].map fun c=>D.str (tx [c])))[k.toNat]?=some (D.str (tx [[32,111,45,48,43,44,35,10][k.toNat]])):=by rw[Qw,Ge hl];rfl
  have:=UC e;rw[show((k.toNat:Nat):Int)=k by omega] at this;exact this
 ·exact(show ∀c∈[32,111,45,48,43,44,35,10],¬(c=42\/c=46) by decide) _ (Kw hl)
theorem JgQ(cs:List Nat)(hc:∀c∈cs,c=42\/c=46)(hl:cs.length<=10000)(low cell:Int)(h0:0<=cell):Ye [.sh (.str (tx cs)),.sh (.int low),.sh (.int cell)]=some (.sh (.bl true)):=by
 unfold Ye;obtain⟨c1,u1,n1⟩:=Jin (cell % 8) (by omega) (by omega);obtain⟨c2,u2,n2⟩:=Jin (cell / 64 % 8) (by omega) (by omega);have hz:(tx cs).length=cs.length:=Vx cs;have hz2:(tx cs).length<=16777216:=by omega
 obtain⟨n,hn⟩:∃n:Nat,cell / 8 % ((cs.length:Int)+1)=(n:Int):=⟨(cell / 8 % ((cs.length:Int)+1)).toNat,by have:=KF (cell / 8) (b:=(cs.length:Int)+1) (by omega);omega⟩
 have hn2:n<=cs.length:=by have:=Int.emod_lt_of_pos (cell / 8) (b:=(cs.length:Int)+1) (by omega);omega
 have ms:=fun rest=>ZS (cs.take n) rest c1 (fun c h=>hc c (List.mem_of_mem_take h)) n1 (by rw[Gc];omega) low
 have el:(cs.take n).length=n:=by rw[Gc];omega
 rw[el] at ms;walk_at "ev";rw[hz,hn,Jln cs n hn2,JhP cs n hn2]
 have w1:(LO Sl.sh (atI stD (cell % 8))).bind (fun y=>Jy (.sh (.str (tx (cs.take n)))) y)=some (.sh (.str (tx (cs.take n++[c1])))):=by rw[u1,Lj,Qg,Ur _ _ (by rw[Gc];simp only[Qp,QP];omega)]
 rw[w1,Qg,Ur _ _ (by simp only[QN,Gc,Ky,Qp,QP];omega)];walk_at "ev"
 by_cases h5:cell / 5 % 2=1
 ·simp only[h5];walk_at "ev"
  have w2:(LO Sl.sh (atI stD (cell / 64 % 8))).bind (fun y=>Jy (.sh (.str (tx (cs.take n++[c1]++cs.drop n)))) y)=some (.sh (.str (tx (cs.take n++[c1]++cs.drop n++[c2])))):=by rw[u2,Lj,Qg,Ur _ _ (by simp only[QN,Gc,Ky,Qp,QP];omega)]
  rw[w2,Qg,V4,Ur _ _ (by simp only[QN,Gc,Ky,Qp,QP];omega)];walk_at "ev";have e3:cs.take n++[c1]++cs.drop n++[c2]++[42]=cs.take n++c1::(cs.drop n++[c2]++[42]):=by simp
  rw[e3,ms];walk_at "ev"
 ·simp only[h5];walk_at "ev";have e3:cs.take n++[c1]++cs.drop n=cs.take n++c1::cs.drop n:=by simp
  rw[e3,ms];walk_at "ev"
theorem Z7(ps:List Pr):eqA (.lst (ps.map prE)) (.lst [])=some (decide (ps=[])):=Jez ps []
theorem Jjc(ps:List Pr)(g:Good ps)(hl:ps.length<=30)(cell:Int)(h0:0<=cell):Yk [.sh (.lst (ps.map prE)),.sh (.int cell)]=some (.sh (.bl true)):=by
 unfold Yk;walk_at "ev";rw[Z9 rfl g hl];walk_at "ev";rw[JhB,Gy];have mw:=fun low:Int=>JaY ps (by omega) low (low+20+cell / 1500 % 40) (by omega)
 refine VD (fun i E=>∃j3 j4 j5 j6,E=[.sh (.lst (ps.map prE)),.sh (.int cell),.sh (.row (ps.map prE)),j3,j4,j5,j6]) ⟨.no,.no,.no,.no,rfl⟩ ?_ ?_
 ·rintro i E hi ⟨j3,j4,j5,j6,rfl⟩;have hi4:i<4:=hi;walk_at "ev";rw[Z7];walk_at "ev"
  by_cases hp:ps=[]
  ·simp only[hp];walk_at "ev";have mw':=mw (cell % 1000);rw[hp,Q8] at mw';rw[mw'];walk_at "ev";exact⟨_,_,_,_,rfl⟩
  ·simp only[hp];have hlen:0<ps.length:=List.length_pos_iff.mpr hp;have hm0:=KF (cell / 7+(i:Int)*(i:Int)) (b:=(ps.length:Int)) (by omega);have hm1:=Int.emod_lt_of_pos (cell / 7+(i:Int)*(i:Int)) (b:=(ps.length:Int)) (by omega);obtain⟨n,hn⟩:∃n:Nat,(cell / 7+(i:Int)*(i:Int)) % (ps.length:Int)=(n:Int):=⟨((cell / 7+(i:Int)*(i:Int)) % (ps.length:Int)).toNat,by omega⟩
   have hn2:n<ps.length:=by omega
   have hg:(ps.map prE)[n]?=some (prE ps[n]):=by rw[Qw,Ge hn2];rfl
   walk_at "ev";rw[hn,UC hg]
   generalize ps[n]=p
   simp only[prE];walk_at "ev";have a4:=WC (l:=[p.1,p.1+p.2,p.1+p.2 / 2,p.1-40]) (k:=(i:Int)) (by omega) (by show _<(4:Int);omega);simp only[Qt,Q8] at a4;rw[a4];walk_at "ev";rw[mw];walk_at "ev";exact⟨_,_,_,_,rfl⟩
 ·rintro E' ⟨j3,j4,j5,j6,rfl⟩;walk_at "ev"
theorem V8(n:Nat):∀c∈(Qi n [42,46]).flatten,c=42\/c=46:=by
 intro c hc;obtain⟨l,h1,h2⟩:=List.mem_flatten.mp hc;have e:=Gz h1;subst e
 simpa using h2
theorem UW(n:Nat):(Qi n [42,46]).flatten.length=n*2:=by simp
theorem Jde(n:Nat)(low:Int):plF low (Qi n [42,46]).flatten=YA (U6 low n):=by have:=JfX n low [];rw[Q4] at this;rw[this];simp[plF]
theorem Jkn(ns:List Int)(ps:List Pr)(g:Good ps)(hl:ps.length<=30)(low high:Int)(hin:∀p∈ps,low<=p.1/\p.1+p.2<=high)(h1:low<=high)(h2:high<=low+400) :
 (Jp (Jr 5 (eF Jaa (aC (Jb 0) a0))) (Jp (Jr 6 (e2 Y2 (Jb 3) (e2 J6 (Jb 5) (eC (.int 30))))) (Jp (Jr 7 (e2 Jy (e2 Y2 (Jb 3) (eC (.int 30))) (e2 J6 (e2 Yy (Jb 5) (eC (.int 7))) (e2 Jy (e2 Y2 (Jb 4) (Jb 3)) (eC (.int 60)))))) (Jp (Y4 (iE false (Uc (aC (YN (aC (Jb 6) (aC (e2 J6 (e2 Yy (Jb 5) (eC (.int 30))) (eC (.int 401))) a0))) (aC (YN (aC (Jb 6) (aC (eC (.int 400)) a0))) (aC (YN (aC (Jb 7) (aC (eC (.int 60)) a0))) (aC (YN (aC (Jb 7) (aC (eC (.int 0)) a0))) (aC (YN (aC (Jb 7) (aC (e1 VX (eC (.int 5))) a0))) a0))))))) (.tp (.cons (.nm 8) (.cons (.nm 9) .nil))) (xIf (tNot? (tTru? (eU 4 JQ (aC (Jb 2) (aC (Jb 1) (aC (Jb 8) (aC (e2 Jy (Jb 8) (Jb 9)) a0))))))) (JZ (eC (.bl false))) JJ)) (Jp (Jr 10 (eU 3 JV (aC (Jb 1) (aC (Jb 6) (aC (Jb 4) a0))))) (Jp (xIf (tOr? (tNot? (tTru? (eU 3 JW (aC (Jb 10) (aC (Jb 6) (aC (Jb 1) a0)))))) (tB? (e2 fNe (e1 Wm (Jb 2)) (eF Vd (aC (Jb 1) a0))))) (JZ (eC (.bl false))) JJ) (Jp (xIf (tOr? (tNot? (tTru? (eU 3 Ye (aC (Jb 10) (aC (Jb 6) (aC (e2 J6 (e2 Yy (Jb 5) (eC (.int 7))) (e2 Vc (eC (.int 10)) (eC (.int 9)))) a0)))))) (tB? (e2 YO (eU 4 Jq (aC (eC (.int 0)) (aC (Jb 2) (aC (Jb 7) (aC (e2 Jy (Jb 7) (eC (.int 401))) a0))))) (eC (.bl true))))) (JZ (eC (.bl false))) JJ) (Jp (xIf (tOr? (tNot? (tTru? (eU 2 Yk (aC (eU 1 Yf (aC (Jb 0) a0)) (aC (e2 J6 (e2 Yy (Jb 5) (eC (.int 11))) (e2 Vc (eC (.int 10)) (eC (.int 9)))) a0))))) (tNot? (tTru? (eU 2 Yj (aC (Jb 3) (aC (e2 J6 (e2 Yy (Jb 5) (eC (.int 13))) (e2 Vc (eC (.int 10)) (eC (.int 9)))) a0)))))) (JZ (eC (.bl false))) JJ) (Jp (Jr 11 (eU 2 JE (aC (e2 Yz (eC (.str "*.")) (eC (.int 30))) (aC (Jb 6) a0)))) (Jp (xIf (tOr? (tB? (e2 fNe (eF Uh (aC (e1 Wm (Jb 11)) a0)) (eC (.int 30)))) (tB? (e2 YO (eU 4 Jq (aC (eC (.int 1)) (aC (e2 Yz (eC (.str "*.")) (eC (.int 31))) (aC (Jb 6) (aC (eC (.int 0)) a0))))) (eC (.bl true))))) (JZ (eC (.bl false))) JJ) (JZ (e2 fEq (eU 4 Jq (aC (eC (.int 1)) (aC (e2 Jy (e2 Yz (eC (.str "*.")) (eC (.int 31))) (eC (.str "x"))) (aC (Jb 6) (aC (eC (.int 0)) a0))))) (eC (.int 63)))))))))))))) [.sh (.fz (ns.map .int)),.sh (.lst (ps.map prE)),.sh (.row (ps.map prE)),.sh (.int low),.sh (.int high),.no,.no,.no,.no,.no,.no,.no]=some (.rt (.sh (.bl true))):=by
 have hs:Jaa [.sh (.fz (ns.map .int))]=some (.sh (.int ns.sum)):=JcC rfl
 generalize hS:ns.sum=S at hs
 have mw:=fun a w:Int=>fun h:w<=400=>JaY ps (by omega) a (a+w) (by omega)
 obtain⟨bg,hbg⟩:∃bg:Int,low-S % 30=bg:=⟨_,rfl⟩
 obtain⟨wi,hwi⟩:∃wi:Int,low-30+S / 7 % (high-low+60)=wi:=⟨_,rfl⟩
 have b1:bg<=low/\low<=bg+30:=by omega
 have mg:=JcL ps bg high (by omega)
 have mr:=Jaj (YH ps bg (high-bg).toNat) (ZV ps bg _) (by rw[Wv];omega) bg ps g (Jfj ps bg _ g fun p hp=>by have:=hin p hp;omega) hl
 have mo:=JgQ (YH ps bg (high-bg).toNat) (ZV ps bg _) (by rw[Wv];omega) bg (S / 7 % 1000000000) (by omega)
 have mx:=Jjd ps wi
 have mn:=Jjc (VG ns) (Jb2 ns) (JdR ns) (S / 11 % 1000000000) (by omega)
 have ml:=Jjb low (S / 13 % 1000000000) (by omega)
 have mp:=(Vh (Qi 30 [42,46]).flatten (V8 30) (by rw[UW];omega) bg (U6 bg 30) (JbB bg 30) (Jde 30 bg)).1 (by rw[JaF];omega)
 have mt:=JdO (Qi 31 [42,46]).flatten (V8 31) (by rw[UW];omega) bg (U6 bg 31) (JbB bg 31) (Jde 31 bg) (by rw[JaF];omega)
 have mz:=ZS (Qi 31 [42,46]).flatten [] 120 (V8 31) (by decide) (by rw[UW];omega) bg;rw[UW,show((31*2:Nat):Int)+1=63 from rfl] at mz
 have r30:Yz (.sh (.str (tx [42,46]))) (.sh (.int 30))=some (.sh (.str (tx (Qi 30 [42,46]).flatten))):=JaR 30 (by omega) (by omega)
 have r31:Yz (.sh (.str (tx [42,46]))) (.sh (.int 31))=some (.sh (.str (tx (Qi 31 [42,46]).flatten))):=JaR 31 (by omega) (by omega)
 have l30:(U6 bg 30).length=30:=JaF bg 30
 generalize (Qi 30 [42,46]).flatten=f30 at mp r30
 have lf:(Qi 31 [42,46]).flatten.length<=100:=by rw[UW];omega
 generalize (Qi 31 [42,46]).flatten=f31 at mt mz r31 lf
 have ax:Jy (.sh (.str (tx f31))) (.sh (.str (tx [120])))=some (.sh (.str (tx (f31++[120])))):=Ur _ _ (by simp only[Qp,QP];omega)
 generalize U6 bg 30=t30 at mp l30
 walk_at "ev";rw[hs];walk_at "ev";rw[hbg,hwi];refine UI (f:=prE) (as:=[(bg,S / 30 % 401),(bg,400),(wi,60),(wi,0),(wi,-5)]) (fun(rest:List Pr) (_:Unit) E=>(∀p∈rest,p.2<=400)/\∃j8 j9,E=[.sh (.fz (ns.map .int)),.sh (.lst (ps.map prE)),.sh (.row (ps.map prE)),.sh (.int low),.sh (.int high),.sh (.int S),.sh (.int bg),.sh (.int wi),j8,j9,.no,.no]) (fun _ _=>()) () ⟨fun p hp=>?_,.no,.no,rfl⟩ ?_ ?_
 ·simp only[Qq,QW,or_false] at hp;rcases hp with z|z|z|z|z <;> (rw[z];dsimp only;omega)
 ·rintro p rest _ E ⟨hr,j8,j9,rfl⟩;have hp:=hr p Qz;simp only[prE];walk_at "ev";rw[mw p.1 p.2 hp];walk_at "ev";exact⟨fun q hq=>hr q (Qo _ hq),_,_,rfl⟩
 ·rintro E' ⟨_,j8,j9,rfl⟩;walk_at "ev";rw[mg];walk_at "ev";rw[mr];walk_at "ev";rw[show(10:Int) ^ 9=1000000000 by decide,mo];walk_at "ev";rw[mx];walk_at "ev";rw[JgR];walk_at "ev";rw[show(10:Int) ^ 9=1000000000 by decide,mn];walk_at "ev";rw[ml];walk_at "ev";rw[JlI,r30];walk_at "ev";rw[mp];walk_at "ev";rw[l30,show decide (((30:Nat):Int)=30)=true from rfl];walk_at "ev";rw[r31];walk_at "ev";rw[mt];walk_at "ev";rw[r31,Qg,s_x,ax]
  walk_at "ev";rw[mz];walk_at "ev"
theorem ZM:∀{ps:List Pr},Good ps->∀{q:Pr},ps[ps.length-1]?=some q->∀p∈ps,p.1+p.2<=q.1+q.2
 | [],_,q,h,p,hp=>nomatch hp
 | [r],_,q,h,p,hp=>by
  have e1:r=q:=by simpa using h
  have e2:p=r:=by simpa using hp
  rw[e2,e1];exact Km _
 | r::t::ps,g,q,h,p,hp=>by
  have h':(t::ps)[(t::ps).length-1]?=some q:=by simpa using h
  have ih:=ZM (Good.cons' g) h';rcases Qq.mp hp with z|z
  ·have h1:=Good.first g t Qz
   have h2:=ih t Qz
   have h3:=g.one 1 t rfl;rw[z];omega
  ·exact ih p z
theorem JiS(ns:List Int):∃low high:Int,(∀p∈smL ns,low<=p.1/\p.1+p.2<=high)/\low<=high/\high<=low+400/\∀T:Es,(Jp (Jr 1 (eU 1 Yg (aC (Jb 0) a0))) (Jp (Jr 2 (eF VA (aC (eF WP (aC (Jb 1) a0)) a0))) (Jp (Jr 3 (eC (.int 0))) (Jp (Jr 4 (eC (.int 0))) (Jp (xIf (tB? (e2 fNe (Jb 1) (Uc a0))) (Jp (Jr 3 (e2 fIx (e2 fIx (Jb 1) (eC (.int 0))) (eC (.int 0)))) (Jr 4 (e2 Jy (e2 fIx (e2 fIx (Jb 1) (e1 VX (eC (.int 1)))) (eC (.int 0))) (e2 fIx (e2 fIx (Jb 1) (e1 VX (eC (.int 1)))) (eC (.int 1)))))) JJ) T))))) [.sh (.fz (ns.map .int)),.no,.no,.no,.no,.no,.no,.no,.no,.no,.no,.no] =
 T [.sh (.fz (ns.map .int)),.sh (.lst ((smL ns).map prE)),.sh (.row ((smL ns).map prE)),.sh (.int low),.sh (.int high),.no,.no,.no,.no,.no,.no,.no]:=by
 have hN:smN ns<=30:=by unfold smN;omega
 have g:=(Jaz ns (smP ns) (smN ns)).1
 have hlen:=UV ns (smP ns) (smN ns);obtain⟨i1,i2,i3⟩:=Jim ns (smP ns) (smN ns)
 have hb:(9:Int)*smN ns<=270:=by omega
 have hps:(smF ns (smP ns) (smN ns)).2=smL ns:=rfl;rw[hps] at g hlen i3
 have hl:(smL ns).length<=30:=by omega
 have ms:=JgS ns
 have hr:VA [.own ((smL ns).map prE)]=some (.sh (.row ((smL ns).map prE))):=Z9 rfl g hl
 cases hn:smN ns with
 | zero=>have e:smL ns=[]:=Gf (by omega);rw[e] at ms hr ⊢;refine⟨0,0,(fun p hp=>nomatch hp),Km _,by omega,fun T=>?_⟩;walk_at "ev";rw[ms];walk_at "ev";rw[Q8] at hr;rw[hr];walk_at "ev";rw[show eqA (.lst []) (.lst [])=some true from Z7 []];walk_at "ev"
 | succ n =>
  have f0:=Jbq ns (smP ns) n;rw[<- hn,hps] at f0
  have hl1:(smL ns).length-1<(smL ns).length:=by omega
  obtain⟨q,hq⟩:∃q,(smL ns)[(smL ns).length-1]?=some q:=⟨_,Ge hl1⟩
  have hqm:q∈smL ns:=by obtain⟨h1,h2⟩:=Qh.mp hq;rw[<- h2];exact Kw h1
  have hq3:=i3 q hqm
  have hq1:=Good.all g q hqm
  have hne:smL ns≠[]:=fun z=>by rw[z] at hlen;simp at hlen;omega
  have last:∀p∈smL ns,p.1+p.2<=q.1+q.2:=ZM g hq
  generalize smL ns=ps at *
  refine⟨smP ns,q.1+q.2,fun p hp=>⟨(i3 p hp).1,last p hp⟩,by omega,by omega,fun T=>?_⟩;walk_at "ev";rw[ms];walk_at "ev";rw[hr];walk_at "ev";rw[Z7];simp only[hne];have at0:atI (ps.map prE) 0=some (prE (smP ns,1+cell ns 2 % 5)):=UC (k:=0) (by rw[Qw,f0];rfl);have atE:atI (ps.map prE) (-1)=some (prE q):=Jco (by rw[QR,Qw,hq];rfl);walk_at "ev";rw[at0];walk_at "ev";rw[Z8];walk_at "ev"
  rw[atE];walk_at "ev";rw[Z8,JeH];walk_at "ev"
theorem law_true(ns:List Int)(_:ns.length<=63):JeB [.sh (.fz (ns.map .int))]=some (.sh (.bl true)):=by
 obtain⟨low,high,h1,h2,h3,h4⟩:=JiS ns;have g:=(Jaz ns (smP ns) (smN ns)).1
 have hl:(smL ns).length<=30:=by
  have hN:smN ns<=30:=by unfold smN;omega
  have:=UV ns (smP ns) (smN ns);unfold smL;omega
 show((Jp (Jr 1 (eU 1 Yg (aC (Jb 0) a0))) (Jp (Jr 2 (eF VA (aC (eF WP (aC (Jb 1) a0)) a0))) (Jp (Jr 3 (eC (.int 0))) (Jp (Jr 4 (eC (.int 0))) (Jp (xIf (tB? (e2 fNe (Jb 1) (Uc a0))) (Jp (Jr 3 (e2 fIx (e2 fIx (Jb 1) (eC (.int 0))) (eC (.int 0)))) (Jr 4 (e2 Jy (e2 fIx (e2 fIx (Jb 1) (e1 VX (eC (.int 1)))) (eC (.int 0))) (e2 fIx (e2 fIx (Jb 1) (e1 VX (eC (.int 1)))) (eC (.int 1)))))) JJ) (Jp (Jr 5 (eF Jaa (aC (Jb 0) a0))) (Jp (Jr 6 (e2 Y2 (Jb 3) (e2 J6 (Jb 5) (eC (.int 30))))) (Jp (Jr 7 (e2 Jy (e2 Y2 (Jb 3) (eC (.int 30))) (e2 J6 (e2 Yy (Jb 5) (eC (.int 7))) (e2 Jy (e2 Y2 (Jb 4) (Jb 3)) (eC (.int 60)))))) (Jp (Y4 (iE false (Uc (aC (YN (aC (Jb 6) (aC (e2 J6 (e2 Yy (Jb 5) (eC (.int 30))) (eC (.int 401))) a0))) (aC (YN (aC (Jb 6) (aC (eC (.int 400)) a0))) (aC (YN (aC (Jb 7) (aC (eC (.int 60)) a0))) (aC (YN (aC (Jb 7) (aC (eC (.int 0)) a0))) (aC (YN (aC (Jb 7) (aC (e1 VX (eC (.int 5))) a0))) a0))))))) (.tp (.cons (.nm 8) (.cons (.nm 9) .nil))) (xIf (tNot? (tTru? (eU 4 JQ (aC (Jb 2) (aC (Jb 1) (aC (Jb 8) (aC (e2 Jy (Jb 8) (Jb 9)) a0))))))) (JZ (eC (.bl false))) JJ)) (Jp (Jr 10 (eU 3 JV (aC (Jb 1) (aC (Jb 6) (aC (Jb 4) a0))))) (Jp (xIf (tOr? (tNot? (tTru? (eU 3 JW (aC (Jb 10) (aC (Jb 6) (aC (Jb 1) a0)))))) (tB? (e2 fNe (e1 Wm (Jb 2)) (eF Vd (aC (Jb 1) a0))))) (JZ (eC (.bl false))) JJ) (Jp (xIf (tOr? (tNot? (tTru? (eU 3 Ye (aC (Jb 10) (aC (Jb 6) (aC (e2 J6 (e2 Yy (Jb 5) (eC (.int 7))) (e2 Vc (eC (.int 10)) (eC (.int 9)))) a0)))))) (tB? (e2 YO (eU 4 Jq (aC (eC (.int 0)) (aC (Jb 2) (aC (Jb 7) (aC (e2 Jy (Jb 7) (eC (.int 401))) a0))))) (eC (.bl true))))) (JZ (eC (.bl false))) JJ) (Jp (xIf (tOr? (tNot? (tTru? (eU 2 Yk (aC (eU 1 Yf (aC (Jb 0) a0)) (aC (e2 J6 (e2 Yy (Jb 5) (eC (.int 11))) (e2 Vc (eC (.int 10)) (eC (.int 9)))) a0))))) (tNot? (tTru? (eU 2 Yj (aC (Jb 3) (aC (e2 J6 (e2 Yy (Jb 5) (eC (.int 13))) (e2 Vc (eC (.int 10)) (eC (.int 9)))) a0)))))) (JZ (eC (.bl false))) JJ) (Jp (Jr 11 (eU 2 JE (aC (e2 Yz (eC (.str "*.")) (eC (.int 30))) (aC (Jb 6) a0)))) (Jp (xIf (tOr? (tB? (e2 fNe (eF Uh (aC (e1 Wm (Jb 11)) a0)) (eC (.int 30)))) (tB? (e2 YO (eU 4 Jq (aC (eC (.int 1)) (aC (e2 Yz (eC (.str "*.")) (eC (.int 31))) (aC (Jb 6) (aC (eC (.int 0)) a0))))) (eC (.bl true))))) (JZ (eC (.bl false))) JJ) (JZ (e2 fEq (eU 4 Jq (aC (eC (.int 1)) (aC (e2 Jy (e2 Yz (eC (.str "*.")) (eC (.int 31))) (eC (.str "x"))) (aC (Jb 6) (aC (eC (.int 0)) a0))))) (eC (.int 63))))))))))))))))))) [.sh (.fz (ns.map .int)),.no,.no,.no,.no,.no,.no,.no,.no,.no,.no,.no]).bind Wl=_
 rw[h4,Jkn ns (smL ns) g hl low high h1 h2 h3];rfl
end
end LK
noncomputable section
namespace LK
open PySem L2 LR LE
noncomputable def top(i:Nat):Ga:=PySem.Challenge.pw_lumprow_k11_pictures.main.body.getD i (.Pass ⟨0,0,0,0⟩)
noncomputable abbrev YY:Ga:=JcH (top 4) 0
noncomputable abbrev UT:Ga:=top 24
noncomputable abbrev UO:Ga:=top 26
noncomputable abbrev V5:Ga:=top 15
noncomputable abbrev V6:Ga:=top 20
noncomputable abbrev Yv:Ga:=top 13
noncomputable abbrev Vo:Ga:=JcH (top 12) 0
noncomputable abbrev Vp:Ga:=top 14
noncomputable abbrev Vv:Ga:=top 21
noncomputable abbrev Uf:Ga:=top 31
noncomputable abbrev Vu:Ga:=top 25
noncomputable abbrev Vt:Ga:=top 34
noncomputable abbrev Vr:Ga:=top 36
noncomputable abbrev UR:Ga:=top 30
noncomputable abbrev Uw:Ga:=top 33
noncomputable abbrev Vs:Ga:=top 35
noncomputable abbrev Vq:Ga:=top 23
noncomputable abbrev Uv:Ga:=top 27
noncomputable abbrev UQ:Ga:=top 28
noncomputable abbrev UP:Ga:=top 32
noncomputable abbrev US:Ga:=top 29
noncomputable abbrev VQ:Ga:=top 37
local macro_rules | `(tactic| walk_at "c")=>`(tactic| exact⟨rfl,rfl,rfl,by decide +kernel,rfl,by decide +kernel,by decide +kernel⟩)
theorem JkT:(["begin","length","place"]:List Str).Nodup:=by decide +kernel
theorem JlD:(["place","row"]:List Str).Nodup:=by decide +kernel
theorem JkU:(["begin","length"]:List Str).Nodup:=by decide +kernel
theorem JkV:(["steps","sign","low"]:List Str).Nodup:=by decide +kernel
section
variable{P:Qm}{w:QB}{K:Qn}{C:Qc}{mg:Str->Option Qa}{base:QH}{qf:Qc}{qD:Qc}{qx:Qc}{qq:Qc}{qm:Qc}{qo:Qc}{qa:Qc}{qd:Qc}{qe:Qc}
theorem Wp:FnScope ["self","at"] ["self","at"] (Jn YY):=by walk_at "c"
theorem JaV{f B c:Qc}{fd:QC}(F:Fun K "__init__" "BadText.__init__" YY f fd)(T:IniC K c f B)(qk:mg "LumpError"=some (.ref B)):FnOk P w K mg base CX0 1 f fd ["self","at"] (ZX c):=by refine F.ok Wp (fun vs H Q E h=>Jd5 h) (fun cdv A outer s H vs Q E hr h=>?_);refine⟨_,Jg (VL (Jfn T rfl qk rfl rfl (.inl rfl) (.inl rfl) (by decide))) (Jm (JjE T rfl rfl rfl (.inl rfl) (.inl rfl))),?_⟩;obtain⟨a,k,e,hk,ha,q⟩:=h;subst e;exact⟨a,k,rfl,rfl,hk,ha,a,k,rfl,rfl,ha,q⟩
theorem Jay:FnScope ["found"] ["found"] (Jn UT):=by walk_at "c"
theorem Jar{f:Qc}{fd:QC}(F:Fun K "_law_whole" "_law_whole" UT f fd)(qb:mg "isinstance"=none)(va:mg "bool"=none)(vn:mg "int"=none):FnOk P w K mg base CX0 1 f fd ["found"] (spE K C 1 J2) :=
 okE F Jay rfl fun _ _ _ _ _ _ hr hu=>⟨_,(Jm (JI (W7 (Ju (YT (K:=K) rfl) rfl qb Js (Ja (pv 0) (Ja (U0 (v:=V.ty "int") rfl vn Jiw rfl) Je))) (Jas (Jjx (Ju (YT (K:=K) rfl) rfl qb Js (Ja (pv 0) (Ja (U0 (v:=V.ty "bool") rfl va Jgb rfl) Je)))))))),(J9 (Jbl (Jbn JgL (Jc 0)) (Jlm (Jbn JeX (Jc 0)))))⟩
theorem sc_law_alone:FnScope ["e","kinds"] ["e"] (Jn UO):=by walk_at "c"
theorem Jam{f:Qc}{fd:QC}(F:Fun K "_law_alone" "_law_alone" UO f fd)(qb:mg "isinstance"=none)(qL:mg "ValueError"=none)(xG:ExcG K)(xO:OwnL K ["BadRow","BadText","TooMany"] [qe,qa,qd])(iV:IsiV K ["BadRow","BadText","TooMany"])(qk:mg "LumpError"=some (.ref qf))(qR:IsiN K ["BadRow","BadText","TooMany"] "LumpError" qf)(wU:mg "NoRow"=some (.ref qD))(wV:IsiN K ["BadRow","BadText","TooMany"] "NoRow" qD)(wQ:mg "Unlike"=some (.ref qx))(wR:IsiN K ["BadRow","BadText","TooMany"] "Unlike" qx)(wE:mg "BadDeed"=some (.ref qq))(wF:IsiN K ["BadRow","BadText","TooMany"] "BadDeed" qq)(we:mg "BadTable"=some (.ref qm))(wf:IsiN K ["BadRow","BadText","TooMany"] "BadTable" qm)(wg:mg "BadSeats"=some (.ref qo))(wj:IsiN K ["BadRow","BadText","TooMany"] "BadSeats" qo)(qA:mg "BadText"=some (.ref qa))(qE:IsiN K ["BadRow","BadText","TooMany"] "BadText" qa)(qj:mg "TooMany"=some (.ref qd))(qF:IsiN K ["BadRow","BadText","TooMany"] "TooMany" qd)(qG:mg "BadRow"=some (.ref qe))(wS:IsiN K ["BadRow","BadText","TooMany"] "BadRow" qe):FnOk P w K mg base CX0 1 f fd ["e"] (spE K C 1 Up) :=
 okE F sc_law_alone rfl fun _ _ _ _ _ _ hr hu=>⟨_,(Jg (psN 1 sc_law_alone.nd (Yu (Ja (Ju (J0 (K:=K) rfl) rfl qb Js (Ja (pv 0) (Ja (Yo (v:=V.ref qe) rfl qG rfl) Je))) (Ja (Ju (J0 (K:=K) rfl) rfl qb Js (Ja (pv 0) (Ja (Yo (v:=V.ref qd) rfl qj rfl) Je))) (Ja (Ju (J0 (K:=K) rfl) rfl qb Js (Ja (pv 0) (Ja (Yo (v:=V.ref qa) rfl qA rfl) Je))) (Ja (Ju (J0 (K:=K) rfl) rfl qb Js (Ja (pv 0) (Ja (Yo (v:=V.ref qo) rfl wg rfl) Je))) Je))))))
  (Jg (psN 1 sc_law_alone.nd (Jj (Jo (K:=K) rfl) (pv 1) (Yu (Ja (Ju (J0 (K:=K) rfl) rfl qb Js (Ja (pv 0) (Ja (Yo (v:=V.ref qm) rfl we rfl) Je))) (Ja (Ju (J0 (K:=K) rfl) rfl qb Js (Ja (pv 0) (Ja (Yo (v:=V.ref qq) rfl wE rfl) Je))) (Ja (Ju (J0 (K:=K) rfl) rfl qb Js (Ja (pv 0) (Ja (Yo (v:=V.ref qx) rfl wQ rfl) Je))) (Ja (Ju (J0 (K:=K) rfl) rfl qb Js (Ja (pv 0) (Ja (Yo (v:=V.ref qD) rfl wU rfl) Je))) Je)))))))
  (Jm (JI (W7 (VI (Ud (K:=K) rfl hu) (V3 (K:=K) rfl Gj PySem.F.slot_list_count PySem.F.type_list_count JdP (pv 1) (Ja Y9 Je)) Jf (JN _)) (W7 (Ju (J0 (K:=K) rfl) rfl qb Js (Ja (pv 0) (Ja (Yo (v:=V.ref qf) rfl qk rfl) Je))) (Jas (Ju (J0 (K:=K) rfl) rfl qb Js (Ja (pv 0) (Ja (U0 (v:=V.ty "ValueError") rfl qL Zr rfl) Je)))))))))),(Jw (JB (YZ (Jd (UN wS (Jc 0)) (Jd (UN qF (Jc 0)) (Jd (UN qE (Jc 0)) (Jd (UN wj (Jc 0)) Jk))))))
  (Jw (JB (Ji JF (Jc 1) (YZ (Jd (UN wf (Jc 0)) (Jd (UN wF (Jc 0)) (Jd (UN wR (Jc 0)) (Jd (UN wV (Jc 0)) Jk)))))))
  (J9 (Jbl (Ji Wo (JhE (Jc 1) VO) Jh) (Jbl (UN qR (Jc 0)) (Jll iV (Jc 0)))))))⟩
theorem Jb9:FnScope ["row","place"] ["row","place"] (Jn V5):=by walk_at "c"
theorem Jb0{f:Qc}{fd:QC}(F:Fun K "ball_at" "ball_at" V5 f fd)(vo:mg "any"=none)(T:RowC K C):FnOk P w K mg base CX0 1 f fd ["row","place"] (spE K C 2 YU) :=
 okE F Jb9 rfl fun _ _ _ _ _ _ hr hu=>⟨_,(Jm (JI (Ju (Jdn (K:=K) rfl rfl) rfl vo Jiv (Ja (Wt (N':=["begin","length","place"]) (imp:=[none,none,some 1]) rfl (piK K (VJ (K:=K) rfl (pv 0) rfl)) (Jiu (own:=["begin","length"]) (fr:=[("place",1)]) rfl rfl rfl ⟨rfl,trivial⟩ rfl ⟨⟨rfl,rfl,rfl⟩,trivial⟩) (fun _ _ _ _=>(Ua (K:=K) (n:=2) rfl rfl (JU (pgN 0 JkT) (JU (pgN 1 JkT) Ub)) rfl rfl)) (fun _ _ _ _=>Zc) (fun _ _ _ _=>(Jfe Jic Je9 (pv 0) (pv 2) (Jj (Jo (K:=K) rfl) (pv 0) (pv 1))))) Je)))),(J9 (Uk JkG (Jd (Jax (Jkc (Jbm T (Jc 0))) (Va (Yd (YB 0) (Yd (YB 1) U9)) rfl) Jik (JhD JgX Je7 (Jc 0) (Jc 2) (Ji JF (Jc 0) (Jc 1))) rfl) Jk)))⟩
theorem Jca:FnScope ["row","low","high"] ["row","low","high"] (Jn V6):=by walk_at "c"
theorem Jb1{f:Qc}{fd:QC}(F:Fun K "picture" "picture" V6 f fd)(qi:mg "range"=none)(wk:GV mg "BALL" (.str "*"))(wG:GV mg "FREE" (.str "."))(qM:GV mg "MOST_BOXES" (.int 400))(wH:Cal P w K mg base "ball_at" 1 ["row","place"] (spE K C 2 YU))(qj:mg "TooMany"=some (.ref qd))(qu:AtX K "TooMany" qd):FnOk P w K mg base (CX1 P w) 2 f fd ["row","low","high"] (spX K C 3 JS Yl):=by
 refine Fun.okX F Jca (fun vs H Q E h=>Jdc h) (fun cdv A outer s H vs Q E hr h=>?_);have hu:=hr.units;refine⟨_,(Jg (Ym (JM Jib (Jj YF (pv 2) (pv 1)) (YX rfl qM) (JN _)) (Jm (U2 (K:=K) rfl qu.ok rfl qj rfl xok_cx (Ja Yh Je))) JL)
  (Jm (JI (V3 (K:=K) rfl Lg Lo Lp (JaZ (K:=K) rfl) Yh (Ja (Wt (N':=["place","row"]) (imp:=[none,some 0]) rfl (ZT rfl qi (Ja (pv 1) (Ja (pv 2) Je))) (Jiu (own:=["place"]) (fr:=[("row",0)]) rfl rfl rfl ⟨rfl,trivial⟩ rfl ⟨⟨rfl,rfl,rfl⟩,trivial⟩) (fun _ _ _ _=>(pgN 0 JlD)) (fun _ _ _ _=>Zc) (fun _ _ _ _=>(Jff (Yc (K:=K) rfl (Jv wH (hrM hr) rfl (Ja (pv 1) (Ja (pv 0) Je))) (fun _=>rfl)) (YX rfl wk) (YX rfl wG)))) Je))))),?_⟩
 exact JaT (N:=["row","low","high"]) (Jw (Yx (JA (Ji Je6 (Ji Y8 (Jc 2) (Jc 1)) Jh)) YC JP)
  (J9 (Jlj Je2 JY (Jd (Jax (Jii (Jd (Jc 1) (Jd (Jc 2) Jk))) (YB 0) Jik (Jlk (YM (JG (Jd (Jc 1) (Jd (Jc 0) Jk)))) JY JY) rfl) Jk)))) (Wb (Yx (JA (Ji Je6 (Ji Y8 (Jc 2) (Jc 1)) Jh)) YC JP)
  (JbF (JA (Ji Je6 (Ji Y8 (Jc 2) (Jc 1)) Jh)) (VV qu.ns (Jd JY Jk)) Wi) Wi) h
theorem sc_check_stretches:FnScope ["stretches","behind","begin","length"] ["stretches"] (Jn Yv):=by walk_at "c"
theorem Vl{f:Qc}{fd:QC}(F:Fun K "check_stretches" "check_stretches" Yv f fd)(qG:mg "BadRow"=some (.ref qe))(qH:AtX K "BadRow" qe):FnOk P w K mg base (CX1 P w) 1 f fd ["stretches"] (Jbc (JaB K) (spR K C 1 Yt)):=by
 refine Fun.okX F sc_check_stretches (fun vs H Q E h=>h.elim (fun h=>by obtain⟨v,ps,rfl,_⟩:=h;rfl) JhQ) (fun cdv A outer s H vs Q E hr h=>?_);have hu:=hr.units;refine⟨_,(Jg (psN 1 sc_check_stretches.nd W9)
  (Jm (Ue L5 rfl (piK K (pv 0)) (Ua (K:=K) (n:=2) rfl rfl (JU (J8 (i:=2) sc_check_stretches.nd rfl (.inl rfl)) (JU (J8 (i:=3) sc_check_stretches.nd rfl (.inl rfl)) Ub)) rfl rfl) (Jg (Ym (JM Je9 (pv 3) Jf (JN _)) (Jm (U2 (K:=K) rfl qH.ok rfl qG rfl xok_cx (Ja Yh Je))) JL)
  (Jg (Ym (PW.pt (Jat (JM Jfa (pv 1) W9 (JN _)) (Wy (JM Jic (pv 2) (pv 1) (JN _))))) (Jm (U2 (K:=K) rfl qH.ok rfl qG rfl xok_cx (Ja Yh Je))) JL)
  (Jm (psN 1 sc_check_stretches.nd (Jj (Jo (K:=K) rfl) (pv 2) (pv 3))))))))),?_⟩
 rcases h with h|h
 ·obtain⟨v,ps,rfl,⟨a,vs,rfl,hq,hp⟩,g,q⟩:=h;walk_at "rd";refine JdZ (H1:=H) (a:=a) (xs:=vs) (fun R r=>⟨_,rfl,r⟩) hq
   (fun i σ' H'=>∃vb vl,σ'=[some (.ref a),some (Jcq ps i),vb,vl]/\H'=H) ⟨none,none,rfl,rfl⟩ (fun i σ' H' ⟨_,_,_,e⟩=>e▸Same.refl _) ?_ ?_
  ·rintro i x σ' H' hi ⟨vb,vl,rfl,rfl⟩;obtain⟨p,b,e1,rfl,sp⟩:=hp.at hi;refine Jc4 sp rfl ?_;walk_at "rd";refine ifd (fun hlt=>absurd (g.one i p e1) (by omega)) (fun _=>?_);walk_at "rd"
   cases i with
   | zero=>refine ifF rfl ?_;refine ifF rfl ?_;walk_at "rd";refine .inl (Jav ?_);walk_at "rd";exact⟨_,_,by rw[UE e1];rfl,rfl⟩
   | succ j =>
    obtain⟨q1,e2⟩:∃q1,ps[j]?=some q1:=⟨ps[j]'(by have:=(Qh.mp e1).1;omega),by have:=(Qh.mp e1).1;simp[show j<ps.length by omega]⟩
    rw[UE e2];refine ifT rfl ?_;walk_at "rd";refine ifd (fun hle=>absurd (g.gap j q1 p e2 e1) (by omega)) (fun _=>?_);walk_at "rd";refine .inl (Jav ?_);walk_at "rd";exact⟨_,_,by rw[UE e1];rfl,rfl⟩
  ·rintro σ' H' ⟨vb,vl,rfl,rfl⟩;exact q _ (Same.refl _)
 ·exact JeK (N:=["stretches","behind","begin","length"]) (Wb (JB Ze)
   Wi (Jdk (Jkd 0) (Va (Yd (YB 2) (Yd (YB 3) U9)) rfl) (Jw (Yx (JA (Ji Je7 (Jc 3) Jh)) YC JP)
   (Jw (Yx (Ux (JA (Ji Jal (Jc 1) Ze)) (JA (Ji JgX (Jc 2) (Jc 1)))) YC JP)
   (JB (Ji JF (Jc 2) (Jc 3))))) (Wb (Yx (JA (Ji Je7 (Jc 3) Jh)) YC JP)
   (JbF (JA (Ji Je7 (Jc 3) Jh)) (VV qH.ns (Jd JY Jk)) Wi) (Wb (Yx (Ux (JA (Ji Jal (Jc 1) Ze)) (JA (Ji JgX (Jc 2) (Jc 1)))) YC JP)
   (JbF (Ux (JA (Ji Jal (Jc 1) Ze)) (JA (Ji JgX (Jc 2) (Jc 1)))) (VV qH.ns (Jd JY Jk)) Wi) Wi)))) h
theorem Jbo:FnScope ["self","stretches"] ["self","stretches"] (Jn Vo):=by walk_at "c"
theorem Ja4{f:Qc}{fd:QC}(F:Fun K "__init__" "Row.__init__" Vo f fd)(qy:mg "len"=none)(qv:mg "tuple"=none)(qB:GV mg "MOST_STRETCHES" (.int 30))(qz:CalX P w K mg base "check_stretches" 1 ["stretches"] (Jbc (JaB K) (spR K C 1 Yt)))(T:RowC K C)(qj:mg "TooMany"=some (.ref qd))(qu:AtX K "TooMany" qd):FnOk P w K mg base (CX1 P w) 2 f fd ["self","stretches"] (Jbc (Vw C K) (Jbr K C 1 JX)):=by
 refine Fun.okX F Jbo (fun vs H Q E h=>h.elim (fun h=>by obtain⟨x,dx,v,ps,rfl,_⟩:=h;rfl) JfO) (fun cdv A outer s H vs Q E hr h=>?_);have hu:=hr.units;refine⟨_,(Jg (Ym (JM Jib (Ju (Yn (K:=K) rfl) rfl qy Um (Ja (pv 1) Je)) (YX rfl qB) (JN _)) (Jm (U2 (K:=K) rfl qu.ok rfl qj rfl xok_cx (Ja Yh Je))) JL)
  (Jg (VL (VH qz (hrM hr) rfl xok_cx.passes (Ja (pv 1) Je)))
  (Jm (Jhf (K:=K) rfl (pv 0) (Ui (UG (K:=K) rfl) rfl qv UF (Ja (Wt (N':=["begin","length"]) (imp:=[none,none]) rfl (piK K (pv 1)) (Jlt rfl rfl) (fun _ _ _ _=>(Ua (K:=K) (n:=2) rfl rfl (JU (pgN 0 JkU) (JU (pgN 1 JkU) Ub)) rfl rfl)) (fun _ _ _ _=>Zc) (fun _ _ _ _=>(YG (Ja (pv 0) (Ja (pv 1) Je))))) Je)) rfl)))),?_⟩
 rcases h with h|h
 ·obtain⟨x,dx,v,ps,rfl,hx,⟨a,vs,rfl,hq,hp⟩,g,hl,q⟩:=h;have hn:=hp.len;walk_at "rd";refine Jbk hq ?_;walk_at "rd";refine ifd (fun hgt=>absurd hl (by omega)) (fun _=>?_);walk_at "rd";refine .inl (Jeu ⟨a,vs,rfl,hq,hp⟩ g fun H1 s1=>?_);walk_at "rd";refine Jb6 (H1:=H1) (a:=a) (xs:=vs) (fun R r=>⟨_,rfl,r⟩) (hq.imp s1.seq s1.seqT) (Kn (Jd4 (by omega)))
   (fun i ys σ' H'=>∃vb vl,σ'=[vb,vl]/\Same H1 H'/\Prs K H' ys (ps.take i)) ⟨none,none,rfl,Same.refl _,by rw[List.take_zero];exact RepL.nil⟩
   (fun i ys σ' H' ⟨_,_,_,_,r⟩=>by have:=r.len;rw[this,Gc];omega) (fun i ys σ' H' ⟨_,_,_,s',_⟩=>s') ?_ ?_
  ·rintro i ys y σ' H' hi ⟨vb,vl,rfl,s',r⟩;obtain⟨p,b,e1,rfl,sp⟩:=Prs.at (K:=K) (ps:=ps) (RepL.mono (s1.trans s') hp) hi;refine Jc4 sp rfl ?_;walk_at "rd";refine ifT rfl ?_;walk_at "rd";refine Jis sz2 fun t H2 nt s2 ht=>?_
   refine⟨_,_,rfl,s'.trans s2,?_⟩;rw[List.take_add_one,e1];exact Prs.snoc (RepL.mono s2 r) (Jhe ht)
  ·rintro ys σ' H' ⟨vb,vl,rfl,s',r⟩ l H2 nl s2 hl2;walk_at "rd";refine Jd0 (.of hl2) fun t H3 nt s3 ht=>?_
   walk_at "rd";have sA:Same H H3:=((s1.trans s').trans s2).trans s3;refine⟨x,C,dx,[],rfl,sA _ _ hx,T.cl,T.ns,by decide,?_⟩;rw[hn,List.take_length] at r;have r3:Prs K H3 ys ps:=RepL.mono (s2.trans s3) r;have ntx:t≠x:=Ja0 ht (sA _ _ hx) (by intro z;cases z);refine q _ t ys (sA.ex_trans SameEx.upd) (by rw[Jft];exact Jx) (by rw[Jl ntx];exact ht) ?_;exact Prs.monoIns SameEx.upd (sA _ _ hx) r3
 ·exact JdA (N:=["self","stretches"]) (Wb (Yx (JA (Ji Je6 (Uk U7 (Jd (Jc 1) Jk)) Jh)) YC JP)
   (JbF (JA (Ji Je6 (Uk U7 (Jd (Jc 1) Jk)) Jh)) (VV qu.ns (Jd JY Jk)) Wi) (Jkw (Jh2 (Jf0 (Jd (Jc 1) Jk))))) h
theorem sc_gathered:FnScope ["places","stretches","place","begin"] ["places"] (Jn Vp):=by walk_at "c"
theorem Ja5{f:Qc}{fd:QC}(F:Fun K "gathered" "gathered" Vp f fd)(wT:mg "sum"=none):FnOk P w K mg base CX0 1 f fd ["places"] (spE K C 1 JD) :=
 okE F sc_gathered rfl fun _ _ _ _ _ _ hr hu=>⟨_,(Jg (psN 1 sc_gathered.nd (Yu Je))
  (Jg (Ue Gm rfl (piK K (pv 0)) (J8 (i:=2) sc_gathered.nd rfl (.inl rfl)) (Jg (psN 3 sc_gathered.nd (pv 2))
  (Jg (Ym (PW.pt (Jat (Yc (K:=K) rfl (pv 1) (fun _=>rfl)) (Wy (JM (Ud (K:=K) rfl hu) (Ju (ZI (K:=K) rfl rfl) rfl wT Jeo (Ja (pxK K (pv 1) (JcU JaH Jf)) Je)) (pv 2) (JN _))))) (Jm (psN 3 sc_gathered.nd (pxK K (Jg8 (K:=K) rfl Gj PySem.F.slot_list_pop PySem.F.type_list_pop Jje (pv 1)) Jf))) JL)
  (Jm (VL (V3 (K:=K) rfl Gj Ke Kf V1 (pv 1) (Ja (YG (Ja (pv 3) (Ja (Jj YF (Jj (Jo (K:=K) rfl) (pv 2) Jf) (pv 3)) Je))) Je)))))))
  (Jm (JI (pv 1))))),(Jw (Jdh (YZ Jk))
  (Jw (Vb (Jkd 0) (YB 2) (Jw (JB (Jc 2))
  (Jw (Yx (Ux (YM (Jc 1)) (JA (Ji Wo (Uk Jh4 (Jd (Ji YW (Jc 1) (JhF Jdf Jh)) Jk)) (Jc 2)))) Jh0 JP)
  (JfZ (UU (Jd (Jc 3) (Jd (Ji Y8 (Ji JF (Jc 2) Jh) (Jc 3)) Jk)))))))
  Jcm))⟩
theorem sc_pictured:FnScope ["text","low","at","sign"] ["text","low"] (Jn Vv):=by walk_at "c"
theorem Jbb{f:Qc}{fd:QC}(F:Fun K "pictured" "pictured" Vv f fd)(qI:mg "enumerate"=none)(wk:GV mg "BALL" (.str "*"))(wG:GV mg "FREE" (.str "."))(CMX_Row:CalMX P w K mg base "Row" C 2 ["self","stretches"] (Jbc (Vw C K) (Jbr K C 1 JX)))(wl:Cal P w K mg base "gathered" 1 ["places"] (spE K C 1 JD))(qK:AtY K "BadText" qa)(R_BadText:RaiF P w K mg base "BadText" qa 1):FnOk P w K mg base (CX1 P w) 4 f fd ["text","low"] (spX K C 2 JE J5):=by
 refine Fun.okX F sc_pictured (fun vs H Q E h=>Jdc h) (fun cdv A outer s H vs Q E hr h=>?_);have hu:=hr.units;refine⟨_,(Jg (Ue L5 rfl (JdS rfl qI (Ja (pv 0) Je) Jf) (Ua (K:=K) (n:=2) rfl rfl (JU (J8 (i:=2) sc_pictured.nd rfl (.inl rfl)) (JU (J8 (i:=3) sc_pictured.nd rfl (.inl rfl)) Ub)) rfl rfl) (Jm (Ym (PW.pt (Jat (JM (Uu (K:=K) rfl hu) (pv 3) (YX rfl wk) (JN _)) (Wy (JM (Uu (K:=K) rfl hu) (pv 3) (YX rfl wG) (JN _))))) (Jm (JdV (K:=K) rfl R_BadText (hrM hr) rfl xok_cx rfl (pv 2))) JL)))
  (Jm (JI (W8 CMX_Row (hrM hr) rfl xok_cx.passes (Ja (Jv wl (hrM hr) rfl (Ja (Wt (N':=["steps","sign","low"]) (imp:=[none,none,some 1]) rfl (Jfg rfl qI (Ja (pv 0) Je)) (Jiu (own:=["steps","sign"]) (fr:=[("low",1)]) rfl rfl rfl ⟨rfl,trivial⟩ rfl ⟨⟨rfl,rfl,rfl⟩,trivial⟩) (fun _ _ _ _=>(Ua (K:=K) (n:=2) rfl rfl (JU (pgN 0 JkV) (JU (pgN 1 JkV) Ub)) rfl rfl)) (fun _ _ _ _=>(Jfh (JM (Ud (K:=K) rfl hu) (pv 1) (YX rfl wk) (JN _)))) (fun _ _ _ _=>(Jj (Jo (K:=K) rfl) (pv 2) (pv 0)))) Je)) Je))))),?_⟩
 exact JaT (N:=["text","low","at","sign"]) (Jw (Vb (UM (Jd (Jc 0) Jk)) (Va (Yd (YB 2) (Yd (YB 3) U9)) rfl) (Yx (Ux (JA (Ji Vj (Jc 3) JY)) (JA (Ji Vj (Jc 3) JY))) YC JP))
  (J9 (Jb8 (fun _ _ _ _ h=>.inl h) (Jd (JG (Jd (Jax (UM (Jd (Jc 0) Jk)) (Va (Yd (YB 0) (Yd (YB 1) U9)) rfl) (JA (Ji Wo (Jc 1) JY)) (Ji JF (Jc 2) (Jc 0)) rfl) Jk)) Jk)))) (Wb (Vb (UM (Jd (Jc 0) Jk)) (Va (Yd (YB 2) (Yd (YB 3) U9)) rfl) (Yx (Ux (JA (Ji Vj (Jc 3) JY)) (JA (Ji Vj (Jc 3) JY))) YC JP))
  (Jdk (UM (Jd (Jc 0) Jk)) (Va (Yd (YB 2) (Yd (YB 3) U9)) rfl) (Yx (Ux (JA (Ji Vj (Jc 3) JY)) (JA (Ji Vj (Jc 3) JY))) YC JP) (JbF (Ux (JA (Ji Vj (Jc 3) JY)) (JA (Ji Vj (Jc 3) JY))) (Jeg qK.ns (Jc 2)) Wi)) (Jkx (Jf1 (fun _ _ _ _ h=>.inr h) (Jd (JG (Jd (Jax (UM (Jd (Jc 0) Jk)) (Va (Yd (YB 0) (Yd (YB 1) U9)) rfl) (JA (Ji Wo (Jc 1) JY)) (Ji JF (Jc 2) (Jc 0)) rfl) Jk)) Jk)))) h
theorem sc_law_refused:FnScope ["way","thing","low","high","found","e"] ["way","thing","low","high"] (Jn Uf):=by walk_at "c"
theorem W4{f:Qc}{fd:QC}(F:Fun K "_law_refused" "_law_refused" Uf f fd)(qb:mg "isinstance"=none)(qp:Cal P w K mg base "_law_whole" 1 ["found"] (spE K C 1 J2))(qN:Cal P w K mg base "_law_alone" 1 ["e"] (spE K C 1 Up))(qC:CalX P w K mg base "picture" 2 ["row","low","high"] (spX K C 3 JS Yl))(ql:CalX P w K mg base "pictured" 4 ["text","low"] (spX K C 2 JE J5))(qj:mg "TooMany"=some (.ref qd))(xG:ExcG K)(xO:OwnL K ["BadRow","BadText","TooMany"] [qe,qa,qd])(qF:IsiN K ["BadRow","BadText","TooMany"] "TooMany" qd)(xF:Jdl K ["BadText"])(qA:mg "BadText"=some (.ref qa))(qE:IsiN K ["BadRow","BadText","TooMany"] "BadText" qa)(qk:mg "LumpError"=some (.ref qf))(qS:ExmL K qf [qe,qa,qd]):FnOk P w K mg base CX0 5 f fd ["way","thing","low","high"] (spE K C 4 Jq) :=
 okE F sc_law_refused rfl fun _ _ _ _ _ _ hr hu=>⟨_,(Jg (psN 4 sc_law_refused.nd W9)
  (Jg (Jhg (K:=K) (i:=5) rfl rfl rfl rfl sc_law_refused.nd rfl rfl rfl qk (W6 (Jju (JM (Ud (K:=K) rfl hu) (pv 0) Jf (JN _)) (W6 (Jbf (JcY qC (hrM hr) rfl (Ja (pv 1) (Ja (pv 2) (Ja (pv 3) Je)))))) (W6 (Jbf (JcY ql (hrM hr) rfl (Ja (pv 1) (Ja (pv 2) Je))))))) (fun a=>(Jm (psN 4 sc_law_refused.nd (pv 5)))))
  (Jg (Ym (PW.pt (VM (JM Jg2 (pv 4) W9 (JN _)) (UJ (YI (Yc (K:=K) rfl (Jv qN (hrM hr) rfl (Ja (pv 4) Je)) (fun _=>rfl)))))) (Jm (JI W9)) JL)
  (Jg (Ym (PW.pt (Jat (Yc (K:=K) rfl (Ju (J0 (K:=K) rfl) rfl qb Js (Ja (pv 4) (Ja (Yo (v:=V.ref qa) rfl qA rfl) Je))) (fun _=>rfl)) (Wy (Yc (K:=K) rfl (Jv qp (hrM hr) rfl (Ja (Jid (K:=K) rfl (pv 4)) Je)) (fun _=>rfl))))) (Jm (JI (Jid (K:=K) rfl (pv 4)))) JL)
  (Jm (JI (Ju (J0 (K:=K) rfl) rfl qb Js (Ja (pv 4) (Ja (Yo (v:=V.ref qd) rfl qj rfl) Je))))))))),(Jw (JB Ze)
  (Jw (Jlp (qS.all xO) (fun W=>(Yx (JA (Ji Wo (Jc 0) Jh)) (JbE (fun W=>VP (Jd (Jc 1) (Jd (Jc 2) (Jd (Jc 3) Jk)))) W) (JbE (fun W=>VP (Jd (Jc 1) (Jd (Jc 2) Jk))) W))) (Jlq (JA (Ji Wo (Jc 0) Jh)) (Jdi (fun W=>Jdj (Jd (Jc 1) (Jd (Jc 2) (Jd (Jc 3) Jk))))) (Jdi (fun W=>Jdj (Jd (Jc 1) (Jd (Jc 2) Jk))))) (JB (Jc 5)))
  (Jw (Yx (VR (JA (Ji JlE (Jc 4) Ze)) (YJ (YM (JG (Jd (Jc 4) Jk))))) (J9 Ze) JP)
  (Jw (Yx (Ux (YM (UN qE (Jc 4))) (YM (JG (Jd (Jli xF (Jc 4)) Jk)))) (J9 (Jli xF (Jc 4))) JP)
  (J9 (UN qF (Jc 4)))))))⟩
theorem sc_law_told:FnScope ["found","due","k"] ["found","due"] (Jn Vu):=by walk_at "c"
theorem Jba{f:Qc}{fd:QC}(F:Fun K "_law_told" "_law_told" Vu f fd)(qi:mg "range"=none)(qy:mg "len"=none)(qb:mg "isinstance"=none)(qv:mg "tuple"=none)(qp:Cal P w K mg base "_law_whole" 1 ["found"] (spE K C 1 J2)):FnOk P w K mg base CX0 2 f fd ["found","due"] (spE K C 2 YD) :=
 okE F sc_law_told rfl fun _ _ _ _ _ _ hr hu=>⟨_,(Jg (Ym (PW.pt (VM (YI (Yc (K:=K) rfl (Ju (YT (K:=K) rfl) rfl qb Js (Ja (pv 0) (Ja (U0 (v:=V.ty "tuple") rfl qv UF rfl) Je))) (fun _=>rfl))) (UJ (JM (Uu (K:=K) rfl hu) (Ju (Yn (K:=K) rfl) rfl qy Um (Ja (pv 0) Je)) (Ju (Yn (K:=K) rfl) rfl qy Um (Ja (pv 1) Je)) (JN _))))) (Jm (JI Y9)) JL)
  (Jg (Ue Gm rfl (U1 rfl qi (Ja (Ju (Yn (K:=K) rfl) rfl qy Um (Ja (pv 1) Je)) Je)) (J8 (i:=2) sc_law_told.nd rfl (.inl rfl)) (Jg (Ym (PW.pt (VM (YI (Yc (K:=K) rfl (Ju (YT (K:=K) rfl) rfl qb Js (Ja (pxK K (pv 0) (pv 2)) (Ja (U0 (v:=V.ty "tuple") rfl qv UF rfl) Je))) (fun _=>rfl))) (VM (JM (Uu (K:=K) rfl hu) (Ju (Yn (K:=K) rfl) rfl qy Um (Ja (pxK K (pv 0) (pv 2)) Je)) Jf (JN _)) (UJ (JM (Uu (K:=K) rfl hu) (pxK K (pv 0) (pv 2)) (pxK K (pv 1) (pv 2)) (JN _)))))) (Jm (JI Y9)) JL)
  (Jm (Ym (PW.pt (VM (YI (Yc (K:=K) rfl (Jv qp (hrM hr) rfl (Ja (pxK K (pxK K (pv 0) (pv 2)) Jf) Je)) (fun _=>rfl))) (UJ (YI (Yc (K:=K) rfl (Jv qp (hrM hr) rfl (Ja (pxK K (pxK K (pv 0) (pv 2)) Jf) Je)) (fun _=>rfl)))))) (Jm (JI Y9)) JL))))
  (Jm (JI Y9)))),(Jw (Yx (VR (YJ (YM (Jbn ZQ (Jc 0)))) (JA (Ji Vj (Uk U7 (Jd (Jc 0) Jk)) (Uk U7 (Jd (Jc 1) Jk))))) (J9 VO) JP)
  (Jw (Vb (Jc8 (Jd (Uk U7 (Jd (Jc 1) Jk)) Jk)) (YB 2) (Jw (Yx (VR (YJ (YM (Jbn ZQ (Ji YW (Jc 0) (Jc 2))))) (VR (JA (Ji Vj (Uk U7 (Jd (Ji YW (Jc 0) (Jc 2)) Jk)) Jh)) (JA (Ji Vj (Ji YW (Jc 0) (Jc 2)) (Ji YW (Jc 1) (Jc 2)))))) (J9 VO) JP)
  (Yx (VR (YJ (YM (JG (Jd (Ji YW (Ji YW (Jc 0) (Jc 2)) Jh) Jk)))) (YJ (YM (JG (Jd (Ji YW (Ji YW (Jc 0) (Jc 2)) Jh) Jk))))) (J9 VO) JP)))
  (J9 VO)))⟩
theorem sc_law_read:FnScope ["text","low","pairs","found"] ["text","low","pairs"] (Jn Vt):=by walk_at "c"
theorem Ja9{f:Qc}{fd:QC}(F:Fun K "_law_read" "_law_read" Vt f fd)(qb:mg "isinstance"=none)(qT:Cal P w K mg base "_law_told" 2 ["found","due"] (spE K C 2 YD))(vh:mg "Row"=some (.ref C))(TR:RowK K C)(ql:CalX P w K mg base "pictured" 4 ["text","low"] (spX K C 2 JE J5))(T:RowC K C):FnOk P w K mg base CX0 5 f fd ["text","low","pairs"] (spE K C 3 JW) :=
 okE F sc_law_read rfl fun _ _ _ _ _ _ hr hu=>⟨_,(Jg (psN 3 sc_law_read.nd (VH ql (hrM hr) rfl Jbe (Ja (pv 0) (Ja (pv 1) Je))))
  (Jm (JI (W7 (Ju (YT (K:=K) rfl) rfl qb Js (Ja (pv 3) (Ja (Yo (v:=V.ref C) rfl vh rfl) Je))) (Jas (Jv qT (hrM hr) rfl (Ja (VJ (K:=K) rfl (pv 3) rfl) (Ja (pv 2) Je)))))))),(Jw (JB (VP (Jd (Jc 0) (Jd (Jc 1) Jk))))
  (J9 (Jbl (Jke TR (Jc 3)) (JG (Jd (Jbm T (Jc 3)) (Jd (Jc 2) Jk))))))⟩
theorem sc_law_long:FnScope ["low","cell","many","free"] ["low","cell"] (Jn Vr):=by walk_at "c"
theorem Ja7{f:Qc}{fd:QC}(F:Fun K "_law_long" "_law_long" Vr f fd)(qt:Cal P w K mg base "_law_read" 5 ["text","low","pairs"] (spE K C 3 JW)):FnOk P w K mg base CX0 6 f fd ["low","cell"] (spE K C 2 Yj) :=
 okE F sc_law_long rfl fun _ _ _ _ _ _ hr hu=>⟨_,(Jg (psN 2 sc_law_long.nd (Jj (Jo (K:=K) rfl) Jf (Jj JO (pv 1) Jf)))
  (Jg (psN 3 sc_law_long.nd (Jj (Jo (K:=K) rfl) Jf (Jj JO (Jj Yb (pv 1) Jf) Jf)))
  (Jg (Ym (YI (Yc (K:=K) rfl (Jv qt (hrM hr) rfl (Ja (Jj UX Yh (pv 2)) (Ja (pv 0) (Ja (Yu (Ja (YG (Ja (pv 0) (Ja (pv 2) Je))) Je)) Je)))) (fun _=>rfl))) (Jm (JI Y9)) JL)
  (Jm (JI (Jv qt (hrM hr) rfl (Ja (Jj (Jo (K:=K) rfl) (Jj (Jo (K:=K) rfl) (Jj UX Yh (pv 3)) (Jj UX Yh (pv 2))) Yh) (Ja (pv 0) (Ja (Yu (Ja (YG (Ja (Jj (Jo (K:=K) rfl) (pv 0) (pv 3)) (Ja (pv 2) Je))) (Ja (YG (Ja (Jj (Jo (K:=K) rfl) (Jj (Jo (K:=K) rfl) (Jj (Jo (K:=K) rfl) (pv 0) (pv 3)) (pv 2)) Jf) (Ja Jf Je))) Je))) Je))))))))),(Jw (JB (Ji JF Jh (Ji Ya (Jc 1) Jh)))
  (Jw (JB (Ji JF Jh (Ji Ya (Ji YL (Jc 1) Jh) Jh)))
  (Jw (Yx (YJ (YM (JG (Jd (Ji V2 JY (Jc 2)) (Jd (Jc 0) (Jd (YZ (Jd (UU (Jd (Jc 0) (Jd (Jc 2) Jk))) Jk)) Jk)))))) (J9 VO) JP)
  (J9 (JG (Jd (Ji JF (Ji JF (Ji V2 JY (Jc 3)) (Ji V2 JY (Jc 2))) JY) (Jd (Jc 0) (Jd (YZ (Jd (UU (Jd (Ji JF (Jc 0) (Jc 3)) (Jd (Jc 2) Jk))) (Jd (UU (Jd (Ji JF (Ji JF (Ji JF (Jc 0) (Jc 3)) (Jc 2)) Jh) (Jd Jh Jk))) Jk))) Jk))))))))⟩
theorem sc_law_signs:FnScope ["pairs","low","high","signs","begin","length","place"] ["pairs","low","high"] (Jn UR):=by walk_at "c"
theorem Jap{f:Qc}{fd:QC}(F:Fun K "_law_signs" "_law_signs" UR f fd)(qi:mg "range"=none)(vp:mg "min"=none)(vi:mg "max"=none):FnOk P w K mg base CX0 1 f fd ["pairs","low","high"] (spE K C 3 JV) :=
 okE F sc_law_signs rfl fun _ _ _ _ _ _ hr hu=>⟨_,(Jg (psN 3 sc_law_signs.nd (Jj Jjr (Yu (Ja Yh Je)) (Ju (ZH rfl) rfl vi Jen (Ja Jf (Ja (Jj YF (pv 2) (pv 1)) Je)))))
  (Jg (Ue Gm rfl (piK K (pv 0)) (Ua (K:=K) (n:=2) rfl rfl (JU (J8 (i:=4) sc_law_signs.nd rfl (.inl rfl)) (JU (J8 (i:=5) sc_law_signs.nd rfl (.inl rfl)) Ub)) rfl rfl) (Jm (Ue Gm rfl (ZT rfl qi (Ja (Ju (ZH rfl) rfl vi Jen (Ja (pv 1) (Ja (pv 4) Je))) (Ja (Ju (Jdt rfl) rfl vp Jix (Ja (pv 2) (Ja (Jj (Jo (K:=K) rfl) (pv 4) (pv 5)) Je))) Je))) (J8 (i:=6) sc_law_signs.nd rfl (.inl rfl)) (Jm (Jfm Yh (Jjy (pv 3) (Jj YF (pv 6) (pv 1)) JfL))))))
  (Jm (JI (V3 (K:=K) rfl Lg Lo Lp (JaZ (K:=K) rfl) Yh (Ja (pv 3) Je)))))),(Jw (Jdh (Ji JkW (YZ (Jd JY Jk)) (Uk Jh3 (Jd Jh (Jd (Ji Y8 (Jc 2) (Jc 1)) Jk)))))
  (Jw (Vb (Jkd 0) (Va (Yd (YB 4) (Yd (YB 5) U9)) rfl) (Vb (Jii (Jd (Uk Jh3 (Jd (Jc 1) (Jd (Jc 4) Jk))) (Jd (Uk JkH (Jd (Jc 2) (Jd (Ji JF (Jc 4) (Jc 5)) Jk))) Jk))) (YB 6) (Jh1 JY (Ji Y8 (Jc 6) (Jc 1)))))
  (J9 (Jlj Je2 JY (Jd (Jc 3) Jk)))))⟩
theorem sc_law_window:FnScope ["row","pairs","low","high","found"] ["row","pairs","low","high"] (Jn Uw):=by walk_at "c"
theorem Zx{f:Qc}{fd:QC}(F:Fun K "_law_window" "_law_window" Uw f fd)(qb:mg "isinstance"=none)(vq:mg "str"=none)(qw:Cal P w K mg base "_law_signs" 1 ["pairs","low","high"] (spE K C 3 JV))(qC:CalX P w K mg base "picture" 2 ["row","low","high"] (spX K C 3 JS Yl)):FnOk P w K mg base CX0 3 f fd ["row","pairs","low","high"] (spE K C 4 JQ) :=
 okE F sc_law_window rfl fun _ _ _ _ _ _ hr hu=>⟨_,(Jg (psN 4 sc_law_window.nd (VH qC (hrM hr) rfl Jbe (Ja (pv 0) (Ja (pv 2) (Ja (pv 3) Je)))))
  (Jm (JI (W7 (Ju (YT (K:=K) rfl) rfl qb Js (Ja (pv 4) (Ja (U0 (v:=V.ty "str") rfl vq Jiy rfl) Je))) (Jas (VI (Ud (K:=K) rfl hu) (pv 4) (Jv qw (hrM hr) rfl (Ja (pv 1) (Ja (pv 2) (Ja (pv 3) Je)))) (JN _))))))),(Jw (JB (VP (Jd (Jc 0) (Jd (Jc 2) (Jd (Jc 3) Jk)))))
  (J9 (Jbl (Jbn JgM (Jc 4)) (Ji Wo (Jc 4) (JG (Jd (Jc 1) (Jd (Jc 2) (Jd (Jc 3) Jk))))))))⟩
theorem sc_law_near:FnScope ["pairs","cell","row","k","low","begin","length"] ["pairs","cell"] (Jn Vs):=by walk_at "c"
theorem Ja8{f:Qc}{fd:QC}(F:Fun K "_law_near" "_law_near" Vs f fd)(qv:mg "tuple"=none)(qi:mg "range"=none)(qy:mg "len"=none)(wI:mg "list"=none)(qr:Cal P w K mg base "_law_window" 3 ["row","pairs","low","high"] (spE K C 4 JQ))(CMX_Row:CalMX P w K mg base "Row" C 2 ["self","stretches"] (Jbc (Vw C K) (Jbr K C 1 JX)))(T:RowC K C):FnOk P w K mg base CX0 4 f fd ["pairs","cell"] (spE K C 2 Yk) :=
 okE F sc_law_near rfl fun _ _ _ _ _ _ hr hu=>⟨_,(Jg (psN 2 sc_law_near.nd (W8 CMX_Row (hrM hr) rfl Jbe (Ja (Ui (WG (K:=K) rfl) rfl wI Jcs (Ja (pv 0) Je)) Je)))
  (Jg (Ue Gm rfl (U1 rfl qi (Ja Jf Je)) (J8 (i:=3) sc_law_near.nd rfl (.inl rfl)) (Jg (psN 4 sc_law_near.nd (Jj JO (pv 1) Jf))
  (Jg (Ym (JM (Uu (K:=K) rfl hu) (pv 0) (Yu Je) (JN _)) (Jg (Jfm (pxK K (pv 0) (Jj JO (Jj (Jo (K:=K) rfl) (Jj Yb (pv 1) Jf) (Jj Vm (pv 3) (pv 3))) (Ju (Yn (K:=K) rfl) rfl qy Um (Ja (pv 0) Je)))) (Ua (K:=K) (n:=2) rfl rfl (JU (J8 (i:=5) sc_law_near.nd rfl (.inl rfl)) (JU (J8 (i:=6) sc_law_near.nd rfl (.inl rfl)) Ub)) rfl rfl))
  (Jm (psN 4 sc_law_near.nd (Jj YF (pxK K (Yu (Ja (pv 5) (Ja (Jj (Jo (K:=K) rfl) (pv 5) (pv 6)) (Ja (Jj (Jo (K:=K) rfl) (pv 5) (Jj Yb (pv 6) Jf)) (Ja (Jj YF (pv 5) Jf) Je))))) (pv 3)) (Jj JO (Jj Yb (pv 1) Jf) Jf))))) JL)
  (Jm (Ym (YI (Yc (K:=K) rfl (Jv qr (hrM hr) rfl (Ja (pv 2) (Ja (pv 0) (Ja (pv 4) (Ja (Jj (Jo (K:=K) rfl) (Jj (Jo (K:=K) rfl) (pv 4) Jf) (Jj JO (Jj Yb (pv 1) Jf) Jf)) Je))))) (fun _=>rfl))) (Jm (JI Y9)) JL)))))
  (Jm (JI (VI (Ud (K:=K) rfl hu) (VJ (K:=K) rfl (pv 2) rfl) (Ui (UG (K:=K) rfl) rfl qv UF (Ja (pv 0) Je)) (JN _)))))),(Jw (JB (Jb8 (fun _ _ _ _ h=>.inl h) (Jd (Uk Jep (Jd (Jc 0) Jk)) Jk)))
  (Jw (Vb (Jc8 (Jd Jh Jk)) (YB 3) (Jw (JB (Ji Ya (Jc 1) Jh))
  (Jw (Yx (JA (Ji Vj (Jc 0) (YZ Jk))) (Jw (Jlo (Ji YW (Jc 0) (Ji Ya (Ji JF (Ji YL (Jc 1) Jh) (Ji W2 (Jc 3) (Jc 3))) (Uk U7 (Jd (Jc 0) Jk)))) (Va (Yd (YB 5) (Yd (YB 6) U9)) rfl))
  (JB (Ji Y8 (Ji YW (YZ (Jd (Jc 5) (Jd (Ji JF (Jc 5) (Jc 6)) (Jd (Ji JF (Jc 5) (Ji YL (Jc 6) Jh)) (Jd (Ji Y8 (Jc 5) Jh) Jk))))) (Jc 3)) (Ji Ya (Ji YL (Jc 1) Jh) Jh)))) JP)
  (Yx (YJ (YM (JG (Jd (Jc 2) (Jd (Jc 0) (Jd (Jc 4) (Jd (Ji JF (Ji JF (Jc 4) Jh) (Ji Ya (Ji YL (Jc 1) Jh) Jh)) Jk))))))) (J9 VO) JP))))
  (J9 (Ji Wo (Jbm T (Jc 2)) (Uk Jct (Jd (Jc 0) Jk))))))⟩
theorem Jbp:FnScope ["script","k"] ["script","k"] (Jn Vq):=by walk_at "c"
theorem Ja6{f:Qc}{fd:QC}(F:Fun K "_law_cell" "_law_cell" Vq f fd)(qy:mg "len"=none):FnOk P w K mg base CX0 1 f fd ["script","k"] (spE K C 2 JC) :=
 okE F Jbp rfl fun _ _ _ _ _ _ hr hu=>⟨_,(Jg (Ym (JM Je9 (pv 1) (Ju (Yn (K:=K) rfl) rfl qy Um (Ja (pv 0) Je)) (JN _)) (Jm (JI (pxK K (pv 0) (pv 1)))) JL)
  (Jm (JI Jf))),(Jw (Yx (JA (Ji Je7 (Jc 1) (Uk U7 (Jd (Jc 0) Jk)))) (J9 (Ji YW (Jc 0) (Jc 1))) JP)
  (J9 Jh))⟩
theorem sc_law_spread:FnScope ["script","at","many","span","side","place","pairs","k","length"] ["script","at","many","span","side"] (Jn Uv):=by walk_at "c"
theorem Zw{f:Qc}{fd:QC}(F:Fun K "_law_spread" "_law_spread" Uv f fd)(qi:mg "range"=none)(qg:Cal P w K mg base "_law_cell" 1 ["script","k"] (spE K C 2 JC)):FnOk P w K mg base CX0 2 f fd ["script","at","many","span","side"] (spE K C 5 Yr) :=
 okE F sc_law_spread rfl fun _ _ _ _ _ _ hr hu=>⟨_,(Jg (psN 5 sc_law_spread.nd (Jj YF (Jj JO (Jv qg (hrM hr) rfl (Ja (pv 0) (Ja (pv 1) Je))) (Jj (Jo (K:=K) rfl) (Jj Vm Jf (pv 4)) Jf)) (pv 4)))
  (Jg (psN 6 sc_law_spread.nd (Yu Je))
  (Jg (Ue Gm rfl (U1 rfl qi (Ja (pv 2) Je)) (J8 (i:=7) sc_law_spread.nd rfl (.inl rfl)) (Jg (psN 8 sc_law_spread.nd (Jj (Jo (K:=K) rfl) Jf (Jj JO (Jv qg (hrM hr) rfl (Ja (pv 0) (Ja (Jj (Jo (K:=K) rfl) (Jj (Jo (K:=K) rfl) (pv 1) Jf) (Jj Vm Jf (pv 7))) Je))) (pv 3))))
  (Jg (VL (V3 (K:=K) rfl Gj Ke Kf V1 (pv 6) (Ja (YG (Ja (pv 5) (Ja (pv 8) Je))) Je)))
  (Jm (psN 5 sc_law_spread.nd (Jj (Jo (K:=K) rfl) (Jj (Jo (K:=K) rfl) (Jj (Jo (K:=K) rfl) (pv 5) (pv 8)) Jf) (Jj JO (Jv qg (hrM hr) rfl (Ja (pv 0) (Ja (Jj (Jo (K:=K) rfl) (Jj (Jo (K:=K) rfl) (pv 1) Jf) (Jj Vm Jf (pv 7))) Je))) (pv 3))))))))
  (Jm (JI (pv 6)))))),(Jw (JB (Ji Y8 (Ji Ya (JG (Jd (Jc 0) (Jd (Jc 1) Jk))) (Ji JF (Ji W2 Jh (Jc 4)) Jh)) (Jc 4)))
  (Jw (Jdh (YZ Jk))
  (Jw (Vb (Jc8 (Jd (Jc 2) Jk)) (YB 7) (Jw (JB (Ji JF Jh (Ji Ya (JG (Jd (Jc 0) (Jd (Ji JF (Ji JF (Jc 1) Jh) (Ji W2 Jh (Jc 7))) Jk))) (Jc 3))))
  (Jw (JfZ (UU (Jd (Jc 5) (Jd (Jc 8) Jk))))
  (JB (Ji JF (Ji JF (Ji JF (Jc 5) (Jc 8)) Jh) (Ji Ya (JG (Jd (Jc 0) (Jd (Ji JF (Ji JF (Jc 1) Jh) (Ji W2 Jh (Jc 7))) Jk))) (Jc 3)))))))
  Jcm)))⟩
theorem sc_law_pairs:FnScope ["script","lead","span","side"] ["script"] (Jn UQ):=by walk_at "c"
theorem Jao{f:Qc}{fd:QC}(F:Fun K "_law_pairs" "_law_pairs" UQ f fd)(qJ:Cal P w K mg base "_law_spread" 2 ["script","at","many","span","side"] (spE K C 5 Yr))(qg:Cal P w K mg base "_law_cell" 1 ["script","k"] (spE K C 2 JC)):FnOk P w K mg base CX0 3 f fd ["script"] (spE K C 1 Yf) :=
 okE F sc_law_pairs rfl fun _ _ _ _ _ _ hr hu=>⟨_,(Jg (psN 1 sc_law_pairs.nd (Jv qg (hrM hr) rfl (Ja (pv 0) (Ja Jf Je))))
  (Jg (psN 2 sc_law_pairs.nd (pxK K (Yu (Ja Jf (Ja Jf (Ja Jf (Ja (Jj Vn Jf Jf) Je))))) (Jj JO (Jj Yb (pv 1) Jf) Jf)))
  (Jg (psN 3 sc_law_pairs.nd (pxK K (Yu (Ja Jf (Ja Jf (Ja (Jj Vn Jf Jf) Je)))) (Jj JO (Jj Yb (pv 1) Jf) Jf)))
  (Jm (JI (Jv qJ (hrM hr) rfl (Ja (pv 0) (Ja Jf (Ja (Jj JO (pv 1) Jf) (Ja (pv 2) (Ja (pv 3) Je))))))))))),(Jw (JB (JG (Jd (Jc 0) (Jd Jh Jk))))
  (Jw (JB (Ji YW (YZ (Jd Jh (Jd Jh (Jd Jh (Jd (Ji W3 Jh Jh) Jk))))) (Ji Ya (Ji YL (Jc 1) Jh) Jh)))
  (Jw (JB (Ji YW (YZ (Jd Jh (Jd Jh (Jd (Ji W3 Jh Jh) Jk)))) (Ji Ya (Ji YL (Jc 1) Jh) Jh)))
  (J9 (JG (Jd (Jc 0) (Jd Jh (Jd (Ji Ya (Jc 1) Jh) (Jd (Jc 2) (Jd (Jc 3) Jk))))))))))⟩
theorem sc_law_other:FnScope ["signs","low","cell","strange","at","text"] ["signs","low","cell"] (Jn UP):=by walk_at "c"
theorem Jan{f:Qc}{fd:QC}(F:Fun K "_law_other" "_law_other" UP f fd)(qy:mg "len"=none)(qh:Cal P w K mg base "_law_refused" 5 ["way","thing","low","high"] (spE K C 4 Jq)):FnOk P w K mg base CX0 6 f fd ["signs","low","cell"] (spE K C 3 Ye):=by
 refine Fun.okI F sc_law_other (fun vs H Q E h=>Jda h) (fun cdv A outer s H vs Q E hr h=>?_);have hu:=hr.units;refine⟨_,(U3 (Jfq (i:=3) (ys:=[" ","o","-","0","+",",","#","\n"]) 8 sc_law_other.nd rfl (.inl rfl) rfl Je)
  (U3 (PSi.mk (psN 4 sc_law_other.nd (Jj JO (Jj Yb (pv 2) Jf) (Jj (Jo (K:=K) rfl) (Ju (Yn (K:=K) rfl) rfl qy Um (Ja (pv 0) Je)) Jf))))
  (U3 (PSi.mk (psN 5 sc_law_other.nd (Jj (Jo (K:=K) rfl) (Jj (Jo (K:=K) rfl) (Jbg JfM (pv 0) JcV (JcW (pv 4))) (pxK K (pv 3) (Jj JO (pv 2) Jf))) (Jbg JfM (pv 0) (JcW (pv 4)) JcV))))
  (U3 (PSi.mk (Ym (JM (Ud (K:=K) rfl hu) (Jj JO (Jj Yb (pv 2) Jf) Jf) Jf (JN _)) (Jm (psN 5 sc_law_other.nd (Jj (Jo (K:=K) rfl) (Jj (Jo (K:=K) rfl) (pv 5) (pxK K (pv 3) (Jj JO (Jj Yb (pv 2) Jf) Jf))) Yh))) JL))
  (Jfr (PSi.mk (JI (VI (Ud (K:=K) rfl hu) (Jv qh (hrM hr) rfl (Ja Jf (Ja (pv 5) (Ja (pv 1) (Ja Jf Je))))) (Jj (Jo (K:=K) rfl) (pv 4) Jf) (JN _))))))))),?_⟩
 exact Jad (N:=["signs","low","cell","strange","at","text"]) (Jw (JB (YZ (JfJ Jk)))
  (Jw (JB (Ji Ya (Ji YL (Jc 2) Jh) (Ji JF (Uk U7 (Jd (Jc 0) Jk)) Jh)))
  (Jw (JB (Ji JF (Ji JF (Jij (Jc 0) Jfb (Jfc (Jc 4))) (Ji YW (Jc 3) (Ji Ya (Jc 2) Jh))) (Jij (Jc 0) (Jfc (Jc 4)) Jfb)))
  (Jw (Yx (JA (Ji Wo (Ji Ya (Ji YL (Jc 2) Jh) Jh) Jh)) (JB (Ji JF (Ji JF (Jc 5) (Ji YW (Jc 3) (Ji Ya (Ji YL (Jc 2) Jh) Jh))) JY)) JP)
  (J9 (Ji Wo (JG (Jd Jh (Jd (Jc 5) (Jd (Jc 1) (Jd Jh Jk))))) (Ji JF (Jc 4) Jh))))))) h
theorem sc_law_small:FnScope ["script","lead","place","pairs","k","length"] ["script"] (Jn US):=by walk_at "c"
theorem Jaq{f:Qc}{fd:QC}(F:Fun K "_law_small" "_law_small" US f fd)(qi:mg "range"=none)(qg:Cal P w K mg base "_law_cell" 1 ["script","k"] (spE K C 2 JC)):FnOk P w K mg base CX0 2 f fd ["script"] (spE K C 1 Yg) :=
 okE F sc_law_small rfl fun _ _ _ _ _ _ hr hu=>⟨_,(Jg (psN 1 sc_law_small.nd (Jv qg (hrM hr) rfl (Ja (pv 0) (Ja Jf Je))))
  (Jg (psN 2 sc_law_small.nd (Jj YF (Jj JO (Jv qg (hrM hr) rfl (Ja (pv 0) (Ja Jf Je))) (Jj Vm Jf (Jj Vn Jf Jf))) (Jj Vn Jf Jf)))
  (Jg (Ym (JM (Ud (K:=K) rfl hu) (Jj JO (pv 1) Jf) Jf (JN _)) (Jm (psN 2 sc_law_small.nd (Jj YF (Jj JO (Jv qg (hrM hr) rfl (Ja (pv 0) (Ja Jf Je))) Jf) Jf))) JL)
  (Jg (psN 3 sc_law_small.nd (Yu Je))
  (Jg (Ue Gm rfl (U1 rfl qi (Ja (Jj JO (Jj Yb (pv 1) Jf) Jf) Je)) (J8 (i:=4) sc_law_small.nd rfl (.inl rfl)) (Jg (psN 5 sc_law_small.nd (Jj (Jo (K:=K) rfl) Jf (Jj JO (Jv qg (hrM hr) rfl (Ja (pv 0) (Ja (Jj (Jo (K:=K) rfl) Jf (Jj Vm Jf (pv 4))) Je))) Jf)))
  (Jg (VL (V3 (K:=K) rfl Gj Ke Kf V1 (pv 3) (Ja (YG (Ja (pv 2) (Ja (pv 5) Je))) Je)))
  (Jm (psN 2 sc_law_small.nd (Jj (Jo (K:=K) rfl) (Jj (Jo (K:=K) rfl) (Jj (Jo (K:=K) rfl) (pv 2) (pv 5)) Jf) (Jj JO (Jv qg (hrM hr) rfl (Ja (pv 0) (Ja (Jj (Jo (K:=K) rfl) Jf (Jj Vm Jf (pv 4))) Je))) Jf)))))))
  (Jm (JI (pv 3)))))))),(Jw (JB (JG (Jd (Jc 0) (Jd Jh Jk))))
  (Jw (JB (Ji Y8 (Ji Ya (JG (Jd (Jc 0) (Jd Jh Jk))) (Ji W2 Jh (Ji W3 Jh Jh))) (Ji W3 Jh Jh)))
  (Jw (Yx (JA (Ji Wo (Ji Ya (Jc 1) Jh) Jh)) (JB (Ji Y8 (Ji Ya (JG (Jd (Jc 0) (Jd Jh Jk))) Jh) Jh)) JP)
  (Jw (Jdh (YZ Jk))
  (Jw (Vb (Jc8 (Jd (Ji Ya (Ji YL (Jc 1) Jh) Jh) Jk)) (YB 4) (Jw (JB (Ji JF Jh (Ji Ya (JG (Jd (Jc 0) (Jd (Ji JF Jh (Ji W2 Jh (Jc 4))) Jk))) Jh)))
  (Jw (JfZ (UU (Jd (Jc 2) (Jd (Jc 5) Jk))))
  (JB (Ji JF (Ji JF (Ji JF (Jc 2) (Jc 5)) Jh) (Ji Ya (JG (Jd (Jc 0) (Jd (Ji JF Jh (Ji W2 Jh (Jc 4))) Jk))) Jh))))))
  Jcm)))))⟩
theorem sc_law:FnScope ["script","pairs","row","low","high","cell","begin","within","start","wide","signs","many"] ["script"] (Jn VQ):=by walk_at "c"
theorem Jjj{f:Qc}{fd:QC}(F:Fun K "law" "law" VQ f fd)(qy:mg "len"=none)(qv:mg "tuple"=none)(wT:mg "sum"=none)(wI:mg "list"=none)(qh:Cal P w K mg base "_law_refused" 5 ["way","thing","low","high"] (spE K C 4 Jq))(ql:CalX P w K mg base "pictured" 4 ["text","low"] (spX K C 2 JE J5))(qU:Cal P w K mg base "_law_long" 6 ["low","cell"] (spE K C 2 Yj))(qV:Cal P w K mg base "_law_near" 4 ["pairs","cell"] (spE K C 2 Yk))(qO:Cal P w K mg base "_law_pairs" 3 ["script"] (spE K C 1 Yf))(qP:Cal P w K mg base "_law_other" 6 ["signs","low","cell"] (spE K C 3 Ye))(qt:Cal P w K mg base "_law_read" 5 ["text","low","pairs"] (spE K C 3 JW))(qw:Cal P w K mg base "_law_signs" 1 ["pairs","low","high"] (spE K C 3 JV))(qr:Cal P w K mg base "_law_window" 3 ["row","pairs","low","high"] (spE K C 4 JQ))(CMX_Row:CalMX P w K mg base "Row" C 2 ["self","stretches"] (Jbc (Vw C K) (Jbr K C 1 JX)))(qQ:Cal P w K mg base "_law_small" 2 ["script"] (spE K C 1 Yg))(T:RowC K C):FnOk P w K mg base CX0 7 f fd ["script"] (spE K C 1 JeB) :=
 okE F sc_law rfl fun _ _ _ _ _ _ hr hu=>⟨_,(Jg (psN 1 sc_law.nd (Jv qQ (hrM hr) rfl (Ja (pv 0) Je)))
  (Jg (psN 2 sc_law.nd (W8 CMX_Row (hrM hr) rfl Jbe (Ja (Ui (WG (K:=K) rfl) rfl wI Jcs (Ja (pv 1) Je)) Je)))
  (Jg (psN 3 sc_law.nd Jf)
  (Jg (psN 4 sc_law.nd Jf)
  (Jg (Ym (JM (Uu (K:=K) rfl hu) (pv 1) (Yu Je) (JN _)) (Jg (psN 3 sc_law.nd (pxK K (pxK K (pv 1) Jf) Jf))
  (Jm (psN 4 sc_law.nd (Jj (Jo (K:=K) rfl) (pxK K (pxK K (pv 1) (JcU JaH Jf)) Jf) (pxK K (pxK K (pv 1) (JcU JaH Jf)) Jf))))) JL)
  (Jg (psN 5 sc_law.nd (Ju (ZI (K:=K) rfl rfl) rfl wT Jeo (Ja (pv 0) Je)))
  (Jg (psN 6 sc_law.nd (Jj YF (pv 3) (Jj JO (pv 5) Jf)))
  (Jg (psN 7 sc_law.nd (Jj (Jo (K:=K) rfl) (Jj YF (pv 3) Jf) (Jj JO (Jj Yb (pv 5) Jf) (Jj (Jo (K:=K) rfl) (Jj YF (pv 4) (pv 3)) Jf))))
  (Jg (Ue Gm rfl (piK K (Yu (Ja (YG (Ja (pv 6) (Ja (Jj JO (Jj Yb (pv 5) Jf) Jf) Je))) (Ja (YG (Ja (pv 6) (Ja Jf Je))) (Ja (YG (Ja (pv 7) (Ja Jf Je))) (Ja (YG (Ja (pv 7) (Ja Jf Je))) (Ja (YG (Ja (pv 7) (Ja (JcU JaH Jf) Je))) Je))))))) (Ua (K:=K) (n:=2) rfl rfl (JU (J8 (i:=8) sc_law.nd rfl (.inl rfl)) (JU (J8 (i:=9) sc_law.nd rfl (.inl rfl)) Ub)) rfl rfl) (Jm (Ym (YI (Yc (K:=K) rfl (Jv qr (hrM hr) rfl (Ja (pv 2) (Ja (pv 1) (Ja (pv 8) (Ja (Jj (Jo (K:=K) rfl) (pv 8) (pv 9)) Je))))) (fun _=>rfl))) (Jm (JI Y9)) JL)))
  (Jg (psN 10 sc_law.nd (Jv qw (hrM hr) rfl (Ja (pv 1) (Ja (pv 6) (Ja (pv 4) Je)))))
  (Jg (Ym (PW.pt (VM (YI (Yc (K:=K) rfl (Jv qt (hrM hr) rfl (Ja (pv 10) (Ja (pv 6) (Ja (pv 1) Je)))) (fun _=>rfl))) (UJ (JM (Uu (K:=K) rfl hu) (VJ (K:=K) rfl (pv 2) rfl) (Ui (UG (K:=K) rfl) rfl qv UF (Ja (pv 1) Je)) (JN _))))) (Jm (JI Y9)) JL)
  (Jg (Ym (PW.pt (VM (YI (Yc (K:=K) rfl (Jv qP (hrM hr) rfl (Ja (pv 10) (Ja (pv 6) (Ja (Jj JO (Jj Yb (pv 5) Jf) (Jj Vn Jf Jf)) Je)))) (fun _=>rfl))) (UJ (JM JcO (Jv qh (hrM hr) rfl (Ja Jf (Ja (pv 2) (Ja (pv 7) (Ja (Jj (Jo (K:=K) rfl) (pv 7) Jf) Je))))) Y9 (JN _))))) (Jm (JI Y9)) JL)
  (Jg (Ym (PW.pt (VM (YI (Yc (K:=K) rfl (Jv qV (hrM hr) rfl (Ja (Jv qO (hrM hr) rfl (Ja (pv 0) Je)) (Ja (Jj JO (Jj Yb (pv 5) Jf) (Jj Vn Jf Jf)) Je))) (fun _=>rfl))) (UJ (YI (Yc (K:=K) rfl (Jv qU (hrM hr) rfl (Ja (pv 3) (Ja (Jj JO (Jj Yb (pv 5) Jf) (Jj Vn Jf Jf)) Je))) (fun _=>rfl)))))) (Jm (JI Y9)) JL)
  (Jg (psN 11 sc_law.nd (VH ql (hrM hr) rfl Jbe (Ja (Jj UX Yh Jf) (Ja (pv 6) Je))))
  (Jg (Ym (PW.pt (VM (JM (Uu (K:=K) rfl hu) (Ju (Yn (K:=K) rfl) rfl qy Um (Ja (VJ (K:=K) rfl (pv 11) rfl) Je)) Jf (JN _)) (UJ (JM JcO (Jv qh (hrM hr) rfl (Ja Jf (Ja (Jj UX Yh Jf) (Ja (pv 6) (Ja Jf Je))))) Y9 (JN _))))) (Jm (JI Y9)) JL)
  (Jm (JI (VI (Ud (K:=K) rfl hu) (Jv qh (hrM hr) rfl (Ja Jf (Ja (Jj (Jo (K:=K) rfl) (Jj UX Yh Jf) Yh) (Ja (pv 6) (Ja Jf Je))))) Jf (JN _))))))))))))))))))),(Jw (JB (JG (Jd (Jc 0) Jk)))
  (Jw (JB (Jb8 (fun _ _ _ _ h=>.inl h) (Jd (Uk Jep (Jd (Jc 1) Jk)) Jk)))
  (Jw (JB Jh)
  (Jw (JB Jh)
  (Jw (Yx (JA (Ji Vj (Jc 1) (YZ Jk))) (Jw (JB (Ji YW (Ji YW (Jc 1) Jh) Jh))
  (JB (Ji JF (Ji YW (Ji YW (Jc 1) (JhF Jdf Jh)) Jh) (Ji YW (Ji YW (Jc 1) (JhF Jdf Jh)) Jh)))) JP)
  (Jw (JB (Uk Jh4 (Jd (Jc 0) Jk)))
  (Jw (JB (Ji Y8 (Jc 3) (Ji Ya (Jc 5) Jh)))
  (Jw (JB (Ji JF (Ji Y8 (Jc 3) Jh) (Ji Ya (Ji YL (Jc 5) Jh) (Ji JF (Ji Y8 (Jc 4) (Jc 3)) Jh))))
  (Jw (Vb (Jkc (YZ (Jd (UU (Jd (Jc 6) (Jd (Ji Ya (Ji YL (Jc 5) Jh) Jh) Jk))) (Jd (UU (Jd (Jc 6) (Jd Jh Jk))) (Jd (UU (Jd (Jc 7) (Jd Jh Jk))) (Jd (UU (Jd (Jc 7) (Jd Jh Jk))) (Jd (UU (Jd (Jc 7) (Jd (JhF Jdf Jh) Jk))) Jk))))))) (Va (Yd (YB 8) (Yd (YB 9) U9)) rfl) (Yx (YJ (YM (JG (Jd (Jc 2) (Jd (Jc 1) (Jd (Jc 8) (Jd (Ji JF (Jc 8) (Jc 9)) Jk))))))) (J9 VO) JP))
  (Jw (JB (JG (Jd (Jc 1) (Jd (Jc 6) (Jd (Jc 4) Jk)))))
  (Jw (Yx (VR (YJ (YM (JG (Jd (Jc 10) (Jd (Jc 6) (Jd (Jc 1) Jk)))))) (JA (Ji Vj (Jbm T (Jc 2)) (Uk Jct (Jd (Jc 1) Jk))))) (J9 VO) JP)
  (Jw (Yx (VR (YJ (YM (JG (Jd (Jc 10) (Jd (Jc 6) (Jd (Ji Ya (Ji YL (Jc 5) Jh) (Ji W3 Jh Jh)) Jk)))))) (JA (Ji Ja3 (JG (Jd Jh (Jd (Jc 2) (Jd (Jc 7) (Jd (Ji JF (Jc 7) Jh) Jk))))) VO))) (J9 VO) JP)
  (Jw (Yx (VR (YJ (YM (JG (Jd (JG (Jd (Jc 0) Jk)) (Jd (Ji Ya (Ji YL (Jc 5) Jh) (Ji W3 Jh Jh)) Jk))))) (YJ (YM (JG (Jd (Jc 3) (Jd (Ji Ya (Ji YL (Jc 5) Jh) (Ji W3 Jh Jh)) Jk)))))) (J9 VO) JP)
  (Jw (JB (VP (Jd (Ji V2 JY Jh) (Jd (Jc 6) Jk))))
  (Jw (Yx (VR (JA (Ji Vj (Uk U7 (Jd (Jbm T (Jc 11)) Jk)) Jh)) (JA (Ji Ja3 (JG (Jd Jh (Jd (Ji V2 JY Jh) (Jd (Jc 6) (Jd Jh Jk))))) VO))) (J9 VO) JP)
  (J9 (Ji Wo (JG (Jd Jh (Jd (Ji JF (Ji V2 JY Jh) JY) (Jd (Jc 6) (Jd Jh Jk))))) Jh)))))))))))))))))⟩
end
theorem vl1{α:Type}{us:List α}(h:us.length=1):∃a,us=[a]:=match us,h with|[a],_=>⟨a,rfl⟩
theorem vl2{α:Type}{us:List α}(h:us.length=2):∃a b,us=[a,b]:=match us,h with|[a,b],_=>⟨a,b,rfl⟩
theorem vl3{α:Type}{us:List α}(h:us.length=3):∃a b c,us=[a,b,c]:=match us,h with|[a,b,c],_=>⟨a,b,c,rfl⟩
theorem vl4{α:Type}{us:List α}(h:us.length=4):∃a b c d,us=[a,b,c,d]:=match us,h with|[a,b,c,d],_=>⟨a,b,c,d,rfl⟩
theorem vl5{α:Type}{us:List α}(h:us.length=5):∃a b c d e,us=[a,b,c,d,e]:=match us,h with|[a,b,c,d,e],_=>⟨a,b,c,d,e,rfl⟩
local macro_rules | `(tactic| walk_at "b")=>`(tactic| (intro _ _ _ _ _ _ us hl;first | (obtain⟨_,e⟩:=vl1 hl;subst e;rfl) | (obtain⟨_,_,e⟩:=vl2 hl;subst e;rfl) | (obtain⟨_,_,_,e⟩:=vl3 hl;subst e;rfl) | (obtain⟨_,_,_,_,e⟩:=vl4 hl;subst e;rfl) | (obtain⟨_,_,_,_,_,e⟩:=vl5 hl;subst e;rfl)))
theorem all_mk{l:PySem.W.OpenLaw}{w:QB}{K:Qn}{h:QH}{mg:Str->Option Qa}{fa:Qc}{C:Qc}{f21:Qc}{od21 an21:Option Qc}{sl21:Array (Option Qa)}{oc21 kV21 dc21 pm21 cd21 ct21:Qa}{f1 f2 f3 f4 f5 f6 f7 f8 f9 f10 f11 f12 f13 f14 f15 f16 f17 f18 f19 f20:Qc}{d1 d2 d3 d4 d5 d6 d7 d8 d9 d10 d11 d12 d13 d14 d15 d16 d17 d18 d19 d20:QC}{qf:Qc}{qD:Qc}{qx:Qc}{qq:Qc}{qm:Qc}{qo:Qc}{qa:Qc}{qd:Qc}{qe:Qc}{fI_BadText:Qc}{dI_BadText:QC}{vy:Tok}{vz:Tok}{wW:Tok}{wJ:Tok}(X:K.In h)(G:h.Ns mainGlobals mg)(hfa:mg "law"=some (.ref fa))
 (aC:nsIn K mainGlobals "Row"=some (some (.ref C)))
 (a1:nsIn K mainGlobals "_law_whole"=some (some (.ref f1)))
 (F1:Fun K "_law_whole" "_law_whole" UT f1 d1)
 (a2:nsIn K mainGlobals "_law_alone"=some (some (.ref f2)))
 (F2:Fun K "_law_alone" "_law_alone" UO f2 d2)
 (a3:nsIn K mainGlobals "ball_at"=some (some (.ref f3)))
 (F3:Fun K "ball_at" "ball_at" V5 f3 d3)
 (a4:nsIn K mainGlobals "picture"=some (some (.ref f4)))
 (F4:Fun K "picture" "picture" V6 f4 d4)
 (a5:nsIn K mainGlobals "check_stretches"=some (some (.ref f5)))
 (F5:Fun K "check_stretches" "check_stretches" Yv f5 d5)
 (a6:findIn K (.ref C) "__init__"=some (some (.ref f6)))
 (i6:isFn K (.ref f6)=true)
 (F6:Fun K "__init__" "Row.__init__" Vo f6 d6)
 (a7:nsIn K mainGlobals "gathered"=some (some (.ref f7)))
 (F7:Fun K "gathered" "gathered" Vp f7 d7)
 (a8:nsIn K mainGlobals "pictured"=some (some (.ref f8)))
 (F8:Fun K "pictured" "pictured" Vv f8 d8)
 (a9:nsIn K mainGlobals "_law_refused"=some (some (.ref f9)))
 (F9:Fun K "_law_refused" "_law_refused" Uf f9 d9)
 (a10:nsIn K mainGlobals "_law_told"=some (some (.ref f10)))
 (F10:Fun K "_law_told" "_law_told" Vu f10 d10)
 (a11:nsIn K mainGlobals "_law_read"=some (some (.ref f11)))
 (F11:Fun K "_law_read" "_law_read" Vt f11 d11)
 (a12:nsIn K mainGlobals "_law_long"=some (some (.ref f12)))
 (F12:Fun K "_law_long" "_law_long" Vr f12 d12)
 (a13:nsIn K mainGlobals "_law_signs"=some (some (.ref f13)))
 (F13:Fun K "_law_signs" "_law_signs" UR f13 d13)
 (a14:nsIn K mainGlobals "_law_window"=some (some (.ref f14)))
 (F14:Fun K "_law_window" "_law_window" Uw f14 d14)
 (a15:nsIn K mainGlobals "_law_near"=some (some (.ref f15)))
 (F15:Fun K "_law_near" "_law_near" Vs f15 d15)
 (a16:nsIn K mainGlobals "_law_cell"=some (some (.ref f16)))
 (F16:Fun K "_law_cell" "_law_cell" Vq f16 d16)
 (a17:nsIn K mainGlobals "_law_spread"=some (some (.ref f17)))
 (F17:Fun K "_law_spread" "_law_spread" Uv f17 d17)
 (a18:nsIn K mainGlobals "_law_pairs"=some (some (.ref f18)))
 (F18:Fun K "_law_pairs" "_law_pairs" UQ f18 d18)
 (a19:nsIn K mainGlobals "_law_other"=some (some (.ref f19)))
 (F19:Fun K "_law_other" "_law_other" UP f19 d19)
 (a20:nsIn K mainGlobals "_law_small"=some (some (.ref f20)))
 (F20:Fun K "_law_small" "_law_small" US f20 d20)
 (a21:nsIn K mainGlobals "law"=some (some (.ref f21)))
 (l21:K.lookup f21=some ⟨oc21,od21,.func (fnOf "law" "law" (Y5 VQ) (Ys VQ) (Jn VQ) .none kV21 dc21 pm21 an21 cd21 ct21),sl21⟩)
 (c21:codeIn K cd21 "law"=true)
 (k21:keepIn K (.ref f21)=true)
 (pg:plainGet K C LA=true)
 (hd:hasDictIn K C=true)
 (po:plainOver K C=true)
 (sa:findIn K (.ref C) "__setattr__"=some (some (.builtin "object.__setattr__")))
 (mk:makesIn K C=true)
 (kc:keepIn K (.ref C)=true)
 (nS:findIn K (.ref C) "stretches"=some none)
 (rk1:findIn K (.ref C) "__class__"=some (some (.builtin "object.__class__")))
 (rk2:specialIn K (.builtin "object.__class__") "__get__"=some (some (.builtin "getset_descriptor.__get__")))
 (rk3:takesIn K (.builtin "object.__class__")=some true)
 (rk4:mroIn K C (.type "object")=some true)
 (n_LumpError:nsIn K mainGlobals "LumpError"=some (some (.ref qf)))
 (n_NoRow:nsIn K mainGlobals "NoRow"=some (some (.ref qD)))
 (n_Unlike:nsIn K mainGlobals "Unlike"=some (some (.ref qx)))
 (n_BadDeed:nsIn K mainGlobals "BadDeed"=some (some (.ref qq)))
 (n_BadTable:nsIn K mainGlobals "BadTable"=some (some (.ref qm)))
 (n_BadSeats:nsIn K mainGlobals "BadSeats"=some (some (.ref qo)))
 (n_BadText:nsIn K mainGlobals "BadText"=some (some (.ref qa)))
 (n_TooMany:nsIn K mainGlobals "TooMany"=some (some (.ref qd)))
 (n_BadRow:nsIn K mainGlobals "BadRow"=some (some (.ref qe)))
 (aI_BadText:findIn K (.ref qa) "__init__"=some (some (.ref fI_BadText)))
 (FI_BadText:Fun K "__init__" "BadText.__init__" YY fI_BadText dI_BadText)
 (xi_BadText:Jcz K qa fI_BadText=true)
 (xn_BadText:isFn K (.ref fI_BadText)=true)
 (xv_BadText:JcP K qa=true)
 (xt_BadText:takerIn K qa "at"=some none)
 (xs_BadText:findIn K (.ref qa) "__setattr__"=some (some (.builtin "object.__setattr__")))
 (xa_BadText:findIn K (.ref qa) "at"=some none)
 (lb1:PySem.W.readsIn K qf (.type "type")=true)
 (lb2:PySem.W.findCls K (.ref qf) (.type "type") "__init__"=some (.val (.builtin "ValueError.__init__")))
 (lb3:specialIn K (.ref qf) "__getattribute__"=some (some (.builtin "type.__getattribute__")))
 (xo_BadRow:excIn K qe VEm "ValueError.__new__"=true)
 (xga_BadRow:findIn K (.ref qe) "__getattribute__"=some (some (.builtin "BaseException.__getattribute__")))
 (xgn_BadRow:findIn K (.ref qe) "__getattr__"=some none)
 (xmb_BadRow:mroIn K qe (.type "BaseException")=some true)
 (xh_BadRow:hasDictIn K qe=true)
 (xf_BadRow:findIn K (.ref qe) "__class__"=some (some (.builtin "object.__class__")))
 (xm_BadRow:mroIn K qe (.type "object")=some true)
 (xga_BadText:findIn K (.ref qa) "__getattribute__"=some (some (.builtin "BaseException.__getattribute__")))
 (xgn_BadText:findIn K (.ref qa) "__getattr__"=some none)
 (xmb_BadText:mroIn K qa (.type "BaseException")=some true)
 (xh_BadText:hasDictIn K qa=true)
 (xf_BadText:findIn K (.ref qa) "__class__"=some (some (.builtin "object.__class__")))
 (xm_BadText:mroIn K qa (.type "object")=some true)
 (xo_TooMany:excIn K qd VEm "ValueError.__new__"=true)
 (xga_TooMany:findIn K (.ref qd) "__getattribute__"=some (some (.builtin "BaseException.__getattribute__")))
 (xgn_TooMany:findIn K (.ref qd) "__getattr__"=some none)
 (xmb_TooMany:mroIn K qd (.type "BaseException")=some true)
 (xh_TooMany:hasDictIn K qd=true)
 (xf_TooMany:findIn K (.ref qd) "__class__"=some (some (.builtin "object.__class__")))
 (xm_TooMany:mroIn K qd (.type "object")=some true)
 (xg1:specialIn K (.builtin "object.__class__") "__get__"=some (some (.builtin "getset_descriptor.__get__")))
 (xg2:takesIn K (.builtin "object.__class__")=some true)
 (vj:kitOne K (.ref qe) (.type "ValueError")=some true)
 (vc:kitOne K (.ref qa) (.type "ValueError")=some true)
 (vd:kitOne K (.ref qd) (.type "ValueError")=some true)
 (q0:kitOne K (.ref qe) (.ref qf)=some true)
 (qW:kitOne K (.ref qa) (.ref qf)=some true)
 (qX:kitOne K (.ref qd) (.ref qf)=some true)
 (wX:kitOne K (.type "NoneType") (.ref qf)=some false)
 (wP:kitOne K (.ref qe) (.ref qD)=some false)
 (wK:kitOne K (.ref qa) (.ref qD)=some false)
 (wL:kitOne K (.ref qd) (.ref qD)=some false)
 (vt:kitOne K (.type "NoneType") (.ref qD)=some false)
 (wM:kitOne K (.ref qe) (.ref qx)=some false)
 (wx:kitOne K (.ref qa) (.ref qx)=some false)
 (wy:kitOne K (.ref qd) (.ref qx)=some false)
 (vk:kitOne K (.type "NoneType") (.ref qx)=some false)
 (wz:kitOne K (.ref qe) (.ref qq)=some false)
 (wm:kitOne K (.ref qa) (.ref qq)=some false)
 (wn:kitOne K (.ref qd) (.ref qq)=some false)
 (ve:kitOne K (.type "NoneType") (.ref qq)=some false)
 (wp:kitOne K (.ref qe) (.ref qm)=some false)
 (q9:kitOne K (.ref qa) (.ref qm)=some false)
 (wa:kitOne K (.ref qd) (.ref qm)=some false)
 (w5:kitOne K (.type "NoneType") (.ref qm)=some false)
 (wq:kitOne K (.ref qe) (.ref qo)=some false)
 (wb:kitOne K (.ref qa) (.ref qo)=some false)
 (wc:kitOne K (.ref qd) (.ref qo)=some false)
 (w6:kitOne K (.type "NoneType") (.ref qo)=some false)
 (wA:kitOne K (.ref qe) (.ref qa)=some false)
 (wt:kitOne K (.ref qa) (.ref qa)=some true)
 (wu:kitOne K (.ref qd) (.ref qa)=some false)
 (vf:kitOne K (.type "NoneType") (.ref qa)=some false)
 (wB:kitOne K (.ref qe) (.ref qd)=some false)
 (wv:kitOne K (.ref qa) (.ref qd)=some false)
 (ww:kitOne K (.ref qd) (.ref qd)=some true)
 (vg:kitOne K (.type "NoneType") (.ref qd)=some false)
 (wN:kitOne K (.ref qe) (.ref qe)=some true)
 (wC:kitOne K (.ref qa) (.ref qe)=some false)
 (wD:kitOne K (.ref qd) (.ref qe)=some false)
 (vm:kitOne K (.type "NoneType") (.ref qe)=some false)
 (wd:exmOne K (.ref qe) (.ref qf)=some true)
 (qY:exmOne K (.ref qa) (.ref qf)=some true)
 (qZ:exmOne K (.ref qd) (.ref qf)=some true)
 (wY:nsIn K mainGlobals "isinstance"=some none)
 (vA:nsIn K mainGlobals "bool"=some none)
 (vE:nsIn K mainGlobals "int"=some none)
 (wZ:nsIn K mainGlobals "ValueError"=some none)
 (vF:nsIn K mainGlobals "any"=some none)
 (vw:nsIn K mainGlobals "range"=some none)
 (vG:nsIn K mainGlobals "len"=some none)
 (vx:nsIn K mainGlobals "tuple"=some none)
 (vH:nsIn K mainGlobals "sum"=some none)
 (w9:nsIn K mainGlobals "enumerate"=some none)
 (vI:nsIn K mainGlobals "min"=some none)
 (vJ:nsIn K mainGlobals "max"=some none)
 (vK:nsIn K mainGlobals "str"=some none)
 (vB:nsIn K mainGlobals "list"=some none)
 (vC:nsIn K mainGlobals "BALL"=some (some (.str "*" vy)))
 (vD:nsIn K mainGlobals "FREE"=some (some (.str "." vz)))
 (w4:nsIn K mainGlobals "MOST_BOXES"=some (some (.int 400 wW)))
 (wO:nsIn K mainGlobals "MOST_STRETCHES"=some (some (.int 30 wJ)))
:∃fd:QC,(∀(s:Qd) (v:Qa),BindsTo s fd ⟨[v],[]⟩ [("script",v)])/\∀base:QH,K.In base->base.Ns mainGlobals mg->FnOk l.prog w K mg base CX0 7 fa fd ["script"] (Jdb K):=by
 have e:=hfa.symm.trans (mg_of X G a21);cases e
 have T:RowC K C:=⟨⟨pg,hd,po,sa⟩,nS⟩
 have TR:RowK K C:=⟨T,rk1,rk2,rk3,rk4⟩
 have vh:=mg_of X G aC
 have qk:=mg_of X G n_LumpError
 have wU:=mg_of X G n_NoRow
 have wQ:=mg_of X G n_Unlike
 have wE:=mg_of X G n_BadDeed
 have we:=mg_of X G n_BadTable
 have wg:=mg_of X G n_BadSeats
 have qA:=mg_of X G n_BadText
 have qj:=mg_of X G n_TooMany
 have qG:=mg_of X G n_BadRow
 have qH:AtX K "BadRow" qe:=⟨⟨n_BadRow,xga_BadRow,xgn_BadRow,xmb_BadRow,xh_BadRow,xf_BadRow,xm_BadRow⟩,xo_BadRow⟩
 have qu:AtX K "TooMany" qd:=⟨⟨n_TooMany,xga_TooMany,xgn_TooMany,xmb_TooMany,xh_TooMany,xf_TooMany,xm_TooMany⟩,xo_TooMany⟩
 have qK:AtY K "BadText" qa:=⟨n_BadText,xga_BadText,xgn_BadText,xmb_BadText,xh_BadText,xf_BadText,xm_BadText⟩
 have xF:Jdl K ["BadText"]:=Jem qK xa_BadText (Jf8)
 have xG:ExcG K:=⟨xg1,xg2⟩
 have xO:OwnL K ["BadRow","BadText","TooMany"] [qe,qa,qd]:=W5 qH.toAtY (W5 qK (W5 qu.toAtY (Jg5)))
 have iV:IsiV K ["BadRow","BadText","TooMany"]:=JgI xO xG (W0 vj (W0 vc (W0 vd (JgN))))
 have qR:IsiN K ["BadRow","BadText","TooMany"] "LumpError" qf:=YR xO xG (Jz q0 (by decide +kernel) (Jz qW (by decide +kernel) (Jz qX (by decide +kernel) (YS)))) wX
 have wV:IsiN K ["BadRow","BadText","TooMany"] "NoRow" qD:=YR xO xG (Jz wP (by decide +kernel) (Jz wK (by decide +kernel) (Jz wL (by decide +kernel) (YS)))) vt
 have wR:IsiN K ["BadRow","BadText","TooMany"] "Unlike" qx:=YR xO xG (Jz wM (by decide +kernel) (Jz wx (by decide +kernel) (Jz wy (by decide +kernel) (YS)))) vk
 have wF:IsiN K ["BadRow","BadText","TooMany"] "BadDeed" qq:=YR xO xG (Jz wz (by decide +kernel) (Jz wm (by decide +kernel) (Jz wn (by decide +kernel) (YS)))) ve
 have wf:IsiN K ["BadRow","BadText","TooMany"] "BadTable" qm:=YR xO xG (Jz wp (by decide +kernel) (Jz q9 (by decide +kernel) (Jz wa (by decide +kernel) (YS)))) w5
 have wj:IsiN K ["BadRow","BadText","TooMany"] "BadSeats" qo:=YR xO xG (Jz wq (by decide +kernel) (Jz wb (by decide +kernel) (Jz wc (by decide +kernel) (YS)))) w6
 have qE:IsiN K ["BadRow","BadText","TooMany"] "BadText" qa:=YR xO xG (Jz wA (by decide +kernel) (Jz wt (by decide +kernel) (Jz wu (by decide +kernel) (YS)))) vf
 have qF:IsiN K ["BadRow","BadText","TooMany"] "TooMany" qd:=YR xO xG (Jz wB (by decide +kernel) (Jz wv (by decide +kernel) (Jz ww (by decide +kernel) (YS)))) vg
 have wS:IsiN K ["BadRow","BadText","TooMany"] "BadRow" qe:=YR xO xG (Jz wN (by decide +kernel) (Jz wC (by decide +kernel) (Jz wD (by decide +kernel) (YS)))) vm
 have qS:ExmL K qf [qe,qa,qd]:=WO wd (WO qY (WO qZ (Jgn)))
 have qb:=mg_none_of X G wY
 have va:=mg_none_of X G vA
 have vn:=mg_none_of X G vE
 have qL:=mg_none_of X G wZ
 have vo:=mg_none_of X G vF
 have qi:=mg_none_of X G vw
 have qy:=mg_none_of X G vG
 have qv:=mg_none_of X G vx
 have wT:=mg_none_of X G vH
 have qI:=mg_none_of X G w9
 have vp:=mg_none_of X G vI
 have vi:=mg_none_of X G vJ
 have vq:=mg_none_of X G vK
 have wI:=mg_none_of X G vB
 have wk:GV mg "BALL" (.str "*"):=⟨_,mg_of X G vC,⟨_,rfl⟩⟩
 have wG:GV mg "FREE" (.str "."):=⟨_,mg_of X G vD,⟨_,rfl⟩⟩
 have qM:GV mg "MOST_BOXES" (.int 400):=⟨_,mg_of X G w4,⟨_,rfl⟩⟩
 have qB:GV mg "MOST_STRETCHES" (.int 30):=⟨_,mg_of X G wO,⟨_,rfl⟩⟩
 have F21:=JeM (st:=VQ) l21 c21 k21;refine⟨fnOf "law" "law" (Y5 VQ) (Ys VQ) (Jn VQ) .none kV21 dc21 pm21 an21 cd21 ct21,fun s v=>.of_eq rfl,fun base _ _=>?_⟩
 have Z:PB l.prog w base:=⟨⟩
 have T_BadText:IniC K qa fI_BadText qf:=⟨xi_BadText,xn_BadText,xv_BadText,xm_BadText,xt_BadText,xs_BadText,lb1,lb2,lb3⟩
 have R_BadText:RaiF l.prog w K mg base "BadText" qa 1:=⟨fI_BadText,qf,dI_BadText,["self","at"],T_BadText,JaV FI_BadText T_BadText qk,FI_BadText.binds (by walk_at "b"),qA⟩
 have qp:=Yq Z F1 (Jar (C:=C) F1 qb va vn) (mg_of X G a1) (by walk_at "b")
 have qN:=Yq Z F2 (Jam (C:=C) F2 qb qL xG xO iV qk qR wU wV wQ wR wE wF we wf wg wj qA qE qj qF qG wS) (mg_of X G a2) (by walk_at "b")
 have wH:=Yq Z F3 (Jb0 (C:=C) F3 vo T) (mg_of X G a3) (by walk_at "b")
 have qC:=Z2 Z F4 (Jb1 (C:=C) F4 qi wk wG qM wH qj qu) (mg_of X G a4) (by walk_at "b")
 have qz:=Z2 Z F5 (Vl (C:=C) F5 qG qH) (mg_of X G a5) (by walk_at "b")
 have CMX_Row:CalMX l.prog w K mg base "Row" C 2 ["self","stretches"] (Jbc (Vw C K) (Jbr K C 1 JX)):=⟨f6,_,⟨mk,a6,i6,kc⟩,Ja4 (C:=C) F6 qy qv qB qz T qj qu,vh,F6.binds (by walk_at "b")⟩
 have wl:=Yq Z F7 (Ja5 (C:=C) F7 wT) (mg_of X G a7) (by walk_at "b")
 have ql:=Z2 Z F8 (Jbb (C:=C) F8 qI wk wG CMX_Row wl qK R_BadText) (mg_of X G a8) (by walk_at "b")
 have qh:=Yq Z F9 (W4 (C:=C) F9 qb qp qN qC ql qj xG xO qF xF qA qE qk qS) (mg_of X G a9) (by walk_at "b")
 have qT:=Yq Z F10 (Jba (C:=C) F10 qi qy qb qv qp) (mg_of X G a10) (by walk_at "b")
 have qt:=Yq Z F11 (Ja9 (C:=C) F11 qb qT vh TR ql T) (mg_of X G a11) (by walk_at "b")
 have qU:=Yq Z F12 (Ja7 (C:=C) F12 qt) (mg_of X G a12) (by walk_at "b")
 have qw:=Yq Z F13 (Jap (C:=C) F13 qi vp vi) (mg_of X G a13) (by walk_at "b")
 have qr:=Yq Z F14 (Zx (C:=C) F14 qb vq qw qC) (mg_of X G a14) (by walk_at "b")
 have qV:=Yq Z F15 (Ja8 (C:=C) F15 qv qi qy wI qr CMX_Row T) (mg_of X G a15) (by walk_at "b")
 have qg:=Yq Z F16 (Ja6 (C:=C) F16 qy) (mg_of X G a16) (by walk_at "b")
 have qJ:=Yq Z F17 (Zw (C:=C) F17 qi qg) (mg_of X G a17) (by walk_at "b")
 have qO:=Yq Z F18 (Jao (C:=C) F18 qJ qg) (mg_of X G a18) (by walk_at "b")
 have qP:=Yq Z F19 (Jan (C:=C) F19 qy qh) (mg_of X G a19) (by walk_at "b")
 have qQ:=Yq Z F20 (Jaq (C:=C) F20 qi qg) (mg_of X G a20) (by walk_at "b");exact JgO (Jjj (C:=C) F21 qy qv wT wI qh ql qU qV qO qP qt qw qr CMX_Row qQ T) law_true
theorem walk{l:PySem.W.OpenLaw}{q:Qm}{loose:List Str}{XP:(Str->Option Qa)->QH->Prop}{YP:QB->QH->Prop}{d:DefRec}{K:Params->Qn}(hn:l.most=some 63)(hdf:d.params.defaults=[])
 (hY:∀(w:QB) (h:QH),YP w h->(K w.params).In h)
 (F:∀(w:QB) (mg:Str->Option Qa) (fa:Qc) (h:QH),(K w.params).In h->h.Ns mainGlobals mg->mg d.name=some (.ref fa) ->
  ∃fd:QC,(∀(s:Qd) (u:Qa),BindsTo s fd ⟨[u],[]⟩ [("script",u)])/\∀base:QH,(K w.params).In base->base.Ns mainGlobals mg->FnOk l.prog w (K w.params) mg base CX0 7 fa fd ["script"] (Jdb (K w.params))) :
 PySem.W.WalkO q loose XP YP l.row.toRowW d [] (fun f vs=>PySem.call f vs) :=
 L2.JhY (n:=63) (k:=7) (x:="script") (CX:=fun _=>CX0) (sp:=fun w=>Jdb (K w.params)) hn (by decide) hdf ⟨rfl,by decide,by decide⟩ hY F (fun _ _ a ns hl _ hS=>⟨a,ns,rfl,hS,hl,fun _=>rfl⟩) fun _ _ _ _ _ z=>z
end LK
end
namespace PySem.W.Fast
theorem tw5542434808286650374:True:=⟨⟩
theorem tw2137811571940201997:True:=⟨⟩
theorem tw8958418817924879294:True:=⟨⟩
theorem tw10528576508545973762:True:=⟨⟩
theorem tw16108420313420157128:True:=⟨⟩
theorem tw1629451234352915101:True:=⟨⟩
theorem tw6727543355552233986:True:=⟨⟩
theorem tw784990359609862846:True:=⟨⟩
theorem tw1664492950932548065:True:=⟨⟩
theorem tw2093807295458219640:True:=⟨⟩
theorem tw6278366149308368431:True:=⟨⟩
theorem tw6141781806932156032:True:=⟨⟩
theorem tw4368335686001358181:True:=⟨⟩
theorem tw4175181180726920120:True:=⟨⟩
theorem tw7974286527057358536:True:=⟨⟩
theorem tw17334978578453867514:True:=⟨⟩
theorem tw8480519793186667403:True:=⟨⟩
theorem tw12778051296684785917:True:=⟨⟩
theorem tw4215640979099334008:True:=⟨⟩
theorem tw12101714122689397140:True:=⟨⟩
theorem tw10677609610973885438:True:=⟨⟩
theorem tw6436572242121910282:True:=⟨⟩
theorem tw2195900723722105353:True:=⟨⟩
theorem tw13219785684813422398:True:=⟨⟩
theorem tw12729700240281439784:True:=⟨⟩
theorem tw6220384351813105176:True:=⟨⟩
theorem tw14707375225143924934:True:=⟨⟩
theorem tw7927043320048922829:True:=⟨⟩
theorem tw10713631347928791672:True:=⟨⟩
theorem tw3774627042422534481:True:=⟨⟩
theorem tw5084645271287330975:True:=⟨⟩
theorem tw15228376890819049689:True:=⟨⟩
theorem tw9086791137369010282:True:=⟨⟩
theorem tw4293288329395626665:True:=⟨⟩
theorem tw2424621417694163084:True:=⟨⟩
theorem tw1309656892836232699:True:=⟨⟩
theorem tw5788077610955320439:True:=⟨⟩
theorem tw9726936754136445663:True:=⟨⟩
theorem tw11531778764652955265:True:=⟨⟩
theorem tw949484031032547340:True:=⟨⟩
theorem tw14445492804018076188:True:=⟨⟩
theorem tw3521199356983598366:True:=⟨⟩
theorem tw13409429455008531629:True:=⟨⟩
theorem tw12347374689155198823:True:=⟨⟩
theorem tw16763356415714054801:True:=⟨⟩
theorem tw5273943806767007185:True:=⟨⟩
theorem tw12024685657234448596:True:=⟨⟩
theorem tw9106438248388141061:True:=⟨⟩
theorem tw6577207817153174668:True:=⟨⟩
theorem tw9346311538152460762:True:=⟨⟩
theorem tw16026428478986882545:True:=⟨⟩
theorem tw11623893675573310988:True:=⟨⟩
theorem tw16154166142285010263:True:=⟨⟩
theorem tw734283836967078410:True:=⟨⟩
theorem tw12235750390142399681:True:=⟨⟩
theorem tw10906958919401312145:True:=⟨⟩
theorem tw14357804720318991398:True:=⟨⟩
theorem tw15856132512003894864:True:=⟨⟩
theorem tw1137324745149284220:True:=⟨⟩
theorem tw11304710394436376039:True:=⟨⟩
theorem tw9064807698341462932:True:=⟨⟩
theorem tw3281155041452715229:True:=⟨⟩
theorem tw11038126510044508940:True:=⟨⟩
theorem tw16288457981094835174:True:=⟨⟩
theorem tw2235629921604194994:True:=⟨⟩
theorem tw8237862554893886566:True:=⟨⟩
theorem tw2262417291648022381:True:=⟨⟩
theorem tw9374192635318675857:True:=⟨⟩
theorem tw15531411420194610070:True:=⟨⟩
theorem tw4688944190571468457:True:=⟨⟩
theorem tw17930315329094020745:True:=⟨⟩
theorem tw13771900734097093268:True:=⟨⟩
theorem tw6525539946801348183:True:=⟨⟩
theorem tw5188417077384051459:True:=⟨⟩
theorem tw4279426433676351365:True:=⟨⟩
theorem tw12887963996738428568:True:=⟨⟩
theorem tw10111433206096648802:True:=⟨⟩
theorem tw6489224835824027654:True:=⟨⟩
theorem tw13534293408642693274:True:=⟨⟩
theorem tw9337159502850837656:True:=⟨⟩
theorem tw16776833762885788061:True:=⟨⟩
theorem tw16758701672909239496:True:=⟨⟩
theorem tw8322605945605296185:True:=⟨⟩
theorem tw5312546639381161516:True:=⟨⟩
theorem tw711469267244242437:True:=⟨⟩
theorem tw16898704956223577488:True:=⟨⟩
theorem tw17838684525131444517:True:=⟨⟩
theorem tw4589167424057599201:True:=⟨⟩
theorem tw12102949429016734552:True:=⟨⟩
theorem tw8367345581513656600:True:=⟨⟩
theorem tw3161752941180103438:True:=⟨⟩
theorem tw7069652602131902180:True:=⟨⟩
theorem tw9732330192761963518:True:=⟨⟩
theorem tw3093687093533360083:True:=⟨⟩
theorem tw17955984285957632089:True:=⟨⟩
theorem tw14794460245140824626:True:=⟨⟩
theorem tw1076861883108872781:True:=⟨⟩
theorem tw7647442099125873417:True:=⟨⟩
theorem tw8259959161357633637:True:=⟨⟩
theorem tw14683705485045472057:True:=⟨⟩
theorem tw17253296930160828333:True:=⟨⟩
theorem tw6896109345071058448:True:=⟨⟩
theorem tw3564787695632043628:True:=⟨⟩
theorem tw10504803312256484070:True:=⟨⟩
theorem tw7335701843658834911:True:=⟨⟩
theorem tw4495297756231782218:True:=⟨⟩
theorem tw16017373617111720041:True:=⟨⟩
theorem tw1819481917351957987:True:=⟨⟩
theorem tw11752994048859626917:True:=⟨⟩
theorem tw7350592305839054756:True:=⟨⟩
theorem tw7633492342417314068:True:=⟨⟩
theorem tw13364825593109075311:True:=⟨⟩
theorem tw5355051135592147890:True:=⟨⟩
theorem tw18020528066109137704:True:=⟨⟩
theorem tw5941410654703839841:True:=⟨⟩
theorem tw13504907745683573881:True:=⟨⟩
theorem tw9427689304024487036:True:=⟨⟩
theorem tw9251685387290906271:True:=⟨⟩
theorem tw1311414546810926646:True:=⟨⟩
theorem tw1857475976716697735:True:=⟨⟩
theorem tw9126176440996004722:True:=⟨⟩
theorem tw13287088038417347160:True:=⟨⟩
theorem tw12415097217707626708:True:=⟨⟩
theorem tw18178113585325116432:True:=⟨⟩
end PySem.W.Fast
open PySem PySem.W PyProof.Rows
set_option maxRecDepth 100000 in
set_option maxHeartbeats 0 in
theorem PySem.Challenge.cw_lumprow_k11_pictures_holds : PySem.Challenge.rw_lumprow_k11_pictures.Holds := by
 w_on; o_law; k_head; (case hw => w_witness2)
 k_fill
 refine LK.walk (l := PySem.Challenge.rw_lumprow_k11_pictures) rfl rfl (fun w h Y => PySem.W.kIn_of Y) ?F
 case F =>
  intro w mg fa h KX G hmg; apply LK.all_mk KX G hmg; all_goals first | exact L2.JeM (by k_is) (by k_is) (by k_is) | k_is | k_exc | kit_is | kts_exm | kernel_rfl
