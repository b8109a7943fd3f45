import PyProof.Rows.All
import Wide.All
import OpenK.AllK
import Wide.FinOn
import Lean
import PyProof.EqAt
import PyProof.EqKinds
import PyProof.TupleCall
import KE.KSortTup
import KE.KItemsList
import KE.KUnpack
import PyProof.EnumMake
import PyProof.EnumFor
import PyProof.EnumStmt
import KE.IntBitsLaws
import KE.KDictSum
import PyProof.SetRoads
import PyProof.Rows.SetFrom
import PyProof.FactsAll.set_1
import PyProof.FactsAll.set_2
import KE.KMinBuiltin
import PyProof.WalkInts
import PyProof.Rows.CallKwBuiltin
import PyProof.DictItemsLoops
import KE.KDictLaws
import KE.KPairComp
import PyProof.Rows.DictUnroll
import PyProof.ZipIter
import KE.KRevIter
import PyProof.ListStr
import PyProof.AttrMissHeap
import KE.KDictOf
import PySem.Challenge.RW_shredjoin_k42_whole_all_numbers
open List renaming getElem?_eq_getElem->Qa,getD_eq_getElem?_getD->Qb,length_map->Qc,getElem?_map->Qd,map_cons->Qh,mem_cons_self->Qi,mem_map->Qj,mem_cons_of_mem->Ql,length_append->Qm,getElem?_eq_some_iff->Qn,getElem?_eq_none->Qo,mem_singleton->Qp,size_toArray->Qr,map_congr_left->Qu,sum_cons->Qw,range->Qx,mem_cons->QA,length_take->QB,map_map->QC,mem_filter->QD,mem_append->QE,getElem_mem->QF,map_append->QH,take_of_length_le->QJ,length_singleton->QK,length_cons->QL,getElem?_range->QM,getElem?_append_left->QP,getElem?_append_right->QQ,pairwise_map->QR,ext_getElem?->QT,length_eq_zero_iff->QU,length_drop->QV,length_erase_of_mem->QW,mem_append_left->Q0,perm_cons_erase->Q3,mem_append_right->Q4,take_succ_eq_append_getElem->Q5,nodup_cons->Q7,replicate->Q8,length_filter_le->Wa,filter_cons_of_pos->Wc,filter_cons_of_neg->Wd,map_nil->We,mem_range->Wg,length_range->Wh,lt_irrefl->Wm,pairwise_cons->Wp,flatMap_cons->Wq,mem_of_mem_take->Wr,filter_append->Wt,map_singleton->Wu,filter_cons->Wv,drop_eq_getElem_cons->Ww,mem_of_mem_erase->Wy,findIdx?_eq_some_iff_getElem->Wz,eraseIdx_eq_take_drop_succ->WB,filter_eq_nil_iff->WC,length_reverse->WD,append_nil->WE,cons_lt_cons_iff->WF,idxOf_lt_length_iff->WG,mem_of_getElem?->WI,mem_erase_of_ne->WJ,nodup_append->WL,replicate_succ->WM,not_lt->WP,getElem?_drop->WQ,pairwise_iff_getElem->WR,mem_of_mem_drop->WT,count_eq_zero_of_not_mem->WV,length_pos_iff->WW,getElem_inj->WX,nodup_nil->WZ,length->Ua,length_pos_of_mem->Uc,length_nil->Uh,nodup_iff_pairwise_ne->Ui,flatten_cons->Uj,getElem?_eq_none_iff->Ul,range'->Um,getElem?_take_of_lt->Uo,lookup_cons->Uq,all_eq_true->Ur,ext_getElem->Us,getElem_map->Ut,getElem_of_mem->Uu,eraseIdxIfInBounds_toArray->Uv,getElem?_replicate->Uw,map_take->Ux,find?_cons->Uy,range_succ->Uz,filter_map->UB,getElem_idxOf->UC,idxOf_append->UG,take_append_drop->UI,dropLast_eq_take->UJ,length_dropLast->UL,cons_append->UM,erase_cons_head->UN,flatMap_nil->UP,any_cons->UQ,perm_ext_iff_of_nodup->US,filterMap_cons->UW,findIdx?_eq_none_iff->UX,count_pos_iff->UZ,drop_zero->U1,drop_drop->U2,filter_congr->U3,range_succ_eq_map->U4,map_id->U5,pairwise_lt_range->U6,lt_trans->U7,map_drop->U8,le_antisymm->Ra,map_snd_zip->Rc,getElem?_toArray->Re,eq_nil_or_concat->Rf,nil_append->Rh,sum_nil->Ri,length_eraseIdx->Rj,mem_iff_getElem->Rl,getElem?_append->Rm,idxOf_eq_length->Rn,idxOf_le_length->Ro,count_le_length->Rr,exists_mem_of_length_pos->Rs,drop_append_of_le_length->Rt,filter_sublist->Ru,filter_eq_self->Rv,flatMap_append->Rx,mem_filterMap->RA,exists_mem_of_ne_nil->RD,not_mem_nil->RH,any_eq_true->RI,take_length->RK,cons_ne_nil->RL,drop_length->RM,idxOf?_eq_some_iff->RO,of_mem_zip->RQ,sum_append->RS,getElem?_set_self->RU,count_erase_of_ne->RX,length_replicate->RY,getElem?_reverse->R0,concat_eq_append->R1,take_zero->R3,take_take->R4,count_erase_self->R6,getElem?_set_ne->R8,dropLast_concat->Vb,pairwise_append->Vc,length_erase_le->Vd,lt_asymm->Ve,lt_of_le_of_lt->Vg,perm_singleton->Vi,take_succ_cons->Vj,toArray->Vp,getElem?_take->Vr,contains_cons->Vw,take_sublist->Vx,append_assoc->Vz,take_add_one->VA,getElem?_inj->VC,mem_flatMap->VI,length_set->VJ,foldl->VL,count_cons->VO,filter_nil->VQ,drop_take->VT,all_cons->VU,take_nil->VW,drop_nil->VX
open Nat renaming le_refl->Qk,ne_of_lt->Qz,zero_le->QO,lt_of_lt_of_le->QS,le_trans->QY,lt_irrefl->Wi,le_succ->WH,mul_dvd_mul_left->WK,sub_self->WN,le_succ_of_le->WU,lt_of_le_of_lt->Ud,min_eq_left->UA,lt_trichotomy->UE,lt_succ_of_lt->UF,lt_trans->UH,lt_succ_self->U9,ne_of_gt->Rg,mul_le_mul_right->Rq,le_of_lt->RE,succ_mul->RF,add_mul->RW,not_lt->R9,pow_le_pow_right->Va,dvd_trans->Vf,add_comm->Vm,mul_comm->Vn,zero_mul->Vq,zero_add->Vs,mul_left_comm->VE,le_of_not_lt->VH,not_lt_zero->VN,mul_assoc->VY
open Int renaming mul_assoc->Q6,one_mul->Q9,toNat_natCast->Wn,mul_left_comm->Wo,zero_mul->Wx,mul_comm->WA,mul_zero->WS,neg_mul->Ub,add_zero->Ue,zero_add->Uf,sub_zero->UK,eq_of_mul_eq_mul_right->UT,mul_one->UU,le_refl->UV,natCast_mul->Rp,mul_add->Ry,add_mul->Rz,mul_fdiv_cancel_left->RJ,eq_ofNat_of_zero_le->RN,natCast_dvd_natCast->RP,mul_dvd_mul->RT,mul_nonneg->R5,toNat_of_nonneg->Vh,pow_succ->Vo,toNat->Vt,dvd_zero->Vu,natAbs_natCast->Vv,natAbs_add_le->VD,mul_neg->VF,pow_ne_zero->VM,natCast_add->VP,natAbs_mul->VS
open Array renaming length_toList->QG,getElem?_eq_getElem->QX,getD_eq_getD_getElem?->QZ,getElem?_toList->Wb,getElem?_eq_none->UD,all_toList->UO,perm_iff_toList_perm->UR,toList_inj->Rb,toArray_toList->Rk,getElem?_eq_some_iff->RC,append_assoc->Vk,toList_push->VB,toList->VZ
open Option renaming map_some->Wj,isSome_iff_exists->UY,none_or->U0,getD_some->RG,map_eq_some_iff->RV,some_or->RZ,isSome_some->Vl,isSome_map->Vy,getD_none->VG
open PySem.Heap renaming get?_push_of_some->Qg,lt_size->Qs,get?_push_size->Qy,get?_update_other->QN,get?_update_self->Wf,size_push->WY,get?_none_of_le->R7
open Bool renaming false_ne_true->QI,and_eq_true->Wl,false_eq_true->Ws,eq_iff_iff->Ug,eq_false_iff->Uk,or_false->RB,false_and->VR
set_option maxHeartbeats 0
set_option Elab.async false
set_option linter.all false
set_option maxRecDepth 100000
namespace L2
open PySem PySem.Spec PyProof.Rows
variable {A:Around} {E Q:Value->Shared->Prop} {H H':Hp} {X:Cx} {a:Addr} {c e tg:Expr} {fp:List Addr} {g:TG} {h:Heap} {i j k n t':Nat} {kvs:List (Key×V)} {o:Obj} {pins:List (Addr×Obj)} {pos:Pos} {ps:List Str} {s:Shared} {tb:TS} {te:TE} {u:Value} {us:List Value} {v:V} {x:Str} {xs:List V} {σ:St}
abbrev Key:=Sum Int Str
def ZaS:Key->Value->Bool
 | .inl k,v=>Value.isInt k v
 | .inr x,v=>Value.isStrOf x v
def Zri (w:World):Key->Int
 | .inl k=>hashInt k
 | .inr x=>hashStr w x
theorem keyIs_shape:∀ {k:Key} {v:Value},ZaS k v=true->(∃ i t,k=Sum.inl i/\v=Value.int i t)\/(∃ x t,k=Sum.inr x/\v=Value.str x t)
 | .inl i,v,h=>by
  obtain⟨t,e⟩:=Value.isInt_shape (k:=i) (v:=v) h;exact .inl ⟨i,t,rfl,e⟩
 | .inr x,v,h=>by
  obtain⟨t,e⟩:=Value.isStrOf_shape (x:=x) (v:=v) h;exact .inr ⟨x,t,rfl,e⟩
theorem ZjC (i:Int) (t:Tok):ZaS (.inl i) (.int i t)=true:=by simp[ZaS,Value.isInt]
theorem ZjB (x:Str) (t:Tok):ZaS (.inr x) (.str x t)=true:=by simp[ZaS,Value.isStrOf]
theorem Zpp (a b:Int):decide ((Sum.inl a:Key)=Sum.inl b)=(a==b):=by
 by_cases e:a=b
 ·subst e;simp
 ·have h:¬ (Sum.inl a:Key)=Sum.inl b:=fun q=>e (Sum.inl.inj q);rw[decide_eq_false h];exact(beq_eq_false_iff_ne.mpr e).symm
theorem Zpm (a b:Str):decide ((Sum.inr a:Key)=Sum.inr b)=decide (a=b):=by
 by_cases e:a=b
 ·subst e;simp
 ·have h:¬ (Sum.inr a:Key)=Sum.inr b:=fun q=>e (Sum.inr.inj q);rw[decide_eq_false h,decide_eq_false e]
theorem Zpo (a:Int) (b:Str):decide ((Sum.inl a:Key)=Sum.inr b)=false:=decide_eq_false (fun q=>nomatch q)
theorem Zpn (a:Str) (b:Int):decide ((Sum.inr a:Key)=Sum.inl b)=false:=decide_eq_false (fun q=>nomatch q)
def Zt (prog:Program) (w:World):PySem.KeyKind prog w Key where
 is:=ZaS
 hash:=Zri w
 inj:=fun v a b ha hb=>by
  rcases keyIs_shape ha with ⟨i,t,rfl,rfl⟩ | ⟨x,t,rfl,rfl⟩
  ·rcases keyIs_shape hb with ⟨j,u,rfl,e⟩ | ⟨y,u,rfl,e⟩
   ·injection e with e1 _;rw[e1]
   ·exact nomatch e
  ·rcases keyIs_shape hb with ⟨j,u,rfl,e⟩ | ⟨y,u,rfl,e⟩
   ·exact nomatch e
   ·injection e with e1 _;rw[e1]
 byValue:=fun k v h=>by
  rcases keyIs_shape h with ⟨i,t,rfl,rfl⟩ | ⟨x,t,rfl,rfl⟩ <;> rfl
 pyHash:=fun hv h=>by
  rcases keyIs_shape hv with ⟨i,t,rfl,rfl⟩ | ⟨x,t,rfl,rfl⟩
  ·exact wpAny_pyHash_int h
  ·exact wpAny_pyHash_str h
 eqBool:=fun hu hv h=>by
  rcases keyIs_shape hu with ⟨i,t,rfl,rfl⟩ | ⟨x,t,rfl,rfl⟩
  ·rcases keyIs_shape hv with ⟨j,u,rfl,rfl⟩ | ⟨y,u,rfl,rfl⟩
   ·rw[Zpp]at h;exact wpAny_eqBool_int h
   ·rw[Zpo]at h;exact SeqAt.EqAt.int_str i t y u _ _ _ _ h
  ·rcases keyIs_shape hv with ⟨j,u,rfl,rfl⟩ | ⟨y,u,rfl,rfl⟩
   ·rw[Zpn]at h;exact SeqAt.EqAt.str_int x t j u _ _ _ _ h
   ·rw[Zpm]at h;exact wpAny_eqBool_str h
 «strs»:=fun k x t v h=>by
  rcases keyIs_shape h with ⟨i,u,rfl,e⟩ | ⟨y,u,rfl,e⟩
  ·exact nomatch e
  ·injection e with e1 _
   subst e1;cases v <;> rfl
theorem ZeV (prog:Program) (w:World) (i:Int) (t:Tok):(Zt prog w).is (.inl i) (.int i t)=true:=ZjC i t
theorem XV (prog:Program) (w:World) (x:Str) (t:Tok):(Zt prog w).is (.inr x) (.str x t)=true:=ZjB x t
inductive V where
 | non | bl (b:Bool) | int (i:Int) | str (x:Str) | byt (b:Array UInt8) | flt (b:UInt64) | ref (a:Addr) | ty (n:String)
 deriving DecidableEq
def RelV:V->Value->Prop
 | .non,u=>u=Value.none
 | .bl b,u=>u=Value.bool b
 | .int i,u=>∃ t,u=Value.int i t
 | .str x,u=>∃ t,u=Value.str x t
 | .byt b,u=>∃ t,u=Value.bytes b t
 | .flt b,u=>∃ t,u=Value.float b t
 | .ref a,u=>u=Value.ref a
 | .ty n,u=>u=Value.type n
abbrev Vals:List V->List Value->Prop:=Paired RelV
theorem Vals.length (r:Vals xs us):xs.length=us.length:=Paired.length r
theorem Vals.get:∀ {xs:List V} {us:List Value} {i:Nat} {x:V},Vals xs us->xs[i]?=some x->∃ u,us[i]?=some u/\RelV x u
 | _,_,_,_,.nil,e=>by simp at e
 | _,_,0,_,.cons r _,e=>by simp at e;subst e;exact⟨_,rfl,r⟩
 | _,_,i+1,x,.cons _ t,e=>by
  obtain⟨u,h1,h2⟩:=Vals.get (i:=i) (x:=x) t (by simpa using e);exact⟨u,by simpa using h1,h2⟩
theorem Vals.set {x:V} {u:Value} (r:RelV x u):∀ {xs:List V} {us:List Value} (i:Nat),Vals xs us->Vals (xs.set i x) (us.set i u)
 | _,_,_,.nil=>.nil
 | _,_,0,.cons _ t=>.cons r t
 | _,_,i+1,.cons q t=>.cons q (Vals.set r i t)
theorem Vals.append:∀ {xs ys:List V} {us ws:List Value},Vals xs us->Vals ys ws->Vals (xs++ys) (us++ws)
 | _,_,_,_,.nil,s=>s
 | _,_,_,_,.cons r t,s=>.cons r (Vals.append t s)
theorem Vals.take:∀ {xs:List V} {us:List Value} (n:Nat),Vals xs us->Vals (xs.take n) (us.take n)
 | _,_,0,_=>.nil
 | _,_,_+1,.nil=>.nil
 | _,_,n+1,.cons r t=>.cons r (Vals.take n t)
theorem Vals.drop:∀ {xs:List V} {us:List Value} (n:Nat),Vals xs us->Vals (xs.drop n) (us.drop n)
 | _,_,0,r=>r
 | _,_,_+1,.nil=>.nil
 | _,_,n+1,.cons _ t=>Vals.drop n t
def RelO:Option V->Option Value->Prop
 | some v,some u=>RelV v u
 | none,none=>True
 | _,_=>False
def KV {κ:Type}:List (κ×V)->List (κ×Value)->Prop:=Paired fun(p:κ×V) (q:κ×Value)=>p.1=q.1/\RelV p.2 q.2
def kV:Key->V
 | .inl i=>.int i
 | .inr x=>.str x
inductive HO where
  | lst (xs:List V)
  | tup (xs:List V)
  | dK (kvs:List (Key×V)) | dT (kvs:List (List Key×V))
  | set (S:Int->Bool) (n:Nat)
  | ins (C dx:Addr) (fs:List (Str×V))
  | own (x:Addr)
  | xd (fs:List (Str×V))
  | met (f x:Addr)
  | rng (lo hi:Int)
  | frz (o:Obj) (u:HO)
  | tbl (ps:Array Value)
  | ext (φ:Heap->Prop)
abbrev Hp:=Addr->Option HO
def upd (H:Hp) (a:Addr) (o:HO):Hp:=fun b=>if b=a then some o else H b
theorem Zd {o:HO}:upd H a o a=some o:=by unfold upd;rw[if_pos rfl]
theorem Zi {b:Addr} {o:HO} (h:b≠a):upd H a o b=H b:=by unfold upd;rw[if_neg h]
theorem ZbG {o u:HO}:upd (upd H a o) a u=upd H a u:=by
 funext b;unfold upd;split <;> rfl
theorem Zqp {b:Addr} {o u:HO} (h:H a=some o) (h':H b=some u) (d:o≠u):a≠b:=by
 intro e;subst e;rw[h]at h';exact d (Option.some.inj h')
theorem Zm {b:Addr} {o:HO} (h:H a=some o) (h':H b=none):a≠b:=by
 intro e;subst e;rw[h]at h';cases h'
section
variable (P:Program) (w:World)
def NoD (h:Heap) (a:Addr):Prop:=∀ o,h.get? a=some o->o.dict=none
theorem Zf5 (hd:o.dict=none) (hf:o.isFreed=false):NoD (h.push o) h.objs.size:=fun o2 e=>by
 rw[Qy h hf]at e;cases e;exact hd
def ObjOk (H:Hp) (h:Heap) (a:Addr):HO->Prop
 | .lst xs=>xs.length<=sizeLine/\∃ (its:List Value) (n:Nat),Vals xs its/\h.get? a=some {cls:=.type "list",data:=.seq its.toArray n}
 | .tup xs=>xs.length<=sizeLine/\∃ its:List Value,Vals xs its/\IsTup h a its.toArray/\NoD h a
 | .dK kvs=>kvs.length<=sizeLine/\(a==sysModules)=false/\∃ vs,KV kvs vs/\h.DictOf (Zt P w) a vs
 | .dT kvs=>kvs.length<=sizeLine/\(a==sysModules)=false/\∃ xs:List (List Key×Addr×Value),
   Paired (fun(p:List Key×V) (q:List Key×Addr×Value)=>p.1=q.1/\H q.2.1=some (.tup (p.1.map kV))/\RelV p.2 q.2.2) kvs xs /\
   ∃ o es ep,h.get? a=some o/\o.ExactDict/\o.data= .dict es ep/\es.toList=xs.map (entryOfKey (tupleKind (Zt P w)))/\(xs.map (·.1)).Nodup
 | .set S n=>h.SetOf (intKind P w) a S n
 | .ins C dx fs=>H dx=some (.own a)/\fs.length<=1000/\dx≠a/\h.get? a=some (PySem.W.instObj C dx) /\
   ∃ mA,h.Ns1 dx mA/\(∀ f,RelO (fs.lookup f) (mA f))/\PySem.Within mA (fs.map (·.1))
 | .own _=>∃ o,h.get? a=some o
 | .xd fs=>∃ mA,h.Ns1 a mA/\∀ f,RelO (fs.lookup f) (mA f)
 | .rng lo hi=>∃ t u v,h.get? a=some {cls:=.type "range",data:=.fields #[.int lo t,.int hi u,.int 1 v]}
 | .frz o u=>h.get? a=some o/\ObjOk H h a u
 | .tbl ps=>h.get? a=some {cls:=.none,data:=.fields ps}
 | .met f x=>h.get? a=some (PySem.W.methodObj (.ref f) (.ref x))
 | .ext φ=>φ h/\(∃ o,h.get? a=some o)/\∀ h1 h2:Heap,φ h1->(∀ o,h1.get? a=some o->h2.get? a=some o)->φ h2
def HOk (H:Hp) (h:Heap):Prop:=∀ a o,H a=some o->ObjOk P w H h a o
end
section
variable {P:Program} {w:World} {H H':Hp} {h h':Heap} {a:Addr} {o:HO}
theorem ObjOk.lt (x:ObjOk P w H h a o):a<h.objs.size:=by
 cases o with
 | lst xs=>obtain⟨_,_,_,_,e⟩:=x;exact Qs e
 | tup xs=>obtain⟨_,_,_,p,_⟩:=x;exact p.lt
 | dK kvs=>obtain⟨_,_,_,_,o,_,_,e,_⟩:=x;exact Qs e
 | dT kvs=>obtain⟨_,_,_,_,o,_,_,e,_⟩:=x;exact Qs e
 | set S n=>obtain⟨o,_,_,_,e,_⟩:=x;exact Qs e
 | ins C dx fs=>obtain⟨_,_,_,e,_⟩:=x;exact Qs e
 | own y=>obtain⟨_,e⟩:=x;exact Qs e
 | xd fs=>obtain⟨_,⟨_,_,_,e,_⟩,_⟩:=x;exact Qs e
 | rng lo hi=>obtain⟨_,_,_,e⟩:=x;exact Qs e
 | frz ob u=>obtain⟨e,_⟩:=x;exact Qs e
 | tbl ps=>exact Qs (show h.get? a=some _ from x)
 | met f y=>exact Qs (show h.get? a=some _ from x)
 | ext φ=>obtain⟨_,⟨_,e⟩,_⟩:=x;exact Qs e
theorem Paired.mapP {α β:Type} {F G:α->β->Prop}:∀ {l₁:List α} {l₂:List β},Paired F l₁ l₂->(∀ a b,F a b->G a b)->Paired G l₁ l₂
 | _,_,.nil,_=>.nil
 | _,_,.cons r t,f=>.cons (f _ _ r) (Paired.mapP t f)
theorem ObjOk.stay (x:ObjOk P w H h a o) (k:∀ b u,(b=a\/H b=some (.own a))->h.get? b=some u->h'.get? b=some u)
  (ho:∀ b,H b=some (.own a)->H' b=some (.own a)) (ht:∀ b xs,H b=some (.tup xs)->H' b=some (.tup xs)):ObjOk P w H' h' a o:=by
 induction o with
 | lst xs=>obtain⟨z,its,n,r,e⟩:=x;exact⟨z,its,n,r,k _ _ (.inl rfl) e⟩
 | tup xs =>
  obtain⟨z,its,r,⟨ob,e,c⟩,nd⟩:=x;exact⟨z,its,r,⟨ob,k _ _ (.inl rfl) e,c⟩,fun o2 e2=>by
   rw[k _ _ (.inl rfl) e]at e2;cases e2;exact nd _ e⟩
 | dK kvs=>obtain⟨z,y,vs,r,ob,es,ep,e,c⟩:=x;exact⟨z,y,vs,r,ob,es,ep,k _ _ (.inl rfl) e,c⟩
 | dT kvs =>
  obtain⟨z,y,xs,r,ob,es,ep,e,c⟩:=x;exact⟨z,y,xs,Paired.mapP r fun p q z=>⟨z.1,ht _ _ z.2.1,z.2.2⟩,ob,es,ep,k _ _ (.inl rfl) e,c⟩
 | set S n=>obtain⟨ob,es,ep,t,e,c⟩:=x;exact⟨ob,es,ep,t,k _ _ (.inl rfl) e,c⟩
 | ins C dx fs =>
  obtain⟨d,z,ne,e,mA,⟨od,es,ep,e2,c⟩,r⟩:=x;exact⟨ho _ d,z,ne,k _ _ (.inl rfl) e,mA,⟨od,es,ep,k _ _ (.inr d) e2,c⟩,r⟩
 | own y=>obtain⟨ob,e⟩:=x;exact⟨ob,k _ _ (.inl rfl) e⟩
 | xd fs=>obtain⟨mA,⟨od,es,ep,e,c⟩,r⟩:=x;exact⟨mA,⟨od,es,ep,k _ _ (.inl rfl) e,c⟩,r⟩
 | rng lo hi=>obtain⟨t,u,v,e⟩:=x;exact⟨t,u,v,k _ _ (.inl rfl) e⟩
 | frz ob u ih=>obtain⟨e,q⟩:=x;exact⟨k _ _ (.inl rfl) e,ih q⟩
 | tbl ps =>
  have e:h.get? a=some {cls:=.none,data:=.fields ps}:=x;show h'.get? a=some {cls:=.none,data:=.fields ps};exact k a _ (.inl rfl) e
 | met f y =>
  have e:h.get? a=some (PySem.W.methodObj (.ref f) (.ref y)):=x;show h'.get? a=some (PySem.W.methodObj (.ref f) (.ref y));exact k a _ (.inl rfl) e
 | ext φ=>obtain⟨p,⟨o,e⟩,st⟩:=x;exact⟨st _ _ p fun o q=>k _ _ (.inl rfl) q,⟨o,k _ _ (.inl rfl) e⟩,st⟩
theorem HOk.lt (x:HOk P w H h) (e:H a=some o):a<h.objs.size:=(x a o e).lt
theorem HOk.fresh (x:HOk P w H h) (e:h.objs.size<=a):H a=none:=by
 cases q:H a with
 | none=>rfl
 | some u=>exact absurd (QS (x.lt q) e) (Wi _)
theorem HOk.kept (x:HOk P w H h) (k:∀ b u,h.get? b=some u->h'.get? b=some u):HOk P w H h':=fun a o e =>
 (x a o e).stay (fun b u _ q=>k b u q) (fun _ q=>q) fun _ _ q=>q
theorem HOk.laid (x:HOk P w H h) (k:∀ b u,h.get? b=some u->h'.get? b=some u) (hp:h.objs.size<=a) (new:ObjOk P w (upd H a o) h' a o):HOk P w (upd H a o) h':=fun b u e=>by
 have hn:=x.fresh hp;by_cases hb:b=a
 ·subst hb;rw[Zd]at e;cases e;exact new
 ·rw[Zi hb]at e;exact(x b u e).stay (fun c v _ q=>k c v q) (fun c q=>by rw[Zi (Zm q hn)];exact q) fun c xs q=>by rw[Zi (Zm q hn)];exact q
end
def Rd (H:Hp) (a:Addr) (u:HO):Prop:=H a=some u\/∃ o,H a=some (.frz o u)
theorem Rd.of {u:HO} (h:H a=some u):Rd H a u:=.inl h
theorem Rd.ok {P:Program} {w:World} {u:HO} (r:Rd H a u) (x:HOk P w H h):ObjOk P w H h a u:=by
 rcases r with r | ⟨o,r⟩
 ·exact x a u r
 ·obtain⟨_,q⟩:=x a _ r;exact q
def Mut:Option HO->Prop
 | some (.lst _)=>True
 | some (.dK _)=>True
 | some (.dT _)=>True
 | some (.set _ _)=>True
 | some (.ins _ _ _)=>True
 | some (.ext _)=>True
 | _=>False
section
variable {P:Program} {w:World} {H:Hp} {h h':Heap} {x e:Addr} {o':HO}
theorem HOk.write (ok:HOk P w H h) (mu:Mut (H x)) (he:e=x\/H e=some (.own x)) (k:∀ b u,b≠e->h.get? b=some u->h'.get? b=some u) (heo:∃ u,h'.get? e=some u)
  (new:ObjOk P w (upd H x o') h' x o'):HOk P w (upd H x o') h':=fun b u q=>by
 have nown:∀ c y,H c=some (.own y)->c≠x:=fun c y r z=>by subst z;rw[r]at mu;exact mu
 have ntup:∀ c xs,H c=some (.tup xs)->c≠x:=fun c xs r z=>by subst z;rw[r]at mu;exact mu
 by_cases hb:b=x
 ·subst hb;rw[Zd]at q;cases q;exact new
 ·rw[Zi hb]at q;by_cases hbe:b=e
  ·have q':H b=some (.own x):=by
    rcases he with z | z
    ·exact absurd (hbe.trans z) hb
    ·rw[hbe];exact z
   rw[q]at q';cases q';obtain⟨v,hv⟩:=heo;exact⟨v,by rw[hbe];exact hv⟩
  ·refine(ok b u q).stay (fun c v hc r=>k c v ?_ r) (fun c r=>by rw[Zi (nown c b r)];exact r) fun c xs r=>by rw[Zi (ntup c xs r)];exact r
   rcases hc with rfl | hc
   ·exact hbe
   ·rintro rfl;rcases he with z | z
    ·exact nown c b hc z
    ·rw[hc]at z;cases z;exact hb rfl
end
structure Un (fs ex:List Addr) (H H':Hp) (h h':Heap):Prop where
 keep:∀ b o,h.get? b=some o->H b=none->b∉fs->b∉ex->h'.get? b=some o
 slot:∀ b o,h.get? b=some o->H b=none->b∈fs->b∉ex->∃ sl,h'.get? b=some {o with slots:=sl}
 free:∀ b o,h.get? b=some o->H b=none->b∉ex->H' b=none
 there:∀ b o,h.get? b=some o->b∉ex->∃ o',h'.get? b=some o'
 tups:∀ b xs,H b=some (.tup xs)->H' b=some (.tup xs)
 frzs:∀ b o u,H b=some (.frz o u)->H' b=some (.frz o u)
 tbls:∀ b ps,H b=some (.tbl ps)->∃ more,H' b=some (.tbl (ps++more))
section
variable {fs fs' ex ex':List Addr} {H H1 H2:Hp} {h h1 h2 h':Heap} {a x e:Addr} {o:HO}
theorem Un.any (u:Un fs ex H H1 h h1) {b:Addr} {ob:Obj} (q:h.get? b=some ob) (n:H b=none) (hx:b∉ex):∃ sl,h1.get? b=some {ob with slots:=sl}:=by
 by_cases hb:b∈fs
 ·exact u.slot b ob q n hb hx
 ·exact⟨ob.slots,u.keep b ob q n hb hx⟩
theorem Un.trans (a:Un fs ex H H1 h h1) (b:Un fs ex H1 H2 h1 h2):Un fs ex H H2 h h2 where
 keep:=fun c ob q n hc hx=>b.keep c ob (a.keep c ob q n hc hx) (a.free c ob q n hx) hc hx
 slot:=fun c ob q n hc hx=>by
  obtain⟨sl,e1⟩:=a.slot c ob q n hc hx;obtain⟨sl',e2⟩:=b.slot c _ e1 (a.free c ob q n hx) hc hx;exact⟨sl',e2⟩
 free:=fun c ob q n hx=>by
  obtain⟨o',e1⟩:=a.there c ob q hx;exact b.free c o' e1 (a.free c ob q n hx) hx
 there:=fun c ob q hx=>by
  obtain⟨o',e1⟩:=a.there c ob q hx;exact b.there c o' e1 hx
 tups:=fun c xs q=>b.tups c xs (a.tups c xs q)
 frzs:=fun c ob xs q=>b.frzs c ob xs (a.frzs c ob xs q)
 tbls:=fun c ps q=>by
  obtain⟨m1,e1⟩:=a.tbls c ps q;obtain⟨m2,e2⟩:=b.tbls c _ e1;exact⟨m1++m2,by rw[e2,Vk]⟩
theorem Un.kept (k:∀ b u,h.get? b=some u->h'.get? b=some u):Un fs ex H H h h' :=
 ⟨fun b ob q _ _ _=>k b ob q,fun b ob q _ _ _=>⟨ob.slots,k b ob q⟩,fun _ _ _ n _=>n,fun b ob q _=>⟨ob,k b ob q⟩,fun _ _ q=>q,fun _ _ _ q=>q,fun _ ps q=>⟨#[],by rw[q];simp⟩⟩
theorem Un.refl:Un fs ex H H h h:=Un.kept fun _ _ q=>q
theorem Un.laid (k:∀ b u,h.get? b=some u->h'.get? b=some u) (hp:h.objs.size<=a) (hn:H a=none):Un fs ex H (upd H a o) h h' where
 keep:=fun b u q _ _ _=>k b u q
 slot:=fun b u q _ _ _=>⟨u.slots,k b u q⟩
 free:=fun b u q n _=>by rw[Zi (Qz (QS (Qs q) hp))];exact n
 there:=fun b u q _=>⟨u,k b u q⟩
 tups:=fun b xs q=>by rw[Zi (Zm q hn)];exact q
 frzs:=fun b u xs q=>by rw[Zi (Zm q hn)];exact q
 tbls:=fun b ps q=>⟨#[],by rw[Zi (Zm q hn),q];simp⟩
theorem Un.write (mu:Mut (H x)) (he:e=x\/H e=some (.own x)) (k:∀ b u,b≠e->h.get? b=some u->h'.get? b=some u) (heo:∃ u,h'.get? e=some u):Un fs ex H (upd H x o) h h':=by
 have hx:∀ b,H b=none->b≠x:=fun b n z=>by subst z;rw[n]at mu;exact mu
 have hb:∀ b,H b=none->b≠e:=fun b n z=>by
  subst z;rcases he with r | r
  ·exact hx b n r
  ·rw[n]at r;cases r
 have hm:∀ b u,H b=some u->¬ Mut (some u)->b≠x:=fun b u q nm z=>by subst z;rw[q]at mu;exact nm mu
 refine⟨fun b u q n _ _=>k b u (hb b n) q,fun b u q n _ _=>⟨u.slots,k b u (hb b n) q⟩,fun b u q n _=>by rw[Zi (hx b n)];exact n,fun b u q _=>?_,
  fun b xs q=>by rw[Zi (hm b _ q fun z=>z)];exact q,fun b u xs q=>by rw[Zi (hm b _ q fun z=>z)];exact q,fun b ps q=>⟨#[],by rw[Zi (hm b _ q fun z=>z),q];simp⟩⟩
 by_cases hbe:b=e
 ·subst hbe;exact heo
 ·exact⟨u,k b u hbe q⟩
theorem Un.mono (u:Un fs ex H H1 h h1) (hs:∀ b∈fs,b∈fs') (hx:∀ b∈ex,b∈ex'):Un fs' ex' H H1 h h1 :=
 ⟨fun b ob q n hb he=>u.keep b ob q n (fun z=>hb (hs b z)) fun z=>he (hx b z),fun _ _ q n _ he=>u.any q n fun z=>he (hx _ z),fun b ob q n he=>u.free b ob q n fun z=>he (hx b z),fun b ob q he=>u.there b ob q fun z=>he (hx b z),u.tups,u.frzs,u.tbls⟩
end
def trk (h:Heap) (H:Hp):List Addr:=(Qx h.objs.size).filter fun a=>(H a).isSome
def Zlu (h:Heap) (H:Hp):Heap:=PySem.W.hideAll h (trk h H)
theorem ZjM (h:Heap) (H:Hp):(Zlu h H).objs.size=h.objs.size:=PySem.W.hideAll_size _ _
theorem Zlt {b:Addr} (e:h.get? b=some o) (n:H b=none):(Zlu h H).get? b=some o :=
 PySem.W.hideAll_get _ e fun hm=>by
  have q:(H b).isSome=true:=(QD.mp hm).2;rw[n]at q;simp at q
theorem ZnB {b:Addr} (e:(Zlu h H).get? b=some o):h.get? b=some o/\H b=none:=by
 have e':h.get? b=some o:=PySem.W.of_hideAll (trk h H) e;refine⟨e',?_⟩;cases q:H b with
 | none=>rfl
 | some x =>
  have hm:b∈trk h H:=QD.mpr ⟨Wg.mpr (Qs e'),by simp[q]⟩;have z:(Zlu h H).get? b=none:=PySem.W.hideAll_none (trk h H) hm;rw[z]at e;cases e
def Zon (g h:Heap) (L:Addr):List (Addr×Obj):=(Qx h.objs.size).filterMap fun a=>if a=L\/(g.get? a).isSome=true then none else (h.get? a).map fun o=>(a,o)
def rest (g h:Heap) (L d:Addr):List (Addr×Obj):=(Zon g h L).filter fun p=>decide (p.1≠d)
structure Mod (K:PySem.W.Frag) (mg:Str->Option Value) (base:Heap):Prop where
 kin:K.In base
 glob:base.Ns mainGlobals mg
 blt:∃ mb,base.Ns builtinsNs mb/\∀ x:Str,x≠"__name__"->mb x=bootBuiltins x
 nolimit:base.NoLimit
structure Cx where
 prog:Program
 w:World
 K:PySem.W.Frag
 mg:Str->Option Value
 base:Heap
 A:Around
 N:List Str
 s₀:Shared
 H₀:Hp
 env:Env
 outer:List Env
 stack:List Env
 ex:List Addr
 fn:Str->Bool
 calm:Bool
 pn:List (Addr×Obj)
 xe:Value->Shared->Prop
def frs (l:List Env):List Addr:=l.filterMap (·.frame)
abbrev Cx.fs (X:Cx):List Addr:=frs X.outer
def Vis (sc:Scope) (x:Str):Prop:=sc.names.lookup x=some .local\/sc.names.lookup x=some .cell\/sc.names.lookup x=some .free
def Loc (sc:Scope) (x:Str):Prop:=sc.names.lookup x=some .local\/sc.names.lookup x=some .cell
def Zrr (env:Env) (h:Heap) (m:Str->Option Value) (x:Str) (u:Value):Prop :=
 (env.kindOf x=some .local/\m x=some u)\/((env.kindOf x=some .cell\/env.kindOf x=some .free)/\∃ c,env.cells.lookup x=some c/\h.IsCell c (some u))
structure Cx.Ok (X:Cx):Prop where
 mod:Mod X.K X.mg X.base
 kind:X.env.scope.kind= .function
 glob:X.env.globals=mainGlobals
 blt:X.env.builtins=builtinsNs
 above:X.s₀.heap.objs.size<=X.env.locals
 inj:∀ x y c,X.env.cells.lookup x=some c->X.env.cells.lookup y=some c->x=y
 has:∀ x,(X.env.kindOf x=some .cell\/X.env.kindOf x=some .free)->∃ c,X.env.cells.lookup x=some c
 cab:∀ x c,X.fn x=true->X.env.cells.lookup x=some c->X.s₀.heap.objs.size<=c
 hd:X.calm=true->X.A.handled=none
 frames:X.A.frames=some X.stack
 stk:X.stack=X.outer\/(X.stack=X.env::X.outer/\X.env.frame=some X.env.locals)
 exf:∀ b∈X.ex,b≠X.env.locals/\∀ x c,X.env.cells.lookup x=some c->c≠b
 bs:∀ b o,X.base.get? b=some o->X.s₀.heap.get? b=some o/\X.H₀ b=none
 bsz:X.base.objs.size<=X.s₀.heap.objs.size
 noex:∀ b o,X.base.get? b=some o->b∉X.ex
 exfs:∀ b∈X.ex,b∉X.fs
 funs:X.s₀.heap.FunFrames X.base X.outer
 frf:∀ b∈X.fs,X.H₀ b=none
structure Inv (X:Cx) (pins:List (Addr×Obj)) (σ:List (Option V)) (H:Hp) (s:Shared):Prop where
 ok:X.Ok
 os:s.os=X.s₀.os
 bare:AllBare s.gens
 base:Un X.fs X.ex X.H₀ H X.s₀.heap s.heap
 loc:∃ m,s.heap.Ns X.env.locals m/\∀ (i:Nat) (x:Str) (v:V),X.N[i]?=some x->σ[i]?=some (some v)->Vis X.env.scope x->∃ u,RelV v u/\Zrr X.env s.heap m x u
 cell:∀ x c,X.env.cells.lookup x=some c->∃ v,s.heap.IsCell c v
 free:H X.env.locals=none
 freeC:∀ x c,X.env.cells.lookup x=some c->H c=none
 pin:∀ p∈X.pn++pins,s.heap.get? p.1=some p.2/\H p.1=none/\p.1≠X.env.locals/\p.1∉X.fs/\∀ v,p.2.data≠.cell v
 hok:HOk X.prog X.w H s.heap
 len:σ.length=X.N.length
section
variable {X:Cx} {pins:List (Addr×Obj)} {σ:List (Option V)} {H H':Hp} {s:Shared} {h':Heap}
theorem Cx.Ok.nofr (ok:X.Ok) {b:Addr} (e:X.base.get? b=some o):b∉X.fs:=fun hb=>by
 have:=(ok.funs.mem hb).1;rw[e]at this;cases this
theorem Inv.bs (I:Inv X pins σ H s):∀ b o,X.base.get? b=some o->s.heap.get? b=some o/\H b=none:=fun b o e =>
 ⟨I.base.keep b o (I.ok.bs b o e).1 (I.ok.bs b o e).2 (I.ok.nofr e) (I.ok.noex b o e),I.base.free b o (I.ok.bs b o e).1 (I.ok.bs b o e).2 (I.ok.noex b o e)⟩
theorem Inv.bk (I:Inv X pins σ H s):∀ b o,X.base.get? b=some o->s.heap.get? b=some o:=fun b o e=>(I.bs b o e).1
theorem Inv.mod (I:Inv X pins σ H s):Mod X.K X.mg X.base:=I.ok.mod
theorem Inv.kIn (I:Inv X pins σ H s):X.K.In s.heap:=I.ok.mod.kin.keeps I.bk
theorem Inv.nolimit (I:Inv X pins σ H s):s.heap.NoLimit:=I.ok.mod.nolimit.keeps I.bk
theorem Inv.lt (I:Inv X pins σ H s):X.env.locals<s.heap.objs.size:=let ⟨_,hn,_⟩:=I.loc;hn.lt
theorem Inv.sz (I:Inv X pins σ H s):X.s₀.heap.objs.size<=s.heap.objs.size:=QY I.ok.above (RE I.lt)
theorem Inv.nofs (I:Inv X pins σ H s) (h:s.heap.objs.size<=a):a∉X.fs:=fun hb=>by
 obtain⟨_,o,ho,_⟩:=I.ok.funs.mem hb;exact absurd (QS (Qs ho) (QY I.sz h)) (Wi _)
theorem Inv.cne (I:Inv X pins σ H s):∀ x c,X.env.cells.lookup x=some c->c≠X.env.locals:=fun x c e z=>by
 obtain⟨v,o,ho,hd⟩:=I.cell x c e;obtain⟨m,⟨o',es,ep,ho',hd',_⟩,_⟩:=I.loc;rw[z,ho']at ho;cases ho;rw[hd']at hd;cases hd
theorem Inv.funs (I:Inv X pins σ H s):s.heap.FunFrames X.base X.outer:=by
 have all:∀ (l:List Env),(∀ b∈frs l,b∈X.fs)->X.s₀.heap.FunFrames X.base l->s.heap.FunFrames X.base l:=by
  intro l;induction l with
  | nil=>intro _ _;trivial
  | cons env r ih =>
   intro hs hl;obtain⟨hk,⟨L,o,hf,hn,ho,hd⟩,hr⟩:=hl;have hL:L∈X.fs:=hs L (by unfold frs;rw[UW,hf];exact Qi);obtain⟨sl,e⟩:=I.base.slot L o ho (I.ok.frf L hL) hL fun z=>I.ok.exfs L z hL;exact⟨hk,⟨L,_,hf,hn,e,hd⟩,ih (fun b hb=>hs b (by unfold frs;rw[UW,hf];exact Ql _ hb)) hr⟩
 exact all X.outer (fun _ hb=>hb) I.ok.funs
theorem Inv.stack (I:Inv X pins σ H s):s.heap.FunFrames X.base X.stack:=by
 rcases I.ok.stk with e | ⟨e,hf⟩
 ·rw[e];exact I.funs
 ·rw[e];obtain⟨m,hn,_⟩:=I.loc;refine .cons (by rw[I.ok.kind];decide) hf hn ?_ I.funs;exact R7 (QY I.ok.bsz I.ok.above)
theorem Inv.stkSub (I:Inv X pins σ H s):∀ b∈frs X.stack,b∈X.env.locals::X.fs:=fun b hb=>by
 rcases I.ok.stk with e | ⟨e,hf⟩
 ·rw[e]at hb;exact Ql _ hb
 ·rw[e]at hb;unfold frs at hb;rw[UW,hf]at hb;exact hb
theorem Inv.stkFree (I:Inv X pins σ H s):∀ b∈frs X.stack,H b=none:=fun b hb=>by
 rcases QA.mp (I.stkSub b hb)with e | hb
 ·rw[e];exact I.free
 ·obtain⟨_,o,ho,_⟩:=I.ok.funs.mem hb;exact I.base.free b o ho (I.ok.frf b hb) fun z=>I.ok.exfs b z hb
theorem Inv.step {g':Array GenState} {d':Drawn} {ch:List Addr} (I:Inv X pins σ H s)
  (hch:∀ b∈ch,(b∈X.ex\/X.s₀.heap.objs.size<=b)/\b≠X.env.locals/\(∀ x c,X.env.cells.lookup x=some c->c≠b)/\∀ p∈X.pn++pins,p.1≠b)
  (keep:∀ b o,b≠X.env.locals->b∉X.fs->b∉ch->s.heap.get? b=some o->H b=none->h'.get? b=some o)
  (slot:∀ b o,b≠X.env.locals->b∈X.fs->b∉ch->s.heap.get? b=some o->H b=none->∃ sl,h'.get? b=some {o with slots:=sl}) (free:∀ b o,b∉ch->s.heap.get? b=some o->H b=none->H' b=none)
  (there:∀ b o,b∉ch->s.heap.get? b=some o->∃ o',h'.get? b=some o')
  (tups:∀ b xs,H b=some (.tup xs)->H' b=some (.tup xs)) (frzs:∀ b o u,H b=some (.frz o u)->H' b=some (.frz o u)) (tbls:∀ b ps,H b=some (.tbl ps)->∃ more,H' b=some (.tbl (ps++more)))
  (ns:∀ m,s.heap.Ns X.env.locals m->h'.Ns X.env.locals m) (hok:HOk X.prog X.w H' h') (hg:AllBare g') :
  Inv X pins σ H' {s with heap:=h',gens:=g',drawn:=d',toks:=t'}:=by
 have neL:∀ b o,X.s₀.heap.get? b=some o->b≠X.env.locals:=fun b o e=>Qz (QS (Qs e) I.ok.above);have neC:∀ b o,X.s₀.heap.get? b=some o->b∉X.ex->b∉ch:=fun b o e hx hb=>by
  rcases(hch b hb).1 with z | z
  ·exact hx z
  ·exact absurd (QS (Qs e) z) (Wi _)
 have cellK:∀ x c,X.env.cells.lookup x=some c->∀ v,s.heap.IsCell c v->h'.IsCell c v:=fun x c e v ⟨o,ho,hd⟩=>by
  have nch:c∉ch:=fun z=>(hch c z).2.2.1 x c e rfl;by_cases hc:c∈X.fs
  ·obtain⟨sl,q⟩:=slot c o (I.cne x c e) hc nch ho (I.freeC x c e);exact⟨_,q,hd⟩
  ·exact⟨o,keep c o (I.cne x c e) hc nch ho (I.freeC x c e),hd⟩
 refine⟨I.ok,I.os,hg,⟨fun b o e n hb hx=>?_,fun b o e n hb hx=>?_,fun b o e n hx=>?_,fun b o e hx=>?_,fun b xs e=>tups b xs (I.base.tups b xs e),fun b o xs e=>frzs b o xs (I.base.frzs b o xs e),fun b ps e=>?_⟩,?_,fun x c e=>?_,?_,fun x c e=>?_,fun p hp=>?_,hok,I.len⟩
 ·exact keep b o (neL b o e) hb (neC b o e hx) (I.base.keep b o e n hb hx) (I.base.free b o e n hx)
 ·obtain⟨sl,e1⟩:=I.base.slot b o e n hb hx;obtain⟨sl',e2⟩:=slot b _ (neL b o e) hb (neC b o e hx) e1 (I.base.free b o e n hx);exact⟨sl',e2⟩
 ·obtain⟨o',e1⟩:=I.base.there b o e hx;exact free b o' (neC b o e hx) e1 (I.base.free b o e n hx)
 ·obtain⟨o',e1⟩:=I.base.there b o e hx;exact there b o' (neC b o e hx) e1
 ·obtain⟨m1,e1⟩:=I.base.tbls b ps e;obtain⟨m2,e2⟩:=tbls b _ e1;exact⟨m1++m2,by rw[e2,Vk]⟩
 ·obtain⟨m,hn,hl⟩:=I.loc;refine⟨m,ns m hn,fun i x v e1 e2 e3=>?_⟩;obtain⟨u,r,l⟩:=hl i x v e1 e2 e3;refine⟨u,r,?_⟩;rcases l with l | ⟨k,c,e,z⟩
  ·exact .inl l
  ·exact .inr ⟨k,c,e,cellK x c e _ z⟩
 ·obtain⟨v,z⟩:=I.cell x c e;exact⟨v,cellK x c e v z⟩
 ·obtain⟨m,⟨o,_,_,ho,_⟩,_⟩:=I.loc;exact free _ o (fun z=>(hch _ z).2.1 rfl) ho I.free
 ·obtain⟨v,o,ho,hd⟩:=I.cell x c e;exact free c o (fun z=>(hch c z).2.2.1 x c e rfl) ho (I.freeC x c e)
 ·obtain⟨e,n,ne,nf,d⟩:=I.pin p hp;have nch:p.1∉ch:=fun z=>(hch p.1 z).2.2.2 p hp rfl;exact⟨keep p.1 p.2 ne nf nch e n,free p.1 p.2 nch e n,ne,nf,d⟩
theorem Inv.un (I:Inv X pins σ H s) (u:Un X.fs [] H H' s.heap h') (hok:HOk X.prog X.w H' h'):Inv X pins σ H' {s with heap:=h',toks:=t'}:=by
 obtain⟨m,⟨o,es,ep,ho,r⟩,_⟩:=id I.loc;obtain⟨sl,hL⟩:=u.any ho I.free (by simp);exact I.step (g':=s.gens) (d':=s.drawn) (ch:=[]) (fun _ z=>nomatch z) (fun b o _ hb _ e n=>u.keep b o e n hb (by simp)) (fun b o _ hb _ e n=>u.slot b o e n hb (by simp)) (fun b o _ e n=>u.free b o e n (by simp)) (fun b o _ e=>u.there b o e (by simp)) u.tups u.frzs u.tbls (fun m' hm=>by
  obtain⟨o',es',ep',ho',r'⟩:=hm;rw[ho]at ho';cases ho';exact⟨_,es',ep',hL,r'⟩) hok I.bare
theorem Inv.call {g':Array GenState} {d':Drawn} {ch:List Addr} (I:Inv X pins σ H s) (u:Un (frs X.stack) ch H H' s.heap h') (hok:HOk X.prog X.w H' h') (hg:AllBare g')
  (hch:∀ b∈ch,(b∈X.ex\/X.s₀.heap.objs.size<=b)/\b≠X.env.locals/\(∀ x c,X.env.cells.lookup x=some c->c≠b)/\∀ p∈X.pn++pins,p.1≠b) :
  Inv X pins σ H' {s with heap:=h',gens:=g',drawn:=d',toks:=t'}:=by
 obtain⟨m,⟨o,es,ep,ho,r⟩,_⟩:=id I.loc;obtain⟨sl,hL⟩:=u.any ho I.free fun z=>(hch _ z).2.1 rfl;exact I.step (ch:=ch) hch (fun b o hL hb hc e n=>u.keep b o e n (fun z=>(QA.mp (I.stkSub b z)).elim hL hb) hc) (fun b o _ _ hc e n=>u.any e n hc) (fun b o hc e n=>u.free b o e n hc) (fun b o hc e=>u.there b o e hc) u.tups u.frzs u.tbls (fun m' hm=>by
  obtain⟨o',es',ep',ho',r'⟩:=hm;rw[ho]at ho';cases ho';exact⟨_,es',ep',hL,r'⟩) hok hg
theorem Inv.turned {it:Addr} (I:Inv X pins σ H s) (k:∀ b o,b≠it->s.heap.get? b=some o->h'.get? b=some o) (hn:H it=none) (hL:it≠X.env.locals)
  (h1:it∈X.ex\/X.s₀.heap.objs.size<=it) (h2:∀ x c,X.env.cells.lookup x=some c->c≠it) (h3:∀ p∈X.pn++pins,p.1≠it):Inv X pins σ H {s with heap:=h',toks:=t'}:=by
 have nit:∀ b u,H b=some u->b≠it:=fun b u e z=>by rw[z,hn]at e;cases e
 refine I.step (g':=s.gens) (d':=s.drawn) (ch:=[it]) (fun b hb=>?_) (fun b o _ _ hc e _=>k b o (fun z=>hc (by simp[z])) e) (fun b o _ _ hc e _=>⟨o.slots,k b o (fun z=>hc (by simp[z])) e⟩) (fun _ _ _ _ n=>n)
  (fun b o hc e=>⟨o,k b o (fun z=>hc (by simp[z])) e⟩) (fun _ _ e=>e) (fun _ _ _ e=>e) (fun b ps e=>⟨#[],by rw[e];simp⟩) (fun m hm=>?_) (fun b u e=>?_) I.bare
 ·have e:b=it:=by simpa using hb
  subst e;exact⟨h1,hL,h2,h3⟩
 ·obtain⟨o,es,ep,ho,r⟩:=hm;exact⟨o,es,ep,k _ o (Ne.symm hL) ho,r⟩
 ·refine(I.hok b u e).stay (fun c v hc q=>k c v ?_ q) (fun _ q=>q) fun _ _ q=>q;rcases hc with z | z
  ·rw[z];exact nit b u e
  ·exact nit c _ z
theorem Inv.tok (I:Inv X pins σ H s) (t:Nat):Inv X pins σ H {s with toks:=t}:=I.un (h':=s.heap) (t':=t) Un.refl I.hok
theorem Inv.kept (I:Inv X pins σ H s) (k:∀ b u,s.heap.get? b=some u->h'.get? b=some u):Inv X pins σ H {s with heap:=h',toks:=t'}:=I.un (Un.kept k) (I.hok.kept k)
theorem Inv.laid {o:HO} (I:Inv X pins σ H s) (k:∀ b u,s.heap.get? b=some u->h'.get? b=some u) (hp:s.heap.objs.size<=a) (new:ObjOk X.prog X.w (upd H a o) h' a o) :
  Inv X pins σ (upd H a o) {s with heap:=h',toks:=t'}:=I.un (Un.laid k hp (I.hok.fresh hp)) (I.hok.laid k hp new)
theorem Inv.write {x e:Addr} {o:HO} (I:Inv X pins σ H s) (mu:Mut (H x)) (he:e=x\/H e=some (.own x)) (k:∀ b u,b≠e->s.heap.get? b=some u->h'.get? b=some u) (heo:∃ u,h'.get? e=some u)
  (new:ObjOk X.prog X.w (upd H x o) h' x o):Inv X pins σ (upd H x o) {s with heap:=h',toks:=t'}:=I.un (Un.write mu he k heo) (I.hok.write mu he k heo new)
theorem Inv.pins_of {pins':List (Addr×Obj)} (I:Inv X pins σ H s) (h:∀ p∈pins',s.heap.get? p.1=some p.2/\H p.1=none/\p.1≠X.env.locals/\p.1∉X.fs/\∀ v,p.2.data≠.cell v):Inv X pins' σ H s :=
 ⟨I.ok,I.os,I.bare,I.base,I.loc,I.cell,I.free,I.freeC,fun p hp=>(QE.mp hp).elim (fun z=>I.pin p (Q0 _ z)) (h p),I.hok,I.len⟩
theorem Zf3 {N:List Str} (hN:N.Nodup) (a:N[i]?=some x) (b:N[j]?=some x):i=j:=by
 obtain⟨h1,e1⟩:=Qn.mp a;obtain⟨h2,e2⟩:=Qn.mp b;exact(WX hN).mp (e1.trans e2.symm)
theorem Zc6 {M:Model} {Q:Unit->Shared->Prop} (I:Inv X pins σ H s) (hN:X.N.Nodup) (hi:X.N[i]?=some x) (hx:Loc X.env.scope x) (r:RelV v u)
  (h:∀ s',Inv X pins (σ.set i (some v)) H s'->(∃ a,Heap.SameBut a s.heap s'.heap/\(a=X.env.locals\/X.env.cells.lookup x=some a))->Q () s') (hf:X.fn x=true\/X.env.scope.names.lookup x=some .local:=by first | exact .inl rfl | exact .inr rfl | assumption):wpAny M A (storeName X.env x u) Q E s:=by
 obtain⟨m,hn,hl⟩:=id I.loc;have hcls:(X.env.scope.kind==.class || (X.env.scope.kind==.module&&X.env.locals != X.env.globals))=false:=by rw[I.ok.kind];rfl
 have hiσ:i<σ.length:=by rw[I.len];exact(Qn.mp hi).1
 have cne:=I.cne;have tracked:∀ {a:Addr} {h':Heap},(∃ o,s.heap.get? a=some o/\H a=none)->Heap.SameBut a s.heap h'->HOk X.prog X.w H h':=fun {a h'} ha hs b ob e=>by
  obtain⟨_,_,hfree⟩:=ha;refine(I.hok b ob e).stay (fun c w' hc q=>(hs.2 c ?_).trans q) (fun _ q=>q) fun _ _ q=>q;rintro rfl;rcases hc with rfl | hc
  ·rw[hfree]at e;cases e
  ·rw[hfree]at hc;cases hc
 rcases hx with hk | hk
 ·refine wpAny_storeName_local hk hn (fun h' hn' hs=>?_) hcls;obtain⟨oL,_,_,hoL,_⟩:=id hn;refine h _ ⟨I.ok,I.os,I.bare,⟨fun b o e n hb hx=>?_,fun b o e n hb hx=>?_,I.base.free,fun b o e hx=>?_,I.base.tups,I.base.frzs,I.base.tbls⟩,⟨_,hn',fun j y v' e1 e2 e3=>?_⟩,fun y c e=>?_,I.free,I.freeC,fun p hp=>?_,tracked ⟨oL,hoL,I.free⟩ hs,by simpa using I.len⟩ ⟨_,hs,.inl rfl⟩
  ·exact(hs.2 b (Qz (QS (Qs e) I.ok.above))).trans (I.base.keep b o e n hb hx)
  ·obtain⟨sl,e1⟩:=I.base.slot b o e n hb hx;exact⟨sl,(hs.2 b (Qz (QS (Qs e) I.ok.above))).trans e1⟩
  ·obtain⟨o',e1⟩:=I.base.there b o e hx;exact⟨o',(hs.2 b (Qz (QS (Qs e) I.ok.above))).trans e1⟩
  ·by_cases hj:j=i
   ·subst hj;rw[hi]at e1;cases e1;rw[RU hiσ]at e2;cases e2;exact⟨u,r,.inl ⟨hk,by simp⟩⟩
   ·rw[R8 (Ne.symm hj)]at e2;obtain⟨u',r',q⟩:=hl j y v' e1 e2 e3;refine⟨u',r',?_⟩;rcases q with ⟨k,e⟩ | ⟨k,c,e,z⟩
    ·refine .inl ⟨k,?_⟩;have:y≠x:=fun e=>hj (Zf3 hN e1 (e▸hi));simp[this,e]
    ·exact .inr ⟨k,c,e,z.sameBut hs (cne y c e)⟩
  ·obtain⟨w',z⟩:=I.cell y c e;exact⟨w',z.sameBut hs (cne y c e)⟩
  ·obtain⟨e,n,ne,nf,d⟩:=I.pin p hp;exact⟨(hs.2 p.1 ne).trans e,n,ne,nf,d⟩
 ·have hfn:X.fn x=true:=by
   rcases hf with z | z
   ·exact z
   ·rw[z]at hk;cases hk
  obtain⟨c,hc⟩:=I.ok.has x (.inl hk);obtain⟨w',z⟩:=I.cell x c hc;refine wpAny_storeName_cell I.ok.kind hk hc z (fun h' hc' hs=>?_);obtain⟨oc,hoc,hocd⟩:=id z;refine h {s with heap:=h'} ⟨I.ok,I.os,I.bare,⟨fun b o e n hb hx=>?_,fun b o e n hb hx=>?_,I.base.free,fun b o e hx=>?_,I.base.tups,I.base.frzs,I.base.tbls⟩,⟨m,hn.sameBut hs (Ne.symm (cne x c hc)),fun j y v' e1 e2 e3=>?_⟩,fun y c' e=>?_,I.free,I.freeC,fun p hp=>?_,tracked ⟨oc,hoc,I.freeC x c hc⟩ hs,by simpa using I.len⟩ ⟨c,hs,.inr hc⟩
  ·exact(hs.2 b (Qz (QS (Qs e) (I.ok.cab x c hfn hc)))).trans (I.base.keep b o e n hb hx)
  ·obtain⟨sl,e1⟩:=I.base.slot b o e n hb hx;exact⟨sl,(hs.2 b (Qz (QS (Qs e) (I.ok.cab x c hfn hc)))).trans e1⟩
  ·obtain⟨o',e1⟩:=I.base.there b o e hx;exact⟨o',(hs.2 b (Qz (QS (Qs e) (I.ok.cab x c hfn hc)))).trans e1⟩
  ·by_cases hj:j=i
   ·subst hj;rw[hi]at e1;cases e1;rw[RU hiσ]at e2;cases e2;exact⟨u,r,.inr ⟨.inl hk,c,hc,hc'⟩⟩
   ·rw[R8 (Ne.symm hj)]at e2;obtain⟨u',r',q⟩:=hl j y v' e1 e2 e3;refine⟨u',r',?_⟩;rcases q with q | ⟨k,c',e,z'⟩
    ·exact .inl q
    ·refine .inr ⟨k,c',e,z'.sameBut hs ?_⟩;rintro rfl;exact hj (Zf3 hN e1 (I.ok.inj _ _ _ e hc▸hi))
  ·by_cases hcc:c'=c
   ·subst hcc;exact⟨_,hc'⟩
   ·obtain⟨w2,z2⟩:=I.cell y c' e;exact⟨w2,z2.sameBut hs hcc⟩
  ·obtain⟨e,n,ne,nf,d⟩:=I.pin p hp;refine⟨(hs.2 p.1 ?_).trans e,n,ne,nf,d⟩;intro q;rw[q,hoc]at e;have q':oc=p.2:=Option.some.inj e;exact d w' (by rw[←q'];exact hocd)
theorem Zfy {M:Model} {Q:Unit->Shared->Prop} (I:Inv X pins σ H s) (hN:X.N.Nodup) (hi:X.N[i]?=some x) (hx:Loc X.env.scope x) (r:RelV v u)
  (h:∀ s',Inv X pins (σ.set i (some v)) H s'->Q () s') (hf:X.fn x=true\/X.env.scope.names.lookup x=some .local:=by first | exact .inl rfl | exact .inr rfl | assumption):wpAny M A (storeName X.env x u) Q E s :=
 Zc6 I hN hi hx r (fun s' I' _=>h s' I') hf
theorem Inv.call' {s':Shared} {ch:List Addr} (I:Inv X pins σ H s) (ho:s'.os=s.os) (u:Un (frs X.stack) ch H H' s.heap s'.heap) (hok:HOk X.prog X.w H' s'.heap) (hg:AllBare s'.gens)
  (hch:∀ b∈ch,(b∈X.ex\/X.s₀.heap.objs.size<=b)/\b≠X.env.locals/\(∀ x c,X.env.cells.lookup x=some c->c≠b)/\∀ p∈X.pn++pins,p.1≠b):Inv X pins σ H' s':=by
 obtain⟨h',g',d',t',o'⟩:=s';have e:o'=s.os:=ho;subst e;exact I.call (g':=g') (t':=t') (d':=d') u hok hg hch
end
abbrev XK:=Value->Option Addr->Hp->Prop
abbrev St:=List (Option V)
abbrev VK:=V->Hp->Prop
abbrev TE:=St->Hp->VK->Prop
abbrev TT:=St->Hp->(Bool->Hp->Prop)->Prop
abbrev TA:=St->Hp->(List V->Hp->Prop)->Prop
structure Zhx where
 nx:St->Hp->Prop
 rt:VK
 bk:St->Hp->Prop:=fun _ _=>False
 ct:St->Hp->Prop:=fun _ _=>False
abbrev TS:=Zhx->St->Hp->Prop
def EP (X:Cx) (pins:List (Addr×Obj)) (σ:St) (Q:VK) (u:Value) (s':Shared):Prop:=∃ v H',Inv X pins σ H' s'/\RelV v u/\Q v H'
def TP (X:Cx) (pins:List (Addr×Obj)) (σ:St) (Q:Bool->Hp->Prop) (b:Bool) (s':Shared):Prop:=∃ H',Inv X pins σ H' s'/\Q b H'
def AP (X:Cx) (pins:List (Addr×Obj)) (σ:St) (Q:List V->Hp->Prop) (us:List Value) (s':Shared):Prop:=∃ vs H',Inv X pins σ H' s'/\Vals vs us/\Q vs H'
def SP (X:Cx) (pins:List (Addr×Obj)) (D:Zhx) (f:Flow) (s':Shared):Prop :=
 match f with
 | .next=>∃ σ' H',Inv X pins σ' H' s'/\D.nx σ' H'
 | .brk=>∃ σ' H',Inv X pins σ' H' s'/\D.bk σ' H'
 | .cont=>∃ σ' H',Inv X pins σ' H' s'/\D.ct σ' H'
 | .ret u=>∃ v σ' H',Inv X pins σ' H' s'/\RelV v u/\D.rt v H'
def PE (X:Cx) (e:Expr) (t:TE):Prop :=
 ∀ (pins:List (Addr×Obj)) (s:Shared) (σ:St) (H:Hp) (Q:VK),Inv X pins σ H s->t σ H Q->wpAny (model X.prog X.w) X.A (eval e X.env) (EP X pins σ Q) X.xe s
def PT (X:Cx) (e:Expr) (t:TT):Prop :=
 ∀ (pins:List (Addr×Obj)) (s:Shared) (σ:St) (H:Hp) (Q:Bool->Hp->Prop),Inv X pins σ H s->t σ H Q->wpAny (model X.prog X.w) X.A (isTrue e X.env (eval e X.env)) (TP X pins σ Q) X.xe s
def PW (X:Cx) (e:Expr) (t:TT):Prop :=
 ∀ (whole:Sem Value) (pins:List (Addr×Obj)) (s:Shared) (σ:St) (H:Hp) (Q:Bool->Hp->Prop),Inv X pins σ H s->t σ H Q->wpAny (model X.prog X.w) X.A (isTrue e X.env whole) (TP X pins σ Q) X.xe s
theorem PW.pt {t:TT} (h:PW X e t):PT X e t:=h _
def PA (X:Cx) (es:List Expr) (t:TA):Prop :=
 ∀ (pos:Pos) (pins:List (Addr×Obj)) (s:Shared) (σ:St) (H:Hp) (Q:List V->Hp->Prop),Inv X pins σ H s->t σ H Q->wpAny (model X.prog X.w) X.A (spliced (backTo pos (starEach es X.env))) (AP X pins σ Q) X.xe s
def PS (X:Cx) (st:Stmt) (t:TS):Prop :=
 ∀ (pins:List (Addr×Obj)) (s:Shared) (σ:St) (H:Hp) (D:Zhx),Inv X pins σ H s->t D σ H->wpAny (model X.prog X.w) X.A (exec st X.env) (SP X pins D) X.xe s
def PSs (X:Cx) (st:List Stmt) (t:TS):Prop :=
 ∀ (pins:List (Addr×Obj)) (s:Shared) (σ:St) (H:Hp) (D:Zhx),Inv X pins σ H s->t D σ H->wpAny (model X.prog X.w) X.A (execs st X.env) (SP X pins D) X.xe s
theorem thn {α:Type} {t:Sem α} {Q Q':α->Shared->Prop} {M:Model} (h:wpAny M A t Q E s) (hQ:∀ a s,Q a s->Q' a s):wpAny M A t Q' E s:=wpAny_mono h hQ fun _ _ x=>x
section
variable {X:Cx}
theorem bin {a b:Expr} {ta tb:TE} (ha:PE X a ta) (hb:PE X b tb) {R:V->V->Hp->Prop} (I:Inv X pins σ H s) (h:ta σ H fun x H1=>tb σ H1 fun y H2=>R x y H2)
  {α:Type} {Q:α->Shared->Prop} {f:Value->Value->Sem α}
  (hf:∀ v u s2 x y H2,Inv X pins σ H2 s2->RelV x v->RelV y u->R x y H2->wpAny (model X.prog X.w) X.A (f v u) Q X.xe s2) :
  wpAny (model X.prog X.w) X.A (eval a X.env) (fun v s₁=>wpAny (model X.prog X.w) X.A (eval b X.env) (fun u s₂=>wpAny (model X.prog X.w) X.A (f v u) Q X.xe s₂) X.xe s₁) X.xe s:=by
 refine thn (ha pins s σ H _ I h) fun v s1 ⟨x,H1,I1,r1,q1⟩=>?_;refine thn (hb pins s1 σ H1 _ I1 q1) fun u s2 ⟨y,H2,I2,r2,q2⟩=>?_;exact hf v u s2 x y H2 I2 r1 r2 q2
def Zkl (i:Nat):TE:=fun σ H Q=>∃ v,σ[i]?=some (some v)/\Q v H
def tC (v:V):TE:=fun _ H Q=>Q v H
theorem ZoV (hN:X.N[i]?=some x) (hv:Vis X.env.scope x) (hd:(x==("__debug__" : Str))=false:=by decide) (hcd:(x==("__classdict__" : Str))=false:=by decide):PE X (.Name x pos) (Zkl i):=by
 intro pins s σ H Q I h;obtain⟨v,e,h⟩:=h;obtain⟨m,hn,hl⟩:=I.loc;obtain⟨u,r,l⟩:=hl i x v hN e hv;have fin:EP X pins σ Q u s:=⟨v,H,I,r,h⟩
 rcases l with ⟨hk,hm⟩ | ⟨hk,c,hc,hcell⟩
 ·exact wpAny_Name (wpAny_loadName_local I.ok.kind hk hn hm fin) hd
 ·rcases hk with hk | hk
  ·exact wpAny_Name (wpAny_loadName_cell I.ok.kind hk hc hcell fin) hd
  ·exact wpAny_Name (wpAny_loadName_free I.ok.kind hk hc hcell fin hcd) hd
theorem Zg {i j pos}:PE X (.Constant (.int i) j pos) (tC (.int i)):=fun _ _ _ H _ I h=>wpAny_Constant_int ⟨.int i,H,I.tok _,⟨_,rfl⟩,h⟩
theorem ZaI {b j pos}:PE X (.Constant (.bool b) j pos) (tC (.bl b)):=fun _ _ _ H _ I h=>Constant_bool ⟨.bl b,H,I,rfl,h⟩
theorem Zdk {j pos}:PE X (.Constant .none j pos) (tC .non):=fun _ _ _ H _ I h=>Constant_none ⟨.non,H,I,rfl,h⟩
theorem ZaH {x j pos}:PE X (.Constant (.str x) j pos) (tC (.str x)):=fun _ _ _ H _ I h=>Calls.Constant_str ⟨.str x,H,I.tok _,⟨_,rfl⟩,h⟩
def Gl (X:Cx) (x:Str):Prop:=X.env.kindOf x=some .globalImplicit
theorem Zct (I:Inv X pins σ H s) (hg:Gl X x) (hm:X.mg x=some u) (h:Q u s)
  (hd:(x==("__debug__" : Str))=false:=by decide):wpAny (model X.prog X.w) X.A (eval (.Name x pos) X.env) Q E s :=
 Calls.Name_function_global I.ok.kind hg (Calls.loadGlobal_global (by rw[I.ok.glob];exact I.mod.glob.keeps I.bk) hm h) hd
theorem XN (I:Inv X pins σ H s) (hg:Gl X x) (hm:X.mg x=none) (hv:bootBuiltins x=some u) (h:Q u s)
  (hn:x≠"__name__":=by decide) (hd:(x==("__debug__" : Str))=false:=by decide):wpAny (model X.prog X.w) X.A (eval (.Name x pos) X.env) Q E s:=by
 obtain⟨mb,h1,h2⟩:=I.mod.blt;exact Calls.Name_function_global I.ok.kind hg (Calls.loadGlobal_builtin (by rw[I.ok.glob];exact I.mod.glob.keeps I.bk) hm (by rw[I.ok.blt];exact h1.keeps I.bk) ((h2 x hn).trans hv) h) hd
theorem Znv (hg:Gl X x) (hm:X.mg x=none) (hv:bootBuiltins x=some u) (r:RelV v u) (hn:x≠"__name__":=by decide) (hd:(x==("__debug__" : Str))=false:=by decide):PE X (.Name x pos) (tC v) :=
 fun _ _ _ H _ I h=>XN I hg hm hv ⟨v,H,I,r,h⟩ hn hd
variable {a b:Expr} {ta tb:TE} {pos:Pos}
def PC (X:Cx) (op:CmpOp) (a b:Expr) (t:TE):Prop :=
 ∀ (pins:List (Addr×Obj)) (s:Shared) (σ:St) (H:Hp) (Q:VK),Inv X pins σ H s->t σ H Q ->
  wpAny (model X.prog X.w) X.A (eval a X.env) (fun v s₁=>wpAny (model X.prog X.w) X.A (eval b X.env) (fun u s₂=>wpAny (model X.prog X.w) X.A (compareOp op v u) (EP X pins σ Q) X.xe s₂) X.xe s₁) X.xe s
theorem Zk5 (b:Expr) {op:CmpOp} (h:op≠.In) (h2:op≠.NotIn):behindInMarks op b=false:=by
 have e1:(op==CmpOp.In)=false:=by cases op <;> first | rfl | exact absurd rfl h
 have e2:(op==CmpOp.NotIn)=false:=by cases op <;> first | rfl | exact absurd rfl h2
 cases b <;> simp[behindInMarks,e1,e2]
def tB (t:TE):TT:=fun σ H Q=>t σ H fun x H1=>∃ c,x= .bl c/\Q c H1
theorem Zmg {op:CmpOp} {t:TE} (h:PC X op a b t) (h1:behindInMarks op b=false:=by first | exact Zk5 _ (by decide) (by decide) | rfl):PT X (.Compare a [op] [b] pos) (tB t):=by
 intro pins s σ H Q I hw;refine wpAny_isTrue_Compare1 (thn (h pins s σ H _ I hw) fun v s1 h1=>thn h1 fun u s2 h2=>thn h2 fun c s3 ⟨x,H1,I1,r1,q1⟩=>?_) h1;obtain⟨d,rfl,q⟩:=q1;cases r1;exact wpAny_truthy_bool ⟨H1,I1,q⟩
theorem ZaD {t:TE} (h:PE X e t) (he:∀ whole,isTrue e X.env whole=(do let v ←whole;standAt e.pos;holding [v] (truthy v)):=by intro _;rfl):PT X e (tB t):=by
 intro pins s σ H Q I hw;refine isTrue_plain (thn (h pins s σ H _ I hw) fun v s1 ⟨x,H1,I1,r1,q1⟩=>?_) (he _);obtain⟨d,rfl,q⟩:=q1;cases r1;exact wpAny_truthy_bool ⟨H1,I1,q⟩
variable {tA tB':TT} {rest:List Expr}
def Zra (t u:TT):TT:=fun σ H Q=>t σ H fun c H1=>if c=true then u σ H1 Q else Q false H1
def tOr (t u:TT):TT:=fun σ H Q=>t σ H fun c H1=>if c=true then Q true H1 else u σ H1 Q
def Zq3 (t:TT):TT:=fun σ H Q=>t σ H fun c H1=>Q (!c) H1
theorem ZeB (ha:PT X a tA):PW X (.BoolOp .And [a] pos) tA:=by
 intro wh pins s σ H Q I h;refine isTrue_and (thn (ha pins s σ H Q I h) fun c s1 e=>?_);cases c with
 | true=>exact isTrue_and_nil e
 | false=>exact e
theorem ZfP (ha:PT X a tA):PW X (.BoolOp .Or [a] pos) tA:=by
 intro wh pins s σ H Q I h;refine isTrue_or (thn (ha pins s σ H Q I h) fun c s1 e=>?_);cases c with
 | false=>exact isTrue_or_nil e
 | true=>exact e
theorem ZiM (ha:PT X a tA) (hb:PW X (.BoolOp .And (b::rest) pos) tB'):PW X (.BoolOp .And (a::b::rest) pos) (Zra tA tB'):=by
 intro wh pins s σ H Q I h;refine isTrue_and (thn (ha pins s σ H _ I h) fun c s1 ⟨H1,I1,q1⟩=>?_);cases c with
 | true=>exact hb wh pins s1 σ H1 Q I1 q1
 | false=>exact⟨H1,I1,q1⟩
theorem ZiL (ha:PT X a tA) (hb:PW X (.BoolOp .Or (b::rest) pos) tB'):PW X (.BoolOp .Or (a::b::rest) pos) (tOr tA tB'):=by
 intro wh pins s σ H Q I h;refine isTrue_or (thn (ha pins s σ H _ I h) fun c s1 ⟨H1,I1,q1⟩=>?_);cases c with
 | true=>exact⟨H1,I1,q1⟩
 | false=>exact hb wh pins s1 σ H1 Q I1 q1
theorem JR (ha:PT X a tA):PT X (.UnaryOp .Not a pos) (Zq3 tA):=by
 intro pins s σ H Q I h;exact isTrue_not (ha pins s σ H (fun c H1=>Q (!c) H1) I h)
def Zqf (ta tb:TE):TE:=fun σ H Q=>ta σ H fun x H1=>∃ c,x= .bl c/\if c=true then tb σ H1 Q else Q (.bl false) H1
def Zp5 (ta:TE):TE:=fun σ H Q=>ta σ H fun x H1=>∃ c,x= .bl c/\Q (.bl (!c)) H1
theorem ZfV {op} {t:TE} (h:PE X a t):PE X (.BoolOp op [a] pos) t:=fun pins s σ H Q I hw=>BoolOp_one (h pins s σ H Q I hw)
theorem ZfY (ha:PE X a ta) (hb:PE X (.BoolOp .And (b::rest) pos) tb):PE X (.BoolOp .And (a::b::rest) pos) (Zqf ta tb):=by
 intro pins s σ H Q I h;refine BoolOp_and (thn (ha pins s σ H _ I h) fun v s1 ⟨x,H1,I1,r1,q1⟩=>?_);obtain⟨c,rfl,q1⟩:=q1;cases r1;refine wpAny_truthy_bool ?_;cases c with
 | true=>exact hb pins s1 σ H1 Q I1 q1
 | false=>exact⟨.bl false,H1,I1,rfl,q1⟩
theorem ZiX (ha:PE X a ta):PE X (.UnaryOp .Not a pos) (Zp5 ta):=by
 intro pins s σ H Q I h;refine UnaryOp_ (thn (ha pins s σ H _ I h) fun v s1 ⟨x,H1,I1,r1,q1⟩=>?_);obtain⟨c,rfl,q1⟩:=q1;cases r1;exact not_of (wpAny_truthy_bool ⟨.bl (!c),H1,I1,rfl,q1⟩)
def tIf (t:TT) (ta tb:TE):TE:=fun σ H Q=>t σ H fun c H1=>if c=true then ta σ H1 Q else tb σ H1 Q
theorem ZfW (hc:PT X c tA) (ha:PE X a ta) (hb:PE X b tb):PE X (.IfExp c a b pos) (tIf tA ta tb):=by
 intro pins s σ H Q I h;refine wpAny_IfExp (thn (hc pins s σ H _ I h) fun d s1 ⟨H1,I1,q1⟩=>?_);cases d with
 | true=>exact ha pins s1 σ H1 Q I1 q1
 | false=>exact hb pins s1 σ H1 Q I1 q1
end
def SqL (K:PySem.W.Frag) (H:Hp) (a:Addr) (xs:List V):Prop :=
 Rd H a (.lst xs) \/
  ∃ (o:Obj) (its:Array Value) (n:Nat),K.lookup a=some o/\o.cls= .type "list"/\o.dict=none/\o.data= .seq its n/\its.size<=sizeLine/\Vals xs its.toList
def SqT (K:PySem.W.Frag) (H:Hp) (a:Addr) (xs:List V):Prop :=
 Rd H a (.tup xs) \/
  ∃ (o:Obj) (its:Array Value) (n:Nat),K.lookup a=some o/\o.cls= .type "tuple"/\o.data= .seq its n/\its.size<=sizeLine/\Vals xs its.toList
def Zro:Value->Option V
 | .none=>some .non
 | .bool b=>some (.bl b)
 | .int i _=>some (.int i)
 | .str x _=>some (.str x)
 | .bytes b _=>some (.byt b)
 | .float b _=>some (.flt b)
 | .ref a=>some (.ref a)
 | .type n=>some (.ty n)
 | _=>none
theorem RelV.abs {x:V} (r:RelV x u):Zro u=some x:=by
 cases x with
 | non=>cases r;rfl
 | bl _=>cases r;rfl
 | int _=>obtain⟨t,rfl⟩:=r;rfl
 | str _=>obtain⟨t,rfl⟩:=r;rfl
 | byt _=>obtain⟨t,rfl⟩:=r;rfl
 | flt _=>obtain⟨t,rfl⟩:=r;rfl
 | ref _=>cases r;rfl
 | ty _=>cases r;rfl
theorem RelV.inj {x y:V} (r:RelV x u) (q:RelV y u):x=y:=Option.some.inj (r.abs.symm.trans q.abs)
theorem Vals.inj:∀ {xs ys:List V} {us:List Value},Vals xs us->Vals ys us->xs=ys
 | _,_,_,.nil,.nil=>rfl
 | _,_,_,.cons r t,.cons r' t'=>by rw[r.inj r',Vals.inj t t']
section
variable {X:Cx} {pins:List (Addr×Obj)} {σ:St} {H:Hp} {s:Shared} {a:Addr} {xs ys:List V}
theorem SqL.of {K:PySem.W.Frag} (h:H a=some (.lst xs)):SqL K H a xs:=.inl (.inl h)
theorem SqT.of {K:PySem.W.Frag} (h:H a=some (.tup xs)):SqT K H a xs:=.inl (.inl h)
theorem Inv.list (I:Inv X pins σ H s) (h:SqL X.K H a xs):∃ its:List Value,Vals xs its/\PlainL s.heap a its.toArray/\xs.length<=sizeLine:=by
 rcases h with h | ⟨o,its,n,hk,hc,hd,hs,hz,r⟩
 ·obtain⟨z,its,n,r,e⟩:=h.ok I.hok;exact⟨its,r,⟨_,n,e,rfl,rfl,rfl⟩,z⟩
 ·refine⟨its.toList,r,⟨o,n,I.kIn a o hk,hc,hd,by simpa using hs⟩,?_⟩;have e:=r.length;simp only[QG]at e;omega
theorem Inv.tuple (I:Inv X pins σ H s) (h:SqT X.K H a xs):∃ its:List Value,Vals xs its/\IsTup s.heap a its.toArray/\xs.length<=sizeLine:=by
 rcases h with h | ⟨o,its,n,hk,hc,hs,hz,r⟩
 ·obtain⟨z,its,r,p,_⟩:=h.ok I.hok;exact⟨its,r,p,z⟩
 ·refine⟨its.toList,r,⟨o,I.kIn a o hk,hc,n,by simpa using hs⟩,?_⟩;have e:=r.length;simp only[QG]at e;omega
theorem Inv.list_inj (I:Inv X pins σ H s) (h:SqL X.K H a xs) (h':SqL X.K H a ys):xs=ys:=by
 obtain⟨its,r,⟨o,n,e,_,_,d⟩,_⟩:=I.list h;obtain⟨its',r',⟨o',n',e',_,_,d'⟩,_⟩:=I.list h';rw[e]at e';cases e';rw[d]at d';injection d' with d1 _
 have:its=its':=by simpa using congrArg VZ d1
 subst this;exact r.inj r'
theorem Inv.tuple_inj (I:Inv X pins σ H s) (h:SqT X.K H a xs) (h':SqT X.K H a ys):xs=ys:=by
 obtain⟨its,r,⟨o,e,_,n,d⟩,_⟩:=I.tuple h;obtain⟨its',r',⟨o',e',_,n',d'⟩,_⟩:=I.tuple h';rw[e]at e';cases e';rw[d]at d';injection d' with d1 _
 have:its=its':=by simpa using congrArg VZ d1
 subst this;exact r.inj r'
end
abbrev Cx.wish (X:Cx) (E:Value->Shared->Prop):Cx:={X with xe:=E}
abbrev Cx.nox (X:Cx):Cx:=X.wish fun _ _=>False
theorem Cx.Ok.wish (ok:X.Ok) (E:Value->Shared->Prop):(X.wish E).Ok :=
 ⟨ok.mod,ok.kind,ok.glob,ok.blt,ok.above,ok.inj,ok.has,ok.cab,ok.hd,ok.frames,ok.stk,ok.exf,ok.bs,ok.bsz,ok.noex,ok.exfs,ok.funs,ok.frf⟩
theorem Cx.Ok.unwish (ok:(X.wish E).Ok):X.Ok :=
 ⟨ok.mod,ok.kind,ok.glob,ok.blt,ok.above,ok.inj,ok.has,ok.cab,ok.hd,ok.frames,ok.stk,ok.exf,ok.bs,ok.bsz,ok.noex,ok.exfs,ok.funs,ok.frf⟩
section
variable {X:Cx} {pins:List (Addr×Obj)} {σ:St} {H:Hp} {s:Shared} {E:Value->Shared->Prop}
theorem Inv.wish (I:Inv X pins σ H s) (E:Value->Shared->Prop):Inv (X.wish E) pins σ H s:=⟨I.ok.wish E,I.os,I.bare,I.base,I.loc,I.cell,I.free,I.freeC,I.pin,I.hok,I.len⟩
theorem Inv.unwish (I:Inv (X.wish E) pins σ H s):Inv X pins σ H s:=⟨I.ok.unwish,I.os,I.bare,I.base,I.loc,I.cell,I.free,I.freeC,I.pin,I.hok,I.len⟩
theorem SP.unwish {D:Zhx} {f:Flow} {s':Shared} (h:SP (X.wish E) pins D f s'):SP X pins D f s':=by
 cases f with
 | next=>obtain⟨σ',H',I,q⟩:=h;exact⟨σ',H',I.unwish,q⟩
 | brk=>obtain⟨σ',H',I,q⟩:=h;exact⟨σ',H',I.unwish,q⟩
 | cont=>obtain⟨σ',H',I,q⟩:=h;exact⟨σ',H',I.unwish,q⟩
 | ret u=>obtain⟨v,σ',H',I,r,q⟩:=h;exact⟨v,σ',H',I.unwish,r,q⟩
theorem PE.nox {t:TE} (h:PE X.nox e t):PE X e t:=fun pins s σ H Q I hw =>
 wpAny_mono (h pins s σ H Q (I.wish _) hw) (fun _ _ ⟨v,H',I',r,q⟩=>⟨v,H',I'.unwish,r,q⟩) fun _ _ z=>False.elim z
theorem PT.nox {t:TT} (h:PT X.nox e t):PT X e t:=fun pins s σ H Q I hw =>
 wpAny_mono (h pins s σ H Q (I.wish _) hw) (fun _ _ ⟨H',I',q⟩=>⟨H',I'.unwish,q⟩) fun _ _ z=>False.elim z
theorem PSs.nox {st:List Stmt} {t:TS} (h:PSs X.nox st t):PSs X st t:=fun pins s σ H D I hw =>
 wpAny_mono (h pins s σ H D (I.wish _) hw) (fun _ _ q=>q.unwish) fun _ _ z=>False.elim z
end
section
variable {X:Cx} {st:Stmt} {rest:List Stmt} {t u:TS} {e:Expr} {te:TE} {pos:Pos}
def Zp6:TS:=fun D σ H=>D.nx σ H
def Zor (t u:TS):TS:=fun D σ H=>t {D with nx:=u D} σ H
theorem Zy:PSs X [] Zp6:=fun _ _ σ H _ I h=>wpAny_execs_nil ⟨σ,H,I,h⟩
theorem Zc (h1:PS X st t) (h2:PSs X rest u):PSs X (st::rest) (Zor t u):=by
 intro pins s σ H D I h;refine wpAny_execs_cons (thn (h1 pins s σ H {D with nx:=u D} I h) fun f s1 q=>?_);cases f with
 | next =>
  obtain⟨σ',H',I',q⟩:=q;exact h2 pins s1 σ' H' D I' q
 | ret v=>exact q
 | brk=>exact q
 | cont=>exact q
theorem Zh (h1:PS X st t):PSs X [st] t:=by
 intro pins s σ H D I h;refine wpAny_execs_cons (thn (h1 pins s σ H D I h) fun f s1 q=>?_);cases f with
 | next=>exact wpAny_execs_nil q
 | ret v=>exact q
 | brk=>exact q
 | cont=>exact q
theorem Inv.quiet (I:Inv X pins σ H s):interactive X.env=false:=by simp[interactive,I.ok.kind]
def Zp8 (te:TE):TS:=fun D σ H=>te σ H fun _ H1=>D.nx σ H1
theorem Yx (he:PE X e te) (hs:swapsWith e none pos.line X.env=pure false:=by rfl):PS X (.Expr e pos) (Zp8 te):=by
 intro pins s σ H D I h;exact wpAny_Expr_any (thn (he pins s σ H _ I h) fun v s1 ⟨x,H1,I1,r1,q1⟩=>⟨σ,H1,I1,q1⟩) I.quiet hs
def Zq2 (te:TE):TS:=fun D σ H=>te σ H D.rt
theorem Zp (he:PE X e te):PS X (.Return (some e) pos) (Zq2 te):=by
 intro pins s σ H D I h;exact wpAny_Return_some (thn (he pins s σ H _ I h) fun v s1 ⟨x,H1,I1,r1,q1⟩=>⟨x,σ,H1,I1,r1,q1⟩)
def ZqO (c:TT) (t u:TS):TS:=fun D σ H=>c σ H fun b H1=>if b=true then t D σ H1 else u D σ H1
theorem Z3 {a b:List Stmt} {tc:TT} (hc:PT X c tc) (ha:PSs X a t) (hb:PSs X b u):PS X (.If c a b pos) (ZqO tc t u):=by
 intro pins s σ H D I h;refine wpAny_If (thn (hc pins s σ H _ I h) fun d s1 ⟨H1,I1,q1⟩=>?_);cases d with
 | true=>exact ha pins s1 σ H1 D I1 q1
 | false=>exact hb pins s1 σ H1 D I1 q1
end
abbrev TG:=V->St->Hp->(St->Hp->Prop)->Prop
abbrev TGs:=List V->St->Hp->(St->Hp->Prop)->Prop
def PG (X:Cx) (target:Expr) (t:TG):Prop :=
 ∀ (pins:List (Addr×Obj)) (s:Shared) (σ:St) (H:Hp) (v:V) (u:Value) (Q:St->Hp->Prop),Inv X pins σ H s->RelV v u->t v σ H Q ->
  wpAny (model X.prog X.w) X.A (assign target X.env u) (fun _ s'=>∃ σ' H',Inv X pins σ' H' s'/\Q σ' H') X.xe s
def PGs (X:Cx) (ts:List Expr) (t:TGs):Prop :=
 ∀ (pins:List (Addr×Obj)) (s:Shared) (σ:St) (H:Hp) (vs:List V) (us:List Value) (Q:St->Hp->Prop),Inv X pins σ H s->Vals vs us->t vs σ H Q ->
  wpAny (model X.prog X.w) X.A (assignInOrder ((assignEach ts X.env).map (·.2)) us) (fun _ s'=>∃ σ' H',Inv X pins σ' H' s'/\Q σ' H') X.xe s
abbrev ZpR:=V->V->V->Hp->(Hp->Prop)->Prop
def ZqI (X:Cx) (t:ZpR):Prop :=
 ∀ (pins:List (Addr×Obj)) (s:Shared) (σ:St) (H:Hp) (o i v:V) (ov iv u:Value) (Q:Hp->Prop),Inv X pins σ H s->RelV o ov->RelV i iv->RelV v u->t o i v H Q ->
  wpAny (model X.prog X.w) X.A (setItem ov iv u) (fun _ s'=>∃ H',Inv X pins σ H' s'/\Q H') X.xe s
abbrev TIp:=V->V->Hp->VK->Prop
def PIp (X:Cx) (op:Operator) (t:TIp):Prop :=
 ∀ (pins:List (Addr×Obj)) (s:Shared) (σ:St) (H:Hp) (x y:V) (v u:Value) (Q:VK),Inv X pins σ H s->RelV x v->RelV y u->t x y H Q ->
  wpAny (model X.prog X.w) X.A (inplaceOp op v u) (EP X pins σ Q) X.xe s
section
variable {X:Cx} {pos:Pos}
def J0 (i:Nat):TG:=fun v σ H Q=>Q (σ.set i (some v)) H
theorem ZB (hN:X.N.Nodup) (hi:X.N[i]?=some x) (hx:Loc X.env.scope x) (hf:X.fn x=true\/X.env.scope.names.lookup x=some .local:=by first | exact .inl rfl | exact .inr rfl | assumption):PG X (.Name x pos) (J0 i):=by
 intro pins s σ H v u Q I r h;exact wpAny_assign_Name (Zfy I hN hi hx r (fun s' I'=>⟨_,H,I',h⟩) hf)
def ZqW:TGs:=fun vs σ H Q=>vs=[]/\Q σ H
def Zoa (t:TG) (u:TGs):TGs:=fun vs σ H Q=>∃ v r,vs=v::r/\t v σ H fun σ' H'=>u r σ' H' Q
theorem Z4:PGs X [] ZqW:=by
 intro pins s σ H vs us Q I r h;obtain⟨e,h⟩:=h;subst e;cases r;exact assignInOrder_nil ⟨σ,H,I,h⟩
theorem Zu {es:List Expr} {t:TG} {u:TGs} (h1:PG X e t) (h2:PGs X es u)
  (hs:(assignEach (e::es) X.env).map (·.2)=assign e X.env::(assignEach es X.env).map (·.2):=by rfl):PGs X (e::es) (Zoa t u):=by
 intro pins s σ H vs us Q I r h;obtain⟨v,vr,e1,h⟩:=h;subst e1;cases r with
 | cons r rr =>
  rw[hs];refine assignInOrder_cons (thn (h1 pins s σ H _ _ _ I r h) fun _ s1 ⟨σ1,H1,I1,q1⟩=>?_);exact h2 pins s1 σ1 H1 _ _ Q I1 rr q1
def ZqA (K:PySem.W.Frag) (n:Nat) (t:TGs):TG:=fun v σ H Q=>∃ a xs,v= .ref a/\SqT K H a xs/\xs.length=n/\t xs σ H Q
theorem ZoT {es:List Expr} {t:TGs} (hc:X.calm=true) (h:PGs X es t)
  (hn:(assignEach es X.env).length=n:=by rfl) (hst:(assignEach es X.env).findIdx? (·.1)=none:=by rfl):PG X (.Tuple es k pos) (ZqA X.K n t):=by
 intro pins s σ H v u Q I r hw;obtain⟨a,xs,e1,hq,hl,hw⟩:=hw;subst e1;cases r;obtain⟨its,rv,ht,hz⟩:=I.tuple hq;refine assign_Tuple_tuple (I.ok.hd hc) ht (by simp[hn,←hl,rv.length]) hst fun h' hx=>?_;have I1:Inv X pins σ H {s with heap:=h'}:=I.kept (t':=s.toks) fun b o e=>hx b o (Qz (Qs e)) e;exact h pins _ σ H xs _ Q I1 (by simpa using rv) hw
def Zrl (to ti:TE) (t:ZpR):TG:=fun v σ H Q=>to σ H fun o H1=>ti σ H1 fun i H2=>t o i v H2 fun H3=>Q σ H3
theorem ZoU {o i:Expr} {to ti:TE} {t:ZpR} (ho:PE X o to) (hi:PE X i ti) (hs:ZqI X t)
  (ha:∀ v,assign (.Subscript o i pos) X.env v=(do
   let ov ←holding [v] (eval o X.env)
   let iv ←holding [v,ov] (eval i X.env)
   standAt pos
   holding [v,ov,iv] (setItem ov iv v)
   release [v,ov,iv] []):=by intro _;rfl):PG X (.Subscript o i pos) (Zrl to ti t):=by
 intro pins s σ H v u Q I r h;rw[ha];refine wpAny_bind (wpAny_holding (thn (ho pins s σ H _ I h) fun ov s1 ⟨x,H1,I1,r1,q1⟩=>?_));refine wpAny_bind (wpAny_holding (thn (hi pins s1 σ H1 _ I1 q1) fun iv s2 ⟨y,H2,I2,r2,q2⟩=>?_));refine wpAny_bind (wpAny_standAt (wpAny_bind (wpAny_holding (thn (hs pins s2 σ H2 x y v ov iv u _ I2 r1 r2 r q2) fun _ s3 ⟨H3,I3,q3⟩=>?_))));exact wpAny_release ⟨σ,H3,I3,q3⟩
def Zqe (te:TE) (g:TG):TS:=fun D σ H=>te σ H fun x H1=>g x σ H1 D.nx
theorem ZoQ (he:PE X e te) (hg:PG X tg g) (hs:swapsWithSole [tg] e pos.line X.env=pure false:=by rfl) (hw:swappedStores [tg] e X.env=pure none:=by rfl)
  (h1:(assignEach [tg] X.env).map (·.2)=[assign tg X.env]:=by rfl):PS X (.Assign [tg] e pos) (Zqe te g):=by
 intro pins s σ H D I h;refine wpAny_Assign_stores (thn (he pins s σ H _ I h) fun v s1 ⟨x,H1,I1,r1,q1⟩=>?_) hs hw;rw[h1];exact thn (hg pins s1 σ H1 x v _ I1 r1 q1) fun _ s2 q=>q
theorem Zj {pos':Pos} (hN:X.N.Nodup) (hi:X.N[i]?=some x) (hx:Loc X.env.scope x) (he:PE X e te) (hs:swapsWith e (some (.Name x pos')) pos.line X.env=pure false:=by rfl) (hf:X.fn x=true\/X.env.scope.names.lookup x=some .local:=by first | exact .inl rfl | exact .inr rfl | assumption) :
  PS X (.Assign [.Name x pos'] e pos) (Zqe te (J0 i)):=by
 intro pins s σ H D I h;refine wpAny_Assign_Name (thn (he pins s σ H _ I h) fun v s1 ⟨y,H1,I1,r1,q1⟩=>?_) hs;exact Zfy I1 hN hi hx r1 (fun s2 I2=>⟨_,H1,I2,q1⟩) hf
def Zqd (to ti te:TE) (tget:V->V->Hp->VK->Prop) (tip:TIp) (tset:ZpR):TS:=fun D σ H=>to σ H fun o H1=>ti σ H1 fun i H2=>tget o i H2 fun x H3=>te σ H3 fun y H4=>tip x y H4 fun z H5=>tset o i z H5 fun H6=>D.nx σ H6
def ZqZ (X:Cx) (t:V->V->Hp->VK->Prop):Prop :=
 ∀ (pins:List (Addr×Obj)) (s:Shared) (σ:St) (H:Hp) (o i:V) (ov iv:Value) (Q:VK),Inv X pins σ H s->RelV o ov->RelV i iv->t o i H Q ->
  wpAny (model X.prog X.w) X.A (getItem ov iv) (EP X pins σ Q) X.xe s
theorem ZiP {o i:Expr} {to ti:TE} {tget:V->V->Hp->VK->Prop} {tip:TIp} {tset:ZpR} {op:Operator} {tpos:Pos} (ho:PE X o to) (hi:PE X i ti) (hg:ZqZ X tget) (he:PE X e te) (hp:PIp X op tip) (hs:ZqI X tset)
  (ha:∀ ov iv new,augStore i ov iv new=(do holding [new,ov,iv] (setItem ov iv new);release [new,ov,iv] [];pure .next):=by intros;rfl):PS X (.AugAssign (.Subscript o i tpos) op e pos) (Zqd to ti te tget tip tset):=by
 intro pins s σ H D I h;refine wpAny_AugAssign_SubscriptAny (thn (ho pins s σ H _ I h) fun ov s1 ⟨x1,H1,I1,r1,q1⟩=>?_) ha;refine thn (hi pins s1 σ H1 _ I1 q1) fun iv s2 ⟨x2,H2,I2,r2,q2⟩=>?_;refine thn (hg pins s2 σ H2 x1 x2 ov iv _ I2 r1 r2 q2) fun old s3 ⟨x3,H3,I3,r3,q3⟩=>?_;refine thn (he pins s3 σ H3 _ I3 q3) fun v s4 ⟨x4,H4,I4,r4,q4⟩=>?_;refine thn (hp pins s4 σ H4 x3 x4 old v _ I4 r3 r4 q4) fun new s5 ⟨x5,H5,I5,r5,q5⟩=>?_;exact thn (hs pins s5 σ H5 x1 x2 x5 ov iv new _ I5 r1 r2 r5 q5) fun _ s6 ⟨H6,I6,q6⟩=>⟨σ,H6,I6,q6⟩
def ipI (f:Int->Int->Int):TIp:=fun x y H Q=>∃ i j,x= .int i/\y= .int j/\Q (.int (f i j)) H
theorem Zpu:PIp X .Add (ipI fun i j=>i+j):=by
 intro pins s σ H x y v u Q I r1 r2 h;obtain⟨i,j,e1,e2,q⟩:=h;subst e1;subst e2;obtain⟨t,rfl⟩:=r1;obtain⟨t',rfl⟩:=r2;exact iadd_int ⟨.int _,H,I.tok _,⟨_,rfl⟩,q⟩
theorem Zpt:PIp X .Sub (ipI fun i j=>i-j):=by
 intro pins s σ H x y v u Q I r1 r2 h;obtain⟨i,j,e1,e2,q⟩:=h;subst e1;subst e2;obtain⟨t,rfl⟩:=r1;obtain⟨t',rfl⟩:=r2;exact isub_int ⟨.int _,H,I.tok _,⟨_,rfl⟩,q⟩
def Zfw (c:TT) (tb:TS):TS:=fun D σ H=>∃ W:Nat->St->Hp->Prop,(∃ m,W m σ H)/\∀ m σ H,W m σ H ->
 c σ H fun b H1=>if b=true then ∃ N:St->Hp->Prop,(∀ σ' H',N σ' H'->∃ m',m'<m/\W m' σ' H')/\tb {D with nx:=N,ct:=N,bk:=D.nx} σ H1 else D.nx σ H1
theorem X9 {body:List Stmt} {tc:TT} (hp:PassesOwn (model X.prog X.w) X.A X.env X.xe) (hc:PT X c tc) (hb:PSs X body tb):PS X (.While c body [] pos) (Zfw tc tb):=by
 intro pins s σ H D I h;obtain⟨W,⟨m0,w0⟩,turn⟩:=h;refine wpAny_While (codeAny_whileLoop (fun n s'=>∃ σ' H',Inv X pins σ' H' s'/\W n σ' H') ?_ m0 ⟨σ,H,I,w0⟩);rintro n s1 ⟨σ1,H1,I1,w1⟩;refine wpAny_passesOwn hp (thn (hc pins s1 σ1 H1 _ I1 (turn n σ1 H1 w1)) fun b s2 ⟨H2,I2,q2⟩=>?_);cases b with
 | true =>
  obtain⟨N,hN,q2⟩:=q2;rw[if_pos rfl];refine wpAny_passesOwn hp (thn (hb pins s2 σ1 H2 _ I2 q2) fun f s3 q3=>?_);cases f with
  | next =>
   obtain⟨σ3,H3,I3,n3⟩:=q3;obtain⟨m',hm,w3⟩:=hN σ3 H3 n3;exact⟨m',hm,σ3,H3,I3,w3⟩
  | cont =>
   obtain⟨σ3,H3,I3,n3⟩:=q3;obtain⟨m',hm,w3⟩:=hN σ3 H3 n3;exact⟨m',hm,σ3,H3,I3,w3⟩
  | brk=>exact q3
  | ret v=>exact q3
 | false =>
  rw[if_neg QI];exact wpAny_execs_nil ⟨σ1,H2,I2,q2⟩
end
structure It where
 go:Nat->Hp->Prop
 yld:Nat->Hp->V->Hp->Prop
 stop:Nat->Hp->Prop
def Zfj (X:Cx) (pins:List (Addr×Obj)) (H:Hp) (b:Addr):Prop :=
 H b=none/\b≠X.env.locals/\b∉X.fs/\(b∈X.ex\/X.s₀.heap.objs.size<=b)/\(∀ x c,X.env.cells.lookup x=some c->c≠b)/\∀ p∈X.pn++pins,p.1≠b
theorem Inv.fpOk {b:Addr} (I:Inv X pins σ H s) (hb:s.heap.objs.size<=b) (hn:H' b=none):Zfj X pins H' b:=by
 refine⟨hn,Rg (QS I.lt hb),I.nofs hb,.inr (QY I.sz hb),fun x c e z=>?_,fun p hp z=>?_⟩
 ·obtain⟨v,q⟩:=I.cell x c e;exact absurd (QS q.lt (by rw[z];exact hb)) (Wi _)
 ·exact absurd (QS (Qs (I.pin p hp).1) (by rw[z];exact hb)) (Wi _)
structure ZmM (P:Program) (w:World) (K:PySem.W.Frag) (tg:Expr) (J:It) (fp:List Addr) (it:Addr) (tn:Nat->Heap->Prop):Prop where
 mem:it∈fp
 obj:∀ i h,tn i h->∀ b∈fp,∃ o,h.get? b=some o/\∀ v,o.data≠.cell v
 keep:∀ i h h',tn i h->(∀ b∈fp,∀ o,h.get? b=some o->h'.get? b=some o)->tn i h'
 item:∀ (X:Cx),X.prog=P->X.w=w->X.K=K->X.calm=true->∀ (i:Nat) (pins:List (Addr×Obj)) (s:Shared) (σ:St) (H:Hp) (E:Value->Shared->Prop),Inv X pins σ H s->(∀ b∈fp,Zfj X pins H b)->tn i s.heap->J.go i H ->
  wpAny (model P w) X.A (pyNext (.ref it)) (fun r s1=>∃ u,r=some u /\
   wpAny (model P w) X.A (letOwnedTupleGo tg (.ref it) u) (fun _ s2=>∃ x H',Inv X pins σ H' s2/\RelV x u/\J.yld i H x H'/\tn (i+1) s2.heap/\∀ b∈fp,H' b=none) E s1) E s
 done:∀ (X:Cx),X.prog=P->X.w=w->X.K=K->X.calm=true->∀ (i:Nat) (pins:List (Addr×Obj)) (s:Shared) (σ:St) (H:Hp) (E:Value->Shared->Prop),Inv X pins σ H s->(∀ b∈fp,Zfj X pins H b)->tn i s.heap->J.stop i H ->
  wpAny (model P w) X.A (pyNext (.ref it)) (fun r s1=>r=none/\Inv X pins σ H s1) E s
 self:∀ (A:Around) (i:Nat) (s:Shared) (Q:Value->Shared->Prop) (E:Value->Shared->Prop),tn i s.heap->Q (.ref it) s->wpAny (model P w) A (pyIter (.ref it)) Q E s
abbrev TI:=St->Hp->(It->Hp->Prop)->Prop
def PIE (X:Cx) (pins:List (Addr×Obj)) (σ:St) (tg:Expr) (R:It->Hp->Prop) (itv:Value) (s2:Shared):Prop :=
 ∃ (it:Addr) (fp:List Addr) (tn:Nat->Heap->Prop) (J:It) (H':Hp),itv= .ref it/\Inv X pins σ H' s2/\ZmM X.prog X.w X.K tg J fp it tn/\tn 0 s2.heap/\(∀ b∈fp,Zfj X pins H' b)/\R J H'
def PI (X:Cx) (tg iter:Expr) (wi:TI):Prop :=
 ∀ (pins:List (Addr×Obj)) (s:Shared) (σ:St) (H:Hp) (R:It->Hp->Prop),Inv X pins σ H s->wi σ H R ->
  wpAny (model X.prog X.w) X.A (eval iter X.env) (fun v s1=>wpAny (model X.prog X.w) X.A (pyIter v) (PIE X pins σ tg R) X.xe s1) X.xe s
theorem Zlz {M:Model} {it:Addr} {n:String} {vs:Array Value} {Q:Unit->Shared->Prop} (ho:s.heap.get? it=some o) (hc:o.cls= .type n) (hd:o.data= .fields vs)
  (hn:["enumerate","zip","dict_itemiterator","dict_reverseitemiterator","odict_iterator","itertools.zip_longest","itertools.pairwise"].contains n=false) (hQ:Q () s):wpAny M A (letOwnedTupleGo tg (.ref it) u) Q E s:=by
 unfold letOwnedTupleGo;cases tg <;> first
  | exact wpAny_pure hQ
  | (cases u <;> first
    | exact wpAny_pure hQ
    | (refine wpAny_bind (wpAny_load ho ?_)
       rw[hc,hd];show wpAny M A (if (["enumerate","zip","dict_itemiterator","dict_reverseitemiterator","odict_iterator","itertools.zip_longest","itertools.pairwise"].contains n&&vs[0]? == some (rawInt _))=true then _ else _) Q E s;rw[if_neg (by intro h;rw[hn,VR]at h;cases h)];exact wpAny_pure hQ))
def Itl (K:PySem.W.Frag) (a:Addr):It :=
 ⟨fun i H=>∃ xs x,SqL K H a xs/\xs[i]?=some x,fun i H x H'=>H'=H/\∀ xs,SqL K H a xs->xs[i]?=some x,fun i H=>∃ xs,SqL K H a xs/\xs.length<=i⟩
def Itt (K:PySem.W.Frag) (a:Addr):It :=
 ⟨fun i H=>∃ xs x,SqT K H a xs/\xs[i]?=some x,fun i H x H'=>H'=H/\∀ xs,SqT K H a xs->xs[i]?=some x,fun i H=>∃ xs,SqT K H a xs/\xs.length<=i⟩
def Itr (lo:Int) (n:Nat):It:=⟨fun i _=>i<n,fun i H x H'=>H'=H/\x= .int (lo+i),fun i _=>n<=i⟩
theorem ZhK {P:Program} {w:World} {K:PySem.W.Frag} (a it:Addr):ZmM P w K tg (Itl K a) [it] it (fun i h=>h.IsListIter it a i) where
 mem:=by simp
 obj:=fun i h st b hb=>by
  have e:b=it:=by simpa using hb
  subst e;obtain⟨o,e,c,d⟩:=st;exact⟨o,e,fun v z=>by rw[d]at z;cases z⟩
 keep:=fun i h h' st k=>st.at fun o e=>k it (by simp) o e
 item:=by
  intro X hP hw hK hc i pins s σ H E I hf st hg;subst hP hw hK;obtain⟨xs,x,hq,hx⟩:=hg;obtain⟨its,rv,p,hz⟩:=I.list hq;obtain⟨u,hu,ru⟩:=rv.get hx;obtain⟨f0,f1,f2,f3,f4,f5⟩:=hf it (by simp);refine wpAny_pyNext_list_item st p.isList (x:=u) (by simpa using hu) fun h' st' sb=>?_;have I1:Inv X pins σ H {s with heap:=h'}:=I.turned (t':=s.toks) (fun b o hb e=>(sb.2 b hb).trans e) f0 f1 f3 f4 f5;obtain⟨o,e,c,d⟩:=id st';exact⟨u,rfl,Zlz (s:={s with heap:=h'}) e c d (by decide) ⟨x,H,I1,ru,⟨rfl,fun ys hy=>by rw[I.list_inj hy hq];exact hx⟩,st',fun b hb=>(hf b hb).1⟩⟩
 done:=by
  intro X hP hw hK hc i pins s σ H E I hf st hg;subst hP hw hK;obtain⟨xs,hq,hx⟩:=hg;obtain⟨its,rv,p,hz⟩:=I.list hq;obtain⟨f0,f1,f2,f3,f4,f5⟩:=hf it (by simp);have hl:=rv.length;exact wpAny_pyNext_list_end (I.ok.hd hc) st p.isList (by simp;omega) fun h' eb=>⟨rfl,I.turned (t':=s.toks) (fun b o hb e=>eb b o hb e) f0 f1 f3 f4 f5⟩
 self:=fun _ _ _ _ _ st h=>wpAny_pyIter_listiter st h
theorem ZgN {P:Program} {w:World} {K:PySem.W.Frag} (a it:Addr):ZmM P w K tg (Itt K a) [it] it (fun i h=>h.IsTupleIter it a i) where
 mem:=by simp
 obj:=fun i h st b hb=>by
  have e:b=it:=by simpa using hb
  subst e;obtain⟨o,e,c,d⟩:=st;exact⟨o,e,fun v z=>by rw[d]at z;cases z⟩
 keep:=fun i h h' st k=>st.at fun o e=>k it (by simp) o e
 item:=by
  intro X hP hw hK hc i pins s σ H E I hf st hg;subst hP hw hK;obtain⟨xs,x,hq,hx⟩:=hg;obtain⟨its,rv,p,hz⟩:=I.tuple hq;obtain⟨u,hu,ru⟩:=rv.get hx;obtain⟨f0,f1,f2,f3,f4,f5⟩:=hf it (by simp);refine wpAny_pyNext_tuple_item st (show s.heap.IsTuple a its.toArray from p) (x:=u) (by simpa using hu) fun h' st' sb=>?_;have I1:Inv X pins σ H {s with heap:=h'}:=I.turned (t':=s.toks) (fun b o hb e=>(sb.2 b hb).trans e) f0 f1 f3 f4 f5;obtain⟨o,e,c,d⟩:=id st';exact⟨u,rfl,Zlz (s:={s with heap:=h'}) e c d (by decide) ⟨x,H,I1,ru,⟨rfl,fun ys hy=>by rw[I.tuple_inj hy hq];exact hx⟩,st',fun b hb=>(hf b hb).1⟩⟩
 done:=by
  intro X hP hw hK hc i pins s σ H E I hf st hg;subst hP hw hK;obtain⟨xs,hq,hx⟩:=hg;obtain⟨its,rv,p,hz⟩:=I.tuple hq;obtain⟨f0,f1,f2,f3,f4,f5⟩:=hf it (by simp);have hl:=rv.length;exact wpAny_pyNext_tuple_end (I.ok.hd hc) st (show s.heap.IsTuple a its.toArray from p) (by simp;omega) fun h' eb=>⟨rfl,I.turned (t':=s.toks) (fun b o hb e=>eb b o hb e) f0 f1 f3 f4 f5⟩
 self:=fun _ _ _ _ _ st h=>wpAny_pyIter_tupleiter st h
theorem ZgO {P:Program} {w:World} {K:PySem.W.Frag} (it:Addr) (lo:Int) (n:Nat):ZmM P w K tg (Itr lo n) [it] it (fun i h=>IsRangeIter h it (lo+(i:Nat)*1) ((n:Int)-(i:Nat)) 1) where
 mem:=by simp
 obj:=fun i h st b hb=>by
  have e:b=it:=by simpa using hb
  subst e;exact⟨_,st,fun v z=>by
   have z':Data.fields _=Data.cell v:=z;cases z'⟩
 keep:=fun i h h' st k=>k it (by simp) _ st
 item:=by
  intro X hP hw hK hc i pins s σ H E I hf st hg;subst hP hw hK;obtain⟨f0,f1,f2,f3,f4,f5⟩:=hf it (by simp);have W:=Walks.range (prog:=X.prog) (w:=X.w) (I.ok.hd hc) it lo 1 n;refine W.item i s _ _ hg st fun v h' tk hv st' kk=>?_;obtain⟨t,rfl⟩:=hv;have I1:Inv X pins σ H {s with heap:=h',toks:=tk}:=I.turned (fun b o hb e=>kk b o (by simpa using hb) e) f0 f1 f3 f4 f5;refine⟨_,rfl,Zlz (s:={s with heap:=h',toks:=tk}) (n:="range_iterator") st' rfl rfl (by decide) ⟨.int (lo+i),H,I1,⟨t,?_⟩,⟨rfl,rfl⟩,st',fun b hb=>(hf b hb).1⟩⟩;rw[UU]
 done:=by
  intro X hP hw hK hc i pins s σ H E I hf st hg;subst hP hw hK;obtain⟨f0,f1,f2,f3,f4,f5⟩:=hf it (by simp);exact wpAny_pyNext_range_end (I.ok.hd hc) st (by have:n<=i:=hg;omega) fun h' eb=>⟨rfl,I.turned (t':=s.toks) (fun b o hb e=>eb b o hb e) f0 f1 f3 f4 f5⟩
 self:=fun _ _ _ _ _ st h=>wpAny_pyIter_rangeiter st h
section
variable {X:Cx} {tg:Expr}
def Zqx (K:PySem.W.Frag) (tl:TE):TI:=fun σ H R=>tl σ H fun x H1=>∃ a,x= .ref a/\(∃ xs,SqL K H1 a xs)/\R (Itl K a) H1
def Zrj (K:PySem.W.Frag) (tl:TE):TI:=fun σ H R=>tl σ H fun x H1=>∃ a,x= .ref a/\(∃ xs,SqT K H1 a xs)/\R (Itt K a) H1
theorem ZU {l:Expr} {tl:TE} (hl:PE X l tl):PI X tg l (Zqx X.K tl):=by
 intro pins s σ H R I h;refine thn (hl pins s σ H _ I h) fun v s1 ⟨x,H1,I1,r1,q1⟩=>?_;obtain⟨a,e,⟨xs,hq⟩,q⟩:=q1;subst e;cases r1;obtain⟨its,rv,p,hz⟩:=I1.list hq;refine wpAny_pyIter_list p.isList ?_;refine⟨s1.heap.objs.size,[s1.heap.objs.size],_,_,H1,rfl,I1.kept (t':=s1.toks) fun b o e=>Qg _ e,ZhK a _,⟨_,Qy _ rfl,rfl,rfl⟩,fun b hb=>?_,q⟩;have e:b=s1.heap.objs.size:=by simpa using hb
 subst e;exact I1.fpOk (Qk _) (I1.hok.fresh (Qk _))
theorem Yy {l:Expr} {tl:TE} (hl:PE X l tl):PI X tg l (Zrj X.K tl):=by
 intro pins s σ H R I h;refine thn (hl pins s σ H _ I h) fun v s1 ⟨x,H1,I1,r1,q1⟩=>?_;obtain⟨a,e,⟨xs,hq⟩,q⟩:=q1;subst e;cases r1;obtain⟨its,rv,p,hz⟩:=I1.tuple hq;refine wpAny_pyIter_tuple (show s1.heap.IsTuple a its.toArray from p) ?_;refine⟨s1.heap.objs.size,[s1.heap.objs.size],_,_,H1,rfl,I1.kept (t':=s1.toks) fun b o e=>Qg _ e,ZgN a _,⟨_,Qy _ rfl,rfl,rfl⟩,fun b hb=>?_,q⟩;have e:b=s1.heap.objs.size:=by simpa using hb
 subst e;exact I1.fpOk (Qk _) (I1.hok.fresh (Qk _))
theorem ZfN {R:It->Hp->Prop} {lo hi:Int} {t u v:Tok} {tk:Nat} (I:Inv X pins σ H s) (h1 : -(2 ^ 62)<=lo) (h2:lo<2 ^ 62) (h3 : -(2 ^ 62)<=hi) (h4:hi<2 ^ 62)
  (q:R (Itr lo (hi-lo).toNat) H):wpAny (model X.prog X.w) X.A (pyIter (.ref s.heap.objs.size)) (PIE X pins σ tg R) E {s with heap:=s.heap.push {cls:=.type "range",data:=.fields #[.int lo t,.int hi u,.int 1 v]},toks:=tk}:=by
 refine wpAny_pyIter_range (IsRange.new ..) (small_one h1 h2 h3 h4) ?_;have I1:Inv X pins σ H {s with heap:=s.heap.push {cls:=.type "range",data:=.fields #[.int lo t,.int hi u,.int 1 v]},toks:=tk}:=I.kept fun b o e=>Qg _ e;refine⟨(s.heap.push {cls:=.type "range",data:=.fields #[.int lo t,.int hi u,.int 1 v]}).objs.size,[(s.heap.push {cls:=.type "range",data:=.fields #[.int lo t,.int hi u,.int 1 v]}).objs.size],_,_,H,rfl,
  I1.kept (t':=tk) fun b o e=>Qg _ e,ZgO _ lo (hi-lo).toNat,?_,fun b hb=>?_,q⟩
 ·have e1:lo+((0:Nat):Int)*1=lo:=by simp
  have e2:(((hi-lo).toNat:Nat):Int)-((0:Nat):Int)=Builtin.Range.rangeSize lo hi 1:=by rw[rangeSize_one];split <;> omega
  show IsRangeIter _ _ (lo+((0:Nat):Int)*1) ((((hi-lo).toNat:Nat):Int)-((0:Nat):Int)) 1;rw[e1,e2];exact Qy _ rfl
 ·have e:b=(s.heap.push {cls:=.type "range",data:=.fields #[.int lo t,.int hi u,.int 1 v]}).objs.size:=by simpa using hb
  subst e;exact I1.fpOk (Qk _) (I1.hok.fresh (Qk _))
def Zqv (ta:TA):TI:=fun σ H R=>ta σ H fun vs H1=>∃ j:Int,vs=[.int j]/\-(2 ^ 62)<=j/\j<2 ^ 62/\R (Itr 0 j.toNat) H1
def Zqu (ta:TA):TI:=fun σ H R=>ta σ H fun vs H1=>∃ i j:Int,vs=[.int i,.int j]/\(-(2 ^ 62)<=i/\i<2 ^ 62/\-(2 ^ 62)<=j/\j<2 ^ 62)/\R (Itr i (j-i).toNat) H1
theorem Yj {a:Expr} {ta:TA} {p:Pos} (hg:Gl X "range") (hm:X.mg "range" = none) (ha:PA X [a] ta) (hs:starEach [a] X.env=[(false,eval a X.env)]:=by rfl):PI X tg (.Call (.Name "range" p) [a] [] pos) (Zqv ta):=by
 intro pins s σ H R I h;refine Call_ (XN I hg hm boot_range (PyProof.Rows.callWith_type1 (thn (ha pos pins s σ H _ I h) fun us s1 ⟨vs,H1,I1,r1,q1⟩=>?_) hs rfl));obtain⟨j,e,q1,q2,q⟩:=q1;subst e;cases r1 with
 | cons r rr =>
  cases rr;obtain⟨t,rfl⟩:=r;exact call_range_1 (ZfN I1 (by omega) (by omega) q1 q2 (by simpa using q))
theorem Zdj {a b:Expr} {ta:TA} {p pos:Pos} (hg:Gl X "range") (hm:X.mg "range" = none) (ha:PA X [a,b] ta) (hs:starEach [a,b] X.env=[(false,eval a X.env),(false,eval b X.env)]:=by rfl) (hs2:starEach [b] X.env=[(false,eval b X.env)]:=by rfl) :
  PI X tg (.Call (.Name "range" p) [a,b] [] pos) (Zqu ta):=by
 intro pins s σ H R I h;refine Call_ (XN I hg hm boot_range (PyProof.Rows.callWith_type1 (thn (ha pos pins s σ H _ I h) fun us s1 ⟨vs,H1,I1,r1,q1⟩=>?_) (by rw[hs,hs2]) (by rw[hs2];rfl)));obtain⟨i,j,e,⟨q1,q2,q3,q4⟩,q⟩:=q1;subst e;cases r1 with
 | cons r rr =>
  cases rr with
  | cons r' rr =>
   cases rr;obtain⟨t,rfl⟩:=r;obtain⟨t',rfl⟩:=r';exact call_range_2 (ZfN I1 q1 q2 q3 q4 q)
def Zq7 (wi:TI) (g:TG) (tb:TS):TS:=fun D σ H=>wi σ H fun J H1=>∃ W:Nat->Nat->St->Hp->Prop,(∃ m,W 0 m σ H1)/\∀ i m σ H,W i m σ H ->
 (J.stop i H/\D.nx σ H)\/(J.go i H/\∃ N:St->Hp->Prop,(∀ σ' H',N σ' H'->∃ m',m'<m/\W (i+1) m' σ' H')/\∀ x H',J.yld i H x H'->g x σ H' fun σ2 H2=>tb {D with nx:=N,ct:=N,bk:=D.nx} σ2 H2)
def Zdi (fp:List Addr) (h:Heap):List (Addr×Obj):=fp.filterMap fun b=>(h.get? b).map fun o=>(b,o)
theorem XC {b:Addr} (hb:b∈fp) (e:h.get? b=some o):(b,o)∈Zdi fp h:=RA.mpr ⟨b,hb,by rw[e];rfl⟩
theorem Zje {p:Addr×Obj} (hp:p∈Zdi fp h):p.1∈fp/\h.get? p.1=some p.2:=by
 obtain⟨b,hb,e⟩:=RA.mp hp;cases q:h.get? b with
 | none=>rw[q]at e;cases e
 | some o =>
  rw[q]at e;have e':(b,o)=p:=Option.some.inj e;subst e';exact⟨hb,q⟩
theorem Inv.pinned (I:Inv X pins σ H s) (hf:∀ b∈fp,Zfj X pins H b) (ho:∀ b∈fp,∃ o,s.heap.get? b=some o/\∀ v,o.data≠.cell v):Inv X (pins++Zdi fp s.heap) σ H s :=
 I.pins_of fun p hp=>(QE.mp hp).elim (fun z=>I.pin p (Q4 _ z)) fun z=>by
  obtain⟨hb,e⟩:=Zje z;obtain⟨f0,f1,f2,_⟩:=hf p.1 hb;obtain⟨o,e',d⟩:=ho p.1 hb;rw[e]at e';cases e';exact⟨e,f0,f1,f2,d⟩
theorem Inv.unpinned {pl:List (Addr×Obj)} (I:Inv X (pins++pl) σ H s):Inv X pins σ H s:=I.pins_of fun p hp=>I.pin p (Q4 _ (Q0 _ hp))
theorem ZY {iter:Expr} {body:List Stmt} {wi:TI} (hp:PassesOwn (model X.prog X.w) X.A X.env X.xe) (hc:X.calm=true) (hi:PI X tg iter wi) (hg:PG X tg g) (hb:PSs X body tb)
  (hs:∀ x,foldedSetIterable iter X.env x=pure x:=by intro _;rfl):PS X (.For tg iter body [] pos) (Zq7 wi g tb):=by
 intro pins s σ H D I h;refine wpAny_For (thn (hi pins s σ H _ I h) fun v s1 h1=>thn h1 fun itv s2 h2=>?_) hs;obtain⟨it,fp,tn,J,H2,e,I2,T,st2,f2,W,⟨m0,w0⟩,turn⟩:=h2;subst e
 -- what stays true of the iterator's objects through the loop
 have stat:∀ {H':Hp},(∀ b∈fp,H' b=none)->∀ b∈fp,Zfj X pins H' b:=fun hn b hb=>⟨hn b hb,(f2 b hb).2⟩
 refine codeAny_forLoop_any (fun n s'=>∃ i σ' H',Inv X pins σ' H' s'/\tn i s'.heap/\(∀ b∈fp,H' b=none)/\W i n σ' H') ?_ m0 ⟨0,σ,H2,I2,st2,fun b hb=>(f2 b hb).1,w0⟩;rintro n s3 ⟨i,σ3,H3,I3,st3,fr3,w3⟩;rcases turn i n σ3 H3 w3 with ⟨stop,qn⟩ | ⟨go,N,hN,step⟩
 ·refine wpAny_passesOwn hp (thn (T.done X rfl rfl rfl hc i pins s3 σ3 H3 X.xe I3 (stat fr3) st3 stop) fun r s4 ⟨hr,I4⟩=>?_);subst hr;exact wpAny_execs_nil ⟨σ3,H3,I4,qn⟩
 ·refine wpAny_passesOwn hp (thn (T.item X rfl rfl rfl hc i pins s3 σ3 H3 X.xe I3 (stat fr3) st3 go) fun r s4 ⟨u,hr,h4⟩=>?_);subst hr;refine wpAny_passesOwn hp (thn h4 fun _ s5 ⟨x,H5,I5,r5,y5,st5,fr5⟩=>?_);have I5':=I5.pinned (stat fr5) (T.obj _ _ st5);refine wpAny_passesOwn hp (thn (hg _ s5 σ3 H5 x u _ I5' r5 (step x H5 y5)) fun _ s6 ⟨σ6,H6,I6,q6⟩=>?_);refine wpAny_passesOwn hp (thn (hb _ s6 σ6 H6 _ I6 q6) fun f s7 q7=>?_);have again:∀ {σ7:St} {H7:Hp},Inv X (pins++Zdi fp s5.heap) σ7 H7 s7->N σ7 H7->∃ m,m<n/\∃ i σ' H',Inv X pins σ' H' s7/\tn i s7.heap/\(∀ b∈fp,H' b=none)/\W i m σ' H':=fun {σ7 H7} I7 n7=>by
   obtain⟨m',hm,w7⟩:=hN σ7 H7 n7;refine⟨m',hm,i+1,σ7,H7,I7.unpinned,T.keep _ _ _ st5 fun b hb o e=>(I7.pin (b,o) (Q4 _ (Q4 _ (XC hb e)))).1,fun b hb=>?_,w7⟩;obtain⟨o,e,d⟩:=T.obj _ _ st5 b hb;exact(I7.pin (b,o) (Q4 _ (Q4 _ (XC hb e)))).2.1
  cases f with
  | next=>obtain⟨σ7,H7,I7,n7⟩:=q7;exact again I7 n7
  | cont=>obtain⟨σ7,H7,I7,n7⟩:=q7;exact again I7 n7
  | brk=>obtain⟨σ7,H7,I7,q7⟩:=q7;exact⟨σ7,H7,I7.unpinned,q7⟩
  | ret v=>obtain⟨x7,σ7,H7,I7,r7,q7⟩:=q7;exact⟨x7,σ7,H7,I7.unpinned,r7,q7⟩
end
theorem YK {K:PySem.W.Frag} {D:Zhx} (Pv:Nat->St->Hp->Prop) (h0:Pv 0 σ H) (hl:∀ i σ H,i<=xs.length->Pv i σ H->SqL K H a xs)
  (hs:∀ i x σ H,xs[i]?=some x->Pv i σ H->g x σ H fun σ2 H2=>tb {D with nx:=Pv (i+1),ct:=Pv (i+1),bk:=D.nx} σ2 H2) (hd:∀ σ H,Pv xs.length σ H->D.nx σ H) :
  ∃ W:Nat->Nat->St->Hp->Prop,(∃ m,W 0 m σ H)/\∀ i m σ H,W i m σ H ->
   ((Itl K a).stop i H/\D.nx σ H)\/((Itl K a).go i H/\∃ N:St->Hp->Prop,(∀ σ' H',N σ' H'->∃ m',m'<m/\W (i+1) m' σ' H')/\∀ x H',(Itl K a).yld i H x H'->g x σ H' fun σ2 H2=>tb {D with nx:=N,ct:=N,bk:=D.nx} σ2 H2):=by
 refine⟨fun i m σ H=>m=xs.length-i/\i<=xs.length/\Pv i σ H,⟨xs.length,by simp,QO _,h0⟩,?_⟩;rintro i m σ H ⟨rfl,hi,p⟩;have q:=hl i σ H hi p;by_cases hlt:i<xs.length
 ·refine .inr ⟨⟨xs,xs[i],q,by simp[hlt]⟩,Pv (i+1),fun σ' H' p'=>⟨xs.length-(i+1),by omega,rfl,hlt,p'⟩,fun x H' y=>?_⟩;obtain⟨e,y⟩:=y;subst e;exact hs i x σ _ (y xs q) p
 ·have e:i=xs.length:=by omega
  subst e;exact .inl ⟨⟨xs,q,Qk _⟩,hd σ H p⟩
theorem XY {K:PySem.W.Frag} {D:Zhx} (Pv:Nat->St->Hp->Prop) (h0:Pv 0 σ H) (hl:∀ i σ H,i<=xs.length->Pv i σ H->SqT K H a xs)
  (hs:∀ i x σ H,xs[i]?=some x->Pv i σ H->g x σ H fun σ2 H2=>tb {D with nx:=Pv (i+1),ct:=Pv (i+1),bk:=D.nx} σ2 H2) (hd:∀ σ H,Pv xs.length σ H->D.nx σ H) :
  ∃ W:Nat->Nat->St->Hp->Prop,(∃ m,W 0 m σ H)/\∀ i m σ H,W i m σ H ->
   ((Itt K a).stop i H/\D.nx σ H)\/((Itt K a).go i H/\∃ N:St->Hp->Prop,(∀ σ' H',N σ' H'->∃ m',m'<m/\W (i+1) m' σ' H')/\∀ x H',(Itt K a).yld i H x H'->g x σ H' fun σ2 H2=>tb {D with nx:=N,ct:=N,bk:=D.nx} σ2 H2):=by
 refine⟨fun i m σ H=>m=xs.length-i/\i<=xs.length/\Pv i σ H,⟨xs.length,by simp,QO _,h0⟩,?_⟩;rintro i m σ H ⟨rfl,hi,p⟩;have q:=hl i σ H hi p;by_cases hlt:i<xs.length
 ·refine .inr ⟨⟨xs,xs[i],q,by simp[hlt]⟩,Pv (i+1),fun σ' H' p'=>⟨xs.length-(i+1),by omega,rfl,hlt,p'⟩,fun x H' y=>?_⟩;obtain⟨e,y⟩:=y;subst e;exact hs i x σ _ (y xs q) p
 ·have e:i=xs.length:=by omega
  subst e;exact .inl ⟨⟨xs,q,Qk _⟩,hd σ H p⟩
theorem Y0 {lo:Int} {D:Zhx} (Pv:Nat->St->Hp->Prop) (h0:Pv 0 σ H)
  (hs:∀ i σ H,i<n->Pv i σ H->g (.int (lo+i)) σ H fun σ2 H2=>tb {D with nx:=Pv (i+1),ct:=Pv (i+1),bk:=D.nx} σ2 H2) (hd:∀ σ H,Pv n σ H->D.nx σ H) :
  ∃ W:Nat->Nat->St->Hp->Prop,(∃ m,W 0 m σ H)/\∀ i m σ H,W i m σ H ->
   ((Itr lo n).stop i H/\D.nx σ H)\/((Itr lo n).go i H/\∃ N:St->Hp->Prop,(∀ σ' H',N σ' H'->∃ m',m'<m/\W (i+1) m' σ' H')/\∀ x H',(Itr lo n).yld i H x H'->g x σ H' fun σ2 H2=>tb {D with nx:=N,ct:=N,bk:=D.nx} σ2 H2):=by
 refine⟨fun i m σ H=>m=n-i/\i<=n/\Pv i σ H,⟨n,by simp,QO _,h0⟩,?_⟩;rintro i m σ H ⟨rfl,hi,p⟩;by_cases hlt:i<n
 ·refine .inr ⟨hlt,Pv (i+1),fun σ' H' p'=>⟨n-(i+1),by omega,rfl,hlt,p'⟩,fun x H' y=>?_⟩;obtain⟨e,y⟩:=y;subst e y;exact hs i σ _ hlt p
 ·have e:i=n:=by omega
  subst e;exact .inl ⟨Qk _,hd σ H p⟩
theorem Zkm {c:TT} {D:Zhx} (Pv:St->Hp->Prop) (μ:St->Hp->Nat) (h0:Pv σ H)
  (hs:∀ σ H,Pv σ H->c σ H fun b H1=>if b=true then tb {D with nx:=fun σ' H'=>Pv σ' H'/\μ σ' H'<μ σ H,ct:=fun σ' H'=>Pv σ' H'/\μ σ' H'<μ σ H,bk:=D.nx} σ H1 else D.nx σ H1)
  (mono:∀ σ H Q Q',(∀ b H1,Q b H1->Q' b H1)->c σ H Q->c σ H Q'):Zfw c tb D σ H:=by
 refine⟨fun m σ H=>m=μ σ H/\Pv σ H,⟨_,rfl,h0⟩,?_⟩;rintro m σ H ⟨rfl,p⟩;refine mono σ H _ _ (fun b H1 q=>?_) (hs σ H p);cases b with
 | true=>exact⟨_,fun σ' H' ⟨p',l⟩=>⟨_,l,rfl,p'⟩,q⟩
 | false=>exact q
abbrev R2:=V->V->Hp->VK->Prop
def OpR (X:Cx) (f:Value->Value->Sem Value) (r:R2):Prop :=
 ∀ (pins:List (Addr×Obj)) (s:Shared) (σ:St) (H:Hp) (x y:V) (v u:Value) (Q:VK),Inv X pins σ H s->RelV x v->RelV y u->r x y H Q ->
  wpAny (model X.prog X.w) X.A (f v u) (EP X pins σ Q) X.xe s
def UnR (X:Cx) (f:Value->Sem Value) (r:V->Hp->VK->Prop):Prop :=
 ∀ (pins:List (Addr×Obj)) (s:Shared) (σ:St) (H:Hp) (x:V) (v:Value) (Q:VK),Inv X pins σ H s->RelV x v->r x H Q ->
  wpAny (model X.prog X.w) X.A (f v) (EP X pins σ Q) X.xe s
def CallR (X:Cx) (f:Value) (r:List V->Hp->VK->Prop):Prop :=
 ∀ (pins:List (Addr×Obj)) (s:Shared) (σ:St) (H:Hp) (xs:List V) (us:List Value) (Q:VK),Inv X pins σ H s->Vals xs us->r xs H Q ->
  wpAny (model X.prog X.w) X.A (call f us) (EP X pins σ Q) X.xe s
def Zrq (X:Cx) (r:V->Hp->(Bool->Hp->Prop)->Prop):Prop :=
 ∀ (pins:List (Addr×Obj)) (s:Shared) (σ:St) (H:Hp) (x:V) (v:Value) (Q:Bool->Hp->Prop),Inv X pins σ H s->RelV x v->r x H Q ->
  wpAny (model X.prog X.w) X.A (truthy v) (TP X pins σ Q) X.xe s
def tOp (r:R2) (ta tb:TE):TE:=fun σ H Q=>ta σ H fun x H1=>tb σ H1 fun y H2=>r x y H2 Q
def tUn (r:V->Hp->VK->Prop) (ta:TE):TE:=fun σ H Q=>ta σ H fun x H1=>r x H1 Q
def rI (C:Int->Int->Prop) (g:Int->Int->V):R2:=fun x y H Q=>∃ i j,x= .int i/\y= .int j/\C i j/\Q (g i j) H
def rI0 (g:Int->Int->V):R2:=fun x y H Q=>∃ i j,x= .int i/\y= .int j/\Q (g i j) H
def rU (g:Int->V):V->Hp->VK->Prop:=fun x H Q=>∃ i,x= .int i/\Q (g i) H
section
variable {X:Cx} {a b c:Expr} {ta tb tc:TE} {pos:Pos}
theorem ZqE (ha:PE X a ta) (hb:PE X b tb) {R:V->V->Hp->Prop} (I:Inv X pins σ H s)
  (h:ta σ H fun x H1=>tb σ H1 fun y H2=>R x y H2) {Q:Value->Shared->Prop} {f:Value->Value->Sem Value}
  (hf:∀ v u s2 x y H2,Inv X pins σ H2 s2->RelV x v->RelV y u->R x y H2->wpAny (model X.prog X.w) X.A (f v u) Q X.xe s2) :
  wpAny (model X.prog X.w) X.A (eval a X.env) (fun v s₁=>wpAny (model X.prog X.w) X.A (eval b X.env) (fun u s₂=>wpAny (model X.prog X.w) X.A (f v u) Q X.xe s₂) X.xe s₁) X.xe s:=by
 refine thn (ha pins s σ H _ I h) fun v s1 ⟨x,H1,I1,r1,q1⟩=>?_;refine thn (hb pins s1 σ H1 _ I1 q1) fun u s2 ⟨y,H2,I2,r2,q2⟩=>?_;exact hf v u s2 x y H2 I2 r1 r2 q2
theorem Zn {op:Operator} {r:R2} (ho:OpR X (binaryOp op) r) (ha:PE X a ta) (hb:PE X b tb):PE X (.BinOp a op b pos) (tOp r ta tb):=by
 intro pins s σ H Q I h;exact wpAny_BinOp (ZqE ha hb I h fun v u s2 x y H2 I2 rx ry q=>ho pins s2 σ H2 x y v u Q I2 rx ry q)
theorem Za4 {op:UnaryOp} {r:V->Hp->VK->Prop} (ho:UnR X (unaryOp op) r) (ha:PE X a ta):PE X (.UnaryOp op a pos) (tUn r ta):=by
 intro pins s σ H Q I h;exact UnaryOp_ (thn (ha pins s σ H _ I h) fun v s1 ⟨x,H1,I1,r1,q1⟩=>ho pins s1 σ H1 x v Q I1 r1 q1)
theorem opI {f:Value->Value->Sem Value} {C:Int->Int->Prop} {g:Int->Int->Int}
  (rule:∀ (i j:Int) (t u:Tok) (s:Shared) (Q:Value->Shared->Prop) (E:Value->Shared->Prop),C i j->Q (.int (g i j) s.toks) {s with toks:=s.toks+1}->wpAny (model X.prog X.w) X.A (f (.int i t) (.int j u)) Q E s) :
  OpR X f (rI C fun i j=>.int (g i j)):=by
 intro pins s σ H x y v u Q I rx ry h;obtain⟨i,j,rfl,rfl,hc,q⟩:=h;obtain⟨t,rfl⟩:=rx;obtain⟨t',rfl⟩:=ry;exact rule i j t t' s _ _ hc ⟨.int (g i j),H,I.tok _,⟨_,rfl⟩,q⟩
theorem ZqU {f:Value->Value->Sem Value} {g:Int->Int->Int}
  (rule:∀ (i j:Int) (t u:Tok) (s:Shared) (Q:Value->Shared->Prop) (E:Value->Shared->Prop),Q (.int (g i j) s.toks) {s with toks:=s.toks+1}->wpAny (model X.prog X.w) X.A (f (.int i t) (.int j u)) Q E s) :
  OpR X f (rI0 fun i j=>.int (g i j)):=by
 intro pins s σ H x y v u Q I rx ry h;obtain⟨i,j,rfl,rfl,q⟩:=h;obtain⟨t,rfl⟩:=rx;obtain⟨t',rfl⟩:=ry;exact rule i j t t' s _ _ ⟨.int (g i j),H,I.tok _,⟨_,rfl⟩,q⟩
theorem Zqo {f:Value->Value->Sem Value} {g:Int->Int->Bool}
  (rule:∀ (i j:Int) (t u:Tok) (s:Shared) (Q:Value->Shared->Prop) (E:Value->Shared->Prop),Q (.bool (g i j)) s->wpAny (model X.prog X.w) X.A (f (.int i t) (.int j u)) Q E s) :
  OpR X f (rI0 fun i j=>.bl (g i j)):=by
 intro pins s σ H x y v u Q I rx ry h;obtain⟨i,j,rfl,rfl,q⟩:=h;obtain⟨t,rfl⟩:=rx;obtain⟨t',rfl⟩:=ry;exact rule i j t t' s _ _ ⟨.bl (g i j),H,I,rfl,q⟩
def Zrt (i j:Int):Prop:=0<j/\j<1073741824
def Zrs (i j:Int):Prop:=0<=j/\j<=1000000/\i.natAbs<2 ^ 64
def CMul (i j:Int):Prop:=(-(2 ^ 64)<i/\i<2 ^ 64)\/(-(2 ^ 64)<j/\j<2 ^ 64)
theorem CMul.ok {i j:Int} (h:CMul i j):IntMulOk i j:=by
 rcases h with ⟨h1,h2⟩ | ⟨h1,h2⟩
 ·exact .of_left (intBits_le_64 h1 h2)
 ·exact .of_right (intBits_le_64 h1 h2)
theorem ZS:OpR X (binaryOp .Add) (rI0 fun i j=>.int (i+j)):=ZqU fun _ _ _ _ _ _ _ q=>add_int q
theorem Yz:OpR X (binaryOp .Sub) (rI0 fun i j=>.int (i-j)):=ZqU fun _ _ _ _ _ _ _ q=>sub_int q
theorem XJ:OpR X (binaryOp .Mult) (rI CMul fun i j=>.int (i*j)):=opI fun _ _ _ _ _ _ _ hc q=>mul_int q hc.ok
theorem Xl:OpR X (binaryOp .FloorDiv) (rI Zrt fun i j=>.int (i / j)):=opI fun i j _ _ _ _ _ hc q=>by
 have h1:(0:Int)<j:=hc.1;have h2:j<1073741824:=hc.2;exact floordiv_int (by omega) (by rw[Int.fdiv_eq_ediv_of_nonneg i (by omega)];exact q) (.inl (PyProof.noPylong_small (by omega)))
theorem ZQ:OpR X (binaryOp .Mod) (rI (fun _ j=>0<j) fun i j=>.int (i % j)):=opI fun i j _ _ _ _ _ hc q=>by
 have h1:(0:Int)<j:=hc;exact mod_int' (by omega) (by rw[Int.fmod_eq_emod_of_nonneg i (by omega)];exact q)
theorem Zmm:OpR X (binaryOp .Pow) (rI Zrs fun i j=>.int (i ^ j.toNat)):=opI fun _ _ _ _ _ _ _ hc q=>pow_int_small hc.1 hc.2.1 hc.2.2 q
theorem unI {f:Value->Sem Value} {g:Int->Int}
  (rule:∀ (i:Int) (t:Tok) (s:Shared) (Q:Value->Shared->Prop) (E:Value->Shared->Prop),Q (.int (g i) s.toks) {s with toks:=s.toks+1}->wpAny (model X.prog X.w) X.A (f (.int i t)) Q E s) :
  UnR X f (rU fun i=>.int (g i)):=by
 intro pins s σ H x v Q I rx h;obtain⟨i,rfl,q⟩:=h;obtain⟨t,rfl⟩:=rx;exact rule i t s _ _ ⟨.int (g i),H,I.tok _,⟨_,rfl⟩,q⟩
theorem XI:UnR X (unaryOp .USub) (rU fun i=>.int (-i)):=unI fun _ _ _ _ _ q=>neg_int q
end
def ZqQ:V->V->Bool
 | .non,.non=>true | .non,.int _=>true | .int _,.non=>true | .non,.bl _=>true | .bl _,.non=>true | .non,.str _=>true | .str _,.non=>true
 | .int _,.int _=>true | .bl _,.bl _=>true | .str _,.str _=>true | .byt _,.byt _=>true
 | .int _,.str _=>true | .str _,.int _=>true | .bl _,.str _=>true | .str _,.bl _=>true
 | _,_=>false
def rEq:R2:=fun x y H Q=>ZqQ x y=true/\Q (.bl (decide (x=y))) H
def rNe:R2:=fun x y H Q=>ZqQ x y=true/\Q (.bl (!decide (x=y))) H
theorem Ze7 {i j:Int}:decide (V.int i=V.int j)=(i==j):=by
 rw[Ug];simp
theorem ZmG {i j:Bool}:decide (V.bl i=V.bl j)=(i==j):=by
 rw[Ug];simp
theorem dec_str {i j:Str}:decide (V.str i=V.str j)=(i==j):=by
 rw[Ug];simp
theorem Zj5 {i j:Array UInt8}:decide (V.byt i=V.byt j)=(i.toList==j.toList):=by
 rw[Ug];cases i;cases j;simp
section
variable {X:Cx} {a b c:Expr} {ta tb tc:TE} {pos:Pos}
theorem ZG {Q:VK} {k k':Bool} (I:Inv X pins σ H s) (q:Q (.bl k) H) (e:k=k'):EP X pins σ Q (.bool k') s:=by
 subst e;exact⟨.bl k,H,I,rfl,q⟩
theorem XH:OpR X (compareOp .Eq) rEq:=by
 intro pins s σ H x y v u Q I rx ry h;obtain⟨hs,q⟩:=h;cases x with
 | non =>
  cases rx;cases y with
  | non=>cases ry;exact PySem.EqNone.eq_none_none (ZG I q (by simp))
  | bl j=>cases ry;exact PySem.EqNone.eq_none_bool (ZG I q (by simp))
  | int j=>obtain⟨t',rfl⟩:=ry;exact PySem.EqNone.eq_none_int (ZG I q (by simp))
  | str j=>obtain⟨t',rfl⟩:=ry;exact PySem.EqNone.eq_none_str (ZG I q (by simp))
  | _=>exact absurd (show false=true from hs) QI
 | bl i =>
  cases rx;cases y with
  | non=>cases ry;exact PySem.EqNone.eq_bool_none (ZG I q (by simp))
  | bl j=>cases ry;exact eq_bool (ZG I q ZmG)
  | str j=>obtain⟨t',rfl⟩:=ry;exact PySem.EqMixed.eq_bool_str (ZG I q (by simp))
  | _=>exact absurd (show false=true from hs) QI
 | int i =>
  obtain⟨t,rfl⟩:=rx;cases y with
  | non=>cases ry;exact PySem.EqNone.eq_int_none (ZG I q (by simp))
  | int j=>obtain⟨t',rfl⟩:=ry;exact eq_int (ZG I q Ze7)
  | str j=>obtain⟨t',rfl⟩:=ry;exact PySem.EqMixed.eq_int_str (ZG I q (by simp))
  | _=>exact absurd (show false=true from hs) QI
 | str i =>
  obtain⟨t,rfl⟩:=rx;cases y with
  | non=>cases ry;exact PySem.EqNone.eq_str_none (ZG I q (by simp))
  | bl j=>cases ry;exact PySem.EqMixed.eq_str_bool (ZG I q (by simp))
  | int j=>obtain⟨t',rfl⟩:=ry;exact PySem.EqMixed.eq_str_int (ZG I q (by simp))
  | str j=>obtain⟨t',rfl⟩:=ry;exact eq_str (ZG I q dec_str)
  | _=>exact absurd (show false=true from hs) QI
 | byt i =>
  obtain⟨t,rfl⟩:=rx;cases y with
  | byt j=>obtain⟨t',rfl⟩:=ry;exact PySem.W.eq_bytes (ZG I q Zj5)
  | _=>exact absurd (show false=true from hs) QI
 | _=>cases y <;> exact absurd (show false=true from hs) QI
theorem ZeF:OpR X (compareOp .NotEq) rNe:=by
 intro pins s σ H x y v u Q I rx ry h;obtain⟨hs,q⟩:=h;cases x with
 | non =>
  cases rx;cases y with
  | non=>cases ry;exact PySem.EqNone.ne_none_none (ZG I q (by simp))
  | bl j=>cases ry;exact PySem.EqNone.ne_none_bool (ZG I q (by simp))
  | int j=>obtain⟨t',rfl⟩:=ry;exact PySem.EqNone.ne_none_int (ZG I q (by simp))
  | str j=>obtain⟨t',rfl⟩:=ry;exact PySem.EqNone.ne_none_str (ZG I q (by simp))
  | _=>exact absurd (show false=true from hs) QI
 | bl i =>
  cases rx;cases y with
  | non=>cases ry;exact PySem.EqNone.ne_bool_none (ZG I q (by simp))
  | bl j=>cases ry;exact ne_bool (ZG I q (congrArg not ZmG))
  | str j=>obtain⟨t',rfl⟩:=ry;exact PySem.EqMixed.ne_bool_str (ZG I q (by simp))
  | _=>exact absurd (show false=true from hs) QI
 | int i =>
  obtain⟨t,rfl⟩:=rx;cases y with
  | non=>cases ry;exact PySem.EqNone.ne_int_none (ZG I q (by simp))
  | int j=>obtain⟨t',rfl⟩:=ry;exact ne_int (ZG I q (congrArg not Ze7))
  | str j=>obtain⟨t',rfl⟩:=ry;exact PySem.EqMixed.ne_int_str (ZG I q (by simp))
  | _=>exact absurd (show false=true from hs) QI
 | str i =>
  obtain⟨t,rfl⟩:=rx;cases y with
  | non=>cases ry;exact PySem.EqNone.ne_str_none (ZG I q (by simp))
  | bl j=>cases ry;exact PySem.EqMixed.ne_str_bool (ZG I q (by simp))
  | int j=>obtain⟨t',rfl⟩:=ry;exact PySem.EqMixed.ne_str_int (ZG I q (by simp))
  | str j=>obtain⟨t',rfl⟩:=ry;exact ne_str (ZG I q (congrArg not dec_str))
  | _=>exact absurd (show false=true from hs) QI
 | byt i =>
  obtain⟨t,rfl⟩:=rx;cases y with
  | byt j=>obtain⟨t',rfl⟩:=ry;exact PySem.W.ne_bytes (ZG I q (congrArg not Zj5))
  | _=>exact absurd (show false=true from hs) QI
 | _=>cases y <;> exact absurd (show false=true from hs) QI
theorem ZkW:OpR X (compareOp .Lt) (rI0 fun i j=>.bl (decide (i<j))):=Zqo fun _ _ _ _ _ _ _ q=>lt_int q
theorem Zqn:OpR X (compareOp .LtE) (rI0 fun i j=>.bl (decide (i<=j))):=Zqo fun _ _ _ _ _ _ _ q=>le_int q
theorem ZgY:OpR X (compareOp .Gt) (rI0 fun i j=>.bl (decide (j<i))):=Zqo fun _ _ _ _ _ _ _ q=>gt_int q
theorem Zi4:OpR X (compareOp .Lt) (fun x y H Q=>∃ i j,x= .str i/\y= .str j/\Q (.bl (decide (i.cps.toList<j.cps.toList))) H):=by
 intro pins s σ H x y v u Q I rx ry h;obtain⟨i,j,rfl,rfl,q⟩:=h;obtain⟨t,rfl⟩:=rx;obtain⟨t',rfl⟩:=ry;exact lt_str (ZG I q rfl)
theorem Zo3:OpR X (compareOp .Is) (fun x y H Q=>y= .non/\Q (.bl (decide (x= .non))) H):=by
 intro pins s σ H x y v u Q I rx ry h;obtain⟨rfl,q⟩:=h;cases ry;refine is_none_gen (ZG I q ?_);cases x <;> first
  | (cases rx;rfl)
  | (obtain⟨t,rfl⟩:=rx;rfl)
theorem Zi3:OpR X (compareOp .IsNot) (fun x y H Q=>y= .non/\Q (.bl (!decide (x= .non))) H):=by
 intro pins s σ H x y v u Q I rx ry h;obtain⟨rfl,q⟩:=h;cases ry;refine isnot_none_gen (ZG I q ?_);cases x <;> first
  | (cases rx;rfl)
  | (obtain⟨t,rfl⟩:=rx;rfl)
theorem Zx (b:Expr) {op:CmpOp} (h:op≠.In:=by decide) (h2:op≠.NotIn:=by decide):behindInMarks op b=false:=by
 have e1:(op==CmpOp.In)=false:=by cases op <;> first | rfl | exact absurd rfl h
 have e2:(op==CmpOp.NotIn)=false:=by cases op <;> first | rfl | exact absurd rfl h2
 cases b <;> simp[behindInMarks,e1,e2]
theorem Zcc {op:CmpOp} {r:R2} (ho:OpR X (compareOp op) r) (ha:PE X a ta) (hb:PE X b tb) (hm:behindInMarks op b=false):PE X (.Compare a [op] [b] pos) (tOp r ta tb):=by
 intro pins s σ H Q I h;exact wpAny_Compare1 (ZqE ha hb I h fun v u s2 x y H2 I2 rx ry q=>ho pins s2 σ H2 x y v u Q I2 rx ry q) hm
def Zm3 (t:TE):TT:=fun σ H Q=>t σ H fun x H'=>∃ k,x= .bl k/\Q k H'
theorem Zs {op:CmpOp} {r:R2} (ho:OpR X (compareOp op) r) (ha:PE X a ta) (hb:PE X b tb) (hm:behindInMarks op b=false):PT X (.Compare a [op] [b] pos) (Zm3 (tOp r ta tb)):=by
 intro pins s σ H Q I h;refine wpAny_isTrue_Compare1 (thn (ha pins s σ H _ I h) fun v s1 ⟨x,H1,I1,r1,q1⟩=>thn (hb pins s1 σ H1 _ I1 q1) fun u s2 ⟨y,H2,I2,r2,q2⟩ =>
  thn (ho pins s2 σ H2 x y v u _ I2 r1 r2 q2) fun c s3 ⟨z,H3,I3,r3,k,e,q3⟩=>?_) hm
 subst e;cases r3;exact wpAny_truthy_bool ⟨H3,I3,q3⟩
def ZoH (r r':R2) (ta tb tc:TE):TE:=fun σ H Q=>ta σ H fun x H1=>tb σ H1 fun y H2=>r x y H2 fun z H3=>∃ k,z= .bl k /\
 (if k=true then tc σ H3 fun w' H4=>r' y w' H4 Q else Q (.bl false) H3)
theorem ZkP {op op':CmpOp} {r r':R2} (ho:OpR X (compareOp op) r) (ho':OpR X (compareOp op') r') (ha:PE X a ta) (hb:PE X b tb) (hc:PE X c tc)
  (hm:lastMarks [op,op'] [b,c]=false:=by with_unfolding_all rfl):PT X (.Compare a [op,op'] [b,c] pos) (Zm3 (ZoH r r' ta tb tc)):=by
 intro pins s σ H Q I h;refine isTrue_chain (thn (ha pins s σ H _ I h) fun v s1 ⟨x,H1,I1,r1,q1⟩=>test_link (thn (hb pins s1 σ H1 _ I1 q1) fun u s2 ⟨y,H2,I2,r2,q2⟩ =>
  thn (ho pins s2 σ H2 x y v u _ I2 r1 r2 q2) fun d s3 ⟨z,H3,I3,r3,k,e,q3⟩=>?_)) hm
 subst e;cases r3;refine wpAny_truthy_bool ?_;cases k with
 | false =>
  obtain⟨k',e',q'⟩:=q3;cases e';exact ite_ff ⟨H3,I3,q'⟩
 | true =>
  refine ite_tt (test_last (thn (hc pins s3 σ H3 _ I3 q3) fun w' s4 ⟨z',H4,I4,r4,q4⟩=>thn (ho' pins s4 σ H4 y z' u w' _ I4 r2 r4 q4) fun d' s5 ⟨z2,H5,I5,r5,k2,e2,q5⟩=>?_));subst e2;cases r5;exact wpAny_truthy_bool ⟨H5,I5,q5⟩
def Zrp (K:PySem.W.Frag) (x:V) (H:Hp) (k:Bool):Prop :=
 match x with
 | .non=>k=false
 | .bl b=>k=b
 | .int i=>k=(i != 0)
 | .str y=>y.length<=sizeLine/\k=((y.length:Int) != 0)
 | .byt y=>y.size<=sizeLine/\k=((y.size:Int) != 0)
 | .ref p=>(∃ xs,SqL K H p xs/\k= !xs.isEmpty)\/(∃ xs,SqT K H p xs/\k= !xs.isEmpty)\/∃ kvs,H p=some (.dK kvs)/\k= !kvs.isEmpty
 | _=>False
theorem Zhi {κ:Type} {kvs:List (κ×V)} {vs:List (κ×Value)} (r:KV kvs vs):(!vs.isEmpty)= !kvs.isEmpty:=by
 cases r <;> rfl
theorem Zbu {its:List Value} (r:Vals xs its):(!its.toArray.isEmpty)= !xs.isEmpty:=by
 cases r <;> simp
theorem ZaP:(sizeLine:Nat)<2 ^ 63:=by rw[sizeLine_eq];decide
theorem ZqN:Zrq X (fun x H Q=>∃ k,Zrp X.K x H k/\Q k H):=by
 intro pins s σ H x v Q I rx h;obtain⟨k,e,q⟩:=h;have hl:=ZaP;have hs:sizeLine=16777216:=sizeLine_eq;cases x with
 | non =>
  cases rx;have e':k=false:=e;subst e';exact truthy_none ⟨H,I,q⟩
 | bl b =>
  cases rx;have e':k=b:=e;subst e';exact wpAny_truthy_bool ⟨H,I,q⟩
 | int i =>
  obtain⟨t,rfl⟩:=rx;have e':k=(i != 0):=e;subst e';exact PySem.P.truthy_int ⟨H,I,q⟩
 | str y =>
  obtain⟨t,rfl⟩:=rx;obtain⟨hy,e'⟩:y.length<=sizeLine/\k=((y.length:Int) != 0):=e;subst e';exact PySem.P.truthy_str (by omega) ⟨H,I.tok _,q⟩
 | byt y =>
  obtain⟨t,rfl⟩:=rx;obtain⟨hy,e'⟩:y.size<=sizeLine/\k=((y.size:Int) != 0):=e;subst e';exact PySem.W.truthy_bytes (by omega) ⟨H,I.tok _,q⟩
 | ref p =>
  cases rx;have e':(∃ xs,SqL X.K H p xs/\k= !xs.isEmpty)\/(∃ xs,SqT X.K H p xs/\k= !xs.isEmpty)\/∃ kvs,H p=some (.dK kvs)/\k= !kvs.isEmpty:=e;rcases e' with ⟨xs,hx,e'⟩ | ⟨xs,hx,e'⟩ | ⟨kvs,hx,e'⟩
  ·subst e';obtain⟨its,r,pl,hz⟩:=I.list hx;have hlen:=r.length;exact wpAny_truthy_list pl.isList (by simp only[Qr];omega) ⟨H,I.tok _,by rw[Zbu r];exact q⟩
  ·subst e';obtain⟨its,r,pl,hz⟩:=I.tuple hx;have hlen:=r.length;exact truthy_tuple pl (by simp only[Qr];omega) ⟨H,I.tok _,by rw[Zbu r];exact q⟩
  ·subst e';obtain⟨hz,hS,vs,r,m⟩:kvs.length<=sizeLine/\(p==sysModules)=false/\∃ vs,KV kvs vs/\s.heap.DictOf (Zt X.prog X.w) p vs:=I.hok p _ hx;have hlen:kvs.length=vs.length:=Paired.length r;exact wpAny_truthy_dict hS m (by omega) ⟨H,I.tok _,by rw[Zhi r];exact q⟩
 | _=>exact(show False from e).elim
theorem ZX:OpR X (binaryOp .Add) (fun x y H Q=>∃ i j,x= .str i/\y= .str j/\i.length+j.length<=sizeLine/\Q (.str (i++j)) H):=by
 intro pins s σ H x y v u Q I rx ry h;obtain⟨i,j,rfl,rfl,hz,q⟩:=h;obtain⟨t,rfl⟩:=rx;obtain⟨t',rfl⟩:=ry;exact add_str (fun t' tk=>⟨.str (i++j),H,I.tok _,⟨_,rfl⟩,q⟩) hz
theorem Xd {x:V} (r:Vals [x] us):∃ u,us=[u]/\RelV x u:=by
 cases r with
 | cons r1 r2=>cases r2;exact⟨_,rfl,r1⟩
theorem ZhD {x y:V} (r:Vals [x,y] us):∃ u w',us=[u,w']/\RelV x u/\RelV y w':=by
 cases r with
 | cons r1 r2 =>
  cases r2 with
  | cons r3 r4=>cases r4;exact⟨_,_,rfl,r1,r3⟩
theorem Zkd (hc:X.calm=true):CallR X (.builtin "max") (fun xs H Q=>∃ i j,xs=[.int i,.int j]/\Q (.int (if j>i then j else i)) H):=by
 intro pins s σ H xs us Q I r h;obtain⟨i,j,rfl,q⟩:=h;obtain⟨u,w',rfl,⟨t,rfl⟩,⟨t',rfl⟩⟩:=ZhD r;refine max_two_ints (I.ok.hd hc) fun h' tk k=>⟨_,H,I.kept k,?_,q⟩
 by_cases hj:j>i
 ·rw[if_pos hj,if_pos hj];exact⟨_,rfl⟩
 ·rw[if_neg hj,if_neg hj];exact⟨_,rfl⟩
theorem Zea (hc:X.calm=true):CallR X (.builtin "min") (fun xs H Q=>∃ i j,xs=[.int i,.int j]/\Q (.int (if j<i then j else i)) H):=by
 intro pins s σ H xs us Q I r h;obtain⟨i,j,rfl,q⟩:=h;obtain⟨u,w',rfl,⟨t,rfl⟩,⟨t',rfl⟩⟩:=ZhD r;refine min_two_ints (I.ok.hd hc) fun h' tk k=>⟨_,H,I.kept k,?_,q⟩
 by_cases hj:j<i
 ·rw[if_pos hj,if_pos hj];exact⟨_,rfl⟩
 ·rw[if_neg hj,if_neg hj];exact⟨_,rfl⟩
def ZpX (K:PySem.W.Frag) (x:V) (H:Hp) (n:Nat):Prop :=
 match x with
 | .str y=>y.length<=sizeLine/\n=y.length
 | .byt y=>y.size<=sizeLine/\n=y.size
 | .ref p=>(∃ xs,SqL K H p xs/\n=xs.length)\/∃ xs,SqT K H p xs/\n=xs.length
 | _=>False
theorem Zr:CallR X (.builtin "len") (fun xs H Q=>∃ x n,xs=[x]/\ZpX X.K x H n/\Q (.int n) H):=by
 intro pins s σ H xs us Q I r h;obtain⟨x,n,rfl,e,q⟩:=h;obtain⟨u,rfl,rx⟩:=Xd r;have hl:=ZaP;have hs:sizeLine=16777216:=sizeLine_eq;cases x with
 | str y =>
  obtain⟨t,rfl⟩:=rx;obtain⟨hy,e'⟩:y.length<=sizeLine/\n=y.length:=e;subst e';exact len_str (by omega) ⟨.int _,H,I.tok _,⟨_,rfl⟩,q⟩
 | byt y =>
  obtain⟨t,rfl⟩:=rx;obtain⟨hy,e'⟩:y.size<=sizeLine/\n=y.size:=e;subst e';exact PySem.W.len_bytes (by omega) ⟨.int _,H,I.tok _,⟨_,rfl⟩,q⟩
 | ref p =>
  cases rx;have e':(∃ xs,SqL X.K H p xs/\n=xs.length)\/∃ xs,SqT X.K H p xs/\n=xs.length:=e;rcases e' with ⟨xs,hx,e'⟩ | ⟨xs,hx,e'⟩
  ·subst e';obtain⟨its,r',pl,hz⟩:=I.list hx;have hlen:=r'.length;exact Calls.call_len_list pl.isList (by simp only[Qr];omega) ⟨.int xs.length,H,I.tok _,⟨_,by simp only[Qr];rw[hlen]⟩,q⟩
  ·subst e';obtain⟨its,r',pl,hz⟩:=I.tuple hx;have hlen:=r'.length;exact len_tuple pl (by simp only[Qr];omega) ⟨.int xs.length,H,I.tok _,⟨_,by simp only[Qr];rw[hlen]⟩,q⟩
 | _=>exact(show False from e).elim
end
structure ObjM (h:Heap) (x dx C:Addr) (mA:Str->Option Value):Prop where
 obj:h.get? x=some (PySem.W.instObj C dx)
 ns:h.Ns1 dx mA
 ne:dx≠x
theorem Zju {dx:Addr} {mA:Str->Option Value} (n:h.Ns1 dx mA):∃ od,h.get? dx=some od/\∀ name,PySem.W.lookIn name od=some (mA name):=by
 obtain⟨o,es,ep,ho,hd,hk,_,hm⟩:=n;refine⟨o,ho,fun name=>?_⟩;have e:=hm name;unfold nsFind findBy at e;rw[←Array.find?_toList]at e;unfold PySem.W.lookIn;rw[hd];dsimp only;split
 ·rename_i y q;rw[q]at e;exact congrArg some e
 ·rename_i q;rw[q]at e;have a:es.toList.any (·.refKey)=false:=by
   rw[List.any_eq_false];intro y hy;obtain⟨z,t,hkey⟩:=hk y (Array.mem_toList_iff.mp hy);simp[DictEntry.refKey,hkey]
  have a':¬ es.toList.any (·.refKey)=true:=by rw[a];exact QI
  rw[if_neg a'];exact congrArg some e
theorem ObjM.look {x dx C:Addr} {mA:Str->Option Value} (I:ObjM h x dx C mA):∃ od,PySem.W.InstAt h x (PySem.W.instObj C dx) C (some od)/\∀ name,PySem.W.lookIn name od=some (mA name) :=
 let ⟨od,ho,hl⟩:=Zju I.ns
 ⟨od,⟨I.obj,rfl,rfl,ho⟩,hl⟩
section
variable {prog:Program} {w:World} {A:Around} {E:Value->Shared->Prop} {s:Shared} {K:PySem.W.Frag} {x dx C f:Addr} {mA:Str->Option Value} {name:Str} {v:Value}
end
theorem RelO.some_of {o:Option Value} (r:RelO (some v) o):∃ u,o=some u/\RelV v u:=by
 cases o with
 | none=>exact(show False from r).elim
 | some u=>exact⟨u,rfl,r⟩
section
variable {P:Program} {w:World} {H H':Hp} {h h':Heap} {a C dx:Addr} {fs fs':List (Str×V)}
theorem Zn2 (hok:HOk P w H h) (e:H a=some (.ins C dx fs)):∃ mA,ObjM h a dx C mA/\(∀ f,RelO (fs.lookup f) (mA f))/\PySem.Within mA (fs.map (·.1))/\fs.length<=1000/\H dx=some (.own a):=by
 obtain⟨d,z,ne,ob,mA,n,r,q⟩:=(show ObjOk P w H h a (.ins C dx fs)from hok a _ e)
 exact⟨mA,⟨ob,n,ne⟩,r,q,z,d⟩
end
structure Cls (K:PySem.W.Frag) (C:Addr):Prop where
 pg:PySem.W.plainGet K C Str.empty=true
 hd:PySem.W.hasDictIn K C=true
 po:PySem.W.plainOver K C=true
 sa:PySem.W.findIn K (.ref C) "__setattr__" = some (some (.builtin "object.__setattr__"))
theorem Cls.get {K:PySem.W.Frag} {C:Addr} (c:Cls K C) (f:Str):PySem.W.plainGet K C f=true:=c.pg
section
variable {X:Cx} {pins:List (Addr×Obj)} {σ:St} {H:Hp} {s:Shared} {a C dx:Addr} {fs:List (Str×V)} {f:Str} {v:V} {A:Around} {E:Value->Shared->Prop}
end
section
variable {X:Cx} {o e value:Expr} {f:Str} {pos pos' tpos:Pos} {ta tv:TE}
end
section
variable {X:Cx} {pins:List (Addr×Obj)} {σ:St} {H:Hp} {s:Shared} {A:Around} {E:Value->Shared->Prop} {Q:Value->Shared->Prop} {c:Value} {b:Bool}
inductive ZgK (K:PySem.W.Frag) (H:Hp):V->Value->Prop where
 | non:ZgK K H .non (.type "NoneType")
 | bl (x:Bool):ZgK K H (.bl x) (.type "bool")
 | int (i:Int):ZgK K H (.int i) (.type "int")
 | str (x:Str):ZgK K H (.str x) (.type "str")
 | flt (x:UInt64):ZgK K H (.flt x) (.type "float")
 | lst {a:Addr} {xs:List V} (e:H a=some (.lst xs)):ZgK K H (.ref a) (.type "list")
 | frz {a:Addr} {o:Obj} {xs:List V} (e:H a=some (.frz o (.lst xs))):ZgK K H (.ref a) (.type "list")
 | tup {a:Addr} {xs:List V} (e:H a=some (.tup xs)):ZgK K H (.ref a) (.type "tuple")
 | dK {a:Addr} {kvs:List (Key×V)} (e:H a=some (.dK kvs)):ZgK K H (.ref a) (.type "dict")
 | dT {a:Addr} {kvs:List (List Key×V)} (e:H a=some (.dT kvs)):ZgK K H (.ref a) (.type "dict")
 | ins {a C dx:Addr} {fs:List (Str×V)} (e:H a=some (.ins C dx fs)) (cl:Cls K C) (ha:PySem.W.findIn K (.ref C) "__class__" = some (some (.builtin "object.__class__")))
   (hn:PySem.W.specialIn K (.builtin "object.__class__") "__get__" = some (some (.builtin "getset_descriptor.__get__"))) (htk:PySem.W.takesIn K (.builtin "object.__class__")=some true)
   (hm:PySem.W.mroIn K C (.type "object")=some true):ZgK K H (.ref a) (.ref C)
theorem ZjJ {x:V} {t:Value} (I:Inv X pins σ H s) (rx:RelV x u) (ty:ZgK X.K H x t) (e:PySem.W.kitOne X.K t c=some b) (h:∀ tk,Q (.bool b) {s with toks:=tk}) :
  wpAny (model X.prog X.w) A (call (.builtin "isinstance") [u,c]) Q E s:=by
 cases ty with
 | non=>cases (show u=Value.none from rx);exact PySem.W.kia_one PySem.W.kitx_none I.kIn True.intro e (fun z=>nomatch z) h
 | bl y=>cases (show u=Value.bool y from rx);exact PySem.W.kia_one PySem.W.kitx_bool I.kIn True.intro e (fun z=>nomatch z) h
 | int i=>obtain⟨t,q⟩:=(show ∃ t,u=Value.int i t from rx);cases q;exact PySem.W.kia_one PySem.W.kitx_int I.kIn True.intro e (fun z=>nomatch z) h
 | str y=>obtain⟨t,q⟩:=(show ∃ t,u=Value.str y t from rx);cases q;exact PySem.W.kia_one PySem.W.kitx_str I.kIn True.intro e (fun z=>nomatch z) h
 | flt y=>obtain⟨t,q⟩:=(show ∃ t,u=Value.float y t from rx);cases q;exact PySem.W.kia_one PySem.W.kitx_float I.kIn True.intro e (fun z=>nomatch z) h
 | @lst a xs ea =>
  cases (show u=Value.ref a from rx);obtain⟨_,_,n,_,h1⟩:=(show ObjOk X.prog X.w H s.heap a (.lst xs)from I.hok a _ ea)
  exact PySem.W.kia_one PySem.W.kitx_list I.kIn ⟨_,h1,rfl⟩ e (fun z=>nomatch z) h
 | @frz a ob xs ea =>
  cases (show u=Value.ref a from rx);obtain⟨_,_,_,n,_,h1⟩:=(show ObjOk X.prog X.w H s.heap a (.frz ob (.lst xs))from I.hok a _ ea)
  exact PySem.W.kia_one PySem.W.kitx_list I.kIn ⟨_,h1,rfl⟩ e (fun z=>nomatch z) h
 | @tup a xs ea =>
  cases (show u=Value.ref a from rx);obtain⟨_,_,_,p,_⟩:=(show ObjOk X.prog X.w H s.heap a (.tup xs)from I.hok a _ ea)
  obtain⟨o,h1,h2,_⟩:=p;exact PySem.W.kia_one PySem.W.kitx_tuple I.kIn ⟨o,h1,h2⟩ e (fun z=>nomatch z) h
 | @dK a kvs ea =>
  cases (show u=Value.ref a from rx);obtain⟨_,_,vs,_,p⟩:=(show ObjOk X.prog X.w H s.heap a (.dK kvs)from I.hok a _ ea)
  obtain⟨o,es,ep,h1,h2,_⟩:=p;exact PySem.W.kia_one PySem.W.kitx_dict I.kIn ⟨o,h1,h2.1⟩ e (fun z=>nomatch z) h
 | @dT a kvs ea =>
  cases (show u=Value.ref a from rx);obtain⟨_,_,xs,_,o,es,ep,h1,h2,_⟩:=(show ObjOk X.prog X.w H s.heap a (.dT kvs)from I.hok a _ ea)
  exact PySem.W.kia_one PySem.W.kitx_dict I.kIn ⟨o,h1,h2.1⟩ e (fun z=>nomatch z) h
 | @ins a C dx fs ea cl ha hn htk hm =>
  cases (show u=Value.ref a from rx);obtain⟨mA,O,_⟩:=Zn2 I.hok ea;obtain⟨od,J,_⟩:=O.look;exact PySem.W.kia_one (PySem.W.kitx_own (cl.get _) cl.hd ha hn htk hm) I.kIn J e (fun z=>nomatch z) h
end
structure Room (k:Nat) (A:Around):Prop where
 hd:A.handled=none
 dp:A.depth+3*k+5<recursionLimit
 un:A.units+16*k+200<cLine
theorem Room.mono (r:Room k A) (h:j<=k):Room j A:=⟨r.hd,by have:=r.dp;omega,by have:=r.un;omega⟩
theorem Room.deeper (r:Room (k+1) A) (env:Env):Room k (A.deeper env) :=
 ⟨r.hd,by have:=r.dp;show A.depth+1+3*k+5<_;omega,by have:=r.un;show A.units+3+16*k+200<_;omega⟩
theorem Room.depth (r:Room k A):A.depth<recursionLimit:=by have:=r.dp;omega
theorem Room.units (r:Room k A):A.units+64<cLine:=by have:=r.un;omega
def Zq4:TA:=fun _ H Q=>Q [] H
def Zqc (ta:TE) (tr:TA):TA:=fun σ H Q=>ta σ H fun x H1=>tr σ H1 fun xs H2=>Q (x::xs) H2
section
variable {X:Cx} {e:Expr} {es:List Expr} {te:TE} {t:TA} {pos:Pos}
theorem Ze:PA X [] Zq4:=fun _ _ _ _ H Q I h=>Calls.spliced_nil ⟨[],H,I,.nil,h⟩
theorem Za (ha:PE X e te) (hr:PA X es t) (hs:starEach (e::es) X.env=(false,eval e X.env)::starEach es X.env:=by rfl):PA X (e::es) (Zqc te t):=by
 intro pos pins s σ H Q I h;rw[hs];show wpAny _ _ (spliced ((false,eval e X.env)::backTo pos (starEach es X.env))) _ _ s;refine Calls.spliced_cons (thn (ha pins s σ H _ I h) fun u s1 ⟨x,H1,I1,r1,q1⟩=>?_);exact thn (hr pos pins s1 σ H1 _ I1 q1) fun us s2 ⟨xs,H2,I2,r2,q2⟩=>⟨x::xs,H2,I2,.cons r1 r2,q2⟩
def Zq1 (t:TA):TE:=fun σ H Q=>t σ H fun xs H1=>xs.length<=sizeLine/\∀ p,H1 p=none->Q (.ref p) (upd H1 p (.tup xs))
def Zq5 (t:TA):TE:=fun σ H Q=>t σ H fun xs H1=>xs.length<=sizeLine/\∀ p,H1 p=none->Q (.ref p) (upd H1 p (.lst xs))
theorem YW {x1} (h:PA X es t):PE X (.Tuple es x1 pos) (Zq1 t):=by
 intro pins s σ H Q I hq;refine wpAny_Tuple_spliced (thn (h pos pins s σ H _ I hq) fun us s1 ⟨xs,H1,I1,r,z,q⟩=>⟨by rw[←r.length];exact z,?_⟩);have hf:H1 s1.heap.objs.size=none:=I1.hok.fresh (Qk _);refine⟨.ref s1.heap.objs.size,upd H1 s1.heap.objs.size (.tup xs),I1.laid (t':=s1.toks) (fun b u e=>Qg _ e) (Qk _) ?_,rfl,q _ hf⟩;exact⟨z,us,r,⟨_,Qy _ rfl,rfl,_,rfl⟩,Zf5 rfl rfl⟩
theorem Z6 (h:PA X es t):PE X (.List es pos) (Zq5 t):=by
 intro pins s σ H Q I hq;refine wpAny_List_spliced (thn (h pos pins s σ H _ I hq) fun us s1 ⟨xs,H1,I1,r,z,q⟩=>⟨by rw[←r.length];exact z,?_⟩);have hf:H1 s1.heap.objs.size=none:=I1.hok.fresh (Qk _);refine⟨.ref s1.heap.objs.size,upd H1 s1.heap.objs.size (.lst xs),I1.laid (t':=s1.toks) (fun b u e=>Qg _ e) (Qk _) ?_,rfl,q _ hf⟩;exact⟨z,us,0,r,Qy _ rfl⟩
end
abbrev Sp:=List V->Hp->VK->XK->Prop
abbrev CXT:=List Env->Hp->Shared->XK->Value->Shared->Prop
structure ZpY (P:Program) (w:World) (K:PySem.W.Frag) (mg:Str->Option Value) (base:Heap) (A:Around) (outer:List Env) (s:Shared) (H:Hp):Prop where
 frames:A.frames=some outer
 mod:Mod K mg base
 bs:∀ b o,base.get? b=some o->s.heap.get? b=some o/\H b=none
 bsz:base.objs.size<=s.heap.objs.size
 funs:s.heap.FunFrames base outer
 frf:∀ b∈frs outer,H b=none
 hok:HOk P w H s.heap
 bare:AllBare s.gens
def CE (outer:List Env) (P:Program) (w:World) (H:Hp) (s:Shared) (Q:VK) (u:Value) (s':Shared):Prop :=
 ∃ v H',s'.os=s.os/\AllBare s'.gens/\Un (frs outer) [] H H' s.heap s'.heap/\HOk P w H' s'.heap/\RelV v u/\Q v H'
def CR (CX:CXT) (outer:List Env) (P:Program) (w:World) (H:Hp) (s:Shared) (Q:VK) (E:XK) (r:Result) (s':Shared):Prop :=
 match r with
 | .ok (.ret u)=>CE outer P w H s Q u s'
 | .ok _=>False
 | .error e=>CX outer H s E e s'
structure FnOk (P:Program) (w:World) (K:PySem.W.Frag) (mg:Str->Option Value) (base:Heap) (CX:CXT) (k:Nat) (f:Addr) (fd:FuncData) (ps:List Str) (sp:Sp):Prop where
 len:∀ vs H Q E,sp vs H Q E->vs.length=ps.length
 run:∀ (A:Around) (outer:List Env) (s:Shared) (H:Hp) (args:Args) (us:List Value) (vs:List V) (Q:VK) (E:XK),Room k A->ZpY P w K mg base A outer s H->BindsTo s fd args (ps.zip us)->Vals vs us->sp vs H Q E ->
  codeAny (model P w) A (.call (.ref f) args) (CR CX outer P w H s Q E) s
theorem FnOk.mono {P:Program} {w:World} {K:PySem.W.Frag} {mg:Str->Option Value} {base:Heap} {CX:CXT} {f:Addr} {fd:FuncData} {sp:Sp} (F:FnOk P w K mg base CX j f fd ps sp) (h:j<=k) :
  FnOk P w K mg base CX k f fd ps sp:=⟨F.len,fun A outer s H args us vs Q E hr=>F.run A outer s H args us vs Q E (hr.mono h)⟩
section
variable {X:Cx} {pins:List (Addr×Obj)} {σ:St} {H:Hp} {s s':Shared}
theorem Inv.env0 (I:Inv X pins σ H s):ZpY X.prog X.w X.K X.mg X.base X.A X.stack s H :=
 ⟨I.ok.frames,I.ok.mod,I.bs,QY I.ok.bsz I.sz,I.stack,I.stkFree,I.hok,I.bare⟩
theorem Inv.after {Q:VK} (I:Inv X pins σ H s) (h:CE X.stack X.prog X.w H s Q u s'):EP X pins σ Q u s':=by
 obtain⟨v,H',os,bare,un,hok,r,q⟩:=h;obtain⟨hh,g,d,t,os'⟩:=s';obtain rfl:os'=s.os:=os;exact⟨v,H',I.call (h':=hh) (g':=g) (d':=d) (t':=t) (ch:=[]) un hok bare (fun b z=>absurd z (by simp)),r,q⟩
end
def Zm7 (sp:Sp) (dvs:List V) (E:XK) (t:TA):TE:=fun σ H Q=>t σ H fun vs H1=>sp (vs++dvs) H1 Q E
def Binds (K:PySem.W.Frag) (fd:FuncData) (ps:List Str) (ds:List Value):Prop :=
 ∀ (s:Shared) (us:List Value),K.In s.heap->(us++ds).length=ps.length->BindsTo s fd ⟨us,[]⟩ (ps.zip (us++ds))
theorem Binds.all {K:PySem.W.Frag} {fd:FuncData} (h:∀ us:List Value,us.length=ps.length->bindArgs fd ⟨us,[]⟩=pure (ps.zip us)):Binds K fd ps []:=fun s us _ hl=>by
 rw[WE]at hl ⊢;exact .of_eq (h us hl)
def ZgL (CX:CXT) (X:Cx) (E:XK):Prop:=∀ (pins:List (Addr×Obj)) (σ:St) (H:Hp) (s:Shared) (e:Value) (s':Shared),Inv X pins σ H s->CX X.stack H s E e s'->X.xe e s'
section
variable {X:Cx} {CX:CXT} {k:Nat} {f C:Addr} {fd:FuncData} {ps:List Str} {sp:Sp} {dvs:List V} {ds:List Value} {E:XK} {x m:Str} {p pos apos:Pos} {e o:Expr} {es:List Expr} {ta:TE} {t:TA}
theorem ZoM {Q:VK} {vs:List V} (F:FnOk X.prog X.w X.K X.mg X.base CX k f fd ps sp) (hr:Room k X.A) (hb:Binds X.K fd ps ds) (hd:Vals dvs ds) (hx:ZgL CX X E)
  (I:Inv X pins σ H s) (r:Vals vs us) (h:sp (vs++dvs) H Q E):wpAny (model X.prog X.w) X.A (call (.ref f) us) (EP X pins σ Q) X.xe s:=by
 have r2:Vals (vs++dvs) (us++ds):=r.append hd;have hl:(us++ds).length=ps.length:=by rw[←r2.length];exact F.len _ _ _ _ h
 refine wpAny_call (codeAny_mono (F.run X.A X.stack s H ⟨us,[]⟩ (us++ds) (vs++dvs) Q E hr I.env0 (hb s us I.kIn hl) r2 h) fun r s' hq=>?_);cases r with
 | error e=>exact hx pins σ H s e s' I hq
 | ok fl =>
  cases fl with
  | ret u=>exact I.after hq
  | next=>exact False.elim hq
  | brk=>exact False.elim hq
  | cont=>exact False.elim hq
theorem ZiZ (F:FnOk X.prog X.w X.K X.mg X.base CX k f fd ps sp) (hr:Room k X.A) (hg:Gl X x) (hm:X.mg x=some (.ref f)) (hk:PySem.W.keepIn X.K (.ref f)=true) (hb:Binds X.K fd ps ds) (hd:Vals dvs ds) (hx:ZgL CX X E)
  (ha:PA X (e::es) t) (hdb:(x==("__debug__" : Str))=false:=by decide) (he:starEach (e::es) X.env=(false,eval e X.env)::starEach es X.env:=by rfl) (hpl:(backTo pos (starEach es X.env)).any (·.1)=false:=by rfl) :
  PE X (.Call (.Name x p) (e::es) [] pos) (Zm7 sp dvs E t):=by
 intro pins s σ H Q I h;refine wpAny_Call_Name_kw (Zct I hg hm ?_ hdb);refine PySem.W.callWith_K (h₀:=X.base) I.ok.mod.kin hk (thn (ha pos pins s σ H _ I h) fun us s1 ⟨vs,H1,I1,r,q⟩=>⟨I1.kIn,?_⟩) he hpl;exact ZoM F hr hb hd hx I1 r q
end
section
variable {X:Cx} {CX:CXT} {k:Nat} {f C:Addr} {fd:FuncData} {ps ks:List Str} {sp:Sp} {E:XK} {x m:Str} {p pos apos kpos:Pos} {e o:Expr} {es:List Expr} {kws:List Keyword} {te ta:TE} {t tk:TA} {nm:Option Str}
variable {g:List Value->List Value->List Value} {gV:List V->List V->List V}
end
structure Zo (N P:List Str) (sc:Scope):Prop where
 kind:sc.kind= .function
 co:sc.isCoroutine=false
 gen:sc.isGenerator=false
 nd:N.Nodup
 pre:N.take P.length=P
 par:∀ x∈P,sc.names.lookup x=some .local\/sc.names.lookup x=some .cell
 nofree:∀ y∈sc.names,y.2≠.free
theorem Zeb {kindOf:Str->Option NameKind} {x:Str}:∀ {binds:List (Str×Value)} {m:Str->Option Value},(∀ v,(x,v)∉binds)->bindL kindOf binds m x=m x
 | [],_,_=>rfl
 | (n,v)::r,m,h=>by
  unfold bindL;rw[Zeb fun w hw=>h w (Ql _ hw)];split
  ·have:x≠n:=by rintro rfl;exact h v Qi
   simp[this]
  ·rfl
theorem Zed {kindOf:Str->Option NameKind} {x:Str}:∀ {binds:List (Str×Value)} {m:Str->Option Value},(∀ v,(x,v)∉binds)->bindC kindOf binds m x=m x
 | [],_,_=>rfl
 | (n,v)::r,m,h=>by
  unfold bindC;rw[Zed fun w hw=>h w (Ql _ hw)];split
  ·rfl
  ·have:x≠n:=by rintro rfl;exact h v Qi
   simp[this]
theorem Zec {kindOf:Str->Option NameKind} {x:Str} {v:Value}:∀ {P:List Str} {vs:List Value} {i:Nat} {m:Str->Option Value},P.Nodup->P[i]?=some x->vs[i]?=some v->kindOf x=some .local ->
  bindL kindOf (P.zip vs) m x=some v
 | [],_,_,_,_,h,_,_=>by simp at h
 | _::_,[],_,_,_,_,h,_=>by simp at h
 | p::P,w::vs,0,m,nd,h1,h2,hk=>by
  simp at h1 h2;subst h1;subst h2;show bindL kindOf ((p,w)::P.zip vs) m p=_;unfold bindL;rw[Zeb fun v hv=>(Q7.mp nd).1 (RQ hv).1,if_pos hk];simp
 | p::P,w::vs,i+1,m,nd,h1,h2,hk=>by
  show bindL kindOf ((p,w)::P.zip vs) m x=_;unfold bindL;exact Zec (i:=i) (Q7.mp nd).2 (by simpa using h1) (by simpa using h2) hk
theorem Zee {kindOf:Str->Option NameKind} {x:Str} {v:Value}:∀ {P:List Str} {vs:List Value} {i:Nat} {m:Str->Option Value},P.Nodup->P[i]?=some x->vs[i]?=some v->kindOf x≠some .local ->
  bindC kindOf (P.zip vs) m x=some v
 | [],_,_,_,_,h,_,_=>by simp at h
 | _::_,[],_,_,_,_,h,_=>by simp at h
 | p::P,w::vs,0,m,nd,h1,h2,hk=>by
  simp at h1 h2;subst h1;subst h2;show bindC kindOf ((p,w)::P.zip vs) m p=_;unfold bindC;rw[Zed fun v hv=>(Q7.mp nd).1 (RQ hv).1,if_neg hk];simp
 | p::P,w::vs,i+1,m,nd,h1,h2,hk=>by
  show bindC kindOf ((p,w)::P.zip vs) m x=_;unfold bindC;exact Zee (i:=i) (Q7.mp nd).2 (by simpa using h1) (by simpa using h2) hk
def Zap (N:List Str) (vs:List V):St:=vs.map some++Q8 (N.length-vs.length) none
def Zj8 (CX:CXT) (P:Program) (w:World) (K:PySem.W.Frag) (mg:Str->Option Value) (base:Heap) (N:List Str) (qual:Str) (scope:Scope) (f:Addr) (cd:Value) (A:Around) (outer:List Env) (s:Shared) (H:Hp) (E:XK):Cx where
 prog:=P
 w:=w
 K:=K
 mg:=mg
 base:=base
 A:=A.deeper (envOfC qual scope s.heap.objs.size f cd)
 N:=N
 s₀:=s
 H₀:=H
 env:=envOfC qual scope s.heap.objs.size f cd
 outer:=outer
 stack:=envOfC qual scope s.heap.objs.size f cd::outer
 ex:=[]
 calm:=true
 fn:=fun _=>true
 pn:=[]
 xe:=fun e s'=>wpAny (model P w) (A.deeper (envOfC qual scope s.heap.objs.size f cd)) (leaving (envOfC qual scope s.heap.objs.size f cd) e) (fun _ s''=>CX outer H s E e s'') (fun e' s''=>CX outer H s E e' s'') s'
theorem ZgF {sc:Scope} (h:sc.names.lookup x=some .cell):∃ c,(cellsFrom n sc.names []).lookup x=some c:=by
 have q:=PySem.W.cellsFrom_some sc.names n [] (.inl h);exact UY.mp q
theorem ZjK {CX:CXT} {P:Program} {w:World} {K:PySem.W.Frag} {mg:Str->Option Value} {base:Heap} {N:List Str} {qual:Str} {scope:Scope} {f:Addr} {cd:Value} {outer:List Env} {s1:Shared} {E:XK} {vs:List V}
  (S:Zo N ps scope) (hd:A.handled=none) (e0:ZpY P w K mg base A outer s H) (hl:vs.length=ps.length) (r:Vals vs us)
  (x:InCallC s s.heap.objs.size (bindL (envOfC qual scope s.heap.objs.size f cd).kindOf (ps.zip us) fun _=>none) (cellsFrom (s.heap.objs.size+1) scope.names []) (bindC (envOfC qual scope s.heap.objs.size f cd).kindOf (ps.zip us) fun _=>none) s1) :
  Inv (Zj8 CX P w K mg base N qual scope f cd A outer s H E) [] (Zap N vs) H s1:=by
 have hpl:ps.length<=N.length:=by have:=congrArg Ua S.pre;rw[QB]at this;omega
 obtain⟨h1,tk,rfl,hk⟩:=x.done;have noA:∀ b:Addr,b∉(Zj8 CX P w K mg base N qual scope f cd A outer s H E).ex:=fun b z=>absurd (show b∈([]:List Addr)from z) (by simp);refine⟨⟨e0.mod,S.kind,rfl,rfl,Qk _,fun y z c h1 h2=>?_,fun y hy=>?_,fun y c _ h=>?_,fun _=>hd,Around.frames_deeper e0.frames,.inr ⟨rfl,rfl⟩,fun b z=>absurd z (noA b),e0.bs,e0.bsz,fun b _ _=>noA b,fun b z=>absurd z (noA b),e0.funs,e0.frf⟩,
  rfl,e0.bare,Un.kept hk,⟨_,x.toInCall.ns,fun i y v h1 h2 h3=>?_⟩,fun y c h=>⟨_,x.cell y c h⟩,e0.hok.fresh (Qk _),fun y c h=>?_,fun p hp=>absurd (show p∈([]:List (Addr×Obj))from hp) (by simp),e0.hok.kept hk,?_⟩
 ·exact name_of_addr x.apart (PySem.mem_of_lookup h1) (PySem.mem_of_lookup h2)
 ·have hy:scope.names.lookup y=some .cell\/scope.names.lookup y=some .free:=hy;rcases hy with hy | hy
  ·exact ZgF hy
  ·exact absurd rfl (S.nofree _ (PySem.mem_of_lookup hy))
 ·exact RE (x.above y c (PySem.mem_of_lookup h))
 ·have hi:i<vs.length:=by
   unfold Zap at h2;by_cases hi:i<vs.length
   ·exact hi
   ·rw[QQ (by simpa using hi)]at h2;rw[Uw]at h2;split at h2 <;> cases h2
  have ha:vs[i]?=some v:=by
   unfold Zap at h2;rw[QP (by simpa using hi),Qd]at h2;cases e:vs[i]? with
   | none=>rw[e]at h2;cases h2
   | some a=>rw[e]at h2;cases h2;rfl
  obtain⟨u,hu,rv⟩:=r.get ha;have hp:ps[i]?=some y:=by
   rw[←S.pre,Uo (by omega)];exact h1
  have ndP:ps.Nodup:=by rw[←S.pre];exact S.nd.sublist (Vx _ _)
  refine⟨u,rv,?_⟩;rcases S.par y (WI hp)with k | k
  ·exact .inl ⟨k,Zec ndP hp hu k⟩
  ·obtain⟨c,e⟩:=ZgF (n:=s.heap.objs.size+1) k;refine .inr ⟨.inl k,c,e,?_⟩;have q:=x.cell y c e;rw[Zee ndP hp hu (by show scope.names.lookup y≠_;rw[k];decide)]at q;exact q
 ·exact e0.hok.fresh (RE (x.above y c (PySem.mem_of_lookup h)))
 ·unfold Zap;show _=N.length;rw[Qm,Qc,RY];omega
theorem Zpw {CX:CXT} {P:Program} {w:World} {K:PySem.W.Frag} {mg:Str->Option Value} {base:Heap} {f:Addr} {name qual:Str} {params:Arguments} {body:List Stmt} {scope:Scope} {dV kV doc pm cdv ct oc:Value} {an od:Option Addr}
  {osl:Array (Option Value)} {N ps:List Str} {sp:Sp} (lk:K.lookup f=some ⟨oc,od,.func (PySem.W.fnOf name qual params body scope dV kV doc pm an cdv ct),osl⟩) (hcd:PySem.W.codeIn K cdv qual=true) (S:Zo N ps scope)
  (len:∀ vs H Q E,sp vs H Q E->vs.length=ps.length)
  (hbody:∀ (A:Around) (outer:List Env) (s:Shared) (H:Hp) (vs:List V) (Q:VK) (E:XK),Room k (A.deeper (envOfC qual scope s.heap.objs.size f cdv))->sp vs H Q E ->
   ∃ t,PSs (Zj8 CX P w K mg base N qual scope f cdv A outer s H E) body t/\t {nx:=fun _ H'=>Q .non H',rt:=Q} (Zap N vs) H) :
  FnOk P w K mg base CX (k+1) f (PySem.W.fnOf name qual params body scope dV kV doc pm an cdv ct) ps sp:=by
 refine⟨len,fun A outer s H args us vs Q E hr e0 hb r hsp=>?_⟩;have hl:=len _ _ _ _ hsp;have KX:K.In s.heap:=e0.mod.kin.keeps fun b o e=>(e0.bs b o e).1;have lim:s.heap.NoLimit:=e0.mod.nolimit.keeps fun b o e=>(e0.bs b o e).1;have hkind:∀ y∈ps.zip us,scope.names.lookup y.1=some .local\/(scope.names.lookup y.1=some .cell/\((cellsFrom (s.heap.objs.size+1) scope.names []).lookup y.1).isSome=true):=fun⟨n,v⟩ hy=>by
  rcases S.par n (RQ hy).1 with q | q
  ·exact .inl q
  ·exact .inr ⟨q,PySem.W.cellsFrom_some _ _ _ (.inl q)⟩
 refine codeAny_call_function hr.depth (KX _ _ lk) rfl S.co S.gen rfl (PySem.W.codeRec_of KX hcd) (hb _ _ _ _ ?_);refine wpAny_newFunctionEnv_cells S.kind hkind fun env he s1 x=>?_;subst he;refine⟨lim.keeps x.toInCall.keep,codeAny_func ?_⟩;obtain⟨t,ht,hq⟩:=hbody A outer s H vs Q E (hr.deeper _) hsp;have I:Inv (Zj8 CX P w K mg base N qual scope f cdv A outer s H E) [] (Zap N vs) H s1:=ZjK S hr.hd e0 hl r x;refine wpAny_mono (ht [] s1 (Zap N vs) H _ I hq) (fun fl s' hs=>?_) fun e s' hs=>hs;have fin:∀ {σ':St} {H':Hp} {v:V} {u:Value},Inv (Zj8 CX P w K mg base N qual scope f cdv A outer s H E) [] σ' H' s'->RelV v u->Q v H'->CE outer P w H s Q u s' :=
  fun {σ' H' v u} J rv q=>⟨v,H',J.os,J.bare,J.base,J.hok,rv,q⟩
 cases fl with
 | ret u =>
  obtain⟨v,σ',H',J,rv,q⟩:=hs;exact fin J rv q
 | next =>
  obtain⟨σ',H',J,q⟩:=hs;exact fin (v:=V.non) (u:=Value.none) J rfl q
 | brk =>
  obtain⟨_,_,_,q⟩:=hs;exact False.elim q
 | cont =>
  obtain⟨_,_,_,q⟩:=hs;exact False.elim q
section
variable {X:Cx} {x:Str} {p pos:Pos} {e:Expr} {es:List Expr} {t:TA} {id T:String} {r:List V->Hp->VK->Prop}
def tCB (r:List V->Hp->VK->Prop) (t:TA):TE:=fun σ H Q=>t σ H fun vs H1=>r vs H1 Q
theorem Zk (hc:CallR X (.builtin id) r) (hg:Gl X x) (hm:X.mg x=none) (hv:bootBuiltins x=some (.builtin id)) (ha:PA X (e::es) t) (hn:x≠"__name__":=by decide) (hdb:(x==("__debug__" : Str))=false:=by decide)
  (he:starEach (e::es) X.env=(false,eval e X.env)::starEach es X.env:=by rfl) (hpl:(backTo pos (starEach es X.env)).any (·.1)=false:=by rfl):PE X (.Call (.Name x p) (e::es) [] pos) (tCB r t):=by
 intro pins s σ H Q I h;refine wpAny_Call_Name_kw (XN I hg hm hv ?_ hn hdb);exact PyProof.Rows.callWith_builtin1 (thn (ha pos pins s σ H _ I h) fun us s1 ⟨vs,H1,I1,r1,q1⟩=>hc pins s1 σ H1 vs us Q I1 r1 q1) he hpl
theorem ZC (hc:CallR X (.type T) r) (hg:Gl X x) (hm:X.mg x=none) (hv:bootBuiltins x=some (.type T)) (ha:PA X (e::es) t) (hn:x≠"__name__":=by decide) (hdb:(x==("__debug__" : Str))=false:=by decide)
  (he:starEach (e::es) X.env=(false,eval e X.env)::starEach es X.env:=by rfl) (hpl:(backTo pos (starEach es X.env)).any (·.1)=false:=by rfl):PE X (.Call (.Name x p) (e::es) [] pos) (tCB r t):=by
 intro pins s σ H Q I h;refine wpAny_Call_Name_kw (XN I hg hm hv ?_ hn hdb);exact PyProof.Rows.callWith_type1 (thn (ha pos pins s σ H _ I h) fun us s1 ⟨vs,H1,I1,r1,q1⟩=>hc pins s1 σ H1 vs us Q I1 r1 q1) he hpl
end
section
variable {κ:Type} [DecidableEq κ]
def XF (kvs:List (κ×V)) (k:κ):Option V:=(kvs.find? fun kv=>decide (kv.1=k)).map (·.2)
def X8 (kvs:List (κ×V)) (k:κ) (v:V):List (κ×V) :=
 if (kvs.any fun kv=>decide (kv.1=k))=true then kvs.map (fun kv=>if kv.1=k then (kv.1,v)else kv)else kvs++[(k,v)]
def ZdX (kvs:List (κ×V)) (k:κ):List (κ×V):=kvs.filter fun kv=>decide (kv.1≠k)
theorem J5 {p:κ×V} {r:List (κ×V)} {k:κ} (e:p.1=k):XF (p::r) k=some p.2:=by simp[XF,Uy,e]
theorem J6 {p:κ×V} {r:List (κ×V)} {k:κ} (e:¬ p.1=k):XF (p::r) k=XF r k:=by simp[XF,Uy,e]
theorem J7 (k:κ):∀ kvs:List (κ×V),(kvs.any fun kv=>decide (kv.1=k))=(XF kvs k).isSome
 | []=>rfl
 | p::r=>by
  rw[UQ];by_cases e:p.1=k
  ·simp only[J5 e,decide_eq_true e,Bool.true_or,Vl]
  ·rw[J6 e,decide_eq_false e,Bool.false_or];exact J7 k r
theorem Y7 (kvs:List (κ×V)) (k:κ) (v:V):(X8 kvs k v).length<=kvs.length+1:=by
 unfold X8;split
 ·rw[Qc];omega
 ·rw[Qm,QL,Uh];omega
theorem Zai {kvs:List (κ×V)} {k:κ} (v:V) (h:XF kvs k=none):X8 kvs k v=kvs++[(k,v)]:=by
 unfold X8;rw[J7,h];exact if_neg (by decide)
theorem RelO.isSome_eq {o:Option V} {u:Option Value} (r:RelO o u):o.isSome=u.isSome:=by
 cases o with
 | none=>cases u with
  | none=>rfl
  | some _=>exact(show False from r).elim
 | some _=>cases u with
  | none=>exact(show False from r).elim
  | some _=>rfl
theorem RelO.getD {o:Option V} {u:Option Value} {d:V} {d':Value} (r:RelO o u) (rd:RelV d d'):RelV (o.getD d) (u.getD d'):=by
 cases o with
 | none=>cases u with
  | none=>exact rd
  | some _=>exact(show False from r).elim
 | some _=>cases u with
  | none=>exact(show False from r).elim
  | some _=>exact r
theorem KV.val {kvs:List (κ×V)} {vs:List (κ×Value)} (r:KV kvs vs) (k:κ):RelO (XF kvs k) (valueAt vs k):=by
 unfold KV at r;induction r with
 | nil=>exact True.intro
 | @cons p q ps qs h t ih =>
  obtain⟨h1,h2⟩:=h;by_cases e:p.1=k
  ·have e':q.1=k:=h1.symm.trans e;have b:valueAt (q::qs) k=some q.2:=by simp[valueAt,Uy,e']
   rw[J5 e,b];exact h2
  ·have e':¬ q.1=k:=fun z=>e (h1.trans z);have b:valueAt (q::qs) k=valueAt qs k:=by simp[valueAt,Uy,e']
   rw[J6 e,b];exact ih
theorem KV.any {kvs:List (κ×V)} {vs:List (κ×Value)} (r:KV kvs vs) (k:κ):(kvs.any fun kv=>decide (kv.1=k))=vs.any fun kv=>decide (kv.1=k):=by
 unfold KV at r;induction r with
 | nil=>rfl
 | cons h t ih=>rw[UQ,UQ,ih,h.1]
theorem KV.repl {kvs:List (κ×V)} {vs:List (κ×Value)} (r:KV kvs vs) (k:κ) {y:V} (ry:RelV y u) :
  KV (kvs.map fun kv=>if kv.1=k then (kv.1,y)else kv) (vs.map fun kv=>if kv.1=k then (kv.1,u)else kv):=by
 unfold KV at r ⊢;induction r with
 | nil=>exact .nil
 | @cons p q ps qs h t ih =>
  rw[Qh,Qh];refine .cons ?_ ih;obtain⟨h1,h2⟩:=h;by_cases e:p.1=k
  ·rw[if_pos e,if_pos (h1.symm.trans e)];exact⟨h1,ry⟩
  ·rw[if_neg e,if_neg (fun z=>e (h1.trans z))];exact⟨h1,h2⟩
theorem KV.put {kvs:List (κ×V)} {vs:List (κ×Value)} (r:KV kvs vs) (k:κ) {y:V} (ry:RelV y u):KV (X8 kvs k y) (stored vs k u):=by
 unfold X8 stored;rw[r.any k];by_cases e:(vs.any fun kv=>decide (kv.1=k))=true
 ·rw[if_pos e,if_pos e];exact r.repl k ry
 ·rw[if_neg e,if_neg e];exact Paired.snoc r ⟨rfl,ry⟩
theorem KV.drop {kvs:List (κ×V)} {vs:List (κ×Value)} (r:KV kvs vs) (k:κ):KV (ZdX kvs k) (without vs k):=by
 unfold KV at r ⊢;unfold ZdX without;induction r with
 | nil=>exact .nil
 | @cons p q ps qs h t ih =>
  obtain⟨h1,h2⟩:=h;rw[Wv,Wv];by_cases e:p.1=k
  ·have a:¬ decide (p.1≠k)=true:=by simp[e]
   have b:¬ decide (q.1≠k)=true:=by simp[h1.symm.trans e]
   rw[if_neg a,if_neg b];exact ih
  ·have e':¬ q.1=k:=fun z=>e (h1.trans z);have a:decide (p.1≠k)=true:=by simp[e]
   have b:decide (q.1≠k)=true:=by simp[e']
   rw[if_pos a,if_pos b];exact .cons ⟨h1,h2⟩ ih
theorem KV.keys {kvs:List (κ×V)} {vs:List (κ×Value)} (r:KV kvs vs):kvs.map (·.1)=vs.map (·.1):=by
 unfold KV at r;induction r with
 | nil=>rfl
 | cons h t ih=>rw[Qh,Qh,ih,h.1]
theorem KV.length {kvs:List (κ×V)} {vs:List (κ×Value)} (r:KV kvs vs):kvs.length=vs.length:=Paired.length r
theorem Zgy (kvs:List (κ×V)) (k:κ):(ZdX kvs k).length<=kvs.length:=Wa _ _
end
theorem JZ {P:Program} {w:World} {k:Key} (r:RelV (kV k) u):(Zt P w).is k u=true:=by
 cases k with
 | inl i=>obtain⟨t,e⟩:=(show ∃ t,u=Value.int i t from r);subst e;exact ZeV P w i t
 | inr x=>obtain⟨t,e⟩:=(show ∃ t,u=Value.str x t from r);subst e;exact XV P w x t
theorem ZdM {P:Program} {w:World}:∀ {ks:List Key} {us:List Value},Vals (ks.map kV) us->ItemsAre (Zt P w) ks us
 | [],_,r=>by rw[We]at r;cases r;exact .nil
 | k::ks,_,r=>by
  rw[Qh]at r;cases r with
  | cons h t=>exact .cons (JZ h) (ZdM t)
abbrev KT (H:Hp):List (List Key×V)->List (List Key×Addr×Value)->Prop:=Paired fun p q=>p.1=q.1/\H q.2.1=some (.tup (p.1.map kV))/\RelV p.2 q.2.2
theorem KT.val {kvs:List (List Key×V)} {xs:List (List Key×Addr×Value)} (r:KT H kvs xs) (k:List Key):RelO (XF kvs k) ((atKey xs k).map (·.2)):=by
 induction r with
 | nil=>exact True.intro
 | @cons p q ps qs h t ih =>
  obtain⟨h1,_,h2⟩:=h;by_cases e:p.1=k
  ·have e':q.1=k:=h1.symm.trans e;have b:atKey (q::qs) k=some q.2:=by simp[atKey,Uy,e']
   rw[J5 e,b];exact h2
  ·have e':¬ q.1=k:=fun z=>e (h1.trans z);have b:atKey (q::qs) k=atKey qs k:=by simp[atKey,Uy,e']
   rw[J6 e,b];exact ih
theorem KT.repl {kvs:List (List Key×V)} {xs:List (List Key×Addr×Value)} (r:KT H kvs xs) (k:List Key) {y:V} (ry:RelV y u) :
  KT H (kvs.map fun kv=>if kv.1=k then (kv.1,y)else kv) (xs.map (putAt k u)):=by
 induction r with
 | nil=>exact .nil
 | @cons p q ps qs h t ih =>
  rw[Qh,Qh];refine .cons ?_ ih;obtain⟨h1,h2,h3⟩:=h;unfold putAt;by_cases e:p.1=k
  ·rw[if_pos e,if_pos (h1.symm.trans e)];exact⟨h1,h2,ry⟩
  ·rw[if_neg e,if_neg (fun z=>e (h1.trans z))];exact⟨h1,h2,h3⟩
theorem KT.put {kvs:List (List Key×V)} {xs:List (List Key×Addr×Value)} (r:KT H kvs xs) (k:List Key) {b:Addr} {y:V} (hb:H b=some (.tup (k.map kV))) (ry:RelV y u) :
  KT H (X8 kvs k y) (storedH xs k b u):=by
 have e:(kvs.any fun kv=>decide (kv.1=k))=(atKey xs k).isSome:=by
  rw[J7,(r.val k).isSome_eq,Vy]
 unfold X8 storedH;rw[e];by_cases q:(atKey xs k).isSome=true
 ·rw[if_pos q,if_pos q];exact r.repl k ry
 ·rw[if_neg q,if_neg q];exact Paired.snoc r ⟨rfl,hb,ry⟩
theorem KT.keeps {kvs:List (List Key×V)} {xs:List (List Key×Addr×Value)} (r:KT H kvs xs) (ht:∀ b ys,H b=some (.tup ys)->H' b=some (.tup ys)):KT H' kvs xs :=
 Paired.mapP r fun _ _ z=>⟨z.1,ht _ _ z.2.1,z.2.2⟩
section
variable {P:Program} {w:World} {H:Hp} {h:Heap} {a:Addr}
theorem ZoN {u:HO} (ok:HOk P w H h) (e:Rd H a u):ObjOk P w H h a u:=e.ok ok
theorem ZdZ (ok:HOk P w H h) (e:Rd H a (.dK kvs)):kvs.length<=sizeLine/\(a==sysModules)=false/\∃ vs,KV kvs vs/\h.DictOf (Zt P w) a vs :=
 show ObjOk P w H h a (.dK kvs)from ZoN ok e
theorem ZcI (ok:HOk P w H h) (e:H a=some (.dK kvs)):kvs.length<=sizeLine/\(a==sysModules)=false/\∃ vs,KV kvs vs/\h.DictOf (Zt P w) a vs:=ZdZ ok (.inl e)
theorem Zbs {ks:List Key} (ok:HOk P w H h) (e:H a=some (.tup (ks.map kV))):(tupleKind (Zt P w)).is h ks a:=by
 obtain⟨_,its,r,⟨o,h1,h2,n,h3⟩,_⟩:=(show ObjOk P w H h a (.tup (ks.map kV))from ok a _ e)
 exact⟨o,its.toArray,n,h1,h2,h3,by simpa using ZdM r⟩
theorem Ze4 {kvs:List (List Key×V)} (ok:HOk P w H h) (e:Rd H a (.dT kvs)):kvs.length<=sizeLine/\(a==sysModules)=false /\
  ∃ xs,KT H kvs xs/\h.DictOfH (tupleKind (Zt P w)) a xs:=by
 obtain⟨z,y,xs,r,o,es,ep,h1,h2,h3,h4,h5⟩:=(show ObjOk P w H h a (.dT kvs)from ZoN ok e)
 refine⟨z,y,xs,r,o,es,ep,h1,h2,h3,h4,fun x hx=>?_,h5⟩;have all:∀ {l:List (List Key×V)} {m:List (List Key×Addr×Value)},KT H l m->∀ x∈m,(tupleKind (Zt P w)).is h x.1 x.2.1:=by
  intro l m q;induction q with
  | nil=>intro x hx;exact nomatch hx
  | @cons p q ps qs hq t ih =>
   intro x hx;rcases QA.mp hx with e | hx
   ·subst e;exact Zbs ok (by rw[←hq.1];exact hq.2.1)
   ·exact ih x hx
 exact all r x hx
theorem ZqB {kvs:List (List Key×V)} (ok:HOk P w H h) (e:H a=some (.dT kvs)):kvs.length<=sizeLine/\(a==sysModules)=false /\
  ∃ xs,KT H kvs xs/\h.DictOfH (tupleKind (Zt P w)) a xs:=Ze4 ok (.inl e)
end
def DGet (H:Hp) (a:Addr) (y:V) (r:Option V):Prop :=
 (∃ kvs k,Rd H a (.dK kvs)/\y=kV k/\r=XF kvs k)\/∃ kvs k b,Rd H a (.dT kvs)/\y= .ref b/\H b=some (.tup (k.map kV))/\r=XF kvs k
def DPut (H:Hp) (a:Addr) (y v:V) (H':Hp):Prop :=
 (∃ kvs k,H a=some (.dK kvs)/\y=kV k/\kvs.length<sizeLine/\H'=upd H a (.dK (X8 kvs k v))) \/
 ∃ kvs k b,H a=some (.dT kvs)/\y= .ref b/\H b=some (.tup (k.map kV))/\kvs.length<sizeLine/\H'=upd H a (.dT (X8 kvs k v))
theorem DGet.kk {k:Key} (e:H a=some (.dK kvs)):DGet H a (kV k) (XF kvs k):=.inl ⟨kvs,k,.inl e,rfl,rfl⟩
theorem DPut.kk {k:Key} (e:H a=some (.dK kvs)) (hl:kvs.length<sizeLine):DPut H a (kV k) v (upd H a (.dK (X8 kvs k v))):=.inl ⟨kvs,k,e,rfl,hl,rfl⟩
section
variable {X:Cx} {pins:List (Addr×Obj)} {σ:St} {H:Hp} {s:Shared} {a:Addr} {y v:V} {u r:Value} {o:Option V} {A:Around} {E:Value->Shared->Prop}
theorem Inv.big (I:Inv X pins σ H s):sysModules<s.heap.objs.size:=by
 have h:mainGlobals<s.heap.objs.size:=(I.mod.glob.keeps I.bk).lt;exact UH (by decide) h
theorem Zj7 (hu:A.units+1<cLine) (I:Inv X pins σ H s) (g:DGet H a y (some v)) (ry:RelV y u) (h:∀ w' s',Inv X pins σ H s'->RelV v w'->Q w' s') :
  wpAny (model X.prog X.w) A (getItem (.ref a) u) Q E s:=by
 rcases g with ⟨kvs,k,e,ey,l⟩ | ⟨kvs,k,b,e,ey,eb,l⟩
 ·subst ey;obtain⟨z,hd,vs,rel,dd⟩:=ZdZ I.hok e;obtain⟨w',hw,rw'⟩:=RelO.some_of (v:=v) (o:=valueAt vs k) (by rw[l];exact rel.val k);exact wpAny_getItem_of (JZ ry) dd.mapOf hw (h w' _ (I.tok _) rw')
 ·subst ey;cases (show u=Value.ref b from ry);obtain⟨z,hd,xs,rel,dd⟩:=Ze4 I.hok e;obtain⟨w',hw,rw'⟩:=RelO.some_of (v:=v) (o:=(atKey xs k).map (·.2)) (by rw[l];exact rel.val k);obtain⟨p,hp,hp2⟩:=RV.mp hw;refine wpAny_getItem_heap (tupleKind_room_in1 hu) (Zbs I.hok eb) dd hp ?_;rw[hp2];exact h w' _ (I.tok _) rw'
theorem Zoj (hu:A.units+1<cLine) (I:Inv X pins σ H s) (g:DGet H a y o) (ry:RelV y u) (h:∀ s',Inv X pins σ H s'->Q (.bool (!o.isSome)) s') :
  wpAny (model X.prog X.w) A (compareOp .NotIn u (.ref a)) Q E s:=by
 rcases g with ⟨kvs,k,e,ey,l⟩ | ⟨kvs,k,b,e,ey,eb,l⟩
 ·subst ey;obtain⟨z,hd,vs,rel,dd⟩:=ZdZ I.hok e;refine wpAny_notIn_of (JZ ry) hd dd.mapOf ?_;rw[←(rel.val k).isSome_eq,←l];exact h _ (I.tok _)
 ·subst ey;cases (show u=Value.ref b from ry);obtain⟨z,hd,xs,rel,dd⟩:=Ze4 I.hok e;refine wpAny_notIn_heap (tupleKind_room_in1 hu) (Zbs I.hok eb) hd dd ?_;have q:=(rel.val k).isSome_eq;rw[Vy]at q;rw[←q,←l];exact h _ (I.tok _)
theorem JJ {h':Heap} {ob:HO} (I:Inv X pins σ H s) (mu:Mut (H a)) (hs:Heap.SameBut a s.heap h') (he:∃ q,h'.get? a=some q) (new:ObjOk X.prog X.w (upd H a ob) h' a ob) :
  Inv X pins σ (upd H a ob) {s with heap:=h',toks:=t'} :=
 I.write (x:=a) (e:=a) mu (.inl rfl) (fun b q hb z=>(hs.2 b hb).trans z) he new
theorem Zd0 {P:Program} {w:World} {h':Heap} {vs:List (Key×Value)} (z:kvs.length<=sizeLine) (hd:(a==sysModules)=false) (rel:KV kvs vs) (dd:h'.DictOf (Zt P w) a vs) :
  ObjOk P w H' h' a (.dK kvs):=⟨z,hd,vs,rel,dd⟩
theorem Zj6 {Q:Unit->Shared->Prop} (hu:A.units+1<cLine) (I:Inv X pins σ H s) (g:DPut H a y v H') (ry:RelV y u) (rv:RelV v r) (h:∀ s',Inv X pins σ H' s'->Q () s') :
  wpAny (model X.prog X.w) A (setItem (.ref a) u r) Q E s:=by
 rcases g with ⟨kvs,k,e,ey,l,eH⟩ | ⟨kvs,k,b,e,ey,eb,l,eH⟩
 ·subst ey eH;obtain⟨z,hd,vs,rel,dd⟩:=ZcI I.hok e;have hz:vs.length<=sizeLine:=by rw[←rel.length];exact z
  have hl:(X8 kvs k v).length<=sizeLine:=by have:=Y7 kvs k v;omega
  refine wpAny_setItem_pairs (hsz:=hz) (JZ ry) dd fun h' dd' hs=>h _ ?_;have he:∃ q,h'.get? a=some q:=let ⟨q,_,_,hq,_⟩:=dd';⟨q,hq⟩;exact JJ I (by rw[e];exact True.intro) hs he (Zd0 hl hd (rel.put k rv) dd')
 ·subst ey eH;cases (show u=Value.ref b from ry);obtain⟨z,hd,xs,rel,dd⟩:=ZqB I.hok e;have hz:xs.length<=sizeLine:=by rw[←Paired.length rel];exact z
  have hl:(X8 kvs k v).length<=sizeLine:=by have:=Y7 kvs k v;omega
  refine wpAny_setItem_heap (hsz:=hz) (tupleKind_room_in1 hu) (Zbs I.hok eb) dd fun h' dd' hs=>h _ ?_;obtain⟨q,es,ep,hq,h2,h3,h4,_,h5⟩:=dd';refine JJ I (by rw[e];exact True.intro) hs ⟨q,hq⟩ ⟨hl,hd,_,(rel.put k eb rv).keeps fun c ys ec=>?_,q,es,ep,hq,h2,h3,h4,h5⟩;rw[Zi (Zqp ec e (fun z=>nomatch z))];exact ec
end
section
variable {X:Cx} {pins:List (Addr×Obj)} {σ:St} {H:Hp} {s:Shared} {a:Addr} {kvs:List (Key×V)} {k:Key} {u:Value} {A:Around} {E:Value->Shared->Prop}
theorem ZpE {Q:Unit->Shared->Prop} (I:Inv X pins σ H s) (e:H a=some (.dK kvs)) (ry:RelV (kV k) u) (l:(XF kvs k).isSome=true) (h:∀ s',Inv X pins σ (upd H a (.dK (ZdX kvs k))) s'->Q () s') :
  wpAny (model X.prog X.w) A (delItem (.ref a) u) Q E s:=by
 obtain⟨z,hd,vs,rel,dd⟩:=ZcI I.hok e;refine wpAny_delItem_slot dd.typeIs (by decide) PySem.F.slot_dict_delitem
  (call_meetsIn PySem.F.slot_dict_delitem dd.typeIs PySem.F.entry_dict_delitem (PySem.F.args_dict_delitem_2 _ _) (meets_dict_delitem_pairs (Zt X.prog X.w) a (JZ ry)) ⟨vs,dd,by rw[←rel.length];exact z,by rw[←(rel.val k).isSome_eq];exact l,fun h' dd' hs=>h _ ?_⟩)
 have he:∃ q,h'.get? a=some q:=let ⟨q,_,_,hq,_⟩:=dd';⟨q,hq⟩;exact JJ I (by rw[e];exact True.intro) hs he (Zd0 (QY (Zgy kvs k) z) hd (rel.drop k) dd')
theorem ZqC {more:List Value} (I:Inv X pins σ H s) (e:H a=some (.dK kvs)) (ry:RelV (kV k) u) (l:XF kvs k=some v) (hm:more=[]\/∃ x,more=[x])
  (h:∀ w' s',Inv X pins σ (upd H a (.dK (ZdX kvs k))) s'->RelV v w'->Q w' s'):wpAny (model X.prog X.w) A (call (.builtin "dict.pop") (.ref a::u::more)) Q E s:=by
 obtain⟨z,hd,vs,rel,dd⟩:=ZcI I.hok e;obtain⟨w',hw,rw'⟩:=RelO.some_of (v:=v) (o:=valueAt vs k) (by rw[←l];exact rel.val k);have hp:(keyPart u).isSome=true:=by
  cases k with
  | inl i=>obtain⟨t,q⟩:=(show ∃ t,u=Value.int i t from ry);subst q;rfl
  | inr x=>obtain⟨t,q⟩:=(show ∃ t,u=Value.str x t from ry);subst q;rfl
 have ha:argsOk "dict.pop" ⟨.ref a::u::more,[]⟩:=by
  rcases hm with q | ⟨x,q⟩
  ·subst q;exact PySem.F.args_dict_pop_2 _ _
  ·subst q;exact PySem.F.args_dict_pop_3 _ _ _
 refine call_meetsIn PySem.F.slot_dict_pop dd.typeIs PySem.F.entry_dict_pop ha (meets_dict_pop_there (Zt X.prog X.w) a (JZ ry) more hm hp)
  ⟨vs,w',dd,by rw[←rel.length];exact z,hw,fun h' dd' hs=>h w' _ ?_ rw'⟩
 have he:∃ q,h'.get? a=some q:=let ⟨q,_,_,hq,_⟩:=dd';⟨q,hq⟩;exact JJ I (by rw[e];exact True.intro) hs he (Zd0 (QY (Zgy kvs k) z) hd (rel.drop k) dd')
theorem ZpB (I:Inv X pins σ H s) (e:Rd H a (.dK kvs)) (h:∀ t s',Inv X pins σ H s'->Q (.int kvs.length t) s'):wpAny (model X.prog X.w) A (call (.builtin "len") [.ref a]) Q E s:=by
 obtain⟨z,hd,vs,rel,dd⟩:=ZdZ I.hok e;refine call_len_dict hd dd (by rw[←rel.length];rw[sizeLine_eq]at z;omega) ?_;rw[←rel.length];exact h _ _ (I.tok _)
end
def Zq0 (i:Expr):Prop:=∀ ov iv,subscripted i false ov iv=operate [ov,iv] (getItem ov iv)
theorem Zm8 {prog:Program} {w:World} {env:Env} {value slice:Expr} {T id:String} 
  (hl:typeLookup (.type T) "__getitem__" = pure (some (.builtin id))) (hs:Zq0 slice)
  (h:wpAny (model prog w) A (eval value env) (fun o s₁=>wpAny (model prog w) A (eval slice env) (fun i s₂=>s₂.TypeIs o T/\wpAny (model prog w) A (getItem o i) Q E s₂) E s₁) E s) :
  wpAny (model prog w) A (eval (.Subscript value slice pos) env) Q E s:=by
 refine Subscript_ (wpAny_mono h (fun o s₁ h₁=>wpAny_mono h₁ (fun i s₂ h₂=>?_) fun _ _ x=>x) fun _ _ x=>x);obtain⟨hT,h₂⟩:=h₂;unfold subscriptTail;refine wpAny_bind ?_;rw[getitemInPython_of_ne hT.not_modules];refine wpAny_bind (wpAny_specialOf hT hl ?_);have fin:wpAny (model prog w) A (subscripted slice false o i) (fun r s₃=>wpAny (model prog w) A (letTemporaryGo value o r >>= fun _=>pure r) Q E s₃) E s₂:=by
  rw[hs o i];exact wpAny_operating (wpAny_mono h₂ (fun r s₃ h₃=>wpAny_bind (wpAny_letTemporaryGo (wpAny_pure h₃))) fun _ _ x=>x)
 first
  | exact wpAny_pure (wpAny_bind fin)
  | exact wpAny_bind (wpAny_pure (wpAny_bind fin))
  | exact wpAny_bind fin
theorem Ze5 {y:V} {o:Option V} (I:Inv X pins σ H s) (g:DGet H a y o):s.TypeIs (.ref a) "dict":=by
 rcases g with ⟨kvs,k,e,_,_⟩ | ⟨kvs,k,b,e,_,_,_⟩
 ·obtain⟨_,_,vs,_,dd⟩:=ZdZ I.hok e;exact dd.typeIs
 ·obtain⟨_,_,xs,_,dd⟩:=Ze4 I.hok e;exact dd.typeIs
def Zqb (td ty:TE):TE:=fun σ H Q=>td σ H fun x H1=>ty σ H1 fun y H2=>∃ a v,x= .ref a/\DGet H2 a y (some v)/\Q v H2
def Zm6 (ty td:TE):TE:=fun σ H Q=>ty σ H fun y H1=>td σ H1 fun x H2=>∃ a o,x= .ref a/\DGet H2 a y o/\Q (.bl (!o.isSome)) H2
def Zqg (td ty tv:TE):TS:=fun D σ H=>tv σ H fun v H1=>td σ H1 fun x H2=>ty σ H2 fun y H3=>∃ a H4,x= .ref a/\DPut H3 a y v H4/\D.nx σ H4
section
variable {X:Cx} {o i e value:Expr} {pos pos' tpos:Pos} {td ty tv:TE}
theorem Zcb (hu:X.A.units+1<cLine) (ho:PE X o td) (hi:PE X i ty) (hs:Zq0 i):PE X (.Subscript o i pos) (Zqb td ty):=by
 intro pins s σ H Q I h;refine Zm8 PySem.F.slot_dict_getitem.lookup hs (thn (ho pins s σ H _ I h) fun u s1 ⟨x,H1,I1,rx,q1⟩=>thn (hi pins s1 σ H1 _ I1 q1) fun iv s2 ⟨y,H2,I2,ry,a,v,ex,g,q2⟩=>?_);subst ex;obtain rfl:u=Value.ref a:=rx;exact⟨Ze5 I2 g,Zj7 hu I2 g ry fun w' s3 I3 rw'=>⟨v,H2,I3,rw',q2⟩⟩
theorem Zdm (hu:X.A.units+1<cLine) (hi:PE X i ty) (ho:PE X o td):PC X .NotIn i o (Zm6 ty td):=by
 intro pins s σ H Q I h;refine thn (hi pins s σ H _ I h) fun iv s1 ⟨y,H1,I1,ry,q1⟩=>thn (ho pins s1 σ H1 _ I1 q1) fun u s2 ⟨x,H2,I2,rx,a,ov,ex,g,q2⟩=>?_;subst ex;obtain rfl:u=Value.ref a:=rx;exact Zoj hu I2 g ry fun s3 I3=>⟨.bl (!ov.isSome),H2,I3,rfl,q2⟩
theorem XS (hu:X.A.units+1<cLine) (ho:PE X o td) (hi:PE X i ty) (hv:PE X value tv) (hs:swapsWith value (some (.Subscript o i pos')) pos.line X.env=pure false) :
  PS X (.Assign [.Subscript o i pos'] value pos) (Zqg td ty tv):=by
 intro pins s σ H D I h;refine wpAny_Assign_Subscript (thn (hv pins s σ H _ I h) fun r s1 ⟨v,H1,I1,rv,q1⟩=>thn (ho pins s1 σ H1 _ I1 q1) fun u s2 ⟨x,H2,I2,rx,q2⟩=>thn (hi pins s2 σ H2 _ I2 q2) fun iv s3 ⟨y,H3,I3,ry,a,H4,ex,g,q3⟩=>?_) hs;subst ex;obtain rfl:u=Value.ref a:=rx;exact Zj6 hu I3 g ry rv fun s4 I4=>⟨σ,H4,I4,q3⟩
end
theorem Zgz {P:Program} {w:World} (h:Heap) (hb:sysModules<h.objs.size):ObjOk P w H (h.push {cls:=.type "dict",data:=.dict #[]}) h.objs.size (.dK []) :=
 ⟨QO _,beq_eq_false_iff_ne.mpr (Ne.symm (Qz hb)),[],.nil,Heap.DictOf.new h⟩
def ZoE:TE:=fun _ H Q=>∀ p,H p=none->Q (.ref p) (upd H p (.dK []))
section
variable {X:Cx} {pos:Pos}
theorem Jb:PE X (.Dict [] [] pos) ZoE:=fun pins s σ H Q I h =>
 wpAny_Dict_empty ⟨.ref s.heap.objs.size,_,I.laid (a:=s.heap.objs.size) (o:=.dK []) (t':=s.toks) (fun _ _ q=>Qg _ q) (Qk _) (Zgz s.heap I.big),rfl,h _ (I.hok.fresh (Qk _))⟩
end
def ZhU:List (TE×TE)->St->Hp->(List (V×V)->Hp->Prop)->Prop
 | [],_,H,Q=>Q [] H
 | (tk,tv)::r,σ,H,Q=>tk σ H fun x H1=>tv σ H1 fun y H2=>ZhU r σ H2 fun ps H3=>Q ((x,y)::ps) H3
abbrev VV:List (V×V)->List (Value×Value)->Prop:=Paired fun p q=>RelV p.1 q.1/\RelV p.2 q.2
def PPs (X:Cx) (pos:Pos) (keys:List (Option Expr)) (values:List Expr) (trs:List (TE×TE)):Prop :=
 ∀ (pins:List (Addr×Obj)) (s:Shared) (σ:St) (H:Hp) (Q:List (V×V)->Hp->Prop),Inv X pins σ H s->ZhU trs σ H Q ->
  wpAny (model X.prog X.w) X.A (evalPairs (pairTrees keys values X.env pos)) (fun vs s'=>∃ ps H',Inv X pins σ H' s'/\VV ps vs/\Q ps H') X.xe s
theorem Znr:PPs X pos [] [] []:=fun pins s σ H Q I h=>pairTrees_nil_walk ⟨[],H,I,.nil,h⟩
theorem ZkR {k v:Expr} {ks:List (Option Expr)} {vs:List Expr} {tk tv:TE} {trs:List (TE×TE)} (hk:PE X k tk) (hv:PE X v tv) (hr:PPs X pos ks vs trs) :
  PPs X pos (some k::ks) (v::vs) ((tk,tv)::trs):=fun pins s σ H Q I h =>
 pairTrees_cons_walk (thn (hk pins s σ H _ I h) fun u s1 ⟨x,H1,I1,rx,q1⟩=>thn (hv pins s1 σ H1 _ I1 q1) fun w2 s2 ⟨y,H2,I2,ry,q2⟩ =>
  thn (hr pins s2 σ H2 _ I2 q2) fun ws s3 ⟨ps,H3,I3,rel,q3⟩=>⟨(x,y)::ps,H3,I3,.cons ⟨rx,ry⟩ rel,q3⟩)
def JT (kvs more:List (Key×V)):List (Key×V):=more.foldl (fun acc kv=>X8 acc kv.1 kv.2) kvs
theorem KV.merge:∀ {more:List (Key×V)} {rs:List (Key×Value)} {kvs:List (Key×V)} {vs:List (Key×Value)},KV more rs->KV kvs vs->KV (JT kvs more) (merged vs rs):=by
 intro more rs kvs vs r;unfold KV at r;induction r generalizing kvs vs with
 | nil=>intro q;exact q
 | @cons p q ps qs h t ih =>
  intro r0;have e:KV (X8 kvs p.1 p.2) (stored vs q.1 q.2):=by
   have:=r0.put p.1 h.2;rw[←h.1];exact this
  exact ih e
theorem Jf:∀ (more kvs:List (Key×V)),(JT kvs more).length<=kvs.length+more.length
 | [],kvs=>by show kvs.length<=kvs.length+0;omega
 | p::r,kvs=>by
  have h1:=Jf r (X8 kvs p.1 p.2);have h2:=Y7 kvs p.1 p.2;show(JT (X8 kvs p.1 p.2) r).length<=_;rw[QL];omega
theorem ZbB {P:Program} {w:World}:∀ {kvs:List (Key×V)} {ws:List (Value×Value)},VV (kvs.map fun kv=>(kV kv.1,kv.2)) ws->∃ rs,Carries (Zt P w) ws rs/\KV kvs rs
 | [],_,r=>by rw[We]at r;cases r;exact⟨[],True.intro,.nil⟩
 | p::kvs,_,r=>by
  rw[Qh]at r;cases r with
  | @cons a b as bs h t =>
   obtain⟨rs,c,q⟩:=ZbB (P:=P) (w:=w) t;obtain⟨b1,b2⟩:=b;exact⟨(p.1,b2)::rs,⟨JZ h.1,rfl,c⟩,.cons ⟨rfl,h.2⟩ q⟩
def Zp9 (trs:List (TE×TE)):TE:=fun σ H Q=>∀ p,H p=none->ZhU trs σ (upd H p (.dK [])) fun ps H2=>H2 p=some (.dK [])/\∃ kvs:List (Key×V),ps=kvs.map (fun kv=>(kV kv.1,kv.2))/\kvs.length<=15/\Q (.ref p) (upd H2 p (.dK (JT [] kvs)))
theorem Znu {keys:List (Option Expr)} {values:List Expr} {trs:List (TE×TE)} (h:PPs X pos keys values trs) (hall:keys.all (·.isSome)=true) (hl:keys.length=values.length) (h0:keys≠[])
  (h15:keys.length<=15):PE X (.Dict keys values pos) (Zp9 trs):=by
 intro pins s σ H Q I q;have hn:=I.hok.fresh (Qk s.heap.objs.size);have I1:=I.laid (a:=s.heap.objs.size) (o:=.dK []) (h':=s.heap.push {cls:=.type "dict",data:=.dict #[]}) (t':=s.toks) (fun _ _ q=>Qg _ q) (Qk _) (Zgz s.heap I.big);refine wpAny_Dict_walk (knd:=Zt X.prog X.w) hall hl h0 h15 (thn (h pins _ σ _ _ I1 (q _ hn)) fun ws s2 ⟨ps,H2,I2,rel,e,kvs,ep,lk,q2⟩=>?_);subst ep;obtain⟨rs,c,rk⟩:=ZbB (P:=X.prog) (w:=X.w) rel;obtain⟨z,hd,vs0,r0,dd⟩:=ZcI I2.hok e;cases r0;refine⟨rs,c,dd,fun h' dd' hs=>⟨.ref s.heap.objs.size,_,?_,rfl,q2⟩⟩;have hz:(JT [] kvs).length<=sizeLine:=by
  have h1:=Jf kvs [];rw[Uh]at h1;rw[sizeLine_eq];omega
 have he:∃ q,h'.get? s.heap.objs.size=some q:=let ⟨q,_,_,hq,_⟩:=dd';⟨q,hq⟩;exact JJ I2 (by rw[e];exact True.intro) hs he (Zd0 hz hd (rk.merge .nil) dd')
structure M1 (X:Cx) (o:Expr) (m:Str) (apos:Pos) (e:Expr) (cpos:Pos):Prop where
 base:attributeBase o m X.env (eval o X.env)=eval o X.env
 few:((backTo cpos (starEach [e] X.env)).all (fun x=>!x.1)&&(backToKw cpos (keywordEach [] X.env)).all (fun x=>x.1.isSome)
  && decide (([e]:List Expr).length+([]:List Keyword).length+(if ([]:List Keyword).isEmpty then 0 else 1)<30))=true
 line:(apos.endLine==cpos.line)=true
 trees:backTo cpos (starEach [e] X.env)=[(false,eval e X.env)]
structure M2 (X:Cx) (o:Expr) (m:Str) (apos:Pos) (e f:Expr) (cpos:Pos):Prop where
 base:attributeBase o m X.env (eval o X.env)=eval o X.env
 few:((backTo cpos (starEach [e,f] X.env)).all (fun x=>!x.1)&&(backToKw cpos (keywordEach [] X.env)).all (fun x=>x.1.isSome)
  && decide (([e,f]:List Expr).length+([]:List Keyword).length+(if ([]:List Keyword).isEmpty then 0 else 1)<30))=true
 line:(apos.endLine==cpos.line)=true
 trees:backTo cpos (starEach [e,f] X.env)=[(false,eval e X.env),(false,eval f X.env)]
def IsD (H:Hp) (a:Addr):Prop:=(∃ kvs,Rd H a (.dK kvs))\/∃ kvs,Rd H a (.dT kvs)
theorem ZdN (I:Inv X pins σ H s) (d:IsD H a) :
  s.TypeIs (.ref a) "dict"/\(∀ b,Value.ref a= .ref b->∃ ob,s.heap.get? b=some ob/\ob.dict=none)/\(a==sysModules)=false:=by
 rcases d with ⟨kvs,e⟩ | ⟨kvs,e⟩
 ·obtain⟨_,hd,vs,_,dd⟩:=ZdZ I.hok e;refine⟨dd.typeIs,fun b q=>?_,hd⟩;cases q;obtain⟨ob,_,_,h1,h2,_⟩:=dd;exact⟨ob,h1,h2.2.1⟩
 ·obtain⟨_,hd,xs,_,dd⟩:=Ze4 I.hok e;refine⟨dd.typeIs,fun b q=>?_,hd⟩;cases q;obtain⟨ob,_,_,h1,h2,_⟩:=dd;exact⟨ob,h1,h2.2.1⟩
section
variable {X:Cx} {pins:List (Addr×Obj)} {σ:St} {H:Hp} {s:Shared} {a:Addr} {y d:V} {u r:Value} {o:Option V} {A:Around} {E:Value->Shared->Prop}
theorem ZpD (hu:A.units+1<cLine) (I:Inv X pins σ H s) (g:DGet H a y o) (ry:RelV y u) (h:∀ w' s',Inv X pins σ H s'->RelV (o.getD .non) w'->Q w' s') :
  wpAny (model X.prog X.w) A (call (.builtin "dict.get") [.ref a,u]) Q E s:=by
 rcases g with ⟨kvs,k,e,ey,l⟩ | ⟨kvs,k,b,e,ey,eb,l⟩
 ·subst ey;obtain⟨z,hd,vs,rel,dd⟩:=ZdZ I.hok e;refine call_meetsIn PySem.F.slot_dict_get dd.typeIs PySem.F.entry_dict_get (PySem.F.args_dict_get_2 _ _) (meets_dict_get (Zt X.prog X.w) a (JZ ry) hd) ⟨_,dd.mapOf,h _ _ (I.tok _) ?_⟩;rw[l];exact(rel.val k).getD rfl
 ·subst ey;cases (show u=Value.ref b from ry);obtain⟨z,hd,xs,rel,dd⟩:=Ze4 I.hok e;refine call_meetsIn PySem.F.slot_dict_get dd.typeIs PySem.F.entry_dict_get (PySem.F.args_dict_get_2 _ _) (meetsH_dict_get (tupleKind (Zt X.prog X.w)) a b hd) ⟨tupleKind_room_in1 hu,k,xs,Zbs I.hok eb,dd,h _ _ (I.tok _) ?_⟩;rw[l];exact(rel.val k).getD rfl
theorem ZpC (hu:A.units+1<cLine) (I:Inv X pins σ H s) (g:DGet H a y o) (ry:RelV y u) (rd:RelV d r) (h:∀ w' s',Inv X pins σ H s'->RelV (o.getD d) w'->Q w' s') :
  wpAny (model X.prog X.w) A (call (.builtin "dict.get") [.ref a,u,r]) Q E s:=by
 rcases g with ⟨kvs,k,e,ey,l⟩ | ⟨kvs,k,b,e,ey,eb,l⟩
 ·subst ey;obtain⟨z,hd,vs,rel,dd⟩:=ZdZ I.hok e;refine call_meetsIn PySem.F.slot_dict_get dd.typeIs PySem.F.entry_dict_get (PySem.F.args_dict_get_3 _ _ _) (meets_dict_get_default (Zt X.prog X.w) a (JZ ry) hd r) ⟨_,dd.mapOf,h _ _ (I.tok _) ?_⟩;rw[l];exact(rel.val k).getD rd
 ·subst ey;cases (show u=Value.ref b from ry);obtain⟨z,hd,xs,rel,dd⟩:=Ze4 I.hok e;refine call_meetsIn PySem.F.slot_dict_get dd.typeIs PySem.F.entry_dict_get (PySem.F.args_dict_get_3 _ _ _) (meetsH_dict_get_default (tupleKind (Zt X.prog X.w)) a b hd r) ⟨tupleKind_room_in1 hu,k,xs,Zbs I.hok eb,dd,h _ _ (I.tok _) ?_⟩;rw[l];exact(rel.val k).getD rd
end
def ZoG (td ty:TE):TE:=fun σ H Q=>td σ H fun x H1=>∃ a,x= .ref a/\IsD H1 a/\ty σ H1 fun y H2=>∃ o,DGet H2 a y o/\Q (o.getD .non) H2
def ZoF (td ty tx:TE):TE:=fun σ H Q=>td σ H fun x H1=>∃ a,x= .ref a/\IsD H1 a/\ty σ H1 fun y H2=>tx σ H2 fun z H3=>∃ o,DGet H3 a y o/\Q (o.getD z) H3
def ZoD (td ty:TE):TE:=fun σ H Q=>td σ H fun x H1=>∃ a,x= .ref a/\IsD H1 a/\ty σ H1 fun y H2=>∃ kvs k v,H2 a=some (.dK kvs)/\y=kV k/\XF kvs k=some v/\Q v (upd H2 a (.dK (ZdX kvs k)))
section
variable {X:Cx} {o e f:Expr} {apos cpos:Pos} {td ty tx:TE}
theorem ZfX (hu:X.A.units+1<cLine) (ho:PE X o td) (he:PE X e ty) (m:M1 X o "get" apos e cpos):PE X (.Call (.Attribute o "get" apos) [e] [] cpos) (ZoG td ty):=by
 intro pins s σ H Q I h;refine wpAny_Call_method m.base m.few m.line PySem.F.plainAttrs_dict PySem.F.slot_dict_get PySem.F.type_dict_get (thn (ho pins s σ H _ I h) fun u s1 ⟨x,H1,I1,rx,a,ex,d,q1⟩=>?_);subst ex;obtain rfl:u=Value.ref a:=rx;obtain⟨t1,t2,_⟩:=ZdN I1 d;refine⟨t1,t2,?_⟩;rw[m.trees];refine Calls.callWith_builtin rfl (Calls.evalArgs_plain (Calls.spliced_cons (thn (he pins s1 σ H1 _ I1 q1) fun iv s2 ⟨y,H2,I2,ry,ov,g,q2⟩=>Calls.spliced_nil ?_)));exact ZpD hu I2 g ry fun w' s3 I3 rw'=>⟨_,H2,I3,rw',q2⟩
theorem Zak (hu:X.A.units+1<cLine) (ho:PE X o td) (he:PE X e ty) (hf:PE X f tx) (m:M2 X o "get" apos e f cpos):PE X (.Call (.Attribute o "get" apos) [e,f] [] cpos) (ZoF td ty tx):=by
 intro pins s σ H Q I h;refine wpAny_Call_method m.base m.few m.line PySem.F.plainAttrs_dict PySem.F.slot_dict_get PySem.F.type_dict_get (thn (ho pins s σ H _ I h) fun u s1 ⟨x,H1,I1,rx,a,ex,d,q1⟩=>?_);subst ex;obtain rfl:u=Value.ref a:=rx;obtain⟨t1,t2,_⟩:=ZdN I1 d;refine⟨t1,t2,?_⟩;rw[m.trees];refine Calls.callWith_builtin rfl (Calls.evalArgs_plain (Calls.spliced_cons (thn (he pins s1 σ H1 _ I1 q1) fun iv s2 ⟨y,H2,I2,ry,q2⟩ =>
  Calls.spliced_cons (thn (hf pins s2 σ H2 _ I2 q2) fun fv s3 ⟨z,H3,I3,rz,ov,g,q3⟩=>Calls.spliced_nil ?_))))
 exact ZpC hu I3 g ry rz fun w' s4 I4 rw'=>⟨_,H3,I4,rw',q3⟩
theorem ZkT (ho:PE X o td) (he:PE X e ty) (m:M1 X o "pop" apos e cpos):PE X (.Call (.Attribute o "pop" apos) [e] [] cpos) (ZoD td ty):=by
 intro pins s σ H Q I h;refine wpAny_Call_method m.base m.few m.line PySem.F.plainAttrs_dict PySem.F.slot_dict_pop PySem.F.type_dict_pop (thn (ho pins s σ H _ I h) fun u s1 ⟨x,H1,I1,rx,a,ex,d,q1⟩=>?_);subst ex;obtain rfl:u=Value.ref a:=rx;obtain⟨t1,t2,_⟩:=ZdN I1 d;refine⟨t1,t2,?_⟩;rw[m.trees];refine Calls.callWith_builtin rfl (Calls.evalArgs_plain (Calls.spliced_cons (thn (he pins s1 σ H1 _ I1 q1) fun iv s2 ⟨y,H2,I2,ry,kvs,k,v,ea,ey,l,q2⟩=>Calls.spliced_nil ?_)));subst ey;exact ZqC I2 ea ry l (.inl rfl) fun w' s3 I3 rw'=>⟨v,_,I3,rw',q2⟩
end
section
variable {X:Cx} {pins:List (Addr×Obj)} {σ:St} {H:Hp} {s:Shared} {a:Addr} {kvs:List (Key×V)} {A:Around} {E:Value->Shared->Prop}
end
section
variable {X:Cx} {pins:List (Addr×Obj)} {σ:St} {H:Hp} {s:Shared} {a:Addr} {y:V} {u:Value} {A:Around} {E:Value->Shared->Prop}
end
end L2
namespace HT
open PySem PyProof.Rows
section
open PySem.SeqAt
open PySem.AutoSeq1 (wpAny_loadPart')
open PySem.MeetsSeq PySem.MeetsSeq2 PySem.MeetsSeq3
end
section
variable {prog:Program} {w:World} {A:Around} {E:Value->Shared->Prop} {s:Shared}
def sIx (n d:Nat):Option Int->Nat
 | none=>d
 | some v=>if v<0 then (v+(n:Int)).toNat else min v.toNat n
theorem sIx_none (n d:Nat):sIx n d none=d:=rfl
theorem sIx_nat (n d k:Nat):sIx n d (some (k:Int))=min k n:=by
 show(if (k:Int)<0 then ((k:Int)+(n:Int)).toNat else min (k:Int).toNat n)=min k n;rw[if_neg (by omega),Wn]
end
end HT
namespace L2
open PySem PySem.Spec PyProof.Rows
variable {H:Hp} {its:List Value} {n:Nat} {pins:List (Addr×Obj)} {s:Shared} {xs:List V} {σ:St}
abbrev TO:=St->Hp->(Option Int->Hp->Prop)->Prop
def PO (X:Cx) (e:Option Expr) (t:TO):Prop :=
 ∀ (pins:List (Addr×Obj)) (s:Shared) (σ:St) (H:Hp) (Q:Option Int->Hp->Prop),Inv X pins σ H s->t σ H Q ->
  wpAny (model X.prog X.w) X.A (evalPart e X.env) (fun u s'=>∃ o H',Inv X pins σ H' s'/\IsPart u o/\Q o H') X.xe s
def Zm5:TO:=fun _ H Q=>Q none H
def Zm4 (t:TE):TO:=fun σ H Q=>t σ H fun x H1=>∃ i,x= .int i/\Q (some i) H1
section
variable {X:Cx} {e:Expr} {te:TE} {lo hi:Option Expr} {tl th:TO} {pos p2:Pos}
theorem ZT:PO X none Zm5:=by
 intro pins s σ H Q I h;rw[evalPart_none];exact wpAny_pure ⟨none,H,I,.none,h⟩
theorem ZL (h:PE X e te):PO X (some e) (Zm4 te):=by
 intro pins s σ H Q I hw;rw[evalPart_some];refine thn (h pins s σ H _ I hw) fun u s1 ⟨x,H1,I1,r1,q1⟩=>?_;obtain⟨i,rfl,q⟩:=q1;obtain⟨t,rfl⟩:=r1;exact⟨some i,H1,I1,.int i t,q⟩
def SlR (X:Cx) (r:V->Option Int->Option Int->Hp->VK->Prop):Prop :=
 ∀ (pins:List (Addr×Obj)) (s:Shared) (σ:St) (H:Hp) (x:V) (v vl vu:Value) (lo hi:Option Int) (sl:Addr) (Q:VK),Inv X pins σ H s->RelV x v->s.heap.IsSliceOf sl vl vu .none->IsPart vl lo->IsPart vu hi->r x lo hi H Q ->
  ∃ T id,typeLookup (.type T) "__getitem__" = pure (some (.builtin id))/\s.TypeIs v T/\wpAny (model X.prog X.w) X.A (getItem v (.ref sl)) (EP X pins σ Q) X.xe s
def tSl (r:V->Option Int->Option Int->Hp->VK->Prop) (te:TE) (tl th:TO):TE:=fun σ H Q=>te σ H fun x H1=>tl σ H1 fun l H2=>th σ H2 fun u H3=>r x l u H3 Q
theorem ZF {r:V->Option Int->Option Int->Hp->VK->Prop} (hr:SlR X r) (he:PE X e te) (hl:PO X lo tl) (hu:PO X hi th):PE X (.Subscript e (.Slice lo hi none p2) pos) (tSl r te tl th):=by
 intro pins s σ H Q I h;refine Subscript_ (thn (he pins s σ H _ I h) fun v s1 ⟨x,H1,I1,r1,q1⟩=>?_);refine wpAny_Slice (thn (hl pins s1 σ H1 _ I1 q1) fun vl s2 ⟨l,H2,I2,pl,q2⟩=>thn (hu pins s2 σ H2 _ I2 q2) fun vu s3 ⟨u,H3,I3,pu,q3⟩=>?_);rw[evalPart_none];refine wpAny_pure ?_;have I4:Inv X pins σ H3 {s3 with heap:=s3.heap.push {cls:=.type "slice",data:=.fields #[vl,vu,.none]}}:=I3.kept (t':=s3.toks) fun b ob q=>Qg _ q;obtain⟨T,id,hT,ht,hg⟩:=hr pins {s3 with heap:=s3.heap.push {cls:=.type "slice",data:=.fields #[vl,vu,.none]}} σ H3 x v vl vu l u s3.heap.objs.size Q I4 r1 (Heap.IsSliceOf.new ..) pl pu q3;show wpAny (model X.prog X.w) X.A (subscriptTail e (.Slice lo hi none p2) v (.ref s3.heap.objs.size)) (EP X pins σ Q) X.xe {s3 with heap:=s3.heap.push {cls:=.type "slice",data:=.fields #[vl,vu,.none]}};exact tail_any (ops:=[.ref s3.heap.objs.size,v]) ht hT hg (by with_unfolding_all rfl)
def Ze9 (xs:List V) (lo hi:Option Int):List V:=(xs.drop (HT.sIx xs.length 0 lo)).take (HT.sIx xs.length xs.length hi-HT.sIx xs.length 0 lo)
theorem Ze8 (xs:List V) (lo hi:Option Int):(Ze9 xs lo hi).length<=xs.length:=by
 unfold Ze9;rw[QB,QV];omega
end
def ixN (n:Nat) (i:Int):Option Nat:=if 0<=i then (if i<n then some i.toNat else none)else if -(n:Int)<=i then some (i+n).toNat else none
def atI {α:Type} (xs:List α) (i:Int):Option α:=(ixN xs.length i).bind fun j=>xs[j]?
theorem ixN_seq {i:Int} {j:Nat} (h:ixN n i=some j):seqIndex? i n=some j/\j<n/\-(n:Int)<=i/\i<n:=by
 unfold ixN at h;by_cases h0:0<=i
 ·rw[if_pos h0]at h;by_cases h1:i<n
  ·rw[if_pos h1]at h;have e:i.toNat=j:=Option.some.inj h;exact⟨by rw[seqIndex_of h0 h1,e],by omega,by omega,h1⟩
  ·rw[if_neg h1]at h;cases h
 ·rw[if_neg h0]at h;by_cases h1 : -(n:Int)<=i
  ·rw[if_pos h1]at h;have e:(i+n).toNat=j:=Option.some.inj h;exact⟨by rw[seqIndex_neg (by omega) h1,e],by omega,h1,by omega⟩
  ·rw[if_neg h1]at h;cases h
theorem Zff {α:Type} {xs:List α} {i:Int} {v:α} (h:atI xs i=some v):∃ j,seqIndex? i xs.length=some j/\xs[j]?=some v/\j<xs.length/\-(xs.length:Int)<=i/\i<xs.length:=by
 unfold atI at h;cases e:ixN xs.length i with
 | none=>rw[e]at h;cases h
 | some j =>
  rw[e]at h;obtain⟨h1,h2,h3,h4⟩:=ixN_seq e;exact⟨j,h1,h,h2,h3,h4⟩
theorem Zfe {α:Type} {xs:List α} {j:Nat} {v:α} (h:xs[j]?=some v):atI xs (j:Int)=some v:=by
 have hj:j<xs.length:=(Qn.mp h).1;have e:ixN xs.length (j:Int)=some j:=by
  unfold ixN;rw[if_pos (by omega),if_pos (by omega)];simp
 unfold atI;rw[e];exact h
def Zoq (b:Expr):Prop:=∀ o i,subscripted b false o i=operate [o,i] (getItem o i)
def IxR (X:Cx) (r:R2):Prop :=
 ∀ (value slice:Expr) (pins:List (Addr×Obj)) (s:Shared) (σ:St) (H:Hp) (x y:V) (v u:Value) (Q:VK),Inv X pins σ H s->RelV x v->RelV y u->r x y H Q ->
  subscripted slice false v u=operate [v,u] (getItem v u)->wpAny (model X.prog X.w) X.A (subscriptTail value slice v u) (EP X pins σ Q) X.xe s
def MtR (X:Cx) (id:String) (r:V->List V->Hp->VK->Prop):Prop :=
 ∀ (pins:List (Addr×Obj)) (s:Shared) (σ:St) (H:Hp) (x:V) (xs:List V) (v:Value) (us:List Value) (Q:VK),Inv X pins σ H s->RelV x v->Vals xs us->r x xs H Q ->
  wpAny (model X.prog X.w) X.A (call (.builtin id) (v::us)) (EP X pins σ Q) X.xe s
section
variable {X:Cx} {a b:Expr} {ta tb:TE} {pos:Pos}
theorem ZP {r:R2} (hr:IxR X r) (ha:PE X a ta) (hb:PE X b tb) (hs:Zoq b):PE X (.Subscript a b pos) (tOp r ta tb):=by
 intro pins s σ H Q I h;exact Subscript_ (ZqE ha hb I h fun v u s2 x y H2 I2 rx ry q=>hr a b pins s2 σ H2 x y v u Q I2 rx ry q (hs _ _))
def ZqT (K:PySem.W.Frag):R2:=fun x y H Q=>∃ p xs i v,x= .ref p/\y= .int i/\SqL K H p xs/\atI xs i=some v/\Q v H
def Zrd (K:PySem.W.Frag):R2:=fun x y H Q=>∃ p xs i v,x= .ref p/\y= .int i/\SqT K H p xs/\atI xs i=some v/\Q v H
def Zre:R2:=fun x y H Q=>∃ z i c,x= .str z/\y= .int i/\z.length<=sizeLine/\atI z.cps.toList i=some c/\Q (.str ⟨#[c]⟩) H
theorem ZO:IxR X (ZqT X.K):=by
 intro value slice pins s σ H x y v u Q I rx ry h hs;obtain⟨p,xs,i,z,rfl,rfl,hq,he,q⟩:=h;cases rx;obtain⟨t,rfl⟩:=ry;obtain⟨its,r,pl,hz⟩:=I.list hq;obtain⟨j,h1,h2,h3,h4,h5⟩:=Zff he;obtain⟨w,ew,rw'⟩:=r.get h2;have hl:=r.length;have hn:=ZaP;have fin:EP X pins σ Q w s:=⟨z,H,I,rw',q⟩
 by_cases h0:0<=i
 ·have hj:i.toNat=j:=by
   rw[seqIndex_of h0 h5]at h1;exact Option.some.inj h1
  exact item_listR pl.isList h0 (by omega) (by rw[hj];simpa using ew) fin hs
 ·have hj:(i+(its.toArray.size:Int)).toNat=j:=by
   rw[seqIndex_neg (by omega) h4]at h1;rw[Qr,←hl];exact Option.some.inj h1
  exact subscriptTail_builtinR (x:=w) pl.isList.typeIs slot_list_getitem.lookup
   (wpAny_getItem_list_neg (Q:=fun r s'=>r=w/\EP X pins σ Q r s') pl.isList (by omega) (by rw[Qr] <;> omega) (by omega) (by rw[hj];simpa using ew) ⟨rfl,fin⟩) hs
theorem Xp:IxR X (Zrd X.K):=by
 intro value slice pins s σ H x y v u Q I rx ry h hs;obtain⟨p,xs,i,z,rfl,rfl,hq,he,q⟩:=h;cases rx;obtain⟨t,rfl⟩:=ry;obtain⟨its,r,pl,hz⟩:=I.tuple hq;obtain⟨j,h1,h2,h3,h4,h5⟩:=Zff he;obtain⟨w,ew,rw'⟩:=r.get h2;have hl:=r.length;have hn:=ZaP;have fin:EP X pins σ Q w s:=⟨z,H,I,rw',q⟩
 exact subscriptTail_builtinR (x:=w) pl.typeIs slot_tuple_getitem.lookup
  (getItem_tuple (j:=j) (Q:=fun r s'=>r=w/\EP X pins σ Q r s') pl (by omega) (by omega) (by rw[Qr,←hl];exact h1) (by simpa using ew) ⟨rfl,fin⟩) hs
theorem ZdK:IxR X Zre:=by
 intro value slice pins s σ H x y v u Q I rx ry h hs;obtain⟨z,i,c,rfl,rfl,hz,he,q⟩:=h;obtain⟨t,rfl⟩:=rx;obtain⟨t',rfl⟩:=ry;obtain⟨j,h1,h2,h3,h4,h5⟩:=Zff he;have hl:z.cps.toList.length=z.length:=by simp[Str.length]
 rw[hl]at h1 h4 h5;have hn:=ZaP;exact tail_any (typeIs_str s z t) slot_str_getitem.lookup (getItem_str (c:=c) (by
  have e1:decide (i < -(2 ^ 63:Int))=false:=decide_eq_false (by omega);have e2:decide (i≥2 ^ 63)=false:=decide_eq_false (by omega);rw[e1,e2,RB]) (by rw[h1];simpa using h2) ⟨.str ⟨#[c]⟩,H,I.tok _,⟨_,rfl⟩,q⟩) hs
theorem Zhb (its:List Value) (n j:Nat) (u:Value):Obj.mapSeq (·.setIfInBounds j u) {cls:=.type "list",data:=.seq its.toArray n}={cls:=.type "list",data:=.seq (its.set j u).toArray n}:=by
 simp[Obj.mapSeq]
theorem Inv.lst {p:Addr} (I:Inv X pins σ H s) (h:H p=some (.lst xs)) :
  ∃ (its:List Value) (n:Nat),Vals xs its/\s.heap.get? p=some {cls:=.type "list",data:=.seq its.toArray n}/\xs.length<=sizeLine:=by
 obtain⟨z,its,n,r,e⟩:=I.hok p _ h;exact⟨its,n,r,e,z⟩
theorem Inv.lstUpd {p:Addr} {ys:List V} {its':List Value} {n':Nat} {f:Obj->Obj} (I:Inv X pins σ H s) (h:H p=some (.lst xs))
  (ho:s.heap.get? p=some {cls:=.type "list",data:=.seq its.toArray n}) (hf:f {cls:=.type "list",data:=.seq its.toArray n}={cls:=.type "list",data:=.seq its'.toArray n'}) (r:Vals ys its') (hz:ys.length<=sizeLine) (t:Nat) :
  Inv X pins σ (upd H p (.lst ys)) {s with heap:=s.heap.update p f,toks:=t}:=by
 have e:(s.heap.update p f).get? p=some {cls:=.type "list",data:=.seq its'.toArray n'}:=by
  rw[Wf f ho (by rw[hf] <;> rfl),hf]
 refine I.write (x:=p) (e:=p) (by rw[h];trivial) (.inl rfl) (fun b u hb q=>(QN _ _ (Ne.symm hb)).trans q) ⟨_,e⟩ ?_;exact⟨hz,its',n',r,e⟩
def Zqi:V->V->V->Hp->(Hp->Prop)->Prop:=fun o i v H Q=>∃ p xs k j,o= .ref p/\i= .int k/\H p=some (.lst xs)/\ixN xs.length k=some j/\Q (upd H p (.lst (xs.set j v)))
theorem ZbU:ZqI X Zqi:=by
 intro pins s σ H o i v ov iv u Q I ro ri rv h;obtain⟨p,xs,k,j,rfl,rfl,hp,hj,q⟩:=h;cases ro;obtain⟨t,rfl⟩:=ri;obtain⟨its,n,r,ho,hz⟩:=I.lst hp;obtain⟨h1,h2,h3,h4⟩:=ixN_seq hj;have hl:=r.length;have hn:=ZaP;have I':Inv X pins σ (upd H p (.lst (xs.set j v))) {s with heap:=s.heap.update p (Obj.mapSeq (·.setIfInBounds j u))} :=
  I.lstUpd hp ho (Zhb its n j u) (r.set rv j) (by rw[VJ];exact hz) s.toks
 by_cases h0:0<=k
 ·have hk:k.toNat=j:=by
   rw[seqIndex_of h0 h4]at h1;exact Option.some.inj h1
  exact PySem.W.ki_setAt ho h0 (by omega) (by rw[Qr,←hl];exact h4) (by rw[hk];exact⟨_,I',q⟩)
 ·have hk:(k+(its.toArray.size:Int)).toNat=j:=by
   rw[seqIndex_neg (by omega) h3]at h1;rw[Qr,←hl];exact Option.some.inj h1
  exact PySem.W.ki_setBack ho (by omega) (by rw[Qr,←hl];exact h3) (by omega) (by rw[hk];exact⟨_,I',q⟩)
theorem Zda (lo hi:Option Int) (n:Nat):(sliceBounds lo hi none n).1=((HT.sIx n 0 lo:Nat):Int)/\(sliceBounds lo hi none n).2.1=((HT.sIx n n hi:Nat):Int)/\(sliceBounds lo hi none n).2.2=1:=by
 refine⟨?_,?_,rfl⟩
 ·cases lo with
  | none=>simp[sliceBounds,HT.sIx]
  | some i =>
   simp only[sliceBounds,HT.sIx,VG,show(1:Int)>0 by decide,if_true];by_cases h:i<0
   ·simp only[h,if_true] <;> omega
   ·simp only[h,if_false] <;> omega
 ·cases hi with
  | none=>simp[sliceBounds,HT.sIx]
  | some i =>
   simp only[sliceBounds,HT.sIx,VG,show(1:Int)>0 by decide,if_true];by_cases h:i<0
   ·simp only[h,if_true] <;> omega
   ·simp only[h,if_false] <;> omega
theorem ZbS (its:List Value) (lo hi:Option Int):slicePick its.toArray lo hi none=((its.drop (HT.sIx its.length 0 lo)).take (HT.sIx its.length its.length hi-HT.sIx its.length 0 lo)).toArray:=by
 obtain⟨h1,h2,h3⟩:=Zda lo hi its.toArray.size;unfold slicePick;rw[h1,h2,h3];simp only[sliceRange_one,pick_run,Qr] <;> rfl
def Zrb (K:PySem.W.Frag):V->Option Int->Option Int->Hp->VK->Prop:=fun x lo hi H Q=>∃ a xs,x= .ref a/\SqL K H a xs/\∀ p,H p=none->Q (.ref p) (upd H p (.lst (Ze9 xs lo hi)))
theorem ZbT:SlR X (Zrb X.K):=by
 intro pins s σ H x v vl vu lo hi sl Q I rx hs pl pu h;obtain⟨a,xs,rfl,hx,q⟩:=h;cases rx;obtain⟨its,r,ht,hz⟩:=I.list hx;have hlen:=r.length;refine⟨"list",_,slot_list_getitem.lookup,ht.isList.typeIs,?_⟩;refine wpAny_getItem_list_slice ht.isList hs pl pu .none (by simp) ?_ (by rw[Qr] <;> omega);rw[ZbS,←hlen];refine⟨.ref s.heap.objs.size,_,I.laid (t':=s.toks) (o:=.lst (Ze9 xs lo hi)) (fun b ob q=>Qg _ q) (Qk _) ?_,rfl,q _ (I.hok.fresh (Qk _))⟩;exact⟨QY (Ze8 xs lo hi) hz,_,0,(r.drop (HT.sIx xs.length 0 lo)).take (HT.sIx xs.length xs.length hi-HT.sIx xs.length 0 lo),Qy _ rfl⟩
def ZcF:V->Bool
 | .non=>true
 | .bl _=>true
 | .int _=>true
 | .str _=>true
 | _=>false
def eqV:V->V->Bool
 | .non,.non=>true
 | .bl a,.bl b=>a==b
 | .bl a,.int b=>(if a then 1 else 0)==b
 | .int a,.bl b=>a==(if b then 1 else 0)
 | .int a,.int b=>a==b
 | .str a,.str b=>a==b
 | _,_=>false
theorem Zpz {A:Around} {y x:V} {u v:Value} (ry:RelV y u) (rx:RelV x v) (fy:ZcF y=true) (fx:ZcF x=true):SeqAt.EqAt A s u v (eqV y x):=by
 cases y with
 | non =>
  cases ry;cases x with
  | non=>cases rx;exact SeqAt.EqAt.same _
  | bl b=>cases rx;exact SeqAt.EqAt.none_bool b
  | int b=>obtain⟨t,rfl⟩:=rx;exact SeqAt.EqAt.none_int b t
  | str b=>obtain⟨t,rfl⟩:=rx;exact SeqAt.EqAt.none_str b t
  | _=>exact absurd (show false=true from fx) QI
 | bl a =>
  cases ry;cases x with
  | non=>cases rx;exact SeqAt.EqAt.bool_none a
  | bl b=>cases rx;exact SeqAt.EqAt.bool_bool a b
  | int b=>obtain⟨t,rfl⟩:=rx;exact SeqAt.EqAt.bool_int a b t
  | str b=>obtain⟨t,rfl⟩:=rx;exact SeqAt.EqAt.bool_str a b t
  | _=>exact absurd (show false=true from fx) QI
 | int a =>
  obtain⟨t',rfl⟩:=ry;cases x with
  | non=>cases rx;exact SeqAt.EqAt.int_none a t'
  | bl b=>cases rx;exact SeqAt.EqAt.int_bool a t' b
  | int b=>obtain⟨t,rfl⟩:=rx;exact SeqAt.EqAt.int_int a t' b t
  | str b=>obtain⟨t,rfl⟩:=rx;exact SeqAt.EqAt.int_str a t' b t
  | _=>exact absurd (show false=true from fx) QI
 | str a =>
  obtain⟨t',rfl⟩:=ry;cases x with
  | non=>cases rx;exact SeqAt.EqAt.str_none a t'
  | bl b=>cases rx;exact SeqAt.EqAt.str_bool a t' b
  | int b=>obtain⟨t,rfl⟩:=rx;exact SeqAt.EqAt.str_int a t' b t
  | str b=>obtain⟨t,rfl⟩:=rx;exact SeqAt.EqAt.str_str a t' b t
  | _=>exact absurd (show false=true from fx) QI
 | _=>exact absurd (show false=true from fy) QI
def eqU (x:V) (u:Value):Bool:=match u with
 | .none=>eqV .non x
 | .bool b=>eqV (.bl b) x
 | .int i _=>eqV (.int i) x
 | .str z _=>eqV (.str z) x
 | _=>false
theorem ZmE {x y:V} {u:Value} (r:RelV y u) (f:ZcF y=true):eqU x u=eqV y x:=by
 cases y with
 | non=>cases r;rfl
 | bl b=>cases r;rfl
 | int i=>obtain⟨t,rfl⟩:=r;rfl
 | str z=>obtain⟨t,rfl⟩:=r;rfl
 | _=>exact absurd (show false=true from f) QI
theorem Zfg {x:V}:∀ {xs:List V} {us:List Value},Vals xs us->xs.all ZcF=true->us.any (eqU x)=xs.any fun y=>eqV y x
 | _,_,.nil,_=>rfl
 | y::xs,u::us,.cons r t,f=>by
  rw[VU,Wl]at f;rw[UQ,UQ,ZmE r f.1,Zfg t f.2]
theorem Zco {A:Around} {s:Shared} {x:V} {v:Value} (rx:RelV x v) (fx:ZcF x=true):∀ {xs:List V} {us:List Value},Vals xs us->xs.all ZcF=true->∀ u∈us,SeqAt.EqAt A s u v (eqU x u)
 | _,_,.nil,_=>fun u hu=>by cases hu
 | y::xs,u::us,.cons r t,f=>fun u' hu=>by
  rw[VU,Wl]at f;rcases QA.mp hu with rfl | hu
  ·rw[ZmE r f.1];exact Zpz r rx f.1 fx
  ·exact Zco rx fx t f.2 u' hu
def inV (x:V) (xs:List V):Bool:=xs.any fun y=>eqV y x
def rIn (K:PySem.W.Frag) (neg:Bool):R2:=fun x y H Q=>∃ p xs,y= .ref p/\(SqL K H p xs\/SqT K H p xs)/\ZcF x=true/\xs.all ZcF=true/\Q (.bl (if neg then !inV x xs else inV x xs)) H
theorem JS:OpR X (compareOp .NotIn) (rIn X.K true):=by
 intro pins s σ H x y v u Q I rx ry h;obtain⟨p,xs,rfl,hq,fx,fs,q⟩:=h;cases ry;rcases hq with hq | hq
 ·obtain⟨its,r,pl,hz⟩:=I.list hq;refine SeqAt.notIn_listAt (eqU x) pl.isList (fun w hw=>Zco rx fx r fs w (by simpa using hw)) ⟨.bl _,H,I,rfl,?_⟩;rw[show its.toArray.any (eqU x)=its.any (eqU x)by simp,Zfg r fs];exact q
 ·obtain⟨its,r,pl,hz⟩:=I.tuple hq;refine SeqAt.notIn_tupleAt (eqU x) pl (fun w hw=>Zco rx fx r fs w (by simpa using hw)) ⟨.bl _,H,I,rfl,?_⟩;rw[show its.toArray.any (eqU x)=its.any (eqU x)by simp,Zfg r fs];exact q
theorem Xv:CallR X (.type "list") (fun xs H Q=>∃ p ys,xs=[.ref p]/\(SqL X.K H p ys\/SqT X.K H p ys)/\∀ l,H l=none->Q (.ref l) (upd H l (.lst ys))):=by
 intro pins s σ H xs us Q I r h;obtain⟨p,ys,rfl,hq,q⟩:=h;obtain⟨u,rfl,rx⟩:=Xd r;cases rx;have fin:∀ (its:List Value),Vals ys its->ys.length<=sizeLine->∀ (h':Heap) (c':Nat),(∀ b o',s.heap.get? b=some o'->h'.get? b=some o') ->
   h'.get? s.heap.objs.size=some {cls:=.type "list",dict:=none,data:=.seq its.toArray c',slots:=#[]}->EP X pins σ Q (.ref s.heap.objs.size) {s with heap:=h'}:=fun its r' hz h' c' kp e =>
  ⟨.ref s.heap.objs.size,_,I.laid (t':=s.toks) kp (Qk _) (show ObjOk X.prog X.w _ h' _ (.lst ys)from⟨hz,its,c',r',e⟩),rfl,q _ (I.hok.fresh (Qk _))⟩
 rcases hq with hq | hq
 ·obtain⟨its,r',pl,hz⟩:=I.list hq;have hlen:=r'.length;obtain⟨o,ho,hc,n,hd⟩:=pl.isList;exact call_list_seq p (.inl rfl) ho hc hd (fun h' c' kp e=>fin its r' hz h' c' kp e) (by simp only[Qr] <;> omega)
 ·obtain⟨its,r',pl,hz⟩:=I.tuple hq;have hlen:=r'.length;obtain⟨o,ho,hc,n,hd⟩:=pl;exact call_list_seq p (.inr rfl) ho hc hd (fun h' c' kp e=>fin its r' hz h' c' kp e) (by simp only[Qr] <;> omega)
theorem ZE:CallR X (.type "tuple") (fun xs H Q=>∃ p ys,xs=[.ref p]/\((SqL X.K H p ys/\∀ l,H l=none->Q (.ref l) (upd H l (.tup ys)))\/(SqT X.K H p ys/\Q (.ref p) H))):=by
 intro pins s σ H xs us Q I r h;obtain⟨p,ys,rfl,h⟩:=h;obtain⟨u,rfl,rx⟩:=Xd r;cases rx;rcases h with ⟨hq,q⟩ | ⟨hq,q⟩
 ·obtain⟨its,r',pl,hz⟩:=I.list hq;have hlen:=r'.length;refine call_tuple_list pl.isList (fun h' kp=>?_) (by simp only[Qr] <;> omega);have I1:Inv X pins σ H {s with heap:=h'}:=I.kept (t':=s.toks) kp;have I2:Inv X pins σ (upd H h'.objs.size (.tup ys)) {s with heap:=h'.push {cls:=.type "tuple",data:=.seq its.toArray}} :=
   I1.laid (t':=s.toks) (fun b o e=>Qg _ e) (Qk _) (show ObjOk X.prog X.w _ _ _ (.tup ys)from⟨hz,its,r',IsTup.new _ _,Zf5 rfl rfl⟩)
  exact⟨.ref h'.objs.size,_,I2,rfl,q _ (I1.hok.fresh (Qk _))⟩
 ·obtain⟨its,r',pl,hz⟩:=I.tuple hq;exact call_tuple_same pl ⟨.ref p,H,I,rfl,q⟩
def tyV (K:PySem.W.Frag) (T:String) (x:V) (H:Hp):Prop:=match x with
 | .str _=>T = "str"
 | .int _=>T = "int"
 | .ref p=>(T = "list"/\∃ xs,SqL K H p xs)\/(T = "tuple"/\∃ o,K.lookup p=some o/\o.cls= .type "tuple"/\o.dict=none) \/
   (T = "dict"/\((∃ kvs,H p=some (.dK kvs))\/∃ kvs,H p=some (.dT kvs)))\/(T = "set"/\∃ S n,H p=some (.set S n))
 | _=>False
theorem ZlT {T:String} {x:V} {v:Value} (I:Inv X pins σ H s) (r:RelV x v) (ty:tyV X.K T x H) :
  s.TypeIs v T/\∀ a,v= .ref a->∃ ob,s.heap.get? a=some ob/\ob.dict=none:=by
 cases x with
 | str z =>
  obtain⟨t,rfl⟩:=r;cases (show T = "str" from ty);exact⟨typeIs_str s z t,fun _ e=>nomatch e⟩
 | int i =>
  obtain⟨t,rfl⟩:=r;cases (show T = "int" from ty);exact⟨typeIs_int s i t,fun _ e=>nomatch e⟩
 | ref p =>
  cases r;rcases ty with ⟨rfl,xs,hq⟩ | ⟨rfl,o,hk,hc,hd⟩ | ⟨rfl,hk⟩ | ⟨rfl,S,n,hk⟩
  ·obtain⟨its,_,pl,_⟩:=I.list hq;refine⟨pl.isList.typeIs,fun a e=>?_⟩;cases e;obtain⟨o,n,e,c,hd,_⟩:=pl;exact⟨o,e,hd⟩
  ·refine⟨⟨o,I.kIn p o hk,hc⟩,fun a e=>?_⟩;cases e;exact⟨o,I.kIn _ o hk,hd⟩
  ·have z:∃ o,s.heap.get? p=some o/\o.ExactDict:=by
    rcases hk with ⟨kvs,hk⟩ | ⟨kvs,hk⟩
    ·obtain⟨_,_,_,_,o,_,_,e,ex,_⟩:=I.hok p _ hk;exact⟨o,e,ex⟩
    ·obtain⟨_,_,_,_,o,_,_,e,ex,_⟩:=I.hok p _ hk;exact⟨o,e,ex⟩
   obtain⟨o,e,ex⟩:=z;refine⟨⟨o,e,ex.1⟩,fun a e2=>?_⟩;cases e2;exact⟨o,e,ex.2.1⟩
  ·obtain⟨o,_,_,_,e,ex,_⟩:=I.hok p _ hk;refine⟨⟨o,e,ex.1⟩,fun a e2=>?_⟩;cases e2;exact⟨o,e,ex.2.1⟩
 | _=>exact False.elim ty
def Zq9 (K:PySem.W.Frag) (T:String) (r:V->List V->Hp->VK->Prop) (to:TE):TE:=fun σ H Q=>to σ H fun x H1=>tyV K T x H1/\r x [] H1 Q
def tBM (K:PySem.W.Frag) (T:String) (r:V->List V->Hp->VK->Prop) (to:TE) (t:TA):TE:=fun σ H Q=>to σ H fun x H1=>tyV K T x H1/\t σ H1 fun xs H2=>r x xs H2 Q
variable {o e:Expr} {es:List Expr} {to:TE} {t:TA} {name:Str} {apos cpos:Pos} {T id:String} {r:V->List V->Hp->VK->Prop}
theorem Xk (pa:PlainAttrs T) (slot:Slot T name id) (hty:typeOf (.builtin id)=pure (.type "method_descriptor")) (hm:MtR X id r) (ho:PE X o to)
  (hbase:attributeBase o name X.env (eval o X.env)=eval o X.env:=by rfl) (hline:(apos.endLine==cpos.line)=true:=by rfl):PE X (.Call (.Attribute o name apos) [] [] cpos) (Zq9 X.K T r to):=by
 intro pins s σ H Q I h;refine wpAny_Call_method0_late hbase hline (thn (ho pins s σ H _ I h) fun v s1 ⟨x,H1,I1,r1,ty,q1⟩=>?_);obtain⟨h1,h2⟩:=ZlT I1 r1 ty;exact⟨T,id,pa,slot,hty,h1,h2,Calls.callWith_builtin rfl (PySem.evalArgs_none (hm pins s1 σ H1 x [] v [] Q I1 r1 .nil q1))⟩
theorem Za5 (pa:PlainAttrs T) (slot:Slot T name id) (hty:typeOf (.builtin id)=pure (.type "method_descriptor")) (hm:MtR X id r) (ho:PE X o to) (ha:PA X (e::es) t)
  (hbase:attributeBase o name X.env (eval o X.env)=eval o X.env:=by rfl)
  (hfew:((backTo cpos (starEach (e::es) X.env)).all (fun x=>!x.1)&&(backToKw cpos (keywordEach [] X.env)).all (fun x=>x.1.isSome)
   && decide ((e::es).length+([]:List Keyword).length+(if ([]:List Keyword).isEmpty then 0 else 1)<30))=true:=by rfl)
  (hline:(apos.endLine==cpos.line)=true:=by rfl) (hs:starEach (e::es) X.env=(false,eval e X.env)::starEach es X.env:=by rfl) (hplain:(backTo cpos (starEach es X.env)).any (·.1)=false:=by rfl) :
  PE X (.Call (.Attribute o name apos) (e::es) [] cpos) (tBM X.K T r to t):=by
 intro pins s σ H Q I h;refine wpAny_Call_method_late hbase hfew hline rfl (thn (ho pins s σ H _ I h) fun v s1 ⟨x,H1,I1,r1,ty,q1⟩=>?_);obtain⟨h1,h2⟩:=ZlT I1 r1 ty;refine⟨T,id,pa,slot,hty,h1,h2,?_⟩;have hA:=ha cpos pins s1 σ H1 _ I1 q1;rw[hs]at hA ⊢;refine Calls.callWith_builtin (by show(false || (backTo cpos (starEach es X.env)).any (·.1))=false;rw[hplain] <;> rfl) (Calls.evalArgs_plain ?_);exact thn hA fun us s2 ⟨vs,H2,I2,r2,q2⟩=>hm pins s2 σ H2 x vs v us Q I2 r1 r2 q2
end
def MtM (X:Cx) (id:String) (r:V->List V->Hp->VK->Prop):Prop :=
 ∀ (pins:List (Addr×Obj)) (s:Shared) (σ:St) (H:Hp) (x:V) (xs:List V) (v:Value) (us:List Value) (Q:VK),Inv X pins σ H s->RelV x v->Vals xs us->r x xs H Q ->
  wpAny (model X.prog X.w) X.A (call (.builtin id) (v::us)) (EP X pins σ Q) X.xe s
theorem Vals.one:∀ {x:V} {us:List Value},Vals [x] us->∃ u,us=[u]/\RelV x u
 | _,_,.cons r .nil=>⟨_,rfl,r⟩
theorem Vals.zero:∀ {us:List Value},Vals [] us->us=[]
 | _,.nil=>rfl
theorem Vals.dropLast {us:List Value} (h:Vals xs us):Vals xs.dropLast us.dropLast:=by
 induction h with
 | nil=>exact .nil
 | cons r t ih =>
  cases t with
  | nil=>exact .nil
  | cons q t'=>exact .cons r ih
theorem Vals.eraseIdx:∀ {xs:List V} {us:List Value} (i:Nat),Vals xs us->Vals (xs.eraseIdx i) (us.eraseIdx i)
 | _,_,_,.nil=>.nil
 | _,_,0,.cons _ t=>t
 | _,_,i+1,.cons r t=>.cons r (Vals.eraseIdx i t)
theorem Vals.rep {xs:List V} {us:List Value} (h:Vals xs us):∀ k:Nat,Vals (Q8 k xs).flatten (Q8 k us).flatten
 | 0=>.nil
 | k+1=>by
  rw[WM,WM,Uj,Uj];exact Vals.append h (Vals.rep h k)
theorem Zhp {α:Type} (l:List α):l.eraseIdx (l.length-1)=l.dropLast:=by
 induction l with
 | nil=>rfl
 | cons a r ih =>
  cases r with
  | nil=>rfl
  | cons b r =>
   have e:(a::b::r).length-1=((b::r).length-1)+1:=by
    have h1:(a::b::r).length=r.length+2:=rfl;have h2:(b::r).length=r.length+1:=rfl;omega
   rw[e,List.eraseIdx_cons_succ,ih]
   all_goals rfl
theorem ZaQ {α:Type}:∀ (l:List α) (i:Nat),(l.eraseIdx i).length<=l.length
 | [],_=>Qk _
 | _::_,0=>WH _
 | _::r,i+1=>Nat.succ_le_succ (ZaQ r i)
theorem ZdT (its:List Value):∀ (k:Nat) (acc:List Value),
  VL (fun x1 x2=>x1++x2) acc.toArray (Q8 k its.toArray)=(acc++(Q8 k its).flatten).toArray
 | 0,acc=>by simp
 | k+1,acc=>by
  have e:acc.toArray++its.toArray=(acc++its).toArray:=by simp
  have e2:(acc++its)++(Q8 k its).flatten=acc++(Q8 (k+1) its).flatten:=by
   rw[WM,Uj,Vz]
  rw[←e2,←ZdT its k (acc++its),←e,WM,List.foldl_cons]
section
variable {X:Cx} {pins:List (Addr×Obj)} {σ:St} {H:Hp} {s:Shared} {l b:Addr} {xs ys zs:List V}
theorem Inv.lset {its':List Value} {f:Array Value->Array Value} {t':Nat} (I:Inv X pins σ H s) (hH:H l=some (.lst xs))
  (e:s.heap.get? l=some {cls:=.type "list",data:=.seq its.toArray n}) (hf:f its.toArray=its'.toArray) (hv:Vals ys its') (hz:ys.length<=sizeLine) :
  Inv X pins σ (upd H l (.lst ys)) {s with heap:=s.heap.update l (Obj.mapSeq f),toks:=t'}:=by
 have q:=PySem.IsL.update e f;rw[hf]at q;refine I.write (x:=l) (e:=l) (by rw[hH];exact trivial) (.inl rfl) (fun b' u hb hu=>(QN s.heap (Obj.mapSeq f) (Ne.symm hb)).trans hu) ⟨_,q⟩ ?_;exact⟨hz,its',_,hv,q⟩
theorem Inv.lnew {t':Nat} (I:Inv X pins σ H s) (hv:Vals ys its) (hz:ys.length<=sizeLine) :
  Inv X pins σ (upd H s.heap.objs.size (.lst ys)) {s with heap:=s.heap.push {cls:=.type "list",data:=.seq its.toArray},toks:=t'} :=
 I.laid (fun _ _ q=>Qg _ q) (Qk _) ⟨hz,its,0,hv,Qy _ rfl⟩
theorem Inv.fresh (I:Inv X pins σ H s):H s.heap.objs.size=none:=I.hok.fresh (Qk _)
theorem Inv.lstM (I:Inv X pins σ H s) (hH:H l=some (.lst xs)):xs.length<=sizeLine/\∃ (its:List Value) (n:Nat),Vals xs its/\xs.length=its.length/\s.heap.get? l=some {cls:=.type "list",data:=.seq its.toArray n}:=by
 obtain⟨z,its,n,r,e⟩:=I.hok l _ hH;exact⟨z,its,n,r,r.length,e⟩
theorem Zf2 (h:n<=sizeLine):Builtin.List.listTooLong n=false:=by
 unfold Builtin.List.listTooLong;exact decide_eq_false (by omega)
end
section
variable {X:Cx}
def ZiK:V->List V->Hp->VK->Prop:=fun x vs H Q=>∃ l xs y,x= .ref l/\vs=[y]/\H l=some (.lst xs)/\xs.length<sizeLine/\Q .non (upd H l (.lst (xs++[y])))
theorem ZdE:MtM X "list.append" ZiK:=by
 intro pins s σ H x vs v us Q I rx rv h;obtain⟨l,xs,y,rfl,rfl,hH,hz,q⟩:=h;cases rx;obtain⟨u,rfl,ru⟩:=rv.one;obtain⟨z,its,n,r,hl,e⟩:=I.lstM hH;refine call_meets F.slot_list_append ⟨_,e,rfl⟩ F.entry_list_append (F.args_list_append_2 _ _) (PySem.list_append l its.toArray n u (by rw[Qr];omega)) ⟨e,?_⟩;refine⟨.non,_,I.lset (its':=its++[u]) hH e (by simp) (r.append (.cons ru .nil)) ?_,rfl,q⟩;rw[Qm,QK];omega
def Zno:V->List V->Hp->VK->Prop:=fun x vs H Q=>∃ l b xs zs,x= .ref l/\vs=[.ref b]/\H l=some (.lst xs)/\H b=some (.lst zs)/\xs.length+zs.length<=sizeLine/\Q .non (upd H l (.lst (xs++zs)))
theorem Zpe:MtM X "list.extend" Zno:=by
 intro pins s σ H x vs v us Q I rx rv h;obtain⟨l,b,xs,zs,rfl,rfl,hH,hB,hz,q⟩:=h;cases rx;obtain⟨u,rfl,ru⟩:=rv.one;cases ru;obtain⟨z,its,n,r,hl,e⟩:=I.lstM hH;obtain⟨z2,its2,n2,r2,hl2,e2⟩:=I.lstM hB;have hsz:its.toArray.size+its2.toArray.size<=sizeLine:=by rw[Qr,Qr];omega
 have hlong:¬ (!its.toArray.isEmpty&&Builtin.List.listTooLong (its.toArray.size+its2.toArray.size))=true:=by
  rw[Zf2 hsz,Bool.and_false];exact QI
 refine call_meets F.slot_list_extend ⟨_,e,rfl⟩ F.entry_list_extend (F.args_list_extend_2 _ _)
  (AutoSeq1.list_extend_list_list_0 l its.toArray n b its2.toArray n2 hlong (by rw[Qr];omega) (by omega)) ⟨e,e2,?_⟩
 refine⟨.non,_,I.lset (its':=its++its2) hH e (by simp) (r.append r2) ?_,rfl,q⟩;rw[Qm];omega
def ZqS:V->List V->Hp->VK->Prop:=fun x vs H Q=>∃ l xs y,x= .ref l/\vs=[]/\H l=some (.lst xs)/\xs[xs.length-1]?=some y/\Q y (upd H l (.lst xs.dropLast))
theorem Zpd:MtM X "list.pop" ZqS:=by
 intro pins s σ H x vs v us Q I rx rv h;obtain⟨l,xs,y,rfl,rfl,hH,hy,q⟩:=h;cases rx;have hus:=rv.zero;subst hus;obtain⟨z,its,n,r,hl,e⟩:=I.lstM hH;obtain⟨u,hu,ru⟩:=r.get hy;have hy':its.toArray[its.toArray.size-1]?=some u:=by
  show its.toArray[its.length-1]?=some u;rw[←Wb,←hl];exact hu
 refine call_meets F.slot_list_pop ⟨_,e,rfl⟩ F.entry_list_pop (F.args_list_pop_1 _) (MeetsSeq.list_pop_last l its.toArray n u hy' (by rw[Qr];omega)) ⟨e,?_⟩;refine⟨y,_,I.lset (its':=its.dropLast) hH e ?_ r.dropLast ?_,ru,q⟩
 ·show its.toArray.eraseIdxIfInBounds (its.toArray.size-1)=its.dropLast.toArray;rw[Qr,Uv,Zhp]
 ·rw[UL];omega
def Zme:V->List V->Hp->VK->Prop:=fun x vs H Q=>∃ l xs i k y,x= .ref l/\vs=[.int i]/\H l=some (.lst xs)/\-(2 ^ 63)<=i/\i<2 ^ 63/\seqIndex? i xs.length=some k/\xs[k]?=some y/\Q y (upd H l (.lst (xs.eraseIdx k)))
theorem Zlf:MtM X "list.pop" Zme:=by
 intro pins s σ H x vs v us Q I rx rv h;obtain⟨l,xs,i,k,y,rfl,rfl,hH,h1,h2,hk,hy,q⟩:=h;cases rx;obtain⟨u,rfl,ru⟩:=rv.one;obtain⟨t,rfl⟩:=ru;obtain⟨z,its,n,r,hl,e⟩:=I.lstM hH;obtain⟨w,hw,rw'⟩:=r.get hy;refine call_meets F.slot_list_pop ⟨_,e,rfl⟩ F.entry_list_pop (F.args_list_pop_2 _ _)
  (MeetsSeq.list_pop_at l its.toArray n i t k w (fitsIndex_both h1 h2) (by rw[Qr,←hl];exact hk) (by rw[←Wb];exact hw) (by rw[Qr];omega)) ⟨e,?_⟩
 refine⟨y,_,I.lset (its':=its.eraseIdx k) hH e ?_ (r.eraseIdx k) ?_,rw',q⟩
 ·show its.toArray.eraseIdxIfInBounds k=(its.eraseIdx k).toArray;rw[Uv]
 ·have:=ZaQ xs k;omega
def Zrf:R2:=fun x y H Q=>∃ l b xs zs,x= .ref l/\y= .ref b/\H l=some (.lst xs)/\H b=some (.lst zs)/\xs.length+zs.length<=sizeLine/\∀ p,H p=none->Q (.ref p) (upd H p (.lst (xs++zs)))
theorem ZaL:OpR X (binaryOp .Add) Zrf:=by
 intro pins s σ H x y v u Q I rx ry h;obtain⟨l,b,xs,zs,rfl,rfl,hH,hB,hz,q⟩:=h;cases rx;cases ry;obtain⟨z,its,n,r,hl,e⟩:=I.lstM hH;obtain⟨z2,its2,n2,r2,hl2,e2⟩:=I.lstM hB;refine PySem.P.add_list e e2 ?_ (by rw[Qr,Qr];omega);have ea:its.toArray++its2.toArray=(its++its2).toArray:=by simp
 rw[ea];exact⟨.ref _,_,I.lnew (t':=s.toks) (r.append r2) (by rw[Qm];omega),rfl,q _ I.fresh⟩
def Zrc:R2:=fun x y H Q=>∃ l k xs,x= .ref l/\y= .int k/\H l=some (.lst xs)/\-(2 ^ 63)<=k/\k<2 ^ 63/\xs.length*k.toNat<=sizeLine /\
 ∀ p,H p=none->Q (.ref p) (upd H p (.lst (Q8 k.toNat xs).flatten))
theorem ZnQ {α:Type} (xs:List α) (k:Nat):(Q8 k xs).flatten.length=k*xs.length:=by
 induction k with
 | zero=>simp
 | succ k ih=>rw[WM,Uj,Qm,ih,RF,Vm]
theorem Zo2:OpR X (binaryOp .Mult) Zrc:=by
 intro pins s σ H x y v u Q I rx ry h;obtain⟨l,k,xs,rfl,rfl,hH,h1,h2,hz,q⟩:=h;cases rx;obtain⟨t,rfl⟩:=ry;obtain⟨z,its,n,r,hl,e⟩:=I.lstM hH;have hlen:its.toArray.size*k.toNat<=sizeLine:=by rw[Qr,←hl];exact hz
 have hcap:¬ its.toArray.size*k.toNat>(2 ^ 63-1) / 8:=by
  have:(sizeLine:Nat)<=(2 ^ 63-1) / 8:=by decide
  omega
 have hfit:¬ (!Builtin.List.listFitsIndex k)=true:=by
  rw[fitsIndex_both h1 h2];exact QI
 have hlong:¬ Builtin.List.listTooLong (its.toArray.size*k.toNat)=true:=by
  rw[Zf2 hlen];exact QI
 have hnew:VL (fun x1 x2=>x1++x2) #[] (Q8 (if its.toArray.isEmpty=true then 0 else k.toNat) its.toArray)=(Q8 k.toNat its).flatten.toArray:=by
  have f0:∀ m:Nat,VL (fun x1 x2=>x1++x2) #[] (Q8 m its.toArray)=(Q8 m its).flatten.toArray:=fun m=>by
   have:=ZdT its m [];rw[Rh]at this;exact this
  rw[f0];cases its with
  | nil=>simp
  | cons a r'=>rw[if_neg (by simp)]
 refine wpAny_binaryOp_repeat_ref (T:="list") (U:="int") (by decide) ⟨_,e,rfl⟩ (fun s'=>typeIs_int s' k t) noFill_list_mul F.fills_int_mul F.slot_int_rmul repeat_list F.slot_int_index.lookup
  (call_meets F.slot_int_rmul (typeIs_int s k t) F.entry_int_rmul (F.args_int_rmul_2 _ _) (int___rmul___int_list k t l its.toArray n)
   ⟨e,rfl,⟨_,e,rfl⟩,call_meets F.slot_list_mul ⟨_,e,rfl⟩ F.entry_list_mul (F.args_list_mul_2 _ _) (AutoListH.list___mul___list_int_3 l its.toArray n k t hfit hcap hlong) ⟨e,?_⟩⟩)
 rw[hnew];exact⟨.ref _,_,I.lnew (t':=s.toks) (r.rep k.toNat) (by rw[ZnQ,Vn];exact hz),rfl,q _ I.fresh⟩
end
section
variable {prog:Program} {w:World} {A:Around} {E:Value->Shared->Prop} {s:Shared}
end
section
variable {X:Cx}
end
end L2
namespace Att
open PySem PySem.W PySem.Calls PyProof.Rows
theorem ZaT {P:Params} {h:Heap}:∀ (ns:List Int) (vs:List Value),WellAll P h vs (ns.map WData.int)->IntsAre vs ns:=by
 intro ns;induction ns with
 | nil =>
  intro vs w;rw[We]at w;cases w;exact .nil
 | cons n ns ih =>
  intro vs w;rw[Qh]at w;cases w with
  | cons a b =>
   cases a;exact .cons _ _ (ih _ b)
theorem Ziu {l:OpenLaw} {n:Nat} (hn:l.most=some n) {P:Params} {h:Heap} {args:List WData} {vals:List Value}
  (hpre:l.row.toRowW.claim.pre args=true) (hwl:WellAll P h vals args) :
  ∃ a vs ns,vals=[Value.ref a]/\args=[WData.list (ns.map WData.int)]/\h.get? a=some {cls:=.type "list",data:=.seq vs.toArray}/\IntsAre vs ns/\ns.length<=n:=by
 have hsh:WShape.hasAll [] args [.list .int]=true:=(pre_splitW hpre).1;have hc:l.pre.holds [] {args:=args}=true:=(pre_splitW hpre).2;obtain⟨d,r,rfl,h1,h2⟩:=hasAllW_cons hsh;obtain rfl:=hasAllW_nil h2;obtain⟨xs,rfl,h3⟩:=hasW_list h1;obtain⟨ns,rfl⟩:=items_int h3;have hlen:ns.length<=n:=by
  unfold OpenLaw.pre at hc;have h4:(WTm.not (.lt (.lit (.int (n:Int))) (.len (.arg 0)))).holds [] {args:=[.list (ns.map .int)]}=true:=by
   have h4:=(holds_andW hc).1;rw[hn]at h4;exact h4
  have h5:=condW_of h4 (w_not (w_lt w_lit (w_len_list (w_arg rfl))));rw[Qc]at h5;refine VH fun q=>?_;have q':(n:Int)<((ns.length:Nat):Int):=by omega
  first
   | (rw[decide_eq_true q']at h5;exact absurd h5 (by decide))
   | (simp at h5;omega)
 cases hwl with
 | cons w1 w2 =>
  cases w2;cases w1 with
  | list ho hall=>exact⟨_,_,ns,rfl,rfl,ho,ZaT ns _ hall,hlen⟩
theorem ZiT (l:OpenLaw) (args:List WData):l.row.toRowW.claim.post args (.bool true) args=true :=
 postW_of (r:=l.row.toRowW) (X:=(true==true))
  (show WShape.has [] (.bool true) .bool=true by first | rfl | decide | simp[WShape.has,WShape.arms,WShape.armsAll])
  (show(WTm.eq .res (.lit (.bool true))).value [] {args:=args,res:=some (.bool true),after:=args}=some (.bool (true==true))from w_eq_bool (w_res rfl) w_lit) rfl
theorem attach_call {l:OpenLaw} {n:Nat} {q:Program} {loose:List Str} {XP:(Str->Option Value)->Heap->Prop} {YP:World->Heap->Prop} {d:DefRec}
  (hn:l.most=some n) (hdf:d.params.defaults=[])
  (call:∀ (w:World) (s₀ s₁:Shared) (mg mb:Str->Option Value) (fa:Addr) (o:Obj) (pm cd doc:Value) (a:Addr) (vs:List Value) (ns:List Int),
   Ground q loose [] XP w s₀ mg mb s₁.heap->YP w s₁.heap ->
   s₁.heap.get? fa=some o->o.data= .func (docDef d.name d.params d.body d.scope pm cd doc)->s₁.heap.CodeRec cd d.name->mg d.name=some (.ref fa) ->
   s₁.heap.get? a=some {cls:=.type "list",data:=.seq vs.toArray}->IntsAre vs ns->ns.length<=n->s₁.gens= #[] ->
   codeAny (model l.prog w) callerA (.call (.ref fa) ⟨[.ref a],[]⟩) (fun r s'=>r= .ok (.ret (.bool true))/\OldK s₁.heap s'.heap/\s'.os=s₁.os/\AllBare s'.gens) s₁) :
  WalkO q loose XP YP l.row.toRowW d [] (fun f vs=>PySem.call f vs):=by
 intro w s₀ s₁ mg mb G Y fa o pm cd doc dV kV ho hd hcd hD hmg hg args vals as hpre hlay hrd hwl hlo;obtain rfl:dV= .none:=Dflts.none hD hdf;obtain rfl:kV= .none:=Dflts.noKw hD;obtain⟨a,vs,ns,rfl,rfl,hobj,hints,hlen⟩:=Ziu hn hpre hwl;refine enter_call (codeAny_mono (call w s₀ s₁ mg mb fa o pm cd doc a vs ns G Y ho (fd_plain hd) hcd hmg hobj hints hlen hg) fun r s' hq=>?_);obtain⟨rfl,h2,h3,h4⟩:=hq;exact⟨.inl ⟨.bool true,.bool true,[],rfl,fun _=>rfl,.bool true,ZiT l _,fun _=>⟨List.Pairwise.nil,fun _ hm=>(nomatch hm)⟩⟩,h2,h3,h4⟩
section
variable {prog:Program} {w:World} {A:Around} {E:Value->Shared->Prop} {s:Shared} {K:Frag}
def ZqV (h:Heap) (L d:Addr):List (Addr×Obj):=(Qx h.objs.size).filterMap fun a=>if a=L\/a=d then none else (h.get? a).map fun o=>(a,o)
end
end Att
namespace L2
open PySem PySem.Spec PyProof.Rows
variable {B:Prop} {H H' H1 H2:Hp} {N ps:List Str} {X:Cx} {a:Addr} {i k n:Nat} {mp:List Nat} {name qual x:Str} {pos:Pos} {sp:Sp} {st:Stmt} {xs ys:List V}
theorem Zc2:∀ {vs:List Value} {ns:List Int},IntsAre vs ns->Vals (ns.map V.int) vs
 | _,_,.nil=>.nil
 | _,_,.cons n t h=>.cons ⟨t,rfl⟩ (Zc2 h)
def ZqJ (H:Hp):Prop:=∀ b,H b=none\/∃ o xs,H b=some (.frz o (.lst xs))
theorem Zln {P:Program} {w:World} {K:PySem.W.Frag} {mg mb:Str->Option Value} {CX:CXT} {fa:Addr} {fd:FuncData} {s₁:Shared} {vs:List Value} {ns:List Int}
  (KX:K.In s₁.heap) (hns:s₁.heap.Ns mainGlobals mg) (hb:s₁.heap.Ns builtinsNs mb) (hbb:∀ x:Str,x≠"__name__"->mb x=bootBuiltins x) (hlim:s₁.heap.NoLimit) (hg:s₁.gens= #[])
  (ha:s₁.heap.get? a=some {cls:=.type "list",data:=.seq vs.toArray}) (hi:IntsAre vs ns) (hl:ns.length<=sizeLine) (hr:Room k callerA)
  (F:∀ base:Heap,K.In base->base.Ns mainGlobals mg->FnOk P w K mg base CX k fa fd [x] sp) (hbind:∀ (s:Shared) (u:Value),BindsTo s fd ⟨[u],[]⟩ [(x,u)])
  (hsp:∀ H:Hp,ZqJ H->SqL K H a (ns.map V.int)->sp [.ref a] H (fun v _=>v= .bl true) fun _ _ _=>False)
  (hCX:∀ H e s',CX [] H s₁ (fun _ _ _=>False) e s'->False) :
  codeAny (model P w) callerA (.call (.ref fa) ⟨[.ref a],[]⟩) (fun r s'=>r= .ok (.ret (.bool true))/\OldK s₁.heap s'.heap/\s'.os=s₁.os/\AllBare s'.gens) s₁:=by
 have rv:=Zc2 hi;have lenV:=hi.length
 -- from an abstract heap in which nothing but the script may be tracked
 have core:∀ H:Hp,ZqJ H->SqL K H a (ns.map V.int)->HOk P w H s₁.heap->(∀ b,H b≠none->b=a)->(H a≠none->K.lookup a=none) ->
   codeAny (model P w) callerA (.call (.ref fa) ⟨[.ref a],[]⟩) (fun r s'=>r= .ok (.ret (.bool true))/\OldK s₁.heap s'.heap/\s'.os=s₁.os/\AllBare s'.gens) s₁:=by
  intro H hO hS hok hA hK;have base_of:∀ {b:Addr} {o:Obj},s₁.heap.get? b=some o->H b=none->(Zlu s₁.heap H).get? b=some o:=fun e n=>Zlt e n;have noA:∀ {b:Addr} {o:Obj} {es:Array DictEntry} {ep:Nat},s₁.heap.get? b=some o->o.data= .dict es ep->H b=none:=fun {b o es ep} e d=>by
   cases q:H b with
   | none=>rfl
   | some u =>
    have e':b=a:=hA b (by rw[q];simp);subst e';rw[ha]at e;cases e;have d':Data.seq vs.toArray _=Data.dict es ep:=d;cases d'
  have nsK:∀ {b:Addr} {m:Str->Option Value},s₁.heap.Ns b m->(Zlu s₁.heap H).Ns b m:=fun {b m} ⟨o,es,ep,e,d,r⟩=>⟨o,es,ep,base_of e (noA e d),d,r⟩
  have hKb:K.In (Zlu s₁.heap H):=fun b o e=>base_of (KX b o e) (by
   cases q:H b with
   | none=>rfl
   | some u =>
    have e':b=a:=hA b (by rw[q];simp);subst e';rw[hK (by rw[q];simp)]at e;cases e)
  have hM:Mod K mg (Zlu s₁.heap H):=⟨hKb,nsK hns,⟨mb,nsK hb,hbb⟩,let ⟨mc,h1,h2⟩:=hlim;⟨mc,nsK h1,h2⟩⟩
  have e0:ZpY P w K mg (Zlu s₁.heap H) callerA [] s₁ H:=⟨rfl,hM,fun b o e=>ZnB e,Nat.le_of_eq (ZjM _ _),trivial,fun b hb=>absurd (show b∈([]:List Addr)from hb) (by simp),hok,.of_eq hg⟩
  refine codeAny_mono ((F _ hKb (nsK hns)).run callerA [] s₁ H ⟨[.ref a],[]⟩ [.ref a] [.ref a] _ _ hr e0 (hbind s₁ (.ref a)) (.cons rfl .nil) (hsp H hO hS)) fun r s' h=>?_;cases r with
  | error e=>exact(hCX H e s' h).elim
  | ok fl =>
   cases fl with
   | next=>exact False.elim h
   | brk=>exact False.elim h
   | cont=>exact False.elim h
   | ret u =>
    obtain⟨v,H',os,bare,un,hok',r',q⟩:=h;have q':v= .bl true:=q;subst q';obtain rfl:u=Value.bool true:=r';refine⟨rfl,OldK.of_keep fun b o e=>?_,os,bare⟩;cases q:H b with
    | none=>exact un.keep b o e q (by intro z;exact absurd (show b∈([]:List Addr)from z) (by simp)) (by simp)
    | some u =>
     rcases hO b with z | ⟨ob,xs,z⟩
     ·rw[q]at z;cases z
     ·have z2:=un.frzs b ob _ z;obtain⟨e1,_⟩:=hok b _ z;obtain⟨e2,_⟩:=hok' b _ z2;rw[e]at e1;cases e1;exact e2
 cases hk:K.lookup a with
 | some o =>
  -- the script is one of the module's own objects
  have e:=KX a o hk;rw[ha]at e;cases e;refine core (fun _=>none) (fun _=>.inl rfl) (.inr ⟨_,vs.toArray,_,hk,rfl,rfl,rfl,by rw[Qr,lenV];exact hl,by simpa using rv⟩) (fun b u z=>by have z':(none:Option HO)=some u:=z;cases z') (fun b z=>absurd rfl z) fun z=>absurd rfl z
 | none =>
  refine core (fun b=>if b=a then some (.frz {cls:=.type "list",data:=.seq vs.toArray} (.lst (ns.map V.int)))else none) (fun b=>?_) (.inl (.inr ⟨{cls:=.type "list",data:=.seq vs.toArray},if_pos rfl⟩)) (fun b u z=>?_) (fun b z=>?_) fun _=>hk
  ·by_cases hb:b=a
   ·exact .inr ⟨_,_,if_pos hb⟩
   ·exact .inl (if_neg hb)
  ·by_cases hb:b=a
   ·have z':=(if_pos hb).symm.trans z;cases z';subst hb;exact⟨ha,by rw[Qc];exact hl,vs,_,rv,ha⟩
   ·have z':=(if_neg hb).symm.trans z;cases z'
  ·by_cases hb:b=a
   ·exact hb
   ·exact absurd (if_neg hb) z
theorem walk_of {l:PySem.W.OpenLaw} {q:Program} {loose:List Str} {XP:(Str->Option Value)->Heap->Prop} {YP:World->Heap->Prop} {d:DefRec} {K:Params->PySem.W.Frag} {CX:World->CXT} {sp:World->Sp} 
  (hn:l.most=some n) (hn2:n<=sizeLine) (hdf:d.params.defaults=[]) (hr:Room k callerA)
  (hY:∀ (w:World) (h:Heap),YP w h->(K w.params).In h)
  (F:∀ (w:World) (mg:Str->Option Value) (fa:Addr) (h:Heap),(K w.params).In h->h.Ns mainGlobals mg->mg d.name=some (.ref fa) ->
   ∃ fd:FuncData,(∀ (s:Shared) (u:Value),BindsTo s fd ⟨[u],[]⟩ [(x,u)]) /\
    ∀ base:Heap,(K w.params).In base->base.Ns mainGlobals mg->FnOk l.prog w (K w.params) mg base (CX w) k fa fd [x] (sp w))
  (hsp:∀ (w:World) (H:Hp) (a:Addr) (ns:List Int),ns.length<=n->ZqJ H->SqL (K w.params) H a (ns.map V.int)->sp w [.ref a] H (fun v _=>v= .bl true) fun _ _ _=>False)
  (hCX:∀ (w:World) (H:Hp) (s:Shared) (e:Value) (s':Shared),CX w [] H s (fun _ _ _=>False) e s'->False) :
  PySem.W.WalkO q loose XP YP l.row.toRowW d [] (fun f vs=>PySem.call f vs):=by
 refine Att.attach_call hn hdf fun w s₀ s₁ mg mb fa o pm cd doc a vs ns G Y ho hd hcd hmg hobj hints hlen hg=>?_;have KX:=hY w _ Y;obtain⟨fd,hb,hF⟩:=F w mg fa _ KX G.T.g hmg;exact Zln KX G.T.g G.T.b G.T.builtins G.T.nolimit hg hobj hints (QY hlen hn2) hr hF hb (fun H hO hS=>hsp w H a ns hlen hO hS) fun H e s'=>hCX w H s₁ e s'
def Xs (s:Stmt):Arguments:=match s with
 | .FunctionDef _ a _ _ _ _ _ _ _ _=>a
 | _=>{posonlyargs:=[],args:=[],vararg:=none,kwonlyargs:=[],kw_defaults:=[],kwarg:=none,defaults:=[]}
def Yl (s:Stmt):List Stmt:=match s with
 | .FunctionDef _ _ b _ _ _ _ _ _ _=>b
 | _=>[]
def Zf (s:Stmt):Scope:=match s with
 | .FunctionDef _ _ _ _ _ _ sc _ _ _=>sc
 | _=>{kind:=.function,names:=[],isGenerator:=false,isCoroutine:=false}
abbrev CX0:CXT:=fun _ _ _ _ _ _=>False
abbrev E0:XK:=fun _ _ _=>False
theorem Zqm:ZgL CX0 X E0:=fun _ _ _ _ _ _ _ h=>h.elim
structure Fun (K:PySem.W.Frag) (x qual:Str) (st:Stmt) (f:Addr) (fd:FuncData):Prop where
 ex:∃ (oc:Value) (od:Option Addr) (kV doc pm:Value) (an:Option Addr) (cdv ct:Value) (osl:Array (Option Value)),
  fd=PySem.W.fnOf x qual (Xs st) (Yl st) (Zf st) .none kV doc pm an cdv ct/\K.lookup f=some ⟨oc,od,.func fd,osl⟩/\PySem.W.codeIn K cdv qual=true
 kp:PySem.W.keepIn K (.ref f)=true
section
variable {P:Program} {w:World} {K:PySem.W.Frag} {mg:Str->Option Value} {base:Heap}
theorem Fun.ok {f:Addr} {fd:FuncData} (F:Fun K x qual st f fd) (S:Zo N ps (Zf st)) (len:∀ vs H Q E,sp vs H Q E->vs.length=ps.length)
  (hbody:∀ (cdv:Value) (A:Around) (outer:List Env) (s:Shared) (H:Hp) (vs:List V) (Q:VK) (E:XK),Room k (A.deeper (envOfC qual (Zf st) s.heap.objs.size f cdv))->sp vs H Q E ->
   ∃ t,PSs (Zj8 CX0 P w K mg base N qual (Zf st) f cdv A outer s H E).nox (Yl st) t/\t {nx:=fun _ H'=>Q .non H',rt:=Q} (Zap N vs) H):FnOk P w K mg base CX0 (k+1) f fd ps sp:=by
 obtain⟨oc,od,kV,doc,pm,an,cdv,ct,osl,rfl,lk,hcd⟩:=F.ex;refine Zpw lk hcd S len fun A outer s H vs Q E hr hsp=>?_;obtain⟨t,h,q⟩:=hbody cdv A outer s H vs Q E hr hsp;exact⟨t,h.nox,q⟩
theorem Fun.binds {f:Addr} {fd:FuncData} (F:Fun K x qual st f fd)
  (h:∀ (kV doc pm:Value) (an:Option Addr) (cdv ct:Value) (us:List Value),us.length=ps.length->bindArgs (PySem.W.fnOf x qual (Xs st) (Yl st) (Zf st) .none kV doc pm an cdv ct) ⟨us,[]⟩=pure (ps.zip us)):Binds K fd ps []:=by
 obtain⟨oc,od,kV,doc,pm,an,cdv,ct,osl,rfl,lk,hcd⟩:=F.ex;exact .all (h kV doc pm an cdv ct)
theorem ZjT {f:Addr} {oc:Value} {od an:Option Addr} {osl:Array (Option Value)} {kV doc pm cdv ct:Value} (l:K.lookup f=some ⟨oc,od,.func (PySem.W.fnOf x qual (Xs st) (Yl st) (Zf st) .none kV doc pm an cdv ct),osl⟩)
  (c:PySem.W.codeIn K cdv qual=true) (k:PySem.W.keepIn K (.ref f)=true):Fun K x qual st f (PySem.W.fnOf x qual (Xs st) (Yl st) (Zf st) .none kV doc pm an cdv ct):=⟨⟨oc,od,kV,doc,pm,an,cdv,ct,osl,rfl,l,c⟩,k⟩
end
theorem Ze0 {A:Around} (hr:Room k A):A.units+1<cLine:=Ud (Nat.add_le_add_left (by decide:1<=64) _) hr.units
theorem ZM (h:n<=1000):n<sizeLine:=Ud h (by decide)
section
variable {X:Cx}
theorem pv (i:Nat) {pos:Pos} (hN:X.N[i]?=some x:=by rfl) (hv:Vis X.env.scope x:=by first | exact Or.inl rfl | exact Or.inr (.inl rfl) | exact Or.inr (.inr rfl)) (hd:(x==("__debug__" : Str))=false:=by decide)
  (hcd:(x==("__classdict__" : Str))=false:=by decide):PE X (.Name x pos) (Zkl i):=ZoV hN hv hd hcd
theorem Zkf:CallR X (.builtin "len") (fun xs H Q=>∃ a kvs,xs=[V.ref a]/\H a=some (.dK kvs)/\Q (.int kvs.length) H):=by
 intro pins s σ H xs us Q I r h;obtain⟨a,kvs,rfl,ha,q⟩:=h;obtain⟨u,rfl,ru⟩:=Xd r;cases ru;exact ZpB I (.inl ha) fun t s' I'=>⟨.int kvs.length,H,I',⟨t,rfl⟩,q⟩
end
theorem ZpW {A:Prop} (h:B):if false=true then A else B:=by
 rw[if_neg QI];exact h
theorem Zqt {A:Prop} (h:A):if true=true then A else B:=by
 rw[if_pos rfl];exact h
theorem ZcZ {c A:Prop} [Decidable c] (h1:c->A) (h2:¬ c->B):if c then A else B:=by
 by_cases h:c
 ·rw[if_pos h];exact h1 h
 ·rw[if_neg h];exact h2 h
def Same (H H':Hp):Prop:=∀ b o,H b=some o->H' b=some o
theorem Same.refl (H:Hp):Same H H:=fun _ _ h=>h
theorem Same.trans (a:Same H H1) (b:Same H1 H2):Same H H2:=fun c o h=>b c o (a c o h)
theorem Same.free (e:Same H H') {l:Addr} (h:H' l=Option.none):H l=Option.none:=by
 cases q:H l with
 | none=>rfl
 | some o =>
  rw[e l o q]at h;cases h
theorem Same.seq {K:PySem.W.Frag} (e:Same H H') (h:SqL K H a xs):SqL K H' a xs:=by
 rcases h with (h | ⟨o,h⟩) | h
 ·exact .inl (.inl (e _ _ h))
 ·exact .inl (.inr ⟨o,e _ _ h⟩)
 ·exact .inr h
section
variable {κ:Type} [DecidableEq κ]
theorem Zjg:∀ {l:List κ} {k:κ},l.Nodup->¬ k∈l->(l++[k]).Nodup
 | [],k,_,_=>by simp
 | a::r,k,h,hk=>by
  obtain⟨h1,h2⟩:=Q7.mp h;show(a::(r++[k])).Nodup;refine Q7.mpr ⟨fun m=>?_,Zjg h2 fun m=>hk (QA.mpr (Or.inr m))⟩;rcases QE.mp m with q | q
  ·exact h1 q
  ·exact hk (QA.mpr (Or.inl (Qp.mp q).symm))
end
def Xt (env:Env):List (Str×NameKind)->List (Str×Addr)->List (Str×Addr)
 | [],cs=>cs
 | y::r,cs=>Xt env r (if y.2==NameKind.free then (y.1,(env.cells.lookup y.1).getD 0)::cs else cs)
theorem ZaW {env:Env} (f:Str×NameKind->List (Str×Addr)->Sem (ForInStep (List (Str×Addr)))) :
  ∀ (ns:List (Str×NameKind)) (cs:List (Str×Addr)),(∀ y∈ns,∀ c,f y c=pure (.yield (if y.2==NameKind.free then (y.1,(env.cells.lookup y.1).getD 0)::c else c))) ->
   forIn ns cs f=pure (Xt env ns cs)
 | [],cs,_=>rfl
 | y::r,cs,h=>by
  rw[List.forIn_cons,h y Qi,pure_bind];exact ZaW f r _ fun z hz=>h z (Ql _ hz)
theorem Jk {env:Env} {scope:Scope} (h:∀ y∈scope.names,y.2= .free->∃ c,env.cells.lookup y.1=some c) :
  closureFor scope env=pure (Xt env scope.names []):=by
 simp only[closureFor];rw[ZaW (env:=env) _ _ _ (fun y hy c=>?_)]
 ·rfl
 ·obtain⟨n,k⟩:=y;cases hk:(k==NameKind.free)with
  | true =>
   obtain⟨a,ha⟩:=h (n,k) hy (by simpa using hk);have ha':env.cells.lookup n=some a:=ha;simp only[if_true,cellOf,ha',RG,pure_bind]
  | false=>simp only[Ws,if_false]
theorem Zd6 {env:Env}:∀ (ns:List (Str×NameKind)) (cs:List (Str×Addr)),(∀ y∈ns,y.2= .free->∃ c,env.cells.lookup y.1=some c) ->
  (∀ n c,cs.lookup n=some c->env.cells.lookup n=some c)->∀ n c,(Xt env ns cs).lookup n=some c->env.cells.lookup n=some c
 | [],cs,_,h,n,c,e=>h n c e
 | y::r,cs,hf,h,n,c,e=>by
  refine Zd6 r _ (fun z hz=>hf z (Ql _ hz)) (fun n c e=>?_) n c e;split at e
  ·rename_i hk;obtain⟨a,ha⟩:=hf y Qi (by simpa using hk);rw[ha,RG]at e;cases hn:n==y.1 with
   | true =>
    simp only[Uq,hn]at e;cases e;rw[eq_of_beq hn];exact ha
   | false =>
    simp only[Uq,hn]at e;exact h n c e
  ·exact h n c e
theorem ZaZ {env:Env}:∀ (ns:List (Str×NameKind)) (cs:List (Str×Addr)) (n:Str),((n,NameKind.free)∈ns\/(cs.lookup n).isSome=true) ->
  ((Xt env ns cs).lookup n).isSome=true
 | [],cs,n,h=>by
  rcases h with h | h
  ·cases h
  ·exact h
 | y::r,cs,n,h=>by
  refine ZaZ r _ n ?_;rcases h with h | h
  ·rcases QA.mp h with h | h
   ·right
    subst h;simp
   ·exact .inl h
  ·right
   split
   ·cases hn:n==y.1 with
    | true=>simp only[Uq,hn];rfl
    | false=>simp only[Uq,hn];exact h
   ·exact h
def Zot (env:Env) (n:Str) (k:NameKind):NameKind:=if (k==NameKind.free&&env.scope.kind==.function&&env.kindOf n==some .cell)=true then .cell else k
theorem Zbm (env:Env) (x:Str):∀ names:List (Str×NameKind),
  (names.map fun(n,k)=>if (k==NameKind.free&&env.scope.kind==.function&&env.kindOf n==some .cell)then (n,NameKind.cell)else (n,k)).lookup x=(names.lookup x).map (Zot env x)
 | []=>rfl
 | (n,k)::r=>by
  have ih:=Zbm env x r;have e1:(if (k==NameKind.free&&env.scope.kind==.function&&env.kindOf n==some .cell)=true then (n,NameKind.cell)else (n,k))=(n,Zot env n k):=by
   unfold Zot;split <;> rfl
  rw[Qh];show List.lookup x ((if (k==NameKind.free&&env.scope.kind==.function&&env.kindOf n==some .cell)=true then (n,NameKind.cell)else (n,k))::_)=_;rw[e1];cases hx:x==n with
  | true =>
   simp only[Uq,hx];rw[eq_of_beq hx];rfl
  | false =>
   simp only[Uq,hx];exact ih
theorem JQ (scope:Scope) (env:Env) (x:Str):(relabel scope env).names.lookup x=(scope.names.lookup x).map (Zot env x):=Zbm env x scope.names
def lcN (N xs:List Str) (mp:List Nat):List Str:=xs++mp.map fun j=>N.getD j ""
def lcS (k:Nat) (mp:List Nat) (σ:St):St:=Q8 k none++mp.map fun j=>(σ[j]?).getD none
structure Zou (sc scope:Scope) (N xs:List Str) (mp:List Nat):Prop where
 kind:scope.kind= .function
 nocell:∀ y∈scope.names,y.2≠.cell
 names:∀ y∈scope.names,y.2= .local->scope.names.lookup y.1=some .local
 tg:∀ x∈xs,scope.names.lookup x=some .local
 fr:∀ y∈scope.names,y.2= .free->sc.names.lookup y.1=some .cell\/sc.names.lookup y.1=some .free
 out:∀ j∈mp,scope.names.lookup (N.getD j "")=some .free
 nd:(lcN N xs mp).Nodup
def Zlm (sc scope:Scope) (N xs:List Str) (mp:List Nat):Bool :=
 decide (scope.kind= .function)&&scope.names.all (fun y=>decide (y.2≠.cell))&&scope.names.all (fun y=>decide (y.2= .local->scope.names.lookup y.1=some .local)) &&
  xs.all (fun x=>decide (scope.names.lookup x=some .local))&&scope.names.all (fun y=>decide (y.2= .free->sc.names.lookup y.1=some .cell\/sc.names.lookup y.1=some .free)) &&
  mp.all (fun j=>decide (scope.names.lookup (N.getD j "")=some .free))&&decide (lcN N xs mp).Nodup
theorem Zgf {sc scope:Scope} {xs:List Str} (h:Zlm sc scope N xs mp=true):Zou sc scope N xs mp:=by
 simp only[Zlm,Wl,Ur,decide_eq_true_eq]at h;obtain⟨⟨⟨⟨⟨⟨h1,h2⟩,h3⟩,h4⟩,h5⟩,h6⟩,h7⟩:=h;exact⟨h1,h2,h3,h4,h5,h6,h7⟩
abbrev lcx (X:Cx) (M:List Str) (scope:Scope) (cl:List (Str×Addr)) (C:Addr) (s₀:Shared) (H₀:Hp) (fp:List Addr):Cx where
 prog:=X.prog
 w:=X.w
 K:=X.K
 mg:=X.mg
 base:=X.base
 A:=X.A
 N:=M
 s₀:=s₀
 H₀:=H₀
 env:=compEnvC scope cl C X.env
 outer:=X.stack
 stack:=X.stack
 ex:=fp
 fn:=fun _=>false
 calm:=X.calm
 pn:=[]
 xe:=fun _ _=>False
section
variable {X:Cx} {pins:List (Addr×Obj)} {σ:St} {H₀:Hp} {s₀:Shared} {scope sc:Scope} {N xs:List Str} {mp:List Nat} {fp:List Addr}
theorem Zcu (I:Inv X pins σ H₀ s₀) (hsc:X.env.scope=sc) (S:Zou sc scope N xs mp):∀ y∈scope.names,y.2= .free->∃ c,X.env.cells.lookup y.1=some c:=fun y hy e=>by
 refine I.ok.has y.1 ?_;have q:=S.fr y hy e;rw[←hsc]at q;exact q
theorem Zmw (I:Inv X pins σ H₀ s₀) (hsc:X.env.scope=sc) (S:Zou sc scope N xs mp) {n:Str} {c:Addr} (e:(Xt X.env scope.names []).lookup n=some c):X.env.cells.lookup n=some c :=
 Zd6 scope.names [] (Zcu I hsc S) (fun _ _ z=>nomatch z) n c e
theorem Zpj {h₁:Heap} {o:Obj} {m:Str->Option Value} {tk:Nat} (I:Inv X pins σ H₀ s₀) (hsc:X.env.scope=sc) (S:Zou sc scope N xs mp) (hf:∀ b∈fp,Zfj X pins H₀ b)
  (hx:∀ b∈fp,∃ ob,s₀.heap.get? b=some ob) (hns:h₁.Ns s₀.heap.objs.size m) (hsb:Heap.SameBut s₀.heap.objs.size (s₀.heap.push o) h₁) :
  Inv (lcx X (lcN N xs mp) scope (Xt X.env scope.names []) s₀.heap.objs.size s₀ H₀ fp) [] (Q8 (xs.length+mp.length) none) H₀ {s₀ with heap:=h₁,toks:=tk}:=by
 have kp:∀ b u,s₀.heap.get? b=some u->h₁.get? b=some u:=fun b u e=>hsb.extBut b u (Qz (Qs e)) (Qg _ e);have sub:=@Zmw X pins σ H₀ s₀ scope sc N xs mp I hsc S;refine⟨⟨I.ok.mod,S.kind,I.ok.glob,I.ok.blt,Qk _,fun x y c e1 e2=>I.ok.inj x y c (sub e1) (sub e2),fun x hk=>?_,fun x c h _=>(QI h).elim,I.ok.hd,I.ok.frames,.inl rfl,
  fun b hb=>⟨?_,fun x c e=>(hf b hb).2.2.2.2.1 x c (sub e)⟩,fun b o e=>I.bs b o e,QY I.ok.bsz I.sz,fun b o e hb=>?_,fun b hb z=>?_,I.stack,I.stkFree⟩,
  rfl,I.bare,Un.kept kp,⟨m,hns,fun i x v _ e2 _=>?_⟩,fun x c e=>?_,I.hok.fresh (Qk _),fun x c e=>I.freeC x c (sub e),fun p hp=>absurd (show p∈([]:List (Addr×Obj))from hp) (by simp),I.hok.kept kp,?_⟩
 ·have hk':(relabel scope X.env).names.lookup x=some .cell\/(relabel scope X.env).names.lookup x=some .free:=hk;rw[JQ]at hk';cases e:scope.names.lookup x with
  | none=>rw[e]at hk';rcases hk' with z | z <;> cases z
  | some k =>
   have mem:(x,k)∈scope.names:=PySem.mem_of_lookup e;have hkf:k= .free:=by
    rw[e]at hk';have n1:=S.nocell _ mem;simp only[Wj,Option.some.injEq]at hk';unfold Zot at hk';split at hk'
    ·rename_i hc;simp only[Wl]at hc;simpa using hc.1.1
    ·rcases hk' with z | z
     ·exact absurd z n1
     ·exact z
   subst hkf;exact UY.mp (ZaZ scope.names [] x (.inl mem))
 ·obtain⟨ob,e⟩:=hx b hb;exact Qz (Qs e)
 ·rcases(hf b hb).2.2.2.1 with z | z
  ·exact I.ok.noex b o e z
  ·exact absurd (QS (Qs (I.ok.bs b o e).1) z) (Wi _)
 ·rcases QA.mp (I.stkSub b z)with e | e
  ·exact(hf b hb).2.1 e
  ·exact(hf b hb).2.2.1 e
 ·rw[Uw]at e2;split at e2 <;> cases e2
 ·obtain⟨v,ob,ho,hd⟩:=I.cell x c (sub e);exact⟨v,ob,kp c ob ho,hd⟩
 ·show(Q8 (xs.length+mp.length) none:St).length=(lcN N xs mp).length;simp[lcN]
theorem Zgd {pY:List (Addr×Obj)} {σ':St} {s':Shared} {C:Addr} (I:Inv X pins σ H₀ s₀) (hsc:X.env.scope=sc) (hN:X.N=N) (S:Zou sc scope N xs mp) (hf:∀ b∈fp,Zfj X pins H₀ b)
  (J:Inv (lcx X (lcN N xs mp) scope (Xt X.env scope.names []) C s₀ H₀ fp) pY σ' H s'):Inv (lcx X (lcN N xs mp) scope (Xt X.env scope.names []) C s₀ H₀ fp) pY (lcS xs.length mp σ) H s':=by
 obtain⟨m,hn,_⟩:=J.loc;refine⟨J.ok,J.os,J.bare,J.base,⟨m,hn,fun i x v e1 e2 e3=>?_⟩,J.cell,J.free,J.freeC,J.pin,J.hok,?_⟩
 ·have e1':(lcN N xs mp)[i]?=some x:=e1;unfold lcN at e1';unfold lcS at e2;by_cases hi:i<xs.length
  ·rw[QP (by simpa using hi),Uw,if_pos hi]at e2;cases e2
  ·rw[QQ (by simpa using hi),RY,Qd]at e2;rw[QQ (by simpa using hi),Qd]at e1';cases ej:mp[i-xs.length]? with
   | none=>rw[ej]at e2;cases e2
   | some j =>
    rw[ej]at e1' e2;have e1'':N.getD j "" = x:=Option.some.inj e1';have e2':(σ[j]?).getD none=some v:=Option.some.inj e2;have e2'':σ[j]?=some (some v):=by
     cases q:σ[j]? with
     | none=>rw[q]at e2';cases e2'
     | some z=>rw[q]at e2';exact congrArg some e2'
    have hj:j<N.length:=by
     have h1:=(Qn.mp e2'').1;rw[I.len,hN]at h1;exact h1
    have eN:N[j]?=some x:=by
     rw[←e1'',Qb];cases q:N[j]? with
     | none=>exact absurd (Ul.mp q) (by omega)
     | some z=>rfl
    have fr:scope.names.lookup x=some .free:=by rw[←e1''];exact S.out j (WI ej)
    have mem:(x,NameKind.free)∈scope.names:=PySem.mem_of_lookup fr;have kX:X.env.scope.names.lookup x=some .cell\/X.env.scope.names.lookup x=some .free:=by
     rw[hsc];exact S.fr _ mem rfl
    obtain⟨mX,hnX,hl⟩:=I.loc;obtain⟨u,r,lk⟩:=hl j x v (by rw[hN];exact eN) e2'' (.inr kX);rcases lk with ⟨k,_⟩ | ⟨k,c,hc,hcell⟩
    ·have k':X.env.scope.names.lookup x=some .local:=k;rw[k']at kX;rcases kX with z | z <;> cases z
    ·refine⟨u,r,.inr ⟨?_,c,?_,?_⟩⟩
     ·show(relabel scope X.env).names.lookup x=some .cell\/(relabel scope X.env).names.lookup x=some .free;rw[JQ,fr];simp only[Wj];unfold Zot;split
      ·exact .inl rfl
      ·exact .inr rfl
     ·obtain⟨c',e'⟩:=UY.mp (ZaZ (env:=X.env) scope.names [] x (.inl mem));have e'':=Zmw I hsc S e';rw[hc]at e'';cases e'';exact e'
     ·obtain⟨ob,ho,hd⟩:=hcell;obtain⟨sl,q⟩:=J.base.any ho (I.freeC x c hc) fun z=>(hf c z).2.2.2.2.1 x c hc rfl;exact⟨_,q,hd⟩
 ·show(lcS xs.length mp σ).length=(lcN N xs mp).length;simp[lcS,lcN]
theorem ZnT {pY:List (Addr×Obj)} {σ':St} {s':Shared} {C:Addr} {M:List Str} {cl:List (Str×Addr)} (I:Inv X pins σ H₀ s₀) (hf:∀ b∈fp,Zfj X pins H₀ b)
  (J:Inv (lcx X M scope cl C s₀ H₀ fp) pY σ' H s'):Inv X pins σ H s' :=
 I.call' (ch:=fp) J.os J.base J.hok J.bare fun b hb=>⟨(hf b hb).2.2.2.1,(hf b hb).2.1,(hf b hb).2.2.2.2.1,(hf b hb).2.2.2.2.2⟩
end
theorem Zfb {prog:Program} {w:World} {A:Around} {R:Result->Shared->Prop} {s:Shared} {elt target iter:Expr} {ifs:List Expr} {scope:Scope} {pos:Pos} {it acc:Value} {env:Env} (I:Nat->Shared->Prop)
  (turn:∀ n s,I n s->wpAny (model prog w) A (pyNext it) (fun r s1=>match r with
   | none=>R (.ok .next) s1
   | some v=>wpAny (model prog w) A (letOwnedTupleGo target it v) (fun _ s1'=>wpAny (model prog w) A (assign target env v) (fun _ s2 =>
     wpAny (model prog w) A (forIn ifs true fun c r=>if r=true then do let ok ←isTrue c env (eval c env);pure (ForInStep.yield ok)else pure (ForInStep.yield r)) (fun ok s3 =>
      if ok=true then wpAny (model prog w) A (eval elt env) (fun x s4=>wpAny (model prog w) A (call (.builtin "list.append") [acc,x]) (fun _ s5=>∃ m,m<n/\I m s5) (fun _ _=>False) s4) (fun _ _=>False) s3
      else ∃ m,m<n/\I m s3) (fun _ _=>False) s2) (fun _ _=>False) s1') (fun _ _=>False) s1) (fun _ _=>False) s)
  (n:Nat) (h:I n s):codeAny (model prog w) A (.compLoop (.ListComp elt [⟨target,iter,ifs,0⟩] scope pos) 0 it acc env) R s:=by
 refine codeAny_loop rfl I (fun n s hI=>?_) n h;show wpAny (model prog w) A ((compTurn (.ListComp elt [⟨target,iter,ifs,0⟩] scope pos) 0 it acc env).onRaise (fun x=>do noteFrame x env;theTreesLotGoes x)) _ _ s;refine wpAny_noted ?_;rw[compTurn_list];refine wpAny_bind (wpAny_standAt (wpAny_bind (wpAny_mono (turn n s hI) (fun r s1 h1=>?_) fun _ _ z=>z.elim)));cases r with
 | none=>exact wpAny_pure h1
 | some v =>
  refine wpAny_bind (wpAny_mono h1 (fun _ s1' h1'=>?_) fun _ _ z=>z.elim);refine wpAny_bind (wpAny_mono h1' (fun _ s2 h2=>wpAny_bind (wpAny_mono h2 (fun ok s3 h3=>?_) fun _ _ z=>z.elim)) fun _ _ z=>z.elim);cases ok with
  | false=>exact wpAny_pure ⟨rfl,h3⟩
  | true=>exact wpAny_bind (wpAny_bind (wpAny_mono h3 (fun x s4 h4=>wpAny_bind (wpAny_mono h4 (fun _ s5 h5=>wpAny_pure (wpAny_pure ⟨rfl,h5⟩)) fun _ _ z=>z.elim)) fun _ _ z=>z.elim))
def PCs (X:Cx) (ifs:List Expr) (t:TT):Prop :=
 ∀ (pins:List (Addr×Obj)) (s:Shared) (σ:St) (H:Hp) (Q:Bool->Hp->Prop),Inv X pins σ H s->t σ H Q ->
  wpAny (model X.prog X.w) X.A (forIn ifs true fun c r=>if r=true then do let ok ←isTrue c X.env (eval c X.env);pure (ForInStep.yield ok)else pure (ForInStep.yield r)) (TP X pins σ Q) X.xe s
def Zm2:TT:=fun _ H Q=>Q true H
theorem ZR:PCs X [] Zm2:=fun _ _ _ H _ I h=>wpAny_tests_nil ⟨H,I,h⟩
theorem pcs_one {c:Expr} {t:TT} (h:PT X c t):PCs X [c] t:=fun pins s σ H Q I hw=>wpAny_tests_one (h pins s σ H Q I hw)
def Jh (k:Nat) (mp:List Nat) (σ:St) (g:TG) (tc:TT) (te:TE) (J:It) (H1:Hp) (Q:VK):Prop :=
 ∀ D,H1 D=none->∃ W:Nat->Nat->List V->Hp->Prop,(∃ m,W 0 m [] (upd H1 D (.lst [])))/\∀ i m acc H2,W i m acc H2 ->
  (J.stop i H2/\Q (.ref D) H2)\/(J.go i H2/\∀ x H3,J.yld i H2 x H3->g x (lcS k mp σ) H3 fun σ4 H4=>tc σ4 H4 fun b H5 =>
   if b=true then te σ4 H5 fun v H6=>H6 D=some (.lst acc)/\acc.length<sizeLine/\∃ m',m'<m/\W (i+1) m' (acc++[v]) (upd H6 D (.lst (acc++[v])))
   else ∃ m',m'<m/\W (i+1) m' acc H5)
def tLc (k:Nat) (mp:List Nat) (wi:TI) (g:TG) (tc:TT) (te:TE):TE:=fun σ H Q=>wi σ H fun J H1=>Jh k mp σ g tc te J H1 Q
section
variable {X:Cx} {pins:List (Addr×Obj)} {σ:St} {elt tgt iter:Expr} {ifs:List Expr} {scope sc:Scope} {pos:Pos} {N xs:List Str} {mp:List Nat} {wi:TI} {g:TG} {tc:TT} {te:TE}
theorem Zmx {s2:Shared} {it:Addr} {fp:List Addr} {tn:Nat->Heap->Prop} {J:It} {Qv:VK} {E:Value->Shared->Prop} {RR:Value->Addr->Result->Shared->Prop}
  (hsc:X.env.scope=sc) (hN:X.N=N) (S:Zou sc scope N xs mp) (hcalm:X.calm=true)
  (hg:∀ cl C s₀ H₀ fp,PG (lcx X (lcN N xs mp) scope cl C s₀ H₀ fp) tgt g) (hc:∀ cl C s₀ H₀ fp,PCs (lcx X (lcN N xs mp) scope cl C s₀ H₀ fp) ifs tc) (he:∀ cl C s₀ H₀ fp,PE (lcx X (lcN N xs mp) scope cl C s₀ H₀ fp) elt te)
  (I2:Inv X pins σ H2 s2) (T:ZmM X.prog X.w X.K tgt J fp it tn) (st2:tn 0 s2.heap) (f2:∀ b∈fp,Zfj X pins H2 b) (h:Jh xs.length mp σ g tc te J H2 Qv)
  (hRR:∀ (D C:Addr) (s':Shared) (H':Hp) (m:Str->Option Value),s'.heap.Ns C m->Inv X pins σ H' s'->Zfj X pins H' C->Qv (.ref D) H'->RR (.ref D) C (.ok .next) s') :
  wpAny (model X.prog X.w) X.A (newList []) (fun acc s3=>wpAny (model X.prog X.w) X.A (newFunctionEnv scope X.env.globals (Xt X.env scope.names []) [] X.env.qual none .none (some X.env)) (fun cenv s4 =>
   codeAny (model X.prog X.w) X.A (.compStart (.ListComp elt [⟨tgt,iter,ifs,0⟩] scope pos) 0 (.ref it) acc {cenv with scope:=relabel scope X.env}) (RR acc cenv.locals) s4) E s3) E s2:=by
 have hD:H2 s2.heap.objs.size=none:=I2.hok.fresh (Qk _);obtain⟨W,⟨m0,w0⟩,turn⟩:=h s2.heap.objs.size hD;refine wpAny_newObj_type (wpAny_newFunctionEnv S.nocell (by intro y hy;simp at hy) (fun h1 hns1 hsb1=>?_) S.kind);dsimp only at hns1 hsb1 ⊢;have fpD:∀ b∈fp,b≠s2.heap.objs.size:=fun b hb=>by
  obtain⟨o,e,_⟩:=T.obj _ _ st2 b hb;exact Qz (Qs e)
 have I3:Inv X pins σ (upd H2 s2.heap.objs.size (.lst [])) {s2 with heap:=s2.heap.push {cls:=.type "list",dict:=none,data:=.seq ([]:List Value).toArray}} :=
  I2.laid (t':=s2.toks) (fun b u e=>Qg _ e) (Qk _) ⟨QO _,[],0,.nil,Qy _ rfl⟩
 have f3:∀ b∈fp,Zfj X pins (upd H2 s2.heap.objs.size (.lst [])) b:=fun b hb=>⟨by rw[Zi (fpD b hb)];exact(f2 b hb).1,(f2 b hb).2⟩
 generalize hs3:({s2 with heap:=s2.heap.push {cls:=.type "list",dict:=none,data:=.seq ([]:List Value).toArray}}:Shared)=s3 at I3;have hh3:s2.heap.push {cls:=.type "list",dict:=none,data:=.seq ([]:List Value).toArray}=s3.heap:=by rw[←hs3]
 have kp3:∀ b o,s2.heap.get? b=some o->s3.heap.get? b=some o:=fun b o e=>by rw[←hh3];exact Qg _ e
 rw[hh3]at hns1 hsb1 ⊢;have st3:tn 0 s3.heap:=T.keep _ _ _ st2 fun b _ o e=>kp3 b o e;have x3:∀ b∈fp,∃ o,s3.heap.get? b=some o:=fun b hb=>by
  obtain⟨o,e,_⟩:=T.obj _ _ st3 b hb;exact⟨o,e⟩
 have st4:tn 0 h1:=T.keep _ _ _ st3 fun b _ o e=>hsb1.extBut b o (Qz (Qs e)) (Qg _ e);have I4:=fun tk=>Zgd I3 hsc hN S f3 (Zpj (tk:=tk) I3 hsc S f3 x3 hns1 hsb1);have key:∀ s4:Shared,s4={s3 with heap:=h1,toks:=s4.toks}->codeAny (model X.prog X.w) X.A (.compLoop (.ListComp elt [⟨tgt,iter,ifs,0⟩] scope pos) 0 (.ref it) (.ref s2.heap.objs.size) (compEnvC scope (Xt X.env scope.names []) s3.heap.objs.size X.env))
   (RR (.ref s2.heap.objs.size) s3.heap.objs.size) s4:=by
  intro s4 hs4;have stat:∀ {H':Hp},(∀ b∈fp,H' b=none)->∀ b∈fp,Zfj (lcx X (lcN N xs mp) scope (Xt X.env scope.names []) s3.heap.objs.size s3 (upd H2 s2.heap.objs.size (.lst [])) fp) [] H' b:=fun hn b hb =>
   ⟨hn b hb,((I4 0).ok.exf b hb).1,(I4 0).ok.exfs b hb,.inl hb,((I4 0).ok.exf b hb).2,fun p hp=>absurd (show p∈([]:List (Addr×Obj))from hp) (by simp)⟩
  refine Zfb (fun n s'=>∃ i acc H',Inv (lcx X (lcN N xs mp) scope (Xt X.env scope.names []) s3.heap.objs.size s3 (upd H2 s2.heap.objs.size (.lst [])) fp) [] (lcS xs.length mp σ) H' s'/\tn i s'.heap/\(∀ b∈fp,H' b=none)/\W i n acc H') ?_ m0
   ⟨0,[],_,(by rw[hs4];exact I4 _),(by rw[hs4];exact st4),fun b hb=>(f3 b hb).1,w0⟩
  rintro n s6 ⟨i,acc,H6,I6,st6,fr6,w6⟩;rcases turn i n acc H6 w6 with ⟨stop,q⟩ | ⟨go,step⟩
  ·refine thn (T.done (lcx X (lcN N xs mp) scope (Xt X.env scope.names []) s3.heap.objs.size s3 (upd H2 s2.heap.objs.size (.lst [])) fp) rfl rfl rfl hcalm i [] s6 _ H6 _ I6 (stat fr6) st6 stop) fun r s7 ⟨hr,I7⟩=>?_;subst hr;obtain⟨m7,hn7,_⟩:=I7.loc;exact hRR _ _ s7 H6 m7 hn7 (ZnT I3 f3 I7) (I3.fpOk (Qk _) I7.free) q
  ·refine thn (T.item (lcx X (lcN N xs mp) scope (Xt X.env scope.names []) s3.heap.objs.size s3 (upd H2 s2.heap.objs.size (.lst [])) fp) rfl rfl rfl hcalm i [] s6 _ H6 _ I6 (stat fr6) st6 go) fun r s7 ⟨u,hr,h7⟩=>?_;subst hr;refine thn h7 fun _ s8 ⟨x,H8,I8,r8,y8,st8,fr8⟩=>?_;have I8':=I8.pinned (stat fr8) (T.obj _ _ st8);have again:∀ {σ':St} {H':Hp} {s':Shared},Inv (lcx X (lcN N xs mp) scope (Xt X.env scope.names []) s3.heap.objs.size s3 (upd H2 s2.heap.objs.size (.lst [])) fp) ([]++Zdi fp s8.heap) σ' H' s'->(∃ m acc',m<n/\W (i+1) m acc' H') ->
     ∃ m,m<n/\∃ i acc H',Inv (lcx X (lcN N xs mp) scope (Xt X.env scope.names []) s3.heap.objs.size s3 (upd H2 s2.heap.objs.size (.lst [])) fp) [] (lcS xs.length mp σ) H' s'/\tn i s'.heap/\(∀ b∈fp,H' b=none)/\W i m acc H':=by
    intro σ' H' s' J ⟨m,acc',hm,w'⟩;refine⟨m,hm,i+1,acc',H',Zgd I3 hsc hN S f3 J.unpinned,T.keep _ _ _ st8 fun b hb o e=>(J.pin (b,o) (Q4 _ (Q4 _ (XC hb e)))).1,fun b hb=>?_,w'⟩;obtain⟨o,e,_⟩:=T.obj _ _ st8 b hb;exact(J.pin (b,o) (Q4 _ (Q4 _ (XC hb e)))).2.1
   refine thn (hg _ _ _ _ _ _ s8 _ H8 x u _ I8' r8 (step x H8 y8)) fun _ s9 ⟨σ9,H9,I9,q9⟩=>?_;refine thn (hc _ _ _ _ _ _ s9 σ9 H9 _ I9 q9) fun b s10 ⟨H10,I10,q10⟩=>?_;cases b with
   | false =>
    obtain⟨m',hm,w'⟩:=q10;exact again I10 ⟨m',acc,hm,w'⟩
   | true =>
    refine thn (he _ _ _ _ _ _ s10 σ9 H10 _ I10 q10) fun yv s11 ⟨v,H11,I11,r11,hDa,hz,m',hm,w'⟩=>?_;refine thn (ZdE _ s11 σ9 H11 (.ref s2.heap.objs.size) [v] (.ref s2.heap.objs.size) [yv] (fun _ H12=>H12=upd H11 s2.heap.objs.size (.lst (acc++[v]))) I11 rfl (.cons r11 .nil) ⟨_,acc,v,rfl,rfl,hDa,hz,rfl⟩) fun _ s12 ⟨_,H12,I12,_,e12⟩=>?_;subst e12;exact again I12 ⟨m',_,hm,w'⟩
 subst hs3;exact codeAny_compStart_list (key _ rfl) (T.self X.A 0 _ _ _ st4 (key _ rfl))
theorem ZH (sc:Scope) (N xs:List Str) (mp:List Nat) (hcalm:X.calm=true) (hi:PI X tgt iter wi) (hg:∀ cl C s₀ H₀ fp,PG (lcx X (lcN N xs mp) scope cl C s₀ H₀ fp) tgt g)
  (hc:∀ cl C s₀ H₀ fp,PCs (lcx X (lcN N xs mp) scope cl C s₀ H₀ fp) ifs tc) (he:∀ cl C s₀ H₀ fp,PE (lcx X (lcN N xs mp) scope cl C s₀ H₀ fp) elt te)
  (S:Zlm sc scope N xs mp=true:=by decide +kernel) (hsc:X.env.scope=sc:=by rfl) (hN:X.N=N:=by rfl) (hs:∀ x,foldedSetIterable iter X.env x=pure x:=by intro _;rfl) :
  PE X (.ListComp elt [⟨tgt,iter,ifs,0⟩] scope pos) (tLc xs.length mp wi g tc te):=by
 intro pins s σ H Q I h;have S':=Zgf S;rw[eval_ListComp];refine wpAny_comprehension_free (use:=none) rfl hs (Jk (Zcu I hsc S')) S'.kind S'.names (thn (hi pins s σ H _ I h) fun v s1 h1=>thn h1 fun itv s2 h2=>?_);obtain⟨it,fp,tn,J,H2,e,I2,T,st2,f2,h3⟩:=h2;subst e;refine Zmx (RR:=fun acc C=>compPost (model X.prog X.w) X.A X.xe none (EP X pins σ Q) acc C) hsc hN S' hcalm hg hc he I2 T st2 f2 h3 ?_;intro D C s' H' m hn I' fC q;exact⟨m,hn,fun h' hs'=>⟨.ref D,H',I'.turned (t':=s'.toks) (fun b o hb e=>hs'.extBut b o hb e) fC.1 fC.2.1 fC.2.2.2.1 fC.2.2.2.2.1 fC.2.2.2.2.2,rfl,q⟩⟩
theorem Ja {pos' spos:Pos} (sc:Scope) (N xs:List Str) (mp:List Nat) (hNd:X.N.Nodup) (hix:X.N[i]?=some x) (hx:Loc X.env.scope x) (hcalm:X.calm=true) (hi:PI X tgt iter wi) (hg:∀ cl C s₀ H₀ fp,PG (lcx X (lcN N xs mp) scope cl C s₀ H₀ fp) tgt g)
  (hc:∀ cl C s₀ H₀ fp,PCs (lcx X (lcN N xs mp) scope cl C s₀ H₀ fp) ifs tc) (he:∀ cl C s₀ H₀ fp,PE (lcx X (lcN N xs mp) scope cl C s₀ H₀ fp) elt te)
  (S:Zlm sc scope N xs mp=true:=by decide +kernel) (hsw:swapsWith (.ListComp elt [⟨tgt,iter,ifs,0⟩] scope pos) (some (.Name x pos')) spos.line X.env=pure true:=by rfl)
  (hsc:X.env.scope=sc:=by rfl) (hN:X.N=N:=by rfl) (hs:∀ x,foldedSetIterable iter X.env x=pure x:=by intro _;rfl) (hf:X.fn x=true\/X.env.scope.names.lookup x=some .local:=by first | exact .inl rfl | exact .inr rfl | assumption) :
  PS X (.Assign [.Name x pos'] (.ListComp elt [⟨tgt,iter,ifs,0⟩] scope pos) spos) (Zqe (tLc xs.length mp wi g tc te) (J0 i)):=by
 intro pins s σ H D I h;have S':=Zgf S;rw[exec_Assign_Name_used _ _ _ _ hsw];refine wpAny_bind (wpAny_standAt (wpAny_bind ?_));show wpAny (model X.prog X.w) X.A (do let _ ←comprehension (.ListComp elt [⟨tgt,iter,ifs,0⟩] scope pos) scope X.env _ (newList []) false (eval iter X.env) (some (assign (.Name x pos') X.env))) _ _ s;refine wpAny_bind (wpAny_mono (wpAny_comprehension_free (use:=some (assign (.Name x pos') X.env)) (Q:=fun _ s'=>SP X pins D .next s') rfl hs (Jk (Zcu I hsc S')) S'.kind S'.names
  (thn (hi pins s σ H _ I h) fun v s1 h1=>thn h1 fun itv s2 h2=>?_)) (fun _ s' hq=>wpAny_pure (wpAny_pure hq)) fun _ _ e=>e)
 obtain⟨it,fp,tn,J,H2,e,I2,T,st2,f2,h3⟩:=h2;subst e;refine Zmx (RR:=fun acc C=>compPost (model X.prog X.w) X.A X.xe (some (assign (.Name x pos') X.env)) (fun _ s'=>SP X pins D .next s') acc C) hsc hN S' hcalm hg hc he I2 T st2 f2 h3 ?_;intro D' C s' H' m hn I' fC q;show wpAny (model X.prog X.w) X.A (assign (.Name x pos') X.env (.ref D')) _ _ s';refine wpAny_assign_Name (Zc6 I' hNd hix hx (v:=.ref D') rfl (fun s'' I'' ⟨a,sb,ha⟩=>?_) hf);have nC:C≠a:=by
  rcases ha with z | z
  ·rw[z];exact fC.2.1
  ·exact fun e=>fC.2.2.2.2.1 x a z e.symm
 refine⟨m,hn.sameBut sb nC,fun h' hs'=>⟨_,H',I''.turned (t':=s''.toks) (fun b o hb e=>hs'.extBut b o hb e) fC.1 fC.2.1 fC.2.2.2.1 fC.2.2.2.2.1 fC.2.2.2.2.2,q⟩⟩
end
def TSame (H H':Hp):Prop:=∀ b xs,H b=some (.tup xs)->H' b=some (.tup xs)
theorem Same.tup (h:Same H H'):TSame H H':=fun b xs e=>h b _ e
theorem TSame.trans (a:TSame H H1) (b:TSame H1 H2):TSame H H2:=fun c xs e=>b c xs (a c xs e)
theorem XZ {D:Addr} (h:H D=some (.lst xs)):TSame H (upd H D (.lst ys)):=fun b zs e=>by
 rw[Zi (fun z=>by rw[z,h]at e;cases e)];exact e
theorem Zb {D:Addr} {o:HO} (h:H D=none):Same H (upd H D o):=fun b u e=>by
 rw[Zi (Zm e h)];exact e
theorem YB {σ:St} {g:TG} {te:TE} {J:It} {Q:VK} (n:Nat) (xs:Nat->V) (R:Nat->V->Hp->Prop) (hn:n<=sizeLine)
  (hR:∀ i v H H',TSame H H'->R i v H->R i v H')
  (hJ:∀ H,Same H1 H->(∀ i,i<n->J.go i H/\∀ x H',J.yld i H x H'->H'=H/\x=xs i)/\J.stop n H)
  (step:∀ i H (Qe:VK),i<n->Same H1 H->(∀ v H6,Same H H6->R i v H6->Qe v H6)->g (xs i) (lcS k mp σ) H fun σ4 H4=>te σ4 H4 Qe)
  (done:∀ D vs H',vs.length=n->(∀ i v,vs[i]?=some v->R i v H')->Same H1 H'->H1 D=none->H' D=some (.lst vs)->Q (.ref D) H'):Jh k mp σ g Zm2 te J H1 Q:=by
 intro D hD;refine⟨fun i m acc H=>m=n-i/\i<=n/\acc.length=i/\Same H1 H/\H D=some (.lst acc)/\∀ j v,acc[j]?=some v->R j v H,⟨n,by simp,QO _,rfl,Zb hD,Zd,fun j v e=>by simp at e⟩,?_⟩;rintro i m acc H ⟨rfl,hi,hl,hs,hDa,hr⟩;obtain⟨j1,j2⟩:=hJ H hs;by_cases hlt:i<n
 ·refine .inr ⟨(j1 i hlt).1,fun x H3 y=>?_⟩;obtain⟨e1,e2⟩:=(j1 i hlt).2 x H3 y;subst e1 e2;refine step i H3 _ hlt hs fun v H6 s6 r6=>⟨s6 _ _ hDa,by omega,n-(i+1),by omega,rfl,hlt,by rw[Qm,hl];rfl,fun b o e=>?_,Zd,fun j u e=>?_⟩
  ·rw[Zi (Zm e hD)];exact s6 _ _ (hs b o e)
  ·have ts:TSame H6 (upd H6 D (.lst (acc++[v]))):=XZ (s6 _ _ hDa);rcases UE j acc.length with h | h | h
   ·rw[QP h]at e;exact hR _ _ _ _ (s6.tup.trans ts) (hr j u e)
   ·subst h;rw[QQ (Qk _),WN]at e;cases e;rw[hl];exact hR _ _ _ _ ts r6
   ·rw[Qo (by rw[Qm,QK];omega)]at e;cases e
 ·have e:i=n:=by omega
  subst e;exact .inl ⟨j2,done D acc H hl hr hs hD hDa⟩
theorem YM {K:PySem.W.Frag} (h:SqL K H1 a ys):∀ H,Same H1 H->(∀ i,i<ys.length->(Itl K a).go i H/\∀ x H',(Itl K a).yld i H x H'->H'=H/\x=ys.getD i .non)/\(Itl K a).stop ys.length H:=fun H s=>by
 have q:=s.seq h;refine⟨fun i hi=>⟨⟨ys,ys[i],q,by simp[hi]⟩,fun x H' y=>⟨y.1,?_⟩⟩,⟨ys,q,Qk _⟩⟩;have e:=y.2 ys q;rw[Qb,e];rfl
theorem Same.tupS {K:PySem.W.Frag} (e:Same H H') (h:SqT K H a xs):SqT K H' a xs:=by
 rcases h with (h | ⟨o,h⟩) | h
 ·exact .inl (.inl (e _ _ h))
 ·exact .inl (.inr ⟨o,e _ _ h⟩)
 ·exact .inr h
theorem JV {K:PySem.W.Frag} (h:SqT K H1 a ys):∀ H,Same H1 H->(∀ i,i<ys.length->(Itt K a).go i H/\∀ x H',(Itt K a).yld i H x H'->H'=H/\x=ys.getD i .non)/\(Itt K a).stop ys.length H:=fun H s=>by
 have q:=s.tupS h;refine⟨fun i hi=>⟨⟨ys,ys[i],q,by simp[hi]⟩,fun x H' y=>⟨y.1,?_⟩⟩,⟨ys,q,Qk _⟩⟩;have e:=y.2 ys q;rw[Qb,e];rfl
theorem Zcw {lo:Int}:∀ H,Same H1 H->(∀ i,i<n->(Itr lo n).go i H/\∀ x H',(Itr lo n).yld i H x H'->H'=H/\x= .int (lo+i))/\(Itr lo n).stop n H:=fun H _ =>
 ⟨fun i hi=>⟨hi,fun x H' y=>y⟩,Qk _⟩
def Its (x:Str):It:=⟨fun i _=>i<x.cps.size,fun i H v H'=>H'=H/\v= .str ⟨#[x.cps.getD i 0]⟩,fun i _=>x.cps.size<=i⟩
theorem Zpq:∀ H,Same H1 H->(∀ i,i<x.cps.size->(Its x).go i H/\∀ v H',(Its x).yld i H v H'->H'=H/\v= .str ⟨#[x.cps.getD i 0]⟩)/\(Its x).stop x.cps.size H:=fun H _ =>
 ⟨fun i hi=>⟨hi,fun v H' y=>y⟩,Qk _⟩
theorem Zfp {P:Program} {w:World} {K:PySem.W.Frag} {tg:Expr} (it:Addr) (x:Str) (t:Tok) (T:String) (hT:T = "str_ascii_iterator"\/T = "str_iterator"):ZmM P w K tg (Its x) [it] it (fun i h=>h.IsStrIter it T x t i) where
 mem:=by simp
 obj:=fun i h st b hb=>by
  have e:b=it:=by simpa using hb
  subst e;obtain⟨o,e,c,d⟩:=st;exact⟨o,e,fun v z=>by rw[d]at z;cases z⟩
 keep:=fun i h h' st k=>by
  obtain⟨o,e,c,d⟩:=st;exact⟨o,k it (by simp) o e,c,d⟩
 item:=by
  intro X hP hw hK hc i pins s σ H E I hf st hg;subst hP hw hK;obtain⟨f0,f1,f2,f3,f4,f5⟩:=hf it (by simp);have hd:=I.ok.hd hc;have fin:∀ (v:Value) (h':Heap) (tk:Nat),SignAt x i v->h'.IsStrIter it T x t (i+1)->(∀ b o,b∉[it]->s.heap.get? b=some o->h'.get? b=some o) ->
    ∃ u,some v=some u/\wpAny (model X.prog X.w) X.A (letOwnedTupleGo tg (.ref it) u) (fun _ s2=>∃ y H',Inv X pins σ H' s2/\RelV y u/\(Its x).yld i H y H'/\s2.heap.IsStrIter it T x t (i+1)/\∀ b∈[it],H' b=none) E {s with heap:=h',toks:=tk}:=by
   intro v h' tk hv st' kk;obtain⟨c,u,hc',rfl⟩:=hv;have I1:Inv X pins σ H {s with heap:=h',toks:=tk}:=I.turned (fun b o hb e=>kk b o (by simpa using hb) e) f0 f1 f3 f4 f5;obtain⟨o,e,c1,d1⟩:=id st';refine⟨_,rfl,Zlz (s:={s with heap:=h',toks:=tk}) e c1 d1 (by rcases hT with z | z <;> rw[z] <;> decide) ⟨.str ⟨#[x.cps.getD i 0]⟩,H,I1,⟨u,?_⟩,⟨rfl,rfl⟩,st',fun b hb=>(hf b hb).1⟩⟩;rw[QZ,hc'];rfl
  rcases hT with z | z
  ·subst z;exact(Walks.strAscii (prog:=X.prog) (w:=X.w) hd it x t).item i s _ _ hg st fun v h' tk hv st' kk=>fin v h' tk hv st' kk
  ·subst z;exact(Walks.strWide (prog:=X.prog) (w:=X.w) hd it x t).item i s _ _ hg st fun v h' tk hv st' kk=>fin v h' tk hv st' kk
 done:=by
  intro X hP hw hK hc i pins s σ H E I hf st hg;subst hP hw hK;obtain⟨f0,f1,f2,f3,f4,f5⟩:=hf it (by simp);have hd:=I.ok.hd hc;have hg':x.cps.size<=i:=hg;have hn:x.cps[i]?=none:=UD hg';rcases hT with z | z
  ·subst z;exact wpAny_pyNext_ascii_end hd st hn fun h' eb=>⟨rfl,I.turned (t':=s.toks) (fun b o hb e=>eb b o hb e) f0 f1 f3 f4 f5⟩
  ·subst z;exact wpAny_pyNext_wide_end hd st hn fun h' eb=>⟨rfl,I.turned (t':=s.toks) (fun b o hb e=>eb b o hb e) f0 f1 f3 f4 f5⟩
 self:=fun _ _ _ _ _ st h=>by
  rcases hT with z | z
  ·subst z;exact wpAny_pyIter_striter_ascii st h
  ·subst z;exact wpAny_pyIter_striter_wide st h
def Zrk (tl:TE):TI:=fun σ H R=>tl σ H fun v H1=>∃ x,v= .str x/\R (Its x) H1
theorem ZoS {tg l:Expr} {tl:TE} (hl:PE X l tl):PI X tg l (Zrk tl):=by
 intro pins s σ H R I h;refine thn (hl pins s σ H _ I h) fun v s1 ⟨y,H1,I1,r1,q1⟩=>?_;obtain⟨x,e,q⟩:=q1;subst e;obtain⟨t,rfl⟩:=r1;cases ha:x.cps.all (· < 128)with
 | true =>
  refine wpAny_pyIter_ascii ha ⟨s1.heap.objs.size,[s1.heap.objs.size],_,_,H1,rfl,I1.kept (t':=s1.toks) fun b o e=>Qg _ e,Zfp _ x t _ (.inl rfl),⟨_,Qy _ rfl,rfl,rfl⟩,fun b hb=>?_,q⟩;have e:b=s1.heap.objs.size:=by simpa using hb
  subst e;exact I1.fpOk (Qk _) (I1.hok.fresh (Qk _))
 | false =>
  refine wpAny_pyIter_wide ha ⟨s1.heap.objs.size,[s1.heap.objs.size],_,_,H1,rfl,I1.kept (t':=s1.toks) fun b o e=>Qg _ e,Zfp _ x t _ (.inr rfl),⟨_,Qy _ rfl,rfl,rfl⟩,fun b hb=>?_,q⟩;have e:b=s1.heap.objs.size:=by simpa using hb
  subst e;exact I1.fpOk (Qk _) (I1.hok.fresh (Qk _))
section
variable {X:Cx}
def ZqR:V->Option Int->Option Int->Hp->VK->Prop:=fun x lo hi H Q=>∃ z:Str,x= .str z/\z.length<=sizeLine/\Q (.str (Txt.slice z lo hi)) H
theorem Ym:SlR X ZqR:=by
 intro pins s σ H x v vl vu lo hi sl Q I rx hs pl pu h;obtain⟨z,rfl,hz,q⟩:=h;obtain⟨t,rfl⟩:=rx;have fin:∀ t' k,EP X pins σ Q (.str (Txt.slice z lo hi) t') {s with toks:=k}:=fun t' k=>⟨.str _,H,I.tok _,⟨_,rfl⟩,q⟩
 have hle:(Txt.slice z lo hi).length<=sizeLine:=QY (Txt.slice_le z _ _) hz;cases pl with
 | none =>
  cases pu with
  | none=>exact⟨"str",_,F.slot_str_getitem.lookup,typeIs_str _ _ _,wpAny_getItem_str_slice (l:=none) (u:=none) (st:=none) hs rfl (post_val_or_str ⟨hle,fin⟩)⟩
  | int j u=>exact⟨"str",_,F.slot_str_getitem.lookup,typeIs_str _ _ _,wpAny_getItem_str_slice (l:=none) (u:=some (j,u)) (st:=none) hs rfl (post_val_or_str ⟨hle,fin⟩)⟩
 | int i u' =>
  cases pu with
  | none=>exact⟨"str",_,F.slot_str_getitem.lookup,typeIs_str _ _ _,wpAny_getItem_str_slice (l:=some (i,u')) (u:=none) (st:=none) hs rfl (post_val_or_str ⟨hle,fin⟩)⟩
  | int j u=>exact⟨"str",_,F.slot_str_getitem.lookup,typeIs_str _ _ _,wpAny_getItem_str_slice (l:=some (i,u')) (u:=some (j,u)) (st:=none) hs rfl (post_val_or_str ⟨hle,fin⟩)⟩
theorem YR:∀ {ss:List Str} {us:List Value},Vals (ss.map V.str) us->StrsAre us ss
 | [],_,r=>by
  cases r;exact .nil
 | x::ss,_,r=>by
  cases r with
  | cons r1 r2 =>
   obtain⟨t,e⟩:=r1;subst e;exact .cons x t (YR r2)
theorem Zc1:∀ {us:List Value} {ss:List Str},StrsAre us ss->Vals (ss.map V.str) us
 | _,_,.nil=>.nil
 | _,_,.cons x t h=>.cons ⟨t,rfl⟩ (Zc1 h)
def Zqj (K:PySem.W.Frag):V->List V->Hp->VK->Prop:=fun x vs H Q=>∃ (z:Str) (a:Addr) (ys:List Str),x= .str z/\vs=[.ref a]/\SqL K H a (ys.map V.str)/\(ys.map (·.length)).sum+ys.length*z.length<=16777216/\Q (.str (Txt.join z ys)) H
theorem ZnM:MtR X "str.join" (Zqj X.K):=by
 intro pins s σ H x vs v us Q I rx rv h;obtain⟨z,a,ys,rfl,rfl,hq,hz,q⟩:=h;obtain⟨t,rfl⟩:=rx;obtain⟨u,rfl,ru⟩:=Xd rv;cases ru;obtain⟨its,r,pl,_⟩:=I.list hq;exact join_list pl.isList (YR (by simpa using r)) hz fun t' k=>⟨.str _,H,I.tok _,⟨_,rfl⟩,q⟩
theorem Y5:∀ (ns:List Int) (k:Nat),preSum (fun i=>ns.getD i 0) k=(ns.take k).sum
 | ns,0=>by simp[preSum]
 | ns,k+1=>by
  rw[preSum,Y5 ns k];by_cases h:k<ns.length
  ·rw[VA,Qa h,Qb,Qa h];simp only[RS,Option.toList_some,Qw,Ri,RG];omega
  ·have h':ns.length<=k:=VH h;rw[QJ h',QJ (WU h'),Qb,Qo h'];simp
theorem Zd7 (hc:X.calm=true):CallR X (.builtin "sum") (fun xs H Q=>∃ (a:Addr) (ns:List Int),xs=[.ref a]/\SqL X.K H a (ns.map V.int)/\(∀ n∈ns,InLong n)/\(∀ k,InLong (ns.take k).sum)/\Q (.int ns.sum) H):=by
 intro pins s σ H xs us Q I r h;obtain⟨a,ns,rfl,hq,h1,h2,q⟩:=h;obtain⟨u,rfl,ru⟩:=Xd r;cases ru;obtain⟨its,rv,pl,hz⟩:=I.list hq;have hl:=rv.length;rw[Qc]at hl;have hlt:a<s.heap.objs.size:=by
  obtain⟨o,n,e,_⟩:=pl;exact Qs e
 refine call_sum_walk (wpAny_pyIter_list pl.isList ⟨s.heap.objs.size,[s.heap.objs.size,a],[s.heap.objs.size],its.toArray.size,_,_,fun i=>ns.getD i 0,rfl,Walks.list (A:=X.A.in1) (I.ok.hd hc) _ _ (Qz hlt) its.toArray,
  ⟨⟨_,Qy _ rfl,rfl,rfl⟩,pl.isList.push _⟩,?_,?_,?_,?_⟩)
 ·intro b hb;show b<(s.heap.push _).objs.size;rw[WY];have:b=s.heap.objs.size\/b=a:=by simpa using hb
  rcases this with z | z
  ·rw[z];exact U9 _
  ·rw[z];exact UF hlt
 ·intro i v hv;have e1:its[i]?=some v:=by simpa using hv
  have hi:i<its.length:=(Qn.mp e1).1;have hb:(ns.map V.int)[i]?=some (.int (ns.getD i 0)):=by
   rw[Qd,Qb];cases e:ns[i]? with
   | none=>exact absurd (Ul.mp e) (by omega)
   | some b=>rfl
  obtain⟨u',hu,ru⟩:=rv.get hb;rw[e1]at hu;cases hu;exact ru
 ·intro j hj;have hj':j<ns.length:=by rw[hl];simpa using hj
  refine⟨?_,?_⟩
  ·show InLong (ns.getD j 0);rw[Qb,Qa hj'];exact h1 _ (QF hj')
  ·rw[Y5];exact h2 _
 ·intro h' tk t' kk;refine⟨.int ns.sum,H,I.kept fun b o e=>kk b o (by simpa using Qz (Qs e)) (Qg _ e),⟨t',?_⟩,q⟩;rw[Y5,QJ (by rw[Qr];omega)]
theorem Zd9:CallR X (.builtin "sorted") (fun xs H Q=>∃ (a:Addr) (ss:List Str),xs=[.ref a]/\SqL X.K H a (ss.map V.str)/\ss.length<64 /\
  ∀ p ss',H p=none->ss'.Perm ss->sortedS ss'=true->Q (.ref p) (upd H p (.lst (ss'.map V.str)))):=by
 intro pins s σ H xs us Q I r h;obtain⟨a,ss,rfl,hq,h64,q⟩:=h;obtain⟨u,rfl,ru⟩:=Xd r;cases ru;obtain⟨its,rv,pl,hz⟩:=I.list hq;have hl:=rv.length;rw[Qc]at hl;refine sorted_strs pl.isList (YR rv) (by omega) fun out ss' a1 a2 a3=>?_;obtain⟨e,he⟩:=sortedAll_at s.heap its out;have hn:H (s.heap.objs.size+1)=none:=I.hok.fresh (WH _);refine⟨.ref (s.heap.objs.size+1),_,I.laid (t':=s.toks) (o:=.lst (ss'.map V.str)) (fun b o e=>sortedAll_old e) (WH _) ?_,rfl,q _ _ hn a2 a3⟩;have hln:ss'.length=ss.length:=a2.length_eq;refine⟨by rw[Qc,hln];rw[sizeLine_eq];omega,out.toList,e,Zc1 a1,?_⟩;rw[he]
def Zrm:V->Option Value
 | .ty n=>some (.type n)
 | .ref a=>some (.ref a)
 | _=>none
theorem ZlJ:CallR X (.builtin "isinstance") (fun xs H Q=>∃ (x c:V) (t cv:Value) (b:Bool),xs=[x,c]/\ZgK X.K H x t/\Zrm c=some cv/\PySem.W.kitOne X.K t cv=some b/\Q (.bl b) H):=by
 intro pins s σ H xs us Q I r h;obtain⟨x,c,t,cv,b,rfl,ty,rc,e,q⟩:=h;obtain⟨u,w',rfl,ru,rw'⟩:=ZhD r;have ec:w'=cv:=by
  cases c with
  | ty n=>exact(show w'=Value.type n from rw').trans (Option.some.inj rc)
  | ref n=>exact(show w'=Value.ref n from rw').trans (Option.some.inj rc)
  | _=>cases rc
 subst ec;exact ZjJ I ru ty e fun tk=>⟨.bl b,H,I.tok _,rfl,q⟩
end
mutual
def RepD (H:Hp):PyData->V->Prop
 | .none,v=>v= .non
 | .bool b,v=>v= .bl b
 | .int i,v=>v= .int i
 | .str x,v=>v= .str x
 | .tuple ds,v=>∃ a xs,v= .ref a/\H a=some (.tup xs)/\RepA H ds xs
 | .list ds,v=>∃ a xs,v= .ref a/\H a=some (.lst xs)/\RepA H ds xs
 | .dict _,_=>False
def RepA (H:Hp):List PyData->List V->Prop
 | [],xs=>xs=[]
 | d::ds,xs=>∃ v vs,xs=v::vs/\RepD H d v/\RepA H ds vs
end
mutual
theorem RepD.same {H H':Hp} (h:Same H H'):∀ (d:PyData) (v:V),RepD H d v->RepD H' d v
 | .none,_,r=>r
 | .bool _,_,r=>r
 | .int _,_,r=>r
 | .str _,_,r=>r
 | .tuple ds,v,r=>by
  rw[RepD]at r ⊢;obtain⟨a,xs,e,e2,q⟩:=r;exact⟨a,xs,e,h _ _ e2,RepA.same h ds xs q⟩
 | .list ds,v,r=>by
  rw[RepD]at r ⊢;obtain⟨a,xs,e,e2,q⟩:=r;exact⟨a,xs,e,h _ _ e2,RepA.same h ds xs q⟩
 | .dict _,v,r=>by
  rw[RepD]at r;exact r.elim
theorem RepA.same {H H':Hp} (h:Same H H'):∀ (ds:List PyData) (vs:List V),RepA H ds vs->RepA H' ds vs
 | [],_,r=>r
 | d::ds,vs,r=>by
  rw[RepA]at r ⊢;obtain⟨v,us,e,q1,q2⟩:=r;exact⟨v,us,e,RepD.same h d v q1,RepA.same h ds us q2⟩
end
section
variable {X:Cx} {pins:List (Addr×Obj)} {σ:St} {H:Hp} {s:Shared}
mutual
theorem RepD.reads (I:Inv X pins σ H s):∀ (d:PyData) (v:V) (u:Value),RepD H d v->RelV v u->∃ as,Reads s.heap u d as
 | .none,v,u,r,q=>by
  rw[RepD]at r;subst r;cases q;exact⟨_,.none⟩
 | .bool b,v,u,r,q=>by
  rw[RepD]at r;subst r;cases q;exact⟨_,.bool b⟩
 | .int i,v,u,r,q=>by
  rw[RepD]at r;subst r;obtain⟨t,rfl⟩:=q;exact⟨_,.int i t⟩
 | .str x,v,u,r,q=>by
  rw[RepD]at r;subst r;obtain⟨t,rfl⟩:=q;exact⟨_,.str x t⟩
 | .tuple ds,v,u,r,q=>by
  rw[RepD]at r;obtain⟨a,xs,e,e2,q2⟩:=r;subst e;cases q;obtain⟨its,rv,⟨o,h1,h2,n,h3⟩,_⟩:=I.tuple (SqT.of e2);obtain⟨as,q3⟩:=RepA.reads I ds xs its q2 rv;exact⟨_,.tuple h1 h2 h3 (by simpa using q3)⟩
 | .list ds,v,u,r,q=>by
  rw[RepD]at r;obtain⟨a,xs,e,e2,q2⟩:=r;subst e;cases q;obtain⟨its,rv,⟨o,n,h1,h2,_,h3⟩,_⟩:=I.list (SqL.of e2);obtain⟨as,q3⟩:=RepA.reads I ds xs its q2 rv;exact⟨_,.list h1 h2 h3 (by simpa using q3)⟩
 | .dict _,v,u,r,q=>by
  rw[RepD]at r;exact r.elim
theorem RepA.reads (I:Inv X pins σ H s):∀ (ds:List PyData) (vs:List V) (us:List Value),RepA H ds vs->Vals vs us->∃ as,ReadsAll s.heap us ds as
 | [],vs,us,r,q=>by
  rw[RepA]at r;subst r;cases q;exact⟨_,.nil⟩
 | d::ds,vs,us,r,q=>by
  rw[RepA]at r;obtain⟨v,vs',e,q1,q2⟩:=r;subst e;cases q with
  | cons p1 p2 =>
   obtain⟨as,r1⟩:=RepD.reads I d v _ q1 p1;obtain⟨bs,r2⟩:=RepA.reads I ds vs' _ q2 p2;exact⟨_,.cons r1 r2⟩
end
end
section
variable {X:Cx}
theorem Zi5 (hu:X.A.units+64<cLine):OpR X (compareOp .Eq) (fun x y H Q=>∃ da db,RepD H da x/\RepD H db y/\SeqAt.shaped da=true/\SeqAt.shaped db=true/\Q (.bl (PyData.eqv da db)) H):=by
 intro pins s σ H x y v u Q I rx ry h;obtain⟨da,db,r1,r2,s1,s2,q⟩:=h;obtain⟨as,q1⟩:=RepD.reads I da x v r1 rx;obtain⟨bs,q2⟩:=RepD.reads I db y u r2 ry;exact eq_dataH q1 q2 s1 s2 hu ⟨.bl _,H,I,rfl,q⟩
end
structure HasDef (K:PySem.W.Frag) (mg:Str->Option Value) (name:Str) (st:Stmt) (ps:List Str):Prop where
 ex:∃ f fd,Fun K name name st f fd/\Binds K fd ps []/\mg name=some (.ref f)
structure FOk (P:Program) (w:World) (K:PySem.W.Frag) (mg:Str->Option Value) (base:Heap) (k:Nat) (name:Str) (ps:List Str) (sp:Sp):Prop where
 ex:∃ f fd,FnOk P w K mg base CX0 k f fd ps sp/\Binds K fd ps []/\mg name=some (.ref f)/\PySem.W.keepIn K (.ref f)=true
section
variable {P:Program} {w:World} {K:PySem.W.Frag} {mg:Str->Option Value} {base:Heap}
theorem HasDef.ok (D:HasDef K mg name st ps) (S:Zo N ps (Zf st)) (len:∀ vs H Q E,sp vs H Q E->vs.length=ps.length)
  (hbody:∀ (f:Addr) (cdv:Value) (A:Around) (outer:List Env) (s:Shared) (H:Hp) (vs:List V) (Q:VK) (E:XK),Room k (A.deeper (envOfC name (Zf st) s.heap.objs.size f cdv))->sp vs H Q E ->
   ∃ t,PSs (Zj8 CX0 P w K mg base N name (Zf st) f cdv A outer s H E).nox (Yl st) t/\t {nx:=fun _ H'=>Q .non H',rt:=Q} (Zap N vs) H):FOk P w K mg base (k+1) name ps sp:=by
 obtain⟨f,fd,F,b,m⟩:=D.ex;exact⟨f,fd,F.ok S len fun cdv A outer s H vs Q E=>hbody f cdv A outer s H vs Q E,b,m,F.kp⟩
theorem FOk.mono {j:Nat} (G:FOk P w K mg base j name ps sp) (h:j<=k):FOk P w K mg base k name ps sp:=by
 obtain⟨f,fd,F,r⟩:=G.ex;exact⟨f,fd,F.mono h,r⟩
end
theorem Zq {p:Pos} {e:Expr} {es:List Expr} {t:TA} (G:FOk X.prog X.w X.K X.mg X.base k name ps sp) (hr:Room k X.A) (ha:PA X (e::es) t) (hg:Gl X name:=by rfl)
  (hdb:(name==("__debug__" : Str))=false:=by decide) (he:starEach (e::es) X.env=(false,eval e X.env)::starEach es X.env:=by rfl) (hpl:(backTo pos (starEach es X.env)).any (·.1)=false:=by rfl) :
  PE X (.Call (.Name name p) (e::es) [] pos) (Zm7 sp [] E0 t):=by
 obtain⟨f,fd,F,b,m,kp⟩:=G.ex;exact ZiZ F hr hg m kp b .nil Zqm ha hdb he hpl
inductive TyB (H:Hp):V->String->Prop where
 | non:TyB H .non "NoneType"
 | bl (b:Bool):TyB H (.bl b) "bool"
 | int (i:Int):TyB H (.int i) "int"
 | str (x:Str):TyB H (.str x) "str"
 | lst {a:Addr} {xs:List V} (e:H a=some (.lst xs)):TyB H (.ref a) "list"
 | tup {a:Addr} {xs:List V} (e:H a=some (.tup xs)):TyB H (.ref a) "tuple"
 | dK {a:Addr} {kvs:List (Key×V)} (e:H a=some (.dK kvs)):TyB H (.ref a) "dict"
theorem TyB.of {K:PySem.W.Frag} {x:V} {n:String} (h:TyB H x n):ZgK K H x (.type n):=by
 cases h with
 | non=>exact .non
 | bl b=>exact .bl b
 | int i=>exact .int i
 | str x=>exact .str x
 | lst e=>exact .lst e
 | tup e=>exact .tup e
 | dK e=>exact .dK e
def ZbH:List String:=["NoneType","bool","int","str","list","tuple","dict"]
theorem TyB.mem {x:V} {n:String} (h:TyB H x n):n∈ZbH:=by
 cases h <;> simp[ZbH]
def Zpr (n c:String):Bool:=n==c || (n == "bool" && c == "int")
def Zka:List String:=["int","bool","str","tuple","list"]
def Zrh (a b:String):Option Bool:=if (Value.type a==Value.type b)=true then some true else if PySem.W.kitMeta b=true then (fastBuiltinMro a).map (·.contains (Value.type b))else none
theorem ZnW:∀ n∈ZbH,∀ c∈Zka,Zrh n c=some (Zpr n c):=by decide +kernel
theorem Xw:CallR X (.builtin "isinstance") (fun xs H Q=>∃ (x:V) (c n:String),xs=[x,.ty c]/\c∈Zka/\TyB H x n/\Q (.bl (Zpr n c)) H):=by
 intro pins s σ H xs us Q I r h;obtain⟨x,c,n,rfl,hc,ty,q⟩:=h;exact ZlJ pins s σ H _ us Q I r ⟨x,.ty c,_,_,_,rfl,ty.of,rfl,ZnW n ty.mem c hc,q⟩
theorem Zcz:∀ n∈ZbH,(Zpr n "int" = true->(!Zpr n "bool")=(n == "int"))/\(¬ Zpr n "int" = true->(n == "int")=false):=by decide
theorem Zki:bootBuiltins "isinstance" = some (.builtin "isinstance"):=by decide +kernel
theorem ZV:bootBuiltins "len" = some (.builtin "len"):=by decide +kernel
theorem ZlL:bootBuiltins "sum" = some (.builtin "sum"):=by decide +kernel
theorem ZpI:bootBuiltins "min" = some (.builtin "min"):=by decide +kernel
theorem ZqG:bootBuiltins "max" = some (.builtin "max"):=by decide +kernel
theorem Yq:bootBuiltins "sorted" = some (.builtin "sorted"):=by decide +kernel
theorem ZpJ:bootBuiltins "int" = some (.type "int"):=by decide +kernel
theorem ZmJ:bootBuiltins "bool" = some (.type "bool"):=by decide +kernel
theorem ZqF:bootBuiltins "str" = some (.type "str"):=by decide +kernel
theorem YN:bootBuiltins "tuple" = some (.type "tuple"):=by decide +kernel
theorem ZbE:bootBuiltins "list" = some (.type "list"):=by decide +kernel
theorem ZpL:bootBuiltins "dict" = some (.type "dict"):=by decide +kernel
theorem ZiW {c:String} (hg:Gl X x) (hm:X.mg x=none) (hv:bootBuiltins x=some (.type c)) (hn:x≠"__name__":=by decide) (hd:(x==("__debug__" : Str))=false:=by decide):PE X (.Name x pos) (tC (.ty c)) :=
 Znv hg hm hv (show RelV (.ty c) (.type c)from rfl) hn hd
theorem Z0 {X:Cx} {xs:List Str} {scope:Scope} {cl:List (Str×Addr)} {C:Addr} {s₀:Shared} {H₀:Hp} {fp:List Addr} (i:Nat) {pos:Pos} (nd:(lcN N xs mp).Nodup:=by decide +kernel) (hi:(lcN N xs mp)[i]?=some x:=by rfl)
  (hx:(lcx X (lcN N xs mp) scope cl C s₀ H₀ fp).env.scope.names.lookup x=some .local:=by rfl):PG (lcx X (lcN N xs mp) scope cl C s₀ H₀ fp) (.Name x pos) (J0 i):=ZB nd hi (.inl hx) (.inr hx)
def tx (l:List Nat):Str:=⟨l.toArray⟩
theorem ZN (l:List Nat):(tx l).cps.toList=l:=by simp[tx]
theorem Zw (l:List Nat):(tx l).length=l.length:=by simp[tx,Str.length]
theorem tx_eta (x:Str):tx x.cps.toList=x:=by simp[tx]
theorem Zoy {a b:List Nat} (h:tx a=tx b):a=b:=by
 have:=congrArg (fun x:Str=>x.cps.toList) h;simpa[tx]using this
theorem ZbF {vs:List V} {f:Nat->V} (hl:vs.length=n) (hr:∀ i v,vs[i]?=some v->v=f i):vs=(Qx n).map f:=by
 apply QT;intro i;rw[Qd];by_cases h:i<n
 ·rw[QM h,Wj,Qa (by omega)];exact congrArg some (hr i _ (Qa (by omega)))
 ·rw[Qo (by omega),Qo (by simpa using h)];rfl
theorem Zam (K:PySem.W.Frag) (h:X.K=K:=by rfl):IxR X (ZqT K):=by subst h;exact ZO
theorem Zv (h:n<=16777216):n<=sizeLine:=by rw[sizeLine_eq];exact h
open PySem PySem.Spec PyProof.Rows PySem.Builtin.Str
section
variable {X:Cx}
theorem Z5 {es:List Expr} {t:TGs} (n:Nat) (K:PySem.W.Frag) (hc:X.calm=true) (h:PGs X es t) (hK:X.K=K:=by rfl)
  (hn:(assignEach es X.env).length=n:=by rfl) (hst:(assignEach es X.env).findIdx? (·.1)=none:=by rfl):PG X (.Tuple es k pos) (ZqA K n t):=by
 subst hK;exact ZoT hc h hn hst
end
theorem ZD (x:Str):x.cps.toList.length=x.length:=by simp[Str.length]
theorem Za2 {n:Int} (h:0<=n):(Txt.slice x none (some n)).cps.toList=x.cps.toList.take n.toNat:=by
 by_cases c:n<=x.length
 ·have e:=eq_of_beq (slice_closes_toL (x:=x) h c);rw[e];simp
 ·have e1:=slice_to_beyond (x:=x) (j:=n) (by omega);have e2:=eq_of_beq (slice_closes_toL (x:=x) (j:=x.length) (by omega) (UV _));rw[e1,e2,QJ (l:=x.cps.toList) (i:=n.toNat) (by rw[ZD];omega)];simp[Str.length];exact QJ (by simp)
theorem Xh {i j:Int} (h0:0<=i) (h1:i<=j) (h2:j<=x.length):(Txt.slice x (some i) (some j)).cps.toList=(x.cps.toList.drop i.toNat).take (j-i).toNat:=by
 have e:=eq_of_beq (slice_closesL (x:=x) h0 h1 h2);rw[e]
theorem ZeX {ns:List Int} {i:Int} (h0:0<=i) (h1:i<ns.length):atI (ns.map V.int) i=some (.int (ns.getD i.toNat 0)):=by
 obtain⟨j,rfl⟩:=RN h0;refine Zfe ?_;have hj:j<ns.length:=by omega
 rw[Qd,Qa hj,Wn,Qb,Qa hj];rfl
theorem Y9 {α:Type} {l:List α} {i:Int} {c:α} (h0:0<=i) (h:l[i.toNat]?=some c):atI l i=some c:=by
 obtain⟨j,rfl⟩:=RN h0;exact Zfe h
def Zq8 (t u:TS):TS:=fun D σ H=>∃ W:St->Hp->Prop,t {D with nx:=W} σ H/\∀ σ' H',W σ' H'->u D σ' H'
theorem ZiO {rest:List Stmt} {t u:TS} (h1:PS X st t) (h2:PSs X rest u):PSs X (st::rest) (Zq8 t u):=by
 intro pins s σ H D I h;obtain⟨W,hW,k⟩:=h;refine wpAny_execs_cons (thn (h1 pins s σ H {D with nx:=W} I hW) fun f s1 q=>?_);cases f with
 | next =>
  obtain⟨σ',H',I',q⟩:=q;exact h2 pins s1 σ' H' D I' (k σ' H' q)
 | ret v=>exact q
 | brk=>exact q
 | cont=>exact q
theorem Zmb {d:Nat} (h:i<=n):HT.sIx n d (some (i:Int))=i:=by
 unfold HT.sIx;simp only;rw[if_neg (by omega)];simp;omega
theorem cut_to (h:i<=xs.length):Ze9 xs none (some (i:Int))=xs.take i:=by
 have e1:HT.sIx xs.length 0 none=0:=rfl;unfold Ze9;rw[e1,Zmb h];simp
theorem cut_from (h:i<=xs.length):Ze9 xs (some (i:Int)) none=xs.drop i:=by
 have e1:HT.sIx xs.length xs.length none=xs.length:=rfl;unfold Ze9;rw[e1,Zmb h];exact QJ (by rw[QV];omega)
end L2
namespace Srt
open PySem PySem.W PyProof.Rows
section
variable {n:Nat} {lt:Nat->Nat->Bool} {cmp:Nat->Nat->(Bool->Shared->Prop)->Shared->Prop} {G:Shared->Prop}
structure Ord (n:Nat) (lt:Nat->Nat->Bool):Prop where
 tr:∀ i j k,lt i j=true->lt j k=true->lt i k=true
 asy:∀ i j,lt i j=true->lt j i=false
 tot:∀ i j,i<n->j<n->i≠j->lt i j=true\/lt j i=true
structure Pm (n:Nat) (p:Array Nat):Prop where
 size:p.size=n
 perm:p.Perm (Qx n).toArray
theorem Pm.below (h:Pm n p) {a:Nat} (ha:a<n):p.getD a 0<n:=by
 have hs:a<p.size:=by rw[h.size];exact ha
 have hm:p[a]∈p:=Array.getElem_mem hs;have:p[a]∈(Qx n).toArray:=h.perm.mem_iff.mp hm;rw[QZ,QX hs];simpa using this
theorem Pm.ne (h:Pm n p) {a b:Nat} (ha:a<n) (hb:b<n) (hab:a≠b):p.getD a 0≠p.getD b 0:=by
 have hs:a<p.size:=by rw[h.size];exact ha
 have hs2:b<p.size:=by rw[h.size];exact hb
 have nd:p.toList.Nodup:=by
  have:=(UR.mp h.perm)
  exact this.nodup_iff.mpr (by simpa using List.nodup_range)
 rw[QZ,QX hs,QZ,QX hs2];intro e;have:=(WX (h₀:=by simpa using hs) (h₁:=by simpa using hs2) nd).mp (by simpa using e);exact hab this
def Up (lt:Nat->Nat->Bool) (p:Array Nat) (m:Nat):Prop:=∀ a b,a<b->b<m->lt (p.getD a 0) (p.getD b 0)=true
def Dn (lt:Nat->Nat->Bool) (p:Array Nat) (m:Nat):Prop:=∀ a b,a<b->b<m->lt (p.getD b 0) (p.getD a 0)=true
theorem Up.more (o:Ord n lt) {p:Array Nat} {m:Nat} (h:Up lt p m) (h1:1<=m) (hl:lt (p.getD (m-1) 0) (p.getD m 0)=true):Up lt p (m+1):=fun a b hab hb=>by
 by_cases e:b=m
 ·subst e;by_cases e2:a=b-1
  ·rw[e2];exact hl
  ·exact o.tr _ _ _ (h a (b-1) (by omega) (by omega)) hl
 ·exact h a b hab (by omega)
theorem Dn.more (o:Ord n lt) {p:Array Nat} {m:Nat} (h:Dn lt p m) (h1:1<=m) (hl:lt (p.getD m 0) (p.getD (m-1) 0)=true):Dn lt p (m+1):=fun a b hab hb=>by
 by_cases e:b=m
 ·subst e;by_cases e2:a=b-1
  ·rw[e2];exact hl
  ·exact o.tr _ _ _ hl (h a (b-1) (by omega) (by omega))
 ·exact h a b hab (by omega)
theorem Znw (o:Ord n lt) {p:Array Nat} (hp:Pm n p) {a b:Nat} (ha:a<n) (hb:b<n) (hab:a≠b) (h:¬ lt (p.getD a 0) (p.getD b 0)=true):lt (p.getD b 0) (p.getD a 0)=true:=by
 rcases o.tot _ _ (hp.below ha) (hp.below hb) (hp.ne ha hb hab)with z | z
 ·exact absurd z h
 ·exact z
variable (o:Ord n lt) (hc:∀ i j C s,i<n->j<n->i≠j->G s->(∀ s',G s'->C (lt i j) s')->cmp i j C s)
include o hc
theorem asc {p:Array Nat} (hp:Pm n p) {Q:Nat->Shared->Prop}:∀ (f m:Nat) (s:Shared),1<=m->m+f<=n->Up lt p m->G s ->
  (∀ k s',m<=k->k<=m+f->Up lt p k->(k=m+f\/lt (p.getD k 0) (p.getD (k-1) 0)=true)->G s'->Q k s')->(kas_asc p f m).kasWp cmp Q s
 | 0,m,s,h1,h2,hu,g,k=>k m s (Qk _) (Qk _) hu (.inl rfl) g
 | f+1,m,s,h1,h2,hu,g,k=>by
  refine hc _ _ _ s (hp.below (by omega)) (hp.below (by omega)) (hp.ne (by omega) (by omega) (by omega)) g fun s' g'=>?_;by_cases c:lt (p.getD m 0) (p.getD (m-1) 0)=true
  ·dsimp only;rw[if_pos c];exact k m s' (Qk _) (by omega) hu (.inr c) g'
  ·dsimp only;rw[if_neg c];have c':=Znw o hp (by omega) (by omega) (by omega) c;exact asc hp f (m+1) s' (by omega) (by omega) (hu.more o h1 c') g' fun j s'' a1 a2 a3 a4 a5=>k j s'' (by omega) (by omega) a3 (by rcases a4 with z | z;exact .inl (by omega);exact .inr z) a5
theorem ZqY {p:Array Nat} (hp:Pm n p) {Q:Array Nat×Nat×Nat->Shared->Prop}:∀ (f m:Nat) (s:Shared),1<=m->m+f<=n->Dn lt p m->G s ->
  (∀ k s',m<=k->k<=m+f->Dn lt p k->G s'->Q (p,k,0) s')->(kas_desc f p m 0).kasWp cmp Q s
 | 0,m,s,h1,h2,hu,g,k=>k m s (Qk _) (Qk _) hu g
 | f+1,m,s,h1,h2,hu,g,k=>by
  refine hc _ _ _ s (hp.below (by omega)) (hp.below (by omega)) (hp.ne (by omega) (by omega) (by omega)) g fun s' g'=>?_;by_cases c:lt (p.getD m 0) (p.getD (m-1) 0)=true
  ·dsimp only;rw[if_pos c,if_neg (by omega)];exact ZqY hp f (m+1) s' (by omega) (by omega) (hu.more o h1 c) g' fun j s'' a1 a2 a3 a4=>k j s'' (by omega) (by omega) a3 a4
  ·dsimp only;rw[if_neg c];have c':=Znw o hp (by omega) (by omega) (by omega) c;refine hc _ _ _ s' (hp.below (by omega)) (hp.below (by omega)) (hp.ne (by omega) (by omega) (by omega)) g' fun s'' g''=>?_;dsimp only;rw[if_pos c'];exact k m s'' (Qk _) (by omega) hu g''
omit o hc in
theorem Zmd {p:Array Nat} {m k:Nat} (hm:m<=p.size) (hk:k<m):(kas_rev p 0 m).getD k 0=p.getD (m-1-k) 0:=by
 unfold kas_rev;rw[QZ,getElem?_mirror_all hm,if_pos (by omega),QZ];congr 2;omega
omit o hc in
theorem Zmc {p:Array Nat} (hp:Pm n p) (m:Nat):Pm n (kas_rev p 0 m):=⟨by unfold kas_rev;rw[mirror_size,hp.size],(mirror_perm _ _ _ _).trans hp.perm⟩
theorem Zp3 {p:Array Nat} (hp:Pm n p) {Q:Nat×Array Nat->Shared->Prop} {m:Nat} {s:Shared} (h1:1<=m) (h2:m<=n) (hd:Dn lt p m) (g:G s)
  (k:∀ j p' s',1<=j->j<=n->Pm n p'->Up lt p' j->G s'->Q (j,p') s'):(kas_tail3 m n p).kasWp cmp Q s:=by
 unfold kas_tail3;rw[KasT.kasWp_bind];have hu:Up lt (kas_rev p 0 m) m:=fun a b hab hb=>by
  rw[Zmd (by rw[hp.size];exact h2) (by omega),Zmd (by rw[hp.size];exact h2) hb];exact hd _ _ (by omega) (by omega)
 exact asc o hc (Zmc hp m) _ m s h1 (by omega) hu g fun j s' a1 a2 a3 _ a5=>k j _ s' (by omega) (by omega) (Zmc hp m) a3 a5
theorem count {p:Array Nat} (hp:Pm n p) {Q:Nat×Array Nat->Shared->Prop} {s:Shared} (h1:1<=n) (g:G s)
  (k:∀ j p' s',1<=j->j<=n->Pm n p'->Up lt p' j->G s'->Q (j,p') s'):(kas_count n p).kasWp cmp Q s:=by
 unfold kas_count;rw[KasT.kasWp_bind];refine asc o hc hp (n-1) 1 s (Qk _) (by omega) (fun a b _ _=>by omega) g fun m s' a1 a2 a3 a4 a5=>?_;by_cases e:m=n
 ·rw[if_pos (by simp[e])];exact k m p s' a1 (by omega) hp a3 a5
 ·rw[if_neg (by simp[e])];by_cases e1:m>1
  ·rw[if_pos e1];refine hc _ _ _ s' (hp.below (by omega)) (hp.below (by omega)) (hp.ne (by omega) (by omega) (by omega)) a5 fun s'' g''=>?_;dsimp only;rw[if_pos (a3 0 (m-1) (by omega) (by omega))];exact k m p s'' a1 (by omega) hp a3 g''
  ·rw[if_neg e1];have em:m=1:=by omega
   subst em;have hl:lt (p.getD 1 0) (p.getD 0 0)=true:=by
    rcases a4 with z | z
    ·omega
    ·exact z
   unfold kas_descPart;rw[KasT.kasWp_bind];refine ZqY o hc hp (n-2) 2 s' (by omega) (by omega) (fun a b hab hb=>?_) a5 fun j s'' b1 b2 b3 b4=>?_
   ·have ea:a=0:=by omega
    have eb:b=1:=by omega
    rw[ea,eb];exact hl
   ·rw[if_neg (show ¬ ((p,j,0):Array Nat×Nat×Nat).2.2>0 from by simp)];exact Zp3 o hc hp (by show 1<=j;omega) (by show j<=n;omega) b3 b4 k
theorem place {p:Array Nat} (hp:Pm n p) {k:Nat} (hk:k<n) {Q:Nat->Shared->Prop}:∀ (f l r:Nat) (s:Shared),l<=r->r<=k->r-l<=f->G s ->
  (∀ a,a<l->lt (p.getD a 0) (p.getD k 0)=true)->(∀ a,r<=a->a<k->lt (p.getD k 0) (p.getD a 0)=true)->Up lt p k ->
  (∀ l s',l<=k->(∀ a,a<l->lt (p.getD a 0) (p.getD k 0)=true)->(∀ a,l<=a->a<k->lt (p.getD k 0) (p.getD a 0)=true)->G s'->Q l s')->(kas_place p k f l r).kasWp cmp Q s
 | 0,l,r,s,h1,h2,h3,g,b1,b2,hu,q=>q l s (by omega) b1 (fun a h=>b2 a (by omega)) g
 | f+1,l,r,s,h1,h2,h3,g,b1,b2,hu,q=>by
  unfold kas_place;by_cases e:l≥r
  ·rw[if_pos e];exact q l s (by omega) b1 (fun a h=>b2 a (by omega)) g
  ·rw[if_neg e];refine hc _ _ _ s (hp.below (by omega)) (hp.below (by omega)) (hp.ne (by omega) (by omega) (by omega)) g fun s' g'=>?_;by_cases c:lt (p.getD k 0) (p.getD ((l+r) / 2) 0)=true
   ·dsimp only;rw[if_pos c];refine place hp hk f l ((l+r) / 2) s' (by omega) (by omega) (by omega) g' b1 (fun a h1 h2=>?_) hu q;by_cases ea:a=(l+r) / 2
    ·rw[ea];exact c
    ·exact o.tr _ _ _ c (hu _ _ (by omega) h2)
   ·dsimp only;rw[if_neg c];have c':=Znw o hp (by omega) (by omega) (by omega) c;refine place hp hk f ((l+r) / 2+1) r s' (by omega) (by omega) (by omega) g' (fun a h1=>?_) b2 hu q;by_cases ea:a=(l+r) / 2
    ·rw[ea];exact c'
    ·exact o.tr _ _ _ (hu _ _ (by omega) (by omega)) c'
theorem bin {Q:Array Nat->Shared->Prop} (hQ:∀ p s',Pm n p->Up lt p n->G s'->Q p s'):∀ (f:Nat) (p:Array Nat) (k:Nat) (s:Shared),k+f=n->Pm n p->Up lt p k->G s->(kas_bin f p k).kasWp cmp Q s
 | 0,p,k,s,h,hp,hu,g=>hQ p s hp ((show k=n from h)▸hu) g
 | f+1,p,k,s,h,hp,hu,g=>by
  unfold kas_bin;rw[KasT.kasWp_bind];refine place o hc hp (by omega) k 0 k s (QO _) (Qk _) (by omega) g (fun a h=>by omega) (fun a h1 h2=>by omega) hu fun l s' hl b1 b2 g'=>?_;have hs:k<p.size:=by rw[hp.size];omega
  have at':∀ j,(bubble p k (k-l)).getD j 0=if j=l then p.getD k 0 else if l<j/\j<=k then p.getD (j-1) 0 else p.getD j 0:=fun j=>by
   simp only[QZ];rw[getElem?_bubble hs (k-l) (by omega) j,show k-(k-l)=l by omega];by_cases q1:j=l
   ·rw[if_pos q1,if_pos q1]
   ·rw[if_neg q1,if_neg q1];by_cases q2:l<j/\j<=k
    ·rw[if_pos q2,if_pos q2]
    ·rw[if_neg q2,if_neg q2]
  refine bin hQ f _ (k+1) s' (by omega) ⟨by rw[bubble_size,hp.size],(bubble_perm _ _ _).trans hp.perm⟩ (fun a b hab hb=>?_) g';rw[at',at'];by_cases e1:a=l
  ·rw[if_pos e1,if_neg (by omega),if_pos (by omega)];exact b2 _ (by omega) (by omega)
  ·rw[if_neg e1];by_cases e2:l<a/\a<=k
   ·rw[if_pos e2,if_neg (by omega),if_pos (by omega)];exact hu _ _ (by omega) (by omega)
   ·rw[if_neg e2];by_cases e3:b=l
    ·rw[if_pos e3];exact b1 _ (by omega)
    ·rw[if_neg e3];by_cases e4:l<b/\b<=k
     ·rw[if_pos e4];by_cases e5:a=b-1
      ·exact absurd e5 (by omega)
      ·exact hu _ _ (by omega) (by omega)
     ·rw[if_neg e4];exact hu _ _ hab (by omega)
theorem sort {Q:Array Nat->Shared->Prop} {s:Shared} (h1:1<=n) (g:G s) (hQ:∀ p s',Pm n p->Up lt p n->G s'->Q p s'):(kas_sort n).kasWp cmp Q s:=by
 unfold kas_sort;rw[KasT.kasWp_bind];refine count o hc ⟨by simp,Array.Perm.refl _⟩ h1 g fun j p' s' a1 a2 a3 a4 a5=>?_;by_cases e:j<n
 ·dsimp only;rw[if_pos e,Nat.max_eq_left a1];exact bin o hc hQ _ p' j s' (by omega) a3 a4 a5
 ·dsimp only;rw[if_neg e];exact hQ p' s' a3 ((show j=n by omega)▸a4) a5
end
end Srt
namespace L2
open PySem PySem.Spec PyProof.Rows PySem.W
variable {C a:Addr} {H:Hp} {X:Cx} {h:Heap} {k:Nat} {name x:Str} {pos:Pos} {ps:List Str} {sp:Sp} {st:Stmt}
def ZqH (h:Heap) (v:Value) (x:Str):Prop:=∃ a t y,v= .ref a/\h.get? a=some {cls:=.type "tuple",data:=.seq #[.str x t,y]}
def ltX (xs:List Str) (i j:Nat):Bool:=decide ((xs.getD i "").cps.toList<(xs.getD j "").cps.toList)
theorem YE {xs:List Str} {i:Nat} (h:i<xs.length):xs.getD i "" = xs[i]:=by
 rw[Qb,Qa h];rfl
theorem ZeY {xs:List Str} (nd:xs.Nodup):Srt.Ord xs.length (ltX xs) where
 tr:=fun i j k h1 h2=>by
  unfold ltX at *;rw[decide_eq_true_eq]at *;exact U7 h1 h2
 asy:=fun i j h1=>by
  unfold ltX at *;rw[decide_eq_true_eq]at h1;exact decide_eq_false (Ve h1)
 tot:=fun i j hi hj hij=>by
  unfold ltX;rw[YE hi,YE hj,decide_eq_true_eq,decide_eq_true_eq];by_cases q:xs[i].cps.toList<xs[j].cps.toList
  ·exact .inl q
  ·by_cases q2:xs[j].cps.toList<xs[i].cps.toList
   ·exact .inr q2
   ·have e:=Ra (WP.mp q2) (WP.mp q);have e2:xs[i]=xs[j]:=by rw[←tx_eta xs[i],←tx_eta xs[j],e]
    exact absurd ((WX nd).mp e2) hij
theorem Zbt {h:Heap}:∀ {vs:List Value} {xs:List Str},xs.length=vs.length->(∀ (i:Nat) (v:Value) (x:Str),vs[i]?=some v->xs[i]?=some x->ZqH h v x)->∃ fs,KatTups h vs fs/\fs.length=vs.length/\∀ f∈fs,∃ x t,f= .str x t
 | [],[],_,_=>⟨[],trivial,rfl,fun f hf=>nomatch hf⟩
 | [],_::_,h,_=>by cases h
 | _::_,[],h,_=>by cases h
 | v::vs,x::xs,hl,hv=>by
  obtain⟨a,t,y,rfl,ha⟩:=hv 0 v x rfl rfl;obtain⟨fs,k,l,q⟩:=Zbt (vs:=vs) (xs:=xs) (by simpa using hl) fun i v x e1 e2=>hv (i+1) v x e1 e2;refine⟨.str x t::fs,KatTups.cons ha rfl rfl rfl k,by simp[l],fun f hf=>?_⟩;rcases QA.mp hf with z | z
  ·exact⟨x,t,z⟩
  ·exact q f z
section
variable {prog:Program} {w:World} {A:Around} {E:Value->Shared->Prop} {s:Shared}
theorem Zhd {vs:List Value} {xs:List Str} {n:Nat} {P:PySem.Fin->Shared->Prop} (ho:s.heap.get? a=some (seqObj "list" vs.toArray n)) (h64:vs.length<64) (hl:xs.length=vs.length) (nd:xs.Nodup)
  (hv:∀ (i:Nat) (v:Value) (x:Str),vs[i]?=some v->xs[i]?=some x->ZqH s.heap v x)
  (h:∀ (h1:Heap) (tk c:Nat) (p:Array Nat),Srt.Pm xs.length p->Srt.Up (ltX xs) p xs.length->(∀ b o,b≠a->s.heap.get? b=some o->h1.get? b=some o) ->
   h1.get? a=some (seqObj "list" (p.toList.map fun i=>vs.getD i Value.none).toArray c)->P (.done (.ret .none)) {s with heap:=h1,toks:=tk}) :
  wpAny (model prog w) A (Builtin.«list.sort» ⟨[.ref a],[]⟩) P E s:=by
 have ha:a<s.heap.objs.size:=Qs ho;have hz:vs.length<=sizeLine:=by rw[sizeLine_eq];omega
 rw[list_sort_plain];refine wpAny_bind (listItems_at ho rfl (wpAny_bind (listUpdate_at ho rfl ?_ (by rw[Qr];exact hz) (QO _))));obtain⟨e1,ho1⟩:∃ e1,(s.heap.update a (Obj.mapSeq fun _=>(#[]:Array Value))).get? a=some (seqObj "list" #[] e1):=⟨_,get?_update_seq ho fun _=>#[]⟩
 have k1:∀ b o,b≠a->s.heap.get? b=some o->(s.heap.update a (Obj.mapSeq fun _=>(#[]:Array Value))).get? b=some o:=fun b o hb q=>(QN _ _ (Ne.symm hb)).trans q;refine wpAny_bind (seqEpoch_at ho1 rfl (wpAny_bind (wpAny_newTuple ?_ (by show vs.length<=_;exact hz))));refine wpAny_bind (wpAny_newList ?_ (QO _));refine wpAny_holding ?_;generalize hg:((s.heap.update a (Obj.mapSeq fun _=>(#[]:Array Value))).push {cls:=.type "tuple",data:=.seq vs.toArray.toList.toArray}).push {cls:=.type "list",data:=.seq ([]:List Value).toArray}=h6;have k6:∀ b o,b≠a->s.heap.get? b=some o->h6.get? b=some o:=fun b o hb q=>by
  rw[←hg];exact Qg _ (Qg _ (k1 b o hb q))
 have ho6:h6.get? a=some (seqObj "list" #[] e1):=by
  rw[←hg];exact Qg _ (Qg _ ho1)
 have hv6:∀ (i:Nat) (v:Value) (x:Str),vs[i]?=some v->xs[i]?=some x->ZqH h6 v x:=fun i v x q1 q2=>by
  obtain⟨b,t,y,rfl,hb⟩:=hv i v x q1 q2;exact⟨b,t,y,rfl,k6 b _ (fun z=>by rw[z,ho]at hb;injection hb with hb;exact absurd (congrArg Obj.cls hb) (by unfold seqObj;simp)) hb⟩
 show wpAny (model prog w) A _ P E {s with heap:=h6};dsimp only
 -- the end: the items are put back
 have fin:∀ (tk:Nat) (p:Array Nat) (out:Array Value),Srt.Pm xs.length p->Srt.Up (ltX xs) p xs.length->out=(p.toList.map fun i=>vs.getD i Value.none).toArray ->
   ∃ c,(h6.update a (Obj.mapSeq fun _=>out)).get? a=some (seqObj "list" out c)/\out.size<=sizeLine/\P (.done (.ret .none)) {s with heap:=h6.update a (Obj.mapSeq fun _=>out),toks:=tk}:=fun tk p out hp hu ho'=>by
  have hc:=get?_update_seq ho6 fun _=>out;refine⟨_,hc,?_,h _ tk _ p hp hu (fun b o hb q=>(QN _ _ (Ne.symm hb)).trans (k6 b o hb q)) (by rw[←ho'];exact hc)⟩;rw[ho',Qr,Qc,QG,hp.size,hl];exact hz
 by_cases h2:vs.toArray.size<2
 ·rw[if_pos h2,if_pos h2];rw[Qr]at h2;have hr:vs.toArray=((Qx xs.length).toArray.toList.map fun i=>vs.getD i Value.none).toArray:=by
   congr 1;apply QT;intro i;simp only[Qd];by_cases hi:i<vs.length
   ·rw[Qa hi,QM (by omega),Wj,Qb,Qa hi];rfl
   ·rw[Qo (by omega),Qo (by simp;omega)];rfl
  obtain⟨c,f1,f2,f3⟩:=fin s.toks (Qx xs.length).toArray vs.toArray ⟨by simp,Array.Perm.refl _⟩ (fun a b hab hb=>by omega) hr;refine wpAny_bind (wpAny_pure ?_);rw[StateT.run_pure];refine wpAny_bind (wpAny_pure ?_);have eo:(arrOf (SortSt.mk' general' (vs.toArray.zip vs.toArray) #[] 7 none)).map (·.2)=vs.toArray:=by
   show(vs.toArray.zip vs.toArray).map (·.2)=vs.toArray;apply Rb.mp;simp;exact Rc (Qk _)
  dsimp only;rw[eo];refine wpAny_bind (seqEpoch_at ho6 rfl (wpAny_bind (listUpdate_at ho6 rfl ?_ (QO _) (WU f2))));simp only[bne_self_eq_false,Ws,if_false];exact wpAny_pure f3
 ·rw[if_neg h2,if_neg h2];rw[Qr]at h2;obtain⟨fs,kt,lf,hf⟩:=Zbt hl hv6;refine wpAny_bind (kat_kind (T:=.type "str") kt (by omega) (fun f m=>?_) (by decide) ?_)
  ·obtain⟨x,t,rfl⟩:=hf f m;exact Looks.of_pure rfl
  refine wpAny_bind (wpAny_mono (kat_run (κ:=tuples' ((Value.type "str") != Value.type "tuple")) (ks:=vs) (vs:=vs) (G:=fun p s'=>(∃ tk,s'={s with heap:=h6,toks:=tk})/\Srt.Pm xs.length p/\Srt.Up (ltX xs) p xs.length)
   (Q:=fun st' s'=>∃ p:Array Nat,arrOf st'=p.map (kas_item (vs.toArray.zip vs.toArray))/\failedOf st'=none/\(∃ tk,s'={s with heap:=h6,toks:=tk})/\Srt.Pm xs.length p/\Srt.Up (ltX xs) p xs.length)
   rfl (by omega) h64 (fun p st' s' _ a2 a3 a4=>⟨p,a2,a3,a4⟩) ?_) ?_ fun _ _ e=>e)
  ·rw[←hl];refine Srt.sort (G:=fun s'=>∃ tk,s'={s with heap:=h6,toks:=tk}) (ZeY nd) (fun i j C s' hi hj hij g k=>?_) (by omega) ⟨s.toks,rfl⟩ fun p s' hp hu g=>⟨g,hp,hu⟩
   obtain⟨tk,rfl⟩:=g;have hi':i<vs.length:=by omega
   have hj':j<vs.length:=by omega
   obtain⟨b1,t1,y1,e1,g1⟩:=hv6 i vs[i] xs[i] (Qa hi') (Qa hi);obtain⟨b2,t2,y2,e2,g2⟩:=hv6 j vs[j] xs[j] (Qa hj') (Qa hj);have n1:vs.getD i Value.none= .ref b1:=by rw[Qb,Qa hi'];exact e1
   have n2:vs.getD j Value.none= .ref b2:=by rw[Qb,Qa hj'];exact e2
   have hne:¬ xs[i]=xs[j]:=fun z=>hij ((WX nd).mp z);show wpAny (model prog w) A (keyLt' _ (vs.getD i Value.none) (vs.getD j Value.none)) C (fun _ _=>False) {s with heap:=h6,toks:=tk};rw[n1,n2];refine kat_lt (s:={s with heap:=h6,toks:=tk}) g1 rfl g2 rfl (kat_cons (wpAny_eqBool_str ?_));rw[decide_eq_false hne];refine kat_no ?_;refine kas_lt_str ?_;have el:decide (xs[i].cps.toList<xs[j].cps.toList)=ltX xs i j:=by
    unfold ltX;rw[YE hi,YE hj]
   rw[el];exact k _ ⟨tk,rfl⟩
  ·rintro⟨⟨⟩,st'⟩ s' ⟨p,har,hf',⟨tk,rfl⟩,hp,hu⟩;obtain⟨c,f1,f2,f3⟩:=fin tk p _ hp hu rfl;dsimp only;rw[kat_snds rfl har];refine wpAny_bind (seqEpoch_at (s:={s with heap:=h6,toks:=tk}) ho6 rfl (wpAny_bind (listUpdate_at (s:={s with heap:=h6,toks:=tk}) ho6 rfl ?_ (QO _) (WU f2))));rw[hf'];simp only[bne_self_eq_false,Ws,if_false];exact wpAny_pure f3
end
theorem ObjOk.there' {P:Program} {w:World} {o:HO} (x:ObjOk P w H h a o):∃ u,h.get? a=some u:=by
 cases o with
 | lst xs=>obtain⟨_,_,_,_,e⟩:=x;exact⟨_,e⟩
 | tup xs=>obtain⟨_,_,_,⟨_,e,_⟩,_⟩:=x;exact⟨_,e⟩
 | dK kvs=>obtain⟨_,_,_,_,o,_,_,e,_⟩:=x;exact⟨_,e⟩
 | dT kvs=>obtain⟨_,_,_,_,o,_,_,e,_⟩:=x;exact⟨_,e⟩
 | set S n=>obtain⟨o,_,_,_,e,_⟩:=x;exact⟨_,e⟩
 | ins C dx fs=>obtain⟨_,_,_,e,_⟩:=x;exact⟨_,e⟩
 | own y=>exact x
 | xd fs=>obtain⟨_,⟨_,_,_,e,_⟩,_⟩:=x;exact⟨_,e⟩
 | rng lo hi=>obtain⟨_,_,_,e⟩:=x;exact⟨_,e⟩
 | frz ob u=>obtain⟨e,_⟩:=x;exact⟨_,e⟩
 | tbl ps=>exact⟨_,show h.get? a=some _ from x⟩
 | met f y=>exact⟨_,show h.get? a=some _ from x⟩
 | ext φ=>obtain⟨_,e,_⟩:=x;exact e
section
variable {X:Cx} {pins:List (Addr×Obj)} {σ:St} {H:Hp} {s:Shared}
theorem Inv.laidN {N:Addr->Option HO} {h1:Heap} {tk:Nat} (I:Inv X pins σ H s) (k:∀ b u,s.heap.get? b=some u->h1.get? b=some u) (hN:∀ a o,N a=some o->s.heap.get? a=none/\∀ H2,ObjOk X.prog X.w H2 h1 a o) :
  Inv X pins σ (fun b=>(N b).or (H b)) {s with heap:=h1,toks:=tk}:=by
 have low:∀ b u,s.heap.get? b=some u->N b=none:=fun b u hb=>by
  cases q:N b with
  | none=>rfl
  | some o=>rw[(hN b o q).1]at hb;cases hb
 have old:∀ b u,H b=some u->(N b).or (H b)=some u:=fun b u q=>by
  obtain⟨v,hv⟩:=(I.hok b u q).there';rw[low b v hv,U0];exact q
 refine I.un ⟨fun b o q _ _ _=>k b o q,fun b o q _ _ _=>⟨o.slots,k b o q⟩,fun b o q n _=>?_,fun b o q _=>⟨o,k b o q⟩,fun b xs q=>old b _ q,fun b o u q=>old b _ q,fun b ps q=>⟨#[],by rw[old b _ q];simp⟩⟩ fun a o q=>?_
 ·show(N b).or (H b)=none;rw[low b o q,U0];exact n
 ·cases e:N a with
  | some u =>
   rw[e,RZ]at q;cases q;exact(hN a o e).2 _
  | none =>
   rw[e,U0]at q;exact(I.hok a o q).stay (fun b u _ z=>k b u z) (fun b z=>old b _ z) fun b xs z=>old b _ z
end
def ivO (p d:Addr):HO:=.ext fun h=>h.IsItemsView p d
theorem Zlg:MtR X "dict.items" (fun x vs H Q=>∃ d kvs,x= .ref d/\vs=[]/\H d=some (.dK kvs)/\∀ p,H p=none->Q (.ref p) (upd H p (ivO p d))):=by
 intro pins s σ H x vs v us Q I rx rv h;obtain⟨d,kvs,rfl,rfl,hd,q⟩:=h;cases rx;cases rv;obtain⟨hz,lo,vs',kv,dd⟩:=ZcI I.hok hd;refine call_meetsIn PySem.F.slot_dict_items dd.typeIs PySem.F.entry_dict_items (PySem.F.args_dict_items_1 _) (meets_dict_items (Zt X.prog X.w) d lo) ⟨⟨_,dd⟩,?_⟩;refine⟨.ref s.heap.objs.size,_,I.laid (t':=s.toks) (o:=ivO s.heap.objs.size d) (fun b u e=>Qg _ e) (Qk _) ?_,rfl,q _ (I.hok.fresh (Qk _))⟩;refine⟨⟨_,Qy _ rfl,rfl,rfl⟩,⟨_,Qy _ rfl⟩,fun h1 h2 ⟨o,e,r⟩ k=>⟨o,k o e,r⟩⟩
theorem ZiV (ks:List Str) (p:Array Nat) (hp:Srt.Pm ks.length p):(p.toList.map fun i=>ks.getD i "").Perm ks:=by
 have h1:=(UR.mp hp.perm).map fun i=>ks.getD i "";have h2:((Qx ks.length).toArray.toList.map fun i=>ks.getD i "")=ks:=by
  apply QT;intro i;simp only[Qd];by_cases hi:i<ks.length
  ·rw[QM hi,Qa hi,Wj,YE hi]
  ·rw[Qo (by simp;omega),Qo (by omega)];rfl
 rw[h2]at h1;exact h1
theorem Xu (hc:X.calm=true):CallR X (.builtin "sorted") (fun xs H Q=>∃ (p d:Addr) (ks:List Str) (g:Str->V),xs=[.ref p]/\H p=some (ivO p d)/\H d=some (.dK (ks.map fun x=>((Sum.inr x:Key),g x)))/\ks.Nodup/\ks.length<64 /\
  ∀ (D:Addr) (H1:Hp) (vs:List V) (ss:List Str),Same H H1->ss.Perm ks->(ss.map fun x=>x.cps.toList).Pairwise (· < ·)->H1 D=some (.lst vs)->vs.length=ss.length ->
   (∀ (i:Nat) (x:Str),ss[i]?=some x->∃ b,vs[i]?=some (.ref b)/\H1 b=some (.tup [.str x,g x]))->Q (.ref D) H1):=by
 intro pins s σ H xs us Q I r h;obtain⟨p,d,ks,g,rfl,hp,hd,nd,h64,q⟩:=h;obtain⟨u,rfl,ru⟩:=Xd r;cases ru;have hview:s.heap.IsItemsView p d:=(I.hok p _ hp).1;obtain⟨hz,lo,vs',kv,dd⟩:=ZcI I.hok hd;obtain⟨ep,hat⟩:=dd.dictAt;have hlen:ks.length=vs'.length:=by have:=kv.length;simpa using this
 have hsz:vs'.length<=sizeLine:=by rw[sizeLine_eq];omega
 refine Calls.call_function_entry kind_sorted plain_sorted entry_sorted (args_sorted1 _) ?_;unfold Builtin.«sorted»;refine wpAny_bind (m:=checkCount "sorted" 1 1 _) (wpAny_pure ?_);refine wpAny_bind (kdx_collect (A:=X.A.in1) (knd:=Zt X.prog X.w) (kvs:=vs') (ep:=ep) (I.ok.hd hc) hview hat hsz fun h1 tk as hk hl hG=>?_);refine wpAny_bind (wpAny_newList ?_ (by rw[Qc,hl];exact hsz));have pr:∀ (i:Nat),i<ks.length->∃ a t y,as[i]?=some a/\RelV (g (ks.getD i "")) y/\h1.get? a=some {cls:=.type "tuple",data:=.seq #[.str (ks.getD i "") t,y]}:=fun i hi=>by
  have hi2:i<as.length:=by omega
  obtain⟨key,k,x,e1,e2,e3⟩:=hG.pairs i as[i] (Qa hi2);have ek:=congrArg (fun l:List Key=>l[i]?) kv.keys;simp only[Qd]at ek;rw[e1,Qa hi]at ek;have ek':(Sum.inr ks[i]:Key)=k:=Option.some.inj ek;have ev:RelV (g ks[i]) x:=by
   have key:∀ {l1:List (Key×V)} {l2:List (Key×Value)} (i:Nat) (p:Key×V) (q:Key×Value),Paired (fun(p:Key×V) (q:Key×Value)=>p.1=q.1/\RelV p.2 q.2) l1 l2->l1[i]?=some p->l2[i]?=some q->RelV p.2 q.2:=by
    intro l1 l2 i p q hP;induction hP generalizing i with
    | nil=>intro e;simp at e
    | cons r t ih =>
     intro e1 e2;cases i with
     | zero =>
      simp at e1 e2;subst e1 e2;exact r.2
     | succ i=>exact ih i (by simpa using e1) (by simpa using e2)
   exact key i (Sum.inr ks[i],g ks[i]) (k,x) kv (by rw[Qd,Qa hi];rfl) e1
  subst ek';rcases keyIs_shape (show ZaS (Sum.inr ks[i]) key=true from e2)with ⟨j,t,e4,_⟩ | ⟨z,t,e4,e5⟩
  ·cases e4
  ·injection e4 with e4
   subst e4;refine⟨as[i],t,x,Qa hi2,by rw[YE hi];exact ev,?_⟩;rw[e3,e5,YE hi]
 have hB:(h1.push {cls:=.type "list",data:=.seq (as.map Value.ref).toArray}).get? h1.objs.size=some (seqObj "list" (as.map Value.ref).toArray 0):=Qy _ rfl;refine wpAny_bind (wpAny_holding (wpAny_call_entry slot_list_sort ⟨_,hB,rfl⟩ entry_list_sort ?body (args_list_sort _)));refine Zhd (s:={s with heap:=h1.push {cls:=.type "list",data:=.seq (as.map Value.ref).toArray},toks:=tk}) (xs:=ks) hB (by rw[Qc];omega) (by rw[Qc];omega) nd (fun i v x e1 e2=>?_) fun h3 tk3 c pm hpm hup hkeep hD=>⟨_,rfl,wpAny_pure ⟨_,rfl,?_⟩⟩
 ·have hi:i<ks.length:=(Qn.mp e2).1;obtain⟨a,t,y,f1,_,f3⟩:=pr i hi;rw[Qd,f1]at e1;cases e1;have ex:ks.getD i "" = x:=by rw[Qb,e2];rfl
  rw[ex]at f3;exact⟨a,t,y,rfl,Qg _ f3⟩
 ·have hold:∀ b u,s.heap.get? b=some u->h3.get? b=some u:=fun b u e=>hkeep b u (Qz (Qs (hk b u e))) (Qg _ (hk b u e));have hDn:s.heap.get? h1.objs.size=none:=by
   cases z:s.heap.get? h1.objs.size with
   | none=>rfl
   | some u=>exact absurd (Qs (hk _ u z)) (Wi _)
  have tup3:∀ (i:Nat),i<ks.length->∃ a t y,as[i]?=some a/\RelV (g (ks.getD i "")) y/\s.heap.get? a=none/\a≠h1.objs.size/\h3.get? a=some {cls:=.type "tuple",data:=.seq #[.str (ks.getD i "") t,y]}:=fun i hi=>by
   obtain⟨a,t,y,f1,f2,f3⟩:=pr i hi;have ne:a≠h1.objs.size:=Qz (Qs f3);exact⟨a,t,y,f1,f2,R7 (RE (hG.above a (WI f1))),ne,hkeep a _ ne (Qg _ f3)⟩
  have asnd:as.Nodup:=hG.rise.imp fun {a b} z e=>by subst e;exact Wi _ z
  let N:Addr->Option HO:=fun b=>if b=h1.objs.size then some (.lst (pm.toList.map fun i=>V.ref (as.getD i 0)))else (as.idxOf? b).map fun i=>.tup [.str (ks.getD i ""),g (ks.getD i "")]
  have hND:N h1.objs.size=some (.lst (pm.toList.map fun i=>V.ref (as.getD i 0))):=if_pos rfl;have hNt:∀ (i:Nat),i<ks.length->∃ a,as[i]?=some a/\N a=some (.tup [.str (ks.getD i ""),g (ks.getD i "")]):=fun i hi=>by
   obtain⟨a,t,y,f1,f2,f3,f4,f5⟩:=tup3 i hi;refine⟨a,f1,?_⟩;show(if a=h1.objs.size then _ else _)=_;rw[if_neg f4];have hi2:i<as.length:=(Qn.mp f1).1;have e:as.idxOf? a=some i:=by
    rw[RO];refine⟨hi2,by rw[Qa hi2]at f1;simpa using Option.some.inj f1,fun j hj=>?_⟩;intro z;have e1:as[j]'(by omega)=as[i]:=by rw[Qa hi2]at f1;rw[Option.some.inj f1];simpa using z
    exact absurd ((WX asnd).mp e1) (by omega)
   rw[e];rfl
  have hNall:∀ a o,N a=some o->s.heap.get? a=none/\∀ H2,ObjOk X.prog X.w H2 h3 a o:=fun a o e=>by
   by_cases ha:a=h1.objs.size
   ·subst ha;rw[hND]at e;cases e;refine⟨hDn,fun H2=>⟨?_,pm.toList.map (fun i=>Value.ref (as.getD i 0)),c,?_,?_⟩⟩
    ·rw[Qc,QG,hpm.size,sizeLine_eq];omega
    ·have gen:∀ l:List Nat,Vals (l.map fun i=>V.ref (as.getD i 0)) (l.map fun i=>Value.ref (as.getD i 0)):=by
      intro l;induction l with
      | nil=>exact .nil
      | cons i l ih=>exact .cons rfl ih
     exact gen _
    ·rw[hD];have el:(List.map (fun i=>(List.map Value.ref as).getD i Value.none) pm.toList)=pm.toList.map fun i=>Value.ref (as.getD i 0):=by
      refine Qu fun i hi=>?_;have hi':i<as.length:=by
       have:i∈pm:=by simpa using hi
       have:=hpm.perm.mem_iff.mp this;have:i<ks.length:=by simpa using this
       omega
      rw[Qb,Qd,Qa hi',Qb,Qa hi'];rfl
     rw[el]
   ·have e':(as.idxOf? a).map (fun i=>HO.tup [.str (ks.getD i ""),g (ks.getD i "")])=some o:=by
     have:(if a=h1.objs.size then some (HO.lst (pm.toList.map fun i=>V.ref (as.getD i 0)))else (as.idxOf? a).map fun i=>HO.tup [.str (ks.getD i ""),g (ks.getD i "")])=some o:=e;rw[if_neg ha]at this;exact this
    cases hx:as.idxOf? a with
    | none=>rw[hx]at e';cases e'
    | some i =>
     rw[hx]at e';cases e';obtain⟨hi,hai,_⟩:=RO.mp hx;have hi':i<ks.length:=by omega
     obtain⟨a',t,y,f1,f2,f3,f4,f5⟩:=tup3 i hi';rw[Qa hi]at f1;have ea:a=a':=by rw[←Option.some.inj f1];simpa using hai.symm
     subst ea;refine⟨f3,fun H2=>⟨by show 2<=sizeLine;rw[sizeLine_eq];decide,[.str (ks.getD i "") t,y],.cons ⟨t,rfl⟩ (.cons f2 .nil),⟨⟨_,f5,rfl,_,rfl⟩,fun o e=>by rw[f5]at e;cases e;rfl⟩⟩⟩
  refine⟨.ref h1.objs.size,_,I.laidN (N:=N) (tk:=tk3) hold hNall,rfl,?_⟩;have hsame:Same H fun b=>(N b).or (H b):=fun b u e=>by
   obtain⟨v,hv⟩:=(I.hok b u e).there';have:N b=none:=by
    cases z:N b with
    | none=>rfl
    | some o=>rw[(hNall b o z).1]at hv;cases hv
   show(N b).or (H b)=some u;rw[this,U0];exact e
  refine q _ _ (pm.toList.map fun i=>V.ref (as.getD i 0)) (pm.toList.map fun i=>ks.getD i "") hsame (ZiV ks pm hpm) ?_ (by rw[hND];rfl) (by rw[Qc,Qc]) fun i x e=>?_
  ·rw[QC,QR,WR];intro i j hi hj hij;have hz2:pm.toList.length=ks.length:=by rw[QG,hpm.size]
   have hu:=hup i j hij (by omega);unfold ltX at hu;rw[decide_eq_true_eq]at hu;have g1:pm.getD i 0=pm.toList[i]:=by rw[QZ,QX (by simpa using hi)];simp
   have g2:pm.getD j 0=pm.toList[j]:=by rw[QZ,QX (by simpa using hj)];simp
   rw[g1,g2]at hu;exact hu
  ·rw[Qd]at e;cases ep:pm.toList[i]? with
   | none=>rw[ep]at e;cases e
   | some k =>
    rw[ep]at e;have ex:ks.getD k "" = x:=Option.some.inj e;have hkm:k∈pm:=by simpa using WI ep
    have hkl:k<ks.length:=by simpa using hpm.perm.mem_iff.mp hkm
    obtain⟨a,f1,f2⟩:=hNt k hkl;refine⟨a,?_,?_⟩
    ·rw[Qd,ep,Wj,Qb,f1];rfl
    ·show(N a).or (H a)=_;rw[f2,RZ,ex]
def ZoC (td:TE):TE:=fun σ H Q=>td σ H fun x H1=>∃ d kvs,x= .ref d/\H1 d=some (.dK kvs)/\∀ p,H1 p=none->Q (.ref p) (upd H1 p (ivO p d))
theorem Zca {o:Expr} {apos cpos:Pos} {td:TE} (ho:PE X o td) (hbase:attributeBase o "items" X.env (eval o X.env)=eval o X.env:=by rfl) (hline:(apos.endLine==cpos.line)=true:=by rfl) :
  PE X (.Call (.Attribute o "items" apos) [] [] cpos) (ZoC td):=by
 intro pins s σ H Q I h;refine wpAny_Call_method0_late hbase hline (thn (ho pins s σ H _ I h) fun v s1 ⟨x,H1,I1,r1,d,kvs,ex,hd,q1⟩=>?_);subst ex;obtain rfl:v=Value.ref d:=r1;obtain⟨t1,t2,_⟩:=ZdN I1 (.inl ⟨kvs,.inl hd⟩);exact⟨"dict",_,PySem.F.plainAttrs_dict,PySem.F.slot_dict_items,PySem.F.type_dict_items,t1,t2,Calls.callWith_builtin rfl (PySem.evalArgs_none (Zlg pins s1 σ H1 (.ref d) [] (.ref d) [] Q I1 rfl .nil ⟨d,kvs,rfl,rfl,hd,q1⟩))⟩
open PySem PySem.Spec PyProof.Rows
structure XCls (K:PySem.W.Frag) (mg:Str->Option Value) (x:Str) (C:Addr) (bm:List Value):Prop where
 bound:mg x=some (.ref C)
 look:∃ nm q N bs hdct sn sub ab col dd k0 k1 k2 k3 k5,K.lookup C=some (excClassObj nm q C N bs bm hdct sn sub ab col dd k0 k1 k2 k3 k5 "ValueError.__new__") /\
  PySem.W.nsOkIn K N=true/\PySem.W.nsIn K N "__init__" = some none
 tail:PySem.W.tailIn K [.type "ValueError",.type "Exception",.type "BaseException",.type "object"] bm=true
def Zpf (K:PySem.W.Frag) (C:Addr):List Value:=match K.lookup C with
 | some ⟨_,_,.cls cd,_⟩=>cd.mro.tail
 | _=>[]
theorem Zhz {K:PySem.W.Frag} {mg:Str->Option Value} (hb:mg x=some (.ref C)) (hq:PySem.W.excIn K C [.type "ValueError",.type "Exception",.type "BaseException",.type "object"] "ValueError.__new__" = true):XCls K mg x C (Zpf K C):=by
 unfold PySem.W.excIn at hq;cases hl:K.lookup C with
 | none=>rw[hl]at hq;cases hq
 | some o =>
  rw[hl]at hq;split at hq
  ·rename_i dd cd sl e0;injection e0 with e1
   subst e1;split at hq
   ·rename_i C1 bm k0 k1 k2 k3 n k5 e2 e3;rw[Wl,Wl,Wl,Wl,Wl]at hq;obtain⟨⟨⟨⟨⟨q1,q2⟩,q3⟩,q4⟩,q5⟩,q6⟩:=hq;have r1:=beq_iff_eq.mp q1;have r2:=beq_iff_eq.mp q2;have r6:=beq_iff_eq.mp q6;subst r1;subst r2;obtain⟨f1,f2,f3,f4,f5,f6,f7,f8,f9,f10,f11⟩:=cd;have em:Zpf K C1=bm:=by
     unfold Zpf;rw[hl];show List.tail f3=bm;have e2':f3=Value.ref C1::bm:=e2;rw[e2'];rfl
    rw[em];have e2':f3=Value.ref C1::bm:=e2;have q3':f11=false:=by simpa using q3
    subst e2';subst q3';obtain⟨l⟩:=sl;have e3':l=[k0,k1,k2,k3,some (.builtin "ValueError.__new__"),k5]:=e3;subst e3';exact⟨hb,⟨f1,f5,f4,f2,f6,f7,f8,f9,f10,dd,k0,k1,k2,k3,k5,hl,q5,r6⟩,q4⟩
   ·cases hq
  ·cases hq
theorem XCls.at {K:PySem.W.Frag} {mg:Str->Option Value} {bm:List Value} (c:XCls K mg x C bm) (X:K.In h):∃ N nm q bs hdct sn sub ab col dd k0 k1 k2 k3 k5 mN,
  h.get? C=some (excClassObj nm q C N bs bm hdct sn sub ab col dd k0 k1 k2 k3 k5 "ValueError.__new__")/\h.Ns N mN/\mN "__init__" = none/\OwnTail h [.type "ValueError",.type "Exception",.type "BaseException",.type "object"] bm:=by
 obtain⟨nm,q,N,bs,hdct,sn,sub,ab,col,dd,k0,k1,k2,k3,k5,hl,h1,h2⟩:=c.look;exact⟨N,nm,q,bs,hdct,sn,sub,ab,col,dd,k0,k1,k2,k3,k5,_,X _ _ hl,.of_isNs (PySem.W.isNs_of_in X h1),PySem.W.nsMap_none_of_in X h1 h2,PySem.W.tail_of_in X c.tail⟩
def CXx (P:Program) (w:World):CXT:=fun outer H s E e s'=>∃ (ea:Addr) (cls a0:Value) (H':Hp) (B:Heap),e= .ref ea/\s'.os=s.os/\AllBare s'.gens/\Un (frs outer) [] H H' s.heap s'.heap/\HOk P w H' s'.heap /\
 Heap.FlyingW B outer ea cls a0 s'.heap/\(∀ b u,H' b=some u->∃ o,B.get? b=some o)/\(∀ b o,s.heap.get? b=some o->H b=none->b∉frs outer->B.get? b=some o) /\
 (∀ b o,s.heap.get? b=some o->b∉frs outer->∃ o',B.get? b=some o')/\E cls none H'
theorem HOk.stays {P:Program} {w:World} {h' B:Heap} (x:HOk P w H h) (hB:∀ b u,H b=some u->∃ o,B.get? b=some o) (h1:B.StaysIn h) (h2:B.StaysIn h'):HOk P w H h':=fun a o e=>by
 have key:∀ b u,H b=some u->∀ v,h.get? b=some v->h'.get? b=some v:=fun b u q v hv=>by
  obtain⟨o',ho⟩:=hB b u q;have e1:=h1 b o' ho;rw[hv]at e1;cases e1;exact h2 b v ho
 refine(x a o e).stay (fun b v hb q=>?_) (fun _ q=>q) fun _ _ q=>q;rcases hb with z | z
 ·subst z;exact key b o e v q
 ·exact key b _ z v q
theorem Zgt {env:Env} {L:Addr} {l:List Env} (h:env.frame=some L):frs (env::l)=L::frs l:=by
 unfold frs;rw[UW,h]
theorem ObjOk.there {P:Program} {w:World} {o:HO} (x:ObjOk P w H h a o):∃ u,h.get? a=some u:=by
 cases o with
 | lst xs=>obtain⟨_,_,_,_,e⟩:=x;exact⟨_,e⟩
 | tup xs=>obtain⟨_,_,_,⟨_,e,_⟩,_⟩:=x;exact⟨_,e⟩
 | dK kvs=>obtain⟨_,_,_,_,o,_,_,e,_⟩:=x;exact⟨_,e⟩
 | dT kvs=>obtain⟨_,_,_,_,o,_,_,e,_⟩:=x;exact⟨_,e⟩
 | set S n=>obtain⟨o,_,_,_,e,_⟩:=x;exact⟨_,e⟩
 | ins C dx fs=>obtain⟨_,_,_,e,_⟩:=x;exact⟨_,e⟩
 | own y=>exact x
 | xd fs=>obtain⟨_,⟨_,_,_,e,_⟩,_⟩:=x;exact⟨_,e⟩
 | rng lo hi=>obtain⟨_,_,_,e⟩:=x;exact⟨_,e⟩
 | frz ob u=>obtain⟨e,_⟩:=x;exact⟨_,e⟩
 | tbl ps=>exact⟨_,show h.get? a=some _ from x⟩
 | met f y=>exact⟨_,show h.get? a=some _ from x⟩
 | ext φ=>obtain⟨_,e,_⟩:=x;exact e
structure Lv (X:Cx) (E:XK):Prop where
 ex:X.ex=[]
 stk:X.stack=X.env::X.outer
 fr:X.env.frame=some X.env.locals
 xe:∀ e s',wpAny (model X.prog X.w) X.A (leaving X.env e) (fun _ s''=>CXx X.prog X.w X.outer X.H₀ X.s₀ E e s'') (fun e' s''=>CXx X.prog X.w X.outer X.H₀ X.s₀ E e' s'') s'->X.xe e s'
section
variable {X:Cx} {E:XK} {pins:List (Addr×Obj)} {σ:St} {H:Hp} {s:Shared}
theorem Lv.frs (L:Lv X E):frs X.stack=X.env.locals::X.fs:=by rw[L.stk];exact Zgt L.fr
theorem Lv.old (L:Lv X E) (I:Inv X pins σ H s) {b:Addr} {o:Obj} (q:X.s₀.heap.get? b=some o) (hb:b∉X.fs):b∉L2.frs X.stack:=by
 rw[L.frs,QA];rintro(z | z)
 ·exact absurd (QS (Qs q) (z▸I.ok.above)) (Wi _)
 ·exact hb z
theorem Lv.noex (L:Lv X E) (b:Addr):b∉X.ex:=by rw[L.ex];simp
theorem Lv.raised (L:Lv X E) (I:Inv X pins σ H s) {h1:Heap} {e:Addr} {args:List Value} (hx:Heap.MadeExcOf s.heap h1 e (.ref C) args) (hE:E (.ref C) none H):X.xe (.ref e) {s with heap:=h1}:=by
 have hin:∀ env∈X.stack,∀ b,env.frame=some b->b∈L2.frs X.stack:=fun env he b hb=>RA.mpr ⟨env,he,hb⟩;have fB:s.heap.FunFrames (PySem.W.hideAll s.heap (L2.frs X.stack)) X.stack:=PySem.W.funFrames_hide I.stack hin;have kB:∀ b o,s.heap.get? b=some o->b∉L2.frs X.stack->(PySem.W.hideAll s.heap (L2.frs X.stack)).get? b=some o:=fun b o q n=>PySem.W.hideAll_get _ q n;rw[L.stk]at fB;refine L.xe _ _ (wpAny_leaves_madeW (base:=PySem.W.hideAll s.heap (L2.frs X.stack)) (h:=s.heap) (by rw[←L.stk];exact I.ok.frames) L.fr (fun b o q=>PySem.W.of_hideAll _ q) (by rw[L.stk];exact fB) hx fun h2 t fl tup bt up=>?_);have c1:∀ b u,H b=some u->∃ o,(PySem.W.hideAll s.heap (L2.frs X.stack)).get? b=some o:=fun b u q=>by
  obtain⟨o,ho⟩:=(I.hok b u q).there;exact⟨o,kB b o ho fun z=>by rw[I.stkFree b z]at q;cases q⟩
 have c2:∀ b o,X.s₀.heap.get? b=some o->X.H₀ b=none->b∉L2.frs X.outer->(PySem.W.hideAll s.heap (L2.frs X.stack)).get? b=some o:=fun b o q n hb=>kB b o (I.base.keep b o q n hb (L.noex b)) (L.old I q hb);have c3:∀ b o,X.s₀.heap.get? b=some o->b∉L2.frs X.outer->∃ o',(PySem.W.hideAll s.heap (L2.frs X.stack)).get? b=some o':=fun b o q hb=>by
  obtain⟨o',q1⟩:=I.base.there b o q (L.noex b);exact⟨o',kB b o' q1 (L.old I q hb)⟩
 have fr:∀ b∈L2.frs X.outer,∀ o,s.heap.get? b=some o->∃ sl,h2.get? b=some {o with slots:=sl}:=fun b hb o q=>by
  obtain⟨_,o',ho,hd⟩:=I.stack.mem (b:=b) (by show b∈L2.frs X.stack;rw[L.frs];exact Ql _ hb);rw[q]at ho;cases ho;exact up b o (hx.keeps b o q) hd
 refine⟨e,.ref C,.ref t,H,_,rfl,I.os,I.bare,⟨fun b o q n hb _=>fl.1 b o (c2 b o q n hb),fun b o q n hb _=>?_,fun b o q n _=>I.base.free b o q n (L.noex b),fun b o q _=>?_,I.base.tups,I.base.frzs,I.base.tbls⟩,
  I.hok.stays c1 (fun b o q=>PySem.W.of_hideAll _ q) fl.1,fl,c1,c2,c3,hE⟩
 ·obtain⟨sl,q1⟩:=I.base.slot b o q n hb (L.noex b);obtain⟨sl',q2⟩:=fr b hb _ q1;exact⟨sl',q2⟩
 ·by_cases hb:b∈L2.frs X.outer
  ·obtain⟨o',q1⟩:=I.base.there b o q (L.noex b);obtain⟨sl',q2⟩:=fr b hb _ q1;exact⟨_,q2⟩
  ·obtain⟨o',q1⟩:=c3 b o q hb;exact⟨o',fl.1 b o' q1⟩
def ZoB (E:XK) (C:Addr) (t:TA):TS:=fun D σ H=>t σ H fun vs H1=>vs.length<=sizeLine/\E (.ref C) none H1
theorem ZfS {bm:List Value} {e₀:Expr} {es:List Expr} {t:TA} {np cpos pos:Pos} (L:Lv X E) (c:XCls X.K X.mg x C bm) (hcalm:X.calm=true) (ha:PA X (e₀::es) t) (hg:Gl X x:=by rfl) (hd:(x==("__debug__" : Str))=false:=by decide)
  (he:starEach (e₀::es) X.env=(false,eval e₀ X.env)::starEach es X.env:=by rfl) (hpl:(backTo cpos (starEach es X.env)).any (·.1)=false:=by rfl) :
  PS X (.Raise (some (.Call (.Name x np) (e₀::es) [] cpos)) none pos) (ZoB E C t):=by
 intro pins s σ H D I h;obtain⟨N,nm,q,bs,hdct,sn,sub,ab,col,dd,k0,k1,k2,k3,k5,mN,hC,hN,hni,T⟩:=c.at I.mod.kin;have hpl':(backTo cpos (starEach (e₀::es) X.env)).any (·.1)=false:=by
  rw[he];exact hpl
 refine wpAny_Raise_call_subU (C:=C) (nm:=nm) (q:=q) (N:=N) (bs:=bs) (bm:=bm) (hdct:=hdct) (sn:=sn) (sub:=sub) (ab:=ab) (col:=col) (dd:=dd) (k0:=k0) (k1:=k1) (k2:=k2) (k3:=k3) (k5:=k5)
  PySem.F.excBase_ValueError (by decide) PySem.F.excBase_ValueError (mN:=mN) (T.hasType PySem.F.excBase_ValueError.hasBase) (I.ok.hd hcalm) hpl' hni (Zct I hg c.bound ⟨rfl,?_⟩ hd)
 have hs:=ha cpos pins s σ H _ I h;rw[he]at hs ⊢;refine Calls.evalArgs_plain (wpAny_mono hs (fun us s2 ⟨vs,H2,I2,r,hl,hE⟩=>⟨rfl,?_,?_⟩) fun _ _ y=>y)
 ·rw[←r.length];exact hl
 ·obtain⟨N',nm',q',bs',hdct',sn',sub',ab',col',dd',k0',k1',k2',k3',k5',mN',hC',_⟩:=c.at I2.kIn;exact⟨I2.bk _ _ hC,hN.keeps I2.bk,T.keeps I2.bk,fun h1 e hm=>L.raised I2 hm hE⟩
theorem PS.nox {t:TS} (h:PS X.nox st t):PS X st t:=fun pins s σ H D I hw =>
 wpAny_mono (h pins s σ H D (I.wish _) hw) (fun _ _ q=>q.unwish) fun _ _ z=>False.elim z
end
theorem Fun.okX {P:Program} {w:World} {K:PySem.W.Frag} {mg:Str->Option Value} {base:Heap} {qual:Str} {f:Addr} {fd:FuncData} {N:List Str} (F:Fun K x qual st f fd) (S:Zo N ps (Zf st)) (len:∀ vs H Q E,sp vs H Q E->vs.length=ps.length)
  (hbody:∀ (X:Cx) (vs:List V) (H:Hp) (Q:VK) (E:XK) (cdv:Value) (A:Around) (outer:List Env) (s:Shared),X=Zj8 (CXx P w) P w K mg base N qual (Zf st) f cdv A outer s H E->Lv X E->Room k X.A->sp vs H Q E ->
   ∃ t,PSs (Zj8 (CXx P w) P w K mg base N qual (Zf st) f cdv A outer s H E) (Yl st) t/\t {nx:=fun _ H'=>Q .non H',rt:=Q} (Zap N vs) H):FnOk P w K mg base (CXx P w) (k+1) f fd ps sp:=by
 obtain⟨oc,od,kV,doc,pm,an,cdv,ct,osl,rfl,lk,hcd⟩:=F.ex;refine Zpw lk hcd S len fun A outer s H vs Q E hr hsp=>?_;exact hbody _ vs H Q E cdv A outer s rfl ⟨rfl,rfl,rfl,fun _ _ h=>h⟩ hr hsp
structure FOkX (P:Program) (w:World) (K:PySem.W.Frag) (mg:Str->Option Value) (base:Heap) (k:Nat) (name:Str) (ps:List Str) (sp:Sp):Prop where
 ex:∃ f fd,FnOk P w K mg base (CXx P w) k f fd ps sp/\Binds K fd ps []/\mg name=some (.ref f)/\PySem.W.keepIn K (.ref f)=true
theorem FOkX.mono {P:Program} {w:World} {K:PySem.W.Frag} {mg:Str->Option Value} {base:Heap} {j:Nat} (G:FOkX P w K mg base j name ps sp) (h:j<=k):FOkX P w K mg base k name ps sp:=by
 obtain⟨f,fd,F,r⟩:=G.ex;exact⟨f,fd,F.mono h,r⟩
theorem HasDef.okX {P:Program} {w:World} {K:PySem.W.Frag} {mg:Str->Option Value} {base:Heap} {N:List Str} (D:HasDef K mg name st ps) (S:Zo N ps (Zf st)) (len:∀ vs H Q E,sp vs H Q E->vs.length=ps.length)
  (hbody:∀ (f:Addr) (cdv:Value) (A:Around) (outer:List Env) (s:Shared) (vs:List V) (H:Hp) (Q:VK) (E:XK),Lv (Zj8 (CXx P w) P w K mg base N name (Zf st) f cdv A outer s H E) E->Room k (A.deeper (envOfC name (Zf st) s.heap.objs.size f cdv))->sp vs H Q E ->
   ∃ t,PSs (Zj8 (CXx P w) P w K mg base N name (Zf st) f cdv A outer s H E) (Yl st) t/\t {nx:=fun _ H'=>Q .non H',rt:=Q} (Zap N vs) H):FOkX P w K mg base (k+1) name ps sp:=by
 obtain⟨f,fd,F,b,m⟩:=D.ex;refine⟨f,fd,F.okX S len fun X vs H Q E cdv A outer s e l r h=>?_,b,m,F.kp⟩;subst e;exact hbody f cdv A outer s vs H Q E l r h
section
variable {X:Cx} {pins:List (Addr×Obj)} {σ:St} {H:Hp} {s:Shared}
abbrev Cx.caught (X:Cx) (ea:Addr) (pn:List (Addr×Obj)):Cx:={X with A:=X.A.mark (some (.ref ea)),calm:=false,pn:=pn,xe:=fun _ _=>False}
theorem Inv.caught (I:Inv X pins σ H s) {ea:Addr} {oe:Obj} (h1:s.heap.get? ea=some oe) (h2:H ea=none) (h3:ea≠X.env.locals) (h4:ea∉X.fs) (h5:∀ v,oe.data≠.cell v):Inv (X.caught ea (X.pn++pins++[(ea,oe)])) [] σ H s :=
 ⟨⟨I.ok.mod,I.ok.kind,I.ok.glob,I.ok.blt,I.ok.above,I.ok.inj,I.ok.has,I.ok.cab,fun z=>(QI z).elim,I.ok.frames,I.ok.stk,I.ok.exf,I.ok.bs,I.ok.bsz,I.ok.noex,I.ok.exfs,I.ok.funs,I.ok.frf⟩,I.os,I.bare,I.base,I.loc,I.cell,I.free,I.freeC,fun p hp=>by
  have hp':p∈X.pn++pins++[(ea,oe)]:=by simpa using hp
  rcases QE.mp hp' with z | z
  ·exact I.pin p z
  ·rw[Qp.mp z];exact⟨h1,h2,h3,h4,h5⟩,I.hok,I.len⟩
theorem Inv.uncaught {pins' q:List (Addr×Obj)} {ea:Addr} (ok:X.Ok) (I:Inv (X.caught ea (X.pn++pins++q)) pins' σ H s):Inv X pins σ H s :=
 ⟨ok,I.os,I.bare,I.base,I.loc,I.cell,I.free,I.freeC,fun p hp=>I.pin p (Q0 _ (Q0 _ hp)),I.hok,I.len⟩
end
section
variable {prog:Program} {w:World} {A:Around} {E:Value->Shared->Prop} {s:Shared} {K:Frag} {a C:Addr} {o:Obj}
end
theorem Zql:ZgL (CXx X.prog X.w) X E0:=fun _ _ _ _ _ _ _ h=>by
 obtain⟨_,_,_,_,_,_,_,_,_,_,_,_,_,_,z⟩:=h;exact z.elim
theorem Zbp {p:Pos} {e:Expr} {es:List Expr} {t:TA} (G:FOkX X.prog X.w X.K X.mg X.base k name ps sp) (hr:Room k X.A) (ha:PA X (e::es) t) (hg:Gl X name:=by rfl)
  (hdb:(name==("__debug__" : Str))=false:=by decide) (he:starEach (e::es) X.env=(false,eval e X.env)::starEach es X.env:=by rfl) (hpl:(backTo pos (starEach es X.env)).any (·.1)=false:=by rfl) :
  PE X (.Call (.Name name p) (e::es) [] pos) (Zm7 sp [] E0 t):=by
 obtain⟨f,fd,F,b,m,kp⟩:=G.ex;exact ZiZ F hr hg m kp b .nil Zql ha hdb he hpl
theorem Yt:MtR X "list.append" ZiK:=ZdE
theorem hasDef_mk {K:PySem.W.Frag} {mg:Str->Option Value} {f:Addr} {oc:Value} {od an:Option Addr} {sl:Array (Option Value)} {kV dc pm cd ct:Value} (X:K.In h) (G:h.Ns mainGlobals mg)
  (a:PySem.W.nsIn K mainGlobals name=some (some (.ref f))) (l:K.lookup f=some ⟨oc,od,.func (PySem.W.fnOf name name (Xs st) (Yl st) (Zf st) .none kV dc pm an cd ct),sl⟩) (c:PySem.W.codeIn K cd name=true) (k:PySem.W.keepIn K (.ref f)=true)
  (hb:∀ (kV doc pm:Value) (an:Option Addr) (cdv ct:Value) (us:List Value),us.length=ps.length->bindArgs (PySem.W.fnOf name name (Xs st) (Yl st) (Zf st) .none kV doc pm an cdv ct) ⟨us,[]⟩=pure (ps.zip us)):HasDef K mg name st ps :=
 ⟨_,_,ZjT (st:=st) l c k,(ZjT (st:=st) l c k).binds hb,PySem.W.mg_of X G a⟩
abbrev ZqM:List Value:=[.type "ValueError",.type "Exception",.type "BaseException",.type "object"]
theorem Jp {c:Bool} {A B:Prop} (h:c=true) (a:A):if c=true then A else B:=by rw[if_pos h];exact a
theorem Xa {c:Bool} {A B:Prop} (h:c=false) (b:B):if c=true then A else B:=by rw[h];exact ZpW b
theorem ZdO {a b:Int} (h:¬ a=b):decide (V.int a=V.int b)=false:=decide_eq_false fun q=>h (by injection q)
theorem Zmz {a b:Int} (h:a=b):decide (V.int a=V.int b)=true:=decide_eq_true (congrArg V.int h)
theorem JP {H1:Hp} {p:Addr} {o:HO} (s:Same H H1) (hp:H p=none):Same H (upd H1 p o):=fun b o' e=>by
 rw[Zi (Zm e hp)];exact s b o' e
open PySem PySem.Spec PyProof.Rows PySem.Builtin.Str
theorem Xc {i:Int} (h0:0<=i) (h1:i<=x.length):(Txt.slice x (some i) none).cps.toList=x.cps.toList.drop i.toNat:=by
 rw[eq_of_beq (slice_closes_fromL h0 h1 rfl)];simp[Str.length];exact QJ (by simp;omega)
theorem Inv.laid2 {pins:List (Addr×Obj)} {σ:St} {s:Shared} {h':Heap} {x y:Addr} {o:HO} {t':Nat} (I:Inv X pins σ H s) (k:∀ b u,b≠x->b≠y->s.heap.get? b=some u->h'.get? b=some u) (hx:Zfj X pins H x) (hy:Zfj X pins H y)
  (hxt:∃ u,h'.get? x=some u) (hyt:∃ u,h'.get? y=some u) (hp:s.heap.objs.size<=a) (new:ObjOk X.prog X.w (upd H a o) h' a o):Inv X pins σ (upd H a o) {s with heap:=h',toks:=t'}:=by
 obtain⟨f0,f1,f2,f3,f4,f5⟩:=hx;obtain⟨g0,g1,g2,g3,g4,g5⟩:=hy;have hn:H a=none:=I.hok.fresh hp;have nit:∀ b u,H b=some u->b≠x/\b≠y:=fun b u e=>⟨(fun z=>by rw[z,f0]at e;cases e),(fun z=>by rw[z,g0]at e;cases e)⟩
 have nc:∀ b:Addr,b∉[x,y]->b≠x/\b≠y:=fun b hb=>⟨fun z=>hb (by simp[z]),fun z=>hb (by simp[z])⟩
 refine I.step (g':=s.gens) (d':=s.drawn) (ch:=[x,y]) (fun b hb=>?_) (fun b u _ _ hc e _=>k b u (nc b hc).1 (nc b hc).2 e) (fun b u _ _ hc e _=>⟨u.slots,k b u (nc b hc).1 (nc b hc).2 e⟩) (fun b u _ e n=>?_)
  (fun b u hc e=>⟨u,k b u (nc b hc).1 (nc b hc).2 e⟩) (fun b xs e=>?_) (fun b u xs e=>?_) (fun b ps e=>⟨#[],?_⟩) (fun m hm=>?_) (fun b u e=>?_) I.bare
 ·rcases QA.mp hb with z | z
  ·subst z;exact⟨f3,f1,f4,f5⟩
  ·have z:=Qp.mp z;subst z;exact⟨g3,g1,g4,g5⟩
 ·rw[Zi (Qz (QS (Qs e) hp))];exact n
 ·rw[Zi (Zm e hn)];exact e
 ·rw[Zi (Zm e hn)];exact e
 ·rw[Zi (Zm e hn),e];simp
 ·obtain⟨o,es,ep,ho,r⟩:=hm;exact⟨o,es,ep,k _ o (Ne.symm f1) (Ne.symm g1) ho,r⟩
 ·by_cases hb:b=a
  ·subst hb;rw[Zd]at e;cases e;exact new
  ·rw[Zi hb]at e;refine(I.hok b u e).stay (fun c v hc q=>k c v ?_ ?_ q) (fun c q=>by rw[Zi (Zm q hn)];exact q) fun c xs q=>by rw[Zi (Zm q hn)];exact q
   ·rcases hc with z | z
    ·rw[z];exact(nit b u e).1
    ·exact(nit c _ z).1
   ·rcases hc with z | z
    ·rw[z];exact(nit b u e).2
    ·exact(nit c _ z).2
def Ite (K:PySem.W.Frag) (a:Addr):It :=
 ⟨fun i H=>∃ xs x,SqL K H a xs/\xs[i]?=some x,fun i H x H'=>∃ t y,H t=none/\x= .ref t/\H'=upd H t (.tup [.int i,y])/\∀ xs,SqL K H a xs->xs[i]?=some y,fun i H=>∃ xs,SqL K H a xs/\xs.length<=i⟩
theorem ZhM {P:Program} {w:World} {K:PySem.W.Frag} {elts:List Expr} (a e it:Addr) (hne:e≠it):ZmM P w K (.Tuple elts k pos) (Ite K a) [e,it] e (fun i h=>(∃ old,IsEnum h e it i old)/\h.IsListIter it a i) where
 mem:=by simp
 obj:=fun i h st b hb=>by
  obtain⟨⟨old,he⟩,o,e1,c,d⟩:=st;rcases QA.mp hb with z | z
  ·subst z;exact⟨_,he,fun v z=>by
    have z':Data.fields _=Data.cell v:=z;cases z'⟩
  ·have z:=Qp.mp z;subst z;exact⟨o,e1,fun v z=>by rw[d]at z;cases z⟩
 keep:=fun i h h' ⟨⟨old,he⟩,st⟩ kk=>⟨⟨old,kk e (by simp) _ he⟩,st.at fun o e1=>kk it (by simp) o e1⟩
 item:=by
  intro X hP hw hK hc i pins s σ H E I hf ⟨⟨old,he⟩,st⟩ hg;subst hP hw hK;obtain⟨xs,x,hq,hx⟩:=hg;obtain⟨its,rv,p,hz⟩:=I.list hq;obtain⟨u,hu,ru⟩:=rv.get hx;obtain⟨f0,f1,f2,f3,f4,f5⟩:=hf e (by simp);obtain⟨g0,g1,g2,g3,g4,g5⟩:=hf it (by simp);refine wpAny_pyNext_enum_item he st p.isList (x:=u) (by simpa using hu) hne fun h1 heo st1 ht1 hz1 kk=>?_;refine⟨_,rfl,wpAny_letOwnedTupleGo_enum heo fun h2 he2 sb=>?_⟩;have hk2:∀ b o,b≠e->b≠it->s.heap.get? b=some o->h2.get? b=some o:=fun b o q1 q2 q=>(sb.2 b q1).trans (kk b o q1 q2 q);have hte:s.heap.objs.size≠e:=Rg (Qs he);have ht2:h2.get? s.heap.objs.size=some {cls:=.type "tuple",data:=.seq #[.int i s.toks,u]}:=(sb.2 _ hte).trans ht1;have st2:h2.IsListIter it a (i+1):=st1.extBut sb.extBut (Ne.symm hne);refine⟨.ref s.heap.objs.size,_,Inv.laid2 (s:=s) (a:=s.heap.objs.size) (t':=s.toks+1) (o:=.tup [.int i,x]) I hk2 (hf e (by simp)) (hf it (by simp)) ⟨_,he2⟩ (let ⟨o,q,_⟩:=st2;⟨o,q⟩) (Qk _) ?_,rfl,⟨_,x,I.hok.fresh (Qk _),rfl,rfl,fun ys hy=>by rw[I.list_inj hy hq];exact hx⟩,⟨⟨u,?_⟩,st2⟩,fun b hb=>?_⟩
  ·refine⟨(show 2<=sizeLine by rw[sizeLine_eq];decide),[.int i s.toks,u],.cons ⟨_,rfl⟩ (.cons ru .nil),⟨_,ht2,rfl,_,rfl⟩,fun o q=>by rw[ht2]at q;cases q;rfl⟩
  ·have:((i+1:Nat):Int)=(i:Int)+1:=by push_cast;rfl
   rw[this];exact he2
  ·rw[Zi]
   ·exact(hf b hb).1
   ·rcases QA.mp hb with z | z
    ·rw[z];exact Ne.symm hte
    ·rw[Qp.mp z];obtain⟨o,q,_⟩:=st;exact Qz (Qs q)
 done:=by
  intro X hP hw hK hc i pins s σ H E I hf ⟨⟨old,he⟩,st⟩ hg;subst hP hw hK;obtain⟨xs,hq,hx⟩:=hg;obtain⟨its,rv,p,hz⟩:=I.list hq;obtain⟨g0,g1,g2,g3,g4,g5⟩:=hf it (by simp);have hl:=rv.length;exact wpAny_pyNext_enum_end (I.ok.hd hc) he st p.isList (by simp;omega) fun h' eb=>⟨rfl,I.turned (t':=s.toks) (fun b o hb e=>eb b o hb e) g0 g1 g3 g4 g5⟩
 self:=fun _ _ _ _ _ ⟨⟨old,he⟩,_⟩ h=>wpAny_pyIter_enum he h
theorem ZpK:bootBuiltins "enumerate" = some (.type "enumerate"):=by decide +kernel
def Zqz (K:PySem.W.Frag) (ta:TA):TI:=fun σ H R=>ta σ H fun vs H1=>∃ a,vs=[.ref a]/\(∃ xs,SqL K H1 a xs)/\R (Ite K a) H1
theorem Znt {elts:List Expr} {kt:Nat} {tpos:Pos} {l:Expr} {ta:TA} {p:Pos} (hg:Gl X "enumerate") (hm:X.mg "enumerate" = none) (ha:PA X [l] ta) (hs:starEach [l] X.env=[(false,eval l X.env)]:=by rfl):PI X (.Tuple elts kt tpos) (.Call (.Name "enumerate" p) [l] [] pos) (Zqz X.K ta):=by
 intro pins s σ H R I h;refine Call_ (XN I hg hm ZpK (PyProof.Rows.callWith_type1 (thn (ha pos pins s σ H _ I h) fun us s1 ⟨vs,H1,I1,r1,q1⟩=>?_) hs rfl));obtain⟨a,e,⟨xs,hq⟩,q⟩:=q1;subst e;cases r1 with
 | cons r rr =>
  cases rr;cases r;obtain⟨its,rv,pl,hz⟩:=I1.list hq;refine call_enumerate_list pl.isList fun h' he hit hsz kk=>?_;refine wpAny_pyIter_enum he ?_;refine⟨s1.heap.objs.size+1,[s1.heap.objs.size+1,s1.heap.objs.size],_,_,H1,rfl,I1.kept (t':=s1.toks) fun b o e=>kk b o e,ZhM a _ _ (Nat.succ_ne_self _),⟨⟨.none,he⟩,hit⟩,fun b hb=>?_,q⟩;have hle:s1.heap.objs.size<=b:=by
   rcases QA.mp hb with z | z
   ·rw[z];exact WH _
   ·rw[Qp.mp z];exact Qk _
  exact I1.fpOk hle (I1.hok.fresh hle)
theorem ZlC {K:PySem.W.Frag} {xs:List V} {g:TG} {tb:TS} {D:Zhx} {σ:St} (Pv:Nat->St->Hp->Prop) (h0:Pv 0 σ H) (hl:∀ i σ H,i<=xs.length->Pv i σ H->SqL K H a xs)
  (hs:∀ i x σ H t,xs[i]?=some x->H t=none->Pv i σ H->g (.ref t) σ (upd H t (.tup [.int i,x])) fun σ2 H2=>tb {D with nx:=Pv (i+1),ct:=Pv (i+1),bk:=D.nx} σ2 H2) (hd:∀ σ H,Pv xs.length σ H->D.nx σ H) :
  ∃ W:Nat->Nat->St->Hp->Prop,(∃ m,W 0 m σ H)/\∀ i m σ H,W i m σ H ->
   ((Ite K a).stop i H/\D.nx σ H)\/((Ite K a).go i H/\∃ N:St->Hp->Prop,(∀ σ' H',N σ' H'->∃ m',m'<m/\W (i+1) m' σ' H')/\∀ x H',(Ite K a).yld i H x H'->g x σ H' fun σ2 H2=>tb {D with nx:=N,ct:=N,bk:=D.nx} σ2 H2):=by
 refine⟨fun i m σ H=>m=xs.length-i/\i<=xs.length/\Pv i σ H,⟨xs.length,by simp,QO _,h0⟩,?_⟩;rintro i m σ H ⟨rfl,hi,p⟩;have q:=hl i σ H hi p;by_cases hlt:i<xs.length
 ·refine .inr ⟨⟨xs,xs[i],q,by simp[hlt]⟩,Pv (i+1),fun σ' H' p'=>⟨xs.length-(i+1),by omega,rfl,hlt,p'⟩,fun x H' y=>?_⟩;obtain⟨t,y,ht,rfl,rfl,hy⟩:=y;exact hs i y σ H t (hy xs q) ht p
 ·have e:i=xs.length:=by omega
  subst e;exact .inl ⟨⟨xs,q,Qk _⟩,hd σ H p⟩
end L2
namespace Sh
open PySem L2 PyProof.Rows
variable {P:Program} {w:World} {K:PySem.W.Frag} {mg:Str->Option Value} {base:Heap}
theorem ZW (a:Int) {n:Int} (h:0<n):0<=a % n/\a % n<n:=⟨Int.emod_nonneg _ (by omega),Int.emod_lt_of_pos _ h⟩
theorem Za1 (a b:Str):(a++b).cps.toList=a.cps.toList++b.cps.toList:=by simp[Str.cps_append]
theorem ZJ {a b:Str} (h:a.cps.toList=b.cps.toList):a=b:=by rw[←tx_eta a,←tx_eta b,h]
theorem JM (a b:List Nat):tx a++tx b=tx (a++b):=by
 apply ZJ;rw[Za1,ZN,ZN,ZN]
theorem ZjI:∀ l:List (List Nat),(Txt.join "" (l.map tx))=tx l.flatten:=by
 have key:∀ l:List (List Nat),(Str.join "" (l.map tx)).cps.toList=l.flatten:=by
  intro l;induction l with
  | nil=>rfl
  | cons c r ih =>
   cases r with
   | nil=>simp[Str.join,tx]
   | cons d q =>
    have e:Str.join "" ((c::d::q).map tx)=tx c ++ "" ++ Str.join "" ((d::q).map tx):=rfl;have e2:("" : Str).cps.toList=[]:=rfl;rw[e,Za1,Za1,ih,e2,ZN,WE];rfl
 intro l;apply ZJ;have:Txt.join "" (l.map tx)=Str.join "" (l.map tx):=StrLaws.glued_eq_join _ _;rw[this,key,ZN]
theorem ZdU:∀ l:List Nat,(l.map fun c=>[c]).flatten=l
 | []=>rfl
 | a::l=>by rw[Qh,Uj,ZdU l];rfl
theorem ZjH (l:List Nat):Txt.join "" (l.map fun c=>tx [c])=tx l:=by
 have h:=ZjI (l.map fun c=>[c]);rw[QC,ZdU]at h;exact h
theorem ZqD (xs:List V) (h:xs.length<=63):Ze9 xs none (some 63)=xs:=by
 have e1:HT.sIx xs.length 0 none=0:=rfl;have e2:HT.sIx xs.length xs.length (some 63)=xs.length:=by
  unfold HT.sIx;simp;omega
 unfold Ze9;rw[e1,e2];simp
theorem Zbe:∀ (ys:List Str) (m:Nat),(∀ y∈ys,y.length<=m)->(ys.map (·.length)).sum<=ys.length*m
 | [],m,_=>by simp
 | y::ys,m,h=>by
  have h1:=Zbe ys m fun z hz=>h z (Ql _ hz);have h2:=h y Qi;rw[Qh,Qw,QL,RF];omega
theorem Zkj {z:List Nat} {i:Int} (h0:0<=i) (h1:i<z.length):atI (tx z).cps.toList i=some (z.getD i.toNat 0):=by
 refine Y9 h0 ?_;rw[ZN,Qb,Qa (by omega)];rfl
theorem ZkY:(1:Nat)<=sizeLine:=by rw[sizeLine_eq];decide
theorem Zl {n:Nat} (h:n<=1000):n<=sizeLine:=Zv (by omega)
theorem YD {α:Type} {ns:List α} {f:α->V} {i:Nat} (hi:i<ns.length):(ns.map f).getD i .non=f ns[i]:=by
 rw[Qb,Qd,Qa hi];rfl
theorem YS {α:Type} {ns:List α} {f:α->V} {i:Nat} {x:V} (hi:(ns.map f)[i]?=some x):∃ h:i<ns.length,x=f ns[i]:=by
 have h:i<ns.length:=by
  have:=(Qn.mp hi).1;rw[Qc]at this;exact this
 rw[Qd,Qa h]at hi;exact⟨h,(Option.some.inj hi).symm⟩
end Sh
namespace L2
open PySem PySem.Spec PyProof.Rows
theorem Zkg {a:Nat} {i:Int} (h:i.natAbs<2 ^ a):Builtin.Int.intBits i<=a:=intBits_le_iff.mpr h
def Zru (i j:Int):Prop:=i.natAbs<2 ^ 4000/\j.natAbs<2 ^ 4000
theorem JC {X:Cx}:OpR X (binaryOp .Mult) (rI Zru fun i j=>.int (i*j)):=opI fun _ _ _ _ _ _ _ hc q=>mul_int q (IntMulOk.of_le (m:=4000) (n:=4000) (Zkg hc.1) (Zkg hc.2) (by decide))
def ZqL (_ j:Int):Prop:=j≠0/\j.natAbs<2 ^ 4000
theorem Zce {X:Cx}:OpR X (binaryOp .FloorDiv) (rI ZqL fun i j=>.int (i.fdiv j)):=opI fun _ j _ _ _ _ _ hc q=>floordiv_int hc.1 q (.inl (PyProof.noPylong_of_log2 (by
 have h0:j.natAbs≠0:=fun z=>hc.1 (by omega);have:=(Nat.log2_lt h0).mpr hc.2;omega)))
theorem Zge {k:Nat} {mp:List Nat} {σ:St} {g:TG} {te:TE} {J:It} {H1:Hp} {Q:VK} (n:Nat) (xs:Nat->V) (f:Nat->List V) (hn:n<=sizeLine)
  (hJ:∀ H,Same H1 H->(∀ i,i<n->J.go i H/\∀ x H',J.yld i H x H'->H'=H/\x=xs i)/\J.stop n H)
  (step:∀ i H (Qe:VK),i<n->Same H1 H->(∀ a H6,Same H H6->H a=none->H6 a=some (.lst (f i))->Qe (.ref a) H6)->g (xs i) (lcS k mp σ) H fun σ4 H4=>te σ4 H4 Qe)
  (done:∀ D (as:List Addr) H',as.length=n->(∀ i a,as[i]?=some a->a≠D/\H1 a=none/\H' a=some (.lst (f i)))->Same H1 H'->H1 D=none->H' D=some (.lst (as.map V.ref))->Q (.ref D) H'):Jh k mp σ g Zm2 te J H1 Q:=by
 intro D hD;refine⟨fun i m acc H=>m=n-i/\i<=n/\Same H1 H/\H D=some (.lst acc)/\∃ as:List Addr,acc=as.map V.ref/\as.length=i/\∀ j a,as[j]?=some a->a≠D/\H1 a=none/\H a=some (.lst (f j)),⟨n,by simp,QO _,Zb hD,Zd,[],rfl,rfl,fun j v e=>by simp at e⟩,?_⟩;rintro i m acc H ⟨rfl,hi,hs,hDa,as,rfl,hl,hr⟩;obtain⟨j1,j2⟩:=hJ H hs;by_cases hlt:i<n
 ·refine .inr ⟨(j1 i hlt).1,fun x H3 y=>?_⟩;obtain⟨e1,e2⟩:=(j1 i hlt).2 x H3 y;subst e1 e2;refine step i H3 _ hlt hs fun a H6 s6 ha r6=>⟨s6 _ _ hDa,by rw[Qc];omega,n-(i+1),by omega,rfl,hlt,fun b o e=>?_,Zd,as++[a],by rw[QH];rfl,by rw[Qm,hl];rfl,fun j u e=>?_⟩
  ·rw[Zi (Zm e hD)];exact s6 _ _ (hs b o e)
  ·have naD:a≠D:=fun z=>by rw[z,hDa]at ha;cases ha
   rcases UE j as.length with h | h | h
   ·rw[QP h]at e;obtain⟨q1,q2,q3⟩:=hr j u e;exact⟨q1,q2,by rw[Zi q1];exact s6 _ _ q3⟩
   ·subst h;rw[QQ (Qk _),WN]at e;cases e;exact⟨naD,hs.free ha,by rw[Zi naD,hl];exact r6⟩
   ·rw[Qo (by rw[Qm,QK];omega)]at e;cases e
 ·have e:i=n:=by omega
  subst e;exact .inl ⟨j2,done D as H hl hr hs hD hDa⟩
section
variable {X:Cx} {pins:List (Addr×Obj)} {σ:St} {H₀:Hp} {s₀:Shared} {scope sc:Scope} {N xs:List Str} {mp:List Nat} {fp:List Addr} {z:Str}
end
section
variable {X:Cx} {pins:List (Addr×Obj)} {σ:St} {elt tgt iter:Expr} {ifs:List Expr} {scope sc:Scope} {pos:Pos} {N xs:List Str} {mp:List Nat} {wi:TI} {g:TG} {tc:TT} {te:TE} {z:Str}
end
end L2
namespace Sh
variable {P:Program} {w:World} {K:PySem.W.Frag} {mg:Str->Option Value} {base:Heap}
variable {d:Int} {n p q t:Nat}
abbrev Z7:=Nat->Nat->Int
def Xe:Nat->(Nat->Int)->Int
 | 0,_=>0
 | n+1,g=>Xe n g+g n
def Zaf (i:Nat):Int:=if i % 2=0 then 1 else -1
def rmv (i r:Nat):Nat:=if r<i then r else r+1
def det:Nat->Z7->Int
 | 0,_=>1
 | n+1,f=>Xe (n+1) fun i=>Zaf i*f i 0*det n fun r c=>f (rmv i r) (c+1)
theorem Yr {g h:Nat->Int}:∀ {n:Nat},(∀ i,i<n->g i=h i)->Xe n g=Xe n h
 | 0,_=>rfl
 | n+1,e=>by
  rw[Xe,Xe,Yr (n:=n) fun i hi=>e i (by omega),e n (by omega)]
theorem Zaa (a b:Int) (g h:Nat->Int):∀ n:Nat,Xe n (fun i=>a*g i+b*h i)=a*Xe n g+b*Xe n h
 | 0=>by simp[Xe]
 | n+1=>by
  rw[Xe,Xe,Xe,Zaa a b g h n];rw[Ry,Ry];omega
theorem X1 {g:Nat->Int}:∀ {n:Nat},(∀ i,i<n->g i=0)->Xe n g=0
 | 0,_=>rfl
 | n+1,e=>by
  rw[Xe,X1 (n:=n) fun i hi=>e i (by omega),e n (by omega)];rfl
theorem Zc5 {g:Nat->Int} {p:Nat} (h2:g p+g (p+1)=0):∀ {n:Nat},p+1<n->(∀ i,i<n->i≠p->i≠p+1->g i=0)->Xe n g=0
 | 0,h,_=>by omega
 | n+1,h,e=>by
  by_cases c:n=p+1
  ·subst c;rw[Xe,Xe,X1 (n:=p) fun i hi=>e i (by omega) (by omega) (by omega)];omega
  ·rw[Xe,Zc5 h2 (n:=n) (by omega) fun i hi=>e i (by omega),e n (by omega) (by omega) c];rfl
theorem Zbg {g:Nat->Int}:∀ {n:Nat},(∀ i,0<i->i<n+1->g i=0)->Xe (n+1) g=g 0
 | 0,_=>by simp[Xe]
 | n+1,e=>by
  rw[Xe,Zbg (n:=n) fun i h1 h2=>e i h1 (by omega),e (n+1) (by omega) (by omega)];omega
theorem Yk:∀ {n:Nat} {f g:Z7},(∀ r,r<n->∀ c,c<n->f r c=g r c)->det n f=det n g
 | 0,_,_,_=>rfl
 | n+1,f,g,e=>by
  rw[det,det];refine Yr fun i hi=>?_;rw[e i hi 0 (by omega),Yk (n:=n) fun r hr c hc=>e (rmv i r) (by unfold rmv;split <;> omega) (c+1) (by omega)]
def Z9 (f:Z7) (p:Nat) (u:Nat->Int):Z7:=fun r=>if r=p then u else f r
theorem Yc {f:Z7} {u:Nat->Int}:Z9 f p u p=u:=by unfold Z9;rw[if_pos rfl]
theorem Yw {f:Z7} {r:Nat} {u:Nat->Int} (h:r≠p):Z9 f p u r=f r:=by unfold Z9;rw[if_neg h]
theorem Yv (f:Z7) (p:Nat):Z9 f p (f p)=f:=by
 funext r
 unfold Z9;split
 ·rename_i e;rw[e]
 ·rfl
theorem Zbl (i r:Nat):rmv i r≠i:=by unfold rmv;split <;> omega
theorem Zcn (f:Z7) (p:Nat) (u:Nat->Int):(fun r c=>Z9 f p u (rmv p r) (c+1))=fun r c=>f (rmv p r) (c+1):=by
 funext r c
 rw[Yw (Zbl p r)]
theorem Zcm (f:Z7) {i:Nat} (u:Nat->Int) (h:i≠p):(fun r c=>Z9 f p u (rmv i r) (c+1))=Z9 (fun r c=>f (rmv i r) (c+1)) (if p<i then p else p-1) (fun c=>u (c+1)):=by
 funext r c
 have key:rmv i r=p↔r=(if p<i then p else p-1):=by
  unfold rmv;split <;> split <;> omega
 by_cases q:r=(if p<i then p else p-1)
 ·show Z9 f p u (rmv i r) (c+1)=Z9 _ _ _ r c;rw[key.mpr q,Yc,q,Yc]
 ·show Z9 f p u (rmv i r) (c+1)=Z9 _ _ _ r c;rw[Yw (fun z=>q (key.mp z)),Yw q]
theorem Xr:∀ {n:Nat} (f:Z7) {p:Nat} (a b:Int) (u v:Nat->Int),p<n->det n (Z9 f p fun c=>a*u c+b*v c)=a*det n (Z9 f p u)+b*det n (Z9 f p v)
 | 0,_,_,_,_,_,_,h=>by omega
 | n+1,f,p,a,b,u,v,h=>by
  rw[det,det,det,←Zaa];refine Yr fun i hi=>?_;by_cases c:i=p
  ·subst c;rw[Zcn,Zcn,Zcn,Yc,Yc,Yc];simp only[Ry,Rz];congr 1 <;> simp only[Q6,Wo,WA]
  ·rw[Zcm f _ c,Zcm f _ c,Zcm f _ c,Yw c,Yw c,Yw c];have ih:=Xr (n:=n) (fun r c=>f (rmv i r) (c+1)) (p:=if p<i then p else p-1) a b (fun c=>u (c+1)) (fun c=>v (c+1)) (by split <;> omega);rw[ih];simp only[Ry];congr 1 <;> simp only[Q6,Wo,WA]
theorem Zae (i:Nat):Zaf (i+1) = - Zaf i:=by
 unfold Zaf;by_cases c:i % 2=0
 ·rw[if_pos c,if_neg (by omega)]
 ·rw[if_neg c,if_pos (by omega)];rfl
theorem ZcJ:∀ {n:Nat} {f:Z7} {p:Nat},p+1<n->f p=f (p+1)->det n f=0
 | 0,_,_,h,_=>by omega
 | n+1,f,p,h,e=>by
  rw[det];refine Zc5 (p:=p) ?_ h fun i hi c1 c2=>?_
  ·have em:(fun r c=>f (rmv p r) (c+1))=fun r c=>f (rmv (p+1) r) (c+1):=by
    funext r c
    unfold rmv;by_cases c1:r<p
    ·rw[if_pos c1,if_pos (by omega)]
    ·rw[if_neg c1];by_cases c2:r=p
     ·subst c2;rw[if_pos (by omega),e]
     ·rw[if_neg (by omega)]
   rw[em,Zae,←e];simp only[Ub];omega
  ·have:det n (fun r c=>f (rmv i r) (c+1))=0:=by
    by_cases c:p+1<i
    ·refine ZcJ (p:=p) (by omega) ?_
     funext q
     unfold rmv;rw[if_pos (by omega),if_pos c,e]
    ·refine ZcJ (p:=p-1) (by omega) ?_
     funext q
     unfold rmv;rw[if_neg (by omega),if_neg (by omega),show p-1+1=p by omega,e]
   rw[this,WS]
def ZhV (f:Z7) (p q:Nat):Z7:=fun r=>if r=p then f q else if r=q then f p else f r
theorem ZkC (f:Z7) (h:p≠q):ZhV f p q=Z9 (Z9 f p (f q)) q (f p):=by
 funext r
 unfold ZhV Z9;by_cases c1:r=p
 ·subst c1;rw[if_pos rfl,if_neg h,if_pos rfl]
 ·rw[if_neg c1];split
  ·rfl
  ·rfl
theorem X2 (f:Z7) (u v:Nat->Int) (h:p≠q):Z9 (Z9 f p u) q v=Z9 (Z9 f q v) p u:=by
 funext r
 unfold Z9;by_cases c1:r=p
 ·subst c1;rw[if_neg h,if_pos rfl,if_pos rfl]
 ·rw[if_neg c1,if_neg c1]
theorem Zit (f:Z7) (p:Nat) (u v:Nat->Int):Z9 (Z9 f p u) p v=Z9 f p v:=by
 funext r
 unfold Z9;split <;> rfl
theorem ZlG {f:Z7} (h:p≠q) (hp:p<n) (hq:q<n) (z:∀ g:Z7,g p=g q->det n g=0):det n (ZhV f p q) = - det n f:=by
 have key:∀ (u v:Nat->Int),det n (Z9 (Z9 f p u) q v)+det n (Z9 (Z9 f p v) q u)=0:=fun u v=>by
  have h0:=z (Z9 (Z9 f p fun c=>1*u c+1*v c) q fun c=>1*u c+1*v c) (by rw[Yc,Yw h,Yc]);rw[Xr _ 1 1 u v hq,X2 _ _ _ h,X2 _ _ _ h,Xr _ 1 1 u v hp,Xr _ 1 1 u v hp]at h0;have h1:=z (Z9 (Z9 f q u) p u) (by rw[Yc,Yw (Ne.symm h),Yc]);have h2:=z (Z9 (Z9 f q v) p v) (by rw[Yc,Yw (Ne.symm h),Yc]);rw[h1,h2]at h0;rw[X2 _ _ _ h,X2 (f:=f) (p:=p) v u h];omega
 have h1:=key (f p) (f q);have h2:det n (Z9 (Z9 f p (f p)) q (f q))=det n f:=by rw[Yv,Yv]
 rw[h2]at h1;rw[ZkC f h];omega
theorem Zd2 {f:Z7} (h:p+1<n):det n (ZhV f p (p+1)) = - det n f:=ZlG (by omega) (by omega) h fun g e=>ZcJ h e
theorem ZcL {n:Nat}:∀ (k:Nat) {f:Z7} {p:Nat},p+1+k<n->f p=f (p+1+k)->det n f=0
 | 0,f,p,h,e=>ZcJ (by omega) (by rw[Nat.add_zero]at e;exact e)
 | k+1,f,p,h,e=>by
  have h1:=Zd2 (f:=f) (n:=n) (p:=p+1+k) (by omega);have h2:=ZcL (n:=n) k (f:=ZhV f (p+1+k) (p+1+k+1)) (p:=p) (by omega) (by
   have e1:ZhV f (p+1+k) (p+1+k+1) p=f p:=by
    unfold ZhV;rw[if_neg (by omega),if_neg (by omega)]
   have e2:ZhV f (p+1+k) (p+1+k+1) (p+1+k)=f (p+1+k+1):=by
    unfold ZhV;rw[if_pos rfl]
   rw[e1,e2,e];rfl)
  omega
theorem Zoi {f:Z7} (h:p≠q) (hp:p<n) (hq:q<n) (e:f p=f q):det n f=0:=by
 rcases Nat.lt_or_gt_of_ne h with c | c
 ·exact ZcL (q-p-1) (p:=p) (by omega) (by rw[show p+1+(q-p-1)=q by omega];exact e)
 ·exact ZcL (p-q-1) (p:=q) (by omega) (by rw[show q+1+(p-q-1)=p by omega];exact e.symm)
theorem Zj4 {f:Z7} (a b:Int) (h:p≠q) (hp:p<n) (hq:q<n):det n (Z9 f p fun c=>a*f p c+b*f q c)=a*det n f:=by
 rw[Xr f a b (f p) (f q) hp,Yv,Zoi (f:=Z9 f p (f q)) h hp hq (by rw[Yc,Yw (Ne.symm h)])];omega
theorem Zj0 {f:Z7} (a:Int) (hp:p<n):det n (Z9 f p fun c=>a*f p c)=a*det n f:=by
 have h:=Xr f a 0 (f p) (f p) hp;rw[Yv]at h;have e:(fun c=>a*f p c+0*f p c)=fun c=>a*f p c:=by
  funext c
  omega
 rw[e]at h;omega
def Zei (f:Z7) (p:Nat):Z7:=fun r=>if r=0 then f p else f (rmv p (r-1))
theorem Ze6 {n:Nat}:∀ {p:Nat} {f:Z7},p<n->det n (Zei f p)=Zaf p*det n f
 | 0,f,h=>by
  have e:Zei f 0=f:=by
   funext r
   unfold Zei rmv;split
   ·rename_i c;rw[c]
   ·rw[if_neg (by omega),show r-1+1=r by omega]
  rw[e];simp[Zaf]
 | p+1,f,h=>by
  have e:Zei f (p+1)=Zei (ZhV f p (p+1)) p:=by
   funext r
   unfold Zei rmv ZhV;by_cases c:r=0
   ·rw[if_pos c,if_pos c,if_pos rfl]
   ·rw[if_neg c,if_neg c];by_cases c1:r-1<p
    ·rw[if_pos c1,if_pos (by omega),if_neg (by omega),if_neg (by omega)]
    ·rw[if_neg c1];by_cases c2:r-1=p
     ·rw[if_pos (by omega),if_neg (by omega),if_pos (by omega),c2]
     ·rw[if_neg (by omega),if_neg (by omega),if_neg (by omega)]
  rw[e,Ze6 (p:=p) (by omega),Zd2 h,Zae];simp[VF,Ub]
theorem Zd3 (a:Int):∀ (n:Nat) (f:Z7),det n (fun i j=>a*f i j)=a ^ n*det n f
 | 0,_=>by simp[det]
 | n+1,f=>by
  rw[det,det];have e:∀ g:Nat->Int,a ^ (n+1)*Xe (n+1) g=Xe (n+1) fun i=>a ^ (n+1)*g i+0*g i:=fun g=>by
   rw[Zaa];omega
  rw[e];refine Yr fun i hi=>?_;rw[Zd3 a n fun r c=>f (rmv i r) (c+1),Vo];simp only[Wx,Ue,Q6,Wo,WA]
theorem ZcM {f:Z7} (h:∀ i,0<i->i<n+1->f i 0=0):det (n+1) f=f 0 0*det n fun r c=>f (r+1) (c+1):=by
 rw[det,Zbg fun i h1 h2=>by rw[h i h1 h2,WS,Wx]];have e:(fun r c=>f (rmv 0 r) (c+1))=fun r c=>f (r+1) (c+1):=by
  funext r c
  unfold rmv;rw[if_neg (by omega)]
 rw[e];simp[Zaf]
def clr (f:Z7) (m:Nat):Z7:=fun r=>if r=0 then f 0 else if r<=m then fun c=>f 0 0*f r c + -(f r 0)*f 0 c else f r
theorem Zj3 {k:Nat} {f:Z7}:∀ m,m<=k+1->det (k+2) (clr f m)=f 0 0 ^ m*det (k+2) f
 | 0,_=>by
  have e:clr f 0=f:=by
   funext r
   unfold clr;split
   ·rename_i c;rw[c]
   ·rw[if_neg (by omega)]
  rw[e];simp
 | m+1,h=>by
  have e:clr f (m+1)=Z9 (clr f m) (m+1) fun c=>f 0 0*clr f m (m+1) c + -(f (m+1) 0)*clr f m 0 c:=by
   funext r
   unfold Z9 clr;by_cases c:r=m+1
   ·subst c;rw[if_neg (by omega),if_pos (Qk _),if_pos rfl,if_neg (by omega),if_neg (by omega),if_pos rfl]
   ·rw[if_neg c];by_cases c0:r=0
    ·rw[if_pos c0,if_pos c0]
    ·rw[if_neg c0,if_neg c0];by_cases c1:r<=m
     ·rw[if_pos (by omega),if_pos c1]
     ·rw[if_neg (by omega),if_neg c1]
  rw[e,Zj4 (f 0 0) (-(f (m+1) 0)) (by omega) (by omega) (by omega),Zj3 m (by omega),Vo];simp only[Q6,Wo,WA]
def ZlI (f:Z7):Z7:=fun i j=>f 0 0*f (i+1) (j+1)-f (i+1) 0*f 0 (j+1)
theorem Zrn (k:Nat) (f:Z7):f 0 0*det (k+1) (ZlI f)=f 0 0 ^ (k+1)*det (k+2) f:=by
 rw[←Zj3 (k+1) (Qk _),ZcM (f:=clr f (k+1)) fun i h1 h2=>by
  unfold clr;rw[if_neg (by omega),if_pos (by omega)];show f 0 0*f i 0 + -(f i 0)*f 0 0=0;rw[Ub,WA (f i 0)];omega]
 have e:clr f (k+1) 0 0=f 0 0:=by
  unfold clr;rw[if_pos rfl]
 rw[e];congr 1;refine Yk fun r hr c hc=>?_;unfold clr ZlI;rw[if_neg (by omega),if_pos (by omega)];show _=f 0 0*f (r+1) (c+1) + -(f (r+1) 0)*f 0 (c+1);rw[Ub];rfl
def ZlS (M:Z7) (t:Nat) (d:Int) (R:Z7):Prop:=∀ (k:Nat) (ρ γ:Nat->Nat),∃ ρ' γ':Nat->Nat,det (k+1) (fun i j=>R (ρ i) (γ j))=d ^ k*det (k+1+t) fun i j=>M (ρ' i) (γ' j)
theorem Zhj (M:Z7):ZlS M 0 1 M:=fun k ρ γ=>⟨ρ,γ,by rw[Int.one_pow,Q9]⟩
theorem ZlE (f:Z7):det 2 f=f 0 0*f 1 1-f 1 0*f 0 1:=by
 simp[det,Xe,Zaf,rmv];rw[Ub];rfl
theorem Zly {M R:Z7} (h:ZlS M t d R) (p i j:Nat):d ∣ R p 0*R i (j+1)-R i 0*R p (j+1):=by
 obtain⟨ρ',γ',e⟩:=h 1 (fun a=>if a=0 then p else i) (fun b=>if b=0 then 0 else j+1);rw[ZlE,Int.pow_one]at e;exact⟨_,e⟩
def ZaM (R:Z7) (d:Int) (p:Nat):Z7:=fun i j=>(R p 0*R (rmv p i) (j+1)-R (rmv p i) 0*R p (j+1)) / d
theorem Zf6 {M R:Z7} (h:ZlS M t d R) (p i j:Nat):d*ZaM R d p i j=R p 0*R (rmv p i) (j+1)-R (rmv p i) 0*R p (j+1):=Int.mul_ediv_cancel' (Zly h p (rmv p i) j)
theorem Zf7 {M R:Z7} (h:ZlS M t d R) (hd:d≠0) (hp:R p 0≠0) (k:Nat) (ρ γ:Nat->Nat) {q:Int}
  (e:det (k+2) (fun i j=>R (if i=0 then p else rmv p (ρ (i-1))) (if j=0 then 0 else γ (j-1)+1))=d ^ (k+1)*q):det (k+1) (fun i j=>ZaM R d p (ρ i) (γ j))=R p 0 ^ k*q:=by
 have c:=Zrn k fun i j=>R (if i=0 then p else rmv p (ρ (i-1))) (if j=0 then 0 else γ (j-1)+1);rw[e]at c;have e2:ZlI (fun i j=>R (if i=0 then p else rmv p (ρ (i-1))) (if j=0 then 0 else γ (j-1)+1))=fun i j=>d*ZaM R d p (ρ i) (γ j):=by
  funext i j
  rw[Zf6 h];unfold ZlI;simp
 rw[e2,Zd3]at c;have c':R p 0*(d ^ (k+1)*det (k+1) fun i j=>ZaM R d p (ρ i) (γ j))=R p 0 ^ (k+1)*(d ^ (k+1)*q):=c;rw[Vo (R p 0)]at c';have hne:R p 0*d ^ (k+1)≠0:=Int.mul_ne_zero hp (VM hd);apply Int.eq_of_mul_eq_mul_left hne
 calc R p 0*d ^ (k+1)*(det (k+1) fun i j=>ZaM R d p (ρ i) (γ j))=R p 0*(d ^ (k+1)*det (k+1) fun i j=>ZaM R d p (ρ i) (γ j)):=by rw[Q6]
  _=R p 0 ^ k*R p 0*(d ^ (k+1)*q):=c'
  _=R p 0*d ^ (k+1)*(R p 0 ^ k*q):=by simp only[Q6,Wo,WA]
theorem ZjR {M R:Z7} (h:ZlS M t d R) (hd:d≠0) (hp:R p 0≠0):ZlS M (t+1) (R p 0) (ZaM R d p):=fun k ρ γ=>by
 obtain⟨ρ',γ',e⟩:=h (k+1) (fun i=>if i=0 then p else rmv p (ρ (i-1))) (fun j=>if j=0 then 0 else γ (j-1)+1);refine⟨ρ',γ',?_⟩;rw[Zf7 h hd hp k ρ γ e];congr 2;omega
theorem Zjf {M R:Z7} {X:Int} (h:ZlS M t d R) (hd:d≠0) (hp:R p 0≠0) {m:Nat} (hpm:p<m+2) (e:det (m+2) R=d ^ (m+1)*X):det (m+1) (ZaM R d p)=R p 0 ^ m*(Zaf p*X):=by
 refine Zf7 h hd hp m id id ?_;have e1:det (m+2) (Zei R p)=Zaf p*det (m+2) R:=Ze6 hpm;rw[e]at e1;have e2:det (m+2) (fun i j=>R (if i=0 then p else rmv p (id (i-1))) (if j=0 then 0 else id (j-1)+1))=det (m+2) (Zei R p):=by
  refine Yk fun r _ c _=>?_;unfold Zei;have ec:(if c=0 then 0 else id (c-1)+1)=c:=by
   split
   ·rename_i q;exact q.symm
   ·show c-1+1=c;omega
  rw[ec];by_cases q:r=0
  ·rw[if_pos q,if_pos q]
  ·rw[if_neg q,if_neg q];rfl
 rw[e2,e1];simp only[Q6,Wo,WA]
theorem ZgC {f:Z7} (h:∀ i,i<n+1->f i 0=0):det (n+1) f=0:=by
 rw[det];exact X1 fun i hi=>by rw[h i hi,WS,Wx]
open PySem L2 PyProof.Rows
def bg (x:Str):Str:=tx x.cps.toList.dropLast
def en (x:Str):Str:=tx (x.cps.toList.drop 1)
abbrev Es:=List (Str×Int)
def ind (p:Prop) [Decidable p]:Int:=if p then 1 else 0
def mo1 (e:Str×Int) (P:Str):Int:=e.2*ind (bg e.1=P)-e.2*ind (en e.1=P)
def mo (es:Es) (P:Str):Int:=(es.map fun e=>mo1 e P).sum
theorem ZnN (es:Es) (e:Str×Int) (P:Str):mo (es++[e]) P=mo es P+mo1 e P:=by
 unfold mo;rw[QH,RS];simp
theorem Zcl (e:Str×Int) (es:Es) (P:Str):mo (e::es) P=mo1 e P+mo es P:=by
 unfold mo;rw[Qh,Qw]
theorem ZeU:∀ {es:Es} {P:Str},(∀ e∈es,bg e.1≠P/\en e.1≠P)->mo es P=0
 | [],_,_=>rfl
 | e::es,P,h=>by
  rw[Zcl,ZeU fun x hx=>h x (Ql _ hx)];obtain⟨h1,h2⟩:=h e (Qi ..);unfold mo1 ind;rw[if_neg h1,if_neg h2];simp
def tot (f:Str->Int) (ks:List Str):Int:=(ks.map f).sum
theorem Xx (f:Str->Int) (x:Str) (ks:List Str):tot f (x::ks)=f x+tot f ks:=by
 unfold tot;rw[Qh,Qw]
theorem Zeh (f g:Str->Int):∀ ks:List Str,tot (fun x=>f x+g x) ks=tot f ks+tot g ks
 | []=>rfl
 | x::ks=>by
  rw[Xx,Xx,Xx,Zeh f g ks];omega
theorem Zeg (c:Int) (y:Str):∀ ks:List Str,ks.Nodup->tot (fun P=>c*ind (y=P)) ks=if y∈ks then c else 0
 | [],_=>rfl
 | x::ks,nd=>by
  have nd':=Q7.mp nd;rw[Xx,Zeg c y ks nd'.2];unfold ind;by_cases e:y=x
  ·subst e;rw[if_pos rfl,if_neg nd'.1,if_pos (Qi ..)];omega
  ·rw[if_neg e];have:(y∈x::ks)↔y∈ks:=by simp[e]
   simp only[this];omega
theorem Zfr:∀ ks:List Str,tot (fun _=>0) ks=0
 | []=>rfl
 | x::ks=>by rw[Xx,Zfr ks];rfl
theorem ZlU {ks:List Str} (nd:ks.Nodup):∀ {es:Es},(∀ e∈es,bg e.1∈ks/\en e.1∈ks)->tot (mo es) ks=0
 | [],_=>Zfr ks
 | e::es,h=>by
  have e1:tot (mo (e::es)) ks=tot (fun P=>mo1 e P+mo es P) ks:=by
   unfold tot;exact congrArg List.sum (Qu fun P _=>Zcl e es P)
  rw[e1,Zeh,ZlU nd fun x hx=>h x (Ql _ hx)];obtain⟨h1,h2⟩:=h e (Qi ..);have e2:tot (mo1 e) ks=tot (fun P=>e.2*ind (bg e.1=P) + -e.2*ind (en e.1=P)) ks:=by
   unfold tot;congr 1;refine Qu fun P _=>?_;unfold mo1;rw[Ub];omega
  rw[e2,Zeh,Zeg _ _ _ nd,Zeg _ _ _ nd,if_pos h1,if_pos h2];omega
def ups (f:Str->Int) (ss:List Str):Es:=(ss.filter fun x=>decide (0<f x)).map fun x=>(x,f x)
def sm (es:Es):Int:=(es.map fun e=>e.2).sum
theorem Zfn (f:Str->Int) (x:Str) (ss:List Str):sm (ups f (x::ss))=(if 0<f x then f x else 0)+sm (ups f ss):=by
 unfold sm ups;rw[Wv];by_cases c:0<f x
 ·rw[if_pos c,if_pos (by simpa using c)];simp
 ·rw[if_neg c,if_neg (by simpa using c)];simp
theorem ZhF (f:Str->Int):∀ ss:List Str,sm (ups f ss)-sm (ups (fun x=>-f x) ss)=tot f ss
 | []=>rfl
 | x::ss=>by
  have ih:=ZhF f ss;rw[Zfn,Zfn,Xx];split <;> split <;> omega
theorem Zow {f:Str->Int} {b:Nat} (h:∀ x,(f x).natAbs<=b) (ss:List Str):∀ e∈ups f ss,0<e.2/\e.2<=b:=fun e he=>by
 unfold ups at he;obtain⟨x,hx,rfl⟩:=Qj.mp he;have h1:=(QD.mp hx).2;have h2:=h x;simp at h1;constructor
 ·exact h1
 ·show f x<=b;omega
theorem Zpg:∀ {es:Es} {b:Nat} (P:Str),(∀ e∈es,0<=e.2/\e.2<=b)->(mo es P).natAbs<=b*es.length
 | [],_,_,_=>by simp[mo]
 | e::es,b,P,h=>by
  have ih:=Zpg (es:=es) P fun x hx=>h x (Ql _ hx);obtain⟨h1,h2⟩:=h e (Qi ..);rw[Zcl,QL,Nat.mul_add];have:(mo1 e P).natAbs<=b:=by
   unfold mo1 ind;split <;> split <;> omega
  omega
def pcs (z:List Nat) (L:Nat):List Str:=(Qx (z.length-L+1)).map fun i=>tx ((z.drop i).take L)
theorem YH (z:List Nat):(tx z).cps.toList=z:=ZN z
def Adj (es:Es) (P y:Str):Prop:=∃ e∈es,(bg e.1=P/\en e.1=y)\/(en e.1=P/\bg e.1=y)
inductive Rch (es:Es) (a:Str):Str->Prop where
 | here:Rch es a a
 | step {P y:Str} (h:Rch es a P) (k:Adj es P y):Rch es a y
theorem Rch.closed {es:Es} {a:Str} {F:Str->Prop} (ha:F a) (hc:∀ P,F P->∀ y,Adj es P y->F y) {y:Str} (h:Rch es a y):F y:=by
 induction h with
 | here=>exact ha
 | step _ k ih=>exact hc _ ih _ k
theorem ZlO {es:Es} {e:Str×Int} {P y:Str}:Adj (es++[e]) P y↔Adj es P y\/(bg e.1=P/\en e.1=y)\/(en e.1=P/\bg e.1=y):=by
 unfold Adj;constructor
 ·rintro⟨x,hx,q⟩;rcases QE.mp hx with z | z
  ·exact .inl ⟨x,z,q⟩
  ·rw[Qp.mp z]at q;exact .inr q
 ·rintro(⟨x,hx,q⟩ | q)
  ·exact⟨x,Q0 _ hx,q⟩
  ·exact⟨e,by simp,q⟩
end Sh
namespace Tim
open PySem PySem.W PyProof.Rows
variable {i:Nat} {s:Shared}
section
variable {M:Model} {A:Around} {E:Value->Shared->Prop} {σ:Type}
theorem Zcv {α:Type} {m:StateT σ Sem α} {Q Q':α->σ->Shared->Prop} {st:σ} (h:kasC M A E m Q st s) (hq:∀ a st' s',Q a st' s'->Q' a st' s'):kasC M A E m Q' st s :=
 wpAny_mono h (fun r s' h'=>hq _ _ _ h') fun _ _ e=>e
theorem ZjE {β:Type} {f:Nat->β->StateT σ Sem (ForInStep β)} {Q:β->σ->Shared->Prop} (I:Nat->β->σ->Shared->Prop) (b:Nat)
  (step:∀ i c st s,i<b->I i c st s->kasC M A E (f i c) (fun r st' s'=>match r with | .done c'=>Q c' st' s' | .yield c'=>I (i+1) c' st' s') st s)
  (fin:∀ c st s,I b c st s->Q c st s):∀ (n i:Nat) (c:β) (st:σ) (s:Shared),i+n=b->I i c st s->kasC M A E (forIn (Um i n) c f) Q st s
 | 0,i,c,st,s,e,h=>by
  rw[List.range'_zero];refine kasC_nil (fin c st s ?_);have:i=b:=by omega
  rw[←this];exact h
 | n+1,i,c,st,s,e,h=>by
  rw[List.range'_succ];refine kasC_cons (Zcv (step i c st s (by omega) h) fun r st' s' h'=>?_);cases r with
  | done c'=>exact h'
  | yield c'=>exact ZjE I b step fin n (i+1) c' st' s' (by omega) h'
theorem ZjF {β:Type} {a b:Nat} {c:β} {f:Nat->β->StateT σ Sem (ForInStep β)} {Q:β->σ->Shared->Prop} {st:σ} (I:Nat->β->σ->Shared->Prop) (h:I a c st s)
  (step:∀ i c st s,i<max a b->I i c st s->kasC M A E (f i c) (fun r st' s'=>match r with | .done c'=>Q c' st' s' | .yield c'=>I (i+1) c' st' s') st s)
  (fin:∀ c st s,I (max a b) c st s->Q c st s):kasC M A E (forIn [a:b] c f) Q st s :=
 kasC_range (ZjE I (max a b) step fin (b-a) a c st s (by omega) h)
end
section
variable {prog:Program} {w:World} {A:Around} {E:Value->Shared->Prop}
structure ZpS (prog:Program) (w:World) (A:Around) (κ:SortKind) (ϕ:Keyed->Nat) (U:Keyed->Prop) (G:Shared->Prop):Prop where
 ask:∀ (x y:Keyed) (C:Bool->Shared->Prop) (s:Shared),U x->U y->G s->(∀ s',G s'->C (decide (ϕ x<ϕ y)) s')->wpAny (model prog w) A (keyLt' κ x.1 y.1) C (fun _ _=>False) s
variable {κ:SortKind} {ϕ:Keyed->Nat} {U:Keyed->Prop} {G:Shared->Prop}
theorem Zqr (R:ZpS prog w A κ ϕ U G) {x y:Keyed} {Q:Option Bool->SortSt->Shared->Prop} {st:SortSt} (hk:kindOf st=κ) (hx:U x) (hy:U y) (g:G s) (h:∀ s',G s'->Q (some (decide (ϕ x<ϕ y))) st s') :
  kasC (model prog w) A E (lt' x y) Q st s:=by
 rw[lt'_eq];refine kasC_bind (kasC_get ?_);rw[hk];refine kasC_bind (kasC_lift (wpAny_attempt (wpAny_mono (R.ask x y (fun c s'=>Q (some c) st s') s hx hy g h) (fun c s' hc=>?_) fun _ _ hF=>hF.elim)));exact kasC_pure hc
theorem ZjG {xs:Array Keyed} {x:Keyed} {Q:Keyed->SortSt->Shared->Prop} {st:SortSt} (hx:xs[i]?=some x) (h:Q x st s):kasC (model prog w) A E (elem' xs i) Q st s:=by
 rw[elem'_eq,hx];exact kasC_pure h
def fx (ϕ:Keyed->Nat) (xs:Array Keyed) (i:Nat):Nat:=match xs[i]? with
 | some p=>ϕ p
 | none=>0
theorem Zob {xs:Array Keyed} {x:Keyed} (h:xs[i]?=some x):fx ϕ xs i=ϕ x:=by unfold fx;rw[h]
def Al (U:Keyed->Prop) (xs:Array Keyed):Prop:=∀ (i:Nat) x,xs[i]?=some x->U x
end
section
variable {ϕ:Keyed->Nat} {T o X Y x y:List Keyed}
end
section
variable {prog:Program} {w:World} {A:Around} {E:Value->Shared->Prop} {κ:SortKind} {ϕ:Keyed->Nat} {U:Keyed->Prop} {G:Shared->Prop}
end
section
variable {ϕ:Keyed->Nat} {T O X Y x y:List Keyed}
end
section
variable {prog:Program} {w:World} {A:Around} {E:Value->Shared->Prop} {κ:SortKind} {ϕ:Keyed->Nat} {U:Keyed->Prop} {G:Shared->Prop}
end
structure Kp (lo:Nat) (st st':SortSt):Prop where
 kind:kindOf st'=kindOf st
 pend:pendingOf st'=pendingOf st
 fail:failedOf st'=failedOf st
 perm:(arrOf st').Perm (arrOf st)
 low:∀ i,i<lo->(arrOf st')[i]?=(arrOf st)[i]?
theorem Kp.size {lo:Nat} {st st':SortSt} (h:Kp lo st st'):(arrOf st').size=(arrOf st).size:=h.perm.size_eq
section
variable {prog:Program} {w:World} {A:Around} {E:Value->Shared->Prop} {κ:SortKind} {ϕ:Keyed->Nat} {U:Keyed->Prop} {G:Shared->Prop}
theorem Zqs (R:ZpS prog w A κ ϕ U G) {j:Nat} {Q:Option Bool->SortSt->Shared->Prop} {st:SortSt} (hk:kindOf st=κ) (ha:Al U (arrOf st)) (hi:i<(arrOf st).size) (hj:j<(arrOf st).size) (g:G s)
  (h:∀ s',G s'->Q (some (decide (fx ϕ (arrOf st) i<fx ϕ (arrOf st) j))) st s'):kasC (model prog w) A E (ltAt' i j) Q st s:=by
 rw[ltAt'_eq];refine kasC_bind (kasC_get ?_);have e1:(arrOf st)[i]?=some (arrOf st)[i]:=QX hi;have e2:(arrOf st)[j]?=some (arrOf st)[j]:=QX hj;rw[Zob e1,Zob e2]at h;exact kasC_bind (ZjG e1 (kasC_bind (ZjG e2 (Zqr R hk (ha _ _ e1) (ha _ _ e2) g h))))
end
section
variable {ϕ:Keyed->Nat}
end
section
variable {prog:Program} {w:World} {A:Around} {E:Value->Shared->Prop} {κ:SortKind} {ϕ:Keyed->Nat} {U:Keyed->Prop} {G:Shared->Prop}
end
section
variable {prog:Program} {w:World} {A:Around} {E:Value->Shared->Prop} {κ:SortKind} {ϕ:Keyed->Nat} {U:Keyed->Prop} {G:Shared->Prop}
end
structure WO (n:Nat) (lt:Nat->Nat->Bool):Prop where
 irr:∀ i,i<n->lt i i=false
 tr:∀ i j k,i<n->j<n->k<n->lt i j=true->lt j k=true->lt i k=true
 ntr:∀ i j k,i<n->j<n->k<n->lt k j=true->lt k i=true\/lt i j=true
def rk (n:Nat) (lt:Nat->Nat->Bool) (i:Nat):Nat:=((Qx n).filter fun k=>lt k i).length
theorem Y8 {α:Type} {p q:α->Bool}:∀ (l:List α),(∀ x∈l,p x=true->q x=true)->(l.filter p).length<=(l.filter q).length
 | [],_=>Qk _
 | x::l,h=>by
  have ih:=Y8 l fun y hy=>h y (Ql _ hy);rw[Wv,Wv];by_cases c:p x=true
  ·rw[if_pos c,if_pos (h x (Qi ..) c)];simpa using ih
  ·rw[if_neg c];split
   ·simp only[QL];omega
   ·exact ih
theorem Jg {α:Type} {p q:α->Bool}:∀ (l:List α),(∀ x∈l,p x=true->q x=true)->(∃ x∈l,p x=false/\q x=true)->(l.filter p).length<(l.filter q).length
 | [],_,⟨x,hx,_⟩=>nomatch hx
 | x::l,h,⟨y,hy,e1,e2⟩=>by
  have le:=Y8 l fun z hz=>h z (Ql _ hz);rw[Wv,Wv];rcases QA.mp hy with z | z
  ·subst z;rw[if_neg (by rw[e1];decide),if_pos e2];simp only[QL];omega
  ·have ih:=Jg l (fun z hz=>h z (Ql _ hz)) ⟨y,z,e1,e2⟩;by_cases c:p x=true
   ·rw[if_pos c,if_pos (h x (Qi ..) c)];simpa using ih
   ·rw[if_neg c];split
    ·simp only[QL];omega
    ·exact ih
theorem WO.rk_lt {n:Nat} {lt:Nat->Nat->Bool} (o:WO n lt) {j:Nat} (hi:i<n) (hj:j<n):decide (rk n lt i<rk n lt j)=lt i j:=by
 cases c:lt i j with
 | true =>
  refine decide_eq_true (Jg _ (fun k hk h=>o.tr k i j (Wg.mp hk) hi hj h c) ⟨i,Wg.mpr hi,o.irr i hi,c⟩)
 | false =>
  refine decide_eq_false (R9.mpr (Y8 _ fun k hk h=>?_));rcases o.ntr i j k hi hj (Wg.mp hk) h with z | z
  ·exact z
  ·rw[c]at z;cases z
section
variable {prog:Program} {w:World} {A:Around} {E:Value->Shared->Prop} {s:Shared}
open Classical in
noncomputable def phi (vs:List Value) (lt:Nat->Nat->Bool) (x:Keyed):Nat:=if h:∃ i,vs[i]?=some x.1 then rk vs.length lt (Classical.choose h)else 0
end
structure ZmN (prog:Program) (w:World) (h1:Heap) (vs:List Value) (lt:Nat->Nat->Bool) (κ:SortKind):Prop where
 wo:WO vs.length lt
 same:∀ i j,i<vs.length->vs[i]?=vs[j]?->∀ k,lt k i=lt k j
 kd:∀ (A:Around) (E:Value->Shared->Prop) (s:Shared) (Q:SortKind->Shared->Prop),(∀ b o,h1.get? b=some o->s.heap.get? b=some o)->2<=vs.length->Q κ s->wpAny (model prog w) A (keyKind' vs.toArray) Q E s
 ask:∀ (A:Around) (s:Shared) (i j:Nat) (x y:Value) (C:Bool->Shared->Prop),(∀ b o,h1.get? b=some o->s.heap.get? b=some o)->vs[i]?=some x->vs[j]?=some y->(∀ tk,C (lt i j) {s with toks:=tk})->wpAny (model prog w) A (keyLt' κ x y) C (fun _ _=>False) s
section
variable {prog:Program} {w:World} {A:Around} {E:Value->Shared->Prop} {s:Shared}
def ltS (xs:List Str) (i j:Nat):Bool:=decide ((xs.getD i "").cps.toList<(xs.getD j "").cps.toList)
theorem Zph (xs:List Str) (n:Nat):WO n (ltS xs) where
 irr:=fun i _=>by
  unfold ltS;exact decide_eq_false (Wm _)
 tr:=fun i j k _ _ _ h1 h2=>by
  unfold ltS at *;rw[decide_eq_true_eq]at *;exact U7 h1 h2
 ntr:=fun i j k _ _ _ h=>by
  unfold ltS at *;rw[decide_eq_true_eq]at h;rw[decide_eq_true_eq,decide_eq_true_eq];by_cases c:(xs.getD k "").cps.toList<(xs.getD i "").cps.toList
  ·exact .inl c
  ·exact .inr (Vg (WP.mp c) h)
theorem strs_at:∀ {vs:List Value} {xs:List Str},StrsAre vs xs->∀ (i:Nat) (v:Value),vs[i]?=some v->∃ t,v= .str (xs.getD i "") t/\xs[i]?=some (xs.getD i "")
 | _,_,.nil,i,v,h=>by simp at h
 | _,_,.cons y t r,0,v,h=>by
  simp at h;exact⟨t,by rw[←h];rfl,rfl⟩
 | _,_,.cons y t r,i+1,v,h=>by
  obtain⟨t',e1,e2⟩:=strs_at r i v (by simpa using h);exact⟨t',by rw[e1];rfl,by simpa using e2⟩
theorem strs_len:∀ {vs:List Value} {xs:List Str},StrsAre vs xs->vs.length=xs.length
 | _,_,.nil=>rfl
 | _,_,.cons y t r=>by simp[strs_len r]
theorem sa_strs {h1:Heap} {vs:List Value} {xs:List Str} (hS:StrsAre vs xs):ZmN prog w h1 vs (ltS xs) oneType' where
 wo:=Zph xs _
 same:=fun i j hi e k=>by
  have hj:vs[j]?=some vs[i]:=by rw[←e];exact Qa hi
  obtain⟨t1,e1,_⟩:=strs_at hS i _ (Qa hi);obtain⟨t2,e2,_⟩:=strs_at hS j _ hj;rw[e1]at e2;injection e2 with e2 _
  unfold ltS;rw[e2]
 kd:=fun A E s Q _ h2 q=>by
  match vs,hS,h2 with
  | v1::v2::vs,hS,_ =>
   rw[keyKind_strs hS];exact wpAny_pure q
 ask:=fun A s i j x y C _ e1 e2 q=>by
  obtain⟨t1,rfl,_⟩:=strs_at hS i _ e1;obtain⟨t2,rfl,_⟩:=strs_at hS j _ e2;exact kas_lt_str (q s.toks)
theorem lt_ne {x y:Str} (h:¬ x.cps.toList<y.cps.toList) (h2:¬ x=y):y.cps.toList<x.cps.toList:=by
 by_cases c:y.cps.toList<x.cps.toList
 ·exact c
 ·have e:=Ra (WP.mp c) (WP.mp h);exact absurd (by rw[←L2.tx_eta x,←L2.tx_eta y,e]) h2
end
end Tim
namespace L2
open PySem PySem.Spec PyProof.Rows PySem.W
variable {J a:Addr} {Q:Value->Shared->Prop} {ep i n:Nat} {h:Heap} {ks:List Str} {o:Obj} {x:Str}
section
variable {prog:Program} {w:World} {A:Around} {E:Value->Shared->Prop} {s:Shared}
theorem Zbk (h:n<=1000):n<=sizeLine:=by rw[sizeLine_eq];omega
theorem Zqk {xs:List Str} {p:Array Nat} (hl:xs.length=n) (nd:xs.Nodup) (hp:Srt.Pm n p) (h:∀ i j,i<j->j<n->Tim.ltS xs (p.getD j 0) (p.getD i 0)=false):Srt.Up (ltX xs) p n:=fun i j hij hj=>by
 have h1:=h i j hij hj;have bi:=hp.below (show i<n by omega);have bj:=hp.below hj;have ne:=hp.ne (show i<n by omega) hj (by omega);unfold Tim.ltS at h1;unfold ltX;rw[decide_eq_false_iff_not]at h1;rw[decide_eq_true_eq];refine Tim.lt_ne h1 fun e=>ne ?_;rw[YE (by omega),YE (by omega)]at e;exact((WX nd).mp e).symm
end
theorem ZeG {X:Cx} {pins:List (Addr×Obj)} {σ:St} {H:Hp} {s:Shared} {h3:Heap} {tk:Nat} {D:Addr} {vs:List V} (I:Inv X pins σ H s) (k:∀ b u,s.heap.get? b=some u->h3.get? b=some u) (hD:s.heap.get? D=none) (hz:vs.length<=sizeLine)
  (ho:∃ (its:List Value) (n:Nat),Vals vs its/\h3.get? D=some {cls:=.type "list",data:=.seq its.toArray n}):H D=none/\Inv X pins σ (upd H D (.lst vs)) {s with heap:=h3,toks:=tk}:=by
 have hn:H D=none:=by
  cases e:H D with
  | none=>rfl
  | some u =>
   obtain⟨v,hv⟩:=(I.hok D u e).there';rw[hD]at hv;cases hv
 refine⟨hn,?_⟩;have:=I.laidN (N:=fun b=>if b=D then some (.lst vs)else none) (tk:=tk) k fun a o e=>by
  by_cases c:a=D
  ·subst c;rw[if_pos rfl]at e;cases e;exact⟨hD,fun H2=>⟨hz,ho⟩⟩
  ·rw[if_neg c]at e;cases e
 have e:(fun b=>(if b=D then some (HO.lst vs)else none).or (H b))=upd H D (.lst vs):=by
  funext b
  by_cases c:b=D
  ·subst c;rw[if_pos rfl,RZ,Zd]
  ·rw[if_neg c,U0,Zi c]
 rw[e]at this;exact this
theorem JB {α:Type} {d:α} (ks:List α) (p:Array Nat) (hp:Srt.Pm ks.length p):(p.toList.map fun i=>ks.getD i d).Perm ks:=by
 have h1:=(UR.mp hp.perm).map fun i=>ks.getD i d;have h2:((Qx ks.length).toArray.toList.map fun i=>ks.getD i d)=ks:=by
  apply QT;intro i;simp only[Qd];by_cases hi:i<ks.length
  ·rw[QM hi,Qa hi,Wj,Qb,Qa hi];rfl
  ·rw[Qo (by simp;omega),Qo (by omega)];rfl
 rw[h2]at h1;exact h1
theorem ZkS {p:Array Nat} (hp:Srt.Pm n p) (hi:i<p.toList.length):p.getD i 0=p.toList[i]:=by
 rw[QZ,QX (by simpa using hi)];simp
theorem ZlZ {xs:List Str} {p:Array Nat} (hp:Srt.Pm xs.length p) (h:∀ i j,i<j->j<xs.length->Tim.ltS xs (p.getD j 0) (p.getD i 0)=false):((p.toList.map fun i=>xs.getD i "").map fun x=>x.cps.toList).Pairwise (·<=·):=by
 rw[QC,QR,WR];intro i j hi hj hij;have hz:p.toList.length=xs.length:=by rw[QG,hp.size]
 have hu:=h i j hij (by omega);unfold Tim.ltS at hu;rw[decide_eq_false_iff_not,ZkS hp hi,ZkS hp hj]at hu;exact WP.mp hu
theorem Zi1:∀ {ks:List Str} {g:Str->V} {vs:List (Key×Value)},KV (ks.map fun x=>((Sum.inr x:Key),g x)) vs->∀ (i:Nat) (k:Key) (x:Value),vs[i]?=some (k,x)->k=Sum.inr (ks.getD i "")/\i<ks.length:=by
 intro ks g vs kv i k x e;have ek:=congrArg (fun l:List Key=>l[i]?) kv.keys;simp only[Qd]at ek;rw[e]at ek;cases z:ks[i]? with
 | none=>rw[z]at ek;cases ek
 | some y =>
  rw[z]at ek;refine⟨?_,(Qn.mp z).1⟩;rw[Qb,z];exact(Option.some.inj ek).symm
open PySem PySem.Spec PyProof.Rows
theorem ZiI {t t':SetTable} {hs:Array Int} {od:Array Nat} (h:t.relaid hs n=some (t',od)):t'.led=t.led/\t'.plain=t.plain:=by
 unfold SetTable.relaid SetTable.laid at h;cases e:SetTable.layClean (SetTable.sizeAbove n-1) hs with
 | none=>rw[e]at h;cases h
 | some ow =>
  rw[e]at h;obtain⟨h1,_⟩:=Prod.mk.inj (Option.some.inj h);rw[←h1];exact⟨rfl,rfl⟩
theorem ZkO (t:SetTable) (es:Array (Int×Value)) (n:Nat):(relayAll t es n).2.1.led=t.led/\(t.plain=false->(relayAll t es n).2.1.plain=false):=by
 unfold relayAll;split
 ·rename_i t' od e;obtain⟨e1,e2⟩:=ZiI e;dsimp only;split
  ·exact⟨e1,fun h=>by rw[e2];exact h⟩
  ·exact⟨rfl,fun _=>rfl⟩
 ·exact⟨rfl,fun _=>rfl⟩
theorem Zpk (t:SetTable) (es:Array (Int×Value)) (hh:Int) (x:Value):(layNew t es hh x).2.1.led=t.led/\(t.plain=false->(layNew t es hh x).2.1.plain=false):=by
 unfold layNew;split
 ·dsimp only;unfold SetTable.orStandIn;split
  ·exact⟨rfl,fun h=>h⟩
  ·exact⟨rfl,fun _=>rfl⟩
 ·exact⟨rfl,fun _=>rfl⟩
def byT (w:World):Bool:=w.params.followText "set-order"
structure StT (prog:Program) (w:World) (h:Heap) (a:Addr) (ks:List Str) (o:Obj) (es:Array (Int×Value)) (ep:Nat) (t:SetTable):Prop where
 ob:h.get? a=some o
 ex:o.ExactSet
 dt:o.data= .set es ep t
 el:ElemsOf (Zt prog w) es.toList
 mem:∀ k:Key,(∃ x,k=Sum.inr x/\x∈ks)↔∃ e∈es.toList,(Zt prog w).is k e.2=true
 len:es.size=ks.length
 nd:ks.Nodup
 fits:t.fits es.size=true
 led:t.led= !byT w
 plain:ks≠[]->t.plain=false
def SetT (prog:Program) (w:World) (h:Heap) (a:Addr) (ks:List Str):Prop:=∃ o es ep t,StT prog w h a ks o es ep t
section
variable {prog:Program} {w:World} {A:Around} {E:Value->Shared->Prop} {s:Shared}
theorem SetT.keep {h':Heap} (x:SetT prog w h a ks) (k:∀ o,h.get? a=some o->h'.get? a=some o):SetT prog w h' a ks:=by
 obtain⟨o,es,ep,t,q⟩:=x;exact⟨o,es,ep,t,{q with ob:=k o q.ob}⟩
def Zhv (ks:List Str) (x:Str):List Str:=if x∈ks then ks else ks++[x]
theorem addS_mem {y:Str}:y∈Zhv ks x↔y∈ks\/y=x:=by
 unfold Zhv;split
 ·rename_i c;exact⟨.inl,fun h=>h.elim id fun e=>e▸c⟩
 ·simp
theorem Zoo (h:ks.Nodup):(Zhv ks x).Nodup:=by
 unfold Zhv;split
 ·exact h
 ·rename_i c;exact WL.mpr ⟨h,by simp,fun a ha b hb e=>by rw[Qp.mp hb]at e;subst e;exact c ha⟩
theorem ZlQ (ks:List Str) (x:Str):(Zhv ks x).length<=ks.length+1:=by
 unfold Zhv;split <;> simp
theorem Zfz {es es':Array (Int×Value)} {t t':SetTable} (ho:h.get? a=some o) (hd:o.data= .set es ep t):(h.update a (Obj.putSet es' t')).get? a=some {o with data:=.set es' (ep+1) t'}:=by
 have:=Wf (Obj.putSet es' t') ho (by rw[putSet_of es' t' hd];rfl);rw[putSet_of es' t' hd]at this;exact this
theorem Zfu {gg:Bool->Sem Unit} (hgg:∀ (b:Bool) (s₁:Shared) (Q':Unit->Shared->Prop),Q' () s₁->wpAny (model prog w) A (gg b) Q' E s₁) {es es1:Array (Int×Value)} {t t2:SetTable} (ho:s.heap.get? a=some o) (hd:o.data= .set es ep t)
  (S:∀ (h:Heap) (ob:Obj) (ep1:Nat) (es2:Array (Int×Value)) (t3:SetTable),h.get? a=some ob->ob.ExactSet->ob.data= .set es2 ep1 t3->List.Perm es2.toList es1.toList->t3.fits es2.size=true->t3.led=t2.led->(t2.plain=false->t3.plain=false)->SetT prog w h a ks) (hx:o.ExactSet) (hb:es1.size<scanBound) (hf:t2.fits es1.size=true) {wd:Bool} {R:Option Bool->Shared->Prop}
  (q:∀ h1,Heap.SameBut a s.heap h1->SetT prog w h1 a ks->R (some true) {s with heap:=h1}) :
  wpAny (model prog w) A (do
    storeSet a es1 t2
    if (!wd&&t2.tooFull)=true then do
      gg (relayAll t2 es1 (SetTable.grown es1.size)).2.2
      storeSet a (relayAll t2 es1 (SetTable.grown es1.size)).1 (relayAll t2 es1 (SetTable.grown es1.size)).2.1
      pure (some true)
     else pure (some true)) R E s:=by
 refine wpAny_bind (wpAny_storeSet_of ho hd ?_ (fits_of_scanBound hb));have o1:=Zfz (es':=es1) (t':=t2) ho hd;have m1:=Heap.SameBut.update s.heap a (Obj.putSet es1 t2);split
 ·have p:=relayAll_perm t2 es1 (SetTable.grown es1.size);have f:=relayAll_fits t2 es1 (SetTable.grown es1.size);obtain⟨l1,l2⟩:=ZkO t2 es1 (SetTable.grown es1.size);generalize relayAll t2 es1 (SetTable.grown es1.size)=rl at p f l1 l2 ⊢;have sz:rl.1.size=es1.size:=by rw[←QG,p.length_eq,QG]
  refine wpAny_bind (hgg _ _ _ (wpAny_bind (wpAny_storeSet_of o1 rfl ?_ (fits_of_scanBound (by rw[sz];exact hb)))));exact wpAny_pure (q _ (m1.trans (Heap.SameBut.update _ a _)) (S _ _ _ rl.1 rl.2.1 (Zfz o1 rfl) hx rfl p f l1 l2))
 ·exact wpAny_pure (q _ m1 (S _ _ _ es1 t2 o1 hx rfl (List.Perm.refl _) hf rfl fun z=>z))
theorem Zng {tk:Tok} {Q:Bool->Shared->Prop} (hS:SetT prog w s.heap a ks) (hroom:ks.length+1<scanBound)
  (q:∀ (r:Bool) (h1:Heap),Heap.SameBut a s.heap h1->SetT prog w h1 a (Zhv ks x)->Q r {s with heap:=h1}):wpAny (model prog w) A (setAddHashed a (.str x tk) ((Zt prog w).hash (Sum.inr x))) Q E s:=by
 obtain⟨o,es,ep,t,T⟩:=hS;have hkey:(Zt prog w).is (Sum.inr x:Key) (.str x tk)=true:=XV prog w x tk;have hb:es.size<scanBound:=by rw[T.len];omega
 unfold setAddHashed setAddHashedIn;refine wpAny_holding (wpAny_bind (wpAny_setState_of T.ob T.dt T.fits ?_));dsimp only;rw[byScan_of (knd:=Zt prog w) rfl hb T.el];simp only[↓reduceIte];unfold setAddByScan;refine wpAny_bind (wpAny_bind (wpAny_rule (wpAny_bind (wpAny_setScan_of hkey T.ob T.dt T.fits T.el ?_))));cases hr:List.findIdx? (fun e=>(Zt prog w).is (Sum.inr x:Key) e.2) es.toList with
 | some j =>
  dsimp only;obtain⟨hj,hpj,_⟩:=Wz.mp hr;obtain⟨y,ey,hy⟩:=(T.mem (Sum.inr x)).mpr ⟨es.toList[j],QF hj,hpj⟩;cases ey;refine wpAny_pure (wpAny_pure ?_);have es0:s={s with heap:=s.heap}:=by cases s;rfl
  rw[es0];refine q _ s.heap (Heap.SameBut.refl a s.heap) ?_;unfold Zhv;rw[if_pos hy];exact⟨o,es,ep,t,T⟩
 | none =>
  dsimp only;have hx:x∉ks:=fun hx=>by
   obtain⟨e,he,hp⟩:=(T.mem (Sum.inr x)).mp ⟨x,rfl,hx⟩;have:=UX.mp hr e he;rw[hp]at this;cases this
  have perm:=layNew_perm t es ((Zt prog w).hash (Sum.inr x)) (.str x tk);have fit:=layNew_fits t es ((Zt prog w).hash (Sum.inr x)) (.str x tk);obtain⟨l1,l2⟩:=Zpk t es ((Zt prog w).hash (Sum.inr x)) (.str x tk);generalize layNew t es ((Zt prog w).hash (Sum.inr x)) (.str x tk)=L at perm fit l1 l2 ⊢;obtain⟨es1,t1,wd,gave⟩:=L;dsimp only at perm fit l1 l2 ⊢;rw[VB]at perm;have sz1:es1.size=ks.length+1:=by rw[←QG,perm.length_eq,Qm,QG,T.len];rfl
  refine wpAny_bind ?_;have hgw:∀ (b:Bool) (s₁:Shared) (Q':Unit->Shared->Prop),Q' () s₁->wpAny (model prog w) A (match b with | true=>rule "set.scan.the-table-gave-way" | false=>pure ()) Q' E s₁:=fun b s₁ Q' hq=>by cases b <;> first | exact wpAny_pure hq | exact wpAny_rule hq
  refine hgw gave _ _ ?_;have mk:∀ (t2:SetTable),t2.led=t1.led->t2.plain=false->∀ (h:Heap) (ob:Obj) (ep1:Nat) (es2:Array (Int×Value)) (t3:SetTable),h.get? a=some ob->ob.ExactSet->ob.data= .set es2 ep1 t3->List.Perm es2.toList es1.toList->t3.fits es2.size=true->t3.led=t2.led->(t2.plain=false->t3.plain=false)->SetT prog w h a (Zhv ks x):=by
   intro t2 e1 e2 h ob ep1 es2 t3 c1 c2 c3 c4 c5 c6 c7;have pp:=c4.trans perm;refine⟨ob,es2,ep1,t3,c1,c2,c3,(T.el.push hkey rfl).perm pp,fun k=>?_,?_,Zoo T.nd,c5,by rw[c6,e1,l1,T.led],fun _=>c7 e2⟩
   ·constructor
    ·rintro⟨y,rfl,hy⟩;rcases addS_mem.mp hy with z | z
     ·obtain⟨e,he,hp⟩:=(T.mem (Sum.inr y)).mp ⟨y,rfl,z⟩;exact⟨e,pp.mem_iff.mpr (Q0 _ he),hp⟩
     ·subst z;exact⟨_,pp.mem_iff.mpr (Q4 _ (Qp.mpr rfl)),hkey⟩
    ·rintro⟨e,he,hp⟩;rcases QE.mp (pp.mem_iff.mp he)with z | z
     ·obtain⟨y,ey,hy⟩:=(T.mem k).mpr ⟨e,z,hp⟩;exact⟨y,ey,addS_mem.mpr (.inl hy)⟩
     ·rw[Qp.mp z]at hp;exact⟨x,(Zt prog w).inj _ _ _ hp hkey,addS_mem.mpr (.inr rfl)⟩
   ·rw[←QG,c4.length_eq,QG,sz1];unfold Zhv;rw[if_neg hx,Qm];rfl
  split
  ·refine wpAny_bind ?_;rw[hashByValue_scannable 8 (x:=.str x tk) rfl];refine wpAny_pure ?_;refine Zfu (t2:=if plainKind (.str x tk)=true then t1 else {t1 with plain:=false}) hgw T.ob T.dt (mk _ rfl rfl) T.ex (by rw[sz1];exact hroom) (SetTable.fits_plain_off fit) fun h1 m hS'=>?_;exact wpAny_pure (q _ h1 m hS')
  ·rename_i hpl;refine wpAny_bind (wpAny_pure ?_);simp only[↓reduceIte];refine Zfu hgw T.ob T.dt (mk t1 rfl (by simpa using hpl)) T.ex (by rw[sz1];exact hroom) fit fun h1 m hS'=>?_;exact wpAny_pure (q _ h1 m hS')
end
def met (val:Nat->Str):Nat->List Str
 | 0=>[]
 | i+1=>Zhv (met val i) (val i)
theorem ZeW (val:Nat->Str):∀ i,(met val i).length<=i
 | 0=>Qk _
 | i+1=>by
  have:=ZlQ (met val i) (val i);have:=ZeW val i;show(Zhv _ _).length<=_;omega
theorem Zjt (val:Nat->Str):∀ i x,x∈met val i↔∃ j,j<i/\val j=x
 | 0,x=>by simp[met]
 | i+1,x=>by
  show x∈Zhv _ _↔_;rw[addS_mem,Zjt val i x];constructor
  ·rintro(⟨j,hj,e⟩ | e)
   ·exact⟨j,by omega,e⟩
   ·exact⟨i,by omega,e.symm⟩
  ·rintro⟨j,hj,e⟩;by_cases c:j=i
   ·subst c;exact .inr e.symm
   ·exact .inl ⟨j,by omega,e⟩
section
variable {prog:Program} {w:World} {A:Around} {R:Result->Shared->Prop} {J:Addr} {fp wr:List Addr} {G:Array GenState->Array GenState->Prop} {n:Nat} {P:Nat->Value->Prop} {St:Nat->Shared->Prop}
theorem ZhG (W:WalksS prog w A.in1 J fp wr G n P St) (S:Addr) (hSf:S∉fp) (val:Nat->Str) (hval:∀ i v,P i v->∃ t,v= .str (val i) t) (hb:n+1<scanBound) :
  ∀ (k i:Nat) (s:Shared),n-i=k->i<=n->St i s->SetT prog w s.heap S (met val i)->(∀ s',Moved (S::wr) G s s'->SetT prog w s'.heap S (met val n)->R (.ok (.ret .none)) s') ->
   codeAny (model prog w) A (.builtin "set.update.loop" ⟨[.ref S,.ref J],[]⟩) R s:=by
 have hSw:S∉wr:=fun h=>hSf (W.sub _ h);have hsub:∀ b∈wr,b∈S::wr:=fun b hb=>Ql _ hb;intro k;induction k with
 | zero =>
  intro i s hk hi hst hS hR;have hin:i=n:=by omega
  subst hin;refine codeAny_builtin PyProof.Rows.F.entry_set_update_loop ?_;rw[Around.under_plainId PyProof.Rows.F.plain_set_update_loop _];refine(show wpAny _ A.in1 (pyNext (.ref J) >>= _) _ _ s from wpAny_bind (W.done s _ _ hst fun s1 mv=>?_));exact(show wpAny _ A.in1 (ret Value.none) _ _ s1 from wpAny_pure (hR s1 (mv.mono hsub) (hS.keep fun o e=>mv.heap S o hSw e)))
 | succ k ih =>
  intro i s hk hi hst hS hR;have hlt:i<n:=by omega
  refine codeAny_builtin PyProof.Rows.F.entry_set_update_loop ?_;rw[Around.under_plainId PyProof.Rows.F.plain_set_update_loop _];refine(show wpAny _ A.in1 (pyNext (.ref J) >>= _) _ _ s from wpAny_bind (W.item i s _ _ hlt hst fun v s1 hP hst1 mv=>?_));obtain⟨t,rfl⟩:=hval i v hP;have hS1:SetT prog w s1.heap S (met val i):=hS.keep fun o e=>mv.heap S o hSw e;refine(show wpAny _ A.in1 (holding [Value.str (val i) t] (setAdd S (.str (val i) t)) >>= _) _ _ s1 from wpAny_bind (wpAny_holding ?_));unfold setAdd;refine wpAny_holding (wpAny_bind ((Zt prog w).pyHash (k:=(Sum.inr (val i):Key)) (XV prog w (val i) t) ?_));refine Zng (s:={s1 with toks:=s1.toks+1}) hS1 (by have:=ZeW val i;omega) fun r h1 sb hS2=>?_;refine wpAny_pure ⟨plainId_quiet PyProof.Rows.F.plain_set_update_loop _,ih (i+1) _ (by omega) hlt (W.frame _ s1 _ _ hst1 (WH _) fun b hb o e=>?_) hS2 fun s2 mv2 hS3=>?_⟩
  ·rw[sb.2 b (fun h:b=S=>hSf (by rw[←h];exact hb))];exact e
  ·refine hR s2 (Moved.trans W.gtrans ((mv.mono hsub).then_heap (WH _) fun b o hb e=>?_) mv2) hS3;rw[sb.2 b (fun h:b=S=>hb (by rw[h];exact Qi))];exact e
end
section
variable {prog:Program} {w:World} {A:Around} {E:Value->Shared->Prop} {s:Shared}
theorem ZnD (a:Value) {Q1:Value->Shared->Prop}
  (q:Q1 (.ref s.heap.objs.size) {s with heap:=s.heap.push {cls:=.type "set",dict:=none,data:=.set #[] 0 (.fresh 0 0 (!byT w))}}) :
  codeAny (model prog w) A (.call (.builtin "set.__new__") ⟨[.type "set",a],[]⟩) (wants Q1 E) s:=by
 refine codeAny_of_tree ?_;refine(show wpAny _ A.in1 (do checkBuiltinCall "set.__new__" ⟨[.type "set",a],[]⟩;again (.builtin "set.__new__" ⟨[.type "set",a],[]⟩)) _ _ s from wpAny_bind (wpAny_of_eq (PySem.F.newCall_set_1 a) (wpAny_pure ⟨plainId_quiet PySem.F.plain_set_new _,codeAny_builtin PySem.F.entry_set_new ?_⟩)));rw[Around.under_plainId PySem.F.plain_set_new _];unfold Builtin.«set.__new__» Builtin.Frozenset.newClass;have hsub:=sub_set_self;obtain⟨hp,gg,dd,tk,os⟩:=s;dsimp only
 wp_walk
 refine wpAny_askSetting (wpAny_pure ?_);dsimp only;simp only[newObj];exact wpAny_bind (wpAny_alloc (wpAny_pure (wpAny_pure q)))
theorem ZjW (e:h.get? a=some {cls:=.type "set",dict:=none,data:=.set #[] 0 (.fresh 0 0 (!byT w))}):SetT prog w h a [] :=
 ⟨_,#[],0,_,e,⟨rfl,rfl,rfl⟩,rfl,fun e he=>by simp at he,fun k=>by simp,rfl,WZ,by rfl,rfl,fun z=>absurd rfl z⟩
theorem Zkc {l:Addr} {items:Array Value} {ss:List Str} (hh:A.handled=none) (hl:s.heap.IsList l items) (hi:StrsAre items.toList ss) (hb:items.size+1<scanBound)
  (q:∀ (h1:Heap) (tk:Nat),SetT prog w h1 s.heap.objs.size (met (fun i=>ss.getD i "") items.size)->(∀ b o,s.heap.get? b=some o->h1.get? b=some o)->Q (.ref s.heap.objs.size) {s with heap:=h1,toks:=tk}) :
  wpAny (model prog w) A (call (.type "set") [.ref l]) Q E s:=by
 obtain⟨c,tl,hmro⟩:=PySem.F.called_set.mro;have hmade:=PySem.F.called_set.made;have hsub:=PySem.F.called_set.sub;refine wpAny_call (codeAny_of_tree ?_);refine(show wpAny _ _ (callAny (.type "set") _) _ _ _ from wpAny_pure ⟨Code.quiet_builtin _ (by decide +kernel),codeAny_builtin PySem.F.entry_type_call ?_⟩);rw[Around.under_plain (weight_type_call_type "set" [.ref l] []) rfl];have h1:=PySem.F.called_set.notType;have h2:=PySem.F.called_set.canCreate;have hct:=PySem.F.typeCall_set_1 (.ref l)
 repeat (any_goals (first | assumption | wp_step))
 refine codeAny_mono (ZnD (.ref l) (E:=E) (Q1:=fun obj s1=>obj= .ref s.heap.objs.size/\s1={s with heap:=s.heap.push {cls:=.type "set",dict:=none,data:=.set #[] 0 (.fresh 0 0 (!byT w))}}) ⟨rfl,rfl⟩) fun r s1 hr=>?_;cases r with
 | error e=>exact hr
 | ok fl =>
  cases fl with
  | ret obj =>
   obtain⟨rfl,rfl⟩:=hr;have gS:(s.heap.push {cls:=.type "set",dict:=none,data:=.set #[] 0 (.fresh 0 0 (!byT w))}).get? s.heap.objs.size=some {cls:=.type "set",dict:=none,data:=.set #[] 0 (.fresh 0 0 (!byT w))}:=Qy _ rfl;have hT:Shared.TypeIs {s with heap:=s.heap.push {cls:=.type "set",dict:=none,data:=.set #[] 0 (.fresh 0 0 (!byT w))}} (.ref s.heap.objs.size) "set":=⟨_,gS,rfl⟩
   have hli:=PySem.F.called_set.init.lookup;have hbi:=PySem.F.called_set.init.bind (.ref s.heap.objs.size)
   repeat (any_goals (first | assumption | wp_step))
   refine codeAny_mono (codeAny_call_builtin (R:=wants (fun r s2=>r= .none/\∃ g tk,s2={s with heap:=g,toks:=tk}/\SetT prog w g s.heap.objs.size (met (fun i=>ss.getD i "") items.size)/\(∀ b o,s.heap.get? b=some o->g.get? b=some o)) E) PySem.F.called_set.init.plain PySem.F.entry_set_init (check_set_init_1 hT ?_)) fun r2 s2 hr2=>?_
   ·obtain⟨ol,hol,hcl,nl,hdl⟩:=hl;obtain⟨ocls,odict,odata,oslots⟩:=ol;simp only at hcl hdl;subst hcl;subst hdl;have hol':(s.heap.push {cls:=.type "set",dict:=none,data:=.set #[] 0 (.fresh 0 0 (!byT w))}).get? l=some {cls:=.type "list",dict:=odict,data:=.seq items nl,slots:=oslots}:=Qg _ hol;have hsls:=PySem.F.sub_list_set;have hslf:=PySem.F.sub_list_frozenset;have hne:(Value.type "list" == Value.type "dict")=false:=by decide
    have hl1:(s.heap.push {cls:=.type "set",dict:=none,data:=.set #[] 0 (.fresh 0 0 (!byT w))}).IsList l items:=⟨_,hol',rfl,nl,rfl⟩
    unfold Builtin.«set.__init__» noKeywords Builtin.Frozenset.updateFrom;generalize hPI:pyIter=PI
    wp_walk
    subst hPI;refine wpAny_pyIter_list hl1 (wpAny_bind (wpAny_runValue ?_));have hlS:l<s.heap.objs.size:=Qs hol;have hh3:A.in1.in1.in1.handled=none:=by simp[hh]
    have hneI:l≠(s.heap.push {cls:=.type "set",dict:=none,data:=.set #[] 0 (.fresh 0 0 (!byT w))}).objs.size:=by
     rw[WY];exact Qz (UF hlS)
    have hSf:s.heap.objs.size∉[(s.heap.push {cls:=.type "set",dict:=none,data:=.set #[] 0 (.fresh 0 0 (!byT w))}).objs.size,l]:=by
     rw[WY];simp only[QA,RH,or_false,not_or];exact⟨Qz (U9 _),Rg hlS⟩
    have hval:∀ (i:Nat) (v:Value),items[i]?=some v->∃ t,v= .str ((fun i=>ss.getD i "") i) t:=fun i v hv=>by
     obtain⟨t,e,_⟩:=Tim.strs_at hi i v (by rw[Wb];exact hv);exact⟨t,e⟩
    refine ZhG ((Walks.list hh3 _ l hneI items).toS) s.heap.objs.size hSf (fun i=>ss.getD i "") hval hb (items.size-0) 0 _ (by omega) (QO _)
     ⟨⟨_,Qy _ rfl,rfl,rfl⟩,(hl1.push _)⟩ (ZjW (Qg _ gS)) ?_
    intro s3 mv hS3;obtain⟨h3,g3,d3,t3,o3⟩:=s3;have eg:g3=s.gens:=mv.gens;have ed:d3=s.drawn:=mv.drawn;have eo:o3=s.os:=mv.os;subst eg;subst ed;subst eo;refine wpAny_pure (show wpAny _ _ (ret Value.none) _ _ _ from wpAny_pure ⟨rfl,h3,t3,rfl,hS3,fun b o e=>?_⟩);have hb0:b<s.heap.objs.size:=Qs e;have hb2:b≠(s.heap.push {cls:=.type "set",dict:=none,data:=.set #[] 0 (.fresh 0 0 (!byT w))}).objs.size:=by
     rw[WY];exact Qz (UF hb0)
    exact mv.heap b o (by simp only[QA,RH,or_false,not_or];exact⟨Qz hb0,hb2⟩) (Qg _ (Qg _ e))
   ·cases r2 with
    | error e=>exact hr2
    | ok fl2 =>
     cases fl2 with
     | ret r =>
      obtain⟨rfl,g,tk,rfl,hS',hk'⟩:=hr2
      repeat (any_goals (first | assumption | wp_step))
      exact q _ _ hS' hk'
     | _=>exact hr2
  | _=>exact hr
end
theorem si_slot:Slot "set_iterator" "__next__" "set_iterator.__next__" :=
 .of (owner:="set_iterator") (n:="__next__") (by rw[typeLookup_type,builtinLookup_eq_fast];kernel_rfl) (by decide +kernel) (by decide +kernel) (by decide +kernel) (by first | exact .inl (by decide +kernel) | exact .inr (by decide +kernel)) (by rw[isSubtype_type];kernel_rfl)
theorem Xz:entryFor table "set_iterator.__next__" = some Builtin.«set_iterator.__next__»:=entryFor_of_fast (by kernel_rfl)
theorem Jv (a:Value):argsOk "set_iterator.__next__" ⟨[a],[]⟩:=by unfold argsOk;kernel_rfl
theorem Zku:entryFor table "set.__iter__" = some Builtin.«frozenset.__iter__» :=
 entryFor_alias (id':="frozenset.__iter__") (by kernel_rfl) (by first | rfl | decide +kernel | (unfold String.splitOn;simp +decide [String.splitOnAux])) (by decide +kernel) (by kernel_rfl)
theorem ZbA {α:Type} {l:List α} (h:i<l.length):(l[i]::l.eraseIdx i).Perm l:=by
 rw[WB];have e:l=l.take i++l[i]::l.drop (i+1):=by rw[←Ww h,UI]
 conv=>rhs;rw[e]
 exact List.perm_middle.symm
theorem ZiU {α:Type} (next:Nat->Nat):∀ (f k:Nat) (left:List α) (out:Array α),left.length<=f->(pickOrder.go next f k left out).toList.Perm (out.toList++left)
 | 0,k,left,out,h=>by
  have:left=[]:=QU.mp (by omega);subst this;unfold pickOrder.go;simp
 | f+1,k,[],out,h=>by
  unfold pickOrder.go;simp
 | f+1,k,x::left,out,h=>by
  unfold pickOrder.go;have hi:next k % (x::left).length<(x::left).length:=Nat.mod_lt _ (by simp);rw[Qa hi];dsimp only;refine(ZiU next f (k+1) _ _ ?_).trans ?_
  ·rw[Rj,if_pos hi];simp at h ⊢;omega
  ·rw[VB,Vz];exact List.Perm.append_left _ (ZbA hi)
theorem ZaF {α:Type} (next:Nat->Nat) (xs:Array α):(pickOrder next xs).toList.Perm xs.toList:=by
 unfold pickOrder;have:=ZiU next xs.size 0 xs.toList #[] (by simp);simpa using this
abbrev ZcX (h:Heap) (J:Addr) (f:Value) (i:Nat) (a:Addr) (n ep:Nat):Prop:=h.get? J=some {cls:=.type "set_iterator",dict:=none,data:=.fields #[f,.int i 0,.ref a,.int n 0,.int ep 0],slots:=#[]}
section
variable {prog:Program} {w:World} {A:Around} {E:Value->Shared->Prop} {s:Shared}
theorem Zc0 {src:Source} {Q:Nat->Shared->Prop} (hn:n≠0) (h:∀ i d,i<n->Q i {s with drawn:=d}):wpAny (model prog w) A (choose src n) Q E s :=
 fun _ _ _=>⟨hn,h _ _ (Nat.mod_lt _ (Nat.pos_of_ne_zero hn))⟩
theorem ZdY {α:Type}:∀ (n:Nat) (xs:List α) (s:Shared) {Q:List α->Shared->Prop},xs.length<=n->(∀ ys d,ys.Perm xs->Q ys {s with drawn:=d})->wpAny (model prog w) A (drawOrder n xs) Q E s
 | 0,xs,s,Q,hl,h=>by
  have:xs=[]:=QU.mp (by omega);subst this;unfold drawOrder;exact wpAny_pure (h [] s.drawn (List.Perm.refl _))
 | n+1,[],s,Q,hl,h=>by
  unfold drawOrder;exact wpAny_pure (h [] s.drawn (List.Perm.refl _))
 | n+1,x::xs,s,Q,hl,h=>by
  unfold drawOrder;refine wpAny_bind (Zc0 (by simp) fun i d hi=>?_);rw[Qa hi];dsimp only;refine wpAny_bind (ZdY n ((x::xs).eraseIdx i) {s with drawn:=d} ?_ fun ys d2 hp=>wpAny_pure (h _ d2 ?_))
  ·rw[Rj];split <;> simp at * <;> omega
  ·exact(hp.cons _).trans (ZbA hi)
structure SeesS (h:Heap) (a:Addr) (o:Obj) (es:Array (Int×Value)) (ep:Nat) (t:SetTable) (n:Nat):Prop where
 ob:h.get? a=some o
 dt:o.data= .set es ep t
 fits:t.fits es.size=true
 len:es.size=n
theorem Yn {es:Array (Int×Value)} {t:SetTable} {Q:(Array (Int×Value)×Nat×SetTable)->Shared->Prop} (V:SeesS s.heap a o es ep t n) (q:Q (es,ep,t) s):wpAny (model prog w) A (setState a) Q E s:=wpAny_setState_of V.ob V.dt V.fits q
theorem YX {f:Value} {es:Array (Int×Value)} {t:SetTable} {Q:PySem.Fin->Shared->Prop} (hJ:ZcX s.heap J f i a n ep) (V:SeesS s.heap a o es ep t n)
  (q:wpAny (model prog w) A (if let .int slot _:=f then (do
    match ←setNext a slot.toNat (i:Int).toNat (ep:Int).toNat with
    | some (x,next) =>
     setField (.ref J) 0 (rawInt next)
     setField (.ref J) 1 (rawInt ((i:Int)+1))
     ret x
    | none=>setField (.ref J) 2 .none;raiseNew (←newExc (.type "StopIteration") []))
   else (do
    let some places ←seqItems? f | unsupported "internal:set_iterator"
    match places[(i:Int).toNat]? with
    | some (.int place _) =>
     let x ←setNextDrawn a place.toNat (ep:Int).toNat
     setField (.ref J) 1 (rawInt ((i:Int)+1))
     ret x
    | some _=>unsupported "internal:set_iterator"
    | none=>setField (.ref J) 0 (rawInt 0);setField (.ref J) 2 .none;raiseNew (←newExc (.type "StopIteration") []))) Q E s) :
  wpAny (model prog w) A (Builtin.«set_iterator.__next__» ⟨[.ref J],[]⟩) Q E s:=by
 refine(show wpAny _ _ (fieldsOf (.ref J) >>= _) _ _ s from wpAny_bind (wpAny_fieldsOf hJ rfl ?_));dsimp only;refine wpAny_bind (wpAny_setEntries_of V.ob V.dt V.fits ?_);rw[if_neg (by rw[V.len];simp)];exact q
theorem Js {J:Addr} {Q:PySem.Fin->Shared->Prop} {g0:Heap} (hh:A.handled=none)
  (q:∀ g e,(∀ c o,g0.get? c=some o->g.get? c=some o)->(∃ o,g.get? e=some o/\o.cls= .type "StopIteration")->E (.ref e) {s with heap:=g}) :
  wpAny (model prog w) A (do raiseNew (←newExc (.type "StopIteration") [])) Q E {s with heap:=g0}:=by
 refine wpAny_bind ?_;simp only[newExc,newTuple];refine wpAny_bind (wpAny_newObj_type (wpAny_bind (m:=firstArgMember _ _) (wpAny_of_eq (a:=Value.none) (by first | rfl | (simp only[firstArgMember];rfl)) (wpAny_newObj_type ?_ (by size_fits)))) (by size_fits));simp only[raiseNew];refine wpAny_bind (wpAny_handled ?_);first | rw[show A.in1.handled=none from hh] | rw[hh]
 exact wpAny_bind (wpAny_pure (wpAny_throw (q _ _ (fun c o e=>Qg _ (Qg _ e)) ⟨_,Qy _ rfl,rfl⟩)))
theorem ZkB {T:Addr} {p m:Nat} {oT:Obj} {es:Array (Int×Value)} {t:SetTable} {pl:Array Value} {hx:Int} {x:Value} (hJ:ZcX s.heap J (.ref T) i a n ep) (V:SeesS s.heap a o es ep t n)
  (gT:s.heap.get? T=some oT) (dT:oT.data= .seq pl m) (hp:pl[i]?=some (.int p 0)) (hx:es[p]?=some (hx,x)) (q:∀ g,ZcX g J (.ref T) (i+1) a n ep->Heap.SameBut J s.heap g->Q x {s with heap:=g}) :
  wpAny (model prog w) A (Builtin.«set_iterator.__next__» ⟨[.ref J],[]⟩) (fun fin s'=>∃ v,fin= .done (.ret v)/\Q v s') E s:=by
 refine YX hJ V ?_;dsimp only;refine wpAny_bind (wpAny_seqItems gT dT ?_);simp only[Wn,hp];unfold setNextDrawn;refine wpAny_bind (wpAny_bind (Yn V ?_));dsimp only;rw[if_neg (by simp),hx];refine wpAny_pure (wpAny_bind (wpAny_setField_rec hJ (by simp) fun g hg sb=>wpAny_pure ⟨x,rfl,q g ?_ sb⟩));have e:((i+1:Nat):Int)=(i:Int)+1:=by push_cast;rfl
 unfold ZcX;rw[e];exact hg
theorem Znf {T:Addr} {m:Nat} {oT:Obj} {es:Array (Int×Value)} {t:SetTable} {pl:Array Value} {Q:PySem.Fin->Shared->Prop} (hh:A.handled=none) (hJ:ZcX s.heap J (.ref T) i a n ep) (V:SeesS s.heap a o es ep t n)
  (gT:s.heap.get? T=some oT) (dT:oT.data= .seq pl m) (hp:pl[i]?=none) (q:∀ g e,(∀ c o,c≠J->s.heap.get? c=some o->g.get? c=some o)->(∃ o,g.get? e=some o/\o.cls= .type "StopIteration")->E (.ref e) {s with heap:=g}) :
  wpAny (model prog w) A (Builtin.«set_iterator.__next__» ⟨[.ref J],[]⟩) Q E s:=by
 refine YX hJ V ?_;dsimp only;refine wpAny_bind (wpAny_seqItems gT dT ?_);simp only[Wn,hp];refine wpAny_bind (wpAny_setField_rec hJ (by simp) fun g1 hg1 sb1=>wpAny_bind (wpAny_setField_rec hg1 (by simp) fun g2 hg2 sb2=>?_));exact Js (J:=J) hh fun g e k he=>q g e (fun c o hc z=>k c o (sb2.extBut _ _ hc (sb1.extBut _ _ hc z))) he
theorem Zkz {es:Array (Int×Value)} {t:SetTable} {hx:Int} {x:Value} (hb:byT w=true) (hJ:ZcX s.heap J (.int 0 0) i a n ep) (V:SeesS s.heap a o es ep t n)
  (hp:(pickOrder (w.params.setOrder a ep) es)[i]?=some (hx,x)) (q:∀ g,ZcX g J (.int 0 0) (i+1) a n ep->Heap.SameBut J s.heap g->Q x {s with heap:=g}) :
  wpAny (model prog w) A (Builtin.«set_iterator.__next__» ⟨[.ref J],[]⟩) (fun fin s'=>∃ v,fin= .done (.ret v)/\Q v s') E s:=by
 refine YX hJ V ?_;dsimp only;refine wpAny_bind ?_;unfold setNext setsByText;refine wpAny_bind (Yn V ?_);dsimp only;refine wpAny_bind (wpAny_bind (wpAny_askSetting (wpAny_pure ?_)));dsimp only;rw[if_pos (show(model prog w).w.params.followText "set-order" = true from hb),if_neg (by simp)];unfold setWalk setsByText;refine wpAny_bind (wpAny_bind (Yn V ?_));dsimp only;refine wpAny_bind (wpAny_bind (wpAny_askSetting (wpAny_pure ?_)));dsimp only;rw[if_pos (show(model prog w).w.params.followText "set-order" = true from hb)];refine wpAny_bind (wpAny_askSetting (wpAny_pure (wpAny_pure ?_)));have hp':(pickOrder ((model prog w).w.params.setOrder a ep) es)[i]?=some (hx,x):=hp;simp only[Wn,hp',Wj];refine wpAny_bind (wpAny_setField_rec hJ (by simp) fun g1 hg1 sb1=>wpAny_bind (wpAny_setField_rec hg1 (by simp) fun g2 hg2 sb2=>wpAny_pure ⟨x,rfl,q g2 ?_ (sb1.trans sb2)⟩));have e:((i+1:Nat):Int)=(i:Int)+1:=by push_cast;rfl
 unfold ZcX;rw[e];exact hg2
theorem Znd {es:Array (Int×Value)} {t:SetTable} {Q:PySem.Fin->Shared->Prop} (hh:A.handled=none) (hb:byT w=true) (hJ:ZcX s.heap J (.int 0 0) i a n ep) (V:SeesS s.heap a o es ep t n)
  (hp:(pickOrder (w.params.setOrder a ep) es)[i]?=none) (q:∀ g e,(∀ c o,c≠J->s.heap.get? c=some o->g.get? c=some o)->(∃ o,g.get? e=some o/\o.cls= .type "StopIteration")->E (.ref e) {s with heap:=g}) :
  wpAny (model prog w) A (Builtin.«set_iterator.__next__» ⟨[.ref J],[]⟩) Q E s:=by
 refine YX hJ V ?_;dsimp only;refine wpAny_bind ?_;unfold setNext setsByText;refine wpAny_bind (Yn V ?_);dsimp only;refine wpAny_bind (wpAny_bind (wpAny_askSetting (wpAny_pure ?_)));dsimp only;rw[if_pos (show(model prog w).w.params.followText "set-order" = true from hb),if_neg (by simp)];unfold setWalk setsByText;refine wpAny_bind (wpAny_bind (Yn V ?_));dsimp only;refine wpAny_bind (wpAny_bind (wpAny_askSetting (wpAny_pure ?_)));dsimp only;rw[if_pos (show(model prog w).w.params.followText "set-order" = true from hb)];refine wpAny_bind (wpAny_askSetting (wpAny_pure (wpAny_pure ?_)));have hp':(pickOrder ((model prog w).w.params.setOrder a ep) es)[i]?=none:=hp;simp only[Wn,hp',Option.map_none];refine wpAny_bind (wpAny_setField_rec hJ (by simp) fun g1 hg1 sb1=>?_);exact Js (J:=J) hh fun g e k he=>q g e (fun c o hc z=>k c o (sb1.extBut _ _ hc z)) he
theorem Zbo {sl i:Nat} {es:Array (Int×Value)} {t:SetTable} {Q:Option (Value×Nat)->Shared->Prop} (hb:byT w=false) (V:SeesS s.heap a o es ep t n) (hn:n<=1) (led:t.led=true)
  (q:Q (match es[SetTable.below t.place sl]?,t.place[SetTable.below t.place sl]? with
   | some (_,x),some j=>some (x,j+1)
   | _,_=>none) s):wpAny (model prog w) A (setNext a sl i ep) Q E s:=by
 unfold setNext setsByText;refine wpAny_bind (Yn V ?_);dsimp only;refine wpAny_bind (wpAny_bind (wpAny_askSetting (wpAny_pure ?_)));dsimp only;rw[if_neg (by rw[show(model prog w).w.params.followText "set-order" = false from hb];decide)];refine(show wpAny (model prog w) A (if (!t.plain&&decide (es.size>1))=true then _ else _) Q E s from ?_);rw[if_neg (by rw[V.len];simp;omega)];refine(show wpAny (model prog w) A ((if (!t.led&&!es.isEmpty)=true then unsupported "set:maker-not-led" else pure ()) >>= fun _=>_) Q E s from ?_);rw[led];simp only[Bool.not_true,VR,Ws,if_false];exact wpAny_bind (wpAny_pure (wpAny_pure q))
theorem ZkA {j:Nat} {es:Array (Int×Value)} {t:SetTable} {hx:Int} {x:Value} (hb:byT w=false) (led:t.led=true) (hJ:ZcX s.heap J (.int 0 0) 0 a 1 ep) (V:SeesS s.heap a o es ep t 1)
  (hj:t.place= #[j]) (hp:es[0]?=some (hx,x)) (q:∀ g,ZcX g J (.int ((j+1:Nat):Int) 0) 1 a 1 ep->Heap.SameBut J s.heap g->Q x {s with heap:=g}) :
  wpAny (model prog w) A (Builtin.«set_iterator.__next__» ⟨[.ref J],[]⟩) (fun fin s'=>∃ v,fin= .done (.ret v)/\Q v s') E s:=by
 refine YX hJ V ?_;dsimp only;refine wpAny_bind (Zbo hb V (Qk _) led ?_);have hbw:SetTable.below t.place (0:Int).toNat=0:=by rw[hj];rfl
 rw[hbw,hp,hj];refine wpAny_bind (wpAny_setField_rec hJ (by simp) fun g1 hg1 sb1=>wpAny_bind (wpAny_setField_rec hg1 (by simp) fun g2 hg2 sb2=>wpAny_pure ⟨x,rfl,q g2 hg2 (sb1.trans sb2)⟩))
theorem Zne {sl:Nat} {es:Array (Int×Value)} {t:SetTable} {Q:PySem.Fin->Shared->Prop} (hh:A.handled=none) (hb:byT w=false) (led:t.led=true) (hJ:ZcX s.heap J (.int (sl:Int) 0) i a n ep) (V:SeesS s.heap a o es ep t n) (hn:n<=1)
  (hp:es[SetTable.below t.place sl]?=none) (q:∀ g e,(∀ c o,c≠J->s.heap.get? c=some o->g.get? c=some o)->(∃ o,g.get? e=some o/\o.cls= .type "StopIteration")->E (.ref e) {s with heap:=g}) :
  wpAny (model prog w) A (Builtin.«set_iterator.__next__» ⟨[.ref J],[]⟩) Q E s:=by
 refine YX hJ V ?_;dsimp only;refine wpAny_bind (Zbo hb V hn led ?_);rw[Wn,hp];refine wpAny_bind (wpAny_setField_rec hJ (by simp) fun g1 hg1 sb1=>?_);exact Js (J:=J) hh fun g e k he=>q g e (fun c o hc z=>k c o (sb1.extBut _ _ hc z)) he
end
theorem SeesS.keep {h':Heap} {es:Array (Int×Value)} {t:SetTable} (V:SeesS h a o es ep t n) (k:∀ o,h.get? a=some o->h'.get? a=some o):SeesS h' a o es ep t n:={V with ob:=k o V.ob}
theorem Zin:Slot "set_iterator" "__iter__" "set_iterator.__iter__" :=
 .of (owner:="set_iterator") (n:="__iter__") (by rw[typeLookup_type,builtinLookup_eq_fast];kernel_rfl) (by decide +kernel) (by decide +kernel) (by decide +kernel) (by first | exact .inl (by decide +kernel) | exact .inr (by decide +kernel)) (by rw[isSubtype_type];kernel_rfl)
theorem Zkx:entryFor table "set_iterator.__iter__" = some Builtin.«dict_keyiterator.__iter__» :=
 entryFor_alias (id':="dict_keyiterator.__iter__") (by kernel_rfl) (by first | rfl | decide +kernel | (unfold String.splitOn;simp +decide [String.splitOnAux])) (by decide +kernel) (by kernel_rfl)
theorem Zky (a:Value):argsOk "set_iterator.__iter__" ⟨[a],[]⟩:=by unfold argsOk;kernel_rfl
theorem Zer {prog:Program} {w:World} {A:Around} {E:Value->Shared->Prop} {s:Shared} {f:Value} (hJ:ZcX s.heap J f i a n ep) (h:Q (.ref J) s):wpAny (model prog w) A (pyIter (.ref J)) Q E s:=by
 refine wpAny_pyIter_slot ⟨_,hJ,rfl⟩ Zin (wpAny_call_entry Zin ⟨_,hJ,rfl⟩ Zkx ?_ (Zky _));exact(show wpAny _ _ (ret (.ref J)) _ _ s from wpAny_pure ⟨_,rfl,"set_iterator",_,⟨_,hJ,rfl⟩,si_slot.lookup,h⟩)
section
variable {prog:Program} {w:World} {A:Around} {E:Value->Shared->Prop} {s:Shared}
abbrev Zml (ord:Array (Int×Value)) (i:Nat) (v:Value):Prop:=∃ e,ord[i]?=some e/\v=e.2
theorem Zp2 (hh:A.handled=none) {T:Addr} {es:Array (Int×Value)} {t:SetTable} {ps:List Nat} (hJT:T≠J) (hJa:a≠J) (hps:ps.length=n) (hlt:∀ p∈ps,p<es.size) :
  Walks prog w A J [J,T,a] [J] n (Zml (ps.map fun p=>es.getD p (0,.none)).toArray) (fun i h=>ZcX h J (.ref T) i a n ep/\(∃ oT m,h.get? T=some oT/\oT.data= .seq (ps.map fun p:Nat=>Value.int (p:Int) 0).toArray m)/\SeesS h a o es ep t n) where
 sub:=fun b hb=>by rw[Qp.mp hb];simp
 frame:=fun i h h' ⟨s1,⟨oT,m,g,d⟩,s3⟩ k=>⟨k J (by simp) _ s1,⟨oT,m,k T (by simp) _ g,d⟩,s3.keep fun o e=>k a (by simp) o e⟩
 item:=fun i s Q E hi ⟨s1,⟨oT,m,g,d⟩,s3⟩ q=>by
  have hi':i<ps.length:=by omega
  have hp:(ps.map fun p:Nat=>Value.int (p:Int) 0).toArray[i]?=some (.int (ps[i]:Nat) 0):=by simp[hi']
  have hpe:ps[i]<es.size:=hlt _ (QF hi');have hx:es[ps[i]]?=some (es[ps[i]].1,es[ps[i]].2):=by rw[QX hpe]
  unfold pyNext;refine wpAny_bind (wpAny_attempt (wpAny_callSpecial?_slot (name:=Str.ofString "__next__") ⟨_,s1,rfl⟩ si_slot (wpAny_call_entry si_slot ⟨_,s1,rfl⟩ Xz (ZkB s1 s3 g d hp hx fun g1 h1 sb=>wpAny_pure (q _ g1 s.toks ?_ ?_ ?_)) (Jv _))))
  ·refine⟨es[ps[i]],?_,rfl⟩;simp[hi',hpe]
  ·exact⟨h1,⟨oT,m,sb.extBut _ _ hJT g,d⟩,s3.keep fun o e=>sb.extBut _ _ hJa e⟩
  ·exact fun b o hb e=>sb.extBut _ _ (fun z=>hb (by simp[z])) e
 done:=fun s Q E ⟨s1,⟨oT,m,g,d⟩,s3⟩ q=>by
  unfold pyNext;refine wpAny_bind (wpAny_attempt (wpAny_callSpecial?_slot (name:=Str.ofString "__next__") ⟨_,s1,rfl⟩ si_slot (wpAny_call_entry si_slot ⟨_,s1,rfl⟩ Xz (Znf hh s1 s3 g d (by simp[hps]) fun g1 e k ⟨oe,ge,ce⟩=>?_) (Jv _))));exact wpAny_bind (wpAny_isInstance (T:="StopIteration") (b:=true) ⟨oe,ge,ce⟩ isSubtype_stop (wpAny_pure (q g1 s.toks fun b o hb z=>k b o (fun y=>hb (by simp[y])) z)))
 self:=fun i s Q E ⟨s1,_⟩ q=>Zer s1 q
theorem Zp0 (hh:A.handled=none) (hb:byT w=true) {es:Array (Int×Value)} {t:SetTable} (hJa:a≠J) (hn:es.size=n) :
  Walks prog w A J [J,a] [J] n (Zml (pickOrder (w.params.setOrder a ep) es)) (fun i h=>ZcX h J (.int 0 0) i a n ep/\SeesS h a o es ep t n) where
 sub:=fun b hb=>by rw[Qp.mp hb];simp
 frame:=fun i h h' ⟨s1,s3⟩ k=>⟨k J (by simp) _ s1,s3.keep fun o e=>k a (by simp) o e⟩
 item:=fun i s Q E hi ⟨s1,s3⟩ q=>by
  have hsz:(pickOrder (w.params.setOrder a ep) es).size=n:=by rw[←QG,(ZaF _ es).length_eq,QG,hn]
  have hx:(pickOrder (w.params.setOrder a ep) es)[i]?=some ((pickOrder (w.params.setOrder a ep) es)[i]'(by omega)):=QX (by omega);unfold pyNext;refine wpAny_bind (wpAny_attempt (wpAny_callSpecial?_slot (name:=Str.ofString "__next__") ⟨_,s1,rfl⟩ si_slot (wpAny_call_entry si_slot ⟨_,s1,rfl⟩ Xz (Zkz hb s1 s3 hx fun g1 h1 sb=>wpAny_pure (q _ g1 s.toks ⟨_,hx,rfl⟩ ⟨h1,s3.keep fun o e=>sb.extBut _ _ hJa e⟩ fun b o hb e=>sb.extBut _ _ (fun z=>hb (by simp[z])) e)) (Jv _))))
 done:=fun s Q E ⟨s1,s3⟩ q=>by
  have hsz:(pickOrder (w.params.setOrder a ep) es).size=n:=by rw[←QG,(ZaF _ es).length_eq,QG,hn]
  unfold pyNext;refine wpAny_bind (wpAny_attempt (wpAny_callSpecial?_slot (name:=Str.ofString "__next__") ⟨_,s1,rfl⟩ si_slot (wpAny_call_entry si_slot ⟨_,s1,rfl⟩ Xz (Znd hh hb s1 s3 (UD (by omega)) fun g1 e k ⟨oe,ge,ce⟩=>?_) (Jv _))));exact wpAny_bind (wpAny_isInstance (T:="StopIteration") (b:=true) ⟨oe,ge,ce⟩ isSubtype_stop (wpAny_pure (q g1 s.toks fun b o hb z=>k b o (fun y=>hb (by simp[y])) z)))
 self:=fun i s Q E ⟨s1,_⟩ q=>Zer s1 q
theorem Zp1 (hh:A.handled=none) (hb:byT w=false) {es:Array (Int×Value)} {t:SetTable} (hJa:a≠J) (hn:es.size=n) (h1:n<=1) (led:t.led=true) (hf:t.fits es.size=true) :
  Walks prog w A J [J,a] [J] n (Zml es) (fun i h=>(∃ sl:Nat,ZcX h J (.int (sl:Int) 0) i a n ep/\(i<n->sl=0)/\(i=n->es[SetTable.below t.place sl]?=none))/\SeesS h a o es ep t n) where
 sub:=fun b hb=>by rw[Qp.mp hb];simp
 frame:=fun i h h' ⟨⟨sl,s1,s2⟩,s3⟩ k=>⟨⟨sl,k J (by simp) _ s1,s2⟩,s3.keep fun o e=>k a (by simp) o e⟩
 item:=fun i s Q E hi ⟨⟨sl,s1,s2,_⟩,s3⟩ q=>by
  have hn1:n=1:=by omega
  have hi0:i=0:=by omega
  subst hi0;have hsl:=s2 hi;subst hsl;subst hn1;have hpz:t.place.size=1:=by
   simp only[SetTable.fits,Wl,beq_iff_eq]at hf;omega
  obtain⟨j,hj⟩:∃ j,t.place= #[j]:=by
   generalize t.place=pl at hpz;obtain⟨l⟩:=pl;match l,hpz with
   | [j],_=>exact⟨j,rfl⟩
  have hx:es[0]?=some es[0]:=QX (by omega);unfold pyNext;refine wpAny_bind (wpAny_attempt (wpAny_callSpecial?_slot (name:=Str.ofString "__next__") ⟨_,s1,rfl⟩ si_slot (wpAny_call_entry si_slot ⟨_,s1,rfl⟩ Xz (ZkA hb led s1 s3 hj hx fun g1 hg1 sb=>wpAny_pure (q _ g1 s.toks ⟨_,hx,rfl⟩ ⟨⟨j+1,hg1,fun z=>absurd z (by omega),fun _=>?_⟩,s3.keep fun o e=>sb.extBut _ _ hJa e⟩ fun b o hb e=>sb.extBut _ _ (fun z=>hb (by simp[z])) e)) (Jv _))));have hbw:SetTable.below t.place (j+1)=1:=by
   rw[hj];unfold SetTable.below;show SetTable.below.go #[j] (j+1) 1 0 1=1;unfold SetTable.below.go;rw[if_pos (by omega)];dsimp only;rw[if_pos (by simp)];rfl
  rw[hbw];exact UD (by omega)
 done:=fun s Q E ⟨⟨sl,s1,_,s2⟩,s3⟩ q=>by
  unfold pyNext;refine wpAny_bind (wpAny_attempt (wpAny_callSpecial?_slot (name:=Str.ofString "__next__") ⟨_,s1,rfl⟩ si_slot (wpAny_call_entry si_slot ⟨_,s1,rfl⟩ Xz (Zne hh hb led s1 s3 h1 (s2 rfl) fun g1 e k ⟨oe,ge,ce⟩=>?_) (Jv _))));exact wpAny_bind (wpAny_isInstance (T:="StopIteration") (b:=true) ⟨oe,ge,ce⟩ isSubtype_stop (wpAny_pure (q g1 s.toks fun b o hb z=>k b o (fun y=>hb (by simp[y])) z)))
 self:=fun i s Q E ⟨⟨sl,s1,_⟩,_⟩ q=>Zer s1 q
end
section
variable {prog:Program} {w:World} {A:Around} {E:Value->Shared->Prop} {s:Shared}
theorem range_getD {es:Array (Int×Value)} {ps:List Nat} (h:ps.Perm (Qx es.size)):(ps.map fun p=>es.getD p (0,.none)).Perm es.toList:=by
 have h1:=h.map fun p=>es.getD p (0,.none);have h2:((Qx es.size).map fun p=>es.getD p (0,.none))=es.toList:=by
  apply QT;intro i;rw[Qd];by_cases hi:i<es.size
  ·rw[QM hi,Wb,QX hi];simp[hi]
  ·rw[Qo (by simp;omega),Qo (by simp;omega)];rfl
 rw[h2]at h1;exact h1
theorem Zlq {A':Around} {es:Array (Int×Value)} {t:SetTable} (hh:A'.handled=none) (S:StT prog w s.heap a ks o es ep t) (hz:ks.length<=1000)
  (q:∀ (J:Addr) (h1:Heap) (d:Drawn) (ord:Array (Int×Value)) (fp:List Addr) (St:Nat->Heap->Prop),ord.toList.Perm es.toList->Walks prog w A' J fp [J] ks.length (Zml ord) St->St 0 h1->(∀ b∈fp,b=a\/s.heap.objs.size<=b)->s.heap.objs.size<=J ->
   (∀ b u,s.heap.get? b=some u->h1.get? b=some u)->Q (.ref J) {s with heap:=h1,drawn:=d}):wpAny (model prog w) A (pyIter (.ref a)) Q E s:=by
 have hT:s.TypeIs (.ref a) "set":=⟨o,S.ob,S.ex.1⟩
 have V:SeesS s.heap a o es ep t ks.length:=⟨S.ob,S.dt,S.fits,S.len⟩
 have ha:a<s.heap.objs.size:=Qs S.ob;have es0:s={s with heap:=s.heap,drawn:=s.drawn}:=by cases s;rfl
 refine wpAny_pyIter_slot hT PySem.F.slot_set_iter (wpAny_call_entry PySem.F.slot_set_iter hT Zku ?_ (PySem.F.args_set_iter_1 _));unfold Builtin.«frozenset.__iter__»;refine(show wpAny _ _ (Builtin.Frozenset.sizeOf a >>= _) _ _ s from wpAny_bind ?_);unfold Builtin.Frozenset.sizeOf;refine wpAny_bind (wpAny_setEntries_of V.ob V.dt V.fits (wpAny_pure ?_));dsimp only;unfold setDrawn setsByText;refine wpAny_bind (wpAny_bind (Yn V ?_));dsimp only;refine wpAny_bind (wpAny_bind (wpAny_askSetting (wpAny_pure (wpAny_pure ?_))));have lift1:∀ (x:Bool) (h:x=(!byT w&&(!t.plain&&decide (es.size>1)))),x=(!(model prog w).w.params.followText "set-order" && (!t.plain&&decide (es.size>1))):=fun x h=>h;by_cases c:(!byT w&&(!t.plain&&decide (es.size>1)))=true
 ·refine(show wpAny (model prog w) _ (if (!byT w&&(!t.plain&&decide (es.size>1)))=true then _ else _) _ _ s from ?_);rw[if_pos c];refine wpAny_bind (ZdY es.size (Qx es.size) s (by simp) fun ps d hp=>?_);have hpl:ps.length=ks.length:=by rw[hp.length_eq,Wh,S.len]
  refine wpAny_bind (wpAny_newTuple ?_ (by rw[Qc];exact Zbk (by omega)));have V1:SeesS (s.heap.push {cls:=.type "tuple",data:=.seq (ps.map fun i:Nat=>rawInt i).toArray}) a o es ep t ks.length:=V.keep fun o e=>Qg _ e;refine wpAny_bind ?_;unfold setEpoch;refine wpAny_bind (Yn (s:={s with heap:=s.heap.push {cls:=.type "tuple",data:=.seq (ps.map fun i:Nat=>rawInt i).toArray},drawn:=d}) V1 (wpAny_pure ?_));refine wpAny_bind (wpAny_newObj_type (wpAny_pure ⟨_,rfl,"set_iterator",_,⟨_,Qy _ rfl,rfl⟩,si_slot.lookup,?_⟩));have hsz:(s.heap.push {cls:=.type "tuple",data:=.seq (ps.map fun i:Nat=>rawInt i).toArray}).objs.size=s.heap.objs.size+1:=WY ..;refine q _ _ d (ps.map fun p=>es.getD p (0,.none)).toArray [_,s.heap.objs.size,a] _ (range_getD hp) (Zp2 hh (T:=s.heap.objs.size) (a:=a) (ep:=ep) (o:=o) (es:=es) (t:=t) (by rw[hsz];exact Qz (U9 _)) (by rw[hsz];exact Qz (UF ha)) hpl fun p hpm=>Wg.mp (hp.mem_iff.mp hpm)) ⟨?_,⟨_,_,Qg _ (Qy _ rfl),rfl⟩,V1.keep fun o e=>Qg _ e⟩ ?_ (by rw[hsz];exact WH _) fun b u e=>Qg _ (Qg _ e)
  ·unfold ZcX;rw[Qy _ rfl,S.len];rfl
  ·intro b hb;rcases QA.mp hb with z | z
   ·rw[z,hsz];exact .inr (WH _)
   ·rcases QA.mp z with z | z
    ·rw[z];exact .inr (Qk _)
    ·exact .inl (Qp.mp z)
 ·refine(show wpAny (model prog w) _ (if (!byT w&&(!t.plain&&decide (es.size>1)))=true then _ else _) _ _ s from ?_);rw[if_neg c];refine wpAny_bind (wpAny_pure (wpAny_bind ?_));unfold setEpoch;refine wpAny_bind (Yn V (wpAny_pure ?_));refine wpAny_bind (wpAny_newObj_type (wpAny_pure ⟨_,rfl,"set_iterator",_,⟨_,Qy _ rfl,rfl⟩,si_slot.lookup,?_⟩));have fpk:∀ b∈[s.heap.objs.size,a],b=a\/s.heap.objs.size<=b:=fun b hb=>by
   rcases QA.mp hb with z | z
   ·rw[z];exact .inr (Qk _)
   ·exact .inl (Qp.mp z)
  have gJ:ZcX (s.heap.push {cls:=.type "set_iterator",data:=.fields #[rawInt 0,rawInt 0,.ref a,rawInt es.size,rawInt ep]}) s.heap.objs.size (.int 0 0) 0 a ks.length ep:=by
   unfold ZcX;rw[Qy _ rfl,S.len];rfl
  by_cases hb:byT w=true
  ·exact q _ _ s.drawn _ [s.heap.objs.size,a] _ (ZaF _ es) (Zp0 hh hb (o:=o) (t:=t) (Qz ha) S.len) ⟨gJ,V.keep fun o e=>Qg _ e⟩ fpk (Qk _) fun b u e=>Qg _ e
  ·have hb':byT w=false:=by simpa using hb
   have led:t.led=true:=by rw[S.led,hb'];rfl
   have h1:ks.length<=1:=by
    rcases Nat.lt_or_ge 1 ks.length with z | z
    ·have hpf:=S.plain (fun e=>by rw[e]at z;simp at z);exact absurd (by rw[hb',hpf,S.len];simp;omega) c
    ·exact z
   refine q _ _ s.drawn es [s.heap.objs.size,a] _ (List.Perm.refl _) (Zp1 hh hb' (o:=o) (t:=t) (ep:=ep) (Qz ha) S.len h1 led S.fits) ⟨⟨0,gJ,fun _=>rfl,fun z=>?_⟩,V.keep fun o e=>Qg _ e⟩ fpk (Qk _) fun b u e=>Qg _ e;have:es.size=0:=by rw[S.len];exact z.symm
   exact UD (by omega)
end
theorem Zjh:∀ {ks xs:List Str},ks.Nodup->(∀ x∈ks,x∈xs)->xs.length=ks.length->xs.Perm ks
 | [],xs,_,_,hl=>by rw[QU.mp hl]
 | k::ks,xs,nd,hs,hl=>by
  have nd':=Q7.mp nd;have hk:=hs k (Qi ..);have p:=Q3 hk;refine p.trans (List.Perm.cons k (Zjh nd'.2 (fun x hx=>?_) ?_))
  ·have hne:x≠k:=fun e=>nd'.1 (e▸hx);exact(WJ hne).mpr (hs x (Ql _ hx))
  ·rw[QW hk,hl];rfl
section
variable {prog:Program} {w:World} {A:Around} {E:Value->Shared->Prop} {s:Shared}
theorem Zls {r:Addr} {Q:Bool->Shared->Prop} (hT:s.TypeIs (.ref r) "set") (q:Q false s):wpAny (model prog w) A (Builtin.List.listLengthHint (.ref r)) Q E s:=by
 unfold Builtin.List.listLengthHint;refine wpAny_bind (wpAny_specialOf hT PySem.F.slot_set_len.lookup ?_);generalize hid:("set.__len__" : String)=nm
 wp_delta
 rw[show splitId nm=some ("set","__len__")from by subst hid;decide +kernel];subst hid;refine wpAny_bind (wpAny_isInstance (T:="set") (b:=true) hT (by rw[isSubtype_type];kernel_rfl) ?_);refine wpAny_ite_split (fun z=>absurd z (by decide)) fun _=>wpAny_ite_split (fun _=>?_) fun z=>absurd (by decide +kernel) z;exact wpAny_bind (wpAny_typeOf hT (wpAny_pure q))
theorem Zhm {R:Result->Shared->Prop} {S:Addr} {es:Array (Int×Value)} {t:SetTable} {c₀:Nat} {res:Value} (hh:A.handled=none) (T:StT prog w s.heap a ks o es ep t) (hz:ks.length<=1000) (hSa:S≠a) (hS:s.heap.get? S=some {cls:=.type "list",data:=.seq #[] c₀})
  (q:∀ h1 tk d acc c (ord:Array (Int×Value)),ord.toList.Perm es.toList->(∀ b u,b≠S->s.heap.get? b=some u->h1.get? b=some u)->h1.get? S=some {cls:=.type "list",dict:=none,data:=.seq acc c,slots:=#[]}->ItemsOf (Zml ord) acc ks.length->R (.ok (.ret res)) {s with heap:=h1,toks:=tk,drawn:=d}) :
  wpAny (model prog w) A.in1 (Builtin.List.listExtendWith (.ref S) (.ref a) res) (fun fin s'=>match fin with | .done f=>R (.ok f) s' | .again c'=>c'.quiet=true/\codeAny (model prog w) A c' R s') (fun e s'=>R (.error e) s') s:=by
 have hT:s.TypeIs (.ref a) "set":=⟨o,T.ob,T.ex.1⟩
 have hSl:S<s.heap.objs.size:=Qs hS;unfold Builtin.List.listExtendWith;refine wpAny_bind (wpAny_typeOf (T:="set") hT ?_);have h1:Builtin.List.listSameRef (.ref S) (.ref a)=false:=by simp[Builtin.List.listSameRef,hSa]
 have n1:(Value.type "set" == Value.type "list")=false:=by decide
 have n2:(Value.type "set" == Value.type "tuple")=false:=by decide
 simp only[h1,n1,n2,RB,Ws,if_false];refine wpAny_bind (Zlq (A':=A.in1) hh T hz fun J g d ord fp St hp W st hfp hJ kk=>?_);have gS:=kk _ _ hS;have nf:S∉fp:=fun z=>by
  rcases hfp S z with y | y
  ·exact hSa y
  ·exact absurd hSl (R9.mpr y)
 have key:∀ (h:Heap) (c₁ tk:Nat),St 0 h->(∀ b u,b≠S->s.heap.get? b=some u->h.get? b=some u)->h.get? S=some {cls:=.type "list",data:=.seq #[] c₁}->codeAny (model prog w) A (.builtin "list.extend.loop" ⟨[.ref S,.ref J,res],[]⟩) R {s with heap:=h,toks:=tk,drawn:=d}:=by
  intro h c₁ tk hst hk hS₁;refine codeAny_extend_loopS W.toS (Zbk hz) S nf res ks.length 0 _ #[] c₁ rfl (QO _) hst hS₁ (ItemsOf.nil _) fun s2 acc c mv hS2 hacc=>?_;rw[Moved.eq_with mv];refine q s2.heap s2.toks d acc c ord hp (fun b u hb e=>mv.heap b u (fun z=>?_) (hk b u hb e)) hS2 hacc;rcases QA.mp z with y | y
  ·exact hb y
  ·exact absurd (Qs e) (by rw[Qp.mp y];exact R9.mpr hJ)
 refine wpAny_bind (wpAny_holding (Zls (s:={s with heap:=g,drawn:=d}) ⟨o,kk _ _ T.ob,T.ex.1⟩ ?_));refine wpAny_ite_split (fun _=>?_) (fun _=>wpAny_pure ⟨plainId_quiet PySem.F.plain_extend_loop _,key _ c₀ _ st (fun b u _ e=>kk b u e) gS⟩);refine wpAny_bind (wpAny_rule (wpAny_bind ?_));refine(show wpAny _ _ (updateSeq S (·.push .none) >>= fun _=>updateSeq S (·.pop)) _ _ _ from wpAny_bind (wpAny_updateSeq gS rfl ?_));have g2:=Wf (Obj.mapSeq (·.push Value.none)) gS rfl;refine wpAny_updateSeq (hz:=by seq_fits) g2 rfl ?_;have g3:=Wf (Obj.mapSeq (·.pop)) g2 rfl;refine wpAny_pure ⟨plainId_quiet PySem.F.plain_extend_loop _,key _ _ _ (W.frame 0 _ _ st fun b hb u e=>?_) (fun b u hb e=>?_) g3⟩
 ·have ne:b≠S:=fun z=>nf (z▸hb);exact(QN _ _ (Ne.symm ne)).trans ((QN _ _ (Ne.symm ne)).trans e)
 ·exact(QN _ _ (Ne.symm hb)).trans ((QN _ _ (Ne.symm hb)).trans (kk _ _ e))
theorem Zfc {R:List Value->Shared->Prop} {es:Array (Int×Value)} {t:SetTable} (hh:A.handled=none) (T:StT prog w s.heap a ks o es ep t) (hz:ks.length<=1000)
  (q:∀ h1 tk d (acc:Array Value) (ord:Array (Int×Value)),ord.toList.Perm es.toList->(∀ b u,s.heap.get? b=some u->h1.get? b=some u)->ItemsOf (Zml ord) acc ks.length->R acc.toList {s with heap:=h1,toks:=tk,drawn:=d}) :
  wpAny (model prog w) A (collect (.ref a)) R E s:=by
 have ha:a<s.heap.objs.size:=Qs T.ob;unfold collect;refine wpAny_bind (wpAny_runValue (codeAny_builtin entry_proto_collect' ?_));rw[Around.under_plainId PySem.F.plain_proto_collect _];refine(show wpAny _ A.in1 (newList [] >>= fun l=>again (.builtin "list.__iadd__" ⟨[l,.ref a],[]⟩)) _ _ s from wpAny_bind (wpAny_newObj_type (wpAny_pure ⟨plainId_quiet PySem.F.plain_list_iadd _,codeAny_builtin entry_list_iadd' ?_⟩)));rw[Around.under_plainId PySem.F.plain_list_iadd _];have gS:(s.heap.push {cls:=.type "list",data:=.seq ([]:List Value).toArray}).get? s.heap.objs.size=some {cls:=.type "list",data:=.seq #[]}:=Qy _ rfl;show wpAny _ A.in1 (Builtin.List.listExtendWith (.ref s.heap.objs.size) (.ref a) (.ref s.heap.objs.size)) _ _ _;have T1:StT prog w (s.heap.push {cls:=.type "list",data:=.seq ([]:List Value).toArray}) a ks o es ep t:={T with ob:=Qg _ T.ob}
 have key:=Zhm (A:=A) (s:={s with heap:=s.heap.push {cls:=.type "list",data:=.seq ([]:List Value).toArray}})
  (R:=fun(z:Result) (s':Shared)=>∃ (g:Heap) (tk:Nat) (d:Drawn) (acc:Array Value) (c:Nat) (ord:Array (Int×Value)),z= .ok (.ret (.ref s.heap.objs.size))/\s'={s with heap:=g,toks:=tk,drawn:=d}/\ord.toList.Perm es.toList /\
   (∀ b u,s.heap.get? b=some u->g.get? b=some u)/\g.get? s.heap.objs.size=some {cls:=.type "list",dict:=none,data:=.seq acc c,slots:=#[]}/\ItemsOf (Zml ord) acc ks.length)
  (S:=s.heap.objs.size) (res:=.ref s.heap.objs.size) (c₀:=0) hh T1 hz (Rg ha) gS (fun g tk d acc c ord hp kk gS2 hacc=>⟨g,tk,d,acc,c,ord,rfl,rfl,hp,fun b u e=>kk b u (Qz (Qs e)) (Qg _ e),gS2,hacc⟩)
 refine wpAny_mono key (fun fin s' x=>?_) fun e s' x=>?_
 ·cases fin with
  | done f =>
   obtain⟨g,tk,d,acc,c,ord,e,rfl,hp,kk,gS2,hacc⟩:=x;cases e;exact(show wpAny _ A (load s.heap.objs.size >>= _) _ _ _ from wpAny_bind (wpAny_load gS2 (wpAny_pure (q g tk d acc ord hp kk hacc))))
  | again c1 =>
   refine⟨x.1,codeAny_mono x.2 fun z s2 y=>?_⟩;obtain⟨g,tk,d,acc,c,ord,rfl,rfl,hp,kk,gS2,hacc⟩:=y;exact(show wpAny _ A (load s.heap.objs.size >>= _) _ _ _ from wpAny_bind (wpAny_load gS2 (wpAny_pure (q g tk d acc ord hp kk hacc))))
 ·obtain⟨_,_,_,_,_,_,z,_⟩:=x;cases z
theorem Zis {es:Array (Int×Value)} {t:SetTable} (T:StT prog w h a ks o es ep t) {ord:Array (Int×Value)} (hp:ord.toList.Perm es.toList) {acc:Array Value} (hacc:ItemsOf (Zml ord) acc ks.length) :
  ∃ xs:List Str,xs.Perm ks/\StrsAre acc.toList xs:=by
 have hol:ord.toList.length=ks.length:=by rw[hp.length_eq,QG,T.len]
 have el:∀ e∈ord.toList,∃ x tk,e.2= .str x tk/\x∈ks:=fun e he=>by
  have hm:=hp.mem_iff.mp he;obtain⟨⟨k,hk,_⟩,_⟩:=T.el e hm;obtain⟨x,ek,hx⟩:=(T.mem k).mpr ⟨e,hm,hk⟩;subst ek;rcases keyIs_shape (show ZaS (Sum.inr x) e.2=true from hk)with ⟨j,t,e4,_⟩ | ⟨z,t,e4,e5⟩
  ·cases e4
  ·injection e4 with e4
   exact⟨x,t,by rw[e5,e4],hx⟩
 have key:∀ (l:List (Int×Value)),(∀ e∈l,∃ x tk,e.2= .str x tk/\x∈ks)->∃ xs:List Str,StrsAre (l.map (·.2)) xs/\(∀ x∈xs,x∈ks)/\xs.length=l.length/\∀ x,(∃ e∈l,ZaS (Sum.inr x) e.2=true)->x∈xs:=by
  intro l;induction l with
  | nil=>exact fun _=>⟨[],.nil,(fun x hx=>by cases hx),rfl,(fun x ⟨e,he,_⟩=>by cases he)⟩
  | cons e l ih =>
   intro hl;obtain⟨xs,h1,h2,h3,h4⟩:=ih fun e he=>hl e (Ql _ he);obtain⟨x,tk,ex,hx⟩:=hl e (Qi ..);refine⟨x::xs,?_,fun y hy=>?_,by simp[h3],fun y ⟨e',he',hk⟩=>?_⟩
   ·rw[Qh,ex];exact .cons x tk h1
   ·rcases QA.mp hy with z | z
    ·rw[z];exact hx
    ·exact h2 y z
   ·rcases QA.mp he' with z | z
    ·subst z;rw[ex]at hk;rcases keyIs_shape hk with ⟨j,t,e4,_⟩ | ⟨z,t,e4,e5⟩
     ·cases e4
     ·injection e4 with e4
      injection e5 with e5 _
      rw[e4,←e5];exact Qi ..
    ·exact Ql _ (h4 y ⟨e',z,hk⟩)
 obtain⟨xs,h1,h2,h3,h4⟩:=key ord.toList el;have hsub:∀ x∈ks,x∈xs:=fun x hx=>by
  obtain⟨e,he,hk⟩:=(T.mem (Sum.inr x)).mp ⟨x,rfl,hx⟩;exact h4 x ⟨e,hp.mem_iff.mpr he,hk⟩
 refine⟨xs,?_,?_⟩
 ·exact Zjh T.nd hsub (by omega)
 ·have:acc.toList=ord.toList.map (·.2):=by
   apply QT;intro i;by_cases hi:i<acc.toList.length
   ·obtain⟨e,e1,e2⟩:=hacc.2 i acc.toList[i] (by rw[←Wb];exact Qa hi);rw[Qa hi,Qd,Wb,e1,e2];rfl
   ·have hl:=hacc.1;rw[←QG]at hl;rw[Qo (by omega),Qo (by rw[Qc];omega)]
  rw[this];exact h1
end
section
variable {X:Cx} {pins:List (Addr×Obj)} {σ:St} {H:Hp} {s:Shared}
theorem Inv.drw (I:Inv X pins σ H s) (d:Drawn):Inv X pins σ H {s with drawn:=d}:=by
 refine I.step (h':=s.heap) (t':=s.toks) (g':=s.gens) (d':=d) (ch:=[]) (fun b hb=>by cases hb) (fun b u _ _ _ e _=>e) (fun b u _ _ _ e _=>⟨u.slots,e⟩) (fun b u _ e n=>n) (fun b u _ e=>⟨u,e⟩) (fun b xs e=>e) (fun b u xs e=>e) (fun b ps e=>⟨#[],by rw[e];simp⟩) (fun m hm=>hm) I.hok I.bare
end
def stO (X:Cx) (p:Addr) (ks:List Str):HO:=.ext fun h=>SetT X.prog X.w h p ks
theorem Jm {X:Cx} (hc:X.calm=true):CallR X (.type "set") (fun xs H Q=>∃ (a:Addr) (ss:List Str),xs=[.ref a]/\SqL X.K H a (ss.map V.str)/\ss.length<=1000 /\
  ∀ (p:Addr) (ks:List Str),H p=none->ks.Nodup->(∀ x,x∈ks↔x∈ss)->ks.length<=ss.length->Q (.ref p) (upd H p (stO X p ks))):=by
 intro pins s σ H xs us Q I r h;obtain⟨a,ss,rfl,hq,h1k,q⟩:=h;obtain⟨u,rfl,ru⟩:=Xd r;cases ru;obtain⟨its,rv,pl,hz⟩:=I.list hq;have hl:=rv.length;rw[Qc]at hl;refine Zkc (I.ok.hd hc) pl.isList (by simpa using YR rv) (by rw[Qr];show its.length+1<4096;omega) fun h1 tk hS kk=>?_;have ez:its.toArray.size=ss.length:=by rw[Qr,hl]
 rw[ez]at hS;have hn:H s.heap.objs.size=none:=I.hok.fresh (Qk _);obtain⟨o,es,ep,t,T⟩:=id hS;refine⟨.ref s.heap.objs.size,_,I.laid (t':=tk) (o:=stO X s.heap.objs.size _) kk (Qk _) ⟨hS,⟨o,T.ob⟩,fun g1 g2 z k=>z.keep k⟩,rfl,q _ _ hn T.nd (fun x=>?_) (ZeW _ _)⟩;rw[Zjt];constructor
 ·rintro⟨j,hj,e⟩;rw[←e,Qb,Qa hj];exact QF hj
 ·intro hx;obtain⟨j,hj,e⟩:=Uu hx;exact⟨j,hj,by rw[Qb,Qa hj];exact e⟩
end L2
namespace Sh
open PySem L2 PyProof.Rows
seal L2.PE L2.PS L2.PSs L2.PT L2.PW L2.PA L2.PI L2.PG L2.PGs L2.PO L2.PC L2.PCs L2.OpR L2.UnR L2.CallR L2.MtR L2.IxR L2.SlR
variable {P:Program} {w:World} {K:PySem.W.Frag} {mg:Str->Option Value} {base:Heap}
theorem Y1 (g:Str->V) (y:Str):∀ ks:List Str,XF (ks.map fun x=>((Sum.inr x:Key),g x)) (Sum.inr y)=if y∈ks then some (g y)else none
 | []=>rfl
 | x::ks=>by
  have ih:=Y1 g y ks;by_cases e:x=y
  ·subst e;rw[Qh,J5 rfl,if_pos Qi]
  ·rw[Qh,J6 (fun q=>e (Sum.inr.inj q)),ih];have:(y∈x::ks)↔y∈ks:=by
    rw[QA];exact⟨fun h=>h.elim (fun q=>absurd q.symm e) id,.inr⟩
   simp only[this]
theorem Jz (g:Str->V) (y:Str) (v:V) (ks:List Str) (h:y∈ks):X8 (ks.map fun x=>((Sum.inr x:Key),g x)) (Sum.inr y) v=ks.map fun x=>((Sum.inr x:Key),if x=y then v else g x):=by
 unfold X8;rw[J7,Y1,if_pos h];simp only[Vl,if_true,QC];apply Qu;intro x _;by_cases e:x=y
 ·subst e;simp
 ·have:¬ (Sum.inr x:Key)=Sum.inr y:=fun q=>e (Sum.inr.inj q);simp[this,e]
theorem Ys:∀ {l m:List (List Nat)},l.Pairwise (· < ·)->m.Pairwise (· < ·)->(∀ x,x∈l↔x∈m)->l=m
 | [],[],_,_,_=>rfl
 | [],y::m,_,_,h=>absurd ((h y).mpr Qi) (by simp)
 | x::l,[],_,_,h=>absurd ((h x).mp Qi) (by simp)
 | x::l,y::m,hl,hm,h=>by
  have h1:=Wp.mp hl;have h2:=Wp.mp hm;have e:x=y:=by
   rcases QA.mp ((h x).mp Qi)with z | z
   ·exact z
   ·rcases QA.mp ((h y).mpr Qi)with z2 | z2
    ·exact z2.symm
    ·exact absurd (U7 (h1.1 y z2) (h2.1 x z)) (Wm _)
  subst e;have ih:=Ys h1.2 h2.2 fun z=>by
   constructor
   ·intro hz;rcases QA.mp ((h z).mp (Ql _ hz))with q | q
    ·subst q;exact absurd (h1.1 z hz) (Wm _)
    ·exact q
   ·intro hz;rcases QA.mp ((h z).mpr (Ql _ hz))with q | q
    ·subst q;exact absurd (h2.1 z hz) (Wm _)
    ·exact q
  rw[ih]
def gD (ks:List Str) (g:Str->Int):List (Key×V):=ks.map fun x=>((Sum.inr x:Key),V.int (g x))
theorem Zbw (ks:List Str) (g:Str->Int):(gD ks g).length=ks.length:=by unfold gD;rw[Qc]
theorem Zbv (ks:List Str) (g:Str->Int) (y:Str):XF (gD ks g) (Sum.inr y)=if y∈ks then some (.int (g y))else none:=Y1 (fun x=>V.int (g x)) y ks
theorem Zgs {ks:List Str} {g g':Str->Int} (h:∀ x∈ks,g x=g' x):gD ks g=gD ks g':=by
 unfold gD;exact Qu fun x m=>by rw[h x m]
theorem Zgr (ks:List Str) (g:Str->Int) (y:Str) (n:Int):X8 (gD ks g) (Sum.inr y) (.int n)=gD (if y∈ks then ks else ks++[y]) fun x=>if x=y then n else g x:=by
 by_cases m:y∈ks
 ·rw[if_pos m];unfold gD;rw[Jz _ _ _ _ m];apply Qu;intro x _;dsimp only;by_cases e:x=y
  ·rw[if_pos e,if_pos e]
  ·rw[if_neg e,if_neg e]
 ·rw[if_neg m,Zai _ (by rw[Zbv,if_neg m])];unfold gD;rw[QH,Wu];dsimp only;rw[if_pos rfl];congr 1;apply Qu;intro x hx;have ne:¬ x=y:=by
   intro e;rw[e]at hx;exact m hx
  rw[if_neg ne]
theorem Zn9 (ks:List Str) (g:Str->Int) (y:Str):ZdX (gD ks g) (Sum.inr y)=gD (ks.filter fun x=>decide (x≠y)) g:=by
 unfold ZdX gD;induction ks with
 | nil=>rfl
 | cons x ks ih =>
  rw[Qh,Wv,Wv,ih];by_cases e:x=y
  ·subst e;simp
  ·have h1:decide ((Sum.inr x:Key)≠Sum.inr y)=true:=decide_eq_true fun q=>e (by injection q);have h2:decide (x≠y)=true:=decide_eq_true e;rw[if_pos h1,if_pos h2,Qh]
end Sh
namespace L2
open PySem PySem.Spec PyProof.Rows
variable {X:Cx}
section
variable {prog:Program} {w:World} {A:Around} {R:Result->Shared->Prop} {it:Addr} {fp wr:List Addr} {n:Nat} {Pv:Nat->Value->Prop} {Sv:Nat->Heap->Prop}
end
theorem Znl {k:Key} {u:Value} (h:ZaS k u=true):RelV (kV k) u:=by
 rcases keyIs_shape h with ⟨i,t,rfl,rfl⟩ | ⟨x,t,rfl,rfl⟩
 ·exact⟨t,rfl⟩
 ·exact⟨t,rfl⟩
theorem Zpl {kvs:List (Key×V)} {vs:List (Key×Value)} (r:KV kvs vs):∀ {i:Nat} {p:Key×V},kvs[i]?=some p->∃ q,vs[i]?=some q/\p.1=q.1/\RelV p.2 q.2:=by
 unfold KV at r;induction r with
 | nil=>intro i p e;simp at e
 | @cons a b as bs h t ih =>
  intro i p e;cases i with
  | zero =>
   simp at e;subst e;exact⟨b,rfl,h⟩
  | succ i =>
   obtain⟨q,e2,r⟩:=ih (i:=i) (p:=p) (by simpa using e);exact⟨q,by simpa using e2,r⟩
section
variable {X:Cx} {pins:List (Addr×Obj)} {σ:St} {H H':Hp} {s s':Shared} {d:Addr} {o:Obj} {kvs kvs':List (Key×V)}
theorem Inv.frozen (I:Inv X pins σ H s) (hd:H d=some (.dK kvs)):∃ o,Inv X pins σ (upd H d (.frz o (.dK kvs))) s:=by
 have q:=I.hok d _ hd;obtain⟨z,lo,vs,kv,dd⟩:=id q;obtain⟨o,es,ep,ho,r⟩:=id dd;refine⟨o,I.write (h':=s.heap) (t':=s.toks) (x:=d) (e:=d) (by rw[hd];exact True.intro) (.inl rfl) (fun _ _ _ z=>z) ⟨o,ho⟩ ⟨ho,z,lo,vs,kv,dd⟩⟩
end
theorem ZmC {pins:List (Addr×Obj)} {σ:St} {H:Hp} {s:Shared} {d:Addr} {o:Obj} {kvs:List (Key×V)} {es:Array DictEntry} {ep:Nat} (I:Inv X pins σ H s) (hd:H d=some (.frz o (.dK kvs))) (ho:o.data= .dict es ep) :
  ∃ vs,KV kvs vs/\s.heap.DictAt (Zt X.prog X.w) d vs ep/\(d==sysModules)=false:=by
 obtain⟨h1,z,lo,vs,kv,o',es',ep',h2,h3,h4,h5⟩:=I.hok d _ hd;rw[h1]at h2;cases h2;rw[ho]at h4;cases h4;exact⟨vs,kv,⟨o,es,h1,h3,ho,h5⟩,lo⟩
theorem Zf0 (hu:X.A.units+64<cLine):OpR X (compareOp .NotEq) (fun x y H Q=>∃ da db,RepD H da x/\RepD H db y/\SeqAt.shaped da=true/\SeqAt.shaped db=true/\Q (.bl (!PyData.eqv da db)) H):=by
 intro pins s σ H x y v u Q I rx ry h;obtain⟨da,db,r1,r2,s1,s2,q⟩:=h;obtain⟨as,q1⟩:=RepD.reads I da x v r1 rx;obtain⟨bs,q2⟩:=RepD.reads I db y u r2 ry;exact ne_dataH q1 q2 s1 s2 hu ⟨.bl _,H,I,rfl,q⟩
theorem YL {t u:TS} {D:Zhx} {σ:L2.St} {H:Hp} (I:L2.St->Hp->Prop) (h:∀ R:L2.St->Hp->Prop,(∀ σ' H',I σ' H'->R σ' H')->t {D with nx:=R} σ H) (hu:∀ σ' H',I σ' H'->u D σ' H'):Zor t u D σ H:=h _ hu
theorem YA:MtR X "list.pop" ZqS:=Zpd
section
variable {X:Cx} {pins:List (Addr×Obj)} {σ:St} {H:Hp} {s:Shared} {a:Addr} {kvs:List (Key×V)} {k:Key} {u:Value} {A:Around} {E:Value->Shared->Prop}
theorem ZpA {z:V} {r:Value} {Q:Value->Shared->Prop} (I:Inv X pins σ H s) (e:H a=some (.dK kvs)) (ry:RelV (kV k) u) (rz:RelV z r) (hl:kvs.length<sizeLine) (h1:∀ v w' s',XF kvs k=some v->RelV v w'->Inv X pins σ H s'->Q w' s')
  (h2:XF kvs k=none->∀ s',Inv X pins σ (upd H a (.dK (X8 kvs k z))) s'->Q r s'):wpAny (model X.prog X.w) A (call (.builtin "dict.setdefault") [.ref a,u,r]) Q E s:=by
 obtain⟨zz,hd,vs,rel,dd⟩:=ZcI I.hok e;refine call_meetsIn PySem.F.slot_dict_setdefault dd.typeIs PySem.F.entry_dict_setdefault (PySem.F.args_dict_setdefault_3 _ _ _) (kt_meets_setdefault (Zt X.prog X.w) a (JZ ry) hd r) ⟨vs,dd,by rw[←rel.length];exact zz,fun v hv=>?_,fun hn h' dd' hs=>?_⟩
 ·have q:=rel.val k;rw[hv]at q;cases l:XF kvs k with
  | none=>rw[l]at q;exact(show False from q).elim
  | some v'=>rw[l]at q;exact h1 v' v _ l q (I.tok _)
 ·have q:=rel.val k;rw[hn]at q;have hlp:(X8 kvs k z).length<=sizeLine:=by have:=Y7 kvs k z;omega
  have he:∃ q,h'.get? a=some q:=let ⟨q,_,_,hq,_⟩:=dd';⟨q,hq⟩;cases l:XF kvs k with
  | none=>exact h2 l _ (JJ I (by rw[e];exact True.intro) hs he (Zd0 hlp hd (rel.put k rz) dd'))
  | some v'=>rw[l]at q;exact(show False from q).elim
end
def Zqa (td ty tx:TE):TE:=fun σ H Q=>td σ H fun x H1=>∃ a,x= .ref a/\IsD H1 a/\ty σ H1 fun y H2=>tx σ H2 fun z H3=>∃ kvs k,H3 a=some (.dK kvs)/\y=kV k/\kvs.length<sizeLine /\
 (∀ v,XF kvs k=some v->Q v H3)/\(XF kvs k=none->Q z (upd H3 a (.dK (X8 kvs k z))))
theorem ZiY {o e f:Expr} {apos cpos:Pos} {td ty tx:TE} (ho:PE X o td) (he:PE X e ty) (hf:PE X f tx) (m:M2 X o "setdefault" apos e f cpos):PE X (.Call (.Attribute o "setdefault" apos) [e,f] [] cpos) (Zqa td ty tx):=by
 intro pins s σ H Q I h;refine wpAny_Call_method m.base m.few m.line PySem.F.plainAttrs_dict PySem.F.slot_dict_setdefault PySem.F.type_dict_setdefault (thn (ho pins s σ H _ I h) fun u s1 ⟨x,H1,I1,rx,a,ex,d,q1⟩=>?_);subst ex;obtain rfl:u=Value.ref a:=rx;obtain⟨t1,t2,_⟩:=ZdN I1 d;refine⟨t1,t2,?_⟩;rw[m.trees];refine Calls.callWith_builtin rfl (Calls.evalArgs_plain (Calls.spliced_cons (thn (he pins s1 σ H1 _ I1 q1) fun iv s2 ⟨y,H2,I2,ry,q2⟩ =>
  Calls.spliced_cons (thn (hf pins s2 σ H2 _ I2 q2) fun fv s3 ⟨z,H3,I3,rz,kvs,k,ea,ey,hl,q3,q4⟩=>Calls.spliced_nil ?_))))
 subst ey;exact ZpA I3 ea ry rz hl (fun v w' s4 l rw' I4=>⟨v,H3,I4,rw',q3 v l⟩) fun l s4 I4=>⟨z,_,I4,rz,q4 l⟩
open PySem PySem.Spec PyProof.Rows PySem.Builtin.Str
theorem ZmQ {xs:List V} {us:List Value} (r:Vals xs us):∀ {i:Nat} {x:V} {u:Value},xs[i]?=some x->us[i]?=some u->RelV x u:=by
 induction r with
 | nil=>intro i x u h;cases h
 | cons r1 r2 ih =>
  intro i x u h1 h2;cases i with
  | zero =>
   cases h1;cases h2;exact r1
  | succ i=>exact ih h1 h2
end L2
namespace Sh
open PySem L2 PyProof.Rows PySem.Builtin.Str
variable {P:Program} {w:World} {K:PySem.W.Frag} {mg:Str->Option Value} {base:Heap}
end Sh
namespace L2
open PySem PySem.Spec PyProof.Rows
variable {H1:Hp}
def Itk (d:Addr) (o:Obj) (kvs:List (Key×V)):It :=
 ⟨fun i H=>H d=some (.frz o (.dK kvs))/\i<kvs.length,fun i H x H'=>H'=H/\∃ p,kvs[i]?=some p/\x=kV p.1,fun i H=>H d=some (.frz o (.dK kvs))/\kvs.length<=i⟩
theorem ZhL {P:Program} {w:World} {K:PySem.W.Frag} {tg:Expr} (d it:Addr) (o:Obj) (kvs:List (Key×V)) {es:Array DictEntry} {ep:Nat} (hod:o.data= .dict es ep) :
  ZmM P w K tg (Itk d o kvs) [it] it (fun i h=>h.IsKeyIter it d i kvs.length ep) where
 mem:=by simp
 obj:=fun i h he c hc=>by
  have hc:=Qp.mp hc;subst hc;obtain⟨ob,g1,g2,g3⟩:=he;exact⟨ob,g1,fun v z=>by rw[g3]at z;cases z⟩
 keep:=fun i h h' he kk=>he.at fun ob e=>kk it (by simp) ob e
 item:=by
  intro X hP hw hK hc i pins s σ H E I hf he hg;subst hP hw hK;obtain⟨hd,hi⟩:=hg;obtain⟨vs,kv,da,lo⟩:=ZmC I hd hod;obtain⟨p,hp⟩:∃ p,kvs[i]?=some p:=⟨_,Qa hi⟩
  obtain⟨q,hq,e1,e2⟩:=Zpl kv hp;obtain⟨f0,f1,f2,f3,f4,f5⟩:=hf it (by simp);have he':s.heap.IsKeyIter it d i vs.length ep:=by rw[←kv.length];exact he
  refine wpAny_pyNext_dict_item (k:=q.1) he' da hq fun key h1 hkey hit1 sb=>?_;have I1:Inv X pins σ H {s with heap:=h1}:=I.turned (t':=s.toks) (fun b u hb e=>(sb.2 b hb).trans e) f0 f1 f3 f4 f5;refine⟨key,rfl,letGo_keyiter hit1 ⟨kV p.1,H,I1,by rw[e1];exact Znl hkey,⟨rfl,p,hp,rfl⟩,by rw[kv.length];exact hit1,fun b hb=>(hf b hb).1⟩⟩
 done:=by
  intro X hP hw hK hc i pins s σ H E I hf he hg;subst hP hw hK;obtain⟨hd,hi⟩:=hg;obtain⟨vs,kv,da,lo⟩:=ZmC I hd hod;obtain⟨f0,f1,f2,f3,f4,f5⟩:=hf it (by simp);have he':s.heap.IsKeyIter it d i vs.length ep:=by rw[←kv.length];exact he
  exact wpAny_pyNext_dict_end (I.ok.hd hc) he' da (Qo (by rw[←kv.length];exact hi)) fun h' eb=>⟨rfl,I.turned (t':=s.toks) (fun b u hb e=>eb b u hb e) f0 f1 f3 f4 f5⟩
 self:=fun A i s Q E he h=>wpAny_pyIter_keyiter he h
def Zqy (td:TE):TI:=fun σ H R=>td σ H fun x H1=>∃ d o kvs,x= .ref d/\H1 d=some (.frz o (.dK kvs))/\R (Itk d o kvs) H1
theorem Zns {X:Cx} {tg ob:Expr} {td:TE} (ho:PE X ob td):PI X tg ob (Zqy td):=by
 intro pins s σ H R I h;refine thn (ho pins s σ H _ I h) fun v s1 ⟨x,H1,I1,r1,d,o,kvs,ex,hd,q1⟩=>?_;subst ex;obtain rfl:v=Value.ref d:=r1;obtain⟨g1,z,lo,vs,kv,dd⟩:=I1.hok d _ hd;obtain⟨ep,da⟩:=dd.dictAt;refine wpAny_pyIter_dict lo da ?_;obtain⟨o',es,g2,_,g3,_⟩:=id da;rw[g1]at g2;cases g2;refine⟨_,[_],_,Itk d o kvs,H1,rfl,I1.kept (t':=s1.toks) fun b u e=>Qg _ e,ZhL d s1.heap.objs.size o kvs g3,?_,fun b hb=>?_,q1⟩
 ·rw[kv.length];exact⟨_,Qy _ rfl,rfl,rfl⟩
 ·rw[Qp.mp hb];exact I1.fpOk (Qk _) (I1.hok.fresh (Qk _))
theorem ZnX {d:Addr} {o:Obj} {kvs:List (Key×V)} (hd:H1 d=some (.frz o (.dK kvs))):∀ H,Same H1 H->(∀ i,i<kvs.length->(Itk d o kvs).go i H/\∀ x H',(Itk d o kvs).yld i H x H'->H'=H/\x=(kvs.map fun p=>kV p.1).getD i .non)/\(Itk d o kvs).stop kvs.length H:=fun H s=>by
 refine⟨fun i hi=>⟨⟨s _ _ hd,hi⟩,fun x H' y=>?_⟩,⟨s _ _ hd,Qk _⟩⟩;obtain⟨e,p,hp,ex⟩:=y;refine⟨e,?_⟩;rw[ex,Qb,Qd,hp];rfl
theorem ZaR {k:Nat} {mp:List Nat} {σ:St} {g:TG} {tc:TT} {te:TE} {J:It} {Q:VK} (n:Nat) (xs:Nat->V) (t:Nat->Bool) (R:Nat->V->Hp->Prop) (hn:n<=sizeLine)
  (hR:∀ i v H H',TSame H H'->R i v H->R i v H')
  (hJ:∀ H,Same H1 H->(∀ i,i<n->J.go i H/\∀ x H',J.yld i H x H'->H'=H/\x=xs i)/\J.stop n H)
  (step:∀ i H (Qt:VK) (Qf:Hp->Prop),i<n->Same H1 H->(t i=true->∀ v H6,Same H H6->R i v H6->Qt v H6)->(t i=false->∀ H6,Same H H6->Qf H6)->g (xs i) (lcS k mp σ) H fun σ4 H4=>tc σ4 H4 fun b H5=>if b=true then te σ4 H5 Qt else Qf H5)
  (done:∀ D vs H',vs.length=((Qx n).filter t).length->(∀ (j i:Nat) (v:V),((Qx n).filter t)[j]?=some i->vs[j]?=some v->R i v H')->Same H1 H'->H1 D=none->H' D=some (.lst vs)->Q (.ref D) H'):Jh k mp σ g tc te J H1 Q:=by
 intro D hD;refine⟨fun i m acc H=>m=n-i/\i<=n/\acc.length=((Qx i).filter t).length/\Same H1 H/\H D=some (.lst acc)/\∀ (j q:Nat) (v:V),((Qx i).filter t)[j]?=some q->acc[j]?=some v->R q v H,
  ⟨n,by simp,QO _,rfl,Zb hD,Zd,fun j q v e _=>by simp at e⟩,?_⟩
 rintro i m acc H ⟨rfl,hi,hl,hs,hDa,hr⟩;obtain⟨j1,j2⟩:=hJ H hs;by_cases hlt:i<n
 ·refine .inr ⟨(j1 i hlt).1,fun x H3 y=>?_⟩;obtain⟨e1,e2⟩:=(j1 i hlt).2 x H3 y;subst e1 e2;refine step i H3 _ _ hlt hs (fun ht v H6 s6 r6=>⟨s6 _ _ hDa,?_,n-(i+1),by omega,rfl,hlt,?_,fun b o e=>?_,Zd,fun j q u e1 e2=>?_⟩) (fun ht H6 s6=>⟨n-(i+1),by omega,rfl,hlt,?_,hs.trans s6,s6 _ _ hDa,fun j q u e1 e2=>?_⟩)
  ·have:=Wa t (Qx i);rw[Wh]at this;omega
  ·rw[Uz,Wt,Qm,Qm,hl];simp[ht]
  ·rw[Zi (Zm e hD)];exact s6 _ _ (hs b o e)
  ·have ts:TSame H6 (upd H6 D (.lst (acc++[v]))):=XZ (s6 _ _ hDa);rw[Uz,Wt]at e1;rcases UE j acc.length with h | h | h
   ·rw[QP h]at e2;rw[QP (by omega)]at e1;exact hR _ _ _ _ (s6.tup.trans ts) (hr j q u e1 e2)
   ·subst h;rw[QQ (Qk _),WN]at e2;rw[QQ (by omega),hl,WN]at e1;simp[ht]at e1 e2;subst e1 e2;exact hR _ _ _ _ ts r6
   ·rw[Qo (by rw[Qm,QK];omega)]at e2;cases e2
  ·rw[Uz,Wt,Qm,hl];simp[ht]
  ·rw[Uz,Wt]at e1;have hj:j<acc.length:=(Qn.mp e2).1;rw[QP (by omega)]at e1;exact hR _ _ _ _ s6.tup (hr j q u e1 e2)
 ·have e:i=n:=by omega
  subst e;exact .inl ⟨j2,done D acc H hl hr hs hD hDa⟩
section
variable {prog:Program} {w:World} {A:Around} {E:Value->Shared->Prop} {s:Shared}
end
section
variable {X:Cx} {pins:List (Addr×Obj)} {σ:St} {H H':Hp} {s s':Shared} {d:Addr} {o:Obj} {kvs kvs':List (Key×V)}
theorem Inv.thaw2 {σ2:St} (I:Inv X pins σ H s) (hd:H d=some (.dK kvs)) (J:Inv X pins σ2 H' s') (e:H' d=some (.frz o (.dK kvs'))):Inv X pins σ2 (upd H' d (.dK kvs')) s':=by
 have nn:∀ b,H' b=none->upd H' d (.dK kvs') b=none:=fun b z=>by
  rw[Zi]
  ·exact z
  ·intro w;rw[w,e]at z;cases z
 refine {J with base:=⟨J.base.keep,J.base.slot,fun b ob h1 h2 h3=>nn b (J.base.free b ob h1 h2 h3),J.base.there,fun b xs h1=>?_,fun b ob u h1=>?_,fun b ps h1=>?_⟩,free:=nn _ J.free,freeC:=fun x c h=>nn _ (J.freeC x c h),pin:=fun p hp=>?_,hok:=fun b u h1=>?_}
 ·have h2:=J.base.tups b xs h1;rw[Zi]
  ·exact h2
  ·intro w;rw[w,e]at h2;cases h2
 ·by_cases w:b=d
  ·have h2:=I.base.frzs b ob u h1;rw[w,hd]at h2;cases h2
  ·rw[Zi w];exact J.base.frzs b ob u h1
 ·obtain⟨more,h2⟩:=J.base.tbls b ps h1;refine⟨more,?_⟩;rw[Zi]
  ·exact h2
  ·intro w;rw[w,e]at h2;cases h2
 ·obtain⟨p1,p2,p3⟩:=J.pin p hp;exact⟨p1,nn _ p2,p3⟩
 ·have ho:∀ (a:Addr) (b:Addr),H' b=some (.own a)->upd H' d (.dK kvs') b=some (.own a):=fun a b z=>by
   rw[Zi]
   ·exact z
   ·intro w;rw[w,e]at z;cases z
  have ht:∀ (b:Addr) xs,H' b=some (.tup xs)->upd H' d (.dK kvs') b=some (.tup xs):=fun b xs z=>by
   rw[Zi]
   ·exact z
   ·intro w;rw[w,e]at z;cases z
  by_cases w:b=d
  ·subst w;rw[Zd]at h1;cases h1;obtain⟨_,q⟩:=J.hok b _ e;exact q.stay (fun _ _ _ z=>z) (ho b) ht
  ·rw[Zi w]at h1;exact(J.hok b u h1).stay (fun _ _ _ z=>z) (ho b) ht
end
def Zp7 (t:TS):TS:=fun D σ H=>∃ d kvs,H d=some (.dK kvs)/\∀ o,t ⟨fun σ' H'=>H' d=some (.frz o (.dK kvs))/\D.nx σ' (upd H' d (.dK kvs)),fun _ _=>False,fun _ _=>False,fun _ _=>False⟩ σ (upd H d (.frz o (.dK kvs)))
theorem ZoP {X:Cx} {st:Stmt} {t:TS} (h:PS X st t):PS X st (Zp7 t):=by
 intro pins s σ H D I q;obtain⟨d,kvs,hd,q⟩:=q;obtain⟨o,I1⟩:=I.frozen hd;refine wpAny_mono (h pins s σ _ _ I1 (q o)) (fun f s2 z=>?_) fun _ _ e=>e;cases f with
 | next =>
  obtain⟨σ2,H2,I2,e2,q2⟩:=z;exact⟨σ2,_,I.thaw2 hd I2 e2,q2⟩
 | brk =>
  obtain⟨_,_,_,z⟩:=z;exact z.elim
 | cont =>
  obtain⟨_,_,_,z⟩:=z;exact z.elim
 | ret v =>
  obtain⟨_,_,_,_,_,z⟩:=z;exact z.elim
theorem Zjz {k:Nat} {mp:List Nat} {σ:St} {g:TG} {te:TE} {J:It} {Q:VK} (n:Nat) (xs:Nat->V) (f:Nat->List V) (hn:n<=sizeLine)
  (hJ:∀ H,Same H1 H->(∀ i,i<n->J.go i H/\∀ x H',J.yld i H x H'->H'=H/\x=xs i)/\J.stop n H)
  (step:∀ i H (Qe:VK),i<n->Same H1 H->(∀ a H6,Same H H6->H a=none->H6 a=some (.lst (f i))->Qe (.ref a) H6)->g (xs i) (lcS k mp σ) H fun σ4 H4=>te σ4 H4 Qe)
  (done:∀ D (as:List Addr) H',as.length=n->as.Nodup->(∀ i a,as[i]?=some a->a≠D/\H1 a=none/\H' a=some (.lst (f i)))->Same H1 H'->H1 D=none->H' D=some (.lst (as.map V.ref))->Q (.ref D) H'):Jh k mp σ g Zm2 te J H1 Q:=by
 intro D hD;refine⟨fun i m acc H=>m=n-i/\i<=n/\Same H1 H/\H D=some (.lst acc)/\∃ as:List Addr,acc=as.map V.ref/\as.length=i/\as.Nodup/\∀ j a,as[j]?=some a->a≠D/\H1 a=none/\H a=some (.lst (f j)),⟨n,by simp,QO _,Zb hD,Zd,[],rfl,rfl,WZ,fun j v e=>by simp at e⟩,?_⟩;rintro i m acc H ⟨rfl,hi,hs,hDa,as,rfl,hl,hnd,hr⟩;obtain⟨j1,j2⟩:=hJ H hs;by_cases hlt:i<n
 ·refine .inr ⟨(j1 i hlt).1,fun x H3 y=>?_⟩;obtain⟨e1,e2⟩:=(j1 i hlt).2 x H3 y;subst e1 e2;refine step i H3 _ hlt hs fun a H6 s6 ha r6=>⟨s6 _ _ hDa,by rw[Qc];omega,n-(i+1),by omega,rfl,hlt,fun b o e=>?_,Zd,as++[a],by rw[QH];rfl,by rw[Qm,hl];rfl,?_,fun j u e=>?_⟩
  ·rw[Zi (Zm e hD)];exact s6 _ _ (hs b o e)
  ·rw[WL];refine⟨hnd,by simp,fun x hx y hy e=>?_⟩;rw[Qp.mp hy]at e;subst e;obtain⟨j,hj⟩:=List.mem_iff_getElem?.mp hx;rw[(hr j x hj).2.2]at ha;cases ha
  ·have naD:a≠D:=fun z=>by rw[z,hDa]at ha;cases ha
   rcases UE j as.length with h | h | h
   ·rw[QP h]at e;obtain⟨q1,q2,q3⟩:=hr j u e;exact⟨q1,q2,by rw[Zi q1];exact s6 _ _ q3⟩
   ·subst h;rw[QQ (Qk _),WN]at e;cases e;exact⟨naD,hs.free ha,by rw[Zi naD,hl];exact r6⟩
   ·rw[Qo (by rw[Qm,QK];omega)]at e;cases e
 ·have e:i=n:=by omega
  subst e;exact .inl ⟨j2,done D as H hl hnd hr hs hD hDa⟩
end L2
set_option maxRecDepth 4000
namespace L2
open PySem PySem.Spec PyProof.Rows
def Znn:V->List V->Hp->VK->Prop:=fun x vs H Q=>∃ l xs,∃ i:Nat,∃ y,x= .ref l/\vs=[.int i,y]/\H l=some (.lst xs)/\i<=xs.length/\xs.length<sizeLine/\Q .non (upd H l (.lst (xs.take i++[y]++xs.drop i)))
theorem ZhA {xs:List V} {us:List Value} (r:Vals xs us):∀ i:Nat,Vals (xs.take i) (us.take i):=by
 induction r with
 | nil=>intro i;rw[VW,VW];exact .nil
 | cons h t ih =>
  intro i;cases i with
  | zero=>exact .nil
  | succ i=>exact .cons h (ih i)
theorem ZhC {xs:List V} {us:List Value} (r:Vals xs us):∀ i:Nat,Vals (xs.drop i) (us.drop i):=by
 induction r with
 | nil=>intro i;rw[VX,VX];exact .nil
 | cons h t ih =>
  intro i;cases i with
  | zero=>exact .cons h t
  | succ i=>exact ih i
theorem ZjL {prog:Program} {w:World} {A:Around} {E:Value->Shared->Prop} {s:Shared} {Q:Value->Shared->Prop} {l:Addr} {its:List Value} {n:Nat} {x:Int} {t:Tok} {y:Value} (e:s.heap.get? l=some {cls:=.type "list",dict:=none,data:=.seq its.toArray n,slots:=#[]})
  (hfit:¬ (!Builtin.List.listFitsIndex x)=true) (hsz:its.toArray.size<=sizeLine) (h:Q .none {s with heap:=s.heap.update l (Obj.mapSeq fun xs=>have k:=if x<0 then (x+(xs.size:Int)).toNat else min x.toNat xs.size;(xs.extract 0 k).push y++xs.extract k),toks:=s.toks}) :
  wpAny (model prog w) A (call (.builtin "list.insert") [.ref l,.int x t,y]) Q E s :=
 call_meets F.slot_list_insert ⟨_,e,rfl⟩ F.entry_list_insert (F.args_list_insert_3 _ _ _) (AutoSeq1.list_insert_list_int_val_1 l its.toArray n x t y hfit hsz) ⟨e,h⟩
theorem Zjr {X:Cx}:MtR X "list.insert" Znn:=by
 intro pins s σ H x vs v us Q I rx rv h;obtain⟨l,xs,i,y,rfl,rfl,hH,hi,hz,q⟩:=h;cases rx;obtain⟨u,w',rfl,ru,rw'⟩:=ZhD rv;obtain⟨t,rfl⟩:=ru;obtain⟨z,its,n,r,hl,e⟩:=I.lstM hH;have hs:sizeLine=16777216:=sizeLine_eq;have hfit:Builtin.List.listFitsIndex (i:Int)=true:=fitsIndex_both (by omega) (by omega);have hfit2:¬ (!Builtin.List.listFitsIndex (i:Int))=true:=by
  rw[hfit];exact QI
 have hsz:its.toArray.size<=sizeLine:=by rw[Qr];omega
 have e1:∀ m:Nat,i<=m->(if (i:Int)<0 then ((i:Int)+((m:Nat):Int)).toNat else min (i:Int).toNat m)=i:=fun m hm=>by
  rw[if_neg (by omega),Wn];omega
 have hf:(fun xs:Array Value=>(xs.extract 0 (if (i:Int)<0 then ((i:Int)+((xs.size:Nat):Int)).toNat else min (i:Int).toNat xs.size)).push w'++xs.extract (if (i:Int)<0 then ((i:Int)+((xs.size:Nat):Int)).toNat else min (i:Int).toNat xs.size)) its.toArray=(its.take i++[w']++its.drop i).toArray:=by
  show(its.toArray.extract 0 (if (i:Int)<0 then ((i:Int)+((its.toArray.size:Nat):Int)).toNat else min (i:Int).toNat its.toArray.size)).push w'++its.toArray.extract (if (i:Int)<0 then ((i:Int)+((its.toArray.size:Nat):Int)).toNat else min (i:Int).toNat its.toArray.size)=_;rw[e1 _ (by rw[Qr];omega)];simp;exact QJ (by rw[QV];omega)
 have J:=I.lset (f:=fun xs:Array Value=>(xs.extract 0 (if (i:Int)<0 then ((i:Int)+((xs.size:Nat):Int)).toNat else min (i:Int).toNat xs.size)).push w'++xs.extract (if (i:Int)<0 then ((i:Int)+((xs.size:Nat):Int)).toNat else min (i:Int).toNat xs.size)) (t':=s.toks) (ys:=xs.take i++[y]++xs.drop i) hH e hf (((ZhA r i).append (.cons rw' .nil)).append (ZhC r i)) (by
  simp only[Qm,QB,QV,QK];omega)
 have fin:EP X pins σ Q .none {s with heap:=s.heap.update l (Obj.mapSeq fun xs:Array Value=>(xs.extract 0 (if (i:Int)<0 then ((i:Int)+((xs.size:Nat):Int)).toNat else min (i:Int).toNat xs.size)).push w'++xs.extract (if (i:Int)<0 then ((i:Int)+((xs.size:Nat):Int)).toNat else min (i:Int).toNat xs.size)),toks:=s.toks}:=⟨.non,_,J,rfl,q⟩
 exact ZjL e hfit2 hsz fin
theorem Zjq {X:Cx}:MtR X "list.pop" Zme:=Zlf
end L2
namespace PySem
namespace F
theorem ZaK:Manifest.owners.lookup (String.ofList ['d','e','s','r','e','v','e','r'].reverse)=some Manifest.sig_reversed:=by kernel_rfl
theorem slot_rev_next:Slot "reversed" "__next__" "reversed.__next__" :=
 .of (owner:="reversed") (n:="__next__") (by rw[typeLookup_type,builtinLookup_eq_fast];kernel_rfl) (by decide +kernel) (by decide +kernel) (by decide +kernel)
  (by first | exact .inl (by decide +kernel) | exact .inr (by decide +kernel)) (by rw[isSubtype_type];kernel_rfl)
theorem entry_rev_next:entryFor table "reversed.__next__" = some Builtin.«reversed.__next__»:=entryFor_of_tree (by kernel_rfl)
theorem args_rev_next_1 (a:Value):argsOk "reversed.__next__" ⟨[a],[]⟩:=by
 unfold argsOk;rw[signature?_of (id:="reversed.__next__") (n:=['_','_','t','x','e','n','_','_']) (o:=['d','e','s','r','e','v','e','r']) (by kernel_rfl) ZaK];kernel_rfl
theorem slot_rev_iter:Slot "reversed" "__iter__" "reversed.__iter__" :=
 .of (owner:="reversed") (n:="__iter__") (by rw[typeLookup_type,builtinLookup_eq_fast];kernel_rfl) (by decide +kernel) (by decide +kernel) (by decide +kernel)
  (by first | exact .inl (by decide +kernel) | exact .inr (by decide +kernel)) (by rw[isSubtype_type];kernel_rfl)
theorem args_rev_iter_1 (a:Value):argsOk "reversed.__iter__" ⟨[a],[]⟩:=by
 unfold argsOk;rw[signature?_of (id:="reversed.__iter__") (n:=['_','_','r','e','t','i','_','_']) (o:=['d','e','s','r','e','v','e','r']) (by kernel_rfl) ZaK];kernel_rfl
theorem entry_rev_iter:entryFor table "reversed.__iter__" = some Builtin.«dict_keyiterator.__iter__» :=
 entryFor_alias (id':="dict_keyiterator.__iter__") (by kernel_rfl) (by first | rfl | decide +kernel | (unfold String.splitOn;simp +decide [String.splitOnAux])) (by decide +kernel) (by kernel_rfl)
theorem rev_no_len:typeLookup (.type "reversed") "__len__" = pure none:=by rw[typeLookup_type,builtinLookup_eq_fast];kernel_rfl
theorem slot_rev_hint:Slot "reversed" "__length_hint__" "reversed.__length_hint__" :=
 .of (owner:="reversed") (n:="__length_hint__") (by rw[typeLookup_type,builtinLookup_eq_fast];kernel_rfl) (by decide +kernel) (by decide +kernel) (by decide +kernel)
  (by first | exact .inl (by decide +kernel) | exact .inr (by decide +kernel)) (by rw[isSubtype_type];kernel_rfl)
theorem entry_rev_hint:entryFor table "reversed.__length_hint__" = some Builtin.«reversed.__length_hint__»:=entryFor_of_tree (by kernel_rfl)
theorem args_rev_hint_1 (a:Value):argsOk "reversed.__length_hint__" ⟨[a],[]⟩:=by
 unfold argsOk;rw[signature?_of (id:="reversed.__length_hint__") (n:=['_','_','t','n','i','h','_','h','t','g','n','e','l','_','_']) (o:=['d','e','s','r','e','v','e','r']) (by kernel_rfl) ZaK];kernel_rfl
theorem str_no_reversed:typeLookup (.type "str") "__reversed__" = pure none:=by rw[typeLookup_type,builtinLookup_eq_fast];kernel_rfl
theorem sub_rev_rev:isSubtype (.type "reversed") (.type "reversed")=pure true:=by rw[isSubtype_type];kernel_rfl
theorem ZbQ:Slot "reversed" "__init__" "object.__init__" :=
 .of (owner:="object") (n:="__init__") (by rw[typeLookup_type,builtinLookup_eq_fast];kernel_rfl) (by decide +kernel) (by decide +kernel) (by decide +kernel)
  (by first | exact .inl (by decide +kernel) | exact .inr (by decide +kernel)) (by rw[isSubtype_type];kernel_rfl)
theorem called_rev:TypeCalled "reversed" "reversed.__new__" "object.__init__" :=
 ⟨by decide +kernel,by decide +kernel,⟨_,_,mro_reversed⟩,madeBy_type mro_reversed lookup_reversed_new (by decide +kernel),by decide +kernel,by rw[isSubtype_type];kernel_rfl,ZbQ⟩
end F
end PySem
namespace PySem
def Zqh (x:Str) (t:Tok) (i:Int):Obj:={cls:=.type "reversed",data:=.fields #[.str x t,rawInt i]}
theorem Zcp (x:Str) (t:Tok) (hx:x.length<=sizeLine) :
  Meets (Builtin.«reversed.__new__» ⟨[.type "reversed",.str x t],[]⟩) (fun _ R s =>
   R (.ok (.ret (.ref s.heap.objs.size))) {s with toks:=s.toks+1+1,heap:=s.heap.push (Zqh x t ((x.length:Int)-1))}) :=
 .of_wp fun prog w A R s h=>by
  unfold Builtin.«reversed.__new__»;refine wpAny_bind (wpAny_of_eq (newClass_reversed _) ?_)
  try dsimp only
  refine wpAny_bind (wpAny_of_eq (a:=()) (by first | rfl | kernel_rfl) ?_);refine wpAny_bind (wpAny_of_eq (a:=()) (by first | rfl | kernel_rfl) ?_)
  try dsimp only
  refine wpAny_bind (wpAny_specialOf (typeIs_str _ x t) F.str_no_reversed ?_)
  try dsimp only
  refine wpAny_bind ?_
  wp_delta
  refine wpAny_bind (wpAny_isInstance (T:="str") (v:=.str x t) (b:=false) rfl F.sub_str_dict ?_)
  try dsimp only
  refine wpAny_bind (wpAny_specialOf (typeIs_str _ x t) F.slot_str_getitem.lookup ?_)
  try dsimp only
  rw[if_pos (by decide)];refine wpAny_pure ?_;rw[if_neg (by decide)];have hs:sizeLine=16777216:=sizeLine_eq;refine wpAny_bind (P.len_str (by omega) ?_);refine wpAny_bind (wpAny_of_eq (a:=some (x.length:Int)) rfl ?_)
  try dsimp only
  unfold Builtin.SmallTypes.newRecord
  try dsimp only
  refine wpAny_bind (wpAny_newObj_type ?_);exact wpAny_pure ⟨_,rfl,h⟩
section
variable {prog:Program} {w:World} {A:Around} {E:Value->Shared->Prop} {s:Shared}
theorem JK {x:Str} {t:Tok} {Q:Value->Shared->Prop} (hx:x.length<=sizeLine)
  (h:Q (.ref s.heap.objs.size) {s with toks:=s.toks+1+1,heap:=s.heap.push (Zqh x t ((x.length:Int)-1))}):wpAny (model prog w) A (call (.type "reversed") [.str x t]) Q E s :=
 callType_new F.called_rev (by decide) (F.typeCall_reversed_1 _) (F.newCall_reversed_1 _) (fun obj=>F.args_object_init_2 obj _) F.entry_reversed_new (Zcp x t hx) ⟨⟨_,Qy _ rfl,rfl⟩,h⟩
def Heap.IsRevS (h:Heap) (a:Addr) (x:Str) (t:Tok) (i:Int):Prop:=∃ o,h.get? a=some o/\o.cls= .type "reversed"/\o.data= .fields #[.str x t,rawInt i]
theorem Heap.IsRevS.typeIs {a:Addr} {x:Str} {t:Tok} {i:Int} (y:s.heap.IsRevS a x t i):s.TypeIs (.ref a) "reversed":=let ⟨o,ho,hc,_⟩:=y;⟨o,ho,hc⟩
theorem Heap.IsRevS.at {h h':Heap} {a:Addr} {x:Str} {t:Tok} {i:Int} (y:h.IsRevS a x t i) (e:∀ o,h.get? a=some o->h'.get? a=some o):h'.IsRevS a x t i:=let ⟨o,ho,r⟩:=y;⟨o,e _ ho,r⟩
theorem Jr {it:Addr} {x:Str} {t:Tok} {i c:Nat} {Q:Option Value->Shared->Prop} (hit:s.heap.IsRevS it x t (i:Int)) (hc:x.cps[i]?=some c) (hx:x.length<=sizeLine)
  (hQ:∀ h' u,h'.IsRevS it x t ((i:Int)-1)->Heap.SameBut it s.heap h'->Q (some (.str ⟨#[c]⟩ u)) {s with heap:=h',toks:=s.toks+1+1}):wpAny (model prog w) A (pyNext (.ref it)) Q E s:=by
 obtain⟨o,ho,hcl,hd⟩:=id hit;have hs:sizeLine=16777216:=sizeLine_eq;have hi:i<x.length:=by
  have:=(RC.mp hc).1;exact this
 unfold pyNext;refine wpAny_bind (wpAny_attempt (wpAny_callSpecial?_slot (name:=Str.ofString "__next__") hit.typeIs F.slot_rev_next
  (wpAny_call_entry F.slot_rev_next hit.typeIs F.entry_rev_next ?_ (F.args_rev_next_1 _))))
 unfold Builtin.«reversed.__next__»;refine wpAny_bind (wpAny_of_eq (a:=(Value.ref it,[])) rfl ?_)
 try dsimp only
 refine wpAny_bind (wpAny_field ho hd (x:=.str x t) rfl ?_);refine wpAny_bind (wpAny_field ho hd (x:=rawInt (i:Int)) rfl ?_);show wpAny _ _ (if (i:Int)<0 then _ else _) _ _ s;rw[if_neg (by omega)];refine wpAny_bind (wpAny_specialOf (typeIs_str _ x t) F.slot_str_getitem.lookup ?_);rw[if_neg (by decide)];refine wpAny_bind (wpAny_mkInt ?_);have e1:decide ((i:Int) < -(2 ^ 63:Int))=false:=decide_eq_false (by omega);have e2:decide ((i:Int)≥2 ^ 63)=false:=decide_eq_false (by omega);have e3:seqIndex? (i:Int) x.length=some i:=(L2.ixN_seq (by unfold L2.ixN;rw[if_pos (by omega),if_pos (by omega)];rfl)).1;refine wpAny_bind (wpAny_attempt (P.getItem_str (c:=c) (by rw[e1,e2];rfl) (by rw[e3];exact hc) ?_))
 try dsimp only
 refine wpAny_bind (wpAny_field ho hd (x:=rawInt (i:Int)) rfl ?_);show wpAny _ _ (setField (Value.ref it) 1 (rawInt ((i:Int)-1)) >>= _) _ _ _;refine wpAny_bind (wpAny_setField ho hd (by simp) ?_);refine wpAny_pure ⟨_,rfl,wpAny_pure (hQ _ _ ?_ (Heap.SameBut.update ..))⟩;exact⟨_,Wf _ ho (Obj.isFreed_of_fields (Obj.data_mapFields hd _)),(Obj.cls_mapFields ..).trans hcl,by
  rw[Obj.data_mapFields hd];simp⟩
theorem Xg {it:Addr} {x:Str} {t:Tok} {Q:Option Value->Shared->Prop} (hh:A.handled=none) (hit:s.heap.IsRevS it x t (-1))
  (hQ:∀ h',Heap.ExtBut it s.heap h'->Q none {s with heap:=h'}):wpAny (model prog w) A (pyNext (.ref it)) Q E s:=by
 obtain⟨o,ho,hcl,hd⟩:=id hit;unfold pyNext;refine wpAny_bind (wpAny_attempt (wpAny_callSpecial?_slot (name:=Str.ofString "__next__") hit.typeIs F.slot_rev_next
  (wpAny_call_entry F.slot_rev_next hit.typeIs F.entry_rev_next ?_ (F.args_rev_next_1 _))))
 unfold Builtin.«reversed.__next__»;refine wpAny_bind (wpAny_of_eq (a:=(Value.ref it,[])) rfl ?_)
 try dsimp only
 refine wpAny_bind (wpAny_field ho hd (x:=.str x t) rfl ?_);refine wpAny_bind (wpAny_field ho hd (x:=rawInt (-1)) rfl ?_);show wpAny _ _ (if (-1:Int)<0 then _ else _) _ _ s;rw[if_pos (by decide)];refine wpAny_bind (wpAny_rule ?_);refine wpAny_bind ?_
 wp_delta
 refine wpAny_bind (wpAny_setField ho hd (by simp) ?_);have h1:=Wf (Obj.mapFields fun vs=>vs.set! 1 (rawInt (-1))) ho (Obj.isFreed_of_fields (Obj.data_mapFields hd _));have d1:(Obj.mapFields (fun vs=>vs.set! 1 (rawInt (-1))) o).data= .fields #[.str x t,rawInt (-1)]:=by rw[Obj.data_mapFields hd];simp
 refine wpAny_setField h1 d1 (by simp) ?_;refine wpAny_bind ?_;unfold Builtin.SmallTypes.stopIteration;refine wpAny_bind ?_;simp only[newExc,newTuple];refine wpAny_bind (wpAny_newObj_type ?_ (by size_fits));refine wpAny_bind (m:=firstArgMember _ _) (wpAny_of_eq (a:=Value.none) (by first | rfl | (simp only[firstArgMember];rfl)) ?_);refine wpAny_newObj_type ?_ (by size_fits);simp only[raiseNew];refine wpAny_bind (wpAny_handled ?_);first | rw[show A.in1.handled=none from hh] | rw[hh]
 refine wpAny_bind (wpAny_pure (wpAny_throw ?_));refine wpAny_bind (wpAny_isInstance (T:="StopIteration") (b:=true) ⟨_,Qy _ rfl,rfl⟩ isSubtype_stop ?_);refine wpAny_pure (hQ _ ?_);intro b ob hb e;refine Qg _ (Qg _ ?_);exact(QN _ _ (Ne.symm hb)).trans ((QN _ _ (Ne.symm hb)).trans e)
theorem YO {it:Addr} {x:Str} {t:Tok} {i:Int} {Q:Value->Shared->Prop} (hit:s.heap.IsRevS it x t i) (h:Q (.ref it) s):wpAny (model prog w) A (pyIter (.ref it)) Q E s:=by
 refine wpAny_pyIter_slot hit.typeIs F.slot_rev_iter (wpAny_call_entry F.slot_rev_iter hit.typeIs F.entry_rev_iter ?_ (F.args_rev_iter_1 _));show wpAny _ _ (ret (.ref it)) _ _ s;exact wpAny_pure ⟨_,rfl,"reversed",_,hit.typeIs,F.slot_rev_next.lookup,h⟩
end
theorem ZgM {prog:Program} {w:World} {A:Around} (hh:A.handled=none) (I:Addr) (x:Str) (t:Tok) (hx:x.length<=sizeLine) :
  Walks prog w A I [I] [I] x.length (fun i v=>∃ c u,x.cps[x.length-1-i]?=some c/\v= .str ⟨#[c]⟩ u) (fun i h=>i<=x.length/\h.IsRevS I x t ((x.length:Int)-1-(i:Int))) where
 sub:=fun b hb=>by simp at hb;simp[hb]
 frame:=fun _ _ _ y hk=>⟨y.1,y.2.at fun o e=>hk I (by simp) o e⟩
 item:=fun i s Q E hi y hQ=>by
  have e:(x.length:Int)-1-(i:Int)=((x.length-1-i:Nat):Int):=by omega
  have hit:=y.2;rw[e]at hit;have hlt:x.length-1-i<x.cps.size:=by
   have:x.length=x.cps.size:=rfl;omega
  have hc:x.cps[x.length-1-i]?=some (x.cps[x.length-1-i]'hlt):=QX hlt;refine Jr hit hc hx fun h' u hit' hs'=>?_;have e2:((x.length-1-i:Nat):Int)-1=(x.length:Int)-1-((i+1:Nat):Int):=by omega
  rw[e2]at hit';exact hQ _ h' _ ⟨_,u,hc,rfl⟩ ⟨hi,hit'⟩ fun b o hb eo=>hs'.extBut b o (fun h=>hb (by simp[h])) eo
 done:=fun s Q E y hQ=>by
  have e:(x.length:Int)-1-(x.length:Int) = -1:=by omega
  have hit:=y.2;rw[e]at hit;exact Xg hh hit fun h' he'=>hQ h' s.toks fun b o hb eo=>he' b o (fun h=>hb (by simp[h])) eo
 self:=fun _ _ _ _ y hQ=>YO y.2 hQ
section
variable {prog:Program} {w:World} {A:Around} {E:Value->Shared->Prop} {s:Shared}
theorem ZcP {it:Addr} {x:Str} {t:Tok} {Q:Value->Shared->Prop} (hit:s.heap.IsRevS it x t ((x.length:Int)-1)) (hx:x.length<=sizeLine)
  (h:∀ u tk,Q (.int x.length u) {s with toks:=tk}):wpAny (model prog w) A (call (.builtin "reversed.__length_hint__") [.ref it]) Q E s:=by
 obtain⟨o,ho,hcl,hd⟩:=id hit;have hs:sizeLine=16777216:=sizeLine_eq;refine wpAny_call_entry F.slot_rev_hint hit.typeIs F.entry_rev_hint ?_ (F.args_rev_hint_1 _);unfold Builtin.«reversed.__length_hint__»;refine wpAny_bind (wpAny_of_eq (a:=Value.ref it) rfl ?_);refine wpAny_bind (wpAny_field ho hd (x:=.str x t) rfl ?_);rw[if_neg (show ¬ ((Value.str x t==Value.none)=true)from QI)];refine wpAny_bind (P.len_str (by omega) ?_);refine wpAny_bind (wpAny_of_eq (a:=some (x.length:Int)) rfl ?_)
 try dsimp only
 refine wpAny_bind (wpAny_field ho hd (x:=rawInt ((x.length:Int)-1)) rfl ?_);show wpAny _ _ (if (x.length:Int)<(x.length:Int)-1+1 then _ else _) _ _ _;rw[if_neg (by omega)];unfold retInt;refine wpAny_bind (wpAny_mkInt (wpAny_pure ⟨_,rfl,?_⟩));have e:(x.length:Int)-1+1=x.length:=by omega
 rw[e];exact h _ _
theorem ZkN {it:Addr} {x:Str} {t:Tok} {Q:Bool->Shared->Prop} (hit:s.heap.IsRevS it x t ((x.length:Int)-1)) (hx:x.length<=sizeLine)
  (h:∀ b tk,Q b {s with toks:=tk}):wpAny (model prog w) A (Builtin.List.listLengthHint (.ref it)) Q E s:=by
 have hs:sizeLine=16777216:=sizeLine_eq;unfold Builtin.List.listLengthHint;refine wpAny_bind (wpAny_specialOf hit.typeIs F.rev_no_len ?_);show wpAny _ _ (specialOf (Value.ref it) (Str.ofString "__length_hint__") >>= _) _ _ _;refine wpAny_bind (wpAny_specialOf hit.typeIs F.slot_rev_hint.lookup ?_);have hsp:splitId "reversed.__length_hint__" = some ("reversed","__length_hint__"):=by decide +kernel
 try dsimp only
 rw[hsp]
 try dsimp only
 refine wpAny_bind (wpAny_isInstance hit.typeIs F.sub_rev_rev ?_);rw[if_neg (by decide)];rw[if_neg (by decide +kernel)];refine wpAny_bind (wpAny_rule ?_);refine wpAny_bind (wpAny_of_eq (F.slot_rev_hint.bind _) ?_)
 try dsimp only
 refine wpAny_bind (wpAny_attempt (ZcP hit hx fun u tk=>?_));have ea:asInt? (Value.int (x.length:Int) u)=pure (some (x.length:Int)):=by simp only[asInt?]
 generalize hn:(x.length:Int)=n at ea;simp only[ea,pure_bind];subst hn
 try dsimp only
 have f1:Builtin.List.listFitsIndex (x.length:Int)=true:=by
  unfold Builtin.List.listFitsIndex;have a1:decide (-(2 ^ 63:Int)<=(x.length:Int))=true:=decide_eq_true (by omega);have a2:decide ((x.length:Int)<2 ^ 63)=true:=decide_eq_true (by omega);rw[a1,a2];rfl
 have f2:Builtin.List.listTooLong (x.length:Int).toNat=false:=by
  unfold Builtin.List.listTooLong;rw[Wn];exact decide_eq_false (R9.mpr hx)
 rw[f1,if_neg (by decide),if_neg (by omega),f2,if_neg (by decide)];exact wpAny_pure (h _ _)
section
variable {R:Result->Shared->Prop}
theorem Zhn (hh:A.handled=none) {I:Addr} {x:Str} {t:Tok} (hx:x.length<=sizeLine) (S:Addr) (c₀:Nat) (hit:s.heap.IsRevS I x t ((x.length:Int)-1)) (hSI:S≠I)
  (hS:s.heap.get? S=some {cls:=.type "list",data:=.seq #[] c₀})
  (hR:∀ h' tk acc' c',(∀ b o,b≠S->b≠I->s.heap.get? b=some o->h'.get? b=some o)->h'.get? S=some {cls:=.type "list",dict:=none,data:=.seq acc' c',slots:=#[]} ->
   ItemsOf (fun i v=>∃ c u,x.cps[x.length-1-i]?=some c/\v= .str ⟨#[c]⟩ u) acc' x.length->R (.ok (.ret .none)) {s with heap:=h',toks:=tk}) :
  wpAny (model prog w) A.in1 (Builtin.List.listExtendWith (.ref S) (.ref I) .none)
   (fun fin s'=>match fin with | .done f=>R (.ok f) s' | .again c'=>c'.quiet=true/\codeAny (model prog w) A c' R s') (fun e s'=>R (.error e) s') s:=by
 have hSf:S∉[I]:=fun hm=>hSI (Qp.mp hm);unfold Builtin.List.listExtendWith;refine wpAny_bind (wpAny_typeOf hit.typeIs ?_);have h1:Builtin.List.listSameRef (.ref S) (.ref I)=false:=by simp[Builtin.List.listSameRef,hSI]
 have h2:(Value.type "reversed" == Value.type "list")=false:=by decide
 have h3:(Value.type "reversed" == Value.type "tuple")=false:=by decide
 simp only[h1,h2,h3,RB,Ws,if_false];refine wpAny_bind (YO hit ?_);refine wpAny_bind (wpAny_holding (ZkN hit hx fun b tk=>?_));have W:=(ZgM (prog:=prog) (w:=w) (A:=A.in1) hh I x t hx).toS;have st0:∀ h':Heap,(∀ b o,b≠S->s.heap.get? b=some o->h'.get? b=some o)->(0<=x.length/\h'.IsRevS I x t ((x.length:Int)-1-((0:Nat):Int))):=fun h' hk=>⟨QO _,by
  have:=hit.at (h':=h') fun o e=>hk I o (Ne.symm hSI) e;have e:(x.length:Int)-1-((0:Nat):Int)=(x.length:Int)-1:=by omega
  rw[e];exact this⟩
 have fin:∀ (h₁:Heap) (c₁:Nat),(∀ b o,b≠S->s.heap.get? b=some o->h₁.get? b=some o)->h₁.get? S=some {cls:=.type "list",data:=.seq #[] c₁} ->
   codeAny (model prog w) A (.builtin "list.extend.loop" ⟨[.ref S,.ref I,.none],[]⟩) R {s with heap:=h₁,toks:=tk}:=fun h₁ c₁ hk hS₁=>by
  refine codeAny_extend_loopS W hx _ hSf _ x.length 0 _ _ _ rfl (QO _) (st0 h₁ hk) hS₁ (ItemsOf.nil _) fun s' acc' c' hm hS' hacc=>?_;rw[Moved.eq_with hm];refine hR s'.heap s'.toks acc' c' (fun b ob hb hbI e=>hm.heap b ob (fun hmem=>?_) (hk b ob hb e)) hS' hacc;rcases QA.mp hmem with e' | hmem
  ·exact hb e'
  ·exact hbI (Qp.mp hmem)
 split
 ·refine wpAny_bind (wpAny_rule ?_);refine wpAny_bind ?_;show wpAny _ A.in1 (updateSeq S (·.push .none) >>= fun _=>updateSeq S (·.pop)) _ _ _;refine wpAny_bind (wpAny_updateSeq hS rfl ?_);have hS₂:=Wf (Obj.mapSeq (·.push Value.none)) hS rfl;refine wpAny_updateSeq (hz:=by seq_fits) hS₂ rfl ?_;have hS₃:=Wf (Obj.mapSeq (·.pop)) hS₂ rfl;exact wpAny_pure ⟨plainId_quiet F.plain_extend_loop _,fin _ _ (fun b o hb e=>(QN _ _ (Ne.symm hb)).trans ((QN _ _ (Ne.symm hb)).trans e)) hS₃⟩
 ·exact wpAny_pure ⟨plainId_quiet F.plain_extend_loop _,fin _ _ (fun b o hb e=>e) hS⟩
theorem Zcq (hh:A.handled=none) {I:Addr} {x:Str} {t:Tok} (hx:x.length<=sizeLine) (S:Addr) (hit:s.heap.IsRevS I x t ((x.length:Int)-1)) (hSI:S≠I)
  (hS:s.heap.get? S=some {cls:=.type "list",data:=.seq #[]})
  (hR:∀ h' tk acc' c',(∀ b o,b≠S->b≠I->s.heap.get? b=some o->h'.get? b=some o)->h'.get? S=some {cls:=.type "list",dict:=none,data:=.seq acc' c',slots:=#[]} ->
   ItemsOf (fun i v=>∃ c u,x.cps[x.length-1-i]?=some c/\v= .str ⟨#[c]⟩ u) acc' x.length->R (.ok (.ret .none)) {s with heap:=h',toks:=tk}) :
  wpAny (model prog w) A.in1 (Builtin.«list.__init__» ⟨[.ref S,.ref I],[]⟩)
   (fun fin s'=>match fin with | .done f=>R (.ok f) s' | .again c'=>c'.quiet=true/\codeAny (model prog w) A c' R s') (fun e s'=>R (.error e) s') s:=by
 show wpAny _ A.in1 (do let old ←Builtin.List.listItems (.ref S);Builtin.List.listUpdate (.ref S) (fun _=>#[]);letGo old.toList.reverse;Builtin.List.listExtendWith (.ref S) (.ref I) .none) _ _ s;refine wpAny_bind ?_;unfold Builtin.List.listItems;refine wpAny_bind (wpAny_seqItems hS rfl (wpAny_pure ?_));show wpAny _ A.in1 (updateSeq S (fun _=>#[]) >>= fun _=>letGo (#[]:Array Value).toList.reverse >>= fun _=>Builtin.List.listExtendWith (.ref S) (.ref I) .none) _ _ s;refine wpAny_bind (wpAny_updateSeq hS rfl ?_);have hS₂:=Wf (Obj.mapSeq (fun _=>(#[]:Array Value))) hS rfl;have oth:∀ b o,b≠S->s.heap.get? b=some o->(s.heap.update S (Obj.mapSeq (fun _=>(#[]:Array Value)))).get? b=some o :=
  fun b o hb e=>(QN _ _ (Ne.symm hb)).trans e
 refine wpAny_bind (wpAny_letGo ?_);refine Zhn hh hx S _ (hit.at fun o e=>oth I o (Ne.symm hSI) e) hSI hS₂ fun h' tk acc' c' hk hS' hacc=>?_;exact hR h' tk acc' c' (fun b o hb hbI e=>hk b o hb hbI (oth b o hb e)) hS' hacc
end
theorem ZcQ (hh:A.handled=none) {I:Addr} {x:Str} {t:Tok} {Q:Value->Shared->Prop} (hx:x.length<=sizeLine) (hit:s.heap.IsRevS I x t ((x.length:Int)-1))
  (hQ:∀ h' tk acc' c',(∀ b o,b≠I->s.heap.get? b=some o->h'.get? b=some o)->h'.get? s.heap.objs.size=some {cls:=.type "list",dict:=none,data:=.seq acc' c',slots:=#[]} ->
   ItemsOf (fun i v=>∃ c u,x.cps[x.length-1-i]?=some c/\v= .str ⟨#[c]⟩ u) acc' x.length->Q (.ref s.heap.objs.size) {s with heap:=h',toks:=tk}) :
  wpAny (model prog w) A (call (.type "list") [.ref I]) Q E s:=by
 have hSI:s.heap.objs.size≠I:=fun e=>by
  obtain⟨o,ho,_⟩:=hit;exact Wi _ (e▸Qs ho)
 refine callType_codes (Q₁:=fun obj s₁=>obj= .ref s.heap.objs.size/\s₁={s with heap:=s.heap.push {cls:=.type "list",data:=.seq #[]}}) F.called_list (F.typeCall_list_1 _) F.entry_list_init
  (code_list_new _ ⟨rfl,rfl⟩) fun obj s₁ h₁=>?_
 obtain⟨rfl,rfl⟩:=h₁;have hS:(s.heap.push {cls:=.type "list",data:=.seq #[]}).get? s.heap.objs.size=some {cls:=.type "list",data:=.seq #[]}:=Qy _ rfl;refine⟨⟨_,hS,rfl⟩,F.args_list_init_2 _ _,Zcq (A:=A.in1) hh hx _ (hit.at fun o e=>Qg _ e) hSI hS fun h' tk acc' c' hk hS' hacc=>?_⟩;exact⟨rfl,hQ h' tk acc' c' (fun b o hbI e=>hk b o (Qz (Qs e)) hbI (Qg _ e)) hS' hacc⟩
end
end PySem
namespace L2
open PySem PySem.Spec PyProof.Rows
theorem ZbD:bootBuiltins "reversed" = some (.type "reversed"):=by decide +kernel
theorem ZhB:∀ (ws:List V) (us:List Value),ws.length=us.length->(∀ (i:Nat) (w:V) (u:Value),ws[i]?=some w->us[i]?=some u->RelV w u)->Vals ws us:=by
 intro ws;induction ws with
 | nil =>
  intro us hl _;have:us=[]:=QU.mp hl.symm;subst this;exact .nil
 | cons w ws ih =>
  intro us hl h;cases us with
  | nil=>cases hl
  | cons u us=>exact .cons (h 0 w u rfl rfl) (ih us (by simpa using hl) fun i w' u' e1 e2=>h (i+1) w' u' e1 e2)
def tLR (te:TE):TE:=fun σ H Q=>te σ H fun x H1=>∃ z:Str,x= .str z/\z.length<=sizeLine/\∀ p,H1 p=none->Q (.ref p) (upd H1 p (.lst (z.cps.toList.reverse.map fun c=>V.str (tx [c]))))
theorem ZgX {X:Cx} {e:Expr} {te:TE} {p1 p2 pos1 pos2:Pos} (hc:X.calm=true) (hgl:Gl X "list") (hml:X.mg "list" = none) (hgr:Gl X "reversed") (hmr:X.mg "reversed" = none) (he:PE X e te)
  (hs1:starEach [.Call (.Name "reversed" p2) [e] [] pos2] X.env=[(false,eval (.Call (.Name "reversed" p2) [e] [] pos2) X.env)]:=by rfl) (hs2:starEach [e] X.env=[(false,eval e X.env)]:=by rfl) :
  PE X (.Call (.Name "list" p1) [.Call (.Name "reversed" p2) [e] [] pos2] [] pos1) (tLR te):=by
 intro pins s σ H Q I h;refine wpAny_Call_Name_kw (XN I hgl hml ZbE ?_ (by decide) (by decide));refine PyProof.Rows.callWith_type1 ?_ hs1 rfl;rw[hs1];refine Calls.spliced_cons ?_;refine wpAny_Call_Name_kw (XN I hgr hmr ZbD ?_ (by decide) (by decide));refine PyProof.Rows.callWith_type1 ?_ hs2 rfl;rw[hs2];refine Calls.spliced_cons (thn (he pins s σ H _ I h) fun u s1 ⟨x,H1,I1,r1,q1⟩=>Calls.spliced_nil ?_);obtain⟨z,rfl,hz,q⟩:=q1;obtain⟨t,rfl⟩:=r1;refine JK hz ?_;refine Calls.spliced_nil ?_;refine ZcQ (I.ok.hd hc) hz ⟨_,Qy _ rfl,rfl,rfl⟩ fun h' tk acc c hk hS hacc=>?_;have hsz:(s1.heap.push (Zqh z t ((z.length:Int)-1))).objs.size=s1.heap.objs.size+1:=WY ..;dsimp only at hS hk ⊢;rw[hsz]at hS ⊢;have hf:H1 (s1.heap.objs.size+1)=none:=I1.hok.fresh (WH _);refine⟨.ref (s1.heap.objs.size+1),_,I1.laid (h':=h') (t':=tk) (a:=s1.heap.objs.size+1) (o:=.lst (z.cps.toList.reverse.map fun c=>V.str (tx [c]))) (fun b u e=>hk b u (Qz (Qs e)) (Qg _ e)) (WH _) ?_,rfl,q _ hf⟩;refine⟨by rw[Qc,WD];simpa[Str.length]using hz,acc.toList,c,?_,by rw[hS,Rk]⟩;have hzl:z.cps.toList.length=z.length:=by simp[Str.length]
 refine ZhB _ _ (by rw[Qc,WD,hzl,QG,hacc.1]) fun i w u e1 e2=>?_;have hi:i<z.length:=by
  have:=(Qn.mp e1).1;rw[Qc,WD,hzl]at this;exact this
 obtain⟨c',t',hc',rfl⟩:=hacc.2 i u (by rw[←Wb];exact e2);rw[Qd,R0 (by rw[hzl];exact hi),hzl]at e1;rw[←Wb]at hc';rw[hc']at e1;cases e1;exact⟨t',rfl⟩
end L2
namespace PySem
namespace F
theorem lri_no_len:typeLookup (.type "list_reverseiterator") "__len__" = pure none:=by rw[typeLookup_type,builtinLookup_eq_fast];kernel_rfl
theorem slot_lri_hint:Slot "list_reverseiterator" "__length_hint__" "list_reverseiterator.__length_hint__" :=
 .of (owner:="list_reverseiterator") (n:="__length_hint__") (by rw[typeLookup_type,builtinLookup_eq_fast];kernel_rfl) (by decide +kernel) (by decide +kernel) (by decide +kernel)
  (by first | exact .inl (by decide +kernel) | exact .inr (by decide +kernel)) (by rw[isSubtype_type];kernel_rfl)
theorem sub_lri_lri:isSubtype (.type "list_reverseiterator") (.type "list_reverseiterator")=pure true:=by rw[isSubtype_type];kernel_rfl
end F
section
variable {prog:Program} {w:World} {A:Around} {E:Value->Shared->Prop} {s:Shared}
theorem Zlh {it l:Addr} {items:Array Value} {Q:Bool->Shared->Prop} (hit:s.heap.IsRevIter it l ((items.size:Int)-1)) (hl:s.heap.IsList l items) (hx:items.size<=sizeLine)
  (h:∀ b tk,Q b {s with toks:=tk}):wpAny (model prog w) A (Builtin.List.listLengthHint (.ref it)) Q E s:=by
 have hs:sizeLine=16777216:=sizeLine_eq;unfold Builtin.List.listLengthHint;refine wpAny_bind (wpAny_specialOf hit.typeIs F.lri_no_len ?_);show wpAny _ _ (specialOf (Value.ref it) (Str.ofString "__length_hint__") >>= _) _ _ _;refine wpAny_bind (wpAny_specialOf hit.typeIs F.slot_lri_hint.lookup ?_);have hsp:splitId "list_reverseiterator.__length_hint__" = some ("list_reverseiterator","__length_hint__"):=by decide +kernel
 try dsimp only
 rw[hsp]
 try dsimp only
 refine wpAny_bind (wpAny_isInstance hit.typeIs F.sub_lri_lri ?_);rw[if_neg (by decide)];rw[if_pos (by decide +kernel)];rw[if_neg (show ¬ ((Value.builtin "list_reverseiterator.__length_hint__" == Value.builtin "range_iterator.__length_hint__")=true)by decide +kernel)];exact wpAny_pure (h _ s.toks)
section
variable {R:Result->Shared->Prop}
theorem Zho (hh:A.handled=none) {I l:Addr} {items:Array Value} (hx:items.size<=sizeLine) (S:Addr) (c₀:Nat) (hit:s.heap.IsRevIter I l ((items.size:Int)-1)) (hl:s.heap.IsList l items) (hlI:l≠I) (hSI:S≠I) (hSl:S≠l)
  (hS:s.heap.get? S=some {cls:=.type "list",data:=.seq #[] c₀})
  (hR:∀ h' tk acc' c',(∀ b o,b≠S->b≠I->s.heap.get? b=some o->h'.get? b=some o)->h'.get? S=some {cls:=.type "list",dict:=none,data:=.seq acc' c',slots:=#[]} ->
   ItemsOf (fun i v=>items[items.size-1-i]?=some v) acc' items.size->R (.ok (.ret .none)) {s with heap:=h',toks:=tk}) :
  wpAny (model prog w) A.in1 (Builtin.List.listExtendWith (.ref S) (.ref I) .none)
   (fun fin s'=>match fin with | .done f=>R (.ok f) s' | .again c'=>c'.quiet=true/\codeAny (model prog w) A c' R s') (fun e s'=>R (.error e) s') s:=by
 have hSf:S∉[I,l]:=fun hm=>by
  rcases QA.mp hm with e | hm
  ·exact hSI e
  ·exact hSl (Qp.mp hm)
 unfold Builtin.List.listExtendWith;refine wpAny_bind (wpAny_typeOf hit.typeIs ?_);have h1:Builtin.List.listSameRef (.ref S) (.ref I)=false:=by simp[Builtin.List.listSameRef,hSI]
 have h2:(Value.type "list_reverseiterator" == Value.type "list")=false:=by decide
 have h3:(Value.type "list_reverseiterator" == Value.type "tuple")=false:=by decide
 simp only[h1,h2,h3,RB,Ws,if_false];refine wpAny_bind (wpAny_pyIter_revIter hit ?_);refine wpAny_bind (wpAny_holding (Zlh hit hl hx fun b tk=>?_));have W:=(Walks.listRev (prog:=prog) (w:=w) (A:=A.in1) hh I l hlI items).toS;have st0:∀ h':Heap,(∀ b o,b≠S->s.heap.get? b=some o->h'.get? b=some o)->(0<=items.size/\h'.IsRevIter I l ((items.size:Int)-1-((0:Nat):Int))/\h'.IsList l items):=fun h' hk=>⟨QO _,by
  have:=hit.at (h':=h') fun o e=>hk I o (Ne.symm hSI) e;have e:(items.size:Int)-1-((0:Nat):Int)=(items.size:Int)-1:=by omega
  rw[e];exact this,hl.at fun o e=>hk l o (Ne.symm hSl) e⟩
 have fin:∀ (h₁:Heap) (c₁:Nat),(∀ b o,b≠S->s.heap.get? b=some o->h₁.get? b=some o)->h₁.get? S=some {cls:=.type "list",data:=.seq #[] c₁} ->
   codeAny (model prog w) A (.builtin "list.extend.loop" ⟨[.ref S,.ref I,.none],[]⟩) R {s with heap:=h₁,toks:=tk}:=fun h₁ c₁ hk hS₁=>by
  refine codeAny_extend_loopS W hx _ hSf _ items.size 0 _ _ _ rfl (QO _) (st0 h₁ hk) hS₁ (ItemsOf.nil _) fun s' acc' c' hm hS' hacc=>?_;rw[Moved.eq_with hm];refine hR s'.heap s'.toks acc' c' (fun b ob hb hbI e=>hm.heap b ob (fun hmem=>?_) (hk b ob hb e)) hS' hacc;rcases QA.mp hmem with e' | hmem
  ·exact hb e'
  ·exact hbI (Qp.mp hmem)
 split
 ·refine wpAny_bind (wpAny_rule ?_);refine wpAny_bind ?_;show wpAny _ A.in1 (updateSeq S (·.push .none) >>= fun _=>updateSeq S (·.pop)) _ _ _;refine wpAny_bind (wpAny_updateSeq hS rfl ?_);have hS₂:=Wf (Obj.mapSeq (·.push Value.none)) hS rfl;refine wpAny_updateSeq (hz:=by seq_fits) hS₂ rfl ?_;have hS₃:=Wf (Obj.mapSeq (·.pop)) hS₂ rfl;exact wpAny_pure ⟨plainId_quiet F.plain_extend_loop _,fin _ _ (fun b o hb e=>(QN _ _ (Ne.symm hb)).trans ((QN _ _ (Ne.symm hb)).trans e)) hS₃⟩
 ·exact wpAny_pure ⟨plainId_quiet F.plain_extend_loop _,fin _ _ (fun b o hb e=>e) hS⟩
theorem Zcr (hh:A.handled=none) {I l:Addr} {items:Array Value} (hx:items.size<=sizeLine) (S:Addr) (hit:s.heap.IsRevIter I l ((items.size:Int)-1)) (hl:s.heap.IsList l items) (hlI:l≠I) (hSI:S≠I) (hSl:S≠l)
  (hS:s.heap.get? S=some {cls:=.type "list",data:=.seq #[]})
  (hR:∀ h' tk acc' c',(∀ b o,b≠S->b≠I->s.heap.get? b=some o->h'.get? b=some o)->h'.get? S=some {cls:=.type "list",dict:=none,data:=.seq acc' c',slots:=#[]} ->
   ItemsOf (fun i v=>items[items.size-1-i]?=some v) acc' items.size->R (.ok (.ret .none)) {s with heap:=h',toks:=tk}) :
  wpAny (model prog w) A.in1 (Builtin.«list.__init__» ⟨[.ref S,.ref I],[]⟩)
   (fun fin s'=>match fin with | .done f=>R (.ok f) s' | .again c'=>c'.quiet=true/\codeAny (model prog w) A c' R s') (fun e s'=>R (.error e) s') s:=by
 show wpAny _ A.in1 (do let old ←Builtin.List.listItems (.ref S);Builtin.List.listUpdate (.ref S) (fun _=>#[]);letGo old.toList.reverse;Builtin.List.listExtendWith (.ref S) (.ref I) .none) _ _ s;refine wpAny_bind ?_;unfold Builtin.List.listItems;refine wpAny_bind (wpAny_seqItems hS rfl (wpAny_pure ?_));show wpAny _ A.in1 (updateSeq S (fun _=>#[]) >>= fun _=>letGo (#[]:Array Value).toList.reverse >>= fun _=>Builtin.List.listExtendWith (.ref S) (.ref I) .none) _ _ s;refine wpAny_bind (wpAny_updateSeq hS rfl ?_);have hS₂:=Wf (Obj.mapSeq (fun _=>(#[]:Array Value))) hS rfl;have oth:∀ b o,b≠S->s.heap.get? b=some o->(s.heap.update S (Obj.mapSeq (fun _=>(#[]:Array Value)))).get? b=some o :=
  fun b o hb e=>(QN _ _ (Ne.symm hb)).trans e
 refine wpAny_bind (wpAny_letGo ?_);refine Zho hh hx S _ (hit.at fun o e=>oth I o (Ne.symm hSI) e) (hl.at fun o e=>oth l o (Ne.symm hSl) e) hlI hSI hSl hS₂ fun h' tk acc' c' hk hS' hacc=>?_;exact hR h' tk acc' c' (fun b o hb hbI e=>hk b o hb hbI (oth b o hb e)) hS' hacc
end
theorem ZcS (hh:A.handled=none) {I l:Addr} {items:Array Value} {Q:Value->Shared->Prop} (hx:items.size<=sizeLine) (hit:s.heap.IsRevIter I l ((items.size:Int)-1)) (hl:s.heap.IsList l items) (hlI:l≠I)
  (hQ:∀ h' tk acc' c',(∀ b o,b≠I->s.heap.get? b=some o->h'.get? b=some o)->h'.get? s.heap.objs.size=some {cls:=.type "list",dict:=none,data:=.seq acc' c',slots:=#[]} ->
   ItemsOf (fun i v=>items[items.size-1-i]?=some v) acc' items.size->Q (.ref s.heap.objs.size) {s with heap:=h',toks:=tk}) :
  wpAny (model prog w) A (call (.type "list") [.ref I]) Q E s:=by
 have hSI:s.heap.objs.size≠I:=fun e=>by
  obtain⟨o,ho,_⟩:=hit;exact Wi _ (e▸Qs ho)
 have hSl:s.heap.objs.size≠l:=fun e=>by
  obtain⟨o,ho,_⟩:=hl;exact Wi _ (e▸Qs ho)
 refine callType_codes (Q₁:=fun obj s₁=>obj= .ref s.heap.objs.size/\s₁={s with heap:=s.heap.push {cls:=.type "list",data:=.seq #[]}}) F.called_list (F.typeCall_list_1 _) F.entry_list_init
  (code_list_new _ ⟨rfl,rfl⟩) fun obj s₁ h₁=>?_
 obtain⟨rfl,rfl⟩:=h₁;have hS:(s.heap.push {cls:=.type "list",data:=.seq #[]}).get? s.heap.objs.size=some {cls:=.type "list",data:=.seq #[]}:=Qy _ rfl;refine⟨⟨_,hS,rfl⟩,F.args_list_init_2 _ _,Zcr (A:=A.in1) hh hx _ (hit.at fun o e=>Qg _ e) (hl.at fun o e=>Qg _ e) hlI hSI hSl hS fun h' tk acc' c' hk hS' hacc=>?_⟩;exact⟨rfl,hQ h' tk acc' c' (fun b o hbI e=>hk b o (Qz (Qs e)) hbI (Qg _ e)) hS' hacc⟩
end
end PySem
namespace L2
open PySem PySem.Spec PyProof.Rows
def Zq6 (K:PySem.W.Frag) (te:TE):TE:=fun σ H Q=>te σ H fun x H1=>∃ a xs,x= .ref a/\SqL K H1 a xs/\∀ p,H1 p=none->Q (.ref p) (upd H1 p (.lst xs.reverse))
theorem ZeD {X:Cx} {e:Expr} {te:TE} {p1 p2 pos1 pos2:Pos} (hc:X.calm=true) (hgl:Gl X "list") (hml:X.mg "list" = none) (hgr:Gl X "reversed") (hmr:X.mg "reversed" = none) (he:PE X e te)
  (hs1:starEach [.Call (.Name "reversed" p2) [e] [] pos2] X.env=[(false,eval (.Call (.Name "reversed" p2) [e] [] pos2) X.env)]:=by rfl) (hs2:starEach [e] X.env=[(false,eval e X.env)]:=by rfl) :
  PE X (.Call (.Name "list" p1) [.Call (.Name "reversed" p2) [e] [] pos2] [] pos1) (Zq6 X.K te):=by
 intro pins s σ H Q I h;refine wpAny_Call_Name_kw (XN I hgl hml ZbE ?_ (by decide) (by decide));refine PyProof.Rows.callWith_type1 ?_ hs1 rfl;rw[hs1];refine Calls.spliced_cons ?_;refine wpAny_Call_Name_kw (XN I hgr hmr ZbD ?_ (by decide) (by decide));refine PyProof.Rows.callWith_type1 ?_ hs2 rfl;rw[hs2];refine Calls.spliced_cons (thn (he pins s σ H _ I h) fun u s1 ⟨x,H1,I1,r1,q1⟩=>Calls.spliced_nil ?_);obtain⟨a,xs,rfl,hx,q⟩:=q1;cases r1;obtain⟨its,rv,pl,hz⟩:=I1.list hx;have hl:=rv.length;have hlt:a<s1.heap.objs.size:=by
  obtain⟨o,n,e,_⟩:=pl;exact Qs e
 refine call_reversed_list pl.isList ?_;refine Calls.spliced_nil ?_;refine ZcS (items:=its.toArray) (l:=a) (I:=s1.heap.objs.size) (I.ok.hd hc) (by rw[Qr];omega) ⟨_,Qy _ rfl,rfl,rfl⟩ (pl.isList.push _) (Qz hlt) fun h' tk acc c hk hS hacc=>?_;have hsz:(s1.heap.push (revObj a ((its.toArray.size:Int)-1))).objs.size=s1.heap.objs.size+1:=WY ..;dsimp only at hS hk ⊢;rw[hsz]at hS ⊢;have hf:H1 (s1.heap.objs.size+1)=none:=I1.hok.fresh (WH _);refine⟨.ref (s1.heap.objs.size+1),_,I1.laid (h':=h') (t':=tk) (a:=s1.heap.objs.size+1) (o:=.lst xs.reverse) (fun b u e=>hk b u (Qz (Qs e)) (Qg _ e)) (WH _) ?_,rfl,q _ hf⟩;refine⟨by rw[WD];exact hz,acc.toList,c,?_,by rw[hS,Rk]⟩;have es:its.toArray.size=its.length:=Qr ..;have hal:acc.toList.length=xs.length:=by rw[QG];exact hacc.1.trans (es.trans hl.symm)
 refine ZhB _ _ (by rw[WD,hal]) fun i w u e1 e2=>?_;have hi:i<xs.length:=by
  have:=(Qn.mp e1).1;rw[WD]at this;exact this
 have h3:=hacc.2 i u (by rw[←Wb];exact e2);rw[R0 hi]at e1;obtain⟨u',hu,ru⟩:=rv.get e1;rw[es,←hl]at h3;have h4:its[xs.length-1-i]?=some u:=by simpa using h3
 rw[hu]at h4;cases h4;exact ru
end L2
set_option maxRecDepth 4000
namespace L2
open PySem PySem.Spec PyProof.Rows
variable {X:Cx}
def eqS (y:Str):Value->Bool
 | .str z _=>z==y
 | _=>false
theorem ZiH {prog:Program} {w:World} {A:Around} {E:Value->Shared->Prop} {s:Shared} {Q:Value->Shared->Prop} {l:Addr} {its:List Value} {n:Nat} {y:Str} {t:Tok} {j:Nat} (e:s.heap.get? l=some {cls:=.type "list",dict:=none,data:=.seq its.toArray n,slots:=#[]})
  (he:∀ u∈its.toArray,MeetsSeq.EqGives u (.str y t) (eqS y u)) (hj:j<its.toArray.size) (h1:eqS y its.toArray[j]=true) (h2:∀ (m:Nat) (hm:m<its.toArray.size),m<j->eqS y its.toArray[m]=false) (hsz:its.toArray.size<=sizeLine)
  (h:Q .none {s with heap:=s.heap.update l (Obj.mapSeq fun xs=>xs.eraseIdxIfInBounds j),toks:=s.toks}) :
  wpAny (model prog w) A (call (.builtin "list.remove") [.ref l,.str y t]) Q E s :=
 call_meets F.slot_list_remove ⟨_,e,rfl⟩ F.entry_list_remove (F.args_list_remove_2 _ _) (MeetsSeq.list_remove l its.toArray n (.str y t) (eqS y) he j hj h1 h2 hsz) ⟨e,h⟩
def Znm:V->List V->Hp->VK->Prop:=fun x vs H Q=>∃ (l:Addr) (xs:List Str) (y:Str) (j:Nat),x= .ref l/\vs=[.str y]/\H l=some (.lst (xs.map V.str))/\xs[j]?=some y/\(∀ i,i<j->xs[i]?≠some y)/\Q .non (upd H l (.lst ((xs.eraseIdx j).map V.str)))
theorem Zjp:MtR X "list.remove" Znm:=by
 intro pins s σ H x vs v us Q I rx rv h;obtain⟨l,xs,y,j,rfl,rfl,hH,hj,hno,q⟩:=h;cases rx;obtain⟨u0,rfl,ru⟩:=Xd rv;obtain⟨t,rfl⟩:=ru;obtain⟨z,its,n,r,hl,e⟩:=I.lstM hH;have hlen:=r.length;rw[Qc]at hlen hl z;have at1:∀ (m:Nat) (hm:m<its.length),∃ t',its[m]= .str (xs.getD m "") t':=fun m hm=>by
  have hx:m<xs.length:=by omega
  have e1:(xs.map V.str)[m]?=some (V.str xs[m]):=by rw[Qd,Qa hx];rfl
  obtain⟨t',et⟩:=ZmQ r e1 (Qa hm);exact⟨t',by rw[et,Qb,Qa hx];rfl⟩
 have hjl:j<xs.length:=(Qn.mp hj).1;have hjt:j<its.toArray.size:=by rw[Qr];omega
 have J:=I.lset (its':=its.eraseIdx j) (f:=fun xs:Array Value=>xs.eraseIdxIfInBounds j) (t':=s.toks) (ys:=(xs.eraseIdx j).map V.str) hH e (by
  show its.toArray.eraseIdxIfInBounds j=(its.eraseIdx j).toArray;rw[Uv]) (by have:=r.eraseIdx j;rw[WB]at this;rw[WB xs,QH,Ux,U8];exact this) (by rw[Qc];have:=ZaQ xs j;omega)
 have fin:EP X pins σ Q .none {s with heap:=s.heap.update l (Obj.mapSeq fun xs:Array Value=>xs.eraseIdxIfInBounds j),toks:=s.toks}:=⟨.non,_,J,rfl,q⟩
 refine ZiH (y:=y) (t:=t) (j:=j) e ?_ hjt ?_ ?_ (by rw[Qr];omega) fin
 ·intro u hu;obtain⟨m,hm,em⟩:=Rl.mp (by simpa using hu:u∈its);obtain⟨t',et⟩:=at1 m hm;rw[←em,et];exact eqGives_str _ _ _ _
 ·show eqS y its[j]=true;obtain⟨t',et⟩:=at1 j (by omega);rw[et];show(xs.getD j "" == y)=true;rw[Qb,hj];simp
 ·intro m hm hmj;have hm':m<its.length:=by simpa using hm
  show eqS y its[m]=false;obtain⟨t',et⟩:=at1 m hm';rw[et];show(xs.getD m "" == y)=false;have:=hno m hmj;rw[Qa (show m<xs.length by omega)]at this;rw[Qb,Qa (show m<xs.length by omega),Uk];intro c;exact this (congrArg some (eq_of_beq c))
theorem Zd8 (hc:X.calm=true):CallR X (.builtin "sum") (fun xs H Q=>∃ (a:Addr) (ns:List Int),xs=[.ref a]/\SqL X.K H a (ns.map V.int)/\Q (.int ns.sum) H):=by
 intro pins s σ H xs us Q I r h;obtain⟨a,ns,rfl,hq,q⟩:=h;obtain⟨u,rfl,ru⟩:=Xd r;cases ru;obtain⟨its,rv,pl,hz⟩:=I.list hq;have hl:=rv.length;rw[Qc]at hl;have hlt:a<s.heap.objs.size:=by
  obtain⟨o,n,e,_⟩:=pl;exact Qs e
 refine call_sum_walkG (wpAny_pyIter_list pl.isList ⟨s.heap.objs.size,[s.heap.objs.size,a],[s.heap.objs.size],its.toArray.size,_,_,fun i=>ns.getD i 0,rfl,Walks.list (A:=X.A.in1) (I.ok.hd hc) _ _ (Qz hlt) its.toArray,
  ⟨⟨_,Qy _ rfl,rfl,rfl⟩,pl.isList.push _⟩,?_,?_,?_⟩)
 ·intro b hb;show b<(s.heap.push _).objs.size;rw[WY];have:b=s.heap.objs.size\/b=a:=by simpa using hb
  rcases this with z | z
  ·rw[z];exact U9 _
  ·rw[z];exact UF hlt
 ·intro i v hv;have e1:its[i]?=some v:=by simpa using hv
  have hi:i<its.length:=(Qn.mp e1).1;have hb:(ns.map V.int)[i]?=some (.int (ns.getD i 0)):=by
   rw[Qd,Qb];cases e:ns[i]? with
   | none=>exact absurd (Ul.mp e) (by omega)
   | some b=>rfl
  obtain⟨u',hu,ru⟩:=rv.get hb;rw[e1]at hu;cases hu;exact ru
 ·intro h' tk t' kk;refine⟨.int ns.sum,H,I.kept fun b o e=>kk b o (by simpa using Qz (Qs e)) (Qg _ e),⟨t',?_⟩,q⟩;rw[Y5,QJ (by rw[Qr];omega)]
theorem ZnS {k:Nat} {mp:List Nat} {σ:St} {g:TG} {te:TE} {H1:Hp} {Q:VK} {lo:Int} (n:Nat) (Dk:Addr) (R:Nat->V->Prop) (I:Nat->Hp->Prop) (hn:n<=sizeLine) (hd:H1 Dk≠none) (h0:I 0 H1) (hu:∀ i H D o,D≠Dk->I i H->I i (upd H D o))
  (step:∀ i H (Qe:VK),i<n->(∀ b u,b≠Dk->H1 b=some u->H b=some u)->I i H->(∀ v H6,(∀ b u,b≠Dk->H b=some u->H6 b=some u)->I (i+1) H6->R i v->Qe v H6)->g (.int (lo+i)) (lcS k mp σ) H fun σ4 H4=>te σ4 H4 Qe)
  (done:∀ D vs H',vs.length=n->(∀ (i:Nat) (v:V),vs[i]?=some v->R i v)->(∀ b u,b≠Dk->H1 b=some u->H' b=some u)->I n H'->H1 D=none->H' D=some (.lst vs)->Q (.ref D) H'):Jh k mp σ g Zm2 te (Itr lo n) H1 Q:=by
 intro D hD;have hne:D≠Dk:=fun z=>hd (z▸hD);refine⟨fun i m acc H=>m=n-i/\i<=n/\acc.length=i/\(∀ b u,b≠Dk->H1 b=some u->H b=some u)/\I i H/\H D=some (.lst acc)/\∀ (j:Nat) (v:V),acc[j]?=some v->R j v,⟨n,by simp,QO _,rfl,fun b u _ e=>by rw[Zi (Zm e hD)];exact e,hu _ _ _ _ hne h0,Zd,fun j v e=>by simp at e⟩,?_⟩;rintro i m acc H ⟨rfl,hi,hl,hs,hI,hDa,hr⟩;by_cases hlt:i<n
 ·refine .inr ⟨hlt,fun x H3 y=>?_⟩;obtain⟨e1,e2⟩:=y;subst e1 e2;refine step i H3 _ hlt hs hI fun v H6 s6 i6 r6=>⟨s6 _ _ hne hDa,by omega,n-(i+1),by omega,rfl,hlt,by rw[Qm,hl];rfl,fun b u hb e=>?_,hu _ _ _ _ hne i6,Zd,fun j u e=>?_⟩
  ·rw[Zi (Zm e hD)];exact s6 _ _ hb (hs b u hb e)
  ·rcases UE j acc.length with h | h | h
   ·rw[QP h]at e;exact hr j u e
   ·subst h;rw[QQ (Qk _),WN]at e;cases e;rw[hl];exact r6
   ·rw[Qo (by rw[Qm,QK];omega)]at e;cases e
 ·have:i=n:=by omega
  subst this;exact .inl ⟨Qk _,done D acc H hl hr hs hI hD hDa⟩
theorem Zht:CallR X (.builtin "len") (fun xs H Q=>∃ (p:Addr) (ks:List Str),xs=[.ref p]/\H p=some (stO X p ks)/\ks.length<=1000/\Q (.int ks.length) H):=by
 intro pins s σ H xs us Q I r h;obtain⟨p,ks,rfl,hp,h1k,q⟩:=h;obtain⟨u,rfl,ru⟩:=Xd r;cases ru;obtain⟨⟨o,es,ep,t,T⟩,_,_⟩:=(show SetT X.prog X.w s.heap p ks/\_ from I.hok p _ hp)
 have hl:=T.len;refine call_len_set T.ob T.ex T.dt T.fits (by omega) ⟨.int ks.length,H,I.tok _,⟨s.toks+1,?_⟩,q⟩;rw[hl]
end L2
namespace Tim
open PySem PySem.W PyProof.Rows
structure SortA (prog:Program) (w:World) (h1:Heap) (vs:List Value) (lt:Nat->Nat->Bool) (κ:SortKind):Prop where
 kd:∀ (A:Around) (E:Value->Shared->Prop) (s:Shared) (Q:SortKind->Shared->Prop),(∀ b o,h1.get? b=some o->s.heap.get? b=some o)->2<=vs.length->Q κ s->wpAny (model prog w) A (keyKind' vs.toArray) Q E s
 ask:∀ (A:Around) (s:Shared) (i j:Nat) (x y:Value) (C:Bool->Shared->Prop),(∀ b o,h1.get? b=some o->s.heap.get? b=some o)->vs[i]?=some x->vs[j]?=some y->(∀ tk,C (lt i j) {s with toks:=tk})->wpAny (model prog w) A (keyLt' κ x y) C (fun _ _=>False) s
section
variable {prog:Program} {w:World} {A:Around} {E:Value->Shared->Prop} {s:Shared}
theorem list_sortS {a:Addr} {vs:List Value} {lt:Nat->Nat->Bool} {κ:SortKind} {n:Nat} {P:PySem.Fin->Shared->Prop} (ho:s.heap.get? a=some (seqObj "list" vs.toArray n)) (h64:vs.length<64) (o:Srt.Ord vs.length lt)
  (kd:∀ (h6:Heap) (Q:SortKind->Shared->Prop),(∀ b o,b≠a->s.heap.get? b=some o->h6.get? b=some o)->2<=vs.length->Q κ {s with heap:=h6}->wpAny (model prog w) A (keyKind' vs.toArray) Q E {s with heap:=h6})
  (ask:∀ (h6:Heap) (tk i j:Nat) (x y:Value) (C:Bool->Shared->Prop),(∀ b o,b≠a->s.heap.get? b=some o->h6.get? b=some o)->vs[i]?=some x->vs[j]?=some y->(∀ tk,C (lt i j) {s with heap:=h6,toks:=tk})->wpAny (model prog w) A (keyLt' κ x y) C (fun _ _=>False) {s with heap:=h6,toks:=tk})
  (h:∀ (h1:Heap) (tk c:Nat) (p:Array Nat),Srt.Pm vs.length p->(∀ i j,i<j->j<vs.length->lt (p.getD j 0) (p.getD i 0)=false)->(∀ b o,b≠a->s.heap.get? b=some o->h1.get? b=some o) ->
   h1.get? a=some (seqObj "list" (p.toList.map fun i=>vs.getD i Value.none).toArray c)->P (.done (.ret .none)) {s with heap:=h1,toks:=tk}) :
  wpAny (model prog w) A (Builtin.«list.sort» ⟨[.ref a],[]⟩) P E s:=by
 have ha:a<s.heap.objs.size:=Qs ho;have hz:vs.length<=sizeLine:=by rw[sizeLine_eq];omega
 rw[list_sort_plain];refine wpAny_bind (listItems_at ho rfl (wpAny_bind (listUpdate_at ho rfl ?_ (by rw[Qr];exact hz) (QO _))));obtain⟨e1,ho1⟩:∃ e1,(s.heap.update a (Obj.mapSeq fun _=>(#[]:Array Value))).get? a=some (seqObj "list" #[] e1):=⟨_,get?_update_seq ho fun _=>#[]⟩
 have k1:∀ b o,b≠a->s.heap.get? b=some o->(s.heap.update a (Obj.mapSeq fun _=>(#[]:Array Value))).get? b=some o:=fun b o hb q=>(QN _ _ (Ne.symm hb)).trans q;refine wpAny_bind (seqEpoch_at ho1 rfl (wpAny_bind (wpAny_newTuple ?_ (by show vs.length<=_;exact hz))));refine wpAny_bind (wpAny_newList ?_ (QO _));refine wpAny_holding ?_;generalize hg:((s.heap.update a (Obj.mapSeq fun _=>(#[]:Array Value))).push {cls:=.type "tuple",data:=.seq vs.toArray.toList.toArray}).push {cls:=.type "list",data:=.seq ([]:List Value).toArray}=h6;have k6:∀ b o,b≠a->s.heap.get? b=some o->h6.get? b=some o:=fun b o hb q=>by
  rw[←hg];exact Qg _ (Qg _ (k1 b o hb q))
 have ho6:h6.get? a=some (seqObj "list" #[] e1):=by
  rw[←hg];exact Qg _ (Qg _ ho1)
 show wpAny (model prog w) A _ P E {s with heap:=h6};dsimp only;have fin:∀ (tk:Nat) (p:Array Nat) (out:Array Value),Srt.Pm vs.length p->(∀ i j,i<j->j<vs.length->lt (p.getD j 0) (p.getD i 0)=false)->out=(p.toList.map fun i=>vs.getD i Value.none).toArray ->
   ∃ c,(h6.update a (Obj.mapSeq fun _=>out)).get? a=some (seqObj "list" out c)/\out.size<=sizeLine/\P (.done (.ret .none)) {s with heap:=h6.update a (Obj.mapSeq fun _=>out),toks:=tk}:=fun tk p out hp hu ho'=>by
  have hc:=get?_update_seq ho6 fun _=>out;refine⟨_,hc,?_,h _ tk _ p hp hu (fun b o hb q=>(QN _ _ (Ne.symm hb)).trans (k6 b o hb q)) (by rw[←ho'];exact hc)⟩;rw[ho',Qr,Qc,QG,hp.size];exact hz
 have hr:vs=(Qx vs.length).map fun i=>vs.getD i Value.none:=by
  apply QT;intro i;simp only[Qd];by_cases hi:i<vs.length
  ·rw[Qa hi,QM hi,Wj,Qb,Qa hi];rfl
  ·rw[Qo (by omega),Qo (by simp;omega)];rfl
 by_cases h2:vs.toArray.size<2
 ·rw[if_pos h2,if_pos h2];rw[Qr]at h2;obtain⟨c,f1,f2,f3⟩:=fin s.toks (Qx vs.length).toArray vs.toArray ⟨by simp,Array.Perm.refl _⟩ (fun a b hab hb=>by omega) (congrArg Vp hr);refine wpAny_bind (wpAny_pure ?_);rw[StateT.run_pure];refine wpAny_bind (wpAny_pure ?_);have eo:(arrOf (SortSt.mk' general' (vs.toArray.zip vs.toArray) #[] 7 none)).map (·.2)=vs.toArray:=by
   show(vs.toArray.zip vs.toArray).map (·.2)=vs.toArray;apply Rb.mp;simp;exact Rc (Qk _)
  dsimp only;rw[eo];refine wpAny_bind (seqEpoch_at ho6 rfl (wpAny_bind (listUpdate_at ho6 rfl ?_ (QO _) (WU f2))));simp only[bne_self_eq_false,Ws,if_false];exact wpAny_pure f3
 ·rw[if_neg h2,if_neg h2];rw[Qr]at h2;refine wpAny_bind (kd h6 _ k6 (by omega) ?_);refine wpAny_bind (wpAny_mono (kat_run (κ:=κ) (ks:=vs) (vs:=vs) (G:=fun p s'=>(∃ tk,s'={s with heap:=h6,toks:=tk})/\Srt.Pm vs.length p/\Srt.Up lt p vs.length)
   (Q:=fun st' s'=>∃ p:Array Nat,arrOf st'=p.map (kas_item (vs.toArray.zip vs.toArray))/\failedOf st'=none/\(∃ tk,s'={s with heap:=h6,toks:=tk})/\Srt.Pm vs.length p/\Srt.Up lt p vs.length)
   rfl (by omega) h64 (fun p st' s' _ a2 a3 a4=>⟨p,a2,a3,a4⟩) ?_) ?_ fun _ _ e=>e)
  ·refine Srt.sort (G:=fun s'=>∃ tk,s'={s with heap:=h6,toks:=tk}) o (fun i j C s' hi hj hij g k=>?_) (by omega) ⟨s.toks,rfl⟩ fun p s' hp hu g=>⟨g,hp,hu⟩
   obtain⟨tk,rfl⟩:=g;show wpAny (model prog w) A (keyLt' κ (vs.getD i Value.none) (vs.getD j Value.none)) C (fun _ _=>False) {s with heap:=h6,toks:=tk};refine ask h6 tk i j _ _ C k6 ?_ ?_ fun tk2=>k _ ⟨tk2,rfl⟩
   ·rw[Qb,Qa hi];rfl
   ·rw[Qb,Qa hj];rfl
  ·rintro⟨⟨⟩,st'⟩ s' ⟨p,har,hf',⟨tk,rfl⟩,hp,hu⟩;obtain⟨c,f1,f2,f3⟩:=fin tk p _ hp (fun i j hij hj=>o.asy _ _ (hu i j hij hj)) rfl;dsimp only;rw[kat_snds rfl har];refine wpAny_bind (seqEpoch_at (s:={s with heap:=h6,toks:=tk}) ho6 rfl (wpAny_bind (listUpdate_at (s:={s with heap:=h6,toks:=tk}) ho6 rfl ?_ (QO _) (WU f2))));rw[hf'];simp only[bne_self_eq_false,Ws,if_false];exact wpAny_pure f3
theorem sorted_allS {r:Addr} {Q:Value->Shared->Prop} {Pc:Heap->List Value->Prop} {lt:Nat->Nat->Bool} {κ:SortKind}
  (col:∀ (R:List Value->Shared->Prop),(∀ h1 tk vs,(∀ b o,s.heap.get? b=some o->h1.get? b=some o)->Pc h1 vs->R vs {s with heap:=h1,toks:=tk})->wpAny (model prog w) A.in1 (collect (.ref r)) R E s)
  (ord:∀ h1 vs,(∀ b o,s.heap.get? b=some o->h1.get? b=some o)->Pc h1 vs->vs.length<64/\Srt.Ord vs.length lt/\SortA prog w h1 vs lt κ)
  (fin:∀ h1 vs h3 tk c p,Pc h1 vs->(∀ b o,s.heap.get? b=some o->h3.get? b=some o)->(∀ b o,h1.get? b=some o->h3.get? b=some o)->(∀ b o,s.heap.get? b=some o->h1.get? b=some o)->Srt.Pm vs.length p->(∀ i j,i<j->j<vs.length->lt (p.getD j 0) (p.getD i 0)=false) ->
   h3.get? h1.objs.size=some (seqObj "list" (p.toList.map fun i=>vs.getD i Value.none).toArray c)->s.heap.get? h1.objs.size=none->Q (.ref h1.objs.size) {s with heap:=h3,toks:=tk}) :
  wpAny (model prog w) A (call (.builtin "sorted") [.ref r]) Q E s:=by
 refine Calls.call_function_entry kind_sorted plain_sorted entry_sorted (args_sorted1 _) ?_;unfold Builtin.«sorted»;refine wpAny_bind (m:=checkCount "sorted" 1 1 _) (wpAny_pure ?_);refine wpAny_bind (col _ fun h1 tk vs hk hP=>?_);obtain⟨h64,O,S⟩:=ord h1 vs hk hP;have hz:vs.length<=sizeLine:=by rw[sizeLine_eq];omega
 refine wpAny_bind (wpAny_newList ?_ hz);have hB:(h1.push {cls:=.type "list",data:=.seq vs.toArray}).get? h1.objs.size=some (seqObj "list" vs.toArray 0):=Qy _ rfl;refine wpAny_bind (wpAny_holding (wpAny_call_entry slot_list_sort ⟨_,hB,rfl⟩ entry_list_sort ?body (args_list_sort _)));have k1:∀ {h6:Heap},(∀ b o,b≠h1.objs.size->(h1.push {cls:=.type "list",data:=.seq vs.toArray}).get? b=some o->h6.get? b=some o)->∀ b o,h1.get? b=some o->h6.get? b=some o:=fun k b o e=>k b o (Qz (Qs e)) (Qg _ e);refine list_sortS (s:={s with heap:=h1.push {cls:=.type "list",data:=.seq vs.toArray},toks:=tk}) hB h64 O (fun h6 Q k h2 q=>S.kd _ _ _ _ (k1 k) h2 q) (fun h6 tk' i j x y C k e1 e2 q=>S.ask _ _ i j x y C (k1 k) e1 e2 fun tk2=>q tk2)
  fun h3 tk3 c p hp hs hkeep hD=>⟨_,rfl,wpAny_pure ⟨_,rfl,?_⟩⟩
 refine fin h1 vs h3 tk3 c p hP (fun b o e=>k1 hkeep b o (hk b o e)) (k1 hkeep) hk hp hs hD ?_;cases e:s.heap.get? h1.objs.size with
 | none=>rfl
 | some u=>exact absurd (Qs (hk _ _ e)) (Wi _)
theorem sa_strsS {h1:Heap} {vs:List Value} {xs:List Str} (hS:StrsAre vs xs):SortA prog w h1 vs (ltS xs) oneType' where
 kd:=fun A E s Q _ h2 q=>by
  match vs,hS,h2 with
  | v1::v2::vs,hS,_ =>
   rw[keyKind_strs hS];exact wpAny_pure q
 ask:=fun A s i j x y C _ e1 e2 q=>by
  obtain⟨t1,rfl,_⟩:=strs_at hS i _ e1;obtain⟨t2,rfl,_⟩:=strs_at hS j _ e2;exact kas_lt_str (q s.toks)
end
end Tim
namespace L2
open PySem PySem.Spec PyProof.Rows PySem.W
variable {X:Cx} {l:Addr} {n:Nat}
theorem YF (hc:X.calm=true):CallR X (.builtin "sorted") (fun xs H Q=>∃ (p:Addr) (ks:List Str),xs=[.ref p]/\H p=some (stO X p ks)/\ks.length<64 /\
  ∀ (q:Addr) (ss:List Str),H q=none->ss.Perm ks->(ss.map fun x=>x.cps.toList).Pairwise (· < ·)->Q (.ref q) (upd H q (.lst (ss.map V.str)))):=by
 intro pins s σ H xs us Q I r h;obtain⟨p,ks,rfl,hp,h64,q⟩:=h;have h1k:ks.length<=1000:=by omega
 obtain⟨u,rfl,ru⟩:=Xd r;cases ru;obtain⟨⟨o,es,ep,t,T⟩,_,_⟩:=(show SetT X.prog X.w s.heap p ks/\_ from I.hok p _ hp)
 refine Calls.call_function_entry kind_sorted plain_sorted entry_sorted (args_sorted1 _) ?_;unfold Builtin.«sorted»;refine wpAny_bind (m:=checkCount "sorted" 1 1 _) (wpAny_pure (wpAny_bind (Zfc (A:=X.A.in1) (I.ok.hd hc) T h1k fun h1 tk d acc ord hpm kk hacc=>?_)));obtain⟨ys,hys,hS⟩:=Zis T hpm hacc;have hl:=Tim.strs_len hS;have hyl:=hys.length_eq;generalize acc.toList=vs at hS hl;have SA:Tim.SortA X.prog X.w h1 vs (Tim.ltS ys) oneType':=Tim.sa_strsS hS;have O:Srt.Ord vs.length (Tim.ltS ys):=by rw[hl];exact ZeY (hys.nodup_iff.mpr T.nd)
 refine wpAny_bind (wpAny_newList ?_ (Zbk (by omega)));have hB:(h1.push {cls:=.type "list",data:=.seq vs.toArray}).get? h1.objs.size=some (seqObj "list" vs.toArray 0):=Qy _ rfl;have k1:∀ {h6:Heap},(∀ b o,b≠h1.objs.size->(h1.push {cls:=.type "list",data:=.seq vs.toArray}).get? b=some o->h6.get? b=some o)->∀ b o,h1.get? b=some o->h6.get? b=some o:=fun k b o e=>k b o (Qz (Qs e)) (Qg _ e);refine wpAny_bind (wpAny_holding (wpAny_call_entry slot_list_sort ⟨_,hB,rfl⟩ entry_list_sort ?_ (args_list_sort _)));refine Tim.list_sortS (s:={s with heap:=h1.push {cls:=.type "list",data:=.seq vs.toArray},toks:=tk,drawn:=d}) hB (by omega) O (fun h6 Q k h2 q=>SA.kd _ _ _ _ (k1 k) h2 q) (fun h6 tk' i j x y C k e1 e2 q=>SA.ask _ _ i j x y C (k1 k) e1 e2 fun tk2=>q tk2)
  fun h3 tk3 c pm hpm3 hs3 hkeep hD=>⟨_,rfl,wpAny_pure ⟨_,rfl,?_⟩⟩
 have hp':Srt.Pm ys.length pm:=by rw[←hl];exact hpm3
 have hN:s.heap.get? h1.objs.size=none:=by
  cases e:s.heap.get? h1.objs.size with
  | none=>rfl
  | some u=>exact absurd (Qs (kk _ _ e)) (Wi _)
 have hmem:∀ i∈pm.toList,i<ys.length:=fun i hi=>by
  have:i∈pm:=by simpa using hi
  have:=hp'.perm.mem_iff.mp this;simpa using this
 have vv:∀ l:List Nat,(∀ i∈l,i<ys.length)->Vals ((l.map fun i=>ys.getD i "").map V.str) (l.map fun i=>vs.getD i Value.none):=by
  intro l;induction l with
  | nil=>intro _;exact .nil
  | cons i l ih =>
   intro hh;have hi:i<vs.length:=by have:=hh i (Qi ..);omega
   obtain⟨t,e,_⟩:=Tim.strs_at hS i _ (Qa hi);refine .cons ?_ (ih fun j hj=>hh j (Ql _ hj));show RelV (V.str (ys.getD i "")) (vs.getD i Value.none);rw[Qb (l:=vs),Qa hi];exact⟨t,e⟩
 obtain⟨hn,I2⟩:=ZeG (tk:=tk3) (vs:=(pm.toList.map fun i=>ys.getD i "").map V.str) (I.drw d) (fun b u e=>k1 hkeep b u (kk b u e)) hN (by rw[Qc,Qc,QG,hp'.size];exact Zbk (by omega)) ⟨_,c,vv pm.toList hmem,hD⟩;refine⟨.ref h1.objs.size,_,I2,rfl,q _ _ hn ((JB ys pm hp').trans hys) ?_⟩;have nd:ys.Nodup:=hys.nodup_iff.mpr T.nd;have hup:=Zqk (n:=ys.length) rfl nd hp' (by rw[←hl];exact hs3);rw[QC,QR,WR];intro i j hi hj hij;have hz2:pm.toList.length=ys.length:=by rw[QG,hp'.size]
 have hu:=hup i j hij (by omega);unfold ltX at hu;rw[decide_eq_true_eq,ZkS hp' hi,ZkS hp' hj]at hu;exact hu
theorem Zbb (hc:X.calm=true):CallR X (.builtin "sorted") (fun xs H Q=>∃ (d:Addr) (ks:List Str) (g:Str->V),xs=[.ref d]/\H d=some (.dK (ks.map fun x=>((Sum.inr x:Key),g x)))/\ks.Nodup/\ks.length<64 /\
  ∀ (p:Addr) (ss':List Str),H p=none->ss'.Perm ks->(ss'.map fun x=>x.cps.toList).Pairwise (·<=·)->Q (.ref p) (upd H p (.lst (ss'.map V.str)))):=by
 intro pins s σ H xs us Q I r h;obtain⟨d,ks,g,rfl,hd,nd,h64,q⟩:=h;have h1k:ks.length<=1000:=by omega
 obtain⟨u,rfl,ru⟩:=Xd r;cases ru;obtain⟨hz,lo,vs',kv,dd⟩:=ZcI I.hok hd;obtain⟨ep,hat⟩:=dd.dictAt;have hlen:ks.length=vs'.length:=by have:=kv.length;simpa using this
 have toS:∀ (n:Nat) (vs:List Value) (xs:List Str),vs.length=xs.length->(∀ (i:Nat) (v:Value),vs[i]?=some v->∃ t,v= .str (xs.getD i "") t)->StrsAre vs xs:=by
  intro n vs;induction vs with
  | nil =>
   intro xs e _;match xs,e with
   | [],_=>exact .nil
  | cons v vs ih =>
   intro xs e hh;match xs,e with
   | x::xs,e =>
    obtain⟨t,rfl⟩:=hh 0 v rfl;exact .cons x t (ih xs (by simpa using e) fun i u z=>by
     obtain⟨t,e⟩:=hh (i+1) u (by simpa using z);exact⟨t,e⟩)
 refine Tim.sorted_allS (lt:=Tim.ltS ks) (κ:=oneType') (Pc:=fun h1 vs=>StrsAre vs ks) (fun R hR=>?_) (fun h1 vs hk hP=>?_) fun h1 vs h3 tk c p hP hk k1 hk1 hp hs hD hN=>?_
 ·refine kdu_collect (A:=X.A.in1) (kdl_dict lo) (I.ok.hd hc) hat (Zbk (by omega)) fun h' tk acc hk hacc=>hR h' tk acc.toList hk (toS 0 _ _ (by rw[QG,hacc.1,hlen]) fun i v e=>?_);obtain⟨k,x,e1,e2⟩:=hacc.2 i v (by rw[←Wb];exact e);obtain⟨ek,hi⟩:=Zi1 kv i k x e1;subst ek;rcases keyIs_shape (show ZaS (Sum.inr (ks.getD i "")) v=true from e2)with ⟨j,t,e4,_⟩ | ⟨z,t,e4,e5⟩
  ·cases e4
  ·injection e4 with e4
   exact⟨t,by rw[e5,e4]⟩
 ·have:=Tim.strs_len hP;exact⟨by omega,by rw[this];exact ZeY nd,Tim.sa_strsS hP⟩
 ·have hl:=Tim.strs_len hP;have hp':Srt.Pm ks.length p:=by rw[←hl];exact hp
  have vv:∀ l:List Nat,(∀ i∈l,i<ks.length)->Vals ((l.map fun i=>ks.getD i "").map V.str) (l.map fun i=>vs.getD i Value.none):=by
   intro l;induction l with
   | nil=>intro _;exact .nil
   | cons i l ih =>
    intro hh;have hi:i<vs.length:=by have:=hh i (Qi ..);omega
    obtain⟨t,e,_⟩:=Tim.strs_at hP i _ (Qa hi);refine .cons ?_ (ih fun j hj=>hh j (Ql _ hj));show RelV (V.str (ks.getD i "")) (vs.getD i Value.none);rw[Qb (l:=vs),Qa hi];exact⟨t,e⟩
  have hmem:∀ i∈p.toList,i<ks.length:=fun i hi=>by
   have:i∈p:=by simpa using hi
   have:=hp'.perm.mem_iff.mp this;simpa using this
  obtain⟨hn,I2⟩:=ZeG (tk:=tk) (vs:=(p.toList.map fun i=>ks.getD i "").map V.str) I hk hN (by rw[Qc,Qc,QG,hp'.size];exact Zbk h1k) ⟨_,c,vv p.toList hmem,hD⟩;exact⟨.ref h1.objs.size,_,I2,rfl,q _ _ hn (JB ks p hp') (ZlZ hp' (by rw[←hl];exact hs))⟩
open PySem PySem.Spec PyProof.Rows
theorem Zdz:typeLookup (.type "list") "keys" = pure none:=am_miss_of_fast (by kernel_rfl)
theorem Zch:typeLookup (.type "tuple") "keys" = pure none:=am_miss_of_fast (by kernel_rfl)
section
variable {prog:Program} {w:World} {A:Around} {E:Value->Shared->Prop} {s:Shared} {a:Addr} {o:Obj} {xs:Array Value} {k:Nat}
theorem ZjA {Q:Option Value->Shared->Prop} (hx:s.heap.get? a=some o) (hc:o.cls= .type "list") (hdat:o.data= .seq xs k) (hd:o.dict=none) (hA:A.handled=none)
  (h:∀ h' tk,(∀ b ob,s.heap.get? b=some ob->h'.get? b=some ob)->Q none {s with heap:=h',toks:=tk}) :
  wpAny (model prog w) A (getAttr? (.ref a) "keys") Q E s:=by
 obtain⟨c,dct,dat,sl⟩:=o;simp only at hc hdat hd;subst hc hdat hd;obtain⟨hp,g,d,tk,os⟩:=s;have hT:∀ tk',(⟨hp,g,d,tk',os⟩:Shared).TypeIs (.ref a) "list":=fun _=>⟨_,hx,rfl⟩
 have f1:=sub_AttributeError;have f3:=F.slot_list_getattribute.lookup;have f4:=F.slot_list_getattribute.bind (.ref a);have f5:=am_list_getattr_none;have hname:(["__module__","__name__","__qualname__","__doc__","__annotations__"]:List Str).contains "keys" = false:=by decide
 unfold getAttr? getAttrBy? getAttrBy
 repeat (any_goals (first | assumption | exact hT _ | ((with_reducible show wpAny _ _ (call (Value.builtin "list.__getattribute__") _ _) _ _ _);refine call_meets F.slot_list_getattribute (hT _) am_entry_list_getattribute (F.args_list_getattribute_2 _ _) (meets_getattribute_miss_list a xs k sl "keys" _ Zdz hname) ⟨hx,hA,fun h' tk' e hx'=>?_⟩) | wp_step))
 obtain⟨t',u',he⟩:=hx'.there;show wpAny _ _ (getattributeRaised _ _ _ _ _ _ _) _ _ _;unfold getattributeRaised
 repeat (any_goals (first | assumption | wp_step))
 exact h _ _ hx'.of.keeps
theorem Zhg {Q:Option Value->Shared->Prop} (hx:s.heap.get? a=some o) (hc:o.cls= .type "tuple") (hdat:o.data= .seq xs k) (hd:o.dict=none) (hA:A.handled=none)
  (h:∀ h' tk,(∀ b ob,s.heap.get? b=some ob->h'.get? b=some ob)->Q none {s with heap:=h',toks:=tk}) :
  wpAny (model prog w) A (getAttr? (.ref a) "keys") Q E s:=by
 obtain⟨c,dct,dat,sl⟩:=o;simp only at hc hdat hd;subst hc hdat hd;obtain⟨hp,g,d,tk,os⟩:=s;have hT:∀ tk',(⟨hp,g,d,tk',os⟩:Shared).TypeIs (.ref a) "tuple":=fun _=>⟨_,hx,rfl⟩
 have f1:=sub_AttributeError;have f3:=F.slot_tuple_getattribute.lookup;have f4:=F.slot_tuple_getattribute.bind (.ref a);have f5:=am_tuple_getattr_none;have hname:(["__module__","__name__","__qualname__","__doc__","__annotations__"]:List Str).contains "keys" = false:=by decide
 unfold getAttr? getAttrBy? getAttrBy
 repeat (any_goals (first | assumption | exact hT _ | ((with_reducible show wpAny _ _ (call (Value.builtin "tuple.__getattribute__") _ _) _ _ _);refine call_meets F.slot_tuple_getattribute (hT _) am_entry_tuple_getattribute (F.args_tuple_getattribute_2 _ _) (meets_getattribute_miss_tuple a xs k sl "keys" _ Zch hname) ⟨hx,hA,fun h' tk' e hx'=>?_⟩) | wp_step))
 obtain⟨t',u',he⟩:=hx'.there;show wpAny _ _ (getattributeRaised _ _ _ _ _ _ _) _ _ _;unfold getattributeRaised
 repeat (any_goals (first | assumption | wp_step))
 exact h _ _ hx'.of.keeps
end
theorem ZI:plainId "dict.update.loop" = true:=by decide +kernel
theorem Yi:entryFor table "dict.update.loop" = some Builtin.«dict.update.loop»:=entryFor_of_fast (by kernel_rfl)
theorem Yd {h h':Heap} {a:Addr} {its:Array Value} (x:IsTup h a its) (e:∀ o,h.get? a=some o->h'.get? a=some o):IsTup h' a its:=by
 obtain⟨o,ho,r⟩:=x;exact⟨o,e o ho,r⟩
theorem ZeZ {h h':Heap} {a:Addr} {its:Array Value} (x:h.IsList a its) (e:∀ o,h.get? a=some o->h'.get? a=some o):h'.IsList a its:=by
 obtain⟨o,ho,r⟩:=x;exact⟨o,e o ho,r⟩
section
variable {prog:Program} {w:World} {Ky:Type} [DecidableEq Ky] {knd:KeyKind prog w Ky} {A:Around} {R:Except Value Flow->Shared->Prop}
theorem Zko {I d:Addr} {xs:Array Value} (tb:Nat->Addr) (ks:Nat->Ky) (kv vv:Nat->Value) (hh:A.handled=none) (hxs:xs.size=n) (hx:∀ j,j<n->xs[j]?=some (.ref (tb j))) (hk:∀ j,j<n->knd.is (ks j) (kv j)=true)
  (hnd:((Qx n).map ks).Nodup) (hn:n<=sizeLine) (ld:l≠d) (lI:l≠I) (dI:d≠I) (td:∀ j,j<n->tb j≠d) (tI:∀ j,j<n->tb j≠I) :
  ∀ (m i:Nat) (s:Shared),n-i=m->i<=n->s.heap.IsListIter I l i->s.heap.IsList l xs->(∀ j,j<n->IsTup s.heap (tb j) #[kv j,vv j])->s.heap.DictOf knd d ((Qx i).map fun j=>(ks j,vv j)) ->
  (∀ h' t',(∀ b o,b≠d->b≠I->s.heap.get? b=some o->h'.get? b=some o)->h'.DictOf knd d ((Qx n).map fun j=>(ks j,vv j))->R (.ok (.ret .none)) {s with heap:=h',toks:=t'}) ->
  codeAny (model prog w) A (.builtin "dict.update.loop" ⟨[.ref d,.ref I,.int i 0,.none],[]⟩) R s:=by
 intro m;induction m with
 | zero =>
  intro i s hm hi hit hl ht hd hR;have:i=n:=by omega
  subst this;refine codeAny_builtin Yi ?_;rw[Around.under_plainId ZI _];show wpAny _ A.in1 (pyNext (.ref I) >>= _) _ _ s;refine wpAny_bind (wpAny_pyNext_list_end hh hit hl (by simp[hxs]) fun h2 he2=>?_);refine wpAny_bind (wpAny_pure (wpAny_pure ?_));exact hR h2 s.toks (fun b o hb1 hb2 e=>he2 b o hb2 e) (hd.extBut he2 dI)
 | succ m ih =>
  intro i s hm hi hit hl ht hd hR;have hlt:i<n:=by omega
  refine codeAny_builtin Yi ?_;rw[Around.under_plainId ZI _];show wpAny _ A.in1 (pyNext (.ref I) >>= _) _ _ s;refine wpAny_bind (wpAny_pyNext_list_item hit hl (hx i hlt) fun h1 hit1 hs1=>?_);have e1:=hs1.extBut;have ht1:∀ j,j<n->IsTup h1 (tb j) #[kv j,vv j]:=fun j hj=>Yd (ht j hj) fun o e=>e1 _ o (tI j hj) e;obtain⟨ot,hot,hct,nt,hdt⟩:=ht1 i hlt;refine wpAny_bind (wpAny_holding (wpAny_bind (wpAny_tryCatch ?_)));unfold Builtin.Dict.pairItems;refine wpAny_bind (wpAny_typeOf (T:="tuple") ⟨ot,hot,hct⟩ ?_);rw[if_pos (by decide)];refine wpAny_bind (wpAny_seqItems hot hdt (wpAny_pure ?_));have hd1:h1.DictOf knd d ((Qx i).map fun j=>(ks j,vv j)):=hd.extBut e1 dI;show wpAny _ _ (holding [kv i,vv i] (dictSet d (kv i) (vv i))) _ _ _;refine wpAny_holding (wpAny_dictSet_pairs (s:={s with heap:=h1}) (hk i hlt) hd1 (fun h2 hd2 hs2=>?_) (by rw[Qc,Wh];omega));have hfresh:stored ((Qx i).map fun j=>(ks j,vv j)) (ks i) (vv i)=(Qx (i+1)).map fun j=>(ks j,vv j):=by
   unfold stored;rw[if_neg ?_,Uz,QH]
   ·rfl
   ·intro q;obtain⟨p,hp,e⟩:=RI.mp q;obtain⟨j,hj,rfl⟩:=Qj.mp hp;have hj':=Wg.mp hj;have e':ks j=ks i:=by simpa using e
    have h1:((Qx n).map ks)[j]?=some (ks j):=by rw[Qd,QM (by omega)];rfl
    have h2:((Qx n).map ks)[i]?=some (ks i):=by rw[Qd,QM hlt];rfl
    have:=(VC (by rw[Qc,Wh];omega) hnd).mp (h1.trans ((congrArg some e').trans h2.symm));omega
  rw[hfresh]at hd2;have e2:=hs2.extBut;have kp:∀ b o,b≠d->b≠I->s.heap.get? b=some o->h2.get? b=some o:=fun b o q1 q2 e=>e2 b o q1 (e1 b o q2 e);refine wpAny_pure ⟨plainId_quiet ZI _,?_⟩;have:=ih (i+1) {s with heap:=h2,toks:=s.toks+1} (by omega) hlt (hit1.extBut e2 (Ne.symm dI)) (ZeZ hl fun o e=>kp l o ld lI e) (fun j hj=>Yd (ht j hj) fun o e=>kp _ o (td j hj) (tI j hj) e) hd2
   fun h' t' k1 k2=>hR h' t' (fun b o q1 q2 e=>k1 b o q1 q2 (kp b o q1 q2 e)) k2
  exact this
theorem Za0 {o:Obj} {xs:Array Value} {c:Nat} {E:Value->Shared->Prop} {s:Shared} {Q:Value->Shared->Prop} (tb:Nat->Addr) (ks:Nat->Ky) (kv vv:Nat->Value) (hh:A.handled=none)
  (ho:s.heap.get? l=some o) (hc:o.cls= .type "list") (hdt:o.data= .seq xs c) (hdi:o.dict=none) (hxs:xs.size=n) (hx:∀ j,j<n->xs[j]?=some (.ref (tb j))) (hk:∀ j,j<n->knd.is (ks j) (kv j)=true)
  (ht:∀ j,j<n->IsTup s.heap (tb j) #[kv j,vv j]) (hnd:((Qx n).map ks).Nodup) (hn:n<=sizeLine)
  (h:∀ h' t',(∀ b o,s.heap.get? b=some o->h'.get? b=some o)->h'.DictOf knd s.heap.objs.size ((Qx n).map fun j=>(ks j,vv j))->Q (.ref s.heap.objs.size) {s with heap:=h',toks:=t'}) :
  wpAny (model prog w) A (call (.type "dict") [.ref l]) Q E s:=by
 refine callType_codes (Q₁:=fun obj s₁=>obj= .ref s.heap.objs.size/\s₁={s with heap:=s.heap.push {cls:=.type "dict",data:=.dict #[]}}) F.kt_called_dict (F.kt_typeCall_dict_1 _) F.entry_dict_init (kt_code_dict_new _ ⟨rfl,rfl⟩) ?_;rintro obj s₁ ⟨rfl,rfl⟩;have hnew:(s.heap.push {cls:=.type "dict",data:=.dict #[]}).DictOf knd s.heap.objs.size []:=Heap.DictOf.new s.heap;have ll:=Qs ho;have lt:∀ j,j<n->tb j<s.heap.objs.size:=fun j hj=>by
  obtain⟨q,hq,_⟩:=ht j hj;exact Qs hq
 refine⟨hnew.typeIs,F.args_dict_init_2 _ _,?_⟩;unfold Builtin.«dict.__init__»;refine wpAny_bind ?_;unfold Builtin.Dict.selfAndRest;refine wpAny_bind (wpAny_notOrdered_dict hnew.typeIs ?_);show wpAny _ _ (pure (s.heap.objs.size,[Value.ref l])) _ _ _;refine wpAny_pure ?_;show wpAny _ _ (Builtin.Dict.updateFrom "dict.__init__" s.heap.objs.size (.ref l) [] .none) _ _ _;unfold Builtin.Dict.updateFrom;have ho1:(s.heap.push {cls:=.type "dict",data:=.dict #[]}).get? l=some o:=Qg _ ho;refine wpAny_bind (wpAny_typeOf (T:="list") ⟨o,ho1,hc⟩ ?_);rw[if_pos (by decide)];refine wpAny_bind (ZjA (A:=A.in1.in1) ho1 hc hdt hdi hh fun h1 tk k1=>?_);rw[if_pos (show(none:Option Value).isNone=true from rfl)];refine wpAny_bind (wpAny_rule ?_);have hl1:h1.IsList l xs:=⟨o,k1 _ _ ho1,hc,c,hdt⟩
 refine wpAny_bind (wpAny_pyIter_list (s:={s with heap:=h1,toks:=tk}) hl1 ?_);have hI:s.heap.objs.size<h1.objs.size:=Qs (k1 _ _ (Qy s.heap (o:={cls:=.type "dict",data:=.dict #[]}) rfl));have kp:∀ b o,s.heap.get? b=some o->(h1.push {cls:=.type "list_iterator",data:=.fields #[.ref l,.int 0 0]}).get? b=some o:=fun b o e=>Qg _ (k1 _ _ (Qg _ e));refine wpAny_pure ⟨plainId_quiet ZI _,?_⟩;have hnew1:h1.DictOf knd s.heap.objs.size []:=by
  obtain⟨q,es,ep,hq,r⟩:=hnew;exact⟨q,es,ep,k1 _ _ hq,r⟩
 refine Zko (A:=A.in1) (l:=l) (I:=h1.objs.size) (d:=s.heap.objs.size) (xs:=xs) (n:=n) tb ks kv vv hh hxs hx hk hnd hn (Qz ll) (Qz (UH ll hI)) (Qz hI) (fun j hj=>Qz (lt j hj)) (fun j hj=>Qz (UH (lt j hj) hI)) n 0 _ (by omega) (by omega)
  ⟨_,Qy _ rfl,rfl,rfl⟩ (hl1.push _) (fun j hj=>Yd (ht j hj) fun o e=>kp _ o e) (hnew1.push _) fun h2 t2 k2 hd2=>?_
 refine⟨rfl,h h2 t2 (fun b o e=>k2 b o ?_ ?_ (kp b o e)) hd2⟩
 ·exact Qz (Qs e)
 ·exact Qz (UH (Qs e) hI)
theorem ZhH {I d:Addr} {xs:Array Value} (tb:Nat->Addr) (ks:Nat->Ky) (kv vv:Nat->Value) (hh:A.handled=none) (hxs:xs.size=n) (hx:∀ j,j<n->xs[j]?=some (.ref (tb j))) (hk:∀ j,j<n->knd.is (ks j) (kv j)=true)
  (hnd:((Qx n).map ks).Nodup) (hn:n<=sizeLine) (ld:l≠d) (lI:l≠I) (dI:d≠I) (td:∀ j,j<n->tb j≠d) (tI:∀ j,j<n->tb j≠I) :
  ∀ (m i:Nat) (s:Shared),n-i=m->i<=n->IsTupIter s.heap I l i->IsTup s.heap l xs->(∀ j,j<n->IsTup s.heap (tb j) #[kv j,vv j])->s.heap.DictOf knd d ((Qx i).map fun j=>(ks j,vv j)) ->
  (∀ h' t',(∀ b o,b≠d->b≠I->s.heap.get? b=some o->h'.get? b=some o)->h'.DictOf knd d ((Qx n).map fun j=>(ks j,vv j))->R (.ok (.ret .none)) {s with heap:=h',toks:=t'}) ->
  codeAny (model prog w) A (.builtin "dict.update.loop" ⟨[.ref d,.ref I,.int i 0,.none],[]⟩) R s:=by
 intro m;induction m with
 | zero =>
  intro i s hm hi hit hl ht hd hR;have:i=n:=by omega
  subst this;refine codeAny_builtin Yi ?_;rw[Around.under_plainId ZI _];show wpAny _ A.in1 (pyNext (.ref I) >>= _) _ _ s;refine wpAny_bind (next_tuple_end hh hit hl (by simp[hxs]) fun h2 he2=>?_);refine wpAny_bind (wpAny_pure (wpAny_pure ?_));exact hR h2 s.toks (fun b o hb1 hb2 e=>he2 b o hb2 e) (hd.extBut he2 dI)
 | succ m ih =>
  intro i s hm hi hit hl ht hd hR;have hlt:i<n:=by omega
  refine codeAny_builtin Yi ?_;rw[Around.under_plainId ZI _];show wpAny _ A.in1 (pyNext (.ref I) >>= _) _ _ s;refine wpAny_bind (next_tuple_item hit hl (hx i hlt) fun h1 hit1 hs1=>?_);have e1:=hs1.extBut;have ht1:∀ j,j<n->IsTup h1 (tb j) #[kv j,vv j]:=fun j hj=>Yd (ht j hj) fun o e=>e1 _ o (tI j hj) e;obtain⟨ot,hot,hct,nt,hdt⟩:=ht1 i hlt;refine wpAny_bind (wpAny_holding (wpAny_bind (wpAny_tryCatch ?_)));unfold Builtin.Dict.pairItems;refine wpAny_bind (wpAny_typeOf (T:="tuple") ⟨ot,hot,hct⟩ ?_);rw[if_pos (by decide)];refine wpAny_bind (wpAny_seqItems hot hdt (wpAny_pure ?_));have hd1:h1.DictOf knd d ((Qx i).map fun j=>(ks j,vv j)):=hd.extBut e1 dI;show wpAny _ _ (holding [kv i,vv i] (dictSet d (kv i) (vv i))) _ _ _;refine wpAny_holding (wpAny_dictSet_pairs (s:={s with heap:=h1}) (hk i hlt) hd1 (fun h2 hd2 hs2=>?_) (by rw[Qc,Wh];omega));have hfresh:stored ((Qx i).map fun j=>(ks j,vv j)) (ks i) (vv i)=(Qx (i+1)).map fun j=>(ks j,vv j):=by
   unfold stored;rw[if_neg ?_,Uz,QH]
   ·rfl
   ·intro q;obtain⟨p,hp,e⟩:=RI.mp q;obtain⟨j,hj,rfl⟩:=Qj.mp hp;have hj':=Wg.mp hj;have e':ks j=ks i:=by simpa using e
    have h1:((Qx n).map ks)[j]?=some (ks j):=by rw[Qd,QM (by omega)];rfl
    have h2:((Qx n).map ks)[i]?=some (ks i):=by rw[Qd,QM hlt];rfl
    have:=(VC (by rw[Qc,Wh];omega) hnd).mp (h1.trans ((congrArg some e').trans h2.symm));omega
  rw[hfresh]at hd2;have e2:=hs2.extBut;have kp:∀ b o,b≠d->b≠I->s.heap.get? b=some o->h2.get? b=some o:=fun b o q1 q2 e=>e2 b o q1 (e1 b o q2 e);refine wpAny_pure ⟨plainId_quiet ZI _,?_⟩;have:=ih (i+1) {s with heap:=h2,toks:=s.toks+1} (by omega) hlt (hit1.extBut e2 (Ne.symm dI)) (Yd hl fun o e=>kp l o ld lI e) (fun j hj=>Yd (ht j hj) fun o e=>kp _ o (td j hj) (tI j hj) e) hd2
   fun h' t' k1 k2=>hR h' t' (fun b o q1 q2 e=>k1 b o q1 q2 (kp b o q1 q2 e)) k2
  exact this
theorem J1 {o:Obj} {xs:Array Value} {c:Nat} {E:Value->Shared->Prop} {s:Shared} {Q:Value->Shared->Prop} (tb:Nat->Addr) (ks:Nat->Ky) (kv vv:Nat->Value) (hh:A.handled=none)
  (ho:s.heap.get? l=some o) (hc:o.cls= .type "tuple") (hdt:o.data= .seq xs c) (hdi:o.dict=none) (hxs:xs.size=n) (hx:∀ j,j<n->xs[j]?=some (.ref (tb j))) (hk:∀ j,j<n->knd.is (ks j) (kv j)=true)
  (ht:∀ j,j<n->IsTup s.heap (tb j) #[kv j,vv j]) (hnd:((Qx n).map ks).Nodup) (hn:n<=sizeLine)
  (h:∀ h' t',(∀ b o,s.heap.get? b=some o->h'.get? b=some o)->h'.DictOf knd s.heap.objs.size ((Qx n).map fun j=>(ks j,vv j))->Q (.ref s.heap.objs.size) {s with heap:=h',toks:=t'}) :
  wpAny (model prog w) A (call (.type "dict") [.ref l]) Q E s:=by
 refine callType_codes (Q₁:=fun obj s₁=>obj= .ref s.heap.objs.size/\s₁={s with heap:=s.heap.push {cls:=.type "dict",data:=.dict #[]}}) F.kt_called_dict (F.kt_typeCall_dict_1 _) F.entry_dict_init (kt_code_dict_new _ ⟨rfl,rfl⟩) ?_;rintro obj s₁ ⟨rfl,rfl⟩;have hnew:(s.heap.push {cls:=.type "dict",data:=.dict #[]}).DictOf knd s.heap.objs.size []:=Heap.DictOf.new s.heap;have ll:=Qs ho;have lt:∀ j,j<n->tb j<s.heap.objs.size:=fun j hj=>by
  obtain⟨q,hq,_⟩:=ht j hj;exact Qs hq
 refine⟨hnew.typeIs,F.args_dict_init_2 _ _,?_⟩;unfold Builtin.«dict.__init__»;refine wpAny_bind ?_;unfold Builtin.Dict.selfAndRest;refine wpAny_bind (wpAny_notOrdered_dict hnew.typeIs ?_);show wpAny _ _ (pure (s.heap.objs.size,[Value.ref l])) _ _ _;refine wpAny_pure ?_;show wpAny _ _ (Builtin.Dict.updateFrom "dict.__init__" s.heap.objs.size (.ref l) [] .none) _ _ _;unfold Builtin.Dict.updateFrom;have ho1:(s.heap.push {cls:=.type "dict",data:=.dict #[]}).get? l=some o:=Qg _ ho;refine wpAny_bind (wpAny_typeOf (T:="tuple") ⟨o,ho1,hc⟩ ?_);rw[if_pos (by decide)];refine wpAny_bind (Zhg (A:=A.in1.in1) ho1 hc hdt hdi hh fun h1 tk k1=>?_);rw[if_pos (show(none:Option Value).isNone=true from rfl)];refine wpAny_bind (wpAny_rule ?_);have hl1:IsTup h1 l xs:=⟨o,k1 _ _ ho1,hc,c,hdt⟩
 refine wpAny_bind (iter_tuple (s:={s with heap:=h1,toks:=tk}) hl1 ?_);have hI:s.heap.objs.size<h1.objs.size:=Qs (k1 _ _ (Qy s.heap (o:={cls:=.type "dict",data:=.dict #[]}) rfl));have kp:∀ b o,s.heap.get? b=some o->(h1.push {cls:=.type "tuple_iterator",data:=.fields #[.ref l,.int 0 0]}).get? b=some o:=fun b o e=>Qg _ (k1 _ _ (Qg _ e));refine wpAny_pure ⟨plainId_quiet ZI _,?_⟩;have hnew1:h1.DictOf knd s.heap.objs.size []:=by
  obtain⟨q,es,ep,hq,r⟩:=hnew;exact⟨q,es,ep,k1 _ _ hq,r⟩
 refine ZhH (A:=A.in1) (l:=l) (I:=h1.objs.size) (d:=s.heap.objs.size) (xs:=xs) (n:=n) tb ks kv vv hh hxs hx hk hnd hn (Qz ll) (Qz (UH ll hI)) (Qz hI) (fun j hj=>Qz (lt j hj)) (fun j hj=>Qz (UH (lt j hj) hI)) n 0 _ (by omega) (by omega)
  ⟨_,Qy _ rfl,rfl,rfl⟩ (hl1.push _) (fun j hj=>Yd (ht j hj) fun o e=>kp _ o e) (hnew1.push _) fun h2 t2 k2 hd2=>?_
 refine⟨rfl,h h2 t2 (fun b o e=>k2 b o ?_ ?_ (kp b o e)) hd2⟩
 ·exact Qz (Qs e)
 ·exact Qz (UH (Qs e) hI)
end
def Znp:List V->Hp->VK->Prop:=fun xs H Q=>∃ (p:Addr) (ys:List V) (kvs:List (Key×V)),xs=[.ref p]/\(H p=some (.lst ys)\/H p=some (.tup ys))/\ys.length=kvs.length/\(∀ (i:Nat) q,kvs[i]?=some q->∃ b,ys[i]?=some (.ref b)/\H b=some (.tup [kV q.1,q.2])) /\
 (kvs.map (·.1)).Nodup/\∀ l,H l=none->Q (.ref l) (upd H l (.dK kvs))
theorem Zdo {kvs:List (Key×V)} (vv:Nat->Value) (h:∀ (i:Nat) q,kvs[i]?=some q->RelV q.2 (vv i)) (d:Key):KV kvs ((Qx kvs.length).map fun j=>((kvs.map (·.1)).getD j d,vv j)):=by
 induction kvs generalizing vv with
 | nil=>exact .nil
 | cons q kvs ih =>
  rw[QL,U4,Qh,QC];exact .cons ⟨rfl,h 0 q rfl⟩ (ih (fun j=>vv (j+1)) fun i q' e=>h (i+1) q' e)
theorem ZgW (l:List Key) (d:Key):(Qx l.length).map (fun j=>l.getD j d)=l:=by
 apply QT;intro i;rw[Qd];by_cases h:i<l.length
 ·rw[QM h,Wj,Qb,Qa h];rfl
 ·rw[Qo (by simpa using h),Qo (by simpa using h)];rfl
theorem Zfl:∀ {ys:List V} {its:List Value} {j:Nat} {a:Addr},Vals ys its->ys[j]?=some (.ref a)->its.toArray[j]?=some (.ref a):=fun {ys its j a} r e=>by
 rw[Re];induction r generalizing j with
 | nil=>cases e
 | cons r1 r2 ih =>
  cases j with
  | zero=>cases e;cases r1;rfl
  | succ j=>exact ih e
theorem Zfd (hc:X.calm=true):CallR X (.type "dict") Znp:=by
 intro pins s σ H xs us Q I r h;obtain⟨p,ys,kvs,rfl,hp,hl,hk,hnd,q⟩:=h;obtain⟨u,rfl,rx⟩:=Xd r;cases rx;have hf:H s.heap.objs.size=none:=I.hok.fresh (Qk _);have pr:∀ i:Nat,∃ t:Addr×Value×Value,∀ q,kvs[i]?=some q->ys[i]?=some (.ref t.1)/\IsTup s.heap t.1 #[t.2.1,t.2.2]/\RelV (kV q.1) t.2.1/\RelV q.2 t.2.2:=fun i=>by
  cases e:kvs[i]? with
  | none=>exact⟨(0,.none,.none),fun q z=>nomatch z⟩
  | some q =>
   obtain⟨b,e1,e2⟩:=hk i q e;obtain⟨its,rv,ht,_⟩:=I.tuple (SqT.of e2);obtain⟨u,v,rfl,r1,r2⟩:=ZhD rv;refine⟨(b,u,v),fun q' e'=>?_⟩;cases e';exact⟨e1,ht,r1,r2⟩
 obtain⟨t,ht⟩:=Classical.axiomOfChoice pr;have at_:∀ j,j<kvs.length->ys[j]?=some (.ref (t j).1)/\IsTup s.heap (t j).1 #[(t j).2.1,(t j).2.2]/\RelV (kV ((kvs.map (·.1)).getD j (Sum.inl 0))) (t j).2.1:=fun j hj=>by
  obtain⟨h1,h2,h3,h4⟩:=ht j _ (Qa hj);refine⟨h1,h2,?_⟩;rw[Qb,Qd,Qa hj];exact h3
 have hnd':((Qx kvs.length).map fun j=>(kvs.map (·.1)).getD j (Sum.inl 0)).Nodup:=by
  have e:=ZgW (kvs.map (·.1)) (Sum.inl 0);rw[Qc]at e;rw[e];exact hnd
 have fin:kvs.length<=sizeLine->∀ h' t',(∀ b o,s.heap.get? b=some o->h'.get? b=some o)->h'.DictOf (Zt X.prog X.w) s.heap.objs.size ((Qx kvs.length).map fun j=>((kvs.map (·.1)).getD j (Sum.inl 0),(t j).2.2)) ->
   EP X pins σ Q (.ref s.heap.objs.size) {s with heap:=h',toks:=t'}:=fun hz h' t' kp hd =>
  ⟨.ref s.heap.objs.size,_,I.laid (t':=t') (o:=.dK kvs) kp (Qk _) ⟨hz,beq_eq_false_iff_ne.mpr (Ne.symm (Qz I.big)),_,Zdo (fun j=>(t j).2.2) (fun i q e=>(ht i q e).2.2.2) (Sum.inl 0),hd⟩,rfl,q _ hf⟩
 rcases hp with hp | hp
 ·obtain⟨z,its,n,r',e⟩:=I.hok p _ hp;have hlen:its.toArray.size=kvs.length:=by rw[Qr,←r'.length];exact hl
  have hz:kvs.length<=sizeLine:=by rw[←hl];exact z
  refine Za0 (fun j=>(t j).1) (fun j=>(kvs.map (·.1)).getD j (Sum.inl 0)) (fun j=>(t j).2.1) (fun j=>(t j).2.2) (I.ok.hd hc) e rfl rfl rfl hlen (fun j hj=>?_) (fun j hj=>JZ (at_ j hj).2.2) (fun j hj=>(at_ j hj).2.1) hnd' hz (fin hz);exact Zfl r' (at_ j hj).1
 ·obtain⟨z,its,r',⟨o,e,c1,n,d1⟩,nd⟩:=(show ObjOk X.prog X.w H s.heap p (.tup ys)from I.hok p _ hp)
  have hlen:its.toArray.size=kvs.length:=by rw[Qr,←r'.length];exact hl
  have hz:kvs.length<=sizeLine:=by rw[←hl];exact z
  refine J1 (fun j=>(t j).1) (fun j=>(kvs.map (·.1)).getD j (Sum.inl 0)) (fun j=>(t j).2.1) (fun j=>(t j).2.2) (I.ok.hd hc) e c1 d1 (nd _ e) hlen (fun j hj=>?_) (fun j hj=>JZ (at_ j hj).2.2) (fun j hj=>(at_ j hj).2.1) hnd' hz (fin hz);exact Zfl r' (at_ j hj).1
end L2
namespace Sh
variable {P:Program} {w:World} {K:PySem.W.Frag} {mg:Str->Option Value} {base:Heap}
variable {H H':Hp} {as:List Addr} {d:Int} {i k n p:Nat}
abbrev Mat:=List (List Int)
def Sm (n:Nat) (x:Int):Prop:=x.natAbs<2 ^ n
def YC (M:Mat):Option Nat:=M.findIdx? fun r=>decide (r.headD 0≠0)
def ZdI (r h:List Int) (d:Int):List Int:=(Qx (r.length-1)).map fun j=>(h.headD 0*r.getD (j+1) 0-r.headD 0*h.getD (j+1) 0).fdiv d
def JY (M:Mat) (p:Nat) (d:Int):Mat:=(M.take p++M.drop (p+1)).map fun r=>ZdI r (M.getD p []) d
def Sq (n:Nat) (M:Mat):Prop:=M.length=n/\∀ r∈M,r.length=n
def SmM (k:Nat) (M:Mat):Prop:=∀ r∈M,∀ x∈r,Sm k x
def FineM:Nat->Mat->Int->Int->Int->Prop
 | 0,M,_,_,W=>M=[]/\W=1
 | 1,M,s,_,W=>∃ x,M=[[x]]/\W=s*x/\(s=1\/s = -1)
 | n+2,M,s,d,W=>Sq (n+2) M/\SmM 3900 M/\Sm 3900 d/\d≠0/\(s=1\/s = -1)/\match YC M with
  | none=>W=0
  | some p=>FineM (n+1) (JY M p d) (if p % 2=0 then s else -s) ((M.getD p []).headD 0) W
theorem Sm.mul {a b:Nat} {x y:Int} (h:Sm a x) (k:Sm b y):Sm (a+b) (x*y):=by
 unfold Sm at *;rw[VS,Nat.pow_add];exact Nat.mul_lt_mul'' h k
theorem Sm.up {a b:Nat} {x:Int} (h:Sm a x) (hab:a<=b):Sm b x:=QS h (Va (by decide) hab)
theorem Sm.one (a:Nat) (h:1<=a):Sm a 1:=by
 have:Sm 1 1:=by unfold Sm;decide
 exact this.up h
open PySem L2 PyProof.Rows
seal L2.PE L2.PS L2.PSs L2.PT L2.PW L2.PA L2.PI L2.PG L2.PGs L2.PO L2.PC L2.PCs L2.OpR L2.UnR L2.CallR L2.MtR L2.IxR L2.SlR
def top (i:Nat):Stmt:=PySem.Challenge.pw_shredjoin_k42_whole_all_numbers.main.body.getD i (.Pass ⟨0,0,0,0⟩)
structure Blt (mg:Str->Option Value):Prop where
 isi:mg "isinstance" = none
 int:mg "int" = none
 bool:mg "bool" = none
 len:mg "len" = none
 range:mg "range" = none
 list:mg "list" = none
 tuple:mg "tuple" = none
 enum:mg "enumerate" = none
 sum:mg "sum" = none
 sorted:mg "sorted" = none
 set:mg "set" = none
 max:mg "max" = none
 min:mg "min" = none
 rev:mg "reversed" = none
 zip:mg "zip" = none
 str:mg "str" = none
 dict:mg "dict" = none
structure RowsL (H:Hp) (as:List Addr) (M:Mat):Prop where
 len:as.length=M.length
 row:∀ i a,as[i]?=some a->H a=some (.lst ((M.getD i []).map V.int))
theorem RowsL.same {M:Mat} (s:Same H H') (h:RowsL H as M):RowsL H' as M:=⟨h.len,fun i a e=>s _ _ (h.row i a e)⟩
theorem XD (m:List Int) (h:m≠[]):atI (m.map V.int) 0=some (V.int (m.headD 0)):=by
 cases m with
 | nil=>exact absurd rfl h
 | cons a r=>exact Y9 (by decide) rfl
theorem ZjP {M:Mat} (hi:i<M.length) (h:(M.getD i []).headD 0≠0) (hb:∀ j,j<i->(M.getD j []).headD 0=0):YC M=some i:=by
 unfold YC;rw[Wz];refine⟨hi,?_,fun j hj=>?_⟩
 ·have e:M.getD i []=M[i]:=by rw[Qb,Qa hi];rfl
  rw[e]at h;exact decide_eq_true h
 ·have hj':j<M.length:=by omega
  have e:M.getD j []=M[j]:=by rw[Qb,Qa hj'];rfl
  have:=hb j hj;rw[e]at this;rw[this];decide
theorem ZjQ {M:Mat} (hb:∀ j,j<M.length->(M.getD j []).headD 0=0):YC M=none:=by
 unfold YC;rw[UX];intro r hr;obtain⟨j,hj,e⟩:=Rl.mp hr;have:=hb j hj;rw[Qb,Qa hj]at this;have:r.headD 0=0:=by rw[←e];exact this
 rw[this];decide
def Zlw (M:Mat):V:=match YC M with
 | none=>.non
 | some p=>.int p
abbrev Xj:Stmt:=top 10
abbrev ZdA:List Str:=["rows","place","row"]
theorem scPlaceOfHead:Zo ZdA ["rows"] (Zf Xj):=⟨rfl,rfl,rfl,by decide +kernel,rfl,by decide +kernel,by decide +kernel⟩
def Zl7:Sp:=fun vs H Q _=>∃ (r:Addr) (as:List Addr) (M:Mat),vs=[.ref r]/\H r=some (.lst (as.map V.ref))/\RowsL H as M/\(∀ m∈M,m≠[])/\∀ H',Same H H'->Q (Zlw M) H'
theorem JX (D:HasDef K mg "place_of_head" Xj ["rows"]) (B:Blt mg):FOk P w K mg base 1 "place_of_head" ["rows"] Zl7:=by
 refine D.ok scPlaceOfHead (fun vs H Q E h=>?_) (fun f cdv A outer s H vs Q E hr h=>?_)
 ·obtain⟨r,as,M,rfl,_⟩:=h;rfl
 ·obtain⟨r,as,M,rfl,hr1,hR,hM,k⟩:=h;refine⟨_,(Zc (ZY PassesOwn.never rfl (Znt rfl B.enum (Za (pv 0) Ze)) (Z5 2 K rfl (Zu (ZB (i:=1) scPlaceOfHead.nd rfl (.inl rfl)) (Zu (ZB (i:=2) scPlaceOfHead.nd rfl (.inl rfl)) Z4)))
    (Zh (Z3 (Zs ZeF (ZP ZO (pv 2) Zg (fun _ _=>rfl)) Zg (Zx _)) (Zh (Zp (pv 1))) Zy)))
   (Zh (Zp Zdk))),?_⟩
  refine⟨_,rfl,r,rfl,⟨_,SqL.of hr1⟩,?_⟩;refine ZlC (K:=K) (a:=r) (xs:=as.map V.ref) (fun i σ H2=>Same H H2/\(∃ z1 z2:Option V,σ=[some (.ref r),z1,z2])/\∀ j,j<i->(M.getD j []).headD 0=0) ⟨Same.refl _,⟨none,none,rfl⟩,fun j hj=>absurd hj (VN _)⟩ (fun i σ H2 _ ⟨s2,_,_⟩=>SqL.of (s2 _ _ hr1)) ?_ ?_
  ·rintro i x σ H2 t hx ht ⟨s2,⟨z1,z2,rfl⟩,hp⟩;obtain⟨hi,rfl⟩:=YS hx;have s3:Same H2 (upd H2 t (.tup [.int i,.ref as[i]])):=Zb ht;have hi':i<M.length:=by rw[←hR.len];exact hi
   have hrow:=hR.row i as[i] (Qa hi);have hne:M.getD i []≠[]:=by
    rw[Qb,Qa hi'];exact hM _ (QF hi')
   refine⟨t,[.int i,.ref as[i]],rfl,SqT.of Zd,rfl,?_⟩;refine⟨_,_,rfl,_,_,rfl,rfl,_,rfl,as[i],_,0,_,rfl,rfl,SqL.of (s3 _ _ (s2 _ _ hrow)),XD _ hne,rfl,_,rfl,ZcZ (fun e=>?_) (fun e=>?_)⟩
   ·refine⟨_,rfl,?_⟩;have h0:(M.getD i []).headD 0≠0:=by
     intro z;rw[z]at e;simp at e
    have:=k _ (s2.trans s3);unfold Zlw at this;rw[ZjP hi' h0 hp]at this;exact this
   ·refine⟨s2.trans s3,⟨_,_,rfl⟩,fun j hj=>?_⟩;by_cases c:j<i
    ·exact hp j c
    ·have:j=i:=by omega
     subst this;apply Classical.byContradiction;intro z;apply e;have ne:V.int ((M.getD j []).headD 0)≠V.int 0:=fun q=>z (by injection q);show(!decide (V.int ((M.getD j []).headD 0)=V.int 0))=true;rw[decide_eq_false ne];rfl
  ·rintro σ H2 ⟨s2,⟨z1,z2,rfl⟩,hp⟩;have:=k _ s2;unfold Zlw at this;rw[ZjQ (fun j hj=>hp j (by rw[Qc,hR.len];exact hj))]at this;exact this
abbrev X5:Stmt:=top 11
abbrev ZdC:List Str:=["row","head","divisor"]
theorem ZgS:Zo ZdC ["row","head","divisor"] (Zf X5):=⟨rfl,rfl,rfl,by decide +kernel,rfl,by decide +kernel,by decide +kernel⟩
def Zl4 (K:PySem.W.Frag):Sp:=fun vs H Q _=>∃ (a b:Addr) (m h:List Int) (d:Int),vs=[.ref a,.ref b,.int d]/\H a=some (.lst (m.map V.int))/\H b=some (.lst (h.map V.int))/\m.length=h.length/\1<=m.length/\m.length<=31 /\
 (∀ x∈m,Sm 3900 x)/\(∀ x∈h,Sm 3900 x)/\Sm 3900 d/\d≠0/\∀ p H',Same H H'->H p=none->H' p=some (.lst ((ZdI m h d).map V.int))->Q (.ref p) H'
theorem Zim {m:List Int} (h:∀ x∈m,Sm k x) {j:Nat} (hj:j<m.length):Sm k (m.getD j 0):=by
 rw[Qb,Qa hj];exact h _ (QF hj)
theorem ZfE {m:List Int} (h:∀ x∈m,Sm k x) (hj:1<=m.length):Sm k (m.headD 0):=by
 cases m with
 | nil=>simp at hj
 | cons a r=>exact h _ (by simp)
theorem ZmL {m:List Int} {j:Nat} {i:Int} (e:i=j) (hj:j<m.length):atI (m.map V.int) i=some (V.int (m.getD j 0)):=by
 subst e;refine Y9 (by omega) ?_;rw[Wn,Qd,Qa hj,Qb,Qa hj];rfl
theorem Sm.big {x:Int} (h:Sm k x) (hk:k<=4000):x.natAbs<2 ^ 4000:=h.up hk
theorem ZeL (D:HasDef K mg "lessened" X5 ["row","head","divisor"]) (B:Blt mg):FOk P w K mg base 1 "lessened" ["row","head","divisor"] (Zl4 K):=by
 refine D.ok ZgS (fun vs H Q E h=>?_) (fun f cdv A outer s H vs Q E hr h=>?_)
 ·obtain⟨a,b,m,h,d,rfl,_⟩:=h;rfl
 ·obtain⟨a,b,m,h,d,rfl,ha,hb,hl,h1,h4,hm,hh,hd,hd0,k⟩:=h;refine⟨_,(Zh (Zp (ZH (Zf X5) ZdC ["place"] [0,1,2] rfl (Zdj rfl B.range (Za Zg (Za (Zk Zr rfl B.len ZV (Za (pv 0) Ze)) Ze))) (fun _ _ _ _ _=>Z0 0) (fun _ _ _ _ _=>ZR) (fun _ _ _ _ _=>(Zn Zce (Zn Yz (Zn JC (ZP (Zam K) (pv 2) Zg (fun _ _=>rfl)) (ZP (Zam K) (pv 1) (pv 0) (fun _ _=>rfl))) (Zn JC (ZP (Zam K) (pv 1) Zg (fun _ _=>rfl)) (ZP (Zam K) (pv 2) (pv 0) (fun _ _=>rfl)))) (pv 3)))))),?_⟩;have hne:m≠[]:=fun z=>by rw[z]at h1;simp at h1
  have hne2:h≠[]:=fun z=>by rw[hl,z]at h1;simp at h1
  refine⟨_,rfl,.ref a,_,rfl,.inl ⟨_,SqL.of ha,rfl⟩,1,_,rfl,?_,?_⟩
  ·rw[Qc];refine⟨by decide,by decide,by omega,by omega⟩
  have en:(((m.map V.int).length:Nat)-(1:Int)).toNat=m.length-1:=by rw[Qc];omega
  rw[en];refine YB (m.length-1) (fun i=>.int (1+(i:Int))) (fun i v _=>v= .int ((h.headD 0*m.getD (i+1) 0-m.headD 0*h.getD (i+1) 0).fdiv d)) (Zv (by omega)) (fun _ _ _ _ _ r=>r) Zcw ?_ ?_
  ·intro i H1 Qe hi hs kq;have e1:(1+(i:Int))=((i+1:Nat):Int):=by omega
   have a1:i+1<m.length:=by omega
   have a2:i+1<h.length:=by omega
   refine⟨_,rfl,b,_,0,_,rfl,rfl,SqL.of (hs _ _ hb),XD _ hne2,_,rfl,_,rfl,a,_,_,_,rfl,rfl,SqL.of (hs _ _ ha),ZmL e1 a1,_,_,rfl,rfl,⟨(ZfE hh (by omega)).big (by decide),(Zim hm a1).big (by decide)⟩,?_⟩;refine⟨_,rfl,a,_,0,_,rfl,rfl,SqL.of (hs _ _ ha),XD _ hne,_,rfl,_,rfl,b,_,_,_,rfl,rfl,SqL.of (hs _ _ hb),ZmL e1 a2,_,_,rfl,rfl,⟨(ZfE hm h1).big (by decide),(Zim hh a2).big (by decide)⟩,?_⟩;exact⟨_,_,rfl,rfl,_,rfl,_,_,rfl,rfl,⟨hd0,hd.big (by decide)⟩,kq _ _ (Same.refl _) rfl⟩
  ·intro D1 vs1 H1 hlv hrv hs1 hD1 hDl;refine k D1 H1 hs1 hD1 ?_;rw[hDl,ZbF hlv hrv];unfold ZdI;rw[QC];rfl
theorem ZcR {X:Cx} (K:PySem.W.Frag) (h:X.K=K:=by rfl):CallR X (.type "list") (fun xs H Q=>∃ p ys,xs=[.ref p]/\(SqL K H p ys\/SqT K H p ys)/\∀ l,H l=none->Q (.ref l) (upd H l (.lst ys))):=by subst h;exact Xv
theorem ZlB {α:Type} (l:List α) (p i:Nat) (d:α):(l.take p++l.drop (p+1)).getD i d=if i<p then l.getD i d else l.getD (i+1) d:=by
 rw[Qb,Rm];by_cases hi:i<p
 ·rw[if_pos hi];by_cases hl:i<l.length
  ·rw[if_pos (by rw[QB];omega),Uo hi,Qb]
  ·rw[if_neg (by rw[QB];omega),WQ,Qo (by rw[QB];omega),Qb,Qo (by omega)]
 ·rw[if_neg hi,Qb];by_cases hl:p<=l.length
  ·rw[if_neg (by rw[QB];omega),WQ,QB,UA hl];congr 2;omega
  ·rw[Qo (by omega:l.length<=i+1)];by_cases c:i<(l.take p).length
   ·rw[QB]at c;omega
   ·rw[if_neg c,WQ,Qo (by omega)]
theorem Zn7 {l:List Addr} {a:Addr} (h:(l.take p++l.drop (p+1))[i]?=some a) (hp:p<l.length):l[if i<p then i else i+1]?=some a:=by
 rw[Rm]at h;by_cases hi:i<p
 ·rw[if_pos hi];rw[if_pos (by rw[QB];omega),Uo hi]at h;exact h
 ·rw[if_neg hi];rw[if_neg (by rw[QB];omega),WQ,QB,UA (by omega)]at h;have e:p+1+(i-p)=i+1:=by omega
  rw[e]at h;exact h
theorem RowsL.cut {M:Mat} (h:RowsL H as M) (hp:p<as.length):RowsL H (as.take p++as.drop (p+1)) (M.take p++M.drop (p+1)):=by
 refine⟨?_,fun i a e=>?_⟩
 ·have:=h.len;simp only[Qm,QB,QV];omega
 ·rw[ZlB];have:=h.row _ _ (Zn7 e hp);split at this
  ·rw[if_pos (by assumption)];exact this
  ·rw[if_neg (by assumption)];exact this
theorem FineM.len:∀ {n:Nat} {M:Mat} {s d W:Int},FineM n M s d W->M.length=n
 | 0,_,_,_,_,h=>by rw[h.1];rfl
 | 1,_,_,_,_,⟨x,e,_⟩=>by rw[e];rfl
 | _+2,_,_,_,_,h=>h.1.1
theorem Zn4 {M:Mat} (h:YC M=some p):p<M.length:=by
 unfold YC at h;rw[Wz]at h;exact h.1
theorem FineM.go {M:Mat} {s W:Int} (h:FineM (n+2) M s d W) (e:YC M=some p):FineM (n+1) (JY M p d) (if p % 2=0 then s else -s) ((M.getD p []).headD 0) W:=by
 have:=h.2.2.2.2.2;rw[e]at this;exact this
theorem FineM.stop {M:Mat} {s W:Int} (h:FineM (n+2) M s d W) (e:YC M=none):W=0:=by
 have:=h.2.2.2.2.2;rw[e]at this;exact this
abbrev X3:Stmt:=top 12
abbrev Zci:List Str:=["table","rows","sign","divisor","place","head"]
theorem scWorthOf:Zo Zci ["table"] (Zf X3):=⟨rfl,rfl,rfl,by decide +kernel,rfl,by decide +kernel,by decide +kernel⟩
structure RowsT (H:Hp) (as:List Addr) (M:Mat):Prop where
 len:as.length=M.length
 row:∀ i a,as[i]?=some a->H a=some (.tup ((M.getD i []).map V.int))
theorem RowsT.same {M:Mat} (s:Same H H') (h:RowsT H as M):RowsT H' as M:=⟨h.len,fun i a e=>s _ _ (h.row i a e)⟩
def Zc8:Sp:=fun vs H Q _=>∃ (t:Addr) (ts:List Addr) (M:Mat) (n:Nat) (W:Int),vs=[.ref t]/\H t=some (.tup (ts.map V.ref))/\RowsT H ts M/\FineM n M 1 1 W/\n<=31/\∀ H',Same H H'->Q (.int W) H'
def ZfG (σ:List (Option L2.V)) (H:Hp):Nat:=match σ.getD 1 none with
 | some (L2.V.ref r)=>match H r with
  | some (HO.lst xs)=>xs.length
  | _=>0
 | _=>0
theorem Zdc {t0:Option L2.V} {r:Addr} {xs:List L2.V} {l:List (Option L2.V)} (h:H r=some (.lst xs)):ZfG (t0::some (L2.V.ref r)::l) H=xs.length:=by
 unfold ZfG;simp[h]
theorem ZeH (D:HasDef K mg "worth_of" X3 ["table"]) (B:Blt mg) (g39_:FOk P w K mg base 1 "place_of_head" ["rows"] Zl7) (g30_:FOk P w K mg base 1 "lessened" ["row","head","divisor"] (Zl4 K)):FOk P w K mg base 2 "worth_of" ["table"] Zc8:=by
 refine D.ok scWorthOf (fun vs H Q E h=>?_) (fun f cdv A outer s H vs Q E hr h=>?_)
 ·obtain⟨t,ts,M,n,W,rfl,_⟩:=h;rfl
 ·obtain⟨t,ts,M,n,W,rfl,ht,hT,hF,hn,k⟩:=h;refine⟨_,(Zc (Ja (i:=1) (Zf X3) Zci ["row"] [] scWorthOf.nd rfl (.inl rfl) rfl (Yy (pv 0)) (fun _ _ _ _ _=>Z0 0) (fun _ _ _ _ _=>ZR) (fun _ _ _ _ _=>(ZC (ZcR K) rfl B.list ZbE (Za (pv 0) Ze))))
   (Zc (Zj (i:=2) scWorthOf.nd rfl (.inl rfl) Zg)
   (Zc (Zj (i:=3) scWorthOf.nd rfl (.inr rfl) Zg)
   (Zc (X9 PassesOwn.never (Zs ZgY (Zk Zr rfl B.len ZV (Za (pv 1) Ze)) Zg (Zx _))
    (Zc (Zj (i:=4) scWorthOf.nd rfl (.inl rfl) (Zq g39_ hr (Za (pv 1) Ze)))
   (Zc (Z3 (Zs Zo3 (pv 4) Zdk (Zx _)) (Zh (Zp Zg)) Zy)
   (Zc (Zj (i:=2) scWorthOf.nd rfl (.inl rfl) (ZfW (Zs XH (Zn ZQ (pv 4) Zg) Zg (Zx _)) (pv 2) (Za4 XI (pv 2))))
   (Zc (Zj (i:=5) scWorthOf.nd rfl (.inr rfl) (ZP ZO (pv 1) (pv 4) (fun _ _=>rfl)))
   (Zc (Ja (i:=1) (Zf X3) Zci ["row"] [3,5] scWorthOf.nd rfl (.inl rfl) rfl (ZU (Zn ZaL (ZF ZbT (pv 1) ZT (ZL (pv 4))) (ZF ZbT (pv 1) (ZL (Zn ZS (pv 4) Zg)) ZT))) (fun _ _ _ _ _=>Z0 0) (fun _ _ _ _ _=>ZR) (fun _ _ _ _ _=>(Zq g30_ hr (Za (pv 0) (Za (pv 2) (Za (pv 1) Ze))))))
   (Zh (Zj (i:=3) scWorthOf.nd rfl (.inr rfl) (ZP ZO (pv 5) Zg (fun _ _=>rfl))))))))))
   (Zc (Z3 (Zs XH (Zk Zr rfl B.len ZV (Za (pv 1) Ze)) Zg (Zx _)) (Zh (Zp Zg)) Zy)
   (Zh (Zp (Zn XJ (pv 2) (ZP ZO (ZP ZO (pv 1) Zg (fun _ _=>rfl)) Zg (fun _ _=>rfl)))))))))),?_⟩
  have hlM:=hF.len;have hlt:=hT.len;refine⟨_,rfl,t,rfl,⟨_,SqT.of ht⟩,Zge ts.length (fun i=>(ts.map V.ref).getD i .non) (fun i=>(M.getD i []).map V.int) (Zv (by omega)) (by have:=JV (K:=K) (SqT.of ht);rw[Qc]at this;exact this) ?_ ?_⟩
  ·intro i H1 Qe hi hs kq;rw[YD hi];refine⟨_,rfl,ts[i],_,rfl,.inr (SqT.of (hs _ _ (hT.row i _ (Qa hi)))),fun l hl=>kq l _ (Zb hl) hl Zd⟩
  intro D1 as H1 hla hra hs1 hD1 hDl1;refine Zkm (fun σ H2=>∃ (n:Nat) (M:Mat) (s d:Int) (r:Addr) (as:List Addr) (z4 z5:Option V),σ=[some (.ref t),some (.ref r),some (.int s),some (.int d),z4,z5]/\Same H H2/\H2 r=some (.lst (as.map V.ref))/\RowsL H2 as M/\FineM n M s d W/\n<=31) ZfG
   ⟨n,M,1,1,D1,as,none,none,rfl,hs1,hDl1,⟨by omega,fun i a e=>(hra i a e).2.2⟩,hF,hn⟩ ?_ ?_
  ·rintro σ H2 ⟨n,M,sg,d,r,as,z4,z5,rfl,s2,hr2,hR,hF,hn⟩;have hlM:=hF.len;have hla:=hR.len;refine⟨_,rfl,.ref r,_,rfl,.inl ⟨_,SqL.of hr2,rfl⟩,_,_,rfl,rfl,_,rfl,?_⟩;rw[Qc];refine ZcZ (fun e=>?_) (fun e=>?_)
   ·have e':1<as.length:=by
     have:=of_decide_eq_true e;omega
    obtain⟨m,rfl⟩:∃ m,n=m+2:=⟨n-2,by omega⟩
    obtain⟨sq,sm,smd,d0,sgs,_⟩:=id hF;refine⟨_,rfl,r,as,M,rfl,hr2,hR,fun q mq z=>?_,fun H3 s3=>?_⟩
    ·have:=sq.2 q mq;rw[z]at this;simp at this
    have hr3:=s3 _ _ hr2;have hR3:=hR.same s3;have s13:=s2.trans s3;unfold Zlw;cases hh:YC M with
    | none =>
     refine⟨_,rfl,rfl,_,rfl,Zqt ?_⟩;have:=k _ s13;rw[hF.stop hh]at this;exact this
    | some p =>
     have hp:=Zn4 hh;have hp':p<as.length:=by omega
     have hF2:=hF.go hh;refine⟨_,rfl,rfl,_,rfl,ZpW ?_⟩;have hrow:=hR3.row p as[p] (Qa hp');have mrow:M.getD p []∈M:=by
      rw[Qb,Qa hp];exact QF hp
     have sgn2:∀ (Qq:VK),Qq (.int (if p % 2=0 then sg else -sg)) H3->(tIf (Zm3 (tOp rEq (tOp (rI (fun _ j=>0<j) fun i j=>.int (i % j)) (Zkl 4) (tC (.int 2))) (tC (.int 0)))) (Zkl 2) (tUn (rU fun i=>.int (-i)) (Zkl 2))) [some (.ref t),some (.ref r),some (.int sg),some (.int d),some (.int p),z5] H3 Qq:=fun Qq q=>by
      refine⟨_,rfl,_,_,rfl,rfl,(by show(0:Int)<2;decide),rfl,_,rfl,ZcZ (fun e=>?_) (fun e=>?_)⟩
      ·have:p % 2=0:=by
        have:=of_decide_eq_true e;injection this with this
        omega
       rw[if_pos this]at q;exact⟨_,rfl,q⟩
      ·have:¬ p % 2=0:=fun z=>e (decide_eq_true (by show V.int ((p:Int) % 2)=V.int 0;rw[show((p:Int) % 2)=0 by omega]));rw[if_neg this]at q;exact⟨_,rfl,_,rfl,q⟩
     refine sgn2 _ ?_;refine⟨_,rfl,_,rfl,r,_,_,_,rfl,rfl,SqL.of hr3,Zfe (by rw[Qd,Qa hp'];rfl),?_⟩;refine⟨_,rfl,_,rfl,_,rfl,r,_,rfl,SqL.of hr3,fun p1 hp1=>?_⟩;rw[cut_to (by rw[Qc];omega)];have s4:=Zb (o:=.lst ((as.map V.ref).take p)) hp1;refine⟨_,rfl,_,rfl,_,_,rfl,rfl,_,rfl,r,_,rfl,SqL.of (s4 _ _ hr3),fun p2 hp2=>?_⟩;have e5:((p:Int)+1)=((p+1:Nat):Int):=by omega
     rw[e5,cut_from (by rw[Qc];omega)];have s5:=Zb (o:=.lst ((as.map V.ref).drop (p+1))) hp2;have ecut:(as.map V.ref).take p++(as.map V.ref).drop (p+1)=(as.take p++as.drop (p+1)).map V.ref:=by
      rw[QH,Ux,U8]
     refine⟨p1,p2,_,_,rfl,rfl,s5 _ _ Zd,Zd,?_,fun p3 hp3=>?_⟩
     ·simp only[QB,QV,Qc];exact Zv (by omega)
     rw[ecut];have s6:=Zb (o:=.lst ((as.take p++as.drop (p+1)).map V.ref)) hp3;have s36:=(s4.trans s5).trans s6;have hRc:=(hR3.same s36).cut hp';have hlc:(as.take p++as.drop (p+1)).length=as.length-1:=by
      simp only[Qm,QB,QV];omega
     refine⟨p3,rfl,⟨_,SqL.of Zd⟩,Zge (as.take p++as.drop (p+1)).length (fun i=>((as.take p++as.drop (p+1)).map V.ref).getD i .non) (fun i=>(ZdI ((M.take p++M.drop (p+1)).getD i []) (M.getD p []) d).map V.int) (Zv (by omega)) (by have:=YM (K:=K) (SqL.of (Zd (H:=upd (upd H3 p1 (.lst ((as.map V.ref).take p))) p2 (.lst ((as.map V.ref).drop (p+1)))) (a:=p3) (o:=.lst ((as.take p++as.drop (p+1)).map V.ref))));rw[Qc]at this;exact this) ?_ ?_⟩
     ·intro i H4 Qe hi hs kq;rw[YD hi];have hi':i<(M.take p++M.drop (p+1)).length:=by rw[←hRc.len];exact hi
      have mi:(M.take p++M.drop (p+1)).getD i []∈M:=by
       rw[Qb,Qa hi'];rcases QE.mp (QF hi')with q | q
       ·exact Wr q
       ·exact WT q
      have l1:=sq.2 _ mi;have l2:=sq.2 _ mrow;refine⟨_,rfl,_,rfl,_,rfl,_,as[p],_,_,d,rfl,hs _ _ (hRc.row i _ (Qa hi)),hs _ _ (s36 _ _ hrow),?_,?_,?_,sm _ mi,sm _ mrow,smd,d0,fun q H5 s5 hq hl=>kq q H5 s5 hq hl⟩
      ·rw[l1,l2]
      ·rw[l1];omega
      ·rw[l1];omega
     intro D2 as2 H4 hla2 hra2 hs4 hD2 hDl2;refine⟨_,rfl,as[p],_,0,_,rfl,rfl,SqL.of (hs4 _ _ (s36 _ _ hrow)),XD _ (fun z=>?_),?_⟩
     ·have:=sq.2 _ mrow;rw[z]at this;simp at this
     refine⟨⟨m+1,JY M p d,_,_,D2,as2,_,_,rfl,(s13.trans s36).trans hs4,hDl2,⟨?_,fun i a e=>?_⟩,hF2,by omega⟩,?_⟩
     ·rw[hF2.len,hla2,hlc];omega
     ·have hi2:i<as2.length:=(Qn.mp e).1;rw[(hra2 i a e).2.2];have hi':i<(M.take p++M.drop (p+1)).length:=by rw[←hRc.len];omega
      have:(JY M p d).getD i []=ZdI ((M.take p++M.drop (p+1)).getD i []) (M.getD p []) d:=by
       unfold JY;rw[Qb,Qd,Qa hi',Qb (l:=M.take p++M.drop (p+1)),Qa hi'];rfl
      rw[this]
     ·rw[Zdc hr2];show ZfG (some (.ref t)::some (.ref D2)::_) H4<_;rw[Zdc hDl2,Qc,Qc];omega
   ·have e':¬ 1<as.length:=fun z=>e (decide_eq_true (by omega));refine⟨_,rfl,.ref r,_,rfl,.inl ⟨_,SqL.of hr2,rfl⟩,rfl,_,rfl,?_⟩;rw[Qc];have n2:n=0\/n=1:=by omega
    rcases n2 with rfl | rfl
    ·have:as.length=0:=by omega
     rw[this];refine Zqt ?_;have:=k _ s2;rw[hF.2]at this;exact this
    ·have l1:as.length=1:=by omega
     refine Xa (ZdO (by omega)) ?_;obtain⟨x,e1,e2,hs1⟩:=hF;subst e1;have h0:=hR.row 0 as[0] (Qa (by omega));refine⟨_,rfl,_,rfl,r,_,0,.ref as[0],rfl,rfl,SqL.of hr2,Y9 (by decide) (by rw[Qd];exact congrArg (Option.map V.ref) (Qa (by omega))),as[0],_,0,.int x,rfl,rfl,SqL.of h0,Y9 (by decide) rfl,_,_,rfl,rfl,.inl (by omega),?_⟩;show Q (.int (sg*x)) H2;rw[←e2];exact k _ s2
  ·rintro σ H2 Q1 Q2 himp ⟨v,e,x,n,e2,hl,i,j,e3,e4,b,e5,q⟩;exact⟨v,e,x,n,e2,hl,i,j,e3,e4,b,e5,himp _ _ q⟩
abbrev Zev:Stmt:=top 54
theorem ZkE:Zo ["_law_found"] ["_law_found"] (Zf Zev):=⟨rfl,rfl,rfl,by decide +kernel,rfl,by decide +kernel,by decide +kernel⟩
def Zaq:Sp:=fun vs H Q _=>∃ (x:V) (n:String),vs=[x]/\TyB H x n/\Q (.bl (n == "int")) H
theorem Zg2 (D:HasDef K mg "_law_whole" Zev ["_law_found"]) (B:Blt mg):FOk P w K mg base 1 "_law_whole" ["_law_found"] Zaq:=by
 refine D.ok ZkE (fun vs H Q E h=>?_) (fun f cdv A outer s H vs Q E hr h=>?_)
 ·obtain⟨x,n,rfl,_⟩:=h;rfl
 ·obtain⟨x,n,rfl,ty,k⟩:=h;refine⟨_,Zh (Zp (ZfY (Zk Xw rfl B.isi Zki (Za (pv 0) (Za (ZiW rfl B.int ZpJ) Ze)))
   (ZfV (ZiX (Zk Xw rfl B.isi Zki (Za (pv 0) (Za (ZiW rfl B.bool ZmJ) Ze))))))),?_⟩
  refine⟨_,rfl,x,"int",n,rfl,by decide,ty,_,rfl,?_⟩;refine ZcZ (fun e=>?_) (fun e=>?_)
  ·refine⟨_,rfl,x,"bool",n,rfl,by decide,ty,_,rfl,?_⟩;rw[(Zcz n ty.mem).1 e];exact k
  ·rw[(Zcz n ty.mem).2 e]at k;exact k
theorem Zh1 {k:Nat} {g:Nat->Int}:∀ {n:Nat},(∀ i,i<n->Sm k (g i))->(Xe n g).natAbs<=n*2 ^ k
 | 0,_=>by simp[Xe]
 | n+1,h=>by
  have h1:=Zh1 (n:=n) fun i hi=>h i (by omega);have h2:=h n (by omega);unfold Sm at h2;rw[Xe,RW,Nat.one_mul];omega
theorem ZmF {b:Nat}:∀ {n:Nat} {f:Z7},n<=31->(∀ i j,Sm b (f i j))->Sm (n*(b+5)+1) (det n f)
 | 0,f,_,h=>by
  show(1:Int).natAbs<2 ^ (0*(b+5)+1);rw[Vq];decide
 | n+1,f,hn,h=>by
  rw[det];have h1:∀ i,i<n+1->Sm (b+(n*(b+5)+1)) (Zaf i*f i 0*det n fun r c=>f (rmv i r) (c+1)):=fun i _=>by
   have hs:Sm b (Zaf i*f i 0):=by
    have:=h i 0;unfold Sm Zaf at *;split
    ·rw[Q9];exact this
    ·rw[Ub,Q9,Int.natAbs_neg];exact this
   exact hs.mul (ZmF (n:=n) (by omega) fun r c=>h _ _)
  have h2:=Zh1 h1;unfold Sm;have e:(n+1)*(b+5)+1=(b+(n*(b+5)+1))+5:=by
   rw[RW,Nat.one_mul];omega
  rw[e,Nat.pow_add];have hp:0<2 ^ (b+(n*(b+5)+1)):=Nat.pow_pos (by decide);have h3:(n+1)*2 ^ (b+(n*(b+5)+1))<2 ^ (b+(n*(b+5)+1))*2 ^ 5:=by
   rw[Vn];exact Nat.mul_lt_mul_of_pos_left (by omega) hp
  omega
structure Rel (n:Nat) (R:Mat) (F:Z7):Prop where
 sq:Sq n R
 at_:∀ i j,i<n->j<n->(R.getD i []).getD j 0=F i j
theorem JI {m:List Int}:m.headD 0=m.getD 0 0:=by cases m <;> rfl
theorem ZjS (l:Mat) (p i:Nat):(l.take p++l.drop (p+1)).getD i []=l.getD (rmv p i) []:=by
 unfold rmv;rw[Qb,Rm];by_cases hi:i<p
 ·rw[if_pos hi];by_cases hl:i<l.length
  ·rw[if_pos (by rw[QB];omega),Uo hi,Qb]
  ·rw[if_neg (by rw[QB];omega),WQ,Qo (by rw[QB];omega),Qb,Qo (by omega)]
 ·rw[if_neg hi,Qb];by_cases hl:p<=l.length
  ·rw[if_neg (by rw[QB];omega),WQ,QB,UA hl];congr 2;omega
  ·rw[Qo (by omega:l.length<=i+1)];by_cases c:i<(l.take p).length
   ·rw[QB]at c;omega
   ·rw[if_neg c,WQ,Qo (by omega)]
theorem ZiG {R:Mat} (h:Sq n R) (hi:i<n):R.getD i []∈R:=by
 rw[Qb,Qa (by rw[h.1];exact hi)];exact QF _
theorem Rel.next {M:Z7} {t:Nat} {R:Mat} {F:Z7} (h:Rel (n+2) R F) (g:ZlS M t d F) (hd:d≠0) (hp:p<n+2):Rel (n+1) (JY R p d) (ZaM F d p):=by
 have hl:(R.take p++R.drop (p+1)).length=n+1:=by
  rw[Qm,QB,QV,h.sq.1];omega
 have hrow:∀ i,i<n+1->(JY R p d).getD i []=ZdI (R.getD (rmv p i) []) (R.getD p []) d:=fun i hi=>by
  unfold JY;rw[Qb,Qd,Qa (by rw[hl];exact hi)];have:(R.take p++R.drop (p+1))[i]'(by rw[hl];exact hi)=R.getD (rmv p i) []:=by
   rw[←ZjS,Qb,Qa (by rw[hl];exact hi)];rfl
  rw[Wj,this];rfl
 have hr:∀ i,i<n+1->rmv p i<n+2:=fun i hi=>by unfold rmv;split <;> omega
 have hlen:∀ i,i<n+2->(R.getD i []).length=n+2:=fun i hi=>h.sq.2 _ (ZiG h.sq hi);refine⟨⟨by unfold JY;rw[Qc,hl],fun r hr'=>?_⟩,fun i j hi hj=>?_⟩
 ·unfold JY at hr';obtain⟨q,hq,rfl⟩:=Qj.mp hr';unfold ZdI;rw[Qc,Wh];have:q∈R:=by
   rcases QE.mp hq with z | z
   ·exact Wr z
   ·exact WT z
  rw[h.sq.2 q this];rfl
 ·rw[hrow i hi];unfold ZdI;rw[Qb,Qd,QM (by rw[hlen _ (hr i hi)];omega)];show((R.getD p []).headD 0*(R.getD (rmv p i) []).getD (j+1) 0-(R.getD (rmv p i) []).headD 0*(R.getD p []).getD (j+1) 0).fdiv d=ZaM F d p i j;rw[JI,JI,h.at_ p 0 hp (by omega),h.at_ _ (j+1) (hr i hi) (by omega),h.at_ _ 0 (hr i hi) (by omega),h.at_ p (j+1) hp (by omega),←Zf6 g,RJ _ hd]
theorem Zgv {M:Z7} (hB:∀ (k:Nat) (ρ γ:Nat->Nat),k<=31->Sm 3900 (det k fun i j=>M (ρ i) (γ j))):∀ (m t:Nat) {R:Mat} {F:Z7} {d s X:Int},m+1+t<=31->Rel (m+1) R F->ZlS M t d F->d≠0->Sm 3900 d->(s=1\/s = -1)->det (m+1) F=d ^ m*X->FineM (m+1) R s d (s*X)
 | 0,t,R,F,d,s,X,hm,hR,hG,hd,hds,hs,e=>by
  have l1:=hR.sq.1;match R,l1,hR with
  | [r],_,hR =>
   have l2:=hR.sq.2 r (by simp);match r,l2,hR with
   | [x],_,hR =>
    have ex:x=F 0 0:=hR.at_ 0 0 (by omega) (by omega);have eX:X=F 0 0:=by
     have:det 1 F=F 0 0:=by simp[det,Xe,Zaf]
     rw[this]at e;simpa using e.symm
    exact⟨x,rfl,by rw[eX,ex],hs⟩
 | m+1,t,R,F,d,s,X,hm,hR,hG,hd,hds,hs,e=>by
  have ent:∀ i j,Sm 3900 (F i j):=fun i j=>by
   obtain⟨ρ',γ',e1⟩:=hG 0 (fun _=>i) (fun _=>j);have e2:det 1 (fun _ _=>F i j)=F i j:=by simp[det,Xe,Zaf]
   have e3:F i j=det (0+1+t) fun a b=>M (ρ' a) (γ' b):=by
    rw[←e2];simpa using e1
   rw[e3];exact hB _ _ _ (by omega)
  have inR:∀ r∈R,∀ x∈r,Sm 3900 x:=fun r hr x hx=>by
   obtain⟨i,hi,rfl⟩:=Uu hr;obtain⟨j,hj,rfl⟩:=Uu hx;have hi':i<m+2:=by rw[←hR.sq.1];exact hi
   have hj':j<m+2:=by rw[←hR.sq.2 _ hr];exact hj
   have:=hR.at_ i j hi' hj';rw[Qb (l:=R),Qa hi]at this;have e4:R[i].getD j 0=R[i][j]:=by rw[Qb,Qa hj];rfl
   have e5:R[i][j]=F i j:=by rw[←e4];exact this
   rw[e5];exact ent i j
  have hd0:∀ i,i<m+2->(R.getD i []).headD 0=F i 0:=fun i hi=>by rw[JI];exact hR.at_ i 0 hi (by omega)
  refine⟨hR.sq,inR,hds,hd,hs,?_⟩;cases hh:YC R with
  | none =>
   have z:∀ i,i<m+2->F i 0=0:=fun i hi=>by
    rw[←hd0 i hi];unfold YC at hh;rw[UX]at hh;have:=hh _ (ZiG hR.sq hi);exact Classical.byContradiction fun q=>by rw[decide_eq_true q]at this;cases this
   have e0:det (m+2) F=0:=ZgC z;rw[e0]at e;have:X=0:=by
    rcases Int.mul_eq_zero.mp e.symm with q | q
    ·exact(VM hd q).elim
    ·exact q
   show s*X=0;rw[this,WS]
  | some p =>
   have hp:p<m+2:=by
    unfold YC at hh;rw[Wz]at hh;rw[←hR.sq.1];exact hh.1
   have hne:F p 0≠0:=by
    rw[←hd0 p hp];unfold YC at hh;rw[Wz]at hh;obtain⟨h1,h2,_⟩:=hh;have e1:R.getD p []=R[p]:=by rw[Qb,Qa h1];rfl
    rw[e1];exact of_decide_eq_true h2
   have ih:=Zgv hB m (t+1) (R:=JY R p d) (F:=ZaM F d p) (d:=F p 0) (s:=if p % 2=0 then s else -s) (X:=Zaf p*X) (by omega) (hR.next hG hd hp) (ZjR hG hd hne) hne (ent p 0) (by split <;> omega) (Zjf hG hd hne hp e);have ew:(if p % 2=0 then s else -s)*(Zaf p*X)=s*X:=by
    unfold Zaf;split
    ·rw[Q9]
    ·rw[Ub,Ub,Q9,VF,Int.neg_neg]
   rw[ew]at ih;show FineM (m+1) (JY R p d) (if p % 2=0 then s else -s) ((R.getD p []).headD 0) (s*X);rw[hd0 p hp];exact ih
def Zms (R:Mat):Z7:=fun i j=>(R.getD i []).getD j 0
theorem Zod {R:Mat} (hn:n<=31) (hq:Sq n R) (hb:SmM 120 R):FineM n R 1 1 (det n (Zms R)):=by
 have ent:∀ i j,Sm 120 (Zms R i j):=fun i j=>by
  unfold Zms;by_cases hi:i<R.length
  ·rw[Qb (l:=R),Qa hi];show Sm 120 (R[i].getD j 0);by_cases hj:j<R[i].length
   ·rw[Qb,Qa hj];exact hb _ (QF hi) _ (QF hj)
   ·rw[Qb,Qo (by omega)];show(0:Int).natAbs<2 ^ 120;decide
  ·rw[Qb (l:=R),Qo (by omega)];show(0:Int).natAbs<2 ^ 120;decide
 cases n with
 | zero =>
  refine⟨QU.mp hq.1,rfl⟩
 | succ m =>
  have h:=Zgv (M:=Zms R) (fun k ρ γ hk=>(ZmF (b:=120) (by omega) fun i j=>ent _ _).up (by omega)) m 0 (R:=R) (F:=Zms R) (d:=1) (s:=1) (X:=det (m+1) (Zms R)) (by omega) ⟨hq,fun i j _ _=>rfl⟩ (Zhj _) (by decide) (Sm.one _ (by decide)) (.inl rfl) (by rw[Int.one_pow,Q9]);rw[Q9]at h;exact h
def XT:Nat->(Nat->Int)->Int
 | 0,_=>1
 | n+1,g=>XT n g*g n
theorem ZaE {g h:Nat->Int}:∀ {n:Nat},(∀ i,i<n->g i=h i)->XT n g=XT n h
 | 0,_=>rfl
 | n+1,e=>by
  rw[XT,XT,ZaE (n:=n) fun i hi=>e i (by omega),e n (by omega)]
theorem Zbn (g:Nat->Int):∀ n:Nat,XT (n+1) g=g 0*XT n fun i=>g (i+1)
 | 0=>by simp[XT]
 | n+1=>by
  rw[XT,Zbn g n,XT,Q6]
theorem Zdh:∀ n:Nat,XT n (fun _=>1)=1
 | 0=>rfl
 | n+1=>by rw[XT,Zdh n];rfl
theorem Zd1:∀ {n:Nat} {B:Z7},(∀ k j,j<k->B k j=0)->det n B=XT n fun i=>B i i
 | 0,_,_=>rfl
 | n+1,B,h=>by
  rw[ZcM fun i h1 _=>h i 0 h1,Zd1 (n:=n) (B:=fun r c=>B (r+1) (c+1)) fun k j hj=>h _ _ (by omega),Zbn]
theorem Zba {X:Cx} (K:PySem.W.Frag) (h:X.K=K:=by rfl):CallR X (.type "tuple") (fun xs H Q=>∃ p ys,xs=[.ref p]/\((SqL K H p ys/\∀ l,H l=none->Q (.ref l) (upd H l (.tup ys)))\/(SqT K H p ys/\Q (.ref p) H))):=by subst h;exact ZE
theorem ZiJ {H':Hp}:∀ (vs:List V) (f:Nat->List V),(∀ (i:Nat) v,vs[i]?=some v->∃ a,v=V.ref a/\H' a=some (.tup (f i)))->∃ ts:List Addr,vs=ts.map V.ref/\∀ (i:Nat) a,ts[i]?=some a->H' a=some (.tup (f i))
 | [],_,_=>⟨[],rfl,fun i a e=>by simp at e⟩
 | v::vs,f,h=>by
  obtain⟨ts,e,ht⟩:=ZiJ vs (fun i=>f (i+1)) fun i u hu=>h (i+1) u (by simpa using hu);obtain⟨a,ea,ha⟩:=h 0 v rfl;refine⟨a::ts,by rw[e,ea];rfl,fun i b eb=>?_⟩;cases i with
  | zero=>simp at eb;subst eb;exact ha
  | succ i=>exact ht i b (by simpa using eb)
abbrev Pr:=Str×Int
def PairAt (H:Hp) (v:V) (p:Pr):Prop:=∃ b,v= .ref b/\H b=some (.tup [.str p.1,.int p.2])
def HpAt (H:Hp) (v:V) (hp:List Pr):Prop:=∃ a xs,v= .ref a/\H a=some (.tup xs)/\xs.length=hp.length/\∀ i p,hp[i]?=some p->PairAt H (xs.getD i .non) p
theorem PairAt.same (s:TSame H H') {v:V} {p:Pr} (h:PairAt H v p):PairAt H' v p:=by
 obtain⟨b,e,q⟩:=h;exact⟨b,e,s _ _ q⟩
theorem HpAt.same (s:TSame H H') {v:V} {hp:List Pr} (h:HpAt H v hp):HpAt H' v hp:=by
 obtain⟨a,xs,e,q,l,r⟩:=h;exact⟨a,xs,e,s _ _ q,l,fun i p z=>(r i p z).same s⟩
theorem Zkt {ss:List Str} (h:i<ss.length):(ss.map V.str).getD i .non= .str ss[i]:=by
 rw[Qb,Qd,Qa h];rfl
end Sh
namespace L2
open PySem PySem.Spec PyProof.Rows
theorem Zhs {X:Cx} (hc:X.calm=true):CallR X (.type "list") (fun xs H Q=>∃ (a:Addr) (kvs:List (Key×V)),xs=[.ref a]/\H a=some (.dK kvs)/\∀ p,H p=none->Q (.ref p) (upd H p (.lst (kvs.map fun kv=>kV kv.1)))):=by
 intro pins s σ H xs us Q I r h;obtain⟨a,kvs,rfl,ha,q⟩:=h;obtain⟨u,rfl,ru⟩:=Xd r;cases ru;obtain⟨hz,lo,vs,kv,dd⟩:=ZcI I.hok ha;obtain⟨ep,hat⟩:=dd.dictAt;have hlen:kvs.length=vs.length:=kv.length;refine PySem.W.kdl_call (PySem.W.kdl_dict (knd:=Zt X.prog X.w) (kvs:=vs) (ep:=ep) lo) (I.ok.hd hc) hat (by omega) fun h' tk acc' c' hk hS hacc=>?_;have hf:H s.heap.objs.size=none:=I.hok.fresh (Qk _);refine⟨.ref s.heap.objs.size,_,I.laid (t':=tk) (o:=.lst (kvs.map fun kv=>kV kv.1)) hk (Qk _) ?_,rfl,q _ hf⟩;refine⟨by rw[Qc];exact hz,acc'.toList,c',?_,by rw[hS,Rk]⟩;have hsz:acc'.toList.length=kvs.length:=by rw[QG,hlen];exact hacc.1
 have key:∀ (ws:List V) (us:List Value),ws.length=us.length->(∀ (i:Nat) (w:V) (u:Value),ws[i]?=some w->us[i]?=some u->RelV w u)->Vals ws us:=by
  intro ws;induction ws with
  | nil =>
   intro us hl _;have:us=[]:=QU.mp hl.symm;subst this;exact .nil
  | cons w ws ih =>
   intro us hl h;cases us with
   | nil=>cases hl
   | cons u us=>exact .cons (h 0 w u rfl rfl) (ih us (by simpa using hl) fun i w' u' e1 e2=>h (i+1) w' u' e1 e2)
 refine key _ _ (by rw[Qc,hsz]) fun i w u e1 e2=>?_;obtain⟨k,x,hx,hk⟩:=hacc.2 i u (by rw[←Wb];exact e2);have ek:=congrArg (fun l:List Key=>l[i]?) kv.keys;simp only[Qd]at ek;rw[hx]at ek;rw[Qd]at e1;cases ev:kvs[i]? with
 | none=>rw[ev]at e1;cases e1
 | some p =>
  rw[ev]at ek e1;have ek':p.1=k:=Option.some.inj ek;have e1':kV p.1=w:=Option.some.inj e1;subst e1';subst ek';rcases keyIs_shape hk with ⟨j,t,e3,e4⟩ | ⟨y,t,e3,e4⟩
  ·rw[e3,e4];exact⟨t,rfl⟩
  ·rw[e3,e4];exact⟨t,rfl⟩
end L2
namespace Sh
open PySem L2 PyProof.Rows
seal L2.PE L2.PS L2.PSs L2.PT L2.PW L2.PA L2.PI L2.PG L2.PGs L2.PO L2.PC L2.PCs L2.OpR L2.UnR L2.CallR L2.MtR L2.IxR L2.SlR
variable {P:Program} {w:World} {K:PySem.W.Frag} {mg:Str->Option Value} {base:Heap}
variable {H:Hp} {es:Es} {ks ss:List Str} {x:Str}
abbrev ZfF:Stmt:=top 55
def cD (ks ps:List Str):List (Key×V):=ks.map fun x=>((Sum.inr x:Key),V.int (ps.count x))
structure Cnt (ks ps:List Str):Prop where
 nd:ks.Nodup
 mem:∀ x,x∈ks↔x∈ps
theorem ZgD {ps:List Str} (h:Cnt ks ps) (y:Str):∃ ks',Cnt ks' (ps++[y])/\X8 (cD ks ps) (Sum.inr y) (.int ((ps.count y:Int)+1))=cD ks' (ps++[y])/\ks'.length<=ks.length+1:=by
 have hc:∀ x,(ps++[y]).count x=ps.count x+if y=x then 1 else 0:=fun x=>by
  rw[List.count_append,List.count_singleton];simp[beq_iff_eq]
 by_cases m:y∈ks
 ·refine⟨ks,⟨h.nd,fun x=>?_⟩,?_,WH _⟩
  ·rw[h.mem x,QE,Qp];exact⟨.inl,fun q=>q.elim id fun e=>by rw[e];exact(h.mem y).mp m⟩
  ·unfold cD;rw[Jz _ _ _ _ m];apply Qu;intro x _;rw[hc x];by_cases e:x=y
   ·subst e;simp
   ·have e':¬ y=x:=fun q=>e q.symm;simp[e,e']
 ·have hn:y∉ps:=fun q=>m ((h.mem y).mpr q);refine⟨ks++[y],⟨Zjg h.nd m,fun x=>?_⟩,?_,by rw[Qm];exact Qk _⟩
  ·rw[QE,QE,h.mem x]
  ·unfold cD;rw[Zai _ (by rw[Y1,if_neg m]),QH];congr 1
   ·apply Qu;intro x hx;rw[hc x];have e':¬ y=x:=fun q=>m (q▸hx);simp[e']
   ·rw[Wu,hc y];simp
theorem Yh {α:Type} [DecidableEq α]:∀ {l B:List α},l.Nodup->(∀ x∈l,x∈B)->l.length<=B.length
 | [],B,_,_=>QO _
 | x::l,B,nd,h=>by
  have h1:=Q7.mp nd;have h2:=Yh (l:=l) (B:=B.erase x) h1.2 fun y hy=>by
   have ne:y≠x:=fun q=>h1.1 (q▸hy);exact(WJ ne).mpr (h y (Ql _ hy))
  have h3:=QW (h x Qi);have h4:0<B.length:=Uc (h x Qi);rw[QL];omega
theorem Zdd:∀ (r:List Str) (p:Str),risingS p r=true->∀ x∈r,¬ x.cps.toList<p.cps.toList
 | [],_,_,x,hx=>by cases hx
 | y::r,p,h,x,hx=>by
  have h':(!Spec.ltCps y.cps.toList p.cps.toList&&risingS y r)=true:=h;rw[Wl,ltCps_eq]at h';have h1:¬ y.cps.toList<p.cps.toList:=by
   have:=h'.1;simpa using this
  rcases QA.mp hx with e | e
  ·rw[e];exact h1
  ·have h2:=Zdd r y h'.2 x e;intro q;exact h1 (Vg (WP.mp h2) q)
theorem Zat:∀ (l:List Str),sortedS l=true->l.Nodup->(l.map fun x=>x.cps.toList).Pairwise (· < ·)
 | [],_,_=>List.Pairwise.nil
 | p::r,h,nd=>by
  have h1:=Zdd r p h;have nd':=Q7.mp nd;rw[Qh,Wp];refine⟨fun z hz=>?_,?_⟩
  ·obtain⟨x,hx,rfl⟩:=Qj.mp hz;have h2:=h1 x hx;by_cases q:p.cps.toList<x.cps.toList
   ·exact q
   ·have e:=Ra (WP.mp h2) (WP.mp q);have:p=x:=ZJ e;exact absurd (this▸hx) nd'.1
  ·refine Zat r ?_ nd'.2;cases r with
   | nil=>rfl
   | cons y q =>
    have h':(!Spec.ltCps y.cps.toList p.cps.toList&&risingS y q)=true:=h;exact(Bool.and_eq_true_iff.mp h').2
structure Zz (ps:List Str) (hp:List Pr):Prop where
 srt:(hp.map fun p=>p.1.cps.toList).Pairwise (· < ·)
 mem:∀ x,x∈hp.map (·.1)↔x∈ps
 cnt:∀ p∈hp,p.2=ps.count p.1
def ZfC (K:PySem.W.Frag):Sp:=fun vs H Q _=>∃ (a:Addr) (ps B:List Str),vs=[.ref a]/\SqL K H a (ps.map V.str)/\ps.length<=1000/\B.length<=63/\(∀ x∈ps,x∈B)/\∀ v H' hp,Same H H'->HpAt H' v hp->Zz ps hp->Q v H'
theorem scHeap:Zo ["_law_pieces","_law_found","_law_piece"] ["_law_pieces"] (Zf ZfF):=⟨rfl,rfl,rfl,by decide +kernel,rfl,by decide +kernel,by decide +kernel⟩
theorem Zja (D:HasDef K mg "_law_heap" ZfF ["_law_pieces"]) (B:Blt mg):FOk P w K mg base 1 "_law_heap" ["_law_pieces"] (ZfC K):=by
 refine D.ok scHeap (fun vs H Q E h=>?_) (fun f cdv A outer s H vs Q E hr h=>?_)
 ·obtain⟨a,ps,Bd,rfl,_⟩:=h;rfl
 ·obtain⟨a,ps,Bd,rfl,ha,hl,hB,hsub,k⟩:=h;have hu:=Ze0 hr;refine⟨_,Zc (Zj (i:=1) scHeap.nd rfl (.inr rfl) Jb)
   (Zc (ZY PassesOwn.never rfl (ZU (pv 0)) (ZB (i:=2) scHeap.nd rfl (.inl rfl))
    (Zh (XS hu (pv 1) (pv 2) (Zn ZS (Zak hu (pv 1) (pv 2) Zg ⟨rfl,rfl,rfl,rfl⟩) Zg) rfl)))
   (Zh (Zp (ZC ZE rfl B.tuple YN (Za (ZH (Zf ZfF) ["_law_pieces","_law_found","_law_piece"] ["_law_piece"] [1] rfl
    (ZU (Zk Zd9 rfl B.sorted Yq (Za (ZC (Zhs rfl) rfl B.list ZbE (Za (pv 1) Ze)) Ze))) (fun _ _ _ _ _=>Z0 0) (fun _ _ _ _ _=>ZR)
    (fun _ _ _ _ _=>YW (Za (pv 0) (Za (Zcb hu (pv 1) (pv 0) (fun _ _=>rfl)) Ze)))) Ze))))),?_⟩
  intro d hd;have hs0:Same H (upd H d (.dK [])):=Zb hd;refine⟨_,rfl,a,rfl,⟨_,hs0.seq ha⟩,YK (K:=K) (a:=a) (xs:=ps.map V.str) (fun i σ H2=>(∃ z:Option V,σ=[some (.ref a),some (.ref d),z])/\Same H H2/\∃ ks,Cnt ks (ps.take i)/\ks.length<=i/\H2 d=some (.dK (cD ks (ps.take i))))
   ⟨⟨none,rfl⟩,hs0,[],⟨WZ,fun x=>Iff.rfl⟩,Qk _,Zd⟩ (fun i σ H2 _ ⟨_,s2,_⟩=>s2.seq ha) ?_ ?_⟩
  ·rintro i x σ H2 hi ⟨⟨z,rfl⟩,s2,ks,hk,hkl,hdd⟩;have hi':i<ps.length:=by
    have:=(Qn.mp hi).1;rw[Qc]at this;exact this
   rw[Qd,Qa hi']at hi;have ex:x=V.str ps[i]:=(Option.some.inj hi).symm;subst ex;have hg:(XF (cD ks (ps.take i)) (Sum.inr ps[i]:Key)).getD (.int 0)= .int ((ps.take i).count ps[i]):=by
    unfold cD;rw[Y1];split
    ·rfl
    ·rename_i m;have:ps[i]∉ps.take i:=fun q=>m ((hk.mem _).mpr q);rw[WV this];rfl
   obtain⟨ks',hk',ep,hl'⟩:=ZgD hk ps[i];rw[←Q5 hi']at hk' ep;refine⟨_,rfl,d,rfl,.inl ⟨_,.inl hdd⟩,_,rfl,_,DGet.kk (k:=Sum.inr ps[i]) hdd,_,_,hg,rfl,_,rfl,_,rfl,d,_,rfl,DPut.kk (k:=Sum.inr ps[i]) hdd ?_,?_⟩
   ·unfold cD;rw[Qc];exact ZM (by omega)
   ·refine⟨⟨_,rfl⟩,fun b o e=>?_,ks',hk',by omega,?_⟩
    ·rw[Zi (Zm e hd)];exact s2 b o e
    ·rw[Zd];exact congrArg (fun l=>some (HO.dK l)) ep
  ·rintro σ H2 ⟨⟨z,rfl⟩,s2,ks,hk,hkl,hdd⟩;rw[QJ (by rw[Qc];exact Qk _)]at hk hdd;have hk63:ks.length<=63:=QY (Yh hk.nd fun x hx=>hsub x ((hk.mem x).mp hx)) hB;refine⟨_,rfl,d,_,rfl,hdd,fun p1 hp1=>?_⟩;have e1:(cD ks ps).map (fun kv=>kV kv.1)=ks.map V.str:=by
    unfold cD;rw[QC];rfl
   refine⟨p1,ks,rfl,SqL.of (by rw[Zd,e1]),by omega,fun p2 ss hp2 hperm hsort=>?_⟩;have hsA:Same H2 (upd (upd H2 p1 (.lst ((cD ks ps).map fun kv=>kV kv.1))) p2 (.lst (ss.map V.str))):=(Zb hp1).trans (Zb hp2);have hsl:ss.length=ks.length:=hperm.length_eq;refine⟨p2,rfl,⟨_,SqL.of Zd⟩,YB _ (fun i=>(ss.map V.str).getD i .non) (fun i v H=>∀ x,ss[i]?=some x->PairAt H v (x,(ps.count x:Int))) (by rw[Qc];exact Zv (by omega)) (fun i v H H' ts r x e=>(r x e).same ts) (YM (SqL.of Zd)) ?_ ?_⟩
   ·intro i H3 Qe hi hs kq;have hi':i<ss.length:=by rw[Qc]at hi;exact hi
    have hd3:H3 d=some (.dK (cD ks ps)):=hs _ _ (hsA _ _ hdd);have hmem:ss[i]∈ks:=hperm.mem_iff.mp (QF hi');rw[Zkt hi'];have hg:DGet H3 d (.str ss[i]) (some (.int (ps.count ss[i]))):=by
     have:=DGet.kk (k:=Sum.inr ss[i]) hd3;unfold cD at this;rw[Y1,if_pos hmem]at this;exact this
    refine⟨_,rfl,_,rfl,_,rfl,d,_,rfl,hg,(show 2<=sizeLine by rw[sizeLine_eq];decide),fun t ht=>kq _ _ (Zb ht) ?_⟩;intro x e;rw[Qa hi']at e;cases e;exact⟨t,rfl,Zd⟩
   ·intro D1 vs1 H3 hlv1 hr1 hs3 hD1 hDl1;rw[Qc]at hlv1;refine⟨D1,vs1,rfl,.inl ⟨SqL.of hDl1,fun l hl0=>?_⟩⟩;refine k (.ref l) _ (ss.map fun x=>(x,(ps.count x:Int))) (((s2.trans hsA).trans hs3).trans (Zb hl0)) ?_ ⟨?_,?_,?_⟩
    ·refine⟨l,vs1,rfl,Zd,by rw[Qc];exact hlv1,fun i p e=>?_⟩;rw[Qd]at e;cases ex:ss[i]? with
     | none=>rw[ex]at e;cases e
     | some x =>
      rw[ex]at e;cases e;have hi:i<vs1.length:=by
       have:=(Qn.mp ex).1;omega
      rw[Qb,Qa hi];exact(hr1 i _ (Qa hi) x ex).same (Zb hl0).tup
    ·rw[QC];exact Zat ss hsort (hperm.nodup_iff.mpr hk.nd)
    ·intro x;rw[QC];have:ss.map ((·.1) ∘ fun x=>(x,(ps.count x:Int)))=ss:=by
      conv=>rhs;rw[←U5 ss]
      exact Qu fun _ _=>rfl
     rw[this,hperm.mem_iff,hk.mem]
    ·intro p hp;obtain⟨x,_,rfl⟩:=Qj.mp hp;rfl
theorem ZZ {z:List Nat} (h:z.length<=1000):(tx z).length<=sizeLine:=by rw[Zw];exact Zv (by omega)
section
variable {P:Program} {w:World} {K:PySem.W.Frag} {mg:Str->Option Value} {base:Heap} {S C A1 A2 A3 A4 A5 A6 A7 A8:Addr}
def Cd (z:List Nat):Prop:=∀ c∈z,c<1000
end
theorem Zad (h:1<=x.length):Txt.slice x none (some (-1))=bg x:=by
 apply ZJ;rw[eq_of_beq (slice_closes_to_neg (x:=x) (j:=-1) (k:=-1+x.length) (by decide) (by omega) rfl)];unfold bg;rw[ZN,UJ,ZD];simp;congr 1;omega
theorem ZbR (h:1<=x.length):Txt.slice x (some 1) none=en x:=by
 apply ZJ;rw[Xc (by decide) (by omega)];unfold en;rw[ZN];rfl
def PA (H:Hp) (vs:List V) (es:Es):Prop:=vs.length=es.length/\∀ (i:Nat) (e:Str×Int),es[i]?=some e->∃ b,vs[i]?=some (.ref b)/\H b=some (.tup [.str e.1,.int e.2])
theorem PA.same {H':Hp} {vs:List V} (h:PA H vs es) (s:TSame H H'):PA H' vs es:=⟨h.1,fun i e q=>by
 obtain⟨b,e1,e2⟩:=h.2 i e q;exact⟨b,e1,s _ _ e2⟩⟩
def HeapV (H:Hp) (v:V) (es:Es):Prop:=∃ q vs,v= .ref q/\H q=some (.tup vs)/\PA H vs es
theorem HeapV.same {H':Hp} {v:V} (h:HeapV H v es) (s:Same H H'):HeapV H' v es:=by
 obtain⟨q,vs,e,e1,e2⟩:=h;exact⟨q,vs,e,s _ _ e1,e2.same s.tup⟩
structure Jo (es:Es):Prop where
 few:es.length<=31
 many:∀ e∈es,0<=e.2/\e.2<=1000
 long:∀ e∈es,1<=e.1.length/\e.1.length<=1000
structure Pts (es:Es) (ks:List Str):Prop where
 nd:ks.Nodup
 mem:∀ P,P∈ks↔∃ e∈es,bg e.1=P\/en e.1=P
 len:ks.length<=2*es.length
theorem Pts.nil:Pts [] []:=⟨WZ,fun P=>by simp,Qk _⟩
def Jq (ks:List Str) (x:Str):List Str:=if x∈ks then ks else ks++[x]
theorem Zkk (h:ks.Nodup):(Jq ks x).Nodup:=by
 unfold Jq;split
 ·exact h
 ·rename_i c;exact WL.mpr ⟨h,by simp,fun a ha b hb e=>by rw[Qp.mp hb]at e;subst e;exact c ha⟩
theorem ZcV {y:Str}:y∈Jq ks x↔y∈ks\/y=x:=by
 unfold Jq;split
 ·rename_i c;exact⟨.inl,fun h=>h.elim id fun e=>e▸c⟩
 ·simp
theorem Zao (ks:List Str) (x:Str):(Jq ks x).length<=ks.length+1:=by
 unfold Jq;split <;> simp
theorem Pts.step (h:Pts es ks) (e:Str×Int):Pts (es++[e]) (Jq (Jq ks (bg e.1)) (en e.1)) where
 nd:=Zkk (Zkk h.nd)
 mem:=fun P=>by
  rw[ZcV,ZcV,h.mem];constructor
  ·rintro((⟨x,hx,q⟩ | q) | q)
   ·exact⟨x,Q0 _ hx,q⟩
   ·exact⟨e,by simp,.inl q.symm⟩
   ·exact⟨e,by simp,.inr q.symm⟩
  ·rintro⟨x,hx,q⟩;rcases QE.mp hx with z | z
   ·exact .inl (.inl ⟨x,z,q⟩)
   ·rw[Qp.mp z]at q;rcases q with q | q
    ·exact .inl (.inr q.symm)
    ·exact .inr q.symm
 len:=by
  have h1:=Zao (Jq ks (bg e.1)) (en e.1);have h2:=Zao ks (bg e.1);have:=h.len;rw[Qm,QK];omega
theorem Pts.zero (h:Pts es ks) {P:Str} (hP:P∉ks):mo es P=0:=ZeU fun e he=>⟨fun q=>hP ((h.mem P).mpr ⟨e,he,.inl q⟩),fun q=>hP ((h.mem P).mpr ⟨e,he,.inr q⟩)⟩
theorem ZmB {g:Str->Int} {y:Str} (h0:y∉ks->g y=0):(XF (gD ks g) (Sum.inr y:Key)).getD (.int 0)= .int (g y):=by
 rw[Zbv];split
 ·rfl
 ·rename_i c;rw[h0 c];rfl
theorem Zoe {p:Str->Bool}:ss.filter p=((Qx ss.length).filter fun i=>p (ss.getD i "")).map fun i=>ss.getD i "":=by
 have e:ss=(Qx ss.length).map fun i=>ss.getD i "":=by
  apply QT;intro i;rw[Qd];by_cases hi:i<ss.length
  ·rw[QM hi,Wj,Qb,Qa hi];rfl
  ·rw[Qo (by omega),Qo (by simp;omega)];rfl
 conv=>lhs;rw[e]
 rw[UB];rfl
def ZgV (x:Str) (n:Int) (v:V) (H:Hp):Prop:=∃ b,v= .ref b/\H b=some (.tup [.str x,.int n])
theorem ZoX {vs:List V} {p:Str->Bool} {f:Str->Int} (hl:vs.length=((Qx ss.length).filter fun i=>p (ss.getD i "")).length)
  (hR:∀ (j i:Nat) (v:V),((Qx ss.length).filter fun i=>p (ss.getD i ""))[j]?=some i->vs[j]?=some v->ZgV (ss.getD i "") (f (ss.getD i "")) v H):PA H vs ((ss.filter p).map fun x=>(x,f x)):=by
 rw[Zoe];refine⟨by rw[Qc,Qc,hl],fun j e he=>?_⟩;rw[Qd,Qd]at he;cases hj:((Qx ss.length).filter fun i=>p (ss.getD i ""))[j]? with
 | none=>rw[hj]at he;cases he
 | some i =>
  rw[hj]at he;cases he;have hjv:j<vs.length:=by rw[hl];exact(Qn.mp hj).1
  obtain⟨b,e1,e2⟩:=hR j i vs[j] hj (Qa hjv);exact⟨b,by rw[Qa hjv,e1],e2⟩
structure SPts (es:Es) (ss:List Str):Prop where
 srt:(ss.map fun x=>x.cps.toList).Pairwise (· < ·)
 pts:Pts es ss
theorem SPts.of (h:Pts es ks) (p:ss.Perm ks) (s:(ss.map fun x=>x.cps.toList).Pairwise (· < ·)):SPts es ss :=
 ⟨s,p.nodup_iff.mpr h.nd,fun P=>by rw[p.mem_iff,h.mem],by rw[p.length_eq];exact h.len⟩
theorem Z2 (h:x.length<=1000):x.length<=sizeLine:=Zv (by omega)
abbrev Zb5:Stmt:=top 1
abbrev Zle:List Str:=["piece"]
theorem ZiC:Zo Zle ["piece"] (Zf Zb5):=⟨rfl,rfl,rfl,by decide +kernel,rfl,by decide +kernel,by decide +kernel⟩
def ZbP:Sp:=fun vs H Q _=>∃ x:Str,vs=[.str x]/\1<=x.length/\x.length<=1000/\Q (.str (bg x)) H
theorem ZeR (D:HasDef K mg "begin_of" Zb5 ["piece"]):FOk P w K mg base 1 "begin_of" ["piece"] ZbP:=by
 refine D.ok ZiC (fun vs H Q E h=>?_) (fun f cdv A outer s H vs Q E hr h=>?_)
 ·obtain⟨x,rfl,_⟩:=h;rfl
 ·obtain⟨x,rfl,h1,h2,k⟩:=h;refine⟨_,(Zh (Zp (ZF Ym (pv 0) ZT (ZL (Za4 XI Zg))))),?_⟩;refine⟨_,rfl,_,rfl,_,rfl,_,rfl,Z2 h2,?_⟩;rw[←Zad h1]at k;exact k
abbrev ZiF:Stmt:=top 2
abbrev Zpc:List Str:=["piece"]
theorem Zni:Zo Zpc ["piece"] (Zf ZiF):=⟨rfl,rfl,rfl,by decide +kernel,rfl,by decide +kernel,by decide +kernel⟩
def Zeq:Sp:=fun vs H Q _=>∃ x:Str,vs=[.str x]/\1<=x.length/\x.length<=1000/\Q (.str (en x)) H
theorem Zjc (D:HasDef K mg "end_of" ZiF ["piece"]):FOk P w K mg base 1 "end_of" ["piece"] Zeq:=by
 refine D.ok Zni (fun vs H Q E h=>?_) (fun f cdv A outer s H vs Q E hr h=>?_)
 ·obtain⟨x,rfl,_⟩:=h;rfl
 ·obtain⟨x,rfl,h1,h2,k⟩:=h;refine⟨_,(Zh (Zp (ZF Ym (pv 0) (ZL Zg) ZT))),?_⟩;refine⟨_,rfl,_,rfl,_,rfl,Z2 h2,?_⟩;rw[←ZbR h1]at k;exact k
theorem Zeo {l m:List Str} (hl:(l.map fun x=>x.cps.toList).Pairwise (· < ·)) (hm:(m.map fun x=>x.cps.toList).Pairwise (· < ·)) (h:∀ x,x∈l↔x∈m):l=m:=by
 have e:=Ys hl hm fun c=>by
  rw[Qj,Qj];exact⟨fun⟨x,hx,q⟩=>⟨x,(h x).mp hx,q⟩,fun⟨x,hx,q⟩=>⟨x,(h x).mpr hx,q⟩⟩
 have key:∀ (l m:List Str),(l.map fun x=>x.cps.toList)=(m.map fun x=>x.cps.toList)->l=m:=by
  intro l;induction l with
  | nil =>
   intro m e;cases m with
   | nil=>rfl
   | cons _ _=>cases e
  | cons x l ih =>
   intro m e;cases m with
   | nil=>cases e
   | cons y m =>
    rw[Qh,Qh]at e;injection e with e1 e2
    rw[ZJ e1,ih m e2]
 exact key l m e
theorem SPts.one {l m:List Str} (h:SPts es l) (k:SPts es m):l=m:=Zeo h.srt k.srt fun x=>by rw[h.pts.mem,k.pts.mem]
abbrev ZbX:Stmt:=top 6
abbrev Zk8:List Str:=["H","more","piece","many"]
theorem scMoreOut:Zo Zk8 ["H"] (Zf ZbX):=⟨rfl,rfl,rfl,by decide +kernel,rfl,by decide +kernel,by decide +kernel⟩
def Zas:Sp:=fun vs H Q _=>∃ (v:V) (es:Es),vs=[v]/\HeapV H v es/\Jo es/\∀ d H' ks,Same H H'->H' d=some (.dK (gD ks (mo es)))->Pts es ks->Q (.ref d) H'
theorem ZeK (D:HasDef K mg "more_out" ZbX ["H"]) (g12_:FOk P w K mg base 1 "begin_of" ["piece"] ZbP) (g21_:FOk P w K mg base 1 "end_of" ["piece"] Zeq):FOk P w K mg base 2 "more_out" ["H"] Zas:=by
 refine D.ok scMoreOut (fun vs H Q E h=>?_) (fun f cdv A outer s H vs Q E hr h=>?_)
 ·obtain⟨v,es,rfl,_⟩:=h;rfl
 ·obtain⟨v,es,rfl,⟨q,vs,rfl,hq,hpa⟩,hF,k⟩:=h;have hu:=Ze0 hr;refine⟨_,(Zc (Zj (i:=1) scMoreOut.nd rfl (.inl rfl) Jb)
   (Zc (ZY PassesOwn.never rfl (Yy (pv 0)) (Z5 2 K rfl (Zu (ZB (i:=2) scMoreOut.nd rfl (.inl rfl)) (Zu (ZB (i:=3) scMoreOut.nd rfl (.inl rfl)) Z4)))
    (Zc (XS hu (pv 1) (Zq g12_ hr (Za (pv 2) Ze)) (Zn ZS (Zak hu (pv 1) (Zq g12_ hr (Za (pv 2) Ze)) Zg ⟨rfl,rfl,rfl,rfl⟩) (pv 3)) rfl)
   (Zh (XS hu (pv 1) (Zq g21_ hr (Za (pv 2) Ze)) (Zn Yz (Zak hu (pv 1) (Zq g21_ hr (Za (pv 2) Ze)) Zg ⟨rfl,rfl,rfl,rfl⟩) (pv 3)) rfl))))
   (Zh (Zp (pv 1))))),?_⟩
  intro d hd;have s1:=Zb (o:=.dK []) hd;refine⟨_,rfl,q,rfl,⟨_,SqT.of (s1 _ _ hq)⟩,?_⟩;refine XY (K:=K) (a:=q) (xs:=vs) (fun i σ H2=>(∃ z2 z3:Option V,σ=[some (.ref q),some (.ref d),z2,z3])/\Same H H2/\∃ ks,Pts (es.take i) ks/\H2 d=some (.dK (gD ks (mo (es.take i)))))
   ⟨⟨none,none,rfl⟩,s1,[],Pts.nil,Zd⟩ (fun i σ H2 _ ⟨_,s2,_⟩=>SqT.of (s2 _ _ hq)) ?_ ?_
  ·rintro i x σ H2 hi ⟨⟨z2,z3,rfl⟩,s2,ks,hk,hdd⟩;have hiv:i<vs.length:=(Qn.mp hi).1;have hie:i<es.length:=by rw[←hpa.1];exact hiv
   obtain⟨b,e1,e2⟩:=hpa.2 i es[i] (Qa hie);rw[hi]at e1;cases e1;obtain⟨l1,l2⟩:=hF.long es[i] (QF hie);have hkl:=hk.len;have hfew:=hF.few;rw[QB]at hkl;refine⟨b,_,rfl,SqT.of (s2 _ _ e2),rfl,_,_,rfl,_,_,rfl,rfl,?_⟩;have het:es.take (i+1)=es.take i++[es[i]]:=Q5 hie;generalize es[i]=e at *;have h0:=fun(hP:bg e.1∉ks)=>hk.zero hP;have hg:=ZmB (ks:=ks) (g:=mo (es.take i)) h0;refine⟨_,rfl,d,rfl,.inl ⟨_,.inl hdd⟩,_,rfl,e.1,rfl,l1,l2,_,DGet.kk (k:=Sum.inr (bg e.1)) hdd,_,rfl,_,_,hg,rfl,_,rfl,_,rfl,e.1,rfl,l1,l2,d,_,rfl,DPut.kk (k:=Sum.inr (bg e.1)) hdd (by rw[Zbw];exact ZM (by omega)),?_⟩;rw[Zgr];have hdd2:(upd H2 d (.dK (gD (Jq ks (bg e.1)) fun x=>if x=bg e.1 then mo (es.take i) (bg e.1)+e.2 else mo (es.take i) x))) d=some (.dK (gD (Jq ks (bg e.1)) fun x=>if x=bg e.1 then mo (es.take i) (bg e.1)+e.2 else mo (es.take i) x)):=Zd;have hg2:=ZmB (ks:=Jq ks (bg e.1)) (g:=fun x=>if x=bg e.1 then mo (es.take i) (bg e.1)+e.2 else mo (es.take i) x) (y:=en e.1) fun hP=>by
    rw[ZcV,not_or]at hP;rw[if_neg hP.2,hk.zero hP.1]
   have hal:=Zao ks (bg e.1);refine⟨_,rfl,d,rfl,.inl ⟨_,.inl hdd2⟩,_,rfl,e.1,rfl,l1,l2,_,DGet.kk (k:=Sum.inr (en e.1)) hdd2,_,rfl,_,_,hg2,rfl,_,rfl,_,rfl,e.1,rfl,l1,l2,d,_,rfl,DPut.kk (k:=Sum.inr (en e.1)) hdd2 (by rw[Zbw];exact ZM (by omega)),?_⟩;refine⟨⟨_,_,rfl⟩,fun c u hc=>?_,Jq (Jq ks (bg e.1)) (en e.1),by rw[het];exact hk.step e,?_⟩
   ·rw[ZbG,Zi (Zm hc hd)];exact s2 c u hc
   ·rw[Zd,Zgr,het];refine congrArg (fun l=>some (HO.dK l)) (Zgs fun x _=>?_);rw[ZnN];unfold mo1 ind;by_cases c1:x=en e.1
    ·subst c1;rw[if_pos rfl,if_pos rfl];by_cases c2:en e.1=bg e.1
     ·rw[if_pos c2,if_pos c2.symm,c2];omega
     ·rw[if_neg c2,if_neg (Ne.symm c2)];omega
    ·rw[if_neg c1,if_neg (Ne.symm c1)];by_cases c2:x=bg e.1
     ·subst c2;rw[if_pos rfl,if_pos rfl];omega
     ·rw[if_neg c2,if_neg (Ne.symm c2)];omega
  ·rintro σ H2 ⟨⟨z2,z3,rfl⟩,s2,ks,hk,hdd⟩;rw[hpa.1,RK]at hk hdd;exact⟨_,rfl,k d H2 ks s2 hdd hk⟩
abbrev X7:Stmt:=top 7
abbrev ZdD:List Str:=["H"]
theorem ZgT:Zo ZdD ["H"] (Zf X7):=⟨rfl,rfl,rfl,by decide +kernel,rfl,by decide +kernel,by decide +kernel⟩
def ZbO:Sp:=fun vs H Q _=>∃ (v:V) (es:Es),vs=[v]/\HeapV H v es/\Jo es/\∀ v' H' ss,Same H H'->HeapV H' v' (ups (mo es) ss)->SPts es ss->Q v' H'
theorem Zdy (D:HasDef K mg "begins_of" X7 ["H"]) (B:Blt mg) (g31_:FOk P w K mg base 2 "more_out" ["H"] Zas):FOk P w K mg base 3 "begins_of" ["H"] ZbO:=by
 refine D.ok ZgT (fun vs H Q E h=>?_) (fun f cdv A outer s H vs Q E hr h=>?_)
 ·obtain⟨v,es,rfl,_⟩:=h;rfl
 ·obtain⟨v,es,rfl,hV,hF,k⟩:=h;refine⟨_,(Zh (Zp (ZC ZE rfl B.tuple YN (Za (ZH (Zf X7) ZdD ["point","more"] [] rfl (ZU (Zk (Xu rfl) rfl B.sorted Yq (Za (Zca (Zq g31_ hr (Za (pv 0) Ze))) Ze))) (fun _ _ _ _ _=>Z5 2 K rfl (Zu (Z0 0) (Zu (Z0 1) Z4))) (fun _ _ _ _ _=>pcs_one (Zs ZgY (pv 1) Zg (Zx _))) (fun _ _ _ _ _=>(YW (Za (pv 0) (Za (pv 1) Ze))))) Ze)))),?_⟩;refine⟨_,rfl,v,es,rfl,hV,hF,fun d H1 ks s1 hd hP=>⟨d,_,rfl,hd,fun p hp=>?_⟩⟩;have hkl:=hP.len;have hfew:=hF.few;refine⟨p,d,ks,fun x=>.int (mo es x),rfl,Zd,Zb hp _ _ hd,hP.nd,by omega,fun D1 H2 vs ss s2 hpm hsrt hD1 hl hv=>?_⟩;have hss:=hpm.length_eq;refine⟨D1,rfl,⟨_,SqL.of hD1⟩,ZaR ss.length (fun i=>vs.getD i .non) (fun i=>decide (0<(mo es) (ss.getD i ""))) (fun i v H=>ZgV (ss.getD i "") ((mo es) (ss.getD i "")) v H) (Zl (by omega)) (fun i v H H' hs ⟨b,e1,e2⟩=>⟨b,e1,hs _ _ e2⟩) (by have:=YM (K:=K) (SqL.of hD1);rw[hl]at this;exact this) ?_ ?_⟩
  ·intro i H3 Qt Qf hi hs ht hf;obtain⟨b,e1,e2⟩:=hv i ss[i] (Qa hi);have ev:vs.getD i .non= .ref b:=by rw[Qb,e1];rfl
   have es1:ss.getD i "" = ss[i]:=by rw[Qb,Qa hi];rfl
   rw[es1]at ht hf;rw[ev];refine⟨b,_,rfl,SqT.of (hs _ _ e2),rfl,_,_,rfl,_,_,rfl,rfl,?_⟩;refine⟨_,rfl,_,_,rfl,rfl,_,rfl,?_⟩;by_cases c:0<(mo es) ss[i]
   ·refine Jp (decide_eq_true (by omega)) (⟨_,rfl,_,rfl,Zl (show 2<=1000 by decide),fun r hr=>ht (decide_eq_true c) _ _ (Zb hr) ⟨r,rfl,Zd⟩⟩)
   ·exact Xa (decide_eq_false (by omega)) (hf (decide_eq_false c) _ (Same.refl _))
  ·intro D2 vs2 H3 hl2 hR hs3 hD2 hDl;refine⟨D2,vs2,rfl,.inl ⟨SqL.of hDl,fun q hq=>?_⟩⟩;have sq:=Zb (o:=.tup vs2) hq;refine k (.ref q) _ ss (((s1.trans (Zb hp)).trans s2).trans (hs3.trans sq)) ⟨q,vs2,rfl,Zd,?_⟩ (SPts.of hP hpm hsrt);exact(ZoX (p:=fun x=>decide (0<(mo es) x)) (f:=fun x=>(mo es) x) hl2 hR).same sq.tup
abbrev Zb2:Stmt:=top 8
abbrev Zjo:List Str:=["H"]
theorem ZkG:Zo Zjo ["H"] (Zf Zb2):=⟨rfl,rfl,rfl,by decide +kernel,rfl,by decide +kernel,by decide +kernel⟩
def Zl8:Sp:=fun vs H Q _=>∃ (v:V) (es:Es),vs=[v]/\HeapV H v es/\Jo es/\∀ v' H' ss,Same H H'->HeapV H' v' (ups (fun y=>-mo es y) ss)->SPts es ss->Q v' H'
theorem Zg7 (D:HasDef K mg "ends_of" Zb2 ["H"]) (B:Blt mg) (g31_:FOk P w K mg base 2 "more_out" ["H"] Zas):FOk P w K mg base 3 "ends_of" ["H"] Zl8:=by
 refine D.ok ZkG (fun vs H Q E h=>?_) (fun f cdv A outer s H vs Q E hr h=>?_)
 ·obtain⟨v,es,rfl,_⟩:=h;rfl
 ·obtain⟨v,es,rfl,hV,hF,k⟩:=h;refine⟨_,(Zh (Zp (ZC ZE rfl B.tuple YN (Za (ZH (Zf Zb2) Zjo ["point","more"] [] rfl (ZU (Zk (Xu rfl) rfl B.sorted Yq (Za (Zca (Zq g31_ hr (Za (pv 0) Ze))) Ze))) (fun _ _ _ _ _=>Z5 2 K rfl (Zu (Z0 0) (Zu (Z0 1) Z4))) (fun _ _ _ _ _=>pcs_one (Zs ZkW (pv 1) Zg (Zx _))) (fun _ _ _ _ _=>(YW (Za (pv 0) (Za (Za4 XI (pv 1)) Ze))))) Ze)))),?_⟩;refine⟨_,rfl,v,es,rfl,hV,hF,fun d H1 ks s1 hd hP=>⟨d,_,rfl,hd,fun p hp=>?_⟩⟩;have hkl:=hP.len;have hfew:=hF.few;refine⟨p,d,ks,fun x=>.int (mo es x),rfl,Zd,Zb hp _ _ hd,hP.nd,by omega,fun D1 H2 vs ss s2 hpm hsrt hD1 hl hv=>?_⟩;have hss:=hpm.length_eq;refine⟨D1,rfl,⟨_,SqL.of hD1⟩,ZaR ss.length (fun i=>vs.getD i .non) (fun i=>decide (0<(fun y=>-mo es y) (ss.getD i ""))) (fun i v H=>ZgV (ss.getD i "") ((fun y=>-mo es y) (ss.getD i "")) v H) (Zl (by omega)) (fun i v H H' hs ⟨b,e1,e2⟩=>⟨b,e1,hs _ _ e2⟩) (by have:=YM (K:=K) (SqL.of hD1);rw[hl]at this;exact this) ?_ ?_⟩
  ·intro i H3 Qt Qf hi hs ht hf;obtain⟨b,e1,e2⟩:=hv i ss[i] (Qa hi);have ev:vs.getD i .non= .ref b:=by rw[Qb,e1];rfl
   have es1:ss.getD i "" = ss[i]:=by rw[Qb,Qa hi];rfl
   rw[es1]at ht hf;rw[ev];refine⟨b,_,rfl,SqT.of (hs _ _ e2),rfl,_,_,rfl,_,_,rfl,rfl,?_⟩;refine⟨_,rfl,_,_,rfl,rfl,_,rfl,?_⟩;by_cases c:0<(fun y=>-mo es y) ss[i]
   ·refine Jp (decide_eq_true (by have c:=c;dsimp only at c;omega)) (⟨_,rfl,_,rfl,_,rfl,Zl (show 2<=1000 by decide),fun r hr=>ht (decide_eq_true c) _ _ (Zb hr) ⟨r,rfl,Zd⟩⟩)
   ·exact Xa (decide_eq_false (by have c:=c;dsimp only at c;omega)) (hf (decide_eq_false c) _ (Same.refl _))
  ·intro D2 vs2 H3 hl2 hR hs3 hD2 hDl;refine⟨D2,vs2,rfl,.inl ⟨SqL.of hDl,fun q hq=>?_⟩⟩;have sq:=Zb (o:=.tup vs2) hq;refine k (.ref q) _ ss (((s1.trans (Zb hp)).trans s2).trans (hs3.trans sq)) ⟨q,vs2,rfl,Zd,?_⟩ (SPts.of hP hpm hsrt);exact(ZoX (p:=fun x=>decide (0<(fun y=>-mo es y) x)) (f:=fun x=>(fun y=>-mo es y) x) hl2 hR).same sq.tup
end Sh
namespace L2
open PySem PySem.Spec PyProof.Rows
theorem ZlM:bootBuiltins "set" = some (.type "set"):=by decide +kernel
end L2
namespace Sh
open PySem L2 PyProof.Rows
seal L2.PE L2.PS L2.PSs L2.PT L2.PW L2.PA L2.PI L2.PG L2.PGs L2.PO L2.PC L2.PCs L2.OpR L2.UnR L2.CallR L2.MtR L2.IxR L2.SlR
variable {P:Program} {w:World} {K:PySem.W.Frag} {mg:Str->Option Value} {base:Heap}
variable {H H2:Hp} {adr:Str->Addr} {es:Es} {f:Nat->Nat} {ks ss:List Str} {n p:Nat} {r:Str->List Str} {x y:Str}
theorem ZbK {vs:List V} {f:Str->Str} (hl:vs.length=es.length) (hR:∀ (i:Nat) (v:V),vs[i]?=some v->v= .str (f (es.getD i ("",0)).1)):vs=(es.map fun e=>f e.1).map V.str:=by
 apply QT;intro i;by_cases hi:i<vs.length
 ·have hie:i<es.length:=by omega
  rw[Qa hi,hR i _ (Qa hi),Qd,Qd,Qa hie,Qb,Qa hie];rfl
 ·rw[Qo (by omega),Qo (by rw[Qc,Qc];omega)]
def TupS (H:Hp) (v:V) (ss:List Str):Prop:=∃ q,v= .ref q/\H q=some (.tup (ss.map V.str))
theorem TupS.same {H':Hp} {v:V} (h:TupS H v ss) (s:Same H H'):TupS H' v ss:=by
 obtain⟨q,e,e2⟩:=h;exact⟨q,e,s _ _ e2⟩
abbrev Xi:Stmt:=top 3
abbrev ZaN:List Str:=["H"]
theorem ZgQ:Zo ZaN ["H"] (Zf Xi):=⟨rfl,rfl,rfl,by decide +kernel,rfl,by decide +kernel,by decide +kernel⟩
def Xy:Sp:=fun vs H Q _=>∃ (v:V) (es:Es),vs=[v]/\HeapV H v es/\Jo es/\∀ v' H' ss,Same H H'->TupS H' v' ss->SPts es ss->Q v' H'
theorem Zdp (D:HasDef K mg "points_of" Xi ["H"]) (B:Blt mg) (g12_:FOk P w K mg base 1 "begin_of" ["piece"] ZbP) (g21_:FOk P w K mg base 1 "end_of" ["piece"] Zeq):FOk P w K mg base 2 "points_of" ["H"] Xy:=by
 refine D.ok ZgQ (fun vs H Q E h=>?_) (fun f cdv A outer s H vs Q E hr h=>?_)
 ·obtain⟨v,es,rfl,_⟩:=h;rfl
 ·obtain⟨v,es,rfl,⟨q,vs,rfl,hq,hpa⟩,hF,k⟩:=h;refine⟨_,(Zh (Zp (ZC ZE rfl B.tuple YN (Za (Zk (YF rfl) rfl B.sorted Yq (Za (ZC (Jm rfl) rfl B.set ZlM (Za (Zn ZaL (ZH (Zf Xi) ZaN ["piece","many"] [] rfl (Yy (pv 0)) (fun _ _ _ _ _=>Z5 2 K rfl (Zu (Z0 0) (Zu (Z0 1) Z4))) (fun _ _ _ _ _=>ZR) (fun _ _ _ _ _=>(Zq g12_ hr (Za (pv 0) Ze))))
   (ZH (Zf Xi) ZaN ["piece","many"] [] rfl (Yy (pv 0)) (fun _ _ _ _ _=>Z5 2 K rfl (Zu (Z0 0) (Zu (Z0 1) Z4))) (fun _ _ _ _ _=>ZR) (fun _ _ _ _ _=>(Zq g21_ hr (Za (pv 0) Ze))))) Ze)) Ze)) Ze)))),?_⟩
  have hfew:=hF.few;have hvl:=hpa.1;refine⟨_,rfl,q,rfl,⟨_,SqT.of hq⟩,YB vs.length (fun i=>vs.getD i .non) (fun i v _=>v= .str (bg (es.getD i ("",0)).1)) (Zl (by omega)) (fun _ _ _ _ _ r=>r) (JV (SqT.of hq)) ?_ ?_⟩
  ·intro i H3 Qe hi hs kq;have hie:i<es.length:=by omega
   obtain⟨b,e1,e2⟩:=hpa.2 i es[i] (Qa hie);have ev:vs.getD i .non= .ref b:=by rw[Qb,e1];rfl
   have ee:es.getD i ("",0)=es[i]:=by rw[Qb,Qa hie];rfl
   obtain⟨l1,l2⟩:=hF.long es[i] (QF hie);rw[ev];refine⟨b,_,rfl,SqT.of (hs _ _ e2),rfl,_,_,rfl,_,_,rfl,rfl,_,rfl,es[i].1,rfl,l1,l2,kq _ _ (Same.refl _) ?_⟩;rw[ee]
  intro D1 vs1 H3 hl1 hr1 hs3 hD1 hDl1;rw[ZbK (f:=bg) (by omega) hr1]at hDl1;refine⟨_,rfl,q,rfl,⟨_,SqT.of (hs3 _ _ hq)⟩,YB vs.length (fun i=>vs.getD i .non) (fun i v _=>v= .str (en (es.getD i ("",0)).1)) (Zl (by omega)) (fun _ _ _ _ _ r=>r) (JV (SqT.of (hs3 _ _ hq))) ?_ ?_⟩
  ·intro i H4 Qe hi hs kq;have hie:i<es.length:=by omega
   obtain⟨b,e1,e2⟩:=hpa.2 i es[i] (Qa hie);have ev:vs.getD i .non= .ref b:=by rw[Qb,e1];rfl
   have ee:es.getD i ("",0)=es[i]:=by rw[Qb,Qa hie];rfl
   obtain⟨l1,l2⟩:=hF.long es[i] (QF hie);rw[ev];refine⟨b,_,rfl,SqT.of (hs _ _ (hs3 _ _ e2)),rfl,_,_,rfl,_,_,rfl,rfl,_,rfl,es[i].1,rfl,l1,l2,kq _ _ (Same.refl _) ?_⟩;rw[ee]
  intro D2 vs2 H4 hl2 hr2 hs4 hD2 hDl2;rw[ZbK (f:=en) (by omega) hr2]at hDl2;refine⟨D1,D2,_,_,rfl,rfl,hs4 _ _ hDl1,hDl2,Zl (by simp only[Qc];omega),fun p hp=>?_⟩;have s5:=Zb (o:=.lst ((es.map fun e=>bg e.1).map V.str++(es.map fun e=>en e.1).map V.str)) hp;refine⟨p,(es.map fun e=>bg e.1)++(es.map fun e=>en e.1),rfl,SqL.of (by rw[Zd,QH]),by simp only[Qm,Qc];omega,fun p2 ks hp2 hnd hmem hkl=>?_⟩;have hkl':ks.length<=2*es.length:=by simp only[Qm,Qc]at hkl;omega
  refine⟨p2,ks,rfl,Zd,by omega,fun q2 ss hq2 hpm hsrt=>?_⟩;refine⟨q2,_,rfl,.inl ⟨SqL.of Zd,fun l hl=>?_⟩⟩;refine k (.ref l) _ ss (((((hs3.trans hs4).trans s5).trans (Zb hp2)).trans (Zb hq2)).trans (Zb hl)) ⟨l,rfl,Zd⟩ (SPts.of (ks:=ks) ⟨hnd,fun x=>?_,hkl'⟩ hpm hsrt);rw[hmem,QE,Qj,Qj];constructor
  ·rintro(⟨e,he,z⟩ | ⟨e,he,z⟩)
   ·exact⟨e,he,.inl z⟩
   ·exact⟨e,he,.inr z⟩
  ·rintro⟨e,he,z | z⟩
   ·exact .inl ⟨e,he,z⟩
   ·exact .inr ⟨e,he,z⟩
def rD (ks:List Str) (adr:Str->Addr):List (Key×V):=ks.map fun x=>((Sum.inr x:Key),V.ref (adr x))
theorem Zmf (ks:List Str) (adr:Str->Addr):(rD ks adr).length=ks.length:=by unfold rD;rw[Qc]
theorem ZfO (ks:List Str) (adr:Str->Addr) (y:Str):XF (rD ks adr) (Sum.inr y)=if y∈ks then some (.ref (adr y))else none:=Y1 (fun x=>V.ref (adr x)) y ks
theorem ZoO {p:Addr} (h:y∉ks):X8 (rD ks adr) (Sum.inr y) (.ref p)=rD (ks++[y]) fun x=>if x=y then p else adr x:=by
 rw[Zai _ (by rw[ZfO,if_neg h])];unfold rD;rw[QH,Wu];dsimp only;rw[if_pos rfl];congr 1;refine Qu fun x hx=>?_;rw[if_neg (fun e:x=y=>h (e▸hx))]
structure TJ (H H2:Hp) (d:Addr) (ks:List Str) (adr:Str->Addr) (r:Str->List Str):Prop where
 sm:Same H H2
 dn:H d=none
 dd:H2 d=some (.dK (rD ks adr))
 nd:ks.Nodup
 row:∀ P∈ks,H2 (adr P)=some (.lst ((r P).map V.str))
 fresh:∀ P∈ks,H (adr P)=none
 inj:∀ P∈ks,∀ P'∈ks,adr P=adr P'->P=P'
 out:∀ P,P∉ks->r P=[]
def Zfi (r:Str->List Str) (P y:Str):Str->List Str:=fun x=>if x=P then r P++[y]else r x
theorem ZgI {P z:Str}:z∈Zfi r P y x↔z∈r x\/(x=P/\z=y):=by
 unfold Zfi;by_cases c:x=P
 ·subst c;rw[if_pos rfl];simp
 ·rw[if_neg c];simp[c]
theorem ZcU {P:Str} (h:∀ x,(r x).length<=n) (x:Str):(Zfi r P y x).length<=n+1:=by
 unfold Zfi;split
 ·have:=h P;simp;omega
 ·have:=h x;omega
theorem TJ.ne {d:Addr} (J:TJ H H2 d ks adr r) {P:Str} (hP:P∈ks):adr P≠d:=fun e=>by
 have:=J.row P hP;rw[e,J.dd]at this;cases this
theorem TJ.old {d p:Addr} (J:TJ H H2 d ks adr r) {P:Str} (hP:P∈ks) (hp:H2 p=none) :
  TJ H (upd (upd H2 p (.lst [])) (adr P) (.lst ((r P).map V.str++[.str y]))) d (Jq ks P) adr (Zfi r P y):=by
 have ek:Jq ks P=ks:=by unfold Jq;rw[if_pos hP]
 rw[ek];have s1:=Zb (o:=.lst []) hp;refine⟨fun b u hb=>?_,J.dn,?_,J.nd,fun Q hQ=>?_,J.fresh,J.inj,fun Q hQ=>?_⟩
 ·rw[Zi fun e=>by rw[e,J.fresh P hP]at hb;cases hb];exact s1 _ _ (J.sm b u hb)
 ·rw[Zi (Ne.symm (J.ne hP))];exact s1 _ _ J.dd
 ·unfold Zfi;by_cases c:Q=P
  ·subst c;rw[Zd,if_pos rfl,QH];rfl
  ·rw[if_neg c,Zi fun e=>c (J.inj Q hQ P hP e)];exact s1 _ _ (J.row Q hQ)
 ·unfold Zfi;rw[if_neg (fun e:Q=P=>hQ (e▸hP))];exact J.out Q hQ
theorem TJ.new {d p:Addr} (J:TJ H H2 d ks adr r) {P:Str} (hP:P∉ks) (hp:H2 p=none) :
  TJ H (upd (upd (upd H2 p (.lst [])) d (.dK (rD (ks++[P]) fun x=>if x=P then p else adr x))) p (.lst ([]++[.str y]))) d (Jq ks P) (fun x=>if x=P then p else adr x) (Zfi r P y):=by
 have ek:Jq ks P=ks++[P]:=by unfold Jq;rw[if_neg hP]
 rw[ek];have hpd:d≠p:=fun e=>by rw[←e,J.dd]at hp;cases hp
 have hpa:∀ Q∈ks,adr Q≠p:=fun Q hQ e=>by have:=J.row Q hQ;rw[e,hp]at this;cases this
 have mm:∀ Q,Q∈ks++[P]->Q∈ks\/Q=P:=fun Q h=>by simpa using h
 refine⟨fun b u hb=>?_,J.dn,?_,?_,fun Q hQ=>?_,fun Q hQ=>?_,fun Q hQ Q' hQ' e=>?_,fun Q hQ=>?_⟩
 ·have h2:=J.sm b u hb;rw[Zi (Zm h2 hp),Zi (Zm hb J.dn),Zi (Zm h2 hp)];exact h2
 ·rw[Zi hpd,Zd]
 ·exact WL.mpr ⟨J.nd,by simp,fun a ha b hb e=>by rw[Qp.mp hb]at e;subst e;exact hP ha⟩
 ·unfold Zfi;by_cases c:Q=P
  ·subst c;rw[if_pos rfl,if_pos rfl,Zd,J.out Q hP];rfl
  ·rw[if_neg c,if_neg c];have hQ':Q∈ks:=(mm Q hQ).resolve_right c;rw[Zi (hpa Q hQ'),Zi (J.ne hQ'),Zi (hpa Q hQ')];exact J.row Q hQ'
 ·skip
  by_cases c:Q=P
  ·rw[if_pos c];cases hh:H p with
   | none=>rfl
   | some u=>have:=J.sm p u hh;rw[hp]at this;cases this
  ·rw[if_neg c];exact J.fresh Q ((mm Q hQ).resolve_right c)
 ·skip
  by_cases c:Q=P
  ·by_cases c':Q'=P
   ·rw[c,c']
   ·rw[if_pos c,if_neg c']at e;exact absurd e.symm (hpa Q' ((mm Q' hQ').resolve_right c'))
  ·by_cases c':Q'=P
   ·rw[if_neg c,if_pos c']at e;exact absurd e (hpa Q ((mm Q hQ).resolve_right c))
   ·rw[if_neg c,if_neg c']at e;exact J.inj Q ((mm Q hQ).resolve_right c) Q' ((mm Q' hQ').resolve_right c') e
 ·have h1:Q∉ks:=fun z=>hQ (Q0 _ z);have h2:¬ Q=P:=fun z=>hQ (by simp[z]);unfold Zfi;rw[if_neg h2];exact J.out Q h1
def TiR (H:Hp) (q d:Addr) (es:Es) (i:Nat):L2.St->Hp->Prop:=fun σ H2=>(∃ z2 z3:Option V,σ=[some (.ref q),some (.ref d),z2,z3])/\∃ ks adr r,TJ H H2 d ks adr r/\Pts (es.take i) ks/\(∀ P y,y∈r P↔Adj (es.take i) P y)/\∀ P,(r P).length<=2*i
abbrev XQ:Stmt:=top 14
abbrev ZeS:List Str:=["H","tied","piece","many"]
theorem scTiedPoints:Zo ZeS ["H"] (Zf XQ):=⟨rfl,rfl,rfl,by decide +kernel,rfl,by decide +kernel,by decide +kernel⟩
def Zl0:Sp:=fun vs H Q _=>∃ (v:V) (es:Es),vs=[v]/\HeapV H v es/\Jo es/\∀ d H' ks adr r,TJ H H' d ks adr r->Pts es ks->(∀ P y,y∈r P↔Adj es P y)->(∀ P,(r P).length<=128)->Q (.ref d) H'
theorem Za6 (D:HasDef K mg "tied_points" XQ ["H"]) (g12_:FOk P w K mg base 1 "begin_of" ["piece"] ZbP) (g21_:FOk P w K mg base 1 "end_of" ["piece"] Zeq):FOk P w K mg base 2 "tied_points" ["H"] Zl0:=by
 refine D.ok scTiedPoints (fun vs H Q E h=>?_) (fun f cdv A outer s H vs Q E hr h=>?_)
 ·obtain⟨v,es,rfl,_⟩:=h;rfl
 ·obtain⟨v,es,rfl,⟨q,vs,rfl,hq,hpa⟩,hF,k⟩:=h;refine⟨_,(Zc (Zj (i:=1) scTiedPoints.nd rfl (.inl rfl) Jb)
   (Zc (ZY PassesOwn.never rfl (Yy (pv 0)) (Z5 2 K rfl (Zu (ZB (i:=2) scTiedPoints.nd rfl (.inl rfl)) (Zu (ZB (i:=3) scTiedPoints.nd rfl (.inl rfl)) Z4)))
    (Zc (Yx (Za5 F.plainAttrs_list F.slot_list_append F.type_list_append Yt (ZiY (pv 1) (Zq g12_ hr (Za (pv 2) Ze)) (Z6 Ze) ⟨rfl,rfl,rfl,rfl⟩) (Za (Zq g21_ hr (Za (pv 2) Ze)) Ze)))
   (Zh (Yx (Za5 F.plainAttrs_list F.slot_list_append F.type_list_append Yt (ZiY (pv 1) (Zq g21_ hr (Za (pv 2) Ze)) (Z6 Ze) ⟨rfl,rfl,rfl,rfl⟩) (Za (Zq g12_ hr (Za (pv 2) Ze)) Ze))))))
   (Zh (Zp (pv 1))))),?_⟩
  intro d hd;have s1:=Zb (o:=.dK []) hd;refine⟨_,rfl,q,rfl,⟨_,SqT.of (s1 _ _ hq)⟩,?_⟩;refine XY (K:=K) (a:=q) (xs:=vs) (fun i σ H2=>(∃ z2 z3:Option V,σ=[some (.ref q),some (.ref d),z2,z3])/\∃ ks adr r,TJ H H2 d ks adr r/\Pts (es.take i) ks/\(∀ P y,y∈r P↔Adj (es.take i) P y)/\∀ P,(r P).length<=2*i)
   ⟨⟨none,none,rfl⟩,[],fun _=>d,fun _=>[],⟨s1,hd,Zd,WZ,(fun P h=>by cases h),(fun P h=>by cases h),(fun P h=>by cases h),fun _ _=>rfl⟩,Pts.nil,(fun P y=>by simp[Adj]),fun P=>Qk _⟩ (fun i σ H2 _ ⟨_,_,_,_,J,_⟩=>SqT.of (J.sm _ _ hq)) ?_ ?_
  ·rintro i x σ H2 hi ⟨⟨z2,z3,rfl⟩,ks,adr,r,J,hk,hadj,hlen⟩;have hiv:i<vs.length:=(Qn.mp hi).1;have hie:i<es.length:=by rw[←hpa.1];exact hiv
   obtain⟨b,e1,e2⟩:=hpa.2 i es[i] (Qa hie);rw[hi]at e1;cases e1;obtain⟨l1,l2⟩:=hF.long es[i] (QF hie);have hkl:=hk.len;have hfew:=hF.few;rw[QB]at hkl;refine⟨b,_,rfl,SqT.of (J.sm _ _ e2),rfl,_,_,rfl,_,_,rfl,rfl,?_⟩;have het:es.take (i+1)=es.take i++[es[i]]:=Q5 hie;generalize es[i]=e at *;have one:∀ (H3:Hp) (ks3:List Str) (adr3:Str->Addr) (r3:Str->List Str) (P y:Str) (R:L2.St->Hp->Prop) (σ3:L2.St),TJ H H3 d ks3 adr3 r3->ks3.length<=500->(∀ x,(r3 x).length<=500)->(∀ H4 adr4,TJ H H4 d (Jq ks3 P) adr4 (Zfi r3 P y)->R σ3 H4)->∀ p,H3 p=none ->
     (∀ v,XF (rD ks3 adr3) (Sum.inr P:Key)=some v->∃ l xs,v= .ref l/\(upd H3 p (.lst [])) l=some (.lst xs)/\xs.length<sizeLine/\R σ3 (upd (upd H3 p (.lst [])) l (.lst (xs++[.str y])))) /\
     (XF (rD ks3 adr3) (Sum.inr P:Key)=none->∃ xs,(upd (upd H3 p (.lst [])) d (.dK (X8 (rD ks3 adr3) (Sum.inr P) (.ref p)))) p=some (.lst xs)/\xs.length<sizeLine/\R σ3 (upd (upd (upd H3 p (.lst [])) d (.dK (X8 (rD ks3 adr3) (Sum.inr P) (.ref p)))) p (.lst (xs++[.str y])))):=by
    intro H3 ks3 adr3 r3 P y R σ3 J3 hks hr3 hR p hp;constructor
    ·intro v hv;rw[ZfO]at hv;by_cases c:P∈ks3
     ·rw[if_pos c]at hv;cases hv;refine⟨adr3 P,(r3 P).map V.str,rfl,Zb hp _ _ (J3.row P c),?_,hR _ _ (J3.old c hp)⟩;rw[Qc];have:=hr3 P;exact ZM (by omega)
     ·rw[if_neg c]at hv;cases hv
    ·intro hv;rw[ZfO]at hv;by_cases c:P∈ks3
     ·rw[if_pos c]at hv;cases hv
     ·have hpd:p≠d:=fun e=>by rw[e,J3.dd]at hp;cases hp
      refine⟨[],by rw[Zi hpd,Zd],ZM (by decide),?_⟩;rw[ZoO c];exact hR _ _ (J3.new c hp)
   have hkz:ks.length<=500:=by omega
   have hrz:∀ x,(r x).length<=500:=fun x=>by have:=hlen x;omega
   show Zor _ _ _ _ _;refine YL (fun σ H'=>σ=[some (.ref q),some (.ref d),some (.str e.1),some (.int e.2)]/\∃ adr',TJ H H' d (Jq ks (bg e.1)) adr' (Zfi r (bg e.1) (en e.1))) (fun R hR=>?_) ?_
   ·refine⟨_,rfl,d,rfl,.inl ⟨_,.inl J.dd⟩,_,rfl,e.1,rfl,l1,l2,Zl (show 0<=1000 by decide),fun p hp=>?_⟩;refine⟨_,Sum.inr (bg e.1),Zb hp _ _ J.dd,rfl,by rw[Zmf];exact ZM (by omega),fun v hv=>?_,fun hv=>?_⟩
    ·obtain⟨l,xs,rfl,hl,hz,hr'⟩:=(one H2 ks adr r (bg e.1) (en e.1) R [some (.ref q),some (.ref d),some (.str e.1),some (.int e.2)] J hkz hrz (fun H4 adr4 J4=>hR _ _ ⟨rfl,adr4,J4⟩) p hp).1 v hv;exact⟨.inl ⟨rfl,_,SqL.of hl⟩,_,rfl,e.1,rfl,l1,l2,l,xs,.str (en e.1),rfl,rfl,hl,hz,hr'⟩
    ·obtain⟨xs,hl,hz,hr'⟩:=(one H2 ks adr r (bg e.1) (en e.1) R [some (.ref q),some (.ref d),some (.str e.1),some (.int e.2)] J hkz hrz (fun H4 adr4 J4=>hR _ _ ⟨rfl,adr4,J4⟩) p hp).2 hv;exact⟨.inl ⟨rfl,_,SqL.of hl⟩,_,rfl,e.1,rfl,l1,l2,p,xs,.str (en e.1),rfl,rfl,hl,hz,hr'⟩
   rintro σ H3 ⟨rfl,adr3,J3⟩;have hal:=Zao ks (bg e.1);have hrz3:∀ x,(Zfi r (bg e.1) (en e.1) x).length<=500:=fun x=>by have:=ZcU (P:=bg e.1) (y:=en e.1) hlen x;omega
   have fin:∀ H4 adr4,TJ H H4 d (Jq (Jq ks (bg e.1)) (en e.1)) adr4 (Zfi (Zfi r (bg e.1) (en e.1)) (en e.1) (bg e.1))->TiR H q d es (i+1) [some (.ref q),some (.ref d),some (.str e.1),some (.int e.2)] H4:=fun H4 adr4 J4=>by
    refine⟨⟨_,_,rfl⟩,_,adr4,_,J4,by rw[het];exact hk.step e,fun P y=>?_,fun P=>?_⟩
    ·rw[ZgI,ZgI,hadj,het,ZlO];constructor
     ·rintro((z | ⟨z1,z2⟩) | ⟨z1,z2⟩)
      ·exact .inl z
      ·exact .inr (.inl ⟨z1.symm,z2.symm⟩)
      ·exact .inr (.inr ⟨z1.symm,z2.symm⟩)
     ·rintro(z | ⟨z1,z2⟩ | ⟨z1,z2⟩)
      ·exact .inl (.inl z)
      ·exact .inl (.inr ⟨z1.symm,z2.symm⟩)
      ·exact .inr ⟨z1.symm,z2.symm⟩
    ·have:=ZcU (P:=en e.1) (y:=bg e.1) (fun x=>ZcU (P:=bg e.1) (y:=en e.1) hlen x) P;omega
   refine⟨_,rfl,d,rfl,.inl ⟨_,.inl J3.dd⟩,_,rfl,e.1,rfl,l1,l2,Zl (show 0<=1000 by decide),fun p hp=>?_⟩;refine⟨_,Sum.inr (en e.1),Zb hp _ _ J3.dd,rfl,by rw[Zmf];exact ZM (by omega),fun v hv=>?_,fun hv=>?_⟩
   ·obtain⟨l,xs,rfl,hl,hz,hr'⟩:=(one H3 _ adr3 _ (en e.1) (bg e.1) (TiR H q d es (i+1)) [some (.ref q),some (.ref d),some (.str e.1),some (.int e.2)] J3 (by omega) hrz3 fin p hp).1 v hv;exact⟨.inl ⟨rfl,_,SqL.of hl⟩,_,rfl,e.1,rfl,l1,l2,l,xs,.str (bg e.1),rfl,rfl,hl,hz,hr'⟩
   ·obtain⟨xs,hl,hz,hr'⟩:=(one H3 _ adr3 _ (en e.1) (bg e.1) (TiR H q d es (i+1)) [some (.ref q),some (.ref d),some (.str e.1),some (.int e.2)] J3 (by omega) hrz3 fin p hp).2 hv;exact⟨.inl ⟨rfl,_,SqL.of hl⟩,_,rfl,e.1,rfl,l1,l2,p,xs,.str (bg e.1),rfl,rfl,hl,hz,hr'⟩
  ·rintro σ H2 ⟨⟨z2,z3,rfl⟩,ks,adr,r,J,hk,hadj,hlen⟩;rw[hpa.1,RK]at hk hadj;have:=hF.few;exact⟨_,rfl,k d H2 ks adr r J hk hadj fun P=>by have:=hlen P;rw[hpa.1]at this;omega⟩
def bD (ks:List Str):List (Key×V):=ks.map fun x=>((Sum.inr x:Key),V.bl true)
theorem ZpN (ks:List Str):(bD ks).length=ks.length:=by unfold bD;rw[Qc]
theorem ZmK (ks:List Str) (y:Str):XF (bD ks) (Sum.inr y)=if y∈ks then some (.bl true)else none:=Y1 (fun _=>V.bl true) y ks
theorem ZpM (ks:List Str) (y:Str):X8 (bD ks) (Sum.inr y) (.bl true)=bD (Jq ks y):=by
 unfold Jq;by_cases m:y∈ks
 ·rw[if_pos m];unfold bD;rw[Jz _ _ _ _ m];refine Qu fun x _=>?_;simp
 ·rw[if_neg m,Zai _ (by rw[ZmK,if_neg m])];unfold bD;rw[QH,Wu]
theorem Zga (nd:ss.Nodup) (h:(ss.map fun x=>x.cps.toList).Pairwise (·<=·)):(ss.map fun x=>x.cps.toList).Pairwise (· < ·):=by
 rw[QR]at h ⊢;have:=List.Pairwise.and nd h;refine this.imp fun {a b} q=>?_;refine Tim.lt_ne (fun z=>?_) (Ne.symm q.1);exact absurd z (WP.mpr q.2)
structure Wk (es:Es) (a:Str) (ks F W:List Str):Prop where
 nd:F.Nodup
 fst:a∈F
 rch:∀ x∈F,Rch es a x
 sub:∀ x∈W,x∈F
 inn:∀ x∈F,x∈ks
theorem Wk.le {a:Str} {F W:List Str} (h:Wk es a ks F W):F.length<=ks.length:=by
 have h1:=h.nd;have h2:=h.inn;clear h;induction F generalizing ks with
 | nil=>exact QO _
 | cons x F ih =>
  have nd':=Q7.mp h1;have hx:=h2 x (Qi ..);have p:=Q3 hx;have:=ih (ks:=ks.erase x) nd'.2 fun y hy=>(WJ (fun(q:y=x)=>nd'.1 (q▸hy))).mpr (h2 y (Ql _ hy));rw[QW hx]at this;have hpos:0<ks.length:=Uc hx;rw[QL];omega
abbrev Zeu:Stmt:=top 15
abbrev ZnH:List Str:=["H","tied","first","found","waiting","here","point"]
theorem scPartOf:Zo ZnH ["H"] (Zf Zeu):=⟨rfl,rfl,rfl,by decide +kernel,rfl,by decide +kernel,by decide +kernel⟩
def Zl2:Sp:=fun vs H Q _=>∃ (v:V) (e:Str×Int) (es:Es),vs=[v]/\HeapV H v (e::es)/\Jo (e::es)/\∀ v' H' ss,Same H H'->TupS H' v' ss->(ss.map fun x=>x.cps.toList).Pairwise (· < ·)->ss.length<=128->(∀ x,x∈ss↔Rch (e::es) (bg e.1) x)->Q v' H'
theorem Zg0 (D:HasDef K mg "part_of" Zeu ["H"]) (B:Blt mg) (g12_:FOk P w K mg base 2 "begin_of" ["piece"] ZbP) (g44_:FOk P w K mg base 2 "tied_points" ["H"] Zl0):FOk P w K mg base 3 "part_of" ["H"] Zl2:=by
 refine D.ok scPartOf (fun vs H Q E h=>?_) (fun f cdv A outer s H vs Q E hr h=>?_)
 ·obtain⟨v,e,es,rfl,_⟩:=h;rfl
 ·obtain⟨v,e,es0,rfl,hV,hF,k⟩:=h;have hu:=Ze0 hr;obtain⟨q,vs,rfl,hq,hpa⟩:=id hV;refine⟨_,(Zc (Zj (i:=1) scPartOf.nd rfl (.inl rfl) (Zq g44_ hr (Za (pv 0) Ze)))
   (Zc (Zj (i:=2) scPartOf.nd rfl (.inl rfl) (Zq g12_ hr (Za (ZP Xp (ZP Xp (pv 0) Zg (fun _ _=>rfl)) Zg (fun _ _=>rfl)) Ze)))
   (Zc (Zj (i:=3) scPartOf.nd rfl (.inl rfl) (Znu (ZkR (pv 2) ZaI Znr) rfl rfl (RL _ _) (by decide)))
   (Zc (Zj (i:=4) scPartOf.nd rfl (.inl rfl) (Z6 (Za (pv 2) Ze)))
   (Zc (X9 PassesOwn.never (Zs ZgY (Zk Zr rfl B.len ZV (Za (pv 4) Ze)) Zg (Zx _))
    (Zc (Zj (i:=5) scPartOf.nd rfl (.inl rfl) (Xk F.plainAttrs_list F.slot_list_pop F.type_list_pop YA (pv 4)))
   (Zh (ZY PassesOwn.never rfl (ZU (Zcb hu (pv 1) (pv 5) (fun _ _=>rfl))) (ZB (i:=6) scPartOf.nd rfl (.inl rfl))
    (Zh (Z3 (Zmg (Zdm hu (pv 6) (pv 3))) (Zc (XS hu (pv 3) (pv 6) ZaI rfl)
   (Zh (Yx (Za5 F.plainAttrs_list F.slot_list_append F.type_list_append Yt (pv 4) (Za (pv 6) Ze))))) Zy))))))
   (Zh (Zp (ZC ZE rfl B.tuple YN (Za (Zk (Zbb rfl) rfl B.sorted Yq (Za (pv 3) Ze)) Ze))))))))),?_⟩
  obtain⟨b0,eb0,hb0⟩:=hpa.2 0 e rfl;obtain⟨l1,l2⟩:=hF.long e (Qi ..);refine⟨_,rfl,.ref q,e::es0,rfl,hV,hF,fun d H1 ks adr r J hk hadj hlen=>?_⟩;have hf1:=hk.len;have hf2:=hF.few;have haK:bg e.1∈ks:=(hk.mem _).mpr ⟨e,Qi ..,.inl rfl⟩;generalize hes:e::es0=es at *;refine⟨_,rfl,q,vs,0,.ref b0,rfl,rfl,SqT.of (J.sm _ _ hq),Y9 (by decide) eb0,b0,_,0,.str e.1,rfl,rfl,SqT.of (J.sm _ _ hb0),rfl,e.1,rfl,l1,l2,fun fd hfd=>?_⟩;refine⟨_,rfl,Zd,[((Sum.inr (bg e.1):Key),V.bl true)],rfl,by simp,?_⟩;rw[ZbG];have s2:Same H1 (upd H1 fd (.dK (JT [] [((Sum.inr (bg e.1):Key),V.bl true)]))):=Zb hfd;have hfd2:(upd H1 fd (.dK (JT [] [((Sum.inr (bg e.1):Key),V.bl true)]))) fd=some (.dK (bD [bg e.1])):=Zd;generalize upd H1 fd (.dK (JT [] [((Sum.inr (bg e.1):Key),V.bl true)]))=H2 at s2 hfd2;refine⟨_,rfl,Zl (show 1<=1000 by decide),fun wl hwl=>?_⟩;have hwl1:H1 wl=none:=s2.free hwl;have hne:wl≠fd:=fun z=>by rw[z,hfd2]at hwl;cases hwl
  have s3:=s2.trans (Zb (o:=.lst [.str (bg e.1)]) hwl);have hfd3:=Zb (o:=.lst [.str (bg e.1)]) hwl _ _ hfd2;have hwl3:(upd H2 wl (.lst [.str (bg e.1)])) wl=some (.lst ([bg e.1].map V.str)):=Zd;generalize upd H2 wl (.lst [.str (bg e.1)])=H3 at s3 hfd3 hwl3;have shift:∀ {H4:Hp} (F W:List Str),Same H1 H4->Same H1 (upd (upd H4 fd (.dK (bD F))) wl (.lst (W.map V.str))):=fun F W s b u hb=>by
   rw[Zi (Zm hb hwl1),Zi (Zm hb hfd)];exact s b u hb
  have shW:∀ {H4:Hp} (o:HO),Same H1 H4->Same H1 (upd H4 wl o):=fun o s b u hb=>by
   rw[Zi (Zm hb hwl1)];exact s b u hb
  have shF:∀ {H4:Hp} (o:HO),Same H1 H4->Same H1 (upd H4 fd o):=fun o s b u hb=>by
   rw[Zi (Zm hb hfd)];exact s b u hb
  try dsimp only[J0]
  show Zor (Zfw _ _) _ _ _ _;refine YL (fun σ H4=>∃ (F:List Str) (z5 z6:Option V),σ=[some (.ref q),some (.ref d),some (.str (bg e.1)),some (.ref fd),some (.ref wl),z5,z6]/\Same H1 H4/\H4 fd=some (.dK (bD F))/\Wk es (bg e.1) ks F []/\∀ x∈F,∀ y,Adj es x y->y∈F) (fun R hR=>?_) ?_
  ·refine⟨fun m σ H4=>∃ (F W:List Str) (z5 z6:Option V),σ=[some (.ref q),some (.ref d),some (.str (bg e.1)),some (.ref fd),some (.ref wl),z5,z6]/\Same H1 H4/\H4 fd=some (.dK (bD F))/\H4 wl=some (.lst (W.map V.str))/\Wk es (bg e.1) ks F W/\(∀ x∈F,x∉W->∀ y,Adj es x y->y∈F)/\m=2*(ks.length-F.length)+W.length/\m<=2*ks.length,
    ⟨_,[bg e.1],[bg e.1],none,none,rfl,s3,hfd3,hwl3,⟨by simp,by simp,(fun x hx=>by rw[Qp.mp hx];exact .here),fun x hx=>hx,fun x hx=>by rw[Qp.mp hx];exact haK⟩,(fun x hx hw=>absurd hx hw),rfl,by have:=Uc haK;simp only[QK];omega⟩,?_⟩
   rintro m σ H4 ⟨F,W,z5,z6,rfl,s4,hfd4,hwl4,hW,hcl,hm,hw5⟩;refine⟨_,rfl,.ref wl,_,rfl,.inl ⟨_,SqL.of hwl4,rfl⟩,_,_,rfl,rfl,_,rfl,?_⟩;rcases Rf W with rfl | ⟨r0,here,rfl⟩
   ·exact Xa (by decide) (hR _ _ ⟨F,z5,z6,rfl,s4,hfd4,hW,fun x hx=>hcl x hx (fun z=>by cases z)⟩)
   rw[R1]at *;refine Jp (decide_eq_true (by rw[QH,Qm,Wu,QK];omega)) ?_;have hhF:here∈F:=hW.sub here (by simp);have hhK:=hW.inn here hhF;rw[Qm,QK]at hm;refine⟨fun σ' H'=>∃ m',m'<m/\∃ (F W:List Str) (z5 z6:Option V),σ'=[some (.ref q),some (.ref d),some (.str (bg e.1)),some (.ref fd),some (.ref wl),z5,z6]/\Same H1 H'/\H' fd=some (.dK (bD F))/\H' wl=some (.lst (W.map V.str))/\Wk es (bg e.1) ks F W/\(∀ x∈F,x∉W->∀ y,Adj es x y->y∈F)/\m'=2*(ks.length-F.length)+W.length/\m'<=2*ks.length,fun _ _ z=>z,?_⟩;refine⟨_,rfl,.inl ⟨rfl,_,SqL.of hwl4⟩,wl,_,V.str here,rfl,rfl,hwl4,by rw[QH,Wu];simp,?_⟩;rw[show((r0++[here]).map V.str).dropLast=r0.map V.str by rw[QH,Wu,Vb]];have s5:Same H1 (upd H4 wl (.lst (r0.map V.str))):=shW _ s4;have hwl5:(upd H4 wl (.lst (r0.map V.str))) wl=some (.lst (r0.map V.str)):=Zd;have hfd5:(upd H4 wl (.lst (r0.map V.str))) fd=some (.dK (bD F)):=by rw[Zi (Ne.symm hne)];exact hfd4
   generalize upd H4 wl (.lst (r0.map V.str))=H5 at s5 hwl5 hfd5;refine⟨_,rfl,_,rfl,d,.ref (adr here),rfl,.inl ⟨_,Sum.inr here,.inl (s5 _ _ J.dd),rfl,by rw[ZfO,if_pos hhK]⟩,adr here,rfl,⟨_,SqL.of (s5 _ _ (J.row here hhK))⟩,?_⟩;refine YK (K:=K) (a:=adr here) (xs:=(r here).map V.str) (fun j σ' H'=>∃ (F W:List Str) (z6:Option V),σ'=[some (.ref q),some (.ref d),some (.str (bg e.1)),some (.ref fd),some (.ref wl),some (.str here),z6]/\Same H1 H'/\H' fd=some (.dK (bD F))/\H' wl=some (.lst (W.map V.str))/\Wk es (bg e.1) ks F W/\(∀ x∈F,x∉W->x≠here->∀ y,Adj es x y->y∈F)/\(∀ y∈(r here).take j,y∈F)/\2*(ks.length-F.length)+W.length+1<=m)
    ⟨F,r0,z6,rfl,s5,hfd5,hwl5,⟨hW.nd,hW.fst,hW.rch,fun x hx=>hW.sub x (Q0 _ hx),hW.inn⟩,fun x hx h1 h2=>hcl x hx (fun z=>by rcases QE.mp z with z | z;exact h1 z;exact h2 (Qp.mp z)),(fun y hy=>by rw[R3]at hy;cases hy),by omega⟩
    (fun i σ' H' _ ⟨_,_,_,_,s6,_⟩=>SqL.of (s6 _ _ (J.row here hhK))) ?_ ?_
   ·rintro j x σ' H6 hj ⟨F6,W6,z6',rfl,s6,hfd6,hwl6,hW6,hcl6,hin6,hm6⟩;rw[Qd]at hj;obtain⟨y,hy,rfl⟩:=RV.mp hj;have hya:Adj es here y:=(hadj here y).mp (WI hy);have hyK:y∈ks:=by
     obtain⟨e',he',q'⟩:=hya;rcases q' with ⟨_,q'⟩ | ⟨_,q'⟩
     ·exact(hk.mem y).mpr ⟨e',he',.inr q'⟩
     ·exact(hk.mem y).mpr ⟨e',he',.inl q'⟩
    have htk:(r here).take (j+1)=(r here).take j++[y]:=by
     rw[VA,hy];rfl
    have hle6:=hW6.le;refine⟨_,rfl,_,rfl,fd,XF (bD F6) (Sum.inr y),rfl,.inl ⟨_,Sum.inr y,.inl hfd6,rfl,rfl⟩,?_⟩;rw[ZmK];by_cases c:y∈F6
    ·rw[if_pos c];refine⟨_,rfl,Xa rfl ⟨F6,W6,_,rfl,s6,hfd6,hwl6,hW6,hcl6,fun y' hy'=>?_,hm6⟩⟩;rw[htk]at hy';rcases QE.mp hy' with z | z
     ·exact hin6 y' z
     ·rw[Qp.mp z];exact c
    ·rw[if_neg c];have hW7:Wk es (bg e.1) ks (F6++[y]) (W6++[y]):=⟨WL.mpr ⟨hW6.nd,by simp,fun a ha b hb e=>by rw[Qp.mp hb]at e;subst e;exact c ha⟩,Q0 _ hW6.fst,(fun x hx=>by
       rcases QE.mp hx with z | z
       ·exact hW6.rch x z
       ·rw[Qp.mp z];exact .step (hW.rch here hhF) hya),(fun x hx=>by
       rcases QE.mp hx with z | z
       ·exact Q0 _ (hW6.sub x z)
       ·rw[Qp.mp z];simp),fun x hx=>by
       rcases QE.mp hx with z | z
       ·exact hW6.inn x z
       ·rw[Qp.mp z];exact hyK⟩
     have hlt:F6.length+1<=ks.length:=by
      have:=hW7.le;rw[Qm,QK]at this;exact this
     refine⟨_,rfl,Jp rfl ⟨_,rfl,_,rfl,fd,_,rfl,DPut.kk (k:=Sum.inr y) hfd6 (by rw[ZpN];exact ZM (by omega)),?_⟩⟩;rw[ZpM,show Jq F6 y=F6++[y]by unfold Jq;rw[if_neg c]];have s7:Same H1 (upd H6 fd (.dK (bD (F6++[y])))):=shF _ s6;have hfd7:(upd H6 fd (.dK (bD (F6++[y])))) fd=some (.dK (bD (F6++[y]))):=Zd;have hwl7:(upd H6 fd (.dK (bD (F6++[y])))) wl=some (.lst (W6.map V.str)):=by rw[Zi hne];exact hwl6
     generalize upd H6 fd (.dK (bD (F6++[y])))=H7 at s7 hfd7 hwl7;refine⟨_,rfl,.inl ⟨rfl,_,SqL.of hwl7⟩,_,rfl,wl,_,.str y,rfl,rfl,hwl7,by rw[Qc];exact ZM (by omega),?_⟩;refine⟨F6++[y],W6++[y],_,rfl,shW _ s7,by rw[Zi (Ne.symm hne)];exact hfd7,by rw[Zd,QH,Wu],hW7,fun x hx hxw hxh y' hy'=>?_,fun y' hy'=>?_,by rw[Qm,Qm,QK];omega⟩
     ·rcases QE.mp hx with z | z
      ·exact Q0 _ (hcl6 x z (fun q=>hxw (Q0 _ q)) hxh y' hy')
      ·exact absurd (Q4 _ z) hxw
     ·rw[htk]at hy';rcases QE.mp hy' with z | z
      ·exact Q0 _ (hin6 y' z)
      ·exact Q4 _ z
   ·rintro σ' H6 ⟨F6,W6,z6',rfl,s6,hfd6,hwl6,hW6,hcl6,hin6,hm6⟩;rw[Qc,RK]at hin6;refine⟨_,?_,F6,W6,_,_,rfl,s6,hfd6,hwl6,hW6,fun x hx hxw y hxy=>?_,rfl,?_⟩
    ·omega
    ·by_cases c:x=here
     ·subst c;exact hin6 y ((hadj x y).mpr hxy)
     ·exact hcl6 x hx hxw c y hxy
    ·omega
  ·rintro σ H4 ⟨F,z5,z6,rfl,s4,hfd4,hW,hcl⟩;have hle:=hW.le;refine⟨_,rfl,fd,F,fun _=>.bl true,rfl,hfd4,hW.nd,by omega,fun p ss hp hpm hsrt=>?_⟩;refine⟨p,_,rfl,.inl ⟨SqL.of Zd,fun l hl=>?_⟩⟩;refine k (.ref l) _ ss (((J.sm.trans s4).trans (Zb hp)).trans (Zb hl)) ⟨l,rfl,Zd⟩ (Zga (hpm.nodup_iff.mpr hW.nd) hsrt) (by rw[hpm.length_eq];omega) fun x=>?_;rw[hpm.mem_iff];exact⟨hW.rch x,fun z=>Rch.closed hW.fst hcl z⟩
theorem ZnE {F:List Str}:∀ {ks:List Str},F.Nodup->(∀ x∈F,x∈ks)->F.length<=ks.length:=by
 induction F with
 | nil=>exact fun _ _=>QO _
 | cons x F ih =>
  intro ks h1 h2;have nd':=Q7.mp h1;have hx:=h2 x (Qi ..);have:=ih (ks:=ks.erase x) nd'.2 fun y hy=>(WJ (fun(q:y=x)=>nd'.1 (q▸hy))).mpr (h2 y (Ql _ hy));rw[QW hx]at this;have hpos:0<ks.length:=Uc hx;rw[QL];omega
theorem Zo7 {F:List Str} (h1:F.Nodup) (h2:∀ x∈F,x∈ks) (he:F.length=ks.length):∀ x∈ks,x∈F:=by
 intro x hx;apply Classical.byContradiction;intro hn;have:=ZnE (ks:=ks.erase x) h1 fun y hy=>(WJ (fun(q:y=x)=>hn (q▸hy))).mpr (h2 y hy);rw[QW hx]at this;have hpos:0<ks.length:=Uc hx;omega
theorem Zk6 (h:(ss.map fun x=>x.cps.toList).Pairwise (· < ·)):ss.Nodup:=by
 rw[QR]at h;refine h.imp fun {a b} q e=>?_;subst e;exact Wm _ q
theorem Rch.pt {e:Str×Int} (h:Rch (e::es) (bg e.1) x):∃ e'∈e::es,bg e'.1=x\/en e'.1=x:=by
 cases h with
 | here=>exact⟨e,by simp,.inl rfl⟩
 | step _ k =>
  obtain⟨e',he,⟨_,q⟩ | ⟨_,q⟩⟩:=k
  ·exact⟨e',he,.inr q⟩
  ·exact⟨e',he,.inl q⟩
theorem Zlx {e:Str×Int} {pp:List Str} (n1:ss.Nodup) (h1:∀ x,x∈ss↔Rch (e::es) (bg e.1) x) (n2:pp.Nodup) (h2:∀ x,x∈pp↔∃ e'∈e::es,bg e'.1=x\/en e'.1=x) :
  ss.length=pp.length↔∀ e'∈e::es,Rch (e::es) (bg e.1) (bg e'.1):=by
 have sub:∀ x∈ss,x∈pp:=fun x hx=>(h2 x).mpr ((h1 x).mp hx).pt;constructor
 ·intro he e' he';exact(h1 _).mp (Zo7 n1 sub he _ ((h2 _).mpr ⟨e',he',.inl rfl⟩))
 ·intro h;have:∀ x∈pp,x∈ss:=fun x hx=>by
   obtain⟨e',he',q | q⟩:=(h2 x).mp hx
   ·rw[←q];exact(h1 _).mpr (h e' he')
   ·exact(h1 _).mpr (.step (h e' he') ⟨e',he',.inl ⟨rfl,q⟩⟩)
  have a:=ZnE n1 sub;have b:=ZnE n2 this;omega
abbrev ZiE:Stmt:=top 16
abbrev Zpb:List Str:=["H"]
theorem Znh:Zo Zpb ["H"] (Zf ZiE):=⟨rfl,rfl,rfl,by decide +kernel,rfl,by decide +kernel,by decide +kernel⟩
def Zii:Sp:=fun vs H Q _=>∃ (v:V) (e:Str×Int) (es:Es),vs=[v]/\HeapV H v (e::es)/\Jo (e::es)/\∀ H' (b:Bool),Same H H'->(b=true↔∀ e'∈e::es,Rch (e::es) (bg e.1) (bg e'.1))->Q (.bl b) H'
theorem Zk4 (D:HasDef K mg "hangs" ZiE ["H"]) (B:Blt mg) (g36_:FOk P w K mg base 3 "part_of" ["H"] Zl2) (g40_:FOk P w K mg base 3 "points_of" ["H"] Xy):FOk P w K mg base 4 "hangs" ["H"] Zii:=by
 refine D.ok Znh (fun vs H Q E h=>?_) (fun f cdv A outer s H vs Q E hr h=>?_)
 ·obtain⟨v,e,es,rfl,_⟩:=h;rfl
 ·obtain⟨v,e,es,rfl,hV,hF,k⟩:=h;refine⟨_,(Zh (Zp (Zcc XH (Zk Zr rfl B.len ZV (Za (Zq g36_ hr (Za (pv 0) Ze)) Ze)) (Zk Zr rfl B.len ZV (Za (Zq g40_ hr (Za (pv 0) Ze)) Ze)) (Zx _)))),?_⟩;refine⟨_,rfl,v,e,es,rfl,hV,hF,fun v1 H1 ss s1 ht1 hs1 hl1 hm1=>?_⟩;obtain⟨q1,rfl,hq1⟩:=id ht1;refine⟨.ref q1,ss.length,rfl,.inr ⟨_,SqT.of hq1,by rw[Qc]⟩,_,rfl,v,e::es,rfl,hV.same s1,hF,fun v2 H2 pp s2 ht2 hp2=>?_⟩;obtain⟨q2,rfl,hq2⟩:=id ht2;refine⟨.ref q2,pp.length,rfl,.inr ⟨_,SqT.of hq2,by rw[Qc]⟩,?_⟩;refine⟨rfl,k _ _ (s1.trans s2) ?_⟩;rw[Ze7,←Zlx (Zk6 hs1) hm1 hp2.pts.nd hp2.pts.mem,beq_iff_eq];exact⟨fun z=>by omega,fun z=>by rw[z]⟩
theorem ZqX {p:Str×Int->Bool}:es.filter p=((Qx es.length).filter fun i=>p (es.getD i ("",0))).map fun i=>es.getD i ("",0):=by
 have e:es=(Qx es.length).map fun i=>es.getD i ("",0):=by
  apply QT;intro i;rw[Qd];by_cases hi:i<es.length
  ·rw[QM hi,Wj,Qb,Qa hi];rfl
  ·rw[Qo (by omega),Qo (by simp;omega)];rfl
 conv=>lhs;rw[e]
 rw[UB];rfl
theorem Zgl {vs:List V} {p:Str×Int->Bool} (hn:n=es.length) (hl:vs.length=((Qx n).filter fun i=>p (es.getD i ("",0))).length)
  (hR:∀ (j i:Nat) (v:V),((Qx n).filter fun i=>p (es.getD i ("",0)))[j]?=some i->vs[j]?=some v->v= .int (es.getD i ("",0)).2):vs=((es.filter p).map fun e=>e.2).map V.int:=by
 subst hn;rw[ZqX];apply QT;intro j;rw[Qd,Qd,Qd];cases hj:((Qx es.length).filter fun i=>p (es.getD i ("",0)))[j]? with
 | none =>
  rw[Qo (by rw[hl];exact Ul.mp hj)];rfl
 | some i =>
  have hjv:j<vs.length:=by rw[hl];exact(Qn.mp hj).1
  rw[Qa hjv,hR j i vs[j] hj (Qa hjv)];rfl
theorem Zh0:∀ l:List Int,(∀ x∈l,0<=x/\x<=1000)->0<=l.sum/\l.sum<=1000*l.length
 | [],_=>⟨UV _,UV _⟩
 | x::l,h=>by
  have h1:=Zh0 l fun y hy=>h y (Ql _ hy);have h2:=h x (Qi ..);rw[Qw,QL];omega
theorem Zli (hF:Jo es) (p:Str×Int->Bool):(∀ x∈(es.filter p).map fun e=>e.2,InLong x)/\∀ k,InLong (((es.filter p).map fun e=>e.2).take k).sum:=by
 have hb:∀ x∈(es.filter p).map fun e=>e.2,0<=x/\x<=1000:=fun x hx=>by
  obtain⟨e,he,rfl⟩:=Qj.mp hx;exact hF.many e (QD.mp he).1
 refine⟨fun x hx=>?_,fun k=>?_⟩
 ·have:=hb x hx;unfold InLong;omega
 ·have h1:=Zh0 _ fun x hx=>hb x (Wr hx (i:=k));have h2:(((es.filter p).map fun e=>e.2).take k).length<=64:=by
   rw[QB,Qc];have:=Wa p es;have:=hF.few;omega
  unfold InLong;omega
def Zbq (es:Es) (y:Str):Int:=((es.filter fun e=>decide (bg e.1=y)).map fun e=>e.2).sum
theorem dec_str:decide (V.str x=V.str y)=decide (x=y):=by
 rw[Ug];simp
abbrev ZbW:Stmt:=top 4
abbrev Zjj:List Str:=["H","P"]
theorem ZkD:Zo Zjj ["H","P"] (Zf ZbW):=⟨rfl,rfl,rfl,by decide +kernel,rfl,by decide +kernel,by decide +kernel⟩
def Zl3:Sp:=fun vs H Q _=>∃ (v:V) (es:Es) (y:Str),vs=[v,.str y]/\HeapV H v es/\Jo es/\∀ H',Same H H'->Q (.int (Zbq es y)) H'
theorem Zg1 (D:HasDef K mg "outs_of" ZbW ["H","P"]) (B:Blt mg) (g12_:FOk P w K mg base 1 "begin_of" ["piece"] ZbP):FOk P w K mg base 2 "outs_of" ["H","P"] Zl3:=by
 refine D.ok ZkD (fun vs H Q E h=>?_) (fun f cdv A outer s H vs Q E hr h=>?_)
 ·obtain⟨v,es,y,rfl,_⟩:=h;rfl
 ·obtain⟨v,es,y,rfl,⟨q,vs,rfl,hq,hpa⟩,hF,k⟩:=h;refine⟨_,(Zh (Zp (Zk (Zd7 rfl) rfl B.sum ZlL (Za (ZH (Zf ZbW) Zjj ["piece","many"] [1] rfl (Yy (pv 0)) (fun _ _ _ _ _=>Z5 2 K rfl (Zu (Z0 0) (Zu (Z0 1) Z4))) (fun _ _ _ _ _=>pcs_one (Zs XH (Zq g12_ hr (Za (pv 0) Ze)) (pv 2) (Zx _))) (fun _ _ _ _ _=>(pv 1))) Ze)))),?_⟩;have hfew:=hF.few;have hvl:=hpa.1;refine⟨_,rfl,q,rfl,⟨_,SqT.of hq⟩,ZaR vs.length (fun i=>vs.getD i .non) (fun i=>(fun e:Str×Int=>decide (bg e.1=y)) (es.getD i ("",0))) (fun i v _=>v= .int (es.getD i ("",0)).2) (Zl (by omega)) (fun _ _ _ _ _ r=>r) (JV (SqT.of hq)) ?_ ?_⟩
  ·intro i H3 Qt Qf hi hs ht hf;have hie:i<es.length:=by omega
   obtain⟨b,e1,e2⟩:=hpa.2 i es[i] (Qa hie);have ev:vs.getD i .non= .ref b:=by rw[Qb,e1];rfl
   have ee:es.getD i ("",0)=es[i]:=by rw[Qb,Qa hie];rfl
   obtain⟨l1,l2⟩:=hF.long es[i] (QF hie);rw[ee]at ht hf;rw[ev];refine⟨b,_,rfl,SqT.of (hs _ _ e2),rfl,_,_,rfl,_,_,rfl,rfl,_,rfl,es[i].1,rfl,l1,l2,_,rfl,rfl,_,rfl,?_⟩;rw[dec_str];by_cases c:bg es[i].1=y
   ·exact Jp (decide_eq_true c) ⟨_,rfl,ht (decide_eq_true c) _ _ (Same.refl _) rfl⟩
   ·exact Xa (decide_eq_false c) (hf (decide_eq_false c) _ (Same.refl _))
  intro D2 vs2 H16 hl2 hR2 s16 hD2 hDl2;rw[Zgl (p:=fun e=>decide (bg e.1=y)) hvl hl2 hR2]at hDl2;obtain⟨o1,o2⟩:=Zli hF fun e=>decide (bg e.1=y);exact⟨D2,_,rfl,SqL.of hDl2,o1,o2,k _ s16⟩
def Z8 (f:Nat->Nat):Z7:=fun r c=>(if c=r then 1 else 0)-(if c=f r then 1 else 0)
def Zef (f:Nat->Nat) (p v:Nat):Nat->Nat:=fun r=>if r=p then v else f r
theorem Zav (f:Nat->Nat) (p v:Nat):Zef f p v p=v:=by unfold Zef;rw[if_pos rfl]
theorem Zir {v r:Nat} (h:r≠p):Zef f p v r=f r:=by unfold Zef;rw[if_neg h]
theorem Zip (f:Nat->Nat) (p v u:Nat):Zef (Zef f p v) p u=Zef f p u:=by
 funext r
 unfold Zef;split <;> rfl
theorem Ziq (f:Nat->Nat) (p:Nat):Zef f p (f p)=f:=by
 funext r
 unfold Zef;split
 ·rename_i h;rw[h]
 ·rfl
theorem Zio (hp:p<n) (hq:f p<n) (hne:f p≠p):det n (Z8 (Zef f p (f (f p))))=det n (Z8 f):=by
 have h:=Zj4 (n:=n) (f:=Z8 f) (p:=p) (q:=f p) 1 1 (fun e=>hne e.symm) hp hq;rw[Q9]at h;rw[←h];congr 1
 funext r c
 unfold Z9;by_cases e:r=p
 ·subst e;rw[if_pos rfl];unfold Z8;rw[Zav];omega
 ·rw[if_neg e];unfold Z8;rw[Zir e]
def itr (f:Nat->Nat):Nat->Nat->Nat
 | 0,x=>x
 | k+1,x=>f (itr f k x)
theorem Xq (f:Nat->Nat) (a:Nat):∀ (b x:Nat),itr f (a+b) x=itr f b (itr f a x)
 | 0,x=>rfl
 | b+1,x=>by
  show f (itr f (a+b) x)=f (itr f b (itr f a x));rw[Xq f a b x]
theorem Jw {n p:Nat} {f:Nat->Nat} (hp:p<n):∀ k:Nat,(∀ j,1<=j->j<=k->itr f j p<n/\itr f j p≠p)->det n (Z8 (Zef f p (itr f (k+1) p)))=det n (Z8 f)
 | 0,_=>by
  show det n (Z8 (Zef f p (f p)))=_;rw[Ziq]
 | k+1,h=>by
  have ih:=Jw hp k fun j h1 h2=>h j h1 (by omega);obtain⟨h1,h2⟩:=h (k+1) (by omega) (Qk _);rw[←ih];have:=Zio (n:=n) (p:=p) (f:=Zef f p (itr f (k+1) p)) hp (by rw[Zav];exact h1) (by rw[Zav];exact h2);rw[Zav,Zir h2,Zip]at this;exact this
theorem ZhI (hp:p<n) (e:f p=p):det n (Z8 f)=0:=by
 have h:=Zj0 (n:=n) (f:=Z8 f) (p:=p) 0 hp;rw[Wx]at h;rw[←h];congr 1
 funext r c
 unfold Z9;by_cases q:r=p
 ·subst q;rw[if_pos rfl];unfold Z8;rw[e];omega
 ·rw[if_neg q]
def gof (n:Nat) (f:Nat->Nat) (x:Nat):Nat:=if x<n then f x else x
theorem ZdR {x:Nat} (h:x<n):gof n f x=f x:=if_pos h
theorem Zn5 {x:Nat} (h:¬ x<n):gof n f x=x:=if_neg h
theorem Zcx {n x:Nat} {f:Nat->Nat} (h:¬ x<n):∀ k,itr (gof n f) k x=x
 | 0=>rfl
 | k+1=>by
  show gof n f (itr (gof n f) k x)=x;rw[Zcx h k,Zn5 h]
theorem Zlp {x:Nat} {a b:Nat} (hab:a<=b) (h:itr (gof n f) b x<n):itr (gof n f) a x<n:=by
 false_or_by_contra;rename_i q;obtain⟨c,rfl⟩:∃ c,b=a+c:=⟨b-a,by omega⟩
 rw[Xq,Zcx q]at h;exact q h
theorem Zcy {n x:Nat} {f:Nat->Nat}:∀ {k:Nat},(∀ j,j<k->itr (gof n f) j x<n)->itr (gof n f) k x=itr f k x
 | 0,_=>rfl
 | k+1,h=>by
  have ih:=Zcy (k:=k) fun j hj=>h j (by omega);show gof n f (itr (gof n f) k x)=f (itr f k x);rw[ZdR (h k (by omega)),ih]
def Zgc (n:Nat) (f:Nat->Nat):Prop:=∀ i,i<n->¬ itr (gof n f) n i<n
theorem Zmu {P:Nat->Prop}:∀ n,P n->∃ m,m<=n/\P m/\∀ k,k<m->¬ P k:=by
 intro n;induction n using Nat.strongRecOn with
 | ind n ih =>
  intro p;by_cases c:∃ k,k<n/\P k
  ·obtain⟨k,k2,k3⟩:=c;obtain⟨m,m2,m3,m4⟩:=ih k k2 k3;exact⟨m,by omega,m3,m4⟩
  ·exact⟨n,Qk n,p,fun k k2 k3=>c ⟨k,k2,k3⟩⟩
theorem Zj2 {j t:Nat} (ht:1<=t) (hin:∀ k,k<t->itr f k j<n) (e:itr f t j=j):det n (Z8 f)=0:=by
 obtain⟨m,m1,⟨m0,m2⟩,m3⟩:=Zmu (P:=fun k=>1<=k/\itr f k j=j) t ⟨ht,e⟩;have hj:j<n:=hin 0 (by omega);obtain⟨k,rfl⟩:∃ k,m=k+1:=⟨m-1,by omega⟩
 have h:=Jw (n:=n) (p:=j) (f:=f) hj k fun i h1 h2=>⟨hin i (by omega),fun q=>m3 i (by omega) ⟨h1,q⟩⟩
 rw[←h];exact ZhI hj (by rw[Zav,m2])
theorem ZoR (g:Nat->Nat) (h:∀ i,i<=n->g i<n):∃ a b,a<b/\b<=n/\g a=g b:=by
 false_or_by_contra;rename_i no;have nd:((Qx (n+1)).map g).Nodup:=by
  rw[Ui,QR];refine List.Pairwise.imp_of_mem ?_ U6;intro a b ha hb hab e;have:=Wg.mp hb;exact no ⟨a,b,hab,by omega,e⟩
 have le:=Yh (B:=Qx n) nd fun x hx=>by
  obtain⟨i,hi,rfl⟩:=Qj.mp hx;exact Wg.mpr (h i (by have:=Wg.mp hi;omega))
 rw[Qc,Wh,Wh]at le;omega
theorem Zhr (h:¬ Zgc n f):det n (Z8 f)=0:=by
 obtain⟨i,hi,hn⟩:∃ i,i<n/\itr (gof n f) n i<n:=by
  false_or_by_contra;rename_i no;exact h fun i hi q=>no ⟨i,hi,q⟩
 have hall:∀ k,k<=n->itr (gof n f) k i<n:=fun k hk=>Zlp hk hn;obtain⟨a,b,hab,hb,e⟩:=ZoR (fun k=>itr (gof n f) k i) hall;have sm:∀ k,k<=n->itr (gof n f) k i=itr f k i:=fun k hk=>Zcy fun j hj=>hall j (by omega);rw[sm a (by omega),sm b hb]at e;refine Zj2 (n:=n) (f:=f) (j:=itr f a i) (t:=b-a) (by omega) (fun k hk=>?_) ?_
 ·rw[←Xq,←sm (a+k) (by omega)];exact hall _ (by omega)
 ·rw[←Xq,show a+(b-a)=b by omega,e]
def Zhw (n p:Nat) (f:Nat->Nat):Nat->Nat:=fun i=>if i<p then n else f i
theorem Zd4 {n p:Nat} {f:Nat->Nat}:∀ (m x:Nat),¬ itr (gof n f) m x<n->∃ m',¬ itr (gof n (Zhw n p f)) m' x<n
 | 0,x,h=>⟨0,h⟩
 | m+1,x,h=>by
  by_cases c:x<n
  ·by_cases q:x<p
   ·refine⟨1,?_⟩;show ¬ gof n (Zhw n p f) x<n;rw[ZdR c];unfold Zhw;rw[if_pos q];exact Wi n
   ·rw[show m+1=1+m by omega,Xq]at h;obtain⟨m',hm⟩:=Zd4 m _ h;refine⟨1+m',?_⟩;rw[Xq];have e:itr (gof n (Zhw n p f)) 1 x=itr (gof n f) 1 x:=by
     show gof n (Zhw n p f) x=gof n f x;rw[ZdR c,ZdR c];unfold Zhw;rw[if_neg q]
    rw[e];exact hm
  ·exact⟨0,c⟩
theorem ZjZ (hp:p<n) {m:Nat} (hm:¬ itr (gof n f) m p<n) (hr:∀ i,i<n->f i<=n):det n (Z8 (Zef f p n))=det n (Z8 f):=by
 obtain⟨t,_,t2,t3⟩:=Zmu (P:=fun k=>¬ itr (gof n f) k p<n) m hm;have t0:t≠0:=fun q=>t2 (by rw[q];exact hp);obtain⟨k,rfl⟩:∃ k,t=k+1:=⟨t-1,by omega⟩
 have hin:∀ j,j<k+1->itr (gof n f) j p<n:=fun j hj=>by
  false_or_by_contra;rename_i q;exact t3 j hj q
 have sm:∀ j,j<=k+1->itr (gof n f) j p=itr f j p:=fun j hj=>Zcy fun i hi=>hin i (by omega);have h:=Jw (n:=n) (p:=p) (f:=f) hp k fun j h1 h2=>⟨by rw[←sm j (by omega)];exact hin j (by omega),fun q=>?_⟩
 ·have hout:itr f (k+1) p=n:=by
   have h1:¬ itr f (k+1) p<n:=by rw[←sm (k+1) (Qk _)];exact t2
   have h2:itr f (k+1) p<=n:=hr _ (by rw[←sm k (by omega)];exact hin k (by omega));omega
  rw[hout]at h;exact h
 ·have q':itr (gof n f) j p=p:=by rw[sm j (by omega)];exact q
  have:∀ c,itr (gof n f) (c*j) p=p:=fun c=>by
   induction c with
   | zero=>rw[Vq];rfl
   | succ c ih=>rw[RF,Xq,ih,q']
  have h3:=this (k+1);have h4:itr (gof n f) ((k+1)*j) p=itr (gof n f) (k+1) p:=by
   have hle:k+1<=(k+1)*j:=Nat.le_mul_of_pos_right _ (by omega);rw[show(k+1)*j=(k+1)+((k+1)*j-(k+1))by omega,Xq,Zcx t2]
  rw[h3]at h4;exact t2 (by rw[←h4];exact hp)
theorem Zj1 (hr:∀ i,i<n->f i<=n) (h:Zgc n f):det n (Z8 f)=1:=by
 have key:∀ p,p<=n->det n (Z8 (Zhw n p f))=det n (Z8 f):=by
  intro p;induction p with
  | zero =>
   intro _;congr 2
  | succ p ih =>
   intro hp;rw[←ih (by omega)];obtain⟨m,hm⟩:=Zd4 (p:=p) n p (h p (by omega));have:=ZjZ (n:=n) (p:=p) (f:=Zhw n p f) (by omega) hm fun i hi=>by
    unfold Zhw;split
    ·exact Qk _
    ·exact hr i hi
   rw[←this];congr 2
   funext i
   unfold Zhw Zef;by_cases e:i=p
   ·subst e;rw[if_pos (by omega),if_pos rfl]
   ·rw[if_neg e];by_cases q:i<p
    ·rw[if_pos (by omega)];exact(if_pos q).symm
    ·rw[if_neg (by omega)];exact(if_neg q).symm
 rw[←key n (Qk n)];have e1:det n (Z8 (Zhw n n f))=det n fun r c=>if c=r then 1 else 0:=Yk fun r hr c hc=>by
  unfold Z8 Zhw;rw[if_pos hr,if_neg (Qz hc)];omega
 rw[e1,Zd1 fun k j hj=>by rw[if_neg (by omega)]];have:(XT n fun i=>if i=i then (1:Int)else 0)=XT n fun _=>1:=ZaE fun i _=>if_pos rfl;rw[this,Zdh]
abbrev Tie:=Nat×Int
def Znj (n r:Nat) (ts:List Tie):Nat->Int:=fun c=>(ts.map fun t=>t.2*((if c=r then 1 else 0)-(if c=t.1 then 1 else 0))).sum
def XG (n:Nat) (T:Nat->List Tie) (ch:List Nat):Z7:=fun r=>if r<ch.length then Z8 (fun i=>ch.getD i n) r else Znj n r (T r)
noncomputable def ZK (n:Nat) (T:Nat->List Tie):Nat->List Nat->Int
 | 0,ch=>by
  classical
  exact if Zgc n (fun i=>ch.getD i n)then 1 else 0
 | k+1,ch=>((T ch.length).map fun t=>t.2*ZK n T k (ch++[t.1])).sum
theorem ZcK {n:Nat} (F:Z7) {p:Nat} (hp:p<n) (u:Nat->Nat->Int):∀ ts:List Tie,det n (Z9 F p fun c=>(ts.map fun t=>t.2*u t.1 c).sum)=(ts.map fun t=>t.2*det n (Z9 F p (u t.1))).sum
 | []=>by
  rw[We,Ri];have h:=Zj0 (n:=n) (f:=Z9 F p fun _=>0) (p:=p) 0 hp;rw[Wx]at h;rw[←h,Zit];congr 1;congr 1
  funext c
  rw[Wx];rfl
 | t::ts=>by
  rw[Qh,Qw,←ZcK F hp u ts];have h:=Xr F (p:=p) t.2 1 (u t.1) (fun c=>(ts.map fun t=>t.2*u t.1 c).sum) hp;rw[Q9]at h;rw[←h];congr 2
  funext c
  rw[Qh,Qw,Q9]
theorem X0 {n:Nat} {T:Nat->List Tie} (hT:∀ r t,t∈T r->t.1<=n):∀ (k:Nat) (ch:List Nat),ch.length+k=n->(∀ x∈ch,x<=n)->ZK n T k ch=det n (XG n T ch)
 | 0,ch,hl,hc=>by
  have e:det n (XG n T ch)=det n (Z8 fun i=>ch.getD i n):=Yk fun r hr c _=>by
   unfold XG;rw[if_pos (by omega)]
  rw[e];have hle:∀ i,i<n->ch.getD i n<=n:=fun i hi=>by
   rw[Qb,Qa (by omega)];exact hc _ (QF _)
  unfold ZK;by_cases q:Zgc n fun i=>ch.getD i n
  ·rw[if_pos q,Zj1 hle q]
  ·rw[if_neg q,Zhr q]
 | k+1,ch,hl,hc=>by
  have hp:ch.length<n:=by omega
  unfold ZK;have ih:∀ t∈T ch.length,ZK n T k (ch++[t.1])=det n (XG n T (ch++[t.1])):=fun t ht=>X0 hT k _ (by rw[Qm,QK];omega) fun x hx=>by
   rcases QE.mp hx with q | q
   ·exact hc x q
   ·rw[Qp.mp q];exact hT _ _ ht
  have e1:((T ch.length).map fun t=>t.2*ZK n T k (ch++[t.1])).sum=((T ch.length).map fun t=>t.2*det n (Z9 (XG n T ch) ch.length fun c=>(if c=ch.length then 1 else 0)-(if c=t.1 then 1 else 0))).sum:=by
   congr 1;refine Qu fun t ht=>?_;rw[ih t ht];congr 2
   funext r c
   have hlen:(ch++[t.1]).length=ch.length+1:=by rw[Qm,QK]
   have hlast:(ch++[t.1]).getD ch.length n=t.1:=by
    rw[Qb,QQ (Qk _),WN];rfl
   have unit_cg:∀ {f g:Nat->Nat} {r:Nat},f r=g r->Z8 f r c=Z8 g r c:=fun {f g r} e=>by
    unfold Z8;rw[e]
   by_cases e:r=ch.length
   ·subst e;have h1:XG n T (ch++[t.1]) ch.length=Z8 (fun i=>(ch++[t.1]).getD i n) ch.length:=if_pos (by rw[hlen];omega);have h2:Z9 (XG n T ch) ch.length (fun c=>(if c=ch.length then 1 else 0)-(if c=t.1 then 1 else 0)) ch.length=fun c=>(if c=ch.length then 1 else 0)-(if c=t.1 then 1 else 0):=Yc;rw[h1,h2];exact unit_cg (g:=fun _=>t.1) hlast
   ·have h2:Z9 (XG n T ch) ch.length (fun c=>(if c=ch.length then 1 else 0)-(if c=t.1 then 1 else 0)) r=XG n T ch r:=Yw e;rw[h2];by_cases q:r<ch.length
    ·have h1:XG n T (ch++[t.1]) r=Z8 (fun i=>(ch++[t.1]).getD i n) r:=if_pos (by rw[hlen];omega);have h3:XG n T ch r=Z8 (fun i=>ch.getD i n) r:=if_pos q;rw[h1,h3];refine unit_cg ?_;show(ch++[t.1]).getD r n=ch.getD r n;rw[Qb,Qb,QP q]
    ·have h1:XG n T (ch++[t.1]) r=Znj n r (T r):=if_neg (by rw[hlen];omega);have h3:XG n T ch r=Znj n r (T r):=if_neg q;rw[h1,h3]
  rw[e1,←ZcK (XG n T ch) hp (fun v c=>(if c=ch.length then 1 else 0)-(if c=v then 1 else 0))];congr 1;have:(fun c=>((T ch.length).map fun t=>t.2*((if c=ch.length then (1:Int)else 0)-(if c=t.1 then 1 else 0))).sum)=XG n T ch ch.length:=by
   unfold XG;rw[if_neg (Wi _)];rfl
  rw[this,Yv]
end Sh
namespace L2
open PySem PySem.Spec PyProof.Rows
theorem ZdS {X:Cx}:ZqZ X (fun o i H Q=>∃ p xs,∃ k:Nat,∃ z,o= .ref p/\i= .int k/\H p=some (.lst xs)/\xs[k]?=some z/\Q z H):=by
 intro pins s σ H o i ov iv Q I ro ri h;obtain⟨p,xs,k,z,rfl,rfl,hp,hz,q⟩:=h;cases ro;obtain⟨t,rfl⟩:=ri;obtain⟨its,n,r,ho,hl⟩:=I.lst hp;obtain⟨w,ew,rw'⟩:=r.get hz;have hlen:=r.length;have hn:=ZaP;have hk:=(Qn.mp hz).1;exact wpAny_getItem_list ⟨_,ho,rfl,n,rfl⟩ (by omega) (by omega) (by simpa using ew) ⟨z,H,I,rw',q⟩
end L2
namespace Sh
open PySem L2 PyProof.Rows
seal L2.PE L2.PS L2.PSs L2.PT L2.PW L2.PA L2.PI L2.PG L2.PGs L2.PO L2.PC L2.PCs L2.OpR L2.UnR L2.CallR L2.MtR L2.IxR L2.SlR
variable {P:Program} {w:World} {K:PySem.W.Frag} {mg:Str->Option Value} {base:Heap}
def othL (ss:List Str) (r:Str):List Str:=ss.filter fun x=>decide (x≠r)
def ixD (os:List Str):List (Key×V):=gD os fun x=>(os.idxOf x:Int)
theorem ZnY {os:List Str} {x:Str} (h:x∉os):X8 (ixD os) (Sum.inr x) (.int (os.length:Int))=ixD (os++[x]):=by
 unfold ixD;rw[Zgr,if_neg h];refine Zgs fun y hy=>?_;by_cases e:y=x
 ·rw[if_pos e,e,UG,if_neg h];simp
 ·rw[if_neg e];rcases QE.mp hy with q | q
  ·rw[UG,if_pos q]
  ·exact absurd (Qp.mp q) e
theorem Zmy (os:List Str) (x:Str):XF (ixD os) (Sum.inr x)=if x∈os then some (.int (os.idxOf x:Int))else none:=Zbv _ _ _
def Ya (os:List Str) (es:Es) (r:Nat):List Tie:=(es.filter fun e=>decide (os.idxOf (bg e.1)=r)).map fun e=>(os.idxOf (en e.1),e.2)
def JO (os:List Str) (es:Es):Z7:=fun r=>Znj os.length r (Ya os es r)
def Za3 (n:Nat) (f:Nat->Int):List Int:=(Qx n).map f
theorem XA (n:Nat) (f:Nat->Int):(Za3 n f).length=n:=by unfold Za3;simp
theorem XB {n:Nat} {f:Nat->Int} {j:Nat} (h:j<n):((Za3 n f).map V.int)[j]?=some (V.int (f j)):=by
 unfold Za3;rw[Qd,Qd,QM h];rfl
theorem ZfI {n:Nat} {f:Nat->Int} {j:Nat} (m:Int):((Za3 n f).map V.int).set j (V.int (f j+m))=(Za3 n fun c=>f c+if c=j then m else 0).map V.int:=by
 apply QT;intro i;rw[List.getElem?_set];by_cases h:i<n
 ·by_cases e:j=i
  ·subst e;rw[if_pos rfl,if_pos (by rw[Qc,XA];exact h),XB h,if_pos rfl]
  ·rw[if_neg e,XB h,XB h,if_neg (Ne.symm e),Ue]
 ·have h1:∀ g:Nat->Int,((Za3 n g).map V.int)[i]?=none:=fun g=>Qo (by rw[Qc,XA];omega);rw[h1,h1];split
  ·rw[if_neg (by rw[Qc,XA];omega)]
  ·rfl
theorem J8 (os:List Str) (es:Es) (e:Str×Int) (r c:Nat):JO os (es++[e]) r c=JO os es r c+if r=os.idxOf (bg e.1)then e.2*((if c=r then 1 else 0)-(if c=os.idxOf (en e.1)then 1 else 0))else 0:=by
 unfold JO Znj Ya;rw[Wt,QH,QH,RS];congr 1;by_cases h:os.idxOf (bg e.1)=r
 ·rw[if_pos h.symm];simp[h]
 ·rw[if_neg (Ne.symm h)];simp[h]
abbrev XR:Stmt:=top 21
abbrev ZeT:List Str:=["H","root","numbers","point"]
theorem scRowNumbers:Zo ZeT ["H","root"] (Zf XR):=⟨rfl,rfl,rfl,by decide +kernel,rfl,by decide +kernel,by decide +kernel⟩
def Zl1:Sp:=fun vs H Q _=>∃ (v:V) (es:Es) (r:Str),vs=[v,.str r]/\HeapV H v es/\Jo es/\∀ d H' ss,Same H H'->SPts es ss->H' d=some (.dK (ixD (othL ss r)))->Q (.ref d) H'
theorem Za7 (D:HasDef K mg "row_numbers" XR ["H","root"]) (B:Blt mg) (g40_:FOk P w K mg base 2 "points_of" ["H"] Xy):FOk P w K mg base 3 "row_numbers" ["H","root"] Zl1:=by
 refine D.ok scRowNumbers (fun vs H Q E h=>?_) (fun f cdv A outer s H vs Q E hr h=>?_)
 ·obtain⟨v,es,r,rfl,_⟩:=h;rfl
 ·obtain⟨v,es,r,rfl,hV,hF,k⟩:=h;have hu:=Ze0 hr;refine⟨_,(Zc (Zj (i:=2) scRowNumbers.nd rfl (.inl rfl) Jb)
   (Zc (ZY PassesOwn.never rfl (Yy (Zq g40_ hr (Za (pv 0) Ze))) (ZB (i:=3) scRowNumbers.nd rfl (.inl rfl))
    (Zh (Z3 (Zs ZeF (pv 3) (pv 1) (Zx _)) (Zh (XS hu (pv 2) (pv 3) (Zk Zkf rfl B.len ZV (Za (pv 2) Ze)) rfl)) Zy)))
   (Zh (Zp (pv 2))))),?_⟩
  intro d hd;have s0:=Zb (o:=.dK []) hd;have hd0:(upd H d (.dK [])) d=some (.dK []):=Zd;generalize upd H d (.dK [])=H0 at s0 hd0;refine⟨_,rfl,v,es,rfl,hV.same s0,hF,fun v' H1 ss s1 hT hS=>?_⟩;obtain⟨q,rfl,hq⟩:=hT;have hd1:=s1 _ _ hd0;have hnd:=hS.pts.nd;have hsl:=hS.pts.len;have hfew:=hF.few;refine⟨q,rfl,⟨_,SqT.of hq⟩,XY (K:=K) (a:=q) (xs:=ss.map V.str) (fun i σ H2=>(∃ z3:Option V,σ=[some v,some (.str r),some (.ref d),z3])/\Same H H2/\H2 q=some (.tup (ss.map V.str))/\H2 d=some (.dK (ixD (othL (ss.take i) r))))
   ⟨⟨none,rfl⟩,s0.trans s1,hq,hd1⟩ (fun i σ H2 _ ⟨_,_,hq2,_⟩=>SqT.of hq2) ?_ ?_⟩
  ·rintro i x σ H2 hi ⟨⟨z3,rfl⟩,s2,hq2,hd2⟩;have hi':i<ss.length:=by
    have:=(Qn.mp hi).1;rw[Qc]at this;exact this
   have ex:x=V.str ss[i]:=by
    rw[Qd,Qa hi']at hi;exact(Option.some.inj hi).symm
   subst ex;have etk:ss.take (i+1)=ss.take i++[ss[i]]:=Q5 hi';refine⟨_,rfl,_,rfl,rfl,_,rfl,?_⟩;by_cases c:ss[i]=r
   ·refine Xa (by rw[c];simp) ⟨⟨_,rfl⟩,s2,hq2,?_⟩;rw[hd2,etk];unfold othL;rw[Wt];simp[c]
   ·refine Jp (by simp[c]) ?_;have hnin:ss[i]∉othL (ss.take i) r:=fun q=>by
     unfold othL at q;have h1:=(QD.mp q).1;have h2:(ss.take (i+1)).Nodup:=hnd.sublist (Vx _ _);rw[etk,WL]at h2;exact h2.2.2 _ h1 _ (Qp.mpr rfl) rfl
    refine⟨_,rfl,d,_,rfl,hd2,_,rfl,_,rfl,d,_,rfl,DPut.kk (k:=Sum.inr ss[i]) hd2 ?_,?_⟩
    ·unfold ixD;rw[Zbw];have:(othL (ss.take i) r).length<=(ss.take i).length:=Wa _ _;rw[QB]at this;exact QS (show(othL (ss.take i) r).length<1002 by omega) (Zv (by decide))
    refine⟨⟨_,rfl⟩,fun b o e=>?_,?_,?_⟩
    ·rw[Zi (Zm e hd)];exact s2 b o e
    ·rw[Zi fun z=>by rw[z,hd2]at hq2;cases hq2];exact hq2
    ·rw[Zd];unfold ixD;rw[Zbw];have:=ZnY hnin;unfold ixD at this;rw[this,etk];unfold othL;rw[Wt];simp[c]
  ·rintro σ H2 ⟨⟨z3,rfl⟩,s2,hq2,hd2⟩;rw[Qc,QJ (Qk _)]at hd2;exact⟨_,rfl,k d H2 ss s2 hS hd2⟩
end Sh
namespace L2
open PySem PySem.Spec PyProof.Rows
theorem Zke {X:Cx}:CallR X (.builtin "len") (fun xs H Q=>∃ a kvs,xs=[V.ref a]/\Rd H a (.dK kvs)/\Q (.int kvs.length) H):=by
 intro pins s σ H xs us Q I r h;obtain⟨a,kvs,rfl,ha,q⟩:=h;obtain⟨u,rfl,ru⟩:=Xd r;cases ru;exact ZpB I ha fun t s' I'=>⟨.int kvs.length,H,I',⟨t,rfl⟩,q⟩
end L2
namespace Sh
open PySem L2 PyProof.Rows
seal L2.PE L2.PS L2.PSs L2.PT L2.PW L2.PA L2.PI L2.PG L2.PGs L2.PO L2.PC L2.PCs L2.OpR L2.UnR L2.CallR L2.MtR L2.IxR L2.SlR
variable {P:Program} {w:World} {K:PySem.W.Frag} {mg:Str->Option Value} {base:Heap}
variable {D a:Addr} {H H' H1:Hp} {L j n q:Nat} {es hp:Es} {ks os ps qs ss:List Str} {ns:List Int} {v:V} {x y:Str} {z:List Nat}
def ZhT (os:List Str) (es:Es):Mat:=(Qx os.length).map fun r=>Za3 os.length (JO os es r)
theorem Zfv {r:Nat} (h:r<os.length):(ZhT os es).getD r []=Za3 os.length (JO os es r):=by
 unfold ZhT;rw[Qb,Qd,QM h];rfl
structure RowsI (H:Hp) (pr:Addr) (as:List Addr) (os:List Str) (es:Es):Prop where
 tab:H pr=some (.lst (as.map V.ref))
 len:as.length=os.length
 nd:as.Nodup
 row:∀ r a,as[r]?=some a->a≠pr/\H a=some (.lst ((Za3 os.length (JO os es r)).map V.int))
theorem ZlD (n:Nat) (x:V):(Q8 n [x]).flatten=Q8 n x:=by
 induction n with
 | zero=>rfl
 | succ n ih=>rw[WM,Uj,ih,WM];rfl
theorem Zhy (os:List Str) (r:Nat):Q8 os.length (V.int 0)=(Za3 os.length (JO os [] r)).map V.int:=by
 apply QT;intro i;rw[Uw];by_cases h:i<os.length
 ·rw[if_pos h,XB h];rfl
 ·rw[if_neg h,Qo (by rw[Qc,XA];omega)]
theorem ZpO (x m:Int) (p q:Prop) [Decidable p] [Decidable q]:x+(if p then m else 0)+(if q then -m else 0)=x+m*((if p then 1 else 0)-(if q then 1 else 0)):=by
 by_cases hp:p <;> by_cases hq:q <;> simp[hp,hq] <;> omega
theorem ZdL (h:j<n):ixN n (j:Int)=some j:=by
 unfold ixN;rw[if_pos (by omega),if_pos (by omega)];rfl
theorem ZeA {f g:Nat->Int} (h:∀ c,c<n->f c=g c):Za3 n f=Za3 n g:=Qu fun c hc=>h c (Wg.mp hc)
theorem RowsI.upd {pr:Addr} {as:List Addr} {es':Es} {r0:Nat} {f:Nat->Int} (h:RowsI H pr as os es) (ha:as[r0]?=some a) (hf:∀ c,c<os.length->f c=JO os es' r0 c) (ho:∀ r,r<os.length->r≠r0->∀ c,c<os.length->JO os es r c=JO os es' r c) :
  RowsI (upd H a (.lst ((Za3 os.length f).map V.int))) pr as os es':=by
 have hr0:=(Qn.mp ha).1;refine⟨?_,h.len,h.nd,fun r b e=>?_⟩
 ·rw[Zi (Ne.symm (h.row r0 a ha).1)];exact h.tab
 ·obtain⟨e1,e2⟩:=h.row r b e;refine⟨e1,?_⟩;have hr:=(Qn.mp e).1;by_cases c:r=r0
  ·subst c;rw[e]at ha;cases ha;rw[Zd,ZeA hf]
  ·have hne:b≠a:=fun q=>by
    subst q;have x1:=(Qn.mp e).2;have x2:=(Qn.mp ha).2;exact c ((WX h.nd).mp (x1.trans x2.symm))
   rw[Zi hne,e2,ZeA (ho r (by rw[←h.len];exact hr) c)]
theorem RowsI.on {pr:Addr} {as:List Addr} {es':Es} (h:RowsI H pr as os es) (s:Same H H') (ho:∀ r,r<os.length->∀ c,c<os.length->JO os es r c=JO os es' r c):RowsI H' pr as os es' :=
 ⟨s _ _ h.tab,h.len,h.nd,fun r a e=>by
  obtain⟨e1,e2⟩:=h.row r a e;have hr:=(Qn.mp e).1;refine⟨e1,s _ _ ?_⟩;rw[e2,ZeA (ho r (by rw[←h.len];exact hr))]⟩
abbrev YU:Stmt:=top 22
abbrev JF:List Str:=["H","root","numbers","rows","piece","many","here","there"]
theorem scTreeTable:Zo JF ["H","root"] (Zf YU):=⟨rfl,rfl,rfl,by decide +kernel,rfl,by decide +kernel,by decide +kernel⟩
def Zia:Sp:=fun vs H Q _=>∃ (v:V) (es:Es) (r:Str),vs=[v,.str r]/\HeapV H v es/\Jo es/\∀ t H' ts ss,Same H H'->SPts es ss->H' t=some (.tup (ts.map V.ref))->RowsT H' ts (ZhT (othL ss r) es)->Q (.ref t) H'
theorem Zcf (D:HasDef K mg "tree_table" YU ["H","root"]) (B:Blt mg) (g41_:FOk P w K mg base 3 "row_numbers" ["H","root"] Zl1) (g12_:FOk P w K mg base 3 "begin_of" ["piece"] ZbP) (g21_:FOk P w K mg base 3 "end_of" ["piece"] Zeq):FOk P w K mg base 4 "tree_table" ["H","root"] Zia:=by
 refine D.ok scTreeTable (fun vs H Q E h=>?_) (fun f cdv A outer s H vs Q E hr h=>?_)
 ·obtain⟨v,es,r,rfl,_⟩:=h;rfl
 ·obtain⟨v,es,r,rfl,hV,hF,k⟩:=h;have hu:=Ze0 hr;refine⟨_,(Zc (Zj (i:=2) scTreeTable.nd rfl (.inr rfl) (Zq g41_ hr (Za (pv 0) (Za (pv 1) Ze))))
   (Zc (ZoP (Ja (i:=3) (Zf YU) JF ["point"] [2] scTreeTable.nd rfl (.inl rfl) rfl (Zns (pv 2)) (fun _ _ _ _ _=>Z0 0) (fun _ _ _ _ _=>ZR) (fun _ _ _ _ _=>(Zn Zo2 (Z6 (Za Zg Ze)) (Zk Zke rfl B.len ZV (Za (pv 1) Ze))))))
   (Zc (ZY PassesOwn.never rfl (Yy (pv 0)) (Z5 2 K rfl (Zu (ZB (i:=4) scTreeTable.nd rfl (.inl rfl)) (Zu (ZB (i:=5) scTreeTable.nd rfl (.inl rfl)) Z4)))
    (Zc (Zj (i:=6) scTreeTable.nd rfl (.inl rfl) (ZfX hu (pv 2) (Zq g12_ hr (Za (pv 4) Ze)) ⟨rfl,rfl,rfl,rfl⟩))
   (Zc (Zj (i:=7) scTreeTable.nd rfl (.inl rfl) (ZfX hu (pv 2) (Zq g21_ hr (Za (pv 4) Ze)) ⟨rfl,rfl,rfl,rfl⟩))
   (Zh (Z3 (Zs Zi3 (pv 6) Zdk (Zx _)) (Zc (ZiP (ZP ZO (pv 3) (pv 6) (fun _ _=>rfl)) (pv 6) ZdS (pv 5) Zpu ZbU)
   (Zh (Z3 (Zs Zi3 (pv 7) Zdk (Zx _)) (Zh (ZiP (ZP ZO (pv 3) (pv 6) (fun _ _=>rfl)) (pv 7) ZdS (pv 5) Zpt ZbU)) Zy))) Zy)))))
   (Zh (Zp (ZC ZE rfl B.tuple YN (Za (ZH (Zf YU) JF ["row"] [] rfl (ZU (pv 3)) (fun _ _ _ _ _=>Z0 0) (fun _ _ _ _ _=>ZR) (fun _ _ _ _ _=>(ZC (Zba K) rfl B.tuple YN (Za (pv 0) Ze)))) Ze))))))),?_⟩
  obtain⟨q,vs,rfl,hq,hpa⟩:=hV;have hvl:=hpa.1;have hfew:=hF.few;refine⟨_,rfl,_,rfl,.ref q,es,r,rfl,⟨q,vs,rfl,hq,hpa⟩,hF,fun d H1 ss s1 hS hd1=>?_⟩;have hol:(othL ss r).length<=128:=by
   have h1:(othL ss r).length<=ss.length:=Wa _ _;have h2:=hS.pts.len;omega
  generalize hos:othL ss r=os at *;have hkl:(ixD os).length=os.length:=Zbw _ _;refine⟨d,_,hd1,fun o=>⟨_,rfl,d,o,_,rfl,Zd,Zjz (ixD os).length (fun i=>((ixD os).map fun p=>kV p.1).getD i .non) (fun _=>Q8 os.length (V.int 0)) (Zl (by omega)) (ZnX Zd) ?_ ?_⟩⟩
  ·intro i H3 Qe hi hs kq;refine⟨ZkY,fun p1 hp1=>?_⟩;have s2:=Zb (o:=.lst [V.int 0]) hp1;refine⟨_,rfl,d,ixD os,rfl,.inr ⟨o,s2 _ _ (hs _ _ Zd)⟩,p1,_,_,rfl,rfl,Zd,by omega,by omega,?_,fun p2 hp2=>?_⟩
   ·rw[hkl];exact Zl (by simp;omega)
   refine kq p2 _ (s2.trans (Zb hp2)) (s2.free hp2) ?_;rw[Zd,hkl,show((os.length:Int)).toNat=os.length from rfl,ZlD]
  intro pr as H2 hal hnd hrow hs2 hpr hprl;rw[hkl]at hal;have hdf:H2 d=some (.frz o (.dK (ixD os))):=hs2 _ _ Zd;refine⟨hdf,?_⟩;have npd:pr≠d:=fun z=>by rw[z,Zd]at hpr;cases hpr
  have nad:∀ (r:Nat) (a:Addr),as[r]?=some a->a≠d:=fun r a e z=>by
   have:=(hrow r a e).2.1;rw[z,Zd]at this;cases this
  have n1:∀ b,(upd H1 d (.frz o (.dK (ixD os)))) b=none->H1 b=none:=fun b z=>by
   by_cases e:b=d
   ·rw[e,Zd]at z;cases z
   ·rw[Zi e]at z;exact z
  have s3:Same H (upd H2 d (.dK (ixD os))):=fun b u e=>by
   by_cases z:b=d
   ·rw[z]at e ⊢;rw[Zd,←hd1];exact s1 _ _ e
   ·rw[Zi z];refine hs2 _ _ ?_;rw[Zi z];exact s1 _ _ e
  have hd3:(upd H2 d (.dK (ixD os))) d=some (.dK (ixD os)):=Zd;have hR3:RowsI (upd H2 d (.dK (ixD os))) pr as os []:=by
   refine⟨by rw[Zi npd];exact hprl,hal,hnd,fun r a e=>⟨(hrow r a e).1,?_⟩⟩;rw[Zi (nad r a e),(hrow r a e).2.2,Zhy os r]
  have Npr:H pr=none:=s1.free (n1 _ hpr);have Nas:∀ (r:Nat) (a:Addr),as[r]?=some a->H a=none:=fun r a e=>s1.free (n1 _ (hrow r a e).2.1);generalize upd H2 d (.dK (ixD os))=H3 at s3 hd3 hR3;clear hdf hrow hprl hpr hs2 n1;refine⟨_,rfl,q,rfl,⟨_,SqT.of (s3 _ _ hq)⟩,XY (K:=K) (a:=q) (xs:=vs) (fun i σ H4=>(∃ z4 z5 z6 z7:Option V,σ=[some (.ref q),some (.str r),some (.ref d),some (.ref pr),z4,z5,z6,z7])/\Same H H4/\H4 d=some (.dK (ixD os))/\RowsI H4 pr as os (es.take i))
   ⟨⟨none,none,none,none,rfl⟩,s3,hd3,hR3⟩ (fun i σ H4 _ ⟨_,s4,_⟩=>SqT.of (s4 _ _ hq)) ?_ ?_⟩
  ·rintro i x σ H4 hi ⟨⟨z4,z5,z6,z7,rfl⟩,s4,hd4,hR4⟩;have hiv:i<vs.length:=(Qn.mp hi).1;have hie:i<es.length:=by rw[←hpa.1];exact hiv
   obtain⟨b,e1,e2⟩:=hpa.2 i es[i] (Qa hie);rw[hi]at e1;cases e1;obtain⟨l1,l2⟩:=hF.long es[i] (QF hie);have het:es.take (i+1)=es.take i++[es[i]]:=Q5 hie;have e2':=s4 _ _ e2;rw[het];generalize es[i]=e at *;generalize es.take i=et at *;refine⟨b,_,rfl,SqT.of e2',rfl,_,_,rfl,_,_,rfl,rfl,?_⟩;refine⟨_,rfl,d,rfl,.inl ⟨_,.inl hd4⟩,_,rfl,e.1,rfl,l1,l2,_,DGet.kk (k:=Sum.inr (bg e.1)) hd4,?_⟩;refine⟨_,rfl,d,rfl,.inl ⟨_,.inl hd4⟩,_,rfl,e.1,rfl,l1,l2,_,DGet.kk (k:=Sum.inr (en e.1)) hd4,?_⟩;rw[Zmy,Zmy];refine⟨_,rfl,rfl,_,rfl,?_⟩;by_cases hb:bg e.1∈os
   rotate_left
   ·rw[if_neg hb];refine Xa (by simp) ⟨⟨_,_,_,_,rfl⟩,s4,hd4,hR4.on (Same.refl _) fun r hr c hc=>?_⟩;rw[J8,if_neg (by rw[Rn hb];omega),Ue]
   rw[if_pos hb];refine Jp (by simp) ?_;have hb0:os.idxOf (bg e.1)<os.length:=WG.mpr hb;obtain⟨hb1,hidx⟩:∃ n,os.idxOf (bg e.1)=n:=⟨_,rfl⟩
   rw[hidx]at hb0 ⊢;have hba:hb1<as.length:=by rw[hal];exact hb0
   have ha:=Qa hba;generalize as[hb1]=a at ha;obtain⟨nap,hrow4⟩:=hR4.row hb1 a ha;have hatr:atI (as.map V.ref) (hb1:Int)=some (.ref a):=by
    unfold atI;rw[Qc,ZdL hba];show(as.map V.ref)[hb1]?=_;rw[Qd,ha];rfl
   have hlenr:∀ f:Nat->Int,((Za3 os.length f).map V.int).length=os.length:=fun f=>by rw[Qc,XA]
   refine⟨_,rfl,_,rfl,pr,_,_,_,rfl,rfl,SqL.of hR4.tab,hatr,_,rfl,a,_,hb1,_,rfl,rfl,hrow4,XB hb0,_,rfl,_,_,rfl,rfl,a,_,_,hb1,rfl,rfl,hrow4,by rw[hlenr];exact ZdL hb0,?_⟩;rw[ZfI];have s5:Same H (upd H4 a (.lst ((Za3 os.length fun c=>JO os et hb1 c+if c=hb1 then e.2 else 0).map V.int))):=fun c u q=>by
    rw[Zi (Zm q (Nas hb1 a ha))];exact s4 _ _ q
   have nda:d≠a:=fun z=>by rw[z,hrow4]at hd4;cases hd4
   have hd5:(upd H4 a (.lst ((Za3 os.length fun c=>JO os et hb1 c+if c=hb1 then e.2 else 0).map V.int))) d=some (.dK (ixD os)):=by rw[Zi nda];exact hd4
   have hpr5:(upd H4 a (.lst ((Za3 os.length fun c=>JO os et hb1 c+if c=hb1 then e.2 else 0).map V.int))) pr=some (.lst (as.map V.ref)):=by rw[Zi (Ne.symm nap)];exact hR4.tab
   have hoth:∀ r,r<os.length->r≠hb1->∀ c,c<os.length->JO os et r c=JO os (et++[e]) r c:=fun r _ hr c _=>by
    rw[J8,if_neg (by rw[hidx];exact hr),Ue]
   refine⟨_,rfl,rfl,_,rfl,?_⟩;by_cases ht:en e.1∈os
   rotate_left
   ·rw[if_neg ht];refine Xa (by simp) ⟨⟨_,_,_,_,rfl⟩,s5,hd5,hR4.upd ha (fun c hc=>?_) hoth⟩;rw[J8,hidx,if_pos (rfl:hb1=hb1),Rn ht,if_neg (show ¬ c=os.length by omega)];by_cases z:c=hb1 <;> simp[z]
   rw[if_pos ht];refine Jp (by simp) ?_;have ht0:os.idxOf (en e.1)<os.length:=WG.mpr ht;obtain⟨ht1,hidt⟩:∃ n,os.idxOf (en e.1)=n:=⟨_,rfl⟩
   rw[hidt]at ht0 ⊢;have hrow5:(upd H4 a (.lst ((Za3 os.length fun c=>JO os et hb1 c+if c=hb1 then e.2 else 0).map V.int))) a=_:=Zd;refine⟨_,rfl,_,rfl,pr,_,_,_,rfl,rfl,SqL.of hpr5,hatr,_,rfl,a,_,ht1,_,rfl,rfl,hrow5,XB ht0,_,rfl,_,_,rfl,rfl,a,_,_,ht1,rfl,rfl,hrow5,by rw[hlenr];exact ZdL ht0,?_⟩;dsimp only;rw[Int.sub_eq_add_neg,ZfI,ZbG];refine⟨⟨_,_,_,_,rfl⟩,fun c u q=>?_,?_,hR4.upd ha (fun c hc=>?_) hoth⟩
   ·rw[Zi (Zm q (Nas hb1 a ha))];exact s4 _ _ q
   ·rw[Zi nda];exact hd4
   ·rw[J8,hidx,if_pos (rfl:hb1=hb1),hidt];exact ZpO _ _ _ _
  ·rintro σ H4 ⟨⟨z4,z5,z6,z7,rfl⟩,s4,hd4,hR4⟩;rw[hpa.1,QJ (Qk _)]at hR4;refine⟨_,rfl,pr,rfl,⟨_,SqL.of hR4.tab⟩,YB as.length (fun i=>(as.map V.ref).getD i .non) (fun i v H=>∃ a,v=V.ref a/\H a=some (.tup (((ZhT os es).getD i []).map V.int))) (Zl (by omega)) (fun i v H H' ts ⟨b,e,q⟩=>⟨b,e,ts _ _ q⟩) (by have:=YM (K:=K) (SqL.of hR4.tab);rw[Qc]at this;exact this) ?_ ?_⟩
   ·intro i H5 Qe hi hs kq;rw[YD hi];have hrw:=(hR4.row i _ (Qa hi)).2;rw[←Zfv (by rw[←hal];exact hi)]at hrw;exact⟨_,rfl,_,_,rfl,.inl ⟨SqL.of (hs _ _ hrw),fun l hl=>kq _ _ (Zb hl) ⟨l,rfl,Zd⟩⟩⟩
   intro D1 vs1 H5 hl1 hr3 hs3 hD1 hDl1;obtain⟨ts,ets,hts⟩:=ZiJ vs1 _ hr3;refine⟨D1,vs1,rfl,.inl ⟨SqL.of hDl1,fun t ht=>?_⟩⟩;have s6:=Zb (o:=.tup vs1) ht;have htt:(upd H5 t (.tup vs1)) t=some (.tup (ts.map V.ref)):=by rw[Zd,ets]
   subst hos;refine k t _ ts ss ((s4.trans hs3).trans s6) hS htt ⟨?_,fun i b e=>s6 _ _ (hts i b e)⟩;have h1:ts.length=vs1.length:=by rw[ets,Qc]
   rw[h1,hl1,hal];unfold ZhT;simp
theorem ZlX {g:Tie->Int}:∀ ts:List Tie,(∀ t∈ts,(g t).natAbs<=2000)->((ts.map g).sum).natAbs<=2000*ts.length
 | [],_=>by simp
 | t::ts,h=>by
  have ih:=ZlX ts fun u hu=>h u (Ql _ hu);have h1:=h t Qi;rw[Qh,Qw,QL];have:=VD (g t) ((ts.map g).sum);omega
theorem ZoA (hF:Jo es) (r c:Nat):Sm 120 (JO os es r c):=by
 have h:(JO os es r c).natAbs<=2000*(Ya os es r).length:=by
  unfold JO Znj;refine ZlX _ fun t ht=>?_;unfold Ya at ht;obtain⟨e,he,rfl⟩:=Qj.mp ht;have hm:=hF.many e (QD.mp he).1;dsimp only;split <;> split <;> simp <;> omega
 have hl:(Ya os es r).length<=es.length:=by
  unfold Ya;rw[Qc];exact Wa _ _
 have hf:=hF.few;have:(JO os es r c).natAbs<=128000:=by omega
 exact Ud this (by decide)
theorem Zm1 (os:List Str) (es:Es):det os.length (Zms (ZhT os es))=ZK os.length (Ya os es) os.length []:=by
 rw[X0 (T:=Ya os es) (fun r t ht=>?_) os.length [] (by simp) (fun x hx=>by cases hx)]
 ·refine Yk fun r hr c hc=>?_;unfold Zms;rw[Zfv hr];unfold Za3;rw[Qb,Qd,QM hc];rfl
 ·unfold Ya at ht;obtain⟨e,_,rfl⟩:=Qj.mp ht;exact Ro
abbrev ZbV:Stmt:=top 23
abbrev Zk7:List Str:=["H","root"]
theorem Ziv:Zo Zk7 ["H","root"] (Zf ZbV):=⟨rfl,rfl,rfl,by decide +kernel,rfl,by decide +kernel,by decide +kernel⟩
noncomputable def Xb (os:List Str) (es:Es):Int:=ZK os.length (Ya os es) os.length []
def Zh9:Sp:=fun vs H Q _=>∃ (v:V) (es:Es) (r:Str),vs=[v,.str r]/\HeapV H v es/\Jo es/\(∀ ss,SPts es ss->(othL ss r).length<=31)/\∀ H' ss,Same H H'->SPts es ss->Q (.int (Xb (othL ss r) es)) H'
theorem ZeI (D:HasDef K mg "trees_of" ZbV ["H","root"]) (B:Blt mg) (g45_:FOk P w K mg base 4 "tree_table" ["H","root"] Zia) (g47_:FOk P w K mg base 4 "worth_of" ["table"] Zc8):FOk P w K mg base 5 "trees_of" ["H","root"] Zh9:=by
 refine D.ok Ziv (fun vs H Q E h=>?_) (fun f cdv A outer s H vs Q E hr h=>?_)
 ·obtain⟨v,es,r,rfl,_⟩:=h;rfl
 ·obtain⟨v,es,r,rfl,hV,hF,hn,k⟩:=h;refine⟨_,(Zh (Zp (Zq g47_ hr (Za (Zq g45_ hr (Za (pv 0) (Za (pv 1) Ze))) Ze)))),?_⟩;refine⟨_,rfl,_,rfl,v,es,r,rfl,hV,hF,fun t H1 ts ss s1 hS ht hR=>?_⟩;have hq:Sq (othL ss r).length (ZhT (othL ss r) es):=by
   refine⟨by unfold ZhT;simp,fun row hrow=>?_⟩;unfold ZhT at hrow;obtain⟨i,_,rfl⟩:=Qj.mp hrow;exact XA _ _
  have hm:SmM 120 (ZhT (othL ss r) es):=fun row hrow x hx=>by
   unfold ZhT at hrow;obtain⟨i,_,rfl⟩:=Qj.mp hrow;unfold Za3 at hx;obtain⟨c,_,rfl⟩:=Qj.mp hx;exact ZoA hF i c
  refine⟨t,ts,_,_,_,rfl,ht,hR,Zod (hn ss hS) hq hm,hn ss hS,fun H2 s2=>?_⟩;rw[Zm1];exact k H2 ss (s1.trans s2) hS
theorem range_getD {α:Type} (l:List α) (d:α):(Qx l.length).map (fun i=>l.getD i d)=l:=by
 apply QT;intro i;rw[Qd];by_cases h:i<l.length
 ·rw[QM h,Qa h];show some (l.getD i d)=_;rw[Qb,Qa h];rfl
 ·rw[Qo (by rw[Wh];omega),Qo (by omega)];rfl
abbrev X6:Stmt:=top 56
abbrev Zcj:List Str:=["_law_row_here"]
theorem Zix:Zo Zcj ["_law_row_here"] (Zf X6):=⟨rfl,rfl,rfl,by decide +kernel,rfl,by decide +kernel,by decide +kernel⟩
def Zl6 (K:PySem.W.Frag):Sp:=fun vs H Q _=>∃ (a:Addr) (es:Es),vs=[.ref a]/\SqL K H a ((es.map (·.1)).map V.str)/\Jo es/\∀ p H' ss,Same H H'->SPts es ss->H' p=some (.lst (ss.map V.str))->Q (.ref p) H'
theorem ZeN (D:HasDef K mg "_law_points" X6 ["_law_row_here"]) (B:Blt mg):FOk P w K mg base 1 "_law_points" ["_law_row_here"] (Zl6 K):=by
 refine D.ok Zix (fun vs H Q E h=>?_) (fun f cdv A outer s H vs Q E hr h=>?_)
 ·obtain⟨a,es,rfl,_⟩:=h;rfl
 ·obtain⟨a,es,rfl,ha,hF,k⟩:=h;refine⟨_,(Zh (Zp (Zk (YF rfl) rfl B.sorted Yq (Za (ZC (Jm rfl) rfl B.set ZlM (Za (Zn ZaL (ZH (Zf X6) Zcj ["_law_piece"] [] rfl (ZU (pv 0)) (fun _ _ _ _ _=>Z0 0) (fun _ _ _ _ _=>ZR) (fun _ _ _ _ _=>(ZF Ym (pv 0) ZT (ZL (Za4 XI Zg)))))
   (ZH (Zf X6) Zcj ["_law_piece"] [] rfl (ZU (pv 0)) (fun _ _ _ _ _=>Z0 0) (fun _ _ _ _ _=>ZR) (fun _ _ _ _ _=>(ZF Ym (pv 0) (ZL Zg) ZT)))) Ze)) Ze)))),?_⟩
  have hfew:=hF.few;have hlen:((es.map (·.1)).map V.str).length=es.length:=by rw[Qc,Qc]
  have hit:∀ i,i<es.length->((es.map (·.1)).map V.str).getD i .non= .str (es.getD i ("",0)).1:=fun i hi=>by
   rw[Qb,Qd,Qd,Qa hi,Qb,Qa hi];rfl
  have hmem:∀ i,i<es.length->es.getD i ("",0)∈es:=fun i hi=>by
   rw[Qb,Qa hi];exact QF hi
  refine⟨_,rfl,a,rfl,⟨_,ha⟩,YB ((es.map (·.1)).map V.str).length (fun i=>((es.map (·.1)).map V.str).getD i .non) (fun i v _=>v= .str (bg (es.getD i ("",0)).1)) (Zl (by omega)) (fun _ _ _ _ _ r=>r) (YM ha) ?_ ?_⟩
  ·intro i H3 Qe hi hs kq;rw[hlen]at hi;rw[hit i hi];obtain⟨l1,l2⟩:=hF.long _ (hmem i hi);refine⟨_,rfl,_,rfl,_,rfl,_,rfl,Z2 l2,?_⟩;rw[Zad l1];exact kq _ _ (Same.refl _) rfl
  intro D1 vs1 H3 hl1 hr1 hs3 hD1 hDl1;rw[ZbK (f:=bg) (by omega) hr1]at hDl1;refine⟨_,rfl,a,rfl,⟨_,hs3.seq ha⟩,YB ((es.map (·.1)).map V.str).length (fun i=>((es.map (·.1)).map V.str).getD i .non) (fun i v _=>v= .str (en (es.getD i ("",0)).1)) (Zl (by omega)) (fun _ _ _ _ _ r=>r) (YM (hs3.seq ha)) ?_ ?_⟩
  ·intro i H4 Qe hi hs kq;rw[hlen]at hi;rw[hit i hi];obtain⟨l1,l2⟩:=hF.long _ (hmem i hi);refine⟨_,rfl,_,rfl,_,rfl,Z2 l2,?_⟩;rw[ZbR l1];exact kq _ _ (Same.refl _) rfl
  intro D2 vs2 H4 hl2 hr2 hs4 hD2 hDl2;rw[ZbK (f:=en) (by omega) hr2]at hDl2;refine⟨D1,D2,_,_,rfl,rfl,hs4 _ _ hDl1,hDl2,Zl (by simp only[Qc];omega),fun p hp=>?_⟩;have s5:=Zb (o:=.lst ((es.map fun e=>bg e.1).map V.str++(es.map fun e=>en e.1).map V.str)) hp;refine⟨p,(es.map fun e=>bg e.1)++(es.map fun e=>en e.1),rfl,SqL.of (by rw[Zd,QH]),by simp only[Qm,Qc];omega,fun p2 ks hp2 hnd hmem2 hkl=>?_⟩;have hkl':ks.length<=2*es.length:=by simp only[Qm,Qc]at hkl;omega
  refine⟨p2,ks,rfl,Zd,by omega,fun q2 ss hq2 hpm hsrt=>?_⟩;refine k q2 _ ss ((((hs3.trans hs4).trans s5).trans (Zb hp2)).trans (Zb hq2)) (SPts.of (ks:=ks) ⟨hnd,fun x=>?_,hkl'⟩ hpm hsrt) Zd;rw[hmem2,QE,Qj,Qj];constructor
  ·rintro(⟨e,he,z⟩ | ⟨e,he,z⟩)
   ·exact⟨e,he,.inl z⟩
   ·exact⟨e,he,.inr z⟩
  ·rintro⟨e,he,z | z⟩
   ·exact .inl ⟨e,he,z⟩
   ·exact .inr ⟨e,he,z⟩
theorem ZgH {l:List Str} {i:Nat} (h:i<l.length):atI (l.map V.str) (i:Int)=some (.str l[i]):=by
 unfold atI;rw[Qc,ZdL h];show(l.map V.str)[i]?=_;rw[Qd,Qa h];rfl
section
variable {P:Program} {w:World} {K:PySem.W.Frag} {mg:Str->Option Value} {base:Heap} {S C A1 A2 A3 A4 A5 A6 A7 A8:Addr}
end
theorem YT {n:Int} (h:0<=n):Txt.slice (tx z) none (some n)=tx (z.take n.toNat):=by
 apply ZJ;rw[Za2 h,ZN,ZN]
def SB (D:Addr) (H H':Hp):Prop:=∀ b u,b≠D->H b=some u->H' b=some u
theorem SB.refl (D:Addr) (H:Hp):SB D H H:=fun _ _ _ e=>e
theorem SB.trans {H2:Hp} (a:SB D H H1) (b:SB D H1 H2):SB D H H2:=fun c u hc e=>b c u hc (a c u hc e)
theorem SB.upd {o:HO}:SB D H (upd H D o):=fun b u hb e=>by rw[Zi hb];exact e
def DK (H:Hp) (D:Addr) (n:Nat):Prop:=∃ ns:List Int,H D=some (.lst (ns.map V.int))/\n<=ns.length/\∀ x∈ns,0<=x/\x<10 ^ 18
theorem DK.same (h:DK H D n) (s:Same H H'):DK H' D n:=by
 obtain⟨ns,e,r⟩:=h;exact⟨ns,s _ _ e,r⟩
theorem DK.less {m:Nat} (h:DK H D n) (hm:m<=n):DK H D m:=by
 obtain⟨ns,e,r,t⟩:=h;exact⟨ns,e,by omega,t⟩
theorem DK.pop (h:DK H D (n+1)):∃ (ns:List Int) (c:Int),H D=some (.lst ((ns++[c]).map V.int))/\0<=c/\c<10 ^ 18/\DK (upd H D (.lst (ns.map V.int))) D n:=by
 obtain⟨ns,e,l,b⟩:=h;rcases Rf ns with z | ⟨r,c,z⟩
 ·rw[z]at l;simp at l
 ·rw[R1]at z;subst z;have hc:=b c (by simp);rw[Qm,QK]at l;exact⟨r,c,e,hc.1,hc.2,r,Zd,by omega,fun x hx=>b x (Q0 _ hx)⟩
theorem Yo (ns:List Int) (c:Int):((ns++[c]).map V.int)[((ns++[c]).map V.int).length-1]?=some (V.int c):=by
 rw[QH,Wu];simp
theorem Yp (ns:List Int) (c:Int):((ns++[c]).map V.int).dropLast=ns.map V.int:=by
 rw[QH,Wu,Vb]
theorem ZfL {H:Hp}:∀ ns:List Int,RepA H (ns.map PyData.int) (ns.map V.int)
 | []=>by rw[We,RepA];rfl
 | p::ps=>by
  rw[Qh,RepA];exact⟨.int p,ps.map V.int,rfl,by rw[RepD],ZfL ps⟩
theorem YV (h:H a=some (.lst (ns.map V.int))):RepD H (.list (ns.map PyData.int)) (.ref a):=by
 rw[RepD];exact⟨a,_,rfl,h,ZfL ns⟩
theorem Zgh:∀ ns:List Int,PyData.canLayAll0 (ns.map PyData.int)=true
 | []=>by simp[PyData.canLayAll0]
 | p::ps=>by
  rw[Qh,PyData.canLayAll0,Zgh ps];simp[PyData.canLay0]
theorem Zbz:∀ ns:List Int,PyData.depthAll (ns.map PyData.int)<=1
 | []=>by simp[PyData.depthAll]
 | p::ps=>by
  rw[Qh,PyData.depthAll];have:=Zbz ps;simp[PyData.depth];exact this
theorem Yb (ns:List Int):SeqAt.shaped (.list (ns.map PyData.int))=true:=by
 unfold SeqAt.shaped;rw[Wl];constructor
 ·rw[PyData.canLay0];exact Zgh ns
 ·refine decide_eq_true ?_;have:=Zbz ns;rw[PyData.depth];omega
theorem ZcH (ns:List Int):PyData.eqv (.list (ns.map PyData.int)) (.list (([]:List Int).map PyData.int))=ns.isEmpty:=by
 cases ns with
 | nil=>simp[PyData.eqv,PyData.eqvAll]
 | cons n r=>simp[PyData.eqv,PyData.eqvAll]
theorem Zbj {i:Int} (h0:0<=i) (h1:i<=z.length):Txt.slice (tx z) (some i) none=tx (z.drop i.toNat):=by
 apply ZJ;rw[Xc h0 (by rw[Zw];exact h1),ZN,ZN]
abbrev Zex:Stmt:=top 48
abbrev ZnK:List Str:=["_law_row_here","_law_k","_law_cell"]
theorem scLMixed:Zo ZnK ["_law_row_here","_law_k"] (Zf Zex):=⟨rfl,rfl,rfl,by decide +kernel,rfl,by decide +kernel,by decide +kernel⟩
def Zie:Sp:=fun vs H Q _=>∃ (r:Addr) (ns:List Int) (k:Int),vs=[.ref r,.int k]/\H r=some (.lst (ns.map V.int))/\ns.length<=63/\0<=k/\k<1000/\∀ n H',0<=n->n<2147483629->Same H H'->Q (.int n) H'
theorem Zg5 (D:HasDef K mg "_law_mixed" Zex ["_law_row_here","_law_k"]) (B:Blt mg):FOk P w K mg base 1 "_law_mixed" ["_law_row_here","_law_k"] Zie:=by
 refine D.ok scLMixed (fun vs H Q E h=>?_) (fun f cdv A outer s H vs Q E hr h=>?_)
 ·obtain⟨r,ns,k,rfl,_⟩:=h;rfl
 ·obtain⟨r,ns,k,rfl,hr0,hn,k0,k1,kk⟩:=h;refine⟨_,(Zc (Zj (i:=2) scLMixed.nd rfl (.inl rfl) (Zn ZS (Zn XJ Zg (pv 1)) Zg))
   (Zc (Z3 (Zs (Zf0 hr.units) (pv 0) (Z6 Ze) (Zx _)) (Zh (Zj (i:=2) scLMixed.nd rfl (.inl rfl) (Zn ZS (Zn ZS (Zn ZQ (ZP ZO (pv 0) (Zn ZQ (pv 1) (Zk Zr rfl B.len ZV (Za (pv 0) Ze))) (fun _ _=>rfl)) Zg) (Zn XJ (Zn Xl (pv 1) (Zk Zr rfl B.len ZV (Za (pv 0) Ze))) Zg)) Zg))) Zy)
   (Zc (Zj (i:=2) scLMixed.nd rfl (.inl rfl) (Zn ZQ (Zn ZS (Zn ZS (Zn XJ (pv 2) Zg) (Zn XJ (Zn XJ (pv 1) (pv 1)) Zg)) Zg) Zg))
   (Zh (Zp (Zn ZQ (Zn ZS (Zn ZS (Zn XJ (pv 2) (pv 2)) (Zn XJ (Zn XJ (Zn XJ (pv 1) (pv 1)) (pv 1)) Zg)) Zg) Zg)))))),?_⟩
  refine⟨_,rfl,_,_,rfl,rfl,.inl ⟨by decide,by decide⟩,_,_,rfl,rfl,?_⟩;dsimp only;refine YL (fun σ H2=>Same H H2/\∃ c:Int,σ=[some (.ref r),some (.int k),some (.int c)]) (fun R hR=>?_) ?_
  ·refine⟨_,rfl,Zl (show 0<=1000 by decide),fun p0 hp0=>?_⟩;have s0:=Zb (o:=.lst []) hp0;have hr1:=s0 _ _ hr0;refine⟨.list (ns.map PyData.int),.list (([]:List Int).map PyData.int),YV hr1,YV (ns:=[]) Zd,Yb ns,Yb [],_,rfl,?_⟩;rw[ZcH];cases ns with
   | nil=>exact Xa rfl (hR _ _ ⟨s0,_,rfl⟩)
   | cons x xs =>
    refine Jp rfl ?_;have hms:(x::xs).length≠0:=by simp
    generalize x::xs=ms at *;generalize upd H p0 (.lst [])=H1 at s0 hr1;have hlp:(0:Int)<((ms.map V.int).length:Int):=by rw[Qc];omega
    have mb:=ZW k hlp;have hat:=ZeX (ns:=ms) (i:=k % ((ms.map V.int).length:Int)) mb.1 (by have:=mb.2;rw[Qc]at this ⊢;exact this);refine⟨_,rfl,_,rfl,_,rfl,.ref r,_,rfl,.inl ⟨_,SqL.of hr1,rfl⟩,_,_,rfl,rfl,hlp,r,_,_,_,rfl,rfl,SqL.of hr1,hat,_,_,rfl,rfl,(by show(0:Int)<2147483629;decide),_,rfl,_,rfl,.ref r,_,rfl,.inl ⟨_,SqL.of hr1,rfl⟩,_,_,rfl,rfl,⟨hlp,by rw[Qc];omega⟩,_,_,rfl,rfl,.inr ⟨by decide,by decide⟩,_,_,rfl,rfl,_,_,rfl,rfl,?_⟩;exact hR _ _ ⟨s0,_,rfl⟩
  rintro σ H2 ⟨s2,c,rfl⟩;refine⟨_,rfl,_,_,rfl,rfl,.inr ⟨by decide,by decide⟩,_,rfl,_,rfl,_,_,rfl,rfl,.inl ⟨by omega,by omega⟩,_,_,rfl,rfl,.inr ⟨by decide,by decide⟩,_,_,rfl,rfl,_,_,rfl,rfl,_,_,rfl,rfl,(by show(0:Int)<2147483647;decide),?_⟩;have m1:=ZW (c*48271+k*k*16807+3) (show(0:Int)<2147483647 by decide);dsimp only;generalize (c*48271+k*k*16807+3) % 2147483647=c2 at m1;have m2:=ZW (c2*c2+k*k*k*69621+5) (show(0:Int)<2147483629 by decide);refine⟨_,rfl,_,rfl,_,_,rfl,rfl,.inl ⟨by omega,by omega⟩,_,rfl,_,rfl,_,_,rfl,rfl,.inl ⟨by omega,by omega⟩,_,rfl,_,_,rfl,rfl,.inr ⟨by omega,by omega⟩,_,_,rfl,rfl,.inr ⟨by decide,by decide⟩,_,_,rfl,rfl,_,_,rfl,rfl,_,_,rfl,rfl,(by show(0:Int)<2147483629;decide),?_⟩;exact kk _ _ m2.1 m2.2 s2
abbrev ZaC:Stmt:=top 50
abbrev Zjn:List Str:=["_law_deck_here","_law_few_here","_law_some","_law_number","_law_found","_law_k","_law_at"]
theorem scLLetters:Zo Zjn ["_law_deck_here","_law_few_here"] (Zf ZaC):=⟨rfl,rfl,rfl,by decide +kernel,rfl,by decide +kernel,by decide +kernel⟩
def Zig:Sp:=fun vs H Q _=>∃ (D:Addr) (few n:Nat),vs=[.ref D,.int few]/\2<=few/\few<=26/\DK H D (n+1)/\∀ (z:List Nat) H',SB D H H'->DK H' D n->z.length=few->Cd z->Q (.str (tx z)) H'
theorem ZpQ:("abcdefghijklmnopqrstuvwxyz" : Str)=tx ((Qx 26).map (· + 97)):=by decide +kernel
theorem Zdu (D:HasDef K mg "_law_letters" ZaC ["_law_deck_here","_law_few_here"]) (B:Blt mg):FOk P w K mg base 1 "_law_letters" ["_law_deck_here","_law_few_here"] Zig:=by
 refine D.ok scLLetters (fun vs H Q E h=>?_) (fun f cdv A outer s H vs Q E hr h=>?_)
 ·obtain⟨D,few,n,rfl,_⟩:=h;rfl
 ·obtain⟨Dk,few,n,rfl,f2,f26,hD,k⟩:=h;refine⟨_,(Zc (Zj (i:=2) scLLetters.nd rfl (.inl rfl) ZaH)
   (Zc (Zj (i:=3) scLLetters.nd rfl (.inl rfl) (Xk F.plainAttrs_list F.slot_list_pop F.type_list_pop YA (pv 0)))
   (Zc (Zj (i:=4) scLLetters.nd rfl (.inl rfl) ZaH)
   (Zc (ZY PassesOwn.never rfl (Yj rfl B.range (Za (Zk (Zea rfl) rfl B.min ZpI (Za (pv 1) (Za Zg Ze))) Ze)) (ZB (i:=5) scLLetters.nd rfl (.inl rfl))
    (Zc (Zj (i:=6) scLLetters.nd rfl (.inl rfl) (Zn ZQ (pv 3) (Zk Zr rfl B.len ZV (Za (pv 2) Ze))))
   (Zc (Zj (i:=4) scLLetters.nd rfl (.inl rfl) (Zn ZX (pv 4) (ZP ZdK (pv 2) (pv 6) (fun _ _=>rfl))))
   (Zc (Zj (i:=3) scLLetters.nd rfl (.inl rfl) (Zn Xl (pv 3) (Zk Zr rfl B.len ZV (Za (pv 2) Ze))))
   (Zh (Zj (i:=2) scLLetters.nd rfl (.inl rfl) (Zn ZX (ZF Ym (pv 2) ZT (ZL (pv 6))) (ZF Ym (pv 2) (ZL (Zn ZS (pv 6) Zg)) ZT))))))))
   (Zh (Zp (Zn ZX (pv 4) (ZF Ym (pv 2) ZT (ZL (Zn Yz (pv 1) (Zk Zr rfl B.len ZV (Za (pv 4) Ze)))))))))))),?_⟩
  obtain⟨ns,c,hDn,c0,c1,hD2⟩:=hD.pop;refine⟨_,rfl,.inl ⟨rfl,_,SqL.of hDn⟩,Dk,_,.int c,rfl,rfl,hDn,Yo ns c,?_⟩;rw[Yp];have sb:SB Dk H (upd H Dk (.lst (ns.map V.int))):=SB.upd;generalize upd H Dk (.lst (ns.map V.int))=H1 at sb hD2;rw[ZpQ];have hmn:(if (6:Int)<(few:Int)then (6:Int)else (few:Int)).toNat=min few 6:=by split <;> omega
  refine⟨_,rfl,_,6,rfl,_,rfl,by split <;> omega,by split <;> omega,?_⟩;rw[hmn];refine Y0 (n:=min few 6) (fun i σ H2=>H2=H1/\∃ (y x:List Nat) (nb:Int) (z5 z6:Option V),σ=[some (.ref Dk),some (.int few),some (.str (tx y)),some (.int nb),some (.str (tx x)),z5,z6]/\y.length=26-i/\x.length=i/\Cd y/\Cd x)
   ⟨rfl,(Qx 26).map (· + 97),[],c,none,none,rfl,by simp,rfl,fun c hc=>by obtain⟨j,hj,rfl⟩:=Qj.mp hc;have:=Wg.mp hj;omega,fun c hc=>by cases hc⟩ ?_ ?_
  ·rintro i σ H2 hi ⟨rfl,y,x,nb,z5,z6,rfl,hy,hx,yc,xc⟩;have hlp:(0:Int)<((tx y).length:Int):=by rw[Zw];omega
   have hlen:∀ H',ZpX K (.str (tx y)) H' (tx y).length:=fun H'=>⟨ZZ (by omega),rfl⟩
   have mb:=ZW nb hlp;refine⟨_,rfl,_,rfl,.str (tx y),_,rfl,hlen _,_,_,rfl,rfl,hlp,?_⟩;dsimp only;generalize nb % ((tx y).length:Int)=a_ at mb;rw[Zw]at mb;refine⟨_,rfl,_,rfl,_,rfl,tx y,_,_,rfl,rfl,ZZ (by omega),Zkj mb.1 (by omega),_,_,rfl,rfl,?_,?_⟩
   ·rw[Zw];exact Zl (by show x.length+1<=1000;omega)
   rw[show({cps:=#[y.getD a_.toNat 0]}:Str)=tx [y.getD a_.toNat 0]from rfl,JM];refine⟨_,rfl,_,rfl,.str (tx y),_,rfl,hlen _,_,_,rfl,rfl,⟨hlp,by rw[Zw];omega⟩,?_⟩;refine⟨_,rfl,_,rfl,_,rfl,_,rfl,ZZ (by omega),_,rfl,_,rfl,_,_,rfl,rfl,_,rfl,_,rfl,ZZ (by omega),?_⟩;rw[YT mb.1,Zbj (by omega) (by omega)];refine⟨_,_,rfl,rfl,?_,?_⟩
   ·rw[Zw,Zw,QB,QV];exact Zl (by omega)
   rw[JM];refine⟨rfl,_,_,_,_,_,rfl,?_,by rw[Qm,hx];rfl,fun c hc=>?_,fun c hc=>?_⟩
   ·rw[Qm,QB,QV];omega
   ·rcases QE.mp hc with q | q
    ·exact yc c (Wr q)
    ·exact yc c (WT q)
   ·rcases QE.mp hc with q | q
    ·exact xc c q
    ·rw[Qp.mp q];refine yc _ ?_;rw[Qb,Qa (by omega)];exact QF _
  ·rintro σ H2 ⟨rfl,y,x,nb,z5,z6,rfl,hy,hx,yc,xc⟩;refine⟨_,rfl,_,rfl,_,rfl,_,rfl,.str (tx x),_,rfl,⟨ZZ (by omega),rfl⟩,_,_,rfl,rfl,_,rfl,_,rfl,ZZ (by omega),?_⟩;rw[YT (by rw[Zw];omega)];refine⟨_,_,rfl,rfl,?_,?_⟩
   ·rw[Zw,Zw,QB];exact Zl (by omega)
   rw[JM];refine k _ _ sb hD2 ?_ fun c hc=>?_
   ·rw[Qm,QB,Zw];omega
   ·rcases QE.mp hc with q | q
    ·exact xc c q
    ·exact yc c (Wr q)
abbrev Zew:Stmt:=top 51
abbrev ZnJ:List Str:=["_law_deck_here","_law_some","_law_long","_law_made","_law_number","_law_k"]
theorem scLSigns:Zo ZnJ ["_law_deck_here","_law_some","_law_long"] (Zf Zew):=⟨rfl,rfl,rfl,by decide +kernel,rfl,by decide +kernel,by decide +kernel⟩
def Zep:Sp:=fun vs H Q _=>∃ (D:Addr) (y:List Nat) (L n:Nat),vs=[.ref D,.str (tx y),.int L]/\1<=y.length/\y.length<=100/\Cd y/\L<=300/\DK H D (n+(L+11) / 12)/\∀ (z:List Nat) H',SB D H H'->DK H' D n->z.length=L->Cd z->Q (.str (tx z)) H'
theorem Zg3 (D:HasDef K mg "_law_signs" Zew ["_law_deck_here","_law_some","_law_long"]) (B:Blt mg):FOk P w K mg base 1 "_law_signs" ["_law_deck_here","_law_some","_law_long"] Zep:=by
 refine D.ok scLSigns (fun vs H Q E h=>?_) (fun f cdv A outer s H vs Q E hr h=>?_)
 ·obtain⟨D,y,L,n,rfl,_⟩:=h;rfl
 ·obtain⟨Dk,y,L,n,rfl,y1,y2,yc,hL,hD,k⟩:=h;refine⟨_,(Zc (Zj (i:=3) scLSigns.nd rfl (.inl rfl) ZaH)
   (Zc (X9 PassesOwn.never (Zs ZkW (Zk Zr rfl B.len ZV (Za (pv 3) Ze)) (pv 2) (Zx _))
    (Zc (Zj (i:=4) scLSigns.nd rfl (.inl rfl) (Xk F.plainAttrs_list F.slot_list_pop F.type_list_pop YA (pv 0)))
   (Zh (ZY PassesOwn.never rfl (Yj rfl B.range (Za (Zk (Zea rfl) rfl B.min ZpI (Za Zg (Za (Zn Yz (pv 2) (Zk Zr rfl B.len ZV (Za (pv 3) Ze))) Ze))) Ze)) (ZB (i:=5) scLSigns.nd rfl (.inl rfl))
    (Zc (Zj (i:=3) scLSigns.nd rfl (.inl rfl) (Zn ZX (pv 3) (ZP ZdK (pv 1) (Zn ZQ (pv 4) (Zk Zr rfl B.len ZV (Za (pv 1) Ze))) (fun _ _=>rfl))))
   (Zh (Zj (i:=4) scLSigns.nd rfl (.inl rfl) (Zn Xl (pv 4) (Zk Zr rfl B.len ZV (Za (pv 1) Ze))))))))))
   (Zh (Zp (pv 3))))),?_⟩
  have hlp:(0:Int)<((tx y).length:Int):=by rw[Zw];omega
  have hleny:∀ H',ZpX K (.str (tx y)) H' (tx y).length:=fun H'=>⟨ZZ (by omega),rfl⟩
  dsimp only[J0];rw[show("" : Str)=tx []from rfl];show Zor (Zfw _ _) _ _ _ _;refine YL (fun σ H4=>∃ (z:List Nat) (z4 z5:Option V),σ=[some (.ref Dk),some (.str (tx y)),some (.int L),some (.str (tx z)),z4,z5]/\SB Dk H H4/\DK H4 Dk n/\z.length=L/\Cd z) (fun R hR=>?_) ?_
  ·refine⟨fun m σ H4=>∃ (z:List Nat) (z4 z5:Option V),σ=[some (.ref Dk),some (.str (tx y)),some (.int L),some (.str (tx z)),z4,z5]/\SB Dk H H4/\DK H4 Dk (n+(L-z.length+11) / 12)/\z.length<=L/\Cd z/\m=L-z.length,
    ⟨_,[],none,none,rfl,SB.refl _ _,hD,QO _,(fun c hc=>by cases hc),rfl⟩,?_⟩
   rintro m σ H4 ⟨z,z4,z5,rfl,sb4,hD4,hz,zc,hm⟩;have hlenz:∀ H',ZpX K (.str (tx z)) H' (tx z).length:=fun H'=>⟨ZZ (by omega),rfl⟩
   refine⟨_,rfl,.str (tx z),_,rfl,hlenz _,_,rfl,_,_,rfl,rfl,_,rfl,?_⟩;rw[Zw];by_cases c:z.length<L
   rotate_left
   ·have e:z.length=L:=by omega
    refine Xa (decide_eq_false (by omega)) (hR _ _ ⟨z,z4,z5,rfl,sb4,hD4.less (by omega),e,zc⟩)
   refine Jp (decide_eq_true (by omega)) ?_;refine⟨fun σ' H'=>∃ m',m'<m/\∃ (z:List Nat) (z4 z5:Option V),σ'=[some (.ref Dk),some (.str (tx y)),some (.int L),some (.str (tx z)),z4,z5]/\SB Dk H H'/\DK H' Dk (n+(L-z.length+11) / 12)/\z.length<=L/\Cd z/\m'=L-z.length,fun _ _ z=>z,?_⟩;have hD5:DK H4 Dk (n+(L-z.length+11) / 12-1+1):=hD4.less (by omega);obtain⟨ns,cc,hDn,c0,c1,hD6⟩:=hD5.pop;refine⟨_,rfl,.inl ⟨rfl,_,SqL.of hDn⟩,Dk,_,.int cc,rfl,rfl,hDn,Yo ns cc,?_⟩;rw[Yp];have sb6:SB Dk H (upd H4 Dk (.lst (ns.map V.int))):=sb4.trans SB.upd;generalize upd H4 Dk (.lst (ns.map V.int))=H6 at sb6 hD6;have hmn:(if (L:Int)-((tx z).length:Int)<12 then (L:Int)-((tx z).length:Int)else 12).toNat=min (L-z.length) 12:=by rw[Zw];split <;> omega
   refine⟨_,rfl,_,rfl,.str (tx z),_,rfl,hlenz _,_,_,rfl,rfl,12,_,rfl,_,rfl,by rw[Zw];split <;> omega,by rw[Zw];split <;> omega,?_⟩;rw[hmn];refine Y0 (n:=min (L-z.length) 12) (fun i σ H7=>H7=H6/\∃ (u:List Nat) (nb:Int) (z5:Option V),σ=[some (.ref Dk),some (.str (tx y)),some (.int L),some (.str (tx u)),some (.int nb),z5]/\u.length=z.length+i/\Cd u)
    ⟨rfl,z,cc,z5,rfl,rfl,zc⟩ ?_ ?_
   ·rintro i σ H7 hi ⟨rfl,u,nb,z5',rfl,hul,uc⟩;have mb:=ZW nb hlp;have hmy:(nb % ((tx y).length:Int)).toNat<y.length:=by rw[Zw]at mb ⊢;omega
    have hat:=Zkj (z:=y) (i:=nb % ((tx y).length:Int)) mb.1 (by rw[Zw]at mb ⊢;exact mb.2);refine⟨_,rfl,_,rfl,_,rfl,_,rfl,.str (tx y),_,rfl,hleny _,_,_,rfl,rfl,hlp,tx y,_,_,rfl,rfl,ZZ (by omega),hat,_,_,rfl,rfl,?_,?_⟩
    ·rw[Zw];exact Zl (by show u.length+1<=1000;omega)
    generalize nb % ((tx y).length:Int)=ix at hmy;rw[show({cps:=#[y.getD ix.toNat 0]}:Str)=tx [y.getD ix.toNat 0]from rfl,JM];refine⟨_,rfl,_,rfl,.str (tx y),_,rfl,hleny _,_,_,rfl,rfl,⟨hlp,by rw[Zw];omega⟩,?_⟩;refine⟨rfl,_,_,_,rfl,by rw[Qm,hul];rfl,fun c hc=>?_⟩;rcases QE.mp hc with q | q
    ·exact uc c q
    ·rw[Qp.mp q];refine yc _ ?_;rw[Qb,Qa hmy];exact QF _
   ·rintro σ H7 ⟨rfl,u,nb,z5',rfl,hul,uc⟩;refine⟨_,?_,u,_,_,rfl,sb6,hD6.less (by omega),by omega,uc,rfl⟩;omega
  ·rintro σ H4 ⟨z,z4,z5,rfl,sb4,hD4,hz,zc⟩;exact⟨_,rfl,k z H4 sb4 hD4 hz zc⟩
abbrev ZiD:Stmt:=top 49
abbrev Zpa:List Str:=["_law_script","_law_many","_law_row_here","_law_left","_law_found","_law_k","_law_number"]
theorem scLDeck:Zo Zpa ["_law_script","_law_many"] (Zf ZiD):=⟨rfl,rfl,rfl,by decide +kernel,rfl,by decide +kernel,by decide +kernel⟩
def Zl9 (K:PySem.W.Frag):Sp:=fun vs H Q _=>∃ (a:Addr) (ns:List Int) (m:Nat),vs=[.ref a,.int m]/\SqL K H a (ns.map V.int)/\ns.length<=63/\m<=600/\∀ D H',Same H H'->DK H' D m->Q (.ref D) H'
theorem Zjb (D:HasDef K mg "_law_deck" ZiD ["_law_script","_law_many"]) (B:Blt mg) (g5_:FOk P w K mg base 1 "_law_mixed" ["_law_row_here","_law_k"] Zie):FOk P w K mg base 2 "_law_deck" ["_law_script","_law_many"] (Zl9 K):=by
 refine D.ok scLDeck (fun vs H Q E h=>?_) (fun f cdv A outer s H vs Q E hr h=>?_)
 ·obtain⟨a,ns,m,rfl,_⟩:=h;rfl
 ·obtain⟨a,ns,m,rfl,ha,hn,hm,k⟩:=h;refine⟨_,(Zc (Zj (i:=2) scLDeck.nd rfl (.inl rfl) (ZC Xv rfl B.list ZbE (Za (ZF ZbT (pv 0) ZT (ZL Zg)) Ze)))
   (Zc (Zj (i:=3) scLDeck.nd rfl (.inl rfl) (Z6 Ze))
   (Zc (Z3 (PW.pt (ZiM (Zs (Zf0 hr.units) (pv 2) (Z6 Ze) (Zx _)) (ZeB (Zs XH (Zn ZQ (ZP ZO (pv 2) Zg (fun _ _=>rfl)) Zg) Zg (Zx _))))) (Zh (Zj (i:=3) scLDeck.nd rfl (.inl rfl) (Zn ZaL (Z6 (Za (Zn Xl (ZP ZO (pv 2) Zg (fun _ _=>rfl)) Zg) Ze)) (ZF ZbT (pv 2) (ZL Zg) ZT)))) Zy)
   (Zc (Zj (i:=4) scLDeck.nd rfl (.inl rfl) (Z6 Ze))
   (Zc (ZY PassesOwn.never rfl (Yj rfl B.range (Za (pv 1) Ze)) (ZB (i:=5) scLDeck.nd rfl (.inl rfl))
    (Zc (Zj (i:=6) scLDeck.nd rfl (.inl rfl) (Zq g5_ hr (Za (pv 2) (Za (pv 5) Ze))))
   (Zc (Z3 (PW.pt (ZiM (Zs (Zf0 hr.units) (pv 3) (Z6 Ze) (Zx _)) (ZeB (Zs JS (ZP ZO (pv 3) (Zn ZQ (pv 5) (Zk Zr rfl B.len ZV (Za (pv 3) Ze))) (fun _ _=>rfl)) (YW (Za Zg (Za (Za4 XI Zg) Ze))) rfl)))) (Zc (Zj (i:=6) scLDeck.nd rfl (.inl rfl) (Zn ZQ (ZP ZO (pv 3) (Zn ZQ (pv 5) (Zk Zr rfl B.len ZV (Za (pv 3) Ze))) (fun _ _=>rfl)) (Zn Zmm Zg Zg)))
   (Zh (ZoQ (Zn Zce (ZP ZO (pv 3) (Zn ZQ (pv 5) (Zk Zr rfl B.len ZV (Za (pv 3) Ze))) (fun _ _=>rfl)) (Zn Zmm Zg Zg)) (ZoU (pv 3) (Zn ZQ (pv 5) (Zk Zr rfl B.len ZV (Za (pv 3) Ze))) ZbU)))) Zy)
   (Zh (Yx (Za5 F.plainAttrs_list F.slot_list_append F.type_list_append Yt (pv 4) (Za (pv 6) Ze)))))))
   (Zh (Zp (ZeD rfl rfl B.list rfl B.rev (pv 4))))))))),?_⟩
  refine⟨_,rfl,_,rfl,a,_,rfl,ha,fun p1 hp1=>?_⟩;rw[ZqD (ns.map V.int) (by rw[Qc];exact hn)];refine⟨p1,_,rfl,.inl (SqL.of Zd),fun r hr1=>?_⟩;have s1:=(Zb (o:=.lst (ns.map V.int)) hp1).trans (Zb (o:=.lst (ns.map V.int)) hr1);have hrow:(upd (upd H p1 (.lst (ns.map V.int))) r (.lst (ns.map V.int))) r=some (.lst (ns.map V.int)):=Zd;generalize upd (upd H p1 (.lst (ns.map V.int))) r (.lst (ns.map V.int))=H1 at s1 hrow;refine⟨Zl (show 0<=1000 by decide),fun lf hlf=>?_⟩;have s2:=Zb (o:=.lst []) hlf;have hlr:lf≠r:=fun e=>by rw[e,hrow]at hlf;cases hlf
  have hlfn:H lf=none:=s1.free hlf;have hrow2:=s2 _ _ hrow;have hlf2:(upd H1 lf (.lst [])) lf=some (.lst (([]:List Int).map V.int)):=Zd;have s12:=s1.trans s2;generalize upd H1 lf (.lst [])=H2 at s12 hrow2 hlf2;clear s2 hlf s1 hrow hr1 hp1;dsimp only;refine YL (fun σ H3=>∃ (lf:Addr) (ls:List Int),σ=[some (.ref a),some (.int m),some (.ref r),some (.ref lf),none,none,none]/\Same H H3/\H3 r=some (.lst (ns.map V.int))/\H3 lf=some (.lst (ls.map V.int))/\ls.length<=64/\H lf=none/\lf≠r) (fun R hR=>?_) ?_
  ·refine⟨_,rfl,Zl (show 0<=1000 by decide),fun p0 hp0=>?_⟩;have s3:=Zb (o:=.lst []) hp0;have hrow3:=s3 _ _ hrow2;have hlf3:=s3 _ _ hlf2;refine⟨.list (ns.map PyData.int),.list (([]:List Int).map PyData.int),YV hrow3,YV (ns:=[]) Zd,Yb ns,Yb [],_,rfl,?_⟩;rw[ZcH];have s13:=s12.trans s3;generalize upd H2 p0 (.lst [])=H3 at s13 hrow3 hlf3;cases ns with
   | nil=>exact Xa rfl (Xa rfl (hR _ _ ⟨lf,[],rfl,s13,hrow3,hlf3,by decide,hlfn,hlr⟩))
   | cons x xs =>
    refine Jp rfl ?_;have h0:atI ((x::xs).map V.int) 0=some (.int x):=Y9 (by decide) rfl;refine⟨_,rfl,r,_,0,.int x,rfl,rfl,SqL.of hrow3,h0,_,_,rfl,rfl,(by show(0:Int)<2;decide),rfl,_,rfl,?_⟩;by_cases c:x % 2=1
    rotate_left
    ·exact Xa (ZdO c) (hR _ _ ⟨lf,[],rfl,s13,hrow3,hlf3,by decide,hlfn,hlr⟩)
    refine Jp (Zmz c) ?_;refine⟨_,rfl,r,_,0,.int x,rfl,rfl,SqL.of hrow3,h0,_,_,rfl,rfl,⟨by decide,by decide⟩,Zl (show 1<=1000 by decide),fun q1 hq1=>?_⟩;have t1:=Zb (o:=.lst [.int (x / 2)]) hq1;refine⟨_,rfl,_,rfl,r,_,rfl,SqL.of (t1 _ _ hrow3),fun q2 hq2=>?_⟩;rw[show Ze9 ((x::xs).map V.int) (some 1) none=xs.map V.int from cut_from (i:=1) (by simp)];have t2:=Zb (o:=.lst (xs.map V.int)) hq2;refine⟨q1,q2,_,_,rfl,rfl,t2 _ _ Zd,Zd,Zl (by rw[Qc,QK];rw[QL]at hn;omega),fun q3 hq3=>?_⟩;have t3:=Zb (o:=.lst ([.int (x / 2)]++xs.map V.int)) hq3;have hrow6:=t3 _ _ (t2 _ _ (t1 _ _ hrow3));refine hR _ _ ⟨q3,x / 2::xs,rfl,s13.trans ((t1.trans t2).trans t3),hrow6,Zd,by rw[QL]at hn ⊢;omega,s13.free ((t1.trans t2).free hq3),fun e=>?_⟩;rw[e,(t1.trans t2) _ _ hrow3]at hq3;cases hq3
  clear hlf2 hrow2 s12 hlr hlfn;clear lf H2;rintro σ H3 ⟨lf,ls,rfl,s3,hrow,hlf,hls,hlfn,hlr⟩;refine⟨Zl (show 0<=1000 by decide),fun fd hfd=>?_⟩;have t4:=Zb (o:=.lst []) hfd;have hfr:fd≠r:=fun e=>by rw[e,hrow]at hfd;cases hfd
  have hfl:fd≠lf:=fun e=>by rw[e,hlf]at hfd;cases hfd
  have hfn:H fd=none:=s3.free hfd;refine⟨_,rfl,_,rfl,by omega,by omega,?_⟩;rw[Wn];refine Y0 (n:=m) (fun i σ H5=>∃ (ls fs:List Int) (z5 z6:Option V),σ=[some (.ref a),some (.int m),some (.ref r),some (.ref lf),some (.ref fd),z5,z6]/\Same H H5/\H5 r=some (.lst (ns.map V.int))/\H5 lf=some (.lst (ls.map V.int))/\ls.length<=64/\H5 fd=some (.lst (fs.map V.int))/\fs.length=i/\∀ x∈fs,0<=x/\x<10 ^ 18)
   ⟨ls,[],none,none,rfl,s3.trans t4,t4 _ _ hrow,t4 _ _ hlf,hls,Zd,rfl,fun x hx=>by cases hx⟩ ?_ ?_
  ·clear t4 hfd hlf hrow s3 hls;clear ls H3;rintro i σ H5 hi ⟨ls,fs,z5,z6,rfl,s5,hrow,hlf,hls,hfd,hfs,hfb⟩;refine⟨_,rfl,_,rfl,r,ns,0+(i:Int),rfl,hrow,hn,by omega,by omega,fun n0 H6 b0 b1 s6=>?_⟩;have s56:=s5.trans s6;have hrow6:=s6 _ _ hrow;have hlf6:=s6 _ _ hlf;have hfd6:=s6 _ _ hfd;dsimp only;refine YL (fun σ H7=>∃ (ls:List Int) (n:Int),σ=[some (.ref a),some (.int m),some (.ref r),some (.ref lf),some (.ref fd),some (.int (0+(i:Int))),some (.int n)]/\Same H H7/\H7 r=some (.lst (ns.map V.int))/\H7 lf=some (.lst (ls.map V.int))/\ls.length<=64/\H7 fd=some (.lst (fs.map V.int))/\0<=n/\n<10 ^ 18) (fun R hR=>?_) ?_
   ·refine⟨_,rfl,Zl (show 0<=1000 by decide),fun p0 hp0=>?_⟩;have t7:=Zb (o:=.lst []) hp0;have hlf7:=t7 _ _ hlf6;have hrow7:=t7 _ _ hrow6;have hfd7:=t7 _ _ hfd6;refine⟨.list (ls.map PyData.int),.list (([]:List Int).map PyData.int),YV hlf7,YV (ns:=[]) Zd,Yb ls,Yb [],_,rfl,?_⟩;rw[ZcH];have s57:=s56.trans t7;generalize upd H6 p0 (.lst [])=H7 at s57 hlf7 hrow7 hfd7;by_cases hne:ls.length=0
    ·rw[QU.mp hne]at hlf7 ⊢;exact Xa rfl (Xa rfl (hR _ _ ⟨[],n0,rfl,s57,hrow7,hlf7,by decide,hfd7,b0,by omega⟩))
    refine Jp (by cases ls with | nil=>exact absurd rfl hne | cons _ _=>rfl) ?_;have hlp:(0:Int)<((ls.map V.int).length:Int):=by rw[Qc];omega
    have mb:=ZW (0+(i:Int)) hlp;have hat:=ZeX (ns:=ls) (i:=(0+(i:Int)) % ((ls.map V.int).length:Int)) mb.1 (by have:=mb.2;rw[Qc]at this ⊢;exact this);refine⟨_,rfl,_,rfl,_,rfl,.ref lf,_,rfl,.inl ⟨_,SqL.of hlf7,rfl⟩,_,_,rfl,rfl,hlp,lf,_,_,_,rfl,rfl,SqL.of hlf7,hat,_,rfl,Zl (show 2<=1000 by decide),fun t ht=>?_⟩;have t8:=Zb (o:=.tup [.int 0,.int (-1)]) ht;have hlf8:=t8 _ _ hlf7;have hrow8:=t8 _ _ hrow7;have hfd8:=t8 _ _ hfd7;have s58:=s57.trans t8;refine⟨t,_,rfl,.inr (SqT.of Zd),rfl,rfl,_,rfl,?_⟩;generalize upd H7 t (.tup [.int 0,.int (-1)])=H8 at s58 hlf8 hrow8 hfd8;refine ZcZ (fun _=>?_) (fun _=>hR _ _ ⟨ls,n0,rfl,s58,hrow8,hlf8,hls,hfd8,b0,by omega⟩);refine⟨_,rfl,_,rfl,_,rfl,.ref lf,_,rfl,.inl ⟨_,SqL.of hlf8,rfl⟩,_,_,rfl,rfl,hlp,lf,_,_,_,rfl,rfl,SqL.of hlf8,hat,_,_,rfl,rfl,⟨by decide,by decide,by decide⟩,_,_,rfl,rfl,(by show(0:Int)<10 ^ 18;decide),?_⟩;have md:=ZW (ls.getD ((0+(i:Int)) % ((ls.map V.int).length:Int)).toNat 0) (show(0:Int)<10 ^ 18 by decide);refine⟨_,rfl,_,rfl,_,rfl,.ref lf,_,rfl,.inl ⟨_,SqL.of hlf8,rfl⟩,_,_,rfl,rfl,hlp,lf,_,_,_,rfl,rfl,SqL.of hlf8,hat,_,_,rfl,rfl,⟨by decide,by decide,by decide⟩,_,_,rfl,rfl,⟨by decide,by decide +kernel⟩,?_⟩;refine⟨_,rfl,_,rfl,_,rfl,.ref lf,_,rfl,.inl ⟨_,SqL.of hlf8,rfl⟩,_,_,rfl,rfl,hlp,lf,_,_,((0+(i:Int)) % ((ls.map V.int).length:Int)).toNat,rfl,rfl,hlf8,?_,?_⟩
    ·unfold ixN;rw[if_pos mb.1,if_pos mb.2]
    refine hR _ _ ⟨ls.set ((0+(i:Int)) % ((ls.map V.int).length:Int)).toNat ((ls.getD ((0+(i:Int)) % ((ls.map V.int).length:Int)).toNat 0).fdiv (10 ^ 18)),_,rfl,fun b u hb=>?_,?_,?_,?_,?_,md.1,md.2⟩
    ·rw[Zi (Zm hb hlfn)];exact s58 b u hb
    ·rw[Zi (Ne.symm hlr)];exact hrow8
    ·rw[Zd,List.map_set];rfl
    ·rw[VJ];exact hls
    ·rw[Zi hfl];exact hfd8
   clear hlf6 hrow6 hfd6 s56 s6 hlf hls hfd s5 hrow b0 b1;clear ls H6 n0;rintro σ H7 ⟨ls,n,rfl,s7,hrow,hlf,hls,hfd,n0,n1⟩;refine⟨_,rfl,.inl ⟨rfl,_,SqL.of hfd⟩,_,rfl,fd,_,.int n,rfl,rfl,hfd,by rw[Qc];exact ZM (by omega),?_⟩;refine⟨ls,fs++[n],_,_,rfl,fun b u hb=>?_,?_,?_,hls,?_,by rw[Qm,hfs];rfl,fun x hx=>?_⟩
   ·rw[Zi (Zm hb hfn)];exact s7 b u hb
   ·rw[Zi (Ne.symm hfr)];exact hrow
   ·rw[Zi (Ne.symm hfl)];exact hlf
   ·rw[Zd,QH];rfl
   ·rcases QE.mp hx with z | z
    ·exact hfb x z
    ·rw[Qp.mp z];exact⟨n0,n1⟩
  ·rintro σ H5 ⟨ls,fs,z5,z6,rfl,s5,hrow,hlf,hls,hfd,hfs,hfb⟩;refine⟨_,rfl,fd,_,rfl,SqL.of hfd,fun Dk hDk=>?_⟩;exact k Dk _ (s5.trans (Zb hDk)) ⟨fs.reverse,by rw[Zd,List.map_reverse],by rw[WD];omega,fun x hx=>hfb x (List.mem_reverse.mp hx)⟩
theorem ZlA (h:j<ns.length):ns.getD j 0∈ns:=by
 rw[Qb,Qa h];exact QF h
theorem ZnO {i:Int} {lo hi:Int} (h0:0<=i) (h1:i<ns.length) (hb:∀ x∈ns,lo<=x/\x<=hi) (hl:0<=lo):∃ v:Nat,atI (ns.map V.int) i=some (.int (v:Int))/\lo<=v/\(v:Int)<=hi:=by
 have hm:=ZlA (ns:=ns) (j:=i.toNat) (by omega);have:=hb _ hm;refine⟨(ns.getD i.toNat 0).toNat,?_,by omega,by omega⟩;rw[ZeX h0 h1,Vh (by omega)]
theorem cut_to {m:Nat}:Ze9 (ns.map V.int) none (some (m:Int))=(ns.take m).map V.int:=by
 unfold Ze9;rw[HT.sIx_none,HT.sIx_nat,U1,Nat.sub_zero,Ux,Qc];apply QT;intro i;rw[Vr,Vr];by_cases h:i<m
 ·rw[if_pos h];by_cases h2:i<ns.length
  ·rw[if_pos (by omega)]
  ·rw[if_neg (by omega),Qo (by rw[Qc];omega)]
 ·rw[if_neg h,if_neg (by omega)]
def J2 (z:List Nat) (L:Nat):List Str:=(Qx (z.length-L+1)).map fun i=>tx ((z.drop i).take L)
theorem ZnR {mp:List Nat} {σ:L2.St} {Q:VK} (o:1<=L) (l:L<=z.length) (hz:z.length<=100) (hS:lcS 1 mp σ=[none,some (.int L),some (.str (tx z))]) (done:∀ D H',Same H1 H'->H1 D=none->H' D=some (.lst ((J2 z L).map V.str))->Q (.ref D) H') :
  Jh 1 mp σ (J0 0) Zm2 (tSl ZqR (Zkl 2) (Zm4 (Zkl 0)) (Zm4 (tOp (rI0 fun i j=>V.int (i+j)) (Zkl 0) (Zkl 1)))) (Itr 0 (z.length-L+1)) H1 Q:=by
 refine YB (z.length-L+1) (fun i=>.int (0+i)) (fun i v _=>v= .str (tx ((z.drop i).take L))) (Zl (by omega)) (fun _ _ _ _ _ r=>r) Zcw ?_ ?_
 ·intro i H3 Qe hi hs kq;rw[hS];refine⟨_,rfl,_,rfl,_,rfl,_,rfl,_,rfl,_,_,rfl,rfl,_,rfl,_,rfl,ZZ (by omega),kq _ _ (Same.refl _) ?_⟩;refine congrArg V.str (ZJ ?_);rw[Xh (by omega) (by omega) (by rw[Zw];omega),ZN,ZN];congr 1
  ·omega
  ·congr 1;omega
 intro D1 vs1 H3 hlv1 hr1 hs3 hD1 hDl1;have e1:=ZbF (f:=fun i=>V.str (tx ((z.drop i).take L))) hlv1 hr1;refine done D1 H3 hs3 hD1 ?_;rw[hDl1,e1];unfold J2;rw[QC];rfl
theorem Zan {hp:List Pr} (h:HpAt H v hp):HeapV H v hp:=by
 obtain⟨a,xs,e,ha,hl,r⟩:=h;refine⟨a,xs,e,ha,hl,fun i p q=>?_⟩;obtain⟨b,eb,hb⟩:=r i p q;have hi:i<xs.length:=by rw[hl];exact(Qn.mp q).1
 rw[Qb,Qa hi]at eb;exact⟨b,by rw[Qa hi];exact congrArg some eb,hb⟩
theorem ZcB {hp:List Pr} (h:Zz ps hp):hp.length<=ps.length:=by
 have nd:(hp.map (·.1)).Nodup:=by
  rw[Ui,QR];refine List.Pairwise.imp ?_ (QR.mp h.srt);intro x y hxy e;rw[e]at hxy;exact Wm _ hxy
 have:=Yh nd fun x hx=>(h.mem x).mp hx;rw[Qc]at this;exact this
def pnt (z:List Nat) (L i:Nat):Str:=tx ((z.drop i).take (L-1))
theorem Zfk (l:L<=z.length) (h:x∈J2 z L):x.length=L:=by
 unfold J2 at h;obtain⟨i,hi,rfl⟩:=Qj.mp h;have:=Wg.mp hi;rw[Zw,QB,QV];omega
theorem Zov (o:1<=L) (l:L<=z.length) (h:x∈J2 z L):bg x∈(Qx (z.length-L+2)).map (pnt z L)/\en x∈(Qx (z.length-L+2)).map (pnt z L):=by
 unfold J2 at h;obtain⟨i,hi,rfl⟩:=Qj.mp h;have:=Wg.mp hi;constructor
 ·refine Qj.mpr ⟨i,Wg.mpr (by omega),?_⟩;unfold bg pnt;rw[ZN,UJ,QB,QV,R4];congr 2;omega
 ·refine Qj.mpr ⟨i+1,Wg.mpr (by omega),?_⟩;unfold en pnt;rw[ZN,VT,U2]
def fc:Nat->Nat
 | 0=>1
 | n+1=>(n+1)*fc n
theorem ZmD:∀ n,0<fc n
 | 0=>Nat.one_pos
 | n+1=>Nat.mul_pos (Nat.succ_pos n) (ZmD n)
theorem ZdV:∀ s a b,a+b=s->fc a*fc b ∣ fc (a+b)
 | 0,a,b,h=>by
  have:a=0/\b=0:=by omega
  obtain⟨rfl,rfl⟩:=this;exact⟨1,rfl⟩
 | s+1,0,b,h=>by rw[Vs];exact⟨1,by show fc b=1*fc b*1;omega⟩
 | s+1,a+1,0,h=>⟨1,by show fc (a+1)=fc (a+1)*1*1;omega⟩
 | s+1,a+1,b+1,h=>by
  have h1:=ZdV s a (b+1) (by omega);have h2:=ZdV s (a+1) b (by omega);have e:fc (a+1+(b+1))=(a+1)*fc (a+(b+1))+(b+1)*fc (a+1+b):=by
   have e1:a+1+(b+1)=(a+b+1)+1:=by omega
   have e2:a+(b+1)=a+b+1:=by omega
   have e3:a+1+b=a+b+1:=by omega
   rw[e1,e2,e3];show(a+b+1+1)*fc (a+b+1)=_;rw[←RW];congr 1;omega
  rw[e];refine Nat.dvd_add ?_ ?_
  ·show(a+1)*fc a*fc (b+1) ∣ _;rw[VY];exact WK _ h1
  ·show fc (a+1)*((b+1)*fc b) ∣ _;rw[VE];exact WK _ h2
def ZiQ (ms:List Nat):Nat:=ms.foldr (fun m p=>fc m*p) 1
theorem JA (m:Nat) (ms:List Nat):ZiQ (m::ms)=fc m*ZiQ ms:=rfl
theorem Zb6:∀ ms:List Nat,ZiQ ms ∣ fc ms.sum
 | []=>⟨1,rfl⟩
 | m::ms=>by
  rw[JA,Qw];exact Vf (WK _ (Zb6 ms)) (ZdV _ _ _ rfl)
theorem Zjy:∀ (ms:List Nat) (m:Nat),m∈ms->m<=ms.sum
 | [],m,h=>by cases h
 | n::ms,m,h=>by
  rw[Qw];rcases QA.mp h with e | e
  ·omega
  ·have:=Zjy ms m e;omega
theorem Zdg:∀ (ms:List Nat) (m:Nat),m∈ms->ZiQ ms ∣ m*fc (ms.sum-1)
 | [],m,h=>by cases h
 | n::ms,m,h=>by
  rw[JA,Qw];cases m with
  | zero=>rw[Vq];exact Nat.dvd_zero _
  | succ k =>
  rcases QA.mp h with e | e
  ·subst e;show(k+1)*fc k*_ ∣ _;rw[VY,show k+1+ms.sum-1=k+ms.sum by omega];exact WK _ (Vf (WK _ (Zb6 ms)) (ZdV _ _ _ rfl))
  ·have h1:=Zdg ms (k+1) e;have hs:k+1<=ms.sum:=Zjy ms _ e;rw[show n+ms.sum-1=n+(ms.sum-1)by omega];refine Vf (WK _ h1) ?_;rw[VE];exact WK _ (ZdV _ _ _ rfl)
def fI (x:Int):Int:=(fc x.toNat:Int)
theorem Zbx (x:Int):1<=fI x:=by
 have:=ZmD x.toNat;unfold fI;omega
def prI (l:List Int):Int:=l.foldr (fun a b=>a*b) 1
theorem Zb8:prI []=1:=rfl
theorem ZA (a:Int) (l:List Int):prI (a::l)=a*prI l:=rfl
theorem Zb9:∀ a b:List Int,prI (a++b)=prI a*prI b
 | [],b=>by rw[Rh,Zb8,Q9]
 | x::a,b=>by rw[UM,ZA,ZA,Zb9 a b,Q6]
theorem ZiS:∀ l:List Int,(ZiQ (l.map Vt):Int)=prI (l.map fI)
 | []=>rfl
 | x::l=>by
  rw[Qh,Qh,JA,ZA,←ZiS l,Rp];rfl
theorem YQ:∀ l:List Int,(∀ x∈l,0<=x)->(l.map Vt).sum=l.sum.toNat/\0<=l.sum
 | [],_=>⟨rfl,UV _⟩
 | x::l,h=>by
  obtain⟨e,p⟩:=YQ l fun y hy=>h y (Ql _ hy);have hx:=h x Qi;rw[Qh,Qw,Qw,e];omega
theorem Zoh {l:List Int} (h:∀ x∈l,0<=x):prI (l.map fI) ∣ fI l.sum:=by
 have:=Zb6 (l.map Vt);rw[(YQ l h).1]at this;rw[←ZiS];exact RP.mpr this
theorem Zog {l:List Int} (h:∀ x∈l,0<=x) {m:Int} (hm:m∈l):prI (l.map fI) ∣ m*fI (l.sum-1):=by
 have:=Zdg (l.map Vt) m.toNat (Qj.mpr ⟨m,hm,rfl⟩);rw[(YQ l h).1]at this;rw[←ZiS];have h2:=RP.mpr this;rw[Rp,Vh (h m hm)]at h2;have e:fI (l.sum-1)=(fc (l.sum.toNat-1):Int):=by
  unfold fI;congr 2;omega
 rw[e];exact h2
theorem Zel {d:Int}:∀ l:List Int,(∀ x∈l,d ∣ x)->d ∣ l.sum
 | [],_=>Vu _
 | x::l,h=>by
  rw[Qw];exact Int.dvd_add (h x Qi) (Zel l fun y hy=>h y (Ql _ hy))
theorem J9 (c:Int):∀ l:List Int,l.sum*c=(l.map fun x=>x*c).sum
 | []=>by simp
 | x::l=>by rw[Qw,Qh,Qw,Rz,J9 c l]
theorem Zc3 {n:Nat} {T:Nat->List Tie} (G A:Nat->Int) (h:∀ i,i<n->∀ t∈T i,G i ∣ t.2*A i):∀ (k:Nat) (ch:List Nat),ch.length+k=n->prI ((Um ch.length k).map G) ∣ ZK n T k ch*prI ((Um ch.length k).map A)
 | 0,ch,_=>⟨ZK n T 0 ch,by show _*1=1*_;rw[UU,Q9]⟩
 | k+1,ch,hl=>by
  unfold ZK;rw[show Um ch.length (k+1)=ch.length::Um (ch.length+1) k from rfl,Qh,Qh,ZA,ZA,J9,QC];refine Zel _ fun x hx=>?_;obtain⟨t,ht,rfl⟩:=Qj.mp hx;have ih:=Zc3 G A h k (ch++[t.1]) (by rw[Qm,QK];omega);rw[Qm,QK]at ih;have h1:=h ch.length (by omega) t ht;have:=RT h1 ih;show _ ∣ t.2*ZK n T k (ch++[t.1])*(A ch.length*prI _);have e:t.2*ZK n T k (ch++[t.1])*(A ch.length*prI ((Um (ch.length+1) k).map A))=t.2*A ch.length*(ZK n T k (ch++[t.1])*prI ((Um (ch.length+1) k).map A)):=by
   rw[Q6,Q6,Wo (ZK n T k (ch++[t.1]))]
  rw[e];exact this
theorem JN {n:Nat} {T:Nat->List Tie} (h:∀ i,∀ t∈T i,0<=t.2):∀ (k:Nat) (ch:List Nat),0<=ZK n T k ch
 | 0,ch=>by
  unfold ZK;split <;> decide
 | k+1,ch=>by
  unfold ZK;have:∀ l:List Int,(∀ x∈l,0<=x)->0<=l.sum:=fun l hl=>(YQ l hl).2;refine this _ fun x hx=>?_;obtain⟨t,ht,rfl⟩:=Qj.mp hx;exact R5 (h _ t ht) (JN h k _)
def gS (es:Es) (x:Str):Int:=prI ((es.filter fun e=>decide (bg e.1=x)).map fun e=>fI e.2)
theorem Zaj {g:Str->Int}:∀ l:List Str,(∀ x∈l,g x=1)->prI (l.map g)=1
 | [],_=>rfl
 | x::l,h=>by
  rw[Qh,ZA,h x Qi,Zaj l fun y hy=>h y (Ql _ hy)];rfl
theorem YI {g f:Str->Int} {y:Str} {c:Int}:∀ l:List Str,l.Nodup->y∈l->f y=c*g y->(∀ x∈l,x≠y->f x=g x)->prI (l.map f)=c*prI (l.map g)
 | [],_,h,_,_=>by cases h
 | x::l,nd,h,hy,ho=>by
  obtain⟨n1,n2⟩:=Q7.mp nd;rw[Qh,Qh,ZA,ZA];by_cases e:x=y
  ·subst e;have:l.map f=l.map g:=Qu fun z hz=>ho z (Ql _ hz) fun q=>n1 (q▸hz);rw[hy,this,Q6]
  ·have hm:y∈l:=(QA.mp h).resolve_left fun q=>e q.symm;rw[ho x Qi e,YI l n2 hm hy fun z hz=>ho z (Ql _ hz),Wo]
theorem Zdn {rs:List Str} (nd:rs.Nodup):∀ es:Es,(∀ e∈es,bg e.1∈rs)->prI (es.map fun e=>fI e.2)=prI (rs.map (gS es))
 | [],_=>(Zaj rs fun x _=>rfl).symm
 | e::es,h=>by
  rw[Qh,ZA,Zdn nd es fun z hz=>h z (Ql _ hz)];refine(YI (y:=bg e.1) rs nd (h e Qi) ?_ fun x _ hx=>?_).symm
  ·unfold gS;rw[Wc (by simp),Qh,ZA]
  ·unfold gS;rw[Wd (by simp;exact fun q=>hx q.symm)]
theorem ZeE (hF:Jo es) (y:Str):∀ x∈(es.filter fun e=>decide (bg e.1=y)).map fun e=>e.2,0<=x:=fun x hx=>by
 obtain⟨e,he,rfl⟩:=Qj.mp hx;exact(hF.many e (QD.mp he).1).1
theorem ZmA (es:Es) (y:Str):gS es y=prI (((es.filter fun e=>decide (bg e.1=y)).map fun e=>e.2).map fI):=by
 unfold gS;rw[QC];rfl
noncomputable def Zny (ss:List Str) (es:Es) (r:Str):Int:=Xb (othL ss r) es*fI (Zbq es r)*prI ((othL ss r).map fun x=>fI (Zbq es x-1))
theorem Znx {r:Str} (hF:Jo es) (hS:SPts es ss):prI (es.map fun e=>fI e.2) ∣ Zny ss es r:=by
 have nd0:(othL ss r).Nodup:=by unfold othL;exact hS.pts.nd.filter _
 have nr:r∉othL ss r:=by
  unfold othL;intro q;have:=(QD.mp q).2;simp at this
 have hb:∀ e∈es,bg e.1∈r::othL ss r:=fun e he=>by
  have:=(hS.pts.mem (bg e.1)).mpr ⟨e,he,.inl rfl⟩;by_cases c:bg e.1=r
  ·rw[c];exact Qi
  ·refine Ql _ ?_;unfold othL;exact QD.mpr ⟨this,by simp[c]⟩
 rw[Zdn (rs:=r::othL ss r) (Q7.mpr ⟨nr,nd0⟩) es hb,Qh,ZA];unfold Zny;have h1:gS es r ∣ fI (Zbq es r):=by
  rw[ZmA];exact Zoh (ZeE hF r)
 generalize othL ss r=os at *;have h2:=Zc3 (n:=os.length) (T:=Ya os es) (fun i=>gS es (os.getD i "")) (fun i=>fI (Zbq es (os.getD i "")-1)) (fun i hi t ht=>by
  unfold Ya at ht;obtain⟨e,he,rfl⟩:=Qj.mp ht;obtain⟨he1,he2⟩:=QD.mp he;have he3:os.idxOf (bg e.1)=i:=of_decide_eq_true he2;have hin:bg e.1∈os:=WG.mp (by omega);have hat:os.getD i "" = bg e.1:=by
   rw[Qb,Qa hi];subst he3;show os[os.idxOf (bg e.1)]=_;exact UC hi
  dsimp only;rw[hat,ZmA];exact Zog (ZeE hF _) (Qj.mpr ⟨e,QD.mpr ⟨he1,by simp⟩,rfl⟩)) os.length [] (by simp)
 have e1:∀ g:Str->Int,(Um ([]:List Nat).length os.length).map (fun i=>g (os.getD i ""))=os.map g:=fun g=>by
  show(Um 0 os.length).map _=_;rw[←List.range_eq_range']
  conv=>rhs;rw[←range_getD os ""]
  rw[QC];rfl
 rw[e1 (gS es),e1 fun x=>fI (Zbq es x-1)]at h2;have h3:=RT h1 h2;have e2:Xb os es*fI (Zbq es r)*prI (os.map fun x=>fI (Zbq es x-1))=fI (Zbq es r)*(ZK os.length (Ya os es) os.length []*prI (os.map fun x=>fI (Zbq es x-1))):=by
  unfold Xb;rw[WA (ZK os.length (Ya os es) os.length []),Q6]
 rw[e2];exact h3
theorem Zb7:∀ l:List Int,(∀ x∈l,1<=x)->1<=prI l
 | [],_=>UV _
 | x::l,h=>by
  rw[ZA];have h1:=Zb7 l fun y hy=>h y (Ql _ hy);have h2:=h x Qi;have:=Int.mul_le_mul h2 h1 (by decide) (by omega)
  rwa [Q9]at this
theorem Zkq (hF:Jo es) (os:List Str):0<=Xb os es:=JN (fun i t ht=>by
 unfold Ya at ht;obtain⟨e,he,rfl⟩:=Qj.mp ht;exact(hF.many e (QD.mp he).1).1) _ _
theorem Zo0 (hF:Jo es) (ss:List Str) (r:Str):0<=Zny ss es r:=by
 unfold Zny;refine R5 (R5 (Zkq hF _) (by have:=Zbx (Zbq es r);omega)) ?_;have:=Zb7 ((othL ss r).map fun x=>fI (Zbq es x-1)) fun y hy=>by
  obtain⟨x,_,rfl⟩:=Qj.mp hy;exact Zbx _
 omega
theorem Zpi {K:PySem.W.Frag} {mp:List Nat} {σ:L2.St} {Q:VK} {q:Addr} {vs:List V} (hS:lcS 2 mp σ=[none,none]) (hq:H1 q=some (.tup vs)) (hpa:PA H1 vs es) (hl:es.length<=1000)
  (done:∀ D H',Same H1 H'->H' D=some (.lst ((es.map fun e=>e.2).map V.int))->Q (.ref D) H'):Jh 2 mp σ (ZqA K 2 (Zoa (J0 0) (Zoa (J0 1) ZqW))) Zm2 (Zkl 1) (Itt K q) H1 Q:=by
 refine YB vs.length (fun i=>vs.getD i .non) (fun i v _=>v= .int (es.getD i ("",0)).2) (Zl (by rw[hpa.1];exact hl)) (fun _ _ _ _ _ r=>r) (JV (SqT.of hq)) ?_ ?_
 ·intro i H Qe hi hs kq;have hie:i<es.length:=by rw[←hpa.1];exact hi
  obtain⟨b,e1,e2⟩:=hpa.2 i es[i] (Qa hie);have ev:vs.getD i .non= .ref b:=by rw[Qb,e1];rfl
  have ee:es.getD i ("",0)=es[i]:=by rw[Qb,Qa hie];rfl
  rw[ev,hS];refine⟨b,_,rfl,SqT.of (hs _ _ e2),rfl,_,_,rfl,_,_,rfl,rfl,_,rfl,kq _ _ (Same.refl _) ?_⟩;rw[ee]
 ·intro D us H' hul hR hs hD hDl;refine done D H' hs ?_;rw[hDl];congr 2;apply QT;intro i;by_cases hi:i<us.length
  ·have hie:i<es.length:=by rw[←hpa.1,←hul];exact hi
   rw[Qa hi,hR i _ (Qa hi),Qd,Qd,Qa hie,Qb,Qa hie];rfl
  ·rw[Qo (by omega),Qo (by rw[Qc,Qc];have:=hpa.1;omega)]
theorem ZhZ:∀ {l:List Int} {b:Nat},(∀ x∈l,0<=x/\x<=b)->0<=l.sum/\l.sum<=b*l.length
 | [],b,_=>by simp
 | x::l,b,h=>by
  have ih:=ZhZ (l:=l) (b:=b) fun y hy=>h y (Ql _ hy);have hx:=h x (Qi ..);rw[Qw,QL];push_cast;rw[Ry,UU];omega
theorem ZnP {l:List Int} (h:∀ x∈l,0<=x/\x<=(64000:Nat)) (hl:l.length<=128):(∀ x∈l,InLong x)/\∀ k,InLong (l.take k).sum:=by
 constructor
 ·intro x hx;have:=h x hx;unfold InLong;omega
 ·intro k;have h1:=ZhZ (l:=l.take k) (b:=64000) fun x hx=>h x (Wr hx);have h2:(l.take k).length<=128:=by rw[QB];omega
  unfold InLong;omega
theorem ZmR (f:Str->Int) (ss:List Str):(ups f ss).length<=ss.length:=by
 unfold ups;rw[Qc];exact Wa _ _
theorem Zkn (hF:Jo es) {f:Str->Int} (hf:∀ x,(f x).natAbs=(mo es x).natAbs) (hp:SPts es ss):(∀ x∈(ups f ss).map fun e=>e.2,InLong x)/\(∀ k,InLong (((ups f ss).map fun e=>e.2).take k).sum)/\(ups f ss).length<=1000:=by
 have hb:∀ x,(f x).natAbs<=64000:=fun x=>by
  rw[hf];have:=Zpg (es:=es) (b:=1000) x hF.many;have:=hF.few;omega
 have hl:(ups f ss).length<=128:=by
  have:=ZmR f ss;have:=hp.pts.len;have:=hF.few;omega
 obtain⟨a1,a2⟩:=ZnP (l:=(ups f ss).map fun e=>e.2) (fun x hx=>by
  obtain⟨e,he,rfl⟩:=Qj.mp hx;have:=Zow hb ss e he;omega) (by rw[Qc];exact hl)
 exact⟨a1,a2,by omega⟩
theorem Zc4 {n:Nat} {T:Nat->List Tie} {b:Nat} (hT:∀ r,((T r).map fun t=>t.2.natAbs).sum<=b) (hb:1<=b):∀ (k:Nat) (ch:List Nat),(ZK n T k ch).natAbs<=b ^ k
 | 0,ch=>by
  unfold ZK;split <;> simp
 | k+1,ch=>by
  unfold ZK;have key:∀ ts:List Tie,((ts.map fun t=>t.2*ZK n T k (ch++[t.1])).sum).natAbs<=((ts.map fun t=>t.2.natAbs).sum)*b ^ k:=fun ts=>by
   induction ts with
   | nil=>simp
   | cons t ts ih =>
    rw[Qh,Qw,Qh,Qw,RW];refine QY (VD _ _) (Nat.add_le_add ?_ ih);rw[VS];exact Nat.mul_le_mul_left _ (Zc4 hT hb k _)
  refine QY (key _) ?_;rw[Nat.pow_succ,Vn (b ^ k)];exact Rq _ (hT _)
theorem ZmY (hF:Jo es) (os:List Str) (r:Nat):((Ya os es r).map fun t=>t.2.natAbs).sum<=64000:=by
 have key:∀ l:List Tie,(∀ t∈l,t.2.natAbs<=1000)->(l.map fun t=>t.2.natAbs).sum<=1000*l.length:=fun l=>by
  induction l with
  | nil=>intro _;simp
  | cons t l ih =>
   intro h;have:=ih fun u hu=>h u (Ql _ hu);have:=h t Qi;rw[Qh,Qw,QL];omega
 have h1:=key (Ya os es r) fun t ht=>by
  unfold Ya at ht;obtain⟨e,he,rfl⟩:=Qj.mp ht;have:=hF.many e (QD.mp he).1;dsimp only;omega
 have h2:(Ya os es r).length<=es.length:=by
  unfold Ya;rw[Qc];exact Wa _ _
 have:=hF.few;omega
theorem Ze3:∀ {a b:Nat},a<=b->fc a<=fc b
 | a,0,h=>by rw[Nat.le_zero.mp h];exact Qk _
 | a,b+1,h=>by
  by_cases e:a=b+1
  ·rw[e];exact Qk _
  ·refine QY (Ze3 (b:=b) (by omega)) ?_;show fc b<=(b+1)*fc b;exact Nat.le_mul_of_pos_left _ (Nat.succ_pos b)
theorem Zpy (h:n<=27):fc n<2 ^ 94:=Ud (Ze3 h) (by decide)
theorem Zhl {x:Int} (h:x<=27):Sm 94 (fI x):=by
 show(fI x).natAbs<2 ^ 94;unfold fI;rw[Vv];exact Zpy (by omega)
theorem Zfq (hF:Jo es) (h:os.length<=31):Sm 500 (Xb os es):=by
 show(Xb os es).natAbs<2 ^ 500;unfold Xb;refine Ud (Zc4 (b:=64000) (ZmY hF os) (by decide) os.length []) ?_;exact Ud (Va (by decide) h) (by decide +kernel)
theorem Zmh {g:Str->Int} (hg:∀ x,Sm 94 (g x)):∀ l:List Str,Sm (94*l.length+1) (prI (l.map g))
 | []=>by show(1:Int).natAbs<2 ^ 1;decide
 | x::l=>by
  have:=(hg x).mul (Zmh hg l);rw[Qh,ZA,QL,show 94*(l.length+1)+1=94+(94*l.length+1)by omega];exact this
theorem ZkQ (l:List Int) (x:Int):prI (l++[x])=prI l*x:=by
 rw[Zb9,ZA,Zb8,UU]
abbrev Jx:Stmt:=top 24
abbrev Zg9:List Str:=["number","product","factor"]
theorem scFactorial:Zo Zg9 ["number"] (Zf Jx):=⟨rfl,rfl,rfl,by decide +kernel,rfl,by decide +kernel,by decide +kernel⟩
def Znc:Sp:=fun vs H Q _=>∃ n:Int,vs=[.int n]/\-1000<=n/\n<=27/\Q (.int (fI n)) H
theorem Zdx (D:HasDef K mg "factorial" Jx ["number"]) (B:Blt mg):FOk P w K mg base 1 "factorial" ["number"] Znc:=by
 refine D.ok scFactorial (fun vs H Q E h=>?_) (fun f cdv A outer s H vs Q E hr h=>?_)
 ·obtain⟨n,rfl,_⟩:=h;rfl
 ·obtain⟨n,rfl,n1,n2,k⟩:=h;refine⟨_,(Zc (Zj (i:=1) scFactorial.nd rfl (.inl rfl) Zg)
   (Zc (ZY PassesOwn.never rfl (Zdj rfl B.range (Za Zg (Za (Zn ZS (pv 0) Zg) Ze))) (ZB (i:=2) scFactorial.nd rfl (.inl rfl))
    (Zh (Zj (i:=1) scFactorial.nd rfl (.inl rfl) (Zn JC (pv 1) (pv 2)))))
   (Zh (Zp (pv 1))))),?_⟩
  refine⟨_,rfl,_,_,rfl,rfl,2,n+1,rfl,⟨by decide,by decide,by omega,by omega⟩,?_⟩;refine Y0 (n:=(n+1-2).toNat) (fun i σ H3=>∃ z2:Option V,σ=[some (.int n),some (.int (fc (i+1):Int)),z2]/\H3=H) ⟨none,rfl,rfl⟩ ?_ ?_
  ·rintro i σ H3 hi ⟨z2,rfl,rfl⟩;have hb:fc (i+1)<2 ^ 94:=Zpy (by omega);refine⟨_,rfl,_,rfl,_,_,rfl,rfl,⟨Sm.big (k:=94) (by show(fc (i+1):Int).natAbs<2 ^ 94;rw[Vv];exact hb) (by decide),Sm.big (k:=5) (by show(2+(i:Int)).natAbs<2 ^ 5;omega) (by decide)⟩,some (.int (2+(i:Int))),?_,rfl⟩;have e:((fc (i+1):Nat):Int)*(2+(i:Int))=((fc (i+1+1):Nat):Int):=by
    show _=(((i+1+1)*fc (i+1):Nat):Int);rw[Rp,WA];congr 1;omega
   dsimp only;rw[e];rfl
  ·rintro σ H3 ⟨z2,rfl,rfl⟩;refine⟨_,rfl,?_⟩;have e:((fc ((n+1-2).toNat+1):Nat):Int)=fI n:=by
    unfold fI;by_cases c:1<=n
    ·congr 2;omega
    ·have e1:(n+1-2).toNat=0:=by omega
     have e2:n.toNat=0:=by omega
     rw[e1,e2];rfl
   rw[e];exact k
abbrev Yf:Stmt:=top 18
abbrev XL:List Str:=["H"]
theorem Zaw:Zo XL ["H"] (Zf Yf):=⟨rfl,rfl,rfl,by decide +kernel,rfl,by decide +kernel,by decide +kernel⟩
structure Few (es:Es):Prop where
 out:∀ x,Zbq es x<=27
 one:∀ e∈es,e.2<=27
theorem Zmj (hF:Jo es) (x:Str):0<=Zbq es x:=(YQ _ (ZeE hF x)).2
theorem ZoZ (hF:Jo es) (hW:Few es) {r:Str} (h:os.length<=31) (ys:List Str) (hy:ys.length<=32):Sm 3900 (Xb os es*fI (Zbq es r)*prI (ys.map fun x=>fI (Zbq es x-1))):=by
 have h1:=((Zfq hF h).mul (Zhl (hW.out r))).mul (Zmh (g:=fun x=>fI (Zbq es x-1)) (fun x=>Zhl (by have:=hW.out x;omega)) ys);exact h1.up (by omega)
def Zos (wsh:Str) (us:Es):Str:=match us with | []=>wsh | u::_=>u.1
theorem Zmk (ss:List Str) (r:Str):(othL ss r).length<=ss.length:=Wa _ _
theorem ZkV {r:Str}:othL (ss++[x]) r=if x=r then othL ss r else othL ss r++[x]:=by
 unfold othL;rw[Wt];by_cases c:x=r <;> simp[c]
abbrev Zaz:Stmt:=top 25
abbrev Zjk:List Str:=["H","end","orders","point"]
theorem scOrdersTo:Zo Zjk ["H","end"] (Zf Zaz):=⟨rfl,rfl,rfl,by decide +kernel,rfl,by decide +kernel,by decide +kernel⟩
def ZoJ:Sp:=fun vs H Q _=>∃ (v:V) (es:Es) (r:Str),vs=[v,.str r]/\HeapV H v es/\Jo es/\Few es/\(∀ ss,SPts es ss->ss.length<=31)/\∀ H' ss,Same H H'->SPts es ss->Q (.int (Zny ss es r)) H'
theorem Zdr (D:HasDef K mg "orders_to" Zaz ["H","end"]) (B:Blt mg) (g46_:FOk P w K mg base 5 "trees_of" ["H","root"] Zh9) (g35_:FOk P w K mg base 5 "outs_of" ["H","P"] Zl3) (g23_:FOk P w K mg base 5 "factorial" ["number"] Znc) (g40_:FOk P w K mg base 5 "points_of" ["H"] Xy):FOk P w K mg base 6 "orders_to" ["H","end"] ZoJ:=by
 refine D.ok scOrdersTo (fun vs H Q E h=>?_) (fun f cdv A outer s H vs Q E hr h=>?_)
 ·obtain⟨v,es,r,rfl,_⟩:=h;rfl
 ·obtain⟨v,es,r,rfl,hV,hF,hW,hn,k⟩:=h;refine⟨_,(Zc (Zj (i:=2) scOrdersTo.nd rfl (.inl rfl) (Zn JC (Zq g46_ hr (Za (pv 0) (Za (pv 1) Ze))) (Zq g23_ hr (Za (Zq g35_ hr (Za (pv 0) (Za (pv 1) Ze))) Ze))))
   (Zc (ZY PassesOwn.never rfl (Yy (Zq g40_ hr (Za (pv 0) Ze))) (ZB (i:=3) scOrdersTo.nd rfl (.inl rfl))
    (Zh (Z3 (Zs ZeF (pv 3) (pv 1) (Zx _)) (Zh (Zj (i:=2) scOrdersTo.nd rfl (.inl rfl) (Zn JC (pv 2) (Zq g23_ hr (Za (Zn Yz (Zq g35_ hr (Za (pv 0) (Za (pv 3) Ze))) Zg) Ze))))) Zy)))
   (Zh (Zp (pv 2))))),?_⟩
  have ho:∀ ss,SPts es ss->(othL ss r).length<=31:=fun ss hS=>QY (Zmk ss r) (hn ss hS);refine⟨_,rfl,_,rfl,v,es,r,rfl,hV,hF,ho,fun H1 ss s1 hS=>?_⟩;refine⟨_,rfl,_,rfl,v,es,r,rfl,hV.same s1,hF,fun H2 s2=>?_⟩;have o1:=Zmj hF r;have o2:=hW.out r;have s12:=s1.trans s2;refine⟨_,rfl,by omega,o2,_,_,rfl,rfl,⟨(Zfq hF (ho ss hS)).big (by decide),(Zhl o2).big (by decide)⟩,?_⟩;refine⟨_,rfl,v,es,rfl,hV.same s12,hF,fun v' H3 ss' s3 hT hS'=>?_⟩;have ess:=SPts.one hS' hS;subst ess;obtain⟨q,rfl,hq⟩:=hT;have s13:=s12.trans s3;have hno:=ho _ hS;refine⟨q,rfl,⟨_,SqT.of hq⟩,XY (K:=K) (a:=q) (xs:=ss'.map V.str) (fun i σ H4=>(∃ z3:Option V,σ=[some v,some (.str r),some (.int (Xb (othL ss' r) es*fI (Zbq es r)*prI ((othL (ss'.take i) r).map fun x=>fI (Zbq es x-1)))),z3])/\Same H3 H4)
   ⟨⟨none,?_⟩,Same.refl _⟩ (fun i σ H4 _ ⟨_,s4⟩=>SqT.of (s4 _ _ hq)) ?_ ?_⟩
  ·rw[show othL (ss'.take 0) r=[]from rfl,We,Zb8,UU];rfl
  ·rintro i x σ H4 hi ⟨⟨z3,rfl⟩,s4⟩;obtain⟨hi',rfl⟩:=YS hi;have etk:ss'.take (i+1)=ss'.take i++[ss'[i]]:=Q5 hi';rw[etk,ZkV];have hlt:(othL (ss'.take i) r).length<=31:=by
    have h1:=Zmk (ss'.take i) r;have h2:=hn _ hS;rw[QB]at h1;omega
   generalize ss'[i]=x at *;refine⟨_,rfl,_,rfl,rfl,_,rfl,?_⟩;by_cases c:x=r
   ·rw[if_pos c];exact Xa (by rw[c];simp) ⟨⟨_,rfl⟩,s4⟩
   ·rw[if_neg c];refine Jp (by simp[c]) ?_;refine⟨_,rfl,_,rfl,_,rfl,v,es,x,rfl,hV.same (s13.trans s4),hF,fun H5 s5=>?_⟩;have p1:=Zmj hF x;have p2:=hW.out x;refine⟨_,_,rfl,rfl,_,rfl,by omega,by omega,_,_,rfl,rfl,⟨(ZoZ hF hW hno _ (by omega)).big (by decide),(Zhl (by omega)).big (by decide)⟩,⟨some (.str x),?_⟩,s4.trans s5⟩;rw[QH,Qh,We,ZkQ,←Q6];rfl
  ·rintro σ H4 ⟨⟨z3,rfl⟩,s4⟩;rw[Qc,QJ (Qk _)];exact⟨_,rfl,k H4 ss' (s13.trans s4) hS⟩
theorem Zek {α:Type} (f g:α->Int):∀ l:List α,(l.map fun x=>f x+g x).sum=(l.map f).sum+(l.map g).sum
 | []=>rfl
 | x::l=>by
  rw[Qh,Qh,Qh,Qw,Qw,Qw,Zek f g l];omega
theorem ZhY (y:Str):∀ l:List Str,l.Nodup->(l.map fun x=>if x=y then (1:Int)else 0).sum=if y∈l then 1 else 0
 | [],_=>rfl
 | x::l,nd=>by
  obtain⟨n1,n2⟩:=Q7.mp nd;rw[Qh,Qw,ZhY y l n2];by_cases e:x=y
  ·subst e;rw[if_pos rfl,if_neg n1,if_pos Qi];rfl
  ·rw[if_neg e,Uf];by_cases h:y∈l
   ·rw[if_pos h,if_pos (Ql _ h)]
   ·rw[if_neg h,if_neg fun q=>(QA.mp q).elim (fun z=>e z.symm) h]
theorem Zj9 {ks:List Str} (nd:ks.Nodup) (p:Str->Bool):∀ ps:List Str,(∀ x∈ps,x∈ks)->((ks.filter p).map fun x=>(ps.count x:Int)).sum=((ps.filter p).length:Int)
 | [],_=>by
  have:∀ l:List Str,(l.map fun x=>((([]:List Str).count x:Nat):Int)).sum=0:=fun l=>by
   induction l with
   | nil=>rfl
   | cons x l ih=>rw[Qh,Qw,ih];rfl
  rw[this];rfl
 | y::ps,h=>by
  have ih:=Zj9 nd p ps fun x hx=>h x (Ql _ hx);have e:∀ x:Str,(((y::ps).count x:Nat):Int)=(ps.count x:Int)+if x=y then 1 else 0:=fun x=>by
   rw[VO];by_cases c:x=y
   ·subst c;simp
   ·rw[if_neg (by simpa using fun q:y=x=>c q.symm),if_neg c];rfl
  have e2:((ks.filter p).map fun x=>(((y::ps).count x:Nat):Int))=(ks.filter p).map fun x=>(ps.count x:Int)+if x=y then 1 else 0:=Qu fun x _=>e x
  rw[e2,Zek,ih,ZhY y _ (nd.filter _)];by_cases c:p y=true
  ·rw[if_pos (QD.mpr ⟨h y Qi,c⟩),Wc c,QL];omega
  ·rw[if_neg fun q=>c (QD.mp q).2,Wd c];omega
theorem ZaV (h:Zz ps hp):(hp.map (·.1)).Nodup:=by
 rw[Ui,QR];refine List.Pairwise.imp ?_ (QR.mp h.srt);intro x y hxy e;rw[e]at hxy;exact Wm _ hxy
theorem ZcC (h:Zz ps hp) (p:Str->Bool):((hp.filter fun e=>p e.1).map fun e=>e.2).sum=((ps.filter p).length:Int):=by
 rw[←Zj9 (ZaV h) p ps fun x hx=>(h.mem x).mpr hx];congr 1;rw[UB,QC];refine Qu fun e he=>?_;exact h.cnt e (QD.mp he).1
def oR (ps:List Str) (y:Str):Nat:=(ps.filter fun x=>decide (bg x=y)).length
def iR (ps:List Str) (y:Str):Nat:=(ps.filter fun x=>decide (en x=y)).length
theorem Zcd (h:Zz ps hp) (y:Str):Zbq hp y=(oR ps y:Int):=ZcC h fun x=>decide (bg x=y)
theorem Zmr (h:Zz ps hp) (y:Str):mo hp y=(oR ps y:Int)-(iR ps y:Int):=by
 have key:∀ es:Es,mo es y=((es.filter fun e=>decide (bg e.1=y)).map fun e=>e.2).sum-((es.filter fun e=>decide (en e.1=y)).map fun e=>e.2).sum:=fun es=>by
  induction es with
  | nil=>rfl
  | cons e es ih =>
   rw[Zcl,ih];unfold mo1 ind;by_cases a:bg e.1=y <;> by_cases b:en e.1=y <;> simp[a,b] <;> omega
 rw[key,ZcC h fun x=>decide (bg x=y),ZcC h fun x=>decide (en x=y)];rfl
theorem Zpx (h:Zz ps hp) (hl:ps.length<=27):Few hp:=by
 refine⟨fun x=>?_,fun e he=>?_⟩
 ·rw[Zcd h];have:oR ps x<=ps.length:=Wa _ _;omega
 ·have h1:=h.cnt e he;have h2:=Rr (a:=e.1) (l:=ps);omega
def Xf (ps:List Str):Es:=ps.map fun x=>(x,1)
theorem Zk1 (ps:List Str):(Xf ps).map (·.1)=ps:=by
 unfold Xf;rw[QC];exact List.map_id' ps
theorem Zi8 (h1:ps.length<=31) (h2:∀ x∈ps,1<=x.length/\x.length<=1000):Jo (Xf ps):=by
 unfold Xf;refine⟨by rw[Qc];exact h1,fun e he=>?_,fun e he=>?_⟩
 ·obtain⟨x,_,rfl⟩:=Qj.mp he;exact⟨by show(0:Int)<=1;decide,by show(1:Int)<=1000;decide⟩
 ·obtain⟨x,hx,rfl⟩:=Qj.mp he;exact h2 x hx
theorem ZfQ (h:Zz ps hp) {ss':List Str} (h1:SPts (Xf ps) ss) (h2:SPts hp ss'):ss=ss':=by
 refine Zeo h1.srt h2.srt fun x=>?_;rw[h1.pts.mem,h2.pts.mem];constructor
 ·rintro⟨e,he,q⟩;unfold Xf at he;obtain⟨y,hy,rfl⟩:=Qj.mp he;obtain⟨e2,he2,rfl⟩:=Qj.mp ((h.mem y).mpr hy);exact⟨e2,he2,q⟩
 ·rintro⟨e,he,q⟩;exact⟨(e.1,1),Qj.mpr ⟨e.1,(h.mem _).mp (Qj.mpr ⟨e,he,rfl⟩),rfl⟩,q⟩
def hD (ps:List Str) (r x:Str):Int:=fI ((oR ps x:Int)-if x=r then 0 else 1)
theorem Zbf (g:Nat->Int):∀ n:Nat,Xe (n+1) g=g 0+Xe n fun i=>g (i+1)
 | 0=>by simp[Xe]
 | n+1=>by
  rw[Xe,Zbf g n,Xe];omega
theorem ZgA:∀ {q n:Nat} {f:Z7},q<n->(∀ r,r<n->f r q=0)->det n f=0
 | 0,0,f,h,_=>by omega
 | 0,n+1,f,h,e=>ZgC e
 | q+1,0,f,h,_=>by omega
 | q+1,n+1,f,h,e=>by
  rw[det];refine X1 fun i hi=>?_;rw[ZgA (q:=q) (n:=n) (by omega) fun r hr=>e (rmv i r) (by unfold rmv;split <;> omega),WS]
theorem ZgB:∀ {q n:Nat} {f:Z7},q<=n->(∀ r,0<r->r<n+1->f r q=0)->det (n+1) f=Zaf q*f 0 q*det n fun r c=>f (r+1) (rmv q c)
 | 0,n,f,h,e=>by
  rw[ZcM e];have e1:(fun r c=>f (r+1) (rmv 0 c))=fun r c=>f (r+1) (c+1):=by
   funext r c
   unfold rmv;rw[if_neg (by omega)]
  rw[e1];simp[Zaf]
 | q+1,0,f,h,_=>by omega
 | q+1,m+1,f,h,e=>by
  have rs:∀ j r,rmv (j+1) (r+1)=rmv j r+1:=fun j r=>by
   unfold rmv;by_cases c:r<j
   ·rw[if_pos (by omega),if_pos c]
   ·rw[if_neg (by omega),if_neg c]
  have r0:∀ j,rmv (j+1) 0=0:=fun j=>by unfold rmv;rw[if_pos (by omega)]
  rw[det,Zbf];have z0:det (m+1) (fun r c=>f (rmv 0 r) (c+1))=0:=ZgA (q:=q) (by omega) fun r hr=>by
   have:rmv 0 r=r+1:=by unfold rmv;rw[if_neg (by omega)]
   rw[this];exact e _ (by omega) (by omega)
  rw[z0,WS,Uf,det];have lin:∀ (a:Int) (n:Nat) (g:Nat->Int),a*Xe n g=Xe n fun i=>a*g i:=fun a n g=>by
   have:=Zaa a 0 g g n;rw[Wx,Ue]at this;rw[←this];refine Yr fun i _=>?_;rw[Wx,Ue]
  rw[lin];refine Yr fun j hj=>?_;have ih:=ZgB (q:=q) (n:=m) (f:=fun r c=>f (rmv (j+1) r) (c+1)) (by omega) fun r h1 h2=>by
   obtain⟨r',rfl⟩:∃ r',r=r'+1:=⟨r-1,by omega⟩
   rw[rs];refine e _ (by omega) ?_;unfold rmv;split <;> omega
  rw[ih,r0,r0];have ed:(fun r c=>f (rmv (j+1) (r+1)) (rmv q c+1))=fun r c=>f (rmv j r+1) (rmv (q+1) (c+1)):=by
   funext r c
   rw[rs,rs]
  rw[ed,Zae,Zae];simp only[Ub,VF];congr 1;simp only[Q6,Wo,WA]
theorem Zma (q:Nat):Zaf q*Zaf q=1:=by
 unfold Zaf;split <;> rfl
theorem ZlF {f:Z7} (h:q<n+1) (e:∀ r,r<n+1->r≠q->f r q=0):det (n+1) f=f q q*det n fun r c=>f (rmv q r) (rmv q c):=by
 have h1:=Ze6 (n:=n+1) (p:=q) (f:=f) h;have h2:=ZgB (q:=q) (n:=n) (f:=Zei f q) (by omega) fun r r1 r2=>by
  unfold Zei;rw[if_neg (by omega)];refine e _ ?_ (Zbl q _);unfold rmv;split <;> omega
 have e1:(fun r c=>Zei f q (r+1) (rmv q c))=fun r c=>f (rmv q r) (rmv q c):=by
  funext r c
  unfold Zei;rw[if_neg (by omega)];rfl
 have e2:Zei f q 0 q=f q q:=by unfold Zei;rw[if_pos rfl]
 rw[e1,e2,h1]at h2;have h3:=congrArg (fun x=>Zaf q*x) h2;rw[←Q6,Zma,Q9,←Q6,←Q6,Zma,Q9]at h3;exact h3
def Zbc (os:List Str) (x:Str) (r c:Nat):Int:=if os.idxOf (bg x)=r then (if c=r then 1 else 0)-(if c=os.idxOf (en x)then 1 else 0)else 0
theorem Zej (os:List Str) (r c:Nat):∀ es:Es,JO os es r c=(es.map fun e=>e.2*Zbc os e.1 r c).sum
 | []=>rfl
 | e::es=>by
  rw[Qh,Qw,←Zej os r c es];unfold JO Znj Ya Zbc;by_cases h:os.idxOf (bg e.1)=r
  ·rw[if_pos h,Wc (by simpa using h),Qh,Qh,Qw]
  ·rw[if_neg h,Wd (by simpa using h),WS,Uf]
theorem Zfx (φ:Str->Int) (y:Str):∀ l:List Str,l.Nodup->y∈l->(l.map fun x=>(if x=y then (1:Int)else 0)*φ x).sum=φ y
 | [],_,h=>by cases h
 | x::l,nd,h=>by
  obtain⟨n1,n2⟩:=Q7.mp nd;rw[Qh,Qw];by_cases e:x=y
  ·subst e;have:∀ m:List Str,x∉m->(m.map fun z=>(if z=x then (1:Int)else 0)*φ z).sum=0:=fun m hm=>by
    induction m with
    | nil=>rfl
    | cons z m ih =>
     rw[Qh,Qw,ih fun q=>hm (Ql _ q),if_neg fun q=>hm (by rw[q];exact Qi),Wx];rfl
   rw[this l n1,if_pos rfl,Q9,Ue]
  ·rw[if_neg e,Wx,Uf];exact Zfx φ y l n2 ((QA.mp h).resolve_left fun q=>e q.symm)
theorem ZcN {ks:List Str} (nd:ks.Nodup) (φ:Str->Int):∀ ps:List Str,(∀ x∈ps,x∈ks)->(ks.map fun x=>(ps.count x:Int)*φ x).sum=(ps.map φ).sum
 | [],_=>by
  have:∀ l:List Str,(l.map fun x=>((([]:List Str).count x:Nat):Int)*φ x).sum=0:=fun l=>by
   induction l with
   | nil=>rfl
   | cons x l ih =>
    rw[Qh,Qw,ih];simp
  rw[this];rfl
 | y::ps,h=>by
  have ih:=ZcN nd φ ps fun x hx=>h x (Ql _ hx);have e:∀ x:Str,(((y::ps).count x:Nat):Int)*φ x=(ps.count x:Int)*φ x+(if x=y then 1 else 0)*φ x:=fun x=>by
   rw[VO,←Rz];congr 1;by_cases c:x=y
   ·subst c;simp
   ·rw[if_neg (by simpa using fun q:y=x=>c q.symm),if_neg c];rfl
  have e2:(ks.map fun x=>(((y::ps).count x:Nat):Int)*φ x)=ks.map fun x=>(ps.count x:Int)*φ x+(if x=y then 1 else 0)*φ x:=Qu fun x _=>e x;rw[e2,Zek,ih,Zfx φ y _ nd (h y Qi),Qh,Qw];omega
theorem ZjN (h:Zz ps hp) (φ:Str->Int):(hp.map fun e=>e.2*φ e.1).sum=(ps.map φ).sum:=by
 rw[←ZcN (ZaV h) φ ps fun x hx=>(h.mem x).mpr hx,QC];congr 1;refine Qu fun e he=>?_;show e.2*φ e.1=(ps.count e.1:Int)*φ e.1;rw[h.cnt e he]
def JU (os ps:List Str):Z7:=fun r c=>(ps.map fun x=>Zbc os x r c).sum
theorem Zks (h:Zz ps hp) (os:List Str):JO os hp=JU os ps:=by
 funext r c
 rw[Zej];exact ZjN h fun x=>Zbc os x r c
theorem ZfU {l m:List Int} (h:l.Perm m):l.sum=m.sum:=by
 induction h with
 | nil=>rfl
 | cons x _ ih=>rw[Qw,Qw,ih]
 | swap x y l=>rw[Qw,Qw,Qw,Qw];omega
 | trans _ _ a b=>rw[a,b]
theorem Zgi (h:ps.Perm qs):JU os ps=JU os qs:=by
 funext r c
 exact ZfU (h.map fun x=>Zbc os x r c)
theorem Ji (os:List Str) (x:Str) (ps:List Str) (r c:Nat):JU os (x::ps) r c=Zbc os x r c+JU os ps r c:=by
 unfold JU;rw[Qh,Qw]
def trR (os ps:List Str):Int:=det os.length (JU os ps)
theorem ZhN (h:Zz ps hp) (os:List Str):Xb os hp=trR os ps:=by
 unfold Xb trR;rw[←Zks h,X0 (T:=Ya os hp) (fun r t ht=>?_) os.length [] (by simp) (fun x hx=>by cases hx)]
 ·rfl
 ·unfold Ya at ht;obtain⟨e,_,rfl⟩:=Qj.mp ht;exact Ro
theorem ZnV (nd:os.Nodup) (hq:q<os.length) (c:Nat):JU os ps q c=((ps.filter fun x=>decide (bg x=os[q])).map fun x=>(if c=q then (1:Int)else 0)-(if c=os.idxOf (en x)then 1 else 0)).sum:=by
 induction ps with
 | nil=>rfl
 | cons x ps ih =>
  rw[Ji,ih];unfold Zbc;by_cases h:bg x=os[q]
  ·rw[if_pos (by rw[h];exact nd.idxOf_getElem q hq),Wc (by simpa using h),Qh,Qw]
  ·rw[if_neg,Wd (by simpa using h),Uf];intro e;subst e;exact h (UC hq).symm
theorem ZhX {α:Type} (a:Int) (g:α->Int):∀ l:List α,(l.map fun x=>a-g x).sum=l.length*a-(l.map g).sum
 | []=>by simp
 | x::l=>by
  rw[Qh,Qh,Qw,Qw,ZhX a g l,QL];have:((l.length+1:Nat):Int)*a=(l.length:Int)*a+a:=by
   rw[VP,Rz];omega
  rw[this];omega
theorem Zgj (h:x∈ps) (r c:Nat):JU os (ps.erase x) r c=JU os ps r c-Zbc os x r c:=by
 rw[Zgi (Q3 h),Ji];omega
theorem Zll (nd:os.Nodup) (hq:q<os.length):((ps.filter fun x=>decide (bg x=os[q])).map fun x=>trR os (ps.erase x)).sum=((oR ps os[q]:Int)-1)*trR os ps:=by
 have e1:((ps.filter fun x=>decide (bg x=os[q])).map fun x=>trR os (ps.erase x))=(ps.filter fun x=>decide (bg x=os[q])).map fun x=>trR os ps-det os.length (Z9 (JU os ps) q fun c=>(if c=q then (1:Int)else 0)-(if c=os.idxOf (en x)then 1 else 0)):=by
  refine Qu fun x hx=>?_;obtain⟨hx1,hx2⟩:=QD.mp hx;have hb:bg x=os[q]:=of_decide_eq_true hx2;have hi:os.idxOf (bg x)=q:=by rw[hb];exact nd.idxOf_getElem q hq
  have e:JU os (ps.erase x)=Z9 (JU os ps) q fun c=>1*JU os ps q c+(-1)*((if c=q then (1:Int)else 0)-(if c=os.idxOf (en x)then 1 else 0)):=by
   funext r c
   rw[Zgj hx1];unfold Zbc Z9;rw[hi];by_cases z:r=q
   ·subst z;rw[if_pos rfl,if_pos rfl];omega
   ·rw[if_neg (Ne.symm z),if_neg z,UK]
  unfold trR;rw[e,Xr (JU os ps) 1 (-1) (JU os ps q) _ hq,Yv];omega
 have e2:=ZcK (JU os ps) hq (fun v c=>(if c=q then (1:Int)else 0)-(if c=v then 1 else 0)) ((ps.filter fun x=>decide (bg x=os[q])).map fun x=>(os.idxOf (en x),1));rw[QC]at e2;have e3:(fun c=>(((ps.filter fun x=>decide (bg x=os[q])).map fun x=>((os.idxOf (en x),1):Tie)).map fun t=>t.2*((if c=q then (1:Int)else 0)-(if c=t.1 then 1 else 0))).sum)=JU os ps q:=by
  funext c
  rw[ZnV nd hq,QC];congr 1;refine Qu fun x _=>?_;exact Q9 _
 rw[e3,Yv]at e2;rw[e1,ZhX];have e4:((ps.filter fun x=>decide (bg x=os[q])).map fun x=>det os.length (Z9 (JU os ps) q fun c=>(if c=q then (1:Int)else 0)-(if c=os.idxOf (en x)then 1 else 0))).sum=trR os ps:=by
  unfold trR;rw[e2];congr 1;refine Qu fun x _=>?_;exact(Q9 _).symm
 rw[e4,Int.sub_mul,Q9];rfl
theorem Zjx (h:x∈ps) (hb:bg x∉os):trR os (ps.erase x)=trR os ps:=by
 unfold trR;refine Yk fun r hr c _=>?_;rw[Zgj h];unfold Zbc;rw[if_neg (by rw[Rn hb];omega),UK]
theorem ZaU {A B:List Str} {p:Str} (hp:p∉A++B) (hy:y≠p):(A++p::B).idxOf y=rmv A.length ((A++B).idxOf y):=by
 unfold rmv;rw[UG,UG];by_cases h:y∈A
 ·have:=WG.mpr h;rw[if_pos h,if_pos h,if_pos this]
 ·rw[if_neg h,if_neg h,if_neg (by omega),List.idxOf_cons,show(p==y)=false from by simpa using fun q:p=y=>hy q.symm];show _+1+_=_;omega
theorem Znk {a b:Nat}:rmv q a=rmv q b↔a=b:=by
 unfold rmv;constructor
 ·intro h;split at h <;> split at h <;> omega
 ·rintro rfl;rfl
theorem ZmZ {A B:List Str} {p:Str} (hp:p∉A++B) (h1:bg x≠p) (h2:en x≠p) (r c:Nat):Zbc (A++p::B) x (rmv A.length r) (rmv A.length c)=Zbc (A++B) x r c:=by
 unfold Zbc;rw[ZaU hp h1,ZaU hp h2];simp only[Znk]
theorem Zhk {A B:List Str} {p:Str} (hp:p∉A++B) (hb:bg x=p) (he:en x≠p) (hn:∀ y∈ps,bg y≠p/\en y≠p):trR (A++p::B) (x::ps)=trR (A++B) ps:=by
 have hpA:p∉A:=fun q=>hp (QE.mpr (.inl q));have hix:(A++p::B).idxOf p=A.length:=by
  rw[UG,if_neg hpA,List.idxOf_cons_self];omega
 have hl:(A++p::B).length=(A++B).length+1:=by simp;omega
 have hlt:A.length<(A++B).length+1:=by simp;omega
 have col:∀ (y:Str) (r:Nat),en y≠p->r≠A.length->Zbc (A++p::B) y r A.length=0:=fun y r h1 h2=>by
  unfold Zbc;split
  ·rw[if_neg (Ne.symm h2),if_neg]
   ·rfl
   ·rw[ZaU hp h1];exact fun q=>Zbl _ _ q.symm
  ·rfl
 have sum0:∀ (l:List Str) (g:Str->Int),(∀ y∈l,g y=0)->(l.map g).sum=0:=fun l g h=>by
  induction l with
  | nil=>rfl
  | cons y l ih =>
   rw[Qh,Qw,h y Qi,ih fun z hz=>h z (Ql _ hz)];rfl
 unfold trR;rw[hl,ZlF (q:=A.length) hlt fun r _ h2=>by
  rw[Ji,col x r he h2];unfold JU;rw[sum0 _ _ fun y hy=>col y r (hn y hy).2 h2];rfl]
 have e1:JU (A++p::B) (x::ps) A.length A.length=1:=by
  rw[Ji];have e2:Zbc (A++p::B) x A.length A.length=1:=by
   unfold Zbc;rw[hb,hix,if_pos rfl,if_pos rfl,if_neg]
   ·rfl
   ·rw[ZaU hp he];exact fun q=>Zbl _ _ q.symm
  have e3:JU (A++p::B) ps A.length A.length=0:=by
   unfold JU;refine sum0 _ _ fun y hy=>?_;unfold Zbc;rw[if_neg];rw[ZaU hp (hn y hy).1];exact Zbl _ _
  rw[e2,e3];rfl
 rw[e1,Q9];refine Yk fun r _ c _=>?_;rw[Ji];have e4:Zbc (A++p::B) x (rmv A.length r) (rmv A.length c)=0:=by
  unfold Zbc;rw[hb,hix,if_neg fun q=>Zbl _ _ q.symm]
 rw[e4,Uf];unfold JU;congr 1;exact Qu fun y hy=>ZmZ hp (hn y hy).1 (hn y hy).2 r c
theorem XO {n:Nat} {T:Nat->List Tie} {S:Nat->Prop} {i0:Nat} (h0:i0<n) (s0:S i0) (hc:∀ i,i<n->S i->∀ t∈T i,t.1<n/\S t.1):∀ (k:Nat) (ch:List Nat),ch.length+k=n->(∀ i,i<ch.length->S i->ch.getD i n<n/\S (ch.getD i n))->ZK n T k ch=0
 | 0,ch,hl,h=>by
  unfold ZK;rw[if_neg];intro q;have key:∀ m,itr (gof n fun i=>ch.getD i n) m i0<n/\S (itr (gof n fun i=>ch.getD i n) m i0):=fun m=>by
   induction m with
   | zero=>exact⟨h0,s0⟩
   | succ m ih =>
    show gof n _ (itr _ m i0)<n/\S (gof n _ (itr _ m i0));rw[ZdR ih.1];exact h _ (by omega) ih.2
  exact q i0 h0 (key n).1
 | k+1,ch,hl,h=>by
  unfold ZK;by_cases c:S ch.length
  ·have:∀ l:List Tie,(∀ t∈l,t∈T ch.length)->(l.map fun t=>t.2*ZK n T k (ch++[t.1])).sum=0:=fun l hl2=>by
    induction l with
    | nil=>rfl
    | cons t l ih =>
     have ht:=hl2 t Qi;rw[Qh,Qw,ih fun u hu=>hl2 u (Ql _ hu),XO h0 s0 hc k (ch++[t.1]) (by simp;omega) (fun i hi si=>?_),WS]
     ·rfl
     ·rw[Qm,QK]at hi;rw[Qb];by_cases z:i<ch.length
      ·rw[QP z,←Qb];exact h i z si
      ·have:i=ch.length:=by omega
       subst this;rw[QQ (Qk _),WN];exact hc _ (by omega) c t ht
   exact this _ fun t ht=>ht
  ·have:∀ l:List Tie,(l.map fun t=>t.2*ZK n T k (ch++[t.1])).sum=0:=fun l=>by
    induction l with
    | nil=>rfl
    | cons t l ih =>
     rw[Qh,Qw,ih,XO h0 s0 hc k (ch++[t.1]) (by simp;omega) (fun i hi si=>?_),WS]
     ·rfl
     ·rw[Qm,QK]at hi;rw[Qb];by_cases z:i<ch.length
      ·rw[QP z,←Qb];exact h i z si
      ·have:i=ch.length:=by omega
       subst this;exact absurd si c
   exact this _
def inP (ps:List Str) (y:Str):Bool:=ps.any fun x=>decide (bg x=y) || decide (en x=y)
def osL (ss ps:List Str) (e:Str):List Str:=ss.filter fun y=>decide (y≠e)&&inP ps y
def prO (ps os:List Str):Int:=prI (os.map fun y=>fI ((oR ps y:Int)-1))
def BR (ss ps:List Str) (e:Str):Int:=trR (osL ss ps e) ps*fI (oR ps e)*prO ps (osL ss ps e)
def Bal (ps:List Str) (P e:Str):Prop:=∀ y,(oR ps y:Int)-(iR ps y:Int)=(if y=P then 1 else 0)-(if y=e then 1 else 0)
theorem XU (h:ps.Perm qs) (y:Str):oR ps y=oR qs y:=(h.filter _).length_eq
theorem JH (h:ps.Perm qs) (y:Str):iR ps y=iR qs y:=(h.filter _).length_eq
theorem Xm (x:Str) (qs:List Str) (y:Str):oR (x::qs) y=(if bg x=y then 1 else 0)+oR qs y:=by
 unfold oR;rw[Wv];by_cases c:bg x=y
 ·rw[if_pos c,if_pos (by simpa using c),QL];omega
 ·rw[if_neg c,if_neg (by simpa using c)];omega
theorem XX (x:Str) (qs:List Str) (y:Str):iR (x::qs) y=(if en x=y then 1 else 0)+iR qs y:=by
 unfold iR;rw[Wv];by_cases c:en x=y
 ·rw[if_pos c,if_pos (by simpa using c),QL];omega
 ·rw[if_neg c,if_neg (by simpa using c)];omega
theorem inP_iff:inP ps y=true↔∃ x∈ps,bg x=y\/en x=y:=by
 unfold inP;rw[RI];constructor
 ·rintro⟨x,hx,h⟩;exact⟨x,hx,by simpa using h⟩
 ·rintro⟨x,hx,h⟩;exact⟨x,hx,by simpa using h⟩
theorem Zo5 (h:1<=oR ps y):inP ps y=true:=by
 obtain⟨x,hx⟩:=Rs (l:=ps.filter fun x=>decide (bg x=y)) h;obtain⟨h1,h2⟩:=QD.mp hx;exact inP_iff.mpr ⟨x,h1,.inl (of_decide_eq_true h2)⟩
theorem Zqw (h:1<=iR ps y):inP ps y=true:=by
 obtain⟨x,hx⟩:=Rs (l:=ps.filter fun x=>decide (en x=y)) h;obtain⟨h1,h2⟩:=QD.mp hx;exact inP_iff.mpr ⟨x,h1,.inr (of_decide_eq_true h2)⟩
theorem ZgG {P e:Str} (hB:Bal ps P e) (hp:ps.Perm (x::qs)) (hb:bg x=P):Bal qs (en x) e:=fun y=>by
 have h1:=hB y;rw[XU hp,JH hp,Xm,XX,hb]at h1;by_cases c:y=P
 ·subst c;rw[if_pos rfl,if_pos rfl]at h1;by_cases d:en x=y
  ·rw[if_pos d]at h1;rw[if_pos d.symm];omega
  ·rw[if_neg d]at h1;rw[if_neg (Ne.symm d)];omega
 ·rw[if_neg (Ne.symm c),if_neg c]at h1;by_cases d:en x=y
  ·rw[if_pos d]at h1;rw[if_pos d.symm];omega
  ·rw[if_neg d]at h1;rw[if_neg (Ne.symm d)];omega
theorem ZfR {P e:Str} (hB:Bal ps P e) (hp:ps.Perm (x::qs)) (hb:bg x=P) (hy:y≠e) (hyP:y=P->2<=oR ps P):inP ps y=inP qs y:=by
 have hq:∀ z∈qs,z∈ps:=fun z hz=>hp.mem_iff.mpr (Ql _ hz);rw[Ug];constructor
 ·intro h;obtain⟨z,hz,hz2⟩:=inP_iff.mp h;rcases QA.mp (hp.mem_iff.mp hz)with e1 | e1
  ·subst e1;refine Zo5 ?_;have ho:=XU hp y;rw[Xm,hb]at ho;by_cases c:y=P
   ·have:=hyP c;rw[if_pos c.symm]at ho;rw[←c]at this;omega
   ·rw[if_neg (Ne.symm c)]at ho;have h1:=hB y;rw[if_neg c,if_neg hy]at h1;rcases hz2 with q | q
    ·exact absurd (hb.symm.trans q).symm c
    ·have hi:=JH hp y;rw[XX,if_pos q]at hi;omega
  ·exact inP_iff.mpr ⟨z,e1,hz2⟩
 ·intro h;obtain⟨z,hz,hz2⟩:=inP_iff.mp h;exact inP_iff.mpr ⟨z,hq z hz,hz2⟩
theorem ZfZ {P e:Str} (hB:Bal ps P e) (hp:ps.Perm (x::qs)) (hb:bg x=P) (hyP:P=e\/2<=oR ps P):osL ss qs e=osL ss ps e:=by
 unfold osL;refine U3 fun y _=>?_;by_cases c:y=e
 ·simp[c]
 ·rw[ZfR (y:=y) hB hp hb c fun q=>hyP.resolve_left fun z=>c (q.trans z)]
theorem ZcG {n:Int} (h:1<=n):fI n=n*fI (n-1):=by
 unfold fI;obtain⟨m,rfl⟩:∃ m:Nat,n=(m:Int)+1:=⟨(n-1).toNat,by omega⟩
 rw[show((m:Int)+1).toNat=m+1 by omega,show((m:Int)+1-1).toNat=m by omega];show(((m+1)*fc m:Nat):Int)=_;rw[Rp];congr 1
theorem JE (h:x∈ps) (y:Str):(oR (ps.erase x) y:Int)=(oR ps y:Int)-if bg x=y then 1 else 0:=by
 have:=XU (Q3 h) y;rw[Xm]at this;by_cases c:bg x=y
 ·rw[if_pos c]at this ⊢;omega
 ·rw[if_neg c]at this ⊢;omega
theorem Zkh {P e:Str} (nd:ss.Nodup) (hss:∀ y,inP ps y=true->y∈ss) (hB:Bal ps P e) (hP:inP ps P=true) :
  BR ss ps e=((ps.filter fun x=>decide (bg x=P)).map fun x=>BR ss (ps.erase x) e).sum:=by
 have ndo:(osL ss ps e).Nodup:=nd.filter _;have hfil:∀ x∈ps.filter (fun x=>decide (bg x=P)),x∈ps/\bg x=P:=fun x hx=>⟨(QD.mp hx).1,of_decide_eq_true (QD.mp hx).2⟩
 have hBP:=hB P;rw[if_pos rfl]at hBP;by_cases hPe:P=e
 ·subst hPe;have ho1:1<=oR ps P:=by
   rw[if_pos rfl]at hBP;obtain⟨x,hx,q⟩:=inP_iff.mp hP;rcases q with q | q
   ·have:=XU (Q3 hx) P;rw[Xm,if_pos q]at this;omega
   ·have:=JH (Q3 hx) P;rw[XX,if_pos q]at this;omega
  have key:((ps.filter fun x=>decide (bg x=P)).map fun x=>BR ss (ps.erase x) P)=(ps.filter fun x=>decide (bg x=P)).map fun _=>trR (osL ss ps P) ps*fI ((oR ps P:Int)-1)*prO ps (osL ss ps P):=by
   refine Qu fun x hx=>?_;obtain⟨h1,h2⟩:=hfil x hx;have hp:=Q3 h1;have hno:P∉osL ss ps P:=fun q=>by
    have:=(QD.mp q).2;simp at this
   unfold BR;rw[ZfZ hB hp h2 (.inl rfl),Zjx h1 (by rw[h2];exact hno),JE h1,if_pos h2];congr 1;unfold prO;congr 1;refine Qu fun y hy=>?_;rw[JE h1,if_neg fun q=>hno (by have z:P=y:=h2.symm.trans q;exact z.symm▸hy),UK]
  rw[key];have rep:∀ (l:List Str) (a:Int),(l.map fun _=>a).sum=(l.length:Int)*a:=fun l a=>by
   induction l with
   | nil=>simp
   | cons x l ih =>
    rw[Qh,Qw,ih,QL,VP,Rz];omega
  rw[rep];unfold BR;rw[ZcG (n:=(oR ps P:Int)) (by omega)];show _=(oR ps P:Int)*_;simp only[Q6,Wo]
 ·rw[if_neg hPe]at hBP;have hmem:P∈osL ss ps e:=QD.mpr ⟨hss P hP,by simp[hPe,hP]⟩;by_cases h2:2<=oR ps P
  ·obtain⟨q,hq,eq⟩:∃ q,∃ h:q<(osL ss ps e).length,(osL ss ps e)[q]=P:=Rl.mp hmem;have hls:=Zll (ps:=ps) ndo hq;rw[eq]at hls;have hG:prO ps (osL ss ps e)=((oR ps P:Int)-1)*prI ((osL ss ps e).map fun y=>fI ((oR ps y:Int)-1-if P=y then 1 else 0)):=by
    unfold prO;refine YI (y:=P) _ ndo hmem ?_ fun y _ hy=>?_
    ·rw[if_pos rfl];exact ZcG (by omega)
    ·rw[if_neg (Ne.symm hy),UK]
   have key:((ps.filter fun x=>decide (bg x=P)).map fun x=>BR ss (ps.erase x) e)=(ps.filter fun x=>decide (bg x=P)).map fun x=>trR (osL ss ps e) (ps.erase x)*(fI (oR ps e)*prI ((osL ss ps e).map fun y=>fI ((oR ps y:Int)-1-if P=y then 1 else 0))):=by
    refine Qu fun x hx=>?_;obtain⟨h3,h4⟩:=hfil x hx;have hp:=Q3 h3;unfold BR;rw[ZfZ hB hp h4 (.inr h2),JE h3,if_neg (by rw[h4];exact hPe),UK,Q6];congr 2;unfold prO;congr 1;refine Qu fun y hy=>?_;rw[JE h3,h4];congr 1;omega
   have e5:=J9 (fI (oR ps e)*prI ((osL ss ps e).map fun y=>fI ((oR ps y:Int)-1-if P=y then 1 else 0))) ((ps.filter fun x=>decide (bg x=P)).map fun x=>trR (osL ss ps e) (ps.erase x));rw[QC]at e5;rw[key];show _=(List.map ((fun x=>x*(fI (oR ps e)*prI ((osL ss ps e).map fun y=>fI ((oR ps y:Int)-1-if P=y then 1 else 0)))) ∘ fun x=>trR (osL ss ps e) (ps.erase x)) _).sum;rw[←e5,hls];unfold BR;rw[hG];simp only[Q6,Wo]
  ·have ho:oR ps P=1:=by omega
   have hi:iR ps P=0:=by omega
   obtain⟨x,hx⟩:∃ x,ps.filter (fun x=>decide (bg x=P))=[x]:=List.length_eq_one_iff.mp ho;obtain⟨h3,h4⟩:=hfil x (by rw[hx];exact Qp.mpr rfl);have hp:=Q3 h3;rw[hx,Qh,We,Qw,Ri,Ue];have ho':=XU hp P;rw[Xm,if_pos h4]at ho';have hi':=JH hp P;rw[XX]at hi';have hen:en x≠P:=fun z=>by rw[if_pos z]at hi';omega
   have hout:inP (ps.erase x) P=false:=by
    rw[Uk];intro z;obtain⟨w,hw,q⟩:=inP_iff.mp z;rcases q with q | q
    ·have:=XU (Q3 hw) P;rw[Xm,if_pos q]at this;omega
    ·have:=JH (Q3 hw) P;rw[XX,if_pos q]at this;omega
   obtain⟨A,B,hAB⟩:=List.append_of_mem (hss P hP);have ndAB:=nd;rw[hAB]at ndAB;have hPA:P∉A:=fun z=>(WL.mp ndAB).2.2 P z P Qi rfl;have hPB:P∉B:=(Q7.mp (WL.mp ndAB).2.1).1;have same:∀ l:List Str,P∉l->l.filter (fun y=>decide (y≠e)&&inP (ps.erase x) y)=l.filter (fun y=>decide (y≠e)&&inP ps y):=fun l hl=>U3 fun y hy=>by
    by_cases c:y=e
    ·simp[c]
    ·rw[ZfR (y:=y) hB hp h4 c fun z=>absurd hy (z▸hl)]
   have o1:osL ss ps e=A.filter (fun y=>decide (y≠e)&&inP ps y)++P::B.filter (fun y=>decide (y≠e)&&inP ps y):=by
    unfold osL;rw[hAB,Wt,Wc (by simp[hPe,hP])]
   have o2:osL ss (ps.erase x) e=A.filter (fun y=>decide (y≠e)&&inP ps y)++B.filter (fun y=>decide (y≠e)&&inP ps y):=by
    unfold osL;rw[hAB,Wt,Wd (by simp[hout]),same A hPA,same B hPB]
   have hnot:P∉A.filter (fun y=>decide (y≠e)&&inP ps y)++B.filter (fun y=>decide (y≠e)&&inP ps y):=fun z=>by
    rcases QE.mp z with z | z
    ·exact hPA (QD.mp z).1
    ·exact hPB (QD.mp z).1
   have ht:trR (osL ss ps e) ps=trR (osL ss (ps.erase x) e) (ps.erase x):=by
    have hg:=Zhk (ps:=ps.erase x) hnot h4 hen fun y hy=>by
     constructor
     ·intro z;exact Uk.mp hout (inP_iff.mpr ⟨y,hy,.inl z⟩)
     ·intro z;exact Uk.mp hout (inP_iff.mpr ⟨y,hy,.inr z⟩)
    rw[o1,o2,←hg];unfold trR;rw[Zgi hp]
   unfold BR;rw[ht,JE h3,if_neg (by rw[h4];exact hPe),UK];congr 1;unfold prO;have hf:∀ y,y≠P->fI ((oR (ps.erase x) y:Int)-1)=fI ((oR ps y:Int)-1):=fun y hy=>by
    rw[JE h3,if_neg (by rw[h4];exact Ne.symm hy),UK]
   have m1:∀ l:List Str,P∉l->l.map (fun y=>fI ((oR (ps.erase x) y:Int)-1))=l.map fun y=>fI ((oR ps y:Int)-1):=fun l hl=>Qu fun y hy=>hf y fun z=>hl (z▸hy);rw[o1,o2,m1 _ hnot,QH,QH,Qh,Zb9,Zb9,ZA,ho];have:fI (((1:Nat):Int)-1)=1:=rfl;rw[this,Q9]
theorem Zm0 (os ps:List Str):JO os (Xf ps)=JU os ps:=by
 funext r c
 rw[Zej];unfold Xf JU;rw[QC];congr 1;exact Qu fun x _=>Q9 _
theorem Zh2 {e y0:Str} (ho:∀ y∈qs,en y≠e->en y∈os) (hy:y0∈os) (hn:¬ Rch (Xf qs) e y0):trR os qs=0:=by
 have h1:trR os qs=ZK os.length (Ya os (Xf qs)) os.length []:=by
  unfold trR;rw[←Zm0,X0 (T:=Ya os (Xf qs)) (fun r t ht=>?_) os.length [] (by simp) (fun x hx=>by cases hx)]
  ·rfl
  ·unfold Ya at ht;obtain⟨e,_,rfl⟩:=Qj.mp ht;exact Ro
 rw[h1];have hlt:=WG.mpr hy;refine XO (S:=fun i=>∃ h:i<os.length,¬ Rch (Xf qs) e os[i]) (i0:=os.idxOf y0) hlt ⟨hlt,by rw[UC hlt];exact hn⟩ (fun i hi si t ht=>?_) os.length [] (by simp) (fun i hi=>by simp at hi);obtain⟨_,si⟩:=si;unfold Ya at ht;obtain⟨g,hg,rfl⟩:=Qj.mp ht;obtain⟨hg1,hg2⟩:=QD.mp hg;have hg3:os.idxOf (bg g.1)=i:=of_decide_eq_true hg2;subst hg3;rw[UC hi]at si;have hgq:g.1∈qs:=by
  unfold Xf at hg1;obtain⟨x,hx,rfl⟩:=Qj.mp hg1;exact hx
 have hne:en g.1≠e:=fun z=>si (.step .here ⟨g,hg1,.inr ⟨z,rfl⟩⟩);have hmo:=ho g.1 hgq hne;have hlt2:=WG.mpr hmo;refine⟨hlt2,hlt2,?_⟩;rw[UC hlt2];exact fun z=>si (.step z ⟨g,hg1,.inr ⟨rfl,rfl⟩⟩)
def ZpZ (ps:List Str):Prop:=∀ a∈ps,∀ b∈ps,Rch (Xf ps) (bg a) (bg b)
theorem Rch.trans {a b c:Str} (h:Rch es a b) (k:Rch es b c):Rch es a c:=by
 induction k with
 | here=>exact h
 | step _ q ih=>exact .step ih q
theorem ZlN {a b:Str} (h:Adj es a b):Adj es b a:=by
 obtain⟨e,he,q⟩:=h;exact⟨e,he,q.elim (fun z=>.inr ⟨z.2,z.1⟩) (fun z=>.inl ⟨z.2,z.1⟩)⟩
theorem Rch.symm {a b:Str} (h:Rch es a b):Rch es b a:=by
 induction h with
 | here=>exact .here
 | step _ q ih=>exact(Rch.step .here (ZlN q)).trans ih
theorem ZlP {fs:Es} (h:∀ e∈es,∃ f∈fs,f.1=e.1) {a b:Str} (k:Adj es a b):Adj fs a b:=by
 obtain⟨e,he,q⟩:=k;obtain⟨f,hf,hf1⟩:=h e he;exact⟨f,hf,by rw[hf1];exact q⟩
theorem Rch.mono {fs:Es} (h:∀ e∈es,∃ f∈fs,f.1=e.1) {a b:Str} (k:Rch es a b):Rch fs a b:=by
 induction k with
 | here=>exact .here
 | step _ q ih=>exact .step ih (ZlP h q)
theorem Jd (h:x∈ps):(x,(1:Int))∈Xf ps:=Qj.mpr ⟨x,h,rfl⟩
theorem Zk0 (h:∀ x∈ps,x∈qs):∀ e∈Xf ps,∃ f∈Xf qs,f.1=e.1:=fun e he=>by
 unfold Xf at he;obtain⟨x,hx,rfl⟩:=Qj.mp he;exact⟨_,Jd (h x hx),rfl⟩
theorem ZhS (h:x∈ps):Rch (Xf ps) (bg x) (en x):=.step .here ⟨_,Jd h,.inl ⟨rfl,rfl⟩⟩
def ZcW (ps:List Str) (P:Str):Prop:=ZpZ ps/\inP ps P=true/\∃ e,Bal ps P e
theorem Zol (x:Str):Bal [x] (bg x) (en x):=fun y=>by
 rw[Xm,XX,show oR [] y=0 from rfl,show iR [] y=0 from rfl];by_cases a:bg x=y
 ·rw[if_pos a,if_pos a.symm];by_cases b:en x=y
  ·rw[if_pos b,if_pos b.symm];omega
  ·rw[if_neg b,if_neg (Ne.symm b)];omega
 ·rw[if_neg a,if_neg (Ne.symm a)];by_cases b:en x=y
  ·rw[if_pos b,if_pos b.symm];omega
  ·rw[if_neg b,if_neg (Ne.symm b)];omega
theorem ZoI (x:Str):ZcW [x] (bg x):=⟨fun a ha b hb=>by
 rw[Qp.mp ha,Qp.mp hb];exact .here,inP_iff.mpr ⟨x,Qp.mpr rfl,.inl rfl⟩,_,Zol x⟩
theorem ZlK {e:Str} (hB:Bal qs (en x) e) (hp:ps.Perm (x::qs)):Bal ps (bg x) e:=fun y=>by
 have h1:=hB y;rw[XU hp,JH hp,Xm,XX];by_cases c:bg x=y
 ·rw[if_pos c,if_pos c.symm];by_cases d:en x=y
  ·rw[if_pos d];rw[if_pos d.symm]at h1;omega
  ·rw[if_neg d];rw[if_neg (Ne.symm d)]at h1;omega
 ·rw[if_neg c,if_neg (Ne.symm c)];by_cases d:en x=y
  ·rw[if_pos d];rw[if_pos d.symm]at h1;omega
  ·rw[if_neg d];rw[if_neg (Ne.symm d)]at h1;omega
theorem Zh4 (hp:ps.Perm (x::qs)) (h:qs=[]\/ZcW qs (en x)):ZcW ps (bg x):=by
 have hxm:x∈ps:=hp.mem_iff.mpr Qi;have hsub:∀ y∈qs,y∈ps:=fun y hy=>hp.mem_iff.mpr (Ql _ hy);rcases h with h | ⟨hC,hI,e,hB⟩
 ·subst h;have:ps=[x]:=Vi.mp hp;rw[this];exact ZoI x
 ·refine⟨?_,inP_iff.mpr ⟨x,hxm,.inl rfl⟩,e,ZlK hB hp⟩;obtain⟨y,hy,hy2⟩:=inP_iff.mp hI;have key:∀ a∈ps,Rch (Xf ps) (bg y) (bg a):=fun a ha=>by
   rcases QA.mp (hp.mem_iff.mp ha)with z | z
   ·subst z;have h1:Rch (Xf ps) (bg y) (en a):=by
     rcases hy2 with q | q
     ·rw[q];exact .here
     ·rw[←q];exact ZhS (hsub y hy)
    exact h1.trans (ZhS hxm).symm
   ·exact(hC y hy a z).mono (Zk0 hsub)
  exact fun a ha b hb=>(key a ha).symm.trans (key b hb)
theorem Zf4 {Q e:Str} (hss:∀ y,inP qs y=true->y∈ss) (hne:qs≠[]) (hB:Bal qs Q e) (h:¬ ZcW qs Q):BR ss qs e=0:=by
 have hos:∀ y,y≠e->inP qs y=true->y∈osL ss qs e:=fun y h1 h2=>QD.mpr ⟨hss y h2,by simp[h1,h2]⟩;have key:∀ y0∈qs,¬ Rch (Xf qs) e (bg y0)->BR ss qs e=0:=fun y0 hy0 hn=>by
  have hye:bg y0≠e:=fun z=>hn (by rw[z];exact .here);unfold BR;rw[Zh2 (e:=e) (y0:=bg y0) (fun y hy h1=>hos _ h1 (inP_iff.mpr ⟨y,hy,.inr rfl⟩)) (hos _ hye (inP_iff.mpr ⟨y0,hy0,.inl rfl⟩)) hn,Wx,Wx]
 by_cases c:∀ y∈qs,Rch (Xf qs) e (bg y)
 ·have hC:ZpZ qs:=fun a ha b hb=>(c a ha).symm.trans (c b hb);by_cases d:inP qs Q=true
  ·exact absurd ⟨hC,d,e,hB⟩ h
  ·exfalso;have ho:oR qs Q=0:=by
    false_or_by_contra;exact d (Zo5 (by omega))
   have hi:iR qs Q=0:=by
    false_or_by_contra;exact d (Zqw (by omega))
   have hb:=hB Q;rw[if_pos rfl,ho,hi]at hb;have hQe:Q=e:=by
    false_or_by_contra;rename_i z;rw[if_neg z]at hb;omega
   subst hQe;have only:∀ y,Rch (Xf qs) Q y->y=Q:=fun y hy=>Rch.closed (F:=fun y=>y=Q) rfl (fun P hP y hA=>by
    subst hP;obtain⟨g,hg,q⟩:=hA;unfold Xf at hg;obtain⟨x,hx,rfl⟩:=Qj.mp hg;refine absurd (inP_iff.mpr ⟨x,hx,?_⟩) d;exact q.elim (fun z=>.inl z.1) (fun z=>.inr z.1)) hy
   obtain⟨y,hy⟩:=RD qs hne;exact d (inP_iff.mpr ⟨y,hy,.inl (only _ (c y hy))⟩)
 ·false_or_by_contra;rename_i z;refine c fun y hy=>?_;false_or_by_contra;rename_i w;exact z (key y hy w)
def prK (ks ps:List Str):Int:=prI (ks.map fun k=>fI (ps.count k:Int))
theorem ZeC (ks ps:List Str):1<=prK ks ps:=Zb7 _ fun y hy=>by
 obtain⟨x,_,rfl⟩:=Qj.mp hy;exact Zbx _
theorem ZfT (nd:ks.Nodup) (hk:x∈ks) (h:x∈ps):prK ks ps=(ps.count x:Int)*prK ks (ps.erase x):=by
 have hc:1<=ps.count x:=List.one_le_count_iff.mpr h;unfold prK;refine YI (y:=x) ks nd hk ?_ fun y _ hy=>?_
 ·rw[R6,ZcG (by omega)];congr 2;omega
 ·rw[RX hy]
def IsC (ss ks ps:List Str) (P:Str) (n:Int):Prop:=(ps=[]->n=1)/\(ps≠[]->¬ ZcW ps P->n=0)/\(ps≠[]->ZcW ps P->∀ e,Bal ps P e->n*prK ks ps=BR ss ps e)
theorem ZpV (ss:List Str) (e:Str):BR ss [] e=1:=by
 have:osL ss [] e=[]:=by
  unfold osL;refine WC.mpr fun y _=>?_;simp[inP]
 unfold BR;rw[this];rfl
theorem ZiR (ks:List Str):prK ks []=1:=Zaj ks fun x _=>by
 rw[List.count_nil];rfl
theorem ZjX {P:Str}:∀ ss:List Str,ss.Nodup->P∈ss->(ss.filter fun y=>decide (y=P))=[P]
 | [],_,h=>by cases h
 | x::ss,nd,h=>by
  obtain⟨n1,n2⟩:=Q7.mp nd;by_cases e:x=P
  ·subst e;rw[Wc (by simp)];congr 1;exact WC.mpr fun y hy=>by simp;exact fun z=>n1 (z▸hy)
  ·rw[Wd (by simpa using e)];exact ZjX ss n2 ((QA.mp h).resolve_left fun z=>e z.symm)
theorem ZhE {g:Str->Int} (h:∀ y∈ss,g y<=0):ups g ss=[]:=by
 unfold ups;rw[WC.mpr fun y hy=>by have:=h y hy;simp;omega];rfl
theorem Zfm {g:Str->Int} {P:Str} (nd:ss.Nodup) (hP:P∈ss) (h1:g P=1) (h:∀ y∈ss,y≠P->g y<=0):ups g ss=[(P,1)]:=by
 unfold ups;have:(ss.filter fun x=>decide (0<g x))=ss.filter fun y=>decide (y=P):=U3 fun y hy=>decide_eq_decide.mpr ⟨fun z=>by
  false_or_by_contra;rename_i w;have:=h y hy w;omega,fun z=>by rw[z,h1];decide⟩
 rw[this,ZjX ss nd hP,Qh,We,h1]
theorem sm_one {g:Str->Int} (h:sm (ups g ss)<=1):(ups g ss=[]/\∀ y∈ss,g y<=0)\/∃ u∈ss,ups g ss=[(u,1)]/\g u=1/\∀ y∈ss,y≠u->g y<=0:=by
 have hm:∀ y,y∈(ss.filter fun x=>decide (0<g x))↔y∈ss/\0<g y:=fun y=>by
  rw[QD];simp
 unfold ups at h ⊢;generalize (ss.filter fun x=>decide (0<g x))=fl at *;cases fl with
 | nil =>
  refine .inl ⟨rfl,fun y hy=>?_⟩;false_or_by_contra;rename_i w;have:=(hm y).mpr ⟨hy,by omega⟩;cases this
 | cons u fl =>
  have hu:=(hm u).mp Qi;cases fl with
  | nil =>
   unfold sm at h;rw[Qh,We,Qh,We,Qw,Ri]at h;have e1:g u=1:=by
    have h:g u+0<=1:=h;omega
   refine .inr ⟨u,hu.1,by rw[Qh,We,e1],e1,fun y hy hn=>?_⟩;false_or_by_contra;rename_i w;exact hn (Qp.mp ((hm y).mpr ⟨hy,by omega⟩))
  | cons v fl =>
   exfalso;have hv:=(hm v).mp (Ql _ Qi);unfold sm at h;rw[QC,Qh,Qh,Qw,Qw]at h;have hr:0<=(fl.map ((fun e:Str×Int=>e.2) ∘ fun x=>(x,g x))).sum:=(YQ _ fun y hy=>by
    obtain⟨z,hz,rfl⟩:=Qj.mp hy;have:=(hm z).mp (Ql _ (Ql _ hz));show 0<=g z;omega).2
   have h:g u+(g v+(fl.map ((fun e:Str×Int=>e.2) ∘ fun x=>(x,g x))).sum)<=1:=h;omega
theorem Zjs (hS:SPts hp ss) (h:y∉ss):mo hp y=0:=ZeU fun e he=>⟨fun z=>h ((hS.pts.mem y).mpr ⟨e,he,.inl z⟩),fun z=>h ((hS.pts.mem y).mpr ⟨e,he,.inr z⟩)⟩
theorem Ye (hO:Zz ps hp) (hS:SPts hp ss):inP ps y=true↔y∈ss:=by
 rw[inP_iff,hS.pts.mem];constructor
 ·rintro⟨x,hx,q⟩;obtain⟨e,he,rfl⟩:=Qj.mp ((hO.mem x).mpr hx);exact⟨e,he,q⟩
 ·rintro⟨e,he,q⟩;exact⟨e.1,(hO.mem _).mp (Qj.mpr ⟨e,he,rfl⟩),q⟩
theorem ZcT (hO:Zz ps hp) {P e:Str}:Bal ps P e↔∀ y,mo hp y=(if y=P then 1 else 0)-(if y=e then 1 else 0):=by
 unfold Bal;constructor
 ·intro h y;rw[Zmr hO];exact h y
 ·intro h y;rw[←Zmr hO];exact h y
theorem ZmS (hO:Zz ps hp) (hS:SPts hp ss) {P e:Str} (hB:Bal ps P e):Zos P (ups (fun y=>-mo hp y) ss)=e:=by
 have hb:=(ZcT hO).mp hB;by_cases c:P=e
 ·subst c;rw[ZhE fun y _=>by rw[hb y];split <;> omega];rfl
 ·have he:mo hp e = -1:=by
   rw[hb e,if_neg (Ne.symm c),if_pos rfl];omega
  have hes:e∈ss:=by
   false_or_by_contra;rename_i z;rw[Zjs hS z]at he;omega
  rw[Zfm (P:=e) hS.pts.nd hes (by rw[he];rfl) fun y _ hy=>by
   rw[hb y,if_neg hy];split <;> omega]
  rfl
theorem ups_begin (hO:Zz ps hp) (hS:SPts hp ss) {P e:Str} (hB:Bal ps P e) (hP:P∈ss):(P=e/\ups (mo hp) ss=[])\/(P≠e/\ups (mo hp) ss=[(P,1)]):=by
 have hb:=(ZcT hO).mp hB;by_cases c:P=e
 ·subst c;refine .inl ⟨rfl,ZhE fun y _=>by rw[hb y];split <;> omega⟩
 ·refine .inr ⟨c,Zfm hS.pts.nd hP (by rw[hb P,if_pos rfl,if_neg c];rfl) fun y _ hy=>by
   rw[hb y,if_neg hy];split <;> omega⟩
theorem ZpH (hO:Zz ps hp) (hS:SPts hp ss) (h:¬ 1<sm (ups (mo hp) ss)):(ups (mo hp) ss=[]/\∀ P,Bal ps P P)\/∃ u∈ss,ups (mo hp) ss=[(u,1)]/\∃ e,Bal ps u e:=by
 have ht:tot (mo hp) ss=0:=ZlU hS.pts.nd fun e he=>⟨(hS.pts.mem _).mpr ⟨e,he,.inl rfl⟩,(hS.pts.mem _).mpr ⟨e,he,.inr rfl⟩⟩
 have hbal:=ZhF (mo hp) ss;rw[ht]at hbal;rcases sm_one (g:=mo hp) (ss:=ss) (by omega)with ⟨a1,a2⟩ | ⟨u,hu,a1,a2,a3⟩
 ·refine .inl ⟨a1,fun P=>(ZcT hO).mpr fun y=>?_⟩;rw[a1]at hbal;have h0:sm ([]:Es)=0:=rfl;have:∀ z∈ss,-mo hp z<=0:=by
   rcases sm_one (g:=fun x=>-mo hp x) (ss:=ss) (by omega)with ⟨b1,b2⟩ | ⟨v,hv,b1,b2,b3⟩
   ·exact b2
   ·exfalso;rw[b1]at hbal;have h1:sm [(v,(1:Int))]=1:=rfl;omega
  have e0:mo hp y=0:=by
   by_cases c:y∈ss
   ·have x1:=a2 y c;have x2:=this y c;omega
   ·exact Zjs hS c
  rw[e0];omega
 ·refine .inr ⟨u,hu,a1,?_⟩;rw[a1]at hbal;have h1:sm [(u,(1:Int))]=1:=rfl;rcases sm_one (g:=fun x=>-mo hp x) (ss:=ss) (by omega)with ⟨b1,b2⟩ | ⟨v,hv,b1,b2,b3⟩
  ·exfalso;rw[b1]at hbal;have h0:sm ([]:Es)=0:=rfl;omega
  ·refine⟨v,(ZcT hO).mpr fun y=>?_⟩;by_cases c:y∈ss
   ·by_cases d1:y=u
    ·subst d1;have:y≠v:=fun z=>by
      rw[←z]at b2;have b2 : -mo hp y=1:=b2;omega
     rw[if_pos rfl,if_neg this,a2];rfl
    ·rw[if_neg d1];by_cases d2:y=v
     ·subst d2;have b2 : -mo hp y=1:=b2;rw[if_pos rfl];omega
     ·rw[if_neg d2];have x1:=a3 y c d1;have x2 : -mo hp y<=0:=b3 y c d2;omega
   ·have n1:y≠u:=fun z=>c (z▸hu);have n2:y≠v:=fun z=>c (z▸hv);rw[Zjs hS c,if_neg n1,if_neg n2];rfl
theorem ZlH {e:Str×Int} (hO:Zz ps (e::es)):ZpZ ps↔∀ e'∈e::es,Rch (e::es) (bg e.1) (bg e'.1):=by
 have sub1:∀ f∈Xf ps,∃ g∈e::es,g.1=f.1:=fun f hf=>by
  unfold Xf at hf;obtain⟨x,hx,rfl⟩:=Qj.mp hf;obtain⟨g,hg,q⟩:=Qj.mp ((hO.mem x).mpr hx);exact⟨g,hg,q⟩
 have sub2:∀ f∈e::es,∃ g∈Xf ps,g.1=f.1:=fun f hf=>⟨_,Jd ((hO.mem f.1).mp (Qj.mpr ⟨f,hf,rfl⟩)),rfl⟩
 constructor
 ·intro h e' he';exact(h e.1 ((hO.mem _).mp (Qj.mpr ⟨e,Qi,rfl⟩)) e'.1 ((hO.mem _).mp (Qj.mpr ⟨e',he',rfl⟩))).mono sub1
 ·intro h a ha b hb;obtain⟨f,hf,rfl⟩:=Qj.mp ((hO.mem a).mpr ha);obtain⟨g,hg,rfl⟩:=Qj.mp ((hO.mem b).mpr hb);exact((h f hf).symm.trans (h g hg)).mono sub2
theorem Zlv (hO:Zz ps hp) (ndk:ks.Nodup) (hks:∀ x∈ps,x∈ks):prI (hp.map fun e=>fI e.2)=prK ks ps:=by
 have e1:(hp.map fun e=>fI e.2)=(hp.map (·.1)).map fun k=>fI (ps.count k:Int):=by
  rw[QC];refine Qu fun e he=>?_;show fI e.2=fI (ps.count e.1:Int);rw[hO.cnt e he]
 have nd1:=ZaV hO;have hm:∀ x,x∈hp.map (·.1)↔x∈ps:=hO.mem;rw[e1];generalize hp.map (·.1)=ls at *;have perm_pr:∀ {l m:List Int},l.Perm m->prI l=prI m:=fun {l m} h=>by
  induction h with
  | nil=>rfl
  | cons x _ ih=>rw[ZA,ZA,ih]
  | swap x y l=>rw[ZA,ZA,ZA,ZA,Wo]
  | trans _ _ a b=>rw[a,b]
 have e2:ls.Perm (ks.filter fun x=>decide (x∈ps)):=(US nd1 (ndk.filter _)).mpr fun x=>by
  rw[hm,QD];simp;exact hks x
 rw[perm_pr (e2.map fun k=>fI (ps.count k:Int))];unfold prK;clear e2 ndk hks;induction ks with
 | nil=>rfl
 | cons k ks ih =>
  rw[Qh,ZA,←ih];by_cases c:k∈ps
  ·rw[Wc (by simpa using c),Qh,ZA]
  ·rw[Wd (by simpa using c),WV c];exact(Q9 _).symm
theorem Zo1 (hO:Zz ps hp) {ss0:List Str} (hS:SPts hp ss) (hs0:(ss0.map fun x=>x.cps.toList).Pairwise (· < ·)) (hc:∀ y,inP ps y=true->y∈ss0) (e:Str):Zny ss hp e=BR ss0 ps e:=by
 have eo:othL ss e=osL ss0 ps e:=by
  refine Zeo ?_ ?_ fun x=>?_
  ·unfold othL;exact hS.srt.sublist (List.Sublist.map _ Ru)
  ·unfold osL;exact hs0.sublist (List.Sublist.map _ Ru)
  ·unfold othL osL;rw[QD,QD];constructor
   ·rintro⟨h1,h2⟩;have:=(Ye hO hS).mpr h1;exact⟨hc x this,by simp at h2;simp[h2,this]⟩
   ·rintro⟨h1,h2⟩;simp at h2;exact⟨(Ye hO hS).mp h2.2,by simp[h2.1]⟩
 unfold Zny BR prO;rw[ZhN hO,eo,Zcd hO];congr 2;refine Qu fun y _=>?_;rw[Zcd hO]
structure Rw (H:Hp) (v:V) (ps:List Str) (e:Str×Int) (es:Es):Prop where
 hV:HeapV H v (e::es)
 hO:Zz ps (e::es)
 hF:Jo (e::es)
 hW:Few (e::es)
 hn:∀ ss,SPts (e::es) ss->ss.length<=31
theorem Rw.same {e:Str×Int} (h:Rw H v ps e es) (s:Same H H'):Rw H' v ps e es:=⟨h.hV.same s,h.hO,h.hF,h.hW,h.hn⟩
def IsN (ps:List Str) (P:Str) (n:Int):Prop:=0<=n/\∀ ss0 ks:List Str,(ss0.map fun x=>x.cps.toList).Pairwise (· < ·)->(∀ y,inP ps y=true->y∈ss0)->ks.Nodup->(∀ x∈ps,x∈ks)->IsC ss0 ks ps P n
def Zif:Sp:=fun vs H Q _=>∃ (v:V) (es:Es),vs=[v]/\HeapV H v es/\Jo es/\∀ H' ss,Same H H'->SPts es ss->Q (.bl (decide (1<sm (ups (mo es) ss)))) H'
theorem Zdw (D:HasDef K mg "has_many_begins" Yf ["H"]) (B:Blt mg) (g13_:FOk P w K mg base 3 "begins_of" ["H"] ZbO):FOk P w K mg base 4 "has_many_begins" ["H"] Zif:=by
 refine D.ok Zaw (fun vs H Q E h=>?_) (fun f cdv A outer s H vs Q E hr h=>?_)
 ·obtain⟨v,es,rfl,_⟩:=h;rfl
 ·obtain⟨v,es,rfl,hV,hF,k⟩:=h;refine⟨_,(Zh (Zp (Zcc ZgY (Zk (Zd7 rfl) rfl B.sum ZlL (Za (ZH (Zf Yf) XL ["point","more"] [] rfl (Yy (Zq g13_ hr (Za (pv 0) Ze))) (fun _ _ _ _ _=>Z5 2 K rfl (Zu (Z0 0) (Zu (Z0 1) Z4))) (fun _ _ _ _ _=>ZR) (fun _ _ _ _ _=>(pv 1))) Ze)) Zg (Zx _)))),?_⟩;refine⟨_,rfl,v,es,rfl,hV,hF,fun v' H1 ss s1 hv' hss=>?_⟩;obtain⟨b1,b2,b3⟩:=Zkn hF (f:=mo es) (fun _=>rfl) hss;obtain⟨q,us,rfl,hq,hpa⟩:=hv';refine⟨q,rfl,⟨_,SqT.of hq⟩,Zpi rfl hq hpa b3 fun D1 H2 s2 hD=>?_⟩;exact⟨D1,_,rfl,SqL.of hD,b1,b2,_,_,rfl,rfl,k H2 ss (s1.trans s2) hss⟩
abbrev Zb1:Stmt:=top 19
abbrev Zlb:List Str:=["H"]
theorem Ziz:Zo Zlb ["H"] (Zf Zb1):=⟨rfl,rfl,rfl,by decide +kernel,rfl,by decide +kernel,by decide +kernel⟩
def Zih:Sp:=fun vs H Q _=>∃ (v:V) (ps:List Str) (e:Str×Int) (es:Es),vs=[v]/\Rw H v ps e es/\∀ H' (b:Bool),Same H H'->(b=true->ZpZ ps/\∀ ss,SPts (e::es) ss->¬ 1<sm (ups (mo (e::es)) ss))->(b=false->∀ p,¬ ZcW ps p)->Q (.bl b) H'
theorem Zdv (D:HasDef K mg "has_text" Zb1 ["H"]) (B:Blt mg) (g24_:FOk P w K mg base 4 "hangs" ["H"] Zii) (g25_:FOk P w K mg base 4 "has_many_begins" ["H"] Zif):FOk P w K mg base 5 "has_text" ["H"] Zih:=by
 refine D.ok Ziz (fun vs H Q E h=>?_) (fun f cdv A outer s H vs Q E hr h=>?_)
 ·obtain⟨v,ps,e,es,rfl,_⟩:=h;rfl
 ·obtain⟨v,ps,e,es,rfl,hR,k⟩:=h;refine⟨_,(Zh (Zp (ZfY (Zq g24_ hr (Za (pv 0) Ze)) (ZfV (ZiX (Zq g25_ hr (Za (pv 0) Ze))))))),?_⟩;refine⟨_,rfl,v,e,es,rfl,hR.hV,hR.hF,fun H1 b s1 hb=>⟨b,rfl,?_⟩⟩;rw[←ZlH hR.hO]at hb;refine ZcZ (fun c=>?_) (fun c=>k _ _ s1 (fun z=>by cases z) fun _ p z=>absurd (hb.mpr z.1) c);refine⟨_,rfl,v,e::es,rfl,(hR.same s1).hV,hR.hF,fun H2 ss s2 hS=>⟨_,rfl,k _ _ (s1.trans s2) (fun z=>⟨hb.mp c,fun ss' hS'=>?_⟩) fun z p hp=>?_⟩⟩
  ·rw[SPts.one hS' hS];simpa using z
  ·have z':1<sm (ups (mo (e::es)) ss):=by simpa using z
   obtain⟨_,z2,e',z3⟩:=hp;rcases ups_begin hR.hO hS z3 ((Ye hR.hO hS).mp z2)with q | q
   ·rw[q.2]at z';exact absurd z' (by show ¬ (1:Int)<0;decide)
   ·rw[q.2]at z';exact absurd z' (by show ¬ (1:Int)<1;decide)
abbrev Zay:Stmt:=top 26
abbrev Zji:List Str:=["H","begins"]
theorem scStartsOf:Zo Zji ["H"] (Zf Zay):=⟨rfl,rfl,rfl,by decide +kernel,rfl,by decide +kernel,by decide +kernel⟩
def Zar:Sp:=fun vs H Q _=>∃ (v:V) (ps:List Str) (e:Str×Int) (es:Es),vs=[v]/\Rw H v ps e es/\∀ H' v' rs,Same H H'->TupS H' v' rs->(∀ p,p∈rs↔ZcW ps p)->rs.Nodup->rs.length<=31->Q v' H'
theorem Zcg (D:HasDef K mg "starts_of" Zay ["H"]) (B:Blt mg) (g26_:FOk P w K mg base 5 "has_text" ["H"] Zih) (g13_:FOk P w K mg base 5 "begins_of" ["H"] ZbO) (g40_:FOk P w K mg base 5 "points_of" ["H"] Xy):FOk P w K mg base 6 "starts_of" ["H"] Zar:=by
 refine D.ok scStartsOf (fun vs H Q E h=>?_) (fun f cdv A outer s H vs Q E hr h=>?_)
 ·obtain⟨v,ps,e,es,rfl,_⟩:=h;rfl
 ·obtain⟨v,ps,e,es,rfl,hR,k⟩:=h;refine⟨_,(Zc (Z3 (JR (ZaD (Zq g26_ hr (Za (pv 0) Ze)))) (Zh (Zp (YW Ze))) Zy)
   (Zc (Zj (i:=1) scStartsOf.nd rfl (.inl rfl) (Zq g13_ hr (Za (pv 0) Ze)))
   (Zc (Z3 (Zs XH (Zk Zr rfl B.len ZV (Za (pv 1) Ze)) Zg (Zx _)) (Zh (Zp (Zq g40_ hr (Za (pv 0) Ze)))) Zy)
   (Zh (Zp (YW (Za (ZP Xp (ZP Xp (pv 1) Zg (fun _ _=>rfl)) Zg (fun _ _=>rfl)) Ze))))))),?_⟩
  have hO:=hR.hO;refine⟨_,rfl,v,ps,e,es,rfl,hR,fun H1 b s1 hb hb0=>⟨_,rfl,?_⟩⟩;cases b with
  | false =>
   exact Jp rfl ⟨Zl (QO _),fun q hq=>k _ (.ref q) [] (s1.trans (Zb hq)) ⟨q,rfl,Zd⟩ (fun p=>Iff.intro (fun z=>(RH z).elim) (fun z=>absurd z (hb0 rfl p))) WZ (QO _)⟩
  | true =>
  refine Xa rfl ?_;refine⟨_,rfl,v,e::es,rfl,(hR.same s1).hV,hR.hF,fun v' H2 ss s2 hv' hss=>?_⟩;have s12:=s1.trans s2;obtain⟨q,us,rfl,hq,hpa⟩:=hv';obtain⟨hc,hm⟩:=hb rfl;have hm:=hm ss hss;have hbal:=ZpH hO hss hm;refine⟨_,rfl,.ref q,_,rfl,.inr ⟨_,SqT.of hq,rfl⟩,rfl,_,rfl,?_⟩;rw[hpa.1];have hbg:∀ p,ZcW ps p->(ups (mo (e::es)) ss=[])\/ups (mo (e::es)) ss=[(p,1)]:=fun p hp=>by
   obtain⟨z1,z2,e',z3⟩:=hp;rcases ups_begin hO hss z3 ((Ye hO hss).mp z2)with q | q
   ·exact .inl q.2
   ·exact .inr q.2
  rcases hbal with ⟨a1,a2⟩ | ⟨u,hu,a1,e',a2⟩
  ·rw[a1];refine Jp (by decide) ⟨_,rfl,v,e::es,rfl,(hR.same s12).hV,hR.hF,fun v3 H3 rs s3 ht hS3=>k _ _ rs (s12.trans s3) ht (fun p=>⟨fun z=>⟨hc,(Ye hO hS3).mpr z,p,a2 p⟩,fun z=>(Ye hO hS3).mp z.2.1⟩) hS3.pts.nd (hR.hn _ hS3)⟩
  ·rw[a1]at hpa ⊢;refine Xa (ZdO (by show((1:Nat):Int)≠0;decide)) ?_;obtain⟨b,e1,e2⟩:=hpa.2 0 (u,1) rfl;refine⟨_,rfl,q,us,0,.ref b,rfl,rfl,SqT.of hq,Y9 (by decide) e1,b,_,0,.str u,rfl,rfl,SqT.of e2,rfl,Zl (show 1<=1000 by decide),fun r hr=>?_⟩;refine k _ (.ref r) [u] (s12.trans (Zb hr)) ⟨r,rfl,Zd⟩ (fun p=>⟨fun z=>?_,fun z=>?_⟩) (Q7.mpr ⟨by simp,WZ⟩) (by simp)
   ·rw[Qp.mp z];exact⟨hc,(Ye hO hss).mpr hu,e',a2⟩
   ·rcases hbg p z with q | q
    ·rw[a1]at q;cases q
    ·rw[a1]at q;injection q with q1 q2
     injection q1 with q3 q4
     rw[q3];exact Qp.mpr rfl
theorem Zgm {p:Str}:∀ rs:List Str,inV (.str p) (rs.map V.str)=decide (p∈rs)
 | []=>rfl
 | r::rs=>by
  have ih:=Zgm (p:=p) rs;unfold inV at ih ⊢;rw[Qh,UQ,ih];have e:eqV (.str r) (.str p)=decide (r=p):=by
   unfold eqV;by_cases c:r=p <;> simp[c]
  rw[e,Ug,Bool.or_eq_true,decide_eq_true_iff,decide_eq_true_iff,decide_eq_true_iff,QA];exact⟨fun h=>h.elim (fun z=>.inl z.symm) .inr,fun h=>h.elim (fun z=>.inl z.symm) .inr⟩
theorem Ze1 {e:Str×Int} (hO:Zz ps (e::es)):ps≠[]:=fun z=>by
 have:=(hO.mem e.1).mp (Qj.mpr ⟨e,Qi,rfl⟩);rw[z]at this;cases this
abbrev Jy:Stmt:=top 27
abbrev Zha:List Str:=["H","P","ends","end","orders","piece","many"]
theorem scCountFrom:Zo Zha ["H","P"] (Zf Jy):=⟨rfl,rfl,rfl,by decide +kernel,rfl,by decide +kernel,by decide +kernel⟩
def Zac:Sp:=fun vs H Q _=>∃ (v:V) (ps:List Str) (e:Str×Int) (es:Es) (p:Str),vs=[v,.str p]/\Rw H v ps e es/\∀ H' (n:Int),Same H H'->IsN ps p n->Q (.int n) H'
theorem Za8 (D:HasDef K mg "count_from" Jy ["H","P"]) (B:Blt mg) (g42_:FOk P w K mg base 6 "starts_of" ["H"] Zar) (g22_:FOk P w K mg base 6 "ends_of" ["H"] Zl8) (g34_:FOk P w K mg base 6 "orders_to" ["H","end"] ZoJ) (g23_:FOk P w K mg base 6 "factorial" ["number"] Znc):FOk P w K mg base 7 "count_from" ["H","P"] Zac:=by
 refine D.ok scCountFrom (fun vs H Q E h=>?_) (fun f cdv A outer s H vs Q E hr h=>?_)
 ·obtain⟨v,ps,e,es,p,rfl,_⟩:=h;rfl
 ·obtain⟨v,ps,e,es,p,rfl,hR,k⟩:=h;have hO:=hR.hO;have hV:=hR.hV;have hF:=hR.hF;have hW:=hR.hW;have hn:=hR.hn;refine⟨_,(Zc (Z3 (Zs JS (pv 1) (Zq g42_ hr (Za (pv 0) Ze)) rfl) (Zh (Zp Zg)) Zy)
   (Zc (Zj (i:=2) scCountFrom.nd rfl (.inl rfl) (Zq g22_ hr (Za (pv 0) Ze)))
   (Zc (Zj (i:=3) scCountFrom.nd rfl (.inl rfl) (ZfW (Zs XH (Zk Zr rfl B.len ZV (Za (pv 2) Ze)) Zg (Zx _)) (pv 1) (ZP Xp (ZP Xp (pv 2) Zg (fun _ _=>rfl)) Zg (fun _ _=>rfl))))
   (Zc (Zj (i:=4) scCountFrom.nd rfl (.inl rfl) (Zq g34_ hr (Za (pv 0) (Za (pv 3) Ze))))
   (Zc (ZY PassesOwn.never rfl (Yy (pv 0)) (Z5 2 K rfl (Zu (ZB (i:=5) scCountFrom.nd rfl (.inl rfl)) (Zu (ZB (i:=6) scCountFrom.nd rfl (.inl rfl)) Z4)))
    (Zh (Zj (i:=4) scCountFrom.nd rfl (.inl rfl) (Zn Zce (pv 4) (Zq g23_ hr (Za (pv 6) Ze))))))
   (Zh (Zp (pv 4)))))))),?_⟩
  refine⟨_,rfl,_,rfl,v,ps,e,es,rfl,hR,fun H1 v1 rs s1 hT hrs _ _=>?_⟩;obtain⟨q1,rfl,hq1⟩:=hT;refine⟨q1,_,rfl,.inr (SqT.of hq1),rfl,by simp[ZcF],_,rfl,?_⟩;rw[Zgm];by_cases hst:p∈rs
  rotate_left
  ·refine Jp (by simp[hst]) ?_;refine k _ 0 s1 ⟨UV _,fun ss0 ks _ _ _ _=>⟨fun z=>absurd z (Ze1 hO),fun _ _=>rfl,fun _ z=>absurd ((hrs p).mpr z) hst⟩⟩
  refine Xa (by simp[hst]) ?_;have hSt:=(hrs p).mp hst;refine⟨_,rfl,v,e::es,rfl,hV.same s1,hF,fun v' H2 ss s2 hv' hss=>?_⟩;have s12:=s1.trans s2;obtain⟨q2,us,rfl,hq2,hpa2⟩:=hv';obtain⟨ue,hue⟩:∃ ue,ups (fun y=>-mo (e::es) y) ss=ue:=⟨_,rfl⟩
  dsimp only;refine YL (fun σ H'=>H'=H2/\σ=[some v,some (.str p),some (.ref q2),some (.str (Zos p ue)),none,none,none]) (fun R hR=>?_) ?_
  ·refine⟨_,rfl,.ref q2,_,rfl,.inr ⟨_,SqT.of hq2,rfl⟩,rfl,_,rfl,?_⟩;rw[hpa2.1,hue];rw[hue]at hpa2;cases ue with
   | nil=>exact Jp (by decide) ⟨_,rfl,hR _ _ ⟨rfl,rfl⟩⟩
   | cons u ue =>
    refine Xa (ZdO (by rw[QL];omega)) ?_;obtain⟨b,e1,e2⟩:=hpa2.2 0 u rfl;exact⟨_,rfl,q2,us,0,.ref b,rfl,rfl,SqT.of hq2,Y9 (by decide) e1,b,_,0,.str u.1,rfl,rfl,SqT.of e2,rfl,hR _ _ ⟨rfl,rfl⟩⟩
  rintro σ H2' ⟨rfl,rfl⟩;refine⟨_,rfl,_,rfl,v,e::es,_,rfl,hV.same s12,hF,hW,hn,fun H3 ss' s3 hS'=>?_⟩;have ess:=SPts.one hS' hss;subst ess;have s13:=s12.trans s3;obtain⟨n,hdv⟩:=Znx (r:=Zos p ue) hF hS';have hnn:=Zo0 hF ss' (Zos p ue);have kk:∀ H',Same H H'->Q (.int n) H':=fun H' s'=>by
   refine k H' n s' ⟨?_,fun ss0 ks h1 h2 h3 h4=>⟨fun z=>absurd z (Ze1 hO),fun _ z=>absurd hSt z,fun _ _ e' hB=>?_⟩⟩
   ·rw[hdv]at hnn;have hp:=Zb7 ((e::es).map fun e=>fI e.2) fun y hy=>by
     obtain⟨x,_,rfl⟩:=Qj.mp hy;exact Zbx _
    false_or_by_contra;rename_i c;have:=Int.mul_neg_of_pos_of_neg (show 0<prI ((e::es).map fun e=>fI e.2)by omega) (show n<0 by omega);omega
   ·have he:Zos p ue=e':=by rw[←hue];exact ZmS hO hS' hB
    rw[he]at hdv;rw[←Zlv hO h3 h4,←Zo1 hO hS' h1 h2 e',hdv,WA]
  rw[hdv];clear hdv hnn hue hpa2 hq2 hrs hSt hO;have hW1:=hW.one;have hF1:=hF.many;obtain⟨q,vs,rfl,hq,hpa⟩:=hV.same s13;clear k hW hF hn hV hR;generalize e::es=fs at *;refine⟨_,rfl,q,rfl,⟨_,SqT.of hq⟩,XY (K:=K) (a:=q) (xs:=vs) (fun i σ H4=>(∃ z5 z6:Option V,σ=[some (.ref q),some (.str p),some (.ref q2),some (.str (Zos p ue)),some (.int (prI ((fs.drop i).map fun e=>fI e.2)*n)),z5,z6])/\Same H3 H4)
   ⟨⟨none,none,rfl⟩,Same.refl _⟩ (fun i σ H4 _ ⟨_,s4⟩=>SqT.of (s4 _ _ hq)) ?_ ?_⟩
  ·rintro i x σ H4 hi ⟨⟨z5,z6,rfl⟩,s4⟩;have hiv:i<vs.length:=(Qn.mp hi).1;have hie:i<fs.length:=by rw[←hpa.1];exact hiv
   obtain⟨b,e1,e2⟩:=hpa.2 i fs[i] (Qa hie);rw[hi]at e1;cases e1;have m1:=hW1 _ (QF hie);have m2:=(hF1 _ (QF hie)).1;rw[Ww hie];generalize fs[i]=g at *;have hp:=Zbx g.2;refine⟨b,_,rfl,SqT.of (s4 _ _ e2),rfl,_,_,rfl,_,_,rfl,rfl,_,rfl,_,rfl,_,rfl,by omega,m1,_,_,rfl,rfl,⟨by omega,(Zhl m1).big (by decide)⟩,⟨some (.str g.1),some (.int g.2),?_⟩,s4⟩;rw[Qh,ZA,Q6];dsimp only;rw[RJ _ (by omega)];rfl
  ·rintro σ H4 ⟨⟨z5,z6,rfl⟩,s4⟩;rw[hpa.1,RM];refine⟨_,rfl,?_⟩;rw[We,Zb8,Q9];exact kk _ (s13.trans s4)
theorem Zn1 {Pr:Nat->Int->Prop}:∀ (vs:List V),(∀ (i:Nat) (v:V),vs[i]?=some v->∃ n:Int,v= .int n/\Pr i n)->∃ ns:List Int,vs=ns.map V.int/\∀ (i:Nat) (n:Int),ns[i]?=some n->Pr i n:=by
 intro vs;induction vs generalizing Pr with
 | nil=>exact fun _=>⟨[],rfl,fun i n h=>by simp at h⟩
 | cons v vs ih =>
  intro h;obtain⟨n,e,hn⟩:=h 0 v rfl;obtain⟨ns,e2,h2⟩:=ih (Pr:=fun i=>Pr (i+1)) fun i u hu=>h (i+1) u hu;refine⟨n::ns,by rw[e,e2];rfl,fun i m hm=>?_⟩;cases i with
  | zero=>cases hm;exact hn
  | succ i=>exact h2 i m hm
abbrev Zah:Stmt:=top 28
abbrev Zf9:List Str:=["H"]
theorem ZiB:Zo Zf9 ["H"] (Zf Zah):=⟨rfl,rfl,rfl,by decide +kernel,rfl,by decide +kernel,by decide +kernel⟩
def Zc9:Sp:=fun vs H Q _=>∃ (v:V) (ps:List Str) (e:Str×Int) (es:Es),vs=[v]/\Rw H v ps e es/\∀ H' (rs:List Str) (ns:List Int),Same H H'->(∀ p,p∈rs↔ZcW ps p)->rs.Nodup->ns.length=rs.length->(∀ (i:Nat) (n:Int),ns[i]?=some n->IsN ps (rs.getD i "") n)->Q (.int ns.sum) H'
theorem ZeQ (D:HasDef K mg "count_of" Zah ["H"]) (B:Blt mg) (g42_:FOk P w K mg base 7 "starts_of" ["H"] Zar) (g15_:FOk P w K mg base 7 "count_from" ["H","P"] Zac):FOk P w K mg base 8 "count_of" ["H"] Zc9:=by
 refine D.ok ZiB (fun vs H Q E h=>?_) (fun f cdv A outer s H vs Q E hr h=>?_)
 ·obtain⟨v,ps,e,es,rfl,_⟩:=h;rfl
 ·obtain⟨v,ps,e,es,rfl,hR,k⟩:=h;refine⟨_,(Zh (Zp (Zk (Zd8 rfl) rfl B.sum ZlL (Za (ZH (Zf Zah) Zf9 ["point"] [0] rfl (Yy (Zq g42_ hr (Za (pv 0) Ze))) (fun _ _ _ _ _=>Z0 0) (fun _ _ _ _ _=>ZR) (fun _ _ _ _ _=>(Zq g15_ hr (Za (pv 1) (Za (pv 0) Ze))))) Ze)))),?_⟩;refine⟨_,rfl,v,ps,e,es,rfl,hR,fun H1 v1 rs s1 hT hrs hnd hrl=>?_⟩;obtain⟨q,rfl,hq⟩:=hT;refine⟨q,rfl,⟨_,SqT.of hq⟩,YB (rs.map V.str).length (fun i=>(rs.map V.str).getD i .non) (fun i v _=>∃ n:Int,v= .int n/\IsN ps (rs.getD i "") n) (Zl (by rw[Qc];omega)) (fun _ _ _ _ _ r=>r) (JV (SqT.of hq)) ?_ ?_⟩
  ·intro i H3 Qe hi hs kq;have hi':i<rs.length:=by rw[Qc]at hi;exact hi
   rw[YD hi'];refine⟨_,rfl,_,rfl,v,ps,e,es,rs[i],rfl,hR.same (s1.trans hs),fun H4 n s4 hn=>kq _ _ s4 ⟨n,rfl,?_⟩⟩;rw[Qb,Qa hi'];exact hn
  intro D1 vs1 H3 hl1 hr1 hs3 hD1 hDl1;obtain⟨ns,e1,hns⟩:=Zn1 (Pr:=fun i n=>IsN ps (rs.getD i "") n) vs1 hr1;subst e1;rw[Qc,Qc]at hl1;exact⟨D1,ns,rfl,SqL.of hDl1,k _ rs ns (s1.trans hs3) hrs hnd hl1 hns⟩
theorem ZfK {H:Hp}:∀ ps:List Str,RepA H (ps.map PyData.str) (ps.map V.str)
 | []=>by rw[We,RepA];rfl
 | p::ps=>by
  rw[Qh,RepA];exact⟨.str p,ps.map V.str,rfl,by rw[RepD],ZfK ps⟩
theorem Zde (h:H a=some (.lst (ps.map V.str))):RepD H (.list (ps.map PyData.str)) (.ref a):=by
 rw[RepD];exact⟨a,_,rfl,h,ZfK ps⟩
theorem Zgg:∀ ps:List Str,(∀ p∈ps,PyData.strOk p=true)->PyData.canLayAll0 (ps.map PyData.str)=true
 | [],_=>by simp[PyData.canLayAll0]
 | p::ps,h=>by
  rw[Qh,PyData.canLayAll0,Zgg ps fun q hq=>h q (Ql _ hq)];simp[PyData.canLay0,h p Qi]
theorem Zby:∀ ps:List Str,PyData.depthAll (ps.map PyData.str)=0
 | []=>by simp[PyData.depthAll]
 | p::ps=>by
  rw[Qh,PyData.depthAll,Zby ps];simp[PyData.depth]
theorem Zau (h:∀ p∈ps,PyData.strOk p=true):SeqAt.shaped (.list (ps.map PyData.str))=true:=by
 unfold SeqAt.shaped;rw[Wl];constructor
 ·rw[PyData.canLay0];exact Zgg ps h
 ·refine decide_eq_true ?_;rw[PyData.depth,Zby ps];decide
theorem Zgx (ps:List Str):PyData.eqv (.list (ps.map PyData.str)) (.list ([].map PyData.str))=ps.isEmpty:=by
 cases ps with
 | nil=>simp[PyData.eqv,PyData.eqvAll]
 | cons n r=>simp[PyData.eqv,PyData.eqvAll]
theorem ZfD (x:Str):∀ ss:List Str,(ss.map fun x=>x.cps.toList).Pairwise (· < ·)->∃ tt:List Str,(tt.map fun x=>x.cps.toList).Pairwise (· < ·)/\∀ y,y∈tt↔y=x\/y∈ss
 | [],_=>⟨[x],by simp,fun y=>by simp⟩
 | z::ss,h=>by
  rw[Qh,Wp]at h;obtain⟨h1,h2⟩:=h;have hz:∀ y∈ss,z.cps.toList<y.cps.toList:=fun y hy=>h1 _ (Qj.mpr ⟨y,hy,rfl⟩);by_cases a:x.cps.toList<z.cps.toList
  ·refine⟨x::z::ss,?_,fun y=>by simp⟩;rw[Qh,Wp,Qh,Wp];refine⟨fun c hc=>?_,h1,h2⟩;rcases QA.mp hc with q | q
   ·rw[q];exact a
   ·exact U7 a (h1 c q)
  ·by_cases b:z.cps.toList<x.cps.toList
   ·obtain⟨tt,t1,t2⟩:=ZfD x ss h2;refine⟨z::tt,?_,fun y=>?_⟩
    ·rw[Qh,Wp];refine⟨fun c hc=>?_,t1⟩;obtain⟨y,hy,rfl⟩:=Qj.mp hc;rcases(t2 y).mp hy with q | q
     ·rw[q];exact b
     ·exact hz y q
    ·rw[QA,t2,QA];exact⟨fun q=>q.elim (fun q=>.inr (.inl q)) (fun q=>q.elim .inl (fun q=>.inr (.inr q))),fun q=>q.elim (fun q=>.inr (.inl q)) (fun q=>q.elim .inl (fun q=>.inr (.inr q)))⟩
   ·have e:x=z:=ZJ (Ra (WP.mp b) (WP.mp a));refine⟨z::ss,?_,fun y=>?_⟩
    ·rw[Qh,Wp];exact⟨h1,h2⟩
    ·rw[QA,e];exact⟨.inr,fun q=>q.elim .inl id⟩
theorem Ju:∀ l:List Str,∃ tt:List Str,(tt.map fun x=>x.cps.toList).Pairwise (· < ·)/\∀ y,y∈tt↔y∈l
 | []=>⟨[],by simp,fun y=>by simp⟩
 | x::l=>by
  obtain⟨ss,h1,h2⟩:=Ju l;obtain⟨tt,t1,t2⟩:=ZfD x ss h1;exact⟨tt,t1,fun y=>by rw[t2,h2,QA]⟩
theorem Zbi {tt:List Str} (h:(tt.map fun x=>x.cps.toList).Pairwise (· < ·)):tt.Nodup:=by
 rw[Ui];refine List.Pairwise.imp ?_ (QR.mp h);intro x y hxy e;rw[e]at hxy;exact Wm _ hxy
structure RowOk (ps:List Str):Prop where
 len:ps.length<=27
 one:∀ x∈ps,(1<=x.length/\x.length<=1000)/\PyData.strOk x=true
 pts:∀ l:List Str,l.Nodup->(∀ y∈l,inP ps y=true)->l.length<=31
 same:∃ L:Nat,1<=L/\L<=12/\∀ x∈ps,x.length=L
theorem Zgn (h:∀ x∈qs,x∈ps) (k:inP qs y=true):inP ps y=true:=by
 obtain⟨x,hx,q⟩:=inP_iff.mp k;exact inP_iff.mpr ⟨x,h x hx,q⟩
theorem RowOk.sub (h:RowOk ps) (hs:∀ x∈qs,x∈ps) (hl:qs.length<=ps.length):RowOk qs:=⟨QY hl h.len,fun x hx=>h.one x (hs x hx),fun l nd hi=>h.pts l nd fun y hy=>Zgn hs (hi y hy),h.same.imp fun L q=>⟨q.1,q.2.1,fun x hx=>q.2.2 x (hs x hx)⟩⟩
theorem ZkL (hR:RowOk ps) (hne:ps≠[]) (hA:HpAt H v hp) (hO:Zz ps hp):∃ e es,hp=e::es/\Rw H v ps e es:=by
 have hlen:=ZcB hO;have hl:=hR.len;cases hp with
 | nil =>
  cases ps with
  | nil=>exact absurd rfl hne
  | cons x ps=>exact absurd ((hO.mem x).mpr Qi) (by simp)
 | cons e es =>
  refine⟨e,es,rfl,Zan hA,hO,⟨by omega,fun g hg=>?_,fun g hg=>?_⟩,Zpx hO hl,fun ss hS=>hR.pts ss hS.pts.nd fun y hy=>(Ye hO hS).mpr hy⟩
  ·have h1:=hO.cnt g hg;have h2:=Rr (a:=g.1) (l:=ps);omega
  ·exact(hR.one _ ((hO.mem g.1).mp (Qj.mpr ⟨g,hg,rfl⟩))).1
theorem Zgu {x:Str}:∀ ps:List Str,x∈ps->∃ j,ps[j]?=some x/\(∀ i,i<j->ps[i]?≠some x)/\ps.eraseIdx j=ps.erase x
 | [],h=>by cases h
 | y::ps,h=>by
  by_cases e:y=x
  ·subst e;exact⟨0,rfl,fun i hi=>absurd hi (VN _),by rw[UN];rfl⟩
  ·obtain⟨j,h1,h2,h3⟩:=Zgu ps ((QA.mp h).resolve_left fun z=>e z.symm);refine⟨j+1,h1,fun i hi=>?_,?_⟩
   ·cases i with
    | zero=>exact fun z=>e (Option.some.inj z)
    | succ i=>exact h2 i (by omega)
   ·rw[List.erase_cons_tail (by simpa using e),←h3];rfl
theorem ZhJ {p2 q2:Addr} {o1:HO} (o2:HO) (h1:H1 p2=none) (h2:(upd H1 p2 o1) q2=none):∃ H3,upd (upd H1 p2 o1) q2 o2=H3/\Same H1 H3/\H3 q2=some o2:=⟨_,rfl,(Zb h1).trans (Zb h2),Zd⟩
theorem ZkH (s:Same H H'):SB D H H':=fun b u _ e=>s b u e
theorem Zm9:∀ vs:List V,(∀ (i:Nat) (v:V),vs[i]?=some v->∃ z:List Nat,v= .str (tx z)/\z.length=L/\Cd z)->∃ ps:List Str,vs=ps.map V.str/\∀ x∈ps,x.length=L/\PyData.strOk x=true:=by
 intro vs;induction vs with
 | nil=>exact fun _=>⟨[],rfl,fun x hx=>by cases hx⟩
 | cons v vs ih =>
  intro h;obtain⟨z,e,hl,hc⟩:=h 0 v rfl;obtain⟨ps,e2,h2⟩:=ih fun i u hu=>h (i+1) u hu;refine⟨tx z::ps,by rw[e,e2];rfl,fun x hx=>?_⟩;rcases QA.mp hx with q | q
  ·rw[q];refine⟨by rw[Zw,hl],?_⟩;unfold PyData.strOk;rw[←UO,Ur];intro c hcc;have:c∈z:=by rw[←ZN z];exact hcc
   have:=hc c this;exact decide_eq_true (by omega)
  ·exact h2 x q
abbrev ZgU:Stmt:=top 52
abbrev Zla:List Str:=["_law_deck_here","_law_most","_law_cell","_law_some","_law_long","_law_row_here"]
theorem scLFew:Zo Zla ["_law_deck_here","_law_most"] (Zf ZgU):=⟨rfl,rfl,rfl,by decide +kernel,rfl,by decide +kernel,by decide +kernel⟩
def ZoK:Sp:=fun vs H Q _=>∃ (D:Addr) (n M:Nat),vs=[.ref D,.int M]/\1<=M/\M<=26/\DK H D (n+M+3)/\∀ p H' ps,SB D H H'->DK H' D n->H' p=some (.lst (ps.map V.str))->RowOk ps->ps≠[]->p≠D->ps.length<=M->Q (.ref p) H'
theorem Zk2 (D:HasDef K mg "_law_few" ZgU ["_law_deck_here","_law_most"]) (B:Blt mg) (g4_:FOk P w K mg base 1 "_law_letters" ["_law_deck_here","_law_few_here"] Zig) (g9_:FOk P w K mg base 1 "_law_signs" ["_law_deck_here","_law_some","_law_long"] Zep):FOk P w K mg base 2 "_law_few" ["_law_deck_here","_law_most"] ZoK:=by
 refine D.ok scLFew (fun vs H Q E h=>?_) (fun f cdv A outer s H vs Q E hr h=>?_)
 ·obtain⟨D,n,M,rfl,_⟩:=h;rfl
 ·obtain⟨Dk,n,M,rfl,M1,M24,hD,k⟩:=h;refine⟨_,(Zc (Zj (i:=2) scLFew.nd rfl (.inl rfl) (Xk F.plainAttrs_list F.slot_list_pop F.type_list_pop YA (pv 0)))
   (Zc (Zj (i:=3) scLFew.nd rfl (.inr rfl) (Zq g4_ hr (Za (pv 0) (Za (ZP ZO (Z6 (Za Zg (Za Zg (Za Zg (Za Zg Ze))))) (Zn ZQ (pv 2) Zg) (fun _ _=>rfl)) Ze))))
   (Zc (Zj (i:=4) scLFew.nd rfl (.inr rfl) (Zn ZS Zg (Zn ZQ (Zn Xl (pv 2) Zg) Zg)))
   (Zc (Ja (i:=5) (Zf ZgU) Zla ["_law_k"] [0,3,4] scLFew.nd rfl (.inl rfl) rfl (Yj rfl B.range (Za (Zn ZS Zg (Zn ZQ (Xk F.plainAttrs_list F.slot_list_pop F.type_list_pop YA (pv 0)) (pv 1))) Ze)) (fun _ _ _ _ _=>Z0 0) (fun _ _ _ _ _=>ZR) (fun _ _ _ _ _=>(Zq g9_ hr (Za (pv 1) (Za (pv 2) (Za (pv 3) Ze))))))
   (Zc (X9 PassesOwn.never (Zs ZgY (Zk Zht rfl B.len ZV (Za (ZC (Jm rfl) rfl B.set ZlM (Za (Zn ZaL (ZH (Zf ZgU) Zla ["_law_piece"] [] rfl (ZU (pv 5)) (fun _ _ _ _ _=>Z0 0) (fun _ _ _ _ _=>ZR) (fun _ _ _ _ _=>(ZF Ym (pv 0) ZT (ZL (Za4 XI Zg)))))
   (ZH (Zf ZgU) Zla ["_law_piece"] [] rfl (ZU (pv 5)) (fun _ _ _ _ _=>Z0 0) (fun _ _ _ _ _=>ZR) (fun _ _ _ _ _=>(ZF Ym (pv 0) (ZL Zg) ZT)))) Ze)) Ze)) Zg (Zx _))
    (Zh (Yx (Xk F.plainAttrs_list F.slot_list_pop F.type_list_pop YA (pv 5)))))
   (Zh (Zp (pv 5)))))))),?_⟩
  obtain⟨ns,c,hDn,c0,c1,hD2⟩:=hD.pop;refine⟨_,rfl,.inl ⟨rfl,_,SqL.of hDn⟩,Dk,_,.int c,rfl,rfl,hDn,Yo ns c,?_⟩;rw[Yp];have sb:SB Dk H (upd H Dk (.lst (ns.map V.int))):=SB.upd;generalize upd H Dk (.lst (ns.map V.int))=H1 at sb hD2;have m4:=ZW c (show(0:Int)<4 by decide);obtain⟨few,hfat,few1,few5⟩:=ZnO (ns:=[2,3,5,26]) (lo:=2) (hi:=26) m4.1 m4.2 (by decide) (by decide);refine⟨_,rfl,Zl (show 4<=1000 by decide),fun p1 hp1=>?_⟩;have s1:=Zb (o:=.lst (([2,3,5,26]:List Int).map V.int)) hp1;refine⟨_,rfl,_,_,rfl,rfl,(by show(0:Int)<4;decide),p1,_,_,_,rfl,rfl,SqL.of Zd,hfat,?_⟩;generalize hH2:upd H1 p1 (.lst (([2,3,5,26]:List Int).map V.int))=H2 at s1;have hH2':upd H1 p1 (.lst [V.int 2,V.int 3,V.int 5,V.int 26])=H2:=hH2;rw[hH2'];refine⟨Dk,few,n+M+1,rfl,by omega,by omega,hD2.same s1,fun y H3 sb3 hD3 yl yc=>?_⟩;have sbb:=(sb.trans (ZkH s1)).trans sb3;refine⟨_,rfl,_,_,rfl,rfl,⟨by decide,by decide⟩,_,_,rfl,rfl,(by show(0:Int)<12;decide),_,_,rfl,rfl,?_⟩;dsimp only;have m12:=ZW (c / 4) (show(0:Int)<12 by decide);obtain⟨L,eL⟩:∃ L:Nat,(1+c / 4 % 12:Int)=(L:Int):=⟨(1+c / 4 % 12).toNat,by omega⟩
  rw[eL];have L1:1<=L:=by omega
  have L12:L<=12:=by omega
  obtain⟨ns4,c4,hDn4,c40,c41,hD4⟩:=hD3.pop;refine⟨_,rfl,.inl ⟨rfl,_,SqL.of hDn4⟩,Dk,_,.int c4,rfl,rfl,hDn4,Yo ns4 c4,?_⟩;rw[Yp];have sb4:SB Dk H3 (upd H3 Dk (.lst (ns4.map V.int))):=SB.upd;generalize upd H3 Dk (.lst (ns4.map V.int))=H4 at sb4 hD4;have sb04:=sbb.trans sb4;have m24:=ZW c4 (show(0:Int)<(M:Int)by omega);refine⟨_,rfl,_,_,rfl,rfl,(by show(0:Int)<(M:Int);omega),_,_,rfl,rfl,_,rfl,by omega,by omega,?_⟩;obtain⟨N,eN⟩:∃ N:Nat,(1+c4 % (M:Int):Int).toNat=N:=⟨_,rfl⟩
  rw[eN];have N1:1<=N:=by omega
  have N24:N<=M:=by omega
  have hdk:H4 Dk≠none:=by
   obtain⟨xs,hx,_⟩:=hD4;rw[hx];simp
  refine ZnS N Dk (fun _ v=>∃ z:List Nat,v= .str (tx z)/\z.length=L/\Cd z) (fun i H=>DK H Dk (n+(M-i))) (Zl (by omega)) hdk hD4 (fun i H D o hne hI=>?_) (fun i H5 Qe hi sb5 hI kq=>?_) (fun D5 vs5 H5 hl5 hR5 sb5 hI5 hn5 hD5=>?_)
  ·obtain⟨xs,hx,h2⟩:=hI;exact⟨xs,by rw[Zi (Ne.symm hne)];exact hx,h2⟩
  ·refine⟨_,rfl,_,rfl,_,rfl,Dk,y,L,n+(M-(i+1)),rfl,by omega,by omega,yc,by omega,hI.less (by omega),fun z H6 sb6 hD6 zl zc=>kq _ _ sb6 hD6 ⟨z,rfl,zl,zc⟩⟩
  obtain⟨ps,eps,hps⟩:=Zm9 (L:=L) vs5 hR5;subst eps;rw[Qc]at hl5;have hDD:D5≠Dk:=fun z=>hdk (z▸hn5);have hDn5:DK H5 Dk n:=hI5.less (by omega);have sb05:SB Dk H H5:=sb04.trans sb5;refine⟨fun m σ H6=>m<=N/\1<=m/\(σ=[some (.ref Dk),some (.int M),some (.int c),some (.str (tx y)),some (.int L),some (.ref D5)])/\SB Dk H H6/\DK H6 Dk n/\H6 D5=some (.lst ((ps.take m).map V.str)),⟨N,Qk _,N1,rfl,sb05,hDn5,by rw[QJ (by omega)];exact hD5⟩,?_⟩;rintro m σ H6 ⟨mN,m1,rfl,sb6,hD6,hr6⟩;have hsub:∀ x∈ps.take m,x∈ps:=fun x hx=>Wr hx;have hlm:(ps.take m).length=m:=by rw[QB];omega
  generalize hqs:ps.take m=qs at *;have hq:∀ x∈qs,x.length=L:=fun x hx=>(hps x (hsub x hx)).1;have hlen:(qs.map V.str).length=qs.length:=by rw[Qc]
  refine⟨_,rfl,D5,rfl,⟨_,SqL.of hr6⟩,YB (qs.map V.str).length (fun i=>(qs.map V.str).getD i .non) (fun i v _=>v= .str (bg (qs.getD i ""))) (Zl (by omega)) (fun _ _ _ _ _ r=>r) (YM (SqL.of hr6)) ?_ ?_⟩
  ·intro i H7 Qe hi hs kq;have hi':i<qs.length:=by omega
   rw[YD hi'];have hx:=hq _ (QF hi');refine⟨_,rfl,_,rfl,_,rfl,_,rfl,Z2 (by omega),?_⟩;rw[Zad (by omega)];refine kq _ _ (Same.refl _) ?_;rw[Qb,Qa hi'];rfl
  intro D7 vs7 H7 hl7 hr7 hs7 _ hDl7;refine⟨_,rfl,D5,rfl,⟨_,SqL.of (hs7 _ _ hr6)⟩,YB (qs.map V.str).length (fun i=>(qs.map V.str).getD i .non) (fun i v _=>v= .str (en (qs.getD i ""))) (Zl (by omega)) (fun _ _ _ _ _ r=>r) (YM (SqL.of (hs7 _ _ hr6))) ?_ ?_⟩
  ·intro i H8 Qe hi hs kq;have hi':i<qs.length:=by omega
   rw[YD hi'];have hx:=hq _ (QF hi');refine⟨_,rfl,_,rfl,_,rfl,Z2 (by omega),?_⟩;rw[ZbR (by omega)];refine kq _ _ (Same.refl _) ?_;rw[Qb,Qa hi'];rfl
  intro D8 vs8 H8 hl8 hr8 hs8 _ hDl8;have e7:vs7=(qs.map bg).map V.str:=by
   apply QT;intro i;by_cases h:i<qs.length
   ·rw[Qa (show i<vs7.length by omega),hr7 i _ (Qa (show i<vs7.length by omega)),Qd,Qd,Qa h,Qb,Qa h];rfl
   ·rw[Qo (by omega),Qo (by rw[Qc,Qc];omega)]
  have e8:vs8=(qs.map en).map V.str:=by
   apply QT;intro i;by_cases h:i<qs.length
   ·rw[Qa (show i<vs8.length by omega),hr8 i _ (Qa (show i<vs8.length by omega)),Qd,Qd,Qa h,Qb,Qa h];rfl
   ·rw[Qo (by omega),Qo (by rw[Qc,Qc];omega)]
  subst e7 e8;refine⟨D7,D8,_,_,rfl,rfl,hs8 _ _ hDl7,hDl8,Zl (by simp only[Qc];omega),fun p9 hp9=>?_⟩;have s9:=Zb (o:=.lst ((qs.map bg).map V.str++(qs.map en).map V.str)) hp9;refine⟨p9,qs.map bg++qs.map en,rfl,SqL.of (by rw[Zd,QH]),by simp only[Qm,Qc];omega,fun p10 ks hp10 hnd hmem hkl=>?_⟩;have hkl2:ks.length<=2*m:=by simp only[Qm,Qc]at hkl;omega
  refine⟨p10,ks,rfl,Zd,by omega,_,_,rfl,rfl,_,rfl,?_⟩;obtain⟨H11,eH,s11,_⟩:=ZhJ (o1:=.lst ((qs.map bg).map V.str++(qs.map en).map V.str)) (stO _ p10 ks) hp9 hp10;rw[eH];have s611:=(hs7.trans hs8).trans s11;have hr11:=s611 _ _ hr6;have sb11:SB Dk H H11:=sb6.trans (ZkH s611);refine ZcZ (fun cc=>?_) (fun cc=>?_)
  ·have cc':=of_decide_eq_true cc;have m2:2<=m:=by omega
   have hdl:(qs.map V.str).dropLast=(ps.take (m-1)).map V.str:=by
    rw[UJ,hlen,hlm,←Ux,←hqs,R4,UA (by omega)]
   refine⟨fun σ' H'=>m-1<=N/\1<=m-1/\(σ'=[some (.ref Dk),some (.int M),some (.int c),some (.str (tx y)),some (.int L),some (.ref D5)])/\SB Dk H H'/\DK H' Dk n/\H' D5=some (.lst ((ps.take (m-1)).map V.str)),fun σ' H' h=>⟨m-1,by omega,h⟩,?_⟩;refine⟨_,rfl,.inl ⟨rfl,_,SqL.of hr11⟩,D5,_,.str (qs.getD (m-1) ""),rfl,rfl,hr11,?_,?_⟩
   ·rw[hlen,hlm,Qd,Qb,Qa (show m-1<qs.length by omega)];rfl
   rw[hdl];refine⟨by omega,by omega,rfl,fun b u hb e=>?_,?_,Zd⟩
   ·rw[Zi (fun z=>?_)]
    ·exact sb11 b u hb e
    ·have:=sb04 b u hb e;rw[z,hn5]at this;cases this
   ·obtain⟨xs,hx,h2⟩:=hD6.same s611;exact⟨xs,by rw[Zi (Ne.symm hDD)];exact hx,h2⟩
  ·have cc':=of_decide_eq_false (Uk.mpr cc);refine⟨_,rfl,k D5 H11 qs sb11 (hD6.same s611) hr11 ⟨by omega,fun x hx=>⟨by rw[hq x hx];omega,(hps x (hsub x hx)).2⟩,fun l nd hi=>?_,L,L1,L12,hq⟩ (fun z=>by rw[z]at hlm;simp at hlm;omega) hDD (by omega)⟩;have:=Yh (B:=ks) nd fun y hy=>by
    obtain⟨x,hx,q⟩:=inP_iff.mp (hi y hy);rw[hmem,QE,Qj,Qj];exact q.elim (fun q=>.inl ⟨x,hx,q⟩) (fun q=>.inr ⟨x,hx,q⟩)
   omega
theorem ZkM (o:1<=L) (L4:L<=4) (l:L<=z.length) (hz:z.length<=26+L-1) (zc:Cd z) (hl:ps.length<=27) (hs:∀ x∈ps,x∈J2 z L):RowOk ps:=by
 refine⟨hl,fun x hx=>⟨by rw[Zfk l (hs x hx)];omega,?_⟩,fun m nd hi=>?_,L,o,by omega,fun x hx=>Zfk l (hs x hx)⟩
 ·have hw:=hs x hx;unfold J2 at hw;obtain⟨i,_,rfl⟩:=Qj.mp hw;unfold PyData.strOk;rw[←UO,Ur];intro c hcc;have:c∈(z.drop i).take L:=by rw[←ZN ((z.drop i).take L)];exact hcc
  have:=zc c (WT (Wr this));exact decide_eq_true (by omega)
 ·have:=Yh (B:=(Qx (z.length-L+2)).map (pnt z L)) nd fun y hy=>by
   obtain⟨x,hx,q⟩:=inP_iff.mp (hi y hy);have hw:=Zov o l (hs x hx);rcases q with q | q
   ·rw[←q];exact hw.1
   ·rw[←q];exact hw.2
  rw[Qc,Wh]at this;omega
abbrev ZkJ:Stmt:=top 53
abbrev Zo8:List Str:=["_law_deck_here","_law_most","_law_cell","_law_few_here","_law_long","_law_some","_law_made","_law_way","_law_row_here"]
theorem scLRow:Zo Zo8 ["_law_deck_here","_law_most"] (Zf ZkJ):=⟨rfl,rfl,rfl,by decide +kernel,rfl,by decide +kernel,by decide +kernel⟩
def Zic:Sp:=fun vs H Q _=>∃ (D:Addr) (n M:Nat),vs=[.ref D,.int M]/\4<=M/\M<=26/\DK H D (n+M+5)/\∀ p H' ps,SB D H H'->DK H' D n->H' p=some (.lst (ps.map V.str))->RowOk ps->ps≠[]->p≠D->ps.length<=M+1->Q (.ref p) H'
theorem Zg4 (D:HasDef K mg "_law_row" ZkJ ["_law_deck_here","_law_most"]) (B:Blt mg) (g4_:FOk P w K mg base 2 "_law_letters" ["_law_deck_here","_law_few_here"] Zig) (g9_:FOk P w K mg base 2 "_law_signs" ["_law_deck_here","_law_some","_law_long"] Zep) (g2_:FOk P w K mg base 2 "_law_few" ["_law_deck_here","_law_most"] ZoK):FOk P w K mg base 3 "_law_row" ["_law_deck_here","_law_most"] Zic:=by
 refine D.ok scLRow (fun vs H Q E h=>?_) (fun f cdv A outer s H vs Q E hr h=>?_)
 ·obtain⟨D,n,M,rfl,_⟩:=h;rfl
 ·obtain⟨Dk,n,M,rfl,M4,M24,hD,k⟩:=h;refine⟨_,(Zc (Zj (i:=2) scLRow.nd rfl (.inl rfl) (Xk F.plainAttrs_list F.slot_list_pop F.type_list_pop YA (pv 0)))
   (Zc (Zj (i:=3) scLRow.nd rfl (.inl rfl) (ZP ZO (Z6 (Za Zg (Za Zg (Za Zg (Za Zg (Za Zg (Za Zg (Za Zg (Za Zg (Za Zg (Za Zg Ze))))))))))) (Zn ZQ (pv 2) Zg) (fun _ _=>rfl)))
   (Zc (Zj (i:=4) scLRow.nd rfl (.inr rfl) (ZP ZO (Z6 (Za Zg (Za Zg (Za Zg (Za Zg (Za Zg (Za Zg (Za Zg (Za Zg (Za Zg (Za Zg Ze))))))))))) (Zn ZQ (pv 2) Zg) (fun _ _=>rfl)))
   (Zc (Zj (i:=5) scLRow.nd rfl (.inl rfl) (Zq g4_ hr (Za (pv 0) (Za (pv 3) Ze))))
   (Zc (Z3 (Zs XH (Zn ZQ (Zn Xl (pv 2) Zg) Zg) Zg (Zx _)) (Zh (Zp (Zq g2_ hr (Za (pv 0) (Za (pv 1) Ze))))) Zy)
   (Zc (Zj (i:=6) scLRow.nd rfl (.inr rfl) (Zq g9_ hr (Za (pv 0) (Za (pv 5) (Za (Zk (Zkd rfl) rfl B.max ZqG (Za (pv 4) (Za (Zn ZQ (Xk F.plainAttrs_list F.slot_list_pop F.type_list_pop YA (pv 0)) (Zn ZS (pv 1) Zg)) Ze))) Ze)))))
   (Zc (Zj (i:=7) scLRow.nd rfl (.inl rfl) (Zn ZQ (Zn Xl (pv 2) Zg) Zg))
   (Zc (Z3 (Zs XH (pv 7) Zg (Zx _)) (Zh (Zj (i:=6) scLRow.nd rfl (.inr rfl) (Zn ZX (pv 6) (ZF Ym (pv 6) ZT (ZL (Zn Yz (pv 4) Zg)))))) Zy)
   (Zc (Ja (i:=8) (Zf ZkJ) Zo8 ["_law_at"] [4,6] scLRow.nd rfl (.inl rfl) rfl (Yj rfl B.range (Za (Zn ZS (Zn Yz (Zk Zr rfl B.len ZV (Za (pv 6) Ze)) (pv 4)) Zg) Ze)) (fun _ _ _ _ _=>Z0 0) (fun _ _ _ _ _=>ZR) (fun _ _ _ _ _=>(ZF Ym (pv 2) (ZL (pv 0)) (ZL (Zn ZS (pv 0) (pv 1))))))
   (Zc (Zj (i:=2) scLRow.nd rfl (.inl rfl) (Xk F.plainAttrs_list F.slot_list_pop F.type_list_pop YA (pv 0)))
   (Zc (Z3 (PW.pt (ZiM (Zs XH (pv 7) Zg (Zx _)) (ZeB (Zs ZgY (Zk Zr rfl B.len ZV (Za (pv 8) Ze)) Zg (Zx _))))) (Zh (Yx (Za5 F.plainAttrs_list F.slot_list_pop F.type_list_pop Zjq (pv 8) (Za (Zn ZQ (pv 2) (Zk Zr rfl B.len ZV (Za (pv 8) Ze))) Ze)))) Zy)
   (Zc (Z3 (Zs XH (pv 7) Zg (Zx _)) (Zh (Yx (Za5 F.plainAttrs_list F.slot_list_insert F.type_list_insert Zjr (pv 8) (Za (Zn ZQ (pv 2) (Zn ZS (Zk Zr rfl B.len ZV (Za (pv 8) Ze)) Zg)) (Za (ZP ZO (pv 8) (Zn ZQ (Zn Xl (pv 2) Zg) (Zk Zr rfl B.len ZV (Za (pv 8) Ze))) (fun _ _=>rfl)) Ze))))) Zy)
   (Zh (Zp (pv 8))))))))))))))),?_⟩
  obtain⟨ns,c,hDn,c0,c1,hD2⟩:=hD.pop;refine⟨_,rfl,.inl ⟨rfl,_,SqL.of hDn⟩,Dk,_,.int c,rfl,rfl,hDn,Yo ns c,?_⟩;rw[Yp];have sb:SB Dk H (upd H Dk (.lst (ns.map V.int))):=SB.upd;generalize upd H Dk (.lst (ns.map V.int))=H0 at sb hD2;have m10:=ZW c (show(0:Int)<10 by decide);obtain⟨few,hfat,few1,few5⟩:=ZnO (ns:=[2,2,2,2,3,3,3,4,5,4]) (lo:=2) (hi:=5) m10.1 m10.2 (by decide) (by decide);obtain⟨L,hLat,L1,L4⟩:=ZnO (ns:=[2,3,4,1,2,3,2,2,2,1]) (lo:=1) (hi:=4) m10.1 m10.2 (by decide) (by decide);refine⟨Zl (show 10<=1000 by decide),fun p1 hp1=>?_⟩;have s1:=Zb (o:=.lst (([2,2,2,2,3,3,3,4,5,4]:List Int).map V.int)) hp1;refine⟨_,rfl,_,_,rfl,rfl,(by show(0:Int)<10;decide),p1,_,_,_,rfl,rfl,SqL.of Zd,hfat,?_⟩;generalize hH1:upd H0 p1 (.lst (([2,2,2,2,3,3,3,4,5,4]:List Int).map V.int))=H1 at s1;have hH1':upd H0 p1 (.lst [V.int 2,V.int 2,V.int 2,V.int 2,V.int 3,V.int 3,V.int 3,V.int 4,V.int 5,V.int 4])=H1:=hH1;rw[hH1'];refine⟨Zl (show 10<=1000 by decide),fun p2 hp2=>?_⟩;have s2:=s1.trans (Zb (o:=.lst (([2,3,4,1,2,3,2,2,2,1]:List Int).map V.int)) hp2);refine⟨_,rfl,_,_,rfl,rfl,(by show(0:Int)<10;decide),p2,_,_,_,rfl,rfl,SqL.of Zd,hLat,?_⟩;generalize hH2:upd H1 p2 (.lst (([2,3,4,1,2,3,2,2,2,1]:List Int).map V.int))=H2 at s2;have hH2':upd H1 p2 (.lst [V.int 2,V.int 3,V.int 4,V.int 1,V.int 2,V.int 3,V.int 2,V.int 2,V.int 2,V.int 1])=H2:=hH2;rw[hH2'];clear hH1 hH1' hH2 hH2' hfat hLat;refine⟨_,rfl,_,rfl,Dk,few,n+M+3,rfl,by omega,by omega,hD2.same s2,fun y H3 sb3 hD3 yl yc=>?_⟩;have sb03:SB Dk H H3:=(sb.trans (ZkH s2)).trans sb3;refine⟨_,rfl,_,_,rfl,rfl,⟨by decide,by decide⟩,_,_,rfl,rfl,(by show(0:Int)<4;decide),rfl,_,rfl,ZcZ (fun cc=>?_) (fun cc=>?_)⟩
  ·exact⟨_,rfl,_,rfl,Dk,n,M,rfl,by omega,M24,hD3,fun p H4 ps sb4 hD4 hp4 hR hne hpd hpl=>k p H4 ps (sb03.trans sb4) hD4 hp4 hR hne hpd (by omega)⟩
  obtain⟨ns4,c4,hDn4,c40,c41,hD4⟩:=(hD3.less (show n+4+1<=n+M+3 by omega)).pop;refine⟨_,rfl,_,rfl,_,rfl,_,rfl,.inl ⟨rfl,_,SqL.of hDn4⟩,Dk,_,.int c4,rfl,rfl,hDn4,Yo ns4 c4,?_⟩;rw[Yp];have sb4:SB Dk H3 (upd H3 Dk (.lst (ns4.map V.int))):=SB.upd;generalize upd H3 Dk (.lst (ns4.map V.int))=H4 at sb4 hD4;have sb04:=sb03.trans sb4;have m25:=ZW c4 (show(0:Int)<(M:Int)+1 by omega);refine⟨_,rfl,_,_,rfl,rfl,_,_,rfl,rfl,(by show(0:Int)<(M:Int)+1;omega),_,_,rfl,?_⟩;obtain⟨LL,eLL⟩:∃ LL:Nat,(if c4 % ((M:Int)+1)>(L:Int)then c4 % ((M:Int)+1)else (L:Int))=(LL:Int):=⟨(if c4 % ((M:Int)+1)>(L:Int)then c4 % ((M:Int)+1)else (L:Int)).toNat,by split <;> omega⟩
  dsimp only;rw[eLL];have LL1:L<=LL/\LL<=M:=by
   split at eLL <;> omega
  refine⟨Dk,y,LL,n+1,rfl,by omega,by omega,yc,by omega,hD4.less (by omega),fun z0 H5 sb5 hD5 zl0 zc0=>?_⟩;have sb05:=sb04.trans sb5;refine⟨_,rfl,_,_,rfl,rfl,⟨by decide,by decide⟩,_,_,rfl,rfl,(by show(0:Int)<4;decide),?_⟩;dsimp only[J0];generalize c / 40 % 4=wy;refine YL (fun σ H'=>∃ z:List Nat,H'=H5/\σ=[some (.ref Dk),some (.int M),some (.int c),some (.int few),some (.int L),some (.str (tx y)),some (.str (tx z)),some (.int wy),none]/\L<=z.length/\z.length<=M+L-1/\Cd z) (fun R hR=>?_) ?_
  ·refine⟨_,rfl,rfl,_,rfl,ZcZ (fun e=>?_) (fun e=>hR _ _ ⟨z0,rfl,rfl,by omega,by omega,zc0⟩)⟩;refine⟨_,rfl,_,rfl,_,rfl,_,_,rfl,rfl,_,rfl,_,rfl,ZZ (by omega),?_⟩;dsimp only;rw[YT (by omega)];have htl:(z0.take ((L:Int)-1).toNat).length<=L-1:=by rw[QB];omega
   refine⟨_,_,rfl,rfl,?_,?_⟩
   ·rw[Zw,Zw];exact Zl (by omega)
   rw[JM];exact hR _ _ ⟨z0++z0.take ((L:Int)-1).toNat,rfl,rfl,by rw[Qm];omega,by rw[Qm];omega,fun c q=>(QE.mp q).elim (zc0 c) fun q=>zc0 c (Wr q)⟩
  rintro σ H5' ⟨z,rfl,rfl,z1,z2,zc⟩;have en:((z.length:Int)-(L:Int)+1).toNat=z.length-L+1:=by omega
  refine⟨_,rfl,.str (tx z),z.length,rfl,⟨ZZ (by omega),(Zw z).symm⟩,_,rfl,_,_,rfl,rfl,_,_,rfl,rfl,_,rfl,by omega,by omega,?_⟩;rw[en];refine ZnR (z:=z) (L:=L) (by omega) z1 (by omega) rfl fun p7 H6 s6 n7 hp7=>?_;have hpd:p7≠Dk:=fun e=>by
   obtain⟨xs,hx,_⟩:=hD5;rw[←e,n7]at hx;cases hx
  obtain⟨ns7,c7,hDn7,c70,c71,hD7⟩:=(hD5.same s6).pop;refine⟨_,rfl,.inl ⟨rfl,_,SqL.of hDn7⟩,Dk,_,.int c7,rfl,rfl,hDn7,Yo ns7 c7,?_⟩;rw[Yp];have sb7:SB Dk H6 (upd H6 Dk (.lst (ns7.map V.int))):=SB.upd;have hp77:(upd H6 Dk (.lst (ns7.map V.int))) p7=some (.lst ((J2 z L).map V.str)):=by rw[Zi hpd];exact hp7
  generalize upd H6 Dk (.lst (ns7.map V.int))=H7 at sb7 hD7 hp77;have sb07:SB Dk H H7:=(sb05.trans (ZkH s6)).trans sb7;have N7:∀ b u,b≠Dk->H b=some u->b≠p7:=fun b u hb e q=>by
   have:=sb05 b u hb e;rw[q,n7]at this;cases this
  have hwl:(J2 z L).length=z.length-L+1:=by unfold J2;simp
  have updOk:∀ (H':Hp) (o:HO),SB Dk H H'->DK H' Dk n->SB Dk H (upd H' p7 o)/\DK (upd H' p7 o) Dk n:=fun H' o a b=>by
   refine⟨fun c u hc e=>by rw[Zi (N7 c u hc e)];exact a c u hc e,?_⟩;obtain⟨xs,hx,h2⟩:=b;exact⟨xs,by rw[Zi (Ne.symm hpd)];exact hx,h2⟩
  dsimp only;refine YL (fun σ H'=>∃ ps:List Str,σ=[some (.ref Dk),some (.int M),some (.int c7),some (.int few),some (.int L),some (.str (tx y)),some (.str (tx z)),some (.int wy),some (.ref p7)]/\SB Dk H H'/\DK H' Dk n/\H' p7=some (.lst (ps.map V.str))/\1<=ps.length/\ps.length<=M/\∀ x∈ps,x∈J2 z L) (fun R hR=>?_) ?_
  ·refine⟨_,rfl,rfl,_,rfl,ZcZ (fun e=>?_) (fun e=>ZpW (hR _ _ ⟨J2 z L,rfl,sb07,hD7,hp77,by omega,by omega,fun x hx=>hx⟩))⟩;refine⟨_,rfl,.ref p7,_,rfl,.inl ⟨_,SqL.of hp77,rfl⟩,_,_,rfl,rfl,_,rfl,ZcZ (fun e2=>?_) (fun e2=>hR _ _ ⟨J2 z L,rfl,sb07,hD7,hp77,by omega,by omega,fun x hx=>hx⟩)⟩;have e2':=of_decide_eq_true e2;rw[Qc]at e2';have wpos:(0:Int)<((J2 z L).length:Int):=by omega
   have mw:=ZW c7 wpos;obtain⟨j,ej⟩:∃ j:Nat,c7 % ((J2 z L).length:Int)=(j:Int):=⟨(c7 % ((J2 z L).length:Int)).toNat,by omega⟩
   have hj:j<(J2 z L).length:=by omega
   refine⟨_,rfl,.inl ⟨rfl,_,SqL.of hp77⟩,_,rfl,_,rfl,.ref p7,_,rfl,.inl ⟨_,SqL.of hp77,rfl⟩,_,_,rfl,rfl,by rw[Qc];exact wpos,?_⟩;dsimp only;rw[Qc,ej];refine⟨p7,_,_,j,V.str (J2 z L)[j],rfl,rfl,hp77,by omega,by omega,?_,?_,?_⟩
   ·rw[Qc];exact(ixN_seq (ZdL hj)).1
   ·rw[Qd,Qa hj];rfl
   have hel:((J2 z L).eraseIdx j).length=(J2 z L).length-1:=by rw[Rj,if_pos hj]
   obtain⟨u1,u2⟩:=updOk H7 (.lst (((J2 z L).map V.str).eraseIdx j)) sb07 hD7;refine hR _ _ ⟨(J2 z L).eraseIdx j,rfl,u1,u2,?_,by omega,by omega,fun x hx=>List.mem_of_mem_eraseIdx hx⟩;rw[Zd,WB,WB,QH,Ux,U8]
  rintro σ H8 ⟨ps,rfl,sb8,hD8,hp8,l1,l2,hsub⟩;refine YL (fun σ H'=>∃ ps:List Str,σ=[some (.ref Dk),some (.int M),some (.int c7),some (.int few),some (.int L),some (.str (tx y)),some (.str (tx z)),some (.int wy),some (.ref p7)]/\SB Dk H H'/\DK H' Dk n/\H' p7=some (.lst (ps.map V.str))/\1<=ps.length/\ps.length<=M+1/\∀ x∈ps,x∈J2 z L) (fun R hR=>?_) ?_
  ·refine⟨_,rfl,rfl,_,rfl,ZcZ (fun e=>?_) (fun e=>hR _ _ ⟨ps,rfl,sb8,hD8,hp8,l1,by omega,hsub⟩)⟩;have wpos:(0:Int)<(ps.length:Int):=by omega
   have wpos1:(0:Int)<(ps.length:Int)+1:=by omega
   have m1:=ZW c7 wpos1;have m2:=ZW (c7 / 1000) wpos;obtain⟨i,ei⟩:∃ j:Nat,c7 % ((ps.length:Int)+1)=(j:Int):=⟨(c7 % ((ps.length:Int)+1)).toNat,by omega⟩
   obtain⟨j,ej⟩:∃ j:Nat,c7 / 1000 % (ps.length:Int)=(j:Int):=⟨(c7 / 1000 % (ps.length:Int)).toNat,by omega⟩
   have hi:i<=ps.length:=by omega
   have hj:j<ps.length:=by omega
   refine⟨_,rfl,.inl ⟨rfl,_,SqL.of hp8⟩,_,rfl,_,rfl,.ref p7,_,rfl,.inl ⟨_,SqL.of hp8,rfl⟩,_,_,rfl,rfl,_,_,rfl,rfl,by rw[Qc];exact wpos1,?_⟩;dsimp only;rw[Qc,ei];refine⟨_,rfl,_,rfl,_,_,rfl,rfl,⟨by decide,by decide⟩,_,rfl,.ref p7,_,rfl,.inl ⟨_,SqL.of hp8,rfl⟩,_,_,rfl,rfl,by rw[Qc];exact wpos,p7,_,_,_,rfl,rfl,SqL.of hp8,by rw[Qc,ej];exact ZgH hj,?_⟩;refine⟨p7,_,i,_,rfl,rfl,hp8,by rw[Qc];exact hi,?_,?_⟩
   ·rw[Qc];exact QS (show ps.length<1002 by omega) (Zv (by decide))
   obtain⟨u1,u2⟩:=updOk H8 (.lst ((ps.map V.str).take i++[V.str ps[j]]++(ps.map V.str).drop i)) sb8 hD8;refine hR _ _ ⟨ps.take i++[ps[j]]++ps.drop i,rfl,u1,u2,?_,by simp;omega,by simp;omega,fun x hx=>?_⟩
   ·rw[Zd,QH,QH,Ux,U8];rfl
   ·rcases QE.mp hx with hx | hx
    ·rcases QE.mp hx with hx | hx
     ·exact hsub x (Wr hx)
     ·rw[Qp.mp hx];exact hsub _ (QF hj)
    ·exact hsub x (WT hx)
  rintro σ H9 ⟨ps,rfl,sb9,hD9,hp9,l1,l2,hsub⟩;exact⟨_,rfl,k p7 H9 ps sb9 hD9 hp9 (ZkM (by omega) (by omega) z1 (by omega) zc (by omega) hsub) (fun q=>by rw[q]at l1;simp at l1) hpd l2⟩
theorem Zen (ps:List Str):∃ ss0 ks:List Str,(ss0.map fun x=>x.cps.toList).Pairwise (· < ·)/\(∀ y,inP ps y=true->y∈ss0)/\ks.Nodup/\∀ x∈ps,x∈ks:=by
 obtain⟨ss0,t1,t2⟩:=Ju (ps.map bg++ps.map en);obtain⟨ks,u1,u2⟩:=Ju ps;refine⟨ss0,ks,t1,fun y hy=>?_,Zbi u1,fun x hx=>(u2 x).mpr hx⟩;obtain⟨x,hx,q⟩:=inP_iff.mp hy;rw[t2,QE,Qj,Qj];exact q.elim (fun q=>.inl ⟨x,hx,q⟩) (fun q=>.inr ⟨x,hx,q⟩)
theorem ZnZ {P:Str} {n m:Int} (h:IsN ps P n) (k:IsN ps P m):n=m:=by
 obtain⟨ss0,ks,t1,t2,t3,t4⟩:=Zen ps;obtain⟨a1,a2,a3⟩:=h.2 ss0 ks t1 t2 t3 t4;obtain⟨b1,b2,b3⟩:=k.2 ss0 ks t1 t2 t3 t4;by_cases c:ps=[]
 ·rw[a1 c,b1 c]
 by_cases d:ZcW ps P
 ·obtain⟨_,_,e,hB⟩:=id d;have hp:=ZeC ks ps;exact UT (by omega) ((a3 c d e hB).trans (b3 c d e hB).symm)
 ·rw[a2 c d,b2 c d]
theorem ZgP {rs:List Str} {m:Str->Int} (hne:ps≠[]) (hrs:∀ p,p∈rs↔ZcW ps p) (ndr:rs.Nodup) (hl:ns.length=rs.length) (hns:∀ (i:Nat) (n:Int),ns[i]?=some n->IsN ps (rs.getD i "") n) (nds:ss.Nodup) (hss:∀ y,inP ps y=true->y∈ss)
  (hm:∀ y∈ss,IsN ps y (m y)):ns.sum=(ss.map m).sum:=by
 have hsub:∀ p∈rs,p∈ss:=fun p hp=>hss p ((hrs p).mp hp).2.1;have e1:ns=rs.map m:=by
  refine Us (by rw[Qc];exact hl) fun i h1 h2=>?_;have hi:i<rs.length:=by omega
  have:=hns i ns[i] (Qa h1);rw[Qb,Qa hi]at this;rw[Ut];exact ZnZ this (hm _ (hsub _ (QF hi)))
 have e2:∀ l:List Str,(∀ y∈l,y∈ss)->(l.map m).sum=((l.filter fun y=>decide (y∈rs)).map m).sum:=fun l=>by
  induction l with
  | nil=>exact fun _=>rfl
  | cons y l ih =>
   intro h;have ih:=ih fun z hz=>h z (Ql _ hz);by_cases c:y∈rs
   ·rw[Wc (by simpa using c),Qh,Qh,Qw,Qw,ih]
   ·rw[Wd (by simpa using c),Qh,Qw,ih];obtain⟨ss0,ks,t1,t2,t3,t4⟩:=Zen ps;rw[((hm y (h y Qi)).2 ss0 ks t1 t2 t3 t4).2.1 hne fun z=>c ((hrs y).mpr z),Uf]
 have e3:(ss.filter fun y=>decide (y∈rs)).Perm rs:=by
  rw[US (nds.filter _) ndr];intro y;rw[QD];exact⟨fun h=>of_decide_eq_true h.2,fun h=>⟨hsub y h,decide_eq_true h⟩⟩
 rw[e1,e2 ss fun _ h=>h];exact(ZfU (e3.map m)).symm
theorem cut_from (h:j<=ps.length):Ze9 (ps.map V.str) (some (j:Int)) none=(ps.drop j).map V.str:=by
 unfold Ze9;have h1:HT.sIx (ps.map V.str).length 0 (some (j:Int))=j:=by
  rw[HT.sIx_nat,Qc];exact UA h
 have h2:HT.sIx (ps.map V.str).length (ps.map V.str).length none=(ps.map V.str).length:=rfl;rw[h1,h2,QJ (by rw[QV];exact Qk _),U8]
theorem Zn8 {α:Type} {l:List α} (h:l≠[]):1<=l.length:=WW.mpr h
theorem ZbC {kk:List Str} {P e:Str} (nds:ss.Nodup) (ndk:kk.Nodup) (hss:∀ y,inP ps y=true->y∈ss) (hkk:∀ x∈ps,x∈kk) (hB:Bal ps P e) (hI:inP ps P=true) :
  BR ss ps e=((kk.filter fun x=>decide (bg x=P)).map fun x=>(ps.count x:Int)*BR ss (ps.erase x) e).sum:=by
 rw[Zkh nds hss hB hI];have f1:∀ (l:List Str) (g:Str->Int),((l.filter fun x=>decide (bg x=P)).map g).sum=(l.map fun x=>if bg x=P then g x else 0).sum:=fun l g=>by
  induction l with
  | nil=>rfl
  | cons y l ih =>
   rw[Qh,Qw,←ih];by_cases c:bg y=P
   ·rw[if_pos c,Wc (by simpa using c),Qh,Qw]
   ·rw[if_neg c,Wd (by simpa using c),Uf]
 rw[f1,f1,←ZcN ndk _ ps hkk];congr 1;refine Qu fun x _=>?_;by_cases c:bg x=P
 ·rw[if_pos c,if_pos c]
 ·rw[if_neg c,if_neg c,WS]
theorem Zem (hss:∀ y,inP ps y=true->y∈ss) (x y:Str) (h:inP (ps.erase x) y=true):y∈ss:=hss y (Zgn (fun z hz=>Wy hz) h)
theorem ZmP {ss ks:List Str} (nds:ss.Nodup) (ndk:ks.Nodup):∀ (n:Nat) (ps:List Str) (P e:Str),ps.length=n->(∀ y,inP ps y=true->y∈ss)->(∀ x∈ps,x∈ks)->Bal ps P e->prK ks ps ∣ BR ss ps e
 | 0,ps,P,e,hl,_,_,_=>by
  rw[QU.mp hl,ZiR];exact Int.one_dvd _
 | n+1,ps,P,e,hl,hss,hks,hB=>by
  have hne:ps≠[]:=fun z=>by rw[z]at hl;cases hl
  by_cases hS:ZcW ps P
  ·rw[ZbC nds ndk hss hks hB hS.2.1];refine Zel _ fun z hz=>?_;obtain⟨x,hx,rfl⟩:=Qj.mp hz;obtain⟨hx1,hx2⟩:=QD.mp hx;have hb:bg x=P:=of_decide_eq_true hx2;by_cases c:x∈ps
   ·rw[ZfT ndk hx1 c];refine RT (Int.dvd_refl _) (ZmP nds ndk n (ps.erase x) (en x) e ?_ (Zem hss x) (fun y hy=>hks y (Wy hy)) (ZgG hB (Q3 c) hb));rw[QW c];omega
   ·rw[WV c];rw[Int.natCast_zero,Wx];exact Vu _
  ·rw[Zf4 hss hne hB hS];exact Vu _
theorem Zom {P e e':Str} (h:Bal ps P e) (k:Bal ps P e'):e=e':=by
 have h1:=h e;have h2:=k e;rw[if_pos (rfl:e=e)]at h1;false_or_by_contra;rename_i c;rw[if_neg c]at h2;omega
theorem Zps (nds:ss.Nodup) (ndk:ks.Nodup) (ps:List Str) (P:Str) (hss:∀ y,inP ps y=true->y∈ss) (hks:∀ x∈ps,x∈ks):∃ n,IsC ss ks ps P n:=by
 by_cases c:ps=[]
 ·exact⟨1,fun _=>rfl,fun z=>absurd c z,fun z=>absurd c z⟩
 by_cases d:ZcW ps P
 ·obtain⟨_,_,e,hB⟩:=id d;obtain⟨n,hn⟩:=ZmP nds ndk _ ps P e rfl hss hks hB;refine⟨n,fun z=>absurd z c,fun _ z=>absurd d z,fun _ _ e' hB'=>?_⟩;rw[Zom hB' hB,hn,WA]
 ·exact⟨0,fun z=>absurd z c,fun _ _=>rfl,fun _ z=>absurd z d⟩
theorem Zn0 {P:Str} {n m:Int} (h:IsC ss ks ps P n) (k:IsC ss ks ps P m):n=m:=by
 obtain⟨a1,a2,a3⟩:=h;obtain⟨b1,b2,b3⟩:=k;by_cases c:ps=[]
 ·rw[a1 c,b1 c]
 by_cases d:ZcW ps P
 ·obtain⟨_,_,e,hB⟩:=id d;have hp:=ZeC ks ps;exact UT (by omega) ((a3 c d e hB).trans (b3 c d e hB).symm)
 ·rw[a2 c d,b2 c d]
theorem Zfa {kk:List Str} {P:Str} {m:Str->Int} (nds:ss.Nodup) (ndk:ks.Nodup) (ndkk:kk.Nodup) (hss:∀ y,inP ps y=true->y∈ss) (hks:∀ x∈ps,x∈ks) (hkk:∀ x,x∈kk↔x∈ps) (hne:ps≠[])
  (hm:∀ x∈ps,bg x=P->IsC ss ks (ps.erase x) (en x) (m x)):IsC ss ks ps P ((kk.filter fun x=>decide (bg x=P)).map m).sum:=by
 obtain⟨n,hn⟩:=Zps nds ndk ps P hss hks;have hfk:∀ x∈kk.filter (fun x=>decide (bg x=P)),x∈ps/\bg x=P:=fun x hx=>⟨(hkk x).mp (QD.mp hx).1,of_decide_eq_true (QD.mp hx).2⟩
 have key:n=((kk.filter fun x=>decide (bg x=P)).map m).sum:=by
  by_cases hS:ZcW ps P
  ·obtain⟨hC,hI,e,hB⟩:=id hS;have h1:=hn.2.2 hne hS e hB;rw[ZbC nds ndkk hss (fun x hx=>(hkk x).mpr hx) hB hI]at h1;have h2:∀ x∈kk.filter (fun x=>decide (bg x=P)),m x*prK ks ps=(ps.count x:Int)*BR ss (ps.erase x) e:=fun x hx=>by
    obtain⟨hx1,hx2⟩:=hfk x hx;have hI2:=hm x hx1 hx2;have hB2:=ZgG hB (Q3 hx1) hx2;have h3:m x*prK ks (ps.erase x)=BR ss (ps.erase x) e:=by
     by_cases c:ps.erase x=[]
     ·rw[hI2.1 c,c,ZpV,ZiR];rfl
     ·by_cases d:ZcW (ps.erase x) (en x)
      ·exact hI2.2.2 c d e hB2
      ·rw[hI2.2.1 c d,Zf4 (Zem hss x) c hB2 d,Wx]
    rw[ZfT ndk (hks x hx1) hx1,Wo,h3]
   have h5:((kk.filter fun x=>decide (bg x=P)).map m).sum*prK ks ps=n*prK ks ps:=by
    rw[h1,J9,QC];congr 1;exact Qu fun x hx=>h2 x hx
   have hp:=ZeC ks ps;exact(UT (by omega) h5).symm
  ·have sum0:∀ (l:List Str) (g:Str->Int),(∀ y∈l,g y=0)->(l.map g).sum=0:=fun l g h=>by
    induction l with
    | nil=>rfl
    | cons y l ih =>
     rw[Qh,Qw,h y Qi,ih fun z hz=>h z (Ql _ hz)];rfl
   rw[hn.2.1 hne hS,sum0];intro x hx;obtain⟨hx1,hx2⟩:=hfk x hx;have hI2:=hm x hx1 hx2;by_cases c:ps.erase x=[]
   ·exact absurd (hx2▸Zh4 (Q3 hx1) (.inl c)) hS
   ·refine hI2.2.1 c fun d=>hS ?_;exact hx2▸Zh4 (Q3 hx1) (.inr d)
 exact key▸hn
structure ZmO (ps:List Str):Prop where
 one:∀ x∈ps,bg x = ""/\en x = ""
 nd:ps.Nodup
theorem Zi7 (h:ZmO ps) (hne:ps≠[]):inP ps "" = true:=by
 obtain⟨x,hx⟩:=RD ps hne;exact inP_iff.mpr ⟨x,hx,.inl (h.one x hx).1⟩
theorem Jc (h:ZmO ps) (hy:inP ps y=true):y = "":=by
 obtain⟨x,hx,q⟩:=inP_iff.mp hy;rcases q with q | q
 ·rw[←q];exact(h.one x hx).1
 ·rw[←q];exact(h.one x hx).2
theorem Zi6 (h:ZmO ps) (y:Str):oR ps y=if y = "" then ps.length else 0:=by
 unfold oR;by_cases c:y = ""
 ·rw[if_pos c,c,Rv.mpr fun x hx=>decide_eq_true (h.one x hx).1]
 ·rw[if_neg c,WC.mpr,Uh];intro x hx z;exact c ((of_decide_eq_true z).symm.trans (h.one x hx).1)
theorem ZnA (h:ZmO ps) (y:Str):iR ps y=if y = "" then ps.length else 0:=by
 unfold iR;by_cases c:y = ""
 ·rw[if_pos c,c,Rv.mpr fun x hx=>decide_eq_true (h.one x hx).2]
 ·rw[if_neg c,WC.mpr,Uh];intro x hx z;exact c ((of_decide_eq_true z).symm.trans (h.one x hx).2)
theorem Zf1 (h:ZmO ps):Bal ps "" "":=fun y=>by
 rw[Zi6 h,ZnA h];omega
theorem Znz (h:ZmO ps) (hne:ps≠[]) (p:Str):ZcW ps p↔p = "":=by
 constructor
 ·exact fun z=>Jc h z.2.1
 ·rintro rfl;refine⟨fun a ha b hb=>?_,Zi7 h hne,_,Zf1 h⟩;rw[(h.one a ha).1,(h.one b hb).1];exact .here
theorem ZkZ (h:ZmO ps) (hne:ps≠[]) {n:Int} (hN:IsN ps "" n):n=fI ps.length:=by
 have hs:(([("" : Str)]:List Str).map fun x=>x.cps.toList).Pairwise (· < ·):=by simp
 have h1:=(hN.2 [""] ps hs (fun y hy=>by rw[Jc h hy];exact Qi) h.nd fun x hx=>hx).2.2 hne ((Znz h hne "").mpr rfl) "" (Zf1 h);have h2:prK ps ps=1:=Zaj ps fun x hx=>by
  rw[h.nd.count,if_pos hx];rfl
 have h3:osL [""] ps "" = []:=by
  unfold osL;refine WC.mpr fun y hy=>?_;rw[Qp.mp hy];simp
 rw[h2,UU]at h1;rw[h1];unfold BR;rw[h3,Zi6 h,if_pos rfl];show 1*fI ps.length*1=_;rw[Q9,UU]
end Sh
namespace L2
open PySem PySem.Spec PyProof.Rows
end L2
namespace Sh
open PySem L2 PyProof.Rows
seal L2.PE L2.PS L2.PSs L2.PT L2.PW L2.PA L2.PI L2.PG L2.PGs L2.PO L2.PC L2.PCs L2.OpR L2.UnR L2.CallR L2.MtR L2.IxR L2.SlR
variable {P:Program} {w:World} {K:PySem.W.Frag} {mg:Str->Option Value} {base:Heap}
section
variable {P:Program} {w:World} {K:PySem.W.Frag} {mg:Str->Option Value} {base:Heap} {S C A1 A2 A3 A4 A5 A6 A7 A8:Addr}
end
end Sh
namespace L2
open PySem PySem.Spec PyProof.Rows
end L2
namespace Sh
open PySem L2 PyProof.Rows
seal L2.PE L2.PS L2.PSs L2.PT L2.PW L2.PA L2.PI L2.PG L2.PGs L2.PO L2.PC L2.PCs L2.OpR L2.UnR L2.CallR L2.MtR L2.IxR L2.SlR
variable {P:Program} {w:World} {K:PySem.W.Frag} {mg:Str->Option Value} {base:Heap}
abbrev Zb0:Stmt:=top 34
theorem Ziy:Zo ["thing"] ["thing"] (Zf Zb0):=⟨rfl,rfl,rfl,by decide +kernel,rfl,by decide +kernel,by decide +kernel⟩
theorem ZeO (D:HasDef K mg "is_whole" Zb0 ["thing"]) (B:Blt mg):FOk P w K mg base 1 "is_whole" ["thing"] Zaq:=by
 refine D.ok Ziy (fun vs H Q E h=>?_) (fun f cdv A outer s H vs Q E hr h=>?_)
 ·obtain⟨x,n,rfl,_⟩:=h;rfl
 ·obtain⟨x,n,rfl,ty,k⟩:=h;refine⟨_,Zh (Zp (ZfY (Zk Xw rfl B.isi Zki (Za (pv 0) (Za (ZiW rfl B.int ZpJ) Ze)))
   (ZfV (ZiX (Zk Xw rfl B.isi Zki (Za (pv 0) (Za (ZiW rfl B.bool ZmJ) Ze))))))),?_⟩
  refine⟨_,rfl,x,"int",n,rfl,by decide,ty,_,rfl,?_⟩;refine ZcZ (fun e=>?_) (fun e=>?_)
  ·refine⟨_,rfl,x,"bool",n,rfl,by decide,ty,_,rfl,?_⟩;rw[(Zcz n ty.mem).1 e];exact k
  ·rw[(Zcz n ty.mem).2 e]at k;exact k
def Zmn (c:Nat):Bool:=decide (97<=c)&&decide (c<=122)
def ZaJ (p:Pr):PyData:=.tuple [.str p.1,.int p.2]
def Jj (hp:List Pr):PyData:=.tuple (hp.map ZaJ)
theorem Zdf {H:Hp}:∀ (hp:List Pr) (xs:List V),xs.length=hp.length->(∀ i p,hp[i]?=some p->PairAt H (xs.getD i .non) p)->RepA H (hp.map ZaJ) xs
 | [],xs,hl,_=>by
  rw[We,RepA];exact QU.mp hl
 | p::hp,[],hl,_=>by cases hl
 | p::hp,x::xs,hl,h=>by
  rw[Qh,RepA];obtain⟨b,eb,hb⟩:=h 0 p rfl;refine⟨x,xs,rfl,?_,Zdf hp xs (by simpa using hl) fun i q e=>h (i+1) q e⟩;unfold ZaJ;rw[RepD];refine⟨b,_,eb,hb,?_⟩;rw[RepA];refine⟨_,_,rfl,by rw[RepD],?_⟩;rw[RepA];exact⟨_,_,rfl,by rw[RepD],by rw[RepA]⟩
theorem ZfM {H:Hp} {v:V} {hp:List Pr} (h:HpAt H v hp):RepD H (Jj hp) v:=by
 obtain⟨a,xs,e,ha,hl,r⟩:=h;unfold Jj;rw[RepD];exact⟨a,xs,e,ha,Zdf hp xs hl r⟩
def ZcY (hp:List Pr):Prop:=∀ p∈hp,PyData.strOk p.1=true
theorem ZdJ:∀ hp:List Pr,ZcY hp->PyData.canLayAll0 (hp.map ZaJ)=true
 | [],_=>by simp[PyData.canLayAll0]
 | p::hp,h=>by
  rw[Qh,PyData.canLayAll0,ZdJ hp fun q hq=>h q (Ql _ hq)];simp[ZaJ,PyData.canLay0,PyData.canLayAll0,h p Qi]
theorem ZaY:∀ hp:List Pr,PyData.depthAll (hp.map ZaJ)<=1
 | []=>by simp[PyData.depthAll]
 | p::hp=>by
  have h:=ZaY hp;rw[Qh,PyData.depthAll];have h2:PyData.depth (ZaJ p)=1:=by simp[ZaJ,PyData.depth,PyData.depthAll]
  omega
theorem Y2 {hp:List Pr} (h:ZcY hp):SeqAt.shaped (Jj hp)=true:=by
 unfold SeqAt.shaped;rw[Wl];constructor
 ·unfold Jj;rw[PyData.canLay0];exact ZdJ hp h
 ·refine decide_eq_true ?_;have h:=ZaY hp;unfold Jj;rw[PyData.depth];omega
theorem JG:∀ hp:List Pr,(∀ p∈hp,1<=p.2)->(hp.length:Int)<=(hp.map (·.2)).sum
 | [],_=>by simp
 | p::r,h=>by
  have h1:=JG r fun q hq=>h q (Ql _ hq);have h2:=h p Qi;rw[Qh,Qw,QL];omega
theorem Zmv:∀ hp:List Pr,(∀ p∈hp,1<=p.2)->∀ p∈hp,p.2<=(hp.map (·.2)).sum
 | [],_,p,hp=>by cases hp
 | q::r,h,p,hp=>by
  have h2:=h q Qi;have h4:=JG r fun z hz=>h z (Ql _ hz);rw[Qh,Qw];rcases QA.mp hp with e | e
  ·subst e;omega
  ·have h3:=Zmv r (fun z hz=>h z (Ql _ hz)) p e;omega
section
variable {hp:List Pr} {L:Nat}
end
end Sh
namespace L2
open PySem PySem.Spec PyProof.Rows
end L2
namespace Sh
open PySem L2 PyProof.Rows
seal L2.PE L2.PS L2.PSs L2.PT L2.PW L2.PA L2.PI L2.PG L2.PGs L2.PO L2.PC L2.PCs L2.OpR L2.UnR L2.CallR L2.MtR L2.IxR L2.SlR
variable {P:Program} {w:World} {K:PySem.W.Frag} {mg:Str->Option Value} {base:Heap}
end Sh
namespace L2
open PySem PySem.Spec PyProof.Rows
end L2
namespace Sh
open PySem L2 PyProof.Rows
seal L2.PE L2.PS L2.PSs L2.PT L2.PW L2.PA L2.PI L2.PG L2.PGs L2.PO L2.PC L2.PCs L2.OpR L2.UnR L2.CallR L2.MtR L2.IxR L2.SlR
variable {P:Program} {w:World} {K:PySem.W.Frag} {mg:Str->Option Value} {base:Heap}
end Sh
namespace L2
open PySem PySem.Spec PyProof.Rows
end L2
namespace Sh
open PySem L2 PyProof.Rows
seal L2.PE L2.PS L2.PSs L2.PT L2.PW L2.PA L2.PI L2.PG L2.PGs L2.PO L2.PC L2.PCs L2.OpR L2.UnR L2.CallR L2.MtR L2.IxR L2.SlR
variable {P:Program} {w:World} {K:PySem.W.Frag} {mg:Str->Option Value} {base:Heap}
abbrev Zey:Stmt:=top 35
abbrev Zb3:Stmt:=top 36
abbrev ZnL:List Str:=["manys"]
theorem ZkF:Zo ZnL ["manys"] (Zf Zey):=⟨rfl,rfl,rfl,by decide +kernel,rfl,by decide +kernel,by decide +kernel⟩
def Zib:Sp:=fun vs H Q _=>∃ (d:Addr) (ks:List Str) (g:Str->Int),vs=[.ref d]/\H d=some (.dK (ks.map fun x=>((Sum.inr x:Key),V.int (g x))))/\ks.Nodup/\ks.length<64 /\
 ∀ v H' (ss:List Str),Same H H'->ss.Perm ks->(ss.map fun x=>x.cps.toList).Pairwise (· < ·)->HpAt H' v (ss.map fun x=>(x,g x))->Q v H'
theorem Zg6 (D:HasDef K mg "in_rows" Zey ["manys"]) (B:Blt mg):FOk P w K mg base 1 "in_rows" ["manys"] Zib:=by
 refine D.ok ZkF (fun vs H Q E h=>?_) (fun f cdv A outer s H vs Q E hr h=>?_)
 ·obtain⟨d,ks,g,rfl,_⟩:=h;rfl
 ·obtain⟨d,ks,g,rfl,hd,nd,h64,k⟩:=h;refine⟨_,(Zh (Zp (ZC ZE rfl B.tuple YN (Za (Zk (Xu rfl) rfl B.sorted Yq (Za (Zca (pv 0)) Ze)) Ze)))),?_⟩;refine⟨_,rfl,d,_,rfl,hd,fun p hp=>⟨p,d,ks,fun x=>.int (g x),rfl,Zd,Zb hp _ _ hd,nd,h64,fun D1 H1 vs ss hs1 hperm hsrt hD1 hl hv=>?_⟩⟩;refine⟨D1,vs,rfl,.inl ⟨SqL.of hD1,fun l hl0=>?_⟩⟩;refine k _ _ ss (((Zb hp).trans hs1).trans (Zb hl0)) hperm hsrt ⟨l,vs,rfl,Zd,by rw[Qc];exact hl,fun i q e=>?_⟩;rw[Qd]at e;cases ex:ss[i]? with
  | none=>rw[ex]at e;cases e
  | some x =>
   rw[ex]at e;cases e;obtain⟨b,e1,e2⟩:=hv i x ex;rw[Qb,e1];exact⟨b,rfl,Zb hl0 _ _ e2⟩
abbrev Zlc:List Str:=["pieces","manys","piece"]
theorem scCounted:Zo Zlc ["pieces"] (Zf Zb3):=⟨rfl,rfl,rfl,by decide +kernel,rfl,by decide +kernel,by decide +kernel⟩
theorem Zg8 (D:HasDef K mg "counted" Zb3 ["pieces"]) (B:Blt mg) (G1:FOk P w K mg base 1 "in_rows" ["manys"] Zib):FOk P w K mg base 2 "counted" ["pieces"] (ZfC K):=by
 refine D.ok scCounted (fun vs H Q E h=>?_) (fun f cdv A outer s H vs Q E hr h=>?_)
 ·obtain⟨a,ps,Bd,rfl,_⟩:=h;rfl
 ·obtain⟨a,ps,Bd,rfl,ha,hl,hB,hsub,k⟩:=h;have hu:=Ze0 hr;refine⟨_,(Zc (Zj (i:=1) scCounted.nd rfl (.inl rfl) Jb)
   (Zc (ZY PassesOwn.never rfl (ZU (pv 0)) (ZB (i:=2) scCounted.nd rfl (.inl rfl))
    (Zh (XS hu (pv 1) (pv 2) (Zn ZS (Zak hu (pv 1) (pv 2) Zg ⟨rfl,rfl,rfl,rfl⟩) Zg) rfl)))
   (Zh (Zp (Zq G1 hr (Za (pv 1) Ze)))))),?_⟩
  intro d hd;have hs0:Same H (upd H d (.dK [])):=Zb hd;refine⟨_,rfl,a,rfl,⟨_,hs0.seq ha⟩,YK (K:=K) (a:=a) (xs:=ps.map V.str) (fun i σ H2=>(∃ z:Option V,σ=[some (.ref a),some (.ref d),z])/\Same H H2/\∃ ks,Cnt ks (ps.take i)/\ks.length<=i/\H2 d=some (.dK (cD ks (ps.take i))))
   ⟨⟨none,rfl⟩,hs0,[],⟨WZ,fun x=>Iff.rfl⟩,Qk _,Zd⟩ (fun i σ H2 _ ⟨_,s2,_⟩=>s2.seq ha) ?_ ?_⟩
  ·rintro i x σ H2 hi ⟨⟨z,rfl⟩,s2,ks,hk,hkl,hdd⟩;have hi':i<ps.length:=by
    have:=(Qn.mp hi).1;rw[Qc]at this;exact this
   rw[Qd,Qa hi']at hi;have ex:x=V.str ps[i]:=(Option.some.inj hi).symm;subst ex;have hg:(XF (cD ks (ps.take i)) (Sum.inr ps[i]:Key)).getD (.int 0)= .int ((ps.take i).count ps[i]):=by
    unfold cD;rw[Y1];split
    ·rfl
    ·rename_i m;have:ps[i]∉ps.take i:=fun q=>m ((hk.mem _).mpr q);rw[WV this];rfl
   obtain⟨ks',hk',ep,hl'⟩:=ZgD hk ps[i];rw[←Q5 hi']at hk' ep;refine⟨_,rfl,d,rfl,.inl ⟨_,.inl hdd⟩,_,rfl,_,DGet.kk (k:=Sum.inr ps[i]) hdd,_,_,hg,rfl,_,rfl,_,rfl,d,_,rfl,DPut.kk (k:=Sum.inr ps[i]) hdd ?_,?_⟩
   ·unfold cD;rw[Qc];exact ZM (by omega)
   ·refine⟨⟨_,rfl⟩,fun b o e=>?_,ks',hk',by omega,?_⟩
    ·rw[Zi (Zm e hd)];exact s2 b o e
    ·rw[Zd];exact congrArg (fun l=>some (HO.dK l)) ep
  ·rintro σ H2 ⟨⟨z,rfl⟩,s2,ks,hk,hkl,hdd⟩;rw[QJ (by rw[Qc];exact Qk _)]at hk hdd;have hk63:ks.length<=63:=QY (Yh hk.nd fun x hx=>hsub x ((hk.mem x).mp hx)) hB;refine⟨_,rfl,d,ks,fun x=>(ps.count x:Int),rfl,hdd,hk.nd,by omega,fun v H3 ss hs3 hperm hsrt hA=>?_⟩;refine k v H3 _ (s2.trans hs3) hA ⟨?_,?_,?_⟩
   ·rw[QC];exact hsrt
   ·intro x;rw[QC];have:ss.map ((·.1) ∘ fun x=>(x,(ps.count x:Int)))=ss:=by
     conv=>rhs;rw[←U5 ss]
     exact Qu fun _ _=>rfl
    rw[this,hperm.mem_iff,hk.mem]
   ·intro p hp;obtain⟨x,_,rfl⟩:=Qj.mp hp;rfl
end Sh
namespace L2
end L2
namespace Sh
open PySem L2 PyProof.Rows
seal L2.PE L2.PS L2.PSs L2.PT L2.PW L2.PA L2.PI L2.PG L2.PGs L2.PO L2.PC L2.PCs L2.OpR L2.UnR L2.CallR L2.MtR L2.IxR L2.SlR
variable {P:Program} {w:World} {K:PySem.W.Frag} {mg:Str->Option Value} {base:Heap}
variable {C:Addr} {H:Hp} {L i j n:Nat} {hp:Es} {ps qs ss:List Str} {x:Str}
section
variable {hp:List Pr} {L:Nat}
end
abbrev X4:Stmt:=top 37
abbrev ZdB:List Str:=["T","long"]
theorem ZgR:Zo ZdB ["T","long"] (Zf X4):=⟨rfl,rfl,rfl,by decide +kernel,rfl,by decide +kernel,by decide +kernel⟩
def ZfA:Sp:=fun vs H Q _=>∃ (T:List Nat) (L:Nat),vs=[.str (tx T),.int L]/\1<=L/\L<=T.length/\T.length<=1000/\∀ p H',Same H H'->H' p=some (.lst ((pcs T L).map V.str))->Q (.ref p) H'
theorem Zdq (D:HasDef K mg "pieces_of" X4 ["T","long"]) (B:Blt mg):FOk P w K mg base 1 "pieces_of" ["T","long"] ZfA:=by
 refine D.ok ZgR (fun vs H Q E h=>?_) (fun f cdv A outer s H vs Q E hr h=>?_)
 ·obtain⟨T,L,rfl,_⟩:=h;rfl
 ·obtain⟨T,L0,rfl,hL1,hL2,hL3,k⟩:=h;refine⟨_,(Zh (Zp (ZH (Zf X4) ZdB ["place"] [0,1] rfl (Yj rfl B.range (Za (Zn ZS (Zn Yz (Zk Zr rfl B.len ZV (Za (pv 0) Ze)) (pv 1)) Zg) Ze)) (fun _ _ _ _ _=>Z0 0) (fun _ _ _ _ _=>ZR) (fun _ _ _ _ _=>(ZF Ym (pv 1) (ZL (pv 0)) (ZL (Zn ZS (pv 0) (pv 2)))))))),?_⟩;have hz':(tx T).length<=sizeLine:=by rw[Zw];exact Zv (by omega)
  have ej:((T.length:Int)-(L0:Int)+1).toNat=T.length-L0+1:=by omega
  refine⟨_,rfl,.str (tx T),T.length,rfl,⟨hz',(Zw T).symm⟩,_,rfl,_,_,rfl,rfl,_,_,rfl,rfl,_,rfl,by omega,by omega,?_⟩;rw[ej];refine YB (T.length-L0+1) (fun i=>.int (0+i)) (fun i v _=>v= .str (tx ((T.drop i).take L0))) (Zv (by omega)) (fun _ _ _ _ _ r=>r) Zcw ?_ ?_
  ·intro i H3 Qe hi hs kq;refine⟨_,rfl,_,rfl,_,rfl,_,rfl,_,rfl,_,_,rfl,rfl,_,rfl,_,rfl,hz',kq _ _ (Same.refl _) ?_⟩;refine congrArg V.str (ZJ ?_);rw[Xh (by omega) (by omega) (by rw[Zw];omega),ZN,ZN];congr 1
   ·omega
   ·congr 1;omega
  intro D1 vs1 H3 hlv1 hr1 hs3 hD1 hDl1;have e1:=ZbF (f:=fun i=>V.str (tx ((T.drop i).take L0))) hlv1 hr1;refine k D1 H3 hs3 ?_;rw[hDl1,e1];unfold pcs;rw[QC];rfl
theorem ZoY {vs:List V} {es:Es} {p:Str×Int->Bool} {f:Str->Str} (hn:n=es.length) (hl:vs.length=((Qx n).filter fun i=>p (es.getD i ("",0))).length)
  (hR:∀ (j i:Nat) (v:V),((Qx n).filter fun i=>p (es.getD i ("",0)))[j]?=some i->vs[j]?=some v->ZgV (f (es.getD i ("",0)).1) (es.getD i ("",0)).2 v H):PA H vs ((es.filter p).map fun e=>(f e.1,e.2)):=by
 subst hn;rw[ZqX];refine⟨by rw[Qc,Qc,hl],fun j e he=>?_⟩;rw[Qd,Qd]at he;cases hj:((Qx es.length).filter fun i=>p (es.getD i ("",0)))[j]? with
 | none=>rw[hj]at he;cases he
 | some i =>
  rw[hj]at he;cases he;have hjv:j<vs.length:=by rw[hl];exact(Qn.mp hj).1
  obtain⟨b,e1,e2⟩:=hR j i vs[j] hj (Qa hjv);exact⟨b,by rw[Qa hjv,e1],e2⟩
def lc (x:Str):Str:=⟨#[x.cps.toList.getD (x.length-1) 0]⟩
def nxt (es:Es) (y:Str):Es:=(es.filter fun e=>decide (bg e.1=y)).map fun e=>(lc e.1,e.2)
def Zid:Sp:=fun vs H Q _=>∃ (v:V) (es:Es) (y:Str),vs=[v,.str y]/\HeapV H v es/\Jo es/\∀ v' H',Same H H'->HeapV H' v' (nxt es y)->Q v' H'
abbrev Zag:Stmt:=top 5
abbrev Zf8:List Str:=["H","P"]
theorem Ziw:Zo Zf8 ["H","P"] (Zf Zag):=⟨rfl,rfl,rfl,by decide +kernel,rfl,by decide +kernel,by decide +kernel⟩
theorem ZnU (h:1<=x.length):atI x.cps.toList (-1)=some (x.cps.toList.getD (x.length-1) 0):=by
 have hl:x.cps.toList.length=x.length:=ZD x;unfold atI ixN;rw[if_neg (by decide),if_pos (by omega),Option.bind_some,hl];have e:((-1:Int)+(x.length:Int)).toNat=x.length-1:=by omega
 rw[e,Qb,Qa (by omega)];rfl
theorem ZeJ (D:HasDef K mg "nexts_of" Zag ["H","P"]) (B:Blt mg) (g12_:FOk P w K mg base 1 "begin_of" ["piece"] ZbP):FOk P w K mg base 2 "nexts_of" ["H","P"] Zid:=by
 refine D.ok Ziw (fun vs H Q E h=>?_) (fun f cdv A outer s H vs Q E hr h=>?_)
 ·obtain⟨v,es,y,rfl,_⟩:=h;rfl
 ·obtain⟨v,es,y,rfl,⟨q,vs,rfl,hq,hpa⟩,hF,k⟩:=h;refine⟨_,(Zh (Zp (ZC ZE rfl B.tuple YN (Za (ZH (Zf Zag) Zf8 ["piece","many"] [1] rfl (Yy (pv 0)) (fun _ _ _ _ _=>Z5 2 K rfl (Zu (Z0 0) (Zu (Z0 1) Z4))) (fun _ _ _ _ _=>pcs_one (Zs XH (Zq g12_ hr (Za (pv 0) Ze)) (pv 2) (Zx _))) (fun _ _ _ _ _=>(YW (Za (ZP ZdK (pv 0) (Za4 XI Zg) (fun _ _=>rfl)) (Za (pv 1) Ze))))) Ze)))),?_⟩;have hfew:=hF.few;have hvl:=hpa.1;refine⟨_,rfl,q,rfl,⟨_,SqT.of hq⟩,ZaR vs.length (fun i=>vs.getD i .non) (fun i=>(fun e:Str×Int=>decide (bg e.1=y)) (es.getD i ("",0))) (fun i v H=>ZgV (lc (es.getD i ("",0)).1) (es.getD i ("",0)).2 v H) (Zl (by omega)) (fun i v H H' hs ⟨b,e1,e2⟩=>⟨b,e1,hs _ _ e2⟩) (JV (SqT.of hq)) ?_ ?_⟩
  ·intro i H3 Qt Qf hi hs ht hf;have hie:i<es.length:=by omega
   obtain⟨b,e1,e2⟩:=hpa.2 i es[i] (Qa hie);have ev:vs.getD i .non= .ref b:=by rw[Qb,e1];rfl
   have ee:es.getD i ("",0)=es[i]:=by rw[Qb,Qa hie];rfl
   obtain⟨l1,l2⟩:=hF.long es[i] (QF hie);rw[ee]at ht hf;rw[ev];refine⟨b,_,rfl,SqT.of (hs _ _ e2),rfl,_,_,rfl,_,_,rfl,rfl,_,rfl,es[i].1,rfl,l1,l2,_,rfl,rfl,_,rfl,?_⟩;rw[dec_str];by_cases c:bg es[i].1=y
   ·refine Jp (decide_eq_true c) ⟨_,rfl,_,rfl,es[i].1,_,_,rfl,rfl,Z2 l2,ZnU l1,_,rfl,Zl (show 2<=1000 by decide),fun p hp=>ht (decide_eq_true c) _ _ (Zb hp) ⟨p,rfl,Zd⟩⟩
   ·exact Xa (decide_eq_false c) (hf (decide_eq_false c) _ (Same.refl _))
  intro D2 vs2 H16 hl2 hR2 s16 hD2 hDl2;have hp2:=ZoY (p:=fun e=>decide (bg e.1=y)) (f:=lc) hvl hl2 hR2;refine⟨D2,vs2,rfl,.inl ⟨SqL.of hDl2,fun l hl=>?_⟩⟩;have sq:=Zb (o:=.tup vs2) hl;exact k _ _ (s16.trans sq) ⟨l,vs2,rfl,Zd,hp2.same sq.tup⟩
theorem JW:∀ a b:List Pr,PyData.eqvAll (a.map ZaJ) (b.map ZaJ)=decide (a=b)
 | [],[]=>by simp[PyData.eqvAll]
 | [],y::b=>by simp[PyData.eqvAll]
 | x::a,[]=>by simp[PyData.eqvAll]
 | x::a,y::b=>by
  rw[Qh,Qh,PyData.eqvAll,JW a b];obtain⟨x1,x2⟩:=x;obtain⟨y1,y2⟩:=y;by_cases h:x1=y1 <;> by_cases h2:x2=y2 <;> simp[ZaJ,PyData.eqv,PyData.eqvAll,h,h2]
theorem ZdW (a b:List Pr):PyData.eqv (Jj a) (Jj b)=decide (a=b):=by
 unfold Jj;rw[PyData.eqv,JW]
noncomputable def XW (ps:List Str):List Str:=Classical.choose (Ju ps)
theorem YZ (ps:List Str):((XW ps).map fun x=>x.cps.toList).Pairwise (· < ·):=(Classical.choose_spec (Ju ps)).1
theorem Z1 (ps:List Str) (x:Str):x∈XW ps↔x∈ps:=(Classical.choose_spec (Ju ps)).2 x
theorem Zgk (ps:List Str):(XW ps).Nodup:=Zbi (YZ ps)
def ls (x:Str):Nat:=x.cps.toList.getD (x.length-1) 0
noncomputable def YG (ps:List Str) (p:Str):List Str:=(XW ps).filter fun k=>decide (bg k=p)
noncomputable def tls:Nat->List Str->Str->List (List Nat)
 | 0,_,_=>[[]]
 | n+1,ps,p=>(YG ps p).flatMap fun k=>(tls n (ps.erase k) (en k)).map fun t=>ls k::t
noncomputable def tl (ps:List Str) (p:Str):List (List Nat):=tls ps.length ps p
theorem Zfs (p:Str):tl [] p=[[]]:=rfl
theorem outK_mem {p k:Str}:k∈YG ps p↔k∈ps/\bg k=p:=by
 unfold YG;rw[QD,Z1,decide_eq_true_iff]
theorem XE {α β:Type} {f g:α->List β}:∀ l:List α,(∀ x∈l,f x=g x)->l.flatMap f=l.flatMap g
 | [],_=>rfl
 | x::l,h=>by rw[Wq,Wq,h x Qi,XE l fun y hy=>h y (Ql _ hy)]
theorem Yu (hne:ps≠[]) (p:Str):tl ps p=(YG ps p).flatMap fun k=>(tl (ps.erase k) (en k)).map fun t=>ls k::t:=by
 unfold tl;obtain⟨n,hn⟩:∃ n,ps.length=n+1:=⟨ps.length-1,by have:=WW.mpr hne;omega⟩
 rw[hn];refine XE _ fun k hk=>?_;rw[QW (outK_mem.mp hk).1,hn];rfl
theorem ZcD {α β:Type} (f:α->List β):∀ l:List α,((l.flatMap f).length:Int)=(l.map fun x=>((f x).length:Int)).sum
 | []=>rfl
 | x::l=>by rw[Wq,Qm,Qh,Qw,←ZcD f l];push_cast;rfl
theorem ZhR {ss ks:List Str} (nds:ss.Nodup) (ndk:ks.Nodup):∀ (n:Nat) (ps:List Str) (p:Str),ps.length=n->(∀ y,inP ps y=true->y∈ss)->(∀ x∈ps,x∈ks)->IsC ss ks ps p (tl ps p).length
 | 0,ps,p,hl,_,_=>by
  have e:=QU.mp hl;subst e;exact⟨fun _=>rfl,fun z=>absurd rfl z,fun z=>absurd rfl z⟩
 | n+1,ps,p,hl,hss,hks=>by
  have hne:ps≠[]:=fun z=>by rw[z]at hl;cases hl
  rw[Yu hne,ZcD];have e:((YG ps p).map fun x=>(((tl (ps.erase x) (en x)).map fun t=>ls x::t).length:Int))=(YG ps p).map fun x=>((tl (ps.erase x) (en x)).length:Int):=Qu fun x _=>by rw[Qc]
  rw[e];refine Zfa nds ndk (Zgk ps) hss hks (Z1 ps) hne fun x hx hb=>?_;refine ZhR nds ndk n (ps.erase x) (en x) ?_ (Zem hss x) fun y hy=>hks y (Wy hy);rw[QW hx,hl];rfl
theorem ZlW (ps:List Str) (p:Str):∀ n:Int,IsN ps p n->n=(tl ps p).length:=fun n h=>by
 obtain⟨ss0,ks,t1,t2,t3,t4⟩:=Zen ps;exact Zn0 (h.2 ss0 ks t1 t2 t3 t4) (ZhR (Zbi t1) t3 _ ps p rfl t2 t4)
theorem ZcE {α β:Type} (f:α->List β):∀ (l:List α) (i:Nat) (a:α) (j:Nat) (b:β),l[i]?=some a->(f a)[j]?=some b->(l.flatMap f)[(((l.take i).map fun x=>(f x).length).sum)+j]?=some b
 | [],_,_,_,_,h,_=>by simp at h
 | x::l,0,a,j,b,h,hb=>by
  cases h;have hj:=(Qn.mp hb).1;rw[Wq,R3,We,Ri,Vs,QP hj];exact hb
 | x::l,i+1,a,j,b,h,hb=>by
  rw[Wq,Vj,Qh,Qw,QQ (by omega)];have:=ZcE f l i a j b h hb;rw[show(f x).length+((l.take i).map fun x=>(f x).length).sum+j-(f x).length=((l.take i).map fun x=>(f x).length).sum+j by omega];exact this
def Srt (l:List (List Nat)):Prop:=l.Pairwise (· < ·)
theorem Znb {l m:List (List Nat)} (h1:Srt l) (h2:Srt m) (h:∀ a∈l,∀ b∈m,a<b):Srt (l++m):=Vc.mpr ⟨h1,h2,h⟩
theorem ZbL {α:Type} {f:α->List (List Nat)}:∀ l:List α,(∀ x∈l,Srt (f x))->l.Pairwise (fun x y=>∀ a∈f x,∀ b∈f y,a<b)->Srt (l.flatMap f)
 | [],_,_=>List.Pairwise.nil
 | x::l,h1,h2=>by
  obtain⟨h3,h4⟩:=Wp.mp h2;rw[Wq];refine Znb (h1 x Qi) (ZbL l (fun y hy=>h1 y (Ql _ hy)) h4) fun a ha b hb=>?_;obtain⟨y,hy,hb⟩:=VI.mp hb;exact h3 y hy a ha b hb
theorem Zh5 {g:List Nat->List Nat} (hg:∀ a b,a<b->g a<g b) {l:List (List Nat)} (h:Srt l):Srt (l.map g):=QR.mpr (List.Pairwise.imp (hg _ _) h)
theorem Zh7 {l:List (List Nat)} (h:Srt l) {a b:List Nat} (ha:l[i]?=some a) (hb:l[j]?=some b):i<j↔a<b:=by
 have key:∀ {i j:Nat} {a b:List Nat},l[i]?=some a->l[j]?=some b->i<j->a<b:=fun {i j a b} ha hb hij=>by
  obtain⟨hi,rfl⟩:=Qn.mp ha;obtain⟨hj,rfl⟩:=Qn.mp hb;exact WR.mp h i j hi hj hij
 refine⟨key ha hb,fun hab=>?_⟩;false_or_by_contra;rename_i c;by_cases e:i=j
 ·subst e;rw[ha]at hb;cases hb;exact Wm _ hab
 ·exact Wm _ (U7 hab (key hb ha (by omega)))
theorem Zh6 {l:List (List Nat)} (h:Srt l) {a:List Nat} (ha:l[i]?=some a) (hb:l[j]?=some a):i=j:=by
 have h1:=(Zh7 h ha hb).mp;have h2:=(Zh7 h hb ha).mp;false_or_by_contra;by_cases c:i<j
 ·exact Wm _ (h1 c)
 ·exact Wm _ (h2 (by omega))
theorem YJ (h:1<=x.length):x.cps.toList=(bg x).cps.toList++[ls x]:=by
 have hl:x.cps.toList.length=x.length:=ZD x;unfold bg ls;rw[YH];have hne:x.cps.toList≠[]:=fun z=>by rw[z]at hl;simp at hl;omega
 conv=>lhs;rw[←List.dropLast_concat_getLast hne]
 congr 1;rw[List.getLast_eq_getElem,Qb,Qa (show x.length-1<x.cps.toList.length by omega)];simp[hl]
theorem Zqq {y:Str} (hx:1<=x.length) (hy:1<=y.length) (hb:bg x=bg y):x.cps.toList<y.cps.toList↔ls x<ls y:=by
 rw[YJ hx,YJ hy,hb];generalize (bg y).cps.toList=z;induction z with
 | nil =>
  rw[Rh,Rh,WF];constructor
  ·rintro(h | ⟨_,h⟩)
   ·exact h
   ·exact absurd h (Wm _)
  ·exact .inl
 | cons c z ih =>
  rw[UM,UM,WF];constructor
  ·rintro(h | ⟨_,h⟩)
   ·omega
   ·exact ih.mp h
  ·exact fun h=>.inr ⟨rfl,ih.mpr h⟩
def Lng (ps:List Str):Prop:=∀ x∈ps,1<=x.length
theorem Lng.erase (h:Lng ps) (x:Str):Lng (ps.erase x):=fun y hy=>h y (Wy hy)
theorem ZkU (ps:List Str) (p:Str):((YG ps p).map fun x=>x.cps.toList).Pairwise (· < ·):=by
 have h:=YZ ps;rw[QR]at h ⊢;exact h.sublist (Ru)
theorem Zi2 (hL:Lng ps) (p:Str):((YG ps p).map ls).Pairwise (· < ·):=by
 have h:=ZkU ps p;rw[QR]at h ⊢;refine List.Pairwise.imp_of_mem (fun {x y} hx hy hxy=>?_) h;obtain⟨x1,x2⟩:=outK_mem.mp hx;obtain⟨y1,y2⟩:=outK_mem.mp hy;exact(Zqq (hL x x1) (hL y y1) (x2.trans y2.symm)).mp hxy
theorem ZhO:∀ (n:Nat) (ps:List Str) (p:Str),ps.length=n->Lng ps->Srt (tl ps p)
 | 0,ps,p,hl,_=>by
  rw[QU.mp hl];exact List.pairwise_singleton _ _
 | n+1,ps,p,hl,hL=>by
  have hne:ps≠[]:=fun z=>by rw[z]at hl;cases hl
  rw[Yu hne];refine ZbL _ (fun k hk=>Zh5 (fun a b hab=>WF.mpr (.inr ⟨rfl,hab⟩)) (ZhO n _ _ ?_ (hL.erase k))) ?_
  ·rw[QW (outK_mem.mp hk).1,hl];rfl
  ·have h:=Zi2 hL p;rw[QR]at h;refine List.Pairwise.imp (fun {x y} hxy a ha b hb=>?_) h;obtain⟨t,_,rfl⟩:=Qj.mp ha;obtain⟨u,_,rfl⟩:=Qj.mp hb;exact WF.mpr (.inl hxy)
noncomputable def txs (ss ps:List Str):List (List Nat):=ss.flatMap fun p=>(tl ps p).map fun t=>p.cps.toList++t
theorem ZpP {a:List Nat} {t u:List Nat} (h:t<u):a++t<a++u:=by
 induction a with
 | nil=>exact h
 | cons c a ih=>exact WF.mpr (.inr ⟨rfl,ih⟩)
theorem Zmt:∀ {a b t u:List Nat},a.length=b.length->a<b->a++t<b++u
 | [],[],_,_,_,h=>absurd h (Wm _)
 | c::a,d::b,t,u,hl,h=>by
  rw[UM,UM];rw[WF]at h ⊢;rcases h with h | ⟨h1,h2⟩
  ·exact .inl h
  ·exact .inr ⟨h1,Zmt (by simpa using hl) h2⟩
theorem ZmT (hs:(ss.map fun x=>x.cps.toList).Pairwise (· < ·)) (hL:∀ p∈ss,p.length=L) (hP:Lng ps):Srt (txs ss ps):=by
 unfold txs;refine ZbL _ (fun p _=>Zh5 (fun a b hab=>ZpP hab) (ZhO _ ps p rfl hP)) ?_;rw[QR]at hs;refine List.Pairwise.imp_of_mem (fun {x y} hx hy hxy a ha b hb=>?_) hs;obtain⟨t,_,rfl⟩:=Qj.mp ha;obtain⟨u,_,rfl⟩:=Qj.mp hb;refine Zmt ?_ hxy;rw[ZD,ZD,hL x hx,hL y hy]
theorem ZmV (ss ps:List Str):((txs ss ps).length:Int)=(ss.map fun p=>((tl ps p).length:Int)).sum:=by
 unfold txs;rw[ZcD];congr 1;exact Qu fun x _=>by rw[Qc]
def Zmi {α:Type}:List (α×Int)->Int->Option (α×Int)
 | [],_=>none
 | (a,m)::l,n=>if n<m then some (a,n)else Zmi l (n-m)
theorem ZaG {α β γ:Type} (g:β->α) (f:β->List γ):∀ (l:List β) (n:Nat) (b:γ),(l.flatMap f)[n]?=some b->∃ (x:β) (j:Nat),x∈l/\Zmi (l.map fun x=>(g x,((f x).length:Int))) (n:Int)=some (g x,(j:Int))/\(f x)[j]?=some b
 | [],_,_,h=>by simp at h
 | x::l,n,b,h=>by
  rw[Wq]at h;rw[Qh,Zmi];by_cases c:n<(f x).length
  ·rw[if_pos (by omega)];rw[QP c]at h;exact⟨x,n,Qi,rfl,h⟩
  ·rw[if_neg (by omega)];rw[QQ (by omega)]at h;obtain⟨y,j,h1,h2,h3⟩:=ZaG g f l (n-(f x).length) b h;refine⟨y,j,Ql _ h1,?_,h3⟩;rw[←h2];congr 1;omega
theorem JL {α β:Type} (lt:α->α->Bool) (g:β->α) (m:β->Int):∀ (l:List β) (i:Nat) (x:β),l[i]?=some x->(l.map g).Pairwise (fun a b=>lt a b=true/\lt b a=false)->lt (g x) (g x)=false->((l.filter fun y=>lt (g y) (g x)).map m).sum=((l.take i).map m).sum
 | [],_,_,h,_,_=>by simp at h
 | y::l,0,x,h,hp,hi=>by
  cases h;rw[Qh,Wp]at hp;rw[Wd (by rw[hi];decide),WC.mpr]
  ·rfl
  ·intro z hz;rw[(hp.1 (g z) (Qj.mpr ⟨z,hz,rfl⟩)).2];decide
 | y::l,i+1,x,h,hp,hi=>by
  rw[Qh,Wp]at hp;have hx:x∈l:=WI h;rw[Wc (p:=fun y=>lt (g y) (g x)) (a:=y) (l:=l) ((hp.1 (g x) (Qj.mpr ⟨x,hx,rfl⟩)).1),Qh,Qw,JL lt g m l i x h hp.2 hi,Vj,Qh,Qw]
abbrev ZbY:Stmt:=top 38
theorem ZjO {hp:List Pr} (h:Zz ps hp):(hp.map fun p=>((Sum.inr p.1:Key),V.int p.2))=gD (hp.map (·.1)) fun x=>(ps.count x:Int):=by
 unfold gD;rw[QC];exact Qu fun p m=>by rw[h.cnt p m];rfl
theorem Zlo {ks:List Str} {g:Str->Int} (h:ks.Nodup):((gD ks g).map (·.1)).Nodup:=by
 unfold gD;rw[QC];exact QR.mpr (h.imp fun {a b} q e=>q (by
  have e':(Sum.inr a:Key)=Sum.inr b:=e;injection e'))
theorem ZdQ {ks:List Str} {g:Str->Int} (hperm:ss.Perm ks) (hsrt:(ss.map fun x=>x.cps.toList).Pairwise (· < ·)) (hm:∀ x,x∈ks↔x∈ps) (hg:∀ x∈ks,g x=ps.count x):Zz ps (ss.map fun x=>(x,g x)):=by
 refine⟨?_,fun x=>?_,fun p m=>?_⟩
 ·rw[QC];exact hsrt
 ·rw[QC];have:ss.map ((·.1) ∘ fun x=>(x,g x))=ss:=by
   conv=>rhs;rw[←U5 ss]
   exact Qu fun _ _=>rfl
  rw[this,hperm.mem_iff,hm]
 ·obtain⟨x,mx,rfl⟩:=Qj.mp m;exact hg x (hperm.mem_iff.mp mx)
theorem Zlr {v:V} {hp:List Pr} (h:HpAt H v hp):∃ a xs,v= .ref a/\H a=some (.tup xs)/\xs.length=hp.length/\∀ (i:Nat) p,hp[i]?=some p->∃ b,xs[i]?=some (.ref b)/\H b=some (.tup [.str p.1,.int p.2]):=by
 obtain⟨a,xs,rfl,ha,hl,hr⟩:=h;refine⟨a,xs,rfl,ha,hl,fun i p e=>?_⟩;obtain⟨b,e1,e2⟩:=hr i p e;have hi:i<xs.length:=by rw[hl];exact(Qn.mp e).1
 rw[Qb,Qa hi]at e1;exact⟨b,by rw[Qa hi];exact congrArg some e1,e2⟩
abbrev Zk9:List Str:=["H","piece","manys"]
theorem scLessOne:Zo Zk9 ["H","piece"] (Zf ZbY):=⟨rfl,rfl,rfl,by decide +kernel,rfl,by decide +kernel,by decide +kernel⟩
def ZbN (C:Addr):Sp:=fun vs H Q E=>∃ (v:V) (hp:List Pr) (ps:List Str) (x:Str),vs=[v,.str x]/\HpAt H v hp/\Zz ps hp/\hp.length<=63 /\
 ((x∉ps/\∀ H',Same H H'->E (.ref C) none H')\/(x∈ps/\∀ v' H' hp',Same H H'->HpAt H' v' hp'->Zz (ps.erase x) hp'->Q v' H'))
theorem ZeM {bm:List Value} (D:HasDef K mg "less_one" ZbY ["H","piece"]) (B:Blt mg) (Bd:mg "dict" = none) (c:XCls K mg "NoPiece" C bm) (g27_:FOk P w K mg base 4 "in_rows" ["manys"] Zib):FOkX P w K mg base 5 "less_one" ["H","piece"] (ZbN C):=by
 refine D.okX scLessOne (fun vs H Q E h=>?_) (fun f cdv A outer s vs H Q E L hr h=>?_)
 ·obtain⟨v,hp,ps,x,rfl,_⟩:=h;rfl
 ·obtain⟨v,hp,ps,x,rfl,hA,hO,hl,h⟩:=h;have hu:=Ze0 hr;refine⟨_,(Zc (Zj (i:=2) scLessOne.nd rfl (.inl rfl) (ZC (Zfd rfl) rfl Bd ZpL (Za (pv 0) Ze)))
   (Zc (Z3 (Zmg (Zdm hu (pv 1) (pv 2))) (Zh (ZfS L c rfl (Za ZaH Ze))) Zy)
   (Zc (XS hu (pv 2) (pv 1) (Zn Yz (Zcb hu (pv 2) (pv 1) (fun _ _=>rfl)) Zg) rfl)
   (ZiO (Z3 (Zs XH (Zcb hu (pv 2) (pv 1) (fun _ _=>rfl)) Zg (Zx _)) (Zh (Yx (ZkT (pv 2) (pv 1) ⟨rfl,rfl,rfl,rfl⟩))) Zy)
   (Zh (Zp (Zq g27_ hr (Za (pv 2) Ze)))))))),?_⟩
  have one:(1:Nat)<=sizeLine:=by rw[sizeLine_eq];decide
  obtain⟨a,xs,rfl,ha,hlx,hq⟩:=Zlr hA;refine⟨_,rfl,a,xs,hp.map fun p=>((Sum.inr p.1:Key),V.int p.2),rfl,.inr ha,by rw[Qc];exact hlx,fun i q e=>?_,?_,fun d hd=>?_⟩
  ·rw[Qd]at e;cases ep:hp[i]? with
   | none=>rw[ep]at e;cases e
   | some p=>rw[ep]at e;cases e;exact hq i p ep
  ·rw[ZjO hO];exact Zlo (ZaV hO)
  rw[ZjO hO];have sd:=Zb (o:=.dK (gD (hp.map (·.1)) fun x=>(ps.count x:Int))) hd;have nd:=ZaV hO;have hm:=hO.mem;generalize hks:hp.map (·.1)=ks at sd nd hm;have hkl:ks.length<=63:=by rw[←hks,Qc];exact hl
  have hdd:(upd H d (.dK (gD ks fun x=>(ps.count x:Int)))) d=some (.dK (gD ks fun x=>(ps.count x:Int))):=Zd;refine⟨_,rfl,_,rfl,d,_,rfl,DGet.kk (k:=Sum.inr x) hdd,_,rfl,?_⟩;rw[Zbv];rcases h with ⟨hx,kE⟩ | ⟨hx,k⟩
  ·rw[if_neg fun q=>hx ((hm x).mp q)];exact Zqt ⟨one,kE _ sd⟩
  ·have hxk:=(hm x).mpr hx;rw[if_pos hxk];refine ZpW ?_;have dg:DGet (upd H d (.dK (gD ks fun x=>(ps.count x:Int)))) d (.str x) (some (.int (ps.count x))):=by
    have:=DGet.kk (k:=Sum.inr x) hdd;rw[Zbv,if_pos hxk]at this;exact this
   refine⟨_,rfl,_,rfl,d,_,rfl,dg,_,_,rfl,rfl,_,rfl,_,rfl,d,_,rfl,DPut.kk (k:=Sum.inr x) hdd ?_,?_⟩
   ·rw[Zbw];exact ZM (by omega)
   dsimp only;rw[Zgr,if_pos hxk];have cpos:1<=ps.count x:=UZ.mpr hx;have s2:Same H (upd (upd H d (.dK (gD ks fun x=>(ps.count x:Int)))) d (.dK (gD ks fun y=>if y=x then (ps.count x:Int)-1 else (ps.count y:Int)))):=JP sd hd;generalize hH2:upd (upd H d (.dK (gD ks fun x=>(ps.count x:Int)))) d (.dK (gD ks fun y=>if y=x then (ps.count x:Int)-1 else (ps.count y:Int)))=H2 at s2;have hdd2:H2 d=some (.dK (gD ks fun y=>if y=x then (ps.count x:Int)-1 else (ps.count y:Int))):=by rw[←hH2];exact Zd
   have gv2:XF (gD ks fun y=>if y=x then (ps.count x:Int)-1 else (ps.count y:Int)) (Sum.inr x)=some (.int ((ps.count x:Int)-1)):=by
    rw[Zbv,if_pos hxk,if_pos rfl]
   have cnt:∀ y,(ps.erase x).count y=if y=x then ps.count x-1 else ps.count y:=fun y=>by
    by_cases e:y=x
    ·rw[if_pos e,e,R6]
    ·rw[if_neg e,RX e]
   refine⟨fun σ' H'=>∃ (ks':List Str) (g:Str->Int),σ'=[some (.ref a),some (.str x),some (.ref d)]/\Same H H'/\ks'.Nodup/\ks'.length<=63/\(∀ y,y∈ks'↔y∈ps.erase x)/\(∀ y∈ks',g y=(ps.erase x).count y)/\H' d=some (.dK (gD ks' g)),?_,?_⟩
   ·have dg2:DGet H2 d (.str x) (some (.int ((ps.count x:Int)-1))):=by
     have:=DGet.kk (k:=Sum.inr x) hdd2;rw[gv2]at this;exact this
    refine⟨_,rfl,_,rfl,d,_,rfl,dg2,rfl,_,rfl,?_⟩;by_cases c1:ps.count x=1
    ·refine Jp (Zmz (by omega)) ?_;refine⟨_,rfl,d,rfl,.inl ⟨_,.inl hdd2⟩,_,rfl,_,Sum.inr x,_,hdd2,rfl,gv2,?_⟩;rw[Zn9];have nx:x∉ps.erase x:=fun q=>by
      have:=UZ.mpr q;rw[cnt x,if_pos rfl]at this;omega
     refine⟨_,_,rfl,JP s2 hd,nd.filter _,QY (Wa _ _) hkl,fun y=>?_,fun y my=>?_,Zd⟩
     ·rw[QD,hm,decide_eq_true_eq];constructor
      ·rintro⟨q1,q2⟩;exact(WJ q2).mpr q1
      ·intro q;have ne:y≠x:=fun e=>nx (e▸q);exact⟨(WJ ne).mp q,ne⟩
     ·have ne:y≠x:=by
       rw[QD,decide_eq_true_eq]at my;exact my.2
      rw[if_neg ne,cnt y,if_neg ne]
    ·refine Xa (ZdO (by omega)) ?_;refine⟨ks,_,rfl,s2,nd,hkl,fun y=>?_,fun y my=>?_,hdd2⟩
     ·rw[hm,←UZ,←UZ,cnt y];by_cases e:y=x
      ·rw[if_pos e,e];constructor <;> intro _ <;> omega
      ·rw[if_neg e]
     ·rw[cnt y];by_cases e:y=x
      ·rw[if_pos e,if_pos e];omega
      ·rw[if_neg e,if_neg e]
   ·rintro σ' H3 ⟨ks',g,rfl,s3,nd',hl',hm',hg',hd3⟩;refine⟨_,rfl,d,ks',g,rfl,hd3,nd',by omega,fun v' H4 ss s4 hperm hsrt hA'=>?_⟩;exact k v' H4 _ (s3.trans s4) hA' (ZdQ hperm hsrt hm' hg')
structure Hv (H:Hp) (v:V) (ps:List Str) (hp:Es):Prop where
 at_:HpAt H v hp
 of:Zz ps hp
theorem Hv.same {H':Hp} {v:V} (h:Hv H v ps hp) (s:Same H H'):Hv H' v ps hp:=⟨h.at_.same s.tup,h.of⟩
theorem Zgq (hR:RowOk ps) (hO:Zz ps hp):ZcY hp:=fun p hp'=>(hR.one _ ((hO.mem p.1).mp (Qj.mpr ⟨p,hp',rfl⟩))).2
theorem Zgo (hO:Zz ps hp):hp=[]↔ps=[]:=by
 constructor
 ·rintro rfl;cases ps with
  | nil=>rfl
  | cons x ps=>exact absurd ((hO.mem x).mpr Qi) (by simp)
 ·rintro rfl;cases hp with
  | nil=>rfl
  | cons e es=>exact absurd ((hO.mem e.1).mp (Qj.mpr ⟨e,Qi,rfl⟩)) (by simp)
theorem Zgp (hR:RowOk ps) (hO:Zz ps hp):hp.length<=27:=QY (ZcB hO) hR.len
theorem ZcA (hO:Zz ps hp):hp.map (·.1)=XW ps:=by
 have h1:((hp.map (·.1)).map fun x=>x.cps.toList).Pairwise (· < ·):=by rw[QC];exact hO.srt
 have e:=Ys h1 (YZ ps) fun z=>by
  constructor
  ·intro q;obtain⟨x,hx,e⟩:=Qj.mp q;exact Qj.mpr ⟨x,(Z1 ps x).mpr ((hO.mem x).mp hx),e⟩
  ·intro q;obtain⟨x,hx,e⟩:=Qj.mp q;exact Qj.mpr ⟨x,(hO.mem x).mpr ((Z1 ps x).mp hx),e⟩
 refine Us ?_ fun i h1 h2=>?_
 ·have:=congrArg Ua e;simp only[Qc]at this ⊢;exact this
 ·have:((hp.map (·.1)).map fun x=>x.cps.toList)[i]?=((XW ps).map fun x=>x.cps.toList)[i]?:=by rw[e]
  rw[Qd (l:=hp.map (·.1)),Qd (l:=XW ps),Qa h1,Qa h2]at this;exact ZJ (Option.some.inj this)
theorem Zn3 (hO:Zz ps hp) (p:Str):(hp.filter fun e=>decide (bg e.1=p)).map (·.1)=YG ps p:=by
 unfold YG;rw[←ZcA hO,UB];rfl
theorem ZfJ {q:Addr} (h:H q=some (.tup [])):RepD H (Jj []) (.ref q):=by
 unfold Jj;rw[We,RepD];exact⟨q,[],rfl,h,by rw[RepA]⟩
theorem Zd5:ZcY []:=fun p h=>by cases h
abbrev Zb4:Stmt:=top 40
abbrev Zld:List Str:=["H","point"]
theorem ZiA:Zo Zld ["H","point"] (Zf Zb4):=⟨rfl,rfl,rfl,by decide +kernel,rfl,by decide +kernel,by decide +kernel⟩
def ZqP:Sp:=fun vs H Q _=>∃ (v:V) (ps:List Str) (hp:Es) (p:Str),vs=[v,.str p]/\Hv H v ps hp/\RowOk ps/\∀ H',Same H H'->Q (.int (tl ps p).length) H'
theorem ZeP (D:HasDef K mg "count_on" Zb4 ["H","point"]) (B:Blt mg) (g15_:FOk P w K mg base 7 "count_from" ["H","P"] Zac):FOk P w K mg base 8 "count_on" ["H","point"] ZqP:=by
 refine D.ok ZiA (fun vs H Q E h=>?_) (fun f cdv A outer s H vs Q E hr h=>?_)
 ·obtain⟨v,ps,hp,p,rfl,_⟩:=h;rfl
 ·obtain⟨v,ps,hp,p,rfl,hV,hR,k⟩:=h;refine⟨_,(Zc (Z3 (Zs (Zi5 hr.units) (pv 0) (YW Ze) (Zx _)) (Zh (Zp Zg)) Zy)
   (Zh (Zp (Zq g15_ hr (Za (pv 0) (Za (pv 1) Ze)))))),?_⟩
  refine⟨_,rfl,QO _,fun p0 hp0=>?_⟩;have s0:=Zb (o:=.tup []) hp0;refine⟨Jj hp,Jj [],ZfM (hV.same s0).at_,ZfJ Zd,Y2 (Zgq hR hV.of),Y2 Zd5,_,rfl,?_⟩;rw[ZdW];refine ZcZ (fun c=>?_) (fun c=>?_)
  ·have e:=(Zgo hV.of).mp (of_decide_eq_true c);have h1:(1:Int)=(tl ps p).length:=by rw[e,Zfs];rfl
   rw[h1];exact k _ s0
  ·have hne:ps≠[]:=fun z=>c (decide_eq_true ((Zgo hV.of).mpr z));obtain⟨e,es,rfl,hRw⟩:=ZkL hR hne (hV.same s0).at_ hV.of;exact⟨_,rfl,_,rfl,v,ps,e,es,p,rfl,hRw,fun H2 n s2 hn=>by rw[ZlW ps p n hn];exact k _ (s0.trans s2)⟩
abbrev Yg:Stmt:=top 42
abbrev XM:List Str:=["H"]
theorem Zax:Zo XM ["H"] (Zf Yg):=⟨rfl,rfl,rfl,by decide +kernel,rfl,by decide +kernel,by decide +kernel⟩
def LsP (H:Hp) (a:Addr) (es:Es):Prop:=∃ vs,H a=some (.lst vs)/\PA H vs es
theorem LsP.same {H':Hp} {a:Addr} {es:Es} (h:LsP H a es) (s:Same H H'):LsP H' a es:=by
 obtain⟨vs,h1,h2⟩:=h;exact⟨vs,s _ _ h1,h2.same s.tup⟩
noncomputable def cPt (ss ps:List Str):Es:=ss.map fun p=>(p,((tl ps p).length:Int))
noncomputable def cSg (ps:List Str) (p:Str):Es:=(YG ps p).map fun k=>(tx [ls k],((tl (ps.erase k) (en k)).length:Int))
def Zik:Sp:=fun vs H Q _=>∃ (v:V) (ps:List Str) (e:Str×Int) (es:Es),vs=[v]/\Rw H v ps e es/\∀ H' (a:Addr) ss,Same H H'->SPts (e::es) ss->LsP H' a (cPt ss ps)->Q (.ref a) H'
theorem Je (D:HasDef K mg "counts_by_point" Yg ["H"]) (B:Blt mg) (g40_:FOk P w K mg base 7 "points_of" ["H"] Xy) (g15_:FOk P w K mg base 7 "count_from" ["H","P"] Zac):FOk P w K mg base 8 "counts_by_point" ["H"] Zik:=by
 refine D.ok Zax (fun vs H Q E h=>?_) (fun f cdv A outer s H vs Q E hr h=>?_)
 ·obtain⟨v,ps,e,es,rfl,_⟩:=h;rfl
 ·obtain⟨v,ps,e,es,rfl,hR,k⟩:=h;refine⟨_,(Zh (Zp (ZH (Zf Yg) XM ["point"] [0] rfl (Yy (Zq g40_ hr (Za (pv 0) Ze))) (fun _ _ _ _ _=>Z0 0) (fun _ _ _ _ _=>ZR) (fun _ _ _ _ _=>(YW (Za (pv 0) (Za (Zq g15_ hr (Za (pv 1) (Za (pv 0) Ze))) Ze))))))),?_⟩;refine⟨_,rfl,v,e::es,rfl,hR.hV,hR.hF,fun v1 H1 ss s1 hT hS=>?_⟩;have hsl:=hR.hn _ hS;obtain⟨q,rfl,hq⟩:=hT;refine⟨q,rfl,⟨_,SqT.of hq⟩,YB (ss.map V.str).length (fun i=>(ss.map V.str).getD i .non) (fun i v H=>ZgV (ss.getD i "") ((tl ps (ss.getD i "")).length) v H) (Zl (by rw[Qc];omega)) (fun i v H H' ts ⟨b,r1,r2⟩=>⟨b,r1,ts _ _ r2⟩) (JV (SqT.of hq)) ?_ ?_⟩
  ·intro i H3 Qe hi hs kq;have hi':i<ss.length:=by rw[Qc]at hi;exact hi
   rw[YD hi'];have eg:ss.getD i "" = ss[i]:=by rw[Qb,Qa hi'];rfl
   rw[eg]at kq;refine⟨_,rfl,_,rfl,_,rfl,v,ps,e,es,ss[i],rfl,hR.same (s1.trans hs),fun H4 n s4 hn=>?_⟩;refine⟨(show 2<=sizeLine by rw[sizeLine_eq];decide),fun t ht=>kq _ _ (s4.trans (Zb ht)) ⟨t,rfl,?_⟩⟩;rw[Zd,ZlW ps _ n hn]
  ·intro D1 vs1 H3 hlv1 hr1 hs3 hD1 hDl1;rw[Qc]at hlv1;refine k H3 D1 ss (s1.trans hs3) hS ⟨vs1,hDl1,?_,fun i x hx=>?_⟩
   ·unfold cPt;rw[Qc];exact hlv1
   ·unfold cPt at hx;rw[Qd]at hx;cases ex:ss[i]? with
    | none=>rw[ex]at hx;cases hx
    | some y =>
     rw[ex]at hx;cases hx;have hi:i<vs1.length:=by rw[hlv1];exact(Qn.mp ex).1
     obtain⟨b,r1,r2⟩:=hr1 i vs1[i] (Qa hi);rw[Qb,ex]at r2;exact⟨b,by rw[Qa hi,r1],r2⟩
abbrev Zet:Stmt:=top 43
abbrev ZnG:List Str:=["counts","number","left","choice","many"]
theorem scPicked:Zo ZnG ["counts","number"] (Zf Zet):=⟨rfl,rfl,rfl,by decide +kernel,rfl,by decide +kernel,by decide +kernel⟩
def ZfB:Sp:=fun vs H Q _=>∃ (a:Addr) (es:Es) (n:Int) (c:Str) (j:Int),vs=[.ref a,.int n]/\LsP H a es/\Zmi es n=some (c,j)/\∀ H' b,Same H H'->H' b=some (.tup [.str c,.int j])->Q (.ref b) H'
theorem Zi9 (D:HasDef K mg "picked" Zet ["counts","number"]):FOk P w K mg base 1 "picked" ["counts","number"] ZfB:=by
 refine D.ok scPicked (fun vs H Q E h=>?_) (fun f cdv A outer s H vs Q E hr h=>?_)
 ·obtain⟨a,es,n,c,j,rfl,_⟩:=h;rfl
 ·obtain⟨a,es,n,c,j,rfl,⟨vs,ha,hpa⟩,hp,k⟩:=h;refine⟨_,(Zc (Zj (i:=2) scPicked.nd rfl (.inl rfl) (pv 1))
   (Zc (ZY PassesOwn.never rfl (ZU (pv 0)) (Z5 2 K rfl (Zu (ZB (i:=3) scPicked.nd rfl (.inl rfl)) (Zu (ZB (i:=4) scPicked.nd rfl (.inl rfl)) Z4)))
    (Zc (Z3 (Zs ZkW (pv 2) (pv 4) (Zx _)) (Zh (Zp (YW (Za (pv 3) (Za (pv 2) Ze))))) Zy)
   (Zh (Zj (i:=2) scPicked.nd rfl (.inl rfl) (Zn Yz (pv 2) (pv 4))))))
   (Zh (Zp Zdk)))),?_⟩
  refine⟨_,rfl,_,rfl,a,rfl,⟨_,SqL.of ha⟩,YK (K:=K) (a:=a) (xs:=vs) (fun i σ H2=>H2=H/\∃ (m:Int) (z3 z4:Option V),σ=[some (.ref a),some (.int n),some (.int m),z3,z4]/\Zmi (es.drop i) m=some (c,j))
   ⟨rfl,n,none,none,rfl,hp⟩ (fun i σ H2 _ ⟨e,_⟩=>by rw[e];exact SqL.of ha) ?_ ?_⟩
  ·rintro i x σ H2 hi ⟨rfl,m,z3,z4,rfl,hpk⟩;have hiv:i<vs.length:=(Qn.mp hi).1;have hie:i<es.length:=by rw[←hpa.1];exact hiv
   obtain⟨b,e1,e2⟩:=hpa.2 i es[i] (Qa hie);rw[hi]at e1;cases e1;rw[Ww hie]at hpk;generalize es[i]=g at *;obtain⟨g1,g2⟩:=g;rw[Zmi]at hpk;refine⟨b,_,rfl,SqT.of e2,rfl,_,_,rfl,_,_,rfl,rfl,?_⟩;refine⟨_,rfl,_,rfl,_,_,rfl,rfl,_,rfl,ZcZ (fun cc=>?_) (fun cc=>?_)⟩
   ·have c1:=of_decide_eq_true cc;rw[if_pos c1]at hpk;cases hpk;exact⟨_,rfl,_,rfl,(show 2<=sizeLine by rw[sizeLine_eq];decide),fun t ht=>k _ t (Zb ht) Zd⟩
   ·have c1:=of_decide_eq_false (Uk.mpr cc);rw[if_neg c1]at hpk;exact⟨_,rfl,_,rfl,_,_,rfl,rfl,rfl,m-g2,_,_,rfl,hpk⟩
  ·rintro σ H2 ⟨rfl,m,z3,z4,rfl,hpk⟩;rw[hpa.1,RM]at hpk;cases hpk
abbrev Y4:Stmt:=top 45
abbrev ZaO:List Str:=["counts","chosen"]
theorem Zdb:Zo ZaO ["counts","chosen"] (Zf Y4):=⟨rfl,rfl,rfl,by decide +kernel,rfl,by decide +kernel,by decide +kernel⟩
def ZdG (a b:Str):Bool:=decide (a.cps.toList<b.cps.toList)
def Zil:Sp:=fun vs H Q _=>∃ (a:Addr) (es:Es) (c:Str),vs=[.ref a,.str c]/\LsP H a es/\es.length<=1000/\∀ H',Same H H'->Q (.int ((es.filter fun e=>ZdG e.1 c).map (·.2)).sum) H'
theorem Za9 (D:HasDef K mg "count_ahead" Y4 ["counts","chosen"]) (B:Blt mg):FOk P w K mg base 1 "count_ahead" ["counts","chosen"] Zil:=by
 refine D.ok Zdb (fun vs H Q E h=>?_) (fun f cdv A outer s H vs Q E hr h=>?_)
 ·obtain⟨a,es,c,rfl,_⟩:=h;rfl
 ·obtain⟨a,es,c,rfl,⟨vs,ha,hpa⟩,hes,k⟩:=h;refine⟨_,(Zh (Zp (Zk (Zd8 rfl) rfl B.sum ZlL (Za (ZH (Zf Y4) ZaO ["choice","many"] [1] rfl (ZU (pv 0)) (fun _ _ _ _ _=>Z5 2 K rfl (Zu (Z0 0) (Zu (Z0 1) Z4))) (fun _ _ _ _ _=>pcs_one (Zs Zi4 (pv 0) (pv 2) (Zx _))) (fun _ _ _ _ _=>(pv 1))) Ze)))),?_⟩;have hvl:=hpa.1;refine⟨_,rfl,a,rfl,⟨_,SqL.of ha⟩,ZaR vs.length (fun i=>vs.getD i .non) (fun i=>(fun e:Str×Int=>ZdG e.1 c) (es.getD i ("",0))) (fun i v _=>v= .int (es.getD i ("",0)).2) (Zl (by omega)) (fun _ _ _ _ _ r=>r) (YM (SqL.of ha)) ?_ ?_⟩
  ·intro i H3 Qt Qf hi hs ht hf;have hie:i<es.length:=by omega
   obtain⟨b,e1,e2⟩:=hpa.2 i es[i] (Qa hie);have ev:vs.getD i .non= .ref b:=by rw[Qb,e1];rfl
   have ee:es.getD i ("",0)=es[i]:=by rw[Qb,Qa hie];rfl
   rw[ee]at ht hf;rw[ev];refine⟨b,_,rfl,SqT.of (hs _ _ e2),rfl,_,_,rfl,_,_,rfl,rfl,_,rfl,_,rfl,_,_,rfl,rfl,_,rfl,?_⟩;cases cc:ZdG es[i].1 c with
   | true=>exact Jp cc ⟨_,rfl,ht cc _ _ (Same.refl _) rfl⟩
   | false=>exact Xa cc (hf cc _ (Same.refl _))
  intro D2 vs2 H16 hl2 hR2 s16 hD2 hDl2;rw[Zgl (p:=fun e=>ZdG e.1 c) hvl hl2 hR2]at hDl2;exact⟨D2,_,rfl,SqL.of hDl2,k _ s16⟩
theorem ZpF {p:Str}:cSg ps p=(YG ps p).map fun k=>(tx [ls k],(((tl (ps.erase k) (en k)).map fun t=>ls k::t).length:Int)):=by
 unfold cSg;exact Qu fun k _=>by rw[Qc]
theorem ZpG:cPt ss ps=ss.map fun p=>(p,(((tl ps p).map fun t=>p.cps.toList++t).length:Int)):=by
 unfold cPt;exact Qu fun k _=>by rw[Qc]
theorem Zh3 {p:Str} {t:List Nat} (hne:ps≠[]) (h:(tl ps p)[j]?=some t):∃ (k:Str) (j':Nat) (t':List Nat),k∈YG ps p/\Zmi (cSg ps p) (j:Int)=some (tx [ls k],(j':Int))/\(tl (ps.erase k) (en k))[j']?=some t'/\t=ls k::t':=by
 rw[Yu hne]at h;obtain⟨k,j',h1,h2,h3⟩:=ZaG (fun k=>tx [ls k]) (fun k=>(tl (ps.erase k) (en k)).map fun t=>ls k::t) (YG ps p) j t h;rw[Qd]at h3;cases e:(tl (ps.erase k) (en k))[j']? with
 | none=>rw[e]at h3;cases h3
 | some t' =>
  rw[e]at h3;exact⟨k,j',t',h1,by rw[ZpF];exact h2,e,(Option.some.inj h3).symm⟩
theorem Zbh {t:List Nat} (h:(txs ss ps)[n]?=some t):∃ (p:Str) (j:Nat) (t':List Nat),p∈ss/\Zmi (cPt ss ps) (n:Int)=some (p,(j:Int))/\(tl ps p)[j]?=some t'/\t=p.cps.toList++t':=by
 unfold txs at h;obtain⟨p,j',h1,h2,h3⟩:=ZaG (fun p=>p) (fun p=>(tl ps p).map fun t=>p.cps.toList++t) ss n t h;rw[Qd]at h3;cases e:(tl ps p)[j']? with
 | none=>rw[e]at h3;cases h3
 | some t' =>
  rw[e]at h3;exact⟨p,j',t',h1,by rw[ZpG];exact h2,e,(Option.some.inj h3).symm⟩
theorem ZbJ {α:Type} (f:α->Nat):∀ l:List α,((l.map f).sum:Int)=(l.map fun x=>(f x:Int)).sum
 | []=>rfl
 | x::l=>by rw[Qh,Qh,Qw,Qw,←ZbJ f l];push_cast;rfl
theorem lt_one {a b:Nat}:([a]:List Nat)<[b]↔a<b:=by
 rw[WF];exact⟨fun h=>h.elim id fun h=>absurd h.2 (Wm _),.inl⟩
theorem Zhu {k:Str} {t:List Nat} (hL:Lng ps) (hk:k∈ps) (h:(tl (ps.erase k) (en k))[j]?=some t):∃ m:Nat,(((cSg ps (bg k)).filter fun e=>ZdG e.1 (tx [ls k])).map (·.2)).sum=(m:Int)/\(tl ps (bg k))[m+j]?=some (ls k::t):=by
 have hne:ps≠[]:=List.ne_nil_of_mem hk;obtain⟨i,hi,ei⟩:=Uu (outK_mem.mpr ⟨hk,rfl⟩:k∈YG ps (bg k));have hi':(YG ps (bg k))[i]?=some k:=by rw[Qa hi,ei]
 have hord:=Zi2 hL (bg k);have hlt:∀ a b:Str,ZdG (tx [ls a]) (tx [ls b])=decide (ls a<ls b):=fun a b=>by
  unfold ZdG;rw[YH,YH];exact decide_eq_decide.mpr lt_one
 have ha:=JL (fun a b:Str=>ZdG a b) (fun k:Str=>tx [ls k]) (fun k=>((tl (ps.erase k) (en k)).length:Int)) (YG ps (bg k)) i k hi' (by
  rw[QR]at hord ⊢;refine List.Pairwise.imp (fun {a b} hab=>?_) hord;rw[hlt,hlt];exact⟨decide_eq_true hab,decide_eq_false (by omega)⟩) (by rw[hlt];exact decide_eq_false (Wi _))
 have e1:(((cSg ps (bg k)).filter fun e=>ZdG e.1 (tx [ls k])).map (·.2)).sum=(((YG ps (bg k)).filter fun y=>ZdG (tx [ls y]) (tx [ls k])).map fun k=>((tl (ps.erase k) (en k)).length:Int)).sum:=by
  unfold cSg;rw[UB,QC];rfl
 refine⟨(((YG ps (bg k)).take i).map fun k=>(tl (ps.erase k) (en k)).length).sum,?_,?_⟩
 ·rw[e1,ha,ZbJ]
 ·rw[Yu hne];have:=ZcE (fun k=>(tl (ps.erase k) (en k)).map fun t=>ls k::t) (YG ps (bg k)) i k j (ls k::t) hi' (by rw[Qd,h];rfl);have e2:(((YG ps (bg k)).take i).map fun x=>((tl (ps.erase x) (en x)).map fun t=>ls x::t).length)=((YG ps (bg k)).take i).map fun k=>(tl (ps.erase k) (en k)).length:=Qu fun x _=>by rw[Qc]
  rw[e2]at this;exact this
theorem Zfh {p:Str} {t:List Nat} (hs:(ss.map fun x=>x.cps.toList).Pairwise (· < ·)) (hp:p∈ss) (h:(tl ps p)[j]?=some t):∃ m:Nat,(((cPt ss ps).filter fun e=>ZdG e.1 p).map (·.2)).sum=(m:Int)/\(txs ss ps)[m+j]?=some (p.cps.toList++t):=by
 obtain⟨i,hi,ei⟩:=Uu hp;have hi':ss[i]?=some p:=by rw[Qa hi,ei]
 have ha:=JL (fun a b:Str=>ZdG a b) (fun k:Str=>k) (fun k=>((tl ps k).length:Int)) ss i p hi' (by
  rw[QR]at hs ⊢;refine List.Pairwise.imp (fun {a b} hab=>?_) hs;exact⟨decide_eq_true hab,decide_eq_false (Ve hab)⟩) (decide_eq_false (Wm _))
 have e1:(((cPt ss ps).filter fun e=>ZdG e.1 p).map (·.2)).sum=((ss.filter fun y=>ZdG y p).map fun k=>((tl ps k).length:Int)).sum:=by
  unfold cPt;rw[UB,QC];rfl
 refine⟨((ss.take i).map fun k=>(tl ps k).length).sum,?_,?_⟩
 ·rw[e1,ha,ZbJ]
 ·unfold txs;have:=ZcE (fun p=>(tl ps p).map fun t=>p.cps.toList++t) ss i p j (p.cps.toList++t) hi' (by rw[Qd,h];rfl);have e2:((ss.take i).map fun p=>((tl ps p).map fun t=>p.cps.toList++t).length)=(ss.take i).map fun k=>(tl ps k).length:=Qu fun x _=>by rw[Qc]
  rw[e2]at this;exact this
def ZpU:Str->List Str->Prop
 | _,[]=>True
 | p,w::ws=>bg w=p/\ZpU (en w) ws
noncomputable def Zmo:List Str->Int
 | []=>0
 | w::ws=>(((cSg (w::ws) (bg w)).filter fun e=>ZdG e.1 (tx [ls w])).map (·.2)).sum+Zmo ws
theorem Zmp:∀ (ws:List Str) (p:Str),ZpU p ws->Lng ws->∃ m:Nat,Zmo ws=(m:Int)/\(tl ws p)[m]?=some (ws.map ls)
 | [],p,_,_=>⟨0,rfl,rfl⟩
 | w::ws,p,hc,hL=>by
  obtain⟨h1,h2⟩:=hc;obtain⟨m,e1,e2⟩:=Zmp ws (en w) h2 fun x hx=>hL x (Ql _ hx);have e3:(w::ws).erase w=ws:=UN ..;obtain⟨m',f1,f2⟩:=Zhu (t:=ws.map ls) (j:=m) hL (Qi (a:=w) (l:=ws)) (by rw[e3];exact e2);refine⟨m'+m,?_,by rw[←h1];exact f2⟩;unfold Zmo;rw[f1,e1];push_cast;rfl
theorem ZlV:∀ (n:Nat) (ps:List Str) (p:Str) (t:List Nat),ps.length=n->t∈tl ps p->∃ ws:List Str,ws.Perm ps/\ZpU p ws/\t=ws.map ls
 | 0,ps,p,t,hl,h=>by
  have e:=QU.mp hl;subst e;rw[Zfs,Qp]at h;exact⟨[],List.Perm.refl _,trivial,h⟩
 | n+1,ps,p,t,hl,h=>by
  have hne:ps≠[]:=fun z=>by rw[z]at hl;cases hl
  rw[Yu hne]at h;obtain⟨k,hk,h⟩:=VI.mp h;obtain⟨t',ht',rfl⟩:=Qj.mp h;obtain⟨hk1,hk2⟩:=outK_mem.mp hk;obtain⟨ws,h1,h2,h3⟩:=ZlV n (ps.erase k) (en k) t' (by rw[QW hk1,hl];rfl) ht';refine⟨k::ws,?_,⟨hk2,h2⟩,by rw[h3];rfl⟩;exact(h1.cons k).trans (Q3 hk1).symm
theorem Zhf (h:ps.Perm qs):XW ps=XW qs:=by
 have e:=Ys (YZ ps) (YZ qs) fun z=>by
  constructor
  ·intro q;obtain⟨x,hx,e⟩:=Qj.mp q;exact Qj.mpr ⟨x,(Z1 qs x).mpr (h.mem_iff.mp ((Z1 ps x).mp hx)),e⟩
  ·intro q;obtain⟨x,hx,e⟩:=Qj.mp q;exact Qj.mpr ⟨x,(Z1 ps x).mpr (h.mem_iff.mpr ((Z1 qs x).mp hx)),e⟩
 refine Us ?_ fun i h1 h2=>?_
 ·have:=congrArg Ua e;simp only[Qc]at this;exact this
 ·have:((XW ps).map fun x=>x.cps.toList)[i]?=((XW qs).map fun x=>x.cps.toList)[i]?:=by rw[e]
  rw[Qd,Qd,Qa h1,Qa h2]at this;exact ZJ (Option.some.inj this)
theorem ZhP:∀ (n:Nat) (ps qs:List Str) (p:Str),ps.length=n->ps.Perm qs->tl ps p=tl qs p
 | 0,ps,qs,p,hl,h=>by
  have e:=QU.mp hl;subst e;rw[List.Perm.eq_nil h.symm]
 | n+1,ps,qs,p,hl,h=>by
  have hne:ps≠[]:=fun z=>by rw[z]at hl;cases hl
  have hne2:qs≠[]:=fun z=>by rw[z]at h;exact hne (List.Perm.eq_nil h)
  rw[Yu hne,Yu hne2];have eo:YG ps p=YG qs p:=by unfold YG;rw[Zhf h]
  rw[eo];refine XE _ fun k hk=>?_;have hk1:=h.mem_iff.mpr (outK_mem.mp hk).1;rw[ZhP n (ps.erase k) (qs.erase k) (en k) (by rw[QW hk1,hl];rfl) (h.erase k)]
theorem Zfo (h:ps.Perm qs):txs ss ps=txs ss qs:=by
 unfold txs;exact XE _ fun p _=>by rw[ZhP _ ps qs p rfl h]
theorem Zdl {L:Nat} (hL:1<=L):∀ (ws:List Str) (p:Str),ws≠[]->ZpU p ws->(∀ w∈ws,w.length=L)->p.length=L-1->(p.cps.toList++ws.map ls).length=L-1+ws.length/\pcs (p.cps.toList++ws.map ls) L=ws
 | [],_,h,_,_,_=>absurd rfl h
 | w::ws,p,_,hc,hw,hp=>by
  obtain⟨h1,h2⟩:=hc;have hwl:=hw w Qi;have hpl:p.cps.toList.length=L-1:=by rw[ZD,hp]
  have hlen:(p.cps.toList++(w::ws).map ls).length=L-1+(w::ws).length:=by rw[Qm,Qc,hpl]
  refine⟨hlen,?_⟩;have hwc:w.cps.toList=p.cps.toList++[ls w]:=by rw[YJ (by omega),h1]
  have hen:(en w).cps.toList++ws.map ls=(p.cps.toList++(w::ws).map ls).drop 1:=by
   unfold en;rw[YH,hwc,Qh];have e:p.cps.toList++ls w::ws.map ls=(p.cps.toList++[ls w])++ws.map ls:=by simp
   rw[e];have hq:1<=(p.cps.toList++[ls w]).length:=by simp
   generalize p.cps.toList++[ls w]=q at hq ⊢;rw[Rt hq]
  have htk:(p.cps.toList++(w::ws).map ls).take L=w.cps.toList:=by
   rw[hwc,Qh];have e:p.cps.toList++ls w::ws.map ls=(p.cps.toList++[ls w])++ws.map ls:=by simp
   rw[e,List.take_append_of_le_length (by rw[Qm,hpl];simp;omega),QJ (by rw[Qm,hpl];simp;omega)]
  unfold pcs;rw[hlen];have en1:L-1+(w::ws).length-L+1=ws.length+1:=by rw[QL];omega
  rw[en1,U4,Qh,U1,htk,tx_eta,QC];congr 1;cases ws with
  | nil=>rfl
  | cons w2 ws2 =>
   have henl:(en w).length=L-1:=by
    unfold en;rw[Zw,QV,ZD,hwl]
   obtain⟨i1,i2⟩:=Zdl hL (w2::ws2) (en w) (RL _ _) h2 (fun x hx=>hw x (Ql _ hx)) henl;rw[hen]at i1 i2
   conv=>rhs;rw[←i2]
   unfold pcs;have e2:(((p.cps.toList++(w::w2::ws2).map ls).drop 1).length-L+1)=(w2::ws2).length:=by rw[i1];rw[QL];omega
   rw[e2];refine Qu fun i _=>?_;show tx (((p.cps.toList++(w::w2::ws2).map ls).drop (i+1)).take L)=_;rw[U2,Vm 1 i]
theorem Jl {L:Nat} (hL:1<=L):∀ (n:Nat) (z:List Nat),z.length=L+n->ZpU (tx (z.take (L-1))) (pcs z L)/\z=z.take (L-1)++(pcs z L).map ls/\(pcs z L).length=n+1
 | n,z,hz=>by
  have hw0:pcs z L=tx (z.take L)::pcs (z.drop 1) L\/n=0:=by
   by_cases c:n=0
   ·exact .inr c
   ·left
    unfold pcs;rw[hz,show L+n-L+1=(n-1+1)+1 by omega,U4,Qh,U1,QC,QV,hz,show L+n-1-L+1=n-1+1 by omega];congr 1;refine Qu fun i _=>?_;show tx ((z.drop (i+1)).take L)=tx (((z.drop 1).drop i).take L);rw[U2,Vm 1 i]
  have hbg:bg (tx (z.take L))=tx (z.take (L-1)):=by
   unfold bg;rw[YH,UJ,QB,R4];congr 2;omega
  have hls:z.take L=z.take (L-1)++[ls (tx (z.take L))]:=by
   have h1:1<=(tx (z.take L)).length:=by rw[Zw,QB];omega
   have:=YJ h1;rw[YH,hbg,YH]at this;exact this
  rcases hw0 with e | e
  ·cases n with
   | zero =>
    exfalso;have h1:=congrArg Ua e;unfold pcs at h1;simp only[Qc,Wh,QL]at h1;rw[QV]at h1;omega
   | succ n =>
    obtain⟨i1,i2,i3⟩:=Jl hL n (z.drop 1) (by rw[QV];omega);have hen:en (tx (z.take L))=tx ((z.drop 1).take (L-1)):=by
     unfold en;rw[YH,VT]
    rw[e];refine⟨⟨hbg,by rw[hen];exact i1⟩,?_,by rw[QL,i3]⟩;rw[Qh];have e2:z.take (L-1)++ls (tx (z.take L))::(pcs (z.drop 1) L).map ls=z.take L++(pcs (z.drop 1) L).map ls:=by
     conv=>rhs;rw[hls]
     simp
    rw[e2];have e3:(pcs (z.drop 1) L).map ls=z.drop L:=by
     have h2:z.drop 1=(z.drop 1).take (L-1)++(z.drop 1).drop (L-1):=(UI _ _).symm;have h3:=i2.symm.trans h2;have h4:=List.append_cancel_left h3;rw[h4,U2];congr 1;omega
    rw[e3,UI]
  ·subst e;have e1:pcs z L=[tx (z.take L)]:=by
    unfold pcs;rw[hz,show L+0-L+1=1 by omega];rfl
   rw[e1];refine⟨⟨hbg,trivial⟩,?_,rfl⟩;have:z.take L=z:=QJ (by omega);rw[Qh,We,←hls,this]
theorem Zi0 {k:Str} (h:1<=k.length):bg k++tx [ls k]=k:=by
 have e:=YJ h;have e1:bg k=tx (bg k).cps.toList:=(tx_eta _).symm;rw[e1,JM,←e,tx_eta]
theorem ZnC (hO:Zz ps hp) (p:Str):(nxt hp p).map (·.1)=(YG ps p).map fun k=>tx [ls k]:=by
 unfold nxt;rw[←Zn3 hO,QC,QC];rfl
theorem Zez (h:RowOk ps):Lng ps:=fun x hx=>(h.one x hx).1.1
abbrev Y3:Stmt:=top 41
abbrev Zck:List Str:=["H","point","counts","sign","many","piece"]
theorem scCountsBySign:Zo Zck ["H","point"] (Zf Y3):=⟨rfl,rfl,rfl,by decide +kernel,rfl,by decide +kernel,by decide +kernel⟩
def Zij:Sp:=fun vs H Q _=>∃ (v:V) (ps:List Str) (hp:Es) (p:Str),vs=[v,.str p]/\Hv H v ps hp/\RowOk ps/\p.length<=1000/\∀ H' (a:Addr),Same H H'->LsP H' a (cSg ps p)->Q (.ref a) H'
theorem JD (D:HasDef K mg "counts_by_sign" Y3 ["H","point"]) (B:Blt mg) (g32_:FOk P w K mg base 8 "nexts_of" ["H","P"] Zid) (g29_:FOkX P w K mg base 8 "less_one" ["H","piece"] (ZbN C)) (g21_:FOk P w K mg base 8 "end_of" ["piece"] Zeq) (g17_:FOk P w K mg base 8 "count_on" ["H","point"] ZqP):FOk P w K mg base 9 "counts_by_sign" ["H","point"] Zij:=by
 refine D.ok scCountsBySign (fun vs H Q E h=>?_) (fun f cdv A outer s H vs Q E hr h=>?_)
 ·obtain⟨v,ps,hp,p,rfl,_⟩:=h;rfl
 ·obtain⟨v,ps,hp,p,rfl,hV,hR,hpl,k⟩:=h;refine⟨_,(Zc (Zj (i:=2) scCountsBySign.nd rfl (.inl rfl) (Z6 Ze))
   (Zc (ZY PassesOwn.never rfl (Yy (Zq g32_ hr (Za (pv 0) (Za (pv 1) Ze)))) (Z5 2 K rfl (Zu (ZB (i:=3) scCountsBySign.nd rfl (.inl rfl)) (Zu (ZB (i:=4) scCountsBySign.nd rfl (.inl rfl)) Z4)))
    (Zc (Zj (i:=5) scCountsBySign.nd rfl (.inl rfl) (Zn ZX (pv 1) (pv 3)))
   (Zh (Yx (Za5 F.plainAttrs_list F.slot_list_append F.type_list_append Yt (pv 2) (Za (YW (Za (pv 3) (Za (Zq g17_ hr (Za (Zbp g29_ hr (Za (pv 0) (Za (pv 5) Ze))) (Za (Zq g21_ hr (Za (pv 5) Ze)) Ze))) Ze))) Ze))))))
   (Zh (Zp (pv 2))))),?_⟩
  have hpn:=Zgp hR hV.of;have hF:Jo hp:=by
   refine⟨by omega,fun g hg=>?_,fun g hg=>(hR.one _ ((hV.of.mem g.1).mp (Qj.mpr ⟨g,hg,rfl⟩))).1⟩;have h1:=hV.of.cnt g hg;have h2:=Rr (a:=g.1) (l:=ps);have h3:=hR.len;omega
  refine⟨Zl (show 0<=1000 by decide),fun pb hpb=>?_⟩;have s1:=Zb (o:=.lst []) hpb;refine⟨_,rfl,_,rfl,v,hp,p,rfl,Zan (hV.same s1).at_,hF,fun v2 H2 s2 hN=>?_⟩;obtain⟨q,vs,rfl,hq,hpa⟩:=hN;have hon:=ZnC hV.of p;have hol:(nxt hp p).length=(YG ps p).length:=by
   have:=congrArg Ua hon;simpa using this
  have hk27:(YG ps p).length<=27:=by
   unfold YG;refine QY (Wa _ _) ?_;rw[←ZcA hV.of,Qc];exact hpn
  have s12:=s1.trans s2;refine⟨q,rfl,⟨_,SqT.of hq⟩,XY (K:=K) (a:=q) (xs:=vs) (fun i σ H3=>∃ (z3 z4 z5:Option V) (rs:List V),σ=[some v,some (.str p),some (.ref pb),z3,z4,z5]/\Same H H3/\(∀ b u,b≠pb->H2 b=some u->H3 b=some u)/\H3 pb=some (.lst rs)/\PA H3 rs ((cSg ps p).take i))
   ⟨none,none,none,[],rfl,s12,fun b u _ e=>e,s2 _ _ Zd,⟨rfl,fun i e he=>by rw[R3]at he;cases he⟩⟩ (fun i σ H3 _ ⟨_,_,_,_,_,s3,s23,_⟩=>SqT.of (s23 _ _ (fun z=>by
    have:=s2 _ _ (Zd (H:=H) (a:=pb) (o:=.lst []));rw[←z,hq]at this;cases this) hq)) ?_ ?_⟩
  ·rintro i x σ H3 hi ⟨z3,z4,z5,rs,rfl,s3,s23,hpb3,hrs⟩;have hiv:i<vs.length:=(Qn.mp hi).1;have hie:i<(nxt hp p).length:=by rw[←hpa.1];exact hiv
   have hio:i<(YG ps p).length:=by omega
   obtain⟨b,e1,e2⟩:=hpa.2 i (nxt hp p)[i] (Qa hie);rw[hi]at e1;cases e1;have hkm:=outK_mem.mp (QF hio);have ek:(nxt hp p)[i].1=tx [ls (YG ps p)[i]]:=by
    have:((nxt hp p).map (·.1))[i]?=((YG ps p).map fun k=>tx [ls k])[i]?:=by rw[hon]
    rw[Qd,Qd,Qa hie,Qa hio]at this;exact Option.some.inj this
   have ecs:(cSg ps p).take (i+1)=(cSg ps p).take i++[(tx [ls (YG ps p)[i]],((tl (ps.erase (YG ps p)[i]) (en (YG ps p)[i])).length:Int))]:=by
    have hc:(cSg ps p)[i]?=some (tx [ls (YG ps p)[i]],((tl (ps.erase (YG ps p)[i]) (en (YG ps p)[i])).length:Int)):=by
     unfold cSg;rw[Qd,Qa hio];rfl
    rw[List.take_succ,hc];rfl
   have hbp:b≠pb:=fun z=>by
    have:=s2 _ _ (Zd (H:=H) (a:=pb) (o:=.lst []));rw[←z,e2]at this;cases this
   rw[ecs];have hlc:((cSg ps p).take i).length<=27:=by
    rw[QB];unfold cSg;rw[Qc];omega
   generalize (cSg ps p).take i=tk at *;generalize (nxt hp p)[i]=g at *;generalize (YG ps p)[i]=kk at *;obtain⟨g1,g2⟩:=g;dsimp only at ek;subst ek;obtain⟨km,kb⟩:=hkm;have kl:=(hR.one _ km).1;refine⟨b,_,rfl,SqT.of (s23 _ _ hbp e2),rfl,_,_,rfl,_,_,rfl,rfl,?_⟩;refine⟨_,rfl,_,rfl,_,_,rfl,rfl,?_,?_⟩
   ·rw[Zw];exact Zv (by simp;omega)
   rw[←kb,Zi0 kl.1];refine⟨_,rfl,.inl ⟨rfl,_,SqL.of hpb3⟩,?_⟩;refine⟨_,rfl,_,rfl,_,rfl,v,hp,ps,kk,rfl,(hV.same s3).at_,hV.of,by omega,.inr ⟨km,fun v4 H4 hp4 s4 hA4 hO4=>?_⟩⟩;refine⟨_,rfl,kk,rfl,kl.1,kl.2,?_⟩;refine⟨v4,ps.erase kk,hp4,en kk,rfl,⟨hA4,hO4⟩,hR.sub (fun y hy=>Wy hy) (Vd),fun H5 s5=>?_⟩;refine⟨(show 2<=sizeLine by rw[sizeLine_eq];decide),fun t ht=>?_⟩;have s45:=s4.trans s5;have hpb5:=s45 _ _ hpb3;have htp:t≠pb:=fun z=>by rw[z,hpb5]at ht;cases ht
   refine⟨pb,rs,.ref t,rfl,rfl,by rw[Zi (Ne.symm htp)];exact hpb5,ZM (by have:=hrs.1;omega),?_⟩;have s6:=Zb (o:=.tup [.str (tx [ls kk]),.int ((tl (ps.erase kk) (en kk)).length:Int)]) ht;refine⟨_,_,_,rs++[.ref t],rfl,fun b u e=>?_,fun b u hb e=>?_,Zd,?_,fun j e he=>?_⟩
   ·rw[Zi (fun z=>by rw[z,hpb]at e;cases e)];exact s6 _ _ (s45 _ _ (s3 _ _ e))
   ·rw[Zi hb];exact s6 _ _ (s45 _ _ (s23 _ _ hb e))
   ·rw[Qm,Qm,hrs.1];rfl
   ·by_cases cj:j<tk.length
    ·rw[QP cj]at he;obtain⟨b2,f1,f2⟩:=hrs.2 j e he;refine⟨b2,by rw[QP (by rw[hrs.1];exact cj)];exact f1,?_⟩;rw[Zi (fun z=>by rw[z,hpb3]at f2;cases f2)];exact s6 _ _ (s45 _ _ f2)
    ·rw[QQ (by omega)]at he;have ej:j=tk.length:=by
      have:=(Qn.mp he).1;simp at this;omega
     subst ej;rw[WN]at he;cases he;refine⟨t,by rw[QQ (by rw[hrs.1];exact Qk _),hrs.1,WN];rfl,?_⟩;rw[Zi htp,Zd]
  ·rintro σ H3 ⟨z3,z4,z5,rs,rfl,s3,_,hpb3,hrs⟩;refine⟨_,rfl,k H3 pb s3 ⟨rs,hpb3,?_⟩⟩;have:(cSg ps p).take vs.length=cSg ps p:=QJ (by unfold cSg;rw[Qc,hpa.1,hol];exact Qk _);rw[this]at hrs;exact hrs
theorem Zoz (ps:List Str) (p:Str):IsN ps p ((tl ps p).length:Int):=⟨by omega,fun ss0 ks h1 h2 h3 h4=>ZhR (Zbi h1) h3 _ ps p rfl h2 h4⟩
theorem ZhW {rs:List Str} {ns:List Int} (hne:ps≠[]) (hrs:∀ p,p∈rs↔ZcW ps p) (ndr:rs.Nodup) (hl:ns.length=rs.length) (hns:∀ (i:Nat) (n:Int),ns[i]?=some n->IsN ps (rs.getD i "") n) (nds:ss.Nodup) (hss:∀ y,inP ps y=true->y∈ss):ns.sum=((txs ss ps).length:Int):=by
 rw[ZmV];exact ZgP (m:=fun p=>((tl ps p).length:Int)) hne hrs ndr hl hns nds hss fun y _=>Zoz ps y
theorem Zh8 (hO:Zz ps hp) (hS:SPts hp ss) (y:Str) (h:inP ps y=true):y∈ss:=(Ye hO hS).mp h
inductive ZpT (H:Hp) (m:Nat):V->Prop where
 | kind {x:V} {n:String}:TyB H x n->(n == "int")=false->ZpT H m x
 | low {n:Int}:n<0->ZpT H m (.int n)
 | high {n:Int}:(m:Int)<=n->ZpT H m (.int n)
abbrev Zes:Stmt:=top 44
abbrev ZnF:List Str:=["H","number","choice","text","point","rest","piece"]
theorem scTextAt:Zo ZnF ["H","number"] (Zf Zes):=⟨rfl,rfl,rfl,by decide +kernel,rfl,by decide +kernel,by decide +kernel⟩
def Zab (C:Addr):Sp:=fun vs H Q E=>∃ (v:V) (ps:List Str) (e:Str×Int) (es:Es) (x:V) (ss:List Str),vs=[v,x]/\Rw H v ps e es/\RowOk ps/\HpAt H v (e::es)/\SPts (e::es) ss /\
 ((∃ (n:Nat) (t:List Nat),x= .int n/\(txs ss ps)[n]?=some t/\∀ H',Same H H'->Q (.str (tx t)) H')\/(ZpT H (txs ss ps).length x/\∀ H',Same H H'->E (.ref C) none H'))
theorem ZgZ {C1:Addr} {bm:List Value} (D:HasDef K mg "text_at" Zes ["H","number"]) (B:Blt mg) (c:XCls K mg "NoNumber" C bm) (g28_:FOk P w K mg base 9 "is_whole" ["thing"] Zaq) (g16_:FOk P w K mg base 9 "count_of" ["H"] Zc9) (g19_:FOk P w K mg base 9 "counts_by_point" ["H"] Zik) (g37_:FOk P w K mg base 9 "picked" ["counts","number"] ZfB)
  (g20_:FOk P w K mg base 9 "counts_by_sign" ["H","point"] Zij) (g29_:FOkX P w K mg base 9 "less_one" ["H","piece"] (ZbN C1)) (g21_:FOk P w K mg base 9 "end_of" ["piece"] Zeq):FOkX P w K mg base 10 "text_at" ["H","number"] (Zab C):=by
 refine D.okX scTextAt (fun vs H Q E h=>?_) (fun f cdv A outer s vs H Q E L hr h=>?_)
 ·obtain⟨v,ps,e,es,x,ss,rfl,_⟩:=h;rfl
 ·obtain⟨v,ps,e,es,x,ss,rfl,hRw,hR,hA,hS,h⟩:=h;refine⟨_,(Zc (Z3 (PW.pt (ZiL (JR (ZaD (Zq g28_ hr (Za (pv 1) Ze)))) (ZfP (JR (ZkP Zqn ZkW Zg (pv 1) (Zq g16_ hr (Za (pv 0) Ze))))))) (Zh (ZfS L c rfl (Za ZaH Ze))) Zy)
   (Zc (Zj (i:=2) scTextAt.nd rfl (.inl rfl) (Zq g37_ hr (Za (Zq g19_ hr (Za (pv 0) Ze)) (Za (pv 1) Ze))))
   (Zc (Zj (i:=3) scTextAt.nd rfl (.inl rfl) (ZP Xp (pv 2) Zg (fun _ _=>rfl)))
   (Zc (Zj (i:=4) scTextAt.nd rfl (.inl rfl) (ZP Xp (pv 2) Zg (fun _ _=>rfl)))
   (Zc (Zj (i:=5) scTextAt.nd rfl (.inl rfl) (pv 0))
   (Zc (PS.nox (X9 PassesOwn.never (Zs (Zf0 hr.units) (pv 5) (YW Ze) (Zx _))
    (Zc (Zj (i:=2) scTextAt.nd rfl (.inl rfl) (Zq g37_ hr (Za (Zq g20_ hr (Za (pv 5) (Za (pv 4) Ze))) (Za (ZP Xp (pv 2) Zg (fun _ _=>rfl)) Ze))))
   (Zc (Zj (i:=6) scTextAt.nd rfl (.inl rfl) (Zn ZX (pv 4) (ZP Xp (pv 2) Zg (fun _ _=>rfl))))
   (Zc (Zj (i:=3) scTextAt.nd rfl (.inl rfl) (Zn ZX (pv 3) (ZP Xp (pv 2) Zg (fun _ _=>rfl))))
   (Zc (Zj (i:=5) scTextAt.nd rfl (.inl rfl) (Zbp g29_ hr (Za (pv 5) (Za (pv 6) Ze))))
   (Zh (Zj (i:=4) scTextAt.nd rfl (.inl rfl) (Zq g21_ hr (Za (pv 6) Ze))))))))))
   (Zh (Zp (pv 3))))))))),?_⟩
  have one:(1:Nat)<=sizeLine:=by rw[sizeLine_eq];decide
  have hne:ps≠[]:=Ze1 hRw.hO;show Zor (ZqO _ _ _) _ _ _ _;rcases h with ⟨n,t,rfl,ht,k⟩ | ⟨hno,kE⟩
  rotate_left
  ·have cnt:∀ (m:Int) (R:L2.St->Hp->Prop),True:=fun _ _=>trivial;cases hno with
   | kind ty hn =>
    refine⟨_,rfl,_,_,rfl,ty,_,rfl,?_⟩;refine Jp (by rw[hn];rfl) ?_;exact⟨one,kE _ (Same.refl _)⟩
   | @low n hn =>
    refine⟨_,rfl,_,_,rfl,.int _,_,rfl,Xa rfl ?_⟩;refine⟨_,rfl,_,_,rfl,rfl,_,rfl,Xa (decide_eq_false (by omega)) ?_⟩;refine⟨_,rfl,?_⟩;exact Jp rfl ⟨one,kE _ (Same.refl _)⟩
   | @high n hn =>
    refine⟨_,rfl,_,_,rfl,.int _,_,rfl,Xa rfl ?_⟩;refine⟨_,rfl,_,_,rfl,rfl,_,rfl,Jp (decide_eq_true (by omega)) ?_⟩;refine⟨_,rfl,v,ps,e,es,rfl,hRw,fun H1 rs ns s1 hrs ndr hln hns=>?_⟩;rw[ZhW hne hrs ndr hln hns hS.pts.nd (Zh8 hRw.hO hS)];refine⟨_,_,rfl,rfl,_,rfl,?_⟩;exact Jp (by rw[decide_eq_false (by omega)];rfl) ⟨one,kE _ s1⟩
  ·have hlt:n<(txs ss ps).length:=(Qn.mp ht).1;refine⟨_,rfl,_,_,rfl,.int _,_,rfl,Xa rfl ?_⟩;refine⟨_,rfl,_,_,rfl,rfl,_,rfl,Jp (decide_eq_true (by omega)) ?_⟩;refine⟨_,rfl,v,ps,e,es,rfl,hRw,fun H1 rs ns s1 hrs ndr hln hns=>?_⟩;rw[ZhW hne hrs ndr hln hns hS.pts.nd (Zh8 hRw.hO hS)];refine⟨_,_,rfl,rfl,_,rfl,Xa (by rw[decide_eq_true (by omega)];rfl) ?_⟩;obtain⟨p0,j0,t0,hp0,hpk0,hj0,et0⟩:=Zbh ht;have hRw1:=hRw.same s1;refine⟨_,rfl,v,ps,e,es,rfl,hRw1,fun H2 a2 ss2 s2 hS2 hL2=>?_⟩;have ess:=SPts.one hS2 hS;subst ess;refine⟨_,rfl,a2,_,n,p0,j0,rfl,hL2,hpk0,fun H3 b3 s3 hb3=>?_⟩;have s13:=(s1.trans s2).trans s3;refine⟨_,rfl,b3,_,0,_,rfl,rfl,SqT.of hb3,rfl,?_⟩;refine⟨_,rfl,b3,_,0,_,rfl,rfl,SqT.of hb3,rfl,?_⟩;refine⟨_,rfl,?_⟩;have hpl0:p0.length<=1000:=by
    obtain⟨g,hg,q⟩:=(hS2.pts.mem p0).mp hp0;have:=(hRw.hF.long g hg).2;rcases q with q | q
    ·rw[←q];unfold bg;rw[Zw,UL,ZD];omega
    ·rw[←q];unfold en;rw[Zw,QV,ZD];omega
   have hpl3:=hR.len;refine⟨fun m σ H4=>∃ (qs:List Str) (hq:Es) (vq:V) (pp:Str) (j:Nat) (tt made:List Nat) (b:Addr) (c0:V) (z6:Option V),σ=[some v,some (.int n),some (.ref b),some (.str (tx made)),some (.str pp),some vq,z6]/\Same H H4/\qs.length=m/\Hv H4 vq qs hq/\RowOk qs/\H4 b=some (.tup [c0,.int j])/\(tl qs pp)[j]?=some tt/\t=made++tt/\pp.length<=1000/\made.length+qs.length<=1027,
    ⟨ps.length,ps,e::es,v,p0,j0,t0,p0.cps.toList,b3,_,none,by rw[tx_eta];rfl,s13,rfl,⟨hA.same s13.tup,hRw.hO⟩,hR,hb3,hj0,et0,hpl0,by rw[ZD];omega⟩,?_⟩
   rintro m σ H4 ⟨qs,hq,vq,pp,j,tt,made,b,c0,z6,rfl,s4,rfl,hV4,hR4,hb4,hj4,et4,hpl4,hml4⟩;refine⟨_,rfl,QO _,fun p5 hp5=>?_⟩;have s5:=Zb (o:=.tup []) hp5;refine⟨Jj hq,Jj [],ZfM (hV4.same s5).at_,ZfJ Zd,Y2 (Zgq hR4 hV4.of),Y2 Zd5,_,rfl,?_⟩;rw[ZdW];have hV5:=hV4.same s5;have hb5:=s5 _ _ hb4;have s45:=s4.trans s5;generalize upd H4 p5 (.tup [])=H5 at *;refine ZcZ (fun cc=>?_) (fun cc=>?_)
   ·have hqne:qs≠[]:=fun z=>by
     rw[(Zgo hV4.of).mpr z]at cc;simp at cc
    obtain⟨kk,j',t',hk1,hk2,hk3,hk4⟩:=Zh3 hqne hj4;obtain⟨km,kb⟩:=outK_mem.mp hk1;have kl:=(hR4.one _ km).1;refine⟨fun σ' H'=>∃ (qs2:List Str) (hq:Es) (vq:V) (pp:Str) (j:Nat) (tt made:List Nat) (b:Addr) (c0:V) (z6:Option V),σ'=[some v,some (.int n),some (.ref b),some (.str (tx made)),some (.str pp),some vq,z6]/\Same H H'/\qs2.length<qs.length/\Hv H' vq qs2 hq/\RowOk qs2/\H' b=some (.tup [c0,.int j])/\(tl qs2 pp)[j]?=some tt/\t=made++tt/\pp.length<=1000/\made.length+qs2.length<=1027,?_,?_⟩
    ·rintro σ' H' ⟨qs2,hq2,vq2,pp2,j2,tt2,made2,b2,c2,z2,q1,q2,q3,q4⟩;exact⟨qs2.length,q3,qs2,hq2,vq2,pp2,j2,tt2,made2,b2,c2,z2,q1,q2,rfl,q4⟩
    refine⟨_,rfl,_,rfl,vq,qs,hq,pp,rfl,hV5,hR4,hpl4,fun H6 a6 s6 hL6=>?_⟩;refine⟨_,rfl,b,_,1,_,rfl,rfl,SqT.of (s6 _ _ hb5),rfl,?_⟩;refine⟨a6,_,j,tx [ls kk],j',rfl,hL6,hk2,fun H7 b7 s7 hb7=>?_⟩;have s57:=s6.trans s7;refine⟨_,rfl,_,rfl,b7,_,0,_,rfl,rfl,SqT.of hb7,rfl,_,_,rfl,rfl,?_,?_⟩
    ·rw[Zw];exact Zv (by simp;omega)
    rw[←kb,Zi0 kl.1];have hql:1<=qs.length:=WW.mpr hqne;refine⟨_,rfl,_,rfl,b7,_,0,_,rfl,rfl,SqT.of hb7,rfl,_,_,rfl,rfl,?_,?_⟩
    ·rw[Zw,Zw];exact Zv (by simp;omega)
    rw[JM];have hqn:=Zgp hR4 hV4.of;refine⟨_,rfl,_,rfl,vq,hq,qs,kk,rfl,(hV5.same s57).at_,hV4.of,by omega,.inr ⟨km,fun v8 H8 hp8 s8 hA8 hO8=>?_⟩⟩;refine⟨_,rfl,kk,rfl,kl.1,kl.2,?_⟩;have hel:(qs.erase kk).length=qs.length-1:=QW km;refine⟨qs.erase kk,hp8,v8,en kk,j',t',made++[ls kk],b7,_,_,rfl,(s45.trans s57).trans s8,by omega,⟨hA8,hO8⟩,hR4.sub (fun y hy=>Wy hy) (by omega),s8 _ _ hb7,hk3,?_,?_,?_⟩
    ·rw[et4,hk4];simp
    ·unfold en;rw[Zw,QV,ZD];omega
    ·rw[Qm,hel];simp;omega
   ·have hq0:hq=[]:=by
     false_or_by_contra;rename_i z;exact cc (by simp[z])
    have e0:=(Zgo hV4.of).mp hq0;subst e0;rw[Zfs]at hj4;have et:tt=[]:=by
     cases j with
     | zero=>cases hj4;rfl
     | succ j=>cases hj4
    rw[et,WE]at et4;rw[et4]at k;exact⟨_,rfl,k _ s45⟩
theorem ZoW {z:List Nat} (hL:1<=L) (hz:L<=z.length):inP (pcs z L) (tx (z.take (L-1)))=true:=by
 obtain⟨h1,h2,h3⟩:=Jl hL (z.length-L) z (by omega);cases e:pcs z L with
 | nil=>rw[e]at h3;simp at h3
 | cons w ws =>
  rw[e]at h1;exact inP_iff.mpr ⟨w,Qi,.inl h1.1⟩
theorem Zhq {ws:List Str} (h:ws[i]?=some x):(ws.drop i).erase x=ws.drop (i+1):=by
 obtain⟨hi,rfl⟩:=Qn.mp h;rw[Ww hi,UN]
theorem Zjd {ws:List Str} (h:ws[i]?=some x):Zmo (ws.drop i)=(((cSg (ws.drop i) (bg x)).filter fun e=>ZdG e.1 (tx [ls x])).map (·.2)).sum+Zmo (ws.drop (i+1)):=by
 obtain⟨hi,rfl⟩:=Qn.mp h;rw[Ww hi];rfl
abbrev ZaA:Stmt:=top 46
abbrev Zjl:List Str:=["T","long","pieces","rest","number","piece"]
theorem scNumberOf:Zo Zjl ["T","long"] (Zf ZaA):=⟨rfl,rfl,rfl,by decide +kernel,rfl,by decide +kernel,by decide +kernel⟩
def Jt:Sp:=fun vs H Q _=>∃ (z:List Nat) (L:Nat),vs=[.str (tx z),.int L]/\1<=L/\L<=z.length/\z.length<=1000/\RowOk (pcs z L)/\∀ H' (n:Nat) (ss:List Str),Same H H'->SPts (Xf (pcs z L)) ss->(txs ss (pcs z L))[n]?=some z->Q (.int n) H'
theorem Zds {C1:Addr} (D:HasDef K mg "number_of" ZaA ["T","long"]) (B:Blt mg) (g38_:FOk P w K mg base 9 "pieces_of" ["T","long"] ZfA) (g18_:FOk P w K mg base 9 "counted" ["pieces"] (ZfC K)) (g19_:FOk P w K mg base 9 "counts_by_point" ["H"] Zik) (g14_:FOk P w K mg base 9 "count_ahead" ["counts","chosen"] Zil)
  (g12_:FOk P w K mg base 9 "begin_of" ["piece"] ZbP) (g20_:FOk P w K mg base 9 "counts_by_sign" ["H","point"] Zij) (g29_:FOkX P w K mg base 9 "less_one" ["H","piece"] (ZbN C1)):FOk P w K mg base 10 "number_of" ["T","long"] Jt:=by
 refine D.ok scNumberOf (fun vs H Q E h=>?_) (fun f cdv A outer s H vs Q E hr h=>?_)
 ·obtain⟨z,L,rfl,_⟩:=h;rfl
 ·obtain⟨z,L,rfl,hL1,hL2,hz3,hR,k⟩:=h;refine⟨_,(Zc (Zj (i:=2) scNumberOf.nd rfl (.inl rfl) (Zq g38_ hr (Za (pv 0) (Za (pv 1) Ze))))
   (Zc (Zj (i:=3) scNumberOf.nd rfl (.inl rfl) (Zq g18_ hr (Za (pv 2) Ze)))
   (Zc (Zj (i:=4) scNumberOf.nd rfl (.inl rfl) (Zq g14_ hr (Za (Zq g19_ hr (Za (pv 3) Ze)) (Za (ZF Ym (pv 0) ZT (ZL (Zn Yz (pv 1) Zg))) Ze))))
   (Zc (ZY PassesOwn.never rfl (ZU (pv 2)) (ZB (i:=5) scNumberOf.nd rfl (.inl rfl))
    (Zc (Zj (i:=4) scNumberOf.nd rfl (.inl rfl) (Zn ZS (pv 4) (Zq g14_ hr (Za (Zq g20_ hr (Za (pv 3) (Za (Zq g12_ hr (Za (pv 5) Ze)) Ze))) (Za (ZP ZdK (pv 5) (Za4 XI Zg) (fun _ _=>rfl)) Ze)))))
   (Zh (Zj (i:=3) scNumberOf.nd rfl (.inl rfl) (Zbp g29_ hr (Za (pv 3) (Za (pv 5) Ze)))))))
   (Zh (Zp (pv 4))))))),?_⟩
  obtain⟨c1,c2,c3⟩:=Jl hL1 (z.length-L) z (by omega);have hpin:=ZoW hL1 hL2;refine⟨_,rfl,_,rfl,z,L,rfl,hL1,hL2,hz3,fun p1 H1 s1 hp1=>?_⟩;have hlen:=hR.len;have hlen1:1<=(pcs z L).length:=by omega
  generalize pcs z L=ps at *;have hne:ps≠[]:=fun q=>by rw[q]at hlen1;simp at hlen1
  refine⟨_,rfl,p1,ps,ps,rfl,SqL.of hp1,by omega,by omega,fun x hx=>hx,fun v2 H2 hp2 s2 hA2 hO2=>?_⟩;obtain⟨e,es,rfl,hRw⟩:=ZkL hR hne hA2 hO2;refine⟨_,rfl,v2,ps,e,es,rfl,hRw,fun H3 a3 ss s3 hS hL3=>?_⟩;refine⟨_,rfl,_,rfl,_,_,rfl,rfl,_,rfl,_,rfl,ZZ (by omega),?_⟩;dsimp only;rw[YT (by omega),show((L:Int)-1).toNat=L-1 by omega];have hsl:=hRw.hn _ hS;refine⟨a3,_,_,rfl,hL3,by unfold cPt;rw[Qc];omega,fun H4 s4=>?_⟩;have s14:=(s2.trans s3).trans s4;have hp4:=s14 _ _ hp1;obtain⟨m,em,hm⟩:=Zmp ps _ c1 (Zez hR);obtain⟨m0,em0,hm0⟩:=Zfh hS.srt ((Ye hO2 hS).mp hpin) hm;rw[YH,←c2]at hm0;rw[em0];refine⟨_,rfl,p1,rfl,⟨_,SqL.of hp4⟩,YK (K:=K) (a:=p1) (xs:=ps.map V.str) (fun i σ H5=>Same H4 H5/\∃ (vq:V) (hq:Es) (nn:Int) (z5:Option V),σ=[some (.str (tx z)),some (.int L),some (.ref p1),some vq,some (.int nn),z5]/\Hv H5 vq (ps.drop i) hq/\nn+Zmo (ps.drop i)=(m0:Int)+(m:Int))
   ⟨Same.refl _,v2,e::es,m0,none,rfl,⟨hA2.same (s3.trans s4).tup,hO2⟩,by rw[U1,em]⟩ (fun i σ H5 _ ⟨s5,_⟩=>SqL.of (s5 _ _ hp4)) ?_ ?_⟩
  ·rintro i x σ H5 hi ⟨s5,vq,hq,nn,z5,rfl,hV,hnn⟩;obtain⟨hi',rfl⟩:=YS hi;have hx?:ps[i]?=some ps[i]:=Qa hi';have hxin:ps[i]∈ps.drop i:=by rw[Ww hi'];exact Qi
   have hRi:RowOk (ps.drop i):=hR.sub (fun x hx=>WT hx) (by rw[QV];omega);rw[Zjd hx?]at hnn;have her:=Zhq hx?;generalize ps[i]=x at *;have xl:=(hRi.one _ hxin).1;refine⟨_,rfl,_,rfl,_,rfl,x,rfl,xl.1,xl.2,?_⟩;refine⟨vq,ps.drop i,hq,bg x,rfl,hV,hRi,by unfold bg;rw[Zw,UL,ZD];omega,fun H6 a6 s6 hL6=>?_⟩;refine⟨_,rfl,_,rfl,x,-1,_,rfl,rfl,Z2 xl.2,ZnU xl.1,?_⟩;have hcl:(cSg (ps.drop i) (bg x)).length<=1000:=by
    unfold cSg YG;rw[Qc];refine QY (Wa _ _) ?_;rw[←ZcA hV.of,Qc];have:=Zgp hRi hV.of;omega
   refine⟨a6,_,_,rfl,hL6,hcl,fun H7 s7=>?_⟩;refine⟨_,_,rfl,rfl,?_⟩;have hqn:=Zgp hRi hV.of;have s67:=s6.trans s7;refine⟨_,rfl,_,rfl,vq,hq,ps.drop i,x,rfl,(hV.same s67).at_,hV.of,by omega,.inr ⟨hxin,fun v8 H8 hp8 s8 hA8 hO8=>?_⟩⟩;rw[her]at hO8;refine⟨(s5.trans s67).trans s8,v8,hp8,_,_,rfl,⟨hA8,hO8⟩,?_⟩;rw[←hnn];show nn+(((cSg (ps.drop i) (bg x)).filter fun e=>ZdG e.1 (tx [ls x])).map (·.2)).sum+Zmo (ps.drop (i+1))=_;omega
  ·rintro σ H5 ⟨s5,vq,hq,nn,z5,rfl,hV,hnn⟩;rw[Qc,RM]at hnn;have e0:Zmo []=0:=rfl;rw[e0,Ue]at hnn;rw[hnn];refine⟨_,rfl,?_⟩;have hS1:SPts (Xf ps) ss:=by
    refine⟨hS.srt,hS.pts.nd,fun y=>?_,?_⟩
    ·rw[←Ye hO2 hS,inP_iff];constructor
     ·rintro⟨x,hx,q⟩;exact⟨_,Jd hx,q⟩
     ·rintro⟨g,hg,q⟩;unfold Xf at hg;obtain⟨x,hx,rfl⟩:=Qj.mp hg;exact⟨x,hx,q⟩
    ·unfold Xf;rw[Qc];have h1:=hS.pts.len;have h2:=ZcB hO2;omega
   have:=k H5 (m0+m) ss ((s1.trans s14).trans s5) hS1 hm0;push_cast at this;exact this
theorem ZdP (h:Zz ps hp) (p:qs.Perm ps):Zz qs hp:=⟨h.srt,fun x=>by rw[h.mem,p.mem_iff],fun g hg=>by rw[h.cnt g hg,p.count_eq]⟩
theorem ZfH (h:RowOk ps) (p:qs.Perm ps):RowOk qs:=h.sub (fun x hx=>p.mem_iff.mp hx) (by rw[p.length_eq];exact Qk _)
theorem ZiN (hO:Zz ps hp) (hS:SPts hp ss) (hL:∀ x∈ps,x.length=L) (p:Str) (hp':p∈ss):p.length=L-1:=by
 obtain⟨x,hx,q⟩:=inP_iff.mp ((Ye hO hS).mpr hp');have:=hL x hx;rcases q with q | q
 ·rw[←q];unfold bg;rw[Zw,UL,ZD];omega
 ·rw[←q];unfold en;rw[Zw,QV,ZD];omega
theorem Zkr (hO:Zz ps hp) (hS:SPts hp ss) (hL1:1<=L) (hL:∀ x∈ps,x.length=L) (hne:ps≠[]) {t:List Nat} (h:(txs ss ps)[n]?=some t):t.length=L-1+ps.length/\(pcs t L).Perm ps:=by
 obtain⟨p,j,t',h1,_,h3,h4⟩:=Zbh h;obtain⟨ws,w1,w2,w3⟩:=ZlV _ ps p t' rfl (WI h3);have hwne:ws≠[]:=fun z=>by rw[z]at w1;exact hne (List.Perm.eq_nil w1.symm)
 obtain⟨q1,q2⟩:=Zdl hL1 ws p hwne w2 (fun x hx=>hL x (w1.mem_iff.mp hx)) (ZiN hO hS hL p h1);rw[←w3,←h4]at q1 q2;exact⟨by rw[q1,w1.length_eq],by rw[q2];exact w1⟩
theorem Zkp (hO:Zz ps hp) (hS:SPts hp ss) (hL:∀ x∈ps,x.length=L) (hR:RowOk ps):Srt (txs ss ps):=ZmT hS.srt (L:=L-1) (fun p hp'=>ZiN hO hS hL p hp') (Zez hR)
def abc:Str:="abcdefghijklmnopqrstuvwxyz"
def Xn (n:Nat):List Str:=(Qx n).map fun i=>tx [97+i]
theorem Zof (k:Nat):fI ((k:Int)+1)=fI k*((k:Int)+1):=by
 rw[ZcG (show(1:Int)<=(k:Int)+1 by omega),WA];congr 2;omega
theorem Y6 (n:Nat):(Xn n).length=n:=by unfold Xn;simp
theorem Zlj (h:i<n):(Xn n)[i]?=some (tx [97+i]):=by
 unfold Xn;rw[Qd,QM h];rfl
theorem ZmI (c:Nat):bg (tx [c]) = "":=by rfl
theorem ZjY (c:Nat):en (tx [c]) = "":=by rfl
theorem Zgb (n:Nat):((Xn n).map fun x=>x.cps.toList).Pairwise (· < ·):=by
 unfold Xn;rw[QC,QR];refine List.Pairwise.imp ?_ (U6 (n:=n));intro a b hab;show [97+a]<[97+b];exact List.Lex.rel (by omega)
theorem YY (n:Nat):ZmO (Xn n):=⟨fun x hx=>by
 unfold Xn at hx;obtain⟨i,_,rfl⟩:=Qj.mp hx;exact⟨ZmI _,ZjY _⟩,Zbi (Zgb n)⟩
theorem Zcs (h:n<=26):RowOk (Xn n):=by
 refine⟨by rw[Y6];omega,fun x hx=>?_,fun l nd hi=>?_,1,by decide,by decide,fun x hx=>?_⟩
 ·unfold Xn at hx;obtain⟨i,hi,rfl⟩:=Qj.mp hx;have hi:=Wg.mp hi;refine⟨⟨by rw[Zw];exact Qk 1,by rw[Zw];exact(by decide:1<=1000)⟩,?_⟩;unfold PyData.strOk;rw[←UO,Ur];intro c hc;have:c∈[97+i]:=hc;rw[Qp.mp this];exact decide_eq_true (by omega)
 ·have:=Yh (B:=[("" : Str)]) nd fun y hy=>by rw[Jc (YY n) (hi y hy)];exact Qi
  rw[QK]at this;omega
 ·unfold Xn at hx;obtain⟨i,_,rfl⟩:=Qj.mp hx;rw[Zw];rfl
theorem ZdH (n:Nat):Zz (Xn n) ((Xn n).map fun x=>(x,(1:Int))):=by
 refine⟨?_,fun x=>?_,fun p hp=>?_⟩
 ·rw[QC];exact Zgb n
 ·rw[QC];show x∈(Xn n).map id↔_;rw[U5]
 ·obtain⟨x,hx,rfl⟩:=Qj.mp hp;show(1:Int)=_;rw[(YY n).nd.count,if_pos hx];rfl
theorem Zop (h:n<=26):Txt.slice abc none (some (n:Int))=tx ((Qx n).map fun i=>97+i):=by
 have e:abc=tx ((Qx 26).map fun i=>97+i):=by decide +kernel
 rw[e,YT (by omega),Wn,←Ux,List.take_range,UA h]
end Sh
namespace Tim
open PySem PySem.W PyProof.Rows
section
variable {prog:Program} {w:World} {A:Around} {E:Value->Shared->Prop} {κ:SortKind} {ϕ:Keyed->Nat} {U:Keyed->Prop} {G:Shared->Prop}
theorem ZdF:∀ (f n r:Nat),minRun' f n r<=n+r
 | 0,n,r=>Nat.le_of_eq rfl
 | f+1,n,r=>by
  rw[minRun'_succ];split
  ·exact Qk _
  ·refine QY (ZdF f (n / 2) (max r (n % 2))) ?_;have:=Nat.max_le_of_le_of_le (show r<=r+n % 2 by omega) (show n % 2<=r+n % 2 by omega);omega
theorem Zhh (R:ZpS prog w A κ ϕ U G) {lo nrem:Nat} {Q:Option Nat->SortSt->Shared->Prop} {st:SortSt} {s:Shared} (hk:kindOf st=κ) (ha:Al U (arrOf st)) (hn:lo+nrem<=(arrOf st).size) (h1:1<=nrem) (g:G s)
  (hup:∀ m,1<=m->m<nrem->¬ fx ϕ (arrOf st) (lo+m)<fx ϕ (arrOf st) (lo+m-1)) (h:∀ s',G s'->Q (some nrem) st s'):kasC (model prog w) A E (countRun' lo nrem) Q st s:=by
 rw[countRun'_eq];dsimp only;refine kasC_bind (Zcv (Q:=fun c st' s'=>c=(none,nrem)/\st'=st/\G s') (ZjF (fun t c st' s'=>∃ m,c=(none,m)/\st'=st/\G s'/\1<=m/\m=t/\m<=nrem) ⟨1,rfl,rfl,g,by omega,rfl,h1⟩ ?_ ?_) ?_)
 ·rintro t c st4 s4 ht ⟨m,rfl,rfl,g4,d1,rfl,d3⟩;dsimp only;have htn:m<nrem:=by omega
  refine kasC_bind (Zqs R hk ha (by omega) (by omega) g4 fun s5 g5=>?_);dsimp only;rw[if_neg (by simpa using hup m d1 htn)];exact kasC_pure ⟨m+1,rfl,rfl,g5,by omega,rfl,by omega⟩
 ·rintro c st4 s4 ⟨m,rfl,rfl,g4,d1,e,d3⟩;have:m=nrem:=by omega
  exact⟨by rw[this],rfl,g4⟩
 ·rintro c st4 s4 ⟨rfl,rfl,g4⟩;dsimp only;rw[if_pos (by simp)];exact kasC_pure (h s4 g4)
theorem ZjD (R:ZpS prog w A κ ϕ U G) {a₀:Array Keyed} {Q:Unit->SortSt->Shared->Prop} {st:SortSt} {s:Shared} (ha:Al U a₀) (hk:kindOf st=κ) (hf:failedOf st=none) (hp:pendingOf st= #[]) (har:arrOf st=a₀) (h2:1<=a₀.size) (g:G s)
  (hup:∀ m,1<=m->m<a₀.size->¬ fx ϕ a₀ m<fx ϕ a₀ (m-1)) (h:∀ st' s',failedOf st'=none->arrOf st'=a₀->G s'->Q () st' s'):kasC (model prog w) A E sortRuns' Q st s:=by
 rw[sortRuns'_eq];refine kasC_bind (kasC_get ?_);rw[har];dsimp only;refine kasC_bind (Zcv (Q:=fun c st' s'=>c=(none,a₀.size)/\failedOf st'=none/\arrOf st'=a₀/\(pendingOf st').size<=1/\G s') (ZjF (fun t c st' s'=>∃ lo,c=(none,lo)/\t<=lo/\((lo=0/\st'=st)\/(lo=a₀.size/\failedOf st'=none/\arrOf st'=a₀/\(pendingOf st').size<=1))/\G s')
  ⟨0,rfl,by omega,.inl ⟨rfl,rfl⟩,g⟩ ?_ ?_) ?_)
 ·rintro t c st1 s1 ht ⟨lo,rfl,b1,hc,g1⟩;dsimp only;rcases hc with ⟨rfl,rfl⟩ | ⟨rfl,hc⟩
  rotate_left
  ·rw[if_pos (Qk _)];exact kasC_pure ⟨rfl,hc.1,hc.2.1,hc.2.2,g1⟩
  rw[if_neg (by omega)];refine kasC_bind (Zhh R hk (by rw[har];exact ha) (by rw[har];omega) (by omega) g1 (fun m m1 m2=>?_) fun s2 g2=>?_)
  ·rw[har,Vs];exact hup m m1 (by omega)
  dsimp only;rw[if_neg (by have:=ZdF a₀.size a₀.size 0;omega)];refine kasC_bind (kasC_get ?_);split
  ·rename_i hh;rw[hp]at hh;simp at hh
  ·refine kasC_bind (kasC_modify (kasC_pure ⟨_,rfl,by omega,.inr ⟨by omega,hf,har,?_⟩,g2⟩));show((pendingOf st1).push _).size<=1;rw[hp];simp
 ·rintro c st1 s1 ⟨lo,rfl,b1,hc,g1⟩;rcases hc with ⟨rfl,rfl⟩ | ⟨rfl,hc⟩
  ·omega
  ·exact⟨rfl,hc.1,hc.2.1,hc.2.2,g1⟩
 ·rintro c st1 s1 ⟨rfl,h1,h3,h4,g1⟩;dsimp only;refine kasC_bind (Zcv (Q:=fun c st' s'=>c=(none,())/\failedOf st'=none/\arrOf st'=a₀/\G s') (ZjF (fun t c st' s'=>c=(none,())/\st'=st1/\G s') ⟨rfl,rfl,g1⟩ ?_ ?_) ?_)
  ·rintro t c st4 s4 ht ⟨rfl,rfl,g4⟩;refine kasC_bind (kasC_get ?_);rw[if_pos h4];exact kasC_pure ⟨rfl,h1,h3,g4⟩
  ·rintro c st4 s4 ⟨rfl,rfl,g4⟩;exact⟨rfl,h1,h3,g4⟩
  ·rintro c st4 s4 ⟨rfl,h5,h6,g4⟩;exact kasC_pure (h st4 s4 h5 h6 g4)
end
section
variable {prog:Program} {w:World} {A:Around} {E:Value->Shared->Prop} {s:Shared}
theorem Zhc {a:Addr} {vs:List Value} {lt:Nat->Nat->Bool} {κ:SortKind} {n:Nat} {P:PySem.Fin->Shared->Prop} (ho:s.heap.get? a=some (seqObj "list" vs.toArray n)) (hz:vs.length<=sizeLine) (o:WO vs.length lt)
  (same:∀ i j,i<vs.length->vs[i]?=vs[j]?->∀ k,lt k i=lt k j)
  (kd:∀ (h6:Heap) (Q:SortKind->Shared->Prop),(∀ b o,b≠a->s.heap.get? b=some o->h6.get? b=some o)->2<=vs.length->Q κ {s with heap:=h6}->wpAny (model prog w) A (keyKind' vs.toArray) Q E {s with heap:=h6})
  (ask:∀ (h6:Heap) (tk i j:Nat) (x y:Value) (C:Bool->Shared->Prop),(∀ b o,b≠a->s.heap.get? b=some o->h6.get? b=some o)->vs[i]?=some x->vs[j]?=some y->(∀ tk,C (lt i j) {s with heap:=h6,toks:=tk})->wpAny (model prog w) A (keyLt' κ x y) C (fun _ _=>False) {s with heap:=h6,toks:=tk})
  (upw:∀ i j,i<j->j<vs.length->lt j i=false)
  (h:∀ (h1:Heap) (tk c:Nat) (p:Array Nat),Srt.Pm vs.length p->(∀ i j,i<j->j<vs.length->lt (p.getD j 0) (p.getD i 0)=false)->(∀ b o,b≠a->s.heap.get? b=some o->h1.get? b=some o) ->
   h1.get? a=some (seqObj "list" (p.toList.map fun i=>vs.getD i Value.none).toArray c)->P (.done (.ret .none)) {s with heap:=h1,toks:=tk}) :
  wpAny (model prog w) A (Builtin.«list.sort» ⟨[.ref a],[]⟩) P E s:=by
 have ha:a<s.heap.objs.size:=Qs ho;rw[list_sort_plain];refine wpAny_bind (listItems_at ho rfl (wpAny_bind (listUpdate_at ho rfl ?_ (by rw[Qr];exact hz) (QO _))));obtain⟨e1,ho1⟩:∃ e1,(s.heap.update a (Obj.mapSeq fun _=>(#[]:Array Value))).get? a=some (seqObj "list" #[] e1):=⟨_,get?_update_seq ho fun _=>#[]⟩
 have k1:∀ b o,b≠a->s.heap.get? b=some o->(s.heap.update a (Obj.mapSeq fun _=>(#[]:Array Value))).get? b=some o:=fun b o hb q=>(QN _ _ (Ne.symm hb)).trans q;refine wpAny_bind (seqEpoch_at ho1 rfl (wpAny_bind (wpAny_newTuple ?_ (by show vs.length<=_;exact hz))));refine wpAny_bind (wpAny_newList ?_ (QO _));refine wpAny_holding ?_;generalize hg:((s.heap.update a (Obj.mapSeq fun _=>(#[]:Array Value))).push {cls:=.type "tuple",data:=.seq vs.toArray.toList.toArray}).push {cls:=.type "list",data:=.seq ([]:List Value).toArray}=h6;have k6:∀ b o,b≠a->s.heap.get? b=some o->h6.get? b=some o:=fun b o hb q=>by
  rw[←hg];exact Qg _ (Qg _ (k1 b o hb q))
 have ho6:h6.get? a=some (seqObj "list" #[] e1):=by
  rw[←hg];exact Qg _ (Qg _ ho1)
 show wpAny (model prog w) A _ P E {s with heap:=h6};dsimp only;have fin:∀ (tk:Nat) (p:Array Nat) (out:Array Value),Srt.Pm vs.length p->(∀ i j,i<j->j<vs.length->lt (p.getD j 0) (p.getD i 0)=false)->out=(p.toList.map fun i=>vs.getD i Value.none).toArray ->
   ∃ c,(h6.update a (Obj.mapSeq fun _=>out)).get? a=some (seqObj "list" out c)/\out.size<=sizeLine/\P (.done (.ret .none)) {s with heap:=h6.update a (Obj.mapSeq fun _=>out),toks:=tk}:=fun tk p out hp hu ho'=>by
  have hc:=get?_update_seq ho6 fun _=>out;refine⟨_,hc,?_,h _ tk _ p hp hu (fun b o hb q=>(QN _ _ (Ne.symm hb)).trans (k6 b o hb q)) (by rw[←ho'];exact hc)⟩;rw[ho',Qr,Qc,QG,hp.size];exact hz
 have hr:vs=(Qx vs.length).map fun i=>vs.getD i Value.none:=by
  apply QT;intro i;simp only[Qd];by_cases hi:i<vs.length
  ·rw[Qa hi,QM hi,Wj,Qb,Qa hi];rfl
  ·rw[Qo (by omega),Qo (by simp;omega)];rfl
 by_cases h2:vs.toArray.size<2
 ·rw[if_pos h2,if_pos h2];rw[Qr]at h2;obtain⟨c,f1,f2,f3⟩:=fin s.toks (Qx vs.length).toArray vs.toArray ⟨by simp,Array.Perm.refl _⟩ (fun a b hab hb=>by omega) (congrArg Vp hr);refine wpAny_bind (wpAny_pure ?_);rw[StateT.run_pure];refine wpAny_bind (wpAny_pure ?_);have eo:(arrOf (SortSt.mk' general' (vs.toArray.zip vs.toArray) #[] 7 none)).map (·.2)=vs.toArray:=by
   show(vs.toArray.zip vs.toArray).map (·.2)=vs.toArray;apply Rb.mp;simp;exact Rc (Qk _)
  dsimp only;rw[eo];refine wpAny_bind (seqEpoch_at ho6 rfl (wpAny_bind (listUpdate_at ho6 rfl ?_ (QO _) (WU f2))));simp only[bne_self_eq_false,Ws,if_false];exact wpAny_pure f3
 ·rw[if_neg h2,if_neg h2];rw[Qr]at h2;have zl:(vs.toArray.zip vs.toArray).toList=(Qx vs.length).map fun i=>((vs.getD i Value.none,vs.getD i Value.none):Keyed):=by
   rw[Array.toList_zip];show vs.zip vs=_;apply QT;intro i;simp only[Qd];by_cases hi:i<vs.length
   ·rw[QM hi,Wj,(List.getElem?_zip_eq_some (z:=(vs[i],vs[i]))).mpr ⟨Qa hi,Qa hi⟩,Qb,Qa hi];rfl
   ·rw[Qo (by simp;omega),Qo (by simp;omega)];rfl
  have zsz:(vs.toArray.zip vs.toArray).size=vs.length:=by rw[←QG,zl,Qc,Wh]
  have ph:∀ (i:Nat) (x:Keyed),i<vs.length->x.1=vs.getD i Value.none->phi vs lt x=rk vs.length lt i:=fun i x hi e=>by
   have hx:∃ i,vs[i]?=some x.1:=⟨i,by rw[e,Qb,Qa hi];rfl⟩
   unfold phi;rw[dif_pos hx];have hc:=Classical.choose_spec hx;generalize Classical.choose hx=j at *;have hj:j<vs.length:=(Qn.mp hc).1;have ee:vs[j]?=vs[i]?:=by rw[hc,e,Qb,Qa hi];rfl
   unfold rk;congr 1;refine U3 fun k hk=>?_;exact same j i hj ee k
  refine wpAny_bind (kd h6 _ k6 (by omega) ?_);have R:ZpS prog w A κ (phi vs lt) (fun x=>∃ i,i<vs.length/\x.1=vs.getD i Value.none) (fun s'=>∃ tk,s'={s with heap:=h6,toks:=tk}):=⟨fun x y C s' ⟨i,hi,ei⟩ ⟨j,hj,ej⟩ ⟨tk,g⟩ k=>by
   subst g;refine ask h6 tk i j x.1 y.1 C k6 (by rw[ei,Qb,Qa hi];rfl) (by rw[ej,Qb,Qa hj];rfl) fun tk'=>?_;rw[←o.rk_lt hi hj,←ph i x hi ei,←ph j y hj ej];exact k _ ⟨tk',rfl⟩⟩
  refine wpAny_bind (wpAny_mono (show kasC (model prog w) A E sortRuns' (fun _ st' s'=>failedOf st'=none/\arrOf st'=vs.toArray.zip vs.toArray/\∃ tk,s'={s with heap:=h6,toks:=tk}) (SortSt.mk' κ (vs.toArray.zip vs.toArray) #[] 7 none) {s with heap:=h6} from
   ZjD R (a₀:=vs.toArray.zip vs.toArray) (fun i x e=>?_) rfl rfl rfl rfl (by omega) ⟨s.toks,rfl⟩ (fun m m1 m2=>?_) fun st' s' a1 a2 a3=>⟨a1,a2,a3⟩) ?_ fun _ _ e=>e)
  ·have hi:i<vs.length:=by
    have:=(RC.mp e).1;omega
   rw[←Wb,zl,Qd,QM hi]at e;cases e;exact⟨i,hi,rfl⟩
  ·have hz':∀ i,i<vs.length->fx (phi vs lt) (vs.toArray.zip vs.toArray) i=rk vs.length lt i:=fun i hi=>by
    have e:(vs.toArray.zip vs.toArray)[i]?=some ((vs.getD i Value.none,vs.getD i Value.none):Keyed):=by
     rw[←Wb,zl,Qd,QM hi];rfl
    rw[Zob e];exact ph i _ hi rfl
   rw[zsz]at m2;rw[hz' m m2,hz' (m-1) (by omega)];have q:=o.rk_lt (i:=m) (j:=m-1) m2 (by omega);have q2:=upw (m-1) m (by omega) m2;rw[q2]at q;exact of_decide_eq_false q
  ·rintro⟨⟨⟩,st'⟩ s' ⟨hf',har',tk,rfl⟩;have hout:(arrOf st').map (·.2)=vs.toArray:=by
    rw[har'];apply Rb.mp;simp;exact Rc (Qk _)
   obtain⟨c,f1,f2,f3⟩:=fin tk (Qx vs.length).toArray vs.toArray ⟨by simp,Array.Perm.refl _⟩ (fun a b hab hb=>by
    rw[QZ,QZ,Re,Re,QM hb,QM (by omega)];exact upw a b hab hb) (congrArg Vp hr)
   dsimp only;rw[hout];refine wpAny_bind (seqEpoch_at (s:={s with heap:=h6,toks:=tk}) ho6 rfl (wpAny_bind (listUpdate_at (s:={s with heap:=h6,toks:=tk}) ho6 rfl ?_ (QO _) (WU f2))));rw[hf'];simp only[bne_self_eq_false,Ws,if_false];exact wpAny_pure f3
theorem sorted_allU {r:Addr} {Q:Value->Shared->Prop} {Pc:Heap->List Value->Prop} {lt:Nat->Nat->Bool} {κ:SortKind}
  (col:∀ (R:List Value->Shared->Prop),(∀ h1 tk vs,(∀ b o,s.heap.get? b=some o->h1.get? b=some o)->Pc h1 vs->R vs {s with heap:=h1,toks:=tk})->wpAny (model prog w) A.in1 (collect (.ref r)) R E s)
  (ord:∀ h1 vs,(∀ b o,s.heap.get? b=some o->h1.get? b=some o)->Pc h1 vs->vs.length<=sizeLine/\ZmN prog w h1 vs lt κ/\∀ i j,i<j->j<vs.length->lt j i=false)
  (fin:∀ h1 vs h3 tk c p,Pc h1 vs->(∀ b o,s.heap.get? b=some o->h3.get? b=some o)->(∀ b o,h1.get? b=some o->h3.get? b=some o)->(∀ b o,s.heap.get? b=some o->h1.get? b=some o)->Srt.Pm vs.length p->(∀ i j,i<j->j<vs.length->lt (p.getD j 0) (p.getD i 0)=false) ->
   h3.get? h1.objs.size=some (seqObj "list" (p.toList.map fun i=>vs.getD i Value.none).toArray c)->s.heap.get? h1.objs.size=none->Q (.ref h1.objs.size) {s with heap:=h3,toks:=tk}) :
  wpAny (model prog w) A (call (.builtin "sorted") [.ref r]) Q E s:=by
 refine Calls.call_function_entry kind_sorted plain_sorted entry_sorted (args_sorted1 _) ?_;unfold Builtin.«sorted»;refine wpAny_bind (m:=checkCount "sorted" 1 1 _) (wpAny_pure ?_);refine wpAny_bind (col _ fun h1 tk vs hk hP=>?_);obtain⟨hz,S,U⟩:=ord h1 vs hk hP;refine wpAny_bind (wpAny_newList ?_ hz);have hB:(h1.push {cls:=.type "list",data:=.seq vs.toArray}).get? h1.objs.size=some (seqObj "list" vs.toArray 0):=Qy _ rfl;refine wpAny_bind (wpAny_holding (wpAny_call_entry slot_list_sort ⟨_,hB,rfl⟩ entry_list_sort ?body (args_list_sort _)));have k1:∀ {h6:Heap},(∀ b o,b≠h1.objs.size->(h1.push {cls:=.type "list",data:=.seq vs.toArray}).get? b=some o->h6.get? b=some o)->∀ b o,h1.get? b=some o->h6.get? b=some o:=fun k b o e=>k b o (Qz (Qs e)) (Qg _ e);refine Zhc (s:={s with heap:=h1.push {cls:=.type "list",data:=.seq vs.toArray},toks:=tk}) hB hz S.wo S.same (fun h6 Q k h2 q=>S.kd _ _ _ _ (k1 k) h2 q) (fun h6 tk' i j x y C k e1 e2 q=>S.ask _ _ i j x y C (k1 k) e1 e2 fun tk2=>q tk2) U
  fun h3 tk3 c p hp hs hkeep hD=>⟨_,rfl,wpAny_pure ⟨_,rfl,?_⟩⟩
 refine fin h1 vs h3 tk3 c p hP (fun b o e=>k1 hkeep b o (hk b o e)) (k1 hkeep) hk hp hs hD ?_;cases e:s.heap.get? h1.objs.size with
 | none=>rfl
 | some u=>exact absurd (Qs (hk _ _ e)) (Wi _)
end
end Tim
namespace L2
open PySem PySem.Spec PyProof.Rows PySem.W
theorem ZcO {X:Cx}:CallR X (.builtin "sorted") (fun xs H Q=>∃ (a:Addr) (ss:List Str),xs=[.ref a]/\SqL X.K H a (ss.map V.str)/\ss.length<=1000000/\(ss.map fun x=>x.cps.toList).Pairwise (· < ·) /\
  ∀ (p:Addr) (ss':List Str),H p=none->ss'.Perm ss->(ss'.map fun x=>x.cps.toList).Pairwise (·<=·)->Q (.ref p) (upd H p (.lst (ss'.map V.str)))):=by
 intro pins s σ H xs us Q I r h;obtain⟨a,ss,rfl,hq,h1k,hup,q⟩:=h;obtain⟨u,rfl,ru⟩:=Xd r;cases ru;obtain⟨its,rv,pl,hz⟩:=I.list hq;have hl:=rv.length;rw[Qc]at hl;have hS:=YR rv;refine Tim.sorted_allU (lt:=Tim.ltS ss) (κ:=oneType') (Pc:=fun h1 vs=>its=vs) (fun R hR=>?_) (fun h1 vs hk hP=>?_) fun h1 vs h3 tk c p hP hk k1 hk1 hp hs hD hN=>?_
 ·exact collect_list pl.isList (hR _ s.toks its (fun b o e=>(QN _ _ (Rg (Qs e))).trans (Qg _ e)) rfl) (Zv (by omega))
 ·subst hP;refine⟨Zv (by omega),Tim.sa_strs hS,fun i j hij hj=>?_⟩;have hj':j<ss.length:=by omega
  have:=WR.mp hup i j (by rw[Qc];omega) (by rw[Qc];omega) hij;rw[Ut,Ut]at this;unfold Tim.ltS;rw[YE hj',YE (show i<ss.length by omega)];exact decide_eq_false (Ve this)
 ·subst hP;have hp':Srt.Pm ss.length p:=by rw[hl];exact hp
  have vv:∀ l:List Nat,(∀ i∈l,i<ss.length)->Vals ((l.map fun i=>ss.getD i "").map V.str) (l.map fun i=>its.getD i Value.none):=by
   intro l;induction l with
   | nil=>intro _;exact .nil
   | cons i l ih =>
    intro hh;have hi:i<its.length:=by have:=hh i (Qi ..);omega
    obtain⟨t,e,_⟩:=Tim.strs_at hS i _ (Qa hi);refine .cons ?_ (ih fun j hj=>hh j (Ql _ hj));show RelV (V.str (ss.getD i "")) (its.getD i Value.none);rw[Qb (l:=its),Qa hi];exact⟨t,e⟩
  have hmem:∀ i∈p.toList,i<ss.length:=fun i hi=>by
   have:i∈p:=by simpa using hi
   have:=hp'.perm.mem_iff.mp this;simpa using this
  obtain⟨hn,I2⟩:=ZeG (tk:=tk) (vs:=(p.toList.map fun i=>ss.getD i "").map V.str) I hk hN (by rw[Qc,Qc,QG,hp'.size];exact Zv (by omega)) ⟨_,c,vv p.toList hmem,hD⟩;exact⟨.ref h1.objs.size,_,I2,rfl,q _ _ hn (JB ss p hp') (ZlZ hp' (by rw[hl];exact hs))⟩
end L2
namespace Sh
open PySem L2 PyProof.Rows
seal L2.PE L2.PS L2.PSs L2.PT L2.PW L2.PA L2.PI L2.PG L2.PGs L2.PO L2.PC L2.PCs L2.OpR L2.UnR L2.CallR L2.MtR L2.IxR L2.SlR
variable {P:Program} {w:World} {K:PySem.W.Frag} {mg:Str->Option Value} {base:Heap}
variable {ps:List Str}
theorem Ze2 {α β:Type} {f:α->List β} {b:Nat}:∀ l:List α,(∀ x∈l,(f x).length<=b)->(l.flatMap f).length<=l.length*b
 | [],_=>by simp
 | x::l,h=>by
  rw[Wq,Qm,QL,RF];have h1:=h x Qi;have h2:=Ze2 l fun y hy=>h y (Ql _ hy);omega
theorem ZmX:∀ (n:Nat) (ps:List Str) (p:Str),ps.length=n->(tl ps p).length<=fc n
 | 0,ps,p,hl=>by
  rw[QU.mp hl];exact Qk _
 | n+1,ps,p,hl=>by
  have hne:ps≠[]:=fun z=>by rw[z]at hl;cases hl
  rw[Yu hne];have h1:=Ze2 (b:=fc n) (f:=fun k=>(tl (ps.erase k) (en k)).map fun t=>ls k::t) (YG ps p) fun k hk=>by
   rw[Qc];exact ZmX n _ _ (by rw[QW (outK_mem.mp hk).1,hl];rfl)
  have h2:(YG ps p).length<=n+1:=by
   have:(YG ps p).Nodup:=(Zgk ps).filter _;have:=Yh this (B:=ps) fun x hx=>(outK_mem.mp hx).1;omega
  exact QY h1 (Rq _ h2)
theorem Zgw {n:Nat} (h:n<=6):fc n<=720:=QY (Ze3 h) (by decide)
theorem Zc7 {kk:List Str} (h:(kk.map fun x=>x.cps.toList).Pairwise (· < ·)) (hm:∀ x,x∈kk↔x∈ps):kk=XW ps:=by
 have e:=Ys h (YZ ps) fun z=>by
  constructor
  ·intro q;obtain⟨x,hx,e⟩:=Qj.mp q;exact Qj.mpr ⟨x,(Z1 ps x).mpr ((hm x).mp hx),e⟩
  ·intro q;obtain⟨x,hx,e⟩:=Qj.mp q;exact Qj.mpr ⟨x,(hm x).mpr ((Z1 ps x).mp hx),e⟩
 refine Us ?_ fun i h1 h2=>?_
 ·have:=congrArg Ua e;simp only[Qc]at this;exact this
 ·have:(kk.map fun x=>x.cps.toList)[i]?=((XW ps).map fun x=>x.cps.toList)[i]?:=by rw[e]
  rw[Qd,Qd,Qa h1,Qa h2]at this;exact ZJ (Option.some.inj this)
noncomputable def ftl (ps:List Str) (p:Str) (l:List Str):List (List Nat):=(l.filter fun k=>decide (bg k=p)).flatMap fun k=>(tl (ps.erase k) (en k)).map fun t=>ls k::t
theorem Zoc (hne:ps≠[]) (p:Str):ftl ps p (XW ps)=tl ps p:=(Yu hne p).symm
theorem ZjV (ps:List Str) (p:Str) (l m:List Str):ftl ps p (l++m)=ftl ps p l++ftl ps p m:=by
 unfold ftl;rw[Wt,Rx]
theorem ZjU {p k:Str} (h:bg k=p):ftl ps p [k]=(tl (ps.erase k) (en k)).map fun t=>ls k::t:=by
 unfold ftl;rw[Wc (by simpa using h),VQ,Wq,UP,WE]
theorem Zpv {p k:Str} (h:bg k≠p):ftl ps p [k]=[]:=by
 unfold ftl;rw[Wd (by simpa using h),VQ,UP]
abbrev ZbZ:Stmt:=top 57
abbrev ZnI:List Str:=["_law_row_here","_law_made","_law_found","_law_piece","_law_left"]
theorem scLTexts:Zo ZnI ["_law_row_here","_law_made"] (Zf ZbZ):=⟨rfl,rfl,rfl,by decide +kernel,rfl,by decide +kernel,by decide +kernel⟩
def ZbM (N:Nat):Sp:=fun vs H Q _=>∃ (a:Addr) (ps:List Str) (made:List Nat) (p:Str) (L:Nat),vs=[.ref a,.str (tx made)]/\H a=some (.lst (ps.map V.str))/\RowOk ps/\ps.length<=N/\N<=6/\1<=L/\L<=100/\(∀ x∈ps,x.length=L)/\L-1<=made.length/\made.length+ps.length<=200/\made.drop (made.length-(L-1))=p.cps.toList /\
 ∀ H' q,Same H H'->H' q=some (.lst ((tl ps p).map fun t=>V.str (tx (made++t))))->Q (.ref q) H'
theorem Zbd {N:Nat} {sp:Sp} (D:HasDef K mg "_law_texts" ZbZ ["_law_row_here","_law_made"]) (B:Blt mg) (hsp:∀ m,m+1=N->∀ vs H Q E,ZbM m vs H Q E->sp vs H Q E) (g10_:FOk P w K mg base (N+1) "_law_texts" ["_law_row_here","_law_made"] sp):FOk P w K mg base (N+2) "_law_texts" ["_law_row_here","_law_made"] (ZbM N):=by
 refine D.ok scLTexts (fun vs H Q E h=>?_) (fun f cdv A outer s H vs Q E hr h=>?_)
 ·obtain⟨a,ps,made,p,L,rfl,_⟩:=h;rfl
 ·obtain⟨a,ps,made,p,L,rfl,ha,hR,hN,hN6,hL1,hL2,hL,hml,hm200,hmp,k⟩:=h;refine⟨_,(Zc (Z3 (Zs (Zi5 hr.units) (pv 0) (Z6 Ze) (Zx _)) (Zh (Zp (Z6 (Za (pv 1) Ze)))) Zy)
   (Zc (Zj (i:=2) scLTexts.nd rfl (.inl rfl) (Z6 Ze))
   (Zc (ZY PassesOwn.never rfl (ZU (Zk (YF rfl) rfl B.sorted Yq (Za (ZC (Jm rfl) rfl B.set ZlM (Za (pv 0) Ze)) Ze))) (ZB (i:=3) scLTexts.nd rfl (.inl rfl))
    (Zh (Z3 (Zs XH (ZF Ym (pv 1) (ZL (Zn ZS (Zn Yz (Zk Zr rfl B.len ZV (Za (pv 1) Ze)) (Zk Zr rfl B.len ZV (Za (pv 3) Ze))) Zg)) ZT) (ZF Ym (pv 3) ZT (ZL (Za4 XI Zg))) (Zx _)) (Zc (Zj (i:=4) scLTexts.nd rfl (.inl rfl) (ZC Xv rfl B.list ZbE (Za (pv 0) Ze)))
   (Zc (Yx (Za5 F.plainAttrs_list F.slot_list_remove F.type_list_remove Zjp (pv 4) (Za (pv 3) Ze)))
   (Zh (Zj (i:=2) scLTexts.nd rfl (.inl rfl) (Zn ZaL (pv 2) (Zq g10_ hr (Za (pv 4) (Za (Zn ZX (pv 1) (ZP ZdK (pv 3) (Za4 XI Zg) (fun _ _=>rfl))) Ze)))))))) Zy)))
   (Zh (Zp (pv 2)))))),?_⟩
  have hl:=hR.len;refine⟨_,rfl,QO _,fun p0 hp0=>?_⟩;have s0:=Zb (o:=.lst []) hp0;refine⟨.list (ps.map PyData.str),.list ([].map PyData.str),Zde (s0 _ _ ha),?_,Zau fun x hx=>(hR.one x hx).2,by decide +kernel,_,rfl,?_⟩
  ·rw[RepD];exact⟨p0,[],rfl,Zd,by rw[We,RepA]⟩
  rw[Zgx];refine ZcZ (fun c=>?_) (fun c=>?_)
  ·have e0:ps=[]:=List.isEmpty_iff.mp c;subst e0;refine⟨_,rfl,Zl (show 1<=1000 by decide),fun p1 hp1=>k _ p1 (s0.trans (Zb hp1)) ?_⟩;rw[Zd,Zfs,Qh,We,WE]
  have hne:ps≠[]:=fun z=>c (by rw[z];rfl);have ha1:=s0 _ _ ha;have s1:=s0;generalize upd H p0 (.lst [])=H1 at s1 ha1;refine⟨Zl (show 0<=1000 by decide),fun pf hpf=>?_⟩;have sf:=Zb (o:=.lst []) hpf;have ha1':=sf _ _ ha1;have hpf':(upd H1 pf (.lst [])) pf=some (.lst []):=Zd;have s1f:=s1.trans sf;generalize upd H1 pf (.lst [])=H1' at sf ha1' hpf' s1f;refine⟨_,rfl,a,ps,rfl,SqL.of ha1',by omega,fun p2 kk0 hp2 hnd hmem hkl=>?_⟩;refine⟨p2,kk0,rfl,Zd,by omega,fun q2 kk hq2 hpm hsrt=>?_⟩;obtain⟨H3,eH3,s3,hq3⟩:=ZhJ (.lst (kk.map V.str)) hp2 hq2;rw[eH3];have hkk:∀ x,x∈kk↔x∈ps:=fun x=>by rw[hpm.mem_iff,hmem]
  have ekk:=Zc7 hsrt hkk;have hall:=Zoc hne p;rw[←ekk]at hall;have hbd:(tl ps p).length<=720:=QY (ZmX _ ps p rfl) (Zgw (by omega));have hlen:∀ i,(ftl ps p (kk.take i)).length<=720:=fun i=>by
   have e1:=ZjV ps p (kk.take i) (kk.drop i);rw[UI,hall]at e1;have:=congrArg Ua e1;rw[Qm]at this;omega
  refine⟨q2,rfl,⟨_,SqL.of hq3⟩,YK (K:=K) (a:=q2) (xs:=kk.map V.str) (fun i σ H4=>Same H3 H4/\∃ (pf:Addr) (z4 z5:Option V),σ=[some (.ref a),some (.str (tx made)),some (.ref pf),z4,z5]/\H4 pf=some (.lst ((ftl ps p (kk.take i)).map fun t=>V.str (tx (made++t)))))
   ⟨Same.refl _,pf,none,none,rfl,s3 _ _ hpf'⟩ (fun i σ H4 _ ⟨s4,_⟩=>SqL.of (s4 _ _ hq3)) ?_ ?_⟩
  ·rintro i x σ H4 hi ⟨s4,pf4,z4,z5,rfl,hpf4⟩;obtain⟨hi',rfl⟩:=YS hi;have etk:kk.take (i+1)=kk.take i++[kk[i]]:=Q5 hi';have hxin:kk[i]∈ps:=(hkk _).mp (QF hi');have hln1:=hlen (i+1);have hln:=hlen i;rw[etk,ZjV]at hln1 ⊢;obtain⟨⟨l1,l2⟩,l3⟩:=hR.one _ hxin;have hxL:=hL _ hxin;generalize kk[i]=x at *;generalize ftl ps p (kk.take i)=tk at *;have ek:((made.length:Int)-(x.length:Int)+1).toNat=made.length-(L-1):=by omega
   refine⟨_,rfl,_,rfl,.str (tx made),made.length,rfl,⟨ZZ (by omega),(Zw made).symm⟩,_,rfl,.str x,x.length,rfl,⟨Z2 l2,rfl⟩,_,_,rfl,rfl,_,_,rfl,rfl,_,rfl,_,rfl,ZZ (by omega),?_⟩;dsimp only;rw[Zbj (by omega) (by omega),ek,hmp,tx_eta];refine⟨_,rfl,_,rfl,_,rfl,_,rfl,Z2 l2,?_⟩;rw[Zad l1];refine⟨rfl,_,rfl,?_⟩;by_cases c:bg x=p
   rotate_left
   ·refine Xa (by simp[Ne.symm c]) ⟨s4,pf4,some (.str x),z5,rfl,?_⟩;rw[Zpv c,WE];exact hpf4
   refine Jp (by rw[c];simp) ?_;have ha4:=s4 _ _ (s3 _ _ ha1');refine⟨_,rfl,a,_,rfl,.inl (SqL.of ha4),fun l5 hl5=>?_⟩;obtain⟨j,hj1,hj2,ej⟩:=Zgu ps hxin;refine⟨_,rfl,.inl ⟨rfl,_,SqL.of Zd⟩,_,rfl,l5,ps,x,j,rfl,rfl,Zd,hj1,hj2,?_⟩;rw[ZbG,ej];have s6:=Zb (o:=.lst ((ps.erase x).map V.str)) hl5;refine⟨_,rfl,_,rfl,_,rfl,_,rfl,_,rfl,x,-1,_,rfl,rfl,Z2 l2,ZnU l1,?_⟩;refine⟨_,_,rfl,rfl,?_,?_⟩
   ·rw[Zw];exact Zv (by show made.length+1<=_;omega)
   have etx:tx made++(⟨#[x.cps.toList.getD (x.length-1) 0]⟩:Str)=tx (made++[ls x]):=JM made [ls x];rw[etx];obtain⟨M,eM⟩:∃ M,M+1=N:=⟨N-1,by have:=WW.mpr hne;omega⟩
   have hel:=QW hxin;refine hsp M eM _ _ _ _ ⟨l5,ps.erase x,made++[ls x],en x,L,rfl,Zd,hR.sub (fun y hy=>Wy hy) (Vd),by omega,by omega,hL1,hL2,fun y hy=>hL y (Wy hy),?_,?_,?_,fun H7 q7 s7 hq7=>?_⟩
   ·rw[Qm];omega
   ·rw[Qm,hel];have:=WW.mpr hne;simp;omega
   ·have hxc:=YJ l1;unfold en;rw[YH,hxc,c,←hmp,Qm,QK];have e5:made.length+1-(L-1)=made.length-(L-1)+1:=by omega
    rw[e5,←U2];have e6:(made++[ls x]).drop (made.length-(L-1))=made.drop (made.length-(L-1))++[ls x]:=Rt (by omega);rw[e6]
   ·rw[ZjU c,Qm,Qc]at hln1;refine⟨pf4,q7,_,_,rfl,rfl,s7 _ _ (s6 _ _ hpf4),hq7,Zl (by rw[Qc,Qc];omega),fun p8 hp8=>?_⟩;refine⟨(s4.trans (s6.trans s7)).trans (Zb hp8),p8,some (.str x),some (.ref l5),rfl,?_⟩;rw[Zd,ZjU c,QH,QC];congr 3;refine Qu fun t _=>?_;show V.str (tx (made++[ls x]++t))=V.str (tx (made++ls x::t));simp
  ·rintro σ H4 ⟨s4,pf4,z4,z5,rfl,hpf4⟩;rw[Qc,QJ (Qk _),hall]at hpf4;exact⟨_,rfl,k _ pf4 ((s1f.trans s3).trans s4) hpf4⟩
theorem Zbr (D:HasDef K mg "_law_texts" ZbZ ["_law_row_here","_law_made"]) (B:Blt mg):∀ N:Nat,FOk P w K mg base (N+2) "_law_texts" ["_law_row_here","_law_made"] (ZbM N)
 | 0=>Zbd (sp:=fun _ _ _ _=>False) D B (fun m e=>by omega) (D.ok (k:=0) scLTexts (fun _ _ _ _ h=>h.elim) fun _ _ _ _ _ _ _ _ _ _ h=>h.elim)
 | N+1=>Zbd D B (fun m e vs H Q E h=>by
   have:m=N:=by omega
   subst this;exact h) (Zbr D B N)
end Sh
namespace L2
open PySem PySem.Spec PyProof.Rows
theorem ZaX {M:Model} {A:Around} {E:Value->Shared->Prop} {nm q nm2 q2:Str} {C N C2 N2:Addr} {bs bm bs2 bm2:List Value} {hdct hdct2:Bool} {sn sn2:List Str} {sub sub2:List Value} {ab ab2:Bool} {col col2:Option Bool} {dd dd2:Option Addr} {k0 k1 k2 k3 k5 j0 j1 j2 j3 j5:Option Value} {nw nw2:String}
  {h:Heap} {g:Array GenState} {d:Drawn} {t:Nat} {os:OsState} {e:Addr} {oe:Obj} {Q:Bool->Shared->Prop} (hC:h.get? C=some (excClassObj nm q C N bs bm hdct sn sub ab col dd k0 k1 k2 k3 k5 nw)) (hC2:h.get? C2=some (excClassObj nm2 q2 C2 N2 bs2 bm2 hdct2 sn2 sub2 ab2 col2 dd2 j0 j1 j2 j3 j5 nw2))
  (he:h.get? e=some oe) (hcls:oe.cls= .ref C) (hb:bm2.contains (.type "BaseException")=true) (g2:(Value.ref C::bm).contains (.ref C2)=true) (hq:Q true ⟨h,g,d,t,os⟩):wpAny M A (excMatches (.ref e) (.ref C2)) Q E ⟨h,g,d,t,os⟩:=by
 have g1:(Value.ref C2::bm2).contains (.type "BaseException")=true:=by rw[Vw,hb,Bool.or_true]
 have g3:=tc_notTuple;unfold excMatches
 repeat (first
  | (with_reducible refine wpAny_loadPart_at he ?_;rw[hcls])
  | with_reducible refine wpAny_loadPart_at hC2 ?_
  | (with_reducible refine wpAny_isSubtype_exc hC2 ?_;rw[g1])
  | (with_reducible refine wpAny_isSubtype_exc hC ?_;rw[g2])
  | wp_step)
 exact hq
def Zp4 (K:PySem.W.Frag) (mg:Str->Option Value) (C2:Addr) (sp:Sp) (t:TA) (hs:Addr->Obj->TS):TS:=fun D σ H=>t σ H fun vs H1=>sp vs H1 (fun _ H2=>D.nx σ H2)
 (fun cls _ H2=>(∃ y C bm,cls= .ref C/\XCls K mg y C bm/\(Value.ref C::bm).contains (.ref C2)=true)/\∀ ea oe,oe.cls=cls->H2 ea=none->hs ea oe D σ H2)
theorem Znq {X:Cx} {k:Nat} {name x:Str} {ps:List Str} {sp:Sp} {p cpos spos np hpos pos:Pos} {e:Expr} {es:List Expr} {t:TA} {C2:Addr} {bm2:List Value} {b₀:Stmt} {suite:List Stmt} {hs:Addr->Obj->TS}
  (hcalm:X.calm=true) (hstk:X.stack=X.env::X.outer) (hfr:X.env.frame=some X.env.locals) (G:FOkX X.prog X.w X.K X.mg X.base k name ps sp) (hr:Room k X.A) (c:XCls X.K X.mg x C2 bm2) (ha:∀ E,PA (X.wish E) (e::es) t)
  (hsuite:∀ ea oe pn,(ea,oe)∈pn->PSs (X.caught ea pn) (b₀::suite) (hs ea oe)) (hg:Gl X name:=by rfl) (hgx:Gl X x:=by rfl)
  (hdb:(name==("__debug__" : Str))=false:=by decide) (hdx:(x==("__debug__" : Str))=false:=by decide) (he:starEach (e::es) X.env=(false,eval e X.env)::starEach es X.env:=by rfl) (hpl:(backTo cpos (starEach es X.env)).any (·.1)=false:=by rfl)
  (hsw:swapsWith (.Call (.Name name p) (e::es) [] cpos) none spos.line X.env=pure false:=by rfl) :
  PS X (.Try [.Expr (.Call (.Name name p) (e::es) [] cpos) spos] [.ExceptHandler (some (.Name x np)) none (b₀::suite) hpos] [] [] pos) (Zp4 X.K X.mg C2 sp t hs):=by
 intro pins s σ H D I h;obtain⟨f,fd,F,b,hm,hkp⟩:=G.ex
 let E0:Value->Shared->Prop:=fun e s₁=>wpAny (model X.prog X.w) X.A (noteFrame e X.env) (fun _ s₂=>wpAny (model X.prog X.w) X.A (setFlight e none)
  (fun _ s₃=>wpAny (model X.prog X.w) X.A (handleBy e X.env [.ExceptHandler (some (.Name x np)) none (b₀::suite) hpos]) (SP X pins D) X.xe s₃) X.xe s₂) X.xe s₁
 refine wpAny_Try_except (wpAny_execs_cons (wpAny_Expr_any ?_ I.quiet hsw));refine wpAny_Call_Name_kw (Zct I hg hm ?_ hdb);refine PySem.W.callWith_K (h₀:=X.base) I.ok.mod.kin hkp (thn (ha E0 cpos pins s σ H _ (I.wish E0) h) fun us s1 ⟨vs,H1,I1',r,q⟩=>⟨I1'.unwish.kIn,?_⟩) he hpl;have I1:=I1'.unwish;have hl:us.length=ps.length:=by rw[←r.length];exact F.len _ _ _ _ q
 have hb1:=b s1 us I1.kIn (by simpa using hl);rw[WE]at hb1;refine wpAny_call (codeAny_mono (F.run X.A X.stack s1 H1 ⟨us,[]⟩ us vs _ _ hr I1.env0 hb1 r q) fun rs s2 hq=>?_);cases rs with
 | ok fl =>
  cases fl with
  | ret u =>
   obtain⟨v,H2,I2,rv,q2⟩:=I1.after hq;exact wpAny_execs_nil (wpAny_execs_nil ⟨σ,H2,I2,q2⟩)
  | next=>exact False.elim hq
  | brk=>exact False.elim hq
  | cont=>exact False.elim hq
 | error ev =>
  obtain⟨ea,cls,a0,H',B,rfl,os,bare,un,hok,fl,c1,c2,c3,⟨y,C,bm,rfl,cy,hsub⟩,hE⟩:=hq;have fl0:Heap.FlyingW B (X.env::X.outer) ea (.ref C) a0 s2.heap:=by rw[←hstk];exact fl
  have nfr:ea∉L2.frs X.stack:=fun hm=>by
   obtain⟨_,o,ho,hd⟩:=fl.2.2.1.mem hm;obtain⟨_,_,_,oe,vs',_,_,_,he',_,hd',_⟩:=fl;rw[he']at ho;cases ho;exact hd _ hd'
  have hfrs:L2.frs X.stack=X.env.locals::X.fs:=by rw[hstk];exact Zgt hfr
  have nloc:ea≠X.env.locals:=fun z=>nfr (by rw[hfrs,z];exact Qi);have nfs:ea∉X.fs:=fun z=>nfr (by rw[hfrs];exact Ql _ z);have nH:H' ea=none:=by
   cases q3:H' ea with
   | none=>rfl
   | some u =>
    obtain⟨o,ho⟩:=c1 ea u q3;rw[fl.2.1]at ho;cases ho
  have key:∀ (h9:Heap) (tk:Nat),B.StaysIn h9->s2.heap.UpToSlots h9->Inv X pins σ H' {s2 with heap:=h9,toks:=tk}:=fun h9 tk hB up=>by
   refine I1.call' (ch:=[]) os ⟨fun b o q n hb _=>hB b o (c2 b o q n hb),fun b o q n hb _=>?_,un.free,fun b o q _=>?_,un.tups,un.frzs,un.tbls⟩ (hok.stays c1 fl.1 hB) bare (fun b z=>nomatch z)
   ·obtain⟨sl,q2⟩:=un.slot b o q n hb (by simp);obtain⟨_,o',ho,hd⟩:=fl.2.2.1.mem (b:=b) hb;rw[q2]at ho;cases ho;obtain⟨sl2,q3⟩:=up b _ q2 hd;exact⟨sl2,q3⟩
   ·by_cases hb:b∈L2.frs X.stack
    ·obtain⟨_,o',ho,hd⟩:=fl.2.2.1.mem (b:=b) hb;obtain⟨sl2,q3⟩:=up b _ ho hd;exact⟨_,q3⟩
    ·obtain⟨o',q3⟩:=c3 b o q hb;exact⟨o',hB b o' q3⟩
  refine wpAny_looks_onW (by rw[←hstk];exact I1.ok.frames) hfr fl0 fun h2 held up2=>wpAny_landsW held fun h3 fl3 up3=>?_;have up23:=up2.trans up3;obtain⟨oe3,ws3,he3,hcls3,hd3,_⟩:=fl3.first;have I3:=key h3 s2.toks fl3.1 up23;have J3:=I3.caught (oe:=oe3) he3 nH nloc nfs (fun v z=>by rw[hd3]at z;cases z);obtain⟨N1,nm1,qn1,bs1,hdct1,sn1,sub1,ab1,col1,dd1,k01,k11,k21,k31,k51,mN1,hC1,_,_,T1⟩:=cy.at I3.kIn;obtain⟨N2,nm2,qn2,bs2,hdct2,sn2,sub2,ab2,col2,dd2,k02,k12,k22,k32,k52,mN2,hC2,_,_,T2⟩:=c.at I3.kIn;refine wpAny_handleBy_cons (codeAny_handlers_test (Zct J3 hgx c.bound ?_ hdx)) (by intro z;cases z);refine ZaX hC1 hC2 he3 hcls3 (T2.hasType PySem.F.excBase_ValueError.hasBase) hsub ?_;refine codeAny_handlers_suite (lands_againW fl3 fun h4 fl4 up4=>?_);obtain⟨oe4,ws4,he4,hcls4,hd4,_⟩:=fl4.first;have I4:=key h4 s2.toks fl4.1 (up23.trans up4);have J4:=I4.caught (oe:=oe4) he4 nH nloc nfs (fun v z=>by rw[hd4]at z;cases z);refine wpAny_mono (hsuite ea oe4 _ (Q4 _ (Qp.mpr rfl)) [] _ _ H' D J4 (hE ea oe4 hcls4 nH)) (fun fl6 s6 q6=>?_) (fun _ _ z=>z.elim);cases fl6 with
  | next =>
   obtain⟨σ6,H6,I6,q7⟩:=q6;exact⟨_,H6,I6.uncaught I.ok,q7⟩
  | brk =>
   obtain⟨σ6,H6,I6,q7⟩:=q6;exact⟨_,H6,I6.uncaught I.ok,q7⟩
  | cont =>
   obtain⟨σ6,H6,I6,q7⟩:=q6;exact⟨_,H6,I6.uncaught I.ok,q7⟩
  | ret u =>
   obtain⟨v6,σ6,H6,I6,r6,q7⟩:=q6;exact⟨v6,_,H6,I6.uncaught I.ok,r6,q7⟩
end L2
namespace Sh
open PySem L2 PyProof.Rows
seal L2.PE L2.PS L2.PSs L2.PT L2.PW L2.PA L2.PI L2.PG L2.PGs L2.PO L2.PC L2.PCs L2.OpR L2.UnR L2.CallR L2.MtR L2.IxR L2.SlR
variable {P:Program} {w:World} {K:PySem.W.Frag} {mg:Str->Option Value} {base:Heap}
variable {cs:List Nat} {h:Heap}
structure ZqK (K:PySem.W.Frag) (mg:Str->Option Value) (C A1:Addr):Prop where
 nd:XCls K mg "NoNumber" C (Zpf K C)
 np:XCls K mg "NoPiece" A1 (Zpf K A1)
theorem ZkX (cs:List Nat) (h:cs.length<=1000):(((cs.map fun c=>tx [c]).map fun x=>x.length).sum)+(cs.map fun c=>tx [c]).length*("" : Str).length<=16777216:=by
 have e0:("" : Str).length=0:=rfl;have es:((cs.map fun c=>tx [c]).map fun x=>x.length).sum<=(cs.map fun c=>tx [c]).length*1:=Zbe _ 1 fun y hy=>by
  obtain⟨c,_,rfl⟩:=Qj.mp hy;rw[Zw];exact Qk _
 rw[e0,Nat.mul_zero];rw[Qc]at es;omega
theorem Zmq {a b:Int} (h:a=b):(!decide (V.int a=V.int b))=false:=by rw[h];simp
def chs (cs:List Nat):List Str:=cs.map fun c=>tx [c]
theorem Zok (h:cs.Pairwise (· < ·)):((chs cs).map fun x=>x.cps.toList).Pairwise (· < ·):=by
 unfold chs;rw[QC,QR];exact List.Pairwise.imp (fun {a b} hab=>lt_one.mpr hab) h
theorem Zkb (h:cs.Pairwise (· < ·)):XW (chs cs)=chs cs:=(Zc7 (Zok h) fun _=>Iff.rfl).symm
theorem ZgE (h:cs.Pairwise (· < ·)):YG (chs cs) "" = chs cs:=by
 unfold YG;rw[Zkb h];refine Rv.mpr fun x hx=>?_;unfold chs at hx;obtain⟨c,_,rfl⟩:=Qj.mp hx;exact decide_eq_true (ZmI c)
theorem ZmH (h:cs≠[]):chs cs≠[]:=fun z=>h (List.map_eq_nil_iff.mp z)
theorem Zft:∀ cs:List Nat,cs.Pairwise (· < ·)->(tl (chs cs) "")[0]?=some cs
 | [],_=>rfl
 | c::cs,h=>by
  rw[Yu (ZmH (RL _ _)),ZgE h];have e1:chs (c::cs)=tx [c]::chs cs:=rfl;have e2:(chs (c::cs)).erase (tx [c])=chs cs:=by rw[e1];exact UN ..
  have:=ZcE (fun k=>(tl ((chs (c::cs)).erase k) (en k)).map fun t=>ls k::t) (chs (c::cs)) 0 (tx [c]) 0 (c::cs) (by rw[e1];rfl) (by
   rw[e2,ZjY,Qd,Zft cs (Wp.mp h).2];rfl)
  exact this
theorem ZhQ:∀ (n:Nat) (cs:List Nat),cs.length=n->cs.Pairwise (· < ·)->(tl (chs cs) "").getLast?=some cs.reverse
 | 0,cs,hl,_=>by
  rw[QU.mp hl];rfl
 | n+1,cs,hl,h=>by
  rcases Rf cs with e | ⟨ds,c,e⟩
  ·rw[e]at hl;cases hl
  have e:cs=ds++[c]:=by rw[e];simp
  subst e;have hp:=Vc.mp h;rw[Yu (ZmH (by simp)),ZgE h];have e1:chs (ds++[c])=chs ds++[tx [c]]:=by unfold chs;rw[QH];rfl
  have hni:tx [c]∉chs ds:=fun q=>by
   unfold chs at q;obtain⟨d,hd,e⟩:=Qj.mp q;have:d=c:=by have:=Zoy e;simpa using this
   have h2:=hp.2.2 d hd c (by simp);omega
  have e2:(chs (ds++[c])).erase (tx [c])=chs ds:=by
   rw[e1,List.erase_append_right _ hni];simp
  have e3:(chs (ds++[c])).flatMap (fun k=>(tl ((chs (ds++[c])).erase k) (en k)).map fun t=>ls k::t)=(chs ds).flatMap (fun k=>(tl ((chs (ds++[c])).erase k) (en k)).map fun t=>ls k::t)++(tl (chs ds) "").map fun t=>c::t:=by
   conv=>lhs;arg 2;rw[e1]
   rw[Rx,Wq,UP,WE,e2,ZjY];rfl
  rw[e3,List.getLast?_append,List.getLast?_map,ZhQ n ds (by rw[Qm]at hl;simpa using hl) hp.1];simp
theorem ZbI (ps:List Str):txs [("" : Str)] ps=tl ps "":=by
 unfold txs;rw[Wq,UP,WE];exact U5 _
def Jn (n:Nat):List Nat:=(Qx n).map fun i=>97+i
theorem ZlR (n:Nat):(Jn n).length=n:=by unfold Jn;simp
theorem ZgJ (n:Nat):(Jn n).Pairwise (· < ·):=by
 unfold Jn;rw[QR];exact List.Pairwise.imp (fun {a b} hab=>by omega) (U6 (n:=n))
theorem Zal (n:Nat):Xn n=chs (Jn n):=by
 unfold Xn chs Jn;rw[QC];rfl
theorem Zlk {n:Nat} (h:1<=n):((tl (Xn n) "").length:Int)=fI n:=by
 have hne:Xn n≠[]:=fun z=>by
  have:=congrArg Ua z;rw[Y6,Uh]at this;omega
 rw[ZkZ (YY n) hne (Zoz (Xn n) ""),Y6]
theorem Zhe (n:Nat):(tl (Xn n) "")[0]?=some (Jn n):=by rw[Zal];exact Zft _ (ZgJ n)
theorem Zjw (n:Nat):(tl (Xn n) "")[(tl (Xn n) "").length-1]?=some (Jn n).reverse:=by
 rw[←List.getLast?_eq_getElem?,Zal];exact ZhQ _ _ rfl (ZgJ n)
theorem Zjv {n:Nat} (h:1<=n) {hp:Es} (hO:Zz (Xn n) hp) {ss:List Str} (hS:SPts hp ss):ss=[("" : Str)]:=by
 have hne:Xn n≠[]:=fun z=>by
  have:=congrArg Ua z;rw[Y6,Uh]at this;omega
 have:=(US hS.pts.nd (show([("" : Str)]:List Str).Nodup by simp)).mpr fun y=>by
  rw[←Ye hO hS,Qp];exact⟨Jc (YY n),fun z=>by rw[z];exact Zi7 (YY n) hne⟩
 exact Vi.mp this
theorem pcs_one (z:List Nat) (h:1<=z.length):pcs z 1=chs z:=by
 unfold pcs chs;rw[show z.length-1+1=z.length by omega];refine Us (by simp) fun i h1 h2=>?_;simp only[Qc,Wh]at h1;rw[Ut,Ut,List.getElem_range,Ww h1];rfl
section
variable {P:Program} {w:World} {K:PySem.W.Frag} {mg:Str->Option Value} {base:Heap} {C A1:Addr}
abbrev ZaB:Stmt:=top 58
abbrev Zjm:List Str:=["_law_heap_here","_law_number","_law_refused_here"]
theorem scLRefused:Zo Zjm ["_law_heap_here","_law_number"] (Zf ZaB):=⟨rfl,rfl,rfl,by decide +kernel,rfl,by decide +kernel,by decide +kernel⟩
def Zl5:Sp:=fun vs H Q _=>∃ (v:V) (ps:List Str) (e:Str×Int) (es:Es) (x:V) (ss:List Str),vs=[v,x]/\Rw H v ps e es/\RowOk ps/\HpAt H v (e::es)/\SPts (e::es) ss/\ZpT H (txs ss ps).length x/\∀ H',Same H H'->Q (.bl true) H'
theorem Zdt (D:HasDef K mg "_law_refused" ZaB ["_law_heap_here","_law_number"]) (Er:ZqK K mg C A1) (G1:FOkX P w K mg base 10 "text_at" ["H","number"] (Zab C)) :
  FOk P w K mg base 11 "_law_refused" ["_law_heap_here","_law_number"] Zl5:=by
 refine D.ok scLRefused (fun vs H Q E h=>?_) (fun f cdv A outer s H vs Q E hr h=>?_)
 ·obtain⟨v,ps,e,es,x,ss,rfl,_⟩:=h;rfl
 ·obtain⟨v,ps,e,es,x,ss,rfl,hRw,hR,hA,hS,hno,k⟩:=h;refine⟨_,(Zc (Zj (i:=2) scLRefused.nd rfl (.inl rfl) ZaI)
   (ZiO (Znq rfl rfl rfl G1 hr Er.nd (fun _=>Za (pv 0) (Za (pv 1) Ze)) (fun ea oe pn hm=>(Zh (Zj (i:=2) scLRefused.nd rfl (.inl rfl) ZaI))))
   (Zh (Zp (pv 2))))),?_⟩
  refine⟨fun σ H'=>∃ a0 a1,σ=[a0,a1,some (.bl true)]/\Same H H',?_,?_⟩
  ·refine⟨_,rfl,_,rfl,v,ps,e,es,x,ss,rfl,hRw,hR,hA,hS,.inr ⟨hno,?_⟩⟩;intro H1 hs1;exact⟨⟨_,_,_,rfl,Er.nd,by rw[Vw];simp⟩,fun ea oe hoe hne=>⟨_,_,rfl,hs1⟩⟩
  ·rintro σ H' ⟨a0,a1,rfl,sH⟩;exact⟨_,rfl,k _ sH⟩
abbrev ZkK:Stmt:=top 59
abbrev Zo9:List Str:=["_law_many","_law_letters_here","_law_turned","_law_heap_here","_law_ways","_law_k","_law_back"]
theorem scLFar:Zo Zo9 ["_law_many"] (Zf ZkK):=⟨rfl,rfl,rfl,by decide +kernel,rfl,by decide +kernel,by decide +kernel⟩
def ZoL:Sp:=fun vs H Q _=>∃ n:Nat,vs=[.int n]/\1<=n/\n<=20/\∀ H',Same H H'->Q (.bl true) H'
theorem Zk3 (D:HasDef K mg "_law_far" ZkK ["_law_many"]) (B:Blt mg) (g33_:FOk P w K mg base 10 "number_of" ["T","long"] Jt) (g11_:FOk P w K mg base 10 "_law_whole" ["_law_found"] Zaq) (g43_:FOkX P w K mg base 10 "text_at" ["H","number"] (Zab C)) :
  FOk P w K mg base 11 "_law_far" ["_law_many"] ZoL:=by
 refine D.ok scLFar (fun vs H Q E h=>?_) (fun f cdv A outer s H vs Q E hr h=>?_)
 ·obtain⟨n,rfl,_⟩:=h;rfl
 ·obtain⟨n,rfl,n1,n20,k⟩:=h;refine⟨_,(Zc (Zj (i:=1) scLFar.nd rfl (.inl rfl) (ZF Ym ZaH ZT (ZL (pv 0))))
   (Zc (Zj (i:=2) scLFar.nd rfl (.inl rfl) (Za5 F.plainAttrs_str F.slot_str_join F.type_str_join ZnM ZaH (Za (ZgX rfl rfl B.list rfl B.rev (pv 1)) Ze)))
   (Zc (Zj (i:=3) scLFar.nd rfl (.inl rfl) (ZC ZE rfl B.tuple YN (Za (ZH (Zf ZkK) Zo9 ["_law_sign"] [] rfl (ZoS (pv 1)) (fun _ _ _ _ _=>Z0 0) (fun _ _ _ _ _=>ZR) (fun _ _ _ _ _=>(YW (Za (pv 0) (Za Zg Ze))))) Ze)))
   (Zc (Zj (i:=4) scLFar.nd rfl (.inl rfl) Zg)
   (Zc (ZY PassesOwn.never rfl (Yj rfl B.range (Za (pv 0) Ze)) (ZB (i:=5) scLFar.nd rfl (.inl rfl))
    (Zh (Zj (i:=4) scLFar.nd rfl (.inl rfl) (Zn JC (pv 4) (Zn ZS (pv 5) Zg)))))
   (Zc (Zj (i:=6) scLFar.nd rfl (.inl rfl) (Zq g33_ hr (Za (pv 2) (Za Zg Ze))))
   (Zc (Z3 (PW.pt (ZiL (JR (ZaD (Zq g11_ hr (Za (pv 6) Ze)))) (ZiL (Zs ZeF (pv 6) (Zn Yz (pv 4) Zg) (Zx _)) (ZfP (Zs ZeF (Zbp g43_ hr (Za (pv 3) (Za (Zn Yz (pv 4) Zg) Ze))) (pv 2) (Zx _)))))) (Zh (Zp ZaI)) Zy)
   (Zh (Zp (ZfY (Zcc XH (Zq g33_ hr (Za (pv 1) (Za Zg Ze))) Zg (Zx _)) (ZfV (Zcc XH (Zbp g43_ hr (Za (pv 3) (Za Zg Ze))) (pv 1) (Zx _))))))))))))),?_⟩
  have hal:=ZlR n;have hrl:(Jn n).reverse.length=n:=by rw[WD];exact hal
  refine⟨_,rfl,_,rfl,abc,rfl,Zl (by decide),?_⟩;rw[Zop (by omega)];show J0 1 (.str (tx (Jn n))) _ _ _;refine⟨rfl,_,rfl,_,rfl,ZZ (by omega),fun p1 hp1=>?_⟩;have s1:=Zb (o:=.lst ((tx (Jn n)).cps.toList.reverse.map fun c=>V.str (tx [c]))) hp1;refine⟨"",p1,(Jn n).reverse.map fun c=>tx [c],rfl,rfl,SqL.of (by rw[Zd,YH,QC];rfl),ZkX _ (by omega),?_⟩;rw[ZjH];generalize upd H p1 (.lst ((tx (Jn n)).cps.toList.reverse.map fun c=>V.str (tx [c])))=H1 at s1;have hcp:(tx (Jn n)).cps.size=n:=by
   show(Jn n).toArray.size=n;rw[Qr,hal]
  have hcg:∀ i,i<n->(⟨#[(tx (Jn n)).cps.getD i 0]⟩:Str)=tx [97+i]:=fun i hi=>by
   have:(tx (Jn n)).cps.getD i 0=97+i:=by
    show(Jn n).toArray.getD i 0=97+i;unfold Jn;simp[hi]
   rw[this];rfl
  refine⟨_,rfl,_,rfl,YB n (fun i=>.str ⟨#[(tx (Jn n)).cps.getD i 0]⟩) (fun i v H=>∃ b,v= .ref b/\H b=some (.tup [.str (tx [97+i]),.int 1])) (Zl (by omega)) (fun i v H H' ts ⟨b,r1,r2⟩=>⟨b,r1,ts _ _ r2⟩) (by have:=Zpq (x:=tx (Jn n)) (H1:=H1);rw[hcp]at this;exact this) ?_ ?_⟩
  ·intro i H14 Qe hi hs kq;refine⟨_,rfl,(show 2<=sizeLine by rw[sizeLine_eq];decide),fun t ht=>kq _ _ (Zb ht) ⟨t,rfl,?_⟩⟩;rw[Zd,hcg i hi]
  intro D1 vs1 H14 hlv1 hr1 hs14 hD1 hDl1;refine⟨D1,vs1,rfl,.inl ⟨SqL.of hDl1,fun l hl0=>?_⟩⟩;have s15:=Zb (o:=.tup vs1) hl0;have hne2:Xn n≠[]:=fun z=>by
   have:=congrArg Ua z;rw[Y6,Uh]at this;omega
  have hA2:HpAt (upd H14 l (.tup vs1)) (.ref l) ((Xn n).map fun x=>(x,(1:Int))):=by
   refine⟨l,vs1,rfl,Zd,by rw[Qc,Y6];exact hlv1,fun i p ep=>?_⟩;have hi:i<n:=by
    have:=(Qn.mp ep).1;rw[Qc,Y6]at this;exact this
   rw[Qd,Zlj hi]at ep;cases ep;obtain⟨b,r1,r2⟩:=hr1 i vs1[i] (Qa (by omega));rw[Qb,Qa (show i<vs1.length by omega)];exact⟨b,r1,s15 _ _ r2⟩
  have s16:=(s1.trans hs14).trans s15;generalize upd H14 l (.tup vs1)=H2 at hA2 s16;obtain⟨e2,es2,ee,hRw⟩:=ZkL (Zcs (show n<=26 by omega)) hne2 hA2 (ZdH n);have hO:=ZdH n;rw[ee]at hA2 hO;obtain⟨ss,hS⟩:∃ ss,SPts (e2::es2) ss:=by
   refine⟨[("" : Str)],by simp,by simp,fun y=>?_,by simp;omega⟩;have hh:=fun g (hg:g∈e2::es2)=>(YY n).one g.1 ((hO.mem g.1).mp (Qj.mpr ⟨g,hg,rfl⟩));rw[Qp];constructor
   ·rintro rfl;exact⟨e2,Qi,.inl (hh e2 Qi).1⟩
   ·rintro⟨g,hg,q | q⟩
    ·rw[←q];exact(hh g hg).1
    ·rw[←q];exact(hh g hg).2
  have ess:=Zjv n1 hO hS;subst ess;have hcnt:=Zlk n1;have hfp:=Zbx n;have hsrt:Srt (tl (Xn n) ""):=ZhO _ _ _ rfl (Zez (Zcs (show n<=26 by omega)));have hfir:=Zhe n;have hlas:=Zjw n;have hRl:=Zcs (show n<=26 by omega)
  -- the number of a row of the letters
  have num:∀ (z:List Nat) (i:Nat),z.length=n->(chs z).Perm (Xn n)->(tl (Xn n) "")[i]?=some z->∀ (n2:Nat) (ss2:List Str),SPts (Xf (pcs z 1)) ss2->(txs ss2 (pcs z 1))[n2]?=some z->n2=i:=fun z i hz hp hi n2 ss2 q1 q2=>by
   rw[pcs_one z (by omega)]at q1 q2;have hOz:=ZdP hO hp;have e:=ZfQ hOz q1 hS;subst e;rw[Zfo hp,ZbI]at q2;exact Zh6 hsrt q2 hi
  have prow:∀ z:List Nat,z.length=n->(chs z).Perm (Xn n)->RowOk (pcs z 1):=fun z hz hp=>by
   rw[pcs_one z (by omega)];exact ZfH hRl hp
  have hp1':(chs (Jn n).reverse).Perm (Xn n):=by
   rw[Zal];unfold chs;exact(List.reverse_perm _).map _
  have hp2':(chs (Jn n)).Perm (Xn n):=by rw[Zal]
  refine⟨_,rfl,n,rfl,by omega,by omega,?_⟩;rw[Wn];refine Y0 (n:=n) (fun i σ H13=>H13=H2/\∃ z5:Option V,σ=[some (.int n),some (.str (tx (Jn n))),some (.str (tx (Jn n).reverse)),some (.ref l),some (.int (fI i)),z5,none])
   ⟨rfl,none,rfl⟩ ?_ ?_
  ·rintro i σ H13 hi ⟨rfl,z11,rfl⟩;refine⟨_,rfl,_,rfl,_,_,rfl,rfl,_,_,rfl,rfl,⟨(Zhl (by omega)).big (by decide),?_⟩,rfl,some (.int (0+(i:Int))),?_⟩
   ·exact Sm.big (k:=6) (by show(0+(i:Int)+1).natAbs<2 ^ 6;omega) (by decide)
   ·have e1:fI (((i+1:Nat)):Int)=fI i*(0+(i:Int)+1):=by
     rw[Uf,←Zof];rfl
    rw[e1];rfl
  ·rintro σ H13 ⟨rfl,z11,rfl⟩;have hfI:fI (n:Int)-1=(((tl (Xn n) "").length-1:Nat):Int):=by omega
   refine⟨_,rfl,(Jn n).reverse,1,rfl,by decide,by omega,by omega,prow _ hrl hp1',fun H17 n2 ss2 s17 q1 q2=>?_⟩;have en2:=num _ _ hrl hp1' hlas n2 ss2 q1 q2;refine⟨_,rfl,.int _,"int",rfl,.int _,_,rfl,Xa rfl ?_⟩;refine⟨_,rfl,_,rfl,_,_,rfl,rfl,rfl,_,rfl,Xa (Zmq (by rw[en2,hfI])) ?_⟩;refine⟨_,rfl,_,rfl,_,_,rfl,rfl,?_⟩;dsimp only;rw[hfI];refine⟨.ref l,Xn n,e2,es2,_,[("" : Str)],rfl,hRw.same s17,hRl,hA2.same s17.tup,hS,.inl ⟨_,_,rfl,by rw[ZbI];exact hlas,fun H18 s18=>?_⟩⟩;refine⟨_,rfl,rfl,_,rfl,Xa (by simp) ?_⟩;refine⟨_,rfl,Jn n,1,rfl,by decide,by omega,by omega,prow _ hal hp2',fun H19 n3 ss3 s19 q3 q4=>?_⟩;have en3:=num _ _ hal hp2' hfir n3 ss3 q3 q4;subst en3;refine⟨rfl,_,rfl,Jp rfl ?_⟩;have s79:=(s17.trans s18).trans s19;refine⟨_,rfl,.ref l,Xn n,e2,es2,_,[("" : Str)],rfl,hRw.same s79,hRl,hA2.same s79.tup,hS,.inl ⟨0,_,rfl,by rw[ZbI];exact hfir,fun H20 s20=>?_⟩⟩;refine⟨_,rfl,rfl,?_⟩;have e9:decide (V.str (tx (Jn n))=V.str (tx (Jn n)))=true:=by simp
   rw[e9];exact k _ (s16.trans (s79.trans s20))
end
theorem Zo6 {a b:Str} (h:a=b):(!decide (V.str a=V.str b))=false:=by rw[h];simp
theorem Zna {t:TS} {D:Zhx} {σ σ':L2.St} {H:Hp} (e:σ=σ') (h:t D σ' H):t D σ H:=e▸h
theorem Zn6 {i:Nat} {v:V} {k:L2.St->Hp->Prop} {σ σ':L2.St} {H:Hp} (e:σ.set i (some v)=σ') (h:k σ' H):J0 i v σ H k:=by
 show k (σ.set i (some v)) H;rw[e];exact h
theorem ZmW (ss tt ps:List Str):txs (ss++tt) ps=txs ss ps++txs tt ps:=by
 unfold txs;rw[Rx]
theorem ZmU (p:Str) (ps:List Str):txs [p] ps=(tl ps p).map fun t=>p.cps.toList++t:=by
 unfold txs;rw[Wq,UP,WE]
theorem Zox {ss ps:List Str} (h:ps.length<=6):(txs ss ps).length<=ss.length*720:=by
 unfold txs;refine Ze2 ss fun p _=>?_;rw[Qc];exact QY (ZmX _ ps p rfl) (Zgw h)
theorem txv (l:List (List Nat)):(l.map fun t=>V.str (tx t))=(l.map tx).map V.str:=by rw[QC];rfl
theorem ZlY {l:List (List Nat)} (h:Srt l):((l.map tx).map fun x=>x.cps.toList).Pairwise (· < ·):=by
 rw[QC];have:(l.map ((fun x:Str=>x.cps.toList) ∘ tx))=l:=by
  conv=>rhs;rw[←U5 l]
  exact Qu fun t _=>YH t
 rw[this];exact h
theorem Zkv {a b:List Str} (h1:(a.map fun x=>x.cps.toList).Pairwise (·<=·)) (h2:(b.map fun x=>x.cps.toList).Pairwise (· < ·)) (p:a.Perm b):a=b:=by
 have nd:a.Nodup:=p.nodup_iff.mpr (Zbi h2);have h1':(a.map fun x=>x.cps.toList).Pairwise (· < ·):=Zga nd h1;have e:=Ys h1' h2 fun z=>by
  rw[Qj,Qj];constructor
  ·rintro⟨x,hx,q⟩;exact⟨x,p.mem_iff.mp hx,q⟩
  ·rintro⟨x,hx,q⟩;exact⟨x,p.mem_iff.mpr hx,q⟩
 refine Us p.length_eq fun i i1 i2=>?_;have:(a.map fun x=>x.cps.toList)[i]?=(b.map fun x=>x.cps.toList)[i]?:=by rw[e]
 rw[Qd,Qd,Qa i1,Qa i2]at this;exact ZJ (Option.some.inj this)
abbrev ZkI:Stmt:=top 60
abbrev Zrg:List Str:=["_law_script","_law_deck_here","_law_row_here","_law_heap_here","_law_texts_here","_law_point","_law_places","_law_k","_law_at","_law_found","_law_back"]
theorem scLaw:Zo Zrg ["_law_script"] (Zf ZkI):=⟨rfl,rfl,rfl,by decide +kernel,rfl,by decide +kernel,by decide +kernel⟩
def Zkw (K:PySem.W.Frag):Sp:=fun vs H Q _=>∃ (a:Addr) (ns:List Int),vs=[.ref a]/\SqL K H a (ns.map V.int)/\ns.length<=63/\∀ H',Q (.bl true) H'
theorem Zo4 {C fa:Addr} {fd:FuncData} (Fl:Fun K "law" "law" ZkI fa fd) (B:Blt mg) (g0_:FOk P w K mg base 11 "_law_deck" ["_law_script","_law_many"] (Zl9 K)) (g8_:FOk P w K mg base 11 "_law_row" ["_law_deck_here","_law_most"] Zic) (g3_:FOk P w K mg base 11 "_law_heap" ["_law_pieces"] (ZfC K)) (g1_:FOk P w K mg base 11 "_law_far" ["_law_many"] ZoL)
  (g6_:FOk P w K mg base 11 "_law_points" ["_law_row_here"] (Zl6 K)) (g10_:FOk P w K mg base 11 "_law_texts" ["_law_row_here","_law_made"] (ZbM 6)) (g7_:FOk P w K mg base 11 "_law_refused" ["_law_heap_here","_law_number"] Zl5) (g43_:FOkX P w K mg base 11 "text_at" ["H","number"] (Zab C))
  (g33_:FOk P w K mg base 11 "number_of" ["T","long"] Jt) (g11_:FOk P w K mg base 11 "_law_whole" ["_law_found"] Zaq) :
  FnOk P w K mg base CX0 12 fa fd ["_law_script"] (Zkw K):=by
 refine Fl.ok scLaw (fun vs H Q E h=>?_) (fun cdv A outer s H vs Q E hr h=>?_)
 ·obtain⟨a,ns,rfl,_⟩:=h;rfl
 ·obtain⟨a,ns,rfl,ha,hl,k⟩:=h;refine⟨_,(Zc (Zj (i:=1) scLaw.nd rfl (.inl rfl) (Zq g0_ hr (Za (pv 0) (Za Zg Ze))))
   (Zc (Zj (i:=2) scLaw.nd rfl (.inl rfl) (Zq g8_ hr (Za (pv 1) (Za Zg Ze))))
   (Zc (Zj (i:=3) scLaw.nd rfl (.inl rfl) (Zq g3_ hr (Za (pv 2) Ze)))
   (Zc (Z3 (JR (ZaD (Zq g1_ hr (Za (Zn ZS Zg (Zn ZQ (Xk F.plainAttrs_list F.slot_list_pop F.type_list_pop YA (pv 1)) Zg)) Ze)))) (Zh (Zp ZaI)) Zy)
   (Zc (Zj (i:=4) scLaw.nd rfl (.inl rfl) (Z6 Ze))
   (Zc (ZY PassesOwn.never rfl (ZU (Zq g6_ hr (Za (pv 2) Ze))) (ZB (i:=5) scLaw.nd rfl (.inl rfl))
    (Zh (Zj (i:=4) scLaw.nd rfl (.inl rfl) (Zn ZaL (pv 4) (Zq g10_ hr (Za (pv 2) (Za (pv 5) Ze)))))))
   (Zc (Zj (i:=4) scLaw.nd rfl (.inl rfl) (Zk ZcO rfl B.sorted Yq (Za (pv 4) Ze)))
   (Zc (Z3 (JR (ZaD (Zq g7_ hr (Za (pv 3) (Za (Zk Zr rfl B.len ZV (Za (pv 4) Ze)) Ze))))) (Zh (Zp ZaI)) Zy)
   (Zc (Z3 (Zs (Zi5 hr.units) (pv 4) (Z6 Ze) (Zx _)) (Zh (Zp ZaI)) Zy)
   (Zc (Zj (i:=6) scLaw.nd rfl (.inl rfl) (Z6 (Za Zg (Za (Zn Yz (Zk Zr rfl B.len ZV (Za (pv 4) Ze)) Zg) Ze))))
   (Zc (ZY PassesOwn.never rfl (Yj rfl B.range (Za Zg Ze)) (ZB (i:=7) scLaw.nd rfl (.inl rfl))
    (Zh (Yx (Za5 F.plainAttrs_list F.slot_list_append F.type_list_append Yt (pv 6) (Za (Zn ZQ (Xk F.plainAttrs_list F.slot_list_pop F.type_list_pop YA (pv 1)) (Zk Zr rfl B.len ZV (Za (pv 4) Ze))) Ze)))))
   (Zc (ZY PassesOwn.never rfl (ZU (pv 6)) (ZB (i:=8) scLaw.nd rfl (.inl rfl))
    (Zc (Zj (i:=9) scLaw.nd rfl (.inl rfl) (Zbp g43_ hr (Za (pv 3) (Za (pv 8) Ze))))
   (Zc (Z3 (PW.pt (ZiL (JR (ZaD (Zk Xw rfl B.isi Zki (Za (pv 9) (Za (ZiW rfl B.str ZqF) Ze))))) (ZfP (Zs ZeF (pv 9) (ZP ZO (pv 4) (pv 8) (fun _ _=>rfl)) (Zx _))))) (Zh (Zp ZaI)) Zy)
   (Zc (Zj (i:=10) scLaw.nd rfl (.inl rfl) (Zq g33_ hr (Za (ZP ZO (pv 4) (pv 8) (fun _ _=>rfl)) (Za (Zk Zr rfl B.len ZV (Za (ZP ZO (pv 2) Zg (fun _ _=>rfl)) Ze)) Ze))))
   (Zh (Z3 (PW.pt (ZiL (JR (ZaD (Zq g11_ hr (Za (pv 10) Ze)))) (ZfP (Zs ZeF (pv 10) (pv 8) (Zx _))))) (Zh (Zp ZaI)) Zy))))))
   (Zh (Zp ZaI)))))))))))))),?_⟩
  refine⟨_,rfl,a,ns,20,rfl,ha,hl,by decide,fun Dk H1 s1 hD1=>?_⟩;refine⟨_,rfl,Dk,10,5,rfl,by decide,by decide,hD1,fun p2 H2 ps sb2 hD2 hp2 hR hne hpd hl6=>?_⟩;clear sb2 hD1 s1;have hlen:=hR.len;have hlp:=Zn8 hne;refine⟨_,rfl,p2,ps,ps,rfl,SqL.of hp2,by omega,by omega,fun x hx=>hx,fun v4 H4 hp s4 hA hO=>?_⟩;obtain⟨e,es,rfl,hRw⟩:=ZkL hR hne hA hO;have hp4:=s4 _ _ hp2;obtain⟨ns1,c1,hDn1,c10,c11,hD5⟩:=(hD2.same s4).pop;refine⟨_,rfl,.inl ⟨rfl,_,SqL.of hDn1⟩,Dk,_,.int c1,rfl,rfl,hDn1,Yo ns1 c1,?_⟩;rw[Yp];have m20:=ZW c1 (show(0:Int)<20 by decide);obtain⟨nf,enf⟩:∃ n:Nat,1+c1 % 20=(n:Int):=⟨(1+c1 % 20).toNat,by omega⟩
  have hv4D:∀ o,(upd H4 Dk o)=upd H4 Dk o:=fun _=>rfl;have sbD:SB Dk H4 (upd H4 Dk (.lst (ns1.map V.int))):=SB.upd;have hA5:HpAt (upd H4 Dk (.lst (ns1.map V.int))) v4 (e::es):=by
   refine hA.same fun b xs q=>?_;refine sbD b _ (fun z=>?_) q;rw[z,hDn1]at q;cases q
  have hp5:(upd H4 Dk (.lst (ns1.map V.int))) p2=some (.lst (ps.map V.str)):=sbD _ _ hpd hp4;generalize upd H4 Dk (.lst (ns1.map V.int))=H5 at hA5 hp5 hD5;have hRw5:Rw H5 v4 ps e es:=⟨Zan hA5,hRw.hO,hRw.hF,hRw.hW,hRw.hn⟩
  clear hRw hA hp4 hDn1 sbD hD2 hp2 hv4D;refine⟨_,_,rfl,rfl,(by show(0:Int)<20;decide),_,_,rfl,rfl,?_⟩;dsimp only;rw[enf];refine⟨nf,rfl,by omega,by omega,fun H6 s6=>⟨_,rfl,Xa rfl ?_⟩⟩;have hp6:=s6 _ _ hp5;have hD6:=hD5.same s6;refine⟨Zl (show 0<=1000 by decide),fun pf hpf=>?_⟩;have sf:=Zb (o:=.lst []) hpf;have hpf':(upd H6 pf (.lst [])) pf=some (.lst []):=Zd;have s67:=s6.trans sf;have hp7:=sf _ _ hp6;have hD7:=hD6.same sf;generalize upd H6 pf (.lst [])=H7 at sf hpf' s67 hp7 hD7;have hpx:∀ x∈ps,1<=x.length/\x.length<=1000:=fun x hx=>(hR.one x hx).1;refine⟨_,rfl,p2,Xf ps,rfl,SqL.of (by rw[Zk1];exact hp7),Zi8 (by omega) hpx,fun pp H8 ss s8 hS1 hpp=>?_⟩;have hS:SPts (e::es) ss:=by
   refine⟨hS1.srt,hS1.pts.nd,fun y=>?_,?_⟩
   ·rw[hS1.pts.mem];constructor
    ·rintro⟨g,hg,q⟩;unfold Xf at hg;obtain⟨x,hx,rfl⟩:=Qj.mp hg;obtain⟨g2,hg2,eg⟩:=Qj.mp ((hO.mem x).mpr hx);exact⟨g2,hg2,by rw[eg];exact q⟩
    ·rintro⟨g,hg,q⟩;exact⟨_,Jd ((hO.mem g.1).mp (Qj.mpr ⟨g,hg,rfl⟩)),q⟩
   ·have:=Yh (B:=(e::es).map (fun g=>bg g.1)++(e::es).map fun g=>en g.1) hS1.pts.nd fun y hy=>by
     obtain⟨g,hg,q⟩:=(hS1.pts.mem y).mp hy;unfold Xf at hg;obtain⟨x,hx,rfl⟩:=Qj.mp hg;obtain⟨g2,hg2,eg⟩:=Qj.mp ((hO.mem x).mpr hx);rw[QE,Qj,Qj];rcases q with q | q
     ·exact .inl ⟨g2,hg2,by rw[eg];exact q⟩
     ·exact .inr ⟨g2,hg2,by rw[eg];exact q⟩
    rw[Qm,Qc,Qc]at this;omega
  obtain⟨L,L1,L12,hL⟩:=hR.same;have hssl:ss.length<=31:=hRw5.hn _ hS;have hp8:=s8 _ _ hp7;have hpf8:=s8 _ _ hpf';have hD8:=hD7.same s8;have s58:=s67.trans s8;have hbd:∀ i,(txs (ss.take i) ps).length<=22320:=fun i=>by
   have h1:=Zox (ss:=ss.take i) (ps:=ps) hl6;have h2:(ss.take i).length<=31:=by rw[QB];omega
   have:=Rq 720 h2;omega
  refine⟨pp,rfl,⟨_,SqL.of hpp⟩,YK (K:=K) (a:=pp) (xs:=ss.map V.str) (fun i σ H9=>Same H8 H9/\∃ (pf:Addr) (z5:Option V),σ=[some (.ref a),some (.ref Dk),some (.ref p2),some v4,some (.ref pf),z5,none,none,none,none,none]/\H9 pf=some (.lst ((txs (ss.take i) ps).map fun t=>V.str (tx t))))
   ⟨Same.refl _,pf,none,rfl,hpf8⟩ (fun i σ H9 _ ⟨s9,_⟩=>SqL.of (s9 _ _ hpp)) ?_ ?_⟩
  ·rintro i x σ H9 hi ⟨s9,pf9,z5,rfl,hpf9⟩;obtain⟨hi',rfl⟩:=YS hi;have etk:ss.take (i+1)=ss.take i++[ss[i]]:=Q5 hi';have hxin:ss[i]∈ss:=QF hi';have hb1:=hbd (i+1);rw[etk,ZmW,ZmU]at hb1 ⊢;have hxl:=ZiN hO hS hL _ hxin;generalize ss[i]=x at *;refine⟨_,rfl,_,rfl,_,rfl,p2,ps,x.cps.toList,x,L,by rw[tx_eta];rfl,s9 _ _ hp8,hR,by omega,by decide,L1,by omega,hL,by rw[ZD];omega,by rw[ZD];omega,by rw[ZD,hxl,WN,U1],fun H10 q10 s10 hq10=>?_⟩;rw[Qm,Qc]at hb1;refine⟨pf9,q10,_,_,rfl,rfl,s10 _ _ hpf9,hq10,Zv (by rw[Qc,Qc];omega),fun p11 hp11=>?_⟩;refine⟨(s9.trans s10).trans (Zb hp11),p11,some (.str x),rfl,?_⟩;rw[Zd,QH,QC];rfl
  ·rintro σ H9 ⟨s9,pf9,z5,rfl,hpf9⟩;rw[Qc,QJ (Qk _),txv]at hpf9;have hsrt:=Zkp hO hS hL hR;have hbd2:=hbd ss.length;rw[QJ (Qk _)]at hbd2;have htr:∀ (n:Nat) (t:List Nat),(txs ss ps)[n]?=some t->t.length=L-1+ps.length/\(pcs t L).Perm ps:=fun n t h=>Zkr hO hS L1 hL hne h;refine⟨_,rfl,pf9,(txs ss ps).map tx,rfl,SqL.of hpf9,by rw[Qc];omega,ZlY hsrt,fun q10 ss' hq10 hpm hle=>?_⟩;have ess:=Zkv hle (ZlY hsrt) hpm;subst ess;have s10:=Zb (o:=.lst (((txs ss ps).map tx).map V.str)) hq10;have hq10':(upd H9 q10 (.lst (((txs ss ps).map tx).map V.str))) q10=some (.lst (((txs ss ps).map tx).map V.str)):=Zd;have s910:=s9.trans s10;generalize upd H9 q10 (.lst (((txs ss ps).map tx).map V.str))=H10 at s10 hq10' s910;have hp10:=s910 _ _ hp8;have hD10:=hD8.same s910;have s510:=s58.trans s910;have hRw10:=hRw5.same s510;have hA10:=hA5.same s510.tup;have hcod:∀ x∈(txs ss ps).map tx,PyData.strOk x=true:=fun x hx=>by
    obtain⟨t,ht,rfl⟩:=Qj.mp hx;obtain⟨n,hn⟩:=List.getElem?_of_mem ht;obtain⟨q1,q2⟩:=htr n t hn;unfold PyData.strOk;rw[←UO,Ur];intro c hc;rw[YH]at hc;obtain⟨m1,m2⟩:=Jl L1 (t.length-L) t (by omega);have hin:∃ x∈pcs t L,c∈x.cps.toList:=by
     rw[m2.1]at hc;rcases QE.mp hc with z | z
     ·cases ep:pcs t L with
      | nil=>rw[ep]at m2;simp at m2
      | cons w ws =>
       rw[ep]at m1;refine⟨w,Qi,?_⟩;have hwL:=hL w (q2.mem_iff.mp (by rw[ep];exact Qi));rw[YJ (by omega),m1.1,YH];exact Q0 _ z
     ·obtain⟨w,hw,rfl⟩:=Qj.mp z;refine⟨w,hw,?_⟩;have hwL:=hL w (q2.mem_iff.mp hw);rw[YJ (by omega)];exact Q4 _ (Qp.mpr rfl)
    obtain⟨x,hx,hcx⟩:=hin;have:=(hR.one x (q2.mem_iff.mp hx)).2;unfold PyData.strOk at this;rw[←UO,Ur]at this;exact this c hcx
   have hget:∀ i:Nat,i<(txs ss ps).length->∃ t,(txs ss ps)[i]?=some t:=fun i hi=>⟨_,Qa hi⟩
   clear hpm hle hbd hpf9 s9 hq10 s10 hpf8 hD8 hD7 hD6 hD5 s58 s67;generalize hTX:txs ss ps=TX at *;first | refine Zn6 (σ':=[some (.ref a),some (.ref Dk),some (.ref p2),some v4,some (.ref q10),z5,none,none,none,none,none]) rfl ?_ | refine Zna (σ':=[some (.ref a),some (.ref Dk),some (.ref p2),some v4,some (.ref q10),z5,none,none,none,none,none]) rfl ?_
   refine⟨_,rfl,_,rfl,.ref q10,_,rfl,.inl ⟨_,SqL.of hq10',rfl⟩,v4,ps,e,es,_,ss,rfl,hRw10,hR,hA10,hS,by rw[hTX,Qc,Qc];exact .high (UV _),fun H11 s11=>⟨_,rfl,Xa rfl ?_⟩⟩;have hq11:=s11 _ _ hq10';refine⟨_,rfl,QO _,fun p0 hp0=>?_⟩;have s12:=Zb (o:=.lst []) hp0;refine⟨.list ((TX.map tx).map PyData.str),.list ([].map PyData.str),Zde (s12 _ _ hq11),?_,Zau hcod,by decide +kernel,_,rfl,?_⟩
   ·rw[RepD];exact⟨p0,[],rfl,Zd,by rw[We,RepA]⟩
   rw[Zgx];refine ZcZ (fun c=>k _) (fun c=>?_);have hTn:TX≠[]:=fun z=>c (by rw[z];rfl);have hTl:=WW.mpr hTn;have Mpos:(0:Int)<(TX.length:Int):=by omega
   have s1012:=s11.trans s12;have hq12:=s12 _ _ hq11;generalize upd H11 p0 (.lst [])=H12 at s12 hq12 s1012;refine⟨_,rfl,.ref q10,_,rfl,.inl ⟨_,SqL.of hq12,rfl⟩,_,_,rfl,rfl,Zl (show 2<=1000 by decide),fun pl hpl=>?_⟩;have s13:=Zb (o:=.lst [V.int 0,V.int ((((TX.map tx).map V.str).length:Int)-1)]) hpl;have e13:upd H12 pl (.lst [V.int 0,V.int ((((TX.map tx).map V.str).length:Int)-1)])=upd H12 pl (.lst (([0,(TX.length:Int)-1]:List Int).map V.int)):=by rw[Qc,Qc];rfl
   have hpl':(upd H12 pl (.lst (([0,(TX.length:Int)-1]:List Int).map V.int))) pl=some (.lst (([0,(TX.length:Int)-1]:List Int).map V.int)):=Zd;dsimp only;rw[e13]at s13 ⊢;have s1013:=s1012.trans s13;generalize upd H12 pl (.lst (([0,(TX.length:Int)-1]:List Int).map V.int))=H13 at s13 hpl' s1013;have hD13:=hD10.same s1013;have hplD:pl≠Dk:=fun z=>by
    obtain⟨xs,hx,_⟩:=hD10.same s1012;rw[←z,hpl]at hx;cases hx
   refine⟨4,rfl,by decide,by decide,?_⟩;refine Y0 (n:=4) (fun i σ H14=>∃ (z7:Option V) (ms:List Int),σ=[some (.ref a),some (.ref Dk),some (.ref p2),some v4,some (.ref q10),z5,some (.ref pl),z7,none,none,none]/\(∀ b u,b≠Dk->b≠pl->H10 b=some u->H14 b=some u)/\DK H14 Dk (9-i)/\H14 pl=some (.lst (ms.map V.int))/\ms.length<=2+i/\∀ m∈ms,0<=m/\m<(TX.length:Int))
    ⟨none,[0,(TX.length:Int)-1],rfl,fun b u _ _ q=>s1013 b u q,hD13.less (by omega),hpl',by simp,fun m hm=>?_⟩ ?_ ?_
   ·rcases QA.mp hm with z | z
    ·omega
    ·rw[Qp.mp z];omega
   ·rintro i σ H14 hi ⟨z7,ms,rfl,s14,hD14,hpl14,hml,hms⟩;have hD14':DK H14 Dk (9-(i+1)+1):=hD14.less (by omega);obtain⟨ns2,c2,hDn2,c20,c21,hD15⟩:=hD14'.pop;have hq10D:q10≠Dk:=fun z=>by
     obtain⟨xs,hx,_⟩:=hD10;rw[←z,hq10']at hx;have:=Option.some.inj hx;injection this with this
     cases hTT:TX with
     | nil=>exact hTn hTT
     | cons t0 T0 =>
      rw[hTT,Qh,Qh]at this;cases xs with
      | nil=>cases this
      | cons x0 xs =>
       rw[Qh]at this;injection this with this _
       cases this
    have hq10p:q10≠pl:=fun z=>by
     have:=s12 _ _ hq11;rw[z]at hq12;rw[hpl]at hq12;cases hq12
    refine⟨_,rfl,.inl ⟨rfl,_,SqL.of hpl14⟩,_,rfl,.inl ⟨rfl,_,SqL.of hDn2⟩,Dk,_,.int c2,rfl,rfl,hDn2,Yo ns2 c2,?_⟩;rw[Yp];have hq15:(upd H14 Dk (.lst (ns2.map V.int))) q10=some (.lst ((TX.map tx).map V.str)):=by rw[Zi hq10D];exact s14 _ _ hq10D hq10p hq10'
    have hpl15:(upd H14 Dk (.lst (ns2.map V.int))) pl=some (.lst (ms.map V.int)):=by rw[Zi hplD];exact hpl14
    have s15:∀ b u,b≠Dk->b≠pl->H10 b=some u->(upd H14 Dk (.lst (ns2.map V.int))) b=some u:=fun b u q1 q2 q=>by rw[Zi q1];exact s14 b u q1 q2 q
    generalize upd H14 Dk (.lst (ns2.map V.int))=H15 at hD15 hq15 hpl15 s15;have hll:((TX.map tx).map V.str).length=TX.length:=by rw[Qc,Qc]
    refine⟨_,rfl,.ref q10,_,rfl,.inl ⟨_,SqL.of hq15,rfl⟩,_,_,rfl,rfl,by rw[hll];exact Mpos,?_⟩;have mb:=ZW c2 Mpos;refine⟨pl,_,_,rfl,rfl,hpl15,ZM (by rw[Qc];omega),?_⟩;refine⟨_,ms++[c2 % (TX.length:Int)],rfl,fun b u q1 q2 q=>by rw[Zi q2];exact s15 b u q1 q2 q,?_,?_,by rw[Qm];simp;omega,fun m hm=>?_⟩
    ·obtain⟨xs,hx,h2⟩:=hD15;exact⟨xs,by rw[Zi (Ne.symm hplD)];exact hx,h2⟩
    ·rw[Zd,QH,hll];rfl
    ·rcases QE.mp hm with z | z
     ·exact hms m z
     ·rw[Qp.mp z];exact mb
   ·rintro σ H14 ⟨z7,ms,rfl,s14,hD14,hpl14,hml,hms⟩;have hq10D:q10≠Dk:=fun z=>by
     obtain⟨xs,hx,_⟩:=hD10;rw[←z,hq10']at hx;have:=Option.some.inj hx;injection this with this
     cases hTT:TX with
     | nil=>exact hTn hTT
     | cons t0 T0 =>
      rw[hTT,Qh,Qh]at this;cases xs with
      | nil=>cases this
      | cons x0 xs =>
       rw[Qh]at this;injection this with this _
       cases this
    have hq10p:q10≠pl:=fun z=>by
     rw[z]at hq12;rw[hpl]at hq12;cases hq12
    have hq14:=s14 _ _ hq10D hq10p hq10';have hp2p:p2≠pl:=fun z=>by
     have:=s1012 _ _ hp10;rw[z,hpl]at this;cases this
    have hp14:=s14 _ _ hpd hp2p hp10;have hA14:HpAt H14 v4 (e::es):=by
     refine hA10.same fun b xs q=>?_;refine s14 b _ (fun z=>?_) (fun z=>?_) q
     ·obtain⟨xs2,hx,_⟩:=hD10;rw[z,hx]at q;cases q
     ·have:=s1012 _ _ q;rw[z,hpl]at this;cases this
    have hRw14:Rw H14 v4 ps e es:=⟨Zan hA14,hRw10.hO,hRw10.hF,hRw10.hW,hRw10.hn⟩
    refine⟨_,rfl,pl,rfl,⟨_,SqL.of hpl14⟩,YK (K:=K) (a:=pl) (xs:=ms.map V.int) (fun i σ H15=>Same H14 H15/\∃ (z8 z9 z10:Option V),σ=[some (.ref a),some (.ref Dk),some (.ref p2),some v4,some (.ref q10),z5,some (.ref pl),z7,z8,z9,z10])
     ⟨Same.refl _,none,none,none,rfl⟩ (fun i σ H15 _ ⟨s15,_⟩=>SqL.of (s15 _ _ hpl14)) ?_ ?_⟩
    ·rintro i x σ H15 hi ⟨s15,z8,z9,z10,rfl⟩;obtain⟨hi',rfl⟩:=YS hi;have hm:=hms _ (QF hi');generalize ms[i]=m at hm;obtain⟨mn,emn⟩:∃ n:Nat,m=(n:Int):=⟨m.toNat,by omega⟩
     subst emn;obtain⟨t,ht⟩:=hget mn (by omega);obtain⟨q1,q2⟩:=htr mn t ht;have hmt:mn<(TX.map tx).length:=by rw[Qc];omega
     have eat:(TX.map tx)[mn]=tx t:=by
      rw[Ut];congr 1;exact Option.some.inj ((Qa (by omega)).symm.trans ht)
     refine⟨_,rfl,_,rfl,v4,ps,e,es,_,ss,rfl,hRw14.same s15,hR,hA14.same s15.tup,hS,.inl ⟨mn,t,rfl,by rw[hTX];exact ht,fun H16 s16=>?_⟩⟩;have s1516:=s15.trans s16;refine⟨_,rfl,.str (tx t),"str","str",rfl,by decide,.str _,_,rfl,Xa (by decide) ?_⟩;refine⟨_,rfl,_,rfl,_,rfl,q10,_,_,_,rfl,rfl,SqL.of (s1516 _ _ hq14),ZgH hmt,rfl,_,rfl,Xa (Zo6 eat.symm) ?_⟩;have h0:0<ps.length:=by omega
     have hL0:=hL _ (QF h0);refine⟨_,rfl,_,rfl,q10,_,_,_,rfl,rfl,SqL.of (s1516 _ _ hq14),ZgH hmt,?_⟩;refine⟨_,rfl,p2,_,0,_,rfl,rfl,SqL.of (s1516 _ _ hp14),ZgH h0,.str ps[0],_,rfl,⟨Z2 (by omega),rfl⟩,?_⟩;rw[eat,hL0];refine⟨t,L,rfl,L1,by omega,by omega,ZfH hR q2,fun H17 n17 ss17 s17 hS17 h17=>?_⟩;have ess:=ZfQ (ZdP hO q2) hS17 hS;subst ess;rw[Zfo q2,hTX]at h17;have en:=Zh6 hsrt h17 ht;subst en;refine⟨_,rfl,.int _,"int",rfl,.int _,_,rfl,Xa rfl ?_⟩;exact⟨_,rfl,_,rfl,rfl,_,rfl,Xa (Zmq rfl) ⟨s1516.trans s17,_,_,_,rfl⟩⟩
    ·rintro σ H15 ⟨s15,z8,z9,z10,rfl⟩;exact k _
open PySem L2
theorem blt_mk {K:PySem.W.Frag} {mg:Str->Option Value} (X:K.In h) (G:h.Ns mainGlobals mg) (z0:PySem.W.nsIn K mainGlobals "isinstance" = some none) (z1:PySem.W.nsIn K mainGlobals "int" = some none) (z2:PySem.W.nsIn K mainGlobals "bool" = some none) (z3:PySem.W.nsIn K mainGlobals "len" = some none) (z4:PySem.W.nsIn K mainGlobals "range" = some none) (z5:PySem.W.nsIn K mainGlobals "list" = some none) (z6:PySem.W.nsIn K mainGlobals "tuple" = some none) (z7:PySem.W.nsIn K mainGlobals "enumerate" = some none) (z8:PySem.W.nsIn K mainGlobals "sum" = some none) (z9:PySem.W.nsIn K mainGlobals "sorted" = some none) (z10:PySem.W.nsIn K mainGlobals "set" = some none) (z11:PySem.W.nsIn K mainGlobals "max" = some none) (z12:PySem.W.nsIn K mainGlobals "min" = some none) (z13:PySem.W.nsIn K mainGlobals "reversed" = some none) (z14:PySem.W.nsIn K mainGlobals "zip" = some none) (z15:PySem.W.nsIn K mainGlobals "str" = some none) (z16:PySem.W.nsIn K mainGlobals "dict" = some none):Blt mg :=
 ⟨PySem.W.mg_none_of X G z0,PySem.W.mg_none_of X G z1,PySem.W.mg_none_of X G z2,PySem.W.mg_none_of X G z3,PySem.W.mg_none_of X G z4,PySem.W.mg_none_of X G z5,PySem.W.mg_none_of X G z6,PySem.W.mg_none_of X G z7,PySem.W.mg_none_of X G z8,PySem.W.mg_none_of X G z9,PySem.W.mg_none_of X G z10,PySem.W.mg_none_of X G z11,PySem.W.mg_none_of X G z12,PySem.W.mg_none_of X G z13,PySem.W.mg_none_of X G z14,PySem.W.mg_none_of X G z15,PySem.W.mg_none_of X G z16⟩
theorem er_mk {K:PySem.W.Frag} {mg:Str->Option Value} {C A1:Addr} (X:K.In h) (G:h.Ns mainGlobals mg)
  (th:PySem.W.nsIn K mainGlobals "NoNumber" = some (some (.ref C))) (g1:PySem.W.nsIn K mainGlobals "NoPiece" = some (some (.ref A1)))
  (qh:PySem.W.excIn K C ZqM "ValueError.__new__" = true) (q1:PySem.W.excIn K A1 ZqM "ValueError.__new__" = true):ZqK K mg C A1 :=
 ⟨Zhz (PySem.W.mg_of X G th) qh,Zhz (PySem.W.mg_of X G g1) q1⟩
theorem all_mk {l:PySem.W.OpenLaw} {w:World} {K:PySem.W.Frag} {mg:Str->Option Value} {fa f0:Addr} (X:K.In h) (G:h.Ns mainGlobals mg) (hfa:mg "law" = some (.ref fa)) {oc kV dc pm cd ct:Value} {od an:Option Addr} {sl:Array (Option Value)}
  (B:Blt mg) {C A1:Addr} (Er:ZqK K mg C A1)
  (D0:HasDef K mg "begin_of" Zb5 ["piece"])
  (D1:HasDef K mg "end_of" ZiF ["piece"])
  (D2:HasDef K mg "points_of" Xi ["H"])
  (D3:HasDef K mg "outs_of" ZbW ["H","P"])
  (D4:HasDef K mg "more_out" ZbX ["H"])
  (D5:HasDef K mg "begins_of" X7 ["H"])
  (D6:HasDef K mg "ends_of" Zb2 ["H"])
  (D7:HasDef K mg "place_of_head" Xj ["rows"])
  (D8:HasDef K mg "lessened" X5 ["row","head","divisor"])
  (D9:HasDef K mg "worth_of" X3 ["table"])
  (D10:HasDef K mg "tied_points" XQ ["H"])
  (D11:HasDef K mg "part_of" Zeu ["H"])
  (D12:HasDef K mg "hangs" ZiE ["H"])
  (D13:HasDef K mg "has_many_begins" Yf ["H"])
  (D14:HasDef K mg "has_text" Zb1 ["H"])
  (D15:HasDef K mg "row_numbers" XR ["H","root"])
  (D16:HasDef K mg "tree_table" YU ["H","root"])
  (D17:HasDef K mg "trees_of" ZbV ["H","root"])
  (D18:HasDef K mg "factorial" Jx ["number"])
  (D19:HasDef K mg "orders_to" Zaz ["H","end"])
  (D20:HasDef K mg "starts_of" Zay ["H"])
  (D21:HasDef K mg "count_from" Jy ["H","P"])
  (D22:HasDef K mg "count_of" Zah ["H"])
  (D23:HasDef K mg "nexts_of" Zag ["H","P"])
  (D24:HasDef K mg "is_whole" Zb0 ["thing"])
  (D25:HasDef K mg "in_rows" Zey ["manys"])
  (D26:HasDef K mg "counted" Zb3 ["pieces"])
  (D27:HasDef K mg "pieces_of" X4 ["T","long"])
  (D28:HasDef K mg "less_one" ZbY ["H","piece"])
  (D29:HasDef K mg "count_on" Zb4 ["H","point"])
  (D30:HasDef K mg "counts_by_sign" Y3 ["H","point"])
  (D31:HasDef K mg "counts_by_point" Yg ["H"])
  (D32:HasDef K mg "picked" Zet ["counts","number"])
  (D33:HasDef K mg "text_at" Zes ["H","number"])
  (D34:HasDef K mg "count_ahead" Y4 ["counts","chosen"])
  (D35:HasDef K mg "number_of" ZaA ["T","long"])
  (D36:HasDef K mg "_law_mixed" Zex ["_law_row_here","_law_k"])
  (D37:HasDef K mg "_law_deck" ZiD ["_law_script","_law_many"])
  (D38:HasDef K mg "_law_letters" ZaC ["_law_deck_here","_law_few_here"])
  (D39:HasDef K mg "_law_signs" Zew ["_law_deck_here","_law_some","_law_long"])
  (D40:HasDef K mg "_law_few" ZgU ["_law_deck_here","_law_most"])
  (D41:HasDef K mg "_law_row" ZkJ ["_law_deck_here","_law_most"])
  (D42:HasDef K mg "_law_whole" Zev ["_law_found"])
  (D43:HasDef K mg "_law_heap" ZfF ["_law_pieces"])
  (D44:HasDef K mg "_law_points" X6 ["_law_row_here"])
  (D45:HasDef K mg "_law_texts" ZbZ ["_law_row_here","_law_made"])
  (D46:HasDef K mg "_law_refused" ZaB ["_law_heap_here","_law_number"])
  (D47:HasDef K mg "_law_far" ZkK ["_law_many"])
  (a0:PySem.W.nsIn K mainGlobals "law" = some (some (.ref f0))) (l0:K.lookup f0=some ⟨oc,od,.func (PySem.W.fnOf "law" "law" (Xs ZkI) (Yl ZkI) (Zf ZkI) .none kV dc pm an cd ct),sl⟩) (c0:PySem.W.codeIn K cd "law" = true) (k0:PySem.W.keepIn K (.ref f0)=true) :
  ∃ fd:FuncData,(∀ (s:Shared) (v:Value),BindsTo s fd ⟨[v],[]⟩ [("_law_script",v)])/\∀ base:Heap,K.In base->base.Ns mainGlobals mg->FnOk l.prog w K mg base CX0 12 fa fd ["_law_script"] (Zkw K):=by
 have e:=hfa.symm.trans (PySem.W.mg_of X G a0);cases e;refine⟨PySem.W.fnOf "law" "law" (Xs ZkI) (Yl ZkI) (Zf ZkI) .none kV dc pm an cd ct,fun s v=>.of_eq rfl,fun base _ _=>?_⟩;have W0:=ZeR (P:=l.prog) (w:=w) (base:=base) D0;have W1:=Zjc (P:=l.prog) (w:=w) (base:=base) D1;have W2:=Zdp (P:=l.prog) (w:=w) (base:=base) D2 B W0 W1;have W3:=Zg1 (P:=l.prog) (w:=w) (base:=base) D3 B W0;have W4:=ZeK (P:=l.prog) (w:=w) (base:=base) D4 W0 W1;have W5:=Zdy (P:=l.prog) (w:=w) (base:=base) D5 B W4;have W6:=Zg7 (P:=l.prog) (w:=w) (base:=base) D6 B W4;have W7:=JX (P:=l.prog) (w:=w) (base:=base) D7 B;have W8:=ZeL (P:=l.prog) (w:=w) (base:=base) D8 B;have W9:=ZeH (P:=l.prog) (w:=w) (base:=base) D9 B W7 W8;have W10:=Za6 (P:=l.prog) (w:=w) (base:=base) D10 W0 W1;have W11:=Zg0 (P:=l.prog) (w:=w) (base:=base) D11 B (W0.mono (by decide)) W10;have W12:=Zk4 (P:=l.prog) (w:=w) (base:=base) D12 B W11 (W2.mono (by decide));have W13:=Zdw (P:=l.prog) (w:=w) (base:=base) D13 B W5;have W14:=Zdv (P:=l.prog) (w:=w) (base:=base) D14 B W12 W13;have W15:=Za7 (P:=l.prog) (w:=w) (base:=base) D15 B W2;have W16:=Zcf (P:=l.prog) (w:=w) (base:=base) D16 B W15 (W0.mono (by decide)) (W1.mono (by decide));have W17:=ZeI (P:=l.prog) (w:=w) (base:=base) D17 B W16 (W9.mono (by decide));have W18:=Zdx (P:=l.prog) (w:=w) (base:=base) D18 B;have W19:=Zdr (P:=l.prog) (w:=w) (base:=base) D19 B W17 (W3.mono (by decide)) (W18.mono (by decide)) (W2.mono (by decide));have W20:=Zcg (P:=l.prog) (w:=w) (base:=base) D20 B W14 (W5.mono (by decide)) (W2.mono (by decide));have W21:=Za8 (P:=l.prog) (w:=w) (base:=base) D21 B W20 (W6.mono (by decide)) W19 (W18.mono (by decide));have W22:=ZeQ (P:=l.prog) (w:=w) (base:=base) D22 B (W20.mono (by decide)) W21;have W23:=ZeJ (P:=l.prog) (w:=w) (base:=base) D23 B W0;have W24:=ZeO (P:=l.prog) (w:=w) (base:=base) D24 B;have W25:=Zg6 (P:=l.prog) (w:=w) (base:=base) D25 B;have W26:=Zg8 (P:=l.prog) (w:=w) (base:=base) D26 B W25;have W27:=Zdq (P:=l.prog) (w:=w) (base:=base) D27 B;have W28:=ZeM (P:=l.prog) (w:=w) (base:=base) D28 B B.dict Er.np (W25.mono (by decide));have W29:=ZeP (P:=l.prog) (w:=w) (base:=base) D29 B W21;have W30:=JD (P:=l.prog) (w:=w) (base:=base) D30 B (W23.mono (by decide)) (W28.mono (by decide)) (W1.mono (by decide)) W29;have W31:=Je (P:=l.prog) (w:=w) (base:=base) D31 B (W2.mono (by decide)) W21;have W32:=Zi9 (P:=l.prog) (w:=w) (base:=base) D32;have W33:=ZgZ (P:=l.prog) (w:=w) (base:=base) D33 B Er.nd (W24.mono (by decide)) (W22.mono (by decide)) (W31.mono (by decide)) (W32.mono (by decide)) W30 (W28.mono (by decide)) (W1.mono (by decide));have W34:=Za9 (P:=l.prog) (w:=w) (base:=base) D34 B;have W35:=Zds (P:=l.prog) (w:=w) (base:=base) D35 B (W27.mono (by decide)) (W26.mono (by decide)) (W31.mono (by decide)) (W34.mono (by decide)) (W0.mono (by decide)) W30 (W28.mono (by decide));have W36:=Zg5 (P:=l.prog) (w:=w) (base:=base) D36 B;have W37:=Zjb (P:=l.prog) (w:=w) (base:=base) D37 B W36;have W38:=Zdu (P:=l.prog) (w:=w) (base:=base) D38 B;have W39:=Zg3 (P:=l.prog) (w:=w) (base:=base) D39 B;have W40:=Zk2 (P:=l.prog) (w:=w) (base:=base) D40 B W38 W39;have W41:=Zg4 (P:=l.prog) (w:=w) (base:=base) D41 B (W38.mono (by decide)) (W39.mono (by decide)) W40;have W42:=Zg2 (P:=l.prog) (w:=w) (base:=base) D42 B;have W43:=Zja (P:=l.prog) (w:=w) (base:=base) D43 B;have W44:=ZeN (P:=l.prog) (w:=w) (base:=base) D44 B;have W45:=Zbr (P:=l.prog) (w:=w) (base:=base) D45 B 6;have W46:=Zdt (P:=l.prog) (w:=w) (base:=base) D46 Er W33;have W47:=Zk3 (P:=l.prog) (w:=w) (base:=base) D47 B W35 (W42.mono (by decide)) W33;exact Zo4 (ZjT (st:=ZkI) l0 c0 k0) B (W37.mono (by decide)) (W41.mono (by decide)) (W43.mono (by decide)) W47 (W44.mono (by decide)) (W45.mono (by decide)) W46 (W33.mono (by decide)) (W35.mono (by decide)) (W42.mono (by decide))
theorem walk {l:PySem.W.OpenLaw} {q:Program} {loose:List Str} {XP:(Str->Option Value)->Heap->Prop} {YP:World->Heap->Prop} {d:DefRec} {K:Params->PySem.W.Frag} (hn:l.most=some 63) (hdf:d.params.defaults=[])
  (hY:∀ (w:World) (h:Heap),YP w h->(K w.params).In h)
  (F:∀ (w:World) (mg:Str->Option Value) (fa:Addr) (h:Heap),(K w.params).In h->h.Ns mainGlobals mg->mg d.name=some (.ref fa) ->
   ∃ fd:FuncData,(∀ (s:Shared) (u:Value),BindsTo s fd ⟨[u],[]⟩ [("_law_script",u)])/\∀ base:Heap,(K w.params).In base->base.Ns mainGlobals mg->FnOk l.prog w (K w.params) mg base CX0 12 fa fd ["_law_script"] (Zkw (K w.params))) :
  PySem.W.WalkO q loose XP YP l.row.toRowW d [] (fun f vs=>PySem.call f vs) :=
 L2.walk_of (n:=63) (k:=12) (x:="_law_script") (CX:=fun _=>CX0) (sp:=fun w=>Zkw (K w.params)) hn (by decide) hdf ⟨rfl,by decide,by decide⟩ hY F (fun _ _ a ns hl _ hS=>⟨a,ns,rfl,hS,hl,fun _=>rfl⟩) fun _ _ _ _ _ z=>z
end Sh
def PySem.W.Fast.tw3876106243202523814:Unit:=()
def PySem.W.Fast.tw2295265874535794293:Unit:=()
def PySem.W.Fast.tw3703834450024669877:Unit:=()
def PySem.W.Fast.tw8091705279419363521:Unit:=()
def PySem.W.Fast.tw14840036957708423483:Unit:=()
def PySem.W.Fast.tw2097501125610761038:Unit:=()
def PySem.W.Fast.tw156618626473489737:Unit:=()
def PySem.W.Fast.tw16215161291439348124:Unit:=()
def PySem.W.Fast.tw3688057427324722354:Unit:=()
def PySem.W.Fast.tw17960260863050219473:Unit:=()
def PySem.W.Fast.tw788088405866823041:Unit:=()
def PySem.W.Fast.tw6119750334588672596:Unit:=()
def PySem.W.Fast.tw10618866233935675306:Unit:=()
def PySem.W.Fast.tw6961074283788951085:Unit:=()
def PySem.W.Fast.tw4976901148141999763:Unit:=()
def PySem.W.Fast.tw15394708305229596839:Unit:=()
def PySem.W.Fast.tw15162803700194665443:Unit:=()
def PySem.W.Fast.tw9688969838975364897:Unit:=()
def PySem.W.Fast.tw8139418717598662544:Unit:=()
def PySem.W.Fast.tw18016806840088726841:Unit:=()
def PySem.W.Fast.tw3804713496368672996:Unit:=()
def PySem.W.Fast.tw14477811836651634604:Unit:=()
def PySem.W.Fast.tw13543438454086992585:Unit:=()
def PySem.W.Fast.tw2379687187294375013:Unit:=()
def PySem.W.Fast.tw1513351228542089176:Unit:=()
def PySem.W.Fast.tw16334986073110645729:Unit:=()
def PySem.W.Fast.tw4433216067648695097:Unit:=()
def PySem.W.Fast.tw17684505486065334809:Unit:=()
def PySem.W.Fast.tw11155623302998116896:Unit:=()
def PySem.W.Fast.tw7891372779647276157:Unit:=()
def PySem.W.Fast.tw17381201174926676646:Unit:=()
def PySem.W.Fast.tw5386575862993063909:Unit:=()
def PySem.W.Fast.tw13562347561429720934:Unit:=()
def PySem.W.Fast.tw6982825529798519899:Unit:=()
def PySem.W.Fast.tw11696759986476482969:Unit:=()
def PySem.W.Fast.tw13546744821748280281:Unit:=()
def PySem.W.Fast.tw8696327238902489620:Unit:=()
def PySem.W.Fast.tw9648492828438125850:Unit:=()
def PySem.W.Fast.tw13828414902824928047:Unit:=()
def PySem.W.Fast.tw8163833075750286307:Unit:=()
def PySem.W.Fast.tw496075890363073170:Unit:=()
def PySem.W.Fast.tw3733831334246726636:Unit:=()
def PySem.W.Fast.tw5266745274593247422:Unit:=()
def PySem.W.Fast.tw5190808255426139475:Unit:=()
def PySem.W.Fast.tw2968483689196006219:Unit:=()
def PySem.W.Fast.tw2091160860036358953:Unit:=()
def PySem.W.Fast.tw499243277634757950:Unit:=()
def PySem.W.Fast.tw15862773444574901054:Unit:=()
def PySem.W.Fast.tw4234280851508143647:Unit:=()
def PySem.W.Fast.tw1717173537143961182:Unit:=()
def PySem.W.Fast.tw8510967372845904976:Unit:=()
def PySem.W.Fast.tw4955161084248483532:Unit:=()
def PySem.W.Fast.tw5933829585971005367:Unit:=()
def PySem.W.Fast.tw3974612371727721249:Unit:=()
def PySem.W.Fast.tw13589471388610047821:Unit:=()
def PySem.W.Fast.tw16256093063740818057:Unit:=()
def PySem.W.Fast.tw4942880871120373657:Unit:=()
def PySem.W.Fast.tw7581598883159495176:Unit:=()
def PySem.W.Fast.tw17804013382872891848:Unit:=()
def PySem.W.Fast.tw4838101416445835970:Unit:=()
def PySem.W.Fast.tw17145955946770389157:Unit:=()
def PySem.W.Fast.tw13167526161413354303:Unit:=()
def PySem.W.Fast.tw15378779949267524701:Unit:=()
def PySem.W.Fast.tw6702519671776891991:Unit:=()
def PySem.W.Fast.tw13847304175500049676:Unit:=()
def PySem.W.Fast.tw13832087572090806280:Unit:=()
def PySem.W.Fast.tw9985213075500503449:Unit:=()
def PySem.W.Fast.tw962619043713754338:Unit:=()
def PySem.W.Fast.tw14491956058389856922:Unit:=()
def PySem.W.Fast.tw14811138854689588906:Unit:=()
def PySem.W.Fast.tw11077307444357184246:Unit:=()
def PySem.W.Fast.tw14558041590890328458:Unit:=()
def PySem.W.Fast.tw14415023546563890112:Unit:=()
def PySem.W.Fast.tw17612027015443029656:Unit:=()
def PySem.W.Fast.tw11930376212900318255:Unit:=()
def PySem.W.Fast.tw14611669987904601291:Unit:=()
def PySem.W.Fast.tw14317159354459384830:Unit:=()
def PySem.W.Fast.tw9881098935094558545:Unit:=()
def PySem.W.Fast.tw14113932173024630372:Unit:=()
def PySem.W.Fast.tw9211699462319782085:Unit:=()
def PySem.W.Fast.tw1511708431443536302:Unit:=()
def PySem.W.Fast.tw3647115449522668539:Unit:=()
def PySem.W.Fast.tw13126021741990630928:Unit:=()
def PySem.W.Fast.tw7709942145838369720:Unit:=()
def PySem.W.Fast.tw10205692676711362482:Unit:=()
def PySem.W.Fast.tw116438841245321936:Unit:=()
def PySem.W.Fast.tw14686330158169246417:Unit:=()
def PySem.W.Fast.tw926125151782416666:Unit:=()
def PySem.W.Fast.tw17709413356881214369:Unit:=()
def PySem.W.Fast.tw16205700894699304144:Unit:=()
def PySem.W.Fast.tw1821766572109427435:Unit:=()
open PySem PySem.W PyProof.Rows
set_option maxRecDepth 100000 in
theorem PySem.Challenge.cw_shredjoin_k42_whole_all_numbers_holds : PySem.Challenge.rw_shredjoin_k42_whole_all_numbers.Holds := by
 w_on; o_law; k_head; (case hw => w_witness2)
 k_fill
 refine Sh.walk (l := PySem.Challenge.rw_shredjoin_k42_whole_all_numbers) rfl rfl (fun w h Y => PySem.W.kIn_of Y) ?F
 case F =>
  intro w mg fa h KX G hmg
  refine' Sh.all_mk KX G hmg ?B ?Er ?D0 ?D1 ?D2 ?D3 ?D4 ?D5 ?D6 ?D7 ?D8 ?D9 ?D10 ?D11 ?D12 ?D13 ?D14 ?D15 ?D16 ?D17 ?D18 ?D19 ?D20 ?D21 ?D22 ?D23 ?D24 ?D25 ?D26 ?D27 ?D28 ?D29 ?D30 ?D31 ?D32 ?D33 ?D34 ?D35 ?D36 ?D37 ?D38 ?D39 ?D40 ?D41 ?D42 ?D43 ?D44 ?D45 ?D46 ?D47 ?a0 ?l0 ?c0 ?k0
  case B =>
   refine' Sh.blt_mk KX G ?z0 ?z1 ?z2 ?z3 ?z4 ?z5 ?z6 ?z7 ?z8 ?z9 ?z10 ?z11 ?z12 ?z13 ?z14 ?z15 ?z16
   (case z0 => k_is); (case z1 => k_is); (case z2 => k_is); (case z3 => k_is); (case z4 => k_is); (case z5 => k_is); (case z6 => k_is); (case z7 => k_is); (case z8 => k_is); (case z9 => k_is); (case z10 => k_is); (case z11 => k_is); (case z12 => k_is); (case z13 => k_is); (case z14 => k_is); (case z15 => k_is); (case z16 => k_is)
  case Er =>
   refine' Sh.er_mk KX G ?th ?g1 ?qh ?q1
   (case th => k_is); (case g1 => k_is); (case qh => k_exc); (case q1 => k_exc)
  case D0 =>
   refine' L2.hasDef_mk KX G ?a ?l ?c ?k ?b
   (case a => k_is); (case l => k_is); (case c => k_is); (case k => k_is)
   case b => exact fun _ _ _ _ _ _ us hl => match us, hl with | [_], _ => rfl
  case D1 =>
   refine' L2.hasDef_mk KX G ?a ?l ?c ?k ?b
   (case a => k_is); (case l => k_is); (case c => k_is); (case k => k_is)
   case b => exact fun _ _ _ _ _ _ us hl => match us, hl with | [_], _ => rfl
  case D2 =>
   refine' L2.hasDef_mk KX G ?a ?l ?c ?k ?b
   (case a => k_is); (case l => k_is); (case c => k_is); (case k => k_is)
   case b => exact fun _ _ _ _ _ _ us hl => match us, hl with | [_], _ => rfl
  case D3 =>
   refine' L2.hasDef_mk KX G ?a ?l ?c ?k ?b
   (case a => k_is); (case l => k_is); (case c => k_is); (case k => k_is)
   case b => exact fun _ _ _ _ _ _ us hl => match us, hl with | [_, _], _ => rfl
  case D4 =>
   refine' L2.hasDef_mk KX G ?a ?l ?c ?k ?b
   (case a => k_is); (case l => k_is); (case c => k_is); (case k => k_is)
   case b => exact fun _ _ _ _ _ _ us hl => match us, hl with | [_], _ => rfl
  case D5 =>
   refine' L2.hasDef_mk KX G ?a ?l ?c ?k ?b
   (case a => k_is); (case l => k_is); (case c => k_is); (case k => k_is)
   case b => exact fun _ _ _ _ _ _ us hl => match us, hl with | [_], _ => rfl
  case D6 =>
   refine' L2.hasDef_mk KX G ?a ?l ?c ?k ?b
   (case a => k_is); (case l => k_is); (case c => k_is); (case k => k_is)
   case b => exact fun _ _ _ _ _ _ us hl => match us, hl with | [_], _ => rfl
  case D7 =>
   refine' L2.hasDef_mk KX G ?a ?l ?c ?k ?b
   (case a => k_is); (case l => k_is); (case c => k_is); (case k => k_is)
   case b => exact fun _ _ _ _ _ _ us hl => match us, hl with | [_], _ => rfl
  case D8 =>
   refine' L2.hasDef_mk KX G ?a ?l ?c ?k ?b
   (case a => k_is); (case l => k_is); (case c => k_is); (case k => k_is)
   case b => exact fun _ _ _ _ _ _ us hl => match us, hl with | [_, _, _], _ => rfl
  case D9 =>
   refine' L2.hasDef_mk KX G ?a ?l ?c ?k ?b
   (case a => k_is); (case l => k_is); (case c => k_is); (case k => k_is)
   case b => exact fun _ _ _ _ _ _ us hl => match us, hl with | [_], _ => rfl
  case D10 =>
   refine' L2.hasDef_mk KX G ?a ?l ?c ?k ?b
   (case a => k_is); (case l => k_is); (case c => k_is); (case k => k_is)
   case b => exact fun _ _ _ _ _ _ us hl => match us, hl with | [_], _ => rfl
  case D11 =>
   refine' L2.hasDef_mk KX G ?a ?l ?c ?k ?b
   (case a => k_is); (case l => k_is); (case c => k_is); (case k => k_is)
   case b => exact fun _ _ _ _ _ _ us hl => match us, hl with | [_], _ => rfl
  case D12 =>
   refine' L2.hasDef_mk KX G ?a ?l ?c ?k ?b
   (case a => k_is); (case l => k_is); (case c => k_is); (case k => k_is)
   case b => exact fun _ _ _ _ _ _ us hl => match us, hl with | [_], _ => rfl
  case D13 =>
   refine' L2.hasDef_mk KX G ?a ?l ?c ?k ?b
   (case a => k_is); (case l => k_is); (case c => k_is); (case k => k_is)
   case b => exact fun _ _ _ _ _ _ us hl => match us, hl with | [_], _ => rfl
  case D14 =>
   refine' L2.hasDef_mk KX G ?a ?l ?c ?k ?b
   (case a => k_is); (case l => k_is); (case c => k_is); (case k => k_is)
   case b => exact fun _ _ _ _ _ _ us hl => match us, hl with | [_], _ => rfl
  case D15 =>
   refine' L2.hasDef_mk KX G ?a ?l ?c ?k ?b
   (case a => k_is); (case l => k_is); (case c => k_is); (case k => k_is)
   case b => exact fun _ _ _ _ _ _ us hl => match us, hl with | [_, _], _ => rfl
  case D16 =>
   refine' L2.hasDef_mk KX G ?a ?l ?c ?k ?b
   (case a => k_is); (case l => k_is); (case c => k_is); (case k => k_is)
   case b => exact fun _ _ _ _ _ _ us hl => match us, hl with | [_, _], _ => rfl
  case D17 =>
   refine' L2.hasDef_mk KX G ?a ?l ?c ?k ?b
   (case a => k_is); (case l => k_is); (case c => k_is); (case k => k_is)
   case b => exact fun _ _ _ _ _ _ us hl => match us, hl with | [_, _], _ => rfl
  case D18 =>
   refine' L2.hasDef_mk KX G ?a ?l ?c ?k ?b
   (case a => k_is); (case l => k_is); (case c => k_is); (case k => k_is)
   case b => exact fun _ _ _ _ _ _ us hl => match us, hl with | [_], _ => rfl
  case D19 =>
   refine' L2.hasDef_mk KX G ?a ?l ?c ?k ?b
   (case a => k_is); (case l => k_is); (case c => k_is); (case k => k_is)
   case b => exact fun _ _ _ _ _ _ us hl => match us, hl with | [_, _], _ => rfl
  case D20 =>
   refine' L2.hasDef_mk KX G ?a ?l ?c ?k ?b
   (case a => k_is); (case l => k_is); (case c => k_is); (case k => k_is)
   case b => exact fun _ _ _ _ _ _ us hl => match us, hl with | [_], _ => rfl
  case D21 =>
   refine' L2.hasDef_mk KX G ?a ?l ?c ?k ?b
   (case a => k_is); (case l => k_is); (case c => k_is); (case k => k_is)
   case b => exact fun _ _ _ _ _ _ us hl => match us, hl with | [_, _], _ => rfl
  case D22 =>
   refine' L2.hasDef_mk KX G ?a ?l ?c ?k ?b
   (case a => k_is); (case l => k_is); (case c => k_is); (case k => k_is)
   case b => exact fun _ _ _ _ _ _ us hl => match us, hl with | [_], _ => rfl
  case D23 =>
   refine' L2.hasDef_mk KX G ?a ?l ?c ?k ?b
   (case a => k_is); (case l => k_is); (case c => k_is); (case k => k_is)
   case b => exact fun _ _ _ _ _ _ us hl => match us, hl with | [_, _], _ => rfl
  case D24 =>
   refine' L2.hasDef_mk KX G ?a ?l ?c ?k ?b
   (case a => k_is); (case l => k_is); (case c => k_is); (case k => k_is)
   case b => exact fun _ _ _ _ _ _ us hl => match us, hl with | [_], _ => rfl
  case D25 =>
   refine' L2.hasDef_mk KX G ?a ?l ?c ?k ?b
   (case a => k_is); (case l => k_is); (case c => k_is); (case k => k_is)
   case b => exact fun _ _ _ _ _ _ us hl => match us, hl with | [_], _ => rfl
  case D26 =>
   refine' L2.hasDef_mk KX G ?a ?l ?c ?k ?b
   (case a => k_is); (case l => k_is); (case c => k_is); (case k => k_is)
   case b => exact fun _ _ _ _ _ _ us hl => match us, hl with | [_], _ => rfl
  case D27 =>
   refine' L2.hasDef_mk KX G ?a ?l ?c ?k ?b
   (case a => k_is); (case l => k_is); (case c => k_is); (case k => k_is)
   case b => exact fun _ _ _ _ _ _ us hl => match us, hl with | [_, _], _ => rfl
  case D28 =>
   refine' L2.hasDef_mk KX G ?a ?l ?c ?k ?b
   (case a => k_is); (case l => k_is); (case c => k_is); (case k => k_is)
   case b => exact fun _ _ _ _ _ _ us hl => match us, hl with | [_, _], _ => rfl
  case D29 =>
   refine' L2.hasDef_mk KX G ?a ?l ?c ?k ?b
   (case a => k_is); (case l => k_is); (case c => k_is); (case k => k_is)
   case b => exact fun _ _ _ _ _ _ us hl => match us, hl with | [_, _], _ => rfl
  case D30 =>
   refine' L2.hasDef_mk KX G ?a ?l ?c ?k ?b
   (case a => k_is); (case l => k_is); (case c => k_is); (case k => k_is)
   case b => exact fun _ _ _ _ _ _ us hl => match us, hl with | [_, _], _ => rfl
  case D31 =>
   refine' L2.hasDef_mk KX G ?a ?l ?c ?k ?b
   (case a => k_is); (case l => k_is); (case c => k_is); (case k => k_is)
   case b => exact fun _ _ _ _ _ _ us hl => match us, hl with | [_], _ => rfl
  case D32 =>
   refine' L2.hasDef_mk KX G ?a ?l ?c ?k ?b
   (case a => k_is); (case l => k_is); (case c => k_is); (case k => k_is)
   case b => exact fun _ _ _ _ _ _ us hl => match us, hl with | [_, _], _ => rfl
  case D33 =>
   refine' L2.hasDef_mk KX G ?a ?l ?c ?k ?b
   (case a => k_is); (case l => k_is); (case c => k_is); (case k => k_is)
   case b => exact fun _ _ _ _ _ _ us hl => match us, hl with | [_, _], _ => rfl
  case D34 =>
   refine' L2.hasDef_mk KX G ?a ?l ?c ?k ?b
   (case a => k_is); (case l => k_is); (case c => k_is); (case k => k_is)
   case b => exact fun _ _ _ _ _ _ us hl => match us, hl with | [_, _], _ => rfl
  case D35 =>
   refine' L2.hasDef_mk KX G ?a ?l ?c ?k ?b
   (case a => k_is); (case l => k_is); (case c => k_is); (case k => k_is)
   case b => exact fun _ _ _ _ _ _ us hl => match us, hl with | [_, _], _ => rfl
  case D36 =>
   refine' L2.hasDef_mk KX G ?a ?l ?c ?k ?b
   (case a => k_is); (case l => k_is); (case c => k_is); (case k => k_is)
   case b => exact fun _ _ _ _ _ _ us hl => match us, hl with | [_, _], _ => rfl
  case D37 =>
   refine' L2.hasDef_mk KX G ?a ?l ?c ?k ?b
   (case a => k_is); (case l => k_is); (case c => k_is); (case k => k_is)
   case b => exact fun _ _ _ _ _ _ us hl => match us, hl with | [_, _], _ => rfl
  case D38 =>
   refine' L2.hasDef_mk KX G ?a ?l ?c ?k ?b
   (case a => k_is); (case l => k_is); (case c => k_is); (case k => k_is)
   case b => exact fun _ _ _ _ _ _ us hl => match us, hl with | [_, _], _ => rfl
  case D39 =>
   refine' L2.hasDef_mk KX G ?a ?l ?c ?k ?b
   (case a => k_is); (case l => k_is); (case c => k_is); (case k => k_is)
   case b => exact fun _ _ _ _ _ _ us hl => match us, hl with | [_, _, _], _ => rfl
  case D40 =>
   refine' L2.hasDef_mk KX G ?a ?l ?c ?k ?b
   (case a => k_is); (case l => k_is); (case c => k_is); (case k => k_is)
   case b => exact fun _ _ _ _ _ _ us hl => match us, hl with | [_, _], _ => rfl
  case D41 =>
   refine' L2.hasDef_mk KX G ?a ?l ?c ?k ?b
   (case a => k_is); (case l => k_is); (case c => k_is); (case k => k_is)
   case b => exact fun _ _ _ _ _ _ us hl => match us, hl with | [_, _], _ => rfl
  case D42 =>
   refine' L2.hasDef_mk KX G ?a ?l ?c ?k ?b
   (case a => k_is); (case l => k_is); (case c => k_is); (case k => k_is)
   case b => exact fun _ _ _ _ _ _ us hl => match us, hl with | [_], _ => rfl
  case D43 =>
   refine' L2.hasDef_mk KX G ?a ?l ?c ?k ?b
   (case a => k_is); (case l => k_is); (case c => k_is); (case k => k_is)
   case b => exact fun _ _ _ _ _ _ us hl => match us, hl with | [_], _ => rfl
  case D44 =>
   refine' L2.hasDef_mk KX G ?a ?l ?c ?k ?b
   (case a => k_is); (case l => k_is); (case c => k_is); (case k => k_is)
   case b => exact fun _ _ _ _ _ _ us hl => match us, hl with | [_], _ => rfl
  case D45 =>
   refine' L2.hasDef_mk KX G ?a ?l ?c ?k ?b
   (case a => k_is); (case l => k_is); (case c => k_is); (case k => k_is)
   case b => exact fun _ _ _ _ _ _ us hl => match us, hl with | [_, _], _ => rfl
  case D46 =>
   refine' L2.hasDef_mk KX G ?a ?l ?c ?k ?b
   (case a => k_is); (case l => k_is); (case c => k_is); (case k => k_is)
   case b => exact fun _ _ _ _ _ _ us hl => match us, hl with | [_, _], _ => rfl
  case D47 =>
   refine' L2.hasDef_mk KX G ?a ?l ?c ?k ?b
   (case a => k_is); (case l => k_is); (case c => k_is); (case k => k_is)
   case b => exact fun _ _ _ _ _ _ us hl => match us, hl with | [_], _ => rfl
  (case a0 => k_is); (case l0 => k_is); (case c0 => k_is); (case k0 => k_is)
#print axioms PySem.Challenge.cw_shredjoin_k42_whole_all_numbers_holds
