import PyProof.Rows.All
import Wide.All
import OpenK.AllK
import Wide.FinOn
import Lean
import PyProof.EqAt
import PyProof.EqKinds
import PyProof.TupleCall
import KE.KSortTup
import KE.KItemsList
import KE.KUnpack
import PyProof.EnumMake
import PyProof.EnumFor
import PyProof.EnumStmt
import KE.IntBitsLaws
import KE.KDictSum
import PyProof.SetRoads
import PyProof.Rows.SetFrom
import PyProof.FactsAll.set_1
import PyProof.FactsAll.set_2
import KE.KMinBuiltin
import PyProof.WalkInts
import PyProof.Rows.CallKwBuiltin
import PyProof.DictItemsLoops
import KE.KDictLaws
import KE.KPairComp
import PyProof.Rows.DictUnroll
import PyProof.ZipIter
import KE.KRevIter
import PyProof.ListStr
import PyProof.AttrMissHeap
import KE.KDictOf
import KE.KStateDown
import KE.KRevSl
import PyProof.ListRange
import PyProof.Rows.Range3
import PyProof.SeqI3
import PyProof.TupleOfSeq
import PySem.Challenge.RW_shredjoin_k74_bags
open List renaming getElem?_eq_getElem->Qa,getD_eq_getElem?_getD->Qb,length_map->Qc,mem_cons_self->Qd,mem_cons_of_mem->Qg,map_cons->Qj,getElem?_map->Qk,getElem?_eq_none->Ql,mem_singleton->Qm,getElem?_eq_some_iff->Qo,length_append->Qp,mem_map->Qr,range->Qs,size_toArray->Qu,mem_cons->Qx,sum_cons->Qy,length_singleton->QA,mem_filter->QB,getElem_mem->QF,map_append->QG,mem_append->QI,length_take->QJ,replicate->QK,mem_range->QM,length_cons->QO,map_congr_left->QR,mem_append_left->QS,ext_getElem?->QT,mem_append_right->QU,map_map->QV,nodup_cons->QW,take_succ_eq_append_getElem->QY,getElem?_append_right->QZ,getElem?_range->Q0,getElem?_append_left->Q3,length_range->Q4,length_filter_le->Q5,take_of_length_le->Q6,map_singleton->Q8,getElem?_eq_none_iff->Q9,nodup_append->Wb,pairwise_map->We,filter_append->Wg,length_drop->Wh,length_erase_of_mem->Wm,findIdx?_eq_some_iff_getElem->Wn,length_eq_zero_iff->Wo,mem_of_getElem?->Wp,map_nil->Wq,length_pos_of_mem->Ws,replicate_succ->Wu,range'->Wx,nodup_nil->Wy,mem_erase_of_ne->Wz,filter_cons_of_pos->WB,filter_cons_of_neg->WC,all_eq_true->WG,nodup_range->WH,pairwise_cons->WL,getElem?_drop->WM,getElem?_replicate->WO,getElem_of_mem->WP,getElem_inj->WQ,take_length->WS,length_replicate->WT,sum_append->WU,range_succ->WV,eq_nil_or_concat->WW,concat_eq_append->WX,nodup_iff_pairwise_ne->WY,flatten_cons->WZ,lt_irrefl->Uc,getElem?_take_of_lt->Ud,filter_cons->Ue,lookup_cons->Uf,find?_cons->Uh,lookup->Ui,not_lt->Uk,reverse_perm->Um,not_mem_nil->Us,mem_reverse->Ut,mem_of_mem_take->Uu,any_cons->Uv,filterMap_cons->Uy,pairwise_iff_getElem->Uz,findIdx?_eq_none_iff->UA,contains_cons->UC,mem_replicate->UD,idxOf_lt_length_iff->UE,append_assoc->UH,getElem?_set_self->UJ,filter_eq_nil_iff->UK,take_append_drop->UL,getElem?_set_ne->UM,length_dropLast->UN,nil_append->UO,range_eq_range'->UR,getElem?_append->US,mem_of_mem_drop->UU,dropLast_concat->UV,length_reverse->UX,mem_filterMap->U2,perm_ext_iff_of_nodup->U3,reverse_cons->U4,drop_eq_getElem_cons->U5,le_antisymm->U8,idxOf?_eq_some_iff->Rb,append_nil->Re,of_mem_zip->Rf,filter_map->Rg,singleton_append->Rl,take_zero->Rm,length_eraseIdx->Rp,perm_cons_erase->Rq,idxOf_eq_length->Rs,idxOf_le_length->Rt,count_le_length->Ru,all_cons->Rv,lt_trans->Rx,flatMap_append->RA,map_eq_nil_iff->RB,filter_sublist->RC,sum_nil->RG,map_replicate->RJ,getElem?_take->RL,take_sublist->RO,take_add_one->RQ,idxOf_append->RU,length->RX,map_snd_zip->R1,perm_middle->R3,mem_flatMap->R4,range'_succ->R5,cons_ne_nil->R6,length_nil->Va,foldl->Vb,count_cons->Vg,map_take->Vk,map_drop->Vl,perm_nil->Vn,nil_perm->Vo
open Nat renaming le_refl->Qi,ne_of_lt->QD,zero_le->QL,lt_of_lt_of_le->QN,le_trans->Q7,lt_irrefl->Wj,lt_of_le_of_lt->Wv,mul_dvd_mul_left->WA,lt_succ_self->WF,lt_succ_of_lt->Ua,le_succ_of_le->Ul,sub_self->Ur,le_succ->Ux,lt_trichotomy->UI,min_eq_left->UT,le_of_lt->U6,ne_of_gt->U7,add_mul->Rj,pow_le_pow_right->Rr,dvd_trans->Ry,succ_mul->RE,mul_comm->RF,zero_mul->RK,mul_left_comm->RW,le_of_not_lt->RZ,le_add_right->R8,not_lt_zero->Ve,mul_assoc->Vm
open Int renaming mul_assoc->Wd,one_mul->Wi,mul_left_comm->Wt,le_refl->Ww,toNat_natCast->WD,mul_comm->WN,neg_mul->Ub,zero_mul->Ug,zero_add->UF,mul_zero->UP,add_zero->UQ,toNat_of_nonneg->UW,mul_one->UZ,mul_add->U0,le_trans->U9,mul_fdiv_cancel_left->Ra,natCast_dvd_natCast->Rc,natCast_mul->Rh,add_mul->Ri,mul_nonneg->Rn,pow_succ->RI,toNat->RM,natAbs_natCast->RN,natAbs_add_le->RV,pow_ne_zero->Vd,mul_dvd_mul->Vf,natAbs_mul->Vh
open Array renaming length_toList->QC,getD_eq_getD_getElem?->QQ,getElem?_eq_getElem->QX,getElem?_toList->Wl,getElem?_eq_none->Uj,perm_iff_toList_perm->Uw,append_assoc->U1,toList_push->RT,toList_inj->R0,all_toList->R9,toList->Vp
open Option renaming map_some->Wc,map_eq_some_iff->Wr,getD_some->WR,isSome_iff_exists->UB,none_or->UG,some_or->Rk,isSome_some->RD,isSome_map->RP,getD_none->RY,bind_some->R7
open PySem.Heap renaming get?_push_of_some->Qh,lt_size->Qw,get?_push_size->Qz,get?_update_other->Wa,size_push->WK,get?_update_self->Uo,get?_none_of_le->Ro
open Bool renaming false_ne_true->QH,and_eq_true->QP,false_eq_true->Wf,eq_iff_iff->WE,and_false->Uq,false_and->UY,true_and->Rz,or_true->RH,eq_false_iff->RS,or_eq_true->Vc,or_false->Vi,not_true->Vj
set_option maxHeartbeats 0
set_option Elab.async false
set_option linter.all false
set_option maxRecDepth 100000
namespace L2
open PySem PySem.Spec PyProof.Rows
variable {A:Around} {C a b:Addr} {E Q:Value->Shared->Prop} {H H':Hp} {X:Cx} {body:List Stmt} {c e tg:Expr} {fp:List Addr} {h:Heap} {i j k n t':Nat} {kvs:List (Key×V)} {o:Obj} {pins:List (Addr×Obj)} {pos:Pos} {ps:List Str} {s:Shared} {tb:TS} {te:TE} {u:Value} {us:List Value} {v:V} {vs xs:List V} {x:Str} {σ:St}
abbrev Key:=Sum Int Str
def Zav:Key->Value->Bool
 | .inl k,v=>Value.isInt k v
 | .inr x,v=>Value.isStrOf x v
def Zqe (w:World):Key->Int
 | .inl k=>hashInt k
 | .inr x=>hashStr w x
theorem keyIs_shape:∀ {k:Key} {v:Value},Zav k v=true->(∃ i t,k=Sum.inl i/\v=Value.int i t)\/(∃ x t,k=Sum.inr x/\v=Value.str x t)
 | .inl i,v,h=>by
  obtain⟨t,e⟩:=Value.isInt_shape (k:=i) (v:=v) h;exact .inl ⟨i,t,rfl,e⟩
 | .inr x,v,h=>by
  obtain⟨t,e⟩:=Value.isStrOf_shape (x:=x) (v:=v) h;exact .inr ⟨x,t,rfl,e⟩
theorem Zij (i:Int) (t:Tok):Zav (.inl i) (.int i t)=true:=by simp[Zav,Value.isInt]
theorem Zii (x:Str) (t:Tok):Zav (.inr x) (.str x t)=true:=by simp[Zav,Value.isStrOf]
theorem Zoq (a b:Int):decide ((Sum.inl a:Key)=Sum.inl b)=(a==b):=by
 by_cases e:a=b
 ·subst e;simp
 ·have h:¬ (Sum.inl a:Key)=Sum.inl b:=fun q=>e (Sum.inl.inj q);rw[decide_eq_false h];exact(beq_eq_false_iff_ne.mpr e).symm
theorem Zon (a b:Str):decide ((Sum.inr a:Key)=Sum.inr b)=decide (a=b):=by
 by_cases e:a=b
 ·subst e;simp
 ·have h:¬ (Sum.inr a:Key)=Sum.inr b:=fun q=>e (Sum.inr.inj q);rw[decide_eq_false h,decide_eq_false e]
theorem Zop (a:Int) (b:Str):decide ((Sum.inl a:Key)=Sum.inr b)=false:=decide_eq_false (fun q=>nomatch q)
theorem Zoo (a:Str) (b:Int):decide ((Sum.inr a:Key)=Sum.inl b)=false:=decide_eq_false (fun q=>nomatch q)
def Zu (prog:Program) (w:World):PySem.KeyKind prog w Key where
 is:=Zav
 hash:=Zqe w
 inj:=fun v a b ha hb=>by
  rcases keyIs_shape ha with ⟨i,t,rfl,rfl⟩ | ⟨x,t,rfl,rfl⟩
  ·rcases keyIs_shape hb with ⟨j,u,rfl,e⟩ | ⟨y,u,rfl,e⟩
   ·injection e with e1 _;rw[e1]
   ·exact nomatch e
  ·rcases keyIs_shape hb with ⟨j,u,rfl,e⟩ | ⟨y,u,rfl,e⟩
   ·exact nomatch e
   ·injection e with e1 _;rw[e1]
 byValue:=fun k v h=>by
  rcases keyIs_shape h with ⟨i,t,rfl,rfl⟩ | ⟨x,t,rfl,rfl⟩ <;> rfl
 pyHash:=fun hv h=>by
  rcases keyIs_shape hv with ⟨i,t,rfl,rfl⟩ | ⟨x,t,rfl,rfl⟩
  ·exact wpAny_pyHash_int h
  ·exact wpAny_pyHash_str h
 eqBool:=fun hu hv h=>by
  rcases keyIs_shape hu with ⟨i,t,rfl,rfl⟩ | ⟨x,t,rfl,rfl⟩
  ·rcases keyIs_shape hv with ⟨j,u,rfl,rfl⟩ | ⟨y,u,rfl,rfl⟩
   ·rw[Zoq]at h;exact wpAny_eqBool_int h
   ·rw[Zop]at h;exact SeqAt.EqAt.int_str i t y u _ _ _ _ h
  ·rcases keyIs_shape hv with ⟨j,u,rfl,rfl⟩ | ⟨y,u,rfl,rfl⟩
   ·rw[Zoo]at h;exact SeqAt.EqAt.str_int x t j u _ _ _ _ h
   ·rw[Zon]at h;exact wpAny_eqBool_str h
 «strs»:=fun k x t v h=>by
  rcases keyIs_shape h with ⟨i,u,rfl,e⟩ | ⟨y,u,rfl,e⟩
  ·exact nomatch e
  ·injection e with e1 _
   subst e1;cases v <;> rfl
theorem Zef (prog:Program) (w:World) (i:Int) (t:Tok):(Zu prog w).is (.inl i) (.int i t)=true:=Zij i t
theorem XH (prog:Program) (w:World) (x:Str) (t:Tok):(Zu prog w).is (.inr x) (.str x t)=true:=Zii x t
inductive V where
 | non | bl (b:Bool) | int (i:Int) | str (x:Str) | byt (b:Array UInt8) | flt (b:UInt64) | ref (a:Addr) | ty (n:String)
 deriving DecidableEq
def RelV:V->Value->Prop
 | .non,u=>u=Value.none
 | .bl b,u=>u=Value.bool b
 | .int i,u=>∃ t,u=Value.int i t
 | .str x,u=>∃ t,u=Value.str x t
 | .byt b,u=>∃ t,u=Value.bytes b t
 | .flt b,u=>∃ t,u=Value.float b t
 | .ref a,u=>u=Value.ref a
 | .ty n,u=>u=Value.type n
abbrev Vals:List V->List Value->Prop:=Paired RelV
theorem Vals.length (r:Vals xs us):xs.length=us.length:=Paired.length r
theorem Vals.get:∀ {xs:List V} {us:List Value} {i:Nat} {x:V},Vals xs us->xs[i]?=some x->∃ u,us[i]?=some u/\RelV x u
 | _,_,_,_,.nil,e=>by simp at e
 | _,_,0,_,.cons r _,e=>by simp at e;subst e;exact⟨_,rfl,r⟩
 | _,_,i+1,x,.cons _ t,e=>by
  obtain⟨u,h1,h2⟩:=Vals.get (i:=i) (x:=x) t (by simpa using e);exact⟨u,by simpa using h1,h2⟩
theorem Vals.set {x:V} {u:Value} (r:RelV x u):∀ {xs:List V} {us:List Value} (i:Nat),Vals xs us->Vals (xs.set i x) (us.set i u)
 | _,_,_,.nil=>.nil
 | _,_,0,.cons _ t=>.cons r t
 | _,_,i+1,.cons q t=>.cons q (Vals.set r i t)
theorem Vals.append:∀ {xs ys:List V} {us ws:List Value},Vals xs us->Vals ys ws->Vals (xs++ys) (us++ws)
 | _,_,_,_,.nil,s=>s
 | _,_,_,_,.cons r t,s=>.cons r (Vals.append t s)
theorem Vals.take:∀ {xs:List V} {us:List Value} (n:Nat),Vals xs us->Vals (xs.take n) (us.take n)
 | _,_,0,_=>.nil
 | _,_,_+1,.nil=>.nil
 | _,_,n+1,.cons r t=>.cons r (Vals.take n t)
theorem Vals.drop:∀ {xs:List V} {us:List Value} (n:Nat),Vals xs us->Vals (xs.drop n) (us.drop n)
 | _,_,0,r=>r
 | _,_,_+1,.nil=>.nil
 | _,_,n+1,.cons _ t=>Vals.drop n t
theorem Vals.none_of:∀ {xs:List V} {us:List Value} {i:Nat},Vals xs us->xs[i]?=none->us[i]?=none:=fun {xs us i} r e=>by
 have h1:=r.length;have h2:xs.length<=i:=Q9.mp e;exact Q9.mpr (by omega)
def RelO:Option V->Option Value->Prop
 | some v,some u=>RelV v u
 | none,none=>True
 | _,_=>False
def KV {κ:Type}:List (κ×V)->List (κ×Value)->Prop:=Paired fun(p:κ×V) (q:κ×Value)=>p.1=q.1/\RelV p.2 q.2
def kV:Key->V
 | .inl i=>.int i
 | .inr x=>.str x
inductive HO where
  | lst (xs:List V)
  | tup (xs:List V)
  | dK (kvs:List (Key×V)) | dT (kvs:List (List Key×V))
  | set (S:Int->Bool) (n:Nat)
  | ins (C dx:Addr) (fs:List (Str×V))
  | own (x:Addr)
  | xd (fs:List (Str×V))
  | met (f x:Addr)
  | rng (lo hi:Int)
  | frz (o:Obj) (u:HO)
  | tbl (ps:Array Value)
  | ext (φ:Heap->Prop)
abbrev Hp:=Addr->Option HO
def upd (H:Hp) (a:Addr) (o:HO):Hp:=fun b=>if b=a then some o else H b
theorem Zc {o:HO}:upd H a o a=some o:=by unfold upd;rw[if_pos rfl]
theorem Zi {o:HO} (h:b≠a):upd H a o b=H b:=by unfold upd;rw[if_neg h]
theorem X9 {o u:HO}:upd (upd H a o) a u=upd H a u:=by
 funext b;unfold upd;split <;> rfl
theorem ZjV {o u:HO} (h:H a=some o) (h':H b=some u) (d:o≠u):a≠b:=by
 intro e;subst e;rw[h]at h';exact d (Option.some.inj h')
theorem Zk {o:HO} (h:H a=some o) (h':H b=none):a≠b:=by
 intro e;subst e;rw[h]at h';cases h'
section
variable (P:Program) (w:World)
def NoD (h:Heap) (a:Addr):Prop:=∀ o,h.get? a=some o->o.dict=none
theorem Ze1 (hd:o.dict=none) (hf:o.isFreed=false):NoD (h.push o) h.objs.size:=fun o2 e=>by
 rw[Qz h hf]at e;cases e;exact hd
def ObjOk (H:Hp) (h:Heap) (a:Addr):HO->Prop
 | .lst xs=>xs.length<=sizeLine/\∃ (its:List Value) (n:Nat),Vals xs its/\h.get? a=some {cls:=.type "list",data:=.seq its.toArray n}
 | .tup xs=>xs.length<=sizeLine/\∃ its:List Value,Vals xs its/\IsTup h a its.toArray/\NoD h a
 | .dK kvs=>kvs.length<=sizeLine/\(a==sysModules)=false/\∃ vs,KV kvs vs/\h.DictOf (Zu P w) a vs
 | .dT kvs=>kvs.length<=sizeLine/\(a==sysModules)=false/\∃ xs:List (List Key×Addr×Value),
   Paired (fun(p:List Key×V) (q:List Key×Addr×Value)=>p.1=q.1/\H q.2.1=some (.tup (p.1.map kV))/\RelV p.2 q.2.2) kvs xs /\
   ∃ o es ep,h.get? a=some o/\o.ExactDict/\o.data= .dict es ep/\es.toList=xs.map (entryOfKey (tupleKind (Zu P w)))/\(xs.map (·.1)).Nodup
 | .set S n=>h.SetOf (intKind P w) a S n
 | .ins C dx fs=>H dx=some (.own a)/\fs.length<=1000/\dx≠a/\h.get? a=some (PySem.W.instObj C dx) /\
   ∃ mA,h.Ns1 dx mA/\(∀ f,RelO (fs.lookup f) (mA f))/\PySem.Within mA (fs.map (·.1))
 | .own _=>∃ o,h.get? a=some o
 | .xd fs=>∃ mA,h.Ns1 a mA/\∀ f,RelO (fs.lookup f) (mA f)
 | .rng lo hi=>∃ t u v,h.get? a=some {cls:=.type "range",data:=.fields #[.int lo t,.int hi u,.int 1 v]}
 | .frz o u=>h.get? a=some o/\ObjOk H h a u
 | .tbl ps=>h.get? a=some {cls:=.none,data:=.fields ps}
 | .met f x=>h.get? a=some (PySem.W.methodObj (.ref f) (.ref x))
 | .ext φ=>φ h/\(∃ o,h.get? a=some o)/\∀ h1 h2:Heap,φ h1->(∀ o,h1.get? a=some o->h2.get? a=some o)->φ h2
def HOk (H:Hp) (h:Heap):Prop:=∀ a o,H a=some o->ObjOk P w H h a o
end
section
variable {P:Program} {w:World} {H H':Hp} {h h':Heap} {a:Addr} {o:HO}
theorem ObjOk.lt (x:ObjOk P w H h a o):a<h.objs.size:=by
 cases o with
 | lst xs=>obtain⟨_,_,_,_,e⟩:=x;exact Qw e
 | tup xs=>obtain⟨_,_,_,p,_⟩:=x;exact p.lt
 | dK kvs=>obtain⟨_,_,_,_,o,_,_,e,_⟩:=x;exact Qw e
 | dT kvs=>obtain⟨_,_,_,_,o,_,_,e,_⟩:=x;exact Qw e
 | set S n=>obtain⟨o,_,_,_,e,_⟩:=x;exact Qw e
 | ins C dx fs=>obtain⟨_,_,_,e,_⟩:=x;exact Qw e
 | own y=>obtain⟨_,e⟩:=x;exact Qw e
 | xd fs=>obtain⟨_,⟨_,_,_,e,_⟩,_⟩:=x;exact Qw e
 | rng lo hi=>obtain⟨_,_,_,e⟩:=x;exact Qw e
 | frz ob u=>obtain⟨e,_⟩:=x;exact Qw e
 | tbl ps=>exact Qw (show h.get? a=some _ from x)
 | met f y=>exact Qw (show h.get? a=some _ from x)
 | ext φ=>obtain⟨_,⟨_,e⟩,_⟩:=x;exact Qw e
theorem Paired.mapP {α β:Type} {F G:α->β->Prop}:∀ {l₁:List α} {l₂:List β},Paired F l₁ l₂->(∀ a b,F a b->G a b)->Paired G l₁ l₂
 | _,_,.nil,_=>.nil
 | _,_,.cons r t,f=>.cons (f _ _ r) (Paired.mapP t f)
theorem ObjOk.stay (x:ObjOk P w H h a o) (k:∀ b u,(b=a\/H b=some (.own a))->h.get? b=some u->h'.get? b=some u)
  (ho:∀ b,H b=some (.own a)->H' b=some (.own a)) (ht:∀ b xs,H b=some (.tup xs)->H' b=some (.tup xs)):ObjOk P w H' h' a o:=by
 induction o with
 | lst xs=>obtain⟨z,its,n,r,e⟩:=x;exact⟨z,its,n,r,k _ _ (.inl rfl) e⟩
 | tup xs =>
  obtain⟨z,its,r,⟨ob,e,c⟩,nd⟩:=x;exact⟨z,its,r,⟨ob,k _ _ (.inl rfl) e,c⟩,fun o2 e2=>by
   rw[k _ _ (.inl rfl) e]at e2;cases e2;exact nd _ e⟩
 | dK kvs=>obtain⟨z,y,vs,r,ob,es,ep,e,c⟩:=x;exact⟨z,y,vs,r,ob,es,ep,k _ _ (.inl rfl) e,c⟩
 | dT kvs =>
  obtain⟨z,y,xs,r,ob,es,ep,e,c⟩:=x;exact⟨z,y,xs,Paired.mapP r fun p q z=>⟨z.1,ht _ _ z.2.1,z.2.2⟩,ob,es,ep,k _ _ (.inl rfl) e,c⟩
 | set S n=>obtain⟨ob,es,ep,t,e,c⟩:=x;exact⟨ob,es,ep,t,k _ _ (.inl rfl) e,c⟩
 | ins C dx fs =>
  obtain⟨d,z,ne,e,mA,⟨od,es,ep,e2,c⟩,r⟩:=x;exact⟨ho _ d,z,ne,k _ _ (.inl rfl) e,mA,⟨od,es,ep,k _ _ (.inr d) e2,c⟩,r⟩
 | own y=>obtain⟨ob,e⟩:=x;exact⟨ob,k _ _ (.inl rfl) e⟩
 | xd fs=>obtain⟨mA,⟨od,es,ep,e,c⟩,r⟩:=x;exact⟨mA,⟨od,es,ep,k _ _ (.inl rfl) e,c⟩,r⟩
 | rng lo hi=>obtain⟨t,u,v,e⟩:=x;exact⟨t,u,v,k _ _ (.inl rfl) e⟩
 | frz ob u ih=>obtain⟨e,q⟩:=x;exact⟨k _ _ (.inl rfl) e,ih q⟩
 | tbl ps =>
  have e:h.get? a=some {cls:=.none,data:=.fields ps}:=x;show h'.get? a=some {cls:=.none,data:=.fields ps};exact k a _ (.inl rfl) e
 | met f y =>
  have e:h.get? a=some (PySem.W.methodObj (.ref f) (.ref y)):=x;show h'.get? a=some (PySem.W.methodObj (.ref f) (.ref y));exact k a _ (.inl rfl) e
 | ext φ=>obtain⟨p,⟨o,e⟩,st⟩:=x;exact⟨st _ _ p fun o q=>k _ _ (.inl rfl) q,⟨o,k _ _ (.inl rfl) e⟩,st⟩
theorem HOk.lt (x:HOk P w H h) (e:H a=some o):a<h.objs.size:=(x a o e).lt
theorem HOk.fresh (x:HOk P w H h) (e:h.objs.size<=a):H a=none:=by
 cases q:H a with
 | none=>rfl
 | some u=>exact absurd (QN (x.lt q) e) (Wj _)
theorem HOk.kept (x:HOk P w H h) (k:∀ b u,h.get? b=some u->h'.get? b=some u):HOk P w H h':=fun a o e =>
 (x a o e).stay (fun b u _ q=>k b u q) (fun _ q=>q) fun _ _ q=>q
theorem HOk.laid (x:HOk P w H h) (k:∀ b u,h.get? b=some u->h'.get? b=some u) (hp:h.objs.size<=a) (new:ObjOk P w (upd H a o) h' a o):HOk P w (upd H a o) h':=fun b u e=>by
 have hn:=x.fresh hp;by_cases hb:b=a
 ·subst hb;rw[Zc]at e;cases e;exact new
 ·rw[Zi hb]at e;exact(x b u e).stay (fun c v _ q=>k c v q) (fun c q=>by rw[Zi (Zk q hn)];exact q) fun c xs q=>by rw[Zi (Zk q hn)];exact q
end
def Rd (H:Hp) (a:Addr) (u:HO):Prop:=H a=some u\/∃ o,H a=some (.frz o u)
theorem Rd.of {u:HO} (h:H a=some u):Rd H a u:=.inl h
theorem Rd.ok {P:Program} {w:World} {u:HO} (r:Rd H a u) (x:HOk P w H h):ObjOk P w H h a u:=by
 rcases r with r | ⟨o,r⟩
 ·exact x a u r
 ·obtain⟨_,q⟩:=x a _ r;exact q
def Mut:Option HO->Prop
 | some (.lst _)=>True
 | some (.dK _)=>True
 | some (.dT _)=>True
 | some (.set _ _)=>True
 | some (.ins _ _ _)=>True
 | some (.ext _)=>True
 | _=>False
section
variable {P:Program} {w:World} {H:Hp} {h h':Heap} {x e:Addr} {o':HO}
theorem HOk.write (ok:HOk P w H h) (mu:Mut (H x)) (he:e=x\/H e=some (.own x)) (k:∀ b u,b≠e->h.get? b=some u->h'.get? b=some u) (heo:∃ u,h'.get? e=some u)
  (new:ObjOk P w (upd H x o') h' x o'):HOk P w (upd H x o') h':=fun b u q=>by
 have nown:∀ c y,H c=some (.own y)->c≠x:=fun c y r z=>by subst z;rw[r]at mu;exact mu
 have ntup:∀ c xs,H c=some (.tup xs)->c≠x:=fun c xs r z=>by subst z;rw[r]at mu;exact mu
 by_cases hb:b=x
 ·subst hb;rw[Zc]at q;cases q;exact new
 ·rw[Zi hb]at q;by_cases hbe:b=e
  ·have q':H b=some (.own x):=by
    rcases he with z | z
    ·exact absurd (hbe.trans z) hb
    ·rw[hbe];exact z
   rw[q]at q';cases q';obtain⟨v,hv⟩:=heo;exact⟨v,by rw[hbe];exact hv⟩
  ·refine(ok b u q).stay (fun c v hc r=>k c v ?_ r) (fun c r=>by rw[Zi (nown c b r)];exact r) fun c xs r=>by rw[Zi (ntup c xs r)];exact r
   rcases hc with rfl | hc
   ·exact hbe
   ·rintro rfl;rcases he with z | z
    ·exact nown c b hc z
    ·rw[hc]at z;cases z;exact hb rfl
end
structure Un (fs ex:List Addr) (H H':Hp) (h h':Heap):Prop where
 keep:∀ b o,h.get? b=some o->H b=none->b∉fs->b∉ex->h'.get? b=some o
 slot:∀ b o,h.get? b=some o->H b=none->b∈fs->b∉ex->∃ sl,h'.get? b=some {o with slots:=sl}
 free:∀ b o,h.get? b=some o->H b=none->b∉ex->H' b=none
 there:∀ b o,h.get? b=some o->b∉ex->∃ o',h'.get? b=some o'
 tups:∀ b xs,H b=some (.tup xs)->H' b=some (.tup xs)
 frzs:∀ b o u,H b=some (.frz o u)->H' b=some (.frz o u)
 tbls:∀ b ps,H b=some (.tbl ps)->∃ more,H' b=some (.tbl (ps++more))
section
variable {fs fs' ex ex':List Addr} {H H1 H2:Hp} {h h1 h2 h':Heap} {a x e:Addr} {o:HO}
theorem Un.any (u:Un fs ex H H1 h h1) {ob:Obj} (q:h.get? b=some ob) (n:H b=none) (hx:b∉ex):∃ sl,h1.get? b=some {ob with slots:=sl}:=by
 by_cases hb:b∈fs
 ·exact u.slot b ob q n hb hx
 ·exact⟨ob.slots,u.keep b ob q n hb hx⟩
theorem Un.trans (a:Un fs ex H H1 h h1) (b:Un fs ex H1 H2 h1 h2):Un fs ex H H2 h h2 where
 keep:=fun c ob q n hc hx=>b.keep c ob (a.keep c ob q n hc hx) (a.free c ob q n hx) hc hx
 slot:=fun c ob q n hc hx=>by
  obtain⟨sl,e1⟩:=a.slot c ob q n hc hx;obtain⟨sl',e2⟩:=b.slot c _ e1 (a.free c ob q n hx) hc hx;exact⟨sl',e2⟩
 free:=fun c ob q n hx=>by
  obtain⟨o',e1⟩:=a.there c ob q hx;exact b.free c o' e1 (a.free c ob q n hx) hx
 there:=fun c ob q hx=>by
  obtain⟨o',e1⟩:=a.there c ob q hx;exact b.there c o' e1 hx
 tups:=fun c xs q=>b.tups c xs (a.tups c xs q)
 frzs:=fun c ob xs q=>b.frzs c ob xs (a.frzs c ob xs q)
 tbls:=fun c ps q=>by
  obtain⟨m1,e1⟩:=a.tbls c ps q;obtain⟨m2,e2⟩:=b.tbls c _ e1;exact⟨m1++m2,by rw[e2,U1]⟩
theorem Un.kept (k:∀ b u,h.get? b=some u->h'.get? b=some u):Un fs ex H H h h' :=
 ⟨fun b ob q _ _ _=>k b ob q,fun b ob q _ _ _=>⟨ob.slots,k b ob q⟩,fun _ _ _ n _=>n,fun b ob q _=>⟨ob,k b ob q⟩,fun _ _ q=>q,fun _ _ _ q=>q,fun _ ps q=>⟨#[],by rw[q];simp⟩⟩
theorem Un.refl:Un fs ex H H h h:=Un.kept fun _ _ q=>q
theorem Un.laid (k:∀ b u,h.get? b=some u->h'.get? b=some u) (hp:h.objs.size<=a) (hn:H a=none):Un fs ex H (upd H a o) h h' where
 keep:=fun b u q _ _ _=>k b u q
 slot:=fun b u q _ _ _=>⟨u.slots,k b u q⟩
 free:=fun b u q n _=>by rw[Zi (QD (QN (Qw q) hp))];exact n
 there:=fun b u q _=>⟨u,k b u q⟩
 tups:=fun b xs q=>by rw[Zi (Zk q hn)];exact q
 frzs:=fun b u xs q=>by rw[Zi (Zk q hn)];exact q
 tbls:=fun b ps q=>⟨#[],by rw[Zi (Zk q hn),q];simp⟩
theorem Un.write (mu:Mut (H x)) (he:e=x\/H e=some (.own x)) (k:∀ b u,b≠e->h.get? b=some u->h'.get? b=some u) (heo:∃ u,h'.get? e=some u):Un fs ex H (upd H x o) h h':=by
 have hx:∀ b,H b=none->b≠x:=fun b n z=>by subst z;rw[n]at mu;exact mu
 have hb:∀ b,H b=none->b≠e:=fun b n z=>by
  subst z;rcases he with r | r
  ·exact hx b n r
  ·rw[n]at r;cases r
 have hm:∀ b u,H b=some u->¬ Mut (some u)->b≠x:=fun b u q nm z=>by subst z;rw[q]at mu;exact nm mu
 refine⟨fun b u q n _ _=>k b u (hb b n) q,fun b u q n _ _=>⟨u.slots,k b u (hb b n) q⟩,fun b u q n _=>by rw[Zi (hx b n)];exact n,fun b u q _=>?_,
  fun b xs q=>by rw[Zi (hm b _ q fun z=>z)];exact q,fun b u xs q=>by rw[Zi (hm b _ q fun z=>z)];exact q,fun b ps q=>⟨#[],by rw[Zi (hm b _ q fun z=>z),q];simp⟩⟩
 by_cases hbe:b=e
 ·subst hbe;exact heo
 ·exact⟨u,k b u hbe q⟩
theorem Un.mono (u:Un fs ex H H1 h h1) (hs:∀ b∈fs,b∈fs') (hx:∀ b∈ex,b∈ex'):Un fs' ex' H H1 h h1 :=
 ⟨fun b ob q n hb he=>u.keep b ob q n (fun z=>hb (hs b z)) fun z=>he (hx b z),fun _ _ q n _ he=>u.any q n fun z=>he (hx _ z),fun b ob q n he=>u.free b ob q n fun z=>he (hx b z),fun b ob q he=>u.there b ob q fun z=>he (hx b z),u.tups,u.frzs,u.tbls⟩
end
def trk (h:Heap) (H:Hp):List Addr:=(Qs h.objs.size).filter fun a=>(H a).isSome
def Zkf (h:Heap) (H:Hp):Heap:=PySem.W.hideAll h (trk h H)
theorem Zir (h:Heap) (H:Hp):(Zkf h H).objs.size=h.objs.size:=PySem.W.hideAll_size _ _
theorem Zke (e:h.get? b=some o) (n:H b=none):(Zkf h H).get? b=some o :=
 PySem.W.hideAll_get _ e fun hm=>by
  have q:(H b).isSome=true:=(QB.mp hm).2;rw[n]at q;simp at q
theorem Zmr (e:(Zkf h H).get? b=some o):h.get? b=some o/\H b=none:=by
 have e':h.get? b=some o:=PySem.W.of_hideAll (trk h H) e;refine⟨e',?_⟩;cases q:H b with
 | none=>rfl
 | some x =>
  have hm:b∈trk h H:=QB.mpr ⟨QM.mpr (Qw e'),by simp[q]⟩;have z:(Zkf h H).get? b=none:=PySem.W.hideAll_none (trk h H) hm;rw[z]at e;cases e
def Zna (g h:Heap) (L:Addr):List (Addr×Obj):=(Qs h.objs.size).filterMap fun a=>if a=L\/(g.get? a).isSome=true then none else (h.get? a).map fun o=>(a,o)
def rest (g h:Heap) (L d:Addr):List (Addr×Obj):=(Zna g h L).filter fun p=>decide (p.1≠d)
structure Mod (K:PySem.W.Frag) (mg:Str->Option Value) (base:Heap):Prop where
 kin:K.In base
 glob:base.Ns mainGlobals mg
 blt:∃ mb,base.Ns builtinsNs mb/\∀ x:Str,x≠"__name__"->mb x=bootBuiltins x
 nolimit:base.NoLimit
structure Cx where
 prog:Program
 w:World
 K:PySem.W.Frag
 mg:Str->Option Value
 base:Heap
 A:Around
 N:List Str
 s₀:Shared
 H₀:Hp
 env:Env
 outer:List Env
 stack:List Env
 ex:List Addr
 fn:Str->Bool
 calm:Bool
 pn:List (Addr×Obj)
 xe:Value->Shared->Prop
def frs (l:List Env):List Addr:=l.filterMap (·.frame)
abbrev Cx.fs (X:Cx):List Addr:=frs X.outer
def Vis (sc:Scope) (x:Str):Prop:=sc.names.lookup x=some .local\/sc.names.lookup x=some .cell\/sc.names.lookup x=some .free
def Loc (sc:Scope) (x:Str):Prop:=sc.names.lookup x=some .local\/sc.names.lookup x=some .cell
def Zqp (env:Env) (h:Heap) (m:Str->Option Value) (x:Str) (u:Value):Prop :=
 (env.kindOf x=some .local/\m x=some u)\/((env.kindOf x=some .cell\/env.kindOf x=some .free)/\∃ c,env.cells.lookup x=some c/\h.IsCell c (some u))
structure Cx.Ok (X:Cx):Prop where
 mod:Mod X.K X.mg X.base
 kind:X.env.scope.kind= .function
 glob:X.env.globals=mainGlobals
 blt:X.env.builtins=builtinsNs
 above:X.s₀.heap.objs.size<=X.env.locals
 inj:∀ x y c,X.env.cells.lookup x=some c->X.env.cells.lookup y=some c->x=y
 has:∀ x,(X.env.kindOf x=some .cell\/X.env.kindOf x=some .free)->∃ c,X.env.cells.lookup x=some c
 cab:∀ x c,X.fn x=true->X.env.cells.lookup x=some c->X.s₀.heap.objs.size<=c
 hd:X.calm=true->X.A.handled=none
 frames:X.A.frames=some X.stack
 stk:X.stack=X.outer\/(X.stack=X.env::X.outer/\X.env.frame=some X.env.locals)
 exf:∀ b∈X.ex,b≠X.env.locals/\∀ x c,X.env.cells.lookup x=some c->c≠b
 bs:∀ b o,X.base.get? b=some o->X.s₀.heap.get? b=some o/\X.H₀ b=none
 bsz:X.base.objs.size<=X.s₀.heap.objs.size
 noex:∀ b o,X.base.get? b=some o->b∉X.ex
 exfs:∀ b∈X.ex,b∉X.fs
 funs:X.s₀.heap.FunFrames X.base X.outer
 frf:∀ b∈X.fs,X.H₀ b=none
structure Inv (X:Cx) (pins:List (Addr×Obj)) (σ:List (Option V)) (H:Hp) (s:Shared):Prop where
 ok:X.Ok
 os:s.os=X.s₀.os
 bare:AllBare s.gens
 base:Un X.fs X.ex X.H₀ H X.s₀.heap s.heap
 loc:∃ m,s.heap.Ns X.env.locals m/\∀ (i:Nat) (x:Str) (v:V),X.N[i]?=some x->σ[i]?=some (some v)->Vis X.env.scope x->∃ u,RelV v u/\Zqp X.env s.heap m x u
 cell:∀ x c,X.env.cells.lookup x=some c->∃ v,s.heap.IsCell c v
 free:H X.env.locals=none
 freeC:∀ x c,X.env.cells.lookup x=some c->H c=none
 pin:∀ p∈X.pn++pins,s.heap.get? p.1=some p.2/\H p.1=none/\p.1≠X.env.locals/\p.1∉X.fs/\∀ v,p.2.data≠.cell v
 hok:HOk X.prog X.w H s.heap
 len:σ.length=X.N.length
section
variable {X:Cx} {pins:List (Addr×Obj)} {σ:List (Option V)} {H H':Hp} {s:Shared} {h':Heap}
theorem Cx.Ok.nofr (ok:X.Ok) (e:X.base.get? b=some o):b∉X.fs:=fun hb=>by
 have:=(ok.funs.mem hb).1;rw[e]at this;cases this
theorem Inv.bs (I:Inv X pins σ H s):∀ b o,X.base.get? b=some o->s.heap.get? b=some o/\H b=none:=fun b o e =>
 ⟨I.base.keep b o (I.ok.bs b o e).1 (I.ok.bs b o e).2 (I.ok.nofr e) (I.ok.noex b o e),I.base.free b o (I.ok.bs b o e).1 (I.ok.bs b o e).2 (I.ok.noex b o e)⟩
theorem Inv.bk (I:Inv X pins σ H s):∀ b o,X.base.get? b=some o->s.heap.get? b=some o:=fun b o e=>(I.bs b o e).1
theorem Inv.mod (I:Inv X pins σ H s):Mod X.K X.mg X.base:=I.ok.mod
theorem Inv.kIn (I:Inv X pins σ H s):X.K.In s.heap:=I.ok.mod.kin.keeps I.bk
theorem Inv.nolimit (I:Inv X pins σ H s):s.heap.NoLimit:=I.ok.mod.nolimit.keeps I.bk
theorem Inv.lt (I:Inv X pins σ H s):X.env.locals<s.heap.objs.size:=let ⟨_,hn,_⟩:=I.loc;hn.lt
theorem Inv.sz (I:Inv X pins σ H s):X.s₀.heap.objs.size<=s.heap.objs.size:=Q7 I.ok.above (U6 I.lt)
theorem Inv.nofs (I:Inv X pins σ H s) (h:s.heap.objs.size<=a):a∉X.fs:=fun hb=>by
 obtain⟨_,o,ho,_⟩:=I.ok.funs.mem hb;exact absurd (QN (Qw ho) (Q7 I.sz h)) (Wj _)
theorem Inv.cne (I:Inv X pins σ H s):∀ x c,X.env.cells.lookup x=some c->c≠X.env.locals:=fun x c e z=>by
 obtain⟨v,o,ho,hd⟩:=I.cell x c e;obtain⟨m,⟨o',es,ep,ho',hd',_⟩,_⟩:=I.loc;rw[z,ho']at ho;cases ho;rw[hd']at hd;cases hd
theorem Inv.funs (I:Inv X pins σ H s):s.heap.FunFrames X.base X.outer:=by
 have all:∀ (l:List Env),(∀ b∈frs l,b∈X.fs)->X.s₀.heap.FunFrames X.base l->s.heap.FunFrames X.base l:=by
  intro l;induction l with
  | nil=>intro _ _;trivial
  | cons env r ih =>
   intro hs hl;obtain⟨hk,⟨L,o,hf,hn,ho,hd⟩,hr⟩:=hl;have hL:L∈X.fs:=hs L (by unfold frs;rw[Uy,hf];exact Qd);obtain⟨sl,e⟩:=I.base.slot L o ho (I.ok.frf L hL) hL fun z=>I.ok.exfs L z hL;exact⟨hk,⟨L,_,hf,hn,e,hd⟩,ih (fun b hb=>hs b (by unfold frs;rw[Uy,hf];exact Qg _ hb)) hr⟩
 exact all X.outer (fun _ hb=>hb) I.ok.funs
theorem Inv.stack (I:Inv X pins σ H s):s.heap.FunFrames X.base X.stack:=by
 rcases I.ok.stk with e | ⟨e,hf⟩
 ·rw[e];exact I.funs
 ·rw[e];obtain⟨m,hn,_⟩:=I.loc;refine .cons (by rw[I.ok.kind];decide) hf hn ?_ I.funs;exact Ro (Q7 I.ok.bsz I.ok.above)
theorem Inv.stkSub (I:Inv X pins σ H s):∀ b∈frs X.stack,b∈X.env.locals::X.fs:=fun b hb=>by
 rcases I.ok.stk with e | ⟨e,hf⟩
 ·rw[e]at hb;exact Qg _ hb
 ·rw[e]at hb;unfold frs at hb;rw[Uy,hf]at hb;exact hb
theorem Inv.stkFree (I:Inv X pins σ H s):∀ b∈frs X.stack,H b=none:=fun b hb=>by
 rcases Qx.mp (I.stkSub b hb)with e | hb
 ·rw[e];exact I.free
 ·obtain⟨_,o,ho,_⟩:=I.ok.funs.mem hb;exact I.base.free b o ho (I.ok.frf b hb) fun z=>I.ok.exfs b z hb
theorem Inv.step {g':Array GenState} {d':Drawn} {ch:List Addr} (I:Inv X pins σ H s)
  (hch:∀ b∈ch,(b∈X.ex\/X.s₀.heap.objs.size<=b)/\b≠X.env.locals/\(∀ x c,X.env.cells.lookup x=some c->c≠b)/\∀ p∈X.pn++pins,p.1≠b)
  (keep:∀ b o,b≠X.env.locals->b∉X.fs->b∉ch->s.heap.get? b=some o->H b=none->h'.get? b=some o)
  (slot:∀ b o,b≠X.env.locals->b∈X.fs->b∉ch->s.heap.get? b=some o->H b=none->∃ sl,h'.get? b=some {o with slots:=sl}) (free:∀ b o,b∉ch->s.heap.get? b=some o->H b=none->H' b=none)
  (there:∀ b o,b∉ch->s.heap.get? b=some o->∃ o',h'.get? b=some o')
  (tups:∀ b xs,H b=some (.tup xs)->H' b=some (.tup xs)) (frzs:∀ b o u,H b=some (.frz o u)->H' b=some (.frz o u)) (tbls:∀ b ps,H b=some (.tbl ps)->∃ more,H' b=some (.tbl (ps++more)))
  (ns:∀ m,s.heap.Ns X.env.locals m->h'.Ns X.env.locals m) (hok:HOk X.prog X.w H' h') (hg:AllBare g') :
  Inv X pins σ H' {s with heap:=h',gens:=g',drawn:=d',toks:=t'}:=by
 have neL:∀ b o,X.s₀.heap.get? b=some o->b≠X.env.locals:=fun b o e=>QD (QN (Qw e) I.ok.above);have neC:∀ b o,X.s₀.heap.get? b=some o->b∉X.ex->b∉ch:=fun b o e hx hb=>by
  rcases(hch b hb).1 with z | z
  ·exact hx z
  ·exact absurd (QN (Qw e) z) (Wj _)
 have cellK:∀ x c,X.env.cells.lookup x=some c->∀ v,s.heap.IsCell c v->h'.IsCell c v:=fun x c e v ⟨o,ho,hd⟩=>by
  have nch:c∉ch:=fun z=>(hch c z).2.2.1 x c e rfl;by_cases hc:c∈X.fs
  ·obtain⟨sl,q⟩:=slot c o (I.cne x c e) hc nch ho (I.freeC x c e);exact⟨_,q,hd⟩
  ·exact⟨o,keep c o (I.cne x c e) hc nch ho (I.freeC x c e),hd⟩
 refine⟨I.ok,I.os,hg,⟨fun b o e n hb hx=>?_,fun b o e n hb hx=>?_,fun b o e n hx=>?_,fun b o e hx=>?_,fun b xs e=>tups b xs (I.base.tups b xs e),fun b o xs e=>frzs b o xs (I.base.frzs b o xs e),fun b ps e=>?_⟩,?_,fun x c e=>?_,?_,fun x c e=>?_,fun p hp=>?_,hok,I.len⟩
 ·exact keep b o (neL b o e) hb (neC b o e hx) (I.base.keep b o e n hb hx) (I.base.free b o e n hx)
 ·obtain⟨sl,e1⟩:=I.base.slot b o e n hb hx;obtain⟨sl',e2⟩:=slot b _ (neL b o e) hb (neC b o e hx) e1 (I.base.free b o e n hx);exact⟨sl',e2⟩
 ·obtain⟨o',e1⟩:=I.base.there b o e hx;exact free b o' (neC b o e hx) e1 (I.base.free b o e n hx)
 ·obtain⟨o',e1⟩:=I.base.there b o e hx;exact there b o' (neC b o e hx) e1
 ·obtain⟨m1,e1⟩:=I.base.tbls b ps e;obtain⟨m2,e2⟩:=tbls b _ e1;exact⟨m1++m2,by rw[e2,U1]⟩
 ·obtain⟨m,hn,hl⟩:=I.loc;refine⟨m,ns m hn,fun i x v e1 e2 e3=>?_⟩;obtain⟨u,r,l⟩:=hl i x v e1 e2 e3;refine⟨u,r,?_⟩;rcases l with l | ⟨k,c,e,z⟩
  ·exact .inl l
  ·exact .inr ⟨k,c,e,cellK x c e _ z⟩
 ·obtain⟨v,z⟩:=I.cell x c e;exact⟨v,cellK x c e v z⟩
 ·obtain⟨m,⟨o,_,_,ho,_⟩,_⟩:=I.loc;exact free _ o (fun z=>(hch _ z).2.1 rfl) ho I.free
 ·obtain⟨v,o,ho,hd⟩:=I.cell x c e;exact free c o (fun z=>(hch c z).2.2.1 x c e rfl) ho (I.freeC x c e)
 ·obtain⟨e,n,ne,nf,d⟩:=I.pin p hp;have nch:p.1∉ch:=fun z=>(hch p.1 z).2.2.2 p hp rfl;exact⟨keep p.1 p.2 ne nf nch e n,free p.1 p.2 nch e n,ne,nf,d⟩
theorem Inv.un (I:Inv X pins σ H s) (u:Un X.fs [] H H' s.heap h') (hok:HOk X.prog X.w H' h'):Inv X pins σ H' {s with heap:=h',toks:=t'}:=by
 obtain⟨m,⟨o,es,ep,ho,r⟩,_⟩:=id I.loc;obtain⟨sl,hL⟩:=u.any ho I.free (by simp);exact I.step (g':=s.gens) (d':=s.drawn) (ch:=[]) (fun _ z=>nomatch z) (fun b o _ hb _ e n=>u.keep b o e n hb (by simp)) (fun b o _ hb _ e n=>u.slot b o e n hb (by simp)) (fun b o _ e n=>u.free b o e n (by simp)) (fun b o _ e=>u.there b o e (by simp)) u.tups u.frzs u.tbls (fun m' hm=>by
  obtain⟨o',es',ep',ho',r'⟩:=hm;rw[ho]at ho';cases ho';exact⟨_,es',ep',hL,r'⟩) hok I.bare
theorem Inv.call {g':Array GenState} {d':Drawn} {ch:List Addr} (I:Inv X pins σ H s) (u:Un (frs X.stack) ch H H' s.heap h') (hok:HOk X.prog X.w H' h') (hg:AllBare g')
  (hch:∀ b∈ch,(b∈X.ex\/X.s₀.heap.objs.size<=b)/\b≠X.env.locals/\(∀ x c,X.env.cells.lookup x=some c->c≠b)/\∀ p∈X.pn++pins,p.1≠b) :
  Inv X pins σ H' {s with heap:=h',gens:=g',drawn:=d',toks:=t'}:=by
 obtain⟨m,⟨o,es,ep,ho,r⟩,_⟩:=id I.loc;obtain⟨sl,hL⟩:=u.any ho I.free fun z=>(hch _ z).2.1 rfl;exact I.step (ch:=ch) hch (fun b o hL hb hc e n=>u.keep b o e n (fun z=>(Qx.mp (I.stkSub b z)).elim hL hb) hc) (fun b o _ _ hc e n=>u.any e n hc) (fun b o hc e n=>u.free b o e n hc) (fun b o hc e=>u.there b o e hc) u.tups u.frzs u.tbls (fun m' hm=>by
  obtain⟨o',es',ep',ho',r'⟩:=hm;rw[ho]at ho';cases ho';exact⟨_,es',ep',hL,r'⟩) hok hg
theorem Inv.turned {it:Addr} (I:Inv X pins σ H s) (k:∀ b o,b≠it->s.heap.get? b=some o->h'.get? b=some o) (hn:H it=none) (hL:it≠X.env.locals)
  (h1:it∈X.ex\/X.s₀.heap.objs.size<=it) (h2:∀ x c,X.env.cells.lookup x=some c->c≠it) (h3:∀ p∈X.pn++pins,p.1≠it):Inv X pins σ H {s with heap:=h',toks:=t'}:=by
 have nit:∀ b u,H b=some u->b≠it:=fun b u e z=>by rw[z,hn]at e;cases e
 refine I.step (g':=s.gens) (d':=s.drawn) (ch:=[it]) (fun b hb=>?_) (fun b o _ _ hc e _=>k b o (fun z=>hc (by simp[z])) e) (fun b o _ _ hc e _=>⟨o.slots,k b o (fun z=>hc (by simp[z])) e⟩) (fun _ _ _ _ n=>n)
  (fun b o hc e=>⟨o,k b o (fun z=>hc (by simp[z])) e⟩) (fun _ _ e=>e) (fun _ _ _ e=>e) (fun b ps e=>⟨#[],by rw[e];simp⟩) (fun m hm=>?_) (fun b u e=>?_) I.bare
 ·have e:b=it:=by simpa using hb
  subst e;exact⟨h1,hL,h2,h3⟩
 ·obtain⟨o,es,ep,ho,r⟩:=hm;exact⟨o,es,ep,k _ o (Ne.symm hL) ho,r⟩
 ·refine(I.hok b u e).stay (fun c v hc q=>k c v ?_ q) (fun _ q=>q) fun _ _ q=>q;rcases hc with z | z
  ·rw[z];exact nit b u e
  ·exact nit c _ z
theorem Inv.tok (I:Inv X pins σ H s) (t:Nat):Inv X pins σ H {s with toks:=t}:=I.un (h':=s.heap) (t':=t) Un.refl I.hok
theorem Inv.kept (I:Inv X pins σ H s) (k:∀ b u,s.heap.get? b=some u->h'.get? b=some u):Inv X pins σ H {s with heap:=h',toks:=t'}:=I.un (Un.kept k) (I.hok.kept k)
theorem Inv.laid {o:HO} (I:Inv X pins σ H s) (k:∀ b u,s.heap.get? b=some u->h'.get? b=some u) (hp:s.heap.objs.size<=a) (new:ObjOk X.prog X.w (upd H a o) h' a o) :
  Inv X pins σ (upd H a o) {s with heap:=h',toks:=t'}:=I.un (Un.laid k hp (I.hok.fresh hp)) (I.hok.laid k hp new)
theorem Inv.write {x e:Addr} {o:HO} (I:Inv X pins σ H s) (mu:Mut (H x)) (he:e=x\/H e=some (.own x)) (k:∀ b u,b≠e->s.heap.get? b=some u->h'.get? b=some u) (heo:∃ u,h'.get? e=some u)
  (new:ObjOk X.prog X.w (upd H x o) h' x o):Inv X pins σ (upd H x o) {s with heap:=h',toks:=t'}:=I.un (Un.write mu he k heo) (I.hok.write mu he k heo new)
theorem Inv.pins_of {pins':List (Addr×Obj)} (I:Inv X pins σ H s) (h:∀ p∈pins',s.heap.get? p.1=some p.2/\H p.1=none/\p.1≠X.env.locals/\p.1∉X.fs/\∀ v,p.2.data≠.cell v):Inv X pins' σ H s :=
 ⟨I.ok,I.os,I.bare,I.base,I.loc,I.cell,I.free,I.freeC,fun p hp=>(QI.mp hp).elim (fun z=>I.pin p (QS _ z)) (h p),I.hok,I.len⟩
theorem Zb0 {N:List Str} (hN:N.Nodup) (a:N[i]?=some x) (b:N[j]?=some x):i=j:=by
 obtain⟨h1,e1⟩:=Qo.mp a;obtain⟨h2,e2⟩:=Qo.mp b;exact(WQ hN).mp (e1.trans e2.symm)
theorem ZcE {M:Model} {Q:Unit->Shared->Prop} (I:Inv X pins σ H s) (hN:X.N.Nodup) (hi:X.N[i]?=some x) (hx:Loc X.env.scope x) (r:RelV v u)
  (h:∀ s',Inv X pins (σ.set i (some v)) H s'->(∃ a,Heap.SameBut a s.heap s'.heap/\(a=X.env.locals\/X.env.cells.lookup x=some a))->Q () s') (hf:X.fn x=true\/X.env.scope.names.lookup x=some .local:=by first | exact .inl rfl | exact .inr rfl | assumption):wpAny M A (storeName X.env x u) Q E s:=by
 obtain⟨m,hn,hl⟩:=id I.loc;have hcls:(X.env.scope.kind==.class || (X.env.scope.kind==.module&&X.env.locals != X.env.globals))=false:=by rw[I.ok.kind];rfl
 have hiσ:i<σ.length:=by rw[I.len];exact(Qo.mp hi).1
 have cne:=I.cne;have tracked:∀ {a:Addr} {h':Heap},(∃ o,s.heap.get? a=some o/\H a=none)->Heap.SameBut a s.heap h'->HOk X.prog X.w H h':=fun {a h'} ha hs b ob e=>by
  obtain⟨_,_,hfree⟩:=ha;refine(I.hok b ob e).stay (fun c w' hc q=>(hs.2 c ?_).trans q) (fun _ q=>q) fun _ _ q=>q;rintro rfl;rcases hc with rfl | hc
  ·rw[hfree]at e;cases e
  ·rw[hfree]at hc;cases hc
 rcases hx with hk | hk
 ·refine wpAny_storeName_local hk hn (fun h' hn' hs=>?_) hcls;obtain⟨oL,_,_,hoL,_⟩:=id hn;refine h _ ⟨I.ok,I.os,I.bare,⟨fun b o e n hb hx=>?_,fun b o e n hb hx=>?_,I.base.free,fun b o e hx=>?_,I.base.tups,I.base.frzs,I.base.tbls⟩,⟨_,hn',fun j y v' e1 e2 e3=>?_⟩,fun y c e=>?_,I.free,I.freeC,fun p hp=>?_,tracked ⟨oL,hoL,I.free⟩ hs,by simpa using I.len⟩ ⟨_,hs,.inl rfl⟩
  ·exact(hs.2 b (QD (QN (Qw e) I.ok.above))).trans (I.base.keep b o e n hb hx)
  ·obtain⟨sl,e1⟩:=I.base.slot b o e n hb hx;exact⟨sl,(hs.2 b (QD (QN (Qw e) I.ok.above))).trans e1⟩
  ·obtain⟨o',e1⟩:=I.base.there b o e hx;exact⟨o',(hs.2 b (QD (QN (Qw e) I.ok.above))).trans e1⟩
  ·by_cases hj:j=i
   ·subst hj;rw[hi]at e1;cases e1;rw[UJ hiσ]at e2;cases e2;exact⟨u,r,.inl ⟨hk,by simp⟩⟩
   ·rw[UM (Ne.symm hj)]at e2;obtain⟨u',r',q⟩:=hl j y v' e1 e2 e3;refine⟨u',r',?_⟩;rcases q with ⟨k,e⟩ | ⟨k,c,e,z⟩
    ·refine .inl ⟨k,?_⟩;have:y≠x:=fun e=>hj (Zb0 hN e1 (e▸hi));simp[this,e]
    ·exact .inr ⟨k,c,e,z.sameBut hs (cne y c e)⟩
  ·obtain⟨w',z⟩:=I.cell y c e;exact⟨w',z.sameBut hs (cne y c e)⟩
  ·obtain⟨e,n,ne,nf,d⟩:=I.pin p hp;exact⟨(hs.2 p.1 ne).trans e,n,ne,nf,d⟩
 ·have hfn:X.fn x=true:=by
   rcases hf with z | z
   ·exact z
   ·rw[z]at hk;cases hk
  obtain⟨c,hc⟩:=I.ok.has x (.inl hk);obtain⟨w',z⟩:=I.cell x c hc;refine wpAny_storeName_cell I.ok.kind hk hc z (fun h' hc' hs=>?_);obtain⟨oc,hoc,hocd⟩:=id z;refine h {s with heap:=h'} ⟨I.ok,I.os,I.bare,⟨fun b o e n hb hx=>?_,fun b o e n hb hx=>?_,I.base.free,fun b o e hx=>?_,I.base.tups,I.base.frzs,I.base.tbls⟩,⟨m,hn.sameBut hs (Ne.symm (cne x c hc)),fun j y v' e1 e2 e3=>?_⟩,fun y c' e=>?_,I.free,I.freeC,fun p hp=>?_,tracked ⟨oc,hoc,I.freeC x c hc⟩ hs,by simpa using I.len⟩ ⟨c,hs,.inr hc⟩
  ·exact(hs.2 b (QD (QN (Qw e) (I.ok.cab x c hfn hc)))).trans (I.base.keep b o e n hb hx)
  ·obtain⟨sl,e1⟩:=I.base.slot b o e n hb hx;exact⟨sl,(hs.2 b (QD (QN (Qw e) (I.ok.cab x c hfn hc)))).trans e1⟩
  ·obtain⟨o',e1⟩:=I.base.there b o e hx;exact⟨o',(hs.2 b (QD (QN (Qw e) (I.ok.cab x c hfn hc)))).trans e1⟩
  ·by_cases hj:j=i
   ·subst hj;rw[hi]at e1;cases e1;rw[UJ hiσ]at e2;cases e2;exact⟨u,r,.inr ⟨.inl hk,c,hc,hc'⟩⟩
   ·rw[UM (Ne.symm hj)]at e2;obtain⟨u',r',q⟩:=hl j y v' e1 e2 e3;refine⟨u',r',?_⟩;rcases q with q | ⟨k,c',e,z'⟩
    ·exact .inl q
    ·refine .inr ⟨k,c',e,z'.sameBut hs ?_⟩;rintro rfl;exact hj (Zb0 hN e1 (I.ok.inj _ _ _ e hc▸hi))
  ·by_cases hcc:c'=c
   ·subst hcc;exact⟨_,hc'⟩
   ·obtain⟨w2,z2⟩:=I.cell y c' e;exact⟨w2,z2.sameBut hs hcc⟩
  ·obtain⟨e,n,ne,nf,d⟩:=I.pin p hp;refine⟨(hs.2 p.1 ?_).trans e,n,ne,nf,d⟩;intro q;rw[q,hoc]at e;have q':oc=p.2:=Option.some.inj e;exact d w' (by rw[←q'];exact hocd)
theorem Zbt {M:Model} {Q:Unit->Shared->Prop} (I:Inv X pins σ H s) (hN:X.N.Nodup) (hi:X.N[i]?=some x) (hx:Loc X.env.scope x) (r:RelV v u)
  (h:∀ s',Inv X pins (σ.set i (some v)) H s'->Q () s') (hf:X.fn x=true\/X.env.scope.names.lookup x=some .local:=by first | exact .inl rfl | exact .inr rfl | assumption):wpAny M A (storeName X.env x u) Q E s :=
 ZcE I hN hi hx r (fun s' I' _=>h s' I') hf
theorem Inv.call' {s':Shared} {ch:List Addr} (I:Inv X pins σ H s) (ho:s'.os=s.os) (u:Un (frs X.stack) ch H H' s.heap s'.heap) (hok:HOk X.prog X.w H' s'.heap) (hg:AllBare s'.gens)
  (hch:∀ b∈ch,(b∈X.ex\/X.s₀.heap.objs.size<=b)/\b≠X.env.locals/\(∀ x c,X.env.cells.lookup x=some c->c≠b)/\∀ p∈X.pn++pins,p.1≠b):Inv X pins σ H' s':=by
 obtain⟨h',g',d',t',o'⟩:=s';have e:o'=s.os:=ho;subst e;exact I.call (g':=g') (t':=t') (d':=d') u hok hg hch
end
abbrev XK:=Value->Option Addr->Hp->Prop
abbrev St:=List (Option V)
abbrev VK:=V->Hp->Prop
abbrev TE:=St->Hp->VK->Prop
abbrev TT:=St->Hp->(Bool->Hp->Prop)->Prop
abbrev TA:=St->Hp->(List V->Hp->Prop)->Prop
structure Zev where
 nx:St->Hp->Prop
 rt:VK
 bk:St->Hp->Prop:=fun _ _=>False
 ct:St->Hp->Prop:=fun _ _=>False
abbrev TS:=Zev->St->Hp->Prop
def EP (X:Cx) (pins:List (Addr×Obj)) (σ:St) (Q:VK) (u:Value) (s':Shared):Prop:=∃ v H',Inv X pins σ H' s'/\RelV v u/\Q v H'
def TP (X:Cx) (pins:List (Addr×Obj)) (σ:St) (Q:Bool->Hp->Prop) (b:Bool) (s':Shared):Prop:=∃ H',Inv X pins σ H' s'/\Q b H'
def AP (X:Cx) (pins:List (Addr×Obj)) (σ:St) (Q:List V->Hp->Prop) (us:List Value) (s':Shared):Prop:=∃ vs H',Inv X pins σ H' s'/\Vals vs us/\Q vs H'
def SP (X:Cx) (pins:List (Addr×Obj)) (D:Zev) (f:Flow) (s':Shared):Prop :=
 match f with
 | .next=>∃ σ' H',Inv X pins σ' H' s'/\D.nx σ' H'
 | .brk=>∃ σ' H',Inv X pins σ' H' s'/\D.bk σ' H'
 | .cont=>∃ σ' H',Inv X pins σ' H' s'/\D.ct σ' H'
 | .ret u=>∃ v σ' H',Inv X pins σ' H' s'/\RelV v u/\D.rt v H'
def PE (X:Cx) (e:Expr) (t:TE):Prop :=
 ∀ (pins:List (Addr×Obj)) (s:Shared) (σ:St) (H:Hp) (Q:VK),Inv X pins σ H s->t σ H Q->wpAny (model X.prog X.w) X.A (eval e X.env) (EP X pins σ Q) X.xe s
def PT (X:Cx) (e:Expr) (t:TT):Prop :=
 ∀ (pins:List (Addr×Obj)) (s:Shared) (σ:St) (H:Hp) (Q:Bool->Hp->Prop),Inv X pins σ H s->t σ H Q->wpAny (model X.prog X.w) X.A (isTrue e X.env (eval e X.env)) (TP X pins σ Q) X.xe s
def PW (X:Cx) (e:Expr) (t:TT):Prop :=
 ∀ (whole:Sem Value) (pins:List (Addr×Obj)) (s:Shared) (σ:St) (H:Hp) (Q:Bool->Hp->Prop),Inv X pins σ H s->t σ H Q->wpAny (model X.prog X.w) X.A (isTrue e X.env whole) (TP X pins σ Q) X.xe s
theorem PW.pt {t:TT} (h:PW X e t):PT X e t:=h _
def PA (X:Cx) (es:List Expr) (t:TA):Prop :=
 ∀ (pos:Pos) (pins:List (Addr×Obj)) (s:Shared) (σ:St) (H:Hp) (Q:List V->Hp->Prop),Inv X pins σ H s->t σ H Q->wpAny (model X.prog X.w) X.A (spliced (backTo pos (starEach es X.env))) (AP X pins σ Q) X.xe s
def PS (X:Cx) (st:Stmt) (t:TS):Prop :=
 ∀ (pins:List (Addr×Obj)) (s:Shared) (σ:St) (H:Hp) (D:Zev),Inv X pins σ H s->t D σ H->wpAny (model X.prog X.w) X.A (exec st X.env) (SP X pins D) X.xe s
def PSs (X:Cx) (st:List Stmt) (t:TS):Prop :=
 ∀ (pins:List (Addr×Obj)) (s:Shared) (σ:St) (H:Hp) (D:Zev),Inv X pins σ H s->t D σ H->wpAny (model X.prog X.w) X.A (execs st X.env) (SP X pins D) X.xe s
theorem thn {α:Type} {t:Sem α} {Q Q':α->Shared->Prop} {M:Model} (h:wpAny M A t Q E s) (hQ:∀ a s,Q a s->Q' a s):wpAny M A t Q' E s:=wpAny_mono h hQ fun _ _ x=>x
section
variable {X:Cx}
theorem bin {a b:Expr} {ta tb:TE} (ha:PE X a ta) (hb:PE X b tb) {R:V->V->Hp->Prop} (I:Inv X pins σ H s) (h:ta σ H fun x H1=>tb σ H1 fun y H2=>R x y H2)
  {α:Type} {Q:α->Shared->Prop} {f:Value->Value->Sem α}
  (hf:∀ v u s2 x y H2,Inv X pins σ H2 s2->RelV x v->RelV y u->R x y H2->wpAny (model X.prog X.w) X.A (f v u) Q X.xe s2) :
  wpAny (model X.prog X.w) X.A (eval a X.env) (fun v s₁=>wpAny (model X.prog X.w) X.A (eval b X.env) (fun u s₂=>wpAny (model X.prog X.w) X.A (f v u) Q X.xe s₂) X.xe s₁) X.xe s:=by
 refine thn (ha pins s σ H _ I h) fun v s1 ⟨x,H1,I1,r1,q1⟩=>?_;refine thn (hb pins s1 σ H1 _ I1 q1) fun u s2 ⟨y,H2,I2,r2,q2⟩=>?_;exact hf v u s2 x y H2 I2 r1 r2 q2
def Zne (i:Nat):TE:=fun σ H Q=>∃ v,σ[i]?=some (some v)/\Q v H
def tC (v:V):TE:=fun _ H Q=>Q v H
theorem ZnT (hN:X.N[i]?=some x) (hv:Vis X.env.scope x) (hd:(x==("__debug__" : Str))=false:=by decide) (hcd:(x==("__classdict__" : Str))=false:=by decide):PE X (.Name x pos) (Zne i):=by
 intro pins s σ H Q I h;obtain⟨v,e,h⟩:=h;obtain⟨m,hn,hl⟩:=I.loc;obtain⟨u,r,l⟩:=hl i x v hN e hv;have fin:EP X pins σ Q u s:=⟨v,H,I,r,h⟩
 rcases l with ⟨hk,hm⟩ | ⟨hk,c,hc,hcell⟩
 ·exact wpAny_Name (wpAny_loadName_local I.ok.kind hk hn hm fin) hd
 ·rcases hk with hk | hk
  ·exact wpAny_Name (wpAny_loadName_cell I.ok.kind hk hc hcell fin) hd
  ·exact wpAny_Name (wpAny_loadName_free I.ok.kind hk hc hcell fin hcd) hd
theorem Zf {i j pos}:PE X (.Constant (.int i) j pos) (tC (.int i)):=fun _ _ _ H _ I h=>wpAny_Constant_int ⟨.int i,H,I.tok _,⟨_,rfl⟩,h⟩
theorem Ym {b j pos}:PE X (.Constant (.bool b) j pos) (tC (.bl b)):=fun _ _ _ H _ I h=>Constant_bool ⟨.bl b,H,I,rfl,h⟩
theorem YF {j pos}:PE X (.Constant .none j pos) (tC .non):=fun _ _ _ H _ I h=>Constant_none ⟨.non,H,I,rfl,h⟩
theorem Z8 {x j pos}:PE X (.Constant (.str x) j pos) (tC (.str x)):=fun _ _ _ H _ I h=>Calls.Constant_str ⟨.str x,H,I.tok _,⟨_,rfl⟩,h⟩
def Gl (X:Cx) (x:Str):Prop:=X.env.kindOf x=some .globalImplicit
theorem Xb (I:Inv X pins σ H s) (hg:Gl X x) (hm:X.mg x=some u) (h:Q u s)
  (hd:(x==("__debug__" : Str))=false:=by decide):wpAny (model X.prog X.w) X.A (eval (.Name x pos) X.env) Q E s :=
 Calls.Name_function_global I.ok.kind hg (Calls.loadGlobal_global (by rw[I.ok.glob];exact I.mod.glob.keeps I.bk) hm h) hd
theorem Zat (I:Inv X pins σ H s) (hg:Gl X x) (hm:X.mg x=none) (hv:bootBuiltins x=some u) (h:Q u s)
  (hn:x≠"__name__":=by decide) (hd:(x==("__debug__" : Str))=false:=by decide):wpAny (model X.prog X.w) X.A (eval (.Name x pos) X.env) Q E s:=by
 obtain⟨mb,h1,h2⟩:=I.mod.blt;exact Calls.Name_function_global I.ok.kind hg (Calls.loadGlobal_builtin (by rw[I.ok.glob];exact I.mod.glob.keeps I.bk) hm (by rw[I.ok.blt];exact h1.keeps I.bk) ((h2 x hn).trans hv) h) hd
theorem Yj (hg:Gl X x) (hm:X.mg x=some u) (r:RelV v u) (hd:(x==("__debug__" : Str))=false:=by decide):PE X (.Name x pos) (tC v) :=
 fun _ _ _ H _ I h=>Xb I hg hm ⟨v,H,I,r,h⟩ hd
theorem Zmj (hg:Gl X x) (hm:X.mg x=none) (hv:bootBuiltins x=some u) (r:RelV v u) (hn:x≠"__name__":=by decide) (hd:(x==("__debug__" : Str))=false:=by decide):PE X (.Name x pos) (tC v) :=
 fun _ _ _ H _ I h=>Zat I hg hm hv ⟨v,H,I,r,h⟩ hn hd
variable {a b:Expr} {ta tb:TE} {pos:Pos}
def PC (X:Cx) (op:CmpOp) (a b:Expr) (t:TE):Prop :=
 ∀ (pins:List (Addr×Obj)) (s:Shared) (σ:St) (H:Hp) (Q:VK),Inv X pins σ H s->t σ H Q ->
  wpAny (model X.prog X.w) X.A (eval a X.env) (fun v s₁=>wpAny (model X.prog X.w) X.A (eval b X.env) (fun u s₂=>wpAny (model X.prog X.w) X.A (compareOp op v u) (EP X pins σ Q) X.xe s₂) X.xe s₁) X.xe s
theorem ZjU (b:Expr) {op:CmpOp} (h:op≠.In) (h2:op≠.NotIn):behindInMarks op b=false:=by
 have e1:(op==CmpOp.In)=false:=by cases op <;> first | rfl | exact absurd rfl h
 have e2:(op==CmpOp.NotIn)=false:=by cases op <;> first | rfl | exact absurd rfl h2
 cases b <;> simp[behindInMarks,e1,e2]
def tB (t:TE):TT:=fun σ H Q=>t σ H fun x H1=>∃ c,x= .bl c/\Q c H1
theorem ZnP {op:CmpOp} {t:TE} (h:PC X op a b t) (h1:behindInMarks op b=false:=by first | exact ZjU _ (by decide) (by decide) | rfl):PT X (.Compare a [op] [b] pos) (tB t):=by
 intro pins s σ H Q I hw;refine wpAny_isTrue_Compare1 (thn (h pins s σ H _ I hw) fun v s1 h1=>thn h1 fun u s2 h2=>thn h2 fun c s3 ⟨x,H1,I1,r1,q1⟩=>?_) h1;obtain⟨d,rfl,q⟩:=q1;cases r1;exact wpAny_truthy_bool ⟨H1,I1,q⟩
theorem ZQ {t:TE} (h:PE X e t) (he:∀ whole,isTrue e X.env whole=(do let v ←whole;standAt e.pos;holding [v] (truthy v)):=by intro _;rfl):PT X e (tB t):=by
 intro pins s σ H Q I hw;refine isTrue_plain (thn (h pins s σ H _ I hw) fun v s1 ⟨x,H1,I1,r1,q1⟩=>?_) (he _);obtain⟨d,rfl,q⟩:=q1;cases r1;exact wpAny_truthy_bool ⟨H1,I1,q⟩
variable {tA tB':TT} {rest:List Expr}
def Zp7 (t u:TT):TT:=fun σ H Q=>t σ H fun c H1=>if c=true then u σ H1 Q else Q false H1
def tOr (t u:TT):TT:=fun σ H Q=>t σ H fun c H1=>if c=true then Q true H1 else u σ H1 Q
def Zp1 (t:TT):TT:=fun σ H Q=>t σ H fun c H1=>Q (!c) H1
theorem Y9 (ha:PT X a tA):PW X (.BoolOp .And [a] pos) tA:=by
 intro wh pins s σ H Q I h;refine isTrue_and (thn (ha pins s σ H Q I h) fun c s1 e=>?_);cases c with
 | true=>exact isTrue_and_nil e
 | false=>exact e
theorem Jw (ha:PT X a tA):PW X (.BoolOp .Or [a] pos) tA:=by
 intro wh pins s σ H Q I h;refine isTrue_or (thn (ha pins s σ H Q I h) fun c s1 e=>?_);cases c with
 | false=>exact isTrue_or_nil e
 | true=>exact e
theorem XT (ha:PT X a tA) (hb:PW X (.BoolOp .And (b::rest) pos) tB'):PW X (.BoolOp .And (a::b::rest) pos) (Zp7 tA tB'):=by
 intro wh pins s σ H Q I h;refine isTrue_and (thn (ha pins s σ H _ I h) fun c s1 ⟨H1,I1,q1⟩=>?_);cases c with
 | true=>exact hb wh pins s1 σ H1 Q I1 q1
 | false=>exact⟨H1,I1,q1⟩
theorem Zae (ha:PT X a tA) (hb:PW X (.BoolOp .Or (b::rest) pos) tB'):PW X (.BoolOp .Or (a::b::rest) pos) (tOr tA tB'):=by
 intro wh pins s σ H Q I h;refine isTrue_or (thn (ha pins s σ H _ I h) fun c s1 ⟨H1,I1,q1⟩=>?_);cases c with
 | true=>exact⟨H1,I1,q1⟩
 | false=>exact hb wh pins s1 σ H1 Q I1 q1
theorem Z3 (ha:PT X a tA):PT X (.UnaryOp .Not a pos) (Zp1 tA):=by
 intro pins s σ H Q I h;exact isTrue_not (ha pins s σ H (fun c H1=>Q (!c) H1) I h)
def Zpa (ta tb:TE):TE:=fun σ H Q=>ta σ H fun x H1=>∃ c,x= .bl c/\if c=true then tb σ H1 Q else Q (.bl false) H1
def Zo2 (ta:TE):TE:=fun σ H Q=>ta σ H fun x H1=>∃ c,x= .bl c/\Q (.bl (!c)) H1
theorem Za8 {op} {t:TE} (h:PE X a t):PE X (.BoolOp op [a] pos) t:=fun pins s σ H Q I hw=>BoolOp_one (h pins s σ H Q I hw)
theorem Za9 (ha:PE X a ta) (hb:PE X (.BoolOp .And (b::rest) pos) tb):PE X (.BoolOp .And (a::b::rest) pos) (Zpa ta tb):=by
 intro pins s σ H Q I h;refine BoolOp_and (thn (ha pins s σ H _ I h) fun v s1 ⟨x,H1,I1,r1,q1⟩=>?_);obtain⟨c,rfl,q1⟩:=q1;cases r1;refine wpAny_truthy_bool ?_;cases c with
 | true=>exact hb pins s1 σ H1 Q I1 q1
 | false=>exact⟨.bl false,H1,I1,rfl,q1⟩
theorem ZhF (ha:PE X a ta):PE X (.UnaryOp .Not a pos) (Zo2 ta):=by
 intro pins s σ H Q I h;refine UnaryOp_ (thn (ha pins s σ H _ I h) fun v s1 ⟨x,H1,I1,r1,q1⟩=>?_);obtain⟨c,rfl,q1⟩:=q1;cases r1;exact not_of (wpAny_truthy_bool ⟨.bl (!c),H1,I1,rfl,q1⟩)
def tIf (t:TT) (ta tb:TE):TE:=fun σ H Q=>t σ H fun c H1=>if c=true then ta σ H1 Q else tb σ H1 Q
theorem ZeV (hc:PT X c tA) (ha:PE X a ta) (hb:PE X b tb):PE X (.IfExp c a b pos) (tIf tA ta tb):=by
 intro pins s σ H Q I h;refine wpAny_IfExp (thn (hc pins s σ H _ I h) fun d s1 ⟨H1,I1,q1⟩=>?_);cases d with
 | true=>exact ha pins s1 σ H1 Q I1 q1
 | false=>exact hb pins s1 σ H1 Q I1 q1
end
def SqL (K:PySem.W.Frag) (H:Hp) (a:Addr) (xs:List V):Prop :=
 Rd H a (.lst xs) \/
  ∃ (o:Obj) (its:Array Value) (n:Nat),K.lookup a=some o/\o.cls= .type "list"/\o.dict=none/\o.data= .seq its n/\its.size<=sizeLine/\Vals xs its.toList
def SqT (K:PySem.W.Frag) (H:Hp) (a:Addr) (xs:List V):Prop :=
 Rd H a (.tup xs) \/
  ∃ (o:Obj) (its:Array Value) (n:Nat),K.lookup a=some o/\o.cls= .type "tuple"/\o.data= .seq its n/\its.size<=sizeLine/\Vals xs its.toList
def Zql:Value->Option V
 | .none=>some .non
 | .bool b=>some (.bl b)
 | .int i _=>some (.int i)
 | .str x _=>some (.str x)
 | .bytes b _=>some (.byt b)
 | .float b _=>some (.flt b)
 | .ref a=>some (.ref a)
 | .type n=>some (.ty n)
 | _=>none
theorem RelV.abs {x:V} (r:RelV x u):Zql u=some x:=by
 cases x with
 | non=>cases r;rfl
 | bl _=>cases r;rfl
 | int _=>obtain⟨t,rfl⟩:=r;rfl
 | str _=>obtain⟨t,rfl⟩:=r;rfl
 | byt _=>obtain⟨t,rfl⟩:=r;rfl
 | flt _=>obtain⟨t,rfl⟩:=r;rfl
 | ref _=>cases r;rfl
 | ty _=>cases r;rfl
theorem RelV.inj {x y:V} (r:RelV x u) (q:RelV y u):x=y:=Option.some.inj (r.abs.symm.trans q.abs)
theorem Vals.inj:∀ {xs ys:List V} {us:List Value},Vals xs us->Vals ys us->xs=ys
 | _,_,_,.nil,.nil=>rfl
 | _,_,_,.cons r t,.cons r' t'=>by rw[r.inj r',Vals.inj t t']
section
variable {X:Cx} {pins:List (Addr×Obj)} {σ:St} {H:Hp} {s:Shared} {a:Addr} {xs ys:List V}
theorem SqL.of {K:PySem.W.Frag} (h:H a=some (.lst xs)):SqL K H a xs:=.inl (.inl h)
theorem SqT.of {K:PySem.W.Frag} (h:H a=some (.tup xs)):SqT K H a xs:=.inl (.inl h)
theorem Inv.list (I:Inv X pins σ H s) (h:SqL X.K H a xs):∃ its:List Value,Vals xs its/\PlainL s.heap a its.toArray/\xs.length<=sizeLine:=by
 rcases h with h | ⟨o,its,n,hk,hc,hd,hs,hz,r⟩
 ·obtain⟨z,its,n,r,e⟩:=h.ok I.hok;exact⟨its,r,⟨_,n,e,rfl,rfl,rfl⟩,z⟩
 ·refine⟨its.toList,r,⟨o,n,I.kIn a o hk,hc,hd,by simpa using hs⟩,?_⟩;have e:=r.length;simp only[QC]at e;omega
theorem Inv.tuple (I:Inv X pins σ H s) (h:SqT X.K H a xs):∃ its:List Value,Vals xs its/\IsTup s.heap a its.toArray/\xs.length<=sizeLine:=by
 rcases h with h | ⟨o,its,n,hk,hc,hs,hz,r⟩
 ·obtain⟨z,its,r,p,_⟩:=h.ok I.hok;exact⟨its,r,p,z⟩
 ·refine⟨its.toList,r,⟨o,I.kIn a o hk,hc,n,by simpa using hs⟩,?_⟩;have e:=r.length;simp only[QC]at e;omega
theorem Inv.list_inj (I:Inv X pins σ H s) (h:SqL X.K H a xs) (h':SqL X.K H a ys):xs=ys:=by
 obtain⟨its,r,⟨o,n,e,_,_,d⟩,_⟩:=I.list h;obtain⟨its',r',⟨o',n',e',_,_,d'⟩,_⟩:=I.list h';rw[e]at e';cases e';rw[d]at d';injection d' with d1 _
 have:its=its':=by simpa using congrArg Vp d1
 subst this;exact r.inj r'
theorem Inv.tuple_inj (I:Inv X pins σ H s) (h:SqT X.K H a xs) (h':SqT X.K H a ys):xs=ys:=by
 obtain⟨its,r,⟨o,e,_,n,d⟩,_⟩:=I.tuple h;obtain⟨its',r',⟨o',e',_,n',d'⟩,_⟩:=I.tuple h';rw[e]at e';cases e';rw[d]at d';injection d' with d1 _
 have:its=its':=by simpa using congrArg Vp d1
 subst this;exact r.inj r'
end
abbrev Cx.wish (X:Cx) (E:Value->Shared->Prop):Cx:={X with xe:=E}
abbrev Cx.nox (X:Cx):Cx:=X.wish fun _ _=>False
theorem Cx.Ok.wish (ok:X.Ok) (E:Value->Shared->Prop):(X.wish E).Ok :=
 ⟨ok.mod,ok.kind,ok.glob,ok.blt,ok.above,ok.inj,ok.has,ok.cab,ok.hd,ok.frames,ok.stk,ok.exf,ok.bs,ok.bsz,ok.noex,ok.exfs,ok.funs,ok.frf⟩
theorem Cx.Ok.unwish (ok:(X.wish E).Ok):X.Ok :=
 ⟨ok.mod,ok.kind,ok.glob,ok.blt,ok.above,ok.inj,ok.has,ok.cab,ok.hd,ok.frames,ok.stk,ok.exf,ok.bs,ok.bsz,ok.noex,ok.exfs,ok.funs,ok.frf⟩
section
variable {X:Cx} {pins:List (Addr×Obj)} {σ:St} {H:Hp} {s:Shared} {E:Value->Shared->Prop}
theorem Inv.wish (I:Inv X pins σ H s) (E:Value->Shared->Prop):Inv (X.wish E) pins σ H s:=⟨I.ok.wish E,I.os,I.bare,I.base,I.loc,I.cell,I.free,I.freeC,I.pin,I.hok,I.len⟩
theorem Inv.unwish (I:Inv (X.wish E) pins σ H s):Inv X pins σ H s:=⟨I.ok.unwish,I.os,I.bare,I.base,I.loc,I.cell,I.free,I.freeC,I.pin,I.hok,I.len⟩
theorem SP.unwish {D:Zev} {f:Flow} {s':Shared} (h:SP (X.wish E) pins D f s'):SP X pins D f s':=by
 cases f with
 | next=>obtain⟨σ',H',I,q⟩:=h;exact⟨σ',H',I.unwish,q⟩
 | brk=>obtain⟨σ',H',I,q⟩:=h;exact⟨σ',H',I.unwish,q⟩
 | cont=>obtain⟨σ',H',I,q⟩:=h;exact⟨σ',H',I.unwish,q⟩
 | ret u=>obtain⟨v,σ',H',I,r,q⟩:=h;exact⟨v,σ',H',I.unwish,r,q⟩
theorem PE.nox {t:TE} (h:PE X.nox e t):PE X e t:=fun pins s σ H Q I hw =>
 wpAny_mono (h pins s σ H Q (I.wish _) hw) (fun _ _ ⟨v,H',I',r,q⟩=>⟨v,H',I'.unwish,r,q⟩) fun _ _ z=>False.elim z
theorem PT.nox {t:TT} (h:PT X.nox e t):PT X e t:=fun pins s σ H Q I hw =>
 wpAny_mono (h pins s σ H Q (I.wish _) hw) (fun _ _ ⟨H',I',q⟩=>⟨H',I'.unwish,q⟩) fun _ _ z=>False.elim z
theorem PSs.nox {st:List Stmt} {t:TS} (h:PSs X.nox st t):PSs X st t:=fun pins s σ H D I hw =>
 wpAny_mono (h pins s σ H D (I.wish _) hw) (fun _ _ q=>q.unwish) fun _ _ z=>False.elim z
end
section
variable {X:Cx} {st:Stmt} {rest:List Stmt} {t u:TS} {e:Expr} {te:TE} {pos:Pos}
def Znq:TS:=fun D σ H=>D.nx σ H
def ZfF (t u:TS):TS:=fun D σ H=>t {D with nx:=u D} σ H
theorem Zs:PSs X [] Znq:=fun _ _ σ H _ I h=>wpAny_execs_nil ⟨σ,H,I,h⟩
theorem Ze (h1:PS X st t) (h2:PSs X rest u):PSs X (st::rest) (ZfF t u):=by
 intro pins s σ H D I h;refine wpAny_execs_cons (thn (h1 pins s σ H {D with nx:=u D} I h) fun f s1 q=>?_);cases f with
 | next =>
  obtain⟨σ',H',I',q⟩:=q;exact h2 pins s1 σ' H' D I' q
 | ret v=>exact q
 | brk=>exact q
 | cont=>exact q
theorem Zh (h1:PS X st t):PSs X [st] t:=by
 intro pins s σ H D I h;refine wpAny_execs_cons (thn (h1 pins s σ H D I h) fun f s1 q=>?_);cases f with
 | next=>exact wpAny_execs_nil q
 | ret v=>exact q
 | brk=>exact q
 | cont=>exact q
theorem Inv.quiet (I:Inv X pins σ H s):interactive X.env=false:=by simp[interactive,I.ok.kind]
def Zo4 (te:TE):TS:=fun D σ H=>te σ H fun _ H1=>D.nx σ H1
theorem ZW (he:PE X e te) (hs:swapsWith e none pos.line X.env=pure false:=by rfl):PS X (.Expr e pos) (Zo4 te):=by
 intro pins s σ H D I h;exact wpAny_Expr_any (thn (he pins s σ H _ I h) fun v s1 ⟨x,H1,I1,r1,q1⟩=>⟨σ,H1,I1,q1⟩) I.quiet hs
def Zp0 (te:TE):TS:=fun D σ H=>te σ H D.rt
theorem Zn (he:PE X e te):PS X (.Return (some e) pos) (Zp0 te):=by
 intro pins s σ H D I h;exact wpAny_Return_some (thn (he pins s σ H _ I h) fun v s1 ⟨x,H1,I1,r1,q1⟩=>⟨x,σ,H1,I1,r1,q1⟩)
def ZkJ (c:TT) (t u:TS):TS:=fun D σ H=>c σ H fun b H1=>if b=true then t D σ H1 else u D σ H1
theorem ZE {a b:List Stmt} {tc:TT} (hc:PT X c tc) (ha:PSs X a t) (hb:PSs X b u):PS X (.If c a b pos) (ZkJ tc t u):=by
 intro pins s σ H D I h;refine wpAny_If (thn (hc pins s σ H _ I h) fun d s1 ⟨H1,I1,q1⟩=>?_);cases d with
 | true=>exact ha pins s1 σ H1 D I1 q1
 | false=>exact hb pins s1 σ H1 D I1 q1
end
abbrev TG:=V->St->Hp->(St->Hp->Prop)->Prop
abbrev TGs:=List V->St->Hp->(St->Hp->Prop)->Prop
def PG (X:Cx) (target:Expr) (t:TG):Prop :=
 ∀ (pins:List (Addr×Obj)) (s:Shared) (σ:St) (H:Hp) (v:V) (u:Value) (Q:St->Hp->Prop),Inv X pins σ H s->RelV v u->t v σ H Q ->
  wpAny (model X.prog X.w) X.A (assign target X.env u) (fun _ s'=>∃ σ' H',Inv X pins σ' H' s'/\Q σ' H') X.xe s
def PGs (X:Cx) (ts:List Expr) (t:TGs):Prop :=
 ∀ (pins:List (Addr×Obj)) (s:Shared) (σ:St) (H:Hp) (vs:List V) (us:List Value) (Q:St->Hp->Prop),Inv X pins σ H s->Vals vs us->t vs σ H Q ->
  wpAny (model X.prog X.w) X.A (assignInOrder ((assignEach ts X.env).map (·.2)) us) (fun _ s'=>∃ σ' H',Inv X pins σ' H' s'/\Q σ' H') X.xe s
abbrev ZoM:=V->V->V->Hp->(Hp->Prop)->Prop
def ZpF (X:Cx) (t:ZoM):Prop :=
 ∀ (pins:List (Addr×Obj)) (s:Shared) (σ:St) (H:Hp) (o i v:V) (ov iv u:Value) (Q:Hp->Prop),Inv X pins σ H s->RelV o ov->RelV i iv->RelV v u->t o i v H Q ->
  wpAny (model X.prog X.w) X.A (setItem ov iv u) (fun _ s'=>∃ H',Inv X pins σ H' s'/\Q H') X.xe s
abbrev TIp:=V->V->Hp->VK->Prop
def PIp (X:Cx) (op:Operator) (t:TIp):Prop :=
 ∀ (pins:List (Addr×Obj)) (s:Shared) (σ:St) (H:Hp) (x y:V) (v u:Value) (Q:VK),Inv X pins σ H s->RelV x v->RelV y u->t x y H Q ->
  wpAny (model X.prog X.w) X.A (inplaceOp op v u) (EP X pins σ Q) X.xe s
section
variable {X:Cx} {pos:Pos}
def JI (i:Nat):TG:=fun v σ H Q=>Q (σ.set i (some v)) H
theorem Zy (hN:X.N.Nodup) (hi:X.N[i]?=some x) (hx:Loc X.env.scope x) (hf:X.fn x=true\/X.env.scope.names.lookup x=some .local:=by first | exact .inl rfl | exact .inr rfl | assumption):PG X (.Name x pos) (JI i):=by
 intro pins s σ H v u Q I r h;exact wpAny_assign_Name (Zbt I hN hi hx r (fun s' I'=>⟨_,H,I',h⟩) hf)
def ZpS:TGs:=fun vs σ H Q=>vs=[]/\Q σ H
def ZmW (t:TG) (u:TGs):TGs:=fun vs σ H Q=>∃ v r,vs=v::r/\t v σ H fun σ' H'=>u r σ' H' Q
theorem Z6:PGs X [] ZpS:=by
 intro pins s σ H vs us Q I r h;obtain⟨e,h⟩:=h;subst e;cases r;exact assignInOrder_nil ⟨σ,H,I,h⟩
theorem Zv {es:List Expr} {t:TG} {u:TGs} (h1:PG X e t) (h2:PGs X es u)
  (hs:(assignEach (e::es) X.env).map (·.2)=assign e X.env::(assignEach es X.env).map (·.2):=by rfl):PGs X (e::es) (ZmW t u):=by
 intro pins s σ H vs us Q I r h;obtain⟨v,vr,e1,h⟩:=h;subst e1;cases r with
 | cons r rr =>
  rw[hs];refine assignInOrder_cons (thn (h1 pins s σ H _ _ _ I r h) fun _ s1 ⟨σ1,H1,I1,q1⟩=>?_);exact h2 pins s1 σ1 H1 _ _ Q I1 rr q1
def Zpw (K:PySem.W.Frag) (n:Nat) (t:TGs):TG:=fun v σ H Q=>∃ a xs,v= .ref a/\SqT K H a xs/\xs.length=n/\t xs σ H Q
theorem ZnS {es:List Expr} {t:TGs} (hc:X.calm=true) (h:PGs X es t)
  (hn:(assignEach es X.env).length=n:=by rfl) (hst:(assignEach es X.env).findIdx? (·.1)=none:=by rfl):PG X (.Tuple es k pos) (Zpw X.K n t):=by
 intro pins s σ H v u Q I r hw;obtain⟨a,xs,e1,hq,hl,hw⟩:=hw;subst e1;cases r;obtain⟨its,rv,ht,hz⟩:=I.tuple hq;refine assign_Tuple_tuple (I.ok.hd hc) ht (by simp[hn,←hl,rv.length]) hst fun h' hx=>?_;have I1:Inv X pins σ H {s with heap:=h'}:=I.kept (t':=s.toks) fun b o e=>hx b o (QD (Qw e)) e;exact h pins _ σ H xs _ Q I1 (by simpa using rv) hw
def Zqh (to ti:TE) (t:ZoM):TG:=fun v σ H Q=>to σ H fun o H1=>ti σ H1 fun i H2=>t o i v H2 fun H3=>Q σ H3
theorem Zk8 {o i:Expr} {to ti:TE} {t:ZoM} (ho:PE X o to) (hi:PE X i ti) (hs:ZpF X t)
  (ha:∀ v,assign (.Subscript o i pos) X.env v=(do
   let ov ←holding [v] (eval o X.env)
   let iv ←holding [v,ov] (eval i X.env)
   standAt pos
   holding [v,ov,iv] (setItem ov iv v)
   release [v,ov,iv] []):=by intro _;rfl):PG X (.Subscript o i pos) (Zqh to ti t):=by
 intro pins s σ H v u Q I r h;rw[ha];refine wpAny_bind (wpAny_holding (thn (ho pins s σ H _ I h) fun ov s1 ⟨x,H1,I1,r1,q1⟩=>?_));refine wpAny_bind (wpAny_holding (thn (hi pins s1 σ H1 _ I1 q1) fun iv s2 ⟨y,H2,I2,r2,q2⟩=>?_));refine wpAny_bind (wpAny_standAt (wpAny_bind (wpAny_holding (thn (hs pins s2 σ H2 x y v ov iv u _ I2 r1 r2 r q2) fun _ s3 ⟨H3,I3,q3⟩=>?_))));exact wpAny_release ⟨σ,H3,I3,q3⟩
def ZoQ (te:TE) (g:TG):TS:=fun D σ H=>te σ H fun x H1=>g x σ H1 D.nx
theorem Zk5 {g:TG} (he:PE X e te) (hg:PG X tg g) (hs:swapsWithSole [tg] e pos.line X.env=pure false:=by rfl) (hw:swappedStores [tg] e X.env=pure none:=by rfl)
  (h1:(assignEach [tg] X.env).map (·.2)=[assign tg X.env]:=by rfl):PS X (.Assign [tg] e pos) (ZoQ te g):=by
 intro pins s σ H D I h;refine wpAny_Assign_stores (thn (he pins s σ H _ I h) fun v s1 ⟨x,H1,I1,r1,q1⟩=>?_) hs hw;rw[h1];exact thn (hg pins s1 σ H1 x v _ I1 r1 q1) fun _ s2 q=>q
theorem Zp {pos':Pos} (hN:X.N.Nodup) (hi:X.N[i]?=some x) (hx:Loc X.env.scope x) (he:PE X e te) (hs:swapsWith e (some (.Name x pos')) pos.line X.env=pure false:=by rfl) (hf:X.fn x=true\/X.env.scope.names.lookup x=some .local:=by first | exact .inl rfl | exact .inr rfl | assumption) :
  PS X (.Assign [.Name x pos'] e pos) (ZoQ te (JI i)):=by
 intro pins s σ H D I h;refine wpAny_Assign_Name (thn (he pins s σ H _ I h) fun v s1 ⟨y,H1,I1,r1,q1⟩=>?_) hs;exact Zbt I1 hN hi hx r1 (fun s2 I2=>⟨_,H1,I2,q1⟩) hf
def Zo9 (to ti te:TE) (tget:V->V->Hp->VK->Prop) (tip:TIp) (tset:ZoM):TS:=fun D σ H=>to σ H fun o H1=>ti σ H1 fun i H2=>tget o i H2 fun x H3=>te σ H3 fun y H4=>tip x y H4 fun z H5=>tset o i z H5 fun H6=>D.nx σ H6
def ZpV (X:Cx) (t:V->V->Hp->VK->Prop):Prop :=
 ∀ (pins:List (Addr×Obj)) (s:Shared) (σ:St) (H:Hp) (o i:V) (ov iv:Value) (Q:VK),Inv X pins σ H s->RelV o ov->RelV i iv->t o i H Q ->
  wpAny (model X.prog X.w) X.A (getItem ov iv) (EP X pins σ Q) X.xe s
theorem Zhx {o i:Expr} {to ti:TE} {tget:V->V->Hp->VK->Prop} {tip:TIp} {tset:ZoM} {op:Operator} {tpos:Pos} (ho:PE X o to) (hi:PE X i ti) (hg:ZpV X tget) (he:PE X e te) (hp:PIp X op tip) (hs:ZpF X tset)
  (ha:∀ ov iv new,augStore i ov iv new=(do holding [new,ov,iv] (setItem ov iv new);release [new,ov,iv] [];pure .next):=by intros;rfl):PS X (.AugAssign (.Subscript o i tpos) op e pos) (Zo9 to ti te tget tip tset):=by
 intro pins s σ H D I h;refine wpAny_AugAssign_SubscriptAny (thn (ho pins s σ H _ I h) fun ov s1 ⟨x1,H1,I1,r1,q1⟩=>?_) ha;refine thn (hi pins s1 σ H1 _ I1 q1) fun iv s2 ⟨x2,H2,I2,r2,q2⟩=>?_;refine thn (hg pins s2 σ H2 x1 x2 ov iv _ I2 r1 r2 q2) fun old s3 ⟨x3,H3,I3,r3,q3⟩=>?_;refine thn (he pins s3 σ H3 _ I3 q3) fun v s4 ⟨x4,H4,I4,r4,q4⟩=>?_;refine thn (hp pins s4 σ H4 x3 x4 old v _ I4 r3 r4 q4) fun new s5 ⟨x5,H5,I5,r5,q5⟩=>?_;exact thn (hs pins s5 σ H5 x1 x2 x5 ov iv new _ I5 r1 r2 r5 q5) fun _ s6 ⟨H6,I6,q6⟩=>⟨σ,H6,I6,q6⟩
def ipI (f:Int->Int->Int):TIp:=fun x y H Q=>∃ i j,x= .int i/\y= .int j/\Q (.int (f i j)) H
theorem Zot:PIp X .Add (ipI fun i j=>i+j):=by
 intro pins s σ H x y v u Q I r1 r2 h;obtain⟨i,j,e1,e2,q⟩:=h;subst e1;subst e2;obtain⟨t,rfl⟩:=r1;obtain⟨t',rfl⟩:=r2;exact iadd_int ⟨.int _,H,I.tok _,⟨_,rfl⟩,q⟩
theorem Zos:PIp X .Sub (ipI fun i j=>i-j):=by
 intro pins s σ H x y v u Q I r1 r2 h;obtain⟨i,j,e1,e2,q⟩:=h;subst e1;subst e2;obtain⟨t,rfl⟩:=r1;obtain⟨t',rfl⟩:=r2;exact isub_int ⟨.int _,H,I.tok _,⟨_,rfl⟩,q⟩
def ZeE (c:TT) (tb:TS):TS:=fun D σ H=>∃ W:Nat->St->Hp->Prop,(∃ m,W m σ H)/\∀ m σ H,W m σ H ->
 c σ H fun b H1=>if b=true then ∃ N:St->Hp->Prop,(∀ σ' H',N σ' H'->∃ m',m'<m/\W m' σ' H')/\tb {D with nx:=N,ct:=N,bk:=D.nx} σ H1 else D.nx σ H1
theorem ZbO {tc:TT} (hp:PassesOwn (model X.prog X.w) X.A X.env X.xe) (hc:PT X c tc) (hb:PSs X body tb):PS X (.While c body [] pos) (ZeE tc tb):=by
 intro pins s σ H D I h;obtain⟨W,⟨m0,w0⟩,turn⟩:=h;refine wpAny_While (codeAny_whileLoop (fun n s'=>∃ σ' H',Inv X pins σ' H' s'/\W n σ' H') ?_ m0 ⟨σ,H,I,w0⟩);rintro n s1 ⟨σ1,H1,I1,w1⟩;refine wpAny_passesOwn hp (thn (hc pins s1 σ1 H1 _ I1 (turn n σ1 H1 w1)) fun b s2 ⟨H2,I2,q2⟩=>?_);cases b with
 | true =>
  obtain⟨N,hN,q2⟩:=q2;rw[if_pos rfl];refine wpAny_passesOwn hp (thn (hb pins s2 σ1 H2 _ I2 q2) fun f s3 q3=>?_);cases f with
  | next =>
   obtain⟨σ3,H3,I3,n3⟩:=q3;obtain⟨m',hm,w3⟩:=hN σ3 H3 n3;exact⟨m',hm,σ3,H3,I3,w3⟩
  | cont =>
   obtain⟨σ3,H3,I3,n3⟩:=q3;obtain⟨m',hm,w3⟩:=hN σ3 H3 n3;exact⟨m',hm,σ3,H3,I3,w3⟩
  | brk=>exact q3
  | ret v=>exact q3
 | false =>
  rw[if_neg QH];exact wpAny_execs_nil ⟨σ1,H2,I2,q2⟩
end
structure It where
 go:Nat->Hp->Prop
 yld:Nat->Hp->V->Hp->Prop
 stop:Nat->Hp->Prop
def Zeu (X:Cx) (pins:List (Addr×Obj)) (H:Hp) (b:Addr):Prop :=
 H b=none/\b≠X.env.locals/\b∉X.fs/\(b∈X.ex\/X.s₀.heap.objs.size<=b)/\(∀ x c,X.env.cells.lookup x=some c->c≠b)/\∀ p∈X.pn++pins,p.1≠b
theorem Inv.fpOk (I:Inv X pins σ H s) (hb:s.heap.objs.size<=b) (hn:H' b=none):Zeu X pins H' b:=by
 refine⟨hn,U7 (QN I.lt hb),I.nofs hb,.inr (Q7 I.sz hb),fun x c e z=>?_,fun p hp z=>?_⟩
 ·obtain⟨v,q⟩:=I.cell x c e;exact absurd (QN q.lt (by rw[z];exact hb)) (Wj _)
 ·exact absurd (QN (Qw (I.pin p hp).1) (by rw[z];exact hb)) (Wj _)
structure ZkE (P:Program) (w:World) (K:PySem.W.Frag) (tg:Expr) (J:It) (fp:List Addr) (it:Addr) (tn:Nat->Heap->Prop):Prop where
 mem:it∈fp
 obj:∀ i h,tn i h->∀ b∈fp,∃ o,h.get? b=some o/\∀ v,o.data≠.cell v
 keep:∀ i h h',tn i h->(∀ b∈fp,∀ o,h.get? b=some o->h'.get? b=some o)->tn i h'
 item:∀ (X:Cx),X.prog=P->X.w=w->X.K=K->X.calm=true->∀ (i:Nat) (pins:List (Addr×Obj)) (s:Shared) (σ:St) (H:Hp) (E:Value->Shared->Prop),Inv X pins σ H s->(∀ b∈fp,Zeu X pins H b)->tn i s.heap->J.go i H ->
  wpAny (model P w) X.A (pyNext (.ref it)) (fun r s1=>∃ u,r=some u /\
   wpAny (model P w) X.A (letOwnedTupleGo tg (.ref it) u) (fun _ s2=>∃ x H',Inv X pins σ H' s2/\RelV x u/\J.yld i H x H'/\tn (i+1) s2.heap/\∀ b∈fp,H' b=none) E s1) E s
 done:∀ (X:Cx),X.prog=P->X.w=w->X.K=K->X.calm=true->∀ (i:Nat) (pins:List (Addr×Obj)) (s:Shared) (σ:St) (H:Hp) (E:Value->Shared->Prop),Inv X pins σ H s->(∀ b∈fp,Zeu X pins H b)->tn i s.heap->J.stop i H ->
  wpAny (model P w) X.A (pyNext (.ref it)) (fun r s1=>r=none/\Inv X pins σ H s1) E s
 self:∀ (A:Around) (i:Nat) (s:Shared) (Q:Value->Shared->Prop) (E:Value->Shared->Prop),tn i s.heap->Q (.ref it) s->wpAny (model P w) A (pyIter (.ref it)) Q E s
abbrev TI:=St->Hp->(It->Hp->Prop)->Prop
def PIE (X:Cx) (pins:List (Addr×Obj)) (σ:St) (tg:Expr) (R:It->Hp->Prop) (itv:Value) (s2:Shared):Prop :=
 ∃ (it:Addr) (fp:List Addr) (tn:Nat->Heap->Prop) (J:It) (H':Hp),itv= .ref it/\Inv X pins σ H' s2/\ZkE X.prog X.w X.K tg J fp it tn/\tn 0 s2.heap/\(∀ b∈fp,Zeu X pins H' b)/\R J H'
def PI (X:Cx) (tg iter:Expr) (wi:TI):Prop :=
 ∀ (pins:List (Addr×Obj)) (s:Shared) (σ:St) (H:Hp) (R:It->Hp->Prop),Inv X pins σ H s->wi σ H R ->
  wpAny (model X.prog X.w) X.A (eval iter X.env) (fun v s1=>wpAny (model X.prog X.w) X.A (pyIter v) (PIE X pins σ tg R) X.xe s1) X.xe s
theorem Ziz {M:Model} {it:Addr} {n:String} {vs:Array Value} {Q:Unit->Shared->Prop} (ho:s.heap.get? it=some o) (hc:o.cls= .type n) (hd:o.data= .fields vs)
  (hn:["enumerate","zip","dict_itemiterator","dict_reverseitemiterator","odict_iterator","itertools.zip_longest","itertools.pairwise"].contains n=false) (hQ:Q () s):wpAny M A (letOwnedTupleGo tg (.ref it) u) Q E s:=by
 unfold letOwnedTupleGo;cases tg <;> first
  | exact wpAny_pure hQ
  | (cases u <;> first
    | exact wpAny_pure hQ
    | (refine wpAny_bind (wpAny_load ho ?_)
       rw[hc,hd];show wpAny M A (if (["enumerate","zip","dict_itemiterator","dict_reverseitemiterator","odict_iterator","itertools.zip_longest","itertools.pairwise"].contains n&&vs[0]? == some (rawInt _))=true then _ else _) Q E s;rw[if_neg (by intro h;rw[hn,UY]at h;cases h)];exact wpAny_pure hQ))
def Itl (K:PySem.W.Frag) (a:Addr):It :=
 ⟨fun i H=>∃ xs x,SqL K H a xs/\xs[i]?=some x,fun i H x H'=>H'=H/\∀ xs,SqL K H a xs->xs[i]?=some x,fun i H=>∃ xs,SqL K H a xs/\xs.length<=i⟩
def Itt (K:PySem.W.Frag) (a:Addr):It :=
 ⟨fun i H=>∃ xs x,SqT K H a xs/\xs[i]?=some x,fun i H x H'=>H'=H/\∀ xs,SqT K H a xs->xs[i]?=some x,fun i H=>∃ xs,SqT K H a xs/\xs.length<=i⟩
def Itr (lo:Int) (n:Nat):It:=⟨fun i _=>i<n,fun i H x H'=>H'=H/\x= .int (lo+i),fun i _=>n<=i⟩
theorem Zgq {P:Program} {w:World} {K:PySem.W.Frag} (a it:Addr):ZkE P w K tg (Itl K a) [it] it (fun i h=>h.IsListIter it a i) where
 mem:=by simp
 obj:=fun i h st b hb=>by
  have e:b=it:=by simpa using hb
  subst e;obtain⟨o,e,c,d⟩:=st;exact⟨o,e,fun v z=>by rw[d]at z;cases z⟩
 keep:=fun i h h' st k=>st.at fun o e=>k it (by simp) o e
 item:=by
  intro X hP hw hK hc i pins s σ H E I hf st hg;subst hP hw hK;obtain⟨xs,x,hq,hx⟩:=hg;obtain⟨its,rv,p,hz⟩:=I.list hq;obtain⟨u,hu,ru⟩:=rv.get hx;obtain⟨f0,f1,f2,f3,f4,f5⟩:=hf it (by simp);refine wpAny_pyNext_list_item st p.isList (x:=u) (by simpa using hu) fun h' st' sb=>?_;have I1:Inv X pins σ H {s with heap:=h'}:=I.turned (t':=s.toks) (fun b o hb e=>(sb.2 b hb).trans e) f0 f1 f3 f4 f5;obtain⟨o,e,c,d⟩:=id st';exact⟨u,rfl,Ziz (s:={s with heap:=h'}) e c d (by decide) ⟨x,H,I1,ru,⟨rfl,fun ys hy=>by rw[I.list_inj hy hq];exact hx⟩,st',fun b hb=>(hf b hb).1⟩⟩
 done:=by
  intro X hP hw hK hc i pins s σ H E I hf st hg;subst hP hw hK;obtain⟨xs,hq,hx⟩:=hg;obtain⟨its,rv,p,hz⟩:=I.list hq;obtain⟨f0,f1,f2,f3,f4,f5⟩:=hf it (by simp);have hl:=rv.length;exact wpAny_pyNext_list_end (I.ok.hd hc) st p.isList (by simp;omega) fun h' eb=>⟨rfl,I.turned (t':=s.toks) (fun b o hb e=>eb b o hb e) f0 f1 f3 f4 f5⟩
 self:=fun _ _ _ _ _ st h=>wpAny_pyIter_listiter st h
theorem ZfD {P:Program} {w:World} {K:PySem.W.Frag} (a it:Addr):ZkE P w K tg (Itt K a) [it] it (fun i h=>h.IsTupleIter it a i) where
 mem:=by simp
 obj:=fun i h st b hb=>by
  have e:b=it:=by simpa using hb
  subst e;obtain⟨o,e,c,d⟩:=st;exact⟨o,e,fun v z=>by rw[d]at z;cases z⟩
 keep:=fun i h h' st k=>st.at fun o e=>k it (by simp) o e
 item:=by
  intro X hP hw hK hc i pins s σ H E I hf st hg;subst hP hw hK;obtain⟨xs,x,hq,hx⟩:=hg;obtain⟨its,rv,p,hz⟩:=I.tuple hq;obtain⟨u,hu,ru⟩:=rv.get hx;obtain⟨f0,f1,f2,f3,f4,f5⟩:=hf it (by simp);refine wpAny_pyNext_tuple_item st (show s.heap.IsTuple a its.toArray from p) (x:=u) (by simpa using hu) fun h' st' sb=>?_;have I1:Inv X pins σ H {s with heap:=h'}:=I.turned (t':=s.toks) (fun b o hb e=>(sb.2 b hb).trans e) f0 f1 f3 f4 f5;obtain⟨o,e,c,d⟩:=id st';exact⟨u,rfl,Ziz (s:={s with heap:=h'}) e c d (by decide) ⟨x,H,I1,ru,⟨rfl,fun ys hy=>by rw[I.tuple_inj hy hq];exact hx⟩,st',fun b hb=>(hf b hb).1⟩⟩
 done:=by
  intro X hP hw hK hc i pins s σ H E I hf st hg;subst hP hw hK;obtain⟨xs,hq,hx⟩:=hg;obtain⟨its,rv,p,hz⟩:=I.tuple hq;obtain⟨f0,f1,f2,f3,f4,f5⟩:=hf it (by simp);have hl:=rv.length;exact wpAny_pyNext_tuple_end (I.ok.hd hc) st (show s.heap.IsTuple a its.toArray from p) (by simp;omega) fun h' eb=>⟨rfl,I.turned (t':=s.toks) (fun b o hb e=>eb b o hb e) f0 f1 f3 f4 f5⟩
 self:=fun _ _ _ _ _ st h=>wpAny_pyIter_tupleiter st h
theorem ZfE {P:Program} {w:World} {K:PySem.W.Frag} (it:Addr) (lo:Int) (n:Nat):ZkE P w K tg (Itr lo n) [it] it (fun i h=>IsRangeIter h it (lo+(i:Nat)*1) ((n:Int)-(i:Nat)) 1) where
 mem:=by simp
 obj:=fun i h st b hb=>by
  have e:b=it:=by simpa using hb
  subst e;exact⟨_,st,fun v z=>by
   have z':Data.fields _=Data.cell v:=z;cases z'⟩
 keep:=fun i h h' st k=>k it (by simp) _ st
 item:=by
  intro X hP hw hK hc i pins s σ H E I hf st hg;subst hP hw hK;obtain⟨f0,f1,f2,f3,f4,f5⟩:=hf it (by simp);have W:=Walks.range (prog:=X.prog) (w:=X.w) (I.ok.hd hc) it lo 1 n;refine W.item i s _ _ hg st fun v h' tk hv st' kk=>?_;obtain⟨t,rfl⟩:=hv;have I1:Inv X pins σ H {s with heap:=h',toks:=tk}:=I.turned (fun b o hb e=>kk b o (by simpa using hb) e) f0 f1 f3 f4 f5;refine⟨_,rfl,Ziz (s:={s with heap:=h',toks:=tk}) (n:="range_iterator") st' rfl rfl (by decide) ⟨.int (lo+i),H,I1,⟨t,?_⟩,⟨rfl,rfl⟩,st',fun b hb=>(hf b hb).1⟩⟩;rw[UZ]
 done:=by
  intro X hP hw hK hc i pins s σ H E I hf st hg;subst hP hw hK;obtain⟨f0,f1,f2,f3,f4,f5⟩:=hf it (by simp);exact wpAny_pyNext_range_end (I.ok.hd hc) st (by have:n<=i:=hg;omega) fun h' eb=>⟨rfl,I.turned (t':=s.toks) (fun b o hb e=>eb b o hb e) f0 f1 f3 f4 f5⟩
 self:=fun _ _ _ _ _ st h=>wpAny_pyIter_rangeiter st h
section
variable {X:Cx} {tg:Expr}
def Zpt (K:PySem.W.Frag) (tl:TE):TI:=fun σ H R=>tl σ H fun x H1=>∃ a,x= .ref a/\(∃ xs,SqL K H1 a xs)/\R (Itl K a) H1
def Zqf (K:PySem.W.Frag) (tl:TE):TI:=fun σ H R=>tl σ H fun x H1=>∃ a,x= .ref a/\(∃ xs,SqT K H1 a xs)/\R (Itt K a) H1
theorem Yp {l:Expr} {tl:TE} (hl:PE X l tl):PI X tg l (Zpt X.K tl):=by
 intro pins s σ H R I h;refine thn (hl pins s σ H _ I h) fun v s1 ⟨x,H1,I1,r1,q1⟩=>?_;obtain⟨a,e,⟨xs,hq⟩,q⟩:=q1;subst e;cases r1;obtain⟨its,rv,p,hz⟩:=I1.list hq;refine wpAny_pyIter_list p.isList ?_;refine⟨s1.heap.objs.size,[s1.heap.objs.size],_,_,H1,rfl,I1.kept (t':=s1.toks) fun b o e=>Qh _ e,Zgq a _,⟨_,Qz _ rfl,rfl,rfl⟩,fun b hb=>?_,q⟩;have e:b=s1.heap.objs.size:=by simpa using hb
 subst e;exact I1.fpOk (Qi _) (I1.hok.fresh (Qi _))
theorem Yf {l:Expr} {tl:TE} (hl:PE X l tl):PI X tg l (Zqf X.K tl):=by
 intro pins s σ H R I h;refine thn (hl pins s σ H _ I h) fun v s1 ⟨x,H1,I1,r1,q1⟩=>?_;obtain⟨a,e,⟨xs,hq⟩,q⟩:=q1;subst e;cases r1;obtain⟨its,rv,p,hz⟩:=I1.tuple hq;refine wpAny_pyIter_tuple (show s1.heap.IsTuple a its.toArray from p) ?_;refine⟨s1.heap.objs.size,[s1.heap.objs.size],_,_,H1,rfl,I1.kept (t':=s1.toks) fun b o e=>Qh _ e,ZfD a _,⟨_,Qz _ rfl,rfl,rfl⟩,fun b hb=>?_,q⟩;have e:b=s1.heap.objs.size:=by simpa using hb
 subst e;exact I1.fpOk (Qi _) (I1.hok.fresh (Qi _))
theorem ZeR {R:It->Hp->Prop} {lo hi:Int} {t u v:Tok} {tk:Nat} (I:Inv X pins σ H s) (h1 : -(2 ^ 62)<=lo) (h2:lo<2 ^ 62) (h3 : -(2 ^ 62)<=hi) (h4:hi<2 ^ 62)
  (q:R (Itr lo (hi-lo).toNat) H):wpAny (model X.prog X.w) X.A (pyIter (.ref s.heap.objs.size)) (PIE X pins σ tg R) E {s with heap:=s.heap.push {cls:=.type "range",data:=.fields #[.int lo t,.int hi u,.int 1 v]},toks:=tk}:=by
 refine wpAny_pyIter_range (IsRange.new ..) (small_one h1 h2 h3 h4) ?_;have I1:Inv X pins σ H {s with heap:=s.heap.push {cls:=.type "range",data:=.fields #[.int lo t,.int hi u,.int 1 v]},toks:=tk}:=I.kept fun b o e=>Qh _ e;refine⟨(s.heap.push {cls:=.type "range",data:=.fields #[.int lo t,.int hi u,.int 1 v]}).objs.size,[(s.heap.push {cls:=.type "range",data:=.fields #[.int lo t,.int hi u,.int 1 v]}).objs.size],_,_,H,rfl,
  I1.kept (t':=tk) fun b o e=>Qh _ e,ZfE _ lo (hi-lo).toNat,?_,fun b hb=>?_,q⟩
 ·have e1:lo+((0:Nat):Int)*1=lo:=by simp
  have e2:(((hi-lo).toNat:Nat):Int)-((0:Nat):Int)=Builtin.Range.rangeSize lo hi 1:=by rw[rangeSize_one];split <;> omega
  show IsRangeIter _ _ (lo+((0:Nat):Int)*1) ((((hi-lo).toNat:Nat):Int)-((0:Nat):Int)) 1;rw[e1,e2];exact Qz _ rfl
 ·have e:b=(s.heap.push {cls:=.type "range",data:=.fields #[.int lo t,.int hi u,.int 1 v]}).objs.size:=by simpa using hb
  subst e;exact I1.fpOk (Qi _) (I1.hok.fresh (Qi _))
def Zps (ta:TA):TI:=fun σ H R=>ta σ H fun vs H1=>∃ j:Int,vs=[.int j]/\-(2 ^ 62)<=j/\j<2 ^ 62/\R (Itr 0 j.toNat) H1
def Zpr (ta:TA):TI:=fun σ H R=>ta σ H fun vs H1=>∃ i j:Int,vs=[.int i,.int j]/\(-(2 ^ 62)<=i/\i<2 ^ 62/\-(2 ^ 62)<=j/\j<2 ^ 62)/\R (Itr i (j-i).toNat) H1
theorem Zah {a:Expr} {ta:TA} {p:Pos} (hg:Gl X "range") (hm:X.mg "range" = none) (ha:PA X [a] ta) (hs:starEach [a] X.env=[(false,eval a X.env)]:=by rfl):PI X tg (.Call (.Name "range" p) [a] [] pos) (Zps ta):=by
 intro pins s σ H R I h;refine Call_ (Zat I hg hm boot_range (PyProof.Rows.callWith_type1 (thn (ha pos pins s σ H _ I h) fun us s1 ⟨vs,H1,I1,r1,q1⟩=>?_) hs rfl));obtain⟨j,e,q1,q2,q⟩:=q1;subst e;cases r1 with
 | cons r rr =>
  cases rr;obtain⟨t,rfl⟩:=r;exact call_range_1 (ZeR I1 (by omega) (by omega) q1 q2 (by simpa using q))
theorem ZcP {a b:Expr} {ta:TA} {p pos:Pos} (hg:Gl X "range") (hm:X.mg "range" = none) (ha:PA X [a,b] ta) (hs:starEach [a,b] X.env=[(false,eval a X.env),(false,eval b X.env)]:=by rfl) (hs2:starEach [b] X.env=[(false,eval b X.env)]:=by rfl) :
  PI X tg (.Call (.Name "range" p) [a,b] [] pos) (Zpr ta):=by
 intro pins s σ H R I h;refine Call_ (Zat I hg hm boot_range (PyProof.Rows.callWith_type1 (thn (ha pos pins s σ H _ I h) fun us s1 ⟨vs,H1,I1,r1,q1⟩=>?_) (by rw[hs,hs2]) (by rw[hs2];rfl)));obtain⟨i,j,e,⟨q1,q2,q3,q4⟩,q⟩:=q1;subst e;cases r1 with
 | cons r rr =>
  cases rr with
  | cons r' rr =>
   cases rr;obtain⟨t,rfl⟩:=r;obtain⟨t',rfl⟩:=r';exact call_range_2 (ZeR I1 q1 q2 q3 q4 q)
def Zp3 (wi:TI) (g:TG) (tb:TS):TS:=fun D σ H=>wi σ H fun J H1=>∃ W:Nat->Nat->St->Hp->Prop,(∃ m,W 0 m σ H1)/\∀ i m σ H,W i m σ H ->
 (J.stop i H/\D.nx σ H)\/(J.go i H/\∃ N:St->Hp->Prop,(∀ σ' H',N σ' H'->∃ m',m'<m/\W (i+1) m' σ' H')/\∀ x H',J.yld i H x H'->g x σ H' fun σ2 H2=>tb {D with nx:=N,ct:=N,bk:=D.nx} σ2 H2)
def ZcO (fp:List Addr) (h:Heap):List (Addr×Obj):=fp.filterMap fun b=>(h.get? b).map fun o=>(b,o)
theorem Xt (hb:b∈fp) (e:h.get? b=some o):(b,o)∈ZcO fp h:=U2.mpr ⟨b,hb,by rw[e];rfl⟩
theorem ZhX {p:Addr×Obj} (hp:p∈ZcO fp h):p.1∈fp/\h.get? p.1=some p.2:=by
 obtain⟨b,hb,e⟩:=U2.mp hp;cases q:h.get? b with
 | none=>rw[q]at e;cases e
 | some o =>
  rw[q]at e;have e':(b,o)=p:=Option.some.inj e;subst e';exact⟨hb,q⟩
theorem Inv.pinned (I:Inv X pins σ H s) (hf:∀ b∈fp,Zeu X pins H b) (ho:∀ b∈fp,∃ o,s.heap.get? b=some o/\∀ v,o.data≠.cell v):Inv X (pins++ZcO fp s.heap) σ H s :=
 I.pins_of fun p hp=>(QI.mp hp).elim (fun z=>I.pin p (QU _ z)) fun z=>by
  obtain⟨hb,e⟩:=ZhX z;obtain⟨f0,f1,f2,_⟩:=hf p.1 hb;obtain⟨o,e',d⟩:=ho p.1 hb;rw[e]at e';cases e';exact⟨e,f0,f1,f2,d⟩
theorem Inv.unpinned {pl:List (Addr×Obj)} (I:Inv X (pins++pl) σ H s):Inv X pins σ H s:=I.pins_of fun p hp=>I.pin p (QU _ (QS _ hp))
theorem Z4 {iter:Expr} {wi:TI} {g:TG} (hp:PassesOwn (model X.prog X.w) X.A X.env X.xe) (hc:X.calm=true) (hi:PI X tg iter wi) (hg:PG X tg g) (hb:PSs X body tb)
  (hs:∀ x,foldedSetIterable iter X.env x=pure x:=by intro _;rfl):PS X (.For tg iter body [] pos) (Zp3 wi g tb):=by
 intro pins s σ H D I h;refine wpAny_For (thn (hi pins s σ H _ I h) fun v s1 h1=>thn h1 fun itv s2 h2=>?_) hs;obtain⟨it,fp,tn,J,H2,e,I2,T,st2,f2,W,⟨m0,w0⟩,turn⟩:=h2;subst e
 -- what stays true of the iterator's objects through the loop
 have stat:∀ {H':Hp},(∀ b∈fp,H' b=none)->∀ b∈fp,Zeu X pins H' b:=fun hn b hb=>⟨hn b hb,(f2 b hb).2⟩
 refine codeAny_forLoop_any (fun n s'=>∃ i σ' H',Inv X pins σ' H' s'/\tn i s'.heap/\(∀ b∈fp,H' b=none)/\W i n σ' H') ?_ m0 ⟨0,σ,H2,I2,st2,fun b hb=>(f2 b hb).1,w0⟩;rintro n s3 ⟨i,σ3,H3,I3,st3,fr3,w3⟩;rcases turn i n σ3 H3 w3 with ⟨stop,qn⟩ | ⟨go,N,hN,step⟩
 ·refine wpAny_passesOwn hp (thn (T.done X rfl rfl rfl hc i pins s3 σ3 H3 X.xe I3 (stat fr3) st3 stop) fun r s4 ⟨hr,I4⟩=>?_);subst hr;exact wpAny_execs_nil ⟨σ3,H3,I4,qn⟩
 ·refine wpAny_passesOwn hp (thn (T.item X rfl rfl rfl hc i pins s3 σ3 H3 X.xe I3 (stat fr3) st3 go) fun r s4 ⟨u,hr,h4⟩=>?_);subst hr;refine wpAny_passesOwn hp (thn h4 fun _ s5 ⟨x,H5,I5,r5,y5,st5,fr5⟩=>?_);have I5':=I5.pinned (stat fr5) (T.obj _ _ st5);refine wpAny_passesOwn hp (thn (hg _ s5 σ3 H5 x u _ I5' r5 (step x H5 y5)) fun _ s6 ⟨σ6,H6,I6,q6⟩=>?_);refine wpAny_passesOwn hp (thn (hb _ s6 σ6 H6 _ I6 q6) fun f s7 q7=>?_);have again:∀ {σ7:St} {H7:Hp},Inv X (pins++ZcO fp s5.heap) σ7 H7 s7->N σ7 H7->∃ m,m<n/\∃ i σ' H',Inv X pins σ' H' s7/\tn i s7.heap/\(∀ b∈fp,H' b=none)/\W i m σ' H':=fun {σ7 H7} I7 n7=>by
   obtain⟨m',hm,w7⟩:=hN σ7 H7 n7;refine⟨m',hm,i+1,σ7,H7,I7.unpinned,T.keep _ _ _ st5 fun b hb o e=>(I7.pin (b,o) (QU _ (QU _ (Xt hb e)))).1,fun b hb=>?_,w7⟩;obtain⟨o,e,d⟩:=T.obj _ _ st5 b hb;exact(I7.pin (b,o) (QU _ (QU _ (Xt hb e)))).2.1
  cases f with
  | next=>obtain⟨σ7,H7,I7,n7⟩:=q7;exact again I7 n7
  | cont=>obtain⟨σ7,H7,I7,n7⟩:=q7;exact again I7 n7
  | brk=>obtain⟨σ7,H7,I7,q7⟩:=q7;exact⟨σ7,H7,I7.unpinned,q7⟩
  | ret v=>obtain⟨x7,σ7,H7,I7,r7,q7⟩:=q7;exact⟨x7,σ7,H7,I7.unpinned,r7,q7⟩
end
theorem JS {K:PySem.W.Frag} {g:TG} {D:Zev} (Pv:Nat->St->Hp->Prop) (h0:Pv 0 σ H) (hl:∀ i σ H,i<=xs.length->Pv i σ H->SqL K H a xs)
  (hs:∀ i x σ H,xs[i]?=some x->Pv i σ H->g x σ H fun σ2 H2=>tb {D with nx:=Pv (i+1),ct:=Pv (i+1),bk:=D.nx} σ2 H2) (hd:∀ σ H,Pv xs.length σ H->D.nx σ H) :
  ∃ W:Nat->Nat->St->Hp->Prop,(∃ m,W 0 m σ H)/\∀ i m σ H,W i m σ H ->
   ((Itl K a).stop i H/\D.nx σ H)\/((Itl K a).go i H/\∃ N:St->Hp->Prop,(∀ σ' H',N σ' H'->∃ m',m'<m/\W (i+1) m' σ' H')/\∀ x H',(Itl K a).yld i H x H'->g x σ H' fun σ2 H2=>tb {D with nx:=N,ct:=N,bk:=D.nx} σ2 H2):=by
 refine⟨fun i m σ H=>m=xs.length-i/\i<=xs.length/\Pv i σ H,⟨xs.length,by simp,QL _,h0⟩,?_⟩;rintro i m σ H ⟨rfl,hi,p⟩;have q:=hl i σ H hi p;by_cases hlt:i<xs.length
 ·refine .inr ⟨⟨xs,xs[i],q,by simp[hlt]⟩,Pv (i+1),fun σ' H' p'=>⟨xs.length-(i+1),by omega,rfl,hlt,p'⟩,fun x H' y=>?_⟩;obtain⟨e,y⟩:=y;subst e;exact hs i x σ _ (y xs q) p
 ·have e:i=xs.length:=by omega
  subst e;exact .inl ⟨⟨xs,q,Qi _⟩,hd σ H p⟩
theorem YJ {K:PySem.W.Frag} {g:TG} {D:Zev} (Pv:Nat->St->Hp->Prop) (h0:Pv 0 σ H) (hl:∀ i σ H,i<=xs.length->Pv i σ H->SqT K H a xs)
  (hs:∀ i x σ H,xs[i]?=some x->Pv i σ H->g x σ H fun σ2 H2=>tb {D with nx:=Pv (i+1),ct:=Pv (i+1),bk:=D.nx} σ2 H2) (hd:∀ σ H,Pv xs.length σ H->D.nx σ H) :
  ∃ W:Nat->Nat->St->Hp->Prop,(∃ m,W 0 m σ H)/\∀ i m σ H,W i m σ H ->
   ((Itt K a).stop i H/\D.nx σ H)\/((Itt K a).go i H/\∃ N:St->Hp->Prop,(∀ σ' H',N σ' H'->∃ m',m'<m/\W (i+1) m' σ' H')/\∀ x H',(Itt K a).yld i H x H'->g x σ H' fun σ2 H2=>tb {D with nx:=N,ct:=N,bk:=D.nx} σ2 H2):=by
 refine⟨fun i m σ H=>m=xs.length-i/\i<=xs.length/\Pv i σ H,⟨xs.length,by simp,QL _,h0⟩,?_⟩;rintro i m σ H ⟨rfl,hi,p⟩;have q:=hl i σ H hi p;by_cases hlt:i<xs.length
 ·refine .inr ⟨⟨xs,xs[i],q,by simp[hlt]⟩,Pv (i+1),fun σ' H' p'=>⟨xs.length-(i+1),by omega,rfl,hlt,p'⟩,fun x H' y=>?_⟩;obtain⟨e,y⟩:=y;subst e;exact hs i x σ _ (y xs q) p
 ·have e:i=xs.length:=by omega
  subst e;exact .inl ⟨⟨xs,q,Qi _⟩,hd σ H p⟩
theorem XZ {lo:Int} {g:TG} {D:Zev} (Pv:Nat->St->Hp->Prop) (h0:Pv 0 σ H)
  (hs:∀ i σ H,i<n->Pv i σ H->g (.int (lo+i)) σ H fun σ2 H2=>tb {D with nx:=Pv (i+1),ct:=Pv (i+1),bk:=D.nx} σ2 H2) (hd:∀ σ H,Pv n σ H->D.nx σ H) :
  ∃ W:Nat->Nat->St->Hp->Prop,(∃ m,W 0 m σ H)/\∀ i m σ H,W i m σ H ->
   ((Itr lo n).stop i H/\D.nx σ H)\/((Itr lo n).go i H/\∃ N:St->Hp->Prop,(∀ σ' H',N σ' H'->∃ m',m'<m/\W (i+1) m' σ' H')/\∀ x H',(Itr lo n).yld i H x H'->g x σ H' fun σ2 H2=>tb {D with nx:=N,ct:=N,bk:=D.nx} σ2 H2):=by
 refine⟨fun i m σ H=>m=n-i/\i<=n/\Pv i σ H,⟨n,by simp,QL _,h0⟩,?_⟩;rintro i m σ H ⟨rfl,hi,p⟩;by_cases hlt:i<n
 ·refine .inr ⟨hlt,Pv (i+1),fun σ' H' p'=>⟨n-(i+1),by omega,rfl,hlt,p'⟩,fun x H' y=>?_⟩;obtain⟨e,y⟩:=y;subst e y;exact hs i σ _ hlt p
 ·have e:i=n:=by omega
  subst e;exact .inl ⟨Qi _,hd σ H p⟩
theorem Zi8 {c:TT} {D:Zev} (Pv:St->Hp->Prop) (μ:St->Hp->Nat) (h0:Pv σ H)
  (hs:∀ σ H,Pv σ H->c σ H fun b H1=>if b=true then tb {D with nx:=fun σ' H'=>Pv σ' H'/\μ σ' H'<μ σ H,ct:=fun σ' H'=>Pv σ' H'/\μ σ' H'<μ σ H,bk:=D.nx} σ H1 else D.nx σ H1)
  (mono:∀ σ H Q Q',(∀ b H1,Q b H1->Q' b H1)->c σ H Q->c σ H Q'):ZeE c tb D σ H:=by
 refine⟨fun m σ H=>m=μ σ H/\Pv σ H,⟨_,rfl,h0⟩,?_⟩;rintro m σ H ⟨rfl,p⟩;refine mono σ H _ _ (fun b H1 q=>?_) (hs σ H p);cases b with
 | true=>exact⟨_,fun σ' H' ⟨p',l⟩=>⟨_,l,rfl,p'⟩,q⟩
 | false=>exact q
abbrev R2:=V->V->Hp->VK->Prop
def OpR (X:Cx) (f:Value->Value->Sem Value) (r:R2):Prop :=
 ∀ (pins:List (Addr×Obj)) (s:Shared) (σ:St) (H:Hp) (x y:V) (v u:Value) (Q:VK),Inv X pins σ H s->RelV x v->RelV y u->r x y H Q ->
  wpAny (model X.prog X.w) X.A (f v u) (EP X pins σ Q) X.xe s
def UnR (X:Cx) (f:Value->Sem Value) (r:V->Hp->VK->Prop):Prop :=
 ∀ (pins:List (Addr×Obj)) (s:Shared) (σ:St) (H:Hp) (x:V) (v:Value) (Q:VK),Inv X pins σ H s->RelV x v->r x H Q ->
  wpAny (model X.prog X.w) X.A (f v) (EP X pins σ Q) X.xe s
def CallR (X:Cx) (f:Value) (r:List V->Hp->VK->Prop):Prop :=
 ∀ (pins:List (Addr×Obj)) (s:Shared) (σ:St) (H:Hp) (xs:List V) (us:List Value) (Q:VK),Inv X pins σ H s->Vals xs us->r xs H Q ->
  wpAny (model X.prog X.w) X.A (call f us) (EP X pins σ Q) X.xe s
def Zqo (X:Cx) (r:V->Hp->(Bool->Hp->Prop)->Prop):Prop :=
 ∀ (pins:List (Addr×Obj)) (s:Shared) (σ:St) (H:Hp) (x:V) (v:Value) (Q:Bool->Hp->Prop),Inv X pins σ H s->RelV x v->r x H Q ->
  wpAny (model X.prog X.w) X.A (truthy v) (TP X pins σ Q) X.xe s
def tOp (r:R2) (ta tb:TE):TE:=fun σ H Q=>ta σ H fun x H1=>tb σ H1 fun y H2=>r x y H2 Q
def tUn (r:V->Hp->VK->Prop) (ta:TE):TE:=fun σ H Q=>ta σ H fun x H1=>r x H1 Q
def rI (C:Int->Int->Prop) (g:Int->Int->V):R2:=fun x y H Q=>∃ i j,x= .int i/\y= .int j/\C i j/\Q (g i j) H
def rI0 (g:Int->Int->V):R2:=fun x y H Q=>∃ i j,x= .int i/\y= .int j/\Q (g i j) H
def rU (g:Int->V):V->Hp->VK->Prop:=fun x H Q=>∃ i,x= .int i/\Q (g i) H
section
variable {X:Cx} {a b c:Expr} {ta tb tc:TE} {pos:Pos}
theorem Zpz (ha:PE X a ta) (hb:PE X b tb) {R:V->V->Hp->Prop} (I:Inv X pins σ H s)
  (h:ta σ H fun x H1=>tb σ H1 fun y H2=>R x y H2) {Q:Value->Shared->Prop} {f:Value->Value->Sem Value}
  (hf:∀ v u s2 x y H2,Inv X pins σ H2 s2->RelV x v->RelV y u->R x y H2->wpAny (model X.prog X.w) X.A (f v u) Q X.xe s2) :
  wpAny (model X.prog X.w) X.A (eval a X.env) (fun v s₁=>wpAny (model X.prog X.w) X.A (eval b X.env) (fun u s₂=>wpAny (model X.prog X.w) X.A (f v u) Q X.xe s₂) X.xe s₁) X.xe s:=by
 refine thn (ha pins s σ H _ I h) fun v s1 ⟨x,H1,I1,r1,q1⟩=>?_;refine thn (hb pins s1 σ H1 _ I1 q1) fun u s2 ⟨y,H2,I2,r2,q2⟩=>?_;exact hf v u s2 x y H2 I2 r1 r2 q2
theorem Zq {op:Operator} {r:R2} (ho:OpR X (binaryOp op) r) (ha:PE X a ta) (hb:PE X b tb):PE X (.BinOp a op b pos) (tOp r ta tb):=by
 intro pins s σ H Q I h;exact wpAny_BinOp (Zpz ha hb I h fun v u s2 x y H2 I2 rx ry q=>ho pins s2 σ H2 x y v u Q I2 rx ry q)
theorem XG {op:UnaryOp} {r:V->Hp->VK->Prop} (ho:UnR X (unaryOp op) r) (ha:PE X a ta):PE X (.UnaryOp op a pos) (tUn r ta):=by
 intro pins s σ H Q I h;exact UnaryOp_ (thn (ha pins s σ H _ I h) fun v s1 ⟨x,H1,I1,r1,q1⟩=>ho pins s1 σ H1 x v Q I1 r1 q1)
theorem opI {f:Value->Value->Sem Value} {C:Int->Int->Prop} {g:Int->Int->Int}
  (rule:∀ (i j:Int) (t u:Tok) (s:Shared) (Q:Value->Shared->Prop) (E:Value->Shared->Prop),C i j->Q (.int (g i j) s.toks) {s with toks:=s.toks+1}->wpAny (model X.prog X.w) X.A (f (.int i t) (.int j u)) Q E s) :
  OpR X f (rI C fun i j=>.int (g i j)):=by
 intro pins s σ H x y v u Q I rx ry h;obtain⟨i,j,rfl,rfl,hc,q⟩:=h;obtain⟨t,rfl⟩:=rx;obtain⟨t',rfl⟩:=ry;exact rule i j t t' s _ _ hc ⟨.int (g i j),H,I.tok _,⟨_,rfl⟩,q⟩
theorem ZpO {f:Value->Value->Sem Value} {g:Int->Int->Int}
  (rule:∀ (i j:Int) (t u:Tok) (s:Shared) (Q:Value->Shared->Prop) (E:Value->Shared->Prop),Q (.int (g i j) s.toks) {s with toks:=s.toks+1}->wpAny (model X.prog X.w) X.A (f (.int i t) (.int j u)) Q E s) :
  OpR X f (rI0 fun i j=>.int (g i j)):=by
 intro pins s σ H x y v u Q I rx ry h;obtain⟨i,j,rfl,rfl,q⟩:=h;obtain⟨t,rfl⟩:=rx;obtain⟨t',rfl⟩:=ry;exact rule i j t t' s _ _ ⟨.int (g i j),H,I.tok _,⟨_,rfl⟩,q⟩
theorem Zpm {f:Value->Value->Sem Value} {g:Int->Int->Bool}
  (rule:∀ (i j:Int) (t u:Tok) (s:Shared) (Q:Value->Shared->Prop) (E:Value->Shared->Prop),Q (.bool (g i j)) s->wpAny (model X.prog X.w) X.A (f (.int i t) (.int j u)) Q E s) :
  OpR X f (rI0 fun i j=>.bl (g i j)):=by
 intro pins s σ H x y v u Q I rx ry h;obtain⟨i,j,rfl,rfl,q⟩:=h;obtain⟨t,rfl⟩:=rx;obtain⟨t',rfl⟩:=ry;exact rule i j t t' s _ _ ⟨.bl (g i j),H,I,rfl,q⟩
def Zqr (i j:Int):Prop:=0<j/\j<1073741824
def Zqq (i j:Int):Prop:=0<=j/\j<=1000000/\i.natAbs<2 ^ 64
def CMul (i j:Int):Prop:=(-(2 ^ 64)<i/\i<2 ^ 64)\/(-(2 ^ 64)<j/\j<2 ^ 64)
theorem CMul.ok {i j:Int} (h:CMul i j):IntMulOk i j:=by
 rcases h with ⟨h1,h2⟩ | ⟨h1,h2⟩
 ·exact .of_left (intBits_le_64 h1 h2)
 ·exact .of_right (intBits_le_64 h1 h2)
theorem ZS:OpR X (binaryOp .Add) (rI0 fun i j=>.int (i+j)):=ZpO fun _ _ _ _ _ _ _ q=>add_int q
theorem Xa:OpR X (binaryOp .Sub) (rI0 fun i j=>.int (i-j)):=ZpO fun _ _ _ _ _ _ _ q=>sub_int q
theorem Jy:OpR X (binaryOp .Mult) (rI CMul fun i j=>.int (i*j)):=opI fun _ _ _ _ _ _ _ hc q=>mul_int q hc.ok
theorem Z9:OpR X (binaryOp .FloorDiv) (rI Zqr fun i j=>.int (i / j)):=opI fun i j _ _ _ _ _ hc q=>by
 have h1:(0:Int)<j:=hc.1;have h2:j<1073741824:=hc.2;exact floordiv_int (by omega) (by rw[Int.fdiv_eq_ediv_of_nonneg i (by omega)];exact q) (.inl (PyProof.noPylong_small (by omega)))
theorem ZL:OpR X (binaryOp .Mod) (rI (fun _ j=>0<j) fun i j=>.int (i % j)):=opI fun i j _ _ _ _ _ hc q=>by
 have h1:(0:Int)<j:=hc;exact mod_int' (by omega) (by rw[Int.fmod_eq_emod_of_nonneg i (by omega)];exact q)
theorem Zld:OpR X (binaryOp .Pow) (rI Zqq fun i j=>.int (i ^ j.toNat)):=opI fun _ _ _ _ _ _ _ hc q=>pow_int_small hc.1 hc.2.1 hc.2.2 q
theorem unI {f:Value->Sem Value} {g:Int->Int}
  (rule:∀ (i:Int) (t:Tok) (s:Shared) (Q:Value->Shared->Prop) (E:Value->Shared->Prop),Q (.int (g i) s.toks) {s with toks:=s.toks+1}->wpAny (model X.prog X.w) X.A (f (.int i t)) Q E s) :
  UnR X f (rU fun i=>.int (g i)):=by
 intro pins s σ H x v Q I rx h;obtain⟨i,rfl,q⟩:=h;obtain⟨t,rfl⟩:=rx;exact rule i t s _ _ ⟨.int (g i),H,I.tok _,⟨_,rfl⟩,q⟩
theorem Yx:UnR X (unaryOp .USub) (rU fun i=>.int (-i)):=unI fun _ _ _ _ _ q=>neg_int q
end
def ZpL:V->V->Bool
 | .non,.non=>true | .non,.int _=>true | .int _,.non=>true | .non,.bl _=>true | .bl _,.non=>true | .non,.str _=>true | .str _,.non=>true
 | .int _,.int _=>true | .bl _,.bl _=>true | .str _,.str _=>true | .byt _,.byt _=>true
 | .int _,.str _=>true | .str _,.int _=>true | .bl _,.str _=>true | .str _,.bl _=>true
 | _,_=>false
def rEq:R2:=fun x y H Q=>ZpL x y=true/\Q (.bl (decide (x=y))) H
def rNe:R2:=fun x y H Q=>ZpL x y=true/\Q (.bl (!decide (x=y))) H
theorem Zel {i j:Int}:decide (V.int i=V.int j)=(i==j):=by
 rw[WE];simp
theorem Zlw {i j:Bool}:decide (V.bl i=V.bl j)=(i==j):=by
 rw[WE];simp
theorem dec_str {i j:Str}:decide (V.str i=V.str j)=(i==j):=by
 rw[WE];simp
theorem ZiR {i j:Array UInt8}:decide (V.byt i=V.byt j)=(i.toList==j.toList):=by
 rw[WE];cases i;cases j;simp
section
variable {X:Cx} {a b c:Expr} {ta tb tc:TE} {pos:Pos}
theorem ZF {Q:VK} {k k':Bool} (I:Inv X pins σ H s) (q:Q (.bl k) H) (e:k=k'):EP X pins σ Q (.bool k') s:=by
 subst e;exact⟨.bl k,H,I,rfl,q⟩
theorem Yv:OpR X (compareOp .Eq) rEq:=by
 intro pins s σ H x y v u Q I rx ry h;obtain⟨hs,q⟩:=h;cases x with
 | non =>
  cases rx;cases y with
  | non=>cases ry;exact PySem.EqNone.eq_none_none (ZF I q (by simp))
  | bl j=>cases ry;exact PySem.EqNone.eq_none_bool (ZF I q (by simp))
  | int j=>obtain⟨t',rfl⟩:=ry;exact PySem.EqNone.eq_none_int (ZF I q (by simp))
  | str j=>obtain⟨t',rfl⟩:=ry;exact PySem.EqNone.eq_none_str (ZF I q (by simp))
  | _=>exact absurd (show false=true from hs) QH
 | bl i =>
  cases rx;cases y with
  | non=>cases ry;exact PySem.EqNone.eq_bool_none (ZF I q (by simp))
  | bl j=>cases ry;exact eq_bool (ZF I q Zlw)
  | str j=>obtain⟨t',rfl⟩:=ry;exact PySem.EqMixed.eq_bool_str (ZF I q (by simp))
  | _=>exact absurd (show false=true from hs) QH
 | int i =>
  obtain⟨t,rfl⟩:=rx;cases y with
  | non=>cases ry;exact PySem.EqNone.eq_int_none (ZF I q (by simp))
  | int j=>obtain⟨t',rfl⟩:=ry;exact eq_int (ZF I q Zel)
  | str j=>obtain⟨t',rfl⟩:=ry;exact PySem.EqMixed.eq_int_str (ZF I q (by simp))
  | _=>exact absurd (show false=true from hs) QH
 | str i =>
  obtain⟨t,rfl⟩:=rx;cases y with
  | non=>cases ry;exact PySem.EqNone.eq_str_none (ZF I q (by simp))
  | bl j=>cases ry;exact PySem.EqMixed.eq_str_bool (ZF I q (by simp))
  | int j=>obtain⟨t',rfl⟩:=ry;exact PySem.EqMixed.eq_str_int (ZF I q (by simp))
  | str j=>obtain⟨t',rfl⟩:=ry;exact eq_str (ZF I q dec_str)
  | _=>exact absurd (show false=true from hs) QH
 | byt i =>
  obtain⟨t,rfl⟩:=rx;cases y with
  | byt j=>obtain⟨t',rfl⟩:=ry;exact PySem.W.eq_bytes (ZF I q ZiR)
  | _=>exact absurd (show false=true from hs) QH
 | _=>cases y <;> exact absurd (show false=true from hs) QH
theorem ZaM:OpR X (compareOp .NotEq) rNe:=by
 intro pins s σ H x y v u Q I rx ry h;obtain⟨hs,q⟩:=h;cases x with
 | non =>
  cases rx;cases y with
  | non=>cases ry;exact PySem.EqNone.ne_none_none (ZF I q (by simp))
  | bl j=>cases ry;exact PySem.EqNone.ne_none_bool (ZF I q (by simp))
  | int j=>obtain⟨t',rfl⟩:=ry;exact PySem.EqNone.ne_none_int (ZF I q (by simp))
  | str j=>obtain⟨t',rfl⟩:=ry;exact PySem.EqNone.ne_none_str (ZF I q (by simp))
  | _=>exact absurd (show false=true from hs) QH
 | bl i =>
  cases rx;cases y with
  | non=>cases ry;exact PySem.EqNone.ne_bool_none (ZF I q (by simp))
  | bl j=>cases ry;exact ne_bool (ZF I q (congrArg not Zlw))
  | str j=>obtain⟨t',rfl⟩:=ry;exact PySem.EqMixed.ne_bool_str (ZF I q (by simp))
  | _=>exact absurd (show false=true from hs) QH
 | int i =>
  obtain⟨t,rfl⟩:=rx;cases y with
  | non=>cases ry;exact PySem.EqNone.ne_int_none (ZF I q (by simp))
  | int j=>obtain⟨t',rfl⟩:=ry;exact ne_int (ZF I q (congrArg not Zel))
  | str j=>obtain⟨t',rfl⟩:=ry;exact PySem.EqMixed.ne_int_str (ZF I q (by simp))
  | _=>exact absurd (show false=true from hs) QH
 | str i =>
  obtain⟨t,rfl⟩:=rx;cases y with
  | non=>cases ry;exact PySem.EqNone.ne_str_none (ZF I q (by simp))
  | bl j=>cases ry;exact PySem.EqMixed.ne_str_bool (ZF I q (by simp))
  | int j=>obtain⟨t',rfl⟩:=ry;exact PySem.EqMixed.ne_str_int (ZF I q (by simp))
  | str j=>obtain⟨t',rfl⟩:=ry;exact ne_str (ZF I q (congrArg not dec_str))
  | _=>exact absurd (show false=true from hs) QH
 | byt i =>
  obtain⟨t,rfl⟩:=rx;cases y with
  | byt j=>obtain⟨t',rfl⟩:=ry;exact PySem.W.ne_bytes (ZF I q (congrArg not ZiR))
  | _=>exact absurd (show false=true from hs) QH
 | _=>cases y <;> exact absurd (show false=true from hs) QH
theorem ZbX:OpR X (compareOp .Lt) (rI0 fun i j=>.bl (decide (i<j))):=Zpm fun _ _ _ _ _ _ _ q=>lt_int q
theorem Zn2:OpR X (compareOp .LtE) (rI0 fun i j=>.bl (decide (i<=j))):=Zpm fun _ _ _ _ _ _ _ q=>le_int q
theorem ZaN:OpR X (compareOp .Gt) (rI0 fun i j=>.bl (decide (j<i))):=Zpm fun _ _ _ _ _ _ _ q=>gt_int q
theorem ZhO:OpR X (compareOp .In) (fun x y H Q=>∃ i j,x= .str i/\y= .str j/\Q (.bl (!(Builtin.Str.occurrences j i 0 j.length 1).isEmpty)) H):=by
 intro pins s σ H x y v u Q I rx ry h;obtain⟨i,j,rfl,rfl,q⟩:=h;obtain⟨t,rfl⟩:=rx;obtain⟨t',rfl⟩:=ry;exact in_str (ZF I q rfl)
theorem ZcT:OpR X (compareOp .Is) (fun x y H Q=>y= .non/\Q (.bl (decide (x= .non))) H):=by
 intro pins s σ H x y v u Q I rx ry h;obtain⟨rfl,q⟩:=h;cases ry;refine is_none_gen (ZF I q ?_);cases x <;> first
  | (cases rx;rfl)
  | (obtain⟨t,rfl⟩:=rx;rfl)
theorem ZhN:OpR X (compareOp .IsNot) (fun x y H Q=>y= .non/\Q (.bl (!decide (x= .non))) H):=by
 intro pins s σ H x y v u Q I rx ry h;obtain⟨rfl,q⟩:=h;cases ry;refine isnot_none_gen (ZF I q ?_);cases x <;> first
  | (cases rx;rfl)
  | (obtain⟨t,rfl⟩:=rx;rfl)
theorem ZcR:OpR X (compareOp .NotIn) (fun x y H Q=>∃ i j,x= .str i/\y= .str j/\Q (.bl (!(!(Builtin.Str.occurrences j i 0 j.length 1).isEmpty))) H):=by
 intro pins s σ H x y v u Q I rx ry h;obtain⟨i,j,rfl,rfl,q⟩:=h;obtain⟨t,rfl⟩:=rx;obtain⟨t',rfl⟩:=ry;exact notIn_str (ZF I q rfl)
theorem OpR.or {f:Value->Value->Sem Value} {r r':R2} (h:OpR X f r) (h':OpR X f r'):OpR X f (fun x y H Q=>r x y H Q\/r' x y H Q):=by
 intro pins s σ H x y v u Q I rx ry q;rcases q with q | q
 ·exact h pins s σ H x y v u Q I rx ry q
 ·exact h' pins s σ H x y v u Q I rx ry q
theorem Zr (b:Expr) {op:CmpOp} (h:op≠.In:=by decide) (h2:op≠.NotIn:=by decide):behindInMarks op b=false:=by
 have e1:(op==CmpOp.In)=false:=by cases op <;> first | rfl | exact absurd rfl h
 have e2:(op==CmpOp.NotIn)=false:=by cases op <;> first | rfl | exact absurd rfl h2
 cases b <;> simp[behindInMarks,e1,e2]
theorem YH {op:CmpOp} {r:R2} (ho:OpR X (compareOp op) r) (ha:PE X a ta) (hb:PE X b tb) (hm:behindInMarks op b=false):PE X (.Compare a [op] [b] pos) (tOp r ta tb):=by
 intro pins s σ H Q I h;exact wpAny_Compare1 (Zpz ha hb I h fun v u s2 x y H2 I2 rx ry q=>ho pins s2 σ H2 x y v u Q I2 rx ry q) hm
def Zno (t:TE):TT:=fun σ H Q=>t σ H fun x H'=>∃ k,x= .bl k/\Q k H'
theorem Zo {op:CmpOp} {r:R2} (ho:OpR X (compareOp op) r) (ha:PE X a ta) (hb:PE X b tb) (hm:behindInMarks op b=false):PT X (.Compare a [op] [b] pos) (Zno (tOp r ta tb)):=by
 intro pins s σ H Q I h;refine wpAny_isTrue_Compare1 (thn (ha pins s σ H _ I h) fun v s1 ⟨x,H1,I1,r1,q1⟩=>thn (hb pins s1 σ H1 _ I1 q1) fun u s2 ⟨y,H2,I2,r2,q2⟩ =>
  thn (ho pins s2 σ H2 x y v u _ I2 r1 r2 q2) fun c s3 ⟨z,H3,I3,r3,k,e,q3⟩=>?_) hm
 subst e;cases r3;exact wpAny_truthy_bool ⟨H3,I3,q3⟩
def Znw (r r':R2) (ta tb tc:TE):TE:=fun σ H Q=>ta σ H fun x H1=>tb σ H1 fun y H2=>r x y H2 fun z H3=>∃ k,z= .bl k /\
 (if k=true then tc σ H3 fun w' H4=>r' y w' H4 Q else Q (.bl false) H3)
theorem ZjJ {op op':CmpOp} {r r':R2} (ho:OpR X (compareOp op) r) (ho':OpR X (compareOp op') r') (ha:PE X a ta) (hb:PE X b tb) (hc:PE X c tc)
  (hm:lastMarks [op,op'] [b,c]=false:=by with_unfolding_all rfl):PE X (.Compare a [op,op'] [b,c] pos) (Znw r r' ta tb tc):=by
 intro pins s σ H Q I h;refine Compare_chain (thn (ha pins s σ H _ I h) fun v s1 ⟨x,H1,I1,r1,q1⟩=>chain_link (thn (hb pins s1 σ H1 _ I1 q1) fun u s2 ⟨y,H2,I2,r2,q2⟩ =>
  thn (ho pins s2 σ H2 x y v u _ I2 r1 r2 q2) fun d s3 ⟨z,H3,I3,r3,k,e,q3⟩=>?_)) hm
 subst e;cases r3;refine wpAny_truthy_bool ?_;cases k with
 | false=>exact ite_ff ⟨.bl false,H3,I3,rfl,q3⟩
 | true=>exact ite_tt (chain_last (thn (hc pins s3 σ H3 _ I3 q3) fun w' s4 ⟨z',H4,I4,r4,q4⟩=>ho' pins s4 σ H4 y z' u w' Q I4 r2 r4 q4))
def Zqn (K:PySem.W.Frag) (x:V) (H:Hp) (k:Bool):Prop :=
 match x with
 | .non=>k=false
 | .bl b=>k=b
 | .int i=>k=(i != 0)
 | .str y=>y.length<=sizeLine/\k=((y.length:Int) != 0)
 | .byt y=>y.size<=sizeLine/\k=((y.size:Int) != 0)
 | .ref p=>(∃ xs,SqL K H p xs/\k= !xs.isEmpty)\/(∃ xs,SqT K H p xs/\k= !xs.isEmpty)\/∃ kvs,H p=some (.dK kvs)/\k= !kvs.isEmpty
 | _=>False
theorem Zf5 {κ:Type} {kvs:List (κ×V)} {vs:List (κ×Value)} (r:KV kvs vs):(!vs.isEmpty)= !kvs.isEmpty:=by
 cases r <;> rfl
theorem Zbe {its:List Value} (r:Vals xs its):(!its.toArray.isEmpty)= !xs.isEmpty:=by
 cases r <;> simp
theorem Zar:(sizeLine:Nat)<2 ^ 63:=by rw[sizeLine_eq];decide
theorem ZpJ:Zqo X (fun x H Q=>∃ k,Zqn X.K x H k/\Q k H):=by
 intro pins s σ H x v Q I rx h;obtain⟨k,e,q⟩:=h;have hl:=Zar;have hs:sizeLine=16777216:=sizeLine_eq;cases x with
 | non =>
  cases rx;have e':k=false:=e;subst e';exact truthy_none ⟨H,I,q⟩
 | bl b =>
  cases rx;have e':k=b:=e;subst e';exact wpAny_truthy_bool ⟨H,I,q⟩
 | int i =>
  obtain⟨t,rfl⟩:=rx;have e':k=(i != 0):=e;subst e';exact PySem.P.truthy_int ⟨H,I,q⟩
 | str y =>
  obtain⟨t,rfl⟩:=rx;obtain⟨hy,e'⟩:y.length<=sizeLine/\k=((y.length:Int) != 0):=e;subst e';exact PySem.P.truthy_str (by omega) ⟨H,I.tok _,q⟩
 | byt y =>
  obtain⟨t,rfl⟩:=rx;obtain⟨hy,e'⟩:y.size<=sizeLine/\k=((y.size:Int) != 0):=e;subst e';exact PySem.W.truthy_bytes (by omega) ⟨H,I.tok _,q⟩
 | ref p =>
  cases rx;have e':(∃ xs,SqL X.K H p xs/\k= !xs.isEmpty)\/(∃ xs,SqT X.K H p xs/\k= !xs.isEmpty)\/∃ kvs,H p=some (.dK kvs)/\k= !kvs.isEmpty:=e;rcases e' with ⟨xs,hx,e'⟩ | ⟨xs,hx,e'⟩ | ⟨kvs,hx,e'⟩
  ·subst e';obtain⟨its,r,pl,hz⟩:=I.list hx;have hlen:=r.length;exact wpAny_truthy_list pl.isList (by simp only[Qu];omega) ⟨H,I.tok _,by rw[Zbe r];exact q⟩
  ·subst e';obtain⟨its,r,pl,hz⟩:=I.tuple hx;have hlen:=r.length;exact truthy_tuple pl (by simp only[Qu];omega) ⟨H,I.tok _,by rw[Zbe r];exact q⟩
  ·subst e';obtain⟨hz,hS,vs,r,m⟩:kvs.length<=sizeLine/\(p==sysModules)=false/\∃ vs,KV kvs vs/\s.heap.DictOf (Zu X.prog X.w) p vs:=I.hok p _ hx;have hlen:kvs.length=vs.length:=Paired.length r;exact wpAny_truthy_dict hS m (by omega) ⟨H,I.tok _,by rw[Zf5 r];exact q⟩
 | _=>exact(show False from e).elim
theorem Yw:OpR X (binaryOp .Add) (fun x y H Q=>∃ i j,x= .str i/\y= .str j/\i.length+j.length<=sizeLine/\Q (.str (i++j)) H):=by
 intro pins s σ H x y v u Q I rx ry h;obtain⟨i,j,rfl,rfl,hz,q⟩:=h;obtain⟨t,rfl⟩:=rx;obtain⟨t',rfl⟩:=ry;exact add_str (fun t' tk=>⟨.str (i++j),H,I.tok _,⟨_,rfl⟩,q⟩) hz
theorem YT {x:V} (r:Vals [x] us):∃ u,us=[u]/\RelV x u:=by
 cases r with
 | cons r1 r2=>cases r2;exact⟨_,rfl,r1⟩
theorem ZlG {x y:V} (r:Vals [x,y] us):∃ u w',us=[u,w']/\RelV x u/\RelV y w':=by
 cases r with
 | cons r1 r2 =>
  cases r2 with
  | cons r3 r4=>cases r4;exact⟨_,_,rfl,r1,r3⟩
theorem Zdv:CallR X (.type "int") (fun xs H Q=>(∃ i,xs=[.int i]/\Q (.int i) H)\/∃ k,xs=[.bl k]/\Q (.int (if k then 1 else 0)) H):=by
 intro pins s σ H xs us Q I r h;rcases h with ⟨i,rfl,q⟩ | ⟨k,rfl,q⟩
 ·obtain⟨u,rfl,t,rfl⟩:=YT r;exact call_int_int ⟨.int i,H,I,⟨_,rfl⟩,q⟩
 ·obtain⟨u,rfl,r1⟩:=YT r;cases r1;exact call_int_bool ⟨.int (if k then 1 else 0),H,I.tok _,⟨_,rfl⟩,q⟩
def ZpX (K:PySem.W.Frag) (x:V) (H:Hp) (n:Nat):Prop :=
 match x with
 | .str y=>y.length<=sizeLine/\n=y.length
 | .byt y=>y.size<=sizeLine/\n=y.size
 | .ref p=>(∃ xs,SqL K H p xs/\n=xs.length)\/∃ xs,SqT K H p xs/\n=xs.length
 | _=>False
theorem ZC:CallR X (.builtin "len") (fun xs H Q=>∃ x n,xs=[x]/\ZpX X.K x H n/\Q (.int n) H):=by
 intro pins s σ H xs us Q I r h;obtain⟨x,n,rfl,e,q⟩:=h;obtain⟨u,rfl,rx⟩:=YT r;have hl:=Zar;have hs:sizeLine=16777216:=sizeLine_eq;cases x with
 | str y =>
  obtain⟨t,rfl⟩:=rx;obtain⟨hy,e'⟩:y.length<=sizeLine/\n=y.length:=e;subst e';exact len_str (by omega) ⟨.int _,H,I.tok _,⟨_,rfl⟩,q⟩
 | byt y =>
  obtain⟨t,rfl⟩:=rx;obtain⟨hy,e'⟩:y.size<=sizeLine/\n=y.size:=e;subst e';exact PySem.W.len_bytes (by omega) ⟨.int _,H,I.tok _,⟨_,rfl⟩,q⟩
 | ref p =>
  cases rx;have e':(∃ xs,SqL X.K H p xs/\n=xs.length)\/∃ xs,SqT X.K H p xs/\n=xs.length:=e;rcases e' with ⟨xs,hx,e'⟩ | ⟨xs,hx,e'⟩
  ·subst e';obtain⟨its,r',pl,hz⟩:=I.list hx;have hlen:=r'.length;exact Calls.call_len_list pl.isList (by simp only[Qu];omega) ⟨.int xs.length,H,I.tok _,⟨_,by simp only[Qu];rw[hlen]⟩,q⟩
  ·subst e';obtain⟨its,r',pl,hz⟩:=I.tuple hx;have hlen:=r'.length;exact len_tuple pl (by simp only[Qu];omega) ⟨.int xs.length,H,I.tok _,⟨_,by simp only[Qu];rw[hlen]⟩,q⟩
 | _=>exact(show False from e).elim
end
structure ObjM (h:Heap) (x dx C:Addr) (mA:Str->Option Value):Prop where
 obj:h.get? x=some (PySem.W.instObj C dx)
 ns:h.Ns1 dx mA
 ne:dx≠x
theorem Zib {dx:Addr} {mA:Str->Option Value} (n:h.Ns1 dx mA):∃ od,h.get? dx=some od/\∀ name,PySem.W.lookIn name od=some (mA name):=by
 obtain⟨o,es,ep,ho,hd,hk,_,hm⟩:=n;refine⟨o,ho,fun name=>?_⟩;have e:=hm name;unfold nsFind findBy at e;rw[←Array.find?_toList]at e;unfold PySem.W.lookIn;rw[hd];dsimp only;split
 ·rename_i y q;rw[q]at e;exact congrArg some e
 ·rename_i q;rw[q]at e;have a:es.toList.any (·.refKey)=false:=by
   rw[List.any_eq_false];intro y hy;obtain⟨z,t,hkey⟩:=hk y (Array.mem_toList_iff.mp hy);simp[DictEntry.refKey,hkey]
  have a':¬ es.toList.any (·.refKey)=true:=by rw[a];exact QH
  rw[if_neg a'];exact congrArg some e
theorem ObjM.look {x dx:Addr} {mA:Str->Option Value} (I:ObjM h x dx C mA):∃ od,PySem.W.InstAt h x (PySem.W.instObj C dx) C (some od)/\∀ name,PySem.W.lookIn name od=some (mA name) :=
 let ⟨od,ho,hl⟩:=Zib I.ns
 ⟨od,⟨I.obj,rfl,rfl,ho⟩,hl⟩
section
variable {prog:Program} {w:World} {A:Around} {E:Value->Shared->Prop} {s:Shared} {K:PySem.W.Frag} {x dx C f:Addr} {mA:Str->Option Value} {name:Str} {v:Value}
theorem ZmU {expr:Bool} (X:K.In s.heap) (I:ObjM s.heap x dx C mA) (hg:PySem.W.plainGet K C name=true) (hh:PySem.W.hasDictIn K C=true)
  (ha:PySem.W.findIn K (.ref C) name=some none) (hv:mA name=some v) (hv':PySem.W.handedIn v=true) (h:Q v {s with toks:=s.toks+1}) :
  wpAny (model prog w) A (getAttr (.ref x) name expr) Q E s:=by
 obtain⟨od,J,hl⟩:=I.look;exact PySem.W.get_value X J (PySem.W.plainGet_of hg).1 (PySem.W.findObj_own hh ha rfl (by rw[hl,hv])) hv' h
theorem Zkm {pl:Sem Bool} {Q:Value×List Value->Shared->Prop} (X:K.In s.heap) (I:ObjM s.heap x dx C mA) (hg:PySem.W.plainGet K C name=true)
  (hf:PySem.W.findIn K (.ref C) name=some (some (.ref f))) (ht:PySem.W.isFn K (.ref f)=true) (hv:mA name=none) (h:Q (.ref f,[.ref x]) s) :
  wpAny (model prog w) A (getMethod (.ref x) name pl) Q E s:=by
 obtain⟨od,J,hl⟩:=I.look;exact PySem.W.method_fn X J (PySem.W.plainGet_of hg).1 (PySem.W.plainGet_of hg).2 hf (beq_iff_eq.mp ht) (by show(PySem.W.lookIn name od).map (·.isSome)=some false;rw[hl,hv];rfl) h
theorem ZlW {ns:List Str} {Q:Unit->Shared->Prop} (X:K.In s.heap) (I:ObjM s.heap x dx C mA)
  (hs:PySem.W.findIn K (.ref C) "__setattr__" = some (some (.builtin "object.__setattr__"))) (hp:PySem.W.plainOver K C=true) (ht:PySem.W.takerIn K C name=some none) (hh:PySem.W.hasDictIn K C=true)
  (hw:PySem.Within mA ns) (hsz:ns.length<=sizeLine)
  (h:∀ h',ObjM h' x dx C (fun y=>if y=name then some v else mA y)->Heap.SameBut dx s.heap h'->Q () {s with heap:=h',toks:=s.toks+2}) :
  wpAny (model prog w) A (setAttr (.ref x) name v) Q E s:=by
 obtain⟨od,J,hl⟩:=I.look;refine PySem.W.set_plain X J hs (PySem.W.osa_open (s:={s with toks:=s.toks+1}) (r:=none) X J hp ht fun b=>?_);obtain⟨cd,hc,hd'⟩:=PySem.W.any_some hh;have hx:s.heap.get? x=some ⟨.ref C,some dx,.plain,#[]⟩:=I.obj;refine wpAny_bind (wpAny_pure (wpAny_bind (wpAny_bind (wpAny_loadPart hx (wpAny_bind (PySem.W.Looks.here (s:={s with toks:=s.toks+1}) (PySem.W.looks_clsIn X hc) ?_))))));rw[hd'];refine wpAny_pure (a:=some dx) (wpAny_bind (wpAny_pure (wpAny_bind ?_)));refine wpAny_nsSet1 (s:={s with toks:=s.toks+1}) I.ns fun h' hn2 hs2=>?_;obtain⟨oD,esD,epD,hoD,hdD,hcD⟩:=hn2.count (PySem.Within.cons name v hw);refine wpAny_bind (wpAny_lookBehind hoD (by rw[hdD];exact pastItsLine_dict (Q7 hcD (by rw[QO];omega))) ?_);exact wpAny_pure (h _ ⟨(hs2.2 _ (Ne.symm I.ne)).trans I.obj,hn2,I.ne⟩ hs2)
theorem Ze7 {R:Result->Shared->Prop} {vs:List Value} {kw:List (Str×Value)} (X:K.In s.heap) (hm:PySem.W.makesIn K C=true)
  (hi:PySem.W.findIn K (.ref C) "__init__" = some (some (.ref f))) (hf:PySem.W.typeIn K (.ref f)=some (.type "function"))
  (h:codeAny (model prog w) (A.under (.builtin "type.__call__" ⟨.ref C::vs,kw⟩)) (.call (.ref f) ⟨.ref (s.heap.objs.size+1)::vs,kw⟩) (PySem.W.InitBack (s.heap.objs.size+1) R)
   {s with heap:=(s.heap.push PySem.W.emptyDict).push (PySem.W.instObj C s.heap.objs.size)}) :
  codeAny (model prog w) A (.call (.ref C) ⟨vs,kw⟩) R s:=by
 obtain⟨hh,g,d,t,os⟩:=s;exact PySem.W.make_core (PySem.W.makes_of X hm) (PySem.W.looks_findIn X hi) (fun self=>PySem.W.bind_fn X self hf) (.inl rfl) h
end
def Zcv (f:Str) (v:V):List (Str×V)->List (Str×V)
 | []=>[(f,v)]
 | (g,x)::r=>if g=f then (g,v)::r else (g,x)::Zcv f v r
theorem Z0 (f g:Str) (v:V):∀ fs:List (Str×V),(Zcv f v fs).lookup g=if g=f then some v else fs.lookup g
 | []=>by
  show Ui g [(f,v)]=_;by_cases h:g=f
  ·have hb:(g==f)=true:=beq_iff_eq.mpr h;simp only[Ui,hb,if_pos h]
  ·have hb:(g==f)=false:=beq_eq_false_iff_ne.mpr h;simp only[Ui,hb,if_neg h]
 | (k,x)::r=>by
  have ih:=Z0 f g v r;rw[show Zcv f v ((k,x)::r)=(if k=f then (k,v)::r else (k,x)::Zcv f v r)from rfl];by_cases hk:k=f
  ·rw[if_pos hk];by_cases h:g=k
   ·have hb:(g==k)=true:=beq_iff_eq.mpr h;simp only[Ui,hb,if_pos (h.trans hk)]
   ·have hb:(g==k)=false:=beq_eq_false_iff_ne.mpr h;simp only[Ui,hb,if_neg (fun e:g=f=>h (e.trans hk.symm))]
  ·rw[if_neg hk];by_cases h:g=k
   ·have hb:(g==k)=true:=beq_iff_eq.mpr h;simp only[Ui,hb,if_neg (fun e:g=f=>hk (h.symm.trans e))]
   ·have hb:(g==k)=false:=beq_eq_false_iff_ne.mpr h;simp only[Ui,hb];exact ih
theorem Zau (f:Str) (v:V):∀ fs:List (Str×V),f∈(Zcv f v fs).map (·.1)/\∀ g,g∈fs.map (·.1)->g∈(Zcv f v fs).map (·.1)
 | []=>⟨by simp[Zcv],fun g h=>by simp at h⟩
 | (k,x)::r=>by
  obtain⟨i1,i2⟩:=Zau f v r;rw[show Zcv f v ((k,x)::r)=(if k=f then (k,v)::r else (k,x)::Zcv f v r)from rfl];by_cases hk:k=f
  ·rw[if_pos hk];subst hk;exact⟨by simp,fun g h=>by simpa using h⟩
  ·rw[if_neg hk];refine⟨?_,fun g h=>?_⟩
   ·rw[Qj];exact Qg _ i1
   ·rw[Qj]at h ⊢;rcases Qx.mp h with e | e
    ·exact Qx.mpr (.inl e)
    ·exact Qg _ (i2 g e)
theorem Zas (f:Str) (v:V):∀ fs:List (Str×V),(Zcv f v fs).length<=fs.length+1
 | []=>by simp[Zcv]
 | (k,x)::r=>by
  have ih:=Zas f v r;rw[show Zcv f v ((k,x)::r)=(if k=f then (k,v)::r else (k,x)::Zcv f v r)from rfl];by_cases hk:k=f
  ·rw[if_pos hk,QO,QO];omega
  ·rw[if_neg hk,QO,QO];omega
theorem RelO.some_of {o:Option Value} (r:RelO (some v) o):∃ u,o=some u/\RelV v u:=by
 cases o with
 | none=>exact(show False from r).elim
 | some u=>exact⟨u,rfl,r⟩
theorem RelO.none_of {o:Option Value} (r:RelO none o):o=none:=by
 cases o with
 | none=>rfl
 | some u=>exact(show False from r).elim
theorem Zix (r:RelV v u):PySem.W.handedIn u=true:=by
 cases v with
 | non=>cases (show u=Value.none from r);rfl
 | bl b=>cases (show u=Value.bool b from r);rfl
 | int i=>obtain⟨t,e⟩:=(show ∃ t,u=Value.int i t from r);cases e;rfl
 | str x=>obtain⟨t,e⟩:=(show ∃ t,u=Value.str x t from r);cases e;rfl
 | byt b=>obtain⟨t,e⟩:=(show ∃ t,u=Value.bytes b t from r);cases e;rfl
 | flt b=>obtain⟨t,e⟩:=(show ∃ t,u=Value.float b t from r);cases e;rfl
 | ref a=>cases (show u=Value.ref a from r);rfl
 | ty n=>cases (show u=Value.type n from r);rfl
section
variable {P:Program} {w:World} {H H':Hp} {h h':Heap} {a C dx:Addr} {fs fs':List (Str×V)}
theorem Zcc (hok:HOk P w H h) (e:H a=some (.ins C dx fs)):∃ mA,ObjM h a dx C mA/\(∀ f,RelO (fs.lookup f) (mA f))/\PySem.Within mA (fs.map (·.1))/\fs.length<=1000/\H dx=some (.own a):=by
 obtain⟨d,z,ne,ob,mA,n,r,q⟩:=(show ObjOk P w H h a (.ins C dx fs)from hok a _ e)
 exact⟨mA,⟨ob,n,ne⟩,r,q,z,d⟩
end
structure Cls (K:PySem.W.Frag) (C:Addr):Prop where
 pg:PySem.W.plainGet K C Str.empty=true
 hd:PySem.W.hasDictIn K C=true
 po:PySem.W.plainOver K C=true
 sa:PySem.W.findIn K (.ref C) "__setattr__" = some (some (.builtin "object.__setattr__"))
theorem Cls.get {K:PySem.W.Frag} (c:Cls K C) (f:Str):PySem.W.plainGet K C f=true:=c.pg
def NoAttr (K:PySem.W.Frag) (C:Addr) (f:Str):Prop:=PySem.W.findIn K (.ref C) f=some none
theorem NoAttr.taker {K:PySem.W.Frag} {f:Str} (n:NoAttr K C f):PySem.W.takerIn K C f=some none:=by
 unfold PySem.W.takerIn;rw[show PySem.W.findIn K (.ref C) f=some none from n];rfl
structure ZlE (K:PySem.W.Frag) (C:Addr) (m:Str) (f:Addr):Prop where
 at_:PySem.W.findIn K (.ref C) m=some (some (.ref f))
 fn:PySem.W.isFn K (.ref f)=true
 kp:PySem.W.keepIn K (.ref f)=true
section
variable {X:Cx} {pins:List (Addr×Obj)} {σ:St} {H:Hp} {s:Shared} {a C dx:Addr} {fs:List (Str×V)} {f:Str} {v:V} {A:Around} {E:Value->Shared->Prop}
theorem Zf7 {b:Bool} (I:Inv X pins σ H s) (e:H a=some (.ins C dx fs)) (c:Cls X.K C) (n:NoAttr X.K C f) (l:fs.lookup f=some v)
  (h:∀ u s',Inv X pins σ H s'->RelV v u->Q u s'):wpAny (model X.prog X.w) A (getAttr (.ref a) f b) Q E s:=by
 obtain⟨mA,O,r,_,_,_⟩:=Zcc I.hok e;obtain⟨u,hu,ru⟩:=RelO.some_of (v:=v) (o:=mA f) (by rw[←l];exact r f);exact ZmU I.kIn O (c.get f) c.hd n hu (Zix ru) (h u _ (I.tok _) ru)
theorem YO {m:Str} {g:Addr} {pl:Sem Bool} {Q:Value×List Value->Shared->Prop} (I:Inv X pins σ H s) (e:H a=some (.ins C dx fs)) (c:Cls X.K C) (k:ZlE X.K C m g) (l:fs.lookup m=none)
  (h:Q (.ref g,[.ref a]) s):wpAny (model X.prog X.w) A (getMethod (.ref a) m pl) Q E s:=by
 obtain⟨mA,O,r,_,_,_⟩:=Zcc I.hok e;have hn:mA m=none:=RelO.none_of (by rw[←l];exact r m);exact Zkm I.kIn O (c.get m) k.at_ k.fn hn h
theorem ZfH {y:V} {Q:Unit->Shared->Prop} (I:Inv X pins σ H s) (e:H a=some (.ins C dx fs)) (c:Cls X.K C) (n:NoAttr X.K C f) (hl:fs.length<1000) (ry:RelV y u)
  (h:∀ s',Inv X pins σ (upd H a (.ins C dx (Zcv f y fs))) s'->Q () s'):wpAny (model X.prog X.w) A (setAttr (.ref a) f u) Q E s:=by
 obtain⟨mA,O,r,wi,_,ho⟩:=Zcc I.hok e;have hz:(fs.map (·.1)).length<=sizeLine:=by rw[Qc,sizeLine_eq];omega
 refine ZlW I.kIn O c.sa c.po n.taker c.hd wi hz fun h' O' sb=>h _ ?_;have hd:∃ o,h'.get? dx=some o:=let ⟨o,_,_,e',_⟩:=O'.ns;⟨o,e'⟩;refine I.write (x:=a) (e:=dx) (by rw[e];exact True.intro) (.inr ho) (fun b q hb z=>(sb.2 b hb).trans z) hd ?_;refine⟨by rw[Zi O.ne];exact ho,?_,O.ne,O'.obj,_,O'.ns,fun g=>?_,fun g hg=>?_⟩
 ·have:=Zas f y fs;omega
 ·show RelO ((Zcv f y fs).lookup g) (if g=f then some u else mA g);rw[Z0];by_cases q:g=f
  ·rw[if_pos q,if_pos q];exact ry
  ·rw[if_neg q,if_neg q];exact r g
 ·by_cases q:g=f
  ·rw[q];exact(Zau f y fs).1
  ·refine(Zau f y fs).2 g (wi g fun z=>hg ?_);show(if g=f then some u else mA g)=none;rw[if_neg q];exact z
theorem Inv.made (I:Inv X pins σ H s):Inv X pins σ (upd (upd H s.heap.objs.size (.own (s.heap.objs.size+1))) (s.heap.objs.size+1) (.ins C s.heap.objs.size []))
  {s with heap:=(s.heap.push PySem.W.emptyDict).push (PySem.W.instObj C s.heap.objs.size)}:=by
 have e1:(s.heap.push PySem.W.emptyDict).get? s.heap.objs.size=some PySem.W.emptyDict:=Qz s.heap rfl;have e2:((s.heap.push PySem.W.emptyDict).push (PySem.W.instObj C s.heap.objs.size)).get? (s.heap.objs.size+1)=some (PySem.W.instObj C s.heap.objs.size):=by
  have:=Qz (s.heap.push PySem.W.emptyDict) (o:=PySem.W.instObj C s.heap.objs.size) rfl
  rwa [WK]at this
 have e3:(s.heap.push PySem.W.emptyDict).Ns s.heap.objs.size (fun _=>none):=⟨PySem.W.emptyDict,#[],_,e1,rfl,(fun e he=>absurd he (by simp)),fun _=>rfl⟩
 have I1:=I.laid (a:=s.heap.objs.size) (o:=.own (s.heap.objs.size+1)) (h':=s.heap.push PySem.W.emptyDict) (t':=s.toks) (fun b u q=>Qh _ q) (Qi _) ⟨_,e1⟩;refine I1.laid (a:=s.heap.objs.size+1) (o:=.ins C s.heap.objs.size []) (t':=s.toks) (fun b u q=>Qh _ q) (Nat.le_of_eq (WK _ _)) ?_;have ne:s.heap.objs.size≠s.heap.objs.size+1:=QD (WF _);refine⟨by rw[Zi ne,Zc],QL _,ne,e2,fun _=>none,(Heap.Ns1.of_empty e3).at fun o q=>Qh _ q,fun _=>True.intro,fun y hy=>absurd rfl hy⟩
theorem Zm7 {prog:Program} {w:World} {env:Env} {f:Str} {s:Shared} (hb:attributeBase e f env (eval e env)=eval e env)
  (h:wpAny (model prog w) A (eval e env) (fun o s₁=>wpAny (model prog w) A (getAttr o f true) Q E s₁) E s):wpAny (model prog w) A (eval (.Attribute e f pos) env) Q E s :=
 Attribute_any_ h (by rw[arm_eval_Attribute,hb])
end
def Zp4 (K:PySem.W.Frag) (ta:TE) (f:Str):TE:=fun σ H Q=>ta σ H fun x H1=>∃ a C dx fs v,x= .ref a/\H1 a=some (.ins C dx fs)/\Cls K C/\NoAttr K C f/\fs.lookup f=some v/\Q v H1
def Zp8 (K:PySem.W.Frag) (ta tv:TE) (f:Str):TS:=fun D σ H=>tv σ H fun y H1=>ta σ H1 fun x H2=>∃ a C dx fs,x= .ref a/\H2 a=some (.ins C dx fs)/\Cls K C/\NoAttr K C f/\fs.length<1000 /\
 D.nx σ (upd H2 a (.ins C dx (Zcv f y fs)))
section
variable {X:Cx} {o e value:Expr} {f:Str} {pos pos' tpos:Pos} {ta tv:TE}
theorem XA (he:PE X e ta) (hb:attributeBase e f X.env (eval e X.env)=eval e X.env):PE X (.Attribute e f pos) (Zp4 X.K ta f):=by
 intro pins s σ H Q I h;refine Zm7 hb (thn (he pins s σ H _ I h) fun u s1 ⟨x,H1,I1,rx,a,C,dx,fs,v,ex,ea,c,n,l,q⟩=>?_);subst ex;obtain rfl:u=Value.ref a:=rx;exact Zf7 I1 ea c n l fun u' s2 I2 ru=>⟨v,H1,I2,ru,q⟩
theorem Zk4 (ha:PE X o ta) (hv:PE X value tv) (hs:swapsWith value (some (.Attribute o f pos')) pos.line X.env=pure false):PS X (.Assign [.Attribute o f pos'] value pos) (Zp8 X.K ta tv f):=by
 intro pins s σ H D I h;refine plainObj_wpAny_Assign_Attribute (thn (hv pins s σ H _ I h) fun u s1 ⟨y,H1,I1,ry,q⟩=>thn (ha pins s1 σ H1 _ I1 q) fun ov s2 ⟨x,H2,I2,rx,a,C,dx,fs,ex,ea,c,n,l,q2⟩=>?_) hs;subst ex;obtain rfl:ov=Value.ref a:=rx;exact ZfH I2 ea c n l ry fun s3 I3=>⟨σ,_,I3,q2⟩
theorem ZmB {pl:Sem Bool} {m:Str} {apos:Pos} {args:List Expr} (he:PE X e te) (I:Inv X pins σ H s)
  (h:te σ H fun x H1=>∃ a C dx fs g,x= .ref a/\H1 a=some (.ins C dx fs)/\Cls X.K C/\ZlE X.K C m g/\fs.lookup m=none /\
   ∀ s1,Inv X pins σ H1 s1->wpAny (model X.prog X.w) X.A (callWith pos (.ref g) [.ref a] (backTo pos (starEach args X.env)) (backToKw pos (keywordEach [] X.env))) Q X.xe s1)
  (ht:eval (.Call (.Attribute e m apos) args [] pos) X.env=(do
   let ov ←eval e X.env
   standAt apos.atName
   let (f,first) ←holding [ov] (getMethod ov m pl)
   callWith pos f first (backTo pos (starEach args X.env)) (backToKw pos (keywordEach [] X.env)))) :
  wpAny (model X.prog X.w) X.A (eval (.Call (.Attribute e m apos) args [] pos) X.env) Q X.xe s:=by
 refine PySem.W.methodCall_KW (pl:=pl) (thn (he pins s σ H _ I h) fun u s1 ⟨x,H1,I1,rx,a,C,dx,fs,g,ex,ea,c,k,l,q⟩=>?_) ht;subst ex;obtain rfl:u=Value.ref a:=rx;exact YO I1 ea c k l (q s1 I1)
end
section
variable {X:Cx} {pins:List (Addr×Obj)} {σ:St} {H:Hp} {s:Shared} {A:Around} {E:Value->Shared->Prop} {Q:Value->Shared->Prop} {c:Value} {b:Bool}
inductive ZfB (K:PySem.W.Frag) (H:Hp):V->Value->Prop where
 | non:ZfB K H .non (.type "NoneType")
 | bl (x:Bool):ZfB K H (.bl x) (.type "bool")
 | int (i:Int):ZfB K H (.int i) (.type "int")
 | str (x:Str):ZfB K H (.str x) (.type "str")
 | flt (x:UInt64):ZfB K H (.flt x) (.type "float")
 | lst {a:Addr} {xs:List V} (e:H a=some (.lst xs)):ZfB K H (.ref a) (.type "list")
 | frz {a:Addr} {o:Obj} {xs:List V} (e:H a=some (.frz o (.lst xs))):ZfB K H (.ref a) (.type "list")
 | tup {a:Addr} {xs:List V} (e:H a=some (.tup xs)):ZfB K H (.ref a) (.type "tuple")
 | dK {a:Addr} {kvs:List (Key×V)} (e:H a=some (.dK kvs)):ZfB K H (.ref a) (.type "dict")
 | dT {a:Addr} {kvs:List (List Key×V)} (e:H a=some (.dT kvs)):ZfB K H (.ref a) (.type "dict")
 | ins {a C dx:Addr} {fs:List (Str×V)} (e:H a=some (.ins C dx fs)) (cl:Cls K C) (ha:PySem.W.findIn K (.ref C) "__class__" = some (some (.builtin "object.__class__")))
   (hn:PySem.W.specialIn K (.builtin "object.__class__") "__get__" = some (some (.builtin "getset_descriptor.__get__"))) (htk:PySem.W.takesIn K (.builtin "object.__class__")=some true)
   (hm:PySem.W.mroIn K C (.type "object")=some true):ZfB K H (.ref a) (.ref C)
theorem Zip {x:V} {t:Value} (I:Inv X pins σ H s) (rx:RelV x u) (ty:ZfB X.K H x t) (e:PySem.W.kitOne X.K t c=some b) (h:∀ tk,Q (.bool b) {s with toks:=tk}) :
  wpAny (model X.prog X.w) A (call (.builtin "isinstance") [u,c]) Q E s:=by
 cases ty with
 | non=>cases (show u=Value.none from rx);exact PySem.W.kia_one PySem.W.kitx_none I.kIn True.intro e (fun z=>nomatch z) h
 | bl y=>cases (show u=Value.bool y from rx);exact PySem.W.kia_one PySem.W.kitx_bool I.kIn True.intro e (fun z=>nomatch z) h
 | int i=>obtain⟨t,q⟩:=(show ∃ t,u=Value.int i t from rx);cases q;exact PySem.W.kia_one PySem.W.kitx_int I.kIn True.intro e (fun z=>nomatch z) h
 | str y=>obtain⟨t,q⟩:=(show ∃ t,u=Value.str y t from rx);cases q;exact PySem.W.kia_one PySem.W.kitx_str I.kIn True.intro e (fun z=>nomatch z) h
 | flt y=>obtain⟨t,q⟩:=(show ∃ t,u=Value.float y t from rx);cases q;exact PySem.W.kia_one PySem.W.kitx_float I.kIn True.intro e (fun z=>nomatch z) h
 | @lst a xs ea =>
  cases (show u=Value.ref a from rx);obtain⟨_,_,n,_,h1⟩:=(show ObjOk X.prog X.w H s.heap a (.lst xs)from I.hok a _ ea)
  exact PySem.W.kia_one PySem.W.kitx_list I.kIn ⟨_,h1,rfl⟩ e (fun z=>nomatch z) h
 | @frz a ob xs ea =>
  cases (show u=Value.ref a from rx);obtain⟨_,_,_,n,_,h1⟩:=(show ObjOk X.prog X.w H s.heap a (.frz ob (.lst xs))from I.hok a _ ea)
  exact PySem.W.kia_one PySem.W.kitx_list I.kIn ⟨_,h1,rfl⟩ e (fun z=>nomatch z) h
 | @tup a xs ea =>
  cases (show u=Value.ref a from rx);obtain⟨_,_,_,p,_⟩:=(show ObjOk X.prog X.w H s.heap a (.tup xs)from I.hok a _ ea)
  obtain⟨o,h1,h2,_⟩:=p;exact PySem.W.kia_one PySem.W.kitx_tuple I.kIn ⟨o,h1,h2⟩ e (fun z=>nomatch z) h
 | @dK a kvs ea =>
  cases (show u=Value.ref a from rx);obtain⟨_,_,vs,_,p⟩:=(show ObjOk X.prog X.w H s.heap a (.dK kvs)from I.hok a _ ea)
  obtain⟨o,es,ep,h1,h2,_⟩:=p;exact PySem.W.kia_one PySem.W.kitx_dict I.kIn ⟨o,h1,h2.1⟩ e (fun z=>nomatch z) h
 | @dT a kvs ea =>
  cases (show u=Value.ref a from rx);obtain⟨_,_,xs,_,o,es,ep,h1,h2,_⟩:=(show ObjOk X.prog X.w H s.heap a (.dT kvs)from I.hok a _ ea)
  exact PySem.W.kia_one PySem.W.kitx_dict I.kIn ⟨o,h1,h2.1⟩ e (fun z=>nomatch z) h
 | @ins a C dx fs ea cl ha hn htk hm =>
  cases (show u=Value.ref a from rx);obtain⟨mA,O,_⟩:=Zcc I.hok ea;obtain⟨od,J,_⟩:=O.look;exact PySem.W.kia_one (PySem.W.kitx_own (cl.get _) cl.hd ha hn htk hm) I.kIn J e (fun z=>nomatch z) h
end
structure Room (k:Nat) (A:Around):Prop where
 hd:A.handled=none
 dp:A.depth+3*k+5<recursionLimit
 un:A.units+16*k+200<cLine
theorem Room.mono (r:Room k A) (h:j<=k):Room j A:=⟨r.hd,by have:=r.dp;omega,by have:=r.un;omega⟩
theorem Room.deeper (r:Room (k+1) A) (env:Env):Room k (A.deeper env) :=
 ⟨r.hd,by have:=r.dp;show A.depth+1+3*k+5<_;omega,by have:=r.un;show A.units+3+16*k+200<_;omega⟩
theorem Zf3 {kw:List (Str×Value)}:(A.under (.builtin "type.__call__" ⟨.ref C::us,kw⟩)).depth=A.depth+1:=by
 first | rfl | simp[Around.under,Code.weight,Code.isCreation,Code.isGuard,Code.isCaller,Code.frames,Code.isFrame,guardIds]
theorem Zf2 {kw:List (Str×Value)}:(A.under (.builtin "type.__call__" ⟨.ref C::us,kw⟩)).units=A.units+1:=by
 first | rfl | simp[Around.under,Code.cUnits,Code.frames,Code.isFrame]
theorem Room.make (r:Room (k+1) A) (C:Addr) (us:List Value) (kw:List (Str×Value)):Room k (A.under (.builtin "type.__call__" ⟨.ref C::us,kw⟩)) :=
 ⟨r.hd,by have:=r.dp;rw[Zf3];omega,by have:=r.un;rw[Zf2];omega⟩
theorem Room.depth (r:Room k A):A.depth<recursionLimit:=by have:=r.dp;omega
theorem Room.units (r:Room k A):A.units+64<cLine:=by have:=r.un;omega
def Znf:TA:=fun _ H Q=>Q [] H
def Zo8 (ta:TE) (tr:TA):TA:=fun σ H Q=>ta σ H fun x H1=>tr σ H1 fun xs H2=>Q (x::xs) H2
section
variable {X:Cx} {e:Expr} {es:List Expr} {te:TE} {t:TA} {pos:Pos}
theorem Zd:PA X [] Znf:=fun _ _ _ _ H Q I h=>Calls.spliced_nil ⟨[],H,I,.nil,h⟩
theorem Za (ha:PE X e te) (hr:PA X es t) (hs:starEach (e::es) X.env=(false,eval e X.env)::starEach es X.env:=by rfl):PA X (e::es) (Zo8 te t):=by
 intro pos pins s σ H Q I h;rw[hs];show wpAny _ _ (spliced ((false,eval e X.env)::backTo pos (starEach es X.env))) _ _ s;refine Calls.spliced_cons (thn (ha pins s σ H _ I h) fun u s1 ⟨x,H1,I1,r1,q1⟩=>?_);exact thn (hr pos pins s1 σ H1 _ I1 q1) fun us s2 ⟨xs,H2,I2,r2,q2⟩=>⟨x::xs,H2,I2,.cons r1 r2,q2⟩
def ZpY (t:TA):TE:=fun σ H Q=>t σ H fun xs H1=>xs.length<=sizeLine/\∀ p,H1 p=none->Q (.ref p) (upd H1 p (.tup xs))
def Zp2 (t:TA):TE:=fun σ H Q=>t σ H fun xs H1=>xs.length<=sizeLine/\∀ p,H1 p=none->Q (.ref p) (upd H1 p (.lst xs))
theorem YE {x1} (h:PA X es t):PE X (.Tuple es x1 pos) (ZpY t):=by
 intro pins s σ H Q I hq;refine wpAny_Tuple_spliced (thn (h pos pins s σ H _ I hq) fun us s1 ⟨xs,H1,I1,r,z,q⟩=>⟨by rw[←r.length];exact z,?_⟩);have hf:H1 s1.heap.objs.size=none:=I1.hok.fresh (Qi _);refine⟨.ref s1.heap.objs.size,upd H1 s1.heap.objs.size (.tup xs),I1.laid (t':=s1.toks) (fun b u e=>Qh _ e) (Qi _) ?_,rfl,q _ hf⟩;exact⟨z,us,r,⟨_,Qz _ rfl,rfl,_,rfl⟩,Ze1 rfl rfl⟩
theorem ZR (h:PA X es t):PE X (.List es pos) (Zp2 t):=by
 intro pins s σ H Q I hq;refine wpAny_List_spliced (thn (h pos pins s σ H _ I hq) fun us s1 ⟨xs,H1,I1,r,z,q⟩=>⟨by rw[←r.length];exact z,?_⟩);have hf:H1 s1.heap.objs.size=none:=I1.hok.fresh (Qi _);refine⟨.ref s1.heap.objs.size,upd H1 s1.heap.objs.size (.lst xs),I1.laid (t':=s1.toks) (fun b u e=>Qh _ e) (Qi _) ?_,rfl,q _ hf⟩;exact⟨z,us,0,r,Qz _ rfl⟩
end
abbrev Sp:=List V->Hp->VK->XK->Prop
abbrev CXT:=List Env->Hp->Shared->XK->Value->Shared->Prop
structure Env0 (P:Program) (w:World) (K:PySem.W.Frag) (mg:Str->Option Value) (base:Heap) (A:Around) (outer:List Env) (s:Shared) (H:Hp):Prop where
 frames:A.frames=some outer
 mod:Mod K mg base
 bs:∀ b o,base.get? b=some o->s.heap.get? b=some o/\H b=none
 bsz:base.objs.size<=s.heap.objs.size
 funs:s.heap.FunFrames base outer
 frf:∀ b∈frs outer,H b=none
 hok:HOk P w H s.heap
 bare:AllBare s.gens
def CE (outer:List Env) (P:Program) (w:World) (H:Hp) (s:Shared) (Q:VK) (u:Value) (s':Shared):Prop :=
 ∃ v H',s'.os=s.os/\AllBare s'.gens/\Un (frs outer) [] H H' s.heap s'.heap/\HOk P w H' s'.heap/\RelV v u/\Q v H'
def CR (CX:CXT) (outer:List Env) (P:Program) (w:World) (H:Hp) (s:Shared) (Q:VK) (E:XK) (r:Result) (s':Shared):Prop :=
 match r with
 | .ok (.ret u)=>CE outer P w H s Q u s'
 | .ok _=>False
 | .error e=>CX outer H s E e s'
structure FnOk (P:Program) (w:World) (K:PySem.W.Frag) (mg:Str->Option Value) (base:Heap) (CX:CXT) (k:Nat) (f:Addr) (fd:FuncData) (ps:List Str) (sp:Sp):Prop where
 len:∀ vs H Q E,sp vs H Q E->vs.length=ps.length
 run:∀ (A:Around) (outer:List Env) (s:Shared) (H:Hp) (args:Args) (us:List Value) (vs:List V) (Q:VK) (E:XK),Room k A->Env0 P w K mg base A outer s H->BindsTo s fd args (ps.zip us)->Vals vs us->sp vs H Q E ->
  codeAny (model P w) A (.call (.ref f) args) (CR CX outer P w H s Q E) s
theorem FnOk.mono {P:Program} {w:World} {K:PySem.W.Frag} {mg:Str->Option Value} {base:Heap} {CX:CXT} {f:Addr} {fd:FuncData} {sp:Sp} (F:FnOk P w K mg base CX j f fd ps sp) (h:j<=k) :
  FnOk P w K mg base CX k f fd ps sp:=⟨F.len,fun A outer s H args us vs Q E hr=>F.run A outer s H args us vs Q E (hr.mono h)⟩
theorem Env0.make {P:Program} {w:World} {K:PySem.W.Frag} {mg:Str->Option Value} {base:Heap} {outer:List Env} (e:Env0 P w K mg base A outer s H) (C:Addr) (us:List Value) (kw:List (Str×Value)) :
  Env0 P w K mg base (A.under (.builtin "type.__call__" ⟨.ref C::us,kw⟩)) outer s H:=⟨by first | exact e.frames | (simpa[Around.under,Code.envs,Code.isFrame,pushEnvs]using e.frames),e.mod,e.bs,e.bsz,e.funs,e.frf,e.hok,e.bare⟩
section
variable {X:Cx} {pins:List (Addr×Obj)} {σ:St} {H:Hp} {s s':Shared}
theorem Inv.env0 (I:Inv X pins σ H s):Env0 X.prog X.w X.K X.mg X.base X.A X.stack s H :=
 ⟨I.ok.frames,I.ok.mod,I.bs,Q7 I.ok.bsz I.sz,I.stack,I.stkFree,I.hok,I.bare⟩
theorem Inv.after {Q:VK} (I:Inv X pins σ H s) (h:CE X.stack X.prog X.w H s Q u s'):EP X pins σ Q u s':=by
 obtain⟨v,H',os,bare,un,hok,r,q⟩:=h;obtain⟨hh,g,d,t,os'⟩:=s';obtain rfl:os'=s.os:=os;exact⟨v,H',I.call (h':=hh) (g':=g) (d':=d) (t':=t) (ch:=[]) un hok bare (fun b z=>absurd z (by simp)),r,q⟩
end
def ZlO (sp:Sp) (dvs:List V) (E:XK) (t:TA):TE:=fun σ H Q=>t σ H fun vs H1=>sp (vs++dvs) H1 Q E
def ZcA (C:Addr) (m:Str) (sp:Sp) (dvs:List V) (E:XK) (ta:TE) (t:TA):TE:=fun σ H Q=>ta σ H fun x H1=>∃ a dx fs,x= .ref a/\H1 a=some (.ins C dx fs)/\fs.lookup m=none /\
 t σ H1 fun vs H2=>sp (x::(vs++dvs)) H2 Q E
def Zji (C:Addr) (sp:Sp) (dvs:List V) (E:XK) (t:TA):TE:=fun σ H Q=>t σ H fun vs H1=>∀ x dx,H1 x=none->H1 dx=none->dx≠x ->
 sp (.ref x::(vs++dvs)) (upd (upd H1 dx (.own x)) x (.ins C dx [])) (fun v H2=>v= .non/\Q (.ref x) H2) E
def Binds (K:PySem.W.Frag) (fd:FuncData) (ps:List Str) (ds:List Value):Prop :=
 ∀ (s:Shared) (us:List Value),K.In s.heap->(us++ds).length=ps.length->BindsTo s fd ⟨us,[]⟩ (ps.zip (us++ds))
theorem Binds.all {K:PySem.W.Frag} {fd:FuncData} (h:∀ us:List Value,us.length=ps.length->bindArgs fd ⟨us,[]⟩=pure (ps.zip us)):Binds K fd ps []:=fun s us _ hl=>by
 rw[Re]at hl ⊢;exact .of_eq (h us hl)
def X6 (CX:CXT) (X:Cx) (E:XK):Prop:=∀ (pins:List (Addr×Obj)) (σ:St) (H:Hp) (s:Shared) (e:Value) (s':Shared),Inv X pins σ H s->CX X.stack H s E e s'->X.xe e s'
section
variable {X:Cx} {CX:CXT} {k:Nat} {f C:Addr} {fd:FuncData} {ps:List Str} {sp:Sp} {dvs:List V} {ds:List Value} {E:XK} {x m:Str} {p pos apos:Pos} {e o:Expr} {es:List Expr} {ta:TE} {t:TA}
theorem Zhn {Q:VK} (F:FnOk X.prog X.w X.K X.mg X.base CX k f fd ps sp) (hr:Room k X.A) (hb:Binds X.K fd ps ds) (hd:Vals dvs ds) (hx:X6 CX X E)
  (I:Inv X pins σ H s) (r:Vals vs us) (h:sp (vs++dvs) H Q E):wpAny (model X.prog X.w) X.A (call (.ref f) us) (EP X pins σ Q) X.xe s:=by
 have r2:Vals (vs++dvs) (us++ds):=r.append hd;have hl:(us++ds).length=ps.length:=by rw[←r2.length];exact F.len _ _ _ _ h
 refine wpAny_call (codeAny_mono (F.run X.A X.stack s H ⟨us,[]⟩ (us++ds) (vs++dvs) Q E hr I.env0 (hb s us I.kIn hl) r2 h) fun r s' hq=>?_);cases r with
 | error e=>exact hx pins σ H s e s' I hq
 | ok fl =>
  cases fl with
  | ret u=>exact I.after hq
  | next=>exact False.elim hq
  | brk=>exact False.elim hq
  | cont=>exact False.elim hq
theorem Zmi (F:FnOk X.prog X.w X.K X.mg X.base CX k f fd ps sp) (hr:Room k X.A) (hg:Gl X x) (hm:X.mg x=some (.ref f)) (hk:PySem.W.keepIn X.K (.ref f)=true) (hb:Binds X.K fd ps ds) (hd:Vals dvs ds) (hx:X6 CX X E)
  (ha:PA X (e::es) t) (hdb:(x==("__debug__" : Str))=false:=by decide) (he:starEach (e::es) X.env=(false,eval e X.env)::starEach es X.env:=by rfl) (hpl:(backTo pos (starEach es X.env)).any (·.1)=false:=by rfl) :
  PE X (.Call (.Name x p) (e::es) [] pos) (ZlO sp dvs E t):=by
 intro pins s σ H Q I h;refine wpAny_Call_Name_kw (Xb I hg hm ?_ hdb);refine PySem.W.callWith_K (h₀:=X.base) I.ok.mod.kin hk (thn (ha pos pins s σ H _ I h) fun us s1 ⟨vs,H1,I1,r,q⟩=>⟨I1.kIn,?_⟩) he hpl;exact Zhn F hr hb hd hx I1 r q
theorem Zmf {pl:Sem Bool} (he:PE X o ta) (c:Cls X.K C) (hm:ZlE X.K C m f) (F:FnOk X.prog X.w X.K X.mg X.base CX k f fd ps sp) (hr:Room k X.A) (hb:Binds X.K fd ps ds) (hd:Vals dvs ds) (hx:X6 CX X E) (ha:PA X (e::es) t)
  (hst:starEach (e::es) X.env=(false,eval e X.env)::starEach es X.env:=by rfl) (hpl:(backTo pos (starEach es X.env)).any (·.1)=false:=by rfl)
  (ht:eval (.Call (.Attribute o m apos) (e::es) [] pos) X.env=(do
   let ov ←eval o X.env
   standAt apos.atName
   let (f,first) ←holding [ov] (getMethod ov m pl)
   callWith pos f first (backTo pos (starEach (e::es) X.env)) (backToKw pos (keywordEach [] X.env))):=by rfl) :
  PE X (.Call (.Attribute o m apos) (e::es) [] pos) (ZcA C m sp dvs E ta t):=by
 intro pins s σ H Q I h;refine PySem.W.methodCall_KW (pl:=pl) (thn (he pins s σ H _ I h) fun u s1 ⟨x,H1,I1,rx,a,dx,fs,ex,ea,l,q⟩=>?_) ht;subst ex;obtain rfl:u=Value.ref a:=rx;refine YO I1 ea c hm l ?_;refine PySem.W.callWith_K (first:=[.ref a]) (h₀:=X.base) I.ok.mod.kin hm.kp (thn (ha pos pins s1 σ H1 _ I1 q) fun us s2 ⟨vs,H2,I2,r,q2⟩=>⟨I2.kIn,?_⟩) hst hpl;exact Zhn (us:=.ref a::us) (vs:=.ref a::vs) F hr hb hd hx I2 (.cons rfl r) q2
theorem ZeU {pl:Sem Bool} (he:PE X o ta) (c:Cls X.K C) (hm:ZlE X.K C m f) (F:FnOk X.prog X.w X.K X.mg X.base CX k f fd ps sp) (hr:Room k X.A) (hb:Binds X.K fd ps ds) (hd:Vals dvs ds) (hx:X6 CX X E)
  (ht:eval (.Call (.Attribute o m apos) [] [] pos) X.env=(do
   let ov ←eval o X.env
   standAt apos.atName
   let (f,first) ←holding [ov] (getMethod ov m pl)
   callWith pos f first (backTo pos (starEach [] X.env)) (backToKw pos (keywordEach [] X.env))):=by rfl) :
  PE X (.Call (.Attribute o m apos) [] [] pos) (ZcA C m sp dvs E ta Znf):=by
 intro pins s σ H Q I h;refine PySem.W.methodCall_KW (pl:=pl) (thn (he pins s σ H _ I h) fun u s1 ⟨x,H1,I1,rx,a,dx,fs,ex,ea,l,q⟩=>?_) ht;subst ex;obtain rfl:u=Value.ref a:=rx;refine YO I1 ea c hm l ?_;exact PySem.W.callWith_K0 (first:=[.ref a]) I1.kIn hm.kp (Zhn (us:=[.ref a]) (vs:=[.ref a]) F hr hb hd hx I1 (.cons rfl .nil) q)
structure Mk (K:PySem.W.Frag) (C f:Addr):Prop where
 makes:PySem.W.makesIn K C=true
 init:PySem.W.findIn K (.ref C) "__init__" = some (some (.ref f))
 fn:PySem.W.isFn K (.ref f)=true
 kp:PySem.W.keepIn K (.ref C)=true
theorem ZjC {Q:VK} (M:Mk X.K C f) (F:FnOk X.prog X.w X.K X.mg X.base CX k f fd ps sp) (hr:Room (k+1) X.A) (hb:Binds X.K fd ps ds) (hd:Vals dvs ds)
  (hx:X6 CX X E) (I:Inv X pins σ H s) (r:Vals vs us)
  (h:∀ x dx,H x=none->H dx=none->dx≠x->sp (.ref x::(vs++dvs)) (upd (upd H dx (.own x)) x (.ins C dx [])) (fun v H2=>v= .non/\Q (.ref x) H2) E) :
  wpAny (model X.prog X.w) X.A (call (.ref C) us) (EP X pins σ Q) X.xe s:=by
 have hq:=h (s.heap.objs.size+1) s.heap.objs.size (I.hok.fresh (Ux _)) (I.hok.fresh (Qi _)) (QD (WF _));have I2:=Inv.made (C:=C) I;have r2:Vals (V.ref (s.heap.objs.size+1)::(vs++dvs)) (Value.ref (s.heap.objs.size+1)::(us++ds)):=.cons rfl (r.append hd);have hl:(Value.ref (s.heap.objs.size+1)::us++ds).length=ps.length:=by
  have e:=r2.length;rw[F.len _ _ _ _ hq]at e;exact e.symm
 refine wpAny_call (Ze7 (f:=f) I.kIn M.makes M.init (beq_iff_eq.mp M.fn) (codeAny_mono (F.run _ X.stack _ _ ⟨Value.ref (s.heap.objs.size+1)::us,[]⟩ (Value.ref (s.heap.objs.size+1)::(us++ds)) _ _ E (hr.make C us [])
  (I2.env0.make C us []) (hb _ (Value.ref (s.heap.objs.size+1)::us) I2.kIn hl) r2 hq) fun r s' hq'=>?_))
 cases r with
 | error e=>exact hx pins σ _ _ e s' I2 hq'
 | ok fl =>
  cases fl with
  | ret u =>
   obtain⟨v,H',I3,rv,ev,q3⟩:=I2.after hq';subst ev;exact⟨rv,⟨V.ref (s.heap.objs.size+1),H',I3,rfl,q3⟩⟩
  | next=>exact False.elim hq'
  | brk=>exact False.elim hq'
  | cont=>exact False.elim hq'
theorem Zmg (M:Mk X.K C f) (F:FnOk X.prog X.w X.K X.mg X.base CX k f fd ps sp) (hr:Room (k+1) X.A) (hg:Gl X x) (hm:X.mg x=some (.ref C)) (hb:Binds X.K fd ps ds) (hd:Vals dvs ds) (hx:X6 CX X E)
  (ha:PA X (e::es) t) (hdb:(x==("__debug__" : Str))=false:=by decide) (he:starEach (e::es) X.env=(false,eval e X.env)::starEach es X.env:=by rfl) (hpl:(backTo pos (starEach es X.env)).any (·.1)=false:=by rfl) :
  PE X (.Call (.Name x p) (e::es) [] pos) (Zji C sp dvs E t):=by
 intro pins s σ H Q I h;refine wpAny_Call_Name_kw (Xb I hg hm ?_ hdb);refine PySem.W.callWith_K (h₀:=X.base) I.ok.mod.kin M.kp (thn (ha pos pins s σ H _ I h) fun us s1 ⟨vs,H1,I1,r,q⟩=>⟨I1.kIn,?_⟩) he hpl;exact ZjC M F hr hb hd hx I1 r q
end
section
variable {X:Cx} {CX:CXT} {k:Nat} {f C:Addr} {fd:FuncData} {ps ks:List Str} {sp:Sp} {E:XK} {x m:Str} {p pos apos kpos:Pos} {e o:Expr} {es:List Expr} {kws:List Keyword} {te ta:TE} {t tk:TA} {nm:Option Str}
variable {g:List Value->List Value->List Value} {gV:List V->List V->List V}
end
structure Zm (N P:List Str) (sc:Scope):Prop where
 kind:sc.kind= .function
 co:sc.isCoroutine=false
 gen:sc.isGenerator=false
 nd:N.Nodup
 pre:N.take P.length=P
 par:∀ x∈P,sc.names.lookup x=some .local\/sc.names.lookup x=some .cell
 nofree:∀ y∈sc.names,y.2≠.free
theorem Zdy {kindOf:Str->Option NameKind} {x:Str}:∀ {binds:List (Str×Value)} {m:Str->Option Value},(∀ v,(x,v)∉binds)->bindL kindOf binds m x=m x
 | [],_,_=>rfl
 | (n,v)::r,m,h=>by
  unfold bindL;rw[Zdy fun w hw=>h w (Qg _ hw)];split
  ·have:x≠n:=by rintro rfl;exact h v Qd
   simp[this]
  ·rfl
theorem ZdA {kindOf:Str->Option NameKind} {x:Str}:∀ {binds:List (Str×Value)} {m:Str->Option Value},(∀ v,(x,v)∉binds)->bindC kindOf binds m x=m x
 | [],_,_=>rfl
 | (n,v)::r,m,h=>by
  unfold bindC;rw[ZdA fun w hw=>h w (Qg _ hw)];split
  ·rfl
  ·have:x≠n:=by rintro rfl;exact h v Qd
   simp[this]
theorem Zdz {kindOf:Str->Option NameKind} {x:Str} {v:Value}:∀ {P:List Str} {vs:List Value} {i:Nat} {m:Str->Option Value},P.Nodup->P[i]?=some x->vs[i]?=some v->kindOf x=some .local ->
  bindL kindOf (P.zip vs) m x=some v
 | [],_,_,_,_,h,_,_=>by simp at h
 | _::_,[],_,_,_,_,h,_=>by simp at h
 | p::P,w::vs,0,m,nd,h1,h2,hk=>by
  simp at h1 h2;subst h1;subst h2;show bindL kindOf ((p,w)::P.zip vs) m p=_;unfold bindL;rw[Zdy fun v hv=>(QW.mp nd).1 (Rf hv).1,if_pos hk];simp
 | p::P,w::vs,i+1,m,nd,h1,h2,hk=>by
  show bindL kindOf ((p,w)::P.zip vs) m x=_;unfold bindL;exact Zdz (i:=i) (QW.mp nd).2 (by simpa using h1) (by simpa using h2) hk
theorem ZdB {kindOf:Str->Option NameKind} {x:Str} {v:Value}:∀ {P:List Str} {vs:List Value} {i:Nat} {m:Str->Option Value},P.Nodup->P[i]?=some x->vs[i]?=some v->kindOf x≠some .local ->
  bindC kindOf (P.zip vs) m x=some v
 | [],_,_,_,_,h,_,_=>by simp at h
 | _::_,[],_,_,_,_,h,_=>by simp at h
 | p::P,w::vs,0,m,nd,h1,h2,hk=>by
  simp at h1 h2;subst h1;subst h2;show bindC kindOf ((p,w)::P.zip vs) m p=_;unfold bindC;rw[ZdA fun v hv=>(QW.mp nd).1 (Rf hv).1,if_neg hk];simp
 | p::P,w::vs,i+1,m,nd,h1,h2,hk=>by
  show bindC kindOf ((p,w)::P.zip vs) m x=_;unfold bindC;exact ZdB (i:=i) (QW.mp nd).2 (by simpa using h1) (by simpa using h2) hk
def start (N:List Str) (vs:List V):St:=vs.map some++QK (N.length-vs.length) none
def Zdq (CX:CXT) (P:Program) (w:World) (K:PySem.W.Frag) (mg:Str->Option Value) (base:Heap) (N:List Str) (qual:Str) (scope:Scope) (f:Addr) (cd:Value) (A:Around) (outer:List Env) (s:Shared) (H:Hp) (E:XK):Cx where
 prog:=P
 w:=w
 K:=K
 mg:=mg
 base:=base
 A:=A.deeper (envOfC qual scope s.heap.objs.size f cd)
 N:=N
 s₀:=s
 H₀:=H
 env:=envOfC qual scope s.heap.objs.size f cd
 outer:=outer
 stack:=envOfC qual scope s.heap.objs.size f cd::outer
 ex:=[]
 calm:=true
 fn:=fun _=>true
 pn:=[]
 xe:=fun e s'=>wpAny (model P w) (A.deeper (envOfC qual scope s.heap.objs.size f cd)) (leaving (envOfC qual scope s.heap.objs.size f cd) e) (fun _ s''=>CX outer H s E e s'') (fun e' s''=>CX outer H s E e' s'') s'
theorem Zfu {sc:Scope} (h:sc.names.lookup x=some .cell):∃ c,(cellsFrom n sc.names []).lookup x=some c:=by
 have q:=PySem.W.cellsFrom_some sc.names n [] (.inl h);exact UB.mp q
theorem Ziq {CX:CXT} {P:Program} {w:World} {K:PySem.W.Frag} {mg:Str->Option Value} {base:Heap} {N:List Str} {qual:Str} {scope:Scope} {f:Addr} {cd:Value} {outer:List Env} {s1:Shared} {E:XK} 
  (S:Zm N ps scope) (hd:A.handled=none) (e0:Env0 P w K mg base A outer s H) (hl:vs.length=ps.length) (r:Vals vs us)
  (x:InCallC s s.heap.objs.size (bindL (envOfC qual scope s.heap.objs.size f cd).kindOf (ps.zip us) fun _=>none) (cellsFrom (s.heap.objs.size+1) scope.names []) (bindC (envOfC qual scope s.heap.objs.size f cd).kindOf (ps.zip us) fun _=>none) s1) :
  Inv (Zdq CX P w K mg base N qual scope f cd A outer s H E) [] (start N vs) H s1:=by
 have hpl:ps.length<=N.length:=by have:=congrArg RX S.pre;rw[QJ]at this;omega
 obtain⟨h1,tk,rfl,hk⟩:=x.done;have noA:∀ b:Addr,b∉(Zdq CX P w K mg base N qual scope f cd A outer s H E).ex:=fun b z=>absurd (show b∈([]:List Addr)from z) (by simp);refine⟨⟨e0.mod,S.kind,rfl,rfl,Qi _,fun y z c h1 h2=>?_,fun y hy=>?_,fun y c _ h=>?_,fun _=>hd,Around.frames_deeper e0.frames,.inr ⟨rfl,rfl⟩,fun b z=>absurd z (noA b),e0.bs,e0.bsz,fun b _ _=>noA b,fun b z=>absurd z (noA b),e0.funs,e0.frf⟩,
  rfl,e0.bare,Un.kept hk,⟨_,x.toInCall.ns,fun i y v h1 h2 h3=>?_⟩,fun y c h=>⟨_,x.cell y c h⟩,e0.hok.fresh (Qi _),fun y c h=>?_,fun p hp=>absurd (show p∈([]:List (Addr×Obj))from hp) (by simp),e0.hok.kept hk,?_⟩
 ·exact name_of_addr x.apart (PySem.mem_of_lookup h1) (PySem.mem_of_lookup h2)
 ·have hy:scope.names.lookup y=some .cell\/scope.names.lookup y=some .free:=hy;rcases hy with hy | hy
  ·exact Zfu hy
  ·exact absurd rfl (S.nofree _ (PySem.mem_of_lookup hy))
 ·exact U6 (x.above y c (PySem.mem_of_lookup h))
 ·have hi:i<vs.length:=by
   unfold start at h2;by_cases hi:i<vs.length
   ·exact hi
   ·rw[QZ (by simpa using hi)]at h2;rw[WO]at h2;split at h2 <;> cases h2
  have ha:vs[i]?=some v:=by
   unfold start at h2;rw[Q3 (by simpa using hi),Qk]at h2;cases e:vs[i]? with
   | none=>rw[e]at h2;cases h2
   | some a=>rw[e]at h2;cases h2;rfl
  obtain⟨u,hu,rv⟩:=r.get ha;have hp:ps[i]?=some y:=by
   rw[←S.pre,Ud (by omega)];exact h1
  have ndP:ps.Nodup:=by rw[←S.pre];exact S.nd.sublist (RO _ _)
  refine⟨u,rv,?_⟩;rcases S.par y (Wp hp)with k | k
  ·exact .inl ⟨k,Zdz ndP hp hu k⟩
  ·obtain⟨c,e⟩:=Zfu (n:=s.heap.objs.size+1) k;refine .inr ⟨.inl k,c,e,?_⟩;have q:=x.cell y c e;rw[ZdB ndP hp hu (by show scope.names.lookup y≠_;rw[k];decide)]at q;exact q
 ·exact e0.hok.fresh (U6 (x.above y c (PySem.mem_of_lookup h)))
 ·unfold start;show _=N.length;rw[Qp,Qc,WT];omega
theorem ZmX {CX:CXT} {P:Program} {w:World} {K:PySem.W.Frag} {mg:Str->Option Value} {base:Heap} {f:Addr} {name qual:Str} {params:Arguments} {scope:Scope} {dV kV doc pm cdv ct oc:Value} {an od:Option Addr}
  {osl:Array (Option Value)} {N ps:List Str} {sp:Sp} (lk:K.lookup f=some ⟨oc,od,.func (PySem.W.fnOf name qual params body scope dV kV doc pm an cdv ct),osl⟩) (hcd:PySem.W.codeIn K cdv qual=true) (S:Zm N ps scope)
  (len:∀ vs H Q E,sp vs H Q E->vs.length=ps.length)
  (hbody:∀ (A:Around) (outer:List Env) (s:Shared) (H:Hp) (vs:List V) (Q:VK) (E:XK),Room k (A.deeper (envOfC qual scope s.heap.objs.size f cdv))->sp vs H Q E ->
   ∃ t,PSs (Zdq CX P w K mg base N qual scope f cdv A outer s H E) body t/\t {nx:=fun _ H'=>Q .non H',rt:=Q} (start N vs) H) :
  FnOk P w K mg base CX (k+1) f (PySem.W.fnOf name qual params body scope dV kV doc pm an cdv ct) ps sp:=by
 refine⟨len,fun A outer s H args us vs Q E hr e0 hb r hsp=>?_⟩;have hl:=len _ _ _ _ hsp;have KX:K.In s.heap:=e0.mod.kin.keeps fun b o e=>(e0.bs b o e).1;have lim:s.heap.NoLimit:=e0.mod.nolimit.keeps fun b o e=>(e0.bs b o e).1;have hkind:∀ y∈ps.zip us,scope.names.lookup y.1=some .local\/(scope.names.lookup y.1=some .cell/\((cellsFrom (s.heap.objs.size+1) scope.names []).lookup y.1).isSome=true):=fun⟨n,v⟩ hy=>by
  rcases S.par n (Rf hy).1 with q | q
  ·exact .inl q
  ·exact .inr ⟨q,PySem.W.cellsFrom_some _ _ _ (.inl q)⟩
 refine codeAny_call_function hr.depth (KX _ _ lk) rfl S.co S.gen rfl (PySem.W.codeRec_of KX hcd) (hb _ _ _ _ ?_);refine wpAny_newFunctionEnv_cells S.kind hkind fun env he s1 x=>?_;subst he;refine⟨lim.keeps x.toInCall.keep,codeAny_func ?_⟩;obtain⟨t,ht,hq⟩:=hbody A outer s H vs Q E (hr.deeper _) hsp;have I:Inv (Zdq CX P w K mg base N qual scope f cdv A outer s H E) [] (start N vs) H s1:=Ziq S hr.hd e0 hl r x;refine wpAny_mono (ht [] s1 (start N vs) H _ I hq) (fun fl s' hs=>?_) fun e s' hs=>hs;have fin:∀ {σ':St} {H':Hp} {v:V} {u:Value},Inv (Zdq CX P w K mg base N qual scope f cdv A outer s H E) [] σ' H' s'->RelV v u->Q v H'->CE outer P w H s Q u s' :=
  fun {σ' H' v u} J rv q=>⟨v,H',J.os,J.bare,J.base,J.hok,rv,q⟩
 cases fl with
 | ret u =>
  obtain⟨v,σ',H',J,rv,q⟩:=hs;exact fin J rv q
 | next =>
  obtain⟨σ',H',J,q⟩:=hs;exact fin (v:=V.non) (u:=Value.none) J rfl q
 | brk =>
  obtain⟨_,_,_,q⟩:=hs;exact False.elim q
 | cont =>
  obtain⟨_,_,_,q⟩:=hs;exact False.elim q
section
variable {X:Cx} {x:Str} {p pos:Pos} {e:Expr} {es:List Expr} {t:TA} {id T:String} {r:List V->Hp->VK->Prop}
def tCB (r:List V->Hp->VK->Prop) (t:TA):TE:=fun σ H Q=>t σ H fun vs H1=>r vs H1 Q
theorem Zl (hc:CallR X (.builtin id) r) (hg:Gl X x) (hm:X.mg x=none) (hv:bootBuiltins x=some (.builtin id)) (ha:PA X (e::es) t) (hn:x≠"__name__":=by decide) (hdb:(x==("__debug__" : Str))=false:=by decide)
  (he:starEach (e::es) X.env=(false,eval e X.env)::starEach es X.env:=by rfl) (hpl:(backTo pos (starEach es X.env)).any (·.1)=false:=by rfl):PE X (.Call (.Name x p) (e::es) [] pos) (tCB r t):=by
 intro pins s σ H Q I h;refine wpAny_Call_Name_kw (Zat I hg hm hv ?_ hn hdb);exact PyProof.Rows.callWith_builtin1 (thn (ha pos pins s σ H _ I h) fun us s1 ⟨vs,H1,I1,r1,q1⟩=>hc pins s1 σ H1 vs us Q I1 r1 q1) he hpl
theorem ZA (hc:CallR X (.type T) r) (hg:Gl X x) (hm:X.mg x=none) (hv:bootBuiltins x=some (.type T)) (ha:PA X (e::es) t) (hn:x≠"__name__":=by decide) (hdb:(x==("__debug__" : Str))=false:=by decide)
  (he:starEach (e::es) X.env=(false,eval e X.env)::starEach es X.env:=by rfl) (hpl:(backTo pos (starEach es X.env)).any (·.1)=false:=by rfl):PE X (.Call (.Name x p) (e::es) [] pos) (tCB r t):=by
 intro pins s σ H Q I h;refine wpAny_Call_Name_kw (Zat I hg hm hv ?_ hn hdb);exact PyProof.Rows.callWith_type1 (thn (ha pos pins s σ H _ I h) fun us s1 ⟨vs,H1,I1,r1,q1⟩=>hc pins s1 σ H1 vs us Q I1 r1 q1) he hpl
end
section
variable {κ:Type} [DecidableEq κ]
def Xx (kvs:List (κ×V)) (k:κ):Option V:=(kvs.find? fun kv=>decide (kv.1=k)).map (·.2)
def X8 (kvs:List (κ×V)) (k:κ) (v:V):List (κ×V) :=
 if (kvs.any fun kv=>decide (kv.1=k))=true then kvs.map (fun kv=>if kv.1=k then (kv.1,v)else kv)else kvs++[(k,v)]
def Zdj (kvs:List (κ×V)) (k:κ):List (κ×V):=kvs.filter fun kv=>decide (kv.1≠k)
theorem JK {p:κ×V} {r:List (κ×V)} {k:κ} (e:p.1=k):Xx (p::r) k=some p.2:=by simp[Xx,Uh,e]
theorem JL {p:κ×V} {r:List (κ×V)} {k:κ} (e:¬ p.1=k):Xx (p::r) k=Xx r k:=by simp[Xx,Uh,e]
theorem JM (k:κ):∀ kvs:List (κ×V),(kvs.any fun kv=>decide (kv.1=k))=(Xx kvs k).isSome
 | []=>rfl
 | p::r=>by
  rw[Uv];by_cases e:p.1=k
  ·simp only[JK e,decide_eq_true e,Bool.true_or,RD]
  ·rw[JL e,decide_eq_false e,Bool.false_or];exact JM k r
theorem YX (kvs:List (κ×V)) (k:κ) (v:V):(X8 kvs k v).length<=kvs.length+1:=by
 unfold X8;split
 ·rw[Qc];omega
 ·rw[Qp,QO,Va];omega
theorem ZbN {kvs:List (κ×V)} {k:κ} (v:V) (h:Xx kvs k=none):X8 kvs k v=kvs++[(k,v)]:=by
 unfold X8;rw[JM,h];exact if_neg (by decide)
theorem RelO.isSome_eq {o:Option V} {u:Option Value} (r:RelO o u):o.isSome=u.isSome:=by
 cases o with
 | none=>cases u with
  | none=>rfl
  | some _=>exact(show False from r).elim
 | some _=>cases u with
  | none=>exact(show False from r).elim
  | some _=>rfl
theorem RelO.getD {o:Option V} {u:Option Value} {d:V} {d':Value} (r:RelO o u) (rd:RelV d d'):RelV (o.getD d) (u.getD d'):=by
 cases o with
 | none=>cases u with
  | none=>exact rd
  | some _=>exact(show False from r).elim
 | some _=>cases u with
  | none=>exact(show False from r).elim
  | some _=>exact r
theorem KV.val {kvs:List (κ×V)} {vs:List (κ×Value)} (r:KV kvs vs) (k:κ):RelO (Xx kvs k) (valueAt vs k):=by
 unfold KV at r;induction r with
 | nil=>exact True.intro
 | @cons p q ps qs h t ih =>
  obtain⟨h1,h2⟩:=h;by_cases e:p.1=k
  ·have e':q.1=k:=h1.symm.trans e;have b:valueAt (q::qs) k=some q.2:=by simp[valueAt,Uh,e']
   rw[JK e,b];exact h2
  ·have e':¬ q.1=k:=fun z=>e (h1.trans z);have b:valueAt (q::qs) k=valueAt qs k:=by simp[valueAt,Uh,e']
   rw[JL e,b];exact ih
theorem KV.any {kvs:List (κ×V)} {vs:List (κ×Value)} (r:KV kvs vs) (k:κ):(kvs.any fun kv=>decide (kv.1=k))=vs.any fun kv=>decide (kv.1=k):=by
 unfold KV at r;induction r with
 | nil=>rfl
 | cons h t ih=>rw[Uv,Uv,ih,h.1]
theorem KV.repl {kvs:List (κ×V)} {vs:List (κ×Value)} (r:KV kvs vs) (k:κ) {y:V} (ry:RelV y u) :
  KV (kvs.map fun kv=>if kv.1=k then (kv.1,y)else kv) (vs.map fun kv=>if kv.1=k then (kv.1,u)else kv):=by
 unfold KV at r ⊢;induction r with
 | nil=>exact .nil
 | @cons p q ps qs h t ih =>
  rw[Qj,Qj];refine .cons ?_ ih;obtain⟨h1,h2⟩:=h;by_cases e:p.1=k
  ·rw[if_pos e,if_pos (h1.symm.trans e)];exact⟨h1,ry⟩
  ·rw[if_neg e,if_neg (fun z=>e (h1.trans z))];exact⟨h1,h2⟩
theorem KV.put {kvs:List (κ×V)} {vs:List (κ×Value)} (r:KV kvs vs) (k:κ) {y:V} (ry:RelV y u):KV (X8 kvs k y) (stored vs k u):=by
 unfold X8 stored;rw[r.any k];by_cases e:(vs.any fun kv=>decide (kv.1=k))=true
 ·rw[if_pos e,if_pos e];exact r.repl k ry
 ·rw[if_neg e,if_neg e];exact Paired.snoc r ⟨rfl,ry⟩
theorem KV.drop {kvs:List (κ×V)} {vs:List (κ×Value)} (r:KV kvs vs) (k:κ):KV (Zdj kvs k) (without vs k):=by
 unfold KV at r ⊢;unfold Zdj without;induction r with
 | nil=>exact .nil
 | @cons p q ps qs h t ih =>
  obtain⟨h1,h2⟩:=h;rw[Ue,Ue];by_cases e:p.1=k
  ·have a:¬ decide (p.1≠k)=true:=by simp[e]
   have b:¬ decide (q.1≠k)=true:=by simp[h1.symm.trans e]
   rw[if_neg a,if_neg b];exact ih
  ·have e':¬ q.1=k:=fun z=>e (h1.trans z);have a:decide (p.1≠k)=true:=by simp[e]
   have b:decide (q.1≠k)=true:=by simp[e']
   rw[if_pos a,if_pos b];exact .cons ⟨h1,h2⟩ ih
theorem KV.keys {kvs:List (κ×V)} {vs:List (κ×Value)} (r:KV kvs vs):kvs.map (·.1)=vs.map (·.1):=by
 unfold KV at r;induction r with
 | nil=>rfl
 | cons h t ih=>rw[Qj,Qj,ih,h.1]
theorem KV.length {kvs:List (κ×V)} {vs:List (κ×Value)} (r:KV kvs vs):kvs.length=vs.length:=Paired.length r
theorem Zfo (kvs:List (κ×V)) (k:κ):(Zdj kvs k).length<=kvs.length:=Q5 _ _
end
theorem ZaV {P:Program} {w:World} {k:Key} (r:RelV (kV k) u):(Zu P w).is k u=true:=by
 cases k with
 | inl i=>obtain⟨t,e⟩:=(show ∃ t,u=Value.int i t from r);subst e;exact Zef P w i t
 | inr x=>obtain⟨t,e⟩:=(show ∃ t,u=Value.str x t from r);subst e;exact XH P w x t
theorem Zda {P:Program} {w:World}:∀ {ks:List Key} {us:List Value},Vals (ks.map kV) us->ItemsAre (Zu P w) ks us
 | [],_,r=>by rw[Wq]at r;cases r;exact .nil
 | k::ks,_,r=>by
  rw[Qj]at r;cases r with
  | cons h t=>exact .cons (ZaV h) (Zda t)
abbrev KT (H:Hp):List (List Key×V)->List (List Key×Addr×Value)->Prop:=Paired fun p q=>p.1=q.1/\H q.2.1=some (.tup (p.1.map kV))/\RelV p.2 q.2.2
theorem KT.val {kvs:List (List Key×V)} {xs:List (List Key×Addr×Value)} (r:KT H kvs xs) (k:List Key):RelO (Xx kvs k) ((atKey xs k).map (·.2)):=by
 induction r with
 | nil=>exact True.intro
 | @cons p q ps qs h t ih =>
  obtain⟨h1,_,h2⟩:=h;by_cases e:p.1=k
  ·have e':q.1=k:=h1.symm.trans e;have b:atKey (q::qs) k=some q.2:=by simp[atKey,Uh,e']
   rw[JK e,b];exact h2
  ·have e':¬ q.1=k:=fun z=>e (h1.trans z);have b:atKey (q::qs) k=atKey qs k:=by simp[atKey,Uh,e']
   rw[JL e,b];exact ih
theorem KT.repl {kvs:List (List Key×V)} {xs:List (List Key×Addr×Value)} (r:KT H kvs xs) (k:List Key) {y:V} (ry:RelV y u) :
  KT H (kvs.map fun kv=>if kv.1=k then (kv.1,y)else kv) (xs.map (putAt k u)):=by
 induction r with
 | nil=>exact .nil
 | @cons p q ps qs h t ih =>
  rw[Qj,Qj];refine .cons ?_ ih;obtain⟨h1,h2,h3⟩:=h;unfold putAt;by_cases e:p.1=k
  ·rw[if_pos e,if_pos (h1.symm.trans e)];exact⟨h1,h2,ry⟩
  ·rw[if_neg e,if_neg (fun z=>e (h1.trans z))];exact⟨h1,h2,h3⟩
theorem KT.put {kvs:List (List Key×V)} {xs:List (List Key×Addr×Value)} (r:KT H kvs xs) (k:List Key) {y:V} (hb:H b=some (.tup (k.map kV))) (ry:RelV y u) :
  KT H (X8 kvs k y) (storedH xs k b u):=by
 have e:(kvs.any fun kv=>decide (kv.1=k))=(atKey xs k).isSome:=by
  rw[JM,(r.val k).isSome_eq,RP]
 unfold X8 storedH;rw[e];by_cases q:(atKey xs k).isSome=true
 ·rw[if_pos q,if_pos q];exact r.repl k ry
 ·rw[if_neg q,if_neg q];exact Paired.snoc r ⟨rfl,hb,ry⟩
theorem KT.keeps {kvs:List (List Key×V)} {xs:List (List Key×Addr×Value)} (r:KT H kvs xs) (ht:∀ b ys,H b=some (.tup ys)->H' b=some (.tup ys)):KT H' kvs xs :=
 Paired.mapP r fun _ _ z=>⟨z.1,ht _ _ z.2.1,z.2.2⟩
section
variable {P:Program} {w:World} {H:Hp} {h:Heap} {a:Addr}
theorem ZnN {u:HO} (ok:HOk P w H h) (e:Rd H a u):ObjOk P w H h a u:=e.ok ok
theorem Zdl (ok:HOk P w H h) (e:Rd H a (.dK kvs)):kvs.length<=sizeLine/\(a==sysModules)=false/\∃ vs,KV kvs vs/\h.DictOf (Zu P w) a vs :=
 show ObjOk P w H h a (.dK kvs)from ZnN ok e
theorem ZaE (ok:HOk P w H h) (e:H a=some (.dK kvs)):kvs.length<=sizeLine/\(a==sysModules)=false/\∃ vs,KV kvs vs/\h.DictOf (Zu P w) a vs:=Zdl ok (.inl e)
theorem Zbc {ks:List Key} (ok:HOk P w H h) (e:H a=some (.tup (ks.map kV))):(tupleKind (Zu P w)).is h ks a:=by
 obtain⟨_,its,r,⟨o,h1,h2,n,h3⟩,_⟩:=(show ObjOk P w H h a (.tup (ks.map kV))from ok a _ e)
 exact⟨o,its.toArray,n,h1,h2,h3,by simpa using Zda r⟩
theorem Zej {kvs:List (List Key×V)} (ok:HOk P w H h) (e:Rd H a (.dT kvs)):kvs.length<=sizeLine/\(a==sysModules)=false /\
  ∃ xs,KT H kvs xs/\h.DictOfH (tupleKind (Zu P w)) a xs:=by
 obtain⟨z,y,xs,r,o,es,ep,h1,h2,h3,h4,h5⟩:=(show ObjOk P w H h a (.dT kvs)from ZnN ok e)
 refine⟨z,y,xs,r,o,es,ep,h1,h2,h3,h4,fun x hx=>?_,h5⟩;have all:∀ {l:List (List Key×V)} {m:List (List Key×Addr×Value)},KT H l m->∀ x∈m,(tupleKind (Zu P w)).is h x.1 x.2.1:=by
  intro l m q;induction q with
  | nil=>intro x hx;exact nomatch hx
  | @cons p q ps qs hq t ih =>
   intro x hx;rcases Qx.mp hx with e | hx
   ·subst e;exact Zbc ok (by rw[←hq.1];exact hq.2.1)
   ·exact ih x hx
 exact all r x hx
theorem Zpx {kvs:List (List Key×V)} (ok:HOk P w H h) (e:H a=some (.dT kvs)):kvs.length<=sizeLine/\(a==sysModules)=false /\
  ∃ xs,KT H kvs xs/\h.DictOfH (tupleKind (Zu P w)) a xs:=Zej ok (.inl e)
end
def DGet (H:Hp) (a:Addr) (y:V) (r:Option V):Prop :=
 (∃ kvs k,Rd H a (.dK kvs)/\y=kV k/\r=Xx kvs k)\/∃ kvs k b,Rd H a (.dT kvs)/\y= .ref b/\H b=some (.tup (k.map kV))/\r=Xx kvs k
def DPut (H:Hp) (a:Addr) (y v:V) (H':Hp):Prop :=
 (∃ kvs k,H a=some (.dK kvs)/\y=kV k/\kvs.length<sizeLine/\H'=upd H a (.dK (X8 kvs k v))) \/
 ∃ kvs k b,H a=some (.dT kvs)/\y= .ref b/\H b=some (.tup (k.map kV))/\kvs.length<sizeLine/\H'=upd H a (.dT (X8 kvs k v))
theorem DGet.kk {k:Key} (e:H a=some (.dK kvs)):DGet H a (kV k) (Xx kvs k):=.inl ⟨kvs,k,.inl e,rfl,rfl⟩
theorem DPut.kk {k:Key} (e:H a=some (.dK kvs)) (hl:kvs.length<sizeLine):DPut H a (kV k) v (upd H a (.dK (X8 kvs k v))):=.inl ⟨kvs,k,e,rfl,hl,rfl⟩
section
variable {X:Cx} {pins:List (Addr×Obj)} {σ:St} {H:Hp} {s:Shared} {a:Addr} {y v:V} {u r:Value} {o:Option V} {A:Around} {E:Value->Shared->Prop}
theorem Inv.big (I:Inv X pins σ H s):sysModules<s.heap.objs.size:=by
 have h:mainGlobals<s.heap.objs.size:=(I.mod.glob.keeps I.bk).lt;exact Nat.lt_trans (by decide) h
theorem ZiT (hu:A.units+1<cLine) (I:Inv X pins σ H s) (g:DGet H a y (some v)) (ry:RelV y u) (h:∀ w' s',Inv X pins σ H s'->RelV v w'->Q w' s') :
  wpAny (model X.prog X.w) A (getItem (.ref a) u) Q E s:=by
 rcases g with ⟨kvs,k,e,ey,l⟩ | ⟨kvs,k,b,e,ey,eb,l⟩
 ·subst ey;obtain⟨z,hd,vs,rel,dd⟩:=Zdl I.hok e;obtain⟨w',hw,rw'⟩:=RelO.some_of (v:=v) (o:=valueAt vs k) (by rw[l];exact rel.val k);exact wpAny_getItem_of (ZaV ry) dd.mapOf hw (h w' _ (I.tok _) rw')
 ·subst ey;cases (show u=Value.ref b from ry);obtain⟨z,hd,xs,rel,dd⟩:=Zej I.hok e;obtain⟨w',hw,rw'⟩:=RelO.some_of (v:=v) (o:=(atKey xs k).map (·.2)) (by rw[l];exact rel.val k);obtain⟨p,hp,hp2⟩:=Wr.mp hw;refine wpAny_getItem_heap (tupleKind_room_in1 hu) (Zbc I.hok eb) dd hp ?_;rw[hp2];exact h w' _ (I.tok _) rw'
theorem Zm3 (hu:A.units+1<cLine) (I:Inv X pins σ H s) (g:DGet H a y o) (ry:RelV y u) (h:∀ s',Inv X pins σ H s'->Q (.bool (!o.isSome)) s') :
  wpAny (model X.prog X.w) A (compareOp .NotIn u (.ref a)) Q E s:=by
 rcases g with ⟨kvs,k,e,ey,l⟩ | ⟨kvs,k,b,e,ey,eb,l⟩
 ·subst ey;obtain⟨z,hd,vs,rel,dd⟩:=Zdl I.hok e;refine wpAny_notIn_of (ZaV ry) hd dd.mapOf ?_;rw[←(rel.val k).isSome_eq,←l];exact h _ (I.tok _)
 ·subst ey;cases (show u=Value.ref b from ry);obtain⟨z,hd,xs,rel,dd⟩:=Zej I.hok e;refine wpAny_notIn_heap (tupleKind_room_in1 hu) (Zbc I.hok eb) hd dd ?_;have q:=(rel.val k).isSome_eq;rw[RP]at q;rw[←q,←l];exact h _ (I.tok _)
theorem Jp {h':Heap} {ob:HO} (I:Inv X pins σ H s) (mu:Mut (H a)) (hs:Heap.SameBut a s.heap h') (he:∃ q,h'.get? a=some q) (new:ObjOk X.prog X.w (upd H a ob) h' a ob) :
  Inv X pins σ (upd H a ob) {s with heap:=h',toks:=t'} :=
 I.write (x:=a) (e:=a) mu (.inl rfl) (fun b q hb z=>(hs.2 b hb).trans z) he new
theorem Zdm {P:Program} {w:World} {h':Heap} {vs:List (Key×Value)} (z:kvs.length<=sizeLine) (hd:(a==sysModules)=false) (rel:KV kvs vs) (dd:h'.DictOf (Zu P w) a vs) :
  ObjOk P w H' h' a (.dK kvs):=⟨z,hd,vs,rel,dd⟩
theorem ZiS {Q:Unit->Shared->Prop} (hu:A.units+1<cLine) (I:Inv X pins σ H s) (g:DPut H a y v H') (ry:RelV y u) (rv:RelV v r) (h:∀ s',Inv X pins σ H' s'->Q () s') :
  wpAny (model X.prog X.w) A (setItem (.ref a) u r) Q E s:=by
 rcases g with ⟨kvs,k,e,ey,l,eH⟩ | ⟨kvs,k,b,e,ey,eb,l,eH⟩
 ·subst ey eH;obtain⟨z,hd,vs,rel,dd⟩:=ZaE I.hok e;have hz:vs.length<=sizeLine:=by rw[←rel.length];exact z
  have hl:(X8 kvs k v).length<=sizeLine:=by have:=YX kvs k v;omega
  refine wpAny_setItem_pairs (hsz:=hz) (ZaV ry) dd fun h' dd' hs=>h _ ?_;have he:∃ q,h'.get? a=some q:=let ⟨q,_,_,hq,_⟩:=dd';⟨q,hq⟩;exact Jp I (by rw[e];exact True.intro) hs he (Zdm hl hd (rel.put k rv) dd')
 ·subst ey eH;cases (show u=Value.ref b from ry);obtain⟨z,hd,xs,rel,dd⟩:=Zpx I.hok e;have hz:xs.length<=sizeLine:=by rw[←Paired.length rel];exact z
  have hl:(X8 kvs k v).length<=sizeLine:=by have:=YX kvs k v;omega
  refine wpAny_setItem_heap (hsz:=hz) (tupleKind_room_in1 hu) (Zbc I.hok eb) dd fun h' dd' hs=>h _ ?_;obtain⟨q,es,ep,hq,h2,h3,h4,_,h5⟩:=dd';refine Jp I (by rw[e];exact True.intro) hs ⟨q,hq⟩ ⟨hl,hd,_,(rel.put k eb rv).keeps fun c ys ec=>?_,q,es,ep,hq,h2,h3,h4,h5⟩;rw[Zi (ZjV ec e (fun z=>nomatch z))];exact ec
end
section
variable {X:Cx} {pins:List (Addr×Obj)} {σ:St} {H:Hp} {s:Shared} {a:Addr} {kvs:List (Key×V)} {k:Key} {u:Value} {A:Around} {E:Value->Shared->Prop}
theorem ZoF {Q:Unit->Shared->Prop} (I:Inv X pins σ H s) (e:H a=some (.dK kvs)) (ry:RelV (kV k) u) (l:(Xx kvs k).isSome=true) (h:∀ s',Inv X pins σ (upd H a (.dK (Zdj kvs k))) s'->Q () s') :
  wpAny (model X.prog X.w) A (delItem (.ref a) u) Q E s:=by
 obtain⟨z,hd,vs,rel,dd⟩:=ZaE I.hok e;refine wpAny_delItem_slot dd.typeIs (by decide) PySem.F.slot_dict_delitem
  (call_meetsIn PySem.F.slot_dict_delitem dd.typeIs PySem.F.entry_dict_delitem (PySem.F.args_dict_delitem_2 _ _) (meets_dict_delitem_pairs (Zu X.prog X.w) a (ZaV ry)) ⟨vs,dd,by rw[←rel.length];exact z,by rw[←(rel.val k).isSome_eq];exact l,fun h' dd' hs=>h _ ?_⟩)
 have he:∃ q,h'.get? a=some q:=let ⟨q,_,_,hq,_⟩:=dd';⟨q,hq⟩;exact Jp I (by rw[e];exact True.intro) hs he (Zdm (Q7 (Zfo kvs k) z) hd (rel.drop k) dd')
theorem Zpy {more:List Value} (I:Inv X pins σ H s) (e:H a=some (.dK kvs)) (ry:RelV (kV k) u) (l:Xx kvs k=some v) (hm:more=[]\/∃ x,more=[x])
  (h:∀ w' s',Inv X pins σ (upd H a (.dK (Zdj kvs k))) s'->RelV v w'->Q w' s'):wpAny (model X.prog X.w) A (call (.builtin "dict.pop") (.ref a::u::more)) Q E s:=by
 obtain⟨z,hd,vs,rel,dd⟩:=ZaE I.hok e;obtain⟨w',hw,rw'⟩:=RelO.some_of (v:=v) (o:=valueAt vs k) (by rw[←l];exact rel.val k);have hp:(keyPart u).isSome=true:=by
  cases k with
  | inl i=>obtain⟨t,q⟩:=(show ∃ t,u=Value.int i t from ry);subst q;rfl
  | inr x=>obtain⟨t,q⟩:=(show ∃ t,u=Value.str x t from ry);subst q;rfl
 have ha:argsOk "dict.pop" ⟨.ref a::u::more,[]⟩:=by
  rcases hm with q | ⟨x,q⟩
  ·subst q;exact PySem.F.args_dict_pop_2 _ _
  ·subst q;exact PySem.F.args_dict_pop_3 _ _ _
 refine call_meetsIn PySem.F.slot_dict_pop dd.typeIs PySem.F.entry_dict_pop ha (meets_dict_pop_there (Zu X.prog X.w) a (ZaV ry) more hm hp)
  ⟨vs,w',dd,by rw[←rel.length];exact z,hw,fun h' dd' hs=>h w' _ ?_ rw'⟩
 have he:∃ q,h'.get? a=some q:=let ⟨q,_,_,hq,_⟩:=dd';⟨q,hq⟩;exact Jp I (by rw[e];exact True.intro) hs he (Zdm (Q7 (Zfo kvs k) z) hd (rel.drop k) dd')
theorem ZoC (I:Inv X pins σ H s) (e:Rd H a (.dK kvs)) (h:∀ t s',Inv X pins σ H s'->Q (.int kvs.length t) s'):wpAny (model X.prog X.w) A (call (.builtin "len") [.ref a]) Q E s:=by
 obtain⟨z,hd,vs,rel,dd⟩:=Zdl I.hok e;refine call_len_dict hd dd (by rw[←rel.length];rw[sizeLine_eq]at z;omega) ?_;rw[←rel.length];exact h _ _ (I.tok _)
end
def ZpW (i:Expr):Prop:=∀ ov iv,subscripted i false ov iv=operate [ov,iv] (getItem ov iv)
theorem ZlQ {prog:Program} {w:World} {env:Env} {value slice:Expr} {T id:String} 
  (hl:typeLookup (.type T) "__getitem__" = pure (some (.builtin id))) (hs:ZpW slice)
  (h:wpAny (model prog w) A (eval value env) (fun o s₁=>wpAny (model prog w) A (eval slice env) (fun i s₂=>s₂.TypeIs o T/\wpAny (model prog w) A (getItem o i) Q E s₂) E s₁) E s) :
  wpAny (model prog w) A (eval (.Subscript value slice pos) env) Q E s:=by
 refine Subscript_ (wpAny_mono h (fun o s₁ h₁=>wpAny_mono h₁ (fun i s₂ h₂=>?_) fun _ _ x=>x) fun _ _ x=>x);obtain⟨hT,h₂⟩:=h₂;unfold subscriptTail;refine wpAny_bind ?_;rw[getitemInPython_of_ne hT.not_modules];refine wpAny_bind (wpAny_specialOf hT hl ?_);have fin:wpAny (model prog w) A (subscripted slice false o i) (fun r s₃=>wpAny (model prog w) A (letTemporaryGo value o r >>= fun _=>pure r) Q E s₃) E s₂:=by
  rw[hs o i];exact wpAny_operating (wpAny_mono h₂ (fun r s₃ h₃=>wpAny_bind (wpAny_letTemporaryGo (wpAny_pure h₃))) fun _ _ x=>x)
 first
  | exact wpAny_pure (wpAny_bind fin)
  | exact wpAny_bind (wpAny_pure (wpAny_bind fin))
  | exact wpAny_bind fin
theorem Zek {y:V} {o:Option V} (I:Inv X pins σ H s) (g:DGet H a y o):s.TypeIs (.ref a) "dict":=by
 rcases g with ⟨kvs,k,e,_,_⟩ | ⟨kvs,k,b,e,_,_,_⟩
 ·obtain⟨_,_,vs,_,dd⟩:=Zdl I.hok e;exact dd.typeIs
 ·obtain⟨_,_,xs,_,dd⟩:=Zej I.hok e;exact dd.typeIs
def Zo7 (td ty:TE):TE:=fun σ H Q=>td σ H fun x H1=>ty σ H1 fun y H2=>∃ a v,x= .ref a/\DGet H2 a y (some v)/\Q v H2
def ZlN (ty td:TE):TE:=fun σ H Q=>ty σ H fun y H1=>td σ H1 fun x H2=>∃ a o,x= .ref a/\DGet H2 a y o/\Q (.bl (!o.isSome)) H2
def Zpc (td ty tv:TE):TS:=fun D σ H=>tv σ H fun v H1=>td σ H1 fun x H2=>ty σ H2 fun y H3=>∃ a H4,x= .ref a/\DPut H3 a y v H4/\D.nx σ H4
section
variable {X:Cx} {o i e value:Expr} {pos pos' tpos:Pos} {td ty tv:TE}
theorem Zaj (hu:X.A.units+1<cLine) (ho:PE X o td) (hi:PE X i ty) (hs:ZpW i):PE X (.Subscript o i pos) (Zo7 td ty):=by
 intro pins s σ H Q I h;refine ZlQ PySem.F.slot_dict_getitem.lookup hs (thn (ho pins s σ H _ I h) fun u s1 ⟨x,H1,I1,rx,q1⟩=>thn (hi pins s1 σ H1 _ I1 q1) fun iv s2 ⟨y,H2,I2,ry,a,v,ex,g,q2⟩=>?_);subst ex;obtain rfl:u=Value.ref a:=rx;exact⟨Zek I2 g,ZiT hu I2 g ry fun w' s3 I3 rw'=>⟨v,H2,I3,rw',q2⟩⟩
theorem ZhJ (hu:X.A.units+1<cLine) (hi:PE X i ty) (ho:PE X o td):PC X .NotIn i o (ZlN ty td):=by
 intro pins s σ H Q I h;refine thn (hi pins s σ H _ I h) fun iv s1 ⟨y,H1,I1,ry,q1⟩=>thn (ho pins s1 σ H1 _ I1 q1) fun u s2 ⟨x,H2,I2,rx,a,ov,ex,g,q2⟩=>?_;subst ex;obtain rfl:u=Value.ref a:=rx;exact Zm3 hu I2 g ry fun s3 I3=>⟨.bl (!ov.isSome),H2,I3,rfl,q2⟩
theorem YV (hu:X.A.units+1<cLine) (ho:PE X o td) (hi:PE X i ty) (hv:PE X value tv) (hs:swapsWith value (some (.Subscript o i pos')) pos.line X.env=pure false) :
  PS X (.Assign [.Subscript o i pos'] value pos) (Zpc td ty tv):=by
 intro pins s σ H D I h;refine wpAny_Assign_Subscript (thn (hv pins s σ H _ I h) fun r s1 ⟨v,H1,I1,rv,q1⟩=>thn (ho pins s1 σ H1 _ I1 q1) fun u s2 ⟨x,H2,I2,rx,q2⟩=>thn (hi pins s2 σ H2 _ I2 q2) fun iv s3 ⟨y,H3,I3,ry,a,H4,ex,g,q3⟩=>?_) hs;subst ex;obtain rfl:u=Value.ref a:=rx;exact ZiS hu I3 g ry rv fun s4 I4=>⟨σ,H4,I4,q3⟩
end
theorem Zfp {P:Program} {w:World} (h:Heap) (hb:sysModules<h.objs.size):ObjOk P w H (h.push {cls:=.type "dict",data:=.dict #[]}) h.objs.size (.dK []) :=
 ⟨QL _,beq_eq_false_iff_ne.mpr (Ne.symm (QD hb)),[],.nil,Heap.DictOf.new h⟩
def Znt:TE:=fun _ H Q=>∀ p,H p=none->Q (.ref p) (upd H p (.dK []))
section
variable {X:Cx} {pos:Pos}
theorem YW:PE X (.Dict [] [] pos) Znt:=fun pins s σ H Q I h =>
 wpAny_Dict_empty ⟨.ref s.heap.objs.size,_,I.laid (a:=s.heap.objs.size) (o:=.dK []) (t':=s.toks) (fun _ _ q=>Qh _ q) (Qi _) (Zfp s.heap I.big),rfl,h _ (I.hok.fresh (Qi _))⟩
end
def Zgw:List (TE×TE)->St->Hp->(List (V×V)->Hp->Prop)->Prop
 | [],_,H,Q=>Q [] H
 | (tk,tv)::r,σ,H,Q=>tk σ H fun x H1=>tv σ H1 fun y H2=>Zgw r σ H2 fun ps H3=>Q ((x,y)::ps) H3
abbrev VV:List (V×V)->List (Value×Value)->Prop:=Paired fun p q=>RelV p.1 q.1/\RelV p.2 q.2
def PPs (X:Cx) (pos:Pos) (keys:List (Option Expr)) (values:List Expr) (trs:List (TE×TE)):Prop :=
 ∀ (pins:List (Addr×Obj)) (s:Shared) (σ:St) (H:Hp) (Q:List (V×V)->Hp->Prop),Inv X pins σ H s->Zgw trs σ H Q ->
  wpAny (model X.prog X.w) X.A (evalPairs (pairTrees keys values X.env pos)) (fun vs s'=>∃ ps H',Inv X pins σ H' s'/\VV ps vs/\Q ps H') X.xe s
theorem Zmc:PPs X pos [] [] []:=fun pins s σ H Q I h=>pairTrees_nil_walk ⟨[],H,I,.nil,h⟩
theorem ZjH {k v:Expr} {ks:List (Option Expr)} {vs:List Expr} {tk tv:TE} {trs:List (TE×TE)} (hk:PE X k tk) (hv:PE X v tv) (hr:PPs X pos ks vs trs) :
  PPs X pos (some k::ks) (v::vs) ((tk,tv)::trs):=fun pins s σ H Q I h =>
 pairTrees_cons_walk (thn (hk pins s σ H _ I h) fun u s1 ⟨x,H1,I1,rx,q1⟩=>thn (hv pins s1 σ H1 _ I1 q1) fun w2 s2 ⟨y,H2,I2,ry,q2⟩ =>
  thn (hr pins s2 σ H2 _ I2 q2) fun ws s3 ⟨ps,H3,I3,rel,q3⟩=>⟨(x,y)::ps,H3,I3,.cons ⟨rx,ry⟩ rel,q3⟩)
def Jz (kvs more:List (Key×V)):List (Key×V):=more.foldl (fun acc kv=>X8 acc kv.1 kv.2) kvs
theorem KV.merge:∀ {more:List (Key×V)} {rs:List (Key×Value)} {kvs:List (Key×V)} {vs:List (Key×Value)},KV more rs->KV kvs vs->KV (Jz kvs more) (merged vs rs):=by
 intro more rs kvs vs r;unfold KV at r;induction r generalizing kvs vs with
 | nil=>intro q;exact q
 | @cons p q ps qs h t ih =>
  intro r0;have e:KV (X8 kvs p.1 p.2) (stored vs q.1 q.2):=by
   have:=r0.put p.1 h.2;rw[←h.1];exact this
  exact ih e
theorem XW:∀ (more kvs:List (Key×V)),(Jz kvs more).length<=kvs.length+more.length
 | [],kvs=>by show kvs.length<=kvs.length+0;omega
 | p::r,kvs=>by
  have h1:=XW r (X8 kvs p.1 p.2);have h2:=YX kvs p.1 p.2;show(Jz (X8 kvs p.1 p.2) r).length<=_;rw[QO];omega
theorem Zbk {P:Program} {w:World}:∀ {kvs:List (Key×V)} {ws:List (Value×Value)},VV (kvs.map fun kv=>(kV kv.1,kv.2)) ws->∃ rs,Carries (Zu P w) ws rs/\KV kvs rs
 | [],_,r=>by rw[Wq]at r;cases r;exact⟨[],True.intro,.nil⟩
 | p::kvs,_,r=>by
  rw[Qj]at r;cases r with
  | @cons a b as bs h t =>
   obtain⟨rs,c,q⟩:=Zbk (P:=P) (w:=w) t;obtain⟨b1,b2⟩:=b;exact⟨(p.1,b2)::rs,⟨ZaV h.1,rfl,c⟩,.cons ⟨rfl,h.2⟩ q⟩
def Zo5 (trs:List (TE×TE)):TE:=fun σ H Q=>∀ p,H p=none->Zgw trs σ (upd H p (.dK [])) fun ps H2=>H2 p=some (.dK [])/\∃ kvs:List (Key×V),ps=kvs.map (fun kv=>(kV kv.1,kv.2))/\kvs.length<=15/\Q (.ref p) (upd H2 p (.dK (Jz [] kvs)))
theorem Zmh {keys:List (Option Expr)} {values:List Expr} {trs:List (TE×TE)} (h:PPs X pos keys values trs) (hall:keys.all (·.isSome)=true) (hl:keys.length=values.length) (h0:keys≠[])
  (h15:keys.length<=15):PE X (.Dict keys values pos) (Zo5 trs):=by
 intro pins s σ H Q I q;have hn:=I.hok.fresh (Qi s.heap.objs.size);have I1:=I.laid (a:=s.heap.objs.size) (o:=.dK []) (h':=s.heap.push {cls:=.type "dict",data:=.dict #[]}) (t':=s.toks) (fun _ _ q=>Qh _ q) (Qi _) (Zfp s.heap I.big);refine wpAny_Dict_walk (knd:=Zu X.prog X.w) hall hl h0 h15 (thn (h pins _ σ _ _ I1 (q _ hn)) fun ws s2 ⟨ps,H2,I2,rel,e,kvs,ep,lk,q2⟩=>?_);subst ep;obtain⟨rs,c,rk⟩:=Zbk (P:=X.prog) (w:=X.w) rel;obtain⟨z,hd,vs0,r0,dd⟩:=ZaE I2.hok e;cases r0;refine⟨rs,c,dd,fun h' dd' hs=>⟨.ref s.heap.objs.size,_,?_,rfl,q2⟩⟩;have hz:(Jz [] kvs).length<=sizeLine:=by
  have h1:=XW kvs [];rw[Va]at h1;rw[sizeLine_eq];omega
 have he:∃ q,h'.get? s.heap.objs.size=some q:=let ⟨q,_,_,hq,_⟩:=dd';⟨q,hq⟩;exact Jp I2 (by rw[e];exact True.intro) hs he (Zdm hz hd (rk.merge .nil) dd')
structure M1 (X:Cx) (o:Expr) (m:Str) (apos:Pos) (e:Expr) (cpos:Pos):Prop where
 base:attributeBase o m X.env (eval o X.env)=eval o X.env
 few:((backTo cpos (starEach [e] X.env)).all (fun x=>!x.1)&&(backToKw cpos (keywordEach [] X.env)).all (fun x=>x.1.isSome)
  && decide (([e]:List Expr).length+([]:List Keyword).length+(if ([]:List Keyword).isEmpty then 0 else 1)<30))=true
 line:(apos.endLine==cpos.line)=true
 trees:backTo cpos (starEach [e] X.env)=[(false,eval e X.env)]
structure M2 (X:Cx) (o:Expr) (m:Str) (apos:Pos) (e f:Expr) (cpos:Pos):Prop where
 base:attributeBase o m X.env (eval o X.env)=eval o X.env
 few:((backTo cpos (starEach [e,f] X.env)).all (fun x=>!x.1)&&(backToKw cpos (keywordEach [] X.env)).all (fun x=>x.1.isSome)
  && decide (([e,f]:List Expr).length+([]:List Keyword).length+(if ([]:List Keyword).isEmpty then 0 else 1)<30))=true
 line:(apos.endLine==cpos.line)=true
 trees:backTo cpos (starEach [e,f] X.env)=[(false,eval e X.env),(false,eval f X.env)]
def IsD (H:Hp) (a:Addr):Prop:=(∃ kvs,Rd H a (.dK kvs))\/∃ kvs,Rd H a (.dT kvs)
theorem Zbf (I:Inv X pins σ H s) (d:IsD H a) :
  s.TypeIs (.ref a) "dict"/\(∀ b,Value.ref a= .ref b->∃ ob,s.heap.get? b=some ob/\ob.dict=none)/\(a==sysModules)=false:=by
 rcases d with ⟨kvs,e⟩ | ⟨kvs,e⟩
 ·obtain⟨_,hd,vs,_,dd⟩:=Zdl I.hok e;refine⟨dd.typeIs,fun b q=>?_,hd⟩;cases q;obtain⟨ob,_,_,h1,h2,_⟩:=dd;exact⟨ob,h1,h2.2.1⟩
 ·obtain⟨_,hd,xs,_,dd⟩:=Zej I.hok e;refine⟨dd.typeIs,fun b q=>?_,hd⟩;cases q;obtain⟨ob,_,_,h1,h2,_⟩:=dd;exact⟨ob,h1,h2.2.1⟩
section
variable {X:Cx} {pins:List (Addr×Obj)} {σ:St} {H:Hp} {s:Shared} {a:Addr} {y d:V} {u r:Value} {o:Option V} {A:Around} {E:Value->Shared->Prop}
theorem ZoE (hu:A.units+1<cLine) (I:Inv X pins σ H s) (g:DGet H a y o) (ry:RelV y u) (h:∀ w' s',Inv X pins σ H s'->RelV (o.getD .non) w'->Q w' s') :
  wpAny (model X.prog X.w) A (call (.builtin "dict.get") [.ref a,u]) Q E s:=by
 rcases g with ⟨kvs,k,e,ey,l⟩ | ⟨kvs,k,b,e,ey,eb,l⟩
 ·subst ey;obtain⟨z,hd,vs,rel,dd⟩:=Zdl I.hok e;refine call_meetsIn PySem.F.slot_dict_get dd.typeIs PySem.F.entry_dict_get (PySem.F.args_dict_get_2 _ _) (meets_dict_get (Zu X.prog X.w) a (ZaV ry) hd) ⟨_,dd.mapOf,h _ _ (I.tok _) ?_⟩;rw[l];exact(rel.val k).getD rfl
 ·subst ey;cases (show u=Value.ref b from ry);obtain⟨z,hd,xs,rel,dd⟩:=Zej I.hok e;refine call_meetsIn PySem.F.slot_dict_get dd.typeIs PySem.F.entry_dict_get (PySem.F.args_dict_get_2 _ _) (meetsH_dict_get (tupleKind (Zu X.prog X.w)) a b hd) ⟨tupleKind_room_in1 hu,k,xs,Zbc I.hok eb,dd,h _ _ (I.tok _) ?_⟩;rw[l];exact(rel.val k).getD rfl
theorem ZoD (hu:A.units+1<cLine) (I:Inv X pins σ H s) (g:DGet H a y o) (ry:RelV y u) (rd:RelV d r) (h:∀ w' s',Inv X pins σ H s'->RelV (o.getD d) w'->Q w' s') :
  wpAny (model X.prog X.w) A (call (.builtin "dict.get") [.ref a,u,r]) Q E s:=by
 rcases g with ⟨kvs,k,e,ey,l⟩ | ⟨kvs,k,b,e,ey,eb,l⟩
 ·subst ey;obtain⟨z,hd,vs,rel,dd⟩:=Zdl I.hok e;refine call_meetsIn PySem.F.slot_dict_get dd.typeIs PySem.F.entry_dict_get (PySem.F.args_dict_get_3 _ _ _) (meets_dict_get_default (Zu X.prog X.w) a (ZaV ry) hd r) ⟨_,dd.mapOf,h _ _ (I.tok _) ?_⟩;rw[l];exact(rel.val k).getD rd
 ·subst ey;cases (show u=Value.ref b from ry);obtain⟨z,hd,xs,rel,dd⟩:=Zej I.hok e;refine call_meetsIn PySem.F.slot_dict_get dd.typeIs PySem.F.entry_dict_get (PySem.F.args_dict_get_3 _ _ _) (meetsH_dict_get_default (tupleKind (Zu X.prog X.w)) a b hd r) ⟨tupleKind_room_in1 hu,k,xs,Zbc I.hok eb,dd,h _ _ (I.tok _) ?_⟩;rw[l];exact(rel.val k).getD rd
end
def Znv (td ty:TE):TE:=fun σ H Q=>td σ H fun x H1=>∃ a,x= .ref a/\IsD H1 a/\ty σ H1 fun y H2=>∃ o,DGet H2 a y o/\Q (o.getD .non) H2
def Znu (td ty tx:TE):TE:=fun σ H Q=>td σ H fun x H1=>∃ a,x= .ref a/\IsD H1 a/\ty σ H1 fun y H2=>tx σ H2 fun z H3=>∃ o,DGet H3 a y o/\Q (o.getD z) H3
def Zns (td ty:TE):TE:=fun σ H Q=>td σ H fun x H1=>∃ a,x= .ref a/\IsD H1 a/\ty σ H1 fun y H2=>∃ kvs k v,H2 a=some (.dK kvs)/\y=kV k/\Xx kvs k=some v/\Q v (upd H2 a (.dK (Zdj kvs k)))
section
variable {X:Cx} {o e f:Expr} {apos cpos:Pos} {td ty tx:TE}
theorem ZeX (hu:X.A.units+1<cLine) (ho:PE X o td) (he:PE X e ty) (m:M1 X o "get" apos e cpos):PE X (.Call (.Attribute o "get" apos) [e] [] cpos) (Znv td ty):=by
 intro pins s σ H Q I h;refine wpAny_Call_method m.base m.few m.line PySem.F.plainAttrs_dict PySem.F.slot_dict_get PySem.F.type_dict_get (thn (ho pins s σ H _ I h) fun u s1 ⟨x,H1,I1,rx,a,ex,d,q1⟩=>?_);subst ex;obtain rfl:u=Value.ref a:=rx;obtain⟨t1,t2,_⟩:=Zbf I1 d;refine⟨t1,t2,?_⟩;rw[m.trees];refine Calls.callWith_builtin rfl (Calls.evalArgs_plain (Calls.spliced_cons (thn (he pins s1 σ H1 _ I1 q1) fun iv s2 ⟨y,H2,I2,ry,ov,g,q2⟩=>Calls.spliced_nil ?_)));exact ZoE hu I2 g ry fun w' s3 I3 rw'=>⟨_,H2,I3,rw',q2⟩
theorem Yu (hu:X.A.units+1<cLine) (ho:PE X o td) (he:PE X e ty) (hf:PE X f tx) (m:M2 X o "get" apos e f cpos):PE X (.Call (.Attribute o "get" apos) [e,f] [] cpos) (Znu td ty tx):=by
 intro pins s σ H Q I h;refine wpAny_Call_method m.base m.few m.line PySem.F.plainAttrs_dict PySem.F.slot_dict_get PySem.F.type_dict_get (thn (ho pins s σ H _ I h) fun u s1 ⟨x,H1,I1,rx,a,ex,d,q1⟩=>?_);subst ex;obtain rfl:u=Value.ref a:=rx;obtain⟨t1,t2,_⟩:=Zbf I1 d;refine⟨t1,t2,?_⟩;rw[m.trees];refine Calls.callWith_builtin rfl (Calls.evalArgs_plain (Calls.spliced_cons (thn (he pins s1 σ H1 _ I1 q1) fun iv s2 ⟨y,H2,I2,ry,q2⟩ =>
  Calls.spliced_cons (thn (hf pins s2 σ H2 _ I2 q2) fun fv s3 ⟨z,H3,I3,rz,ov,g,q3⟩=>Calls.spliced_nil ?_))))
 exact ZoD hu I3 g ry rz fun w' s4 I4 rw'=>⟨_,H3,I4,rw',q3⟩
theorem ZeW (ho:PE X o td) (he:PE X e ty) (m:M1 X o "pop" apos e cpos):PE X (.Call (.Attribute o "pop" apos) [e] [] cpos) (Zns td ty):=by
 intro pins s σ H Q I h;refine wpAny_Call_method m.base m.few m.line PySem.F.plainAttrs_dict PySem.F.slot_dict_pop PySem.F.type_dict_pop (thn (ho pins s σ H _ I h) fun u s1 ⟨x,H1,I1,rx,a,ex,d,q1⟩=>?_);subst ex;obtain rfl:u=Value.ref a:=rx;obtain⟨t1,t2,_⟩:=Zbf I1 d;refine⟨t1,t2,?_⟩;rw[m.trees];refine Calls.callWith_builtin rfl (Calls.evalArgs_plain (Calls.spliced_cons (thn (he pins s1 σ H1 _ I1 q1) fun iv s2 ⟨y,H2,I2,ry,kvs,k,v,ea,ey,l,q2⟩=>Calls.spliced_nil ?_)));subst ey;exact Zpy I2 ea ry l (.inl rfl) fun w' s3 I3 rw'=>⟨v,_,I3,rw',q2⟩
end
section
variable {X:Cx} {pins:List (Addr×Obj)} {σ:St} {H:Hp} {s:Shared} {a:Addr} {kvs:List (Key×V)} {A:Around} {E:Value->Shared->Prop}
end
section
variable {X:Cx} {pins:List (Addr×Obj)} {σ:St} {H:Hp} {s:Shared} {a:Addr} {y:V} {u:Value} {A:Around} {E:Value->Shared->Prop}
end
end L2
namespace HT
open PySem PyProof.Rows
section
open PySem.SeqAt
open PySem.AutoSeq1 (wpAny_loadPart')
open PySem.MeetsSeq PySem.MeetsSeq2 PySem.MeetsSeq3
end
section
variable {prog:Program} {w:World} {A:Around} {E:Value->Shared->Prop} {s:Shared}
def sIx (n d:Nat):Option Int->Nat
 | none=>d
 | some v=>if v<0 then (v+(n:Int)).toNat else min v.toNat n
theorem sIx_none (n d:Nat):sIx n d none=d:=rfl
theorem sIx_nat (n d k:Nat):sIx n d (some (k:Int))=min k n:=by
 show(if (k:Int)<0 then ((k:Int)+(n:Int)).toNat else min (k:Int).toNat n)=min k n;rw[if_neg (by omega),WD]
end
end HT
namespace L2
open PySem PySem.Spec PyProof.Rows
variable {H:Hp} {its:List Value} {n:Nat} {pins:List (Addr×Obj)} {s:Shared} {xs:List V} {σ:St}
abbrev TO:=St->Hp->(Option Int->Hp->Prop)->Prop
def PO (X:Cx) (e:Option Expr) (t:TO):Prop :=
 ∀ (pins:List (Addr×Obj)) (s:Shared) (σ:St) (H:Hp) (Q:Option Int->Hp->Prop),Inv X pins σ H s->t σ H Q ->
  wpAny (model X.prog X.w) X.A (evalPart e X.env) (fun u s'=>∃ o H',Inv X pins σ H' s'/\IsPart u o/\Q o H') X.xe s
def ZlM:TO:=fun _ H Q=>Q none H
def Zo1 (t:TE):TO:=fun σ H Q=>t σ H fun x H1=>∃ i,x= .int i/\Q (some i) H1
section
variable {X:Cx} {e:Expr} {te:TE} {lo hi:Option Expr} {tl th:TO} {pos p2:Pos}
theorem Yo:PO X none ZlM:=by
 intro pins s σ H Q I h;rw[evalPart_none];exact wpAny_pure ⟨none,H,I,.none,h⟩
theorem Yn (h:PE X e te):PO X (some e) (Zo1 te):=by
 intro pins s σ H Q I hw;rw[evalPart_some];refine thn (h pins s σ H _ I hw) fun u s1 ⟨x,H1,I1,r1,q1⟩=>?_;obtain⟨i,rfl,q⟩:=q1;obtain⟨t,rfl⟩:=r1;exact⟨some i,H1,I1,.int i t,q⟩
def SlR (X:Cx) (r:V->Option Int->Option Int->Hp->VK->Prop):Prop :=
 ∀ (pins:List (Addr×Obj)) (s:Shared) (σ:St) (H:Hp) (x:V) (v vl vu:Value) (lo hi:Option Int) (sl:Addr) (Q:VK),Inv X pins σ H s->RelV x v->s.heap.IsSliceOf sl vl vu .none->IsPart vl lo->IsPart vu hi->r x lo hi H Q ->
  ∃ T id,typeLookup (.type T) "__getitem__" = pure (some (.builtin id))/\s.TypeIs v T/\wpAny (model X.prog X.w) X.A (getItem v (.ref sl)) (EP X pins σ Q) X.xe s
theorem SlR.or {r r':V->Option Int->Option Int->Hp->VK->Prop} (h:SlR X r) (h':SlR X r'):SlR X (fun x lo hi H Q=>r x lo hi H Q\/r' x lo hi H Q):=by
 intro pins s σ H x v vl vu lo hi sl Q I rx hs pl pu q;rcases q with q | q
 ·exact h pins s σ H x v vl vu lo hi sl Q I rx hs pl pu q
 ·exact h' pins s σ H x v vl vu lo hi sl Q I rx hs pl pu q
def tSl (r:V->Option Int->Option Int->Hp->VK->Prop) (te:TE) (tl th:TO):TE:=fun σ H Q=>te σ H fun x H1=>tl σ H1 fun l H2=>th σ H2 fun u H3=>r x l u H3 Q
theorem ZX {r:V->Option Int->Option Int->Hp->VK->Prop} (hr:SlR X r) (he:PE X e te) (hl:PO X lo tl) (hu:PO X hi th):PE X (.Subscript e (.Slice lo hi none p2) pos) (tSl r te tl th):=by
 intro pins s σ H Q I h;refine Subscript_ (thn (he pins s σ H _ I h) fun v s1 ⟨x,H1,I1,r1,q1⟩=>?_);refine wpAny_Slice (thn (hl pins s1 σ H1 _ I1 q1) fun vl s2 ⟨l,H2,I2,pl,q2⟩=>thn (hu pins s2 σ H2 _ I2 q2) fun vu s3 ⟨u,H3,I3,pu,q3⟩=>?_);rw[evalPart_none];refine wpAny_pure ?_;have I4:Inv X pins σ H3 {s3 with heap:=s3.heap.push {cls:=.type "slice",data:=.fields #[vl,vu,.none]}}:=I3.kept (t':=s3.toks) fun b ob q=>Qh _ q;obtain⟨T,id,hT,ht,hg⟩:=hr pins {s3 with heap:=s3.heap.push {cls:=.type "slice",data:=.fields #[vl,vu,.none]}} σ H3 x v vl vu l u s3.heap.objs.size Q I4 r1 (Heap.IsSliceOf.new ..) pl pu q3;show wpAny (model X.prog X.w) X.A (subscriptTail e (.Slice lo hi none p2) v (.ref s3.heap.objs.size)) (EP X pins σ Q) X.xe {s3 with heap:=s3.heap.push {cls:=.type "slice",data:=.fields #[vl,vu,.none]}};exact tail_any (ops:=[.ref s3.heap.objs.size,v]) ht hT hg (by with_unfolding_all rfl)
def Zfs (xs:List V) (lo hi:Option Int):List V:=(xs.drop (HT.sIx xs.length 0 lo)).take (HT.sIx xs.length xs.length hi-HT.sIx xs.length 0 lo)
theorem Zem (xs:List V) (lo hi:Option Int):(Zfs xs lo hi).length<=xs.length:=by
 unfold Zfs;rw[QJ,Wh];omega
end
def ixN (n:Nat) (i:Int):Option Nat:=if 0<=i then (if i<n then some i.toNat else none)else if -(n:Int)<=i then some (i+n).toNat else none
def atI {α:Type} (xs:List α) (i:Int):Option α:=(ixN xs.length i).bind fun j=>xs[j]?
theorem Zin {i:Int} {j:Nat} (h:ixN n i=some j):seqIndex? i n=some j/\j<n/\-(n:Int)<=i/\i<n:=by
 unfold ixN at h;by_cases h0:0<=i
 ·rw[if_pos h0]at h;by_cases h1:i<n
  ·rw[if_pos h1]at h;have e:i.toNat=j:=Option.some.inj h;exact⟨by rw[seqIndex_of h0 h1,e],by omega,by omega,h1⟩
  ·rw[if_neg h1]at h;cases h
 ·rw[if_neg h0]at h;by_cases h1 : -(n:Int)<=i
  ·rw[if_pos h1]at h;have e:(i+n).toNat=j:=Option.some.inj h;exact⟨by rw[seqIndex_neg (by omega) h1,e],by omega,h1,by omega⟩
  ·rw[if_neg h1]at h;cases h
theorem Zer {α:Type} {xs:List α} {i:Int} {v:α} (h:atI xs i=some v):∃ j,seqIndex? i xs.length=some j/\xs[j]?=some v/\j<xs.length/\-(xs.length:Int)<=i/\i<xs.length:=by
 unfold atI at h;cases e:ixN xs.length i with
 | none=>rw[e]at h;cases h
 | some j =>
  rw[e]at h;obtain⟨h1,h2,h3,h4⟩:=Zin e;exact⟨j,h1,h,h2,h3,h4⟩
theorem Zeq {α:Type} {xs:List α} {j:Nat} {v:α} (h:xs[j]?=some v):atI xs (j:Int)=some v:=by
 have hj:j<xs.length:=(Qo.mp h).1;have e:ixN xs.length (j:Int)=some j:=by
  unfold ixN;rw[if_pos (by omega),if_pos (by omega)];simp
 unfold atI;rw[e];exact h
def Znc (b:Expr):Prop:=∀ o i,subscripted b false o i=operate [o,i] (getItem o i)
def IxR (X:Cx) (r:R2):Prop :=
 ∀ (value slice:Expr) (pins:List (Addr×Obj)) (s:Shared) (σ:St) (H:Hp) (x y:V) (v u:Value) (Q:VK),Inv X pins σ H s->RelV x v->RelV y u->r x y H Q ->
  subscripted slice false v u=operate [v,u] (getItem v u)->wpAny (model X.prog X.w) X.A (subscriptTail value slice v u) (EP X pins σ Q) X.xe s
def MtR (X:Cx) (id:String) (r:V->List V->Hp->VK->Prop):Prop :=
 ∀ (pins:List (Addr×Obj)) (s:Shared) (σ:St) (H:Hp) (x:V) (xs:List V) (v:Value) (us:List Value) (Q:VK),Inv X pins σ H s->RelV x v->Vals xs us->r x xs H Q ->
  wpAny (model X.prog X.w) X.A (call (.builtin id) (v::us)) (EP X pins σ Q) X.xe s
section
variable {X:Cx} {a b:Expr} {ta tb:TE} {pos:Pos}
theorem IxR.or {r r':R2} (h:IxR X r) (h':IxR X r'):IxR X (fun x y H Q=>r x y H Q\/r' x y H Q):=by
 intro value slice pins s σ H x y v u Q I rx ry q hs;rcases q with q | q
 ·exact h value slice pins s σ H x y v u Q I rx ry q hs
 ·exact h' value slice pins s σ H x y v u Q I rx ry q hs
theorem MtR.or {id:String} {r r':V->List V->Hp->VK->Prop} (h:MtR X id r) (h':MtR X id r'):MtR X id (fun x xs H Q=>r x xs H Q\/r' x xs H Q):=by
 intro pins s σ H x xs v us Q I rx rs q;rcases q with q | q
 ·exact h pins s σ H x xs v us Q I rx rs q
 ·exact h' pins s σ H x xs v us Q I rx rs q
theorem Zw {r:R2} (hr:IxR X r) (ha:PE X a ta) (hb:PE X b tb) (hs:Znc b):PE X (.Subscript a b pos) (tOp r ta tb):=by
 intro pins s σ H Q I h;exact Subscript_ (Zpz ha hb I h fun v u s2 x y H2 I2 rx ry q=>hr a b pins s2 σ H2 x y v u Q I2 rx ry q (hs _ _))
def Zph (K:PySem.W.Frag):R2:=fun x y H Q=>∃ p xs i v,x= .ref p/\y= .int i/\SqL K H p xs/\atI xs i=some v/\Q v H
def Zpg (K:PySem.W.Frag):R2:=fun x y H Q=>∃ p xs i v,x= .ref p/\y= .int i/\SqT K H p xs/\atI xs i=some v/\Q v H
def ZpN:R2:=fun x y H Q=>∃ z i c,x= .str z/\y= .int i/\z.length<=sizeLine/\atI z.cps.toList i=some c/\Q (.str ⟨#[c]⟩) H
theorem ix_list:IxR X (Zph X.K):=by
 intro value slice pins s σ H x y v u Q I rx ry h hs;obtain⟨p,xs,i,z,rfl,rfl,hq,he,q⟩:=h;cases rx;obtain⟨t,rfl⟩:=ry;obtain⟨its,r,pl,hz⟩:=I.list hq;obtain⟨j,h1,h2,h3,h4,h5⟩:=Zer he;obtain⟨w,ew,rw'⟩:=r.get h2;have hl:=r.length;have hn:=Zar;have fin:EP X pins σ Q w s:=⟨z,H,I,rw',q⟩
 by_cases h0:0<=i
 ·have hj:i.toNat=j:=by
   rw[seqIndex_of h0 h5]at h1;exact Option.some.inj h1
  exact item_listR pl.isList h0 (by omega) (by rw[hj];simpa using ew) fin hs
 ·have hj:(i+(its.toArray.size:Int)).toNat=j:=by
   rw[seqIndex_neg (by omega) h4]at h1;rw[Qu,←hl];exact Option.some.inj h1
  exact subscriptTail_builtinR (x:=w) pl.isList.typeIs slot_list_getitem.lookup
   (wpAny_getItem_list_neg (Q:=fun r s'=>r=w/\EP X pins σ Q r s') pl.isList (by omega) (by rw[Qu] <;> omega) (by omega) (by rw[hj];simpa using ew) ⟨rfl,fin⟩) hs
theorem ix_tup:IxR X (Zpg X.K):=by
 intro value slice pins s σ H x y v u Q I rx ry h hs;obtain⟨p,xs,i,z,rfl,rfl,hq,he,q⟩:=h;cases rx;obtain⟨t,rfl⟩:=ry;obtain⟨its,r,pl,hz⟩:=I.tuple hq;obtain⟨j,h1,h2,h3,h4,h5⟩:=Zer he;obtain⟨w,ew,rw'⟩:=r.get h2;have hl:=r.length;have hn:=Zar;have fin:EP X pins σ Q w s:=⟨z,H,I,rw',q⟩
 exact subscriptTail_builtinR (x:=w) pl.typeIs slot_tuple_getitem.lookup
  (getItem_tuple (j:=j) (Q:=fun r s'=>r=w/\EP X pins σ Q r s') pl (by omega) (by omega) (by rw[Qu,←hl];exact h1) (by simpa using ew) ⟨rfl,fin⟩) hs
theorem Zim:IxR X ZpN:=by
 intro value slice pins s σ H x y v u Q I rx ry h hs;obtain⟨z,i,c,rfl,rfl,hz,he,q⟩:=h;obtain⟨t,rfl⟩:=rx;obtain⟨t',rfl⟩:=ry;obtain⟨j,h1,h2,h3,h4,h5⟩:=Zer he;have hl:z.cps.toList.length=z.length:=by simp[Str.length]
 rw[hl]at h1 h4 h5;have hn:=Zar;exact tail_any (typeIs_str s z t) slot_str_getitem.lookup (getItem_str (c:=c) (by
  have e1:decide (i < -(2 ^ 63:Int))=false:=decide_eq_false (by omega);have e2:decide (i≥2 ^ 63)=false:=decide_eq_false (by omega);rw[e1,e2,Vi]) (by rw[h1];simpa using h2) ⟨.str ⟨#[c]⟩,H,I.tok _,⟨_,rfl⟩,q⟩) hs
def rIx (K:PySem.W.Frag):R2:=fun x y H Q=>Zph K x y H Q\/Zpg K x y H Q\/ZpN x y H Q
theorem Zor:IxR X (rIx X.K):=ix_list.or (ix_tup.or Zim)
theorem Zf1 (its:List Value) (n j:Nat) (u:Value):Obj.mapSeq (·.setIfInBounds j u) {cls:=.type "list",data:=.seq its.toArray n}={cls:=.type "list",data:=.seq (its.set j u).toArray n}:=by
 simp[Obj.mapSeq]
theorem Inv.lst {p:Addr} (I:Inv X pins σ H s) (h:H p=some (.lst xs)) :
  ∃ (its:List Value) (n:Nat),Vals xs its/\s.heap.get? p=some {cls:=.type "list",data:=.seq its.toArray n}/\xs.length<=sizeLine:=by
 obtain⟨z,its,n,r,e⟩:=I.hok p _ h;exact⟨its,n,r,e,z⟩
theorem Inv.lstUpd {p:Addr} {ys:List V} {its':List Value} {n':Nat} {f:Obj->Obj} (I:Inv X pins σ H s) (h:H p=some (.lst xs))
  (ho:s.heap.get? p=some {cls:=.type "list",data:=.seq its.toArray n}) (hf:f {cls:=.type "list",data:=.seq its.toArray n}={cls:=.type "list",data:=.seq its'.toArray n'}) (r:Vals ys its') (hz:ys.length<=sizeLine) (t:Nat) :
  Inv X pins σ (upd H p (.lst ys)) {s with heap:=s.heap.update p f,toks:=t}:=by
 have e:(s.heap.update p f).get? p=some {cls:=.type "list",data:=.seq its'.toArray n'}:=by
  rw[Uo f ho (by rw[hf] <;> rfl),hf]
 refine I.write (x:=p) (e:=p) (by rw[h];trivial) (.inl rfl) (fun b u hb q=>(Wa _ _ (Ne.symm hb)).trans q) ⟨_,e⟩ ?_;exact⟨hz,its',n',r,e⟩
def Zpe:V->V->V->Hp->(Hp->Prop)->Prop:=fun o i v H Q=>∃ p xs k j,o= .ref p/\i= .int k/\H p=some (.lst xs)/\ixN xs.length k=some j/\Q (upd H p (.lst (xs.set j v)))
theorem JQ:ZpF X Zpe:=by
 intro pins s σ H o i v ov iv u Q I ro ri rv h;obtain⟨p,xs,k,j,rfl,rfl,hp,hj,q⟩:=h;cases ro;obtain⟨t,rfl⟩:=ri;obtain⟨its,n,r,ho,hz⟩:=I.lst hp;obtain⟨h1,h2,h3,h4⟩:=Zin hj;have hl:=r.length;have hn:=Zar;have I':Inv X pins σ (upd H p (.lst (xs.set j v))) {s with heap:=s.heap.update p (Obj.mapSeq (·.setIfInBounds j u))} :=
  I.lstUpd hp ho (Zf1 its n j u) (r.set rv j) (by rw[List.length_set];exact hz) s.toks
 by_cases h0:0<=k
 ·have hk:k.toNat=j:=by
   rw[seqIndex_of h0 h4]at h1;exact Option.some.inj h1
  exact PySem.W.ki_setAt ho h0 (by omega) (by rw[Qu,←hl];exact h4) (by rw[hk];exact⟨_,I',q⟩)
 ·have hk:(k+(its.toArray.size:Int)).toNat=j:=by
   rw[seqIndex_neg (by omega) h3]at h1;rw[Qu,←hl];exact Option.some.inj h1
  exact PySem.W.ki_setBack ho (by omega) (by rw[Qu,←hl];exact h3) (by omega) (by rw[hk];exact⟨_,I',q⟩)
theorem ZcH (lo hi:Option Int) (n:Nat):(sliceBounds lo hi none n).1=((HT.sIx n 0 lo:Nat):Int)/\(sliceBounds lo hi none n).2.1=((HT.sIx n n hi:Nat):Int)/\(sliceBounds lo hi none n).2.2=1:=by
 refine⟨?_,?_,rfl⟩
 ·cases lo with
  | none=>simp[sliceBounds,HT.sIx]
  | some i =>
   simp only[sliceBounds,HT.sIx,RY,show(1:Int)>0 by decide,if_true];by_cases h:i<0
   ·simp only[h,if_true] <;> omega
   ·simp only[h,if_false] <;> omega
 ·cases hi with
  | none=>simp[sliceBounds,HT.sIx]
  | some i =>
   simp only[sliceBounds,HT.sIx,RY,show(1:Int)>0 by decide,if_true];by_cases h:i<0
   ·simp only[h,if_true] <;> omega
   ·simp only[h,if_false] <;> omega
theorem Zbx (its:List Value) (lo hi:Option Int):slicePick its.toArray lo hi none=((its.drop (HT.sIx its.length 0 lo)).take (HT.sIx its.length its.length hi-HT.sIx its.length 0 lo)).toArray:=by
 obtain⟨h1,h2,h3⟩:=ZcH lo hi its.toArray.size;unfold slicePick;rw[h1,h2,h3];simp only[sliceRange_one,pick_run,Qu] <;> rfl
def Zqa (K:PySem.W.Frag):V->Option Int->Option Int->Hp->VK->Prop:=fun x lo hi H Q=>∃ a xs,x= .ref a/\SqL K H a xs/\∀ p,H p=none->Q (.ref p) (upd H p (.lst (Zfs xs lo hi)))
theorem Zby:SlR X (Zqa X.K):=by
 intro pins s σ H x v vl vu lo hi sl Q I rx hs pl pu h;obtain⟨a,xs,rfl,hx,q⟩:=h;cases rx;obtain⟨its,r,ht,hz⟩:=I.list hx;have hlen:=r.length;refine⟨"list",_,slot_list_getitem.lookup,ht.isList.typeIs,?_⟩;refine wpAny_getItem_list_slice ht.isList hs pl pu .none (by simp) ?_ (by rw[Qu] <;> omega);rw[Zbx,←hlen];refine⟨.ref s.heap.objs.size,_,I.laid (t':=s.toks) (o:=.lst (Zfs xs lo hi)) (fun b ob q=>Qh _ q) (Qi _) ?_,rfl,q _ (I.hok.fresh (Qi _))⟩;exact⟨Q7 (Zem xs lo hi) hz,_,0,(r.drop (HT.sIx xs.length 0 lo)).take (HT.sIx xs.length xs.length hi-HT.sIx xs.length 0 lo),Qz _ rfl⟩
def Zcj:V->Bool
 | .non=>true
 | .bl _=>true
 | .int _=>true
 | .str _=>true
 | _=>false
def eqV:V->V->Bool
 | .non,.non=>true
 | .bl a,.bl b=>a==b
 | .bl a,.int b=>(if a then 1 else 0)==b
 | .int a,.bl b=>a==(if b then 1 else 0)
 | .int a,.int b=>a==b
 | .str a,.str b=>a==b
 | _,_=>false
theorem Zoy {A:Around} {y x:V} {u v:Value} (ry:RelV y u) (rx:RelV x v) (fy:Zcj y=true) (fx:Zcj x=true):SeqAt.EqAt A s u v (eqV y x):=by
 cases y with
 | non =>
  cases ry;cases x with
  | non=>cases rx;exact SeqAt.EqAt.same _
  | bl b=>cases rx;exact SeqAt.EqAt.none_bool b
  | int b=>obtain⟨t,rfl⟩:=rx;exact SeqAt.EqAt.none_int b t
  | str b=>obtain⟨t,rfl⟩:=rx;exact SeqAt.EqAt.none_str b t
  | _=>exact absurd (show false=true from fx) QH
 | bl a =>
  cases ry;cases x with
  | non=>cases rx;exact SeqAt.EqAt.bool_none a
  | bl b=>cases rx;exact SeqAt.EqAt.bool_bool a b
  | int b=>obtain⟨t,rfl⟩:=rx;exact SeqAt.EqAt.bool_int a b t
  | str b=>obtain⟨t,rfl⟩:=rx;exact SeqAt.EqAt.bool_str a b t
  | _=>exact absurd (show false=true from fx) QH
 | int a =>
  obtain⟨t',rfl⟩:=ry;cases x with
  | non=>cases rx;exact SeqAt.EqAt.int_none a t'
  | bl b=>cases rx;exact SeqAt.EqAt.int_bool a t' b
  | int b=>obtain⟨t,rfl⟩:=rx;exact SeqAt.EqAt.int_int a t' b t
  | str b=>obtain⟨t,rfl⟩:=rx;exact SeqAt.EqAt.int_str a t' b t
  | _=>exact absurd (show false=true from fx) QH
 | str a =>
  obtain⟨t',rfl⟩:=ry;cases x with
  | non=>cases rx;exact SeqAt.EqAt.str_none a t'
  | bl b=>cases rx;exact SeqAt.EqAt.str_bool a t' b
  | int b=>obtain⟨t,rfl⟩:=rx;exact SeqAt.EqAt.str_int a t' b t
  | str b=>obtain⟨t,rfl⟩:=rx;exact SeqAt.EqAt.str_str a t' b t
  | _=>exact absurd (show false=true from fx) QH
 | _=>exact absurd (show false=true from fy) QH
def eqU (x:V) (u:Value):Bool:=match u with
 | .none=>eqV .non x
 | .bool b=>eqV (.bl b) x
 | .int i _=>eqV (.int i) x
 | .str z _=>eqV (.str z) x
 | _=>false
theorem Zlu {x y:V} {u:Value} (r:RelV y u) (f:Zcj y=true):eqU x u=eqV y x:=by
 cases y with
 | non=>cases r;rfl
 | bl b=>cases r;rfl
 | int i=>obtain⟨t,rfl⟩:=r;rfl
 | str z=>obtain⟨t,rfl⟩:=r;rfl
 | _=>exact absurd (show false=true from f) QH
theorem Zes {x:V}:∀ {xs:List V} {us:List Value},Vals xs us->xs.all Zcj=true->us.any (eqU x)=xs.any fun y=>eqV y x
 | _,_,.nil,_=>rfl
 | y::xs,u::us,.cons r t,f=>by
  rw[Rv,QP]at f;rw[Uv,Uv,Zlu r f.1,Zes t f.2]
theorem Zb4 {A:Around} {s:Shared} {x:V} {v:Value} (rx:RelV x v) (fx:Zcj x=true):∀ {xs:List V} {us:List Value},Vals xs us->xs.all Zcj=true->∀ u∈us,SeqAt.EqAt A s u v (eqU x u)
 | _,_,.nil,_=>fun u hu=>by cases hu
 | y::xs,u::us,.cons r t,f=>fun u' hu=>by
  rw[Rv,QP]at f;rcases Qx.mp hu with rfl | hu
  ·rw[Zlu r f.1];exact Zoy r rx f.1 fx
  ·exact Zb4 rx fx t f.2 u' hu
def inV (x:V) (xs:List V):Bool:=xs.any fun y=>eqV y x
def rIn (K:PySem.W.Frag) (neg:Bool):R2:=fun x y H Q=>∃ p xs,y= .ref p/\(SqL K H p xs\/SqT K H p xs)/\Zcj x=true/\xs.all Zcj=true/\Q (.bl (if neg then !inV x xs else inV x xs)) H
theorem ZcS:OpR X (compareOp .NotIn) (rIn X.K true):=by
 intro pins s σ H x y v u Q I rx ry h;obtain⟨p,xs,rfl,hq,fx,fs,q⟩:=h;cases ry;rcases hq with hq | hq
 ·obtain⟨its,r,pl,hz⟩:=I.list hq;refine SeqAt.notIn_listAt (eqU x) pl.isList (fun w hw=>Zb4 rx fx r fs w (by simpa using hw)) ⟨.bl _,H,I,rfl,?_⟩;rw[show its.toArray.any (eqU x)=its.any (eqU x)by simp,Zes r fs];exact q
 ·obtain⟨its,r,pl,hz⟩:=I.tuple hq;refine SeqAt.notIn_tupleAt (eqU x) pl (fun w hw=>Zb4 rx fx r fs w (by simpa using hw)) ⟨.bl _,H,I,rfl,?_⟩;rw[show its.toArray.any (eqU x)=its.any (eqU x)by simp,Zes r fs];exact q
theorem CallR.or {f:Value} {r r':List V->Hp->VK->Prop} (h:CallR X f r) (h':CallR X f r'):CallR X f (fun xs H Q=>r xs H Q\/r' xs H Q):=by
 intro pins s σ H xs us Q I rs q;rcases q with q | q
 ·exact h pins s σ H xs us Q I rs q
 ·exact h' pins s σ H xs us Q I rs q
theorem Zdu:CallR X (.type "list") (fun xs H Q=>∃ p ys,xs=[.ref p]/\(SqL X.K H p ys\/SqT X.K H p ys)/\∀ l,H l=none->Q (.ref l) (upd H l (.lst ys))):=by
 intro pins s σ H xs us Q I r h;obtain⟨p,ys,rfl,hq,q⟩:=h;obtain⟨u,rfl,rx⟩:=YT r;cases rx;have fin:∀ (its:List Value),Vals ys its->ys.length<=sizeLine->∀ (h':Heap) (c':Nat),(∀ b o',s.heap.get? b=some o'->h'.get? b=some o') ->
   h'.get? s.heap.objs.size=some {cls:=.type "list",dict:=none,data:=.seq its.toArray c',slots:=#[]}->EP X pins σ Q (.ref s.heap.objs.size) {s with heap:=h'}:=fun its r' hz h' c' kp e =>
  ⟨.ref s.heap.objs.size,_,I.laid (t':=s.toks) kp (Qi _) (show ObjOk X.prog X.w _ h' _ (.lst ys)from⟨hz,its,c',r',e⟩),rfl,q _ (I.hok.fresh (Qi _))⟩
 rcases hq with hq | hq
 ·obtain⟨its,r',pl,hz⟩:=I.list hq;have hlen:=r'.length;obtain⟨o,ho,hc,n,hd⟩:=pl.isList;exact call_list_seq p (.inl rfl) ho hc hd (fun h' c' kp e=>fin its r' hz h' c' kp e) (by simp only[Qu] <;> omega)
 ·obtain⟨its,r',pl,hz⟩:=I.tuple hq;have hlen:=r'.length;obtain⟨o,ho,hc,n,hd⟩:=pl;exact call_list_seq p (.inr rfl) ho hc hd (fun h' c' kp e=>fin its r' hz h' c' kp e) (by simp only[Qu] <;> omega)
theorem ZB:CallR X (.type "tuple") (fun xs H Q=>∃ p ys,xs=[.ref p]/\((SqL X.K H p ys/\∀ l,H l=none->Q (.ref l) (upd H l (.tup ys)))\/(SqT X.K H p ys/\Q (.ref p) H))):=by
 intro pins s σ H xs us Q I r h;obtain⟨p,ys,rfl,h⟩:=h;obtain⟨u,rfl,rx⟩:=YT r;cases rx;rcases h with ⟨hq,q⟩ | ⟨hq,q⟩
 ·obtain⟨its,r',pl,hz⟩:=I.list hq;have hlen:=r'.length;refine call_tuple_list pl.isList (fun h' kp=>?_) (by simp only[Qu] <;> omega);have I1:Inv X pins σ H {s with heap:=h'}:=I.kept (t':=s.toks) kp;have I2:Inv X pins σ (upd H h'.objs.size (.tup ys)) {s with heap:=h'.push {cls:=.type "tuple",data:=.seq its.toArray}} :=
   I1.laid (t':=s.toks) (fun b o e=>Qh _ e) (Qi _) (show ObjOk X.prog X.w _ _ _ (.tup ys)from⟨hz,its,r',IsTup.new _ _,Ze1 rfl rfl⟩)
  exact⟨.ref h'.objs.size,_,I2,rfl,q _ (I1.hok.fresh (Qi _))⟩
 ·obtain⟨its,r',pl,hz⟩:=I.tuple hq;exact call_tuple_same pl ⟨.ref p,H,I,rfl,q⟩
def tyV (K:PySem.W.Frag) (T:String) (x:V) (H:Hp):Prop:=match x with
 | .str _=>T = "str"
 | .int _=>T = "int"
 | .ref p=>(T = "list"/\∃ xs,SqL K H p xs)\/(T = "tuple"/\∃ o,K.lookup p=some o/\o.cls= .type "tuple"/\o.dict=none) \/
   (T = "dict"/\((∃ kvs,H p=some (.dK kvs))\/∃ kvs,H p=some (.dT kvs)))\/(T = "set"/\∃ S n,H p=some (.set S n))
 | _=>False
theorem ZkH {T:String} {x:V} {v:Value} (I:Inv X pins σ H s) (r:RelV x v) (ty:tyV X.K T x H) :
  s.TypeIs v T/\∀ a,v= .ref a->∃ ob,s.heap.get? a=some ob/\ob.dict=none:=by
 cases x with
 | str z =>
  obtain⟨t,rfl⟩:=r;cases (show T = "str" from ty);exact⟨typeIs_str s z t,fun _ e=>nomatch e⟩
 | int i =>
  obtain⟨t,rfl⟩:=r;cases (show T = "int" from ty);exact⟨typeIs_int s i t,fun _ e=>nomatch e⟩
 | ref p =>
  cases r;rcases ty with ⟨rfl,xs,hq⟩ | ⟨rfl,o,hk,hc,hd⟩ | ⟨rfl,hk⟩ | ⟨rfl,S,n,hk⟩
  ·obtain⟨its,_,pl,_⟩:=I.list hq;refine⟨pl.isList.typeIs,fun a e=>?_⟩;cases e;obtain⟨o,n,e,c,hd,_⟩:=pl;exact⟨o,e,hd⟩
  ·refine⟨⟨o,I.kIn p o hk,hc⟩,fun a e=>?_⟩;cases e;exact⟨o,I.kIn _ o hk,hd⟩
  ·have z:∃ o,s.heap.get? p=some o/\o.ExactDict:=by
    rcases hk with ⟨kvs,hk⟩ | ⟨kvs,hk⟩
    ·obtain⟨_,_,_,_,o,_,_,e,ex,_⟩:=I.hok p _ hk;exact⟨o,e,ex⟩
    ·obtain⟨_,_,_,_,o,_,_,e,ex,_⟩:=I.hok p _ hk;exact⟨o,e,ex⟩
   obtain⟨o,e,ex⟩:=z;refine⟨⟨o,e,ex.1⟩,fun a e2=>?_⟩;cases e2;exact⟨o,e,ex.2.1⟩
  ·obtain⟨o,_,_,_,e,ex,_⟩:=I.hok p _ hk;refine⟨⟨o,e,ex.1⟩,fun a e2=>?_⟩;cases e2;exact⟨o,e,ex.2.1⟩
 | _=>exact False.elim ty
def Zp6 (K:PySem.W.Frag) (T:String) (r:V->List V->Hp->VK->Prop) (to:TE):TE:=fun σ H Q=>to σ H fun x H1=>tyV K T x H1/\r x [] H1 Q
def tBM (K:PySem.W.Frag) (T:String) (r:V->List V->Hp->VK->Prop) (to:TE) (t:TA):TE:=fun σ H Q=>to σ H fun x H1=>tyV K T x H1/\t σ H1 fun xs H2=>r x xs H2 Q
variable {o e:Expr} {es:List Expr} {to:TE} {t:TA} {name:Str} {apos cpos:Pos} {T id:String} {r:V->List V->Hp->VK->Prop}
theorem ZhI (pa:PlainAttrs T) (slot:Slot T name id) (hty:typeOf (.builtin id)=pure (.type "method_descriptor")) (hm:MtR X id r) (ho:PE X o to)
  (hbase:attributeBase o name X.env (eval o X.env)=eval o X.env:=by rfl) (hline:(apos.endLine==cpos.line)=true:=by rfl):PE X (.Call (.Attribute o name apos) [] [] cpos) (Zp6 X.K T r to):=by
 intro pins s σ H Q I h;refine wpAny_Call_method0_late hbase hline (thn (ho pins s σ H _ I h) fun v s1 ⟨x,H1,I1,r1,ty,q1⟩=>?_);obtain⟨h1,h2⟩:=ZkH I1 r1 ty;exact⟨T,id,pa,slot,hty,h1,h2,Calls.callWith_builtin rfl (PySem.evalArgs_none (hm pins s1 σ H1 x [] v [] Q I1 r1 .nil q1))⟩
theorem ZbV (pa:PlainAttrs T) (slot:Slot T name id) (hty:typeOf (.builtin id)=pure (.type "method_descriptor")) (hm:MtR X id r) (ho:PE X o to) (ha:PA X (e::es) t)
  (hbase:attributeBase o name X.env (eval o X.env)=eval o X.env:=by rfl)
  (hfew:((backTo cpos (starEach (e::es) X.env)).all (fun x=>!x.1)&&(backToKw cpos (keywordEach [] X.env)).all (fun x=>x.1.isSome)
   && decide ((e::es).length+([]:List Keyword).length+(if ([]:List Keyword).isEmpty then 0 else 1)<30))=true:=by rfl)
  (hline:(apos.endLine==cpos.line)=true:=by rfl) (hs:starEach (e::es) X.env=(false,eval e X.env)::starEach es X.env:=by rfl) (hplain:(backTo cpos (starEach es X.env)).any (·.1)=false:=by rfl) :
  PE X (.Call (.Attribute o name apos) (e::es) [] cpos) (tBM X.K T r to t):=by
 intro pins s σ H Q I h;refine wpAny_Call_method_late hbase hfew hline rfl (thn (ho pins s σ H _ I h) fun v s1 ⟨x,H1,I1,r1,ty,q1⟩=>?_);obtain⟨h1,h2⟩:=ZkH I1 r1 ty;refine⟨T,id,pa,slot,hty,h1,h2,?_⟩;have hA:=ha cpos pins s1 σ H1 _ I1 q1;rw[hs]at hA ⊢;refine Calls.callWith_builtin (by show(false || (backTo cpos (starEach es X.env)).any (·.1))=false;rw[hplain] <;> rfl) (Calls.evalArgs_plain ?_);exact thn hA fun us s2 ⟨vs,H2,I2,r2,q2⟩=>hm pins s2 σ H2 x vs v us Q I2 r1 r2 q2
end
def MtM (X:Cx) (id:String) (r:V->List V->Hp->VK->Prop):Prop :=
 ∀ (pins:List (Addr×Obj)) (s:Shared) (σ:St) (H:Hp) (x:V) (xs:List V) (v:Value) (us:List Value) (Q:VK),Inv X pins σ H s->RelV x v->Vals xs us->r x xs H Q ->
  wpAny (model X.prog X.w) X.A (call (.builtin id) (v::us)) (EP X pins σ Q) X.xe s
theorem Vals.one:∀ {x:V} {us:List Value},Vals [x] us->∃ u,us=[u]/\RelV x u
 | _,_,.cons r .nil=>⟨_,rfl,r⟩
theorem Vals.zero:∀ {us:List Value},Vals [] us->us=[]
 | _,.nil=>rfl
theorem Vals.dropLast {us:List Value} (h:Vals xs us):Vals xs.dropLast us.dropLast:=by
 induction h with
 | nil=>exact .nil
 | cons r t ih =>
  cases t with
  | nil=>exact .nil
  | cons q t'=>exact .cons r ih
theorem Vals.eraseIdx:∀ {xs:List V} {us:List Value} (i:Nat),Vals xs us->Vals (xs.eraseIdx i) (us.eraseIdx i)
 | _,_,_,.nil=>.nil
 | _,_,0,.cons _ t=>t
 | _,_,i+1,.cons r t=>.cons r (Vals.eraseIdx i t)
theorem Vals.rep {xs:List V} {us:List Value} (h:Vals xs us):∀ k:Nat,Vals (QK k xs).flatten (QK k us).flatten
 | 0=>.nil
 | k+1=>by
  rw[Wu,Wu,WZ,WZ];exact Vals.append h (Vals.rep h k)
theorem Zgd {α:Type} (l:List α):l.eraseIdx (l.length-1)=l.dropLast:=by
 induction l with
 | nil=>rfl
 | cons a r ih =>
  cases r with
  | nil=>rfl
  | cons b r =>
   have e:(a::b::r).length-1=((b::r).length-1)+1:=by
    have h1:(a::b::r).length=r.length+2:=rfl;have h2:(b::r).length=r.length+1:=rfl;omega
   rw[e,List.eraseIdx_cons_succ,ih]
   all_goals rfl
theorem Zdc (its:List Value):∀ (k:Nat) (acc:List Value),
  Vb (fun x1 x2=>x1++x2) acc.toArray (QK k its.toArray)=(acc++(QK k its).flatten).toArray
 | 0,acc=>by simp
 | k+1,acc=>by
  have e:acc.toArray++its.toArray=(acc++its).toArray:=by simp
  have e2:(acc++its)++(QK k its).flatten=acc++(QK (k+1) its).flatten:=by
   rw[Wu,WZ,UH]
  rw[←e2,←Zdc its k (acc++its),←e,Wu,List.foldl_cons]
section
variable {X:Cx} {pins:List (Addr×Obj)} {σ:St} {H:Hp} {s:Shared} {l b:Addr} {xs ys zs:List V}
theorem Inv.lset {its':List Value} {f:Array Value->Array Value} {t':Nat} (I:Inv X pins σ H s) (hH:H l=some (.lst xs))
  (e:s.heap.get? l=some {cls:=.type "list",data:=.seq its.toArray n}) (hf:f its.toArray=its'.toArray) (hv:Vals ys its') (hz:ys.length<=sizeLine) :
  Inv X pins σ (upd H l (.lst ys)) {s with heap:=s.heap.update l (Obj.mapSeq f),toks:=t'}:=by
 have q:=PySem.IsL.update e f;rw[hf]at q;refine I.write (x:=l) (e:=l) (by rw[hH];exact trivial) (.inl rfl) (fun b' u hb hu=>(Wa s.heap (Obj.mapSeq f) (Ne.symm hb)).trans hu) ⟨_,q⟩ ?_;exact⟨hz,its',_,hv,q⟩
theorem Inv.lnew {t':Nat} (I:Inv X pins σ H s) (hv:Vals ys its) (hz:ys.length<=sizeLine) :
  Inv X pins σ (upd H s.heap.objs.size (.lst ys)) {s with heap:=s.heap.push {cls:=.type "list",data:=.seq its.toArray},toks:=t'} :=
 I.laid (fun _ _ q=>Qh _ q) (Qi _) ⟨hz,its,0,hv,Qz _ rfl⟩
theorem Inv.fresh (I:Inv X pins σ H s):H s.heap.objs.size=none:=I.hok.fresh (Qi _)
theorem Inv.lstM (I:Inv X pins σ H s) (hH:H l=some (.lst xs)):xs.length<=sizeLine/\∃ (its:List Value) (n:Nat),Vals xs its/\xs.length=its.length/\s.heap.get? l=some {cls:=.type "list",data:=.seq its.toArray n}:=by
 obtain⟨z,its,n,r,e⟩:=I.hok l _ hH;exact⟨z,its,n,r,r.length,e⟩
theorem Ze0 (h:n<=sizeLine):Builtin.List.listTooLong n=false:=by
 unfold Builtin.List.listTooLong;exact decide_eq_false (by omega)
end
section
variable {X:Cx}
def Zhu:V->List V->Hp->VK->Prop:=fun x vs H Q=>∃ l xs y,x= .ref l/\vs=[y]/\H l=some (.lst xs)/\xs.length<sizeLine/\Q .non (upd H l (.lst (xs++[y])))
theorem Zc8:MtM X "list.append" Zhu:=by
 intro pins s σ H x vs v us Q I rx rv h;obtain⟨l,xs,y,rfl,rfl,hH,hz,q⟩:=h;cases rx;obtain⟨u,rfl,ru⟩:=rv.one;obtain⟨z,its,n,r,hl,e⟩:=I.lstM hH;refine call_meets F.slot_list_append ⟨_,e,rfl⟩ F.entry_list_append (F.args_list_append_2 _ _) (PySem.list_append l its.toArray n u (by rw[Qu];omega)) ⟨e,?_⟩;refine⟨.non,_,I.lset (its':=its++[u]) hH e (by simp) (r.append (.cons ru .nil)) ?_,rfl,q⟩;rw[Qp,QA];omega
def Zhs:V->List V->Hp->VK->Prop:=fun x vs H Q=>∃ l b xs zs,x= .ref l/\vs=[.ref b]/\H l=some (.lst xs)/\H b=some (.lst zs)/\xs.length+zs.length<=sizeLine/\Q .non (upd H l (.lst (xs++zs)))
theorem Zh8:MtM X "list.extend" Zhs:=by
 intro pins s σ H x vs v us Q I rx rv h;obtain⟨l,b,xs,zs,rfl,rfl,hH,hB,hz,q⟩:=h;cases rx;obtain⟨u,rfl,ru⟩:=rv.one;cases ru;obtain⟨z,its,n,r,hl,e⟩:=I.lstM hH;obtain⟨z2,its2,n2,r2,hl2,e2⟩:=I.lstM hB;have hsz:its.toArray.size+its2.toArray.size<=sizeLine:=by rw[Qu,Qu];omega
 have hlong:¬ (!its.toArray.isEmpty&&Builtin.List.listTooLong (its.toArray.size+its2.toArray.size))=true:=by
  rw[Ze0 hsz,Uq];exact QH
 refine call_meets F.slot_list_extend ⟨_,e,rfl⟩ F.entry_list_extend (F.args_list_extend_2 _ _)
  (AutoSeq1.list_extend_list_list_0 l its.toArray n b its2.toArray n2 hlong (by rw[Qu];omega) (by omega)) ⟨e,e2,?_⟩
 refine⟨.non,_,I.lset (its':=its++its2) hH e (by simp) (r.append r2) ?_,rfl,q⟩;rw[Qp];omega
def ZpM:V->List V->Hp->VK->Prop:=fun x vs H Q=>∃ l xs y,x= .ref l/\vs=[]/\H l=some (.lst xs)/\xs[xs.length-1]?=some y/\Q y (upd H l (.lst xs.dropLast))
theorem Zoh:MtM X "list.pop" ZpM:=by
 intro pins s σ H x vs v us Q I rx rv h;obtain⟨l,xs,y,rfl,rfl,hH,hy,q⟩:=h;cases rx;have hus:=rv.zero;subst hus;obtain⟨z,its,n,r,hl,e⟩:=I.lstM hH;obtain⟨u,hu,ru⟩:=r.get hy;have hy':its.toArray[its.toArray.size-1]?=some u:=by
  show its.toArray[its.length-1]?=some u;rw[←Wl,←hl];exact hu
 refine call_meets F.slot_list_pop ⟨_,e,rfl⟩ F.entry_list_pop (F.args_list_pop_1 _) (MeetsSeq.list_pop_last l its.toArray n u hy' (by rw[Qu];omega)) ⟨e,?_⟩;refine⟨y,_,I.lset (its':=its.dropLast) hH e ?_ r.dropLast ?_,ru,q⟩
 ·show its.toArray.eraseIdxIfInBounds (its.toArray.size-1)=its.dropLast.toArray;rw[Qu,List.eraseIdxIfInBounds_toArray,Zgd]
 ·rw[UN];omega
def Zqc:R2:=fun x y H Q=>∃ l b xs zs,x= .ref l/\y= .ref b/\H l=some (.lst xs)/\H b=some (.lst zs)/\xs.length+zs.length<=sizeLine/\∀ p,H p=none->Q (.ref p) (upd H p (.lst (xs++zs)))
theorem ZhP:OpR X (binaryOp .Add) Zqc:=by
 intro pins s σ H x y v u Q I rx ry h;obtain⟨l,b,xs,zs,rfl,rfl,hH,hB,hz,q⟩:=h;cases rx;cases ry;obtain⟨z,its,n,r,hl,e⟩:=I.lstM hH;obtain⟨z2,its2,n2,r2,hl2,e2⟩:=I.lstM hB;refine PySem.P.add_list e e2 ?_ (by rw[Qu,Qu];omega);have ea:its.toArray++its2.toArray=(its++its2).toArray:=by simp
 rw[ea];exact⟨.ref _,_,I.lnew (t':=s.toks) (r.append r2) (by rw[Qp];omega),rfl,q _ I.fresh⟩
def Zqb:R2:=fun x y H Q=>∃ l k xs,x= .ref l/\y= .int k/\H l=some (.lst xs)/\-(2 ^ 63)<=k/\k<2 ^ 63/\xs.length*k.toNat<=sizeLine /\
 ∀ p,H p=none->Q (.ref p) (upd H p (.lst (QK k.toNat xs).flatten))
theorem ZmD {α:Type} (xs:List α) (k:Nat):(QK k xs).flatten.length=k*xs.length:=by
 induction k with
 | zero=>simp
 | succ k ih=>rw[Wu,WZ,Qp,ih,RE,Nat.add_comm]
theorem Zlc:OpR X (binaryOp .Mult) Zqb:=by
 intro pins s σ H x y v u Q I rx ry h;obtain⟨l,k,xs,rfl,rfl,hH,h1,h2,hz,q⟩:=h;cases rx;obtain⟨t,rfl⟩:=ry;obtain⟨z,its,n,r,hl,e⟩:=I.lstM hH;have hlen:its.toArray.size*k.toNat<=sizeLine:=by rw[Qu,←hl];exact hz
 have hcap:¬ its.toArray.size*k.toNat>(2 ^ 63-1) / 8:=by
  have:(sizeLine:Nat)<=(2 ^ 63-1) / 8:=by decide
  omega
 have hfit:¬ (!Builtin.List.listFitsIndex k)=true:=by
  rw[fitsIndex_both h1 h2];exact QH
 have hlong:¬ Builtin.List.listTooLong (its.toArray.size*k.toNat)=true:=by
  rw[Ze0 hlen];exact QH
 have hnew:Vb (fun x1 x2=>x1++x2) #[] (QK (if its.toArray.isEmpty=true then 0 else k.toNat) its.toArray)=(QK k.toNat its).flatten.toArray:=by
  have f0:∀ m:Nat,Vb (fun x1 x2=>x1++x2) #[] (QK m its.toArray)=(QK m its).flatten.toArray:=fun m=>by
   have:=Zdc its m [];rw[UO]at this;exact this
  rw[f0];cases its with
  | nil=>simp
  | cons a r'=>rw[if_neg (by simp)]
 refine wpAny_binaryOp_repeat_ref (T:="list") (U:="int") (by decide) ⟨_,e,rfl⟩ (fun s'=>typeIs_int s' k t) noFill_list_mul F.fills_int_mul F.slot_int_rmul repeat_list F.slot_int_index.lookup
  (call_meets F.slot_int_rmul (typeIs_int s k t) F.entry_int_rmul (F.args_int_rmul_2 _ _) (int___rmul___int_list k t l its.toArray n)
   ⟨e,rfl,⟨_,e,rfl⟩,call_meets F.slot_list_mul ⟨_,e,rfl⟩ F.entry_list_mul (F.args_list_mul_2 _ _) (AutoListH.list___mul___list_int_3 l its.toArray n k t hfit hcap hlong) ⟨e,?_⟩⟩)
 rw[hnew];exact⟨.ref _,_,I.lnew (t':=s.toks) (r.rep k.toNat) (by rw[ZmD,RF];exact hz),rfl,q _ I.fresh⟩
end
section
variable {prog:Program} {w:World} {A:Around} {E:Value->Shared->Prop} {s:Shared}
end
section
variable {X:Cx}
end
end L2
namespace Att
open PySem PySem.W PySem.Calls PyProof.Rows
theorem Zay {P:Params} {h:Heap}:∀ (ns:List Int) (vs:List Value),WellAll P h vs (ns.map WData.int)->IntsAre vs ns:=by
 intro ns;induction ns with
 | nil =>
  intro vs w;rw[Wq]at w;cases w;exact .nil
 | cons n ns ih =>
  intro vs w;rw[Qj]at w;cases w with
  | cons a b =>
   cases a;exact .cons _ _ (ih _ b)
theorem Zg6 {l:OpenLaw} {n:Nat} (hn:l.most=some n) {P:Params} {h:Heap} {args:List WData} {vals:List Value}
  (hpre:l.row.toRowW.claim.pre args=true) (hwl:WellAll P h vals args) :
  ∃ a vs ns,vals=[Value.ref a]/\args=[WData.list (ns.map WData.int)]/\h.get? a=some {cls:=.type "list",data:=.seq vs.toArray}/\IntsAre vs ns/\ns.length<=n:=by
 have hsh:WShape.hasAll [] args [.list .int]=true:=(pre_splitW hpre).1;have hc:l.pre.holds [] {args:=args}=true:=(pre_splitW hpre).2;obtain⟨d,r,rfl,h1,h2⟩:=hasAllW_cons hsh;obtain rfl:=hasAllW_nil h2;obtain⟨xs,rfl,h3⟩:=hasW_list h1;obtain⟨ns,rfl⟩:=items_int h3;have hlen:ns.length<=n:=by
  unfold OpenLaw.pre at hc;have h4:(WTm.not (.lt (.lit (.int (n:Int))) (.len (.arg 0)))).holds [] {args:=[.list (ns.map .int)]}=true:=by
   have h4:=(holds_andW hc).1;rw[hn]at h4;exact h4
  have h5:=condW_of h4 (w_not (w_lt w_lit (w_len_list (w_arg rfl))));rw[Qc]at h5;refine RZ fun q=>?_;have q':(n:Int)<((ns.length:Nat):Int):=by omega
  first
   | (rw[decide_eq_true q']at h5;exact absurd h5 (by decide))
   | (simp at h5;omega)
 cases hwl with
 | cons w1 w2 =>
  cases w2;cases w1 with
  | list ho hall=>exact⟨_,_,ns,rfl,rfl,ho,Zay ns _ hall,hlen⟩
theorem ZhB (l:OpenLaw) (args:List WData):l.row.toRowW.claim.post args (.bool true) args=true :=
 postW_of (r:=l.row.toRowW) (X:=(true==true))
  (show WShape.has [] (.bool true) .bool=true by first | rfl | decide | simp[WShape.has,WShape.arms,WShape.armsAll])
  (show(WTm.eq .res (.lit (.bool true))).value [] {args:=args,res:=some (.bool true),after:=args}=some (.bool (true==true))from w_eq_bool (w_res rfl) w_lit) rfl
theorem attach_call {l:OpenLaw} {n:Nat} {q:Program} {loose:List Str} {XP:(Str->Option Value)->Heap->Prop} {YP:World->Heap->Prop} {d:DefRec}
  (hn:l.most=some n) (hdf:d.params.defaults=[])
  (call:∀ (w:World) (s₀ s₁:Shared) (mg mb:Str->Option Value) (fa:Addr) (o:Obj) (pm cd doc:Value) (a:Addr) (vs:List Value) (ns:List Int),
   Ground q loose [] XP w s₀ mg mb s₁.heap->YP w s₁.heap ->
   s₁.heap.get? fa=some o->o.data= .func (docDef d.name d.params d.body d.scope pm cd doc)->s₁.heap.CodeRec cd d.name->mg d.name=some (.ref fa) ->
   s₁.heap.get? a=some {cls:=.type "list",data:=.seq vs.toArray}->IntsAre vs ns->ns.length<=n->s₁.gens= #[] ->
   codeAny (model l.prog w) callerA (.call (.ref fa) ⟨[.ref a],[]⟩) (fun r s'=>r= .ok (.ret (.bool true))/\OldK s₁.heap s'.heap/\s'.os=s₁.os/\AllBare s'.gens) s₁) :
  WalkO q loose XP YP l.row.toRowW d [] (fun f vs=>PySem.call f vs):=by
 intro w s₀ s₁ mg mb G Y fa o pm cd doc dV kV ho hd hcd hD hmg hg args vals as hpre hlay hrd hwl hlo;obtain rfl:dV= .none:=Dflts.none hD hdf;obtain rfl:kV= .none:=Dflts.noKw hD;obtain⟨a,vs,ns,rfl,rfl,hobj,hints,hlen⟩:=Zg6 hn hpre hwl;refine enter_call (codeAny_mono (call w s₀ s₁ mg mb fa o pm cd doc a vs ns G Y ho (fd_plain hd) hcd hmg hobj hints hlen hg) fun r s' hq=>?_);obtain⟨rfl,h2,h3,h4⟩:=hq;exact⟨.inl ⟨.bool true,.bool true,[],rfl,fun _=>rfl,.bool true,ZhB l _,fun _=>⟨List.Pairwise.nil,fun _ hm=>(nomatch hm)⟩⟩,h2,h3,h4⟩
section
variable {prog:Program} {w:World} {A:Around} {E:Value->Shared->Prop} {s:Shared} {K:Frag}
def ZpP (h:Heap) (L d:Addr):List (Addr×Obj):=(Qs h.objs.size).filterMap fun a=>if a=L\/a=d then none else (h.get? a).map fun o=>(a,o)
end
end Att
namespace L2
open PySem PySem.Spec PyProof.Rows
variable {H H' H1 H2:Hp} {N ps:List Str} {X:Cx} {a:Addr} {i k n:Nat} {mp:List Nat} {name qual x:Str} {pos:Pos} {sp:Sp} {st:Stmt} {xs ys:List V}
theorem Zcx:∀ {vs:List Value} {ns:List Int},IntsAre vs ns->Vals (ns.map V.int) vs
 | _,_,.nil=>.nil
 | _,_,.cons n t h=>.cons ⟨t,rfl⟩ (Zcx h)
def ZpG (H:Hp):Prop:=∀ b,H b=none\/∃ o xs,H b=some (.frz o (.lst xs))
theorem Zj6 {P:Program} {w:World} {K:PySem.W.Frag} {mg mb:Str->Option Value} {CX:CXT} {fa:Addr} {fd:FuncData} {s₁:Shared} {vs:List Value} {ns:List Int}
  (KX:K.In s₁.heap) (hns:s₁.heap.Ns mainGlobals mg) (hb:s₁.heap.Ns builtinsNs mb) (hbb:∀ x:Str,x≠"__name__"->mb x=bootBuiltins x) (hlim:s₁.heap.NoLimit) (hg:s₁.gens= #[])
  (ha:s₁.heap.get? a=some {cls:=.type "list",data:=.seq vs.toArray}) (hi:IntsAre vs ns) (hl:ns.length<=sizeLine) (hr:Room k callerA)
  (F:∀ base:Heap,K.In base->base.Ns mainGlobals mg->FnOk P w K mg base CX k fa fd [x] sp) (hbind:∀ (s:Shared) (u:Value),BindsTo s fd ⟨[u],[]⟩ [(x,u)])
  (hsp:∀ H:Hp,ZpG H->SqL K H a (ns.map V.int)->sp [.ref a] H (fun v _=>v= .bl true) fun _ _ _=>False)
  (hCX:∀ H e s',CX [] H s₁ (fun _ _ _=>False) e s'->False) :
  codeAny (model P w) callerA (.call (.ref fa) ⟨[.ref a],[]⟩) (fun r s'=>r= .ok (.ret (.bool true))/\OldK s₁.heap s'.heap/\s'.os=s₁.os/\AllBare s'.gens) s₁:=by
 have rv:=Zcx hi;have lenV:=hi.length
 -- from an abstract heap in which nothing but the script may be tracked
 have core:∀ H:Hp,ZpG H->SqL K H a (ns.map V.int)->HOk P w H s₁.heap->(∀ b,H b≠none->b=a)->(H a≠none->K.lookup a=none) ->
   codeAny (model P w) callerA (.call (.ref fa) ⟨[.ref a],[]⟩) (fun r s'=>r= .ok (.ret (.bool true))/\OldK s₁.heap s'.heap/\s'.os=s₁.os/\AllBare s'.gens) s₁:=by
  intro H hO hS hok hA hK;have base_of:∀ {b:Addr} {o:Obj},s₁.heap.get? b=some o->H b=none->(Zkf s₁.heap H).get? b=some o:=fun e n=>Zke e n;have noA:∀ {b:Addr} {o:Obj} {es:Array DictEntry} {ep:Nat},s₁.heap.get? b=some o->o.data= .dict es ep->H b=none:=fun {b o es ep} e d=>by
   cases q:H b with
   | none=>rfl
   | some u =>
    have e':b=a:=hA b (by rw[q];simp);subst e';rw[ha]at e;cases e;have d':Data.seq vs.toArray _=Data.dict es ep:=d;cases d'
  have nsK:∀ {b:Addr} {m:Str->Option Value},s₁.heap.Ns b m->(Zkf s₁.heap H).Ns b m:=fun {b m} ⟨o,es,ep,e,d,r⟩=>⟨o,es,ep,base_of e (noA e d),d,r⟩
  have hKb:K.In (Zkf s₁.heap H):=fun b o e=>base_of (KX b o e) (by
   cases q:H b with
   | none=>rfl
   | some u =>
    have e':b=a:=hA b (by rw[q];simp);subst e';rw[hK (by rw[q];simp)]at e;cases e)
  have hM:Mod K mg (Zkf s₁.heap H):=⟨hKb,nsK hns,⟨mb,nsK hb,hbb⟩,let ⟨mc,h1,h2⟩:=hlim;⟨mc,nsK h1,h2⟩⟩
  have e0:Env0 P w K mg (Zkf s₁.heap H) callerA [] s₁ H:=⟨rfl,hM,fun b o e=>Zmr e,Nat.le_of_eq (Zir _ _),trivial,fun b hb=>absurd (show b∈([]:List Addr)from hb) (by simp),hok,.of_eq hg⟩
  refine codeAny_mono ((F _ hKb (nsK hns)).run callerA [] s₁ H ⟨[.ref a],[]⟩ [.ref a] [.ref a] _ _ hr e0 (hbind s₁ (.ref a)) (.cons rfl .nil) (hsp H hO hS)) fun r s' h=>?_;cases r with
  | error e=>exact(hCX H e s' h).elim
  | ok fl =>
   cases fl with
   | next=>exact False.elim h
   | brk=>exact False.elim h
   | cont=>exact False.elim h
   | ret u =>
    obtain⟨v,H',os,bare,un,hok',r',q⟩:=h;have q':v= .bl true:=q;subst q';obtain rfl:u=Value.bool true:=r';refine⟨rfl,OldK.of_keep fun b o e=>?_,os,bare⟩;cases q:H b with
    | none=>exact un.keep b o e q (by intro z;exact absurd (show b∈([]:List Addr)from z) (by simp)) (by simp)
    | some u =>
     rcases hO b with z | ⟨ob,xs,z⟩
     ·rw[q]at z;cases z
     ·have z2:=un.frzs b ob _ z;obtain⟨e1,_⟩:=hok b _ z;obtain⟨e2,_⟩:=hok' b _ z2;rw[e]at e1;cases e1;exact e2
 cases hk:K.lookup a with
 | some o =>
  -- the script is one of the module's own objects
  have e:=KX a o hk;rw[ha]at e;cases e;refine core (fun _=>none) (fun _=>.inl rfl) (.inr ⟨_,vs.toArray,_,hk,rfl,rfl,rfl,by rw[Qu,lenV];exact hl,by simpa using rv⟩) (fun b u z=>by have z':(none:Option HO)=some u:=z;cases z') (fun b z=>absurd rfl z) fun z=>absurd rfl z
 | none =>
  refine core (fun b=>if b=a then some (.frz {cls:=.type "list",data:=.seq vs.toArray} (.lst (ns.map V.int)))else none) (fun b=>?_) (.inl (.inr ⟨{cls:=.type "list",data:=.seq vs.toArray},if_pos rfl⟩)) (fun b u z=>?_) (fun b z=>?_) fun _=>hk
  ·by_cases hb:b=a
   ·exact .inr ⟨_,_,if_pos hb⟩
   ·exact .inl (if_neg hb)
  ·by_cases hb:b=a
   ·have z':=(if_pos hb).symm.trans z;cases z';subst hb;exact⟨ha,by rw[Qc];exact hl,vs,_,rv,ha⟩
   ·have z':=(if_neg hb).symm.trans z;cases z'
  ·by_cases hb:b=a
   ·exact hb
   ·exact absurd (if_neg hb) z
theorem walk_of {l:PySem.W.OpenLaw} {q:Program} {loose:List Str} {XP:(Str->Option Value)->Heap->Prop} {YP:World->Heap->Prop} {d:DefRec} {K:Params->PySem.W.Frag} {CX:World->CXT} {sp:World->Sp} 
  (hn:l.most=some n) (hn2:n<=sizeLine) (hdf:d.params.defaults=[]) (hr:Room k callerA)
  (hY:∀ (w:World) (h:Heap),YP w h->(K w.params).In h)
  (F:∀ (w:World) (mg:Str->Option Value) (fa:Addr) (h:Heap),(K w.params).In h->h.Ns mainGlobals mg->mg d.name=some (.ref fa) ->
   ∃ fd:FuncData,(∀ (s:Shared) (u:Value),BindsTo s fd ⟨[u],[]⟩ [(x,u)]) /\
    ∀ base:Heap,(K w.params).In base->base.Ns mainGlobals mg->FnOk l.prog w (K w.params) mg base (CX w) k fa fd [x] (sp w))
  (hsp:∀ (w:World) (H:Hp) (a:Addr) (ns:List Int),ns.length<=n->ZpG H->SqL (K w.params) H a (ns.map V.int)->sp w [.ref a] H (fun v _=>v= .bl true) fun _ _ _=>False)
  (hCX:∀ (w:World) (H:Hp) (s:Shared) (e:Value) (s':Shared),CX w [] H s (fun _ _ _=>False) e s'->False) :
  PySem.W.WalkO q loose XP YP l.row.toRowW d [] (fun f vs=>PySem.call f vs):=by
 refine Att.attach_call hn hdf fun w s₀ s₁ mg mb fa o pm cd doc a vs ns G Y ho hd hcd hmg hobj hints hlen hg=>?_;have KX:=hY w _ Y;obtain⟨fd,hb,hF⟩:=F w mg fa _ KX G.T.g hmg;exact Zj6 KX G.T.g G.T.b G.T.builtins G.T.nolimit hg hobj hints (Q7 hlen hn2) hr hF hb (fun H hO hS=>hsp w H a ns hlen hO hS) fun H e s'=>hCX w H s₁ e s'
def ZmP (s:Stmt) (j:Nat):Stmt:=match s with
 | .ClassDef _ _ _ body _ _ _ _ _ _ _=>body.getD j (.Pass ⟨0,0,0,0⟩)
 | _=>.Pass ⟨0,0,0,0⟩
def ZO (s:Stmt):Arguments:=match s with
 | .FunctionDef _ a _ _ _ _ _ _ _ _=>a
 | _=>{posonlyargs:=[],args:=[],vararg:=none,kwonlyargs:=[],kw_defaults:=[],kwarg:=none,defaults:=[]}
def ZG (s:Stmt):List Stmt:=match s with
 | .FunctionDef _ _ b _ _ _ _ _ _ _=>b
 | _=>[]
def Zg (s:Stmt):Scope:=match s with
 | .FunctionDef _ _ _ _ _ _ sc _ _ _=>sc
 | _=>{kind:=.function,names:=[],isGenerator:=false,isCoroutine:=false}
abbrev CX0:CXT:=fun _ _ _ _ _ _=>False
abbrev E0:XK:=fun _ _ _=>False
theorem Zpl:X6 CX0 X E0:=fun _ _ _ _ _ _ _ h=>h.elim
structure Fun (K:PySem.W.Frag) (x qual:Str) (st:Stmt) (f:Addr) (fd:FuncData):Prop where
 ex:∃ (oc:Value) (od:Option Addr) (kV doc pm:Value) (an:Option Addr) (cdv ct:Value) (osl:Array (Option Value)),
  fd=PySem.W.fnOf x qual (ZO st) (ZG st) (Zg st) .none kV doc pm an cdv ct/\K.lookup f=some ⟨oc,od,.func fd,osl⟩/\PySem.W.codeIn K cdv qual=true
 kp:PySem.W.keepIn K (.ref f)=true
section
variable {P:Program} {w:World} {K:PySem.W.Frag} {mg:Str->Option Value} {base:Heap}
theorem Fun.ok {f:Addr} {fd:FuncData} (F:Fun K x qual st f fd) (S:Zm N ps (Zg st)) (len:∀ vs H Q E,sp vs H Q E->vs.length=ps.length)
  (hbody:∀ (cdv:Value) (A:Around) (outer:List Env) (s:Shared) (H:Hp) (vs:List V) (Q:VK) (E:XK),Room k (A.deeper (envOfC qual (Zg st) s.heap.objs.size f cdv))->sp vs H Q E ->
   ∃ t,PSs (Zdq CX0 P w K mg base N qual (Zg st) f cdv A outer s H E).nox (ZG st) t/\t {nx:=fun _ H'=>Q .non H',rt:=Q} (start N vs) H):FnOk P w K mg base CX0 (k+1) f fd ps sp:=by
 obtain⟨oc,od,kV,doc,pm,an,cdv,ct,osl,rfl,lk,hcd⟩:=F.ex;refine ZmX lk hcd S len fun A outer s H vs Q E hr hsp=>?_;obtain⟨t,h,q⟩:=hbody cdv A outer s H vs Q E hr hsp;exact⟨t,h.nox,q⟩
theorem Fun.binds {f:Addr} {fd:FuncData} (F:Fun K x qual st f fd)
  (h:∀ (kV doc pm:Value) (an:Option Addr) (cdv ct:Value) (us:List Value),us.length=ps.length->bindArgs (PySem.W.fnOf x qual (ZO st) (ZG st) (Zg st) .none kV doc pm an cdv ct) ⟨us,[]⟩=pure (ps.zip us)):Binds K fd ps []:=by
 obtain⟨oc,od,kV,doc,pm,an,cdv,ct,osl,rfl,lk,hcd⟩:=F.ex;exact .all (h kV doc pm an cdv ct)
theorem ZiD {f:Addr} {oc:Value} {od an:Option Addr} {osl:Array (Option Value)} {kV doc pm cdv ct:Value} (l:K.lookup f=some ⟨oc,od,.func (PySem.W.fnOf x qual (ZO st) (ZG st) (Zg st) .none kV doc pm an cdv ct),osl⟩)
  (c:PySem.W.codeIn K cdv qual=true) (k:PySem.W.keepIn K (.ref f)=true):Fun K x qual st f (PySem.W.fnOf x qual (ZO st) (ZG st) (Zg st) .none kV doc pm an cdv ct):=⟨⟨oc,od,kV,doc,pm,an,cdv,ct,osl,rfl,l,c⟩,k⟩
end
theorem JH {A:Around} (hr:Room k A):A.units+1<cLine:=Wv (Nat.add_le_add_left (by decide:1<=64) _) hr.units
theorem Zz (h:n<=1000):n<sizeLine:=Wv h (by decide)
section
variable {X:Cx}
theorem pv (i:Nat) {pos:Pos} (hN:X.N[i]?=some x:=by rfl) (hv:Vis X.env.scope x:=by first | exact Or.inl rfl | exact Or.inr (.inl rfl) | exact Or.inr (.inr rfl)) (hd:(x==("__debug__" : Str))=false:=by decide)
  (hcd:(x==("__classdict__" : Str))=false:=by decide):PE X (.Name x pos) (Zne i):=ZnT hN hv hd hcd
theorem ZaH:CallR X (.builtin "len") (fun xs H Q=>∃ a kvs,xs=[V.ref a]/\H a=some (.dK kvs)/\Q (.int kvs.length) H):=by
 intro pins s σ H xs us Q I r h;obtain⟨a,kvs,rfl,ha,q⟩:=h;obtain⟨u,rfl,ru⟩:=YT r;cases ru;exact ZoC I (.inl ha) fun t s' I'=>⟨.int kvs.length,H,I',⟨t,rfl⟩,q⟩
end
theorem Zka {A B:Prop} (h:B):if false=true then A else B:=by
 rw[if_neg QH];exact h
theorem ZmK {A B:Prop} (h:A):if true=true then A else B:=by
 rw[if_pos rfl];exact h
theorem Zff {c A B:Prop} [Decidable c] (h1:c->A) (h2:¬ c->B):if c then A else B:=by
 by_cases h:c
 ·rw[if_pos h];exact h1 h
 ·rw[if_neg h];exact h2 h
def Same (H H':Hp):Prop:=∀ b o,H b=some o->H' b=some o
theorem Same.refl (H:Hp):Same H H:=fun _ _ h=>h
theorem Same.trans (a:Same H H1) (b:Same H1 H2):Same H H2:=fun c o h=>b c o (a c o h)
theorem Same.free (e:Same H H') {l:Addr} (h:H' l=Option.none):H l=Option.none:=by
 cases q:H l with
 | none=>rfl
 | some o =>
  rw[e l o q]at h;cases h
theorem Same.seq {K:PySem.W.Frag} (e:Same H H') (h:SqL K H a xs):SqL K H' a xs:=by
 rcases h with (h | ⟨o,h⟩) | h
 ·exact .inl (.inl (e _ _ h))
 ·exact .inl (.inr ⟨o,e _ _ h⟩)
 ·exact .inr h
section
variable {κ:Type} [DecidableEq κ]
end
def Xh (env:Env):List (Str×NameKind)->List (Str×Addr)->List (Str×Addr)
 | [],cs=>cs
 | y::r,cs=>Xh env r (if y.2==NameKind.free then (y.1,(env.cells.lookup y.1).getD 0)::cs else cs)
theorem ZaC {env:Env} (f:Str×NameKind->List (Str×Addr)->Sem (ForInStep (List (Str×Addr)))) :
  ∀ (ns:List (Str×NameKind)) (cs:List (Str×Addr)),(∀ y∈ns,∀ c,f y c=pure (.yield (if y.2==NameKind.free then (y.1,(env.cells.lookup y.1).getD 0)::c else c))) ->
   forIn ns cs f=pure (Xh env ns cs)
 | [],cs,_=>rfl
 | y::r,cs,h=>by
  rw[List.forIn_cons,h y Qd,pure_bind];exact ZaC f r _ fun z hz=>h z (Qg _ hz)
theorem X1 {env:Env} {scope:Scope} (h:∀ y∈scope.names,y.2= .free->∃ c,env.cells.lookup y.1=some c) :
  closureFor scope env=pure (Xh env scope.names []):=by
 simp only[closureFor];rw[ZaC (env:=env) _ _ _ (fun y hy c=>?_)]
 ·rfl
 ·obtain⟨n,k⟩:=y;cases hk:(k==NameKind.free)with
  | true =>
   obtain⟨a,ha⟩:=h (n,k) hy (by simpa using hk);have ha':env.cells.lookup n=some a:=ha;simp only[if_true,cellOf,ha',WR,pure_bind]
  | false=>simp only[Wf,if_false]
theorem Zds {env:Env}:∀ (ns:List (Str×NameKind)) (cs:List (Str×Addr)),(∀ y∈ns,y.2= .free->∃ c,env.cells.lookup y.1=some c) ->
  (∀ n c,cs.lookup n=some c->env.cells.lookup n=some c)->∀ n c,(Xh env ns cs).lookup n=some c->env.cells.lookup n=some c
 | [],cs,_,h,n,c,e=>h n c e
 | y::r,cs,hf,h,n,c,e=>by
  refine Zds r _ (fun z hz=>hf z (Qg _ hz)) (fun n c e=>?_) n c e;split at e
  ·rename_i hk;obtain⟨a,ha⟩:=hf y Qd (by simpa using hk);rw[ha,WR]at e;cases hn:n==y.1 with
   | true =>
    simp only[Uf,hn]at e;cases e;rw[eq_of_beq hn];exact ha
   | false =>
    simp only[Uf,hn]at e;exact h n c e
  ·exact h n c e
theorem ZaF {env:Env}:∀ (ns:List (Str×NameKind)) (cs:List (Str×Addr)) (n:Str),((n,NameKind.free)∈ns\/(cs.lookup n).isSome=true) ->
  ((Xh env ns cs).lookup n).isSome=true
 | [],cs,n,h=>by
  rcases h with h | h
  ·cases h
  ·exact h
 | y::r,cs,n,h=>by
  refine ZaF r _ n ?_;rcases h with h | h
  ·rcases Qx.mp h with h | h
   ·right
    subst h;simp
   ·exact .inl h
  ·right
   split
   ·cases hn:n==y.1 with
    | true=>simp only[Uf,hn];rfl
    | false=>simp only[Uf,hn];exact h
   ·exact h
def Zng (env:Env) (n:Str) (k:NameKind):NameKind:=if (k==NameKind.free&&env.scope.kind==.function&&env.kindOf n==some .cell)=true then .cell else k
theorem Za3 (env:Env) (x:Str):∀ names:List (Str×NameKind),
  (names.map fun(n,k)=>if (k==NameKind.free&&env.scope.kind==.function&&env.kindOf n==some .cell)then (n,NameKind.cell)else (n,k)).lookup x=(names.lookup x).map (Zng env x)
 | []=>rfl
 | (n,k)::r=>by
  have ih:=Za3 env x r;have e1:(if (k==NameKind.free&&env.scope.kind==.function&&env.kindOf n==some .cell)=true then (n,NameKind.cell)else (n,k))=(n,Zng env n k):=by
   unfold Zng;split <;> rfl
  rw[Qj];show Ui x ((if (k==NameKind.free&&env.scope.kind==.function&&env.kindOf n==some .cell)=true then (n,NameKind.cell)else (n,k))::_)=_;rw[e1];cases hx:x==n with
  | true =>
   simp only[Uf,hx];rw[eq_of_beq hx];rfl
  | false =>
   simp only[Uf,hx];exact ih
theorem Ju (scope:Scope) (env:Env) (x:Str):(relabel scope env).names.lookup x=(scope.names.lookup x).map (Zng env x):=Za3 env x scope.names
def lcN (N xs:List Str) (mp:List Nat):List Str:=xs++mp.map fun j=>N.getD j ""
def lcS (k:Nat) (mp:List Nat) (σ:St):St:=QK k none++mp.map fun j=>(σ[j]?).getD none
structure Znh (sc scope:Scope) (N xs:List Str) (mp:List Nat):Prop where
 kind:scope.kind= .function
 nocell:∀ y∈scope.names,y.2≠.cell
 names:∀ y∈scope.names,y.2= .local->scope.names.lookup y.1=some .local
 tg:∀ x∈xs,scope.names.lookup x=some .local
 fr:∀ y∈scope.names,y.2= .free->sc.names.lookup y.1=some .cell\/sc.names.lookup y.1=some .free
 out:∀ j∈mp,scope.names.lookup (N.getD j "")=some .free
 nd:(lcN N xs mp).Nodup
def Zj5 (sc scope:Scope) (N xs:List Str) (mp:List Nat):Bool :=
 decide (scope.kind= .function)&&scope.names.all (fun y=>decide (y.2≠.cell))&&scope.names.all (fun y=>decide (y.2= .local->scope.names.lookup y.1=some .local)) &&
  xs.all (fun x=>decide (scope.names.lookup x=some .local))&&scope.names.all (fun y=>decide (y.2= .free->sc.names.lookup y.1=some .cell\/sc.names.lookup y.1=some .free)) &&
  mp.all (fun j=>decide (scope.names.lookup (N.getD j "")=some .free))&&decide (lcN N xs mp).Nodup
theorem Zfb {sc scope:Scope} {xs:List Str} (h:Zj5 sc scope N xs mp=true):Znh sc scope N xs mp:=by
 simp only[Zj5,QP,WG,decide_eq_true_eq]at h;obtain⟨⟨⟨⟨⟨⟨h1,h2⟩,h3⟩,h4⟩,h5⟩,h6⟩,h7⟩:=h;exact⟨h1,h2,h3,h4,h5,h6,h7⟩
abbrev lcx (X:Cx) (M:List Str) (scope:Scope) (cl:List (Str×Addr)) (C:Addr) (s₀:Shared) (H₀:Hp) (fp:List Addr):Cx where
 prog:=X.prog
 w:=X.w
 K:=X.K
 mg:=X.mg
 base:=X.base
 A:=X.A
 N:=M
 s₀:=s₀
 H₀:=H₀
 env:=compEnvC scope cl C X.env
 outer:=X.stack
 stack:=X.stack
 ex:=fp
 fn:=fun _=>false
 calm:=X.calm
 pn:=[]
 xe:=fun _ _=>False
section
variable {X:Cx} {pins:List (Addr×Obj)} {σ:St} {H₀:Hp} {s₀:Shared} {scope sc:Scope} {N xs:List Str} {mp:List Nat} {fp:List Addr}
theorem Zb8 (I:Inv X pins σ H₀ s₀) (hsc:X.env.scope=sc) (S:Znh sc scope N xs mp):∀ y∈scope.names,y.2= .free->∃ c,X.env.cells.lookup y.1=some c:=fun y hy e=>by
 refine I.ok.has y.1 ?_;have q:=S.fr y hy e;rw[←hsc]at q;exact q
theorem Zlk (I:Inv X pins σ H₀ s₀) (hsc:X.env.scope=sc) (S:Znh sc scope N xs mp) {n:Str} {c:Addr} (e:(Xh X.env scope.names []).lookup n=some c):X.env.cells.lookup n=some c :=
 Zds scope.names [] (Zb8 I hsc S) (fun _ _ z=>nomatch z) n c e
theorem Zok {h₁:Heap} {o:Obj} {m:Str->Option Value} {tk:Nat} (I:Inv X pins σ H₀ s₀) (hsc:X.env.scope=sc) (S:Znh sc scope N xs mp) (hf:∀ b∈fp,Zeu X pins H₀ b)
  (hx:∀ b∈fp,∃ ob,s₀.heap.get? b=some ob) (hns:h₁.Ns s₀.heap.objs.size m) (hsb:Heap.SameBut s₀.heap.objs.size (s₀.heap.push o) h₁) :
  Inv (lcx X (lcN N xs mp) scope (Xh X.env scope.names []) s₀.heap.objs.size s₀ H₀ fp) [] (QK (xs.length+mp.length) none) H₀ {s₀ with heap:=h₁,toks:=tk}:=by
 have kp:∀ b u,s₀.heap.get? b=some u->h₁.get? b=some u:=fun b u e=>hsb.extBut b u (QD (Qw e)) (Qh _ e);have sub:=@Zlk X pins σ H₀ s₀ scope sc N xs mp I hsc S;refine⟨⟨I.ok.mod,S.kind,I.ok.glob,I.ok.blt,Qi _,fun x y c e1 e2=>I.ok.inj x y c (sub e1) (sub e2),fun x hk=>?_,fun x c h _=>(QH h).elim,I.ok.hd,I.ok.frames,.inl rfl,
  fun b hb=>⟨?_,fun x c e=>(hf b hb).2.2.2.2.1 x c (sub e)⟩,fun b o e=>I.bs b o e,Q7 I.ok.bsz I.sz,fun b o e hb=>?_,fun b hb z=>?_,I.stack,I.stkFree⟩,
  rfl,I.bare,Un.kept kp,⟨m,hns,fun i x v _ e2 _=>?_⟩,fun x c e=>?_,I.hok.fresh (Qi _),fun x c e=>I.freeC x c (sub e),fun p hp=>absurd (show p∈([]:List (Addr×Obj))from hp) (by simp),I.hok.kept kp,?_⟩
 ·have hk':(relabel scope X.env).names.lookup x=some .cell\/(relabel scope X.env).names.lookup x=some .free:=hk;rw[Ju]at hk';cases e:scope.names.lookup x with
  | none=>rw[e]at hk';rcases hk' with z | z <;> cases z
  | some k =>
   have mem:(x,k)∈scope.names:=PySem.mem_of_lookup e;have hkf:k= .free:=by
    rw[e]at hk';have n1:=S.nocell _ mem;simp only[Wc,Option.some.injEq]at hk';unfold Zng at hk';split at hk'
    ·rename_i hc;simp only[QP]at hc;simpa using hc.1.1
    ·rcases hk' with z | z
     ·exact absurd z n1
     ·exact z
   subst hkf;exact UB.mp (ZaF scope.names [] x (.inl mem))
 ·obtain⟨ob,e⟩:=hx b hb;exact QD (Qw e)
 ·rcases(hf b hb).2.2.2.1 with z | z
  ·exact I.ok.noex b o e z
  ·exact absurd (QN (Qw (I.ok.bs b o e).1) z) (Wj _)
 ·rcases Qx.mp (I.stkSub b z)with e | e
  ·exact(hf b hb).2.1 e
  ·exact(hf b hb).2.2.1 e
 ·rw[WO]at e2;split at e2 <;> cases e2
 ·obtain⟨v,ob,ho,hd⟩:=I.cell x c (sub e);exact⟨v,ob,kp c ob ho,hd⟩
 ·show(QK (xs.length+mp.length) none:St).length=(lcN N xs mp).length;simp[lcN]
theorem Ze9 {pY:List (Addr×Obj)} {σ':St} {s':Shared} {C:Addr} (I:Inv X pins σ H₀ s₀) (hsc:X.env.scope=sc) (hN:X.N=N) (S:Znh sc scope N xs mp) (hf:∀ b∈fp,Zeu X pins H₀ b)
  (J:Inv (lcx X (lcN N xs mp) scope (Xh X.env scope.names []) C s₀ H₀ fp) pY σ' H s'):Inv (lcx X (lcN N xs mp) scope (Xh X.env scope.names []) C s₀ H₀ fp) pY (lcS xs.length mp σ) H s':=by
 obtain⟨m,hn,_⟩:=J.loc;refine⟨J.ok,J.os,J.bare,J.base,⟨m,hn,fun i x v e1 e2 e3=>?_⟩,J.cell,J.free,J.freeC,J.pin,J.hok,?_⟩
 ·have e1':(lcN N xs mp)[i]?=some x:=e1;unfold lcN at e1';unfold lcS at e2;by_cases hi:i<xs.length
  ·rw[Q3 (by simpa using hi),WO,if_pos hi]at e2;cases e2
  ·rw[QZ (by simpa using hi),WT,Qk]at e2;rw[QZ (by simpa using hi),Qk]at e1';cases ej:mp[i-xs.length]? with
   | none=>rw[ej]at e2;cases e2
   | some j =>
    rw[ej]at e1' e2;have e1'':N.getD j "" = x:=Option.some.inj e1';have e2':(σ[j]?).getD none=some v:=Option.some.inj e2;have e2'':σ[j]?=some (some v):=by
     cases q:σ[j]? with
     | none=>rw[q]at e2';cases e2'
     | some z=>rw[q]at e2';exact congrArg some e2'
    have hj:j<N.length:=by
     have h1:=(Qo.mp e2'').1;rw[I.len,hN]at h1;exact h1
    have eN:N[j]?=some x:=by
     rw[←e1'',Qb];cases q:N[j]? with
     | none=>exact absurd (Q9.mp q) (by omega)
     | some z=>rfl
    have fr:scope.names.lookup x=some .free:=by rw[←e1''];exact S.out j (Wp ej)
    have mem:(x,NameKind.free)∈scope.names:=PySem.mem_of_lookup fr;have kX:X.env.scope.names.lookup x=some .cell\/X.env.scope.names.lookup x=some .free:=by
     rw[hsc];exact S.fr _ mem rfl
    obtain⟨mX,hnX,hl⟩:=I.loc;obtain⟨u,r,lk⟩:=hl j x v (by rw[hN];exact eN) e2'' (.inr kX);rcases lk with ⟨k,_⟩ | ⟨k,c,hc,hcell⟩
    ·have k':X.env.scope.names.lookup x=some .local:=k;rw[k']at kX;rcases kX with z | z <;> cases z
    ·refine⟨u,r,.inr ⟨?_,c,?_,?_⟩⟩
     ·show(relabel scope X.env).names.lookup x=some .cell\/(relabel scope X.env).names.lookup x=some .free;rw[Ju,fr];simp only[Wc];unfold Zng;split
      ·exact .inl rfl
      ·exact .inr rfl
     ·obtain⟨c',e'⟩:=UB.mp (ZaF (env:=X.env) scope.names [] x (.inl mem));have e'':=Zlk I hsc S e';rw[hc]at e'';cases e'';exact e'
     ·obtain⟨ob,ho,hd⟩:=hcell;obtain⟨sl,q⟩:=J.base.any ho (I.freeC x c hc) fun z=>(hf c z).2.2.2.2.1 x c hc rfl;exact⟨_,q,hd⟩
 ·show(lcS xs.length mp σ).length=(lcN N xs mp).length;simp[lcS,lcN]
theorem ZmF {pY:List (Addr×Obj)} {σ':St} {s':Shared} {C:Addr} {M:List Str} {cl:List (Str×Addr)} (I:Inv X pins σ H₀ s₀) (hf:∀ b∈fp,Zeu X pins H₀ b)
  (J:Inv (lcx X M scope cl C s₀ H₀ fp) pY σ' H s'):Inv X pins σ H s' :=
 I.call' (ch:=fp) J.os J.base J.hok J.bare fun b hb=>⟨(hf b hb).2.2.2.1,(hf b hb).2.1,(hf b hb).2.2.2.2.1,(hf b hb).2.2.2.2.2⟩
end
theorem Zen {prog:Program} {w:World} {A:Around} {R:Result->Shared->Prop} {s:Shared} {elt target iter:Expr} {ifs:List Expr} {scope:Scope} {pos:Pos} {it acc:Value} {env:Env} (I:Nat->Shared->Prop)
  (turn:∀ n s,I n s->wpAny (model prog w) A (pyNext it) (fun r s1=>match r with
   | none=>R (.ok .next) s1
   | some v=>wpAny (model prog w) A (letOwnedTupleGo target it v) (fun _ s1'=>wpAny (model prog w) A (assign target env v) (fun _ s2 =>
     wpAny (model prog w) A (forIn ifs true fun c r=>if r=true then do let ok ←isTrue c env (eval c env);pure (ForInStep.yield ok)else pure (ForInStep.yield r)) (fun ok s3 =>
      if ok=true then wpAny (model prog w) A (eval elt env) (fun x s4=>wpAny (model prog w) A (call (.builtin "list.append") [acc,x]) (fun _ s5=>∃ m,m<n/\I m s5) (fun _ _=>False) s4) (fun _ _=>False) s3
      else ∃ m,m<n/\I m s3) (fun _ _=>False) s2) (fun _ _=>False) s1') (fun _ _=>False) s1) (fun _ _=>False) s)
  (n:Nat) (h:I n s):codeAny (model prog w) A (.compLoop (.ListComp elt [⟨target,iter,ifs,0⟩] scope pos) 0 it acc env) R s:=by
 refine codeAny_loop rfl I (fun n s hI=>?_) n h;show wpAny (model prog w) A ((compTurn (.ListComp elt [⟨target,iter,ifs,0⟩] scope pos) 0 it acc env).onRaise (fun x=>do noteFrame x env;theTreesLotGoes x)) _ _ s;refine wpAny_noted ?_;rw[compTurn_list];refine wpAny_bind (wpAny_standAt (wpAny_bind (wpAny_mono (turn n s hI) (fun r s1 h1=>?_) fun _ _ z=>z.elim)));cases r with
 | none=>exact wpAny_pure h1
 | some v =>
  refine wpAny_bind (wpAny_mono h1 (fun _ s1' h1'=>?_) fun _ _ z=>z.elim);refine wpAny_bind (wpAny_mono h1' (fun _ s2 h2=>wpAny_bind (wpAny_mono h2 (fun ok s3 h3=>?_) fun _ _ z=>z.elim)) fun _ _ z=>z.elim);cases ok with
  | false=>exact wpAny_pure ⟨rfl,h3⟩
  | true=>exact wpAny_bind (wpAny_bind (wpAny_mono h3 (fun x s4 h4=>wpAny_bind (wpAny_mono h4 (fun _ s5 h5=>wpAny_pure (wpAny_pure ⟨rfl,h5⟩)) fun _ _ z=>z.elim)) fun _ _ z=>z.elim))
def PCs (X:Cx) (ifs:List Expr) (t:TT):Prop :=
 ∀ (pins:List (Addr×Obj)) (s:Shared) (σ:St) (H:Hp) (Q:Bool->Hp->Prop),Inv X pins σ H s->t σ H Q ->
  wpAny (model X.prog X.w) X.A (forIn ifs true fun c r=>if r=true then do let ok ←isTrue c X.env (eval c X.env);pure (ForInStep.yield ok)else pure (ForInStep.yield r)) (TP X pins σ Q) X.xe s
def Znm:TT:=fun _ H Q=>Q true H
theorem ZZ:PCs X [] Znm:=fun _ _ _ H _ I h=>wpAny_tests_nil ⟨H,I,h⟩
theorem Zak {c:Expr} {t:TT} (h:PT X c t):PCs X [c] t:=fun pins s σ H Q I hw=>wpAny_tests_one (h pins s σ H Q I hw)
def JB (k:Nat) (mp:List Nat) (σ:St) (g:TG) (tc:TT) (te:TE) (J:It) (H1:Hp) (Q:VK):Prop :=
 ∀ D,H1 D=none->∃ W:Nat->Nat->List V->Hp->Prop,(∃ m,W 0 m [] (upd H1 D (.lst [])))/\∀ i m acc H2,W i m acc H2 ->
  (J.stop i H2/\Q (.ref D) H2)\/(J.go i H2/\∀ x H3,J.yld i H2 x H3->g x (lcS k mp σ) H3 fun σ4 H4=>tc σ4 H4 fun b H5 =>
   if b=true then te σ4 H5 fun v H6=>H6 D=some (.lst acc)/\acc.length<sizeLine/\∃ m',m'<m/\W (i+1) m' (acc++[v]) (upd H6 D (.lst (acc++[v])))
   else ∃ m',m'<m/\W (i+1) m' acc H5)
def tLc (k:Nat) (mp:List Nat) (wi:TI) (g:TG) (tc:TT) (te:TE):TE:=fun σ H Q=>wi σ H fun J H1=>JB k mp σ g tc te J H1 Q
section
variable {X:Cx} {pins:List (Addr×Obj)} {σ:St} {elt tgt iter:Expr} {ifs:List Expr} {scope sc:Scope} {pos:Pos} {N xs:List Str} {mp:List Nat} {wi:TI} {g:TG} {tc:TT} {te:TE}
theorem Zlm {s2:Shared} {it:Addr} {fp:List Addr} {tn:Nat->Heap->Prop} {J:It} {Qv:VK} {E:Value->Shared->Prop} {RR:Value->Addr->Result->Shared->Prop}
  (hsc:X.env.scope=sc) (hN:X.N=N) (S:Znh sc scope N xs mp) (hcalm:X.calm=true)
  (hg:∀ cl C s₀ H₀ fp,PG (lcx X (lcN N xs mp) scope cl C s₀ H₀ fp) tgt g) (hc:∀ cl C s₀ H₀ fp,PCs (lcx X (lcN N xs mp) scope cl C s₀ H₀ fp) ifs tc) (he:∀ cl C s₀ H₀ fp,PE (lcx X (lcN N xs mp) scope cl C s₀ H₀ fp) elt te)
  (I2:Inv X pins σ H2 s2) (T:ZkE X.prog X.w X.K tgt J fp it tn) (st2:tn 0 s2.heap) (f2:∀ b∈fp,Zeu X pins H2 b) (h:JB xs.length mp σ g tc te J H2 Qv)
  (hRR:∀ (D C:Addr) (s':Shared) (H':Hp) (m:Str->Option Value),s'.heap.Ns C m->Inv X pins σ H' s'->Zeu X pins H' C->Qv (.ref D) H'->RR (.ref D) C (.ok .next) s') :
  wpAny (model X.prog X.w) X.A (newList []) (fun acc s3=>wpAny (model X.prog X.w) X.A (newFunctionEnv scope X.env.globals (Xh X.env scope.names []) [] X.env.qual none .none (some X.env)) (fun cenv s4 =>
   codeAny (model X.prog X.w) X.A (.compStart (.ListComp elt [⟨tgt,iter,ifs,0⟩] scope pos) 0 (.ref it) acc {cenv with scope:=relabel scope X.env}) (RR acc cenv.locals) s4) E s3) E s2:=by
 have hD:H2 s2.heap.objs.size=none:=I2.hok.fresh (Qi _);obtain⟨W,⟨m0,w0⟩,turn⟩:=h s2.heap.objs.size hD;refine wpAny_newObj_type (wpAny_newFunctionEnv S.nocell (by intro y hy;simp at hy) (fun h1 hns1 hsb1=>?_) S.kind);dsimp only at hns1 hsb1 ⊢;have fpD:∀ b∈fp,b≠s2.heap.objs.size:=fun b hb=>by
  obtain⟨o,e,_⟩:=T.obj _ _ st2 b hb;exact QD (Qw e)
 have I3:Inv X pins σ (upd H2 s2.heap.objs.size (.lst [])) {s2 with heap:=s2.heap.push {cls:=.type "list",dict:=none,data:=.seq ([]:List Value).toArray}} :=
  I2.laid (t':=s2.toks) (fun b u e=>Qh _ e) (Qi _) ⟨QL _,[],0,.nil,Qz _ rfl⟩
 have f3:∀ b∈fp,Zeu X pins (upd H2 s2.heap.objs.size (.lst [])) b:=fun b hb=>⟨by rw[Zi (fpD b hb)];exact(f2 b hb).1,(f2 b hb).2⟩
 generalize hs3:({s2 with heap:=s2.heap.push {cls:=.type "list",dict:=none,data:=.seq ([]:List Value).toArray}}:Shared)=s3 at I3;have hh3:s2.heap.push {cls:=.type "list",dict:=none,data:=.seq ([]:List Value).toArray}=s3.heap:=by rw[←hs3]
 have kp3:∀ b o,s2.heap.get? b=some o->s3.heap.get? b=some o:=fun b o e=>by rw[←hh3];exact Qh _ e
 rw[hh3]at hns1 hsb1 ⊢;have st3:tn 0 s3.heap:=T.keep _ _ _ st2 fun b _ o e=>kp3 b o e;have x3:∀ b∈fp,∃ o,s3.heap.get? b=some o:=fun b hb=>by
  obtain⟨o,e,_⟩:=T.obj _ _ st3 b hb;exact⟨o,e⟩
 have st4:tn 0 h1:=T.keep _ _ _ st3 fun b _ o e=>hsb1.extBut b o (QD (Qw e)) (Qh _ e);have I4:=fun tk=>Ze9 I3 hsc hN S f3 (Zok (tk:=tk) I3 hsc S f3 x3 hns1 hsb1);have key:∀ s4:Shared,s4={s3 with heap:=h1,toks:=s4.toks}->codeAny (model X.prog X.w) X.A (.compLoop (.ListComp elt [⟨tgt,iter,ifs,0⟩] scope pos) 0 (.ref it) (.ref s2.heap.objs.size) (compEnvC scope (Xh X.env scope.names []) s3.heap.objs.size X.env))
   (RR (.ref s2.heap.objs.size) s3.heap.objs.size) s4:=by
  intro s4 hs4;have stat:∀ {H':Hp},(∀ b∈fp,H' b=none)->∀ b∈fp,Zeu (lcx X (lcN N xs mp) scope (Xh X.env scope.names []) s3.heap.objs.size s3 (upd H2 s2.heap.objs.size (.lst [])) fp) [] H' b:=fun hn b hb =>
   ⟨hn b hb,((I4 0).ok.exf b hb).1,(I4 0).ok.exfs b hb,.inl hb,((I4 0).ok.exf b hb).2,fun p hp=>absurd (show p∈([]:List (Addr×Obj))from hp) (by simp)⟩
  refine Zen (fun n s'=>∃ i acc H',Inv (lcx X (lcN N xs mp) scope (Xh X.env scope.names []) s3.heap.objs.size s3 (upd H2 s2.heap.objs.size (.lst [])) fp) [] (lcS xs.length mp σ) H' s'/\tn i s'.heap/\(∀ b∈fp,H' b=none)/\W i n acc H') ?_ m0
   ⟨0,[],_,(by rw[hs4];exact I4 _),(by rw[hs4];exact st4),fun b hb=>(f3 b hb).1,w0⟩
  rintro n s6 ⟨i,acc,H6,I6,st6,fr6,w6⟩;rcases turn i n acc H6 w6 with ⟨stop,q⟩ | ⟨go,step⟩
  ·refine thn (T.done (lcx X (lcN N xs mp) scope (Xh X.env scope.names []) s3.heap.objs.size s3 (upd H2 s2.heap.objs.size (.lst [])) fp) rfl rfl rfl hcalm i [] s6 _ H6 _ I6 (stat fr6) st6 stop) fun r s7 ⟨hr,I7⟩=>?_;subst hr;obtain⟨m7,hn7,_⟩:=I7.loc;exact hRR _ _ s7 H6 m7 hn7 (ZmF I3 f3 I7) (I3.fpOk (Qi _) I7.free) q
  ·refine thn (T.item (lcx X (lcN N xs mp) scope (Xh X.env scope.names []) s3.heap.objs.size s3 (upd H2 s2.heap.objs.size (.lst [])) fp) rfl rfl rfl hcalm i [] s6 _ H6 _ I6 (stat fr6) st6 go) fun r s7 ⟨u,hr,h7⟩=>?_;subst hr;refine thn h7 fun _ s8 ⟨x,H8,I8,r8,y8,st8,fr8⟩=>?_;have I8':=I8.pinned (stat fr8) (T.obj _ _ st8);have again:∀ {σ':St} {H':Hp} {s':Shared},Inv (lcx X (lcN N xs mp) scope (Xh X.env scope.names []) s3.heap.objs.size s3 (upd H2 s2.heap.objs.size (.lst [])) fp) ([]++ZcO fp s8.heap) σ' H' s'->(∃ m acc',m<n/\W (i+1) m acc' H') ->
     ∃ m,m<n/\∃ i acc H',Inv (lcx X (lcN N xs mp) scope (Xh X.env scope.names []) s3.heap.objs.size s3 (upd H2 s2.heap.objs.size (.lst [])) fp) [] (lcS xs.length mp σ) H' s'/\tn i s'.heap/\(∀ b∈fp,H' b=none)/\W i m acc H':=by
    intro σ' H' s' J ⟨m,acc',hm,w'⟩;refine⟨m,hm,i+1,acc',H',Ze9 I3 hsc hN S f3 J.unpinned,T.keep _ _ _ st8 fun b hb o e=>(J.pin (b,o) (QU _ (QU _ (Xt hb e)))).1,fun b hb=>?_,w'⟩;obtain⟨o,e,_⟩:=T.obj _ _ st8 b hb;exact(J.pin (b,o) (QU _ (QU _ (Xt hb e)))).2.1
   refine thn (hg _ _ _ _ _ _ s8 _ H8 x u _ I8' r8 (step x H8 y8)) fun _ s9 ⟨σ9,H9,I9,q9⟩=>?_;refine thn (hc _ _ _ _ _ _ s9 σ9 H9 _ I9 q9) fun b s10 ⟨H10,I10,q10⟩=>?_;cases b with
   | false =>
    obtain⟨m',hm,w'⟩:=q10;exact again I10 ⟨m',acc,hm,w'⟩
   | true =>
    refine thn (he _ _ _ _ _ _ s10 σ9 H10 _ I10 q10) fun yv s11 ⟨v,H11,I11,r11,hDa,hz,m',hm,w'⟩=>?_;refine thn (Zc8 _ s11 σ9 H11 (.ref s2.heap.objs.size) [v] (.ref s2.heap.objs.size) [yv] (fun _ H12=>H12=upd H11 s2.heap.objs.size (.lst (acc++[v]))) I11 rfl (.cons r11 .nil) ⟨_,acc,v,rfl,rfl,hDa,hz,rfl⟩) fun _ s12 ⟨_,H12,I12,_,e12⟩=>?_;subst e12;exact again I12 ⟨m',_,hm,w'⟩
 subst hs3;exact codeAny_compStart_list (key _ rfl) (T.self X.A 0 _ _ _ st4 (key _ rfl))
theorem ZJ (sc:Scope) (N xs:List Str) (mp:List Nat) (hcalm:X.calm=true) (hi:PI X tgt iter wi) (hg:∀ cl C s₀ H₀ fp,PG (lcx X (lcN N xs mp) scope cl C s₀ H₀ fp) tgt g)
  (hc:∀ cl C s₀ H₀ fp,PCs (lcx X (lcN N xs mp) scope cl C s₀ H₀ fp) ifs tc) (he:∀ cl C s₀ H₀ fp,PE (lcx X (lcN N xs mp) scope cl C s₀ H₀ fp) elt te)
  (S:Zj5 sc scope N xs mp=true:=by decide +kernel) (hsc:X.env.scope=sc:=by rfl) (hN:X.N=N:=by rfl) (hs:∀ x,foldedSetIterable iter X.env x=pure x:=by intro _;rfl) :
  PE X (.ListComp elt [⟨tgt,iter,ifs,0⟩] scope pos) (tLc xs.length mp wi g tc te):=by
 intro pins s σ H Q I h;have S':=Zfb S;rw[eval_ListComp];refine wpAny_comprehension_free (use:=none) rfl hs (X1 (Zb8 I hsc S')) S'.kind S'.names (thn (hi pins s σ H _ I h) fun v s1 h1=>thn h1 fun itv s2 h2=>?_);obtain⟨it,fp,tn,J,H2,e,I2,T,st2,f2,h3⟩:=h2;subst e;refine Zlm (RR:=fun acc C=>compPost (model X.prog X.w) X.A X.xe none (EP X pins σ Q) acc C) hsc hN S' hcalm hg hc he I2 T st2 f2 h3 ?_;intro D C s' H' m hn I' fC q;exact⟨m,hn,fun h' hs'=>⟨.ref D,H',I'.turned (t':=s'.toks) (fun b o hb e=>hs'.extBut b o hb e) fC.1 fC.2.1 fC.2.2.2.1 fC.2.2.2.2.1 fC.2.2.2.2.2,rfl,q⟩⟩
theorem ZbP {pos' spos:Pos} (sc:Scope) (N xs:List Str) (mp:List Nat) (hNd:X.N.Nodup) (hix:X.N[i]?=some x) (hx:Loc X.env.scope x) (hcalm:X.calm=true) (hi:PI X tgt iter wi) (hg:∀ cl C s₀ H₀ fp,PG (lcx X (lcN N xs mp) scope cl C s₀ H₀ fp) tgt g)
  (hc:∀ cl C s₀ H₀ fp,PCs (lcx X (lcN N xs mp) scope cl C s₀ H₀ fp) ifs tc) (he:∀ cl C s₀ H₀ fp,PE (lcx X (lcN N xs mp) scope cl C s₀ H₀ fp) elt te)
  (S:Zj5 sc scope N xs mp=true:=by decide +kernel) (hsw:swapsWith (.ListComp elt [⟨tgt,iter,ifs,0⟩] scope pos) (some (.Name x pos')) spos.line X.env=pure true:=by rfl)
  (hsc:X.env.scope=sc:=by rfl) (hN:X.N=N:=by rfl) (hs:∀ x,foldedSetIterable iter X.env x=pure x:=by intro _;rfl) (hf:X.fn x=true\/X.env.scope.names.lookup x=some .local:=by first | exact .inl rfl | exact .inr rfl | assumption) :
  PS X (.Assign [.Name x pos'] (.ListComp elt [⟨tgt,iter,ifs,0⟩] scope pos) spos) (ZoQ (tLc xs.length mp wi g tc te) (JI i)):=by
 intro pins s σ H D I h;have S':=Zfb S;rw[exec_Assign_Name_used _ _ _ _ hsw];refine wpAny_bind (wpAny_standAt (wpAny_bind ?_));show wpAny (model X.prog X.w) X.A (do let _ ←comprehension (.ListComp elt [⟨tgt,iter,ifs,0⟩] scope pos) scope X.env _ (newList []) false (eval iter X.env) (some (assign (.Name x pos') X.env))) _ _ s;refine wpAny_bind (wpAny_mono (wpAny_comprehension_free (use:=some (assign (.Name x pos') X.env)) (Q:=fun _ s'=>SP X pins D .next s') rfl hs (X1 (Zb8 I hsc S')) S'.kind S'.names
  (thn (hi pins s σ H _ I h) fun v s1 h1=>thn h1 fun itv s2 h2=>?_)) (fun _ s' hq=>wpAny_pure (wpAny_pure hq)) fun _ _ e=>e)
 obtain⟨it,fp,tn,J,H2,e,I2,T,st2,f2,h3⟩:=h2;subst e;refine Zlm (RR:=fun acc C=>compPost (model X.prog X.w) X.A X.xe (some (assign (.Name x pos') X.env)) (fun _ s'=>SP X pins D .next s') acc C) hsc hN S' hcalm hg hc he I2 T st2 f2 h3 ?_;intro D' C s' H' m hn I' fC q;show wpAny (model X.prog X.w) X.A (assign (.Name x pos') X.env (.ref D')) _ _ s';refine wpAny_assign_Name (ZcE I' hNd hix hx (v:=.ref D') rfl (fun s'' I'' ⟨a,sb,ha⟩=>?_) hf);have nC:C≠a:=by
  rcases ha with z | z
  ·rw[z];exact fC.2.1
  ·exact fun e=>fC.2.2.2.2.1 x a z e.symm
 refine⟨m,hn.sameBut sb nC,fun h' hs'=>⟨_,H',I''.turned (t':=s''.toks) (fun b o hb e=>hs'.extBut b o hb e) fC.1 fC.2.1 fC.2.2.2.1 fC.2.2.2.2.1 fC.2.2.2.2.2,q⟩⟩
end
def TSame (H H':Hp):Prop:=∀ b xs,H b=some (.tup xs)->H' b=some (.tup xs)
theorem Same.tup (h:Same H H'):TSame H H':=fun b xs e=>h b _ e
theorem TSame.trans (a:TSame H H1) (b:TSame H1 H2):TSame H H2:=fun c xs e=>b c xs (a c xs e)
theorem YU {D:Addr} (h:H D=some (.lst xs)):TSame H (upd H D (.lst ys)):=fun b zs e=>by
 rw[Zi (fun z=>by rw[z,h]at e;cases e)];exact e
theorem Zb {D:Addr} {o:HO} (h:H D=none):Same H (upd H D o):=fun b u e=>by
 rw[Zi (Zk e h)];exact e
theorem Xc {σ:St} {g:TG} {te:TE} {J:It} {Q:VK} (n:Nat) (xs:Nat->V) (R:Nat->V->Hp->Prop) (hn:n<=sizeLine)
  (hR:∀ i v H H',TSame H H'->R i v H->R i v H')
  (hJ:∀ H,Same H1 H->(∀ i,i<n->J.go i H/\∀ x H',J.yld i H x H'->H'=H/\x=xs i)/\J.stop n H)
  (step:∀ i H (Qe:VK),i<n->Same H1 H->(∀ v H6,Same H H6->R i v H6->Qe v H6)->g (xs i) (lcS k mp σ) H fun σ4 H4=>te σ4 H4 Qe)
  (done:∀ D vs H',vs.length=n->(∀ i v,vs[i]?=some v->R i v H')->Same H1 H'->H1 D=none->H' D=some (.lst vs)->Q (.ref D) H'):JB k mp σ g Znm te J H1 Q:=by
 intro D hD;refine⟨fun i m acc H=>m=n-i/\i<=n/\acc.length=i/\Same H1 H/\H D=some (.lst acc)/\∀ j v,acc[j]?=some v->R j v H,⟨n,by simp,QL _,rfl,Zb hD,Zc,fun j v e=>by simp at e⟩,?_⟩;rintro i m acc H ⟨rfl,hi,hl,hs,hDa,hr⟩;obtain⟨j1,j2⟩:=hJ H hs;by_cases hlt:i<n
 ·refine .inr ⟨(j1 i hlt).1,fun x H3 y=>?_⟩;obtain⟨e1,e2⟩:=(j1 i hlt).2 x H3 y;subst e1 e2;refine step i H3 _ hlt hs fun v H6 s6 r6=>⟨s6 _ _ hDa,by omega,n-(i+1),by omega,rfl,hlt,by rw[Qp,hl];rfl,fun b o e=>?_,Zc,fun j u e=>?_⟩
  ·rw[Zi (Zk e hD)];exact s6 _ _ (hs b o e)
  ·have ts:TSame H6 (upd H6 D (.lst (acc++[v]))):=YU (s6 _ _ hDa);rcases UI j acc.length with h | h | h
   ·rw[Q3 h]at e;exact hR _ _ _ _ (s6.tup.trans ts) (hr j u e)
   ·subst h;rw[QZ (Qi _),Ur]at e;cases e;rw[hl];exact hR _ _ _ _ ts r6
   ·rw[Ql (by rw[Qp,QA];omega)]at e;cases e
 ·have e:i=n:=by omega
  subst e;exact .inl ⟨j2,done D acc H hl hr hs hD hDa⟩
theorem Xd {K:PySem.W.Frag} (h:SqL K H1 a ys):∀ H,Same H1 H->(∀ i,i<ys.length->(Itl K a).go i H/\∀ x H',(Itl K a).yld i H x H'->H'=H/\x=ys.getD i .non)/\(Itl K a).stop ys.length H:=fun H s=>by
 have q:=s.seq h;refine⟨fun i hi=>⟨⟨ys,ys[i],q,by simp[hi]⟩,fun x H' y=>⟨y.1,?_⟩⟩,⟨ys,q,Qi _⟩⟩;have e:=y.2 ys q;rw[Qb,e];rfl
theorem Same.tupS {K:PySem.W.Frag} (e:Same H H') (h:SqT K H a xs):SqT K H' a xs:=by
 rcases h with (h | ⟨o,h⟩) | h
 ·exact .inl (.inl (e _ _ h))
 ·exact .inl (.inr ⟨o,e _ _ h⟩)
 ·exact .inr h
theorem Zaw {K:PySem.W.Frag} (h:SqT K H1 a ys):∀ H,Same H1 H->(∀ i,i<ys.length->(Itt K a).go i H/\∀ x H',(Itt K a).yld i H x H'->H'=H/\x=ys.getD i .non)/\(Itt K a).stop ys.length H:=fun H s=>by
 have q:=s.tupS h;refine⟨fun i hi=>⟨⟨ys,ys[i],q,by simp[hi]⟩,fun x H' y=>⟨y.1,?_⟩⟩,⟨ys,q,Qi _⟩⟩;have e:=y.2 ys q;rw[Qb,e];rfl
theorem Zj7 {lo:Int}:∀ H,Same H1 H->(∀ i,i<n->(Itr lo n).go i H/\∀ x H',(Itr lo n).yld i H x H'->H'=H/\x= .int (lo+i))/\(Itr lo n).stop n H:=fun H _ =>
 ⟨fun i hi=>⟨hi,fun x H' y=>y⟩,Qi _⟩
def Its (x:Str):It:=⟨fun i _=>i<x.cps.size,fun i H v H'=>H'=H/\v= .str ⟨#[x.cps.getD i 0]⟩,fun i _=>x.cps.size<=i⟩
theorem Zln:∀ H,Same H1 H->(∀ i,i<x.cps.size->(Its x).go i H/\∀ v H',(Its x).yld i H v H'->H'=H/\v= .str ⟨#[x.cps.getD i 0]⟩)/\(Its x).stop x.cps.size H:=fun H _ =>
 ⟨fun i hi=>⟨hi,fun v H' y=>y⟩,Qi _⟩
theorem Zey {P:Program} {w:World} {K:PySem.W.Frag} {tg:Expr} (it:Addr) (x:Str) (t:Tok) (T:String) (hT:T = "str_ascii_iterator"\/T = "str_iterator"):ZkE P w K tg (Its x) [it] it (fun i h=>h.IsStrIter it T x t i) where
 mem:=by simp
 obj:=fun i h st b hb=>by
  have e:b=it:=by simpa using hb
  subst e;obtain⟨o,e,c,d⟩:=st;exact⟨o,e,fun v z=>by rw[d]at z;cases z⟩
 keep:=fun i h h' st k=>by
  obtain⟨o,e,c,d⟩:=st;exact⟨o,k it (by simp) o e,c,d⟩
 item:=by
  intro X hP hw hK hc i pins s σ H E I hf st hg;subst hP hw hK;obtain⟨f0,f1,f2,f3,f4,f5⟩:=hf it (by simp);have hd:=I.ok.hd hc;have fin:∀ (v:Value) (h':Heap) (tk:Nat),SignAt x i v->h'.IsStrIter it T x t (i+1)->(∀ b o,b∉[it]->s.heap.get? b=some o->h'.get? b=some o) ->
    ∃ u,some v=some u/\wpAny (model X.prog X.w) X.A (letOwnedTupleGo tg (.ref it) u) (fun _ s2=>∃ y H',Inv X pins σ H' s2/\RelV y u/\(Its x).yld i H y H'/\s2.heap.IsStrIter it T x t (i+1)/\∀ b∈[it],H' b=none) E {s with heap:=h',toks:=tk}:=by
   intro v h' tk hv st' kk;obtain⟨c,u,hc',rfl⟩:=hv;have I1:Inv X pins σ H {s with heap:=h',toks:=tk}:=I.turned (fun b o hb e=>kk b o (by simpa using hb) e) f0 f1 f3 f4 f5;obtain⟨o,e,c1,d1⟩:=id st';refine⟨_,rfl,Ziz (s:={s with heap:=h',toks:=tk}) e c1 d1 (by rcases hT with z | z <;> rw[z] <;> decide) ⟨.str ⟨#[x.cps.getD i 0]⟩,H,I1,⟨u,?_⟩,⟨rfl,rfl⟩,st',fun b hb=>(hf b hb).1⟩⟩;rw[QQ,hc'];rfl
  rcases hT with z | z
  ·subst z;exact(Walks.strAscii (prog:=X.prog) (w:=X.w) hd it x t).item i s _ _ hg st fun v h' tk hv st' kk=>fin v h' tk hv st' kk
  ·subst z;exact(Walks.strWide (prog:=X.prog) (w:=X.w) hd it x t).item i s _ _ hg st fun v h' tk hv st' kk=>fin v h' tk hv st' kk
 done:=by
  intro X hP hw hK hc i pins s σ H E I hf st hg;subst hP hw hK;obtain⟨f0,f1,f2,f3,f4,f5⟩:=hf it (by simp);have hd:=I.ok.hd hc;have hg':x.cps.size<=i:=hg;have hn:x.cps[i]?=none:=Uj hg';rcases hT with z | z
  ·subst z;exact wpAny_pyNext_ascii_end hd st hn fun h' eb=>⟨rfl,I.turned (t':=s.toks) (fun b o hb e=>eb b o hb e) f0 f1 f3 f4 f5⟩
  ·subst z;exact wpAny_pyNext_wide_end hd st hn fun h' eb=>⟨rfl,I.turned (t':=s.toks) (fun b o hb e=>eb b o hb e) f0 f1 f3 f4 f5⟩
 self:=fun _ _ _ _ _ st h=>by
  rcases hT with z | z
  ·subst z;exact wpAny_pyIter_striter_ascii st h
  ·subst z;exact wpAny_pyIter_striter_wide st h
def Zqg (tl:TE):TI:=fun σ H R=>tl σ H fun v H1=>∃ x,v= .str x/\R (Its x) H1
theorem Zk7 {tg l:Expr} {tl:TE} (hl:PE X l tl):PI X tg l (Zqg tl):=by
 intro pins s σ H R I h;refine thn (hl pins s σ H _ I h) fun v s1 ⟨y,H1,I1,r1,q1⟩=>?_;obtain⟨x,e,q⟩:=q1;subst e;obtain⟨t,rfl⟩:=r1;cases ha:x.cps.all (· < 128)with
 | true =>
  refine wpAny_pyIter_ascii ha ⟨s1.heap.objs.size,[s1.heap.objs.size],_,_,H1,rfl,I1.kept (t':=s1.toks) fun b o e=>Qh _ e,Zey _ x t _ (.inl rfl),⟨_,Qz _ rfl,rfl,rfl⟩,fun b hb=>?_,q⟩;have e:b=s1.heap.objs.size:=by simpa using hb
  subst e;exact I1.fpOk (Qi _) (I1.hok.fresh (Qi _))
 | false =>
  refine wpAny_pyIter_wide ha ⟨s1.heap.objs.size,[s1.heap.objs.size],_,_,H1,rfl,I1.kept (t':=s1.toks) fun b o e=>Qh _ e,Zey _ x t _ (.inr rfl),⟨_,Qz _ rfl,rfl,rfl⟩,fun b hb=>?_,q⟩;have e:b=s1.heap.objs.size:=by simpa using hb
  subst e;exact I1.fpOk (Qi _) (I1.hok.fresh (Qi _))
section
variable {X:Cx}
def Zp9:V->Option Int->Option Int->Hp->VK->Prop:=fun x lo hi H Q=>∃ z:Str,x= .str z/\z.length<=sizeLine/\Q (.str (Txt.slice z lo hi)) H
theorem Js:SlR X Zp9:=by
 intro pins s σ H x v vl vu lo hi sl Q I rx hs pl pu h;obtain⟨z,rfl,hz,q⟩:=h;obtain⟨t,rfl⟩:=rx;have fin:∀ t' k,EP X pins σ Q (.str (Txt.slice z lo hi) t') {s with toks:=k}:=fun t' k=>⟨.str _,H,I.tok _,⟨_,rfl⟩,q⟩
 have hle:(Txt.slice z lo hi).length<=sizeLine:=Q7 (Txt.slice_le z _ _) hz;cases pl with
 | none =>
  cases pu with
  | none=>exact⟨"str",_,F.slot_str_getitem.lookup,typeIs_str _ _ _,wpAny_getItem_str_slice (l:=none) (u:=none) (st:=none) hs rfl (post_val_or_str ⟨hle,fin⟩)⟩
  | int j u=>exact⟨"str",_,F.slot_str_getitem.lookup,typeIs_str _ _ _,wpAny_getItem_str_slice (l:=none) (u:=some (j,u)) (st:=none) hs rfl (post_val_or_str ⟨hle,fin⟩)⟩
 | int i u' =>
  cases pu with
  | none=>exact⟨"str",_,F.slot_str_getitem.lookup,typeIs_str _ _ _,wpAny_getItem_str_slice (l:=some (i,u')) (u:=none) (st:=none) hs rfl (post_val_or_str ⟨hle,fin⟩)⟩
  | int j u=>exact⟨"str",_,F.slot_str_getitem.lookup,typeIs_str _ _ _,wpAny_getItem_str_slice (l:=some (i,u')) (u:=some (j,u)) (st:=none) hs rfl (post_val_or_str ⟨hle,fin⟩)⟩
theorem Ja:∀ {ss:List Str} {us:List Value},Vals (ss.map V.str) us->StrsAre us ss
 | [],_,r=>by
  cases r;exact .nil
 | x::ss,_,r=>by
  cases r with
  | cons r1 r2 =>
   obtain⟨t,e⟩:=r1;subst e;exact .cons x t (Ja r2)
def Zpf (K:PySem.W.Frag):V->List V->Hp->VK->Prop:=fun x vs H Q=>∃ (z:Str) (a:Addr) (ys:List Str),x= .str z/\vs=[.ref a]/\SqL K H a (ys.map V.str)/\(ys.map (·.length)).sum+ys.length*z.length<=16777216/\Q (.str (Txt.join z ys)) H
theorem Zmz:MtR X "str.join" (Zpf X.K):=by
 intro pins s σ H x vs v us Q I rx rv h;obtain⟨z,a,ys,rfl,rfl,hq,hz,q⟩:=h;obtain⟨t,rfl⟩:=rx;obtain⟨u,rfl,ru⟩:=YT rv;cases ru;obtain⟨its,r,pl,_⟩:=I.list hq;exact join_list pl.isList (Ja (by simpa using r)) hz fun t' k=>⟨.str _,H,I.tok _,⟨_,rfl⟩,q⟩
theorem Zi1 (hc:X.calm=true):CallR X (.builtin "all") (fun xs H Q=>∃ (a:Addr) (bs:List Bool),xs=[.ref a]/\SqL X.K H a (bs.map V.bl)/\Q (.bl (bs.all id)) H):=by
 intro pins s σ H xs us Q I r h;obtain⟨a,bs,rfl,hq,q⟩:=h;obtain⟨u,rfl,ru⟩:=YT r;cases ru;obtain⟨its,rv,pl,hz⟩:=I.list hq;have hl:=rv.length;rw[Qc]at hl;have hlt:a<s.heap.objs.size:=by
  obtain⟨o,n,e,_⟩:=pl;exact Qw e
 refine call_all_walk (wpAny_pyIter_list pl.isList ⟨s.heap.objs.size,[s.heap.objs.size,a],[s.heap.objs.size],its.toArray.size,_,_,fun i=>bs.getD i false,rfl,Walks.list (A:=X.A.in1) (I.ok.hd hc) _ _ (QD hlt) its.toArray,
  ⟨⟨_,Qz _ rfl,rfl,rfl⟩,pl.isList.push _⟩,?_,?_⟩)
 ·intro i v Q' E' s' hv hQ;have hi:i<its.length:=by
   have:=(Array.getElem?_eq_some_iff.mp hv).1;simpa using this
  have e1:its[i]?=some v:=by simpa using hv
  have hb:(bs.map V.bl)[i]?=some (.bl (bs.getD i false)):=by
   rw[Qk,Qb];cases e:bs[i]? with
   | none=>exact absurd (Q9.mp e) (by omega)
   | some b=>rfl
  obtain⟨u',hu,ru⟩:=rv.get hb;rw[e1]at hu;cases hu;have ev:v=Value.bool (bs.getD i false):=ru;rw[ev];exact wpAny_truthy_bool hQ
 ·intro h' tk kk;have e:((Qs its.toArray.size).all fun i=>bs.getD i false)=bs.all id:=by
   rw[Qu,←hl];rw[WE,WG,WG];constructor
   ·intro h b hb;obtain⟨i,hi,e⟩:=WP hb;have:=h i (QM.mpr hi);rw[Qb,Qa hi,e]at this;exact this
   ·intro h i hi;have hi':=QM.mp hi;rw[Qb,Qa hi'];exact h _ (QF hi')
  rw[e];exact⟨.bl _,H,I.kept fun b o e=>kk b o (by simpa using QD (Qw e)) (Qh _ e),rfl,q⟩
theorem YA:∀ (ns:List Int) (k:Nat),preSum (fun i=>ns.getD i 0) k=(ns.take k).sum
 | ns,0=>by simp[preSum]
 | ns,k+1=>by
  rw[preSum,YA ns k];by_cases h:k<ns.length
  ·rw[RQ,Qa h,Qb,Qa h];simp only[WU,Option.toList_some,Qy,RG,WR];omega
  ·have h':ns.length<=k:=RZ h;rw[Q6 h',Q6 (Ul h'),Qb,Ql h'];simp
theorem Zdt (hc:X.calm=true):CallR X (.builtin "sum") (fun xs H Q=>∃ (a:Addr) (ns:List Int),xs=[.ref a]/\SqL X.K H a (ns.map V.int)/\(∀ n∈ns,InLong n)/\(∀ k,InLong (ns.take k).sum)/\Q (.int ns.sum) H):=by
 intro pins s σ H xs us Q I r h;obtain⟨a,ns,rfl,hq,h1,h2,q⟩:=h;obtain⟨u,rfl,ru⟩:=YT r;cases ru;obtain⟨its,rv,pl,hz⟩:=I.list hq;have hl:=rv.length;rw[Qc]at hl;have hlt:a<s.heap.objs.size:=by
  obtain⟨o,n,e,_⟩:=pl;exact Qw e
 refine call_sum_walk (wpAny_pyIter_list pl.isList ⟨s.heap.objs.size,[s.heap.objs.size,a],[s.heap.objs.size],its.toArray.size,_,_,fun i=>ns.getD i 0,rfl,Walks.list (A:=X.A.in1) (I.ok.hd hc) _ _ (QD hlt) its.toArray,
  ⟨⟨_,Qz _ rfl,rfl,rfl⟩,pl.isList.push _⟩,?_,?_,?_,?_⟩)
 ·intro b hb;show b<(s.heap.push _).objs.size;rw[WK];have:b=s.heap.objs.size\/b=a:=by simpa using hb
  rcases this with z | z
  ·rw[z];exact WF _
  ·rw[z];exact Ua hlt
 ·intro i v hv;have e1:its[i]?=some v:=by simpa using hv
  have hi:i<its.length:=(Qo.mp e1).1;have hb:(ns.map V.int)[i]?=some (.int (ns.getD i 0)):=by
   rw[Qk,Qb];cases e:ns[i]? with
   | none=>exact absurd (Q9.mp e) (by omega)
   | some b=>rfl
  obtain⟨u',hu,ru⟩:=rv.get hb;rw[e1]at hu;cases hu;exact ru
 ·intro j hj;have hj':j<ns.length:=by rw[hl];simpa using hj
  refine⟨?_,?_⟩
  ·show InLong (ns.getD j 0);rw[Qb,Qa hj'];exact h1 _ (QF hj')
  ·rw[YA];exact h2 _
 ·intro h' tk t' kk;refine⟨.int ns.sum,H,I.kept fun b o e=>kk b o (by simpa using QD (Qw e)) (Qh _ e),⟨t',?_⟩,q⟩;rw[YA,Q6 (by rw[Qu];omega)]
def ZpU:V->Option Value
 | .ty n=>some (.type n)
 | .ref a=>some (.ref a)
 | _=>none
theorem Zky:CallR X (.builtin "isinstance") (fun xs H Q=>∃ (x c:V) (t cv:Value) (b:Bool),xs=[x,c]/\ZfB X.K H x t/\ZpU c=some cv/\PySem.W.kitOne X.K t cv=some b/\Q (.bl b) H):=by
 intro pins s σ H xs us Q I r h;obtain⟨x,c,t,cv,b,rfl,ty,rc,e,q⟩:=h;obtain⟨u,w',rfl,ru,rw'⟩:=ZlG r;have ec:w'=cv:=by
  cases c with
  | ty n=>exact(show w'=Value.type n from rw').trans (Option.some.inj rc)
  | ref n=>exact(show w'=Value.ref n from rw').trans (Option.some.inj rc)
  | _=>cases rc
 subst ec;exact Zip I ru ty e fun tk=>⟨.bl b,H,I.tok _,rfl,q⟩
end
mutual
def RepD (H:Hp):PyData->V->Prop
 | .none,v=>v= .non
 | .bool b,v=>v= .bl b
 | .int i,v=>v= .int i
 | .str x,v=>v= .str x
 | .tuple ds,v=>∃ a xs,v= .ref a/\H a=some (.tup xs)/\RepA H ds xs
 | .list ds,v=>∃ a xs,v= .ref a/\H a=some (.lst xs)/\RepA H ds xs
 | .dict _,_=>False
def RepA (H:Hp):List PyData->List V->Prop
 | [],xs=>xs=[]
 | d::ds,xs=>∃ v vs,xs=v::vs/\RepD H d v/\RepA H ds vs
end
mutual
theorem RepD.same {H H':Hp} (h:Same H H'):∀ (d:PyData) (v:V),RepD H d v->RepD H' d v
 | .none,_,r=>r
 | .bool _,_,r=>r
 | .int _,_,r=>r
 | .str _,_,r=>r
 | .tuple ds,v,r=>by
  rw[RepD]at r ⊢;obtain⟨a,xs,e,e2,q⟩:=r;exact⟨a,xs,e,h _ _ e2,RepA.same h ds xs q⟩
 | .list ds,v,r=>by
  rw[RepD]at r ⊢;obtain⟨a,xs,e,e2,q⟩:=r;exact⟨a,xs,e,h _ _ e2,RepA.same h ds xs q⟩
 | .dict _,v,r=>by
  rw[RepD]at r;exact r.elim
theorem RepA.same {H H':Hp} (h:Same H H'):∀ (ds:List PyData) (vs:List V),RepA H ds vs->RepA H' ds vs
 | [],_,r=>r
 | d::ds,vs,r=>by
  rw[RepA]at r ⊢;obtain⟨v,us,e,q1,q2⟩:=r;exact⟨v,us,e,RepD.same h d v q1,RepA.same h ds us q2⟩
end
section
variable {X:Cx} {pins:List (Addr×Obj)} {σ:St} {H:Hp} {s:Shared}
mutual
theorem RepD.reads (I:Inv X pins σ H s):∀ (d:PyData) (v:V) (u:Value),RepD H d v->RelV v u->∃ as,Reads s.heap u d as
 | .none,v,u,r,q=>by
  rw[RepD]at r;subst r;cases q;exact⟨_,.none⟩
 | .bool b,v,u,r,q=>by
  rw[RepD]at r;subst r;cases q;exact⟨_,.bool b⟩
 | .int i,v,u,r,q=>by
  rw[RepD]at r;subst r;obtain⟨t,rfl⟩:=q;exact⟨_,.int i t⟩
 | .str x,v,u,r,q=>by
  rw[RepD]at r;subst r;obtain⟨t,rfl⟩:=q;exact⟨_,.str x t⟩
 | .tuple ds,v,u,r,q=>by
  rw[RepD]at r;obtain⟨a,xs,e,e2,q2⟩:=r;subst e;cases q;obtain⟨its,rv,⟨o,h1,h2,n,h3⟩,_⟩:=I.tuple (SqT.of e2);obtain⟨as,q3⟩:=RepA.reads I ds xs its q2 rv;exact⟨_,.tuple h1 h2 h3 (by simpa using q3)⟩
 | .list ds,v,u,r,q=>by
  rw[RepD]at r;obtain⟨a,xs,e,e2,q2⟩:=r;subst e;cases q;obtain⟨its,rv,⟨o,n,h1,h2,_,h3⟩,_⟩:=I.list (SqL.of e2);obtain⟨as,q3⟩:=RepA.reads I ds xs its q2 rv;exact⟨_,.list h1 h2 h3 (by simpa using q3)⟩
 | .dict _,v,u,r,q=>by
  rw[RepD]at r;exact r.elim
theorem RepA.reads (I:Inv X pins σ H s):∀ (ds:List PyData) (vs:List V) (us:List Value),RepA H ds vs->Vals vs us->∃ as,ReadsAll s.heap us ds as
 | [],vs,us,r,q=>by
  rw[RepA]at r;subst r;cases q;exact⟨_,.nil⟩
 | d::ds,vs,us,r,q=>by
  rw[RepA]at r;obtain⟨v,vs',e,q1,q2⟩:=r;subst e;cases q with
  | cons p1 p2 =>
   obtain⟨as,r1⟩:=RepD.reads I d v _ q1 p1;obtain⟨bs,r2⟩:=RepA.reads I ds vs' _ q2 p2;exact⟨_,.cons r1 r2⟩
end
end
section
variable {X:Cx}
theorem Zlf (hu:X.A.units+64<cLine):OpR X (compareOp .Eq) (fun x y H Q=>∃ da db,RepD H da x/\RepD H db y/\SeqAt.shaped da=true/\SeqAt.shaped db=true/\Q (.bl (PyData.eqv da db)) H):=by
 intro pins s σ H x y v u Q I rx ry h;obtain⟨da,db,r1,r2,s1,s2,q⟩:=h;obtain⟨as,q1⟩:=RepD.reads I da x v r1 rx;obtain⟨bs,q2⟩:=RepD.reads I db y u r2 ry;exact eq_dataH q1 q2 s1 s2 hu ⟨.bl _,H,I,rfl,q⟩
end
structure HasDef (K:PySem.W.Frag) (mg:Str->Option Value) (name:Str) (st:Stmt) (ps:List Str):Prop where
 ex:∃ f fd,Fun K name name st f fd/\Binds K fd ps []/\mg name=some (.ref f)
structure FOk (P:Program) (w:World) (K:PySem.W.Frag) (mg:Str->Option Value) (base:Heap) (k:Nat) (name:Str) (ps:List Str) (sp:Sp):Prop where
 ex:∃ f fd,FnOk P w K mg base CX0 k f fd ps sp/\Binds K fd ps []/\mg name=some (.ref f)/\PySem.W.keepIn K (.ref f)=true
section
variable {P:Program} {w:World} {K:PySem.W.Frag} {mg:Str->Option Value} {base:Heap}
theorem HasDef.ok (D:HasDef K mg name st ps) (S:Zm N ps (Zg st)) (len:∀ vs H Q E,sp vs H Q E->vs.length=ps.length)
  (hbody:∀ (f:Addr) (cdv:Value) (A:Around) (outer:List Env) (s:Shared) (H:Hp) (vs:List V) (Q:VK) (E:XK),Room k (A.deeper (envOfC name (Zg st) s.heap.objs.size f cdv))->sp vs H Q E ->
   ∃ t,PSs (Zdq CX0 P w K mg base N name (Zg st) f cdv A outer s H E).nox (ZG st) t/\t {nx:=fun _ H'=>Q .non H',rt:=Q} (start N vs) H):FOk P w K mg base (k+1) name ps sp:=by
 obtain⟨f,fd,F,b,m⟩:=D.ex;exact⟨f,fd,F.ok S len fun cdv A outer s H vs Q E=>hbody f cdv A outer s H vs Q E,b,m,F.kp⟩
theorem FOk.mono {j:Nat} (G:FOk P w K mg base j name ps sp) (h:j<=k):FOk P w K mg base k name ps sp:=by
 obtain⟨f,fd,F,r⟩:=G.ex;exact⟨f,fd,F.mono h,r⟩
end
theorem Zt {p:Pos} {e:Expr} {es:List Expr} {t:TA} (G:FOk X.prog X.w X.K X.mg X.base k name ps sp) (hr:Room k X.A) (ha:PA X (e::es) t) (hg:Gl X name:=by rfl)
  (hdb:(name==("__debug__" : Str))=false:=by decide) (he:starEach (e::es) X.env=(false,eval e X.env)::starEach es X.env:=by rfl) (hpl:(backTo pos (starEach es X.env)).any (·.1)=false:=by rfl) :
  PE X (.Call (.Name name p) (e::es) [] pos) (ZlO sp [] E0 t):=by
 obtain⟨f,fd,F,b,m,kp⟩:=G.ex;exact Zmi F hr hg m kp b .nil Zpl ha hdb he hpl
inductive TyB (H:Hp):V->String->Prop where
 | non:TyB H .non "NoneType"
 | bl (b:Bool):TyB H (.bl b) "bool"
 | int (i:Int):TyB H (.int i) "int"
 | str (x:Str):TyB H (.str x) "str"
 | lst {a:Addr} {xs:List V} (e:H a=some (.lst xs)):TyB H (.ref a) "list"
 | tup {a:Addr} {xs:List V} (e:H a=some (.tup xs)):TyB H (.ref a) "tuple"
 | dK {a:Addr} {kvs:List (Key×V)} (e:H a=some (.dK kvs)):TyB H (.ref a) "dict"
theorem TyB.of {K:PySem.W.Frag} {x:V} {n:String} (h:TyB H x n):ZfB K H x (.type n):=by
 cases h with
 | non=>exact .non
 | bl b=>exact .bl b
 | int i=>exact .int i
 | str x=>exact .str x
 | lst e=>exact .lst e
 | tup e=>exact .tup e
 | dK e=>exact .dK e
theorem TyB.same (s:Same H H') {x:V} {n:String} (h:TyB H x n):TyB H' x n:=by
 cases h with
 | non=>exact .non
 | bl b=>exact .bl b
 | int i=>exact .int i
 | str x=>exact .str x
 | lst e=>exact .lst (s _ _ e)
 | tup e=>exact .tup (s _ _ e)
 | dK e=>exact .dK (s _ _ e)
def Zbn:List String:=["NoneType","bool","int","str","list","tuple","dict"]
theorem TyB.mem {x:V} {n:String} (h:TyB H x n):n∈Zbn:=by
 cases h <;> simp[Zbn]
def ZmL (n c:String):Bool:=n==c || (n == "bool" && c == "int")
def ZiV:List String:=["int","bool","str","tuple","list"]
def Zqd (a b:String):Option Bool:=if (Value.type a==Value.type b)=true then some true else if PySem.W.kitMeta b=true then (fastBuiltinMro a).map (·.contains (Value.type b))else none
theorem ZmG:∀ n∈Zbn,∀ c∈ZiV,Zqd n c=some (ZmL n c):=by decide +kernel
theorem Yc:CallR X (.builtin "isinstance") (fun xs H Q=>∃ (x:V) (c n:String),xs=[x,.ty c]/\c∈ZiV/\TyB H x n/\Q (.bl (ZmL n c)) H):=by
 intro pins s σ H xs us Q I r h;obtain⟨x,c,n,rfl,hc,ty,q⟩:=h;exact Zky pins s σ H _ us Q I r ⟨x,.ty c,_,_,_,rfl,ty.of,rfl,ZmG n ty.mem c hc,q⟩
theorem Zcb:∀ n∈Zbn,(ZmL n "int" = true->(!ZmL n "bool")=(n == "int"))/\(¬ ZmL n "int" = true->(n == "int")=false):=by decide
theorem X4:bootBuiltins "isinstance" = some (.builtin "isinstance"):=by decide +kernel
theorem Ys:bootBuiltins "len" = some (.builtin "len"):=by decide +kernel
theorem ZpB:bootBuiltins "all" = some (.builtin "all"):=by decide +kernel
theorem Zep:bootBuiltins "sum" = some (.builtin "sum"):=by decide +kernel
theorem YZ:bootBuiltins "sorted" = some (.builtin "sorted"):=by decide +kernel
theorem Zkz:bootBuiltins "int" = some (.type "int"):=by decide +kernel
theorem Zlz:bootBuiltins "bool" = some (.type "bool"):=by decide +kernel
theorem Zm5:bootBuiltins "str" = some (.type "str"):=by decide +kernel
theorem Yr:bootBuiltins "tuple" = some (.type "tuple"):=by decide +kernel
theorem Zfx:bootBuiltins "list" = some (.type "list"):=by decide +kernel
theorem ZaL {c:String} (hg:Gl X x) (hm:X.mg x=none) (hv:bootBuiltins x=some (.type c)) (hn:x≠"__name__":=by decide) (hd:(x==("__debug__" : Str))=false:=by decide):PE X (.Name x pos) (tC (.ty c)) :=
 Zmj hg hm hv (show RelV (.ty c) (.type c)from rfl) hn hd
theorem Yi {X:Cx} {xs:List Str} {scope:Scope} {cl:List (Str×Addr)} {C:Addr} {s₀:Shared} {H₀:Hp} {fp:List Addr} (i:Nat) {pos:Pos} (nd:(lcN N xs mp).Nodup:=by decide +kernel) (hi:(lcN N xs mp)[i]?=some x:=by rfl)
  (hx:(lcx X (lcN N xs mp) scope cl C s₀ H₀ fp).env.scope.names.lookup x=some .local:=by rfl):PG (lcx X (lcN N xs mp) scope cl C s₀ H₀ fp) (.Name x pos) (JI i):=Zy nd hi (.inl hx) (.inr hx)
def tx (l:List Nat):Str:=⟨l.toArray⟩
theorem ZV (l:List Nat):(tx l).cps.toList=l:=by simp[tx]
theorem Z1 (l:List Nat):(tx l).length=l.length:=by simp[tx,Str.length]
theorem tx_eta (x:Str):tx x.cps.toList=x:=by simp[tx]
theorem Zf8 (l:List Nat):(Qs l.length).map (fun i=>l.getD i 0)=l:=by
 apply QT;intro i;rw[Qk];by_cases h:i<l.length
 ·rw[Q0 h,Wc,Qb,Qa h];rfl
 ·rw[Ql (by simpa using h),Ql (by simpa using h)];rfl
theorem Zew {vs:List V} {f:Nat->V} (hl:vs.length=n) (hr:∀ i v,vs[i]?=some v->v=f i):vs=(Qs n).map f:=by
 apply QT;intro i;rw[Qk];by_cases h:i<n
 ·rw[Q0 h,Wc,Qa (by omega)];exact congrArg some (hr i _ (Qa (by omega)))
 ·rw[Ql (by omega),Ql (by simpa using h)];rfl
theorem ZpK (l:Str) (c:Nat):(!(Builtin.Str.occurrences l ⟨#[c]⟩ 0 l.length 1).isEmpty)=decide (c∈l.cps.toList):=PySem.StrLaws.found_one l c
theorem ZmI (K:PySem.W.Frag) (h:X.K=K:=by rfl):IxR X (Zpg K):=by subst h;exact ix_tup
theorem YG (K:PySem.W.Frag) (h:X.K=K:=by rfl):IxR X (Zph K):=by subst h;exact ix_list
theorem Z2 (h:n<=16777216):n<=sizeLine:=by rw[sizeLine_eq];exact h
open PySem PySem.Spec PyProof.Rows PySem.Builtin.Str
section
variable {X:Cx}
theorem Z7 {es:List Expr} {t:TGs} (n:Nat) (K:PySem.W.Frag) (hc:X.calm=true) (h:PGs X es t) (hK:X.K=K:=by rfl)
  (hn:(assignEach es X.env).length=n:=by rfl) (hst:(assignEach es X.env).findIdx? (·.1)=none:=by rfl):PG X (.Tuple es k pos) (Zpw K n t):=by
 subst hK;exact ZnS hc h hn hst
end
theorem XX (x:Str):x.cps.toList.length=x.length:=by simp[Str.length]
theorem YI {α:Type} {l:List α} {i:Int} {c:α} (h0:0<=i) (h:l[i.toNat]?=some c):atI l i=some c:=by
 obtain⟨j,rfl⟩:=Int.eq_ofNat_of_zero_le h0;exact Zeq h
def Zp5 (t u:TS):TS:=fun D σ H=>∃ W:St->Hp->Prop,t {D with nx:=W} σ H/\∀ σ' H',W σ' H'->u D σ' H'
theorem Zl9 {rest:List Stmt} {t u:TS} (h1:PS X st t) (h2:PSs X rest u):PSs X (st::rest) (Zp5 t u):=by
 intro pins s σ H D I h;obtain⟨W,hW,k⟩:=h;refine wpAny_execs_cons (thn (h1 pins s σ H {D with nx:=W} I hW) fun f s1 q=>?_);cases f with
 | next =>
  obtain⟨σ',H',I',q⟩:=q;exact h2 pins s1 σ' H' D I' (k σ' H' q)
 | ret v=>exact q
 | brk=>exact q
 | cont=>exact q
theorem ZkZ {d:Nat} (h:i<=n):HT.sIx n d (some (i:Int))=i:=by
 unfold HT.sIx;simp only;rw[if_neg (by omega)];simp;omega
theorem cut_to (h:i<=xs.length):Zfs xs none (some (i:Int))=xs.take i:=by
 have e1:HT.sIx xs.length 0 none=0:=rfl;unfold Zfs;rw[e1,ZkZ h];simp
theorem cut_from (h:i<=xs.length):Zfs xs (some (i:Int)) none=xs.drop i:=by
 have e1:HT.sIx xs.length xs.length none=xs.length:=rfl;unfold Zfs;rw[e1,ZkZ h];exact Q6 (by rw[Wh];omega)
end L2
namespace Srt
open PySem PySem.W PyProof.Rows
section
variable {n:Nat} {lt:Nat->Nat->Bool} {cmp:Nat->Nat->(Bool->Shared->Prop)->Shared->Prop} {G:Shared->Prop}
structure Ord (n:Nat) (lt:Nat->Nat->Bool):Prop where
 tr:∀ i j k,lt i j=true->lt j k=true->lt i k=true
 asy:∀ i j,lt i j=true->lt j i=false
 tot:∀ i j,i<n->j<n->i≠j->lt i j=true\/lt j i=true
structure Pm (n:Nat) (p:Array Nat):Prop where
 size:p.size=n
 perm:p.Perm (Qs n).toArray
theorem Pm.below (h:Pm n p) {a:Nat} (ha:a<n):p.getD a 0<n:=by
 have hs:a<p.size:=by rw[h.size];exact ha
 have hm:p[a]∈p:=Array.getElem_mem hs;have:p[a]∈(Qs n).toArray:=h.perm.mem_iff.mp hm;rw[QQ,QX hs];simpa using this
theorem Pm.ne (h:Pm n p) {a b:Nat} (ha:a<n) (hb:b<n) (hab:a≠b):p.getD a 0≠p.getD b 0:=by
 have hs:a<p.size:=by rw[h.size];exact ha
 have hs2:b<p.size:=by rw[h.size];exact hb
 have nd:p.toList.Nodup:=by
  have:=(Uw.mp h.perm)
  exact this.nodup_iff.mpr (by simpa using WH)
 rw[QQ,QX hs,QQ,QX hs2];intro e;have:=(WQ (h₀:=by simpa using hs) (h₁:=by simpa using hs2) nd).mp (by simpa using e);exact hab this
def Up (lt:Nat->Nat->Bool) (p:Array Nat) (m:Nat):Prop:=∀ a b,a<b->b<m->lt (p.getD a 0) (p.getD b 0)=true
def Dn (lt:Nat->Nat->Bool) (p:Array Nat) (m:Nat):Prop:=∀ a b,a<b->b<m->lt (p.getD b 0) (p.getD a 0)=true
theorem Up.more (o:Ord n lt) {p:Array Nat} {m:Nat} (h:Up lt p m) (h1:1<=m) (hl:lt (p.getD (m-1) 0) (p.getD m 0)=true):Up lt p (m+1):=fun a b hab hb=>by
 by_cases e:b=m
 ·subst e;by_cases e2:a=b-1
  ·rw[e2];exact hl
  ·exact o.tr _ _ _ (h a (b-1) (by omega) (by omega)) hl
 ·exact h a b hab (by omega)
theorem Dn.more (o:Ord n lt) {p:Array Nat} {m:Nat} (h:Dn lt p m) (h1:1<=m) (hl:lt (p.getD m 0) (p.getD (m-1) 0)=true):Dn lt p (m+1):=fun a b hab hb=>by
 by_cases e:b=m
 ·subst e;by_cases e2:a=b-1
  ·rw[e2];exact hl
  ·exact o.tr _ _ _ hl (h a (b-1) (by omega) (by omega))
 ·exact h a b hab (by omega)
theorem Zml (o:Ord n lt) {p:Array Nat} (hp:Pm n p) {a b:Nat} (ha:a<n) (hb:b<n) (hab:a≠b) (h:¬ lt (p.getD a 0) (p.getD b 0)=true):lt (p.getD b 0) (p.getD a 0)=true:=by
 rcases o.tot _ _ (hp.below ha) (hp.below hb) (hp.ne ha hb hab)with z | z
 ·exact absurd z h
 ·exact z
variable (o:Ord n lt) (hc:∀ i j C s,i<n->j<n->i≠j->G s->(∀ s',G s'->C (lt i j) s')->cmp i j C s)
include o hc
theorem asc {p:Array Nat} (hp:Pm n p) {Q:Nat->Shared->Prop}:∀ (f m:Nat) (s:Shared),1<=m->m+f<=n->Up lt p m->G s ->
  (∀ k s',m<=k->k<=m+f->Up lt p k->(k=m+f\/lt (p.getD k 0) (p.getD (k-1) 0)=true)->G s'->Q k s')->(kas_asc p f m).kasWp cmp Q s
 | 0,m,s,h1,h2,hu,g,k=>k m s (Qi _) (Qi _) hu (.inl rfl) g
 | f+1,m,s,h1,h2,hu,g,k=>by
  refine hc _ _ _ s (hp.below (by omega)) (hp.below (by omega)) (hp.ne (by omega) (by omega) (by omega)) g fun s' g'=>?_;by_cases c:lt (p.getD m 0) (p.getD (m-1) 0)=true
  ·dsimp only;rw[if_pos c];exact k m s' (Qi _) (by omega) hu (.inr c) g'
  ·dsimp only;rw[if_neg c];have c':=Zml o hp (by omega) (by omega) (by omega) c;exact asc hp f (m+1) s' (by omega) (by omega) (hu.more o h1 c') g' fun j s'' a1 a2 a3 a4 a5=>k j s'' (by omega) (by omega) a3 (by rcases a4 with z | z;exact .inl (by omega);exact .inr z) a5
theorem ZpT {p:Array Nat} (hp:Pm n p) {Q:Array Nat×Nat×Nat->Shared->Prop}:∀ (f m:Nat) (s:Shared),1<=m->m+f<=n->Dn lt p m->G s ->
  (∀ k s',m<=k->k<=m+f->Dn lt p k->G s'->Q (p,k,0) s')->(kas_desc f p m 0).kasWp cmp Q s
 | 0,m,s,h1,h2,hu,g,k=>k m s (Qi _) (Qi _) hu g
 | f+1,m,s,h1,h2,hu,g,k=>by
  refine hc _ _ _ s (hp.below (by omega)) (hp.below (by omega)) (hp.ne (by omega) (by omega) (by omega)) g fun s' g'=>?_;by_cases c:lt (p.getD m 0) (p.getD (m-1) 0)=true
  ·dsimp only;rw[if_pos c,if_neg (by omega)];exact ZpT hp f (m+1) s' (by omega) (by omega) (hu.more o h1 c) g' fun j s'' a1 a2 a3 a4=>k j s'' (by omega) (by omega) a3 a4
  ·dsimp only;rw[if_neg c];have c':=Zml o hp (by omega) (by omega) (by omega) c;refine hc _ _ _ s' (hp.below (by omega)) (hp.below (by omega)) (hp.ne (by omega) (by omega) (by omega)) g' fun s'' g''=>?_;dsimp only;rw[if_pos c'];exact k m s'' (Qi _) (by omega) hu g''
omit o hc in
theorem Zk1 {p:Array Nat} {m k:Nat} (hm:m<=p.size) (hk:k<m):(kas_rev p 0 m).getD k 0=p.getD (m-1-k) 0:=by
 unfold kas_rev;rw[QQ,getElem?_mirror_all hm,if_pos (by omega),QQ];congr 2;omega
omit o hc in
theorem Zk0 {p:Array Nat} (hp:Pm n p) (m:Nat):Pm n (kas_rev p 0 m):=⟨by unfold kas_rev;rw[mirror_size,hp.size],(mirror_perm _ _ _ _).trans hp.perm⟩
theorem ZoZ {p:Array Nat} (hp:Pm n p) {Q:Nat×Array Nat->Shared->Prop} {m:Nat} {s:Shared} (h1:1<=m) (h2:m<=n) (hd:Dn lt p m) (g:G s)
  (k:∀ j p' s',1<=j->j<=n->Pm n p'->Up lt p' j->G s'->Q (j,p') s'):(kas_tail3 m n p).kasWp cmp Q s:=by
 unfold kas_tail3;rw[KasT.kasWp_bind];have hu:Up lt (kas_rev p 0 m) m:=fun a b hab hb=>by
  rw[Zk1 (by rw[hp.size];exact h2) (by omega),Zk1 (by rw[hp.size];exact h2) hb];exact hd _ _ (by omega) (by omega)
 exact asc o hc (Zk0 hp m) _ m s h1 (by omega) hu g fun j s' a1 a2 a3 _ a5=>k j _ s' (by omega) (by omega) (Zk0 hp m) a3 a5
theorem count {p:Array Nat} (hp:Pm n p) {Q:Nat×Array Nat->Shared->Prop} {s:Shared} (h1:1<=n) (g:G s)
  (k:∀ j p' s',1<=j->j<=n->Pm n p'->Up lt p' j->G s'->Q (j,p') s'):(kas_count n p).kasWp cmp Q s:=by
 unfold kas_count;rw[KasT.kasWp_bind];refine asc o hc hp (n-1) 1 s (Qi _) (by omega) (fun a b _ _=>by omega) g fun m s' a1 a2 a3 a4 a5=>?_;by_cases e:m=n
 ·rw[if_pos (by simp[e])];exact k m p s' a1 (by omega) hp a3 a5
 ·rw[if_neg (by simp[e])];by_cases e1:m>1
  ·rw[if_pos e1];refine hc _ _ _ s' (hp.below (by omega)) (hp.below (by omega)) (hp.ne (by omega) (by omega) (by omega)) a5 fun s'' g''=>?_;dsimp only;rw[if_pos (a3 0 (m-1) (by omega) (by omega))];exact k m p s'' a1 (by omega) hp a3 g''
  ·rw[if_neg e1];have em:m=1:=by omega
   subst em;have hl:lt (p.getD 1 0) (p.getD 0 0)=true:=by
    rcases a4 with z | z
    ·omega
    ·exact z
   unfold kas_descPart;rw[KasT.kasWp_bind];refine ZpT o hc hp (n-2) 2 s' (by omega) (by omega) (fun a b hab hb=>?_) a5 fun j s'' b1 b2 b3 b4=>?_
   ·have ea:a=0:=by omega
    have eb:b=1:=by omega
    rw[ea,eb];exact hl
   ·rw[if_neg (show ¬ ((p,j,0):Array Nat×Nat×Nat).2.2>0 from by simp)];exact ZoZ o hc hp (by show 1<=j;omega) (by show j<=n;omega) b3 b4 k
theorem place {p:Array Nat} (hp:Pm n p) {k:Nat} (hk:k<n) {Q:Nat->Shared->Prop}:∀ (f l r:Nat) (s:Shared),l<=r->r<=k->r-l<=f->G s ->
  (∀ a,a<l->lt (p.getD a 0) (p.getD k 0)=true)->(∀ a,r<=a->a<k->lt (p.getD k 0) (p.getD a 0)=true)->Up lt p k ->
  (∀ l s',l<=k->(∀ a,a<l->lt (p.getD a 0) (p.getD k 0)=true)->(∀ a,l<=a->a<k->lt (p.getD k 0) (p.getD a 0)=true)->G s'->Q l s')->(kas_place p k f l r).kasWp cmp Q s
 | 0,l,r,s,h1,h2,h3,g,b1,b2,hu,q=>q l s (by omega) b1 (fun a h=>b2 a (by omega)) g
 | f+1,l,r,s,h1,h2,h3,g,b1,b2,hu,q=>by
  unfold kas_place;by_cases e:l≥r
  ·rw[if_pos e];exact q l s (by omega) b1 (fun a h=>b2 a (by omega)) g
  ·rw[if_neg e];refine hc _ _ _ s (hp.below (by omega)) (hp.below (by omega)) (hp.ne (by omega) (by omega) (by omega)) g fun s' g'=>?_;by_cases c:lt (p.getD k 0) (p.getD ((l+r) / 2) 0)=true
   ·dsimp only;rw[if_pos c];refine place hp hk f l ((l+r) / 2) s' (by omega) (by omega) (by omega) g' b1 (fun a h1 h2=>?_) hu q;by_cases ea:a=(l+r) / 2
    ·rw[ea];exact c
    ·exact o.tr _ _ _ c (hu _ _ (by omega) h2)
   ·dsimp only;rw[if_neg c];have c':=Zml o hp (by omega) (by omega) (by omega) c;refine place hp hk f ((l+r) / 2+1) r s' (by omega) (by omega) (by omega) g' (fun a h1=>?_) b2 hu q;by_cases ea:a=(l+r) / 2
    ·rw[ea];exact c'
    ·exact o.tr _ _ _ (hu _ _ (by omega) (by omega)) c'
theorem bin {Q:Array Nat->Shared->Prop} (hQ:∀ p s',Pm n p->Up lt p n->G s'->Q p s'):∀ (f:Nat) (p:Array Nat) (k:Nat) (s:Shared),k+f=n->Pm n p->Up lt p k->G s->(kas_bin f p k).kasWp cmp Q s
 | 0,p,k,s,h,hp,hu,g=>hQ p s hp ((show k=n from h)▸hu) g
 | f+1,p,k,s,h,hp,hu,g=>by
  unfold kas_bin;rw[KasT.kasWp_bind];refine place o hc hp (by omega) k 0 k s (QL _) (Qi _) (by omega) g (fun a h=>by omega) (fun a h1 h2=>by omega) hu fun l s' hl b1 b2 g'=>?_;have hs:k<p.size:=by rw[hp.size];omega
  have at':∀ j,(bubble p k (k-l)).getD j 0=if j=l then p.getD k 0 else if l<j/\j<=k then p.getD (j-1) 0 else p.getD j 0:=fun j=>by
   simp only[QQ];rw[getElem?_bubble hs (k-l) (by omega) j,show k-(k-l)=l by omega];by_cases q1:j=l
   ·rw[if_pos q1,if_pos q1]
   ·rw[if_neg q1,if_neg q1];by_cases q2:l<j/\j<=k
    ·rw[if_pos q2,if_pos q2]
    ·rw[if_neg q2,if_neg q2]
  refine bin hQ f _ (k+1) s' (by omega) ⟨by rw[bubble_size,hp.size],(bubble_perm _ _ _).trans hp.perm⟩ (fun a b hab hb=>?_) g';rw[at',at'];by_cases e1:a=l
  ·rw[if_pos e1,if_neg (by omega),if_pos (by omega)];exact b2 _ (by omega) (by omega)
  ·rw[if_neg e1];by_cases e2:l<a/\a<=k
   ·rw[if_pos e2,if_neg (by omega),if_pos (by omega)];exact hu _ _ (by omega) (by omega)
   ·rw[if_neg e2];by_cases e3:b=l
    ·rw[if_pos e3];exact b1 _ (by omega)
    ·rw[if_neg e3];by_cases e4:l<b/\b<=k
     ·rw[if_pos e4];by_cases e5:a=b-1
      ·exact absurd e5 (by omega)
      ·exact hu _ _ (by omega) (by omega)
     ·rw[if_neg e4];exact hu _ _ hab (by omega)
theorem sort {Q:Array Nat->Shared->Prop} {s:Shared} (h1:1<=n) (g:G s) (hQ:∀ p s',Pm n p->Up lt p n->G s'->Q p s'):(kas_sort n).kasWp cmp Q s:=by
 unfold kas_sort;rw[KasT.kasWp_bind];refine count o hc ⟨by simp,Array.Perm.refl _⟩ h1 g fun j p' s' a1 a2 a3 a4 a5=>?_;by_cases e:j<n
 ·dsimp only;rw[if_pos e,Nat.max_eq_left a1];exact bin o hc hQ _ p' j s' (by omega) a3 a4 a5
 ·dsimp only;rw[if_neg e];exact hQ p' s' a3 ((show j=n by omega)▸a4) a5
end
end Srt
namespace L2
open PySem PySem.Spec PyProof.Rows PySem.W
variable {C a ea:Addr} {H:Hp} {X:Cx} {bm:List Value} {h:Heap} {k:Nat} {oe:Obj} {pos:Pos} {ps:List Str} {st:Stmt} {x:Str} {σ:St}
def ZpE (h:Heap) (v:Value) (x:Str):Prop:=∃ a t y,v= .ref a/\h.get? a=some {cls:=.type "tuple",data:=.seq #[.str x t,y]}
def ltX (xs:List Str) (i j:Nat):Bool:=decide ((xs.getD i "").cps.toList<(xs.getD j "").cps.toList)
theorem YY {xs:List Str} {i:Nat} (h:i<xs.length):xs.getD i "" = xs[i]:=by
 rw[Qb,Qa h];rfl
theorem Zeh {xs:List Str} (nd:xs.Nodup):Srt.Ord xs.length (ltX xs) where
 tr:=fun i j k h1 h2=>by
  unfold ltX at *;rw[decide_eq_true_eq]at *;exact Rx h1 h2
 asy:=fun i j h1=>by
  unfold ltX at *;rw[decide_eq_true_eq]at h1;exact decide_eq_false (List.lt_asymm h1)
 tot:=fun i j hi hj hij=>by
  unfold ltX;rw[YY hi,YY hj,decide_eq_true_eq,decide_eq_true_eq];by_cases q:xs[i].cps.toList<xs[j].cps.toList
  ·exact .inl q
  ·by_cases q2:xs[j].cps.toList<xs[i].cps.toList
   ·exact .inr q2
   ·have e:=U8 (Uk.mp q2) (Uk.mp q);have e2:xs[i]=xs[j]:=by rw[←tx_eta xs[i],←tx_eta xs[j],e]
    exact absurd ((WQ nd).mp e2) hij
theorem Zbd {h:Heap}:∀ {vs:List Value} {xs:List Str},xs.length=vs.length->(∀ (i:Nat) (v:Value) (x:Str),vs[i]?=some v->xs[i]?=some x->ZpE h v x)->∃ fs,KatTups h vs fs/\fs.length=vs.length/\∀ f∈fs,∃ x t,f= .str x t
 | [],[],_,_=>⟨[],trivial,rfl,fun f hf=>nomatch hf⟩
 | [],_::_,h,_=>by cases h
 | _::_,[],h,_=>by cases h
 | v::vs,x::xs,hl,hv=>by
  obtain⟨a,t,y,rfl,ha⟩:=hv 0 v x rfl rfl;obtain⟨fs,k,l,q⟩:=Zbd (vs:=vs) (xs:=xs) (by simpa using hl) fun i v x e1 e2=>hv (i+1) v x e1 e2;refine⟨.str x t::fs,KatTups.cons ha rfl rfl rfl k,by simp[l],fun f hf=>?_⟩;rcases Qx.mp hf with z | z
  ·exact⟨x,t,z⟩
  ·exact q f z
section
variable {prog:Program} {w:World} {A:Around} {E:Value->Shared->Prop} {s:Shared}
theorem Zf4 {vs:List Value} {xs:List Str} {n:Nat} {P:PySem.Fin->Shared->Prop} (ho:s.heap.get? a=some (seqObj "list" vs.toArray n)) (h64:vs.length<64) (hl:xs.length=vs.length) (nd:xs.Nodup)
  (hv:∀ (i:Nat) (v:Value) (x:Str),vs[i]?=some v->xs[i]?=some x->ZpE s.heap v x)
  (h:∀ (h1:Heap) (tk c:Nat) (p:Array Nat),Srt.Pm xs.length p->Srt.Up (ltX xs) p xs.length->(∀ b o,b≠a->s.heap.get? b=some o->h1.get? b=some o) ->
   h1.get? a=some (seqObj "list" (p.toList.map fun i=>vs.getD i Value.none).toArray c)->P (.done (.ret .none)) {s with heap:=h1,toks:=tk}) :
  wpAny (model prog w) A (Builtin.«list.sort» ⟨[.ref a],[]⟩) P E s:=by
 have ha:a<s.heap.objs.size:=Qw ho;have hz:vs.length<=sizeLine:=by rw[sizeLine_eq];omega
 rw[list_sort_plain];refine wpAny_bind (listItems_at ho rfl (wpAny_bind (listUpdate_at ho rfl ?_ (by rw[Qu];exact hz) (QL _))));obtain⟨e1,ho1⟩:∃ e1,(s.heap.update a (Obj.mapSeq fun _=>(#[]:Array Value))).get? a=some (seqObj "list" #[] e1):=⟨_,get?_update_seq ho fun _=>#[]⟩
 have k1:∀ b o,b≠a->s.heap.get? b=some o->(s.heap.update a (Obj.mapSeq fun _=>(#[]:Array Value))).get? b=some o:=fun b o hb q=>(Wa _ _ (Ne.symm hb)).trans q;refine wpAny_bind (seqEpoch_at ho1 rfl (wpAny_bind (wpAny_newTuple ?_ (by show vs.length<=_;exact hz))));refine wpAny_bind (wpAny_newList ?_ (QL _));refine wpAny_holding ?_;generalize hg:((s.heap.update a (Obj.mapSeq fun _=>(#[]:Array Value))).push {cls:=.type "tuple",data:=.seq vs.toArray.toList.toArray}).push {cls:=.type "list",data:=.seq ([]:List Value).toArray}=h6;have k6:∀ b o,b≠a->s.heap.get? b=some o->h6.get? b=some o:=fun b o hb q=>by
  rw[←hg];exact Qh _ (Qh _ (k1 b o hb q))
 have ho6:h6.get? a=some (seqObj "list" #[] e1):=by
  rw[←hg];exact Qh _ (Qh _ ho1)
 have hv6:∀ (i:Nat) (v:Value) (x:Str),vs[i]?=some v->xs[i]?=some x->ZpE h6 v x:=fun i v x q1 q2=>by
  obtain⟨b,t,y,rfl,hb⟩:=hv i v x q1 q2;exact⟨b,t,y,rfl,k6 b _ (fun z=>by rw[z,ho]at hb;injection hb with hb;exact absurd (congrArg Obj.cls hb) (by unfold seqObj;simp)) hb⟩
 show wpAny (model prog w) A _ P E {s with heap:=h6};dsimp only
 -- the end: the items are put back
 have fin:∀ (tk:Nat) (p:Array Nat) (out:Array Value),Srt.Pm xs.length p->Srt.Up (ltX xs) p xs.length->out=(p.toList.map fun i=>vs.getD i Value.none).toArray ->
   ∃ c,(h6.update a (Obj.mapSeq fun _=>out)).get? a=some (seqObj "list" out c)/\out.size<=sizeLine/\P (.done (.ret .none)) {s with heap:=h6.update a (Obj.mapSeq fun _=>out),toks:=tk}:=fun tk p out hp hu ho'=>by
  have hc:=get?_update_seq ho6 fun _=>out;refine⟨_,hc,?_,h _ tk _ p hp hu (fun b o hb q=>(Wa _ _ (Ne.symm hb)).trans (k6 b o hb q)) (by rw[←ho'];exact hc)⟩;rw[ho',Qu,Qc,QC,hp.size,hl];exact hz
 by_cases h2:vs.toArray.size<2
 ·rw[if_pos h2,if_pos h2];rw[Qu]at h2;have hr:vs.toArray=((Qs xs.length).toArray.toList.map fun i=>vs.getD i Value.none).toArray:=by
   congr 1;apply QT;intro i;simp only[Qk];by_cases hi:i<vs.length
   ·rw[Qa hi,Q0 (by omega),Wc,Qb,Qa hi];rfl
   ·rw[Ql (by omega),Ql (by simp;omega)];rfl
  obtain⟨c,f1,f2,f3⟩:=fin s.toks (Qs xs.length).toArray vs.toArray ⟨by simp,Array.Perm.refl _⟩ (fun a b hab hb=>by omega) hr;refine wpAny_bind (wpAny_pure ?_);rw[StateT.run_pure];refine wpAny_bind (wpAny_pure ?_);have eo:(arrOf (SortSt.mk' general' (vs.toArray.zip vs.toArray) #[] 7 none)).map (·.2)=vs.toArray:=by
   show(vs.toArray.zip vs.toArray).map (·.2)=vs.toArray;apply R0.mp;simp;exact R1 (Qi _)
  dsimp only;rw[eo];refine wpAny_bind (seqEpoch_at ho6 rfl (wpAny_bind (listUpdate_at ho6 rfl ?_ (QL _) (Ul f2))));simp only[bne_self_eq_false,Wf,if_false];exact wpAny_pure f3
 ·rw[if_neg h2,if_neg h2];rw[Qu]at h2;obtain⟨fs,kt,lf,hf⟩:=Zbd hl hv6;refine wpAny_bind (kat_kind (T:=.type "str") kt (by omega) (fun f m=>?_) (by decide) ?_)
  ·obtain⟨x,t,rfl⟩:=hf f m;exact Looks.of_pure rfl
  refine wpAny_bind (wpAny_mono (kat_run (κ:=tuples' ((Value.type "str") != Value.type "tuple")) (ks:=vs) (vs:=vs) (G:=fun p s'=>(∃ tk,s'={s with heap:=h6,toks:=tk})/\Srt.Pm xs.length p/\Srt.Up (ltX xs) p xs.length)
   (Q:=fun st' s'=>∃ p:Array Nat,arrOf st'=p.map (kas_item (vs.toArray.zip vs.toArray))/\failedOf st'=none/\(∃ tk,s'={s with heap:=h6,toks:=tk})/\Srt.Pm xs.length p/\Srt.Up (ltX xs) p xs.length)
   rfl (by omega) h64 (fun p st' s' _ a2 a3 a4=>⟨p,a2,a3,a4⟩) ?_) ?_ fun _ _ e=>e)
  ·rw[←hl];refine Srt.sort (G:=fun s'=>∃ tk,s'={s with heap:=h6,toks:=tk}) (Zeh nd) (fun i j C s' hi hj hij g k=>?_) (by omega) ⟨s.toks,rfl⟩ fun p s' hp hu g=>⟨g,hp,hu⟩
   obtain⟨tk,rfl⟩:=g;have hi':i<vs.length:=by omega
   have hj':j<vs.length:=by omega
   obtain⟨b1,t1,y1,e1,g1⟩:=hv6 i vs[i] xs[i] (Qa hi') (Qa hi);obtain⟨b2,t2,y2,e2,g2⟩:=hv6 j vs[j] xs[j] (Qa hj') (Qa hj);have n1:vs.getD i Value.none= .ref b1:=by rw[Qb,Qa hi'];exact e1
   have n2:vs.getD j Value.none= .ref b2:=by rw[Qb,Qa hj'];exact e2
   have hne:¬ xs[i]=xs[j]:=fun z=>hij ((WQ nd).mp z);show wpAny (model prog w) A (keyLt' _ (vs.getD i Value.none) (vs.getD j Value.none)) C (fun _ _=>False) {s with heap:=h6,toks:=tk};rw[n1,n2];refine kat_lt (s:={s with heap:=h6,toks:=tk}) g1 rfl g2 rfl (kat_cons (wpAny_eqBool_str ?_));rw[decide_eq_false hne];refine kat_no ?_;refine kas_lt_str ?_;have el:decide (xs[i].cps.toList<xs[j].cps.toList)=ltX xs i j:=by
    unfold ltX;rw[YY hi,YY hj]
   rw[el];exact k _ ⟨tk,rfl⟩
  ·rintro⟨⟨⟩,st'⟩ s' ⟨p,har,hf',⟨tk,rfl⟩,hp,hu⟩;obtain⟨c,f1,f2,f3⟩:=fin tk p _ hp hu rfl;dsimp only;rw[kat_snds rfl har];refine wpAny_bind (seqEpoch_at (s:={s with heap:=h6,toks:=tk}) ho6 rfl (wpAny_bind (listUpdate_at (s:={s with heap:=h6,toks:=tk}) ho6 rfl ?_ (QL _) (Ul f2))));rw[hf'];simp only[bne_self_eq_false,Wf,if_false];exact wpAny_pure f3
end
theorem ObjOk.there' {P:Program} {w:World} {o:HO} (x:ObjOk P w H h a o):∃ u,h.get? a=some u:=by
 cases o with
 | lst xs=>obtain⟨_,_,_,_,e⟩:=x;exact⟨_,e⟩
 | tup xs=>obtain⟨_,_,_,⟨_,e,_⟩,_⟩:=x;exact⟨_,e⟩
 | dK kvs=>obtain⟨_,_,_,_,o,_,_,e,_⟩:=x;exact⟨_,e⟩
 | dT kvs=>obtain⟨_,_,_,_,o,_,_,e,_⟩:=x;exact⟨_,e⟩
 | set S n=>obtain⟨o,_,_,_,e,_⟩:=x;exact⟨_,e⟩
 | ins C dx fs=>obtain⟨_,_,_,e,_⟩:=x;exact⟨_,e⟩
 | own y=>exact x
 | xd fs=>obtain⟨_,⟨_,_,_,e,_⟩,_⟩:=x;exact⟨_,e⟩
 | rng lo hi=>obtain⟨_,_,_,e⟩:=x;exact⟨_,e⟩
 | frz ob u=>obtain⟨e,_⟩:=x;exact⟨_,e⟩
 | tbl ps=>exact⟨_,show h.get? a=some _ from x⟩
 | met f y=>exact⟨_,show h.get? a=some _ from x⟩
 | ext φ=>obtain⟨_,e,_⟩:=x;exact e
section
variable {X:Cx} {pins:List (Addr×Obj)} {σ:St} {H:Hp} {s:Shared}
theorem Inv.laidN {N:Addr->Option HO} {h1:Heap} {tk:Nat} (I:Inv X pins σ H s) (k:∀ b u,s.heap.get? b=some u->h1.get? b=some u) (hN:∀ a o,N a=some o->s.heap.get? a=none/\∀ H2,ObjOk X.prog X.w H2 h1 a o) :
  Inv X pins σ (fun b=>(N b).or (H b)) {s with heap:=h1,toks:=tk}:=by
 have low:∀ b u,s.heap.get? b=some u->N b=none:=fun b u hb=>by
  cases q:N b with
  | none=>rfl
  | some o=>rw[(hN b o q).1]at hb;cases hb
 have old:∀ b u,H b=some u->(N b).or (H b)=some u:=fun b u q=>by
  obtain⟨v,hv⟩:=(I.hok b u q).there';rw[low b v hv,UG];exact q
 refine I.un ⟨fun b o q _ _ _=>k b o q,fun b o q _ _ _=>⟨o.slots,k b o q⟩,fun b o q n _=>?_,fun b o q _=>⟨o,k b o q⟩,fun b xs q=>old b _ q,fun b o u q=>old b _ q,fun b ps q=>⟨#[],by rw[old b _ q];simp⟩⟩ fun a o q=>?_
 ·show(N b).or (H b)=none;rw[low b o q,UG];exact n
 ·cases e:N a with
  | some u =>
   rw[e,Rk]at q;cases q;exact(hN a o e).2 _
  | none =>
   rw[e,UG]at q;exact(I.hok a o q).stay (fun b u _ z=>k b u z) (fun b z=>old b _ z) fun b xs z=>old b _ z
end
def ivO (p d:Addr):HO:=.ext fun h=>h.IsItemsView p d
theorem Zj3:MtR X "dict.items" (fun x vs H Q=>∃ d kvs,x= .ref d/\vs=[]/\H d=some (.dK kvs)/\∀ p,H p=none->Q (.ref p) (upd H p (ivO p d))):=by
 intro pins s σ H x vs v us Q I rx rv h;obtain⟨d,kvs,rfl,rfl,hd,q⟩:=h;cases rx;cases rv;obtain⟨hz,lo,vs',kv,dd⟩:=ZaE I.hok hd;refine call_meetsIn PySem.F.slot_dict_items dd.typeIs PySem.F.entry_dict_items (PySem.F.args_dict_items_1 _) (meets_dict_items (Zu X.prog X.w) d lo) ⟨⟨_,dd⟩,?_⟩;refine⟨.ref s.heap.objs.size,_,I.laid (t':=s.toks) (o:=ivO s.heap.objs.size d) (fun b u e=>Qh _ e) (Qi _) ?_,rfl,q _ (I.hok.fresh (Qi _))⟩;refine⟨⟨_,Qz _ rfl,rfl,rfl⟩,⟨_,Qz _ rfl⟩,fun h1 h2 ⟨o,e,r⟩ k=>⟨o,k o e,r⟩⟩
theorem ZhE (ks:List Str) (p:Array Nat) (hp:Srt.Pm ks.length p):(p.toList.map fun i=>ks.getD i "").Perm ks:=by
 have h1:=(Uw.mp hp.perm).map fun i=>ks.getD i "";have h2:((Qs ks.length).toArray.toList.map fun i=>ks.getD i "")=ks:=by
  apply QT;intro i;simp only[Qk];by_cases hi:i<ks.length
  ·rw[Q0 hi,Qa hi,Wc,YY hi]
  ·rw[Ql (by simp;omega),Ql (by omega)];rfl
 rw[h2]at h1;exact h1
theorem Xi (hc:X.calm=true):CallR X (.builtin "sorted") (fun xs H Q=>∃ (p d:Addr) (ks:List Str) (g:Str->V),xs=[.ref p]/\H p=some (ivO p d)/\H d=some (.dK (ks.map fun x=>((Sum.inr x:Key),g x)))/\ks.Nodup/\ks.length<64 /\
  ∀ (D:Addr) (H1:Hp) (vs:List V) (ss:List Str),Same H H1->ss.Perm ks->(ss.map fun x=>x.cps.toList).Pairwise (· < ·)->H1 D=some (.lst vs)->vs.length=ss.length ->
   (∀ (i:Nat) (x:Str),ss[i]?=some x->∃ b,vs[i]?=some (.ref b)/\H1 b=some (.tup [.str x,g x]))->Q (.ref D) H1):=by
 intro pins s σ H xs us Q I r h;obtain⟨p,d,ks,g,rfl,hp,hd,nd,h64,q⟩:=h;obtain⟨u,rfl,ru⟩:=YT r;cases ru;have hview:s.heap.IsItemsView p d:=(I.hok p _ hp).1;obtain⟨hz,lo,vs',kv,dd⟩:=ZaE I.hok hd;obtain⟨ep,hat⟩:=dd.dictAt;have hlen:ks.length=vs'.length:=by have:=kv.length;simpa using this
 have hsz:vs'.length<=sizeLine:=by rw[sizeLine_eq];omega
 refine Calls.call_function_entry kind_sorted plain_sorted entry_sorted (args_sorted1 _) ?_;unfold Builtin.«sorted»;refine wpAny_bind (m:=checkCount "sorted" 1 1 _) (wpAny_pure ?_);refine wpAny_bind (kdx_collect (A:=X.A.in1) (knd:=Zu X.prog X.w) (kvs:=vs') (ep:=ep) (I.ok.hd hc) hview hat hsz fun h1 tk as hk hl hG=>?_);refine wpAny_bind (wpAny_newList ?_ (by rw[Qc,hl];exact hsz));have pr:∀ (i:Nat),i<ks.length->∃ a t y,as[i]?=some a/\RelV (g (ks.getD i "")) y/\h1.get? a=some {cls:=.type "tuple",data:=.seq #[.str (ks.getD i "") t,y]}:=fun i hi=>by
  have hi2:i<as.length:=by omega
  obtain⟨key,k,x,e1,e2,e3⟩:=hG.pairs i as[i] (Qa hi2);have ek:=congrArg (fun l:List Key=>l[i]?) kv.keys;simp only[Qk]at ek;rw[e1,Qa hi]at ek;have ek':(Sum.inr ks[i]:Key)=k:=Option.some.inj ek;have ev:RelV (g ks[i]) x:=by
   have key:∀ {l1:List (Key×V)} {l2:List (Key×Value)} (i:Nat) (p:Key×V) (q:Key×Value),Paired (fun(p:Key×V) (q:Key×Value)=>p.1=q.1/\RelV p.2 q.2) l1 l2->l1[i]?=some p->l2[i]?=some q->RelV p.2 q.2:=by
    intro l1 l2 i p q hP;induction hP generalizing i with
    | nil=>intro e;simp at e
    | cons r t ih =>
     intro e1 e2;cases i with
     | zero =>
      simp at e1 e2;subst e1 e2;exact r.2
     | succ i=>exact ih i (by simpa using e1) (by simpa using e2)
   exact key i (Sum.inr ks[i],g ks[i]) (k,x) kv (by rw[Qk,Qa hi];rfl) e1
  subst ek';rcases keyIs_shape (show Zav (Sum.inr ks[i]) key=true from e2)with ⟨j,t,e4,_⟩ | ⟨z,t,e4,e5⟩
  ·cases e4
  ·injection e4 with e4
   subst e4;refine⟨as[i],t,x,Qa hi2,by rw[YY hi];exact ev,?_⟩;rw[e3,e5,YY hi]
 have hB:(h1.push {cls:=.type "list",data:=.seq (as.map Value.ref).toArray}).get? h1.objs.size=some (seqObj "list" (as.map Value.ref).toArray 0):=Qz _ rfl;refine wpAny_bind (wpAny_holding (wpAny_call_entry slot_list_sort ⟨_,hB,rfl⟩ entry_list_sort ?body (args_list_sort _)));refine Zf4 (s:={s with heap:=h1.push {cls:=.type "list",data:=.seq (as.map Value.ref).toArray},toks:=tk}) (xs:=ks) hB (by rw[Qc];omega) (by rw[Qc];omega) nd (fun i v x e1 e2=>?_) fun h3 tk3 c pm hpm hup hkeep hD=>⟨_,rfl,wpAny_pure ⟨_,rfl,?_⟩⟩
 ·have hi:i<ks.length:=(Qo.mp e2).1;obtain⟨a,t,y,f1,_,f3⟩:=pr i hi;rw[Qk,f1]at e1;cases e1;have ex:ks.getD i "" = x:=by rw[Qb,e2];rfl
  rw[ex]at f3;exact⟨a,t,y,rfl,Qh _ f3⟩
 ·have hold:∀ b u,s.heap.get? b=some u->h3.get? b=some u:=fun b u e=>hkeep b u (QD (Qw (hk b u e))) (Qh _ (hk b u e));have hDn:s.heap.get? h1.objs.size=none:=by
   cases z:s.heap.get? h1.objs.size with
   | none=>rfl
   | some u=>exact absurd (Qw (hk _ u z)) (Wj _)
  have tup3:∀ (i:Nat),i<ks.length->∃ a t y,as[i]?=some a/\RelV (g (ks.getD i "")) y/\s.heap.get? a=none/\a≠h1.objs.size/\h3.get? a=some {cls:=.type "tuple",data:=.seq #[.str (ks.getD i "") t,y]}:=fun i hi=>by
   obtain⟨a,t,y,f1,f2,f3⟩:=pr i hi;have ne:a≠h1.objs.size:=QD (Qw f3);exact⟨a,t,y,f1,f2,Ro (U6 (hG.above a (Wp f1))),ne,hkeep a _ ne (Qh _ f3)⟩
  have asnd:as.Nodup:=hG.rise.imp fun {a b} z e=>by subst e;exact Wj _ z
  let N:Addr->Option HO:=fun b=>if b=h1.objs.size then some (.lst (pm.toList.map fun i=>V.ref (as.getD i 0)))else (as.idxOf? b).map fun i=>.tup [.str (ks.getD i ""),g (ks.getD i "")]
  have hND:N h1.objs.size=some (.lst (pm.toList.map fun i=>V.ref (as.getD i 0))):=if_pos rfl;have hNt:∀ (i:Nat),i<ks.length->∃ a,as[i]?=some a/\N a=some (.tup [.str (ks.getD i ""),g (ks.getD i "")]):=fun i hi=>by
   obtain⟨a,t,y,f1,f2,f3,f4,f5⟩:=tup3 i hi;refine⟨a,f1,?_⟩;show(if a=h1.objs.size then _ else _)=_;rw[if_neg f4];have hi2:i<as.length:=(Qo.mp f1).1;have e:as.idxOf? a=some i:=by
    rw[Rb];refine⟨hi2,by rw[Qa hi2]at f1;simpa using Option.some.inj f1,fun j hj=>?_⟩;intro z;have e1:as[j]'(by omega)=as[i]:=by rw[Qa hi2]at f1;rw[Option.some.inj f1];simpa using z
    exact absurd ((WQ asnd).mp e1) (by omega)
   rw[e];rfl
  have hNall:∀ a o,N a=some o->s.heap.get? a=none/\∀ H2,ObjOk X.prog X.w H2 h3 a o:=fun a o e=>by
   by_cases ha:a=h1.objs.size
   ·subst ha;rw[hND]at e;cases e;refine⟨hDn,fun H2=>⟨?_,pm.toList.map (fun i=>Value.ref (as.getD i 0)),c,?_,?_⟩⟩
    ·rw[Qc,QC,hpm.size,sizeLine_eq];omega
    ·have gen:∀ l:List Nat,Vals (l.map fun i=>V.ref (as.getD i 0)) (l.map fun i=>Value.ref (as.getD i 0)):=by
      intro l;induction l with
      | nil=>exact .nil
      | cons i l ih=>exact .cons rfl ih
     exact gen _
    ·rw[hD];have el:(List.map (fun i=>(List.map Value.ref as).getD i Value.none) pm.toList)=pm.toList.map fun i=>Value.ref (as.getD i 0):=by
      refine QR fun i hi=>?_;have hi':i<as.length:=by
       have:i∈pm:=by simpa using hi
       have:=hpm.perm.mem_iff.mp this;have:i<ks.length:=by simpa using this
       omega
      rw[Qb,Qk,Qa hi',Qb,Qa hi'];rfl
     rw[el]
   ·have e':(as.idxOf? a).map (fun i=>HO.tup [.str (ks.getD i ""),g (ks.getD i "")])=some o:=by
     have:(if a=h1.objs.size then some (HO.lst (pm.toList.map fun i=>V.ref (as.getD i 0)))else (as.idxOf? a).map fun i=>HO.tup [.str (ks.getD i ""),g (ks.getD i "")])=some o:=e;rw[if_neg ha]at this;exact this
    cases hx:as.idxOf? a with
    | none=>rw[hx]at e';cases e'
    | some i =>
     rw[hx]at e';cases e';obtain⟨hi,hai,_⟩:=Rb.mp hx;have hi':i<ks.length:=by omega
     obtain⟨a',t,y,f1,f2,f3,f4,f5⟩:=tup3 i hi';rw[Qa hi]at f1;have ea:a=a':=by rw[←Option.some.inj f1];simpa using hai.symm
     subst ea;refine⟨f3,fun H2=>⟨by show 2<=sizeLine;rw[sizeLine_eq];decide,[.str (ks.getD i "") t,y],.cons ⟨t,rfl⟩ (.cons f2 .nil),⟨⟨_,f5,rfl,_,rfl⟩,fun o e=>by rw[f5]at e;cases e;rfl⟩⟩⟩
  refine⟨.ref h1.objs.size,_,I.laidN (N:=N) (tk:=tk3) hold hNall,rfl,?_⟩;have hsame:Same H fun b=>(N b).or (H b):=fun b u e=>by
   obtain⟨v,hv⟩:=(I.hok b u e).there';have:N b=none:=by
    cases z:N b with
    | none=>rfl
    | some o=>rw[(hNall b o z).1]at hv;cases hv
   show(N b).or (H b)=some u;rw[this,UG];exact e
  refine q _ _ (pm.toList.map fun i=>V.ref (as.getD i 0)) (pm.toList.map fun i=>ks.getD i "") hsame (ZhE ks pm hpm) ?_ (by rw[hND];rfl) (by rw[Qc,Qc]) fun i x e=>?_
  ·rw[QV,We,Uz];intro i j hi hj hij;have hz2:pm.toList.length=ks.length:=by rw[QC,hpm.size]
   have hu:=hup i j hij (by omega);unfold ltX at hu;rw[decide_eq_true_eq]at hu;have g1:pm.getD i 0=pm.toList[i]:=by rw[QQ,QX (by simpa using hi)];simp
   have g2:pm.getD j 0=pm.toList[j]:=by rw[QQ,QX (by simpa using hj)];simp
   rw[g1,g2]at hu;exact hu
  ·rw[Qk]at e;cases ep:pm.toList[i]? with
   | none=>rw[ep]at e;cases e
   | some k =>
    rw[ep]at e;have ex:ks.getD k "" = x:=Option.some.inj e;have hkm:k∈pm:=by simpa using Wp ep
    have hkl:k<ks.length:=by simpa using hpm.perm.mem_iff.mp hkm
    obtain⟨a,f1,f2⟩:=hNt k hkl;refine⟨a,?_,?_⟩
    ·rw[Qk,ep,Wc,Qb,f1];rfl
    ·show(N a).or (H a)=_;rw[f2,Rk,ex]
def Znr (td:TE):TE:=fun σ H Q=>td σ H fun x H1=>∃ d kvs,x= .ref d/\H1 d=some (.dK kvs)/\∀ p,H1 p=none->Q (.ref p) (upd H1 p (ivO p d))
theorem ZbU {o:Expr} {apos cpos:Pos} {td:TE} (ho:PE X o td) (hbase:attributeBase o "items" X.env (eval o X.env)=eval o X.env:=by rfl) (hline:(apos.endLine==cpos.line)=true:=by rfl) :
  PE X (.Call (.Attribute o "items" apos) [] [] cpos) (Znr td):=by
 intro pins s σ H Q I h;refine wpAny_Call_method0_late hbase hline (thn (ho pins s σ H _ I h) fun v s1 ⟨x,H1,I1,r1,d,kvs,ex,hd,q1⟩=>?_);subst ex;obtain rfl:v=Value.ref d:=r1;obtain⟨t1,t2,_⟩:=Zbf I1 (.inl ⟨kvs,.inl hd⟩);exact⟨"dict",_,PySem.F.plainAttrs_dict,PySem.F.slot_dict_items,PySem.F.type_dict_items,t1,t2,Calls.callWith_builtin rfl (PySem.evalArgs_none (Zj3 pins s1 σ H1 (.ref d) [] (.ref d) [] Q I1 rfl .nil ⟨d,kvs,rfl,rfl,hd,q1⟩))⟩
open PySem PySem.Spec PyProof.Rows
structure XCls (K:PySem.W.Frag) (mg:Str->Option Value) (x:Str) (C:Addr) (bm:List Value):Prop where
 bound:mg x=some (.ref C)
 look:∃ nm q N bs hdct sn sub ab col dd k0 k1 k2 k3 k5,K.lookup C=some (excClassObj nm q C N bs bm hdct sn sub ab col dd k0 k1 k2 k3 k5 "ValueError.__new__") /\
  PySem.W.nsOkIn K N=true/\PySem.W.nsIn K N "__init__" = some none
 tail:PySem.W.tailIn K [.type "ValueError",.type "Exception",.type "BaseException",.type "object"] bm=true
def Zgh (K:PySem.W.Frag) (C:Addr):List Value:=match K.lookup C with
 | some ⟨_,_,.cls cd,_⟩=>cd.mro.tail
 | _=>[]
theorem ZdD {K:PySem.W.Frag} {mg:Str->Option Value} (hb:mg x=some (.ref C)) (hq:PySem.W.excIn K C [.type "ValueError",.type "Exception",.type "BaseException",.type "object"] "ValueError.__new__" = true):XCls K mg x C (Zgh K C):=by
 unfold PySem.W.excIn at hq;cases hl:K.lookup C with
 | none=>rw[hl]at hq;cases hq
 | some o =>
  rw[hl]at hq;split at hq
  ·rename_i dd cd sl e0;injection e0 with e1
   subst e1;split at hq
   ·rename_i C1 bm k0 k1 k2 k3 n k5 e2 e3;rw[QP,QP,QP,QP,QP]at hq;obtain⟨⟨⟨⟨⟨q1,q2⟩,q3⟩,q4⟩,q5⟩,q6⟩:=hq;have r1:=beq_iff_eq.mp q1;have r2:=beq_iff_eq.mp q2;have r6:=beq_iff_eq.mp q6;subst r1;subst r2;obtain⟨f1,f2,f3,f4,f5,f6,f7,f8,f9,f10,f11⟩:=cd;have em:Zgh K C1=bm:=by
     unfold Zgh;rw[hl];show List.tail f3=bm;have e2':f3=Value.ref C1::bm:=e2;rw[e2'];rfl
    rw[em];have e2':f3=Value.ref C1::bm:=e2;have q3':f11=false:=by simpa using q3
    subst e2';subst q3';obtain⟨l⟩:=sl;have e3':l=[k0,k1,k2,k3,some (.builtin "ValueError.__new__"),k5]:=e3;subst e3';exact⟨hb,⟨f1,f5,f4,f2,f6,f7,f8,f9,f10,dd,k0,k1,k2,k3,k5,hl,q5,r6⟩,q4⟩
   ·cases hq
  ·cases hq
theorem XCls.at {K:PySem.W.Frag} {mg:Str->Option Value} (c:XCls K mg x C bm) (X:K.In h):∃ N nm q bs hdct sn sub ab col dd k0 k1 k2 k3 k5 mN,
  h.get? C=some (excClassObj nm q C N bs bm hdct sn sub ab col dd k0 k1 k2 k3 k5 "ValueError.__new__")/\h.Ns N mN/\mN "__init__" = none/\OwnTail h [.type "ValueError",.type "Exception",.type "BaseException",.type "object"] bm:=by
 obtain⟨nm,q,N,bs,hdct,sn,sub,ab,col,dd,k0,k1,k2,k3,k5,hl,h1,h2⟩:=c.look;exact⟨N,nm,q,bs,hdct,sn,sub,ab,col,dd,k0,k1,k2,k3,k5,_,X _ _ hl,.of_isNs (PySem.W.isNs_of_in X h1),PySem.W.nsMap_none_of_in X h1 h2,PySem.W.tail_of_in X c.tail⟩
def CXx (P:Program) (w:World):CXT:=fun outer H s E e s'=>∃ (ea:Addr) (cls a0:Value) (H':Hp) (B:Heap),e= .ref ea/\s'.os=s.os/\AllBare s'.gens/\Un (frs outer) [] H H' s.heap s'.heap/\HOk P w H' s'.heap /\
 Heap.FlyingW B outer ea cls a0 s'.heap/\(∀ b u,H' b=some u->∃ o,B.get? b=some o)/\(∀ b o,s.heap.get? b=some o->H b=none->b∉frs outer->B.get? b=some o) /\
 (∀ b o,s.heap.get? b=some o->b∉frs outer->∃ o',B.get? b=some o')/\E cls none H'
theorem HOk.stays {P:Program} {w:World} {h' B:Heap} (x:HOk P w H h) (hB:∀ b u,H b=some u->∃ o,B.get? b=some o) (h1:B.StaysIn h) (h2:B.StaysIn h'):HOk P w H h':=fun a o e=>by
 have key:∀ b u,H b=some u->∀ v,h.get? b=some v->h'.get? b=some v:=fun b u q v hv=>by
  obtain⟨o',ho⟩:=hB b u q;have e1:=h1 b o' ho;rw[hv]at e1;cases e1;exact h2 b v ho
 refine(x a o e).stay (fun b v hb q=>?_) (fun _ q=>q) fun _ _ q=>q;rcases hb with z | z
 ·subst z;exact key b o e v q
 ·exact key b _ z v q
theorem Zcg {env:Env} {L:Addr} {l:List Env} (h:env.frame=some L):frs (env::l)=L::frs l:=by
 unfold frs;rw[Uy,h]
theorem ObjOk.there {P:Program} {w:World} {o:HO} (x:ObjOk P w H h a o):∃ u,h.get? a=some u:=by
 cases o with
 | lst xs=>obtain⟨_,_,_,_,e⟩:=x;exact⟨_,e⟩
 | tup xs=>obtain⟨_,_,_,⟨_,e,_⟩,_⟩:=x;exact⟨_,e⟩
 | dK kvs=>obtain⟨_,_,_,_,o,_,_,e,_⟩:=x;exact⟨_,e⟩
 | dT kvs=>obtain⟨_,_,_,_,o,_,_,e,_⟩:=x;exact⟨_,e⟩
 | set S n=>obtain⟨o,_,_,_,e,_⟩:=x;exact⟨_,e⟩
 | ins C dx fs=>obtain⟨_,_,_,e,_⟩:=x;exact⟨_,e⟩
 | own y=>exact x
 | xd fs=>obtain⟨_,⟨_,_,_,e,_⟩,_⟩:=x;exact⟨_,e⟩
 | rng lo hi=>obtain⟨_,_,_,e⟩:=x;exact⟨_,e⟩
 | frz ob u=>obtain⟨e,_⟩:=x;exact⟨_,e⟩
 | tbl ps=>exact⟨_,show h.get? a=some _ from x⟩
 | met f y=>exact⟨_,show h.get? a=some _ from x⟩
 | ext φ=>obtain⟨_,e,_⟩:=x;exact e
structure Lv (X:Cx) (E:XK):Prop where
 ex:X.ex=[]
 stk:X.stack=X.env::X.outer
 fr:X.env.frame=some X.env.locals
 xe:∀ e s',wpAny (model X.prog X.w) X.A (leaving X.env e) (fun _ s''=>CXx X.prog X.w X.outer X.H₀ X.s₀ E e s'') (fun e' s''=>CXx X.prog X.w X.outer X.H₀ X.s₀ E e' s'') s'->X.xe e s'
section
variable {X:Cx} {E:XK} {pins:List (Addr×Obj)} {σ:St} {H:Hp} {s:Shared}
theorem Lv.frs (L:Lv X E):frs X.stack=X.env.locals::X.fs:=by rw[L.stk];exact Zcg L.fr
theorem Lv.old (L:Lv X E) (I:Inv X pins σ H s) {b:Addr} {o:Obj} (q:X.s₀.heap.get? b=some o) (hb:b∉X.fs):b∉L2.frs X.stack:=by
 rw[L.frs,Qx];rintro(z | z)
 ·exact absurd (QN (Qw q) (z▸I.ok.above)) (Wj _)
 ·exact hb z
theorem Lv.noex (L:Lv X E) (b:Addr):b∉X.ex:=by rw[L.ex];simp
theorem Lv.raised (L:Lv X E) (I:Inv X pins σ H s) {h1:Heap} {e:Addr} {args:List Value} (hx:Heap.MadeExcOf s.heap h1 e (.ref C) args) (hE:E (.ref C) none H):X.xe (.ref e) {s with heap:=h1}:=by
 have hin:∀ env∈X.stack,∀ b,env.frame=some b->b∈L2.frs X.stack:=fun env he b hb=>U2.mpr ⟨env,he,hb⟩;have fB:s.heap.FunFrames (PySem.W.hideAll s.heap (L2.frs X.stack)) X.stack:=PySem.W.funFrames_hide I.stack hin;have kB:∀ b o,s.heap.get? b=some o->b∉L2.frs X.stack->(PySem.W.hideAll s.heap (L2.frs X.stack)).get? b=some o:=fun b o q n=>PySem.W.hideAll_get _ q n;rw[L.stk]at fB;refine L.xe _ _ (wpAny_leaves_madeW (base:=PySem.W.hideAll s.heap (L2.frs X.stack)) (h:=s.heap) (by rw[←L.stk];exact I.ok.frames) L.fr (fun b o q=>PySem.W.of_hideAll _ q) (by rw[L.stk];exact fB) hx fun h2 t fl tup bt up=>?_);have c1:∀ b u,H b=some u->∃ o,(PySem.W.hideAll s.heap (L2.frs X.stack)).get? b=some o:=fun b u q=>by
  obtain⟨o,ho⟩:=(I.hok b u q).there;exact⟨o,kB b o ho fun z=>by rw[I.stkFree b z]at q;cases q⟩
 have c2:∀ b o,X.s₀.heap.get? b=some o->X.H₀ b=none->b∉L2.frs X.outer->(PySem.W.hideAll s.heap (L2.frs X.stack)).get? b=some o:=fun b o q n hb=>kB b o (I.base.keep b o q n hb (L.noex b)) (L.old I q hb);have c3:∀ b o,X.s₀.heap.get? b=some o->b∉L2.frs X.outer->∃ o',(PySem.W.hideAll s.heap (L2.frs X.stack)).get? b=some o':=fun b o q hb=>by
  obtain⟨o',q1⟩:=I.base.there b o q (L.noex b);exact⟨o',kB b o' q1 (L.old I q hb)⟩
 have fr:∀ b∈L2.frs X.outer,∀ o,s.heap.get? b=some o->∃ sl,h2.get? b=some {o with slots:=sl}:=fun b hb o q=>by
  obtain⟨_,o',ho,hd⟩:=I.stack.mem (b:=b) (by show b∈L2.frs X.stack;rw[L.frs];exact Qg _ hb);rw[q]at ho;cases ho;exact up b o (hx.keeps b o q) hd
 refine⟨e,.ref C,.ref t,H,_,rfl,I.os,I.bare,⟨fun b o q n hb _=>fl.1 b o (c2 b o q n hb),fun b o q n hb _=>?_,fun b o q n _=>I.base.free b o q n (L.noex b),fun b o q _=>?_,I.base.tups,I.base.frzs,I.base.tbls⟩,
  I.hok.stays c1 (fun b o q=>PySem.W.of_hideAll _ q) fl.1,fl,c1,c2,c3,hE⟩
 ·obtain⟨sl,q1⟩:=I.base.slot b o q n hb (L.noex b);obtain⟨sl',q2⟩:=fr b hb _ q1;exact⟨sl',q2⟩
 ·by_cases hb:b∈L2.frs X.outer
  ·obtain⟨o',q1⟩:=I.base.there b o q (L.noex b);obtain⟨sl',q2⟩:=fr b hb _ q1;exact⟨_,q2⟩
  ·obtain⟨o',q1⟩:=c3 b o q hb;exact⟨o',fl.1 b o' q1⟩
theorem Lv.pass (L:Lv X E):X6 (CXx X.prog X.w) X E:=by
 intro pins σ H s e s' I hc;obtain⟨ea,cls,a0,H',B,rfl,os,bare,un,hok,fl,c1,c2,c3,hE⟩:=hc;have fl0:Heap.FlyingW B (X.env::X.outer) ea cls a0 s'.heap:=by rw[←L.stk];exact fl
 refine L.xe _ _ (wpAny_leaves_onW (by rw[←L.stk];exact I.ok.frames) L.fr fl0 fun h2 fl2 up=>?_);have d2:∀ b o,X.s₀.heap.get? b=some o->X.H₀ b=none->b∉L2.frs X.outer->B.get? b=some o:=fun b o q n hb =>
  c2 b o (I.base.keep b o q n hb (L.noex b)) (I.base.free b o q n (L.noex b)) (L.old I q hb)
 have d3:∀ b o,X.s₀.heap.get? b=some o->b∉L2.frs X.outer->∃ o',B.get? b=some o':=fun b o q hb=>by
  obtain⟨o',q1⟩:=I.base.there b o q (L.noex b);exact c3 b o' q1 (L.old I q hb)
 have fr:∀ b∈L2.frs X.outer,∀ o,s'.heap.get? b=some o->∃ sl,h2.get? b=some {o with slots:=sl}:=fun b hb o q=>by
  obtain⟨_,o',ho,hd⟩:=fl.2.2.1.mem (b:=b) (by show b∈L2.frs X.stack;rw[L.frs];exact Qg _ hb);rw[q]at ho;cases ho;exact up b o q hd
 have hst:∀ b∈L2.frs X.outer,b∈L2.frs X.stack:=fun b hb=>by rw[L.frs];exact Qg _ hb
 refine⟨ea,cls,a0,H',B,rfl,os.trans I.os,bare,⟨fun b o q n hb _=>fl2.1 b o (d2 b o q n hb),fun b o q n hb _=>?_,fun b o q n _=>?_,fun b o q _=>?_,fun b xs q=>un.tups b xs (I.base.tups b xs q),fun b o u q=>un.frzs b o u (I.base.frzs b o u q),fun b ps q=>?_⟩,
  hok.stays c1 fl.1 fl2.1,fl2,c1,d2,d3,hE⟩
 ·obtain⟨sl,q1⟩:=I.base.slot b o q n hb (L.noex b);obtain⟨sl1,q2⟩:=un.slot b _ q1 (I.base.free b o q n (L.noex b)) (hst b hb) (by simp);obtain⟨sl',q3⟩:=fr b hb _ q2;exact⟨sl',q3⟩
 ·obtain⟨o',q1⟩:=I.base.there b o q (L.noex b);exact un.free b o' q1 (I.base.free b o q n (L.noex b)) (by simp)
 ·by_cases hb:b∈L2.frs X.outer
  ·obtain⟨o',q1⟩:=I.base.there b o q (L.noex b);obtain⟨o'',q2⟩:=un.there b o' q1 (by simp);obtain⟨sl',q3⟩:=fr b hb _ q2;exact⟨_,q3⟩
  ·obtain⟨o',q1⟩:=d3 b o q hb;exact⟨o',fl2.1 b o' q1⟩
 ·obtain⟨m1,e1⟩:=I.base.tbls b ps q;obtain⟨m2,e2⟩:=un.tbls b _ e1;exact⟨m1++m2,by rw[e2,U1]⟩
def Znp (E:XK) (C:Addr) (t:TA):TS:=fun D σ H=>t σ H fun vs H1=>vs.length<=sizeLine/\E (.ref C) none H1
theorem Xq {e₀:Expr} {es:List Expr} {t:TA} {np cpos pos:Pos} (L:Lv X E) (c:XCls X.K X.mg x C bm) (hcalm:X.calm=true) (ha:PA X (e₀::es) t) (hg:Gl X x:=by rfl) (hd:(x==("__debug__" : Str))=false:=by decide)
  (he:starEach (e₀::es) X.env=(false,eval e₀ X.env)::starEach es X.env:=by rfl) (hpl:(backTo cpos (starEach es X.env)).any (·.1)=false:=by rfl) :
  PS X (.Raise (some (.Call (.Name x np) (e₀::es) [] cpos)) none pos) (Znp E C t):=by
 intro pins s σ H D I h;obtain⟨N,nm,q,bs,hdct,sn,sub,ab,col,dd,k0,k1,k2,k3,k5,mN,hC,hN,hni,T⟩:=c.at I.mod.kin;have hpl':(backTo cpos (starEach (e₀::es) X.env)).any (·.1)=false:=by
  rw[he];exact hpl
 refine wpAny_Raise_call_subU (C:=C) (nm:=nm) (q:=q) (N:=N) (bs:=bs) (bm:=bm) (hdct:=hdct) (sn:=sn) (sub:=sub) (ab:=ab) (col:=col) (dd:=dd) (k0:=k0) (k1:=k1) (k2:=k2) (k3:=k3) (k5:=k5)
  PySem.F.excBase_ValueError (by decide) PySem.F.excBase_ValueError (mN:=mN) (T.hasType PySem.F.excBase_ValueError.hasBase) (I.ok.hd hcalm) hpl' hni (Xb I hg c.bound ⟨rfl,?_⟩ hd)
 have hs:=ha cpos pins s σ H _ I h;rw[he]at hs ⊢;refine Calls.evalArgs_plain (wpAny_mono hs (fun us s2 ⟨vs,H2,I2,r,hl,hE⟩=>⟨rfl,?_,?_⟩) fun _ _ y=>y)
 ·rw[←r.length];exact hl
 ·obtain⟨N',nm',q',bs',hdct',sn',sub',ab',col',dd',k0',k1',k2',k3',k5',mN',hC',_⟩:=c.at I2.kIn;exact⟨I2.bk _ _ hC,hN.keeps I2.bk,T.keeps I2.bk,fun h1 e hm=>L.raised I2 hm hE⟩
end
theorem Fun.okX {P:Program} {w:World} {K:PySem.W.Frag} {mg:Str->Option Value} {base:Heap} {qual:Str} {f:Addr} {fd:FuncData} {N:List Str} {sp:Sp} (F:Fun K x qual st f fd) (S:Zm N ps (Zg st)) (len:∀ vs H Q E,sp vs H Q E->vs.length=ps.length)
  (hbody:∀ (X:Cx) (vs:List V) (H:Hp) (Q:VK) (E:XK) (cdv:Value) (A:Around) (outer:List Env) (s:Shared),X=Zdq (CXx P w) P w K mg base N qual (Zg st) f cdv A outer s H E->Lv X E->Room k X.A->sp vs H Q E ->
   ∃ t,PSs (Zdq (CXx P w) P w K mg base N qual (Zg st) f cdv A outer s H E) (ZG st) t/\t {nx:=fun _ H'=>Q .non H',rt:=Q} (start N vs) H):FnOk P w K mg base (CXx P w) (k+1) f fd ps sp:=by
 obtain⟨oc,od,kV,doc,pm,an,cdv,ct,osl,rfl,lk,hcd⟩:=F.ex;refine ZmX lk hcd S len fun A outer s H vs Q E hr hsp=>?_;exact hbody _ vs H Q E cdv A outer s rfl ⟨rfl,rfl,rfl,fun _ _ h=>h⟩ hr hsp
structure ZoT (P:Program) (w:World) (K:PySem.W.Frag) (mg:Str->Option Value) (base:Heap) (k:Nat) (name:Str) (ps:List Str) (sp:Sp):Prop where
 ex:∃ f fd,FnOk P w K mg base (CXx P w) k f fd ps sp/\Binds K fd ps []/\mg name=some (.ref f)/\PySem.W.keepIn K (.ref f)=true
theorem HasDef.okX {P:Program} {w:World} {K:PySem.W.Frag} {mg:Str->Option Value} {base:Heap} {name:Str} {N:List Str} {sp:Sp} (D:HasDef K mg name st ps) (S:Zm N ps (Zg st)) (len:∀ vs H Q E,sp vs H Q E->vs.length=ps.length)
  (hbody:∀ (f:Addr) (cdv:Value) (A:Around) (outer:List Env) (s:Shared) (vs:List V) (H:Hp) (Q:VK) (E:XK),Lv (Zdq (CXx P w) P w K mg base N name (Zg st) f cdv A outer s H E) E->Room k (A.deeper (envOfC name (Zg st) s.heap.objs.size f cdv))->sp vs H Q E ->
   ∃ t,PSs (Zdq (CXx P w) P w K mg base N name (Zg st) f cdv A outer s H E) (ZG st) t/\t {nx:=fun _ H'=>Q .non H',rt:=Q} (start N vs) H):ZoT P w K mg base (k+1) name ps sp:=by
 obtain⟨f,fd,F,b,m⟩:=D.ex;refine⟨f,fd,F.okX S len fun X vs H Q E cdv A outer s e l r h=>?_,b,m,F.kp⟩;subst e;exact hbody f cdv A outer s vs H Q E l r h
section
variable {X:Cx} {pins:List (Addr×Obj)} {σ:St} {H:Hp} {s:Shared}
theorem XU {M:Model} {A:Around} {E:Value->Shared->Prop} {i:Nat} {n:Str} {Q:Unit->Shared->Prop} (I:Inv X pins σ H s) (hN:X.N.Nodup) (hi:X.N[i]?=some n) (hk:X.env.scope.names.lookup n=some .local)
  (h:∀ s',Inv X pins (σ.set i none) H s'->Q () s'):wpAny M A (do bindName X.env n .none;unbindBehindTheSuite X.env n pos) Q E s:=by
 obtain⟨m,hn,hl⟩:=id I.loc;obtain⟨oL,_,_,hoL,_⟩:=id hn;have hc:(X.env.scope.kind==.class || (X.env.scope.kind==.module&&X.env.locals != X.env.globals))=false:=by rw[I.ok.kind];rfl
 refine wpAny_nameGoes_keeps hk hn hc fun h' v hn' hs=>?_;have ne:∀ b o,X.s₀.heap.get? b=some o->b≠X.env.locals:=fun b o e=>QD (QN (Qw e) I.ok.above);refine h _ ⟨I.ok,I.os,I.bare,⟨fun b o e n hb hx=>(hs.2 b (ne b o e)).trans (I.base.keep b o e n hb hx),fun b o e n hb hx=>?_,I.base.free,fun b o e hx=>?_,I.base.tups,I.base.frzs,I.base.tbls⟩,⟨_,hn',fun j y v' e1 e2 e3=>?_⟩,fun y c e=>?_,I.free,I.freeC,fun p hp=>?_,fun b ob e=>?_,by simpa using I.len⟩
 ·obtain⟨sl,e1⟩:=I.base.slot b o e n hb hx;exact⟨sl,(hs.2 b (ne b o e)).trans e1⟩
 ·obtain⟨o',e1⟩:=I.base.there b o e hx;exact⟨o',(hs.2 b (ne b o e)).trans e1⟩
 ·have hj:j≠i:=by
   rintro rfl;have hiσ:j<σ.length:=by rw[I.len];exact(Qo.mp hi).1
   rw[UJ hiσ]at e2;cases e2
  rw[UM (Ne.symm hj)]at e2;obtain⟨u',r',q⟩:=hl j y v' e1 e2 e3;refine⟨u',r',?_⟩;rcases q with ⟨k,e⟩ | ⟨k,c,e,z⟩
  ·have hy:y≠n:=fun z=>hj (Zb0 hN e1 (z▸hi));exact .inl ⟨k,(if_neg hy).trans e⟩
  ·exact .inr ⟨k,c,e,z.sameBut hs (I.cne y c e)⟩
 ·obtain⟨w',z⟩:=I.cell y c e;exact⟨w',z.sameBut hs (I.cne y c e)⟩
 ·obtain⟨e,n,ne,nf,d⟩:=I.pin p hp;exact⟨(hs.2 p.1 ne).trans e,n,ne,nf,d⟩
 ·refine(I.hok b ob e).stay (fun c w' hc q=>(hs.2 c fun z=>?_).trans q) (fun _ q=>q) fun _ _ q=>q;subst z;rcases hc with z | z
  ·rw[←z,I.free]at e;cases e
  ·rw[I.free]at z;cases z
abbrev Cx.caught (X:Cx) (ea:Addr) (pn:List (Addr×Obj)):Cx:={X with A:=X.A.mark (some (.ref ea)),calm:=false,pn:=pn,xe:=fun _ _=>False}
theorem Inv.caught (I:Inv X pins σ H s) (h1:s.heap.get? ea=some oe) (h2:H ea=none) (h3:ea≠X.env.locals) (h4:ea∉X.fs) (h5:∀ v,oe.data≠.cell v):Inv (X.caught ea (X.pn++pins++[(ea,oe)])) [] σ H s :=
 ⟨⟨I.ok.mod,I.ok.kind,I.ok.glob,I.ok.blt,I.ok.above,I.ok.inj,I.ok.has,I.ok.cab,fun z=>(QH z).elim,I.ok.frames,I.ok.stk,I.ok.exf,I.ok.bs,I.ok.bsz,I.ok.noex,I.ok.exfs,I.ok.funs,I.ok.frf⟩,I.os,I.bare,I.base,I.loc,I.cell,I.free,I.freeC,fun p hp=>by
  have hp':p∈X.pn++pins++[(ea,oe)]:=by simpa using hp
  rcases QI.mp hp' with z | z
  ·exact I.pin p z
  ·rw[Qm.mp z];exact⟨h1,h2,h3,h4,h5⟩,I.hok,I.len⟩
theorem Inv.uncaught {pins' q:List (Addr×Obj)} (ok:X.Ok) (I:Inv (X.caught ea (X.pn++pins++q)) pins' σ H s):Inv X pins σ H s :=
 ⟨ok,I.os,I.bare,I.base,I.loc,I.cell,I.free,I.freeC,fun p hp=>I.pin p (QS _ (QS _ hp)),I.hok,I.len⟩
end
theorem ZaW {M:Model} {A:Around} {E:Value->Shared->Prop} {nm q nm2 q2:Str} {N C2 N2:Addr} {bs bs2 bm2:List Value} {hdct hdct2:Bool} {sn sn2:List Str} {sub sub2:List Value} {ab ab2:Bool} {col col2:Option Bool} {dd dd2:Option Addr} {k0 k1 k2 k3 k5 j0 j1 j2 j3 j5:Option Value} {nw nw2:String}
  {h:Heap} {g:Array GenState} {d:Drawn} {t:Nat} {os:OsState} {e:Addr} {oe:Obj} {Q:Bool->Shared->Prop} (hC:h.get? C=some (excClassObj nm q C N bs bm hdct sn sub ab col dd k0 k1 k2 k3 k5 nw)) (hC2:h.get? C2=some (excClassObj nm2 q2 C2 N2 bs2 bm2 hdct2 sn2 sub2 ab2 col2 dd2 j0 j1 j2 j3 j5 nw2))
  (he:h.get? e=some oe) (hcls:oe.cls= .ref C) (hb:bm2.contains (.type "BaseException")=true) (hs:bm.contains (.ref C2)=true) (hq:Q true ⟨h,g,d,t,os⟩):wpAny M A (excMatches (.ref e) (.ref C2)) Q E ⟨h,g,d,t,os⟩:=by
 have g1:(Value.ref C2::bm2).contains (.type "BaseException")=true:=by rw[UC,hb,RH]
 have g2:(Value.ref C::bm).contains (.ref C2)=true:=by rw[UC,hs,RH]
 have g3:=tc_notTuple;unfold excMatches
 repeat (first
  | (with_reducible refine wpAny_loadPart_at he ?_;rw[hcls])
  | with_reducible refine wpAny_loadPart_at hC2 ?_
  | (with_reducible refine wpAny_isSubtype_exc hC2 ?_;rw[g1])
  | (with_reducible refine wpAny_isSubtype_exc hC ?_;rw[g2])
  | wp_step)
 exact hq
def ZmS (D:Zev) (i:Nat):Zev:={nx:=fun σ H=>D.nx (σ.set i none) H,rt:=D.rt,bk:=fun σ H=>D.bk (σ.set i none) H,ct:=fun σ H=>D.ct (σ.set i none) H}
structure JJ (K:PySem.W.Frag) (C:Addr):Prop where
 ga:findIn K (.ref C) "__getattribute__" = some (some (.builtin "BaseException.__getattribute__"))
 gx:findIn K (.ref C) "__getattr__" = some none
 gc:findIn K (.ref C) "__class__" = some (some (.builtin "object.__class__"))
 sp:specialIn K (.builtin "object.__class__") "__get__" = some (some (.builtin "getset_descriptor.__get__"))
 tk:takesIn K (.builtin "object.__class__")=some true
 mo:mroIn K C (.type "object")=some true
 mb:mroIn K C (.type "BaseException")=some true
 cl:(clsIn K C).isSome=true
section
variable {prog:Program} {w:World} {A:Around} {E:Value->Shared->Prop} {s:Shared} {K:Frag} {a C:Addr} {o:Obj}
def ExAt (h:Heap) (a C:Addr):Prop:=∃ o,h.get? a=some o/\o.cls= .ref C
theorem ExAt.type {M:Model} (x:ExAt h a C):Looks M h (typeOf (.ref a)) (.ref C):=by
 obtain⟨o,h1,h2⟩:=x;exact h2▸(Looks.ld h1).andThen .now
theorem Zkq {M:Model} (T:JJ K C) (X:K.In h):Looks M h (Builtin.ObjectAttr.find (.ref a) (.ref C) "__class__") (.bind (.builtin "getset_descriptor.__get__") (.builtin "object.__class__")):=by
 have l1:=looks_findIn (M:=M) X T.gc;have l2:Looks M h (Builtin.ObjectAttr.getOf (some (.builtin "object.__class__"))) (some (.builtin "getset_descriptor.__get__")):=looks_specialIn X T.sp;have l3:=looks_takesIn (M:=M) X T.tk;have l4:Looks M h (Builtin.ObjectAttr.dataDescriptor? (some (.builtin "object.__class__")) (some (.builtin "getset_descriptor.__get__"))) (some (.builtin "getset_descriptor.__get__",.builtin "object.__class__")):=l3.andThen .now;exact l1.andThen (l2.andThen (l4.andThen (Looks.tag .now)))
theorem Zck {tp:Value} {R:Result->Shared->Prop} (T:JJ K C) (X:K.In s.heap) (x:ExAt s.heap a C) (h:R (.ok (.ret (.ref C))) s) :
  codeAny (model prog w) A (.call (.builtin "getset_descriptor.__get__") ⟨[.builtin "object.__class__",.ref a,tp],[]⟩) R s:=by
 obtain⟨hh,g,dr,t,os⟩:=s;have l0:=x.type (M:=model prog w);have l1:=looks_mroIn (M:=model prog w) X T.mo;refine codeAny_call_builtin
  KF.slot_gs.plain
  KF.entry_gs
  (KF.slot_gs.check _ _ _ _ _ _ _ _
   KF.type_class (KF.args_gs _ _ _) ?_)
 unfold Builtin.«getset_descriptor.__get__»;unfold PySem.Builtin.Getset_descriptor.descrGet;rw[dga_obj];refine wpAny_bind (wpAny_pure ?_);unfold PySem.Builtin.Getset_descriptor.descrGetter;unfold PySem.Builtin.Getset_descriptor.descrCheckInstance;unfold PySem.Builtin.Getset_descriptor.descrNameAndClass;unfold isInstance;simp only[KF.owner_class]
 repeat lk
 refine⟨Code.quiet_builtin _ (by decide +kernel),?_⟩;refine codeAny_builtin KF.entry_class ?_;unfold Builtin.«object.__class__»;unfold shownTypeOf
 repeat lk
 exact h
theorem ZiI {Q:Option Value->Shared->Prop} (T:JJ K C) (X:K.In s.heap) (I:ExAt s.heap a C) (h:Q (some (.ref C)) {s with toks:=s.toks+1}):wpAny (model prog w) A (getAttr? (.ref a) "__class__") Q E s:=by
 obtain⟨hh,g,d,t,os⟩:=s;have L0:=I.type (M:=model prog w);have L1:=looks_findIn (M:=model prog w) X T.ga;have L2:=looks_findIn (M:=model prog w) X T.gx;have L3:=Zkq (M:=model prog w) (a:=a) T X;have L4:=looks_mroIn (M:=model prog w) X T.mb;have hx:(onTheHeap (Value.ref C)&&Value.builtin "BaseException.__getattribute__" == Value.builtin "object.__getattribute__")=false:=by
  have:(Value.builtin "BaseException.__getattribute__" == Value.builtin "object.__getattribute__")=false:=by decide +kernel
  rw[this];rfl
 unfold getAttr? getAttrBy? getAttrBy;refine wpAny_bind (wpAny_mkText (wpAny_bind (wpAny_attempt (wpAny_holding (wpAny_bind (L0.at (wpAny_bind (L1.at ?_))))))));dsimp only;rw[hx];simp only[Wf,if_false];unfold getAttrByItsOwn hookBefore;rw[show onTheHeap (Value.ref C)=true from rfl,if_pos rfl];refine wpAny_bind (L2.at ?_);refine wpAny_bind (wpAny_attempt (wpAny_holding ?_));unfold callGetattribute boundAndCalled;simp only[UY,Wf,if_false];have FB:=PySem.F.attrBase_ValueError;rw[FB.ga.bind (.ref a)];refine wpAny_bind (wpAny_pure ?_);have hk:builtinKind "BaseException.__getattribute__" = some .slot:=by decide +kernel
 have hsp:splitId "BaseException.__getattribute__" = some ("BaseException","__getattribute__"):=by decide +kernel
 have hargs:=F.args_bexc_ga (.ref a) (.str "__class__" t);refine wpAny_call (codeAny_call_builtin FB.ga.plain F.entry_bexc_ga ?_);show wpAny _ _ (checkBuiltinCall "BaseException.__getattribute__" ⟨[.ref a,.str "__class__" t],[]⟩) _ _ _;simp only[checkBuiltinCall,hk,hsp];refine wpAny_bind ?_;unfold isInstance;refine wpAny_bind (L0.at (L4.at ?_));simp only[Vj,Wf,if_false];refine wpAny_of_eq (a:=()) hargs ?_;show wpAny _ _ (Builtin.«object.__getattribute__» ⟨[.ref a,.str "__class__" t],[]⟩) _ _ _;unfold Builtin.«object.__getattribute__»;refine wpAny_bind (m:=slotArgs _ _ _) (wpAny_pure ?_);dsimp only;refine wpAny_bind (wpAny_pure ?_);refine wpAny_bind (L0.at (wpAny_bind (L3.at ?_)));show wpAny _ _ (holding [Value.builtin "object.__class__"] (call (.builtin "getset_descriptor.__get__") [.builtin "object.__class__",.ref a,.ref C]) >>= ret) _ _ _;refine wpAny_bind (wpAny_holding (wpAny_call (Zck (s:={heap:=hh,gens:=g,drawn:=d,toks:=t+1,os:=os}) T X I ?_)));exact wpAny_pure (handed_on rfl (wpAny_pure h))
theorem Zfd (T:JJ K C):KitX K (.ref a) (.ref C) (fun h=>ExAt h a C) where
 ty:=fun _ _ _ I=>I.type
 it:=fun _ _ X _=>by
  have hc:=T.cl;unfold clsIn at hc;split at hc
  ·rename_i c1 d1 cd1 sl1 ho;intro A1 Q1 E1 s1 k q;unfold isType loadHead;exact wpAny_bind (wpAny_loadPart (k _ _ (X _ _ ho)) (wpAny_pure q))
  ·cases hc
 ne:=fun h tp dd its n sl X htp=>by
  have hc:=T.cl;refine RS.mpr fun q=>?_;have e:C=tp:=Value.ref.inj (beq_iff_eq.mp q);subst e;unfold clsIn at hc;split at hc
  ·rename_i c1 d1 cd1 sl1 ho;cases (X _ _ ho).symm.trans htp
  ·cases hc
 ca:=fun X I k=>ZiI T X I k
end
theorem ZeT {pn:List (Addr×Obj)} {pins:List (Addr×Obj)} {s:Shared} (I:Inv (X.caught ea pn) pins σ H s) (hm:(ea,oe)∈pn) (hc:oe.cls= .ref C):ExAt s.heap ea C :=
 ⟨oe,(I.pin (ea,oe) (QS _ hm)).1,hc⟩
theorem X3 {pn:List (Addr×Obj)} (hm:(ea,oe)∈pn):CallR (X.caught ea pn) (.builtin "isinstance") (fun xs H Q=>∃ (c:V) (C:Addr) (cv:Value) (b:Bool),xs=[.ref ea,c]/\oe.cls= .ref C/\JJ X.K C/\ZpU c=some cv/\kitOne X.K (.ref C) cv=some b/\Q (.bl b) H):=by
 intro pins s σ H xs us Q I r h;obtain⟨c,C,cv,b,rfl,hc,T,rc,e,q⟩:=h;obtain⟨u,w',rfl,ru,rw'⟩:=ZlG r;cases ru;have ec:w'=cv:=by
  cases c with
  | ty n=>exact(show w'=Value.type n from rw').trans (Option.some.inj rc)
  | ref n=>exact(show w'=Value.ref n from rw').trans (Option.some.inj rc)
  | _=>cases rc
 subst ec;exact kia_one (Zfd T) I.kIn (ZeT I hm hc) e (fun z=>nomatch z) fun tk=>⟨.bl b,H,I.tok _,rfl,q⟩
theorem Zi0 {pn:List (Addr×Obj)} (hm:(ea,oe)∈pn):CallR (X.caught ea pn) (.builtin "isinstance") (fun xs H Q=>∃ (t C:Addr) (cs:List Addr) (b:Bool),xs=[.ref ea,.ref t]/\oe.cls= .ref C/\JJ X.K C/\H t=some (.tup (cs.map V.ref)) /\
  kitAny X.K (.ref C) (cs.map Value.ref)=some b/\Q (.bl b) H):=by
 intro pins s σ H xs us Q I r h;obtain⟨t,C,cs,b,rfl,hc,T,ht,e,q⟩:=h;obtain⟨u,w',rfl,ru,rw'⟩:=ZlG r;cases ru;cases rw';obtain⟨_,its,rv,⟨o,h1,h2,n,h3⟩,_⟩:=I.hok t _ ht;have ei:its=cs.map Value.ref:=by
  clear h3;have gen:∀ (cs:List Addr) (its:List Value),Vals (cs.map V.ref) its->its=cs.map Value.ref:=by
   intro cs;induction cs with
   | nil=>intro its r;cases r;rfl
   | cons c cs ih =>
    intro its r;cases r with
    | cons r1 r2 =>
     rw[ih _ r2,show _=Value.ref c from r1];rfl
  exact gen cs its rv
 subst ei;obtain⟨oc,od,odat,osl⟩:=o;have h2':oc= .type "tuple":=h2;have h3':odat= .seq (cs.map Value.ref).toArray n:=h3;subst h2' h3';exact kia_tup (Zfd T) I.kIn (ZeT I hm hc) h1 e (fun z=>nomatch z) fun tk=>⟨.bl b,H,I.tok _,rfl,q⟩
theorem Zqk:bootBuiltins "ValueError" = some (.type "ValueError"):=by decide +kernel
theorem Zfe {K:PySem.W.Frag} {v:Value}:PySem.W.kitOne K v v=some true:=by
 unfold PySem.W.kitOne;rw[if_pos (beq_self_eq_true v)]
theorem Yk:MtR X "list.append" Zhu:=Zc8
theorem hasDef_mk {K:PySem.W.Frag} {mg:Str->Option Value} {name:Str} {f:Addr} {oc:Value} {od an:Option Addr} {sl:Array (Option Value)} {kV dc pm cd ct:Value} (X:K.In h) (G:h.Ns mainGlobals mg)
  (a:PySem.W.nsIn K mainGlobals name=some (some (.ref f))) (l:K.lookup f=some ⟨oc,od,.func (PySem.W.fnOf name name (ZO st) (ZG st) (Zg st) .none kV dc pm an cd ct),sl⟩) (c:PySem.W.codeIn K cd name=true) (k:PySem.W.keepIn K (.ref f)=true)
  (hb:∀ (kV doc pm:Value) (an:Option Addr) (cdv ct:Value) (us:List Value),us.length=ps.length->bindArgs (PySem.W.fnOf name name (ZO st) (ZG st) (Zg st) .none kV doc pm an cdv ct) ⟨us,[]⟩=pure (ps.zip us)):HasDef K mg name st ps :=
 ⟨_,_,ZiD (st:=st) l c k,(ZiD (st:=st) l c k).binds hb,PySem.W.mg_of X G a⟩
abbrev ZoX:List Value:=[.type "ValueError",.type "Exception",.type "BaseException",.type "object"]
theorem xattr_mk {K:PySem.W.Frag} (ga:PySem.W.findIn K (.ref C) "__getattribute__" = some (some (.builtin "BaseException.__getattribute__"))) (gx:PySem.W.findIn K (.ref C) "__getattr__" = some none) (gc:PySem.W.findIn K (.ref C) "__class__" = some (some (.builtin "object.__class__"))) (sp:PySem.W.specialIn K (.builtin "object.__class__") "__get__" = some (some (.builtin "getset_descriptor.__get__"))) (tk:PySem.W.takesIn K (.builtin "object.__class__")=some true) (mo:PySem.W.mroIn K C (.type "object")=some true) (mb:PySem.W.mroIn K C (.type "BaseException")=some true) {cv:PySem.ClassData} (cl:PySem.W.clsIn K C=some cv):JJ K C:=⟨ga,gx,gc,sp,tk,mo,mb,by rw[cl];rfl⟩
theorem Znk {K:PySem.W.Frag} {S:Addr} {bmB:List Value} {nw:String} (e:PySem.W.mroIn K C (.ref S)=some true) (q:PySem.W.excIn K C bmB nw=true) (hne:(S==C)=false):(Zgh K C).contains (.ref S)=true:=by
 unfold PySem.W.mroIn PySem.W.clsIn at e;unfold PySem.W.excIn at q;unfold Zgh;cases hl:K.lookup C with
 | none=>rw[hl]at q;cases q
 | some o =>
  rw[hl]at q e;split at q
  ·rename_i dd cd sl e0;injection e0 with e1
   subst e1;split at q
   ·rename_i C1 bm k0 k1 k2 k3 n k5 e2 e3;rw[QP,QP,QP,QP,QP]at q;have r1:=beq_iff_eq.mp q.1.1.1.1.1;subst r1;dsimp only[Option.bind]at e ⊢;rw[e2]at e ⊢;injection e with e4
    rw[UC]at e4;rcases(Vc ..).mp e4 with z | z
    ·have z1:=eq_of_beq z;injection z1 with z2
     rw[z2,beq_self_eq_true]at hne;cases hne
    ·exact z
   ·cases q
  ·cases q
theorem Ya {c:Bool} {A B:Prop} (h:c=true) (a:A):if c=true then A else B:=by rw[if_pos h];exact a
theorem ZM {c:Bool} {A B:Prop} (h:c=false) (b:B):if c=true then A else B:=by rw[h];exact Zka b
theorem Xf {a b:Int} (h:¬ a=b):decide (V.int a=V.int b)=false:=decide_eq_false fun q=>h (by injection q)
theorem Zaz {a b:Int} (h:a=b):decide (V.int a=V.int b)=true:=decide_eq_true (congrArg V.int h)
theorem Jt {H1:Hp} {p:Addr} {o:HO} (s:Same H H1) (hp:H p=none):Same H (upd H1 p o):=fun b o' e=>by
 rw[Zi (Zk e hp)];exact s b o' e
open PySem PySem.Spec PyProof.Rows PySem.Builtin.Str
theorem JE {i:Int} (h0:0<=i) (h1:i<=x.length):(Txt.slice x (some i) none).cps.toList=x.cps.toList.drop i.toNat:=by
 rw[eq_of_beq (slice_closes_fromL h0 h1 rfl)];simp[Str.length];exact Q6 (by simp;omega)
theorem Inv.laid2 {pins:List (Addr×Obj)} {s:Shared} {h':Heap} {x y:Addr} {o:HO} {t':Nat} (I:Inv X pins σ H s) (k:∀ b u,b≠x->b≠y->s.heap.get? b=some u->h'.get? b=some u) (hx:Zeu X pins H x) (hy:Zeu X pins H y)
  (hxt:∃ u,h'.get? x=some u) (hyt:∃ u,h'.get? y=some u) (hp:s.heap.objs.size<=a) (new:ObjOk X.prog X.w (upd H a o) h' a o):Inv X pins σ (upd H a o) {s with heap:=h',toks:=t'}:=by
 obtain⟨f0,f1,f2,f3,f4,f5⟩:=hx;obtain⟨g0,g1,g2,g3,g4,g5⟩:=hy;have hn:H a=none:=I.hok.fresh hp;have nit:∀ b u,H b=some u->b≠x/\b≠y:=fun b u e=>⟨(fun z=>by rw[z,f0]at e;cases e),(fun z=>by rw[z,g0]at e;cases e)⟩
 have nc:∀ b:Addr,b∉[x,y]->b≠x/\b≠y:=fun b hb=>⟨fun z=>hb (by simp[z]),fun z=>hb (by simp[z])⟩
 refine I.step (g':=s.gens) (d':=s.drawn) (ch:=[x,y]) (fun b hb=>?_) (fun b u _ _ hc e _=>k b u (nc b hc).1 (nc b hc).2 e) (fun b u _ _ hc e _=>⟨u.slots,k b u (nc b hc).1 (nc b hc).2 e⟩) (fun b u _ e n=>?_)
  (fun b u hc e=>⟨u,k b u (nc b hc).1 (nc b hc).2 e⟩) (fun b xs e=>?_) (fun b u xs e=>?_) (fun b ps e=>⟨#[],?_⟩) (fun m hm=>?_) (fun b u e=>?_) I.bare
 ·rcases Qx.mp hb with z | z
  ·subst z;exact⟨f3,f1,f4,f5⟩
  ·have z:=Qm.mp z;subst z;exact⟨g3,g1,g4,g5⟩
 ·rw[Zi (QD (QN (Qw e) hp))];exact n
 ·rw[Zi (Zk e hn)];exact e
 ·rw[Zi (Zk e hn)];exact e
 ·rw[Zi (Zk e hn),e];simp
 ·obtain⟨o,es,ep,ho,r⟩:=hm;exact⟨o,es,ep,k _ o (Ne.symm f1) (Ne.symm g1) ho,r⟩
 ·by_cases hb:b=a
  ·subst hb;rw[Zc]at e;cases e;exact new
  ·rw[Zi hb]at e;refine(I.hok b u e).stay (fun c v hc q=>k c v ?_ ?_ q) (fun c q=>by rw[Zi (Zk q hn)];exact q) fun c xs q=>by rw[Zi (Zk q hn)];exact q
   ·rcases hc with z | z
    ·rw[z];exact(nit b u e).1
    ·exact(nit c _ z).1
   ·rcases hc with z | z
    ·rw[z];exact(nit b u e).2
    ·exact(nit c _ z).2
def Ite (K:PySem.W.Frag) (a:Addr):It :=
 ⟨fun i H=>∃ xs x,SqL K H a xs/\xs[i]?=some x,fun i H x H'=>∃ t y,H t=none/\x= .ref t/\H'=upd H t (.tup [.int i,y])/\∀ xs,SqL K H a xs->xs[i]?=some y,fun i H=>∃ xs,SqL K H a xs/\xs.length<=i⟩
theorem Zgs {P:Program} {w:World} {K:PySem.W.Frag} {elts:List Expr} (a e it:Addr) (hne:e≠it):ZkE P w K (.Tuple elts k pos) (Ite K a) [e,it] e (fun i h=>(∃ old,IsEnum h e it i old)/\h.IsListIter it a i) where
 mem:=by simp
 obj:=fun i h st b hb=>by
  obtain⟨⟨old,he⟩,o,e1,c,d⟩:=st;rcases Qx.mp hb with z | z
  ·subst z;exact⟨_,he,fun v z=>by
    have z':Data.fields _=Data.cell v:=z;cases z'⟩
  ·have z:=Qm.mp z;subst z;exact⟨o,e1,fun v z=>by rw[d]at z;cases z⟩
 keep:=fun i h h' ⟨⟨old,he⟩,st⟩ kk=>⟨⟨old,kk e (by simp) _ he⟩,st.at fun o e1=>kk it (by simp) o e1⟩
 item:=by
  intro X hP hw hK hc i pins s σ H E I hf ⟨⟨old,he⟩,st⟩ hg;subst hP hw hK;obtain⟨xs,x,hq,hx⟩:=hg;obtain⟨its,rv,p,hz⟩:=I.list hq;obtain⟨u,hu,ru⟩:=rv.get hx;obtain⟨f0,f1,f2,f3,f4,f5⟩:=hf e (by simp);obtain⟨g0,g1,g2,g3,g4,g5⟩:=hf it (by simp);refine wpAny_pyNext_enum_item he st p.isList (x:=u) (by simpa using hu) hne fun h1 heo st1 ht1 hz1 kk=>?_;refine⟨_,rfl,wpAny_letOwnedTupleGo_enum heo fun h2 he2 sb=>?_⟩;have hk2:∀ b o,b≠e->b≠it->s.heap.get? b=some o->h2.get? b=some o:=fun b o q1 q2 q=>(sb.2 b q1).trans (kk b o q1 q2 q);have hte:s.heap.objs.size≠e:=U7 (Qw he);have ht2:h2.get? s.heap.objs.size=some {cls:=.type "tuple",data:=.seq #[.int i s.toks,u]}:=(sb.2 _ hte).trans ht1;have st2:h2.IsListIter it a (i+1):=st1.extBut sb.extBut (Ne.symm hne);refine⟨.ref s.heap.objs.size,_,Inv.laid2 (s:=s) (a:=s.heap.objs.size) (t':=s.toks+1) (o:=.tup [.int i,x]) I hk2 (hf e (by simp)) (hf it (by simp)) ⟨_,he2⟩ (let ⟨o,q,_⟩:=st2;⟨o,q⟩) (Qi _) ?_,rfl,⟨_,x,I.hok.fresh (Qi _),rfl,rfl,fun ys hy=>by rw[I.list_inj hy hq];exact hx⟩,⟨⟨u,?_⟩,st2⟩,fun b hb=>?_⟩
  ·refine⟨(show 2<=sizeLine by rw[sizeLine_eq];decide),[.int i s.toks,u],.cons ⟨_,rfl⟩ (.cons ru .nil),⟨_,ht2,rfl,_,rfl⟩,fun o q=>by rw[ht2]at q;cases q;rfl⟩
  ·have:((i+1:Nat):Int)=(i:Int)+1:=by push_cast;rfl
   rw[this];exact he2
  ·rw[Zi]
   ·exact(hf b hb).1
   ·rcases Qx.mp hb with z | z
    ·rw[z];exact Ne.symm hte
    ·rw[Qm.mp z];obtain⟨o,q,_⟩:=st;exact QD (Qw q)
 done:=by
  intro X hP hw hK hc i pins s σ H E I hf ⟨⟨old,he⟩,st⟩ hg;subst hP hw hK;obtain⟨xs,hq,hx⟩:=hg;obtain⟨its,rv,p,hz⟩:=I.list hq;obtain⟨g0,g1,g2,g3,g4,g5⟩:=hf it (by simp);have hl:=rv.length;exact wpAny_pyNext_enum_end (I.ok.hd hc) he st p.isList (by simp;omega) fun h' eb=>⟨rfl,I.turned (t':=s.toks) (fun b o hb e=>eb b o hb e) g0 g1 g3 g4 g5⟩
 self:=fun _ _ _ _ _ ⟨⟨old,he⟩,_⟩ h=>wpAny_pyIter_enum he h
theorem ZoJ:bootBuiltins "enumerate" = some (.type "enumerate"):=by decide +kernel
def Zpv (K:PySem.W.Frag) (ta:TA):TI:=fun σ H R=>ta σ H fun vs H1=>∃ a,vs=[.ref a]/\(∃ xs,SqL K H1 a xs)/\R (Ite K a) H1
theorem Zme {elts:List Expr} {kt:Nat} {tpos:Pos} {l:Expr} {ta:TA} {p:Pos} (hg:Gl X "enumerate") (hm:X.mg "enumerate" = none) (ha:PA X [l] ta) (hs:starEach [l] X.env=[(false,eval l X.env)]:=by rfl):PI X (.Tuple elts kt tpos) (.Call (.Name "enumerate" p) [l] [] pos) (Zpv X.K ta):=by
 intro pins s σ H R I h;refine Call_ (Zat I hg hm ZoJ (PyProof.Rows.callWith_type1 (thn (ha pos pins s σ H _ I h) fun us s1 ⟨vs,H1,I1,r1,q1⟩=>?_) hs rfl));obtain⟨a,e,⟨xs,hq⟩,q⟩:=q1;subst e;cases r1 with
 | cons r rr =>
  cases rr;cases r;obtain⟨its,rv,pl,hz⟩:=I1.list hq;refine call_enumerate_list pl.isList fun h' he hit hsz kk=>?_;refine wpAny_pyIter_enum he ?_;refine⟨s1.heap.objs.size+1,[s1.heap.objs.size+1,s1.heap.objs.size],_,_,H1,rfl,I1.kept (t':=s1.toks) fun b o e=>kk b o e,Zgs a _ _ (Nat.succ_ne_self _),⟨⟨.none,he⟩,hit⟩,fun b hb=>?_,q⟩;have hle:s1.heap.objs.size<=b:=by
   rcases Qx.mp hb with z | z
   ·rw[z];exact Ux _
   ·rw[Qm.mp z];exact Qi _
  exact I1.fpOk hle (I1.hok.fresh hle)
theorem Zkp {K:PySem.W.Frag} {xs:List V} {g:TG} {tb:TS} {D:Zev} (Pv:Nat->St->Hp->Prop) (h0:Pv 0 σ H) (hl:∀ i σ H,i<=xs.length->Pv i σ H->SqL K H a xs)
  (hs:∀ i x σ H t,xs[i]?=some x->H t=none->Pv i σ H->g (.ref t) σ (upd H t (.tup [.int i,x])) fun σ2 H2=>tb {D with nx:=Pv (i+1),ct:=Pv (i+1),bk:=D.nx} σ2 H2) (hd:∀ σ H,Pv xs.length σ H->D.nx σ H) :
  ∃ W:Nat->Nat->St->Hp->Prop,(∃ m,W 0 m σ H)/\∀ i m σ H,W i m σ H ->
   ((Ite K a).stop i H/\D.nx σ H)\/((Ite K a).go i H/\∃ N:St->Hp->Prop,(∀ σ' H',N σ' H'->∃ m',m'<m/\W (i+1) m' σ' H')/\∀ x H',(Ite K a).yld i H x H'->g x σ H' fun σ2 H2=>tb {D with nx:=N,ct:=N,bk:=D.nx} σ2 H2):=by
 refine⟨fun i m σ H=>m=xs.length-i/\i<=xs.length/\Pv i σ H,⟨xs.length,by simp,QL _,h0⟩,?_⟩;rintro i m σ H ⟨rfl,hi,p⟩;have q:=hl i σ H hi p;by_cases hlt:i<xs.length
 ·refine .inr ⟨⟨xs,xs[i],q,by simp[hlt]⟩,Pv (i+1),fun σ' H' p'=>⟨xs.length-(i+1),by omega,rfl,hlt,p'⟩,fun x H' y=>?_⟩;obtain⟨t,y,ht,rfl,rfl,hy⟩:=y;exact hs i y σ H t (hy xs q) ht p
 ·have e:i=xs.length:=by omega
  subst e;exact .inl ⟨⟨xs,q,Qi _⟩,hd σ H p⟩
end L2
namespace Sh
open PySem L2 PyProof.Rows
variable {P:Program} {w:World} {K:PySem.W.Frag} {mg:Str->Option Value} {base:Heap}
variable {i:Nat}
theorem ZN (a:Int) {n:Int} (h:0<n):0<=a % n/\a % n<n:=⟨Int.emod_nonneg _ (by omega),Int.emod_lt_of_pos _ h⟩
theorem ZaJ (a b:Str):(a++b).cps.toList=a.cps.toList++b.cps.toList:=by simp[Str.cps_append]
theorem YS {a b:Str} (h:a.cps.toList=b.cps.toList):a=b:=by rw[←tx_eta a,←tx_eta b,h]
theorem ZaY (a b:List Nat):tx a++tx b=tx (a++b):=by
 apply YS;rw[ZaJ,ZV,ZV,ZV]
theorem Zil:∀ l:List (List Nat),(Txt.join "" (l.map tx))=tx l.flatten:=by
 have key:∀ l:List (List Nat),(Str.join "" (l.map tx)).cps.toList=l.flatten:=by
  intro l;induction l with
  | nil=>rfl
  | cons c r ih =>
   cases r with
   | nil=>simp[Str.join,tx]
   | cons d q =>
    have e:Str.join "" ((c::d::q).map tx)=tx c ++ "" ++ Str.join "" ((d::q).map tx):=rfl;have e2:("" : Str).cps.toList=[]:=rfl;rw[e,ZaJ,ZaJ,ih,e2,ZV,Re];rfl
 intro l;apply YS;have:Txt.join "" (l.map tx)=Str.join "" (l.map tx):=StrLaws.glued_eq_join _ _;rw[this,key,ZV]
theorem Zde:∀ l:List Nat,(l.map fun c=>[c]).flatten=l
 | []=>rfl
 | a::l=>by rw[Qj,WZ,Zde l];rfl
theorem Zik (l:List Nat):Txt.join "" (l.map fun c=>tx [c])=tx l:=by
 have h:=Zil (l.map fun c=>[c]);rw[QV,Zde]at h;exact h
theorem JA:(("abcdefghijklmnopqrstuvwxyz" : Str)).cps.toList=(Qs 26).map (· + 97):=by decide +kernel
theorem Zic {i:Int} (h0:0<=i) (h1:i<26):atI (("abcdefghijklmnopqrstuvwxyz" : Str)).cps.toList i=some (i.toNat+97):=by
 refine YI h0 ?_;rw[JA,Qk,Q0 (by omega)];rfl
theorem ZoG (xs:List V) (h:xs.length<=63):Zfs xs none (some 63)=xs:=by
 have e1:HT.sIx xs.length 0 none=0:=rfl;have e2:HT.sIx xs.length xs.length (some 63)=xs.length:=by
  unfold HT.sIx;simp;omega
 unfold Zfs;rw[e1,e2];simp
theorem ZaZ:∀ (ys:List Str) (m:Nat),(∀ y∈ys,y.length<=m)->(ys.map (·.length)).sum<=ys.length*m
 | [],m,_=>by simp
 | y::ys,m,h=>by
  have h1:=ZaZ ys m fun z hz=>h z (Qg _ hz);have h2:=h y Qd;rw[Qj,Qy,QO,RE];omega
theorem Zfz {xs:List V} {v:V} (h:xs[i]?=some v):atI xs (i:Int)=some v:=Zeq h
theorem ZjN:(1:Nat)<=sizeLine:=by rw[sizeLine_eq];decide
theorem Zj {n:Nat} (h:n<=1000):n<=sizeLine:=Z2 (by omega)
theorem Zgl {α:Type} {vs:List V} {ns:List α} {f:α->V} (hl:vs.length=ns.length) (hr:∀ (i:Nat) (v:V),vs[i]?=some v->∀ c,ns[i]?=some c->v=f c):vs=ns.map f:=by
 apply QT;intro i;by_cases hi:i<vs.length
 ·have hi':i<ns.length:=by omega
  rw[Qa hi,hr i _ (Qa hi) _ (Qa hi'),Qk,Qa hi'];rfl
 ·rw[Ql (by omega),Ql (by rw[Qc];omega)]
theorem YQ {α:Type} {ns:List α} {f:α->V} (hi:i<ns.length):(ns.map f).getD i .non=f ns[i]:=by
 rw[Qb,Qk,Qa hi];rfl
theorem JY {α:Type} {ns:List α} {f:α->V} {x:V} (hi:(ns.map f)[i]?=some x):∃ h:i<ns.length,x=f ns[i]:=by
 have h:i<ns.length:=by
  have:=(Qo.mp hi).1;rw[Qc]at this;exact this
 rw[Qk,Qa h]at hi;exact⟨h,(Option.some.inj hi).symm⟩
end Sh
namespace L2
open PySem PySem.Spec PyProof.Rows
theorem Zi2 {a:Nat} {i:Int} (h:i.natAbs<2 ^ a):Builtin.Int.intBits i<=a:=intBits_le_iff.mpr h
def Zqs (i j:Int):Prop:=i.natAbs<2 ^ 4000/\j.natAbs<2 ^ 4000
theorem Zal {X:Cx}:OpR X (binaryOp .Mult) (rI Zqs fun i j=>.int (i*j)):=opI fun _ _ _ _ _ _ _ hc q=>mul_int q (IntMulOk.of_le (m:=4000) (n:=4000) (Zi2 hc.1) (Zi2 hc.2) (by decide))
def ZpI (_ j:Int):Prop:=j≠0/\j.natAbs<2 ^ 4000
theorem ZeY {X:Cx}:OpR X (binaryOp .FloorDiv) (rI ZpI fun i j=>.int (i.fdiv j)):=opI fun _ j _ _ _ _ _ hc q=>floordiv_int hc.1 q (.inl (PyProof.noPylong_of_log2 (by
 have h0:j.natAbs≠0:=fun z=>hc.1 (by omega);have:=(Nat.log2_lt h0).mpr hc.2;omega)))
theorem Zfa {k:Nat} {mp:List Nat} {σ:St} {g:TG} {te:TE} {J:It} {H1:Hp} {Q:VK} (n:Nat) (xs:Nat->V) (f:Nat->List V) (hn:n<=sizeLine)
  (hJ:∀ H,Same H1 H->(∀ i,i<n->J.go i H/\∀ x H',J.yld i H x H'->H'=H/\x=xs i)/\J.stop n H)
  (step:∀ i H (Qe:VK),i<n->Same H1 H->(∀ a H6,Same H H6->H a=none->H6 a=some (.lst (f i))->Qe (.ref a) H6)->g (xs i) (lcS k mp σ) H fun σ4 H4=>te σ4 H4 Qe)
  (done:∀ D (as:List Addr) H',as.length=n->(∀ i a,as[i]?=some a->a≠D/\H1 a=none/\H' a=some (.lst (f i)))->Same H1 H'->H1 D=none->H' D=some (.lst (as.map V.ref))->Q (.ref D) H'):JB k mp σ g Znm te J H1 Q:=by
 intro D hD;refine⟨fun i m acc H=>m=n-i/\i<=n/\Same H1 H/\H D=some (.lst acc)/\∃ as:List Addr,acc=as.map V.ref/\as.length=i/\∀ j a,as[j]?=some a->a≠D/\H1 a=none/\H a=some (.lst (f j)),⟨n,by simp,QL _,Zb hD,Zc,[],rfl,rfl,fun j v e=>by simp at e⟩,?_⟩;rintro i m acc H ⟨rfl,hi,hs,hDa,as,rfl,hl,hr⟩;obtain⟨j1,j2⟩:=hJ H hs;by_cases hlt:i<n
 ·refine .inr ⟨(j1 i hlt).1,fun x H3 y=>?_⟩;obtain⟨e1,e2⟩:=(j1 i hlt).2 x H3 y;subst e1 e2;refine step i H3 _ hlt hs fun a H6 s6 ha r6=>⟨s6 _ _ hDa,by rw[Qc];omega,n-(i+1),by omega,rfl,hlt,fun b o e=>?_,Zc,as++[a],by rw[QG];rfl,by rw[Qp,hl];rfl,fun j u e=>?_⟩
  ·rw[Zi (Zk e hD)];exact s6 _ _ (hs b o e)
  ·have naD:a≠D:=fun z=>by rw[z,hDa]at ha;cases ha
   rcases UI j as.length with h | h | h
   ·rw[Q3 h]at e;obtain⟨q1,q2,q3⟩:=hr j u e;exact⟨q1,q2,by rw[Zi q1];exact s6 _ _ q3⟩
   ·subst h;rw[QZ (Qi _),Ur]at e;cases e;exact⟨naD,hs.free ha,by rw[Zi naD,hl];exact r6⟩
   ·rw[Ql (by rw[Qp,QA];omega)]at e;cases e
 ·have e:i=n:=by omega
  subst e;exact .inl ⟨j2,done D as H hl hr hs hD hDa⟩
section
variable {X:Cx} {pins:List (Addr×Obj)} {σ:St} {H₀:Hp} {s₀:Shared} {scope sc:Scope} {N xs:List Str} {mp:List Nat} {fp:List Addr} {z:Str}
end
section
variable {X:Cx} {pins:List (Addr×Obj)} {σ:St} {elt tgt iter:Expr} {ifs:List Expr} {scope sc:Scope} {pos:Pos} {N xs:List Str} {mp:List Nat} {wi:TI} {g:TG} {tc:TT} {te:TE} {z:Str}
end
end L2
namespace Sh
variable {P:Program} {w:World} {K:PySem.W.Frag} {mg:Str->Option Value} {base:Heap}
variable {n p q t:Nat}
abbrev Yd:=Nat->Nat->Int
def XJ:Nat->(Nat->Int)->Int
 | 0,_=>0
 | n+1,g=>XJ n g+g n
def Zcu (i:Nat):Int:=if i % 2=0 then 1 else -1
def rmv (i r:Nat):Nat:=if r<i then r else r+1
def det:Nat->Yd->Int
 | 0,_=>1
 | n+1,f=>XJ (n+1) fun i=>Zcu i*f i 0*det n fun r c=>f (rmv i r) (c+1)
theorem Xl {g h:Nat->Int}:∀ {n:Nat},(∀ i,i<n->g i=h i)->XJ n g=XJ n h
 | 0,_=>rfl
 | n+1,e=>by
  rw[XJ,XJ,Xl (n:=n) fun i hi=>e i (by omega),e n (by omega)]
theorem Zbr (a b:Int) (g h:Nat->Int):∀ n:Nat,XJ n (fun i=>a*g i+b*h i)=a*XJ n g+b*XJ n h
 | 0=>by simp[XJ]
 | n+1=>by
  rw[XJ,XJ,XJ,Zbr a b g h n];rw[U0,U0];omega
theorem JX {g:Nat->Int}:∀ {n:Nat},(∀ i,i<n->g i=0)->XJ n g=0
 | 0,_=>rfl
 | n+1,e=>by
  rw[XJ,JX (n:=n) fun i hi=>e i (by omega),e n (by omega)];rfl
theorem ZcD {g:Nat->Int} {p:Nat} (h2:g p+g (p+1)=0):∀ {n:Nat},p+1<n->(∀ i,i<n->i≠p->i≠p+1->g i=0)->XJ n g=0
 | 0,h,_=>by omega
 | n+1,h,e=>by
  by_cases c:n=p+1
  ·subst c;rw[XJ,XJ,JX (n:=p) fun i hi=>e i (by omega) (by omega) (by omega)];omega
  ·rw[XJ,ZcD h2 (n:=n) (by omega) fun i hi=>e i (by omega),e n (by omega) (by omega) c];rfl
theorem Za0 {g:Nat->Int}:∀ {n:Nat},(∀ i,0<i->i<n+1->g i=0)->XJ (n+1) g=g 0
 | 0,_=>by simp[XJ]
 | n+1,e=>by
  rw[XJ,Za0 (n:=n) fun i h1 h2=>e i h1 (by omega),e (n+1) (by omega) (by omega)];omega
theorem YR:∀ {n:Nat} {f g:Yd},(∀ r,r<n->∀ c,c<n->f r c=g r c)->det n f=det n g
 | 0,_,_,_=>rfl
 | n+1,f,g,e=>by
  rw[det,det];refine Xl fun i hi=>?_;rw[e i hi 0 (by omega),YR (n:=n) fun r hr c hc=>e (rmv i r) (by unfold rmv;split <;> omega) (c+1) (by omega)]
def ZD (f:Yd) (p:Nat) (u:Nat->Int):Yd:=fun r=>if r=p then u else f r
theorem Yg {f:Yd} {u:Nat->Int}:ZD f p u p=u:=by unfold ZD;rw[if_pos rfl]
theorem Yz {f:Yd} {r:Nat} {u:Nat->Int} (h:r≠p):ZD f p u r=f r:=by unfold ZD;rw[if_neg h]
theorem Y6 (f:Yd) (p:Nat):ZD f p (f p)=f:=by
 funext r
 unfold ZD;split
 ·rename_i e;rw[e]
 ·rfl
theorem ZnM (i r:Nat):rmv i r≠i:=by unfold rmv;split <;> omega
theorem Zb3 (f:Yd) (p:Nat) (u:Nat->Int):(fun r c=>ZD f p u (rmv p r) (c+1))=fun r c=>f (rmv p r) (c+1):=by
 funext r c
 rw[Yz (ZnM p r)]
theorem Zb2 (f:Yd) {i:Nat} (u:Nat->Int) (h:i≠p):(fun r c=>ZD f p u (rmv i r) (c+1))=ZD (fun r c=>f (rmv i r) (c+1)) (if p<i then p else p-1) (fun c=>u (c+1)):=by
 funext r c
 have key:rmv i r=p↔r=(if p<i then p else p-1):=by
  unfold rmv;split <;> split <;> omega
 by_cases q:r=(if p<i then p else p-1)
 ·show ZD f p u (rmv i r) (c+1)=ZD _ _ _ r c;rw[key.mpr q,Yg,q,Yg]
 ·show ZD f p u (rmv i r) (c+1)=ZD _ _ _ r c;rw[Yz (fun z=>q (key.mp z)),Yz q]
theorem XI:∀ {n:Nat} (f:Yd) {p:Nat} (a b:Int) (u v:Nat->Int),p<n->det n (ZD f p fun c=>a*u c+b*v c)=a*det n (ZD f p u)+b*det n (ZD f p v)
 | 0,_,_,_,_,_,_,h=>by omega
 | n+1,f,p,a,b,u,v,h=>by
  rw[det,det,det,←Zbr];refine Xl fun i hi=>?_;by_cases c:i=p
  ·subst c;rw[Zb3,Zb3,Zb3,Yg,Yg,Yg];simp only[U0,Ri];congr 1 <;> simp only[Wd,Wt,WN]
  ·rw[Zb2 f _ c,Zb2 f _ c,Zb2 f _ c,Yz c,Yz c,Yz c];have ih:=XI (n:=n) (fun r c=>f (rmv i r) (c+1)) (p:=if p<i then p else p-1) a b (fun c=>u (c+1)) (fun c=>v (c+1)) (by split <;> omega);rw[ih];simp only[U0];congr 1 <;> simp only[Wd,Wt,WN]
theorem ZeO (i:Nat):Zcu (i+1) = - Zcu i:=by
 unfold Zcu;by_cases c:i % 2=0
 ·rw[if_pos c,if_neg (by omega)]
 ·rw[if_neg c,if_pos (by omega)];rfl
theorem Zcm:∀ {n:Nat} {f:Yd} {p:Nat},p+1<n->f p=f (p+1)->det n f=0
 | 0,_,_,h,_=>by omega
 | n+1,f,p,h,e=>by
  rw[det];refine ZcD (p:=p) ?_ h fun i hi c1 c2=>?_
  ·have em:(fun r c=>f (rmv p r) (c+1))=fun r c=>f (rmv (p+1) r) (c+1):=by
    funext r c
    unfold rmv;by_cases c1:r<p
    ·rw[if_pos c1,if_pos (by omega)]
    ·rw[if_neg c1];by_cases c2:r=p
     ·subst c2;rw[if_pos (by omega),e]
     ·rw[if_neg (by omega)]
   rw[em,ZeO,←e];simp only[Ub];omega
  ·have:det n (fun r c=>f (rmv i r) (c+1))=0:=by
    by_cases c:p+1<i
    ·refine Zcm (p:=p) (by omega) ?_
     funext q
     unfold rmv;rw[if_pos (by omega),if_pos c,e]
    ·refine Zcm (p:=p-1) (by omega) ?_
     funext q
     unfold rmv;rw[if_neg (by omega),if_neg (by omega),show p-1+1=p by omega,e]
   rw[this,UP]
def Zgx (f:Yd) (p q:Nat):Yd:=fun r=>if r=p then f q else if r=q then f p else f r
theorem Zjr (f:Yd) (h:p≠q):Zgx f p q=ZD (ZD f p (f q)) q (f p):=by
 funext r
 unfold Zgx ZD;by_cases c1:r=p
 ·subst c1;rw[if_pos rfl,if_neg h,if_pos rfl]
 ·rw[if_neg c1];split
  ·rfl
  ·rfl
theorem XN (f:Yd) (u v:Nat->Int) (h:p≠q):ZD (ZD f p u) q v=ZD (ZD f q v) p u:=by
 funext r
 unfold ZD;by_cases c1:r=p
 ·subst c1;rw[if_neg h,if_pos rfl,if_pos rfl]
 ·rw[if_neg c1,if_neg c1]
theorem Zg5 (f:Yd) (p:Nat) (u v:Nat->Int):ZD (ZD f p u) p v=ZD f p v:=by
 funext r
 unfold ZD;split <;> rfl
theorem Zku {f:Yd} (h:p≠q) (hp:p<n) (hq:q<n) (z:∀ g:Yd,g p=g q->det n g=0):det n (Zgx f p q) = - det n f:=by
 have key:∀ (u v:Nat->Int),det n (ZD (ZD f p u) q v)+det n (ZD (ZD f p v) q u)=0:=fun u v=>by
  have h0:=z (ZD (ZD f p fun c=>1*u c+1*v c) q fun c=>1*u c+1*v c) (by rw[Yg,Yz h,Yg]);rw[XI _ 1 1 u v hq,XN _ _ _ h,XN _ _ _ h,XI _ 1 1 u v hp,XI _ 1 1 u v hp]at h0;have h1:=z (ZD (ZD f q u) p u) (by rw[Yg,Yz (Ne.symm h),Yg]);have h2:=z (ZD (ZD f q v) p v) (by rw[Yg,Yz (Ne.symm h),Yg]);rw[h1,h2]at h0;rw[XN _ _ _ h,XN (f:=f) (p:=p) v u h];omega
 have h1:=key (f p) (f q);have h2:det n (ZD (ZD f p (f p)) q (f q))=det n f:=by rw[Y6,Y6]
 rw[h2]at h1;rw[Zjr f h];omega
theorem Zdo {f:Yd} (h:p+1<n):det n (Zgx f p (p+1)) = - det n f:=Zku (by omega) (by omega) h fun g e=>Zcm h e
theorem Zcn {n:Nat}:∀ (k:Nat) {f:Yd} {p:Nat},p+1+k<n->f p=f (p+1+k)->det n f=0
 | 0,f,p,h,e=>Zcm (by omega) (by rw[Nat.add_zero]at e;exact e)
 | k+1,f,p,h,e=>by
  have h1:=Zdo (f:=f) (n:=n) (p:=p+1+k) (by omega);have h2:=Zcn (n:=n) k (f:=Zgx f (p+1+k) (p+1+k+1)) (p:=p) (by omega) (by
   have e1:Zgx f (p+1+k) (p+1+k+1) p=f p:=by
    unfold Zgx;rw[if_neg (by omega),if_neg (by omega)]
   have e2:Zgx f (p+1+k) (p+1+k+1) (p+1+k)=f (p+1+k+1):=by
    unfold Zgx;rw[if_pos rfl]
   rw[e1,e2,e];rfl)
  omega
theorem Zm2 {f:Yd} (h:p≠q) (hp:p<n) (hq:q<n) (e:f p=f q):det n f=0:=by
 rcases Nat.lt_or_gt_of_ne h with c | c
 ·exact Zcn (q-p-1) (p:=p) (by omega) (by rw[show p+1+(q-p-1)=q by omega];exact e)
 ·exact Zcn (p-q-1) (p:=q) (by omega) (by rw[show q+1+(p-q-1)=p by omega];exact e.symm)
theorem ZiQ {f:Yd} (a b:Int) (h:p≠q) (hp:p<n) (hq:q<n):det n (ZD f p fun c=>a*f p c+b*f q c)=a*det n f:=by
 rw[XI f a b (f p) (f q) hp,Y6,Zm2 (f:=ZD f p (f q)) h hp hq (by rw[Yg,Yz (Ne.symm h)])];omega
theorem ZiM {f:Yd} (a:Int) (hp:p<n):det n (ZD f p fun c=>a*f p c)=a*det n f:=by
 have h:=XI f a 0 (f p) (f p) hp;rw[Y6]at h;have e:(fun c=>a*f p c+0*f p c)=fun c=>a*f p c:=by
  funext c
  omega
 rw[e]at h;omega
def Zjg (f:Yd) (p:Nat):Yd:=fun r=>if r=0 then f p else f (rmv p (r-1))
theorem ZiK {n:Nat}:∀ {p:Nat} {f:Yd},p<n->det n (Zjg f p)=Zcu p*det n f
 | 0,f,h=>by
  have e:Zjg f 0=f:=by
   funext r
   unfold Zjg rmv;split
   ·rename_i c;rw[c]
   ·rw[if_neg (by omega),show r-1+1=r by omega]
  rw[e];simp[Zcu]
 | p+1,f,h=>by
  have e:Zjg f (p+1)=Zjg (Zgx f p (p+1)) p:=by
   funext r
   unfold Zjg rmv Zgx;by_cases c:r=0
   ·rw[if_pos c,if_pos c,if_pos rfl]
   ·rw[if_neg c,if_neg c];by_cases c1:r-1<p
    ·rw[if_pos c1,if_pos (by omega),if_neg (by omega),if_neg (by omega)]
    ·rw[if_neg c1];by_cases c2:r-1=p
     ·rw[if_pos (by omega),if_neg (by omega),if_pos (by omega),c2]
     ·rw[if_neg (by omega),if_neg (by omega),if_neg (by omega)]
  rw[e,ZiK (p:=p) (by omega),Zdo h,ZeO];simp[Int.mul_neg,Ub]
theorem Zdp (a:Int):∀ (n:Nat) (f:Yd),det n (fun i j=>a*f i j)=a ^ n*det n f
 | 0,_=>by simp[det]
 | n+1,f=>by
  rw[det,det];have e:∀ g:Nat->Int,a ^ (n+1)*XJ (n+1) g=XJ (n+1) fun i=>a ^ (n+1)*g i+0*g i:=fun g=>by
   rw[Zbr];omega
  rw[e];refine Xl fun i hi=>?_;rw[Zdp a n fun r c=>f (rmv i r) (c+1),RI];simp only[Ug,UQ,Wd,Wt,WN]
theorem Zfr {f:Yd} (h:∀ i,0<i->i<n+1->f i 0=0):det (n+1) f=f 0 0*det n fun r c=>f (r+1) (c+1):=by
 rw[det,Za0 fun i h1 h2=>by rw[h i h1 h2,UP,Ug]];have e:(fun r c=>f (rmv 0 r) (c+1))=fun r c=>f (r+1) (c+1):=by
  funext r c
  unfold rmv;rw[if_neg (by omega)]
 rw[e];simp[Zcu]
def clr (f:Yd) (m:Nat):Yd:=fun r=>if r=0 then f 0 else if r<=m then fun c=>f 0 0*f r c + -(f r 0)*f 0 c else f r
theorem ZiP {k:Nat} {f:Yd}:∀ m,m<=k+1->det (k+2) (clr f m)=f 0 0 ^ m*det (k+2) f
 | 0,_=>by
  have e:clr f 0=f:=by
   funext r
   unfold clr;split
   ·rename_i c;rw[c]
   ·rw[if_neg (by omega)]
  rw[e];simp
 | m+1,h=>by
  have e:clr f (m+1)=ZD (clr f m) (m+1) fun c=>f 0 0*clr f m (m+1) c + -(f (m+1) 0)*clr f m 0 c:=by
   funext r
   unfold ZD clr;by_cases c:r=m+1
   ·subst c;rw[if_neg (by omega),if_pos (Qi _),if_pos rfl,if_neg (by omega),if_neg (by omega),if_pos rfl]
   ·rw[if_neg c];by_cases c0:r=0
    ·rw[if_pos c0,if_pos c0]
    ·rw[if_neg c0,if_neg c0];by_cases c1:r<=m
     ·rw[if_pos (by omega),if_pos c1]
     ·rw[if_neg (by omega),if_neg c1]
  rw[e,ZiQ (f 0 0) (-(f (m+1) 0)) (by omega) (by omega) (by omega),ZiP m (by omega),RI];simp only[Wd,Wt,WN]
def Zkw (f:Yd):Yd:=fun i j=>f 0 0*f (i+1) (j+1)-f (i+1) 0*f 0 (j+1)
theorem Zqj (k:Nat) (f:Yd):f 0 0*det (k+1) (Zkw f)=f 0 0 ^ (k+1)*det (k+2) f:=by
 rw[←ZiP (k+1) (Qi _),Zfr (f:=clr f (k+1)) fun i h1 h2=>by
  unfold clr;rw[if_neg (by omega),if_pos (by omega)];show f 0 0*f i 0 + -(f i 0)*f 0 0=0;rw[Ub,WN (f i 0)];omega]
 have e:clr f (k+1) 0 0=f 0 0:=by
  unfold clr;rw[if_pos rfl]
 rw[e];congr 1;refine YR fun r hr c hc=>?_;unfold clr Zkw;rw[if_neg (by omega),if_pos (by omega)];show _=f 0 0*f (r+1) (c+1) + -(f (r+1) 0)*f 0 (c+1);rw[Ub];rfl
def Zct (M:Yd) (t:Nat) (d:Int) (R:Yd):Prop:=∀ (k:Nat) (ρ γ:Nat->Nat),∃ ρ' γ':Nat->Nat,det (k+1) (fun i j=>R (ρ i) (γ j))=d ^ k*det (k+1+t) fun i j=>M (ρ' i) (γ' j)
theorem Zf6 (M:Yd):Zct M 0 1 M:=fun k ρ γ=>⟨ρ,γ,by rw[Int.one_pow,Wi]⟩
theorem Zks (f:Yd):det 2 f=f 0 0*f 1 1-f 1 0*f 0 1:=by
 simp[det,XJ,Zcu,rmv];rw[Ub];rfl
theorem Zkl {M R:Yd} {d:Int} (h:Zct M t d R) (p i j:Nat):d ∣ R p 0*R i (j+1)-R i 0*R p (j+1):=by
 obtain⟨ρ',γ',e⟩:=h 1 (fun a=>if a=0 then p else i) (fun b=>if b=0 then 0 else j+1);rw[Zks,Int.pow_one]at e;exact⟨_,e⟩
def Zao (R:Yd) (d:Int) (p:Nat):Yd:=fun i j=>(R p 0*R (rmv p i) (j+1)-R (rmv p i) 0*R p (j+1)) / d
theorem Ze3 {M R:Yd} {d:Int} (h:Zct M t d R) (p i j:Nat):d*Zao R d p i j=R p 0*R (rmv p i) (j+1)-R (rmv p i) 0*R p (j+1):=Int.mul_ediv_cancel' (Zkl h p (rmv p i) j)
theorem Ze4 {M R:Yd} {d:Int} (h:Zct M t d R) (hd:d≠0) (hp:R p 0≠0) (k:Nat) (ρ γ:Nat->Nat) {q:Int}
  (e:det (k+2) (fun i j=>R (if i=0 then p else rmv p (ρ (i-1))) (if j=0 then 0 else γ (j-1)+1))=d ^ (k+1)*q):det (k+1) (fun i j=>Zao R d p (ρ i) (γ j))=R p 0 ^ k*q:=by
 have c:=Zqj k fun i j=>R (if i=0 then p else rmv p (ρ (i-1))) (if j=0 then 0 else γ (j-1)+1);rw[e]at c;have e2:Zkw (fun i j=>R (if i=0 then p else rmv p (ρ (i-1))) (if j=0 then 0 else γ (j-1)+1))=fun i j=>d*Zao R d p (ρ i) (γ j):=by
  funext i j
  rw[Ze3 h];unfold Zkw;simp
 rw[e2,Zdp]at c;have c':R p 0*(d ^ (k+1)*det (k+1) fun i j=>Zao R d p (ρ i) (γ j))=R p 0 ^ (k+1)*(d ^ (k+1)*q):=c;rw[RI (R p 0)]at c';have hne:R p 0*d ^ (k+1)≠0:=Int.mul_ne_zero hp (Vd hd);apply Int.eq_of_mul_eq_mul_left hne
 calc R p 0*d ^ (k+1)*(det (k+1) fun i j=>Zao R d p (ρ i) (γ j))=R p 0*(d ^ (k+1)*det (k+1) fun i j=>Zao R d p (ρ i) (γ j)):=by rw[Wd]
  _=R p 0 ^ k*R p 0*(d ^ (k+1)*q):=c'
  _=R p 0*d ^ (k+1)*(R p 0 ^ k*q):=by simp only[Wd,Wt,WN]
theorem Ziy {M R:Yd} {d:Int} (h:Zct M t d R) (hd:d≠0) (hp:R p 0≠0):Zct M (t+1) (R p 0) (Zao R d p):=fun k ρ γ=>by
 obtain⟨ρ',γ',e⟩:=h (k+1) (fun i=>if i=0 then p else rmv p (ρ (i-1))) (fun j=>if j=0 then 0 else γ (j-1)+1);refine⟨ρ',γ',?_⟩;rw[Ze4 h hd hp k ρ γ e];congr 2;omega
theorem ZhY {M R:Yd} {d X:Int} (h:Zct M t d R) (hd:d≠0) (hp:R p 0≠0) {m:Nat} (hpm:p<m+2) (e:det (m+2) R=d ^ (m+1)*X):det (m+1) (Zao R d p)=R p 0 ^ m*(Zcu p*X):=by
 refine Ze4 h hd hp m id id ?_;have e1:det (m+2) (Zjg R p)=Zcu p*det (m+2) R:=ZiK hpm;rw[e]at e1;have e2:det (m+2) (fun i j=>R (if i=0 then p else rmv p (id (i-1))) (if j=0 then 0 else id (j-1)+1))=det (m+2) (Zjg R p):=by
  refine YR fun r _ c _=>?_;unfold Zjg;have ec:(if c=0 then 0 else id (c-1)+1)=c:=by
   split
   ·rename_i q;exact q.symm
   ·show c-1+1=c;omega
  rw[ec];by_cases q:r=0
  ·rw[if_pos q,if_pos q]
  ·rw[if_neg q,if_neg q];rfl
 rw[e2,e1];simp only[Wd,Wt,WN]
theorem Zkt {f:Yd} (h:∀ i,i<n+1->f i 0=0):det (n+1) f=0:=by
 rw[det];exact JX fun i hi=>by rw[h i hi,UP,Ug]
open PySem L2 PyProof.Rows
def bg (x:Str):Str:=tx x.cps.toList.dropLast
def en (x:Str):Str:=tx (x.cps.toList.drop 1)
abbrev Es:=List (Str×Int)
def ind (p:Prop) [Decidable p]:Int:=if p then 1 else 0
def mo1 (e:Str×Int) (P:Str):Int:=e.2*ind (bg e.1=P)-e.2*ind (en e.1=P)
def mo (es:Es) (P:Str):Int:=(es.map fun e=>mo1 e P).sum
theorem ZmA (es:Es) (e:Str×Int) (P:Str):mo (es++[e]) P=mo es P+mo1 e P:=by
 unfold mo;rw[QG,WU];simp
theorem Zaq (e:Str×Int) (es:Es) (P:Str):mo (e::es) P=mo1 e P+mo es P:=by
 unfold mo;rw[Qj,Qy]
theorem Zee:∀ {es:Es} {P:Str},(∀ e∈es,bg e.1≠P/\en e.1≠P)->mo es P=0
 | [],_,_=>rfl
 | e::es,P,h=>by
  rw[Zaq,Zee fun x hx=>h x (Qg _ hx)];obtain⟨h1,h2⟩:=h e (Qd ..);unfold mo1 ind;rw[if_neg h1,if_neg h2];simp
def tot (f:Str->Int) (ks:List Str):Int:=(ks.map f).sum
theorem Xj (f:Str->Int) (x:Str) (ks:List Str):tot f (x::ks)=f x+tot f ks:=by
 unfold tot;rw[Qj,Qy]
theorem ZdG (f g:Str->Int):∀ ks:List Str,tot (fun x=>f x+g x) ks=tot f ks+tot g ks
 | []=>rfl
 | x::ks=>by
  rw[Xj,Xj,Xj,ZdG f g ks];omega
theorem ZdF (c:Int) (y:Str):∀ ks:List Str,ks.Nodup->tot (fun P=>c*ind (y=P)) ks=if y∈ks then c else 0
 | [],_=>rfl
 | x::ks,nd=>by
  have nd':=QW.mp nd;rw[Xj,ZdF c y ks nd'.2];unfold ind;by_cases e:y=x
  ·subst e;rw[if_pos rfl,if_neg nd'.1,if_pos (Qd ..)];omega
  ·rw[if_neg e];have:(y∈x::ks)↔y∈ks:=by simp[e]
   simp only[this];omega
theorem ZeA:∀ ks:List Str,tot (fun _=>0) ks=0
 | []=>rfl
 | x::ks=>by rw[Xj,ZeA ks];rfl
theorem ZkI {ks:List Str} (nd:ks.Nodup):∀ {es:Es},(∀ e∈es,bg e.1∈ks/\en e.1∈ks)->tot (mo es) ks=0
 | [],_=>ZeA ks
 | e::es,h=>by
  have e1:tot (mo (e::es)) ks=tot (fun P=>mo1 e P+mo es P) ks:=by
   unfold tot;exact congrArg List.sum (QR fun P _=>Zaq e es P)
  rw[e1,ZdG,ZkI nd fun x hx=>h x (Qg _ hx)];obtain⟨h1,h2⟩:=h e (Qd ..);have e2:tot (mo1 e) ks=tot (fun P=>e.2*ind (bg e.1=P) + -e.2*ind (en e.1=P)) ks:=by
   unfold tot;congr 1;refine QR fun P _=>?_;unfold mo1;rw[Ub];omega
  rw[e2,ZdG,ZdF _ _ _ nd,ZdF _ _ _ nd,if_pos h1,if_pos h2];omega
def ups (f:Str->Int) (ss:List Str):Es:=(ss.filter fun x=>decide (0<f x)).map fun x=>(x,f x)
def sm (es:Es):Int:=(es.map fun e=>e.2).sum
theorem Zbm (f:Str->Int) (x:Str) (ss:List Str):sm (ups f (x::ss))=(if 0<f x then f x else 0)+sm (ups f ss):=by
 unfold sm ups;rw[Ue];by_cases c:0<f x
 ·rw[if_pos c,if_pos (by simpa using c)];simp
 ·rw[if_neg c,if_neg (by simpa using c)];simp
theorem Zgn (f:Str->Int):∀ ss:List Str,sm (ups f ss)-sm (ups (fun x=>-f x) ss)=tot f ss
 | []=>rfl
 | x::ss=>by
  have ih:=Zgn f ss;rw[Zbm,Zbm,Xj];split <;> split <;> omega
theorem Znj {f:Str->Int} {b:Nat} (h:∀ x,(f x).natAbs<=b) (ss:List Str):∀ e∈ups f ss,0<e.2/\e.2<=b:=fun e he=>by
 unfold ups at he;obtain⟨x,hx,rfl⟩:=Qr.mp he;have h1:=(QB.mp hx).2;have h2:=h x;simp at h1;constructor
 ·exact h1
 ·show f x<=b;omega
theorem Zoi:∀ {es:Es} {b:Nat} (P:Str),(∀ e∈es,0<=e.2/\e.2<=b)->(mo es P).natAbs<=b*es.length
 | [],_,_,_=>by simp[mo]
 | e::es,b,P,h=>by
  have ih:=Zoi (es:=es) P fun x hx=>h x (Qg _ hx);obtain⟨h1,h2⟩:=h e (Qd ..);rw[Zaq,QO,Nat.mul_add];have:(mo1 e P).natAbs<=b:=by
   unfold mo1 ind;split <;> split <;> omega
  omega
def Adj (es:Es) (P y:Str):Prop:=∃ e∈es,(bg e.1=P/\en e.1=y)\/(en e.1=P/\bg e.1=y)
inductive Rch (es:Es) (a:Str):Str->Prop where
 | here:Rch es a a
 | step {P y:Str} (h:Rch es a P) (k:Adj es P y):Rch es a y
theorem Rch.closed {es:Es} {a:Str} {F:Str->Prop} (ha:F a) (hc:∀ P,F P->∀ y,Adj es P y->F y) {y:Str} (h:Rch es a y):F y:=by
 induction h with
 | here=>exact ha
 | step _ k ih=>exact hc _ ih _ k
theorem ZkB {es:Es} {e:Str×Int} {P y:Str}:Adj (es++[e]) P y↔Adj es P y\/(bg e.1=P/\en e.1=y)\/(en e.1=P/\bg e.1=y):=by
 unfold Adj;constructor
 ·rintro⟨x,hx,q⟩;rcases QI.mp hx with z | z
  ·exact .inl ⟨x,z,q⟩
  ·rw[Qm.mp z]at q;exact .inr q
 ·rintro(⟨x,hx,q⟩ | q)
  ·exact⟨x,QS _ hx,q⟩
  ·exact⟨e,by simp,q⟩
end Sh
namespace Tim
open PySem PySem.W PyProof.Rows
section
variable {M:Model} {A:Around} {E:Value->Shared->Prop} {σ:Type}
end
section
variable {prog:Program} {w:World} {A:Around} {E:Value->Shared->Prop}
variable {κ:SortKind} {ϕ:Keyed->Nat} {U:Keyed->Prop} {G:Shared->Prop}
end
section
variable {ϕ:Keyed->Nat} {T o X Y x y:List Keyed}
end
section
variable {prog:Program} {w:World} {A:Around} {E:Value->Shared->Prop} {κ:SortKind} {ϕ:Keyed->Nat} {U:Keyed->Prop} {G:Shared->Prop}
end
section
variable {ϕ:Keyed->Nat} {T O X Y x y:List Keyed}
end
section
variable {prog:Program} {w:World} {A:Around} {E:Value->Shared->Prop} {κ:SortKind} {ϕ:Keyed->Nat} {U:Keyed->Prop} {G:Shared->Prop}
end
section
variable {prog:Program} {w:World} {A:Around} {E:Value->Shared->Prop} {κ:SortKind} {ϕ:Keyed->Nat} {U:Keyed->Prop} {G:Shared->Prop}
end
section
variable {ϕ:Keyed->Nat}
end
section
variable {prog:Program} {w:World} {A:Around} {E:Value->Shared->Prop} {κ:SortKind} {ϕ:Keyed->Nat} {U:Keyed->Prop} {G:Shared->Prop}
end
section
variable {prog:Program} {w:World} {A:Around} {E:Value->Shared->Prop} {κ:SortKind} {ϕ:Keyed->Nat} {U:Keyed->Prop} {G:Shared->Prop}
end
section
variable {prog:Program} {w:World} {A:Around} {E:Value->Shared->Prop} {s:Shared}
end
section
variable {prog:Program} {w:World} {A:Around} {E:Value->Shared->Prop} {s:Shared}
def ltS (xs:List Str) (i j:Nat):Bool:=decide ((xs.getD i "").cps.toList<(xs.getD j "").cps.toList)
theorem strs_at:∀ {vs:List Value} {xs:List Str},StrsAre vs xs->∀ (i:Nat) (v:Value),vs[i]?=some v->∃ t,v= .str (xs.getD i "") t/\xs[i]?=some (xs.getD i "")
 | _,_,.nil,i,v,h=>by simp at h
 | _,_,.cons y t r,0,v,h=>by
  simp at h;exact⟨t,by rw[←h];rfl,rfl⟩
 | _,_,.cons y t r,i+1,v,h=>by
  obtain⟨t',e1,e2⟩:=strs_at r i v (by simpa using h);exact⟨t',by rw[e1];rfl,by simpa using e2⟩
theorem strs_len:∀ {vs:List Value} {xs:List Str},StrsAre vs xs->vs.length=xs.length
 | _,_,.nil=>rfl
 | _,_,.cons y t r=>by simp[strs_len r]
theorem lt_ne {x y:Str} (h:¬ x.cps.toList<y.cps.toList) (h2:¬ x=y):y.cps.toList<x.cps.toList:=by
 by_cases c:y.cps.toList<x.cps.toList
 ·exact c
 ·have e:=U8 (Uk.mp c) (Uk.mp h);exact absurd (by rw[←L2.tx_eta x,←L2.tx_eta y,e]) h2
end
end Tim
namespace L2
open PySem PySem.Spec PyProof.Rows PySem.W
variable {J T a:Addr} {Q:Value->Shared->Prop} {ep i n:Nat} {h:Heap} {ks:List Str} {o:Obj} {x:Str}
section
variable {prog:Program} {w:World} {A:Around} {E:Value->Shared->Prop} {s:Shared}
theorem J9 (h:n<=1000):n<=sizeLine:=by rw[sizeLine_eq];omega
theorem Zpk {xs:List Str} {p:Array Nat} (hl:xs.length=n) (nd:xs.Nodup) (hp:Srt.Pm n p) (h:∀ i j,i<j->j<n->Tim.ltS xs (p.getD j 0) (p.getD i 0)=false):Srt.Up (ltX xs) p n:=fun i j hij hj=>by
 have h1:=h i j hij hj;have bi:=hp.below (show i<n by omega);have bj:=hp.below hj;have ne:=hp.ne (show i<n by omega) hj (by omega);unfold Tim.ltS at h1;unfold ltX;rw[decide_eq_false_iff_not]at h1;rw[decide_eq_true_eq];refine Tim.lt_ne h1 fun e=>ne ?_;rw[YY (by omega),YY (by omega)]at e;exact((WQ nd).mp e).symm
end
theorem ZhQ {X:Cx} {pins:List (Addr×Obj)} {σ:St} {H:Hp} {s:Shared} {h3:Heap} {tk:Nat} {D:Addr} {vs:List V} (I:Inv X pins σ H s) (k:∀ b u,s.heap.get? b=some u->h3.get? b=some u) (hD:s.heap.get? D=none) (hz:vs.length<=sizeLine)
  (ho:∃ (its:List Value) (n:Nat),Vals vs its/\h3.get? D=some {cls:=.type "list",data:=.seq its.toArray n}):H D=none/\Inv X pins σ (upd H D (.lst vs)) {s with heap:=h3,toks:=tk}:=by
 have hn:H D=none:=by
  cases e:H D with
  | none=>rfl
  | some u =>
   obtain⟨v,hv⟩:=(I.hok D u e).there';rw[hD]at hv;cases hv
 refine⟨hn,?_⟩;have:=I.laidN (N:=fun b=>if b=D then some (.lst vs)else none) (tk:=tk) k fun a o e=>by
  by_cases c:a=D
  ·subst c;rw[if_pos rfl]at e;cases e;exact⟨hD,fun H2=>⟨hz,ho⟩⟩
  ·rw[if_neg c]at e;cases e
 have e:(fun b=>(if b=D then some (HO.lst vs)else none).or (H b))=upd H D (.lst vs):=by
  funext b
  by_cases c:b=D
  ·subst c;rw[if_pos rfl,Rk,Zc]
  ·rw[if_neg c,UG,Zi c]
 rw[e]at this;exact this
theorem Za7 {α:Type} {d:α} (ks:List α) (p:Array Nat) (hp:Srt.Pm ks.length p):(p.toList.map fun i=>ks.getD i d).Perm ks:=by
 have h1:=(Uw.mp hp.perm).map fun i=>ks.getD i d;have h2:((Qs ks.length).toArray.toList.map fun i=>ks.getD i d)=ks:=by
  apply QT;intro i;simp only[Qk];by_cases hi:i<ks.length
  ·rw[Q0 hi,Qa hi,Wc,Qb,Qa hi];rfl
  ·rw[Ql (by simp;omega),Ql (by omega)];rfl
 rw[h2]at h1;exact h1
theorem ZjI {p:Array Nat} (hp:Srt.Pm n p) (hi:i<p.toList.length):p.getD i 0=p.toList[i]:=by
 rw[QQ,QX (by simpa using hi)];simp
theorem Znz {xs:List Str} {p:Array Nat} (hp:Srt.Pm xs.length p) (h:∀ i j,i<j->j<xs.length->Tim.ltS xs (p.getD j 0) (p.getD i 0)=false):((p.toList.map fun i=>xs.getD i "").map fun x=>x.cps.toList).Pairwise (·<=·):=by
 rw[QV,We,Uz];intro i j hi hj hij;have hz:p.toList.length=xs.length:=by rw[QC,hp.size]
 have hu:=h i j hij (by omega);unfold Tim.ltS at hu;rw[decide_eq_false_iff_not,ZjI hp hi,ZjI hp hj]at hu;exact Uk.mp hu
theorem ZhM:∀ {ks:List Str} {g:Str->V} {vs:List (Key×Value)},KV (ks.map fun x=>((Sum.inr x:Key),g x)) vs->∀ (i:Nat) (k:Key) (x:Value),vs[i]?=some (k,x)->k=Sum.inr (ks.getD i "")/\i<ks.length:=by
 intro ks g vs kv i k x e;have ek:=congrArg (fun l:List Key=>l[i]?) kv.keys;simp only[Qk]at ek;rw[e]at ek;cases z:ks[i]? with
 | none=>rw[z]at ek;cases ek
 | some y =>
  rw[z]at ek;refine⟨?_,(Qo.mp z).1⟩;rw[Qb,z];exact(Option.some.inj ek).symm
open PySem PySem.Spec PyProof.Rows
theorem Zhp {t t':SetTable} {hs:Array Int} {od:Array Nat} (h:t.relaid hs n=some (t',od)):t'.led=t.led/\t'.plain=t.plain:=by
 unfold SetTable.relaid SetTable.laid at h;cases e:SetTable.layClean (SetTable.sizeAbove n-1) hs with
 | none=>rw[e]at h;cases h
 | some ow =>
  rw[e]at h;obtain⟨h1,_⟩:=Prod.mk.inj (Option.some.inj h);rw[←h1];exact⟨rfl,rfl⟩
theorem ZjE (t:SetTable) (es:Array (Int×Value)) (n:Nat):(relayAll t es n).2.1.led=t.led/\(t.plain=false->(relayAll t es n).2.1.plain=false):=by
 unfold relayAll;split
 ·rename_i t' od e;obtain⟨e1,e2⟩:=Zhp e;dsimp only;split
  ·exact⟨e1,fun h=>by rw[e2];exact h⟩
  ·exact⟨rfl,fun _=>rfl⟩
 ·exact⟨rfl,fun _=>rfl⟩
theorem Zol (t:SetTable) (es:Array (Int×Value)) (hh:Int) (x:Value):(layNew t es hh x).2.1.led=t.led/\(t.plain=false->(layNew t es hh x).2.1.plain=false):=by
 unfold layNew;split
 ·dsimp only;unfold SetTable.orStandIn;split
  ·exact⟨rfl,fun h=>h⟩
  ·exact⟨rfl,fun _=>rfl⟩
 ·exact⟨rfl,fun _=>rfl⟩
def byT (w:World):Bool:=w.params.followText "set-order"
structure StT (prog:Program) (w:World) (h:Heap) (a:Addr) (ks:List Str) (o:Obj) (es:Array (Int×Value)) (ep:Nat) (t:SetTable):Prop where
 ob:h.get? a=some o
 ex:o.ExactSet
 dt:o.data= .set es ep t
 el:ElemsOf (Zu prog w) es.toList
 mem:∀ k:Key,(∃ x,k=Sum.inr x/\x∈ks)↔∃ e∈es.toList,(Zu prog w).is k e.2=true
 len:es.size=ks.length
 nd:ks.Nodup
 fits:t.fits es.size=true
 led:t.led= !byT w
 plain:ks≠[]->t.plain=false
def SetT (prog:Program) (w:World) (h:Heap) (a:Addr) (ks:List Str):Prop:=∃ o es ep t,StT prog w h a ks o es ep t
section
variable {prog:Program} {w:World} {A:Around} {E:Value->Shared->Prop} {s:Shared}
theorem SetT.keep {h':Heap} (x:SetT prog w h a ks) (k:∀ o,h.get? a=some o->h'.get? a=some o):SetT prog w h' a ks:=by
 obtain⟨o,es,ep,t,q⟩:=x;exact⟨o,es,ep,t,{q with ob:=k o q.ob}⟩
def Zgg (ks:List Str) (x:Str):List Str:=if x∈ks then ks else ks++[x]
theorem addS_mem {y:Str}:y∈Zgg ks x↔y∈ks\/y=x:=by
 unfold Zgg;split
 ·rename_i c;exact⟨.inl,fun h=>h.elim id fun e=>e▸c⟩
 ·simp
theorem Znb (h:ks.Nodup):(Zgg ks x).Nodup:=by
 unfold Zgg;split
 ·exact h
 ·rename_i c;exact Wb.mpr ⟨h,by simp,fun a ha b hb e=>by rw[Qm.mp hb]at e;subst e;exact c ha⟩
theorem ZkD (ks:List Str) (x:Str):(Zgg ks x).length<=ks.length+1:=by
 unfold Zgg;split <;> simp
theorem ZeH {es es':Array (Int×Value)} {t t':SetTable} (ho:h.get? a=some o) (hd:o.data= .set es ep t):(h.update a (Obj.putSet es' t')).get? a=some {o with data:=.set es' (ep+1) t'}:=by
 have:=Uo (Obj.putSet es' t') ho (by rw[putSet_of es' t' hd];rfl);rw[putSet_of es' t' hd]at this;exact this
theorem ZeC {gg:Bool->Sem Unit} (hgg:∀ (b:Bool) (s₁:Shared) (Q':Unit->Shared->Prop),Q' () s₁->wpAny (model prog w) A (gg b) Q' E s₁) {es es1:Array (Int×Value)} {t t2:SetTable} (ho:s.heap.get? a=some o) (hd:o.data= .set es ep t)
  (S:∀ (h:Heap) (ob:Obj) (ep1:Nat) (es2:Array (Int×Value)) (t3:SetTable),h.get? a=some ob->ob.ExactSet->ob.data= .set es2 ep1 t3->List.Perm es2.toList es1.toList->t3.fits es2.size=true->t3.led=t2.led->(t2.plain=false->t3.plain=false)->SetT prog w h a ks) (hx:o.ExactSet) (hb:es1.size<scanBound) (hf:t2.fits es1.size=true) {wd:Bool} {R:Option Bool->Shared->Prop}
  (q:∀ h1,Heap.SameBut a s.heap h1->SetT prog w h1 a ks->R (some true) {s with heap:=h1}) :
  wpAny (model prog w) A (do
    storeSet a es1 t2
    if (!wd&&t2.tooFull)=true then do
      gg (relayAll t2 es1 (SetTable.grown es1.size)).2.2
      storeSet a (relayAll t2 es1 (SetTable.grown es1.size)).1 (relayAll t2 es1 (SetTable.grown es1.size)).2.1
      pure (some true)
     else pure (some true)) R E s:=by
 refine wpAny_bind (wpAny_storeSet_of ho hd ?_ (fits_of_scanBound hb));have o1:=ZeH (es':=es1) (t':=t2) ho hd;have m1:=Heap.SameBut.update s.heap a (Obj.putSet es1 t2);split
 ·have p:=relayAll_perm t2 es1 (SetTable.grown es1.size);have f:=relayAll_fits t2 es1 (SetTable.grown es1.size);obtain⟨l1,l2⟩:=ZjE t2 es1 (SetTable.grown es1.size);generalize relayAll t2 es1 (SetTable.grown es1.size)=rl at p f l1 l2 ⊢;have sz:rl.1.size=es1.size:=by rw[←QC,p.length_eq,QC]
  refine wpAny_bind (hgg _ _ _ (wpAny_bind (wpAny_storeSet_of o1 rfl ?_ (fits_of_scanBound (by rw[sz];exact hb)))));exact wpAny_pure (q _ (m1.trans (Heap.SameBut.update _ a _)) (S _ _ _ rl.1 rl.2.1 (ZeH o1 rfl) hx rfl p f l1 l2))
 ·exact wpAny_pure (q _ m1 (S _ _ _ es1 t2 o1 hx rfl (List.Perm.refl _) hf rfl fun z=>z))
theorem ZlX {tk:Tok} {Q:Bool->Shared->Prop} (hS:SetT prog w s.heap a ks) (hroom:ks.length+1<scanBound)
  (q:∀ (r:Bool) (h1:Heap),Heap.SameBut a s.heap h1->SetT prog w h1 a (Zgg ks x)->Q r {s with heap:=h1}):wpAny (model prog w) A (setAddHashed a (.str x tk) ((Zu prog w).hash (Sum.inr x))) Q E s:=by
 obtain⟨o,es,ep,t,T⟩:=hS;have hkey:(Zu prog w).is (Sum.inr x:Key) (.str x tk)=true:=XH prog w x tk;have hb:es.size<scanBound:=by rw[T.len];omega
 unfold setAddHashed setAddHashedIn;refine wpAny_holding (wpAny_bind (wpAny_setState_of T.ob T.dt T.fits ?_));dsimp only;rw[byScan_of (knd:=Zu prog w) rfl hb T.el];simp only[↓reduceIte];unfold setAddByScan;refine wpAny_bind (wpAny_bind (wpAny_rule (wpAny_bind (wpAny_setScan_of hkey T.ob T.dt T.fits T.el ?_))));cases hr:List.findIdx? (fun e=>(Zu prog w).is (Sum.inr x:Key) e.2) es.toList with
 | some j =>
  dsimp only;obtain⟨hj,hpj,_⟩:=Wn.mp hr;obtain⟨y,ey,hy⟩:=(T.mem (Sum.inr x)).mpr ⟨es.toList[j],QF hj,hpj⟩;cases ey;refine wpAny_pure (wpAny_pure ?_);have es0:s={s with heap:=s.heap}:=by cases s;rfl
  rw[es0];refine q _ s.heap (Heap.SameBut.refl a s.heap) ?_;unfold Zgg;rw[if_pos hy];exact⟨o,es,ep,t,T⟩
 | none =>
  dsimp only;have hx:x∉ks:=fun hx=>by
   obtain⟨e,he,hp⟩:=(T.mem (Sum.inr x)).mp ⟨x,rfl,hx⟩;have:=UA.mp hr e he;rw[hp]at this;cases this
  have perm:=layNew_perm t es ((Zu prog w).hash (Sum.inr x)) (.str x tk);have fit:=layNew_fits t es ((Zu prog w).hash (Sum.inr x)) (.str x tk);obtain⟨l1,l2⟩:=Zol t es ((Zu prog w).hash (Sum.inr x)) (.str x tk);generalize layNew t es ((Zu prog w).hash (Sum.inr x)) (.str x tk)=L at perm fit l1 l2 ⊢;obtain⟨es1,t1,wd,gave⟩:=L;dsimp only at perm fit l1 l2 ⊢;rw[RT]at perm;have sz1:es1.size=ks.length+1:=by rw[←QC,perm.length_eq,Qp,QC,T.len];rfl
  refine wpAny_bind ?_;have hgw:∀ (b:Bool) (s₁:Shared) (Q':Unit->Shared->Prop),Q' () s₁->wpAny (model prog w) A (match b with | true=>rule "set.scan.the-table-gave-way" | false=>pure ()) Q' E s₁:=fun b s₁ Q' hq=>by cases b <;> first | exact wpAny_pure hq | exact wpAny_rule hq
  refine hgw gave _ _ ?_;have mk:∀ (t2:SetTable),t2.led=t1.led->t2.plain=false->∀ (h:Heap) (ob:Obj) (ep1:Nat) (es2:Array (Int×Value)) (t3:SetTable),h.get? a=some ob->ob.ExactSet->ob.data= .set es2 ep1 t3->List.Perm es2.toList es1.toList->t3.fits es2.size=true->t3.led=t2.led->(t2.plain=false->t3.plain=false)->SetT prog w h a (Zgg ks x):=by
   intro t2 e1 e2 h ob ep1 es2 t3 c1 c2 c3 c4 c5 c6 c7;have pp:=c4.trans perm;refine⟨ob,es2,ep1,t3,c1,c2,c3,(T.el.push hkey rfl).perm pp,fun k=>?_,?_,Znb T.nd,c5,by rw[c6,e1,l1,T.led],fun _=>c7 e2⟩
   ·constructor
    ·rintro⟨y,rfl,hy⟩;rcases addS_mem.mp hy with z | z
     ·obtain⟨e,he,hp⟩:=(T.mem (Sum.inr y)).mp ⟨y,rfl,z⟩;exact⟨e,pp.mem_iff.mpr (QS _ he),hp⟩
     ·subst z;exact⟨_,pp.mem_iff.mpr (QU _ (Qm.mpr rfl)),hkey⟩
    ·rintro⟨e,he,hp⟩;rcases QI.mp (pp.mem_iff.mp he)with z | z
     ·obtain⟨y,ey,hy⟩:=(T.mem k).mpr ⟨e,z,hp⟩;exact⟨y,ey,addS_mem.mpr (.inl hy)⟩
     ·rw[Qm.mp z]at hp;exact⟨x,(Zu prog w).inj _ _ _ hp hkey,addS_mem.mpr (.inr rfl)⟩
   ·rw[←QC,c4.length_eq,QC,sz1];unfold Zgg;rw[if_neg hx,Qp];rfl
  split
  ·refine wpAny_bind ?_;rw[hashByValue_scannable 8 (x:=.str x tk) rfl];refine wpAny_pure ?_;refine ZeC (t2:=if plainKind (.str x tk)=true then t1 else {t1 with plain:=false}) hgw T.ob T.dt (mk _ rfl rfl) T.ex (by rw[sz1];exact hroom) (SetTable.fits_plain_off fit) fun h1 m hS'=>?_;exact wpAny_pure (q _ h1 m hS')
  ·rename_i hpl;refine wpAny_bind (wpAny_pure ?_);simp only[↓reduceIte];refine ZeC hgw T.ob T.dt (mk t1 rfl (by simpa using hpl)) T.ex (by rw[sz1];exact hroom) fit fun h1 m hS'=>?_;exact wpAny_pure (q _ h1 m hS')
end
def met (val:Nat->Str):Nat->List Str
 | 0=>[]
 | i+1=>Zgg (met val i) (val i)
theorem Zeg (val:Nat->Str):∀ i,(met val i).length<=i
 | 0=>Qi _
 | i+1=>by
  have:=ZkD (met val i) (val i);have:=Zeg val i;show(Zgg _ _).length<=_;omega
theorem Zia (val:Nat->Str):∀ i x,x∈met val i↔∃ j,j<i/\val j=x
 | 0,x=>by simp[met]
 | i+1,x=>by
  show x∈Zgg _ _↔_;rw[addS_mem,Zia val i x];constructor
  ·rintro(⟨j,hj,e⟩ | e)
   ·exact⟨j,by omega,e⟩
   ·exact⟨i,by omega,e.symm⟩
  ·rintro⟨j,hj,e⟩;by_cases c:j=i
   ·subst c;exact .inr e.symm
   ·exact .inl ⟨j,by omega,e⟩
section
variable {prog:Program} {w:World} {A:Around} {R:Result->Shared->Prop} {J:Addr} {fp wr:List Addr} {G:Array GenState->Array GenState->Prop} {n:Nat} {P:Nat->Value->Prop} {St:Nat->Shared->Prop}
theorem Zgo (W:WalksS prog w A.in1 J fp wr G n P St) (S:Addr) (hSf:S∉fp) (val:Nat->Str) (hval:∀ i v,P i v->∃ t,v= .str (val i) t) (hb:n+1<scanBound) :
  ∀ (k i:Nat) (s:Shared),n-i=k->i<=n->St i s->SetT prog w s.heap S (met val i)->(∀ s',Moved (S::wr) G s s'->SetT prog w s'.heap S (met val n)->R (.ok (.ret .none)) s') ->
   codeAny (model prog w) A (.builtin "set.update.loop" ⟨[.ref S,.ref J],[]⟩) R s:=by
 have hSw:S∉wr:=fun h=>hSf (W.sub _ h);have hsub:∀ b∈wr,b∈S::wr:=fun b hb=>Qg _ hb;intro k;induction k with
 | zero =>
  intro i s hk hi hst hS hR;have hin:i=n:=by omega
  subst hin;refine codeAny_builtin PyProof.Rows.F.entry_set_update_loop ?_;rw[Around.under_plainId PyProof.Rows.F.plain_set_update_loop _];refine(show wpAny _ A.in1 (pyNext (.ref J) >>= _) _ _ s from wpAny_bind (W.done s _ _ hst fun s1 mv=>?_));exact(show wpAny _ A.in1 (ret Value.none) _ _ s1 from wpAny_pure (hR s1 (mv.mono hsub) (hS.keep fun o e=>mv.heap S o hSw e)))
 | succ k ih =>
  intro i s hk hi hst hS hR;have hlt:i<n:=by omega
  refine codeAny_builtin PyProof.Rows.F.entry_set_update_loop ?_;rw[Around.under_plainId PyProof.Rows.F.plain_set_update_loop _];refine(show wpAny _ A.in1 (pyNext (.ref J) >>= _) _ _ s from wpAny_bind (W.item i s _ _ hlt hst fun v s1 hP hst1 mv=>?_));obtain⟨t,rfl⟩:=hval i v hP;have hS1:SetT prog w s1.heap S (met val i):=hS.keep fun o e=>mv.heap S o hSw e;refine(show wpAny _ A.in1 (holding [Value.str (val i) t] (setAdd S (.str (val i) t)) >>= _) _ _ s1 from wpAny_bind (wpAny_holding ?_));unfold setAdd;refine wpAny_holding (wpAny_bind ((Zu prog w).pyHash (k:=(Sum.inr (val i):Key)) (XH prog w (val i) t) ?_));refine ZlX (s:={s1 with toks:=s1.toks+1}) hS1 (by have:=Zeg val i;omega) fun r h1 sb hS2=>?_;refine wpAny_pure ⟨plainId_quiet PyProof.Rows.F.plain_set_update_loop _,ih (i+1) _ (by omega) hlt (W.frame _ s1 _ _ hst1 (Ux _) fun b hb o e=>?_) hS2 fun s2 mv2 hS3=>?_⟩
  ·rw[sb.2 b (fun h:b=S=>hSf (by rw[←h];exact hb))];exact e
  ·refine hR s2 (Moved.trans W.gtrans ((mv.mono hsub).then_heap (Ux _) fun b o hb e=>?_) mv2) hS3;rw[sb.2 b (fun h:b=S=>hb (by rw[h];exact Qd))];exact e
end
section
variable {prog:Program} {w:World} {A:Around} {E:Value->Shared->Prop} {s:Shared}
theorem Zms (a:Value) {Q1:Value->Shared->Prop}
  (q:Q1 (.ref s.heap.objs.size) {s with heap:=s.heap.push {cls:=.type "set",dict:=none,data:=.set #[] 0 (.fresh 0 0 (!byT w))}}) :
  codeAny (model prog w) A (.call (.builtin "set.__new__") ⟨[.type "set",a],[]⟩) (wants Q1 E) s:=by
 refine codeAny_of_tree ?_;refine(show wpAny _ A.in1 (do checkBuiltinCall "set.__new__" ⟨[.type "set",a],[]⟩;again (.builtin "set.__new__" ⟨[.type "set",a],[]⟩)) _ _ s from wpAny_bind (wpAny_of_eq (PySem.F.newCall_set_1 a) (wpAny_pure ⟨plainId_quiet PySem.F.plain_set_new _,codeAny_builtin PySem.F.entry_set_new ?_⟩)));rw[Around.under_plainId PySem.F.plain_set_new _];unfold Builtin.«set.__new__» Builtin.Frozenset.newClass;have hsub:=sub_set_self;obtain⟨hp,gg,dd,tk,os⟩:=s;dsimp only
 wp_walk
 refine wpAny_askSetting (wpAny_pure ?_);dsimp only;simp only[newObj];exact wpAny_bind (wpAny_alloc (wpAny_pure (wpAny_pure q)))
theorem ZiE (e:h.get? a=some {cls:=.type "set",dict:=none,data:=.set #[] 0 (.fresh 0 0 (!byT w))}):SetT prog w h a [] :=
 ⟨_,#[],0,_,e,⟨rfl,rfl,rfl⟩,rfl,fun e he=>by simp at he,fun k=>by simp,rfl,Wy,by rfl,rfl,fun z=>absurd rfl z⟩
theorem ZiX {l:Addr} {items:Array Value} {ss:List Str} (hh:A.handled=none) (hl:s.heap.IsList l items) (hi:StrsAre items.toList ss) (hb:items.size+1<scanBound)
  (q:∀ (h1:Heap) (tk:Nat),SetT prog w h1 s.heap.objs.size (met (fun i=>ss.getD i "") items.size)->(∀ b o,s.heap.get? b=some o->h1.get? b=some o)->Q (.ref s.heap.objs.size) {s with heap:=h1,toks:=tk}) :
  wpAny (model prog w) A (call (.type "set") [.ref l]) Q E s:=by
 obtain⟨c,tl,hmro⟩:=PySem.F.called_set.mro;have hmade:=PySem.F.called_set.made;have hsub:=PySem.F.called_set.sub;refine wpAny_call (codeAny_of_tree ?_);refine(show wpAny _ _ (callAny (.type "set") _) _ _ _ from wpAny_pure ⟨Code.quiet_builtin _ (by decide +kernel),codeAny_builtin PySem.F.entry_type_call ?_⟩);rw[Around.under_plain (weight_type_call_type "set" [.ref l] []) rfl];have h1:=PySem.F.called_set.notType;have h2:=PySem.F.called_set.canCreate;have hct:=PySem.F.typeCall_set_1 (.ref l)
 repeat (any_goals (first | assumption | wp_step))
 refine codeAny_mono (Zms (.ref l) (E:=E) (Q1:=fun obj s1=>obj= .ref s.heap.objs.size/\s1={s with heap:=s.heap.push {cls:=.type "set",dict:=none,data:=.set #[] 0 (.fresh 0 0 (!byT w))}}) ⟨rfl,rfl⟩) fun r s1 hr=>?_;cases r with
 | error e=>exact hr
 | ok fl =>
  cases fl with
  | ret obj =>
   obtain⟨rfl,rfl⟩:=hr;have gS:(s.heap.push {cls:=.type "set",dict:=none,data:=.set #[] 0 (.fresh 0 0 (!byT w))}).get? s.heap.objs.size=some {cls:=.type "set",dict:=none,data:=.set #[] 0 (.fresh 0 0 (!byT w))}:=Qz _ rfl;have hT:Shared.TypeIs {s with heap:=s.heap.push {cls:=.type "set",dict:=none,data:=.set #[] 0 (.fresh 0 0 (!byT w))}} (.ref s.heap.objs.size) "set":=⟨_,gS,rfl⟩
   have hli:=PySem.F.called_set.init.lookup;have hbi:=PySem.F.called_set.init.bind (.ref s.heap.objs.size)
   repeat (any_goals (first | assumption | wp_step))
   refine codeAny_mono (codeAny_call_builtin (R:=wants (fun r s2=>r= .none/\∃ g tk,s2={s with heap:=g,toks:=tk}/\SetT prog w g s.heap.objs.size (met (fun i=>ss.getD i "") items.size)/\(∀ b o,s.heap.get? b=some o->g.get? b=some o)) E) PySem.F.called_set.init.plain PySem.F.entry_set_init (check_set_init_1 hT ?_)) fun r2 s2 hr2=>?_
   ·obtain⟨ol,hol,hcl,nl,hdl⟩:=hl;obtain⟨ocls,odict,odata,oslots⟩:=ol;simp only at hcl hdl;subst hcl;subst hdl;have hol':(s.heap.push {cls:=.type "set",dict:=none,data:=.set #[] 0 (.fresh 0 0 (!byT w))}).get? l=some {cls:=.type "list",dict:=odict,data:=.seq items nl,slots:=oslots}:=Qh _ hol;have hsls:=PySem.F.sub_list_set;have hslf:=PySem.F.sub_list_frozenset;have hne:(Value.type "list" == Value.type "dict")=false:=by decide
    have hl1:(s.heap.push {cls:=.type "set",dict:=none,data:=.set #[] 0 (.fresh 0 0 (!byT w))}).IsList l items:=⟨_,hol',rfl,nl,rfl⟩
    unfold Builtin.«set.__init__» noKeywords Builtin.Frozenset.updateFrom;generalize hPI:pyIter=PI
    wp_walk
    subst hPI;refine wpAny_pyIter_list hl1 (wpAny_bind (wpAny_runValue ?_));have hlS:l<s.heap.objs.size:=Qw hol;have hh3:A.in1.in1.in1.handled=none:=by simp[hh]
    have hneI:l≠(s.heap.push {cls:=.type "set",dict:=none,data:=.set #[] 0 (.fresh 0 0 (!byT w))}).objs.size:=by
     rw[WK];exact QD (Ua hlS)
    have hSf:s.heap.objs.size∉[(s.heap.push {cls:=.type "set",dict:=none,data:=.set #[] 0 (.fresh 0 0 (!byT w))}).objs.size,l]:=by
     rw[WK];simp only[Qx,Us,or_false,not_or];exact⟨QD (WF _),U7 hlS⟩
    have hval:∀ (i:Nat) (v:Value),items[i]?=some v->∃ t,v= .str ((fun i=>ss.getD i "") i) t:=fun i v hv=>by
     obtain⟨t,e,_⟩:=Tim.strs_at hi i v (by rw[Wl];exact hv);exact⟨t,e⟩
    refine Zgo ((Walks.list hh3 _ l hneI items).toS) s.heap.objs.size hSf (fun i=>ss.getD i "") hval hb (items.size-0) 0 _ (by omega) (QL _)
     ⟨⟨_,Qz _ rfl,rfl,rfl⟩,(hl1.push _)⟩ (ZiE (Qh _ gS)) ?_
    intro s3 mv hS3;obtain⟨h3,g3,d3,t3,o3⟩:=s3;have eg:g3=s.gens:=mv.gens;have ed:d3=s.drawn:=mv.drawn;have eo:o3=s.os:=mv.os;subst eg;subst ed;subst eo;refine wpAny_pure (show wpAny _ _ (ret Value.none) _ _ _ from wpAny_pure ⟨rfl,h3,t3,rfl,hS3,fun b o e=>?_⟩);have hb0:b<s.heap.objs.size:=Qw e;have hb2:b≠(s.heap.push {cls:=.type "set",dict:=none,data:=.set #[] 0 (.fresh 0 0 (!byT w))}).objs.size:=by
     rw[WK];exact QD (Ua hb0)
    exact mv.heap b o (by simp only[Qx,Us,or_false,not_or];exact⟨QD hb0,hb2⟩) (Qh _ (Qh _ e))
   ·cases r2 with
    | error e=>exact hr2
    | ok fl2 =>
     cases fl2 with
     | ret r =>
      obtain⟨rfl,g,tk,rfl,hS',hk'⟩:=hr2
      repeat (any_goals (first | assumption | wp_step))
      exact q _ _ hS' hk'
     | _=>exact hr2
  | _=>exact hr
end
theorem si_slot:Slot "set_iterator" "__next__" "set_iterator.__next__" :=
 .of (owner:="set_iterator") (n:="__next__") (by rw[typeLookup_type,builtinLookup_eq_fast];kernel_rfl) (by decide +kernel) (by decide +kernel) (by decide +kernel) (by first | exact .inl (by decide +kernel) | exact .inr (by decide +kernel)) (by rw[isSubtype_type];kernel_rfl)
theorem Xm:entryFor table "set_iterator.__next__" = some Builtin.«set_iterator.__next__»:=entryFor_of_fast (by kernel_rfl)
theorem Jd (a:Value):argsOk "set_iterator.__next__" ⟨[a],[]⟩:=by unfold argsOk;kernel_rfl
theorem Zjk:entryFor table "set.__iter__" = some Builtin.«frozenset.__iter__» :=
 entryFor_alias (id':="frozenset.__iter__") (by kernel_rfl) (by first | rfl | decide +kernel | (unfold String.splitOn;simp +decide [String.splitOnAux])) (by decide +kernel) (by kernel_rfl)
theorem Zbj {α:Type} {l:List α} (h:i<l.length):(l[i]::l.eraseIdx i).Perm l:=by
 rw[List.eraseIdx_eq_take_drop_succ];have e:l=l.take i++l[i]::l.drop (i+1):=by rw[←U5 h,UL]
 conv=>rhs;rw[e]
 exact R3.symm
theorem ZhC {α:Type} (next:Nat->Nat):∀ (f k:Nat) (left:List α) (out:Array α),left.length<=f->(pickOrder.go next f k left out).toList.Perm (out.toList++left)
 | 0,k,left,out,h=>by
  have:left=[]:=Wo.mp (by omega);subst this;unfold pickOrder.go;simp
 | f+1,k,[],out,h=>by
  unfold pickOrder.go;simp
 | f+1,k,x::left,out,h=>by
  unfold pickOrder.go;have hi:next k % (x::left).length<(x::left).length:=Nat.mod_lt _ (by simp);rw[Qa hi];dsimp only;refine(ZhC next f (k+1) _ _ ?_).trans ?_
  ·rw[Rp,if_pos hi];simp at h ⊢;omega
  ·rw[RT,UH];exact List.Perm.append_left _ (Zbj hi)
theorem Zag {α:Type} (next:Nat->Nat) (xs:Array α):(pickOrder next xs).toList.Perm xs.toList:=by
 unfold pickOrder;have:=ZhC next xs.size 0 xs.toList #[] (by simp);simpa using this
abbrev Zcs (h:Heap) (J:Addr) (f:Value) (i:Nat) (a:Addr) (n ep:Nat):Prop:=h.get? J=some {cls:=.type "set_iterator",dict:=none,data:=.fields #[f,.int i 0,.ref a,.int n 0,.int ep 0],slots:=#[]}
section
variable {prog:Program} {w:World} {A:Around} {E:Value->Shared->Prop} {s:Shared}
theorem Zcw {src:Source} {Q:Nat->Shared->Prop} (hn:n≠0) (h:∀ i d,i<n->Q i {s with drawn:=d}):wpAny (model prog w) A (choose src n) Q E s :=
 fun _ _ _=>⟨hn,h _ _ (Nat.mod_lt _ (Nat.pos_of_ne_zero hn))⟩
theorem Zdk {α:Type}:∀ (n:Nat) (xs:List α) (s:Shared) {Q:List α->Shared->Prop},xs.length<=n->(∀ ys d,ys.Perm xs->Q ys {s with drawn:=d})->wpAny (model prog w) A (drawOrder n xs) Q E s
 | 0,xs,s,Q,hl,h=>by
  have:xs=[]:=Wo.mp (by omega);subst this;unfold drawOrder;exact wpAny_pure (h [] s.drawn (List.Perm.refl _))
 | n+1,[],s,Q,hl,h=>by
  unfold drawOrder;exact wpAny_pure (h [] s.drawn (List.Perm.refl _))
 | n+1,x::xs,s,Q,hl,h=>by
  unfold drawOrder;refine wpAny_bind (Zcw (by simp) fun i d hi=>?_);rw[Qa hi];dsimp only;refine wpAny_bind (Zdk n ((x::xs).eraseIdx i) {s with drawn:=d} ?_ fun ys d2 hp=>wpAny_pure (h _ d2 ?_))
  ·rw[Rp];split <;> simp at * <;> omega
  ·exact(hp.cons _).trans (Zbj hi)
structure SeesS (h:Heap) (a:Addr) (o:Obj) (es:Array (Int×Value)) (ep:Nat) (t:SetTable) (n:Nat):Prop where
 ob:h.get? a=some o
 dt:o.data= .set es ep t
 fits:t.fits es.size=true
 len:es.size=n
theorem Yt {es:Array (Int×Value)} {t:SetTable} {Q:(Array (Int×Value)×Nat×SetTable)->Shared->Prop} (V:SeesS s.heap a o es ep t n) (q:Q (es,ep,t) s):wpAny (model prog w) A (setState a) Q E s:=wpAny_setState_of V.ob V.dt V.fits q
theorem YN {f:Value} {es:Array (Int×Value)} {t:SetTable} {Q:PySem.Fin->Shared->Prop} (hJ:Zcs s.heap J f i a n ep) (V:SeesS s.heap a o es ep t n)
  (q:wpAny (model prog w) A (if let .int slot _:=f then (do
    match ←setNext a slot.toNat (i:Int).toNat (ep:Int).toNat with
    | some (x,next) =>
     setField (.ref J) 0 (rawInt next)
     setField (.ref J) 1 (rawInt ((i:Int)+1))
     ret x
    | none=>setField (.ref J) 2 .none;raiseNew (←newExc (.type "StopIteration") []))
   else (do
    let some places ←seqItems? f | unsupported "internal:set_iterator"
    match places[(i:Int).toNat]? with
    | some (.int place _) =>
     let x ←setNextDrawn a place.toNat (ep:Int).toNat
     setField (.ref J) 1 (rawInt ((i:Int)+1))
     ret x
    | some _=>unsupported "internal:set_iterator"
    | none=>setField (.ref J) 0 (rawInt 0);setField (.ref J) 2 .none;raiseNew (←newExc (.type "StopIteration") []))) Q E s) :
  wpAny (model prog w) A (Builtin.«set_iterator.__next__» ⟨[.ref J],[]⟩) Q E s:=by
 refine(show wpAny _ _ (fieldsOf (.ref J) >>= _) _ _ s from wpAny_bind (wpAny_fieldsOf hJ rfl ?_));dsimp only;refine wpAny_bind (wpAny_setEntries_of V.ob V.dt V.fits ?_);rw[if_neg (by rw[V.len];simp)];exact q
theorem Jb {J:Addr} {Q:PySem.Fin->Shared->Prop} {g0:Heap} (hh:A.handled=none)
  (q:∀ g e,(∀ c o,g0.get? c=some o->g.get? c=some o)->(∃ o,g.get? e=some o/\o.cls= .type "StopIteration")->E (.ref e) {s with heap:=g}) :
  wpAny (model prog w) A (do raiseNew (←newExc (.type "StopIteration") [])) Q E {s with heap:=g0}:=by
 refine wpAny_bind ?_;simp only[newExc,newTuple];refine wpAny_bind (wpAny_newObj_type (wpAny_bind (m:=firstArgMember _ _) (wpAny_of_eq (a:=Value.none) (by first | rfl | (simp only[firstArgMember];rfl)) (wpAny_newObj_type ?_ (by size_fits)))) (by size_fits));simp only[raiseNew];refine wpAny_bind (wpAny_handled ?_);first | rw[show A.in1.handled=none from hh] | rw[hh]
 exact wpAny_bind (wpAny_pure (wpAny_throw (q _ _ (fun c o e=>Qh _ (Qh _ e)) ⟨_,Qz _ rfl,rfl⟩)))
theorem Zjq {p m:Nat} {oT:Obj} {es:Array (Int×Value)} {t:SetTable} {pl:Array Value} {hx:Int} {x:Value} (hJ:Zcs s.heap J (.ref T) i a n ep) (V:SeesS s.heap a o es ep t n)
  (gT:s.heap.get? T=some oT) (dT:oT.data= .seq pl m) (hp:pl[i]?=some (.int p 0)) (hx:es[p]?=some (hx,x)) (q:∀ g,Zcs g J (.ref T) (i+1) a n ep->Heap.SameBut J s.heap g->Q x {s with heap:=g}) :
  wpAny (model prog w) A (Builtin.«set_iterator.__next__» ⟨[.ref J],[]⟩) (fun fin s'=>∃ v,fin= .done (.ret v)/\Q v s') E s:=by
 refine YN hJ V ?_;dsimp only;refine wpAny_bind (wpAny_seqItems gT dT ?_);simp only[WD,hp];unfold setNextDrawn;refine wpAny_bind (wpAny_bind (Yt V ?_));dsimp only;rw[if_neg (by simp),hx];refine wpAny_pure (wpAny_bind (wpAny_setField_rec hJ (by simp) fun g hg sb=>wpAny_pure ⟨x,rfl,q g ?_ sb⟩));have e:((i+1:Nat):Int)=(i:Int)+1:=by push_cast;rfl
 unfold Zcs;rw[e];exact hg
theorem ZlV {m:Nat} {oT:Obj} {es:Array (Int×Value)} {t:SetTable} {pl:Array Value} {Q:PySem.Fin->Shared->Prop} (hh:A.handled=none) (hJ:Zcs s.heap J (.ref T) i a n ep) (V:SeesS s.heap a o es ep t n)
  (gT:s.heap.get? T=some oT) (dT:oT.data= .seq pl m) (hp:pl[i]?=none) (q:∀ g e,(∀ c o,c≠J->s.heap.get? c=some o->g.get? c=some o)->(∃ o,g.get? e=some o/\o.cls= .type "StopIteration")->E (.ref e) {s with heap:=g}) :
  wpAny (model prog w) A (Builtin.«set_iterator.__next__» ⟨[.ref J],[]⟩) Q E s:=by
 refine YN hJ V ?_;dsimp only;refine wpAny_bind (wpAny_seqItems gT dT ?_);simp only[WD,hp];refine wpAny_bind (wpAny_setField_rec hJ (by simp) fun g1 hg1 sb1=>wpAny_bind (wpAny_setField_rec hg1 (by simp) fun g2 hg2 sb2=>?_));exact Jb (J:=J) hh fun g e k he=>q g e (fun c o hc z=>k c o (sb2.extBut _ _ hc (sb1.extBut _ _ hc z))) he
theorem Zjo {es:Array (Int×Value)} {t:SetTable} {hx:Int} {x:Value} (hb:byT w=true) (hJ:Zcs s.heap J (.int 0 0) i a n ep) (V:SeesS s.heap a o es ep t n)
  (hp:(pickOrder (w.params.setOrder a ep) es)[i]?=some (hx,x)) (q:∀ g,Zcs g J (.int 0 0) (i+1) a n ep->Heap.SameBut J s.heap g->Q x {s with heap:=g}) :
  wpAny (model prog w) A (Builtin.«set_iterator.__next__» ⟨[.ref J],[]⟩) (fun fin s'=>∃ v,fin= .done (.ret v)/\Q v s') E s:=by
 refine YN hJ V ?_;dsimp only;refine wpAny_bind ?_;unfold setNext setsByText;refine wpAny_bind (Yt V ?_);dsimp only;refine wpAny_bind (wpAny_bind (wpAny_askSetting (wpAny_pure ?_)));dsimp only;rw[if_pos (show(model prog w).w.params.followText "set-order" = true from hb),if_neg (by simp)];unfold setWalk setsByText;refine wpAny_bind (wpAny_bind (Yt V ?_));dsimp only;refine wpAny_bind (wpAny_bind (wpAny_askSetting (wpAny_pure ?_)));dsimp only;rw[if_pos (show(model prog w).w.params.followText "set-order" = true from hb)];refine wpAny_bind (wpAny_askSetting (wpAny_pure (wpAny_pure ?_)));have hp':(pickOrder ((model prog w).w.params.setOrder a ep) es)[i]?=some (hx,x):=hp;simp only[WD,hp',Wc];refine wpAny_bind (wpAny_setField_rec hJ (by simp) fun g1 hg1 sb1=>wpAny_bind (wpAny_setField_rec hg1 (by simp) fun g2 hg2 sb2=>wpAny_pure ⟨x,rfl,q g2 ?_ (sb1.trans sb2)⟩));have e:((i+1:Nat):Int)=(i:Int)+1:=by push_cast;rfl
 unfold Zcs;rw[e];exact hg2
theorem ZlT {es:Array (Int×Value)} {t:SetTable} {Q:PySem.Fin->Shared->Prop} (hh:A.handled=none) (hb:byT w=true) (hJ:Zcs s.heap J (.int 0 0) i a n ep) (V:SeesS s.heap a o es ep t n)
  (hp:(pickOrder (w.params.setOrder a ep) es)[i]?=none) (q:∀ g e,(∀ c o,c≠J->s.heap.get? c=some o->g.get? c=some o)->(∃ o,g.get? e=some o/\o.cls= .type "StopIteration")->E (.ref e) {s with heap:=g}) :
  wpAny (model prog w) A (Builtin.«set_iterator.__next__» ⟨[.ref J],[]⟩) Q E s:=by
 refine YN hJ V ?_;dsimp only;refine wpAny_bind ?_;unfold setNext setsByText;refine wpAny_bind (Yt V ?_);dsimp only;refine wpAny_bind (wpAny_bind (wpAny_askSetting (wpAny_pure ?_)));dsimp only;rw[if_pos (show(model prog w).w.params.followText "set-order" = true from hb),if_neg (by simp)];unfold setWalk setsByText;refine wpAny_bind (wpAny_bind (Yt V ?_));dsimp only;refine wpAny_bind (wpAny_bind (wpAny_askSetting (wpAny_pure ?_)));dsimp only;rw[if_pos (show(model prog w).w.params.followText "set-order" = true from hb)];refine wpAny_bind (wpAny_askSetting (wpAny_pure (wpAny_pure ?_)));have hp':(pickOrder ((model prog w).w.params.setOrder a ep) es)[i]?=none:=hp;simp only[WD,hp',Option.map_none];refine wpAny_bind (wpAny_setField_rec hJ (by simp) fun g1 hg1 sb1=>?_);exact Jb (J:=J) hh fun g e k he=>q g e (fun c o hc z=>k c o (sb1.extBut _ _ hc z)) he
theorem Za6 {sl i:Nat} {es:Array (Int×Value)} {t:SetTable} {Q:Option (Value×Nat)->Shared->Prop} (hb:byT w=false) (V:SeesS s.heap a o es ep t n) (hn:n<=1) (led:t.led=true)
  (q:Q (match es[SetTable.below t.place sl]?,t.place[SetTable.below t.place sl]? with
   | some (_,x),some j=>some (x,j+1)
   | _,_=>none) s):wpAny (model prog w) A (setNext a sl i ep) Q E s:=by
 unfold setNext setsByText;refine wpAny_bind (Yt V ?_);dsimp only;refine wpAny_bind (wpAny_bind (wpAny_askSetting (wpAny_pure ?_)));dsimp only;rw[if_neg (by rw[show(model prog w).w.params.followText "set-order" = false from hb];decide)];refine(show wpAny (model prog w) A (if (!t.plain&&decide (es.size>1))=true then _ else _) Q E s from ?_);rw[if_neg (by rw[V.len];simp;omega)];refine(show wpAny (model prog w) A ((if (!t.led&&!es.isEmpty)=true then unsupported "set:maker-not-led" else pure ()) >>= fun _=>_) Q E s from ?_);rw[led];simp only[Vj,UY,Wf,if_false];exact wpAny_bind (wpAny_pure (wpAny_pure q))
theorem Zjp {j:Nat} {es:Array (Int×Value)} {t:SetTable} {hx:Int} {x:Value} (hb:byT w=false) (led:t.led=true) (hJ:Zcs s.heap J (.int 0 0) 0 a 1 ep) (V:SeesS s.heap a o es ep t 1)
  (hj:t.place= #[j]) (hp:es[0]?=some (hx,x)) (q:∀ g,Zcs g J (.int ((j+1:Nat):Int) 0) 1 a 1 ep->Heap.SameBut J s.heap g->Q x {s with heap:=g}) :
  wpAny (model prog w) A (Builtin.«set_iterator.__next__» ⟨[.ref J],[]⟩) (fun fin s'=>∃ v,fin= .done (.ret v)/\Q v s') E s:=by
 refine YN hJ V ?_;dsimp only;refine wpAny_bind (Za6 hb V (Qi _) led ?_);have hbw:SetTable.below t.place (0:Int).toNat=0:=by rw[hj];rfl
 rw[hbw,hp,hj];refine wpAny_bind (wpAny_setField_rec hJ (by simp) fun g1 hg1 sb1=>wpAny_bind (wpAny_setField_rec hg1 (by simp) fun g2 hg2 sb2=>wpAny_pure ⟨x,rfl,q g2 hg2 (sb1.trans sb2)⟩))
theorem ZlU {sl:Nat} {es:Array (Int×Value)} {t:SetTable} {Q:PySem.Fin->Shared->Prop} (hh:A.handled=none) (hb:byT w=false) (led:t.led=true) (hJ:Zcs s.heap J (.int (sl:Int) 0) i a n ep) (V:SeesS s.heap a o es ep t n) (hn:n<=1)
  (hp:es[SetTable.below t.place sl]?=none) (q:∀ g e,(∀ c o,c≠J->s.heap.get? c=some o->g.get? c=some o)->(∃ o,g.get? e=some o/\o.cls= .type "StopIteration")->E (.ref e) {s with heap:=g}) :
  wpAny (model prog w) A (Builtin.«set_iterator.__next__» ⟨[.ref J],[]⟩) Q E s:=by
 refine YN hJ V ?_;dsimp only;refine wpAny_bind (Za6 hb V hn led ?_);rw[WD,hp];refine wpAny_bind (wpAny_setField_rec hJ (by simp) fun g1 hg1 sb1=>?_);exact Jb (J:=J) hh fun g e k he=>q g e (fun c o hc z=>k c o (sb1.extBut _ _ hc z)) he
end
theorem SeesS.keep {h':Heap} {es:Array (Int×Value)} {t:SetTable} (V:SeesS h a o es ep t n) (k:∀ o,h.get? a=some o->h'.get? a=some o):SeesS h' a o es ep t n:={V with ob:=k o V.ob}
theorem ZgY:Slot "set_iterator" "__iter__" "set_iterator.__iter__" :=
 .of (owner:="set_iterator") (n:="__iter__") (by rw[typeLookup_type,builtinLookup_eq_fast];kernel_rfl) (by decide +kernel) (by decide +kernel) (by decide +kernel) (by first | exact .inl (by decide +kernel) | exact .inr (by decide +kernel)) (by rw[isSubtype_type];kernel_rfl)
theorem Zjm:entryFor table "set_iterator.__iter__" = some Builtin.«dict_keyiterator.__iter__» :=
 entryFor_alias (id':="dict_keyiterator.__iter__") (by kernel_rfl) (by first | rfl | decide +kernel | (unfold String.splitOn;simp +decide [String.splitOnAux])) (by decide +kernel) (by kernel_rfl)
theorem Zjn (a:Value):argsOk "set_iterator.__iter__" ⟨[a],[]⟩:=by unfold argsOk;kernel_rfl
theorem ZdO {prog:Program} {w:World} {A:Around} {E:Value->Shared->Prop} {s:Shared} {f:Value} (hJ:Zcs s.heap J f i a n ep) (h:Q (.ref J) s):wpAny (model prog w) A (pyIter (.ref J)) Q E s:=by
 refine wpAny_pyIter_slot ⟨_,hJ,rfl⟩ ZgY (wpAny_call_entry ZgY ⟨_,hJ,rfl⟩ Zjm ?_ (Zjn _));exact(show wpAny _ _ (ret (.ref J)) _ _ s from wpAny_pure ⟨_,rfl,"set_iterator",_,⟨_,hJ,rfl⟩,si_slot.lookup,h⟩)
section
variable {prog:Program} {w:World} {A:Around} {E:Value->Shared->Prop} {s:Shared}
abbrev Zlb (ord:Array (Int×Value)) (i:Nat) (v:Value):Prop:=∃ e,ord[i]?=some e/\v=e.2
theorem ZoW (hh:A.handled=none) {es:Array (Int×Value)} {t:SetTable} {ps:List Nat} (hJT:T≠J) (hJa:a≠J) (hps:ps.length=n) (hlt:∀ p∈ps,p<es.size) :
  Walks prog w A J [J,T,a] [J] n (Zlb (ps.map fun p=>es.getD p (0,.none)).toArray) (fun i h=>Zcs h J (.ref T) i a n ep/\(∃ oT m,h.get? T=some oT/\oT.data= .seq (ps.map fun p:Nat=>Value.int (p:Int) 0).toArray m)/\SeesS h a o es ep t n) where
 sub:=fun b hb=>by rw[Qm.mp hb];simp
 frame:=fun i h h' ⟨s1,⟨oT,m,g,d⟩,s3⟩ k=>⟨k J (by simp) _ s1,⟨oT,m,k T (by simp) _ g,d⟩,s3.keep fun o e=>k a (by simp) o e⟩
 item:=fun i s Q E hi ⟨s1,⟨oT,m,g,d⟩,s3⟩ q=>by
  have hi':i<ps.length:=by omega
  have hp:(ps.map fun p:Nat=>Value.int (p:Int) 0).toArray[i]?=some (.int (ps[i]:Nat) 0):=by simp[hi']
  have hpe:ps[i]<es.size:=hlt _ (QF hi');have hx:es[ps[i]]?=some (es[ps[i]].1,es[ps[i]].2):=by rw[QX hpe]
  unfold pyNext;refine wpAny_bind (wpAny_attempt (wpAny_callSpecial?_slot (name:=Str.ofString "__next__") ⟨_,s1,rfl⟩ si_slot (wpAny_call_entry si_slot ⟨_,s1,rfl⟩ Xm (Zjq s1 s3 g d hp hx fun g1 h1 sb=>wpAny_pure (q _ g1 s.toks ?_ ?_ ?_)) (Jd _))))
  ·refine⟨es[ps[i]],?_,rfl⟩;simp[hi',hpe]
  ·exact⟨h1,⟨oT,m,sb.extBut _ _ hJT g,d⟩,s3.keep fun o e=>sb.extBut _ _ hJa e⟩
  ·exact fun b o hb e=>sb.extBut _ _ (fun z=>hb (by simp[z])) e
 done:=fun s Q E ⟨s1,⟨oT,m,g,d⟩,s3⟩ q=>by
  unfold pyNext;refine wpAny_bind (wpAny_attempt (wpAny_callSpecial?_slot (name:=Str.ofString "__next__") ⟨_,s1,rfl⟩ si_slot (wpAny_call_entry si_slot ⟨_,s1,rfl⟩ Xm (ZlV hh s1 s3 g d (by simp[hps]) fun g1 e k ⟨oe,ge,ce⟩=>?_) (Jd _))));exact wpAny_bind (wpAny_isInstance (T:="StopIteration") (b:=true) ⟨oe,ge,ce⟩ isSubtype_stop (wpAny_pure (q g1 s.toks fun b o hb z=>k b o (fun y=>hb (by simp[y])) z)))
 self:=fun i s Q E ⟨s1,_⟩ q=>ZdO s1 q
theorem ZoU (hh:A.handled=none) (hb:byT w=true) {es:Array (Int×Value)} {t:SetTable} (hJa:a≠J) (hn:es.size=n) :
  Walks prog w A J [J,a] [J] n (Zlb (pickOrder (w.params.setOrder a ep) es)) (fun i h=>Zcs h J (.int 0 0) i a n ep/\SeesS h a o es ep t n) where
 sub:=fun b hb=>by rw[Qm.mp hb];simp
 frame:=fun i h h' ⟨s1,s3⟩ k=>⟨k J (by simp) _ s1,s3.keep fun o e=>k a (by simp) o e⟩
 item:=fun i s Q E hi ⟨s1,s3⟩ q=>by
  have hsz:(pickOrder (w.params.setOrder a ep) es).size=n:=by rw[←QC,(Zag _ es).length_eq,QC,hn]
  have hx:(pickOrder (w.params.setOrder a ep) es)[i]?=some ((pickOrder (w.params.setOrder a ep) es)[i]'(by omega)):=QX (by omega);unfold pyNext;refine wpAny_bind (wpAny_attempt (wpAny_callSpecial?_slot (name:=Str.ofString "__next__") ⟨_,s1,rfl⟩ si_slot (wpAny_call_entry si_slot ⟨_,s1,rfl⟩ Xm (Zjo hb s1 s3 hx fun g1 h1 sb=>wpAny_pure (q _ g1 s.toks ⟨_,hx,rfl⟩ ⟨h1,s3.keep fun o e=>sb.extBut _ _ hJa e⟩ fun b o hb e=>sb.extBut _ _ (fun z=>hb (by simp[z])) e)) (Jd _))))
 done:=fun s Q E ⟨s1,s3⟩ q=>by
  have hsz:(pickOrder (w.params.setOrder a ep) es).size=n:=by rw[←QC,(Zag _ es).length_eq,QC,hn]
  unfold pyNext;refine wpAny_bind (wpAny_attempt (wpAny_callSpecial?_slot (name:=Str.ofString "__next__") ⟨_,s1,rfl⟩ si_slot (wpAny_call_entry si_slot ⟨_,s1,rfl⟩ Xm (ZlT hh hb s1 s3 (Uj (by omega)) fun g1 e k ⟨oe,ge,ce⟩=>?_) (Jd _))));exact wpAny_bind (wpAny_isInstance (T:="StopIteration") (b:=true) ⟨oe,ge,ce⟩ isSubtype_stop (wpAny_pure (q g1 s.toks fun b o hb z=>k b o (fun y=>hb (by simp[y])) z)))
 self:=fun i s Q E ⟨s1,_⟩ q=>ZdO s1 q
theorem ZoV (hh:A.handled=none) (hb:byT w=false) {es:Array (Int×Value)} {t:SetTable} (hJa:a≠J) (hn:es.size=n) (h1:n<=1) (led:t.led=true) (hf:t.fits es.size=true) :
  Walks prog w A J [J,a] [J] n (Zlb es) (fun i h=>(∃ sl:Nat,Zcs h J (.int (sl:Int) 0) i a n ep/\(i<n->sl=0)/\(i=n->es[SetTable.below t.place sl]?=none))/\SeesS h a o es ep t n) where
 sub:=fun b hb=>by rw[Qm.mp hb];simp
 frame:=fun i h h' ⟨⟨sl,s1,s2⟩,s3⟩ k=>⟨⟨sl,k J (by simp) _ s1,s2⟩,s3.keep fun o e=>k a (by simp) o e⟩
 item:=fun i s Q E hi ⟨⟨sl,s1,s2,_⟩,s3⟩ q=>by
  have hn1:n=1:=by omega
  have hi0:i=0:=by omega
  subst hi0;have hsl:=s2 hi;subst hsl;subst hn1;have hpz:t.place.size=1:=by
   simp only[SetTable.fits,QP,beq_iff_eq]at hf;omega
  obtain⟨j,hj⟩:∃ j,t.place= #[j]:=by
   generalize t.place=pl at hpz;obtain⟨l⟩:=pl;match l,hpz with
   | [j],_=>exact⟨j,rfl⟩
  have hx:es[0]?=some es[0]:=QX (by omega);unfold pyNext;refine wpAny_bind (wpAny_attempt (wpAny_callSpecial?_slot (name:=Str.ofString "__next__") ⟨_,s1,rfl⟩ si_slot (wpAny_call_entry si_slot ⟨_,s1,rfl⟩ Xm (Zjp hb led s1 s3 hj hx fun g1 hg1 sb=>wpAny_pure (q _ g1 s.toks ⟨_,hx,rfl⟩ ⟨⟨j+1,hg1,fun z=>absurd z (by omega),fun _=>?_⟩,s3.keep fun o e=>sb.extBut _ _ hJa e⟩ fun b o hb e=>sb.extBut _ _ (fun z=>hb (by simp[z])) e)) (Jd _))));have hbw:SetTable.below t.place (j+1)=1:=by
   rw[hj];unfold SetTable.below;show SetTable.below.go #[j] (j+1) 1 0 1=1;unfold SetTable.below.go;rw[if_pos (by omega)];dsimp only;rw[if_pos (by simp)];rfl
  rw[hbw];exact Uj (by omega)
 done:=fun s Q E ⟨⟨sl,s1,_,s2⟩,s3⟩ q=>by
  unfold pyNext;refine wpAny_bind (wpAny_attempt (wpAny_callSpecial?_slot (name:=Str.ofString "__next__") ⟨_,s1,rfl⟩ si_slot (wpAny_call_entry si_slot ⟨_,s1,rfl⟩ Xm (ZlU hh hb led s1 s3 h1 (s2 rfl) fun g1 e k ⟨oe,ge,ce⟩=>?_) (Jd _))));exact wpAny_bind (wpAny_isInstance (T:="StopIteration") (b:=true) ⟨oe,ge,ce⟩ isSubtype_stop (wpAny_pure (q g1 s.toks fun b o hb z=>k b o (fun y=>hb (by simp[y])) z)))
 self:=fun i s Q E ⟨⟨sl,s1,_⟩,_⟩ q=>ZdO s1 q
end
section
variable {prog:Program} {w:World} {A:Around} {E:Value->Shared->Prop} {s:Shared}
theorem range_getD {es:Array (Int×Value)} {ps:List Nat} (h:ps.Perm (Qs es.size)):(ps.map fun p=>es.getD p (0,.none)).Perm es.toList:=by
 have h1:=h.map fun p=>es.getD p (0,.none);have h2:((Qs es.size).map fun p=>es.getD p (0,.none))=es.toList:=by
  apply QT;intro i;rw[Qk];by_cases hi:i<es.size
  ·rw[Q0 hi,Wl,QX hi];simp[hi]
  ·rw[Ql (by simp;omega),Ql (by simp;omega)];rfl
 rw[h2]at h1;exact h1
theorem Zj9 {A':Around} {es:Array (Int×Value)} {t:SetTable} (hh:A'.handled=none) (S:StT prog w s.heap a ks o es ep t) (hz:ks.length<=1000)
  (q:∀ (J:Addr) (h1:Heap) (d:Drawn) (ord:Array (Int×Value)) (fp:List Addr) (St:Nat->Heap->Prop),ord.toList.Perm es.toList->Walks prog w A' J fp [J] ks.length (Zlb ord) St->St 0 h1->(∀ b∈fp,b=a\/s.heap.objs.size<=b)->s.heap.objs.size<=J ->
   (∀ b u,s.heap.get? b=some u->h1.get? b=some u)->Q (.ref J) {s with heap:=h1,drawn:=d}):wpAny (model prog w) A (pyIter (.ref a)) Q E s:=by
 have hT:s.TypeIs (.ref a) "set":=⟨o,S.ob,S.ex.1⟩
 have V:SeesS s.heap a o es ep t ks.length:=⟨S.ob,S.dt,S.fits,S.len⟩
 have ha:a<s.heap.objs.size:=Qw S.ob;have es0:s={s with heap:=s.heap,drawn:=s.drawn}:=by cases s;rfl
 refine wpAny_pyIter_slot hT PySem.F.slot_set_iter (wpAny_call_entry PySem.F.slot_set_iter hT Zjk ?_ (PySem.F.args_set_iter_1 _));unfold Builtin.«frozenset.__iter__»;refine(show wpAny _ _ (Builtin.Frozenset.sizeOf a >>= _) _ _ s from wpAny_bind ?_);unfold Builtin.Frozenset.sizeOf;refine wpAny_bind (wpAny_setEntries_of V.ob V.dt V.fits (wpAny_pure ?_));dsimp only;unfold setDrawn setsByText;refine wpAny_bind (wpAny_bind (Yt V ?_));dsimp only;refine wpAny_bind (wpAny_bind (wpAny_askSetting (wpAny_pure (wpAny_pure ?_))));have lift1:∀ (x:Bool) (h:x=(!byT w&&(!t.plain&&decide (es.size>1)))),x=(!(model prog w).w.params.followText "set-order" && (!t.plain&&decide (es.size>1))):=fun x h=>h;by_cases c:(!byT w&&(!t.plain&&decide (es.size>1)))=true
 ·refine(show wpAny (model prog w) _ (if (!byT w&&(!t.plain&&decide (es.size>1)))=true then _ else _) _ _ s from ?_);rw[if_pos c];refine wpAny_bind (Zdk es.size (Qs es.size) s (by simp) fun ps d hp=>?_);have hpl:ps.length=ks.length:=by rw[hp.length_eq,Q4,S.len]
  refine wpAny_bind (wpAny_newTuple ?_ (by rw[Qc];exact J9 (by omega)));have V1:SeesS (s.heap.push {cls:=.type "tuple",data:=.seq (ps.map fun i:Nat=>rawInt i).toArray}) a o es ep t ks.length:=V.keep fun o e=>Qh _ e;refine wpAny_bind ?_;unfold setEpoch;refine wpAny_bind (Yt (s:={s with heap:=s.heap.push {cls:=.type "tuple",data:=.seq (ps.map fun i:Nat=>rawInt i).toArray},drawn:=d}) V1 (wpAny_pure ?_));refine wpAny_bind (wpAny_newObj_type (wpAny_pure ⟨_,rfl,"set_iterator",_,⟨_,Qz _ rfl,rfl⟩,si_slot.lookup,?_⟩));have hsz:(s.heap.push {cls:=.type "tuple",data:=.seq (ps.map fun i:Nat=>rawInt i).toArray}).objs.size=s.heap.objs.size+1:=WK ..;refine q _ _ d (ps.map fun p=>es.getD p (0,.none)).toArray [_,s.heap.objs.size,a] _ (range_getD hp) (ZoW hh (T:=s.heap.objs.size) (a:=a) (ep:=ep) (o:=o) (es:=es) (t:=t) (by rw[hsz];exact QD (WF _)) (by rw[hsz];exact QD (Ua ha)) hpl fun p hpm=>QM.mp (hp.mem_iff.mp hpm)) ⟨?_,⟨_,_,Qh _ (Qz _ rfl),rfl⟩,V1.keep fun o e=>Qh _ e⟩ ?_ (by rw[hsz];exact Ux _) fun b u e=>Qh _ (Qh _ e)
  ·unfold Zcs;rw[Qz _ rfl,S.len];rfl
  ·intro b hb;rcases Qx.mp hb with z | z
   ·rw[z,hsz];exact .inr (Ux _)
   ·rcases Qx.mp z with z | z
    ·rw[z];exact .inr (Qi _)
    ·exact .inl (Qm.mp z)
 ·refine(show wpAny (model prog w) _ (if (!byT w&&(!t.plain&&decide (es.size>1)))=true then _ else _) _ _ s from ?_);rw[if_neg c];refine wpAny_bind (wpAny_pure (wpAny_bind ?_));unfold setEpoch;refine wpAny_bind (Yt V (wpAny_pure ?_));refine wpAny_bind (wpAny_newObj_type (wpAny_pure ⟨_,rfl,"set_iterator",_,⟨_,Qz _ rfl,rfl⟩,si_slot.lookup,?_⟩));have fpk:∀ b∈[s.heap.objs.size,a],b=a\/s.heap.objs.size<=b:=fun b hb=>by
   rcases Qx.mp hb with z | z
   ·rw[z];exact .inr (Qi _)
   ·exact .inl (Qm.mp z)
  have gJ:Zcs (s.heap.push {cls:=.type "set_iterator",data:=.fields #[rawInt 0,rawInt 0,.ref a,rawInt es.size,rawInt ep]}) s.heap.objs.size (.int 0 0) 0 a ks.length ep:=by
   unfold Zcs;rw[Qz _ rfl,S.len];rfl
  by_cases hb:byT w=true
  ·exact q _ _ s.drawn _ [s.heap.objs.size,a] _ (Zag _ es) (ZoU hh hb (o:=o) (t:=t) (QD ha) S.len) ⟨gJ,V.keep fun o e=>Qh _ e⟩ fpk (Qi _) fun b u e=>Qh _ e
  ·have hb':byT w=false:=by simpa using hb
   have led:t.led=true:=by rw[S.led,hb'];rfl
   have h1:ks.length<=1:=by
    rcases Nat.lt_or_ge 1 ks.length with z | z
    ·have hpf:=S.plain (fun e=>by rw[e]at z;simp at z);exact absurd (by rw[hb',hpf,S.len];simp;omega) c
    ·exact z
   refine q _ _ s.drawn es [s.heap.objs.size,a] _ (List.Perm.refl _) (ZoV hh hb' (o:=o) (t:=t) (ep:=ep) (QD ha) S.len h1 led S.fits) ⟨⟨0,gJ,fun _=>rfl,fun z=>?_⟩,V.keep fun o e=>Qh _ e⟩ fpk (Qi _) fun b u e=>Qh _ e;have:es.size=0:=by rw[S.len];exact z.symm
   exact Uj (by omega)
end
theorem ZhZ:∀ {ks xs:List Str},ks.Nodup->(∀ x∈ks,x∈xs)->xs.length=ks.length->xs.Perm ks
 | [],xs,_,_,hl=>by rw[Wo.mp hl]
 | k::ks,xs,nd,hs,hl=>by
  have nd':=QW.mp nd;have hk:=hs k (Qd ..);have p:=Rq hk;refine p.trans (List.Perm.cons k (ZhZ nd'.2 (fun x hx=>?_) ?_))
  ·have hne:x≠k:=fun e=>nd'.1 (e▸hx);exact(Wz hne).mpr (hs x (Qg _ hx))
  ·rw[Wm hk,hl];rfl
section
variable {prog:Program} {w:World} {A:Around} {E:Value->Shared->Prop} {s:Shared}
theorem Zkd {r:Addr} {Q:Bool->Shared->Prop} (hT:s.TypeIs (.ref r) "set") (q:Q false s):wpAny (model prog w) A (Builtin.List.listLengthHint (.ref r)) Q E s:=by
 unfold Builtin.List.listLengthHint;refine wpAny_bind (wpAny_specialOf hT PySem.F.slot_set_len.lookup ?_);generalize hid:("set.__len__" : String)=nm
 wp_delta
 rw[show splitId nm=some ("set","__len__")from by subst hid;decide +kernel];subst hid;refine wpAny_bind (wpAny_isInstance (T:="set") (b:=true) hT (by rw[isSubtype_type];kernel_rfl) ?_);refine wpAny_ite_split (fun z=>absurd z (by decide)) fun _=>wpAny_ite_split (fun _=>?_) fun z=>absurd (by decide +kernel) z;exact wpAny_bind (wpAny_typeOf hT (wpAny_pure q))
theorem Zgc {R:Result->Shared->Prop} {S:Addr} {es:Array (Int×Value)} {t:SetTable} {c₀:Nat} {res:Value} (hh:A.handled=none) (T:StT prog w s.heap a ks o es ep t) (hz:ks.length<=1000) (hSa:S≠a) (hS:s.heap.get? S=some {cls:=.type "list",data:=.seq #[] c₀})
  (q:∀ h1 tk d acc c (ord:Array (Int×Value)),ord.toList.Perm es.toList->(∀ b u,b≠S->s.heap.get? b=some u->h1.get? b=some u)->h1.get? S=some {cls:=.type "list",dict:=none,data:=.seq acc c,slots:=#[]}->ItemsOf (Zlb ord) acc ks.length->R (.ok (.ret res)) {s with heap:=h1,toks:=tk,drawn:=d}) :
  wpAny (model prog w) A.in1 (Builtin.List.listExtendWith (.ref S) (.ref a) res) (fun fin s'=>match fin with | .done f=>R (.ok f) s' | .again c'=>c'.quiet=true/\codeAny (model prog w) A c' R s') (fun e s'=>R (.error e) s') s:=by
 have hT:s.TypeIs (.ref a) "set":=⟨o,T.ob,T.ex.1⟩
 have hSl:S<s.heap.objs.size:=Qw hS;unfold Builtin.List.listExtendWith;refine wpAny_bind (wpAny_typeOf (T:="set") hT ?_);have h1:Builtin.List.listSameRef (.ref S) (.ref a)=false:=by simp[Builtin.List.listSameRef,hSa]
 have n1:(Value.type "set" == Value.type "list")=false:=by decide
 have n2:(Value.type "set" == Value.type "tuple")=false:=by decide
 simp only[h1,n1,n2,Vi,Wf,if_false];refine wpAny_bind (Zj9 (A':=A.in1) hh T hz fun J g d ord fp St hp W st hfp hJ kk=>?_);have gS:=kk _ _ hS;have nf:S∉fp:=fun z=>by
  rcases hfp S z with y | y
  ·exact hSa y
  ·exact absurd hSl (Nat.not_lt.mpr y)
 have key:∀ (h:Heap) (c₁ tk:Nat),St 0 h->(∀ b u,b≠S->s.heap.get? b=some u->h.get? b=some u)->h.get? S=some {cls:=.type "list",data:=.seq #[] c₁}->codeAny (model prog w) A (.builtin "list.extend.loop" ⟨[.ref S,.ref J,res],[]⟩) R {s with heap:=h,toks:=tk,drawn:=d}:=by
  intro h c₁ tk hst hk hS₁;refine codeAny_extend_loopS W.toS (J9 hz) S nf res ks.length 0 _ #[] c₁ rfl (QL _) hst hS₁ (ItemsOf.nil _) fun s2 acc c mv hS2 hacc=>?_;rw[Moved.eq_with mv];refine q s2.heap s2.toks d acc c ord hp (fun b u hb e=>mv.heap b u (fun z=>?_) (hk b u hb e)) hS2 hacc;rcases Qx.mp z with y | y
  ·exact hb y
  ·exact absurd (Qw e) (by rw[Qm.mp y];exact Nat.not_lt.mpr hJ)
 refine wpAny_bind (wpAny_holding (Zkd (s:={s with heap:=g,drawn:=d}) ⟨o,kk _ _ T.ob,T.ex.1⟩ ?_));refine wpAny_ite_split (fun _=>?_) (fun _=>wpAny_pure ⟨plainId_quiet PySem.F.plain_extend_loop _,key _ c₀ _ st (fun b u _ e=>kk b u e) gS⟩);refine wpAny_bind (wpAny_rule (wpAny_bind ?_));refine(show wpAny _ _ (updateSeq S (·.push .none) >>= fun _=>updateSeq S (·.pop)) _ _ _ from wpAny_bind (wpAny_updateSeq gS rfl ?_));have g2:=Uo (Obj.mapSeq (·.push Value.none)) gS rfl;refine wpAny_updateSeq (hz:=by seq_fits) g2 rfl ?_;have g3:=Uo (Obj.mapSeq (·.pop)) g2 rfl;refine wpAny_pure ⟨plainId_quiet PySem.F.plain_extend_loop _,key _ _ _ (W.frame 0 _ _ st fun b hb u e=>?_) (fun b u hb e=>?_) g3⟩
 ·have ne:b≠S:=fun z=>nf (z▸hb);exact(Wa _ _ (Ne.symm ne)).trans ((Wa _ _ (Ne.symm ne)).trans e)
 ·exact(Wa _ _ (Ne.symm hb)).trans ((Wa _ _ (Ne.symm hb)).trans (kk _ _ e))
theorem Zeo {R:List Value->Shared->Prop} {es:Array (Int×Value)} {t:SetTable} (hh:A.handled=none) (T:StT prog w s.heap a ks o es ep t) (hz:ks.length<=1000)
  (q:∀ h1 tk d (acc:Array Value) (ord:Array (Int×Value)),ord.toList.Perm es.toList->(∀ b u,s.heap.get? b=some u->h1.get? b=some u)->ItemsOf (Zlb ord) acc ks.length->R acc.toList {s with heap:=h1,toks:=tk,drawn:=d}) :
  wpAny (model prog w) A (collect (.ref a)) R E s:=by
 have ha:a<s.heap.objs.size:=Qw T.ob;unfold collect;refine wpAny_bind (wpAny_runValue (codeAny_builtin entry_proto_collect' ?_));rw[Around.under_plainId PySem.F.plain_proto_collect _];refine(show wpAny _ A.in1 (newList [] >>= fun l=>again (.builtin "list.__iadd__" ⟨[l,.ref a],[]⟩)) _ _ s from wpAny_bind (wpAny_newObj_type (wpAny_pure ⟨plainId_quiet PySem.F.plain_list_iadd _,codeAny_builtin entry_list_iadd' ?_⟩)));rw[Around.under_plainId PySem.F.plain_list_iadd _];have gS:(s.heap.push {cls:=.type "list",data:=.seq ([]:List Value).toArray}).get? s.heap.objs.size=some {cls:=.type "list",data:=.seq #[]}:=Qz _ rfl;show wpAny _ A.in1 (Builtin.List.listExtendWith (.ref s.heap.objs.size) (.ref a) (.ref s.heap.objs.size)) _ _ _;have T1:StT prog w (s.heap.push {cls:=.type "list",data:=.seq ([]:List Value).toArray}) a ks o es ep t:={T with ob:=Qh _ T.ob}
 have key:=Zgc (A:=A) (s:={s with heap:=s.heap.push {cls:=.type "list",data:=.seq ([]:List Value).toArray}})
  (R:=fun(z:Result) (s':Shared)=>∃ (g:Heap) (tk:Nat) (d:Drawn) (acc:Array Value) (c:Nat) (ord:Array (Int×Value)),z= .ok (.ret (.ref s.heap.objs.size))/\s'={s with heap:=g,toks:=tk,drawn:=d}/\ord.toList.Perm es.toList /\
   (∀ b u,s.heap.get? b=some u->g.get? b=some u)/\g.get? s.heap.objs.size=some {cls:=.type "list",dict:=none,data:=.seq acc c,slots:=#[]}/\ItemsOf (Zlb ord) acc ks.length)
  (S:=s.heap.objs.size) (res:=.ref s.heap.objs.size) (c₀:=0) hh T1 hz (U7 ha) gS (fun g tk d acc c ord hp kk gS2 hacc=>⟨g,tk,d,acc,c,ord,rfl,rfl,hp,fun b u e=>kk b u (QD (Qw e)) (Qh _ e),gS2,hacc⟩)
 refine wpAny_mono key (fun fin s' x=>?_) fun e s' x=>?_
 ·cases fin with
  | done f =>
   obtain⟨g,tk,d,acc,c,ord,e,rfl,hp,kk,gS2,hacc⟩:=x;cases e;exact(show wpAny _ A (load s.heap.objs.size >>= _) _ _ _ from wpAny_bind (wpAny_load gS2 (wpAny_pure (q g tk d acc ord hp kk hacc))))
  | again c1 =>
   refine⟨x.1,codeAny_mono x.2 fun z s2 y=>?_⟩;obtain⟨g,tk,d,acc,c,ord,rfl,rfl,hp,kk,gS2,hacc⟩:=y;exact(show wpAny _ A (load s.heap.objs.size >>= _) _ _ _ from wpAny_bind (wpAny_load gS2 (wpAny_pure (q g tk d acc ord hp kk hacc))))
 ·obtain⟨_,_,_,_,_,_,z,_⟩:=x;cases z
theorem Zg4 {es:Array (Int×Value)} {t:SetTable} (T:StT prog w h a ks o es ep t) {ord:Array (Int×Value)} (hp:ord.toList.Perm es.toList) {acc:Array Value} (hacc:ItemsOf (Zlb ord) acc ks.length) :
  ∃ xs:List Str,xs.Perm ks/\StrsAre acc.toList xs:=by
 have hol:ord.toList.length=ks.length:=by rw[hp.length_eq,QC,T.len]
 have el:∀ e∈ord.toList,∃ x tk,e.2= .str x tk/\x∈ks:=fun e he=>by
  have hm:=hp.mem_iff.mp he;obtain⟨⟨k,hk,_⟩,_⟩:=T.el e hm;obtain⟨x,ek,hx⟩:=(T.mem k).mpr ⟨e,hm,hk⟩;subst ek;rcases keyIs_shape (show Zav (Sum.inr x) e.2=true from hk)with ⟨j,t,e4,_⟩ | ⟨z,t,e4,e5⟩
  ·cases e4
  ·injection e4 with e4
   exact⟨x,t,by rw[e5,e4],hx⟩
 have key:∀ (l:List (Int×Value)),(∀ e∈l,∃ x tk,e.2= .str x tk/\x∈ks)->∃ xs:List Str,StrsAre (l.map (·.2)) xs/\(∀ x∈xs,x∈ks)/\xs.length=l.length/\∀ x,(∃ e∈l,Zav (Sum.inr x) e.2=true)->x∈xs:=by
  intro l;induction l with
  | nil=>exact fun _=>⟨[],.nil,(fun x hx=>by cases hx),rfl,(fun x ⟨e,he,_⟩=>by cases he)⟩
  | cons e l ih =>
   intro hl;obtain⟨xs,h1,h2,h3,h4⟩:=ih fun e he=>hl e (Qg _ he);obtain⟨x,tk,ex,hx⟩:=hl e (Qd ..);refine⟨x::xs,?_,fun y hy=>?_,by simp[h3],fun y ⟨e',he',hk⟩=>?_⟩
   ·rw[Qj,ex];exact .cons x tk h1
   ·rcases Qx.mp hy with z | z
    ·rw[z];exact hx
    ·exact h2 y z
   ·rcases Qx.mp he' with z | z
    ·subst z;rw[ex]at hk;rcases keyIs_shape hk with ⟨j,t,e4,_⟩ | ⟨z,t,e4,e5⟩
     ·cases e4
     ·injection e4 with e4
      injection e5 with e5 _
      rw[e4,←e5];exact Qd ..
    ·exact Qg _ (h4 y ⟨e',z,hk⟩)
 obtain⟨xs,h1,h2,h3,h4⟩:=key ord.toList el;have hsub:∀ x∈ks,x∈xs:=fun x hx=>by
  obtain⟨e,he,hk⟩:=(T.mem (Sum.inr x)).mp ⟨x,rfl,hx⟩;exact h4 x ⟨e,hp.mem_iff.mpr he,hk⟩
 refine⟨xs,?_,?_⟩
 ·exact ZhZ T.nd hsub (by omega)
 ·have:acc.toList=ord.toList.map (·.2):=by
   apply QT;intro i;by_cases hi:i<acc.toList.length
   ·obtain⟨e,e1,e2⟩:=hacc.2 i acc.toList[i] (by rw[←Wl];exact Qa hi);rw[Qa hi,Qk,Wl,e1,e2];rfl
   ·have hl:=hacc.1;rw[←QC]at hl;rw[Ql (by omega),Ql (by rw[Qc];omega)]
  rw[this];exact h1
end
section
variable {X:Cx} {pins:List (Addr×Obj)} {σ:St} {H:Hp} {s:Shared}
theorem Inv.drw (I:Inv X pins σ H s) (d:Drawn):Inv X pins σ H {s with drawn:=d}:=by
 refine I.step (h':=s.heap) (t':=s.toks) (g':=s.gens) (d':=d) (ch:=[]) (fun b hb=>by cases hb) (fun b u _ _ _ e _=>e) (fun b u _ _ _ e _=>⟨u.slots,e⟩) (fun b u _ e n=>n) (fun b u _ e=>⟨u,e⟩) (fun b xs e=>e) (fun b u xs e=>e) (fun b ps e=>⟨#[],by rw[e];simp⟩) (fun m hm=>hm) I.hok I.bare
end
def stO (X:Cx) (p:Addr) (ks:List Str):HO:=.ext fun h=>SetT X.prog X.w h p ks
theorem ZiY {X:Cx} (hc:X.calm=true):CallR X (.type "set") (fun xs H Q=>∃ (a:Addr) (ss:List Str),xs=[.ref a]/\SqL X.K H a (ss.map V.str)/\ss.length<=1000 /\
  ∀ (p:Addr) (ks:List Str),H p=none->ks.Nodup->(∀ x,x∈ks↔x∈ss)->ks.length<=ss.length->Q (.ref p) (upd H p (stO X p ks))):=by
 intro pins s σ H xs us Q I r h;obtain⟨a,ss,rfl,hq,h1k,q⟩:=h;obtain⟨u,rfl,ru⟩:=YT r;cases ru;obtain⟨its,rv,pl,hz⟩:=I.list hq;have hl:=rv.length;rw[Qc]at hl;refine ZiX (I.ok.hd hc) pl.isList (by simpa using Ja rv) (by rw[Qu];show its.length+1<4096;omega) fun h1 tk hS kk=>?_;have ez:its.toArray.size=ss.length:=by rw[Qu,hl]
 rw[ez]at hS;have hn:H s.heap.objs.size=none:=I.hok.fresh (Qi _);obtain⟨o,es,ep,t,T⟩:=id hS;refine⟨.ref s.heap.objs.size,_,I.laid (t':=tk) (o:=stO X s.heap.objs.size _) kk (Qi _) ⟨hS,⟨o,T.ob⟩,fun g1 g2 z k=>z.keep k⟩,rfl,q _ _ hn T.nd (fun x=>?_) (Zeg _ _)⟩;rw[Zia];constructor
 ·rintro⟨j,hj,e⟩;rw[←e,Qb,Qa hj];exact QF hj
 ·intro hx;obtain⟨j,hj,e⟩:=WP hx;exact⟨j,hj,by rw[Qb,Qa hj];exact e⟩
end L2
namespace Sh
open PySem L2 PyProof.Rows
seal L2.PE L2.PS L2.PSs L2.PT L2.PW L2.PA L2.PI L2.PG L2.PGs L2.PO L2.PC L2.PCs L2.OpR L2.UnR L2.CallR L2.MtR L2.IxR L2.SlR
variable {P:Program} {w:World} {K:PySem.W.Frag} {mg:Str->Option Value} {base:Heap}
theorem JU (g:Str->V) (y:Str):∀ ks:List Str,Xx (ks.map fun x=>((Sum.inr x:Key),g x)) (Sum.inr y)=if y∈ks then some (g y)else none
 | []=>rfl
 | x::ks=>by
  have ih:=JU g y ks;by_cases e:x=y
  ·subst e;rw[Qj,JK rfl,if_pos Qd]
  ·rw[Qj,JL (fun q=>e (Sum.inr.inj q)),ih];have:(y∈x::ks)↔y∈ks:=by
    rw[Qx];exact⟨fun h=>h.elim (fun q=>absurd q.symm e) id,.inr⟩
   simp only[this]
theorem Za4 (g:Str->V) (y:Str) (v:V) (ks:List Str) (h:y∈ks):X8 (ks.map fun x=>((Sum.inr x:Key),g x)) (Sum.inr y) v=ks.map fun x=>((Sum.inr x:Key),if x=y then v else g x):=by
 unfold X8;rw[JM,JU,if_pos h];simp only[RD,if_true,QV];apply QR;intro x _;by_cases e:x=y
 ·subst e;simp
 ·have:¬ (Sum.inr x:Key)=Sum.inr y:=fun q=>e (Sum.inr.inj q);simp[this,e]
theorem Za2:∀ {l m:List (List Nat)},l.Pairwise (· < ·)->m.Pairwise (· < ·)->(∀ x,x∈l↔x∈m)->l=m
 | [],[],_,_,_=>rfl
 | [],y::m,_,_,h=>absurd ((h y).mpr Qd) (by simp)
 | x::l,[],_,_,h=>absurd ((h x).mp Qd) (by simp)
 | x::l,y::m,hl,hm,h=>by
  have h1:=WL.mp hl;have h2:=WL.mp hm;have e:x=y:=by
   rcases Qx.mp ((h x).mp Qd)with z | z
   ·exact z
   ·rcases Qx.mp ((h y).mpr Qd)with z2 | z2
    ·exact z2.symm
    ·exact absurd (Rx (h1.1 y z2) (h2.1 x z)) (Uc _)
  subst e;have ih:=Za2 h1.2 h2.2 fun z=>by
   constructor
   ·intro hz;rcases Qx.mp ((h z).mp (Qg _ hz))with q | q
    ·subst q;exact absurd (h1.1 z hz) (Uc _)
    ·exact q
   ·intro hz;rcases Qx.mp ((h z).mpr (Qg _ hz))with q | q
    ·subst q;exact absurd (h2.1 z hz) (Uc _)
    ·exact q
  rw[ih]
def gD (ks:List Str) (g:Str->Int):List (Key×V):=ks.map fun x=>((Sum.inr x:Key),V.int (g x))
theorem XY (ks:List Str) (g:Str->Int):(gD ks g).length=ks.length:=by unfold gD;rw[Qc]
theorem JC (ks:List Str) (g:Str->Int) (y:Str):Xx (gD ks g) (Sum.inr y)=if y∈ks then some (.int (g y))else none:=JU (fun x=>V.int (g x)) y ks
theorem Zfl {ks:List Str} {g g':Str->Int} (h:∀ x∈ks,g x=g' x):gD ks g=gD ks g':=by
 unfold gD;exact QR fun x m=>by rw[h x m]
theorem Zbg (ks:List Str) (g:Str->Int) (y:Str) (n:Int):X8 (gD ks g) (Sum.inr y) (.int n)=gD (if y∈ks then ks else ks++[y]) fun x=>if x=y then n else g x:=by
 by_cases m:y∈ks
 ·rw[if_pos m];unfold gD;rw[Za4 _ _ _ _ m];apply QR;intro x _;dsimp only;by_cases e:x=y
  ·rw[if_pos e,if_pos e]
  ·rw[if_neg e,if_neg e]
 ·rw[if_neg m,ZbN _ (by rw[JC,if_neg m])];unfold gD;rw[QG,Q8];dsimp only;rw[if_pos rfl];congr 1;apply QR;intro x hx;have ne:¬ x=y:=by
   intro e;rw[e]at hx;exact m hx
  rw[if_neg ne]
theorem ZiC (ks:List Str) (g:Str->Int) (y:Str):Zdj (gD ks g) (Sum.inr y)=gD (ks.filter fun x=>decide (x≠y)) g:=by
 unfold Zdj gD;induction ks with
 | nil=>rfl
 | cons x ks ih =>
  rw[Qj,Ue,Ue,ih];by_cases e:x=y
  ·subst e;simp
  ·have h1:decide ((Sum.inr x:Key)≠Sum.inr y)=true:=decide_eq_true fun q=>e (by injection q);have h2:decide (x≠y)=true:=decide_eq_true e;rw[if_pos h1,if_pos h2,Qj]
end Sh
namespace L2
open PySem PySem.Spec PyProof.Rows
variable {X:Cx}
section
variable {prog:Program} {w:World} {A:Around} {R:Result->Shared->Prop} {it:Addr} {fp wr:List Addr} {n:Nat} {Pv:Nat->Value->Prop} {Sv:Nat->Heap->Prop}
end
theorem Zl6 {k:Key} {u:Value} (h:Zav k u=true):RelV (kV k) u:=by
 rcases keyIs_shape h with ⟨i,t,rfl,rfl⟩ | ⟨x,t,rfl,rfl⟩
 ·exact⟨t,rfl⟩
 ·exact⟨t,rfl⟩
theorem Zom {kvs:List (Key×V)} {vs:List (Key×Value)} (r:KV kvs vs):∀ {i:Nat} {p:Key×V},kvs[i]?=some p->∃ q,vs[i]?=some q/\p.1=q.1/\RelV p.2 q.2:=by
 unfold KV at r;induction r with
 | nil=>intro i p e;simp at e
 | @cons a b as bs h t ih =>
  intro i p e;cases i with
  | zero =>
   simp at e;subst e;exact⟨b,rfl,h⟩
  | succ i =>
   obtain⟨q,e2,r⟩:=ih (i:=i) (p:=p) (by simpa using e);exact⟨q,by simpa using e2,r⟩
section
variable {X:Cx} {pins:List (Addr×Obj)} {σ:St} {H H':Hp} {s s':Shared} {d:Addr} {o:Obj} {kvs kvs':List (Key×V)}
theorem Inv.frozen (I:Inv X pins σ H s) (hd:H d=some (.dK kvs)):∃ o,Inv X pins σ (upd H d (.frz o (.dK kvs))) s:=by
 have q:=I.hok d _ hd;obtain⟨z,lo,vs,kv,dd⟩:=id q;obtain⟨o,es,ep,ho,r⟩:=id dd;refine⟨o,I.write (h':=s.heap) (t':=s.toks) (x:=d) (e:=d) (by rw[hd];exact True.intro) (.inl rfl) (fun _ _ _ z=>z) ⟨o,ho⟩ ⟨ho,z,lo,vs,kv,dd⟩⟩
end
theorem Zls {pins:List (Addr×Obj)} {σ:St} {H:Hp} {s:Shared} {d:Addr} {o:Obj} {kvs:List (Key×V)} {es:Array DictEntry} {ep:Nat} (I:Inv X pins σ H s) (hd:H d=some (.frz o (.dK kvs))) (ho:o.data= .dict es ep) :
  ∃ vs,KV kvs vs/\s.heap.DictAt (Zu X.prog X.w) d vs ep/\(d==sysModules)=false:=by
 obtain⟨h1,z,lo,vs,kv,o',es',ep',h2,h3,h4,h5⟩:=I.hok d _ hd;rw[h1]at h2;cases h2;rw[ho]at h4;cases h4;exact⟨vs,kv,⟨o,es,h1,h3,ho,h5⟩,lo⟩
theorem Zle (hu:X.A.units+64<cLine):OpR X (compareOp .NotEq) (fun x y H Q=>∃ da db,RepD H da x/\RepD H db y/\SeqAt.shaped da=true/\SeqAt.shaped db=true/\Q (.bl (!PyData.eqv da db)) H):=by
 intro pins s σ H x y v u Q I rx ry h;obtain⟨da,db,r1,r2,s1,s2,q⟩:=h;obtain⟨as,q1⟩:=RepD.reads I da x v r1 rx;obtain⟨bs,q2⟩:=RepD.reads I db y u r2 ry;exact ne_dataH q1 q2 s1 s2 hu ⟨.bl _,H,I,rfl,q⟩
theorem Yh {t u:TS} {D:Zev} {σ:L2.St} {H:Hp} (I:L2.St->Hp->Prop) (h:∀ R:L2.St->Hp->Prop,(∀ σ' H',I σ' H'->R σ' H')->t {D with nx:=R} σ H) (hu:∀ σ' H',I σ' H'->u D σ' H'):ZfF t u D σ H:=h _ hu
theorem Zed:MtR X "list.pop" ZpM:=Zoh
section
variable {X:Cx} {pins:List (Addr×Obj)} {σ:St} {H:Hp} {s:Shared} {a:Addr} {kvs:List (Key×V)} {k:Key} {u:Value} {A:Around} {E:Value->Shared->Prop}
theorem ZoB {z:V} {r:Value} {Q:Value->Shared->Prop} (I:Inv X pins σ H s) (e:H a=some (.dK kvs)) (ry:RelV (kV k) u) (rz:RelV z r) (hl:kvs.length<sizeLine) (h1:∀ v w' s',Xx kvs k=some v->RelV v w'->Inv X pins σ H s'->Q w' s')
  (h2:Xx kvs k=none->∀ s',Inv X pins σ (upd H a (.dK (X8 kvs k z))) s'->Q r s'):wpAny (model X.prog X.w) A (call (.builtin "dict.setdefault") [.ref a,u,r]) Q E s:=by
 obtain⟨zz,hd,vs,rel,dd⟩:=ZaE I.hok e;refine call_meetsIn PySem.F.slot_dict_setdefault dd.typeIs PySem.F.entry_dict_setdefault (PySem.F.args_dict_setdefault_3 _ _ _) (kt_meets_setdefault (Zu X.prog X.w) a (ZaV ry) hd r) ⟨vs,dd,by rw[←rel.length];exact zz,fun v hv=>?_,fun hn h' dd' hs=>?_⟩
 ·have q:=rel.val k;rw[hv]at q;cases l:Xx kvs k with
  | none=>rw[l]at q;exact(show False from q).elim
  | some v'=>rw[l]at q;exact h1 v' v _ l q (I.tok _)
 ·have q:=rel.val k;rw[hn]at q;have hlp:(X8 kvs k z).length<=sizeLine:=by have:=YX kvs k z;omega
  have he:∃ q,h'.get? a=some q:=let ⟨q,_,_,hq,_⟩:=dd';⟨q,hq⟩;cases l:Xx kvs k with
  | none=>exact h2 l _ (Jp I (by rw[e];exact True.intro) hs he (Zdm hlp hd (rel.put k rz) dd'))
  | some v'=>rw[l]at q;exact(show False from q).elim
end
def Zo6 (td ty tx:TE):TE:=fun σ H Q=>td σ H fun x H1=>∃ a,x= .ref a/\IsD H1 a/\ty σ H1 fun y H2=>tx σ H2 fun z H3=>∃ kvs k,H3 a=some (.dK kvs)/\y=kV k/\kvs.length<sizeLine /\
 (∀ v,Xx kvs k=some v->Q v H3)/\(Xx kvs k=none->Q z (upd H3 a (.dK (X8 kvs k z))))
theorem ZdY {o e f:Expr} {apos cpos:Pos} {td ty tx:TE} (ho:PE X o td) (he:PE X e ty) (hf:PE X f tx) (m:M2 X o "setdefault" apos e f cpos):PE X (.Call (.Attribute o "setdefault" apos) [e,f] [] cpos) (Zo6 td ty tx):=by
 intro pins s σ H Q I h;refine wpAny_Call_method m.base m.few m.line PySem.F.plainAttrs_dict PySem.F.slot_dict_setdefault PySem.F.type_dict_setdefault (thn (ho pins s σ H _ I h) fun u s1 ⟨x,H1,I1,rx,a,ex,d,q1⟩=>?_);subst ex;obtain rfl:u=Value.ref a:=rx;obtain⟨t1,t2,_⟩:=Zbf I1 d;refine⟨t1,t2,?_⟩;rw[m.trees];refine Calls.callWith_builtin rfl (Calls.evalArgs_plain (Calls.spliced_cons (thn (he pins s1 σ H1 _ I1 q1) fun iv s2 ⟨y,H2,I2,ry,q2⟩ =>
  Calls.spliced_cons (thn (hf pins s2 σ H2 _ I2 q2) fun fv s3 ⟨z,H3,I3,rz,kvs,k,ea,ey,hl,q3,q4⟩=>Calls.spliced_nil ?_))))
 subst ey;exact ZoB I3 ea ry rz hl (fun v w' s4 l rw' I4=>⟨v,H3,I4,rw',q3 v l⟩) fun l s4 I4=>⟨z,_,I4,rz,q4 l⟩
open PySem PySem.Spec PyProof.Rows PySem.Builtin.Str
end L2
namespace Sh
open PySem L2 PyProof.Rows PySem.Builtin.Str
variable {P:Program} {w:World} {K:PySem.W.Frag} {mg:Str->Option Value} {base:Heap}
end Sh
namespace L2
open PySem PySem.Spec PyProof.Rows
variable {H1:Hp}
def Itk (d:Addr) (o:Obj) (kvs:List (Key×V)):It :=
 ⟨fun i H=>H d=some (.frz o (.dK kvs))/\i<kvs.length,fun i H x H'=>H'=H/\∃ p,kvs[i]?=some p/\x=kV p.1,fun i H=>H d=some (.frz o (.dK kvs))/\kvs.length<=i⟩
theorem Zgr {P:Program} {w:World} {K:PySem.W.Frag} {tg:Expr} (d it:Addr) (o:Obj) (kvs:List (Key×V)) {es:Array DictEntry} {ep:Nat} (hod:o.data= .dict es ep) :
  ZkE P w K tg (Itk d o kvs) [it] it (fun i h=>h.IsKeyIter it d i kvs.length ep) where
 mem:=by simp
 obj:=fun i h he c hc=>by
  have hc:=Qm.mp hc;subst hc;obtain⟨ob,g1,g2,g3⟩:=he;exact⟨ob,g1,fun v z=>by rw[g3]at z;cases z⟩
 keep:=fun i h h' he kk=>he.at fun ob e=>kk it (by simp) ob e
 item:=by
  intro X hP hw hK hc i pins s σ H E I hf he hg;subst hP hw hK;obtain⟨hd,hi⟩:=hg;obtain⟨vs,kv,da,lo⟩:=Zls I hd hod;obtain⟨p,hp⟩:∃ p,kvs[i]?=some p:=⟨_,Qa hi⟩
  obtain⟨q,hq,e1,e2⟩:=Zom kv hp;obtain⟨f0,f1,f2,f3,f4,f5⟩:=hf it (by simp);have he':s.heap.IsKeyIter it d i vs.length ep:=by rw[←kv.length];exact he
  refine wpAny_pyNext_dict_item (k:=q.1) he' da hq fun key h1 hkey hit1 sb=>?_;have I1:Inv X pins σ H {s with heap:=h1}:=I.turned (t':=s.toks) (fun b u hb e=>(sb.2 b hb).trans e) f0 f1 f3 f4 f5;refine⟨key,rfl,letGo_keyiter hit1 ⟨kV p.1,H,I1,by rw[e1];exact Zl6 hkey,⟨rfl,p,hp,rfl⟩,by rw[kv.length];exact hit1,fun b hb=>(hf b hb).1⟩⟩
 done:=by
  intro X hP hw hK hc i pins s σ H E I hf he hg;subst hP hw hK;obtain⟨hd,hi⟩:=hg;obtain⟨vs,kv,da,lo⟩:=Zls I hd hod;obtain⟨f0,f1,f2,f3,f4,f5⟩:=hf it (by simp);have he':s.heap.IsKeyIter it d i vs.length ep:=by rw[←kv.length];exact he
  exact wpAny_pyNext_dict_end (I.ok.hd hc) he' da (Ql (by rw[←kv.length];exact hi)) fun h' eb=>⟨rfl,I.turned (t':=s.toks) (fun b u hb e=>eb b u hb e) f0 f1 f3 f4 f5⟩
 self:=fun A i s Q E he h=>wpAny_pyIter_keyiter he h
def Zpu (td:TE):TI:=fun σ H R=>td σ H fun x H1=>∃ d o kvs,x= .ref d/\H1 d=some (.frz o (.dK kvs))/\R (Itk d o kvs) H1
theorem Zmd {X:Cx} {tg ob:Expr} {td:TE} (ho:PE X ob td):PI X tg ob (Zpu td):=by
 intro pins s σ H R I h;refine thn (ho pins s σ H _ I h) fun v s1 ⟨x,H1,I1,r1,d,o,kvs,ex,hd,q1⟩=>?_;subst ex;obtain rfl:v=Value.ref d:=r1;obtain⟨g1,z,lo,vs,kv,dd⟩:=I1.hok d _ hd;obtain⟨ep,da⟩:=dd.dictAt;refine wpAny_pyIter_dict lo da ?_;obtain⟨o',es,g2,_,g3,_⟩:=id da;rw[g1]at g2;cases g2;refine⟨_,[_],_,Itk d o kvs,H1,rfl,I1.kept (t':=s1.toks) fun b u e=>Qh _ e,Zgr d s1.heap.objs.size o kvs g3,?_,fun b hb=>?_,q1⟩
 ·rw[kv.length];exact⟨_,Qz _ rfl,rfl,rfl⟩
 ·rw[Qm.mp hb];exact I1.fpOk (Qi _) (I1.hok.fresh (Qi _))
theorem ZmH {d:Addr} {o:Obj} {kvs:List (Key×V)} (hd:H1 d=some (.frz o (.dK kvs))):∀ H,Same H1 H->(∀ i,i<kvs.length->(Itk d o kvs).go i H/\∀ x H',(Itk d o kvs).yld i H x H'->H'=H/\x=(kvs.map fun p=>kV p.1).getD i .non)/\(Itk d o kvs).stop kvs.length H:=fun H s=>by
 refine⟨fun i hi=>⟨⟨s _ _ hd,hi⟩,fun x H' y=>?_⟩,⟨s _ _ hd,Qi _⟩⟩;obtain⟨e,p,hp,ex⟩:=y;refine⟨e,?_⟩;rw[ex,Qb,Qk,hp];rfl
theorem Zb7 {k:Nat} {mp:List Nat} {σ:St} {g:TG} {tc:TT} {te:TE} {J:It} {Q:VK} (n:Nat) (xs:Nat->V) (t:Nat->Bool) (R:Nat->V->Hp->Prop) (hn:n<=sizeLine)
  (hR:∀ i v H H',TSame H H'->R i v H->R i v H')
  (hJ:∀ H,Same H1 H->(∀ i,i<n->J.go i H/\∀ x H',J.yld i H x H'->H'=H/\x=xs i)/\J.stop n H)
  (step:∀ i H (Qt:VK) (Qf:Hp->Prop),i<n->Same H1 H->(t i=true->∀ v H6,Same H H6->R i v H6->Qt v H6)->(t i=false->∀ H6,Same H H6->Qf H6)->g (xs i) (lcS k mp σ) H fun σ4 H4=>tc σ4 H4 fun b H5=>if b=true then te σ4 H5 Qt else Qf H5)
  (done:∀ D vs H',vs.length=((Qs n).filter t).length->(∀ (j i:Nat) (v:V),((Qs n).filter t)[j]?=some i->vs[j]?=some v->R i v H')->Same H1 H'->H1 D=none->H' D=some (.lst vs)->Q (.ref D) H'):JB k mp σ g tc te J H1 Q:=by
 intro D hD;refine⟨fun i m acc H=>m=n-i/\i<=n/\acc.length=((Qs i).filter t).length/\Same H1 H/\H D=some (.lst acc)/\∀ (j q:Nat) (v:V),((Qs i).filter t)[j]?=some q->acc[j]?=some v->R q v H,
  ⟨n,by simp,QL _,rfl,Zb hD,Zc,fun j q v e _=>by simp at e⟩,?_⟩
 rintro i m acc H ⟨rfl,hi,hl,hs,hDa,hr⟩;obtain⟨j1,j2⟩:=hJ H hs;by_cases hlt:i<n
 ·refine .inr ⟨(j1 i hlt).1,fun x H3 y=>?_⟩;obtain⟨e1,e2⟩:=(j1 i hlt).2 x H3 y;subst e1 e2;refine step i H3 _ _ hlt hs (fun ht v H6 s6 r6=>⟨s6 _ _ hDa,?_,n-(i+1),by omega,rfl,hlt,?_,fun b o e=>?_,Zc,fun j q u e1 e2=>?_⟩) (fun ht H6 s6=>⟨n-(i+1),by omega,rfl,hlt,?_,hs.trans s6,s6 _ _ hDa,fun j q u e1 e2=>?_⟩)
  ·have:=Q5 t (Qs i);rw[Q4]at this;omega
  ·rw[WV,Wg,Qp,Qp,hl];simp[ht]
  ·rw[Zi (Zk e hD)];exact s6 _ _ (hs b o e)
  ·have ts:TSame H6 (upd H6 D (.lst (acc++[v]))):=YU (s6 _ _ hDa);rw[WV,Wg]at e1;rcases UI j acc.length with h | h | h
   ·rw[Q3 h]at e2;rw[Q3 (by omega)]at e1;exact hR _ _ _ _ (s6.tup.trans ts) (hr j q u e1 e2)
   ·subst h;rw[QZ (Qi _),Ur]at e2;rw[QZ (by omega),hl,Ur]at e1;simp[ht]at e1 e2;subst e1 e2;exact hR _ _ _ _ ts r6
   ·rw[Ql (by rw[Qp,QA];omega)]at e2;cases e2
  ·rw[WV,Wg,Qp,hl];simp[ht]
  ·rw[WV,Wg]at e1;have hj:j<acc.length:=(Qo.mp e2).1;rw[Q3 (by omega)]at e1;exact hR _ _ _ _ s6.tup (hr j q u e1 e2)
 ·have e:i=n:=by omega
  subst e;exact .inl ⟨j2,done D acc H hl hr hs hD hDa⟩
section
variable {prog:Program} {w:World} {A:Around} {E:Value->Shared->Prop} {s:Shared}
end
section
variable {X:Cx} {pins:List (Addr×Obj)} {σ:St} {H H':Hp} {s s':Shared} {d:Addr} {o:Obj} {kvs kvs':List (Key×V)}
theorem Inv.thaw2 {σ2:St} (I:Inv X pins σ H s) (hd:H d=some (.dK kvs)) (J:Inv X pins σ2 H' s') (e:H' d=some (.frz o (.dK kvs'))):Inv X pins σ2 (upd H' d (.dK kvs')) s':=by
 have nn:∀ b,H' b=none->upd H' d (.dK kvs') b=none:=fun b z=>by
  rw[Zi]
  ·exact z
  ·intro w;rw[w,e]at z;cases z
 refine {J with base:=⟨J.base.keep,J.base.slot,fun b ob h1 h2 h3=>nn b (J.base.free b ob h1 h2 h3),J.base.there,fun b xs h1=>?_,fun b ob u h1=>?_,fun b ps h1=>?_⟩,free:=nn _ J.free,freeC:=fun x c h=>nn _ (J.freeC x c h),pin:=fun p hp=>?_,hok:=fun b u h1=>?_}
 ·have h2:=J.base.tups b xs h1;rw[Zi]
  ·exact h2
  ·intro w;rw[w,e]at h2;cases h2
 ·by_cases w:b=d
  ·have h2:=I.base.frzs b ob u h1;rw[w,hd]at h2;cases h2
  ·rw[Zi w];exact J.base.frzs b ob u h1
 ·obtain⟨more,h2⟩:=J.base.tbls b ps h1;refine⟨more,?_⟩;rw[Zi]
  ·exact h2
  ·intro w;rw[w,e]at h2;cases h2
 ·obtain⟨p1,p2,p3⟩:=J.pin p hp;exact⟨p1,nn _ p2,p3⟩
 ·have ho:∀ (a:Addr) (b:Addr),H' b=some (.own a)->upd H' d (.dK kvs') b=some (.own a):=fun a b z=>by
   rw[Zi]
   ·exact z
   ·intro w;rw[w,e]at z;cases z
  have ht:∀ (b:Addr) xs,H' b=some (.tup xs)->upd H' d (.dK kvs') b=some (.tup xs):=fun b xs z=>by
   rw[Zi]
   ·exact z
   ·intro w;rw[w,e]at z;cases z
  by_cases w:b=d
  ·subst w;rw[Zc]at h1;cases h1;obtain⟨_,q⟩:=J.hok b _ e;exact q.stay (fun _ _ _ z=>z) (ho b) ht
  ·rw[Zi w]at h1;exact(J.hok b u h1).stay (fun _ _ _ z=>z) (ho b) ht
end
def Zo3 (t:TS):TS:=fun D σ H=>∃ d kvs,H d=some (.dK kvs)/\∀ o,t ⟨fun σ' H'=>H' d=some (.frz o (.dK kvs))/\D.nx σ' (upd H' d (.dK kvs)),fun _ _=>False,fun _ _=>False,fun _ _=>False⟩ σ (upd H d (.frz o (.dK kvs)))
theorem ZnQ {X:Cx} {st:Stmt} {t:TS} (h:PS X st t):PS X st (Zo3 t):=by
 intro pins s σ H D I q;obtain⟨d,kvs,hd,q⟩:=q;obtain⟨o,I1⟩:=I.frozen hd;refine wpAny_mono (h pins s σ _ _ I1 (q o)) (fun f s2 z=>?_) fun _ _ e=>e;cases f with
 | next =>
  obtain⟨σ2,H2,I2,e2,q2⟩:=z;exact⟨σ2,_,I.thaw2 hd I2 e2,q2⟩
 | brk =>
  obtain⟨_,_,_,z⟩:=z;exact z.elim
 | cont =>
  obtain⟨_,_,_,z⟩:=z;exact z.elim
 | ret v =>
  obtain⟨_,_,_,_,_,z⟩:=z;exact z.elim
theorem Zif {k:Nat} {mp:List Nat} {σ:St} {g:TG} {te:TE} {J:It} {Q:VK} (n:Nat) (xs:Nat->V) (f:Nat->List V) (hn:n<=sizeLine)
  (hJ:∀ H,Same H1 H->(∀ i,i<n->J.go i H/\∀ x H',J.yld i H x H'->H'=H/\x=xs i)/\J.stop n H)
  (step:∀ i H (Qe:VK),i<n->Same H1 H->(∀ a H6,Same H H6->H a=none->H6 a=some (.lst (f i))->Qe (.ref a) H6)->g (xs i) (lcS k mp σ) H fun σ4 H4=>te σ4 H4 Qe)
  (done:∀ D (as:List Addr) H',as.length=n->as.Nodup->(∀ i a,as[i]?=some a->a≠D/\H1 a=none/\H' a=some (.lst (f i)))->Same H1 H'->H1 D=none->H' D=some (.lst (as.map V.ref))->Q (.ref D) H'):JB k mp σ g Znm te J H1 Q:=by
 intro D hD;refine⟨fun i m acc H=>m=n-i/\i<=n/\Same H1 H/\H D=some (.lst acc)/\∃ as:List Addr,acc=as.map V.ref/\as.length=i/\as.Nodup/\∀ j a,as[j]?=some a->a≠D/\H1 a=none/\H a=some (.lst (f j)),⟨n,by simp,QL _,Zb hD,Zc,[],rfl,rfl,Wy,fun j v e=>by simp at e⟩,?_⟩;rintro i m acc H ⟨rfl,hi,hs,hDa,as,rfl,hl,hnd,hr⟩;obtain⟨j1,j2⟩:=hJ H hs;by_cases hlt:i<n
 ·refine .inr ⟨(j1 i hlt).1,fun x H3 y=>?_⟩;obtain⟨e1,e2⟩:=(j1 i hlt).2 x H3 y;subst e1 e2;refine step i H3 _ hlt hs fun a H6 s6 ha r6=>⟨s6 _ _ hDa,by rw[Qc];omega,n-(i+1),by omega,rfl,hlt,fun b o e=>?_,Zc,as++[a],by rw[QG];rfl,by rw[Qp,hl];rfl,?_,fun j u e=>?_⟩
  ·rw[Zi (Zk e hD)];exact s6 _ _ (hs b o e)
  ·rw[Wb];refine⟨hnd,by simp,fun x hx y hy e=>?_⟩;rw[Qm.mp hy]at e;subst e;obtain⟨j,hj⟩:=List.mem_iff_getElem?.mp hx;rw[(hr j x hj).2.2]at ha;cases ha
  ·have naD:a≠D:=fun z=>by rw[z,hDa]at ha;cases ha
   rcases UI j as.length with h | h | h
   ·rw[Q3 h]at e;obtain⟨q1,q2,q3⟩:=hr j u e;exact⟨q1,q2,by rw[Zi q1];exact s6 _ _ q3⟩
   ·subst h;rw[QZ (Qi _),Ur]at e;cases e;exact⟨naD,hs.free ha,by rw[Zi naD,hl];exact r6⟩
   ·rw[Ql (by rw[Qp,QA];omega)]at e;cases e
 ·have e:i=n:=by omega
  subst e;exact .inl ⟨j2,done D as H hl hnd hr hs hD hDa⟩
end L2
set_option maxRecDepth 4000
namespace L2
open PySem PySem.Spec PyProof.Rows
end L2
namespace PySem
namespace F
end F
end PySem
namespace PySem
section
variable {prog:Program} {w:World} {A:Around} {E:Value->Shared->Prop} {s:Shared}
end
section
variable {prog:Program} {w:World} {A:Around} {E:Value->Shared->Prop} {s:Shared}
section
variable {R:Result->Shared->Prop}
end
end
end PySem
namespace L2
open PySem PySem.Spec PyProof.Rows
end L2
namespace PySem
namespace F
end F
section
variable {prog:Program} {w:World} {A:Around} {E:Value->Shared->Prop} {s:Shared}
section
variable {R:Result->Shared->Prop}
end
end
end PySem
namespace L2
open PySem PySem.Spec PyProof.Rows
end L2
set_option maxRecDepth 4000
namespace L2
open PySem PySem.Spec PyProof.Rows
theorem X2 {X:Cx} (hc:X.calm=true):CallR X (.builtin "sum") (fun xs H Q=>∃ (a:Addr) (ns:List Int),xs=[.ref a]/\SqL X.K H a (ns.map V.int)/\Q (.int ns.sum) H):=by
 intro pins s σ H xs us Q I r h;obtain⟨a,ns,rfl,hq,q⟩:=h;obtain⟨u,rfl,ru⟩:=YT r;cases ru;obtain⟨its,rv,pl,hz⟩:=I.list hq;have hl:=rv.length;rw[Qc]at hl;have hlt:a<s.heap.objs.size:=by
  obtain⟨o,n,e,_⟩:=pl;exact Qw e
 refine call_sum_walkG (wpAny_pyIter_list pl.isList ⟨s.heap.objs.size,[s.heap.objs.size,a],[s.heap.objs.size],its.toArray.size,_,_,fun i=>ns.getD i 0,rfl,Walks.list (A:=X.A.in1) (I.ok.hd hc) _ _ (QD hlt) its.toArray,
  ⟨⟨_,Qz _ rfl,rfl,rfl⟩,pl.isList.push _⟩,?_,?_,?_⟩)
 ·intro b hb;show b<(s.heap.push _).objs.size;rw[WK];have:b=s.heap.objs.size\/b=a:=by simpa using hb
  rcases this with z | z
  ·rw[z];exact WF _
  ·rw[z];exact Ua hlt
 ·intro i v hv;have e1:its[i]?=some v:=by simpa using hv
  have hi:i<its.length:=(Qo.mp e1).1;have hb:(ns.map V.int)[i]?=some (.int (ns.getD i 0)):=by
   rw[Qk,Qb];cases e:ns[i]? with
   | none=>exact absurd (Q9.mp e) (by omega)
   | some b=>rfl
  obtain⟨u',hu,ru⟩:=rv.get hb;rw[e1]at hu;cases hu;exact ru
 ·intro h' tk t' kk;refine⟨.int ns.sum,H,I.kept fun b o e=>kk b o (by simpa using QD (Qw e)) (Qh _ e),⟨t',?_⟩,q⟩;rw[YA,Q6 (by rw[Qu];omega)]
end L2
namespace Tim
open PySem PySem.W PyProof.Rows
structure SortA (prog:Program) (w:World) (h1:Heap) (vs:List Value) (lt:Nat->Nat->Bool) (κ:SortKind):Prop where
 kd:∀ (A:Around) (E:Value->Shared->Prop) (s:Shared) (Q:SortKind->Shared->Prop),(∀ b o,h1.get? b=some o->s.heap.get? b=some o)->2<=vs.length->Q κ s->wpAny (model prog w) A (keyKind' vs.toArray) Q E s
 ask:∀ (A:Around) (s:Shared) (i j:Nat) (x y:Value) (C:Bool->Shared->Prop),(∀ b o,h1.get? b=some o->s.heap.get? b=some o)->vs[i]?=some x->vs[j]?=some y->(∀ tk,C (lt i j) {s with toks:=tk})->wpAny (model prog w) A (keyLt' κ x y) C (fun _ _=>False) s
section
variable {prog:Program} {w:World} {A:Around} {E:Value->Shared->Prop} {s:Shared}
theorem list_sortS {a:Addr} {vs:List Value} {lt:Nat->Nat->Bool} {κ:SortKind} {n:Nat} {P:PySem.Fin->Shared->Prop} (ho:s.heap.get? a=some (seqObj "list" vs.toArray n)) (h64:vs.length<64) (o:Srt.Ord vs.length lt)
  (kd:∀ (h6:Heap) (Q:SortKind->Shared->Prop),(∀ b o,b≠a->s.heap.get? b=some o->h6.get? b=some o)->2<=vs.length->Q κ {s with heap:=h6}->wpAny (model prog w) A (keyKind' vs.toArray) Q E {s with heap:=h6})
  (ask:∀ (h6:Heap) (tk i j:Nat) (x y:Value) (C:Bool->Shared->Prop),(∀ b o,b≠a->s.heap.get? b=some o->h6.get? b=some o)->vs[i]?=some x->vs[j]?=some y->(∀ tk,C (lt i j) {s with heap:=h6,toks:=tk})->wpAny (model prog w) A (keyLt' κ x y) C (fun _ _=>False) {s with heap:=h6,toks:=tk})
  (h:∀ (h1:Heap) (tk c:Nat) (p:Array Nat),Srt.Pm vs.length p->(∀ i j,i<j->j<vs.length->lt (p.getD j 0) (p.getD i 0)=false)->(∀ b o,b≠a->s.heap.get? b=some o->h1.get? b=some o) ->
   h1.get? a=some (seqObj "list" (p.toList.map fun i=>vs.getD i Value.none).toArray c)->P (.done (.ret .none)) {s with heap:=h1,toks:=tk}) :
  wpAny (model prog w) A (Builtin.«list.sort» ⟨[.ref a],[]⟩) P E s:=by
 have ha:a<s.heap.objs.size:=Qw ho;have hz:vs.length<=sizeLine:=by rw[sizeLine_eq];omega
 rw[list_sort_plain];refine wpAny_bind (listItems_at ho rfl (wpAny_bind (listUpdate_at ho rfl ?_ (by rw[Qu];exact hz) (QL _))));obtain⟨e1,ho1⟩:∃ e1,(s.heap.update a (Obj.mapSeq fun _=>(#[]:Array Value))).get? a=some (seqObj "list" #[] e1):=⟨_,get?_update_seq ho fun _=>#[]⟩
 have k1:∀ b o,b≠a->s.heap.get? b=some o->(s.heap.update a (Obj.mapSeq fun _=>(#[]:Array Value))).get? b=some o:=fun b o hb q=>(Wa _ _ (Ne.symm hb)).trans q;refine wpAny_bind (seqEpoch_at ho1 rfl (wpAny_bind (wpAny_newTuple ?_ (by show vs.length<=_;exact hz))));refine wpAny_bind (wpAny_newList ?_ (QL _));refine wpAny_holding ?_;generalize hg:((s.heap.update a (Obj.mapSeq fun _=>(#[]:Array Value))).push {cls:=.type "tuple",data:=.seq vs.toArray.toList.toArray}).push {cls:=.type "list",data:=.seq ([]:List Value).toArray}=h6;have k6:∀ b o,b≠a->s.heap.get? b=some o->h6.get? b=some o:=fun b o hb q=>by
  rw[←hg];exact Qh _ (Qh _ (k1 b o hb q))
 have ho6:h6.get? a=some (seqObj "list" #[] e1):=by
  rw[←hg];exact Qh _ (Qh _ ho1)
 show wpAny (model prog w) A _ P E {s with heap:=h6};dsimp only;have fin:∀ (tk:Nat) (p:Array Nat) (out:Array Value),Srt.Pm vs.length p->(∀ i j,i<j->j<vs.length->lt (p.getD j 0) (p.getD i 0)=false)->out=(p.toList.map fun i=>vs.getD i Value.none).toArray ->
   ∃ c,(h6.update a (Obj.mapSeq fun _=>out)).get? a=some (seqObj "list" out c)/\out.size<=sizeLine/\P (.done (.ret .none)) {s with heap:=h6.update a (Obj.mapSeq fun _=>out),toks:=tk}:=fun tk p out hp hu ho'=>by
  have hc:=get?_update_seq ho6 fun _=>out;refine⟨_,hc,?_,h _ tk _ p hp hu (fun b o hb q=>(Wa _ _ (Ne.symm hb)).trans (k6 b o hb q)) (by rw[←ho'];exact hc)⟩;rw[ho',Qu,Qc,QC,hp.size];exact hz
 have hr:vs=(Qs vs.length).map fun i=>vs.getD i Value.none:=by
  apply QT;intro i;simp only[Qk];by_cases hi:i<vs.length
  ·rw[Qa hi,Q0 hi,Wc,Qb,Qa hi];rfl
  ·rw[Ql (by omega),Ql (by simp;omega)];rfl
 by_cases h2:vs.toArray.size<2
 ·rw[if_pos h2,if_pos h2];rw[Qu]at h2;obtain⟨c,f1,f2,f3⟩:=fin s.toks (Qs vs.length).toArray vs.toArray ⟨by simp,Array.Perm.refl _⟩ (fun a b hab hb=>by omega) (congrArg List.toArray hr);refine wpAny_bind (wpAny_pure ?_);rw[StateT.run_pure];refine wpAny_bind (wpAny_pure ?_);have eo:(arrOf (SortSt.mk' general' (vs.toArray.zip vs.toArray) #[] 7 none)).map (·.2)=vs.toArray:=by
   show(vs.toArray.zip vs.toArray).map (·.2)=vs.toArray;apply R0.mp;simp;exact R1 (Qi _)
  dsimp only;rw[eo];refine wpAny_bind (seqEpoch_at ho6 rfl (wpAny_bind (listUpdate_at ho6 rfl ?_ (QL _) (Ul f2))));simp only[bne_self_eq_false,Wf,if_false];exact wpAny_pure f3
 ·rw[if_neg h2,if_neg h2];rw[Qu]at h2;refine wpAny_bind (kd h6 _ k6 (by omega) ?_);refine wpAny_bind (wpAny_mono (kat_run (κ:=κ) (ks:=vs) (vs:=vs) (G:=fun p s'=>(∃ tk,s'={s with heap:=h6,toks:=tk})/\Srt.Pm vs.length p/\Srt.Up lt p vs.length)
   (Q:=fun st' s'=>∃ p:Array Nat,arrOf st'=p.map (kas_item (vs.toArray.zip vs.toArray))/\failedOf st'=none/\(∃ tk,s'={s with heap:=h6,toks:=tk})/\Srt.Pm vs.length p/\Srt.Up lt p vs.length)
   rfl (by omega) h64 (fun p st' s' _ a2 a3 a4=>⟨p,a2,a3,a4⟩) ?_) ?_ fun _ _ e=>e)
  ·refine Srt.sort (G:=fun s'=>∃ tk,s'={s with heap:=h6,toks:=tk}) o (fun i j C s' hi hj hij g k=>?_) (by omega) ⟨s.toks,rfl⟩ fun p s' hp hu g=>⟨g,hp,hu⟩
   obtain⟨tk,rfl⟩:=g;show wpAny (model prog w) A (keyLt' κ (vs.getD i Value.none) (vs.getD j Value.none)) C (fun _ _=>False) {s with heap:=h6,toks:=tk};refine ask h6 tk i j _ _ C k6 ?_ ?_ fun tk2=>k _ ⟨tk2,rfl⟩
   ·rw[Qb,Qa hi];rfl
   ·rw[Qb,Qa hj];rfl
  ·rintro⟨⟨⟩,st'⟩ s' ⟨p,har,hf',⟨tk,rfl⟩,hp,hu⟩;obtain⟨c,f1,f2,f3⟩:=fin tk p _ hp (fun i j hij hj=>o.asy _ _ (hu i j hij hj)) rfl;dsimp only;rw[kat_snds rfl har];refine wpAny_bind (seqEpoch_at (s:={s with heap:=h6,toks:=tk}) ho6 rfl (wpAny_bind (listUpdate_at (s:={s with heap:=h6,toks:=tk}) ho6 rfl ?_ (QL _) (Ul f2))));rw[hf'];simp only[bne_self_eq_false,Wf,if_false];exact wpAny_pure f3
theorem sorted_allS {r:Addr} {Q:Value->Shared->Prop} {Pc:Heap->List Value->Prop} {lt:Nat->Nat->Bool} {κ:SortKind}
  (col:∀ (R:List Value->Shared->Prop),(∀ h1 tk vs,(∀ b o,s.heap.get? b=some o->h1.get? b=some o)->Pc h1 vs->R vs {s with heap:=h1,toks:=tk})->wpAny (model prog w) A.in1 (collect (.ref r)) R E s)
  (ord:∀ h1 vs,(∀ b o,s.heap.get? b=some o->h1.get? b=some o)->Pc h1 vs->vs.length<64/\Srt.Ord vs.length lt/\SortA prog w h1 vs lt κ)
  (fin:∀ h1 vs h3 tk c p,Pc h1 vs->(∀ b o,s.heap.get? b=some o->h3.get? b=some o)->(∀ b o,h1.get? b=some o->h3.get? b=some o)->(∀ b o,s.heap.get? b=some o->h1.get? b=some o)->Srt.Pm vs.length p->(∀ i j,i<j->j<vs.length->lt (p.getD j 0) (p.getD i 0)=false) ->
   h3.get? h1.objs.size=some (seqObj "list" (p.toList.map fun i=>vs.getD i Value.none).toArray c)->s.heap.get? h1.objs.size=none->Q (.ref h1.objs.size) {s with heap:=h3,toks:=tk}) :
  wpAny (model prog w) A (call (.builtin "sorted") [.ref r]) Q E s:=by
 refine Calls.call_function_entry kind_sorted plain_sorted entry_sorted (args_sorted1 _) ?_;unfold Builtin.«sorted»;refine wpAny_bind (m:=checkCount "sorted" 1 1 _) (wpAny_pure ?_);refine wpAny_bind (col _ fun h1 tk vs hk hP=>?_);obtain⟨h64,O,S⟩:=ord h1 vs hk hP;have hz:vs.length<=sizeLine:=by rw[sizeLine_eq];omega
 refine wpAny_bind (wpAny_newList ?_ hz);have hB:(h1.push {cls:=.type "list",data:=.seq vs.toArray}).get? h1.objs.size=some (seqObj "list" vs.toArray 0):=Qz _ rfl;refine wpAny_bind (wpAny_holding (wpAny_call_entry slot_list_sort ⟨_,hB,rfl⟩ entry_list_sort ?body (args_list_sort _)));have k1:∀ {h6:Heap},(∀ b o,b≠h1.objs.size->(h1.push {cls:=.type "list",data:=.seq vs.toArray}).get? b=some o->h6.get? b=some o)->∀ b o,h1.get? b=some o->h6.get? b=some o:=fun k b o e=>k b o (QD (Qw e)) (Qh _ e);refine list_sortS (s:={s with heap:=h1.push {cls:=.type "list",data:=.seq vs.toArray},toks:=tk}) hB h64 O (fun h6 Q k h2 q=>S.kd _ _ _ _ (k1 k) h2 q) (fun h6 tk' i j x y C k e1 e2 q=>S.ask _ _ i j x y C (k1 k) e1 e2 fun tk2=>q tk2)
  fun h3 tk3 c p hp hs hkeep hD=>⟨_,rfl,wpAny_pure ⟨_,rfl,?_⟩⟩
 refine fin h1 vs h3 tk3 c p hP (fun b o e=>k1 hkeep b o (hk b o e)) (k1 hkeep) hk hp hs hD ?_;cases e:s.heap.get? h1.objs.size with
 | none=>rfl
 | some u=>exact absurd (Qw (hk _ _ e)) (Wj _)
theorem sa_strsS {h1:Heap} {vs:List Value} {xs:List Str} (hS:StrsAre vs xs):SortA prog w h1 vs (ltS xs) oneType' where
 kd:=fun A E s Q _ h2 q=>by
  match vs,hS,h2 with
  | v1::v2::vs,hS,_ =>
   rw[keyKind_strs hS];exact wpAny_pure q
 ask:=fun A s i j x y C _ e1 e2 q=>by
  obtain⟨t1,rfl,_⟩:=strs_at hS i _ e1;obtain⟨t2,rfl,_⟩:=strs_at hS j _ e2;exact kas_lt_str (q s.toks)
end
end Tim
namespace L2
open PySem PySem.Spec PyProof.Rows PySem.W
theorem ZaG {X:Cx} (hc:X.calm=true):CallR X (.builtin "sorted") (fun xs H Q=>∃ (p:Addr) (ks:List Str),xs=[.ref p]/\H p=some (stO X p ks)/\ks.length<64 /\
  ∀ (q:Addr) (ss:List Str),H q=none->ss.Perm ks->(ss.map fun x=>x.cps.toList).Pairwise (· < ·)->Q (.ref q) (upd H q (.lst (ss.map V.str)))):=by
 intro pins s σ H xs us Q I r h;obtain⟨p,ks,rfl,hp,h64,q⟩:=h;have h1k:ks.length<=1000:=by omega
 obtain⟨u,rfl,ru⟩:=YT r;cases ru;obtain⟨⟨o,es,ep,t,T⟩,_,_⟩:=(show SetT X.prog X.w s.heap p ks/\_ from I.hok p _ hp)
 refine Calls.call_function_entry kind_sorted plain_sorted entry_sorted (args_sorted1 _) ?_;unfold Builtin.«sorted»;refine wpAny_bind (m:=checkCount "sorted" 1 1 _) (wpAny_pure (wpAny_bind (Zeo (A:=X.A.in1) (I.ok.hd hc) T h1k fun h1 tk d acc ord hpm kk hacc=>?_)));obtain⟨ys,hys,hS⟩:=Zg4 T hpm hacc;have hl:=Tim.strs_len hS;have hyl:=hys.length_eq;generalize acc.toList=vs at hS hl;have SA:Tim.SortA X.prog X.w h1 vs (Tim.ltS ys) oneType':=Tim.sa_strsS hS;have O:Srt.Ord vs.length (Tim.ltS ys):=by rw[hl];exact Zeh (hys.nodup_iff.mpr T.nd)
 refine wpAny_bind (wpAny_newList ?_ (J9 (by omega)));have hB:(h1.push {cls:=.type "list",data:=.seq vs.toArray}).get? h1.objs.size=some (seqObj "list" vs.toArray 0):=Qz _ rfl;have k1:∀ {h6:Heap},(∀ b o,b≠h1.objs.size->(h1.push {cls:=.type "list",data:=.seq vs.toArray}).get? b=some o->h6.get? b=some o)->∀ b o,h1.get? b=some o->h6.get? b=some o:=fun k b o e=>k b o (QD (Qw e)) (Qh _ e);refine wpAny_bind (wpAny_holding (wpAny_call_entry slot_list_sort ⟨_,hB,rfl⟩ entry_list_sort ?_ (args_list_sort _)));refine Tim.list_sortS (s:={s with heap:=h1.push {cls:=.type "list",data:=.seq vs.toArray},toks:=tk,drawn:=d}) hB (by omega) O (fun h6 Q k h2 q=>SA.kd _ _ _ _ (k1 k) h2 q) (fun h6 tk' i j x y C k e1 e2 q=>SA.ask _ _ i j x y C (k1 k) e1 e2 fun tk2=>q tk2)
  fun h3 tk3 c pm hpm3 hs3 hkeep hD=>⟨_,rfl,wpAny_pure ⟨_,rfl,?_⟩⟩
 have hp':Srt.Pm ys.length pm:=by rw[←hl];exact hpm3
 have hN:s.heap.get? h1.objs.size=none:=by
  cases e:s.heap.get? h1.objs.size with
  | none=>rfl
  | some u=>exact absurd (Qw (kk _ _ e)) (Wj _)
 have hmem:∀ i∈pm.toList,i<ys.length:=fun i hi=>by
  have:i∈pm:=by simpa using hi
  have:=hp'.perm.mem_iff.mp this;simpa using this
 have vv:∀ l:List Nat,(∀ i∈l,i<ys.length)->Vals ((l.map fun i=>ys.getD i "").map V.str) (l.map fun i=>vs.getD i Value.none):=by
  intro l;induction l with
  | nil=>intro _;exact .nil
  | cons i l ih =>
   intro hh;have hi:i<vs.length:=by have:=hh i (Qd ..);omega
   obtain⟨t,e,_⟩:=Tim.strs_at hS i _ (Qa hi);refine .cons ?_ (ih fun j hj=>hh j (Qg _ hj));show RelV (V.str (ys.getD i "")) (vs.getD i Value.none);rw[Qb (l:=vs),Qa hi];exact⟨t,e⟩
 obtain⟨hn,I2⟩:=ZhQ (tk:=tk3) (vs:=(pm.toList.map fun i=>ys.getD i "").map V.str) (I.drw d) (fun b u e=>k1 hkeep b u (kk b u e)) hN (by rw[Qc,Qc,QC,hp'.size];exact J9 (by omega)) ⟨_,c,vv pm.toList hmem,hD⟩;refine⟨.ref h1.objs.size,_,I2,rfl,q _ _ hn ((Za7 ys pm hp').trans hys) ?_⟩;have nd:ys.Nodup:=hys.nodup_iff.mpr T.nd;have hup:=Zpk (n:=ys.length) rfl nd hp' (by rw[←hl];exact hs3);rw[QV,We,Uz];intro i j hi hj hij;have hz2:pm.toList.length=ys.length:=by rw[QC,hp'.size]
 have hu:=hup i j hij (by omega);unfold ltX at hu;rw[decide_eq_true_eq,ZjI hp' hi,ZjI hp' hj]at hu;exact hu
theorem YK {X:Cx} (hc:X.calm=true):CallR X (.builtin "sorted") (fun xs H Q=>∃ (d:Addr) (ks:List Str) (g:Str->V),xs=[.ref d]/\H d=some (.dK (ks.map fun x=>((Sum.inr x:Key),g x)))/\ks.Nodup/\ks.length<64 /\
  ∀ (p:Addr) (ss':List Str),H p=none->ss'.Perm ks->(ss'.map fun x=>x.cps.toList).Pairwise (·<=·)->Q (.ref p) (upd H p (.lst (ss'.map V.str)))):=by
 intro pins s σ H xs us Q I r h;obtain⟨d,ks,g,rfl,hd,nd,h64,q⟩:=h;have h1k:ks.length<=1000:=by omega
 obtain⟨u,rfl,ru⟩:=YT r;cases ru;obtain⟨hz,lo,vs',kv,dd⟩:=ZaE I.hok hd;obtain⟨ep,hat⟩:=dd.dictAt;have hlen:ks.length=vs'.length:=by have:=kv.length;simpa using this
 have toS:∀ (n:Nat) (vs:List Value) (xs:List Str),vs.length=xs.length->(∀ (i:Nat) (v:Value),vs[i]?=some v->∃ t,v= .str (xs.getD i "") t)->StrsAre vs xs:=by
  intro n vs;induction vs with
  | nil =>
   intro xs e _;match xs,e with
   | [],_=>exact .nil
  | cons v vs ih =>
   intro xs e hh;match xs,e with
   | x::xs,e =>
    obtain⟨t,rfl⟩:=hh 0 v rfl;exact .cons x t (ih xs (by simpa using e) fun i u z=>by
     obtain⟨t,e⟩:=hh (i+1) u (by simpa using z);exact⟨t,e⟩)
 refine Tim.sorted_allS (lt:=Tim.ltS ks) (κ:=oneType') (Pc:=fun h1 vs=>StrsAre vs ks) (fun R hR=>?_) (fun h1 vs hk hP=>?_) fun h1 vs h3 tk c p hP hk k1 hk1 hp hs hD hN=>?_
 ·refine kdu_collect (A:=X.A.in1) (kdl_dict lo) (I.ok.hd hc) hat (J9 (by omega)) fun h' tk acc hk hacc=>hR h' tk acc.toList hk (toS 0 _ _ (by rw[QC,hacc.1,hlen]) fun i v e=>?_);obtain⟨k,x,e1,e2⟩:=hacc.2 i v (by rw[←Wl];exact e);obtain⟨ek,hi⟩:=ZhM kv i k x e1;subst ek;rcases keyIs_shape (show Zav (Sum.inr (ks.getD i "")) v=true from e2)with ⟨j,t,e4,_⟩ | ⟨z,t,e4,e5⟩
  ·cases e4
  ·injection e4 with e4
   exact⟨t,by rw[e5,e4]⟩
 ·have:=Tim.strs_len hP;exact⟨by omega,by rw[this];exact Zeh nd,Tim.sa_strsS hP⟩
 ·have hl:=Tim.strs_len hP;have hp':Srt.Pm ks.length p:=by rw[←hl];exact hp
  have vv:∀ l:List Nat,(∀ i∈l,i<ks.length)->Vals ((l.map fun i=>ks.getD i "").map V.str) (l.map fun i=>vs.getD i Value.none):=by
   intro l;induction l with
   | nil=>intro _;exact .nil
   | cons i l ih =>
    intro hh;have hi:i<vs.length:=by have:=hh i (Qd ..);omega
    obtain⟨t,e,_⟩:=Tim.strs_at hP i _ (Qa hi);refine .cons ?_ (ih fun j hj=>hh j (Qg _ hj));show RelV (V.str (ks.getD i "")) (vs.getD i Value.none);rw[Qb (l:=vs),Qa hi];exact⟨t,e⟩
  have hmem:∀ i∈p.toList,i<ks.length:=fun i hi=>by
   have:i∈p:=by simpa using hi
   have:=hp'.perm.mem_iff.mp this;simpa using this
  obtain⟨hn,I2⟩:=ZhQ (tk:=tk) (vs:=(p.toList.map fun i=>ks.getD i "").map V.str) I hk hN (by rw[Qc,Qc,QC,hp'.size];exact J9 h1k) ⟨_,c,vv p.toList hmem,hD⟩;exact⟨.ref h1.objs.size,_,I2,rfl,q _ _ hn (Za7 ks p hp') (Znz hp' (by rw[←hl];exact hs))⟩
open PySem PySem.Spec PyProof.Rows
section
variable {prog:Program} {w:World} {A:Around} {E:Value->Shared->Prop} {s:Shared} {a:Addr} {o:Obj} {xs:Array Value} {k:Nat}
end
section
variable {prog:Program} {w:World} {Ky:Type} [DecidableEq Ky] {knd:KeyKind prog w Ky} {A:Around} {R:Except Value Flow->Shared->Prop}
end
end L2
namespace Sh
open PySem L2 PyProof.Rows
variable {P:Program} {w:World} {K:PySem.W.Frag} {mg:Str->Option Value} {base:Heap}
variable {B G:List Nat} {es:Es} {i n:Nat} {ks:List Str} {pt y:Str} {r:Str->List Nat}
abbrev Ts:=List (Str×Str)
def dl (a b:Str):Int:=if a=b then 1 else 0
theorem Zcl (a:Str):dl a a=1:=if_pos rfl
theorem ZoA (a b:Str):0<=dl a b:=by unfold dl;split <;> omega
def frm (ts:Ts) (i:Nat):Str:=(ts.getD i ("","")).1
def tow (ts:Ts) (i:Nat):Str:=(ts.getD i ("","")).2
def bal (ts:Ts) (X:List Nat) (p:Str):Int:=(X.map fun i=>dl (frm ts i) p-dl (tow ts i) p).sum
theorem ZaI (ts:Ts) (p:Str):bal ts [] p=0:=rfl
theorem ZY (ts:Ts) (i:Nat) (X:List Nat) (p:Str):bal ts (i::X) p=dl (frm ts i) p-dl (tow ts i) p+bal ts X p:=by
 unfold bal;rw[Qj,Qy]
theorem Xw (ts:Ts) (X Y:List Nat) (p:Str):bal ts (X++Y) p=bal ts X p+bal ts Y p:=by
 unfold bal;rw[QG,WU]
theorem JT {ts:Ts} {X Y:List Nat} (h:X.Perm Y) (p:Str):bal ts X p=bal ts Y p:=by
 induction h with
 | nil=>rfl
 | cons x _ ih=>rw[ZY,ZY,ih]
 | swap x y l=>rw[ZY,ZY,ZY,ZY];omega
 | trans _ _ a b=>exact a.trans b
inductive Ch (ts:Ts):Str->List Nat->Str->Prop where
 | nil (u:Str):Ch ts u [] u
 | cons {i:Nat} {X:List Nat} {u v:Str} (e:frm ts i=u) (h:Ch ts (tow ts i) X v):Ch ts u (i::X) v
theorem Ch.bal {ts:Ts} {u v:Str} {X:List Nat} (h:Ch ts u X v) (p:Str):bal ts X p=dl u p-dl v p:=by
 induction h with
 | nil u=>rw[ZaI];omega
 | cons e h ih=>rw[ZY,ih,e];omega
theorem Ch.snoc {ts:Ts} {u v:Str} {X:List Nat} (h:Ch ts u X v) (e:frm ts i=v):Ch ts u (X++[i]) (tow ts i):=by
 induction h with
 | nil u=>exact .cons e (.nil _)
 | cons e' h ih=>exact .cons e' (ih e)
theorem Ch.pop {ts:Ts} {u v:Str} {i:Nat}:∀ {X:List Nat},Ch ts u (X++[i]) v->Ch ts u X (frm ts i)/\v=tow ts i
 | [],h=>by
  cases h with
  | cons e h =>
   cases h;exact⟨e▸.nil _,rfl⟩
 | j::X,h=>by
  cases h with
  | cons e h =>
   obtain⟨a,b⟩:=Ch.pop (X:=X) h;exact⟨.cons e a,b⟩
theorem Ch.start {ts:Ts} {u w v:Str} {X:List Nat} (h:Ch ts u X v) (h':Ch ts w X v):u=w:=by
 cases h with
 | nil u=>cases h';rfl
 | cons e _=>cases h' with | cons e' _=>exact e.symm.trans e'
def ZoO (ts:Ts) (P y:Str):Prop:=∃ i,i<ts.length/\((frm ts i=P/\tow ts i=y)\/(tow ts i=P/\frm ts i=y))
inductive RchT (ts:Ts) (a:Str):Str->Prop where
 | here:RchT ts a a
 | step {P y:Str} (h:RchT ts a P) (k:ZoO ts P y):RchT ts a y
theorem RchT.closed {ts:Ts} {a:Str} {F:Str->Prop} (ha:F a) (hc:∀ P,F P->∀ y,ZoO ts P y->F y) (h:RchT ts a y):F y:=by
 induction h with
 | here=>exact ha
 | step _ k ih=>exact hc _ ih _ k
def Deg (ts:Ts) (b f:Str):Prop:=∀ p,bal ts (Qs ts.length) p=dl b p-dl f p
def ZlF (ts:Ts) (b:Str):Prop:=(∃ f,Deg ts b f)/\∀ i,i<ts.length->RchT ts b (frm ts i)
def Eul (ts:Ts) (b:Str) (X:List Nat):Prop:=X.Perm (Qs ts.length)/\∃ v,Ch ts b X v
theorem Xr {X Y:List Nat} (h1:X.Nodup) (h2:Y.Nodup) (h:∀ x,x∈X↔x∈Y):X.Perm Y:=by
 rw[List.perm_iff_count];intro a;rw[h1.count,h2.count];by_cases c:a∈X
 ·rw[if_pos c,if_pos ((h a).mp c)]
 ·rw[if_neg c,if_neg (fun z=>c ((h a).mpr z))]
theorem Zh0 {F:List Nat}:∀ {ks:List Nat},F.Nodup->(∀ x∈F,x∈ks)->F.length<=ks.length:=by
 induction F with
 | nil=>exact fun _ _=>QL _
 | cons x F ih =>
  intro ks h1 h2;have nd':=QW.mp h1;have hx:=h2 x (Qd ..);have:=ih (ks:=ks.erase x) nd'.2 fun y hy=>(Wz (fun(q:y=x)=>nd'.1 (q▸hy))).mpr (h2 y (Qg _ hy));rw[Wm hx]at this;have hpos:0<ks.length:=Ws hx;rw[QO];omega
theorem Zmu {F ks:List Nat} (h1:F.Nodup) (h2:∀ x∈F,x∈ks) (he:F.length=ks.length):∀ x∈ks,x∈F:=by
 intro x hx;apply Classical.byContradiction;intro hn;have:=Zh0 (ks:=ks.erase x) h1 fun y hy=>(Wz (fun(q:y=x)=>hn (q▸hy))).mpr (h2 y hy);rw[Wm hx]at this;have hpos:0<ks.length:=Ws hx;omega
structure WI (ts:Ts) (b pt:Str) (r:Str->List Nat) (G B:List Nat):Prop where
 nd:(G++B).Nodup
 lt:∀ i∈G++B,i<ts.length
 rnd:∀ p,(r p).Nodup
 row:∀ p i,i∈r p↔i<ts.length/\frm ts i=p/\i∉G++B
 chG:Ch ts b G pt
 chB:∀ f,Deg ts b f->∃ w,Ch ts w B.reverse f
 stk:∀ i∈B,r (tow ts i)=[]
theorem WI.start {ts:Ts} {b:Str} (h1:∀ p,(r p).Nodup) (h2:∀ p i,i∈r p↔i<ts.length/\frm ts i=p):WI ts b b r [] [] where
 nd:=Wy
 lt:=fun i hi=>by cases hi
 rnd:=h1
 row:=fun p i=>by rw[h2];simp
 chG:=.nil _
 chB:=fun f _=>⟨f,.nil _⟩
 stk:=fun i hi=>by cases hi
def Zi6 (r:Str->List Nat) (p:Str) (X:List Nat):Str->List Nat:=fun q=>if q=p then X else r q
theorem WI.push {ts:Ts} {b:Str} {X:List Nat} (h:WI ts b pt r G B) (e:r pt=X++[i]):WI ts b (tow ts i) (Zi6 r pt X) (G++[i]) B:=by
 have hi:=(h.row pt i).mp (by rw[e];simp);have hrn:=h.rnd pt;rw[e]at hrn;have hiX:i∉X:=fun z=>(Wb.mp hrn).2.2 i z i (by simp) rfl;have mm:∀ j,j∈(G++[i])++B↔j∈G++B\/j=i:=fun j=>by
  simp only[QI,Qm];constructor
  ·rintro((z | z) | z)
   ·exact .inl (.inl z)
   ·exact .inr z
   ·exact .inl (.inr z)
  ·rintro((z | z) | z)
   ·exact .inl (.inl z)
   ·exact .inr z
   ·exact .inl (.inr z)
 refine⟨?_,fun j hj=>?_,fun p=>?_,fun p j=>?_,h.chG.snoc hi.2.1,h.chB,fun j hj=>?_⟩
 ·have pp:((G++[i])++B).Perm (i::(G++B)):=by
   rw[UH,Rl];exact R3
  exact pp.nodup_iff.mpr (QW.mpr ⟨hi.2.2,h.nd⟩)
 ·rcases(mm j).mp hj with z | z
  ·exact h.lt j z
  ·rw[z];exact hi.1
 ·unfold Zi6;split
  ·exact(Wb.mp hrn).1
  ·exact h.rnd p
 ·rw[mm];unfold Zi6;by_cases c:p=pt
  ·rw[if_pos c];have hr:=h.row pt j;rw[e,QI,Qm]at hr;subst c;constructor
   ·intro z;obtain⟨a1,a2,a3⟩:=hr.mp (.inl z);exact⟨a1,a2,fun q=>q.elim a3 fun w=>hiX (w▸z)⟩
   ·rintro⟨a1,a2,a3⟩;rcases hr.mpr ⟨a1,a2,fun q=>a3 (.inl q)⟩with z | z
    ·exact z
    ·exact absurd (.inr z) a3
  ·rw[if_neg c,h.row];constructor
   ·rintro⟨a1,a2,a3⟩;refine⟨a1,a2,fun q=>q.elim a3 fun w=>c ?_⟩;rw[←a2,w,hi.2.1]
   ·rintro⟨a1,a2,a3⟩;exact⟨a1,a2,fun q=>a3 (.inl q)⟩
 ·unfold Zi6;have hs:=h.stk j hj;rw[if_neg (fun c=>by rw[c,e]at hs;simp at hs)];exact hs
theorem WI.stuck {ts:Ts} {b w f:Str} (h:WI ts b pt r G B) (e:r pt=[]) (d:Deg ts b f) (c:Ch ts w B.reverse f):pt=w:=by
 have hp:(Qs ts.length).Perm ((G++B)++(Qs ts.length).filter fun i=>decide (i∉G++B)):=by
  refine Xr WH (Wb.mpr ⟨h.nd,WH.filter _,fun a ha b' hb z=>?_⟩) fun x=>?_
  ·subst z;have:=(QB.mp hb).2;simp only[decide_eq_true_eq]at this;exact this ha
  ·rw[QI,QB,QM];constructor
   ·intro hx;by_cases cc:x∈G++B
    ·exact .inl cc
    ·exact .inr ⟨hx,decide_eq_true cc⟩
   ·rintro(z | z)
    ·exact h.lt x z
    ·exact z.1
 have h1:=d pt;rw[JT hp,Xw,Xw,h.chG.bal,←JT (Um B),c.bal]at h1;have h2:∀ L:List Nat,(∀ i∈L,frm ts i≠pt)->bal ts L pt<=0:=by
  intro L;induction L with
  | nil=>intro _;rw[ZaI];omega
  | cons i L ih =>
   intro hL;have a:=ih fun j hj=>hL j (Qg _ hj);have b':dl (frm ts i) pt=0:=if_neg (hL i (Qd ..));have c':=ZoA (tow ts i) pt;rw[ZY];omega
 have h3:=h2 ((Qs ts.length).filter fun i=>decide (i∉G++B)) fun i hi z=>by
  obtain⟨a1,a2⟩:=QB.mp hi;have:=(h.row pt i).mpr ⟨QM.mp a1,z,by simpa using a2⟩;rw[e]at this;cases this
 rw[Zcl]at h1;apply Classical.byContradiction;intro hn;have h4:dl w pt=0:=if_neg (fun z=>hn z.symm);omega
theorem WI.pop {ts:Ts} {b:Str} {X:List Nat} (h:WI ts b pt r (X++[i]) B) (e:r pt=[]):WI ts b (frm ts i) r X (B++[i]):=by
 obtain⟨c1,c2⟩:=h.chG.pop;have pp:(X++(B++[i])).Perm ((X++[i])++B):=by
  rw[UH];exact List.perm_append_comm.append_left _ |>.trans (List.Perm.refl _)
 refine⟨pp.nodup_iff.mpr h.nd,fun j hj=>h.lt j (pp.mem_iff.mp hj),h.rnd,fun p j=>by rw[h.row,pp.mem_iff],c1,fun f d=>?_,fun j hj=>?_⟩
 ·obtain⟨w,c⟩:=h.chB f d;have:=h.stuck e d c;rw[List.reverse_append,List.reverse_singleton,Rl];refine⟨frm ts i,.cons rfl ?_⟩;rw[←c2,this];exact c
 ·rcases QI.mp hj with z | z
  ·exact h.stk j z
  ·rw[Qm.mp z,←c2];exact e
theorem WI.done {ts:Ts} {b:Str} (h:WI ts b pt r [] B) (e:r pt=[]) (g:ZlF ts b):Eul ts b B.reverse:=by
 obtain⟨⟨f,d⟩,hr⟩:=g;have hpt:b=pt:=by cases h.chG;rfl
 subst hpt;obtain⟨w,c⟩:=h.chB f d;have ew:=h.stuck e d c;subst ew;have hnd:=h.nd;have hlt:=h.lt;rw[UO]at hnd hlt;refine⟨?_,f,c⟩
 -- whoever is met has nothing left
 let M:Str->Prop:=fun p=>p=b\/∃ i∈B,tow ts i=p
 have hM:∀ p,M p->r p=[]:=fun p hp=>by
  rcases hp with z | ⟨i,hi,z⟩
  ·rw[z];exact e
  ·rw[←z];exact h.stk i hi
 have hp:(Qs ts.length).Perm (B++(Qs ts.length).filter fun i=>decide (i∉B)):=by
  refine Xr WH (Wb.mpr ⟨hnd,WH.filter _,fun a ha b' hb z=>?_⟩) fun x=>?_
  ·subst z;have:=(QB.mp hb).2;simp only[decide_eq_true_eq]at this;exact this ha
  ·rw[QI,QB,QM];constructor
   ·intro hx;by_cases cc:x∈B
    ·exact .inl cc
    ·exact .inr ⟨hx,decide_eq_true cc⟩
   ·rintro(z | z)
    ·exact hlt x z
    ·exact z.1
 have hz:∀ p,bal ts ((Qs ts.length).filter fun i=>decide (i∉B)) p=0:=fun p=>by
  have h1:=d p;rw[JT hp,Xw,←JT (Um B),c.bal]at h1;omega
 have key:∀ p,M p->∀ i,i<ts.length->(frm ts i=p\/tow ts i=p)->i∈B:=fun p hp i hi ht=>by
  apply Classical.byContradiction;intro hn;have hne:∀ j,j<ts.length->j∉B->frm ts j≠p:=fun j hj hjn z=>by
   have:=(h.row p j).mpr ⟨hj,z,by simpa using hjn⟩;rw[hM p hp]at this;cases this
  rcases ht with z | z
  ·exact hne i hi hn z
  ·have h2:∀ L:List Nat,(∀ j∈L,frm ts j≠p)->bal ts L p<=0/\(i∈L->bal ts L p<0):=by
    intro L;induction L with
    | nil=>intro _;exact⟨by rw[ZaI];omega,fun q=>by cases q⟩
    | cons j L ih =>
     intro hL;obtain⟨a1,a2⟩:=ih fun k hk=>hL k (Qg _ hk);have b':dl (frm ts j) p=0:=if_neg (hL j (Qd ..));have c':=ZoA (tow ts j) p;rw[ZY];refine⟨by omega,fun q=>?_⟩;rcases Qx.mp q with q | q
     ·subst q;have:dl (tow ts i) p=1:=if_pos z;omega
     ·have:=a2 q;omega
   have h3:=(h2 ((Qs ts.length).filter fun i=>decide (i∉B)) fun j hj=>by
    obtain⟨a1,a2⟩:=QB.mp hj;exact hne j (QM.mp a1) (by simpa using a2)).2 (QB.mpr ⟨QM.mpr hi,decide_eq_true hn⟩)
   rw[hz]at h3;omega
 have hfr:∀ u X v,Ch ts u X v->M u->(∀ j∈X,j∈B)->∀ j∈X,M (frm ts j):=by
  intro u X v hc;induction hc with
  | nil u=>intro _ _ j hj;cases hj
  | @cons k X u v e' _ ih =>
   intro hu hX j hj;rcases Qx.mp hj with z | z
   ·rw[z,e'];exact hu
   ·exact ih (.inr ⟨k,hX k (Qd ..),rfl⟩) (fun l hl=>hX l (Qg _ hl)) j z
 have hcl:∀ P,M P->∀ y,ZoO ts P y->M y:=fun P hP y ⟨i,hi,q⟩=>by
  rcases q with ⟨q1,q2⟩ | ⟨q1,q2⟩
  ·exact .inr ⟨i,key P hP i hi (.inl q1),q2⟩
  ·have:=key P hP i hi (.inr q1);rw[←q2];exact hfr _ _ _ c (.inl rfl) (fun j hj=>Ut.mp hj) i (Ut.mpr this)
 refine Xr ((Um B).nodup_iff.mpr hnd) WH fun x=>?_;rw[Ut,QM];refine⟨hlt x,fun hx=>?_⟩;exact key _ (RchT.closed (F:=M) (.inl rfl) hcl (hr x hx)) x hx (.inl rfl)
theorem WI.eul {ts:Ts} {b v:Str} (h:WI ts b pt r [] B) (hl:B.length=ts.length) (c:Ch ts b B.reverse v):Eul ts b B.reverse:=by
 have hnd:=h.nd;have hlt:=h.lt;rw[UO]at hnd hlt;refine⟨?_,v,c⟩;have hsub:∀ x∈B,x∈Qs ts.length:=fun x hx=>QM.mpr (hlt x hx);refine(Um B).trans (Xr hnd WH fun x=>⟨hsub x,Zmu hnd hsub (by rw[Q4,hl]) x⟩)
def rows (ts:Ts) (p:Str):List Nat:=((Qs ts.length).filter fun i=>decide (frm ts i=p)).reverse
theorem Zl3 (ts:Ts) (p:Str):(rows ts p).Nodup:=(Um _).nodup_iff.mpr (WH.filter _)
theorem ZjD (ts:Ts) (p:Str) (i:Nat):i∈rows ts p↔i<ts.length/\frm ts i=p:=by
 unfold rows;rw[Ut,QB,QM,decide_eq_true_eq]
def wlk (ts:Ts):Nat->(Str->List Nat)->Str->List Nat->List Nat->List Nat
 | 0,_,_,_,B=>B
 | n+1,r,pt,G,B=>match (r pt).getLast? with
  | some i=>wlk ts n (Zi6 r pt (r pt).dropLast) (tow ts i) (G++[i]) B
  | none=>match G.getLast? with
   | some i=>wlk ts n r (frm ts i) G.dropLast (B++[i])
   | none=>B
theorem Zgk {ts:Ts} {X:List Nat} (e:r pt=X++[i]):wlk ts (n+1) r pt G B=wlk ts n (Zi6 r pt X) (tow ts i) (G++[i]) B:=by
 rw[wlk,e];simp
theorem Zja {ts:Ts} {X:List Nat} (e:r pt=[]):wlk ts (n+1) r pt (X++[i]) B=wlk ts n r (frm ts i) X (B++[i]):=by
 rw[wlk,e];simp
theorem Zjb {ts:Ts} (e:r pt=[]):wlk ts n r pt [] B=B:=by
 cases n with
 | zero=>rfl
 | succ n=>rw[wlk,e];rfl
def wayX (ts:Ts) (b:Str):List Nat:=(wlk ts (2*ts.length) (rows ts) b [] []).reverse
theorem WI.len {ts:Ts} {b:Str} (h:WI ts b pt r G B):G.length+B.length<=ts.length:=by
 have:=Zh0 (ks:=Qs ts.length) h.nd fun x hx=>QM.mpr (h.lt x hx);rw[Qp,Q4]at this;exact this
theorem WI.in_len {ts:Ts} {b:Str} (h:WI ts b pt r G B) (p:Str):(r p).length<=ts.length:=by
 have:=Zh0 (ks:=Qs ts.length) (h.rnd p) fun x hx=>QM.mpr ((h.row p x).mp hx).1;rw[Q4]at this;exact this
def JW (ks:List Str) (f:Str->Int):Int:=(ks.map f).sum
theorem ZK (k:Str) (ks:List Str) (f:Str->Int):JW (k::ks) f=f k+JW ks f:=by
 unfold JW;rw[Qj,Qy]
theorem Zjj (ks:List Str) (f g:Str->Int):JW ks (fun p=>f p+g p)=JW ks f+JW ks g:=by
 induction ks with
 | nil=>rfl
 | cons k ks ih=>rw[ZK,ZK,ZK,ih];omega
theorem Zbp (ks:List Str) (f g:Str->Int):JW ks (fun p=>f p-g p)=JW ks f-JW ks g:=by
 induction ks with
 | nil=>rfl
 | cons k ks ih=>rw[ZK,ZK,ZK,ih];omega
theorem Zbq {f g:Str->Int} (h:∀ p∈ks,f p<=g p):JW ks f<=JW ks g:=by
 induction ks with
 | nil=>exact Ww _
 | cons k ks ih =>
  rw[ZK,ZK];have h1:=h k (Qd ..);have h2:=ih fun p hp=>h p (Qg _ hp);omega
theorem Y4 (ks:List Str):JW ks (fun _=>0)=0:=by
 induction ks with
 | nil=>rfl
 | cons k ks ih=>rw[ZK,ih];omega
theorem Xk {f:Str->Int} (h:∀ p∈ks,0<=f p) {p:Str} (hp:p∈ks):f p<=JW ks f:=by
 induction ks with
 | nil=>cases hp
 | cons k ks ih =>
  rw[ZK];have h0:=h k (Qd ..);have h1:0<=JW ks f:=by
   have:=Zbq (ks:=ks) (f:=fun _=>0) (g:=f) fun p hp=>h p (Qg _ hp);rw[Y4]at this;exact this
  rcases Qx.mp hp with z | z
  ·rw[z];omega
  ·have:=ih (fun p hp=>h p (Qg _ hp)) z;omega
theorem ZcC {f:Str->Int} (h:∀ p∈ks,0<=f p) {p q:Str} (hp:p∈ks) (hq:q∈ks) (hne:p≠q):f p+f q<=JW ks f:=by
 induction ks with
 | nil=>cases hp
 | cons k ks ih =>
  rw[ZK];have hk:∀ p∈ks,0<=f p:=fun p hp=>h p (Qg _ hp);have h0:=h k (Qd ..);rcases Qx.mp hp with z | z
  ·rcases Qx.mp hq with y | y
   ·exact absurd (z.trans y.symm) hne
   ·have:=Xk hk y;rw[z];omega
  ·rcases Qx.mp hq with y | y
   ·have:=Xk hk z;rw[y];omega
   ·have:=ih hk z y;omega
theorem Zbi {a p:Str} (h:p≠a):dl a p=0:=if_neg fun e=>h e.symm
theorem ZdI (nd:ks.Nodup) {a:Str} (h:a∈ks):JW ks (dl a)=1:=by
 induction ks with
 | nil=>cases h
 | cons k ks ih =>
  have nd':=QW.mp nd;rw[ZK];rcases Qx.mp h with z | z
  ·subst z;have:JW ks (dl a)=0:=by
    have e:∀ p∈ks,dl a p=0:=fun p hp=>Zbi fun e=>nd'.1 (e▸hp);have h1:=Zbq (f:=dl a) (g:=fun _=>0) fun p hp=>by rw[e p hp];exact Ww _
    have h2:=Zbq (f:=fun _=>0) (g:=dl a) fun p hp=>by rw[e p hp];exact Ww _
    rw[Y4]at h1 h2;omega
   rw[this,Zcl];omega
  ·rw[ih nd'.2 z,Zbi (fun e:k=a=>nd'.1 (e▸z))];omega
abbrev moT (ts:Ts) (p:Str):Int:=bal ts (Qs ts.length) p
theorem ZgD {ts:Ts} {ks:List Str} (nd:ks.Nodup):∀ X:List Nat,(∀ i∈X,frm ts i∈ks/\tow ts i∈ks)->JW ks (bal ts X)=0
 | [],_=>Y4 ks
 | i::X,h=>by
  obtain⟨h1,h2⟩:=h i (Qd ..);have ih:=ZgD nd X fun j hj=>h j (Qg _ hj);have e:bal ts (i::X)=fun p=>(dl (frm ts i) p-dl (tow ts i) p)+bal ts X p:=funext fun p=>ZY ts i X p;rw[e,Zjj,Zbp,ZdI nd h1,ZdI nd h2,ih];rfl
theorem Zi3 {ts:Ts} {p:Str}:∀ X:List Nat,(∀ i∈X,frm ts i≠p/\tow ts i≠p)->bal ts X p=0
 | [],_=>rfl
 | i::X,h=>by
  obtain⟨h1,h2⟩:=h i (Qd ..);rw[ZY,Zi3 X fun j hj=>h j (Qg _ hj)];unfold dl;rw[if_neg h1,if_neg h2];rfl
def ZbT (x:Int):Int:=if x>0 then x else 0
theorem Zn3 (nd:ks.Nodup) {g:Str->Int} (h0:∀ p∈ks,0<=g p) (h1:JW ks g=1):∃ f∈ks,∀ p∈ks,g p=dl f p:=by
 have:∃ f∈ks,1<=g f:=by
  apply Classical.byContradiction;intro hn;have hz:∀ p∈ks,g p<=0:=fun p hp=>by
   apply Classical.byContradiction;intro c;exact hn ⟨p,hp,by omega⟩
  have:=Zbq (f:=g) (g:=fun _=>0) hz;rw[Y4]at this;omega
 obtain⟨f,hf,hg⟩:=this;refine⟨f,hf,fun p hp=>?_⟩;by_cases c:p=f
 ·subst c;have:=Xk h0 hp;rw[Zcl];omega
 ·have:=ZcC h0 hp hf c;have:=h0 p hp;rw[Zbi c];omega
structure Kp (ts:Ts) (ks:List Str):Prop where
 nd:ks.Nodup
 mem:∀ p,p∈ks↔∃ i,i<ts.length/\(frm ts i=p\/tow ts i=p)
theorem Kp.out {ts:Ts} (h:Kp ts ks) {p:Str} (hp:p∉ks):moT ts p=0 :=
 Zi3 _ fun i hi=>⟨fun e=>hp ((h.mem p).mpr ⟨i,QM.mp hi,.inl e⟩),fun e=>hp ((h.mem p).mpr ⟨i,QM.mp hi,.inr e⟩)⟩
theorem Kp.total {ts:Ts} (h:Kp ts ks):JW ks (moT ts)=0 :=
 ZgD h.nd _ fun i hi=>⟨(h.mem _).mpr ⟨i,QM.mp hi,.inl rfl⟩,(h.mem _).mpr ⟨i,QM.mp hi,.inr rfl⟩⟩
theorem ZmR {ts:Ts} {b:Str} {M:Int} (h:Kp ts ks) (hb:b∈ks) (hs:JW ks (fun p=>ZbT (moT ts p))<=1) (hM:M∈ks.map (moT ts)) (hle:∀ x∈ks.map (moT ts),x<=M) (h1:M=1->moT ts b=1) (hr:∀ p∈ks,RchT ts b p):ZlF ts b:=by
 have hpos:∀ p∈ks,0<=ZbT (moT ts p):=fun p _=>by unfold ZbT;split <;> omega
 have hle':∀ p∈ks,moT ts p<=M:=fun p hp=>hle _ (List.mem_map_of_mem hp);have tot:=h.total;refine⟨?_,fun i hi=>hr _ ((h.mem _).mpr ⟨i,hi,.inl rfl⟩)⟩;by_cases c:M<=0
 ·refine⟨b,fun p=>?_⟩;show moT ts p=_;rw[Int.sub_self];by_cases hp:p∈ks
  ·have hn:∀ q∈ks,0<=(fun q=>0-moT ts q) q:=fun q hq=>by have:=hle' q hq;show 0<=0-moT ts q;omega
   have:=Xk hn hp;rw[Zbp,Y4,tot]at this;have h2:=hle' p hp;have h3:0-moT ts p<=0-0:=this;omega
  ·exact h.out hp
 ·obtain⟨p0,hp0,e0⟩:=Qr.mp hM;have hM1:M=1:=by
   have:=Xk hpos hp0;have e:ZbT (moT ts p0)=M:=by rw[e0];unfold ZbT;rw[if_pos (by omega)]
   have h4:ZbT (moT ts p0)<=1:=U9 this hs;rw[e]at h4;omega
  have hb1:=h1 hM1;have eb:ZbT (moT ts b)=1:=by rw[hb1];rfl
  have hoth:∀ p∈ks,p≠b->moT ts p<=0:=fun p hp hne=>by
   have:=ZcC hpos hp hb hne;have h4:ZbT (moT ts p)+ZbT (moT ts b)<=1:=U9 this hs;rw[eb]at h4;apply Classical.byContradiction;intro c2;have:ZbT (moT ts p)=moT ts p:=by unfold ZbT;rw[if_pos (by omega)]
   omega
  obtain⟨f,hf,hg⟩:=Zn3 h.nd (g:=fun p=>dl b p-moT ts p) (fun p hp=>by
   show 0<=dl b p-moT ts p;by_cases c2:p=b
   ·subst c2;rw[Zcl,hb1];decide
   ·have:=hoth p hp c2;rw[Zbi c2];omega) (by rw[Zbp,ZdI h.nd hb,tot];rfl)
  refine⟨f,fun p=>?_⟩;show moT ts p=_;by_cases hp:p∈ks
  ·have:dl b p-moT ts p=dl f p:=hg p hp;omega
  ·rw[h.out hp,Zbi (fun e:p=b=>hp (e▸hb)),Zbi (fun e:p=f=>hp (e▸hf))];rfl
def ZH (es:Es):List Str:=es.flatMap fun e=>QK e.2.toNat e.1
def tsE (es:Es):Ts:=(ZH es).map fun x=>(bg x,en x)
theorem Zbh (e:Str×Int) (es:Es):ZH (e::es)=QK e.2.toNat e.1++ZH es:=by
 unfold ZH;rw[List.flatMap_cons]
theorem Zgb (es:Es) (e:Str×Int):ZH (es++[e])=ZH es++QK e.2.toNat e.1:=by
 unfold ZH;rw[RA];simp
theorem X0 (hp:∀ e∈es,1<=e.2) (x:Str):x∈ZH es↔∃ e∈es,e.1=x:=by
 unfold ZH;rw[R4];constructor
 ·rintro⟨e,he,h⟩;exact⟨e,he,(UD.mp h).2.symm⟩
 ·rintro⟨e,he,h⟩;have:=hp e he;exact⟨e,he,UD.mpr ⟨by omega,h.symm⟩⟩
theorem Y3 (es:Es):(tsE es).length=(ZH es).length:=by unfold tsE;rw[Qc]
theorem Zko (h:i<(ZH es).length):frm (tsE es) i=bg ((ZH es).getD i ""):=by
 unfold frm tsE;rw[Qb,Qk,Qa h,Qb,Qa h];rfl
theorem Zjf (h:i<(ZH es).length):tow (tsE es) i=en ((ZH es).getD i ""):=by
 unfold tow tsE;rw[Qb,Qk,Qa h,Qb,Qa h];rfl
theorem Zfk {l:List Str} (h:i<l.length):l.getD i ""∈l:=by
 rw[Qb,Qa h];exact QF h
theorem Ze6 {l:List Str} {x:Str} (h:x∈l):∃ i,i<l.length/\l.getD i "" = x:=by
 obtain⟨i,hi,e⟩:=WP h;refine⟨i,hi,?_⟩;rw[Qb,Qa hi];exact e
theorem Zfw (ts:Ts) (p:Str):∀ n,n<=ts.length->bal ts (Qs n) p=((ts.take n).map fun t=>dl t.1 p-dl t.2 p).sum
 | 0,_=>by simp[ZaI]
 | n+1,h=>by
  rw[WV,Xw,Zfw ts p n (by omega),ZY,ZaI,QY (by omega),QG,WU];unfold frm tow;rw[Qb,Qa (by omega)];simp
theorem ZlP (n:Nat) (c:Int):(QK n c).sum=n*c:=by
 induction n with
 | zero=>simp
 | succ n ih =>
  rw[Wu,Qy,ih,Int.natCast_add,Ri];omega
theorem Zpo (h0:∀ e∈es,0<=e.2) (p:Str):moT (tsE es) p=mo es p:=by
 unfold moT;rw[Zfw _ _ _ (Qi _),WS];induction es with
 | nil=>rfl
 | cons e es ih =>
  have h1:=h0 e (Qd ..);unfold tsE;rw[Zbh,QG,QG,WU,RJ,RJ,ZlP,Zaq];have:=ih fun e he=>h0 e (Qg _ he);unfold tsE at this;rw[this];unfold mo1 dl ind;rw[UW h1,Int.mul_sub]
theorem ZpC (hp:∀ e∈es,1<=e.2) (P y:Str):ZoO (tsE es) P y↔Adj es P y:=by
 unfold ZoO Adj;constructor
 ·rintro⟨i,hi,q⟩;rw[Y3]at hi;rw[Zko hi,Zjf hi]at q;obtain⟨e,he,h⟩:=(X0 hp _).mp (Zfk hi);rw[←h]at q;exact⟨e,he,q⟩
 ·rintro⟨e,he,q⟩;obtain⟨i,hi,h⟩:=Ze6 ((X0 hp e.1).mpr ⟨e,he,rfl⟩);refine⟨i,by rw[Y3];exact hi,?_⟩;rw[Zko hi,Zjf hi,h];exact q
theorem Zpd (hp:∀ e∈es,1<=e.2) {a:Str} (h:Rch es a y):RchT (tsE es) a y:=by
 induction h with
 | here=>exact .here
 | step _ k ih=>exact .step ih ((ZpC hp _ _).mpr k)
theorem Adj.symm {P:Str} (h:Adj es P y):Adj es y P:=by
 obtain⟨e,he,q⟩:=h;exact⟨e,he,q.symm.imp (fun z=>⟨z.2,z.1⟩) fun z=>⟨z.2,z.1⟩⟩
theorem Rch.trans {a b c:Str} (h:Rch es a b) (k:Rch es b c):Rch es a c:=by
 induction k with
 | here=>exact h
 | step _ j ih=>exact .step ih j
theorem Rch.symm {a b:Str} (h:Rch es a b):Rch es b a:=by
 induction h with
 | here=>exact .here
 | step _ k ih=>exact Rch.trans (.step .here k.symm) ih
theorem ZkY (f:Str->Int):∀ ss:List Str,sm (ups f ss)=JW ss fun p=>ZbT (f p)
 | []=>rfl
 | x::ss=>by
  rw[Zbm,ZK,ZkY f ss];rfl
theorem Ziw:∀ l:List Int,l≠[]->∃ M∈l,∀ x∈l,x<=M
 | [],h=>absurd rfl h
 | [x],_=>⟨x,by simp,fun y hy=>by rw[Qm.mp hy];exact Ww _⟩
 | x::y::l,_=>by
  obtain⟨M,h1,h2⟩:=Ziw (y::l) (by simp);by_cases c:M<=x
  ·refine⟨x,by simp,fun z hz=>?_⟩;rcases Qx.mp hz with e | e
   ·rw[e];exact Ww _
   ·exact U9 (h2 z e) c
  ·refine⟨M,Qg _ h1,fun z hz=>?_⟩;rcases Qx.mp hz with e | e
   ·rw[e];omega
   ·exact h2 z e
def Y5 (e0:Str×Int) (us:Es):Str:=match us with | []=>bg e0.1 | u::_=>u.1
theorem Zov {e0:Str×Int} {es0:Es} {ss:List Str} (hp:∀ e∈e0::es0,1<=e.2) (nd:ss.Nodup) (mem:∀ p,p∈ss↔∃ e∈e0::es0,bg e.1=p\/en e.1=p)
  (hs:sm (ups (mo (e0::es0)) ss)<=1) (hh:∀ e∈e0::es0,Rch (e0::es0) (bg e0.1) (bg e.1)):ZlF (tsE (e0::es0)) (Y5 e0 (ups (mo (e0::es0)) ss)):=by
 have h0:∀ e∈e0::es0,0<=e.2:=fun e he=>by have:=hp e he;omega
 have emo:moT (tsE (e0::es0))=mo (e0::es0):=funext fun p=>Zpo h0 p;have hin:e0∈e0::es0:=Qd ..;generalize e0::es0=es at *;have hK:Kp (tsE es) ss:=⟨nd,fun p=>by
  rw[mem];constructor
  ·rintro⟨e,he,q⟩;obtain⟨i,hi,h⟩:=Ze6 ((X0 hp e.1).mpr ⟨e,he,rfl⟩);refine⟨i,by rw[Y3];exact hi,?_⟩;rw[Zko hi,Zjf hi,h];exact q
  ·rintro⟨i,hi,q⟩;rw[Y3]at hi;rw[Zko hi,Zjf hi]at q;obtain⟨e,he,h⟩:=(X0 hp _).mp (Zfk hi);rw[←h]at q;exact⟨e,he,q⟩⟩
 have h0b:bg e0.1∈ss:=(mem _).mpr ⟨e0,hin,.inl rfl⟩;have hall:∀ p∈ss,Rch es (bg e0.1) p:=fun p hpp=>by
  obtain⟨e,he,q⟩:=(mem p).mp hpp;rcases q with q | q
  ·rw[←q];exact hh e he
  ·exact .step (hh e he) ⟨e,he,.inl ⟨rfl,q⟩⟩
 obtain⟨M,hM,hMx⟩:=Ziw (ss.map (mo es)) (fun z=>by rw[RB]at z;rw[z]at h0b;cases h0b);have hs':JW ss (fun p=>ZbT (moT (tsE es) p))<=1:=by rw[emo,←ZkY];exact hs
 have hst:Y5 e0 (ups (mo es) ss)∈ss/\(M=1->mo es (Y5 e0 (ups (mo es) ss))=1):=by
  cases hu:ups (mo es) ss with
  | nil =>
   refine⟨h0b,fun e=>?_⟩;obtain⟨p,hpp,ep⟩:=Qr.mp hM;have:(p,mo es p)∈ups (mo es) ss:=Qr.mpr ⟨p,QB.mpr ⟨hpp,decide_eq_true (by omega)⟩,rfl⟩;rw[hu]at this;cases this
  | cons u us =>
   have hm:u∈ups (mo es) ss:=by rw[hu];exact Qd ..
   obtain⟨p,hpp,ep⟩:=Qr.mp hm;obtain⟨h1,h2⟩:=QB.mp hpp;have h3:=of_decide_eq_true h2;have e1:Y5 e0 (u::us)=p:=by rw[←ep];rfl
   rw[e1];refine⟨h1,fun _=>?_⟩;have:=Xk (f:=fun p=>ZbT (moT (tsE es) p)) (fun p _=>by show 0<=ZbT _;unfold ZbT;split <;> omega) h1;have h5:ZbT (moT (tsE es) p)=mo es p:=by rw[emo];unfold ZbT;rw[if_pos (by omega)]
   have h6:ZbT (moT (tsE es) p)<=1:=U9 this hs';omega
 refine ZmR hK hst.1 hs' (M:=M) (by rw[emo];exact hM) (by rw[emo];exact hMx) (fun e=>by rw[emo];exact hst.2 e) fun p hpp=>?_;exact Zpd hp ((hall _ hst.1).symm.trans (hall p hpp))
def lst (x:Str):Nat:=x.cps.toList.getLastD 0
theorem ZoH {x:Str} (h:1<=x.length):x.cps.toList=(bg x).cps.toList++[lst x]:=by
 unfold bg lst;rw[ZV];rcases WW x.cps.toList with e | ⟨l,c,e⟩
 ·rw[←XX,e]at h;simp at h
 ·rw[WX]at e;rw[e];simp
def ZcF (es:Es) (b:Str) (X:List Nat):List Nat:=b.cps.toList++X.map fun i=>lst ((ZH es).getD i "")
end Sh
namespace L2
open PySem PySem.Spec PyProof.Rows PySem.W
def Zni (hi:Int) (n:Nat):It:=⟨fun i _=>i<n,fun i H x H'=>H'=H/\x= .int (hi-i),fun i _=>n<=i⟩
theorem ZdE {P:Program} {w:World} {K:PySem.W.Frag} {tg:Expr} (it:Addr) (hi:Int) (n:Nat):ZkE P w K tg (Zni hi n) [it] it (fun i h=>IsRangeIter h it (hi+(i:Nat)*(-1)) ((n:Int)-(i:Nat)) (-1)) where
 mem:=by simp
 obj:=fun i h st b hb=>by
  have e:b=it:=by simpa using hb
  subst e;exact⟨_,st,fun v z=>by
   have z':Data.fields _=Data.cell v:=z;cases z'⟩
 keep:=fun i h h' st k=>k it (by simp) _ st
 item:=by
  intro X hP hw hK hc i pins s σ H E I hf st hg;subst hP hw hK;obtain⟨f0,f1,f2,f3,f4,f5⟩:=hf it (by simp);have W:=Walks.range (prog:=X.prog) (w:=X.w) (I.ok.hd hc) it hi (-1) n;refine W.item i s _ _ hg st fun v h' tk hv st' kk=>?_;obtain⟨t,rfl⟩:=hv;have I1:Inv X pins σ H {s with heap:=h',toks:=tk}:=I.turned (fun b o hb e=>kk b o (by simpa using hb) e) f0 f1 f3 f4 f5;refine⟨_,rfl,Ziz (s:={s with heap:=h',toks:=tk}) (n:="range_iterator") st' rfl rfl (by decide) ⟨.int (hi-i),H,I1,⟨t,?_⟩,⟨rfl,rfl⟩,st',fun b hb=>(hf b hb).1⟩⟩;rw[show hi+(i:Int)*(-1)=hi-i by omega]
 done:=by
  intro X hP hw hK hc i pins s σ H E I hf st hg;subst hP hw hK;obtain⟨f0,f1,f2,f3,f4,f5⟩:=hf it (by simp);exact wpAny_pyNext_range_end (I.ok.hd hc) st (by have:n<=i:=hg;omega) fun h' eb=>⟨rfl,I.turned (t':=s.toks) (fun b o hb e=>eb b o hb e) f0 f1 f3 f4 f5⟩
 self:=fun _ _ _ _ _ st h=>wpAny_pyIter_rangeiter st h
section
variable {X:Cx} {tg:Expr}
theorem Zhr {pins:List (Addr×Obj)} {σ:St} {H:Hp} {s:Shared} {R:It->Hp->Prop} {E:Value->Shared->Prop} {lo hi:Int} {t u v:Tok} {tk:Nat} (I:Inv X pins σ H s) (h1 : -(2 ^ 62)<=lo) (h2:lo<2 ^ 62) (h3 : -(2 ^ 62)<=hi) (h4:hi<2 ^ 62)
  (q:R (Zni lo (lo-hi).toNat) H):wpAny (model X.prog X.w) X.A (pyIter (.ref s.heap.objs.size)) (PIE X pins σ tg R) E {s with heap:=s.heap.push {cls:=.type "range",data:=.fields #[.int lo t,.int hi u,.int (-1) v]},toks:=tk}:=by
 refine wpAny_pyIter_range (IsRange.new ..) (small_down h1 h2 h3 h4) ?_;have I1:Inv X pins σ H {s with heap:=s.heap.push {cls:=.type "range",data:=.fields #[.int lo t,.int hi u,.int (-1) v]},toks:=tk}:=I.kept fun b o e=>Qh _ e;refine⟨(s.heap.push {cls:=.type "range",data:=.fields #[.int lo t,.int hi u,.int (-1) v]}).objs.size,[(s.heap.push {cls:=.type "range",data:=.fields #[.int lo t,.int hi u,.int (-1) v]}).objs.size],_,_,H,rfl,
  I1.kept (t':=tk) fun b o e=>Qh _ e,ZdE _ lo (lo-hi).toNat,?_,fun b hb=>?_,q⟩
 ·have e1:lo+((0:Nat):Int)*(-1)=lo:=by simp
  have e2:(((lo-hi).toNat:Nat):Int)-((0:Nat):Int)=Builtin.Range.rangeSize lo hi (-1):=by rw[rangeSize_downNat];omega
  show IsRangeIter _ _ (lo+((0:Nat):Int)*(-1)) ((((lo-hi).toNat:Nat):Int)-((0:Nat):Int)) (-1);rw[e1,e2];exact Qz _ rfl
 ·have e:b=(s.heap.push {cls:=.type "range",data:=.fields #[.int lo t,.int hi u,.int (-1) v]}).objs.size:=by simpa using hb
  subst e;exact I1.fpOk (Qi _) (I1.hok.fresh (Qi _))
def Zpq (ta:TA):TI:=fun σ H R=>ta σ H fun vs H1=>∃ i j:Int,vs=[.int i,.int j,.int (-1)]/\(-(2 ^ 62)<=i/\i<2 ^ 62/\-(2 ^ 62)<=j/\j<2 ^ 62)/\R (Zni i (i-j).toNat) H1
theorem ZhD {a:Expr} {rs:List Expr} {ta:TA} {p pos:Pos} (hg:Gl X "range") (hm:X.mg "range" = none) (ha:PA X (a::rs) ta) (hs:starEach (a::rs) X.env=(false,eval a X.env)::starEach rs X.env:=by rfl) (hpl:(backTo pos (starEach rs X.env)).any (·.1)=false:=by rfl):PI X tg (.Call (.Name "range" p) (a::rs) [] pos) (Zpq ta):=by
 intro pins s σ H R I h;refine Call_ (Zat I hg hm boot_range (PyProof.Rows.callWith_type1 (thn (ha pos pins s σ H _ I h) fun us s1 ⟨vs,H1,I1,r1,q1⟩=>?_) hs hpl));obtain⟨i,j,e,⟨q1,q2,q3,q4⟩,q⟩:=q1;subst e;cases r1 with
 | cons r rr =>
  cases rr with
  | cons r' rr =>
   cases rr with
   | cons r'' rr =>
    cases rr;obtain⟨t,rfl⟩:=r;obtain⟨t',rfl⟩:=r';obtain⟨t'',rfl⟩:=r'';exact call_range_3 (by decide) (Zhr I1 q1 q2 q3 q4 q) (.inl (PyProof.noPylong_of_log2 (by decide +kernel)))
theorem Zf9 {lo:Int} {n:Nat} {g:TG} {tb:TS} {D:Zev} {σ:St} {H:Hp} (Pv:Nat->St->Hp->Prop) (h0:Pv 0 σ H)
  (hs:∀ i σ H,i<n->Pv i σ H->g (.int (lo-i)) σ H fun σ2 H2=>tb {D with nx:=Pv (i+1),ct:=Pv (i+1),bk:=D.nx} σ2 H2) (hd:∀ σ H,Pv n σ H->D.nx σ H) :
  ∃ W:Nat->Nat->St->Hp->Prop,(∃ m,W 0 m σ H)/\∀ i m σ H,W i m σ H ->
   ((Zni lo n).stop i H/\D.nx σ H)\/((Zni lo n).go i H/\∃ N:St->Hp->Prop,(∀ σ' H',N σ' H'->∃ m',m'<m/\W (i+1) m' σ' H')/\∀ x H',(Zni lo n).yld i H x H'->g x σ H' fun σ2 H2=>tb {D with nx:=N,ct:=N,bk:=D.nx} σ2 H2):=by
 refine⟨fun i m σ H=>m=n-i/\i<=n/\Pv i σ H,⟨n,by simp,QL _,h0⟩,?_⟩;rintro i m σ H ⟨rfl,hi,p⟩;by_cases hlt:i<n
 ·refine .inr ⟨hlt,Pv (i+1),fun σ' H' p'=>⟨n-(i+1),by omega,rfl,hlt,p'⟩,fun x H' y=>?_⟩;obtain⟨e,y⟩:=y;subst e y;exact hs i σ _ hlt p
 ·have e:i=n:=by omega
  subst e;exact .inl ⟨Qi _,hd σ H p⟩
theorem Vals.rev {xs:List V} {us:List Value} (r:Vals xs us):Vals xs.reverse us.reverse:=by
 induction r with
 | nil=>exact .nil
 | cons h t ih =>
  rw[U4,U4];exact Vals.append ih (.cons h .nil)
def ZpZ (K:PySem.W.Frag) (te ts:TE):TE:=fun σ H Q=>te σ H fun x H1=>ts σ H1 fun y H2=>∃ a xs,x= .ref a/\SqL K H2 a xs/\y= .int (-1)/\∀ p,H2 p=none->Q (.ref p) (upd H2 p (.lst xs.reverse))
theorem ZnU {e st:Expr} {te ts:TE} {p2 pos:Pos} (he:PE X e te) (hs:PE X st ts):PE X (.Subscript e (.Slice none none (some st) p2) pos) (ZpZ X.K te ts):=by
 intro pins s σ H Q I h;refine Subscript_ (thn (he pins s σ H _ I h) fun v s1 ⟨x,H1,I1,r1,q1⟩=>?_);refine wpAny_Slice ?_;rw[evalPart_none];refine wpAny_pure (wpAny_pure ?_);rw[evalPart_some];refine thn (hs pins s1 σ H1 _ I1 q1) fun vs s3 ⟨y,H3,I3,ry,q3⟩=>?_;obtain⟨a,xs,rfl,hx,rfl,q⟩:=q3;obtain⟨t,rfl⟩:=ry;cases r1;have I4:Inv X pins σ H3 {s3 with heap:=s3.heap.push {cls:=.type "slice",data:=.fields #[.none,.none,.int (-1) t]}}:=I3.kept (t':=s3.toks) fun b ob q=>Qh _ q;obtain⟨its,r,ht,hz⟩:=I4.list hx;have hlen:=r.length;refine tail_any (ops:=[.ref a,.ref s3.heap.objs.size]) ht.isList.typeIs slot_list_getitem.lookup ?_ (by with_unfolding_all rfl);refine wpAny_getItem_list_slice ht.isList (Heap.IsSliceOf.new ..) .none .none (.int (-1) t) (by decide) ?_ (by rw[Qu] <;> omega);rw[krv_pick];have hv:=r.rev;refine⟨.ref _,_,I4.laid (t':=s3.toks) (o:=.lst xs.reverse) (fun b ob q=>Qh _ q) (Qi _) ?_,rfl,q _ (I4.hok.fresh (Qi _))⟩;exact⟨by rw[UX];omega,_,0,hv,Qz _ rfl⟩
theorem Zkx:CallR X (.type "range") (fun xs H Q=>∃ j:Int,xs=[.int j]/\∀ p,H p=none->Q (.ref p) (upd H p (.rng 0 j))):=by
 intro pins s σ H xs us Q I r h;obtain⟨j,rfl,q⟩:=h;obtain⟨u,rfl,t,rfl⟩:=YT r;refine call_range_1 ?_;exact⟨.ref _,_,I.laid (t':=s.toks+1+1) (o:=.rng 0 j) (fun b ob q=>Qh _ q) (Qi _) ⟨_,_,_,Qz _ rfl⟩,rfl,q _ (I.hok.fresh (Qi _))⟩
theorem Zgf (hc:X.calm=true):CallR X (.type "list") (fun xs H Q=>∃ (p:Addr) (n:Nat),xs=[.ref p]/\H p=some (.rng 0 n)/\n<=1000/\∀ l,H l=none->Q (.ref l) (upd H l (.lst ((Qs n).map fun(i:Nat)=>V.int i)))):=by
 intro pins s σ H xs us Q I r h;obtain⟨p,n,rfl,hp,hn,q⟩:=h;obtain⟨u,rfl,ru⟩:=YT r;cases ru;obtain⟨t,u,v,ho⟩:=(show ObjOk X.prog X.w H s.heap p (.rng 0 n)from I.hok p _ hp)
 refine call_list_range (n:=n) (I.ok.hd hc) (show IsRange s.heap p 0 n 1 t u v from ho) (small_one (by decide) (by decide) (by omega) (by omega)) (by rw[rangeSize_one];split <;> omega) (by omega) fun h' tk acc c hk hD hA=>?_;have hv:Vals ((Qs n).map fun(i:Nat)=>V.int i) acc.toList:=by
  have hl:acc.toList.length=n:=by rw[QC];exact hA.1
  have key:∀ (k:Nat) (l:List Value) (o:Nat),l.length=k->(∀ (i:Nat) (v:Value),l[i]?=some v->∃ t,v= .int ((o+i:Nat):Int) t)->Vals ((Wx o k).map fun(i:Nat)=>V.int i) l:=by
   intro k;induction k with
   | zero =>
    intro l o e _;rw[Wo.mp e];exact .nil
   | succ k ih =>
    intro l o e hh;match l,e with
    | v::l,e =>
     rw[R5,Qj];refine .cons ?_ (ih l (o+1) (by simpa using e) fun i w hw=>?_)
     ·obtain⟨t,e⟩:=hh 0 v rfl;exact⟨t,by rw[e];rfl⟩
     ·obtain⟨t,e⟩:=hh (i+1) w (by simpa using hw);exact⟨t,by rw[e];congr 2;omega⟩
  rw[UR];refine key n _ 0 hl fun i v e=>?_;obtain⟨t,e⟩:=hA.2 i v (by rw[←Wl];exact e);exact⟨t,by rw[e];congr 1;omega⟩
 exact⟨.ref s.heap.objs.size,_,I.laid (t':=tk) (o:=.lst ((Qs n).map fun(i:Nat)=>V.int i)) hk (Qi _) ⟨by rw[Qc,Q4];exact J9 hn,acc.toList,c,hv,hD⟩,rfl,q _ (I.hok.fresh (Qi _))⟩
end
end L2
namespace Tim
open PySem PySem.W PyProof.Rows
section
variable {prog:Program} {w:World} {A:Around} {E:Value->Shared->Prop} {s:Shared}
end
end Tim
namespace L2
open PySem PySem.Spec PyProof.Rows PySem.W
open PySem PySem.Spec PyProof.Rows
variable {H:Hp} {a:Addr} {ys:List V}
def SeqAt' (H:Hp) (a:Addr) (ys:List V):Prop:=H a=some (.lst ys)\/H a=some (.tup ys)
theorem SeqAt'.same {H':Hp} (s:Same H H') (h:SeqAt' H a ys):SeqAt' H' a ys:=h.imp (s _ _) (s _ _)
theorem Zid {K:PySem.W.Frag} (h:SeqAt' H a ys):ZpX K (.ref a) H ys.length:=h.elim (fun h=>.inl ⟨_,SqL.of h,rfl⟩) fun h=>.inr ⟨_,SqT.of h,rfl⟩
theorem Zax {X:Cx} (K:PySem.W.Frag) (h:X.K=K:=by rfl):IxR X (rIx K):=by subst h;exact Zor
theorem ZcJ {K:PySem.W.Frag} {i:Int} {v:V} {Q:VK} (h:SeqAt' H a ys) (e:atI ys i=some v) (q:Q v H):rIx K (.ref a) (.int i) H Q :=
 h.elim (fun h=>.inl ⟨a,ys,i,v,rfl,rfl,SqL.of h,e,q⟩) fun h=>.inr (.inl ⟨a,ys,i,v,rfl,rfl,SqT.of h,e,q⟩)
end L2
namespace Sh
variable {P:Program} {w:World} {K:PySem.W.Frag} {mg:Str->Option Value} {base:Heap}
variable {H H':Hp} {as:List Addr} {i k n p:Nat}
abbrev Mat:=List (List Int)
def Sm (n:Nat) (x:Int):Prop:=x.natAbs<2 ^ n
def YC (M:Mat):Option Nat:=M.findIdx? fun r=>decide (r.headD 0≠0)
def Zc9 (r h:List Int) (d:Int):List Int:=(Qs (r.length-1)).map fun j=>(h.headD 0*r.getD (j+1) 0-r.headD 0*h.getD (j+1) 0).fdiv d
def JG (M:Mat) (p:Nat) (d:Int):Mat:=(M.take p++M.drop (p+1)).map fun r=>Zc9 r (M.getD p []) d
def Sq (n:Nat) (M:Mat):Prop:=M.length=n/\∀ r∈M,r.length=n
def SmM (k:Nat) (M:Mat):Prop:=∀ r∈M,∀ x∈r,Sm k x
def FineM:Nat->Mat->Int->Int->Int->Prop
 | 0,M,_,_,W=>M=[]/\W=1
 | 1,M,s,_,W=>∃ x,M=[[x]]/\W=s*x/\(s=1\/s = -1)
 | n+2,M,s,d,W=>Sq (n+2) M/\SmM 3900 M/\Sm 3900 d/\d≠0/\(s=1\/s = -1)/\match YC M with
  | none=>W=0
  | some p=>FineM (n+1) (JG M p d) (if p % 2=0 then s else -s) ((M.getD p []).headD 0) W
theorem Sm.mul {a b:Nat} {x y:Int} (h:Sm a x) (k:Sm b y):Sm (a+b) (x*y):=by
 unfold Sm at *;rw[Vh,Nat.pow_add];exact Nat.mul_lt_mul'' h k
theorem Sm.up {a b:Nat} {x:Int} (h:Sm a x) (hab:a<=b):Sm b x:=QN h (Rr (by decide) hab)
theorem Sm.one (a:Nat) (h:1<=a):Sm a 1:=by
 have:Sm 1 1:=by unfold Sm;decide
 exact this.up h
open PySem L2 PyProof.Rows
seal L2.PE L2.PS L2.PSs L2.PT L2.PW L2.PA L2.PI L2.PG L2.PGs L2.PO L2.PC L2.PCs L2.OpR L2.UnR L2.CallR L2.MtR L2.IxR L2.SlR
def top (i:Nat):Stmt:=PySem.Challenge.pw_shredjoin_k74_bags.main.body.getD i (.Pass ⟨0,0,0,0⟩)
structure Blt (mg:Str->Option Value):Prop where
 isi:mg "isinstance" = none
 int:mg "int" = none
 bool:mg "bool" = none
 len:mg "len" = none
 range:mg "range" = none
 list:mg "list" = none
 tuple:mg "tuple" = none
 enum:mg "enumerate" = none
 sum:mg "sum" = none
 sorted:mg "sorted" = none
 set:mg "set" = none
 max:mg "max" = none
 min:mg "min" = none
 rev:mg "reversed" = none
 zip:mg "zip" = none
 str:mg "str" = none
 dict:mg "dict" = none
 all:mg "all" = none
 letters:∃ t,mg "LETTERS" = some (.str "abcdefghijklmnopqrstuvwxyz" t)
 most:∃ t,mg "MOST_SIGNS" = some (.int 300 t)
structure RowsL (H:Hp) (as:List Addr) (M:Mat):Prop where
 len:as.length=M.length
 row:∀ i a,as[i]?=some a->H a=some (.lst ((M.getD i []).map V.int))
theorem RowsL.same {M:Mat} (s:Same H H') (h:RowsL H as M):RowsL H' as M:=⟨h.len,fun i a e=>s _ _ (h.row i a e)⟩
theorem Xu (m:List Int) (h:m≠[]):atI (m.map V.int) 0=some (V.int (m.headD 0)):=by
 cases m with
 | nil=>exact absurd rfl h
 | cons a r=>exact YI (by decide) rfl
theorem Ziu {M:Mat} (hi:i<M.length) (h:(M.getD i []).headD 0≠0) (hb:∀ j,j<i->(M.getD j []).headD 0=0):YC M=some i:=by
 unfold YC;rw[Wn];refine⟨hi,?_,fun j hj=>?_⟩
 ·have e:M.getD i []=M[i]:=by rw[Qb,Qa hi];rfl
  rw[e]at h;exact decide_eq_true h
 ·have hj':j<M.length:=by omega
  have e:M.getD j []=M[j]:=by rw[Qb,Qa hj'];rfl
  have:=hb j hj;rw[e]at this;rw[this];decide
theorem Ziv {M:Mat} (hb:∀ j,j<M.length->(M.getD j []).headD 0=0):YC M=none:=by
 unfold YC;rw[UA];intro r hr;obtain⟨j,hj,e⟩:=List.mem_iff_getElem.mp hr;have:=hb j hj;rw[Qb,Qa hj]at this;have:r.headD 0=0:=by rw[←e];exact this
 rw[this];decide
def Zkj (M:Mat):V:=match YC M with
 | none=>.non
 | some p=>.int p
abbrev Y8:Stmt:=top 11
abbrev Zc5:List Str:=["rows","place","row"]
theorem scPlaceOfHead:Zm Zc5 ["rows"] (Zg Y8):=⟨rfl,rfl,rfl,by decide +kernel,rfl,by decide +kernel,by decide +kernel⟩
def ZkV:Sp:=fun vs H Q _=>∃ (r:Addr) (as:List Addr) (M:Mat),vs=[.ref r]/\H r=some (.lst (as.map V.ref))/\RowsL H as M/\(∀ m∈M,m≠[])/\∀ H',Same H H'->Q (Zkj M) H'
theorem JF (D:HasDef K mg "place_of_head" Y8 ["rows"]) (B:Blt mg):FOk P w K mg base 1 "place_of_head" ["rows"] ZkV:=by
 refine D.ok scPlaceOfHead (fun vs H Q E h=>?_) (fun f cdv A outer s H vs Q E hr h=>?_)
 ·obtain⟨r,as,M,rfl,_⟩:=h;rfl
 ·obtain⟨r,as,M,rfl,hr1,hR,hM,k⟩:=h;refine⟨_,(Ze (Z4 PassesOwn.never rfl (Zme rfl B.enum (Za (pv 0) Zd)) (Z7 2 K rfl (Zv (Zy (i:=1) scPlaceOfHead.nd rfl (.inl rfl)) (Zv (Zy (i:=2) scPlaceOfHead.nd rfl (.inl rfl)) Z6)))
    (Zh (ZE (Zo ZaM (Zw ix_list (pv 2) Zf (fun _ _=>rfl)) Zf (Zr _)) (Zh (Zn (pv 1))) Zs)))
   (Zh (Zn YF))),?_⟩
  refine⟨_,rfl,r,rfl,⟨_,SqL.of hr1⟩,?_⟩;refine Zkp (K:=K) (a:=r) (xs:=as.map V.ref) (fun i σ H2=>Same H H2/\(∃ z1 z2:Option V,σ=[some (.ref r),z1,z2])/\∀ j,j<i->(M.getD j []).headD 0=0) ⟨Same.refl _,⟨none,none,rfl⟩,fun j hj=>absurd hj (Ve _)⟩ (fun i σ H2 _ ⟨s2,_,_⟩=>SqL.of (s2 _ _ hr1)) ?_ ?_
  ·rintro i x σ H2 t hx ht ⟨s2,⟨z1,z2,rfl⟩,hp⟩;obtain⟨hi,rfl⟩:=JY hx;have s3:Same H2 (upd H2 t (.tup [.int i,.ref as[i]])):=Zb ht;have hi':i<M.length:=by rw[←hR.len];exact hi
   have hrow:=hR.row i as[i] (Qa hi);have hne:M.getD i []≠[]:=by
    rw[Qb,Qa hi'];exact hM _ (QF hi')
   refine⟨t,[.int i,.ref as[i]],rfl,SqT.of Zc,rfl,?_⟩;refine⟨_,_,rfl,_,_,rfl,rfl,_,rfl,as[i],_,0,_,rfl,rfl,SqL.of (s3 _ _ (s2 _ _ hrow)),Xu _ hne,rfl,_,rfl,Zff (fun e=>?_) (fun e=>?_)⟩
   ·refine⟨_,rfl,?_⟩;have h0:(M.getD i []).headD 0≠0:=by
     intro z;rw[z]at e;simp at e
    have:=k _ (s2.trans s3);unfold Zkj at this;rw[Ziu hi' h0 hp]at this;exact this
   ·refine⟨s2.trans s3,⟨_,_,rfl⟩,fun j hj=>?_⟩;by_cases c:j<i
    ·exact hp j c
    ·have:j=i:=by omega
     subst this;apply Classical.byContradiction;intro z;apply e;have ne:V.int ((M.getD j []).headD 0)≠V.int 0:=fun q=>z (by injection q);show(!decide (V.int ((M.getD j []).headD 0)=V.int 0))=true;rw[decide_eq_false ne];rfl
  ·rintro σ H2 ⟨s2,⟨z1,z2,rfl⟩,hp⟩;have:=k _ s2;unfold Zkj at this;rw[Ziv (fun j hj=>hp j (by rw[Qc,hR.len];exact hj))]at this;exact this
abbrev XR:Stmt:=top 12
abbrev Zc6:List Str:=["row","head","divisor"]
theorem ZfJ:Zm Zc6 ["row","head","divisor"] (Zg XR):=⟨rfl,rfl,rfl,by decide +kernel,rfl,by decide +kernel,by decide +kernel⟩
def ZkU (K:PySem.W.Frag):Sp:=fun vs H Q _=>∃ (a b:Addr) (m h:List Int) (d:Int),vs=[.ref a,.ref b,.int d]/\H a=some (.lst (m.map V.int))/\H b=some (.lst (h.map V.int))/\m.length=h.length/\1<=m.length/\m.length<=31 /\
 (∀ x∈m,Sm 3900 x)/\(∀ x∈h,Sm 3900 x)/\Sm 3900 d/\d≠0/\∀ p H',Same H H'->H p=none->H' p=some (.lst ((Zc9 m h d).map V.int))->Q (.ref p) H'
theorem ZgX {m:List Int} (h:∀ x∈m,Sm k x) {j:Nat} (hj:j<m.length):Sm k (m.getD j 0):=by
 rw[Qb,Qa hj];exact h _ (QF hj)
theorem ZeN {m:List Int} (h:∀ x∈m,Sm k x) (hj:1<=m.length):Sm k (m.headD 0):=by
 cases m with
 | nil=>simp at hj
 | cons a r=>exact h _ (by simp)
theorem ZlB {m:List Int} {j:Nat} {i:Int} (e:i=j) (hj:j<m.length):atI (m.map V.int) i=some (V.int (m.getD j 0)):=by
 subst e;refine YI (by omega) ?_;rw[WD,Qk,Qa hj,Qb,Qa hj];rfl
theorem Sm.big {x:Int} (h:Sm k x) (hk:k<=4000):x.natAbs<2 ^ 4000:=h.up hk
theorem Zd4 (D:HasDef K mg "lessened" XR ["row","head","divisor"]) (B:Blt mg):FOk P w K mg base 1 "lessened" ["row","head","divisor"] (ZkU K):=by
 refine D.ok ZfJ (fun vs H Q E h=>?_) (fun f cdv A outer s H vs Q E hr h=>?_)
 ·obtain⟨a,b,m,h,d,rfl,_⟩:=h;rfl
 ·obtain⟨a,b,m,h,d,rfl,ha,hb,hl,h1,h4,hm,hh,hd,hd0,k⟩:=h;refine⟨_,(Zh (Zn (ZJ (Zg XR) Zc6 ["place"] [0,1,2] rfl (ZcP rfl B.range (Za Zf (Za (Zl ZC rfl B.len Ys (Za (pv 0) Zd)) Zd))) (fun _ _ _ _ _=>Yi 0) (fun _ _ _ _ _=>ZZ) (fun _ _ _ _ _=>(Zq ZeY (Zq Xa (Zq Zal (Zw (YG K) (pv 2) Zf (fun _ _=>rfl)) (Zw (YG K) (pv 1) (pv 0) (fun _ _=>rfl))) (Zq Zal (Zw (YG K) (pv 1) Zf (fun _ _=>rfl)) (Zw (YG K) (pv 2) (pv 0) (fun _ _=>rfl)))) (pv 3)))))),?_⟩;have hne:m≠[]:=fun z=>by rw[z]at h1;simp at h1
  have hne2:h≠[]:=fun z=>by rw[hl,z]at h1;simp at h1
  refine⟨_,rfl,.ref a,_,rfl,.inl ⟨_,SqL.of ha,rfl⟩,1,_,rfl,?_,?_⟩
  ·rw[Qc];refine⟨by decide,by decide,by omega,by omega⟩
  have en:(((m.map V.int).length:Nat)-(1:Int)).toNat=m.length-1:=by rw[Qc];omega
  rw[en];refine Xc (m.length-1) (fun i=>.int (1+(i:Int))) (fun i v _=>v= .int ((h.headD 0*m.getD (i+1) 0-m.headD 0*h.getD (i+1) 0).fdiv d)) (Z2 (by omega)) (fun _ _ _ _ _ r=>r) Zj7 ?_ ?_
  ·intro i H1 Qe hi hs kq;have e1:(1+(i:Int))=((i+1:Nat):Int):=by omega
   have a1:i+1<m.length:=by omega
   have a2:i+1<h.length:=by omega
   refine⟨_,rfl,b,_,0,_,rfl,rfl,SqL.of (hs _ _ hb),Xu _ hne2,_,rfl,_,rfl,a,_,_,_,rfl,rfl,SqL.of (hs _ _ ha),ZlB e1 a1,_,_,rfl,rfl,⟨(ZeN hh (by omega)).big (by decide),(ZgX hm a1).big (by decide)⟩,?_⟩;refine⟨_,rfl,a,_,0,_,rfl,rfl,SqL.of (hs _ _ ha),Xu _ hne,_,rfl,_,rfl,b,_,_,_,rfl,rfl,SqL.of (hs _ _ hb),ZlB e1 a2,_,_,rfl,rfl,⟨(ZeN hm h1).big (by decide),(ZgX hh a2).big (by decide)⟩,?_⟩;exact⟨_,_,rfl,rfl,_,rfl,_,_,rfl,rfl,⟨hd0,hd.big (by decide)⟩,kq _ _ (Same.refl _) rfl⟩
  ·intro D1 vs1 H1 hlv hrv hs1 hD1 hDl;refine k D1 H1 hs1 hD1 ?_;rw[hDl,Zew hlv hrv];unfold Zc9;rw[QV];rfl
theorem Zco {X:Cx} (K:PySem.W.Frag) (h:X.K=K:=by rfl):CallR X (.type "list") (fun xs H Q=>∃ p ys,xs=[.ref p]/\(SqL K H p ys\/SqT K H p ys)/\∀ l,H l=none->Q (.ref l) (upd H l (.lst ys))):=by subst h;exact Zdu
theorem Zkn {α:Type} (l:List α) (p i:Nat) (d:α):(l.take p++l.drop (p+1)).getD i d=if i<p then l.getD i d else l.getD (i+1) d:=by
 rw[Qb,US];by_cases hi:i<p
 ·rw[if_pos hi];by_cases hl:i<l.length
  ·rw[if_pos (by rw[QJ];omega),Ud hi,Qb]
  ·rw[if_neg (by rw[QJ];omega),WM,Ql (by rw[QJ];omega),Qb,Ql (by omega)]
 ·rw[if_neg hi,Qb];by_cases hl:p<=l.length
  ·rw[if_neg (by rw[QJ];omega),WM,QJ,UT hl];congr 2;omega
  ·rw[Ql (by omega:l.length<=i+1)];by_cases c:i<(l.take p).length
   ·rw[QJ]at c;omega
   ·rw[if_neg c,WM,Ql (by omega)]
theorem ZmV {l:List Addr} {a:Addr} (h:(l.take p++l.drop (p+1))[i]?=some a) (hp:p<l.length):l[if i<p then i else i+1]?=some a:=by
 rw[US]at h;by_cases hi:i<p
 ·rw[if_pos hi];rw[if_pos (by rw[QJ];omega),Ud hi]at h;exact h
 ·rw[if_neg hi];rw[if_neg (by rw[QJ];omega),WM,QJ,UT (by omega)]at h;have e:p+1+(i-p)=i+1:=by omega
  rw[e]at h;exact h
theorem RowsL.cut {M:Mat} (h:RowsL H as M) (hp:p<as.length):RowsL H (as.take p++as.drop (p+1)) (M.take p++M.drop (p+1)):=by
 refine⟨?_,fun i a e=>?_⟩
 ·have:=h.len;simp only[Qp,QJ,Wh];omega
 ·rw[Zkn];have:=h.row _ _ (ZmV e hp);split at this
  ·rw[if_pos (by assumption)];exact this
  ·rw[if_neg (by assumption)];exact this
theorem FineM.len:∀ {n:Nat} {M:Mat} {s d W:Int},FineM n M s d W->M.length=n
 | 0,_,_,_,_,h=>by rw[h.1];rfl
 | 1,_,_,_,_,⟨x,e,_⟩=>by rw[e];rfl
 | _+2,_,_,_,_,h=>h.1.1
theorem ZmQ {M:Mat} (h:YC M=some p):p<M.length:=by
 unfold YC at h;rw[Wn]at h;exact h.1
theorem FineM.go {M:Mat} {s d W:Int} (h:FineM (n+2) M s d W) (e:YC M=some p):FineM (n+1) (JG M p d) (if p % 2=0 then s else -s) ((M.getD p []).headD 0) W:=by
 have:=h.2.2.2.2.2;rw[e]at this;exact this
theorem FineM.stop {M:Mat} {s d W:Int} (h:FineM (n+2) M s d W) (e:YC M=none):W=0:=by
 have:=h.2.2.2.2.2;rw[e]at this;exact this
abbrev XO:Stmt:=top 13
abbrev Zb1:List Str:=["table","rows","sign","divisor","place","head"]
theorem scWorthOf:Zm Zb1 ["table"] (Zg XO):=⟨rfl,rfl,rfl,by decide +kernel,rfl,by decide +kernel,by decide +kernel⟩
structure RowsT (H:Hp) (as:List Addr) (M:Mat):Prop where
 len:as.length=M.length
 row:∀ i a,as[i]?=some a->H a=some (.tup ((M.getD i []).map V.int))
theorem RowsT.same {M:Mat} (s:Same H H') (h:RowsT H as M):RowsT H' as M:=⟨h.len,fun i a e=>s _ _ (h.row i a e)⟩
def ZcG:Sp:=fun vs H Q _=>∃ (t:Addr) (ts:List Addr) (M:Mat) (n:Nat) (W:Int),vs=[.ref t]/\H t=some (.tup (ts.map V.ref))/\RowsT H ts M/\FineM n M 1 1 W/\n<=31/\∀ H',Same H H'->Q (.int W) H'
def ZeP (σ:List (Option L2.V)) (H:Hp):Nat:=match σ.getD 1 none with
 | some (L2.V.ref r)=>match H r with
  | some (HO.lst xs)=>xs.length
  | _=>0
 | _=>0
theorem ZcK {t0:Option L2.V} {r:Addr} {xs:List L2.V} {l:List (Option L2.V)} (h:H r=some (.lst xs)):ZeP (t0::some (L2.V.ref r)::l) H=xs.length:=by
 unfold ZeP;simp[h]
theorem Zd0 (D:HasDef K mg "worth_of" XO ["table"]) (B:Blt mg) (g37_:FOk P w K mg base 1 "place_of_head" ["rows"] ZkV) (g30_:FOk P w K mg base 1 "lessened" ["row","head","divisor"] (ZkU K)):FOk P w K mg base 2 "worth_of" ["table"] ZcG:=by
 refine D.ok scWorthOf (fun vs H Q E h=>?_) (fun f cdv A outer s H vs Q E hr h=>?_)
 ·obtain⟨t,ts,M,n,W,rfl,_⟩:=h;rfl
 ·obtain⟨t,ts,M,n,W,rfl,ht,hT,hF,hn,k⟩:=h;refine⟨_,(Ze (ZbP (i:=1) (Zg XO) Zb1 ["row"] [] scWorthOf.nd rfl (.inl rfl) rfl (Yf (pv 0)) (fun _ _ _ _ _=>Yi 0) (fun _ _ _ _ _=>ZZ) (fun _ _ _ _ _=>(ZA (Zco K) rfl B.list Zfx (Za (pv 0) Zd))))
   (Ze (Zp (i:=2) scWorthOf.nd rfl (.inl rfl) Zf)
   (Ze (Zp (i:=3) scWorthOf.nd rfl (.inr rfl) Zf)
   (Ze (ZbO PassesOwn.never (Zo ZaN (Zl ZC rfl B.len Ys (Za (pv 1) Zd)) Zf (Zr _))
    (Ze (Zp (i:=4) scWorthOf.nd rfl (.inl rfl) (Zt g37_ hr (Za (pv 1) Zd)))
   (Ze (ZE (Zo ZcT (pv 4) YF (Zr _)) (Zh (Zn Zf)) Zs)
   (Ze (Zp (i:=2) scWorthOf.nd rfl (.inl rfl) (ZeV (Zo Yv (Zq ZL (pv 4) Zf) Zf (Zr _)) (pv 2) (XG Yx (pv 2))))
   (Ze (Zp (i:=5) scWorthOf.nd rfl (.inr rfl) (Zw ix_list (pv 1) (pv 4) (fun _ _=>rfl)))
   (Ze (ZbP (i:=1) (Zg XO) Zb1 ["row"] [3,5] scWorthOf.nd rfl (.inl rfl) rfl (Yp (Zq ZhP (ZX Zby (pv 1) Yo (Yn (pv 4))) (ZX Zby (pv 1) (Yn (Zq ZS (pv 4) Zf)) Yo))) (fun _ _ _ _ _=>Yi 0) (fun _ _ _ _ _=>ZZ) (fun _ _ _ _ _=>(Zt g30_ hr (Za (pv 0) (Za (pv 2) (Za (pv 1) Zd))))))
   (Zh (Zp (i:=3) scWorthOf.nd rfl (.inr rfl) (Zw ix_list (pv 5) Zf (fun _ _=>rfl))))))))))
   (Ze (ZE (Zo Yv (Zl ZC rfl B.len Ys (Za (pv 1) Zd)) Zf (Zr _)) (Zh (Zn Zf)) Zs)
   (Zh (Zn (Zq Jy (pv 2) (Zw ix_list (Zw ix_list (pv 1) Zf (fun _ _=>rfl)) Zf (fun _ _=>rfl)))))))))),?_⟩
  have hlM:=hF.len;have hlt:=hT.len;refine⟨_,rfl,t,rfl,⟨_,SqT.of ht⟩,Zfa ts.length (fun i=>(ts.map V.ref).getD i .non) (fun i=>(M.getD i []).map V.int) (Z2 (by omega)) (by have:=Zaw (K:=K) (SqT.of ht);rw[Qc]at this;exact this) ?_ ?_⟩
  ·intro i H1 Qe hi hs kq;rw[YQ hi];refine⟨_,rfl,ts[i],_,rfl,.inr (SqT.of (hs _ _ (hT.row i _ (Qa hi)))),fun l hl=>kq l _ (Zb hl) hl Zc⟩
  intro D1 as H1 hla hra hs1 hD1 hDl1;refine Zi8 (fun σ H2=>∃ (n:Nat) (M:Mat) (s d:Int) (r:Addr) (as:List Addr) (z4 z5:Option V),σ=[some (.ref t),some (.ref r),some (.int s),some (.int d),z4,z5]/\Same H H2/\H2 r=some (.lst (as.map V.ref))/\RowsL H2 as M/\FineM n M s d W/\n<=31) ZeP
   ⟨n,M,1,1,D1,as,none,none,rfl,hs1,hDl1,⟨by omega,fun i a e=>(hra i a e).2.2⟩,hF,hn⟩ ?_ ?_
  ·rintro σ H2 ⟨n,M,sg,d,r,as,z4,z5,rfl,s2,hr2,hR,hF,hn⟩;have hlM:=hF.len;have hla:=hR.len;refine⟨_,rfl,.ref r,_,rfl,.inl ⟨_,SqL.of hr2,rfl⟩,_,_,rfl,rfl,_,rfl,?_⟩;rw[Qc];refine Zff (fun e=>?_) (fun e=>?_)
   ·have e':1<as.length:=by
     have:=of_decide_eq_true e;omega
    obtain⟨m,rfl⟩:∃ m,n=m+2:=⟨n-2,by omega⟩
    obtain⟨sq,sm,smd,d0,sgs,_⟩:=id hF;refine⟨_,rfl,r,as,M,rfl,hr2,hR,fun q mq z=>?_,fun H3 s3=>?_⟩
    ·have:=sq.2 q mq;rw[z]at this;simp at this
    have hr3:=s3 _ _ hr2;have hR3:=hR.same s3;have s13:=s2.trans s3;unfold Zkj;cases hh:YC M with
    | none =>
     refine⟨_,rfl,rfl,_,rfl,ZmK ?_⟩;have:=k _ s13;rw[hF.stop hh]at this;exact this
    | some p =>
     have hp:=ZmQ hh;have hp':p<as.length:=by omega
     have hF2:=hF.go hh;refine⟨_,rfl,rfl,_,rfl,Zka ?_⟩;have hrow:=hR3.row p as[p] (Qa hp');have mrow:M.getD p []∈M:=by
      rw[Qb,Qa hp];exact QF hp
     have sgn2:∀ (Qq:VK),Qq (.int (if p % 2=0 then sg else -sg)) H3->(tIf (Zno (tOp rEq (tOp (rI (fun _ j=>0<j) fun i j=>.int (i % j)) (Zne 4) (tC (.int 2))) (tC (.int 0)))) (Zne 2) (tUn (rU fun i=>.int (-i)) (Zne 2))) [some (.ref t),some (.ref r),some (.int sg),some (.int d),some (.int p),z5] H3 Qq:=fun Qq q=>by
      refine⟨_,rfl,_,_,rfl,rfl,(by show(0:Int)<2;decide),rfl,_,rfl,Zff (fun e=>?_) (fun e=>?_)⟩
      ·have:p % 2=0:=by
        have:=of_decide_eq_true e;injection this with this
        omega
       rw[if_pos this]at q;exact⟨_,rfl,q⟩
      ·have:¬ p % 2=0:=fun z=>e (decide_eq_true (by show V.int ((p:Int) % 2)=V.int 0;rw[show((p:Int) % 2)=0 by omega]));rw[if_neg this]at q;exact⟨_,rfl,_,rfl,q⟩
     refine sgn2 _ ?_;refine⟨_,rfl,_,rfl,r,_,_,_,rfl,rfl,SqL.of hr3,Zeq (by rw[Qk,Qa hp'];rfl),?_⟩;refine⟨_,rfl,_,rfl,_,rfl,r,_,rfl,SqL.of hr3,fun p1 hp1=>?_⟩;rw[cut_to (by rw[Qc];omega)];have s4:=Zb (o:=.lst ((as.map V.ref).take p)) hp1;refine⟨_,rfl,_,rfl,_,_,rfl,rfl,_,rfl,r,_,rfl,SqL.of (s4 _ _ hr3),fun p2 hp2=>?_⟩;have e5:((p:Int)+1)=((p+1:Nat):Int):=by omega
     rw[e5,cut_from (by rw[Qc];omega)];have s5:=Zb (o:=.lst ((as.map V.ref).drop (p+1))) hp2;have ecut:(as.map V.ref).take p++(as.map V.ref).drop (p+1)=(as.take p++as.drop (p+1)).map V.ref:=by
      rw[QG,Vk,Vl]
     refine⟨p1,p2,_,_,rfl,rfl,s5 _ _ Zc,Zc,?_,fun p3 hp3=>?_⟩
     ·simp only[QJ,Wh,Qc];exact Z2 (by omega)
     rw[ecut];have s6:=Zb (o:=.lst ((as.take p++as.drop (p+1)).map V.ref)) hp3;have s36:=(s4.trans s5).trans s6;have hRc:=(hR3.same s36).cut hp';have hlc:(as.take p++as.drop (p+1)).length=as.length-1:=by
      simp only[Qp,QJ,Wh];omega
     refine⟨p3,rfl,⟨_,SqL.of Zc⟩,Zfa (as.take p++as.drop (p+1)).length (fun i=>((as.take p++as.drop (p+1)).map V.ref).getD i .non) (fun i=>(Zc9 ((M.take p++M.drop (p+1)).getD i []) (M.getD p []) d).map V.int) (Z2 (by omega)) (by have:=Xd (K:=K) (SqL.of (Zc (H:=upd (upd H3 p1 (.lst ((as.map V.ref).take p))) p2 (.lst ((as.map V.ref).drop (p+1)))) (a:=p3) (o:=.lst ((as.take p++as.drop (p+1)).map V.ref))));rw[Qc]at this;exact this) ?_ ?_⟩
     ·intro i H4 Qe hi hs kq;rw[YQ hi];have hi':i<(M.take p++M.drop (p+1)).length:=by rw[←hRc.len];exact hi
      have mi:(M.take p++M.drop (p+1)).getD i []∈M:=by
       rw[Qb,Qa hi'];rcases QI.mp (QF hi')with q | q
       ·exact Uu q
       ·exact UU q
      have l1:=sq.2 _ mi;have l2:=sq.2 _ mrow;refine⟨_,rfl,_,rfl,_,rfl,_,as[p],_,_,d,rfl,hs _ _ (hRc.row i _ (Qa hi)),hs _ _ (s36 _ _ hrow),?_,?_,?_,sm _ mi,sm _ mrow,smd,d0,fun q H5 s5 hq hl=>kq q H5 s5 hq hl⟩
      ·rw[l1,l2]
      ·rw[l1];omega
      ·rw[l1];omega
     intro D2 as2 H4 hla2 hra2 hs4 hD2 hDl2;refine⟨_,rfl,as[p],_,0,_,rfl,rfl,SqL.of (hs4 _ _ (s36 _ _ hrow)),Xu _ (fun z=>?_),?_⟩
     ·have:=sq.2 _ mrow;rw[z]at this;simp at this
     refine⟨⟨m+1,JG M p d,_,_,D2,as2,_,_,rfl,(s13.trans s36).trans hs4,hDl2,⟨?_,fun i a e=>?_⟩,hF2,by omega⟩,?_⟩
     ·rw[hF2.len,hla2,hlc];omega
     ·have hi2:i<as2.length:=(Qo.mp e).1;rw[(hra2 i a e).2.2];have hi':i<(M.take p++M.drop (p+1)).length:=by rw[←hRc.len];omega
      have:(JG M p d).getD i []=Zc9 ((M.take p++M.drop (p+1)).getD i []) (M.getD p []) d:=by
       unfold JG;rw[Qb,Qk,Qa hi',Qb (l:=M.take p++M.drop (p+1)),Qa hi'];rfl
      rw[this]
     ·rw[ZcK hr2];show ZeP (some (.ref t)::some (.ref D2)::_) H4<_;rw[ZcK hDl2,Qc,Qc];omega
   ·have e':¬ 1<as.length:=fun z=>e (decide_eq_true (by omega));refine⟨_,rfl,.ref r,_,rfl,.inl ⟨_,SqL.of hr2,rfl⟩,rfl,_,rfl,?_⟩;rw[Qc];have n2:n=0\/n=1:=by omega
    rcases n2 with rfl | rfl
    ·have:as.length=0:=by omega
     rw[this];refine ZmK ?_;have:=k _ s2;rw[hF.2]at this;exact this
    ·have l1:as.length=1:=by omega
     refine ZM (Xf (by omega)) ?_;obtain⟨x,e1,e2,hs1⟩:=hF;subst e1;have h0:=hR.row 0 as[0] (Qa (by omega));refine⟨_,rfl,_,rfl,r,_,0,.ref as[0],rfl,rfl,SqL.of hr2,YI (by decide) (by rw[Qk];exact congrArg (Option.map V.ref) (Qa (by omega))),as[0],_,0,.int x,rfl,rfl,SqL.of h0,YI (by decide) rfl,_,_,rfl,rfl,.inl (by omega),?_⟩;show Q (.int (sg*x)) H2;rw[←e2];exact k _ s2
  ·rintro σ H2 Q1 Q2 himp ⟨v,e,x,n,e2,hl,i,j,e3,e4,b,e5,q⟩;exact⟨v,e,x,n,e2,hl,i,j,e3,e4,b,e5,himp _ _ q⟩
abbrev ZdR:Stmt:=top 58
theorem Zjt:Zm ["_law_found"] ["_law_found"] (Zg ZdR):=⟨rfl,rfl,rfl,by decide +kernel,rfl,by decide +kernel,by decide +kernel⟩
def Jc:Sp:=fun vs H Q _=>∃ (x:V) (n:String),vs=[x]/\TyB H x n/\Q (.bl (n == "int")) H
theorem ZfQ (D:HasDef K mg "_law_whole" ZdR ["_law_found"]) (B:Blt mg):FOk P w K mg base 1 "_law_whole" ["_law_found"] Jc:=by
 refine D.ok Zjt (fun vs H Q E h=>?_) (fun f cdv A outer s H vs Q E hr h=>?_)
 ·obtain⟨x,n,rfl,_⟩:=h;rfl
 ·obtain⟨x,n,rfl,ty,k⟩:=h;refine⟨_,Zh (Zn (Za9 (Zl Yc rfl B.isi X4 (Za (pv 0) (Za (ZaL rfl B.int Zkz) Zd)))
   (Za8 (ZhF (Zl Yc rfl B.isi X4 (Za (pv 0) (Za (ZaL rfl B.bool Zlz) Zd))))))),?_⟩
  refine⟨_,rfl,x,"int",n,rfl,by decide,ty,_,rfl,?_⟩;refine Zff (fun e=>?_) (fun e=>?_)
  ·refine⟨_,rfl,x,"bool",n,rfl,by decide,ty,_,rfl,?_⟩;rw[(Zcb n ty.mem).1 e];exact k
  ·rw[(Zcb n ty.mem).2 e]at k;exact k
theorem ZgE {k:Nat} {g:Nat->Int}:∀ {n:Nat},(∀ i,i<n->Sm k (g i))->(XJ n g).natAbs<=n*2 ^ k
 | 0,_=>by simp[XJ]
 | n+1,h=>by
  have h1:=ZgE (n:=n) fun i hi=>h i (by omega);have h2:=h n (by omega);unfold Sm at h2;rw[XJ,Rj,Nat.one_mul];omega
theorem Zlv {b:Nat}:∀ {n:Nat} {f:Yd},n<=31->(∀ i j,Sm b (f i j))->Sm (n*(b+5)+1) (det n f)
 | 0,f,_,h=>by
  show(1:Int).natAbs<2 ^ (0*(b+5)+1);rw[RK];decide
 | n+1,f,hn,h=>by
  rw[det];have h1:∀ i,i<n+1->Sm (b+(n*(b+5)+1)) (Zcu i*f i 0*det n fun r c=>f (rmv i r) (c+1)):=fun i _=>by
   have hs:Sm b (Zcu i*f i 0):=by
    have:=h i 0;unfold Sm Zcu at *;split
    ·rw[Wi];exact this
    ·rw[Ub,Wi,Int.natAbs_neg];exact this
   exact hs.mul (Zlv (n:=n) (by omega) fun r c=>h _ _)
  have h2:=ZgE h1;unfold Sm;have e:(n+1)*(b+5)+1=(b+(n*(b+5)+1))+5:=by
   rw[Rj,Nat.one_mul];omega
  rw[e,Nat.pow_add];have hp:0<2 ^ (b+(n*(b+5)+1)):=Nat.pow_pos (by decide);have h3:(n+1)*2 ^ (b+(n*(b+5)+1))<2 ^ (b+(n*(b+5)+1))*2 ^ 5:=by
   rw[RF];exact Nat.mul_lt_mul_of_pos_left (by omega) hp
  omega
structure Rel (n:Nat) (R:Mat) (F:Yd):Prop where
 sq:Sq n R
 at_:∀ i j,i<n->j<n->(R.getD i []).getD j 0=F i j
theorem Jn {m:List Int}:m.headD 0=m.getD 0 0:=by cases m <;> rfl
theorem ZiA (l:Mat) (p i:Nat):(l.take p++l.drop (p+1)).getD i []=l.getD (rmv p i) []:=by
 unfold rmv;rw[Qb,US];by_cases hi:i<p
 ·rw[if_pos hi];by_cases hl:i<l.length
  ·rw[if_pos (by rw[QJ];omega),Ud hi,Qb]
  ·rw[if_neg (by rw[QJ];omega),WM,Ql (by rw[QJ];omega),Qb,Ql (by omega)]
 ·rw[if_neg hi,Qb];by_cases hl:p<=l.length
  ·rw[if_neg (by rw[QJ];omega),WM,QJ,UT hl];congr 2;omega
  ·rw[Ql (by omega:l.length<=i+1)];by_cases c:i<(l.take p).length
   ·rw[QJ]at c;omega
   ·rw[if_neg c,WM,Ql (by omega)]
theorem Zho {R:Mat} (h:Sq n R) (hi:i<n):R.getD i []∈R:=by
 rw[Qb,Qa (by rw[h.1];exact hi)];exact QF _
theorem Rel.next {M:Yd} {t:Nat} {R:Mat} {F:Yd} {d:Int} (h:Rel (n+2) R F) (g:Zct M t d F) (hd:d≠0) (hp:p<n+2):Rel (n+1) (JG R p d) (Zao F d p):=by
 have hl:(R.take p++R.drop (p+1)).length=n+1:=by
  rw[Qp,QJ,Wh,h.sq.1];omega
 have hrow:∀ i,i<n+1->(JG R p d).getD i []=Zc9 (R.getD (rmv p i) []) (R.getD p []) d:=fun i hi=>by
  unfold JG;rw[Qb,Qk,Qa (by rw[hl];exact hi)];have:(R.take p++R.drop (p+1))[i]'(by rw[hl];exact hi)=R.getD (rmv p i) []:=by
   rw[←ZiA,Qb,Qa (by rw[hl];exact hi)];rfl
  rw[Wc,this];rfl
 have hr:∀ i,i<n+1->rmv p i<n+2:=fun i hi=>by unfold rmv;split <;> omega
 have hlen:∀ i,i<n+2->(R.getD i []).length=n+2:=fun i hi=>h.sq.2 _ (Zho h.sq hi);refine⟨⟨by unfold JG;rw[Qc,hl],fun r hr'=>?_⟩,fun i j hi hj=>?_⟩
 ·unfold JG at hr';obtain⟨q,hq,rfl⟩:=Qr.mp hr';unfold Zc9;rw[Qc,Q4];have:q∈R:=by
   rcases QI.mp hq with z | z
   ·exact Uu z
   ·exact UU z
  rw[h.sq.2 q this];rfl
 ·rw[hrow i hi];unfold Zc9;rw[Qb,Qk,Q0 (by rw[hlen _ (hr i hi)];omega)];show((R.getD p []).headD 0*(R.getD (rmv p i) []).getD (j+1) 0-(R.getD (rmv p i) []).headD 0*(R.getD p []).getD (j+1) 0).fdiv d=Zao F d p i j;rw[Jn,Jn,h.at_ p 0 hp (by omega),h.at_ _ (j+1) (hr i hi) (by omega),h.at_ _ 0 (hr i hi) (by omega),h.at_ p (j+1) hp (by omega),←Ze3 g,Ra _ hd]
theorem Zfn {M:Yd} (hB:∀ (k:Nat) (ρ γ:Nat->Nat),k<=31->Sm 3900 (det k fun i j=>M (ρ i) (γ j))):∀ (m t:Nat) {R:Mat} {F:Yd} {d s X:Int},m+1+t<=31->Rel (m+1) R F->Zct M t d F->d≠0->Sm 3900 d->(s=1\/s = -1)->det (m+1) F=d ^ m*X->FineM (m+1) R s d (s*X)
 | 0,t,R,F,d,s,X,hm,hR,hG,hd,hds,hs,e=>by
  have l1:=hR.sq.1;match R,l1,hR with
  | [r],_,hR =>
   have l2:=hR.sq.2 r (by simp);match r,l2,hR with
   | [x],_,hR =>
    have ex:x=F 0 0:=hR.at_ 0 0 (by omega) (by omega);have eX:X=F 0 0:=by
     have:det 1 F=F 0 0:=by simp[det,XJ,Zcu]
     rw[this]at e;simpa using e.symm
    exact⟨x,rfl,by rw[eX,ex],hs⟩
 | m+1,t,R,F,d,s,X,hm,hR,hG,hd,hds,hs,e=>by
  have ent:∀ i j,Sm 3900 (F i j):=fun i j=>by
   obtain⟨ρ',γ',e1⟩:=hG 0 (fun _=>i) (fun _=>j);have e2:det 1 (fun _ _=>F i j)=F i j:=by simp[det,XJ,Zcu]
   have e3:F i j=det (0+1+t) fun a b=>M (ρ' a) (γ' b):=by
    rw[←e2];simpa using e1
   rw[e3];exact hB _ _ _ (by omega)
  have inR:∀ r∈R,∀ x∈r,Sm 3900 x:=fun r hr x hx=>by
   obtain⟨i,hi,rfl⟩:=WP hr;obtain⟨j,hj,rfl⟩:=WP hx;have hi':i<m+2:=by rw[←hR.sq.1];exact hi
   have hj':j<m+2:=by rw[←hR.sq.2 _ hr];exact hj
   have:=hR.at_ i j hi' hj';rw[Qb (l:=R),Qa hi]at this;have e4:R[i].getD j 0=R[i][j]:=by rw[Qb,Qa hj];rfl
   have e5:R[i][j]=F i j:=by rw[←e4];exact this
   rw[e5];exact ent i j
  have hd0:∀ i,i<m+2->(R.getD i []).headD 0=F i 0:=fun i hi=>by rw[Jn];exact hR.at_ i 0 hi (by omega)
  refine⟨hR.sq,inR,hds,hd,hs,?_⟩;cases hh:YC R with
  | none =>
   have z:∀ i,i<m+2->F i 0=0:=fun i hi=>by
    rw[←hd0 i hi];unfold YC at hh;rw[UA]at hh;have:=hh _ (Zho hR.sq hi);exact Classical.byContradiction fun q=>by rw[decide_eq_true q]at this;cases this
   have e0:det (m+2) F=0:=Zkt z;rw[e0]at e;have:X=0:=by
    rcases Int.mul_eq_zero.mp e.symm with q | q
    ·exact(Vd hd q).elim
    ·exact q
   show s*X=0;rw[this,UP]
  | some p =>
   have hp:p<m+2:=by
    unfold YC at hh;rw[Wn]at hh;rw[←hR.sq.1];exact hh.1
   have hne:F p 0≠0:=by
    rw[←hd0 p hp];unfold YC at hh;rw[Wn]at hh;obtain⟨h1,h2,_⟩:=hh;have e1:R.getD p []=R[p]:=by rw[Qb,Qa h1];rfl
    rw[e1];exact of_decide_eq_true h2
   have ih:=Zfn hB m (t+1) (R:=JG R p d) (F:=Zao F d p) (d:=F p 0) (s:=if p % 2=0 then s else -s) (X:=Zcu p*X) (by omega) (hR.next hG hd hp) (Ziy hG hd hne) hne (ent p 0) (by split <;> omega) (ZhY hG hd hne hp e);have ew:(if p % 2=0 then s else -s)*(Zcu p*X)=s*X:=by
    unfold Zcu;split
    ·rw[Wi]
    ·rw[Ub,Ub,Wi,Int.mul_neg,Int.neg_neg]
   rw[ew]at ih;show FineM (m+1) (JG R p d) (if p % 2=0 then s else -s) ((R.getD p []).headD 0) (s*X);rw[hd0 p hp];exact ih
def Zlh (R:Mat):Yd:=fun i j=>(R.getD i []).getD j 0
theorem ZmY {R:Mat} (hn:n<=31) (hq:Sq n R) (hb:SmM 120 R):FineM n R 1 1 (det n (Zlh R)):=by
 have ent:∀ i j,Sm 120 (Zlh R i j):=fun i j=>by
  unfold Zlh;by_cases hi:i<R.length
  ·rw[Qb (l:=R),Qa hi];show Sm 120 (R[i].getD j 0);by_cases hj:j<R[i].length
   ·rw[Qb,Qa hj];exact hb _ (QF hi) _ (QF hj)
   ·rw[Qb,Ql (by omega)];show(0:Int).natAbs<2 ^ 120;decide
  ·rw[Qb (l:=R),Ql (by omega)];show(0:Int).natAbs<2 ^ 120;decide
 cases n with
 | zero =>
  refine⟨Wo.mp hq.1,rfl⟩
 | succ m =>
  have h:=Zfn (M:=Zlh R) (fun k ρ γ hk=>(Zlv (b:=120) (by omega) fun i j=>ent _ _).up (by omega)) m 0 (R:=R) (F:=Zlh R) (d:=1) (s:=1) (X:=det (m+1) (Zlh R)) (by omega) ⟨hq,fun i j _ _=>rfl⟩ (Zf6 _) (by decide) (Sm.one _ (by decide)) (.inl rfl) (by rw[Int.one_pow,Wi]);rw[Wi]at h;exact h
def XF:Nat->(Nat->Int)->Int
 | 0,_=>1
 | n+1,g=>XF n g*g n
theorem Zaf {g h:Nat->Int}:∀ {n:Nat},(∀ i,i<n->g i=h i)->XF n g=XF n h
 | 0,_=>rfl
 | n+1,e=>by
  rw[XF,XF,Zaf (n:=n) fun i hi=>e i (by omega),e n (by omega)]
theorem Za5 (g:Nat->Int):∀ n:Nat,XF (n+1) g=g 0*XF n fun i=>g (i+1)
 | 0=>by simp[XF]
 | n+1=>by
  rw[XF,Za5 g n,XF,Wd]
theorem ZcN:∀ n:Nat,XF n (fun _=>1)=1
 | 0=>rfl
 | n+1=>by rw[XF,ZcN n];rfl
theorem Zdn:∀ {n:Nat} {B:Yd},(∀ k j,j<k->B k j=0)->det n B=XF n fun i=>B i i
 | 0,_,_=>rfl
 | n+1,B,h=>by
  rw[Zfr fun i h1 _=>h i 0 h1,Zdn (n:=n) (B:=fun r c=>B (r+1) (c+1)) fun k j hj=>h _ _ (by omega),Za5]
theorem ZaX {X:Cx} (K:PySem.W.Frag) (h:X.K=K:=by rfl):CallR X (.type "tuple") (fun xs H Q=>∃ p ys,xs=[.ref p]/\((SqL K H p ys/\∀ l,H l=none->Q (.ref l) (upd H l (.tup ys)))\/(SqT K H p ys/\Q (.ref p) H))):=by subst h;exact ZB
theorem Zhq {H':Hp}:∀ (vs:List V) (f:Nat->List V),(∀ (i:Nat) v,vs[i]?=some v->∃ a,v=V.ref a/\H' a=some (.tup (f i)))->∃ ts:List Addr,vs=ts.map V.ref/\∀ (i:Nat) a,ts[i]?=some a->H' a=some (.tup (f i))
 | [],_,_=>⟨[],rfl,fun i a e=>by simp at e⟩
 | v::vs,f,h=>by
  obtain⟨ts,e,ht⟩:=Zhq vs (fun i=>f (i+1)) fun i u hu=>h (i+1) u (by simpa using hu);obtain⟨a,ea,ha⟩:=h 0 v rfl;refine⟨a::ts,by rw[e,ea];rfl,fun i b eb=>?_⟩;cases i with
  | zero=>simp at eb;subst eb;exact ha
  | succ i=>exact ht i b (by simpa using eb)
abbrev Pr:=Str×Int
def PairAt (H:Hp) (v:V) (p:Pr):Prop:=∃ b,v= .ref b/\H b=some (.tup [.str p.1,.int p.2])
def HpAt (H:Hp) (v:V) (hp:List Pr):Prop:=∃ a xs,v= .ref a/\H a=some (.tup xs)/\xs.length=hp.length/\∀ i p,hp[i]?=some p->PairAt H (xs.getD i .non) p
theorem PairAt.same (s:TSame H H') {v:V} {p:Pr} (h:PairAt H v p):PairAt H' v p:=by
 obtain⟨b,e,q⟩:=h;exact⟨b,e,s _ _ q⟩
theorem HpAt.same (s:TSame H H') {v:V} {hp:List Pr} (h:HpAt H v hp):HpAt H' v hp:=by
 obtain⟨a,xs,e,q,l,r⟩:=h;exact⟨a,xs,e,s _ _ q,l,fun i p z=>(r i p z).same s⟩
end Sh
namespace L2
open PySem PySem.Spec PyProof.Rows
end L2
namespace Sh
open PySem L2 PyProof.Rows
seal L2.PE L2.PS L2.PSs L2.PT L2.PW L2.PA L2.PI L2.PG L2.PGs L2.PO L2.PC L2.PCs L2.OpR L2.UnR L2.CallR L2.MtR L2.IxR L2.SlR
variable {P:Program} {w:World} {K:PySem.W.Frag} {mg:Str->Option Value} {base:Heap}
variable {H:Hp} {es:Es} {ks ss:List Str} {x:Str}
theorem Xs {α:Type} [DecidableEq α]:∀ {l B:List α},l.Nodup->(∀ x∈l,x∈B)->l.length<=B.length
 | [],B,_,_=>QL _
 | x::l,B,nd,h=>by
  have h1:=QW.mp nd;have h2:=Xs (l:=l) (B:=B.erase x) h1.2 fun y hy=>by
   have ne:y≠x:=fun q=>h1.1 (q▸hy);exact(Wz ne).mpr (h y (Qg _ hy))
  have h3:=Wm (h x Qd);have h4:0<B.length:=Ws (h x Qd);rw[QO];omega
structure ZU (ps:List Str) (hp:List Pr):Prop where
 srt:(hp.map fun p=>p.1.cps.toList).Pairwise (· < ·)
 mem:∀ x,x∈hp.map (·.1)↔x∈ps
 cnt:∀ p∈hp,p.2=ps.count p.1
section
variable {P:Program} {w:World} {K:PySem.W.Frag} {mg:Str->Option Value} {base:Heap} {S C A1 A2 A3 A4 A5 A6 A7 A8:Addr}
def Cd (z:List Nat):Prop:=∀ c∈z,c<1000
end
theorem JP (h:1<=x.length):Txt.slice x none (some (-1))=bg x:=by
 apply YS;rw[eq_of_beq (slice_closes_to_neg (x:=x) (j:=-1) (k:=-1+x.length) (by decide) (by omega) rfl)];unfold bg;rw[ZV,List.dropLast_eq_take,XX];simp;congr 1;omega
theorem JO (h:1<=x.length):Txt.slice x (some 1) none=en x:=by
 apply YS;rw[JE (by decide) (by omega)];unfold en;rw[ZV];rfl
def PA (H:Hp) (vs:List V) (es:Es):Prop:=vs.length=es.length/\∀ (i:Nat) (e:Str×Int),es[i]?=some e->∃ b,vs[i]?=some (.ref b)/\H b=some (.tup [.str e.1,.int e.2])
theorem PA.same {H':Hp} {vs:List V} (h:PA H vs es) (s:TSame H H'):PA H' vs es:=⟨h.1,fun i e q=>by
 obtain⟨b,e1,e2⟩:=h.2 i e q;exact⟨b,e1,s _ _ e2⟩⟩
def HeapV (H:Hp) (v:V) (es:Es):Prop:=∃ q vs,v= .ref q/\H q=some (.tup vs)/\PA H vs es
theorem HeapV.same {H':Hp} {v:V} (h:HeapV H v es) (s:Same H H'):HeapV H' v es:=by
 obtain⟨q,vs,e,e1,e2⟩:=h;exact⟨q,vs,e,s _ _ e1,e2.same s.tup⟩
structure Jq (es:Es):Prop where
 few:es.length<=31
 many:∀ e∈es,0<=e.2/\e.2<=1000
 long:∀ e∈es,1<=e.1.length/\e.1.length<=1000
structure Pts (es:Es) (ks:List Str):Prop where
 nd:ks.Nodup
 mem:∀ P,P∈ks↔∃ e∈es,bg e.1=P\/en e.1=P
 len:ks.length<=2*es.length
theorem Pts.nil:Pts [] []:=⟨Wy,fun P=>by simp,Qi _⟩
def Y2 (ks:List Str) (x:Str):List Str:=if x∈ks then ks else ks++[x]
theorem Zcr (h:ks.Nodup):(Y2 ks x).Nodup:=by
 unfold Y2;split
 ·exact h
 ·rename_i c;exact Wb.mpr ⟨h,by simp,fun a ha b hb e=>by rw[Qm.mp hb]at e;subst e;exact c ha⟩
theorem X5 {y:Str}:y∈Y2 ks x↔y∈ks\/y=x:=by
 unfold Y2;split
 ·rename_i c;exact⟨.inl,fun h=>h.elim id fun e=>e▸c⟩
 ·simp
theorem Y0 (ks:List Str) (x:Str):(Y2 ks x).length<=ks.length+1:=by
 unfold Y2;split <;> simp
theorem Pts.step (h:Pts es ks) (e:Str×Int):Pts (es++[e]) (Y2 (Y2 ks (bg e.1)) (en e.1)) where
 nd:=Zcr (Zcr h.nd)
 mem:=fun P=>by
  rw[X5,X5,h.mem];constructor
  ·rintro((⟨x,hx,q⟩ | q) | q)
   ·exact⟨x,QS _ hx,q⟩
   ·exact⟨e,by simp,.inl q.symm⟩
   ·exact⟨e,by simp,.inr q.symm⟩
  ·rintro⟨x,hx,q⟩;rcases QI.mp hx with z | z
   ·exact .inl (.inl ⟨x,z,q⟩)
   ·rw[Qm.mp z]at q;rcases q with q | q
    ·exact .inl (.inr q.symm)
    ·exact .inr q.symm
 len:=by
  have h1:=Y0 (Y2 ks (bg e.1)) (en e.1);have h2:=Y0 ks (bg e.1);have:=h.len;rw[Qp,QA];omega
theorem Pts.zero (h:Pts es ks) {P:Str} (hP:P∉ks):mo es P=0:=Zee fun e he=>⟨fun q=>hP ((h.mem P).mpr ⟨e,he,.inl q⟩),fun q=>hP ((h.mem P).mpr ⟨e,he,.inr q⟩)⟩
theorem Zlr {g:Str->Int} {y:Str} (h0:y∉ks->g y=0):(Xx (gD ks g) (Sum.inr y:Key)).getD (.int 0)= .int (g y):=by
 rw[JC];split
 ·rfl
 ·rename_i c;rw[h0 c];rfl
theorem ZmZ {p:Str->Bool}:ss.filter p=((Qs ss.length).filter fun i=>p (ss.getD i "")).map fun i=>ss.getD i "":=by
 have e:ss=(Qs ss.length).map fun i=>ss.getD i "":=by
  apply QT;intro i;rw[Qk];by_cases hi:i<ss.length
  ·rw[Q0 hi,Wc,Qb,Qa hi];rfl
  ·rw[Ql (by omega),Ql (by simp;omega)];rfl
 conv=>lhs;rw[e]
 rw[Rg];rfl
def Zl5 (x:Str) (n:Int) (v:V) (H:Hp):Prop:=∃ b,v= .ref b/\H b=some (.tup [.str x,.int n])
theorem ZnY {vs:List V} {p:Str->Bool} {f:Str->Int} (hl:vs.length=((Qs ss.length).filter fun i=>p (ss.getD i "")).length)
  (hR:∀ (j i:Nat) (v:V),((Qs ss.length).filter fun i=>p (ss.getD i ""))[j]?=some i->vs[j]?=some v->Zl5 (ss.getD i "") (f (ss.getD i "")) v H):PA H vs ((ss.filter p).map fun x=>(x,f x)):=by
 rw[ZmZ];refine⟨by rw[Qc,Qc,hl],fun j e he=>?_⟩;rw[Qk,Qk]at he;cases hj:((Qs ss.length).filter fun i=>p (ss.getD i ""))[j]? with
 | none=>rw[hj]at he;cases he
 | some i =>
  rw[hj]at he;cases he;have hjv:j<vs.length:=by rw[hl];exact(Qo.mp hj).1
  obtain⟨b,e1,e2⟩:=hR j i vs[j] hj (Qa hjv);exact⟨b,by rw[Qa hjv,e1],e2⟩
structure SPts (es:Es) (ss:List Str):Prop where
 srt:(ss.map fun x=>x.cps.toList).Pairwise (· < ·)
 pts:Pts es ss
theorem SPts.of (h:Pts es ks) (p:ss.Perm ks) (s:(ss.map fun x=>x.cps.toList).Pairwise (· < ·)):SPts es ss :=
 ⟨s,p.nodup_iff.mpr h.nd,fun P=>by rw[p.mem_iff,h.mem],by rw[p.length_eq];exact h.len⟩
theorem Zb6 (h:x.length<=1000):x.length<=sizeLine:=Z2 (by omega)
abbrev ZbL:Stmt:=top 1
abbrev Zj2:List Str:=["piece"]
theorem Zhd:Zm Zj2 ["piece"] (Zg ZbL):=⟨rfl,rfl,rfl,by decide +kernel,rfl,by decide +kernel,by decide +kernel⟩
def Zbv:Sp:=fun vs H Q _=>∃ x:Str,vs=[.str x]/\1<=x.length/\x.length<=1000/\Q (.str (bg x)) H
theorem Zd8 (D:HasDef K mg "begin_of" ZbL ["piece"]):FOk P w K mg base 1 "begin_of" ["piece"] Zbv:=by
 refine D.ok Zhd (fun vs H Q E h=>?_) (fun f cdv A outer s H vs Q E hr h=>?_)
 ·obtain⟨x,rfl,_⟩:=h;rfl
 ·obtain⟨x,rfl,h1,h2,k⟩:=h;refine⟨_,(Zh (Zn (ZX Js (pv 0) Yo (Yn (XG Yx Zf))))),?_⟩;refine⟨_,rfl,_,rfl,_,rfl,_,rfl,Zb6 h2,?_⟩;rw[←JP h1]at k;exact k
abbrev Zhm:Stmt:=top 2
abbrev Zog:List Str:=["piece"]
theorem Zl0:Zm Zog ["piece"] (Zg Zhm):=⟨rfl,rfl,rfl,by decide +kernel,rfl,by decide +kernel,by decide +kernel⟩
def ZfG:Sp:=fun vs H Q _=>∃ x:Str,vs=[.str x]/\1<=x.length/\x.length<=1000/\Q (.str (en x)) H
theorem ZhW (D:HasDef K mg "end_of" Zhm ["piece"]):FOk P w K mg base 1 "end_of" ["piece"] ZfG:=by
 refine D.ok Zl0 (fun vs H Q E h=>?_) (fun f cdv A outer s H vs Q E hr h=>?_)
 ·obtain⟨x,rfl,_⟩:=h;rfl
 ·obtain⟨x,rfl,h1,h2,k⟩:=h;refine⟨_,(Zh (Zn (ZX Js (pv 0) (Yn Zf) Yo))),?_⟩;refine⟨_,rfl,_,rfl,_,rfl,Zb6 h2,?_⟩;rw[←JO h1]at k;exact k
theorem Zbu {l m:List Str} (hl:(l.map fun x=>x.cps.toList).Pairwise (· < ·)) (hm:(m.map fun x=>x.cps.toList).Pairwise (· < ·)) (h:∀ x,x∈l↔x∈m):l=m:=by
 have e:=Za2 hl hm fun c=>by
  rw[Qr,Qr];exact⟨fun⟨x,hx,q⟩=>⟨x,(h x).mp hx,q⟩,fun⟨x,hx,q⟩=>⟨x,(h x).mpr hx,q⟩⟩
 have key:∀ (l m:List Str),(l.map fun x=>x.cps.toList)=(m.map fun x=>x.cps.toList)->l=m:=by
  intro l;induction l with
  | nil =>
   intro m e;cases m with
   | nil=>rfl
   | cons _ _=>cases e
  | cons x l ih =>
   intro m e;cases m with
   | nil=>cases e
   | cons y m =>
    rw[Qj,Qj]at e;injection e with e1 e2
    rw[YS e1,ih m e2]
 exact key l m e
theorem SPts.one {l m:List Str} (h:SPts es l) (k:SPts es m):l=m:=Zbu h.srt k.srt fun x=>by rw[h.pts.mem,k.pts.mem]
abbrev ZbD:Stmt:=top 6
abbrev Zj0:List Str:=["H","more","piece","many"]
theorem scMoreOut:Zm Zj0 ["H"] (Zg ZbD):=⟨rfl,rfl,rfl,by decide +kernel,rfl,by decide +kernel,by decide +kernel⟩
def J1:Sp:=fun vs H Q _=>∃ (v:V) (es:Es),vs=[v]/\HeapV H v es/\Jq es/\∀ d H' ks,Same H H'->H' d=some (.dK (gD ks (mo es)))->Pts es ks->Q (.ref d) H'
theorem Zd3 (D:HasDef K mg "more_out" ZbD ["H"]) (g12_:FOk P w K mg base 1 "begin_of" ["piece"] Zbv) (g17_:FOk P w K mg base 1 "end_of" ["piece"] ZfG):FOk P w K mg base 2 "more_out" ["H"] J1:=by
 refine D.ok scMoreOut (fun vs H Q E h=>?_) (fun f cdv A outer s H vs Q E hr h=>?_)
 ·obtain⟨v,es,rfl,_⟩:=h;rfl
 ·obtain⟨v,es,rfl,⟨q,vs,rfl,hq,hpa⟩,hF,k⟩:=h;have hu:=JH hr;refine⟨_,(Ze (Zp (i:=1) scMoreOut.nd rfl (.inl rfl) YW)
   (Ze (Z4 PassesOwn.never rfl (Yf (pv 0)) (Z7 2 K rfl (Zv (Zy (i:=2) scMoreOut.nd rfl (.inl rfl)) (Zv (Zy (i:=3) scMoreOut.nd rfl (.inl rfl)) Z6)))
    (Ze (YV hu (pv 1) (Zt g12_ hr (Za (pv 2) Zd)) (Zq ZS (Yu hu (pv 1) (Zt g12_ hr (Za (pv 2) Zd)) Zf ⟨rfl,rfl,rfl,rfl⟩) (pv 3)) rfl)
   (Zh (YV hu (pv 1) (Zt g17_ hr (Za (pv 2) Zd)) (Zq Xa (Yu hu (pv 1) (Zt g17_ hr (Za (pv 2) Zd)) Zf ⟨rfl,rfl,rfl,rfl⟩) (pv 3)) rfl))))
   (Zh (Zn (pv 1))))),?_⟩
  intro d hd;have s1:=Zb (o:=.dK []) hd;refine⟨_,rfl,q,rfl,⟨_,SqT.of (s1 _ _ hq)⟩,?_⟩;refine YJ (K:=K) (a:=q) (xs:=vs) (fun i σ H2=>(∃ z2 z3:Option V,σ=[some (.ref q),some (.ref d),z2,z3])/\Same H H2/\∃ ks,Pts (es.take i) ks/\H2 d=some (.dK (gD ks (mo (es.take i)))))
   ⟨⟨none,none,rfl⟩,s1,[],Pts.nil,Zc⟩ (fun i σ H2 _ ⟨_,s2,_⟩=>SqT.of (s2 _ _ hq)) ?_ ?_
  ·rintro i x σ H2 hi ⟨⟨z2,z3,rfl⟩,s2,ks,hk,hdd⟩;have hiv:i<vs.length:=(Qo.mp hi).1;have hie:i<es.length:=by rw[←hpa.1];exact hiv
   obtain⟨b,e1,e2⟩:=hpa.2 i es[i] (Qa hie);rw[hi]at e1;cases e1;obtain⟨l1,l2⟩:=hF.long es[i] (QF hie);have hkl:=hk.len;have hfew:=hF.few;rw[QJ]at hkl;refine⟨b,_,rfl,SqT.of (s2 _ _ e2),rfl,_,_,rfl,_,_,rfl,rfl,?_⟩;have het:es.take (i+1)=es.take i++[es[i]]:=QY hie;generalize es[i]=e at *;have h0:=fun(hP:bg e.1∉ks)=>hk.zero hP;have hg:=Zlr (ks:=ks) (g:=mo (es.take i)) h0;refine⟨_,rfl,d,rfl,.inl ⟨_,.inl hdd⟩,_,rfl,e.1,rfl,l1,l2,_,DGet.kk (k:=Sum.inr (bg e.1)) hdd,_,rfl,_,_,hg,rfl,_,rfl,_,rfl,e.1,rfl,l1,l2,d,_,rfl,DPut.kk (k:=Sum.inr (bg e.1)) hdd (by rw[XY];exact Zz (by omega)),?_⟩;rw[Zbg];have hdd2:(upd H2 d (.dK (gD (Y2 ks (bg e.1)) fun x=>if x=bg e.1 then mo (es.take i) (bg e.1)+e.2 else mo (es.take i) x))) d=some (.dK (gD (Y2 ks (bg e.1)) fun x=>if x=bg e.1 then mo (es.take i) (bg e.1)+e.2 else mo (es.take i) x)):=Zc;have hg2:=Zlr (ks:=Y2 ks (bg e.1)) (g:=fun x=>if x=bg e.1 then mo (es.take i) (bg e.1)+e.2 else mo (es.take i) x) (y:=en e.1) fun hP=>by
    rw[X5,not_or]at hP;rw[if_neg hP.2,hk.zero hP.1]
   have hal:=Y0 ks (bg e.1);refine⟨_,rfl,d,rfl,.inl ⟨_,.inl hdd2⟩,_,rfl,e.1,rfl,l1,l2,_,DGet.kk (k:=Sum.inr (en e.1)) hdd2,_,rfl,_,_,hg2,rfl,_,rfl,_,rfl,e.1,rfl,l1,l2,d,_,rfl,DPut.kk (k:=Sum.inr (en e.1)) hdd2 (by rw[XY];exact Zz (by omega)),?_⟩;refine⟨⟨_,_,rfl⟩,fun c u hc=>?_,Y2 (Y2 ks (bg e.1)) (en e.1),by rw[het];exact hk.step e,?_⟩
   ·rw[X9,Zi (Zk hc hd)];exact s2 c u hc
   ·rw[Zc,Zbg,het];refine congrArg (fun l=>some (HO.dK l)) (Zfl fun x _=>?_);rw[ZmA];unfold mo1 ind;by_cases c1:x=en e.1
    ·subst c1;rw[if_pos rfl,if_pos rfl];by_cases c2:en e.1=bg e.1
     ·rw[if_pos c2,if_pos c2.symm,c2];omega
     ·rw[if_neg c2,if_neg (Ne.symm c2)];omega
    ·rw[if_neg c1,if_neg (Ne.symm c1)];by_cases c2:x=bg e.1
     ·subst c2;rw[if_pos rfl,if_pos rfl];omega
     ·rw[if_neg c2,if_neg (Ne.symm c2)];omega
  ·rintro σ H2 ⟨⟨z2,z3,rfl⟩,s2,ks,hk,hdd⟩;rw[hpa.1,WS]at hk hdd;exact⟨_,rfl,k d H2 ks s2 hdd hk⟩
abbrev XS:Stmt:=top 7
abbrev Zc7:List Str:=["H"]
theorem ZfK:Zm Zc7 ["H"] (Zg XS):=⟨rfl,rfl,rfl,by decide +kernel,rfl,by decide +kernel,by decide +kernel⟩
def XM:Sp:=fun vs H Q _=>∃ (v:V) (es:Es),vs=[v]/\HeapV H v es/\Jq es/\∀ v' H' ss,Same H H'->HeapV H' v' (ups (mo es) ss)->SPts es ss->Q v' H'
theorem Zc3 (D:HasDef K mg "begins_of" XS ["H"]) (B:Blt mg) (g31_:FOk P w K mg base 2 "more_out" ["H"] J1):FOk P w K mg base 3 "begins_of" ["H"] XM:=by
 refine D.ok ZfK (fun vs H Q E h=>?_) (fun f cdv A outer s H vs Q E hr h=>?_)
 ·obtain⟨v,es,rfl,_⟩:=h;rfl
 ·obtain⟨v,es,rfl,hV,hF,k⟩:=h;refine⟨_,(Zh (Zn (ZA ZB rfl B.tuple Yr (Za (ZJ (Zg XS) Zc7 ["point","more"] [] rfl (Yp (Zl (Xi rfl) rfl B.sorted YZ (Za (ZbU (Zt g31_ hr (Za (pv 0) Zd))) Zd))) (fun _ _ _ _ _=>Z7 2 K rfl (Zv (Yi 0) (Zv (Yi 1) Z6))) (fun _ _ _ _ _=>Zak (Zo ZaN (pv 1) Zf (Zr _))) (fun _ _ _ _ _=>(YE (Za (pv 0) (Za (pv 1) Zd))))) Zd)))),?_⟩;refine⟨_,rfl,v,es,rfl,hV,hF,fun d H1 ks s1 hd hP=>⟨d,_,rfl,hd,fun p hp=>?_⟩⟩;have hkl:=hP.len;have hfew:=hF.few;refine⟨p,d,ks,fun x=>.int (mo es x),rfl,Zc,Zb hp _ _ hd,hP.nd,by omega,fun D1 H2 vs ss s2 hpm hsrt hD1 hl hv=>?_⟩;have hss:=hpm.length_eq;refine⟨D1,rfl,⟨_,SqL.of hD1⟩,Zb7 ss.length (fun i=>vs.getD i .non) (fun i=>decide (0<(mo es) (ss.getD i ""))) (fun i v H=>Zl5 (ss.getD i "") ((mo es) (ss.getD i "")) v H) (Zj (by omega)) (fun i v H H' hs ⟨b,e1,e2⟩=>⟨b,e1,hs _ _ e2⟩) (by have:=Xd (K:=K) (SqL.of hD1);rw[hl]at this;exact this) ?_ ?_⟩
  ·intro i H3 Qt Qf hi hs ht hf;obtain⟨b,e1,e2⟩:=hv i ss[i] (Qa hi);have ev:vs.getD i .non= .ref b:=by rw[Qb,e1];rfl
   have es1:ss.getD i "" = ss[i]:=by rw[Qb,Qa hi];rfl
   rw[es1]at ht hf;rw[ev];refine⟨b,_,rfl,SqT.of (hs _ _ e2),rfl,_,_,rfl,_,_,rfl,rfl,?_⟩;refine⟨_,rfl,_,_,rfl,rfl,_,rfl,?_⟩;by_cases c:0<(mo es) ss[i]
   ·refine Ya (decide_eq_true (by omega)) (⟨_,rfl,_,rfl,Zj (show 2<=1000 by decide),fun r hr=>ht (decide_eq_true c) _ _ (Zb hr) ⟨r,rfl,Zc⟩⟩)
   ·exact ZM (decide_eq_false (by omega)) (hf (decide_eq_false c) _ (Same.refl _))
  ·intro D2 vs2 H3 hl2 hR hs3 hD2 hDl;refine⟨D2,vs2,rfl,.inl ⟨SqL.of hDl,fun q hq=>?_⟩⟩;have sq:=Zb (o:=.tup vs2) hq;refine k (.ref q) _ ss (((s1.trans (Zb hp)).trans s2).trans (hs3.trans sq)) ⟨q,vs2,rfl,Zc,?_⟩ (SPts.of hP hpm hsrt);exact(ZnY (p:=fun x=>decide (0<(mo es) x)) (f:=fun x=>(mo es) x) hl2 hR).same sq.tup
abbrev ZbK:Stmt:=top 8
abbrev Zh6:List Str:=["H"]
theorem Zjy:Zm Zh6 ["H"] (Zg ZbK):=⟨rfl,rfl,rfl,by decide +kernel,rfl,by decide +kernel,by decide +kernel⟩
def ZkW:Sp:=fun vs H Q _=>∃ (v:V) (es:Es),vs=[v]/\HeapV H v es/\Jq es/\∀ v' H' ss,Same H H'->HeapV H' v' (ups (fun y=>-mo es y) ss)->SPts es ss->Q v' H'
theorem ZfW (D:HasDef K mg "ends_of" ZbK ["H"]) (B:Blt mg) (g31_:FOk P w K mg base 2 "more_out" ["H"] J1):FOk P w K mg base 3 "ends_of" ["H"] ZkW:=by
 refine D.ok Zjy (fun vs H Q E h=>?_) (fun f cdv A outer s H vs Q E hr h=>?_)
 ·obtain⟨v,es,rfl,_⟩:=h;rfl
 ·obtain⟨v,es,rfl,hV,hF,k⟩:=h;refine⟨_,(Zh (Zn (ZA ZB rfl B.tuple Yr (Za (ZJ (Zg ZbK) Zh6 ["point","more"] [] rfl (Yp (Zl (Xi rfl) rfl B.sorted YZ (Za (ZbU (Zt g31_ hr (Za (pv 0) Zd))) Zd))) (fun _ _ _ _ _=>Z7 2 K rfl (Zv (Yi 0) (Zv (Yi 1) Z6))) (fun _ _ _ _ _=>Zak (Zo ZbX (pv 1) Zf (Zr _))) (fun _ _ _ _ _=>(YE (Za (pv 0) (Za (XG Yx (pv 1)) Zd))))) Zd)))),?_⟩;refine⟨_,rfl,v,es,rfl,hV,hF,fun d H1 ks s1 hd hP=>⟨d,_,rfl,hd,fun p hp=>?_⟩⟩;have hkl:=hP.len;have hfew:=hF.few;refine⟨p,d,ks,fun x=>.int (mo es x),rfl,Zc,Zb hp _ _ hd,hP.nd,by omega,fun D1 H2 vs ss s2 hpm hsrt hD1 hl hv=>?_⟩;have hss:=hpm.length_eq;refine⟨D1,rfl,⟨_,SqL.of hD1⟩,Zb7 ss.length (fun i=>vs.getD i .non) (fun i=>decide (0<(fun y=>-mo es y) (ss.getD i ""))) (fun i v H=>Zl5 (ss.getD i "") ((fun y=>-mo es y) (ss.getD i "")) v H) (Zj (by omega)) (fun i v H H' hs ⟨b,e1,e2⟩=>⟨b,e1,hs _ _ e2⟩) (by have:=Xd (K:=K) (SqL.of hD1);rw[hl]at this;exact this) ?_ ?_⟩
  ·intro i H3 Qt Qf hi hs ht hf;obtain⟨b,e1,e2⟩:=hv i ss[i] (Qa hi);have ev:vs.getD i .non= .ref b:=by rw[Qb,e1];rfl
   have es1:ss.getD i "" = ss[i]:=by rw[Qb,Qa hi];rfl
   rw[es1]at ht hf;rw[ev];refine⟨b,_,rfl,SqT.of (hs _ _ e2),rfl,_,_,rfl,_,_,rfl,rfl,?_⟩;refine⟨_,rfl,_,_,rfl,rfl,_,rfl,?_⟩;by_cases c:0<(fun y=>-mo es y) ss[i]
   ·refine Ya (decide_eq_true (by have c:=c;dsimp only at c;omega)) (⟨_,rfl,_,rfl,_,rfl,Zj (show 2<=1000 by decide),fun r hr=>ht (decide_eq_true c) _ _ (Zb hr) ⟨r,rfl,Zc⟩⟩)
   ·exact ZM (decide_eq_false (by have c:=c;dsimp only at c;omega)) (hf (decide_eq_false c) _ (Same.refl _))
  ·intro D2 vs2 H3 hl2 hR hs3 hD2 hDl;refine⟨D2,vs2,rfl,.inl ⟨SqL.of hDl,fun q hq=>?_⟩⟩;have sq:=Zb (o:=.tup vs2) hq;refine k (.ref q) _ ss (((s1.trans (Zb hp)).trans s2).trans (hs3.trans sq)) ⟨q,vs2,rfl,Zc,?_⟩ (SPts.of hP hpm hsrt);exact(ZnY (p:=fun x=>decide (0<(fun y=>-mo es y) x)) (f:=fun x=>(fun y=>-mo es y) x) hl2 hR).same sq.tup
end Sh
namespace L2
open PySem PySem.Spec PyProof.Rows
theorem ZpA:bootBuiltins "set" = some (.type "set"):=by decide +kernel
end L2
namespace Sh
open PySem L2 PyProof.Rows
seal L2.PE L2.PS L2.PSs L2.PT L2.PW L2.PA L2.PI L2.PG L2.PGs L2.PO L2.PC L2.PCs L2.OpR L2.UnR L2.CallR L2.MtR L2.IxR L2.SlR
variable {P:Program} {w:World} {K:PySem.W.Frag} {mg:Str->Option Value} {base:Heap}
variable {H H2:Hp} {adr:Str->Addr} {d:Addr} {es:Es} {f:Nat->Nat} {ks ss:List Str} {n p:Nat} {x y:Str}
theorem ZgF {vs:List V} {f:Str->Str} (hl:vs.length=es.length) (hR:∀ (i:Nat) (v:V),vs[i]?=some v->v= .str (f (es.getD i ("",0)).1)):vs=(es.map fun e=>f e.1).map V.str:=by
 apply QT;intro i;by_cases hi:i<vs.length
 ·have hie:i<es.length:=by omega
  rw[Qa hi,hR i _ (Qa hi),Qk,Qk,Qa hie,Qb,Qa hie];rfl
 ·rw[Ql (by omega),Ql (by rw[Qc,Qc];omega)]
def TupS (H:Hp) (v:V) (ss:List Str):Prop:=∃ q,v= .ref q/\H q=some (.tup (ss.map V.str))
theorem TupS.same {H':Hp} {v:V} (h:TupS H v ss) (s:Same H H'):TupS H' v ss:=by
 obtain⟨q,e,e2⟩:=h;exact⟨q,e,s _ _ e2⟩
abbrev Y7:Stmt:=top 4
abbrev Zap:List Str:=["H"]
theorem ZfI:Zm Zap ["H"] (Zg Y7):=⟨rfl,rfl,rfl,by decide +kernel,rfl,by decide +kernel,by decide +kernel⟩
def XL:Sp:=fun vs H Q _=>∃ (v:V) (es:Es),vs=[v]/\HeapV H v es/\Jq es/\∀ v' H' ss,Same H H'->TupS H' v' ss->SPts es ss->Q v' H'
theorem ZcW (D:HasDef K mg "points_of" Y7 ["H"]) (B:Blt mg) (g12_:FOk P w K mg base 1 "begin_of" ["piece"] Zbv) (g17_:FOk P w K mg base 1 "end_of" ["piece"] ZfG):FOk P w K mg base 2 "points_of" ["H"] XL:=by
 refine D.ok ZfI (fun vs H Q E h=>?_) (fun f cdv A outer s H vs Q E hr h=>?_)
 ·obtain⟨v,es,rfl,_⟩:=h;rfl
 ·obtain⟨v,es,rfl,⟨q,vs,rfl,hq,hpa⟩,hF,k⟩:=h;refine⟨_,(Zh (Zn (ZA ZB rfl B.tuple Yr (Za (Zl (ZaG rfl) rfl B.sorted YZ (Za (ZA (ZiY rfl) rfl B.set ZpA (Za (Zq ZhP (ZJ (Zg Y7) Zap ["piece","many"] [] rfl (Yf (pv 0)) (fun _ _ _ _ _=>Z7 2 K rfl (Zv (Yi 0) (Zv (Yi 1) Z6))) (fun _ _ _ _ _=>ZZ) (fun _ _ _ _ _=>(Zt g12_ hr (Za (pv 0) Zd))))
   (ZJ (Zg Y7) Zap ["piece","many"] [] rfl (Yf (pv 0)) (fun _ _ _ _ _=>Z7 2 K rfl (Zv (Yi 0) (Zv (Yi 1) Z6))) (fun _ _ _ _ _=>ZZ) (fun _ _ _ _ _=>(Zt g17_ hr (Za (pv 0) Zd))))) Zd)) Zd)) Zd)))),?_⟩
  have hfew:=hF.few;have hvl:=hpa.1;refine⟨_,rfl,q,rfl,⟨_,SqT.of hq⟩,Xc vs.length (fun i=>vs.getD i .non) (fun i v _=>v= .str (bg (es.getD i ("",0)).1)) (Zj (by omega)) (fun _ _ _ _ _ r=>r) (Zaw (SqT.of hq)) ?_ ?_⟩
  ·intro i H3 Qe hi hs kq;have hie:i<es.length:=by omega
   obtain⟨b,e1,e2⟩:=hpa.2 i es[i] (Qa hie);have ev:vs.getD i .non= .ref b:=by rw[Qb,e1];rfl
   have ee:es.getD i ("",0)=es[i]:=by rw[Qb,Qa hie];rfl
   obtain⟨l1,l2⟩:=hF.long es[i] (QF hie);rw[ev];refine⟨b,_,rfl,SqT.of (hs _ _ e2),rfl,_,_,rfl,_,_,rfl,rfl,_,rfl,es[i].1,rfl,l1,l2,kq _ _ (Same.refl _) ?_⟩;rw[ee]
  intro D1 vs1 H3 hl1 hr1 hs3 hD1 hDl1;rw[ZgF (f:=bg) (by omega) hr1]at hDl1;refine⟨_,rfl,q,rfl,⟨_,SqT.of (hs3 _ _ hq)⟩,Xc vs.length (fun i=>vs.getD i .non) (fun i v _=>v= .str (en (es.getD i ("",0)).1)) (Zj (by omega)) (fun _ _ _ _ _ r=>r) (Zaw (SqT.of (hs3 _ _ hq))) ?_ ?_⟩
  ·intro i H4 Qe hi hs kq;have hie:i<es.length:=by omega
   obtain⟨b,e1,e2⟩:=hpa.2 i es[i] (Qa hie);have ev:vs.getD i .non= .ref b:=by rw[Qb,e1];rfl
   have ee:es.getD i ("",0)=es[i]:=by rw[Qb,Qa hie];rfl
   obtain⟨l1,l2⟩:=hF.long es[i] (QF hie);rw[ev];refine⟨b,_,rfl,SqT.of (hs _ _ (hs3 _ _ e2)),rfl,_,_,rfl,_,_,rfl,rfl,_,rfl,es[i].1,rfl,l1,l2,kq _ _ (Same.refl _) ?_⟩;rw[ee]
  intro D2 vs2 H4 hl2 hr2 hs4 hD2 hDl2;rw[ZgF (f:=en) (by omega) hr2]at hDl2;refine⟨D1,D2,_,_,rfl,rfl,hs4 _ _ hDl1,hDl2,Zj (by simp only[Qc];omega),fun p hp=>?_⟩;have s5:=Zb (o:=.lst ((es.map fun e=>bg e.1).map V.str++(es.map fun e=>en e.1).map V.str)) hp;refine⟨p,(es.map fun e=>bg e.1)++(es.map fun e=>en e.1),rfl,SqL.of (by rw[Zc,QG]),by simp only[Qp,Qc];omega,fun p2 ks hp2 hnd hmem hkl=>?_⟩;have hkl':ks.length<=2*es.length:=by simp only[Qp,Qc]at hkl;omega
  refine⟨p2,ks,rfl,Zc,by omega,fun q2 ss hq2 hpm hsrt=>?_⟩;refine⟨q2,_,rfl,.inl ⟨SqL.of Zc,fun l hl=>?_⟩⟩;refine k (.ref l) _ ss (((((hs3.trans hs4).trans s5).trans (Zb hp2)).trans (Zb hq2)).trans (Zb hl)) ⟨l,rfl,Zc⟩ (SPts.of (ks:=ks) ⟨hnd,fun x=>?_,hkl'⟩ hpm hsrt);rw[hmem,QI,Qr,Qr];constructor
  ·rintro(⟨e,he,z⟩ | ⟨e,he,z⟩)
   ·exact⟨e,he,.inl z⟩
   ·exact⟨e,he,.inr z⟩
  ·rintro⟨e,he,z | z⟩
   ·exact .inl ⟨e,he,z⟩
   ·exact .inr ⟨e,he,z⟩
def rD (ks:List Str) (adr:Str->Addr):List (Key×V):=ks.map fun x=>((Sum.inr x:Key),V.ref (adr x))
theorem Zht (ks:List Str) (adr:Str->Addr):(rD ks adr).length=ks.length:=by unfold rD;rw[Qc]
theorem Jv (ks:List Str) (adr:Str->Addr) (y:Str):Xx (rD ks adr) (Sum.inr y)=if y∈ks then some (.ref (adr y))else none:=JU (fun x=>V.ref (adr x)) y ks
theorem Zk3 {p:Addr} (h:y∉ks):X8 (rD ks adr) (Sum.inr y) (.ref p)=rD (ks++[y]) fun x=>if x=y then p else adr x:=by
 rw[ZbN _ (by rw[Jv,if_neg h])];unfold rD;rw[QG,Q8];dsimp only;rw[if_pos rfl];congr 1;refine QR fun x hx=>?_;rw[if_neg (fun e:x=y=>h (e▸hx))]
structure TJ (H H2:Hp) (d:Addr) (ks:List Str) (adr:Str->Addr) (r:Str->List Str):Prop where
 sm:Same H H2
 dn:H d=none
 dd:H2 d=some (.dK (rD ks adr))
 nd:ks.Nodup
 row:∀ P∈ks,H2 (adr P)=some (.lst ((r P).map V.str))
 fresh:∀ P∈ks,H (adr P)=none
 inj:∀ P∈ks,∀ P'∈ks,adr P=adr P'->P=P'
 out:∀ P,P∉ks->r P=[]
def Zet (r:Str->List Str) (P y:Str):Str->List Str:=fun x=>if x=P then r P++[y]else r x
theorem ZfA {r:Str->List Str} {P z:Str}:z∈Zet r P y x↔z∈r x\/(x=P/\z=y):=by
 unfold Zet;by_cases c:x=P
 ·subst c;rw[if_pos rfl];simp
 ·rw[if_neg c];simp[c]
theorem Zcq {r:Str->List Str} {P:Str} (h:∀ x,(r x).length<=n) (x:Str):(Zet r P y x).length<=n+1:=by
 unfold Zet;split
 ·have:=h P;simp;omega
 ·have:=h x;omega
theorem TJ.ne {r:Str->List Str} (J:TJ H H2 d ks adr r) {P:Str} (hP:P∈ks):adr P≠d:=fun e=>by
 have:=J.row P hP;rw[e,J.dd]at this;cases this
theorem TJ.old {p:Addr} {r:Str->List Str} (J:TJ H H2 d ks adr r) {P:Str} (hP:P∈ks) (hp:H2 p=none) :
  TJ H (upd (upd H2 p (.lst [])) (adr P) (.lst ((r P).map V.str++[.str y]))) d (Y2 ks P) adr (Zet r P y):=by
 have ek:Y2 ks P=ks:=by unfold Y2;rw[if_pos hP]
 rw[ek];have s1:=Zb (o:=.lst []) hp;refine⟨fun b u hb=>?_,J.dn,?_,J.nd,fun Q hQ=>?_,J.fresh,J.inj,fun Q hQ=>?_⟩
 ·rw[Zi fun e=>by rw[e,J.fresh P hP]at hb;cases hb];exact s1 _ _ (J.sm b u hb)
 ·rw[Zi (Ne.symm (J.ne hP))];exact s1 _ _ J.dd
 ·unfold Zet;by_cases c:Q=P
  ·subst c;rw[Zc,if_pos rfl,QG];rfl
  ·rw[if_neg c,Zi fun e=>c (J.inj Q hQ P hP e)];exact s1 _ _ (J.row Q hQ)
 ·unfold Zet;rw[if_neg (fun e:Q=P=>hQ (e▸hP))];exact J.out Q hQ
theorem TJ.new {p:Addr} {r:Str->List Str} (J:TJ H H2 d ks adr r) {P:Str} (hP:P∉ks) (hp:H2 p=none) :
  TJ H (upd (upd (upd H2 p (.lst [])) d (.dK (rD (ks++[P]) fun x=>if x=P then p else adr x))) p (.lst ([]++[.str y]))) d (Y2 ks P) (fun x=>if x=P then p else adr x) (Zet r P y):=by
 have ek:Y2 ks P=ks++[P]:=by unfold Y2;rw[if_neg hP]
 rw[ek];have hpd:d≠p:=fun e=>by rw[←e,J.dd]at hp;cases hp
 have hpa:∀ Q∈ks,adr Q≠p:=fun Q hQ e=>by have:=J.row Q hQ;rw[e,hp]at this;cases this
 have mm:∀ Q,Q∈ks++[P]->Q∈ks\/Q=P:=fun Q h=>by simpa using h
 refine⟨fun b u hb=>?_,J.dn,?_,?_,fun Q hQ=>?_,fun Q hQ=>?_,fun Q hQ Q' hQ' e=>?_,fun Q hQ=>?_⟩
 ·have h2:=J.sm b u hb;rw[Zi (Zk h2 hp),Zi (Zk hb J.dn),Zi (Zk h2 hp)];exact h2
 ·rw[Zi hpd,Zc]
 ·exact Wb.mpr ⟨J.nd,by simp,fun a ha b hb e=>by rw[Qm.mp hb]at e;subst e;exact hP ha⟩
 ·unfold Zet;by_cases c:Q=P
  ·subst c;rw[if_pos rfl,if_pos rfl,Zc,J.out Q hP];rfl
  ·rw[if_neg c,if_neg c];have hQ':Q∈ks:=(mm Q hQ).resolve_right c;rw[Zi (hpa Q hQ'),Zi (J.ne hQ'),Zi (hpa Q hQ')];exact J.row Q hQ'
 ·skip
  by_cases c:Q=P
  ·rw[if_pos c];cases hh:H p with
   | none=>rfl
   | some u=>have:=J.sm p u hh;rw[hp]at this;cases this
  ·rw[if_neg c];exact J.fresh Q ((mm Q hQ).resolve_right c)
 ·skip
  by_cases c:Q=P
  ·by_cases c':Q'=P
   ·rw[c,c']
   ·rw[if_pos c,if_neg c']at e;exact absurd e.symm (hpa Q' ((mm Q' hQ').resolve_right c'))
  ·by_cases c':Q'=P
   ·rw[if_neg c,if_pos c']at e;exact absurd e (hpa Q ((mm Q hQ).resolve_right c))
   ·rw[if_neg c,if_neg c']at e;exact J.inj Q ((mm Q hQ).resolve_right c) Q' ((mm Q' hQ').resolve_right c') e
 ·have h1:Q∉ks:=fun z=>hQ (QS _ z);have h2:¬ Q=P:=fun z=>hQ (by simp[z]);unfold Zet;rw[if_neg h2];exact J.out Q h1
def TiR (H:Hp) (q d:Addr) (es:Es) (i:Nat):L2.St->Hp->Prop:=fun σ H2=>(∃ z2 z3:Option V,σ=[some (.ref q),some (.ref d),z2,z3])/\∃ ks adr r,TJ H H2 d ks adr r/\Pts (es.take i) ks/\(∀ P y,y∈r P↔Adj (es.take i) P y)/\∀ P,(r P).length<=2*i
abbrev XC:Stmt:=top 15
abbrev Zea:List Str:=["H","tied","piece","many"]
theorem scTiedPoints:Zm Zea ["H"] (Zg XC):=⟨rfl,rfl,rfl,by decide +kernel,rfl,by decide +kernel,by decide +kernel⟩
def ZkM:Sp:=fun vs H Q _=>∃ (v:V) (es:Es),vs=[v]/\HeapV H v es/\Jq es/\∀ d H' ks adr r,TJ H H' d ks adr r->Pts es ks->(∀ P y,y∈r P↔Adj es P y)->(∀ P,(r P).length<=128)->Q (.ref d) H'
theorem ZaP (D:HasDef K mg "tied_points" XC ["H"]) (g12_:FOk P w K mg base 1 "begin_of" ["piece"] Zbv) (g17_:FOk P w K mg base 1 "end_of" ["piece"] ZfG):FOk P w K mg base 2 "tied_points" ["H"] ZkM:=by
 refine D.ok scTiedPoints (fun vs H Q E h=>?_) (fun f cdv A outer s H vs Q E hr h=>?_)
 ·obtain⟨v,es,rfl,_⟩:=h;rfl
 ·obtain⟨v,es,rfl,⟨q,vs,rfl,hq,hpa⟩,hF,k⟩:=h;refine⟨_,(Ze (Zp (i:=1) scTiedPoints.nd rfl (.inl rfl) YW)
   (Ze (Z4 PassesOwn.never rfl (Yf (pv 0)) (Z7 2 K rfl (Zv (Zy (i:=2) scTiedPoints.nd rfl (.inl rfl)) (Zv (Zy (i:=3) scTiedPoints.nd rfl (.inl rfl)) Z6)))
    (Ze (ZW (ZbV F.plainAttrs_list F.slot_list_append F.type_list_append Yk (ZdY (pv 1) (Zt g12_ hr (Za (pv 2) Zd)) (ZR Zd) ⟨rfl,rfl,rfl,rfl⟩) (Za (Zt g17_ hr (Za (pv 2) Zd)) Zd)))
   (Zh (ZW (ZbV F.plainAttrs_list F.slot_list_append F.type_list_append Yk (ZdY (pv 1) (Zt g17_ hr (Za (pv 2) Zd)) (ZR Zd) ⟨rfl,rfl,rfl,rfl⟩) (Za (Zt g12_ hr (Za (pv 2) Zd)) Zd))))))
   (Zh (Zn (pv 1))))),?_⟩
  intro d hd;have s1:=Zb (o:=.dK []) hd;refine⟨_,rfl,q,rfl,⟨_,SqT.of (s1 _ _ hq)⟩,?_⟩;refine YJ (K:=K) (a:=q) (xs:=vs) (fun i σ H2=>(∃ z2 z3:Option V,σ=[some (.ref q),some (.ref d),z2,z3])/\∃ ks adr r,TJ H H2 d ks adr r/\Pts (es.take i) ks/\(∀ P y,y∈r P↔Adj (es.take i) P y)/\∀ P,(r P).length<=2*i)
   ⟨⟨none,none,rfl⟩,[],fun _=>d,fun _=>[],⟨s1,hd,Zc,Wy,(fun P h=>by cases h),(fun P h=>by cases h),(fun P h=>by cases h),fun _ _=>rfl⟩,Pts.nil,(fun P y=>by simp[Adj]),fun P=>Qi _⟩ (fun i σ H2 _ ⟨_,_,_,_,J,_⟩=>SqT.of (J.sm _ _ hq)) ?_ ?_
  ·rintro i x σ H2 hi ⟨⟨z2,z3,rfl⟩,ks,adr,r,J,hk,hadj,hlen⟩;have hiv:i<vs.length:=(Qo.mp hi).1;have hie:i<es.length:=by rw[←hpa.1];exact hiv
   obtain⟨b,e1,e2⟩:=hpa.2 i es[i] (Qa hie);rw[hi]at e1;cases e1;obtain⟨l1,l2⟩:=hF.long es[i] (QF hie);have hkl:=hk.len;have hfew:=hF.few;rw[QJ]at hkl;refine⟨b,_,rfl,SqT.of (J.sm _ _ e2),rfl,_,_,rfl,_,_,rfl,rfl,?_⟩;have het:es.take (i+1)=es.take i++[es[i]]:=QY hie;generalize es[i]=e at *;have one:∀ (H3:Hp) (ks3:List Str) (adr3:Str->Addr) (r3:Str->List Str) (P y:Str) (R:L2.St->Hp->Prop) (σ3:L2.St),TJ H H3 d ks3 adr3 r3->ks3.length<=500->(∀ x,(r3 x).length<=500)->(∀ H4 adr4,TJ H H4 d (Y2 ks3 P) adr4 (Zet r3 P y)->R σ3 H4)->∀ p,H3 p=none ->
     (∀ v,Xx (rD ks3 adr3) (Sum.inr P:Key)=some v->∃ l xs,v= .ref l/\(upd H3 p (.lst [])) l=some (.lst xs)/\xs.length<sizeLine/\R σ3 (upd (upd H3 p (.lst [])) l (.lst (xs++[.str y])))) /\
     (Xx (rD ks3 adr3) (Sum.inr P:Key)=none->∃ xs,(upd (upd H3 p (.lst [])) d (.dK (X8 (rD ks3 adr3) (Sum.inr P) (.ref p)))) p=some (.lst xs)/\xs.length<sizeLine/\R σ3 (upd (upd (upd H3 p (.lst [])) d (.dK (X8 (rD ks3 adr3) (Sum.inr P) (.ref p)))) p (.lst (xs++[.str y])))):=by
    intro H3 ks3 adr3 r3 P y R σ3 J3 hks hr3 hR p hp;constructor
    ·intro v hv;rw[Jv]at hv;by_cases c:P∈ks3
     ·rw[if_pos c]at hv;cases hv;refine⟨adr3 P,(r3 P).map V.str,rfl,Zb hp _ _ (J3.row P c),?_,hR _ _ (J3.old c hp)⟩;rw[Qc];have:=hr3 P;exact Zz (by omega)
     ·rw[if_neg c]at hv;cases hv
    ·intro hv;rw[Jv]at hv;by_cases c:P∈ks3
     ·rw[if_pos c]at hv;cases hv
     ·have hpd:p≠d:=fun e=>by rw[e,J3.dd]at hp;cases hp
      refine⟨[],by rw[Zi hpd,Zc],Zz (by decide),?_⟩;rw[Zk3 c];exact hR _ _ (J3.new c hp)
   have hkz:ks.length<=500:=by omega
   have hrz:∀ x,(r x).length<=500:=fun x=>by have:=hlen x;omega
   show ZfF _ _ _ _ _;refine Yh (fun σ H'=>σ=[some (.ref q),some (.ref d),some (.str e.1),some (.int e.2)]/\∃ adr',TJ H H' d (Y2 ks (bg e.1)) adr' (Zet r (bg e.1) (en e.1))) (fun R hR=>?_) ?_
   ·refine⟨_,rfl,d,rfl,.inl ⟨_,.inl J.dd⟩,_,rfl,e.1,rfl,l1,l2,Zj (show 0<=1000 by decide),fun p hp=>?_⟩;refine⟨_,Sum.inr (bg e.1),Zb hp _ _ J.dd,rfl,by rw[Zht];exact Zz (by omega),fun v hv=>?_,fun hv=>?_⟩
    ·obtain⟨l,xs,rfl,hl,hz,hr'⟩:=(one H2 ks adr r (bg e.1) (en e.1) R [some (.ref q),some (.ref d),some (.str e.1),some (.int e.2)] J hkz hrz (fun H4 adr4 J4=>hR _ _ ⟨rfl,adr4,J4⟩) p hp).1 v hv;exact⟨.inl ⟨rfl,_,SqL.of hl⟩,_,rfl,e.1,rfl,l1,l2,l,xs,.str (en e.1),rfl,rfl,hl,hz,hr'⟩
    ·obtain⟨xs,hl,hz,hr'⟩:=(one H2 ks adr r (bg e.1) (en e.1) R [some (.ref q),some (.ref d),some (.str e.1),some (.int e.2)] J hkz hrz (fun H4 adr4 J4=>hR _ _ ⟨rfl,adr4,J4⟩) p hp).2 hv;exact⟨.inl ⟨rfl,_,SqL.of hl⟩,_,rfl,e.1,rfl,l1,l2,p,xs,.str (en e.1),rfl,rfl,hl,hz,hr'⟩
   rintro σ H3 ⟨rfl,adr3,J3⟩;have hal:=Y0 ks (bg e.1);have hrz3:∀ x,(Zet r (bg e.1) (en e.1) x).length<=500:=fun x=>by have:=Zcq (P:=bg e.1) (y:=en e.1) hlen x;omega
   have fin:∀ H4 adr4,TJ H H4 d (Y2 (Y2 ks (bg e.1)) (en e.1)) adr4 (Zet (Zet r (bg e.1) (en e.1)) (en e.1) (bg e.1))->TiR H q d es (i+1) [some (.ref q),some (.ref d),some (.str e.1),some (.int e.2)] H4:=fun H4 adr4 J4=>by
    refine⟨⟨_,_,rfl⟩,_,adr4,_,J4,by rw[het];exact hk.step e,fun P y=>?_,fun P=>?_⟩
    ·rw[ZfA,ZfA,hadj,het,ZkB];constructor
     ·rintro((z | ⟨z1,z2⟩) | ⟨z1,z2⟩)
      ·exact .inl z
      ·exact .inr (.inl ⟨z1.symm,z2.symm⟩)
      ·exact .inr (.inr ⟨z1.symm,z2.symm⟩)
     ·rintro(z | ⟨z1,z2⟩ | ⟨z1,z2⟩)
      ·exact .inl (.inl z)
      ·exact .inl (.inr ⟨z1.symm,z2.symm⟩)
      ·exact .inr ⟨z1.symm,z2.symm⟩
    ·have:=Zcq (P:=en e.1) (y:=bg e.1) (fun x=>Zcq (P:=bg e.1) (y:=en e.1) hlen x) P;omega
   refine⟨_,rfl,d,rfl,.inl ⟨_,.inl J3.dd⟩,_,rfl,e.1,rfl,l1,l2,Zj (show 0<=1000 by decide),fun p hp=>?_⟩;refine⟨_,Sum.inr (en e.1),Zb hp _ _ J3.dd,rfl,by rw[Zht];exact Zz (by omega),fun v hv=>?_,fun hv=>?_⟩
   ·obtain⟨l,xs,rfl,hl,hz,hr'⟩:=(one H3 _ adr3 _ (en e.1) (bg e.1) (TiR H q d es (i+1)) [some (.ref q),some (.ref d),some (.str e.1),some (.int e.2)] J3 (by omega) hrz3 fin p hp).1 v hv;exact⟨.inl ⟨rfl,_,SqL.of hl⟩,_,rfl,e.1,rfl,l1,l2,l,xs,.str (bg e.1),rfl,rfl,hl,hz,hr'⟩
   ·obtain⟨xs,hl,hz,hr'⟩:=(one H3 _ adr3 _ (en e.1) (bg e.1) (TiR H q d es (i+1)) [some (.ref q),some (.ref d),some (.str e.1),some (.int e.2)] J3 (by omega) hrz3 fin p hp).2 hv;exact⟨.inl ⟨rfl,_,SqL.of hl⟩,_,rfl,e.1,rfl,l1,l2,p,xs,.str (bg e.1),rfl,rfl,hl,hz,hr'⟩
  ·rintro σ H2 ⟨⟨z2,z3,rfl⟩,ks,adr,r,J,hk,hadj,hlen⟩;rw[hpa.1,WS]at hk hadj;have:=hF.few;exact⟨_,rfl,k d H2 ks adr r J hk hadj fun P=>by have:=hlen P;rw[hpa.1]at this;omega⟩
def bD (ks:List Str):List (Key×V):=ks.map fun x=>((Sum.inr x:Key),V.bl true)
theorem Zfy (ks:List Str):(bD ks).length=ks.length:=by unfold bD;rw[Qc]
theorem ZlA (ks:List Str) (y:Str):Xx (bD ks) (Sum.inr y)=if y∈ks then some (.bl true)else none:=JU (fun _=>V.bl true) y ks
theorem Zi4 (ks:List Str) (y:Str):X8 (bD ks) (Sum.inr y) (.bl true)=bD (Y2 ks y):=by
 unfold Y2;by_cases m:y∈ks
 ·rw[if_pos m];unfold bD;rw[Za4 _ _ _ _ m];refine QR fun x _=>?_;simp
 ·rw[if_neg m,ZbN _ (by rw[ZlA,if_neg m])];unfold bD;rw[QG,Q8]
theorem Zb5 (nd:ss.Nodup) (h:(ss.map fun x=>x.cps.toList).Pairwise (·<=·)):(ss.map fun x=>x.cps.toList).Pairwise (· < ·):=by
 rw[We]at h ⊢;have:=List.Pairwise.and nd h;refine this.imp fun {a b} q=>?_;refine Tim.lt_ne (fun z=>?_) (Ne.symm q.1);exact absurd z (Uk.mpr q.2)
structure Wk (es:Es) (a:Str) (ks F W:List Str):Prop where
 nd:F.Nodup
 fst:a∈F
 rch:∀ x∈F,Rch es a x
 sub:∀ x∈W,x∈F
 inn:∀ x∈F,x∈ks
theorem Wk.le {a:Str} {F W:List Str} (h:Wk es a ks F W):F.length<=ks.length:=by
 have h1:=h.nd;have h2:=h.inn;clear h;induction F generalizing ks with
 | nil=>exact QL _
 | cons x F ih =>
  have nd':=QW.mp h1;have hx:=h2 x (Qd ..);have p:=Rq hx;have:=ih (ks:=ks.erase x) nd'.2 fun y hy=>(Wz (fun(q:y=x)=>nd'.1 (q▸hy))).mpr (h2 y (Qg _ hy));rw[Wm hx]at this;have hpos:0<ks.length:=Ws hx;rw[QO];omega
abbrev ZdQ:Stmt:=top 16
abbrev Zmw:List Str:=["H","tied","first","found","waiting","here","point"]
theorem scPartOf:Zm Zmw ["H"] (Zg ZdQ):=⟨rfl,rfl,rfl,by decide +kernel,rfl,by decide +kernel,by decide +kernel⟩
def ZgN:Sp:=fun vs H Q _=>∃ (v:V) (e:Str×Int) (es:Es),vs=[v]/\HeapV H v (e::es)/\Jq (e::es)/\∀ v' H' ss,Same H H'->TupS H' v' ss->(ss.map fun x=>x.cps.toList).Pairwise (· < ·)->ss.length<=128->(∀ x,x∈ss↔Rch (e::es) (bg e.1) x)->Q v' H'
theorem ZfO (D:HasDef K mg "part_of" ZdQ ["H"]) (B:Blt mg) (g12_:FOk P w K mg base 2 "begin_of" ["piece"] Zbv) (g46_:FOk P w K mg base 2 "tied_points" ["H"] ZkM):FOk P w K mg base 3 "part_of" ["H"] ZgN:=by
 refine D.ok scPartOf (fun vs H Q E h=>?_) (fun f cdv A outer s H vs Q E hr h=>?_)
 ·obtain⟨v,e,es,rfl,_⟩:=h;rfl
 ·obtain⟨v,e,es0,rfl,hV,hF,k⟩:=h;have hu:=JH hr;obtain⟨q,vs,rfl,hq,hpa⟩:=id hV;refine⟨_,(Ze (Zp (i:=1) scPartOf.nd rfl (.inl rfl) (Zt g46_ hr (Za (pv 0) Zd)))
   (Ze (Zp (i:=2) scPartOf.nd rfl (.inl rfl) (Zt g12_ hr (Za (Zw ix_tup (Zw ix_tup (pv 0) Zf (fun _ _=>rfl)) Zf (fun _ _=>rfl)) Zd)))
   (Ze (Zp (i:=3) scPartOf.nd rfl (.inl rfl) (Zmh (ZjH (pv 2) Ym Zmc) rfl rfl (R6 _ _) (by decide)))
   (Ze (Zp (i:=4) scPartOf.nd rfl (.inl rfl) (ZR (Za (pv 2) Zd)))
   (Ze (ZbO PassesOwn.never (Zo ZaN (Zl ZC rfl B.len Ys (Za (pv 4) Zd)) Zf (Zr _))
    (Ze (Zp (i:=5) scPartOf.nd rfl (.inl rfl) (ZhI F.plainAttrs_list F.slot_list_pop F.type_list_pop Zed (pv 4)))
   (Zh (Z4 PassesOwn.never rfl (Yp (Zaj hu (pv 1) (pv 5) (fun _ _=>rfl))) (Zy (i:=6) scPartOf.nd rfl (.inl rfl))
    (Zh (ZE (ZnP (ZhJ hu (pv 6) (pv 3))) (Ze (YV hu (pv 3) (pv 6) Ym rfl)
   (Zh (ZW (ZbV F.plainAttrs_list F.slot_list_append F.type_list_append Yk (pv 4) (Za (pv 6) Zd))))) Zs))))))
   (Zh (Zn (ZA ZB rfl B.tuple Yr (Za (Zl (YK rfl) rfl B.sorted YZ (Za (pv 3) Zd)) Zd))))))))),?_⟩
  obtain⟨b0,eb0,hb0⟩:=hpa.2 0 e rfl;obtain⟨l1,l2⟩:=hF.long e (Qd ..);refine⟨_,rfl,.ref q,e::es0,rfl,hV,hF,fun d H1 ks adr r J hk hadj hlen=>?_⟩;have hf1:=hk.len;have hf2:=hF.few;have haK:bg e.1∈ks:=(hk.mem _).mpr ⟨e,Qd ..,.inl rfl⟩;generalize hes:e::es0=es at *;refine⟨_,rfl,q,vs,0,.ref b0,rfl,rfl,SqT.of (J.sm _ _ hq),YI (by decide) eb0,b0,_,0,.str e.1,rfl,rfl,SqT.of (J.sm _ _ hb0),rfl,e.1,rfl,l1,l2,fun fd hfd=>?_⟩;refine⟨_,rfl,Zc,[((Sum.inr (bg e.1):Key),V.bl true)],rfl,by simp,?_⟩;rw[X9];have s2:Same H1 (upd H1 fd (.dK (Jz [] [((Sum.inr (bg e.1):Key),V.bl true)]))):=Zb hfd;have hfd2:(upd H1 fd (.dK (Jz [] [((Sum.inr (bg e.1):Key),V.bl true)]))) fd=some (.dK (bD [bg e.1])):=Zc;generalize upd H1 fd (.dK (Jz [] [((Sum.inr (bg e.1):Key),V.bl true)]))=H2 at s2 hfd2;refine⟨_,rfl,Zj (show 1<=1000 by decide),fun wl hwl=>?_⟩;have hwl1:H1 wl=none:=s2.free hwl;have hne:wl≠fd:=fun z=>by rw[z,hfd2]at hwl;cases hwl
  have s3:=s2.trans (Zb (o:=.lst [.str (bg e.1)]) hwl);have hfd3:=Zb (o:=.lst [.str (bg e.1)]) hwl _ _ hfd2;have hwl3:(upd H2 wl (.lst [.str (bg e.1)])) wl=some (.lst ([bg e.1].map V.str)):=Zc;generalize upd H2 wl (.lst [.str (bg e.1)])=H3 at s3 hfd3 hwl3;have shift:∀ {H4:Hp} (F W:List Str),Same H1 H4->Same H1 (upd (upd H4 fd (.dK (bD F))) wl (.lst (W.map V.str))):=fun F W s b u hb=>by
   rw[Zi (Zk hb hwl1),Zi (Zk hb hfd)];exact s b u hb
  have shW:∀ {H4:Hp} (o:HO),Same H1 H4->Same H1 (upd H4 wl o):=fun o s b u hb=>by
   rw[Zi (Zk hb hwl1)];exact s b u hb
  have shF:∀ {H4:Hp} (o:HO),Same H1 H4->Same H1 (upd H4 fd o):=fun o s b u hb=>by
   rw[Zi (Zk hb hfd)];exact s b u hb
  try dsimp only[JI]
  show ZfF (ZeE _ _) _ _ _ _;refine Yh (fun σ H4=>∃ (F:List Str) (z5 z6:Option V),σ=[some (.ref q),some (.ref d),some (.str (bg e.1)),some (.ref fd),some (.ref wl),z5,z6]/\Same H1 H4/\H4 fd=some (.dK (bD F))/\Wk es (bg e.1) ks F []/\∀ x∈F,∀ y,Adj es x y->y∈F) (fun R hR=>?_) ?_
  ·refine⟨fun m σ H4=>∃ (F W:List Str) (z5 z6:Option V),σ=[some (.ref q),some (.ref d),some (.str (bg e.1)),some (.ref fd),some (.ref wl),z5,z6]/\Same H1 H4/\H4 fd=some (.dK (bD F))/\H4 wl=some (.lst (W.map V.str))/\Wk es (bg e.1) ks F W/\(∀ x∈F,x∉W->∀ y,Adj es x y->y∈F)/\m=2*(ks.length-F.length)+W.length/\m<=2*ks.length,
    ⟨_,[bg e.1],[bg e.1],none,none,rfl,s3,hfd3,hwl3,⟨by simp,by simp,(fun x hx=>by rw[Qm.mp hx];exact .here),fun x hx=>hx,fun x hx=>by rw[Qm.mp hx];exact haK⟩,(fun x hx hw=>absurd hx hw),rfl,by have:=Ws haK;simp only[QA];omega⟩,?_⟩
   rintro m σ H4 ⟨F,W,z5,z6,rfl,s4,hfd4,hwl4,hW,hcl,hm,hw5⟩;refine⟨_,rfl,.ref wl,_,rfl,.inl ⟨_,SqL.of hwl4,rfl⟩,_,_,rfl,rfl,_,rfl,?_⟩;rcases WW W with rfl | ⟨r0,here,rfl⟩
   ·exact ZM (by decide) (hR _ _ ⟨F,z5,z6,rfl,s4,hfd4,hW,fun x hx=>hcl x hx (fun z=>by cases z)⟩)
   rw[WX]at *;refine Ya (decide_eq_true (by rw[QG,Qp,Q8,QA];omega)) ?_;have hhF:here∈F:=hW.sub here (by simp);have hhK:=hW.inn here hhF;rw[Qp,QA]at hm;refine⟨fun σ' H'=>∃ m',m'<m/\∃ (F W:List Str) (z5 z6:Option V),σ'=[some (.ref q),some (.ref d),some (.str (bg e.1)),some (.ref fd),some (.ref wl),z5,z6]/\Same H1 H'/\H' fd=some (.dK (bD F))/\H' wl=some (.lst (W.map V.str))/\Wk es (bg e.1) ks F W/\(∀ x∈F,x∉W->∀ y,Adj es x y->y∈F)/\m'=2*(ks.length-F.length)+W.length/\m'<=2*ks.length,fun _ _ z=>z,?_⟩;refine⟨_,rfl,.inl ⟨rfl,_,SqL.of hwl4⟩,wl,_,V.str here,rfl,rfl,hwl4,by rw[QG,Q8];simp,?_⟩;rw[show((r0++[here]).map V.str).dropLast=r0.map V.str by rw[QG,Q8,UV]];have s5:Same H1 (upd H4 wl (.lst (r0.map V.str))):=shW _ s4;have hwl5:(upd H4 wl (.lst (r0.map V.str))) wl=some (.lst (r0.map V.str)):=Zc;have hfd5:(upd H4 wl (.lst (r0.map V.str))) fd=some (.dK (bD F)):=by rw[Zi (Ne.symm hne)];exact hfd4
   generalize upd H4 wl (.lst (r0.map V.str))=H5 at s5 hwl5 hfd5;refine⟨_,rfl,_,rfl,d,.ref (adr here),rfl,.inl ⟨_,Sum.inr here,.inl (s5 _ _ J.dd),rfl,by rw[Jv,if_pos hhK]⟩,adr here,rfl,⟨_,SqL.of (s5 _ _ (J.row here hhK))⟩,?_⟩;refine JS (K:=K) (a:=adr here) (xs:=(r here).map V.str) (fun j σ' H'=>∃ (F W:List Str) (z6:Option V),σ'=[some (.ref q),some (.ref d),some (.str (bg e.1)),some (.ref fd),some (.ref wl),some (.str here),z6]/\Same H1 H'/\H' fd=some (.dK (bD F))/\H' wl=some (.lst (W.map V.str))/\Wk es (bg e.1) ks F W/\(∀ x∈F,x∉W->x≠here->∀ y,Adj es x y->y∈F)/\(∀ y∈(r here).take j,y∈F)/\2*(ks.length-F.length)+W.length+1<=m)
    ⟨F,r0,z6,rfl,s5,hfd5,hwl5,⟨hW.nd,hW.fst,hW.rch,fun x hx=>hW.sub x (QS _ hx),hW.inn⟩,fun x hx h1 h2=>hcl x hx (fun z=>by rcases QI.mp z with z | z;exact h1 z;exact h2 (Qm.mp z)),(fun y hy=>by rw[Rm]at hy;cases hy),by omega⟩
    (fun i σ' H' _ ⟨_,_,_,_,s6,_⟩=>SqL.of (s6 _ _ (J.row here hhK))) ?_ ?_
   ·rintro j x σ' H6 hj ⟨F6,W6,z6',rfl,s6,hfd6,hwl6,hW6,hcl6,hin6,hm6⟩;rw[Qk]at hj;obtain⟨y,hy,rfl⟩:=Wr.mp hj;have hya:Adj es here y:=(hadj here y).mp (Wp hy);have hyK:y∈ks:=by
     obtain⟨e',he',q'⟩:=hya;rcases q' with ⟨_,q'⟩ | ⟨_,q'⟩
     ·exact(hk.mem y).mpr ⟨e',he',.inr q'⟩
     ·exact(hk.mem y).mpr ⟨e',he',.inl q'⟩
    have htk:(r here).take (j+1)=(r here).take j++[y]:=by
     rw[RQ,hy];rfl
    have hle6:=hW6.le;refine⟨_,rfl,_,rfl,fd,Xx (bD F6) (Sum.inr y),rfl,.inl ⟨_,Sum.inr y,.inl hfd6,rfl,rfl⟩,?_⟩;rw[ZlA];by_cases c:y∈F6
    ·rw[if_pos c];refine⟨_,rfl,ZM rfl ⟨F6,W6,_,rfl,s6,hfd6,hwl6,hW6,hcl6,fun y' hy'=>?_,hm6⟩⟩;rw[htk]at hy';rcases QI.mp hy' with z | z
     ·exact hin6 y' z
     ·rw[Qm.mp z];exact c
    ·rw[if_neg c];have hW7:Wk es (bg e.1) ks (F6++[y]) (W6++[y]):=⟨Wb.mpr ⟨hW6.nd,by simp,fun a ha b hb e=>by rw[Qm.mp hb]at e;subst e;exact c ha⟩,QS _ hW6.fst,(fun x hx=>by
       rcases QI.mp hx with z | z
       ·exact hW6.rch x z
       ·rw[Qm.mp z];exact .step (hW.rch here hhF) hya),(fun x hx=>by
       rcases QI.mp hx with z | z
       ·exact QS _ (hW6.sub x z)
       ·rw[Qm.mp z];simp),fun x hx=>by
       rcases QI.mp hx with z | z
       ·exact hW6.inn x z
       ·rw[Qm.mp z];exact hyK⟩
     have hlt:F6.length+1<=ks.length:=by
      have:=hW7.le;rw[Qp,QA]at this;exact this
     refine⟨_,rfl,Ya rfl ⟨_,rfl,_,rfl,fd,_,rfl,DPut.kk (k:=Sum.inr y) hfd6 (by rw[Zfy];exact Zz (by omega)),?_⟩⟩;rw[Zi4,show Y2 F6 y=F6++[y]by unfold Y2;rw[if_neg c]];have s7:Same H1 (upd H6 fd (.dK (bD (F6++[y])))):=shF _ s6;have hfd7:(upd H6 fd (.dK (bD (F6++[y])))) fd=some (.dK (bD (F6++[y]))):=Zc;have hwl7:(upd H6 fd (.dK (bD (F6++[y])))) wl=some (.lst (W6.map V.str)):=by rw[Zi hne];exact hwl6
     generalize upd H6 fd (.dK (bD (F6++[y])))=H7 at s7 hfd7 hwl7;refine⟨_,rfl,.inl ⟨rfl,_,SqL.of hwl7⟩,_,rfl,wl,_,.str y,rfl,rfl,hwl7,by rw[Qc];exact Zz (by omega),?_⟩;refine⟨F6++[y],W6++[y],_,rfl,shW _ s7,by rw[Zi (Ne.symm hne)];exact hfd7,by rw[Zc,QG,Q8],hW7,fun x hx hxw hxh y' hy'=>?_,fun y' hy'=>?_,by rw[Qp,Qp,QA];omega⟩
     ·rcases QI.mp hx with z | z
      ·exact QS _ (hcl6 x z (fun q=>hxw (QS _ q)) hxh y' hy')
      ·exact absurd (QU _ z) hxw
     ·rw[htk]at hy';rcases QI.mp hy' with z | z
      ·exact QS _ (hin6 y' z)
      ·exact QU _ z
   ·rintro σ' H6 ⟨F6,W6,z6',rfl,s6,hfd6,hwl6,hW6,hcl6,hin6,hm6⟩;rw[Qc,WS]at hin6;refine⟨_,?_,F6,W6,_,_,rfl,s6,hfd6,hwl6,hW6,fun x hx hxw y hxy=>?_,rfl,?_⟩
    ·omega
    ·by_cases c:x=here
     ·subst c;exact hin6 y ((hadj x y).mpr hxy)
     ·exact hcl6 x hx hxw c y hxy
    ·omega
  ·rintro σ H4 ⟨F,z5,z6,rfl,s4,hfd4,hW,hcl⟩;have hle:=hW.le;refine⟨_,rfl,fd,F,fun _=>.bl true,rfl,hfd4,hW.nd,by omega,fun p ss hp hpm hsrt=>?_⟩;refine⟨p,_,rfl,.inl ⟨SqL.of Zc,fun l hl=>?_⟩⟩;refine k (.ref l) _ ss (((J.sm.trans s4).trans (Zb hp)).trans (Zb hl)) ⟨l,rfl,Zc⟩ (Zb5 (hpm.nodup_iff.mpr hW.nd) hsrt) (by rw[hpm.length_eq];omega) fun x=>?_;rw[hpm.mem_iff];exact⟨hW.rch x,fun z=>Rch.closed hW.fst hcl z⟩
theorem Zmt {F:List Str}:∀ {ks:List Str},F.Nodup->(∀ x∈F,x∈ks)->F.length<=ks.length:=by
 induction F with
 | nil=>exact fun _ _=>QL _
 | cons x F ih =>
  intro ks h1 h2;have nd':=QW.mp h1;have hx:=h2 x (Qd ..);have:=ih (ks:=ks.erase x) nd'.2 fun y hy=>(Wz (fun(q:y=x)=>nd'.1 (q▸hy))).mpr (h2 y (Qg _ hy));rw[Wm hx]at this;have hpos:0<ks.length:=Ws hx;rw[QO];omega
theorem Zn7 {F:List Str} (h1:F.Nodup) (h2:∀ x∈F,x∈ks) (he:F.length=ks.length):∀ x∈ks,x∈F:=by
 intro x hx;apply Classical.byContradiction;intro hn;have:=Zmt (ks:=ks.erase x) h1 fun y hy=>(Wz (fun(q:y=x)=>hn (q▸hy))).mpr (h2 y hy);rw[Wm hx]at this;have hpos:0<ks.length:=Ws hx;omega
theorem ZjW (h:(ss.map fun x=>x.cps.toList).Pairwise (· < ·)):ss.Nodup:=by
 rw[We]at h;refine h.imp fun {a b} q e=>?_;subst e;exact Uc _ q
theorem Rch.pt {e:Str×Int} (h:Rch (e::es) (bg e.1) x):∃ e'∈e::es,bg e'.1=x\/en e'.1=x:=by
 cases h with
 | here=>exact⟨e,by simp,.inl rfl⟩
 | step _ k =>
  obtain⟨e',he,⟨_,q⟩ | ⟨_,q⟩⟩:=k
  ·exact⟨e',he,.inr q⟩
  ·exact⟨e',he,.inl q⟩
theorem Zkk {e:Str×Int} {pp:List Str} (n1:ss.Nodup) (h1:∀ x,x∈ss↔Rch (e::es) (bg e.1) x) (n2:pp.Nodup) (h2:∀ x,x∈pp↔∃ e'∈e::es,bg e'.1=x\/en e'.1=x) :
  ss.length=pp.length↔∀ e'∈e::es,Rch (e::es) (bg e.1) (bg e'.1):=by
 have sub:∀ x∈ss,x∈pp:=fun x hx=>(h2 x).mpr ((h1 x).mp hx).pt;constructor
 ·intro he e' he';exact(h1 _).mp (Zn7 n1 sub he _ ((h2 _).mpr ⟨e',he',.inl rfl⟩))
 ·intro h;have:∀ x∈pp,x∈ss:=fun x hx=>by
   obtain⟨e',he',q | q⟩:=(h2 x).mp hx
   ·rw[←q];exact(h1 _).mpr (h e' he')
   ·exact(h1 _).mpr (.step (h e' he') ⟨e',he',.inl ⟨rfl,q⟩⟩)
  have a:=Zmt n1 sub;have b:=Zmt n2 this;omega
abbrev Zhl:Stmt:=top 17
abbrev Zof:List Str:=["H"]
theorem ZlZ:Zm Zof ["H"] (Zg Zhl):=⟨rfl,rfl,rfl,by decide +kernel,rfl,by decide +kernel,by decide +kernel⟩
def ZdL:Sp:=fun vs H Q _=>∃ (v:V) (e:Str×Int) (es:Es),vs=[v]/\HeapV H v (e::es)/\Jq (e::es)/\∀ H' (b:Bool),Same H H'->(b=true↔∀ e'∈e::es,Rch (e::es) (bg e.1) (bg e'.1))->Q (.bl b) H'
theorem ZjR (D:HasDef K mg "hangs" Zhl ["H"]) (B:Blt mg) (g36_:FOk P w K mg base 3 "part_of" ["H"] ZgN) (g38_:FOk P w K mg base 3 "points_of" ["H"] XL):FOk P w K mg base 4 "hangs" ["H"] ZdL:=by
 refine D.ok ZlZ (fun vs H Q E h=>?_) (fun f cdv A outer s H vs Q E hr h=>?_)
 ·obtain⟨v,e,es,rfl,_⟩:=h;rfl
 ·obtain⟨v,e,es,rfl,hV,hF,k⟩:=h;refine⟨_,(Zh (Zn (YH Yv (Zl ZC rfl B.len Ys (Za (Zt g36_ hr (Za (pv 0) Zd)) Zd)) (Zl ZC rfl B.len Ys (Za (Zt g38_ hr (Za (pv 0) Zd)) Zd)) (Zr _)))),?_⟩;refine⟨_,rfl,v,e,es,rfl,hV,hF,fun v1 H1 ss s1 ht1 hs1 hl1 hm1=>?_⟩;obtain⟨q1,rfl,hq1⟩:=id ht1;refine⟨.ref q1,ss.length,rfl,.inr ⟨_,SqT.of hq1,by rw[Qc]⟩,_,rfl,v,e::es,rfl,hV.same s1,hF,fun v2 H2 pp s2 ht2 hp2=>?_⟩;obtain⟨q2,rfl,hq2⟩:=id ht2;refine⟨.ref q2,pp.length,rfl,.inr ⟨_,SqT.of hq2,by rw[Qc]⟩,?_⟩;refine⟨rfl,k _ _ (s1.trans s2) ?_⟩;rw[Zel,←Zkk (ZjW hs1) hm1 hp2.pts.nd hp2.pts.mem,beq_iff_eq];exact⟨fun z=>by omega,fun z=>by rw[z]⟩
theorem Zqi {p:Str×Int->Bool}:es.filter p=((Qs es.length).filter fun i=>p (es.getD i ("",0))).map fun i=>es.getD i ("",0):=by
 have e:es=(Qs es.length).map fun i=>es.getD i ("",0):=by
  apply QT;intro i;rw[Qk];by_cases hi:i<es.length
  ·rw[Q0 hi,Wc,Qb,Qa hi];rfl
  ·rw[Ql (by omega),Ql (by simp;omega)];rfl
 conv=>lhs;rw[e]
 rw[Rg];rfl
theorem Zkb {vs:List V} {p:Str×Int->Bool} (hn:n=es.length) (hl:vs.length=((Qs n).filter fun i=>p (es.getD i ("",0))).length)
  (hR:∀ (j i:Nat) (v:V),((Qs n).filter fun i=>p (es.getD i ("",0)))[j]?=some i->vs[j]?=some v->v= .int (es.getD i ("",0)).2):vs=((es.filter p).map fun e=>e.2).map V.int:=by
 subst hn;rw[Zqi];apply QT;intro j;rw[Qk,Qk,Qk];cases hj:((Qs es.length).filter fun i=>p (es.getD i ("",0)))[j]? with
 | none =>
  rw[Ql (by rw[hl];exact Q9.mp hj)];rfl
 | some i =>
  have hjv:j<vs.length:=by rw[hl];exact(Qo.mp hj).1
  rw[Qa hjv,hR j i vs[j] hj (Qa hjv)];rfl
theorem ZgC:∀ l:List Int,(∀ x∈l,0<=x/\x<=1000)->0<=l.sum/\l.sum<=1000*l.length
 | [],_=>⟨Ww _,Ww _⟩
 | x::l,h=>by
  have h1:=ZgC l fun y hy=>h y (Qg _ hy);have h2:=h x (Qd ..);rw[Qy,QO];omega
theorem Zj4 (hF:Jq es) (p:Str×Int->Bool):(∀ x∈(es.filter p).map fun e=>e.2,InLong x)/\∀ k,InLong (((es.filter p).map fun e=>e.2).take k).sum:=by
 have hb:∀ x∈(es.filter p).map fun e=>e.2,0<=x/\x<=1000:=fun x hx=>by
  obtain⟨e,he,rfl⟩:=Qr.mp hx;exact hF.many e (QB.mp he).1
 refine⟨fun x hx=>?_,fun k=>?_⟩
 ·have:=hb x hx;unfold InLong;omega
 ·have h1:=ZgC _ fun x hx=>hb x (Uu hx (i:=k));have h2:(((es.filter p).map fun e=>e.2).take k).length<=64:=by
   rw[QJ,Qc];have:=Q5 p es;have:=hF.few;omega
  unfold InLong;omega
def Zba (es:Es) (y:Str):Int:=((es.filter fun e=>decide (bg e.1=y)).map fun e=>e.2).sum
theorem dec_str:decide (V.str x=V.str y)=decide (x=y):=by
 rw[WE];simp
abbrev ZbC:Stmt:=top 5
abbrev Zh2:List Str:=["H","P"]
theorem Zjs:Zm Zh2 ["H","P"] (Zg ZbC):=⟨rfl,rfl,rfl,by decide +kernel,rfl,by decide +kernel,by decide +kernel⟩
def ZkR:Sp:=fun vs H Q _=>∃ (v:V) (es:Es) (y:Str),vs=[v,.str y]/\HeapV H v es/\Jq es/\∀ H',Same H H'->Q (.int (Zba es y)) H'
theorem ZfP (D:HasDef K mg "outs_of" ZbC ["H","P"]) (B:Blt mg) (g12_:FOk P w K mg base 1 "begin_of" ["piece"] Zbv):FOk P w K mg base 2 "outs_of" ["H","P"] ZkR:=by
 refine D.ok Zjs (fun vs H Q E h=>?_) (fun f cdv A outer s H vs Q E hr h=>?_)
 ·obtain⟨v,es,y,rfl,_⟩:=h;rfl
 ·obtain⟨v,es,y,rfl,⟨q,vs,rfl,hq,hpa⟩,hF,k⟩:=h;refine⟨_,(Zh (Zn (Zl (Zdt rfl) rfl B.sum Zep (Za (ZJ (Zg ZbC) Zh2 ["piece","many"] [1] rfl (Yf (pv 0)) (fun _ _ _ _ _=>Z7 2 K rfl (Zv (Yi 0) (Zv (Yi 1) Z6))) (fun _ _ _ _ _=>Zak (Zo Yv (Zt g12_ hr (Za (pv 0) Zd)) (pv 2) (Zr _))) (fun _ _ _ _ _=>(pv 1))) Zd)))),?_⟩;have hfew:=hF.few;have hvl:=hpa.1;refine⟨_,rfl,q,rfl,⟨_,SqT.of hq⟩,Zb7 vs.length (fun i=>vs.getD i .non) (fun i=>(fun e:Str×Int=>decide (bg e.1=y)) (es.getD i ("",0))) (fun i v _=>v= .int (es.getD i ("",0)).2) (Zj (by omega)) (fun _ _ _ _ _ r=>r) (Zaw (SqT.of hq)) ?_ ?_⟩
  ·intro i H3 Qt Qf hi hs ht hf;have hie:i<es.length:=by omega
   obtain⟨b,e1,e2⟩:=hpa.2 i es[i] (Qa hie);have ev:vs.getD i .non= .ref b:=by rw[Qb,e1];rfl
   have ee:es.getD i ("",0)=es[i]:=by rw[Qb,Qa hie];rfl
   obtain⟨l1,l2⟩:=hF.long es[i] (QF hie);rw[ee]at ht hf;rw[ev];refine⟨b,_,rfl,SqT.of (hs _ _ e2),rfl,_,_,rfl,_,_,rfl,rfl,_,rfl,es[i].1,rfl,l1,l2,_,rfl,rfl,_,rfl,?_⟩;rw[dec_str];by_cases c:bg es[i].1=y
   ·exact Ya (decide_eq_true c) ⟨_,rfl,ht (decide_eq_true c) _ _ (Same.refl _) rfl⟩
   ·exact ZM (decide_eq_false c) (hf (decide_eq_false c) _ (Same.refl _))
  intro D2 vs2 H16 hl2 hR2 s16 hD2 hDl2;rw[Zkb (p:=fun e=>decide (bg e.1=y)) hvl hl2 hR2]at hDl2;obtain⟨o1,o2⟩:=Zj4 hF fun e=>decide (bg e.1=y);exact⟨D2,_,rfl,SqL.of hDl2,o1,o2,k _ s16⟩
def Ye (f:Nat->Nat):Yd:=fun r c=>(if c=r then 1 else 0)-(if c=f r then 1 else 0)
def ZdC (f:Nat->Nat) (p v:Nat):Nat->Nat:=fun r=>if r=p then v else f r
theorem Zaa (f:Nat->Nat) (p v:Nat):ZdC f p v p=v:=by unfold ZdC;rw[if_pos rfl]
theorem Zg3 {v r:Nat} (h:r≠p):ZdC f p v r=f r:=by unfold ZdC;rw[if_neg h]
theorem Zg1 (f:Nat->Nat) (p v u:Nat):ZdC (ZdC f p v) p u=ZdC f p u:=by
 funext r
 unfold ZdC;split <;> rfl
theorem Zg2 (f:Nat->Nat) (p:Nat):ZdC f p (f p)=f:=by
 funext r
 unfold ZdC;split
 ·rename_i h;rw[h]
 ·rfl
theorem ZgZ (hp:p<n) (hq:f p<n) (hne:f p≠p):det n (Ye (ZdC f p (f (f p))))=det n (Ye f):=by
 have h:=ZiQ (n:=n) (f:=Ye f) (p:=p) (q:=f p) 1 1 (fun e=>hne e.symm) hp hq;rw[Wi]at h;rw[←h];congr 1
 funext r c
 unfold ZD;by_cases e:r=p
 ·subst e;rw[if_pos rfl];unfold Ye;rw[Zaa];omega
 ·rw[if_neg e];unfold Ye;rw[Zg3 e]
def itr (f:Nat->Nat):Nat->Nat->Nat
 | 0,x=>x
 | k+1,x=>f (itr f k x)
theorem Xe (f:Nat->Nat) (a:Nat):∀ (b x:Nat),itr f (a+b) x=itr f b (itr f a x)
 | 0,x=>rfl
 | b+1,x=>by
  show f (itr f (a+b) x)=f (itr f b (itr f a x));rw[Xe f a b x]
theorem Je {n p:Nat} {f:Nat->Nat} (hp:p<n):∀ k:Nat,(∀ j,1<=j->j<=k->itr f j p<n/\itr f j p≠p)->det n (Ye (ZdC f p (itr f (k+1) p)))=det n (Ye f)
 | 0,_=>by
  show det n (Ye (ZdC f p (f p)))=_;rw[Zg2]
 | k+1,h=>by
  have ih:=Je hp k fun j h1 h2=>h j h1 (by omega);obtain⟨h1,h2⟩:=h (k+1) (by omega) (Qi _);rw[←ih];have:=ZgZ (n:=n) (p:=p) (f:=ZdC f p (itr f (k+1) p)) hp (by rw[Zaa];exact h1) (by rw[Zaa];exact h2);rw[Zaa,Zg3 h2,Zg1]at this;exact this
theorem Zgp (hp:p<n) (e:f p=p):det n (Ye f)=0:=by
 have h:=ZiM (n:=n) (f:=Ye f) (p:=p) 0 hp;rw[Ug]at h;rw[←h];congr 1
 funext r c
 unfold ZD;by_cases q:r=p
 ·subst q;rw[if_pos rfl];unfold Ye;rw[e];omega
 ·rw[if_neg q]
def gof (n:Nat) (f:Nat->Nat) (x:Nat):Nat:=if x<n then f x else x
theorem Zfj {x:Nat} (h:x<n):gof n f x=f x:=if_pos h
theorem ZmT {x:Nat} (h:¬ x<n):gof n f x=x:=if_neg h
theorem Zb9 {n x:Nat} {f:Nat->Nat} (h:¬ x<n):∀ k,itr (gof n f) k x=x
 | 0=>rfl
 | k+1=>by
  show gof n f (itr (gof n f) k x)=x;rw[Zb9 h k,ZmT h]
theorem Zj8 {x:Nat} {a b:Nat} (hab:a<=b) (h:itr (gof n f) b x<n):itr (gof n f) a x<n:=by
 false_or_by_contra;rename_i q;obtain⟨c,rfl⟩:∃ c,b=a+c:=⟨b-a,by omega⟩
 rw[Xe,Zb9 q]at h;exact q h
theorem Zca {n x:Nat} {f:Nat->Nat}:∀ {k:Nat},(∀ j,j<k->itr (gof n f) j x<n)->itr (gof n f) k x=itr f k x
 | 0,_=>rfl
 | k+1,h=>by
  have ih:=Zca (k:=k) fun j hj=>h j (by omega);show gof n f (itr (gof n f) k x)=f (itr f k x);rw[Zfj (h k (by omega)),ih]
def Ze8 (n:Nat) (f:Nat->Nat):Prop:=∀ i,i<n->¬ itr (gof n f) n i<n
theorem Zli {P:Nat->Prop}:∀ n,P n->∃ m,m<=n/\P m/\∀ k,k<m->¬ P k:=by
 intro n;induction n using Nat.strongRecOn with
 | ind n ih =>
  intro p;by_cases c:∃ k,k<n/\P k
  ·obtain⟨k,k2,k3⟩:=c;obtain⟨m,m2,m3,m4⟩:=ih k k2 k3;exact⟨m,by omega,m3,m4⟩
  ·exact⟨n,Qi n,p,fun k k2 k3=>c ⟨k,k2,k3⟩⟩
theorem ZiO {j t:Nat} (ht:1<=t) (hin:∀ k,k<t->itr f k j<n) (e:itr f t j=j):det n (Ye f)=0:=by
 obtain⟨m,m1,⟨m0,m2⟩,m3⟩:=Zli (P:=fun k=>1<=k/\itr f k j=j) t ⟨ht,e⟩;have hj:j<n:=hin 0 (by omega);obtain⟨k,rfl⟩:∃ k,m=k+1:=⟨m-1,by omega⟩
 have h:=Je (n:=n) (p:=j) (f:=f) hj k fun i h1 h2=>⟨hin i (by omega),fun q=>m3 i (by omega) ⟨h1,q⟩⟩
 rw[←h];exact Zgp hj (by rw[Zaa,m2])
theorem ZnR (g:Nat->Nat) (h:∀ i,i<=n->g i<n):∃ a b,a<b/\b<=n/\g a=g b:=by
 false_or_by_contra;rename_i no;have nd:((Qs (n+1)).map g).Nodup:=by
  rw[WY,We];refine List.Pairwise.imp_of_mem ?_ List.pairwise_lt_range;intro a b ha hb hab e;have:=QM.mp hb;exact no ⟨a,b,hab,by omega,e⟩
 have le:=Xs (B:=Qs n) nd fun x hx=>by
  obtain⟨i,hi,rfl⟩:=Qr.mp hx;exact QM.mpr (h i (by have:=QM.mp hi;omega))
 rw[Qc,Q4,Q4]at le;omega
theorem Zge (h:¬ Ze8 n f):det n (Ye f)=0:=by
 obtain⟨i,hi,hn⟩:∃ i,i<n/\itr (gof n f) n i<n:=by
  false_or_by_contra;rename_i no;exact h fun i hi q=>no ⟨i,hi,q⟩
 have hall:∀ k,k<=n->itr (gof n f) k i<n:=fun k hk=>Zj8 hk hn;obtain⟨a,b,hab,hb,e⟩:=ZnR (fun k=>itr (gof n f) k i) hall;have sm:∀ k,k<=n->itr (gof n f) k i=itr f k i:=fun k hk=>Zca fun j hj=>hall j (by omega);rw[sm a (by omega),sm b hb]at e;refine ZiO (n:=n) (f:=f) (j:=itr f a i) (t:=b-a) (by omega) (fun k hk=>?_) ?_
 ·rw[←Xe,←sm (a+k) (by omega)];exact hall _ (by omega)
 ·rw[←Xe,show a+(b-a)=b by omega,e]
def Zgi (n p:Nat) (f:Nat->Nat):Nat->Nat:=fun i=>if i<p then n else f i
theorem Zdr {n p:Nat} {f:Nat->Nat}:∀ (m x:Nat),¬ itr (gof n f) m x<n->∃ m',¬ itr (gof n (Zgi n p f)) m' x<n
 | 0,x,h=>⟨0,h⟩
 | m+1,x,h=>by
  by_cases c:x<n
  ·by_cases q:x<p
   ·refine⟨1,?_⟩;show ¬ gof n (Zgi n p f) x<n;rw[Zfj c];unfold Zgi;rw[if_pos q];exact Wj n
   ·rw[show m+1=1+m by omega,Xe]at h;obtain⟨m',hm⟩:=Zdr m _ h;refine⟨1+m',?_⟩;rw[Xe];have e:itr (gof n (Zgi n p f)) 1 x=itr (gof n f) 1 x:=by
     show gof n (Zgi n p f) x=gof n f x;rw[Zfj c,Zfj c];unfold Zgi;rw[if_neg q]
    rw[e];exact hm
  ·exact⟨0,c⟩
theorem ZiL (hp:p<n) {m:Nat} (hm:¬ itr (gof n f) m p<n) (hr:∀ i,i<n->f i<=n):det n (Ye (ZdC f p n))=det n (Ye f):=by
 obtain⟨t,_,t2,t3⟩:=Zli (P:=fun k=>¬ itr (gof n f) k p<n) m hm;have t0:t≠0:=fun q=>t2 (by rw[q];exact hp);obtain⟨k,rfl⟩:∃ k,t=k+1:=⟨t-1,by omega⟩
 have hin:∀ j,j<k+1->itr (gof n f) j p<n:=fun j hj=>by
  false_or_by_contra;rename_i q;exact t3 j hj q
 have sm:∀ j,j<=k+1->itr (gof n f) j p=itr f j p:=fun j hj=>Zca fun i hi=>hin i (by omega);have h:=Je (n:=n) (p:=p) (f:=f) hp k fun j h1 h2=>⟨by rw[←sm j (by omega)];exact hin j (by omega),fun q=>?_⟩
 ·have hout:itr f (k+1) p=n:=by
   have h1:¬ itr f (k+1) p<n:=by rw[←sm (k+1) (Qi _)];exact t2
   have h2:itr f (k+1) p<=n:=hr _ (by rw[←sm k (by omega)];exact hin k (by omega));omega
  rw[hout]at h;exact h
 ·have q':itr (gof n f) j p=p:=by rw[sm j (by omega)];exact q
  have:∀ c,itr (gof n f) (c*j) p=p:=fun c=>by
   induction c with
   | zero=>rw[RK];rfl
   | succ c ih=>rw[RE,Xe,ih,q']
  have h3:=this (k+1);have h4:itr (gof n f) ((k+1)*j) p=itr (gof n f) (k+1) p:=by
   have hle:k+1<=(k+1)*j:=Nat.le_mul_of_pos_right _ (by omega);rw[show(k+1)*j=(k+1)+((k+1)*j-(k+1))by omega,Xe,Zb9 t2]
  rw[h3]at h4;exact t2 (by rw[←h4];exact hp)
theorem ZiN (hr:∀ i,i<n->f i<=n) (h:Ze8 n f):det n (Ye f)=1:=by
 have key:∀ p,p<=n->det n (Ye (Zgi n p f))=det n (Ye f):=by
  intro p;induction p with
  | zero =>
   intro _;congr 2
  | succ p ih =>
   intro hp;rw[←ih (by omega)];obtain⟨m,hm⟩:=Zdr (p:=p) n p (h p (by omega));have:=ZiL (n:=n) (p:=p) (f:=Zgi n p f) (by omega) hm fun i hi=>by
    unfold Zgi;split
    ·exact Qi _
    ·exact hr i hi
   rw[←this];congr 2
   funext i
   unfold Zgi ZdC;by_cases e:i=p
   ·subst e;rw[if_pos (by omega),if_pos rfl]
   ·rw[if_neg e];by_cases q:i<p
    ·rw[if_pos (by omega)];exact(if_pos q).symm
    ·rw[if_neg (by omega)];exact(if_neg q).symm
 rw[←key n (Qi n)];have e1:det n (Ye (Zgi n n f))=det n fun r c=>if c=r then 1 else 0:=YR fun r hr c hc=>by
  unfold Ye Zgi;rw[if_pos hr,if_neg (QD hc)];omega
 rw[e1,Zdn fun k j hj=>by rw[if_neg (by omega)]];have:(XF n fun i=>if i=i then (1:Int)else 0)=XF n fun _=>1:=Zaf fun i _=>if_pos rfl;rw[this,ZcN]
abbrev Tie:=Nat×Int
def Zl4 (n r:Nat) (ts:List Tie):Nat->Int:=fun c=>(ts.map fun t=>t.2*((if c=r then 1 else 0)-(if c=t.1 then 1 else 0))).sum
def Xy (n:Nat) (T:Nat->List Tie) (ch:List Nat):Yd:=fun r=>if r<ch.length then Ye (fun i=>ch.getD i n) r else Zl4 n r (T r)
noncomputable def ZP (n:Nat) (T:Nat->List Tie):Nat->List Nat->Int
 | 0,ch=>by
  classical
  exact if Ze8 n (fun i=>ch.getD i n)then 1 else 0
 | k+1,ch=>((T ch.length).map fun t=>t.2*ZP n T k (ch++[t.1])).sum
theorem Zfq {n:Nat} (F:Yd) {p:Nat} (hp:p<n) (u:Nat->Nat->Int):∀ ts:List Tie,det n (ZD F p fun c=>(ts.map fun t=>t.2*u t.1 c).sum)=(ts.map fun t=>t.2*det n (ZD F p (u t.1))).sum
 | []=>by
  rw[Wq,RG];have h:=ZiM (n:=n) (f:=ZD F p fun _=>0) (p:=p) 0 hp;rw[Ug]at h;rw[←h,Zg5];congr 1;congr 1
  funext c
  rw[Ug];rfl
 | t::ts=>by
  rw[Qj,Qy,←Zfq F hp u ts];have h:=XI F (p:=p) t.2 1 (u t.1) (fun c=>(ts.map fun t=>t.2*u t.1 c).sum) hp;rw[Wi]at h;rw[←h];congr 2
  funext c
  rw[Qj,Qy,Wi]
theorem JV {n:Nat} {T:Nat->List Tie} (hT:∀ r t,t∈T r->t.1<=n):∀ (k:Nat) (ch:List Nat),ch.length+k=n->(∀ x∈ch,x<=n)->ZP n T k ch=det n (Xy n T ch)
 | 0,ch,hl,hc=>by
  have e:det n (Xy n T ch)=det n (Ye fun i=>ch.getD i n):=YR fun r hr c _=>by
   unfold Xy;rw[if_pos (by omega)]
  rw[e];have hle:∀ i,i<n->ch.getD i n<=n:=fun i hi=>by
   rw[Qb,Qa (by omega)];exact hc _ (QF _)
  unfold ZP;by_cases q:Ze8 n fun i=>ch.getD i n
  ·rw[if_pos q,ZiN hle q]
  ·rw[if_neg q,Zge q]
 | k+1,ch,hl,hc=>by
  have hp:ch.length<n:=by omega
  unfold ZP;have ih:∀ t∈T ch.length,ZP n T k (ch++[t.1])=det n (Xy n T (ch++[t.1])):=fun t ht=>JV hT k _ (by rw[Qp,QA];omega) fun x hx=>by
   rcases QI.mp hx with q | q
   ·exact hc x q
   ·rw[Qm.mp q];exact hT _ _ ht
  have e1:((T ch.length).map fun t=>t.2*ZP n T k (ch++[t.1])).sum=((T ch.length).map fun t=>t.2*det n (ZD (Xy n T ch) ch.length fun c=>(if c=ch.length then 1 else 0)-(if c=t.1 then 1 else 0))).sum:=by
   congr 1;refine QR fun t ht=>?_;rw[ih t ht];congr 2
   funext r c
   have hlen:(ch++[t.1]).length=ch.length+1:=by rw[Qp,QA]
   have hlast:(ch++[t.1]).getD ch.length n=t.1:=by
    rw[Qb,QZ (Qi _),Ur];rfl
   have unit_cg:∀ {f g:Nat->Nat} {r:Nat},f r=g r->Ye f r c=Ye g r c:=fun {f g r} e=>by
    unfold Ye;rw[e]
   by_cases e:r=ch.length
   ·subst e;have h1:Xy n T (ch++[t.1]) ch.length=Ye (fun i=>(ch++[t.1]).getD i n) ch.length:=if_pos (by rw[hlen];omega);have h2:ZD (Xy n T ch) ch.length (fun c=>(if c=ch.length then 1 else 0)-(if c=t.1 then 1 else 0)) ch.length=fun c=>(if c=ch.length then 1 else 0)-(if c=t.1 then 1 else 0):=Yg;rw[h1,h2];exact unit_cg (g:=fun _=>t.1) hlast
   ·have h2:ZD (Xy n T ch) ch.length (fun c=>(if c=ch.length then 1 else 0)-(if c=t.1 then 1 else 0)) r=Xy n T ch r:=Yz e;rw[h2];by_cases q:r<ch.length
    ·have h1:Xy n T (ch++[t.1]) r=Ye (fun i=>(ch++[t.1]).getD i n) r:=if_pos (by rw[hlen];omega);have h3:Xy n T ch r=Ye (fun i=>ch.getD i n) r:=if_pos q;rw[h1,h3];refine unit_cg ?_;show(ch++[t.1]).getD r n=ch.getD r n;rw[Qb,Qb,Q3 q]
    ·have h1:Xy n T (ch++[t.1]) r=Zl4 n r (T r):=if_neg (by rw[hlen];omega);have h3:Xy n T ch r=Zl4 n r (T r):=if_neg q;rw[h1,h3]
  rw[e1,←Zfq (Xy n T ch) hp (fun v c=>(if c=ch.length then 1 else 0)-(if c=v then 1 else 0))];congr 1;have:(fun c=>((T ch.length).map fun t=>t.2*((if c=ch.length then (1:Int)else 0)-(if c=t.1 then 1 else 0))).sum)=Xy n T ch ch.length:=by
   unfold Xy;rw[if_neg (Wj _)];rfl
  rw[this,Y6]
end Sh
namespace L2
open PySem PySem.Spec PyProof.Rows
theorem Zdb {X:Cx}:ZpV X (fun o i H Q=>∃ p xs,∃ k:Nat,∃ z,o= .ref p/\i= .int k/\H p=some (.lst xs)/\xs[k]?=some z/\Q z H):=by
 intro pins s σ H o i ov iv Q I ro ri h;obtain⟨p,xs,k,z,rfl,rfl,hp,hz,q⟩:=h;cases ro;obtain⟨t,rfl⟩:=ri;obtain⟨its,n,r,ho,hl⟩:=I.lst hp;obtain⟨w,ew,rw'⟩:=r.get hz;have hlen:=r.length;have hn:=Zar;have hk:=(Qo.mp hz).1;exact wpAny_getItem_list ⟨_,ho,rfl,n,rfl⟩ (by omega) (by omega) (by simpa using ew) ⟨z,H,I,rw',q⟩
end L2
namespace Sh
open PySem L2 PyProof.Rows
seal L2.PE L2.PS L2.PSs L2.PT L2.PW L2.PA L2.PI L2.PG L2.PGs L2.PO L2.PC L2.PCs L2.OpR L2.UnR L2.CallR L2.MtR L2.IxR L2.SlR
variable {P:Program} {w:World} {K:PySem.W.Frag} {mg:Str->Option Value} {base:Heap}
def othL (ss:List Str) (r:Str):List Str:=ss.filter fun x=>decide (x≠r)
def ixD (os:List Str):List (Key×V):=gD os fun x=>(os.idxOf x:Int)
theorem ZmJ {os:List Str} {x:Str} (h:x∉os):X8 (ixD os) (Sum.inr x) (.int (os.length:Int))=ixD (os++[x]):=by
 unfold ixD;rw[Zbg,if_neg h];refine Zfl fun y hy=>?_;by_cases e:y=x
 ·rw[if_pos e,e,RU,if_neg h];simp
 ·rw[if_neg e];rcases QI.mp hy with q | q
  ·rw[RU,if_pos q]
  ·exact absurd (Qm.mp q) e
theorem Zlo (os:List Str) (x:Str):Xx (ixD os) (Sum.inr x)=if x∈os then some (.int (os.idxOf x:Int))else none:=JC _ _ _
def Yy (os:List Str) (es:Es) (r:Nat):List Tie:=(es.filter fun e=>decide (os.idxOf (bg e.1)=r)).map fun e=>(os.idxOf (en e.1),e.2)
def JD (os:List Str) (es:Es):Yd:=fun r=>Zl4 os.length r (Yy os es r)
def ZaK (n:Nat) (f:Nat->Int):List Int:=(Qs n).map f
theorem Xn (n:Nat) (f:Nat->Int):(ZaK n f).length=n:=by unfold ZaK;simp
theorem Xp {n:Nat} {f:Nat->Int} {j:Nat} (h:j<n):((ZaK n f).map V.int)[j]?=some (V.int (f j)):=by
 unfold ZaK;rw[Qk,Qk,Q0 h];rfl
theorem ZeQ {n:Nat} {f:Nat->Int} {j:Nat} (m:Int):((ZaK n f).map V.int).set j (V.int (f j+m))=(ZaK n fun c=>f c+if c=j then m else 0).map V.int:=by
 apply QT;intro i;rw[List.getElem?_set];by_cases h:i<n
 ·by_cases e:j=i
  ·subst e;rw[if_pos rfl,if_pos (by rw[Qc,Xn];exact h),Xp h,if_pos rfl]
  ·rw[if_neg e,Xp h,Xp h,if_neg (Ne.symm e),UQ]
 ·have h1:∀ g:Nat->Int,((ZaK n g).map V.int)[i]?=none:=fun g=>Ql (by rw[Qc,Xn];omega);rw[h1,h1];split
  ·rw[if_neg (by rw[Qc,Xn];omega)]
  ·rfl
theorem JN (os:List Str) (es:Es) (e:Str×Int) (r c:Nat):JD os (es++[e]) r c=JD os es r c+if r=os.idxOf (bg e.1)then e.2*((if c=r then 1 else 0)-(if c=os.idxOf (en e.1)then 1 else 0))else 0:=by
 unfold JD Zl4 Yy;rw[Wg,QG,QG,WU];congr 1;by_cases h:os.idxOf (bg e.1)=r
 ·rw[if_pos h.symm];simp[h]
 ·rw[if_neg (Ne.symm h)];simp[h]
abbrev XD:Stmt:=top 28
abbrev Zeb:List Str:=["H","root","numbers","point"]
theorem scRowNumbers:Zm Zeb ["H","root"] (Zg XD):=⟨rfl,rfl,rfl,by decide +kernel,rfl,by decide +kernel,by decide +kernel⟩
def ZkQ:Sp:=fun vs H Q _=>∃ (v:V) (es:Es) (r:Str),vs=[v,.str r]/\HeapV H v es/\Jq es/\∀ d H' ss,Same H H'->SPts es ss->H' d=some (.dK (ixD (othL ss r)))->Q (.ref d) H'
theorem ZaQ (D:HasDef K mg "row_numbers" XD ["H","root"]) (B:Blt mg) (g38_:FOk P w K mg base 2 "points_of" ["H"] XL):FOk P w K mg base 3 "row_numbers" ["H","root"] ZkQ:=by
 refine D.ok scRowNumbers (fun vs H Q E h=>?_) (fun f cdv A outer s H vs Q E hr h=>?_)
 ·obtain⟨v,es,r,rfl,_⟩:=h;rfl
 ·obtain⟨v,es,r,rfl,hV,hF,k⟩:=h;have hu:=JH hr;refine⟨_,(Ze (Zp (i:=2) scRowNumbers.nd rfl (.inl rfl) YW)
   (Ze (Z4 PassesOwn.never rfl (Yf (Zt g38_ hr (Za (pv 0) Zd))) (Zy (i:=3) scRowNumbers.nd rfl (.inl rfl))
    (Zh (ZE (Zo ZaM (pv 3) (pv 1) (Zr _)) (Zh (YV hu (pv 2) (pv 3) (Zl ZaH rfl B.len Ys (Za (pv 2) Zd)) rfl)) Zs)))
   (Zh (Zn (pv 2))))),?_⟩
  intro d hd;have s0:=Zb (o:=.dK []) hd;have hd0:(upd H d (.dK [])) d=some (.dK []):=Zc;generalize upd H d (.dK [])=H0 at s0 hd0;refine⟨_,rfl,v,es,rfl,hV.same s0,hF,fun v' H1 ss s1 hT hS=>?_⟩;obtain⟨q,rfl,hq⟩:=hT;have hd1:=s1 _ _ hd0;have hnd:=hS.pts.nd;have hsl:=hS.pts.len;have hfew:=hF.few;refine⟨q,rfl,⟨_,SqT.of hq⟩,YJ (K:=K) (a:=q) (xs:=ss.map V.str) (fun i σ H2=>(∃ z3:Option V,σ=[some v,some (.str r),some (.ref d),z3])/\Same H H2/\H2 q=some (.tup (ss.map V.str))/\H2 d=some (.dK (ixD (othL (ss.take i) r))))
   ⟨⟨none,rfl⟩,s0.trans s1,hq,hd1⟩ (fun i σ H2 _ ⟨_,_,hq2,_⟩=>SqT.of hq2) ?_ ?_⟩
  ·rintro i x σ H2 hi ⟨⟨z3,rfl⟩,s2,hq2,hd2⟩;have hi':i<ss.length:=by
    have:=(Qo.mp hi).1;rw[Qc]at this;exact this
   have ex:x=V.str ss[i]:=by
    rw[Qk,Qa hi']at hi;exact(Option.some.inj hi).symm
   subst ex;have etk:ss.take (i+1)=ss.take i++[ss[i]]:=QY hi';refine⟨_,rfl,_,rfl,rfl,_,rfl,?_⟩;by_cases c:ss[i]=r
   ·refine ZM (by rw[c];simp) ⟨⟨_,rfl⟩,s2,hq2,?_⟩;rw[hd2,etk];unfold othL;rw[Wg];simp[c]
   ·refine Ya (by simp[c]) ?_;have hnin:ss[i]∉othL (ss.take i) r:=fun q=>by
     unfold othL at q;have h1:=(QB.mp q).1;have h2:(ss.take (i+1)).Nodup:=hnd.sublist (RO _ _);rw[etk,Wb]at h2;exact h2.2.2 _ h1 _ (Qm.mpr rfl) rfl
    refine⟨_,rfl,d,_,rfl,hd2,_,rfl,_,rfl,d,_,rfl,DPut.kk (k:=Sum.inr ss[i]) hd2 ?_,?_⟩
    ·unfold ixD;rw[XY];have:(othL (ss.take i) r).length<=(ss.take i).length:=Q5 _ _;rw[QJ]at this;exact QN (show(othL (ss.take i) r).length<1002 by omega) (Z2 (by decide))
    refine⟨⟨_,rfl⟩,fun b o e=>?_,?_,?_⟩
    ·rw[Zi (Zk e hd)];exact s2 b o e
    ·rw[Zi fun z=>by rw[z,hd2]at hq2;cases hq2];exact hq2
    ·rw[Zc];unfold ixD;rw[XY];have:=ZmJ hnin;unfold ixD at this;rw[this,etk];unfold othL;rw[Wg];simp[c]
  ·rintro σ H2 ⟨⟨z3,rfl⟩,s2,hq2,hd2⟩;rw[Qc,Q6 (Qi _)]at hd2;exact⟨_,rfl,k d H2 ss s2 hS hd2⟩
end Sh
namespace L2
open PySem PySem.Spec PyProof.Rows
theorem ZiZ {X:Cx}:CallR X (.builtin "len") (fun xs H Q=>∃ a kvs,xs=[V.ref a]/\Rd H a (.dK kvs)/\Q (.int kvs.length) H):=by
 intro pins s σ H xs us Q I r h;obtain⟨a,kvs,rfl,ha,q⟩:=h;obtain⟨u,rfl,ru⟩:=YT r;cases ru;exact ZoC I ha fun t s' I'=>⟨.int kvs.length,H,I',⟨t,rfl⟩,q⟩
end L2
namespace Sh
open PySem L2 PyProof.Rows
seal L2.PE L2.PS L2.PSs L2.PT L2.PW L2.PA L2.PI L2.PG L2.PGs L2.PO L2.PC L2.PCs L2.OpR L2.UnR L2.CallR L2.MtR L2.IxR L2.SlR
variable {P:Program} {w:World} {K:PySem.W.Frag} {mg:Str->Option Value} {base:Heap}
variable {D:Addr} {H H':Hp} {es hp:Es} {g:Str->Int} {n:Nat} {os ps ss:List Str} {v:V} {y:Str}
def Zgv (os:List Str) (es:Es):Mat:=(Qs os.length).map fun r=>ZaK os.length (JD os es r)
theorem ZeD {r:Nat} (h:r<os.length):(Zgv os es).getD r []=ZaK os.length (JD os es r):=by
 unfold Zgv;rw[Qb,Qk,Q0 h];rfl
structure RowsI (H:Hp) (pr:Addr) (as:List Addr) (os:List Str) (es:Es):Prop where
 tab:H pr=some (.lst (as.map V.ref))
 len:as.length=os.length
 nd:as.Nodup
 row:∀ r a,as[r]?=some a->a≠pr/\H a=some (.lst ((ZaK os.length (JD os es r)).map V.int))
theorem Zfm (n:Nat) (x:V):(QK n [x]).flatten=QK n x:=by
 induction n with
 | zero=>rfl
 | succ n ih=>rw[Wu,WZ,ih,Wu];rfl
theorem Zgj (os:List Str) (r:Nat):QK os.length (V.int 0)=(ZaK os.length (JD os [] r)).map V.int:=by
 apply QT;intro i;rw[WO];by_cases h:i<os.length
 ·rw[if_pos h,Xp h];rfl
 ·rw[if_neg h,Ql (by rw[Qc,Xn];omega)]
theorem ZoK (x m:Int) (p q:Prop) [Decidable p] [Decidable q]:x+(if p then m else 0)+(if q then -m else 0)=x+m*((if p then 1 else 0)-(if q then 1 else 0)):=by
 by_cases hp:p <;> by_cases hq:q <;> simp[hp,hq] <;> omega
theorem Zio {j:Nat} (h:j<n):ixN n (j:Int)=some j:=by
 unfold ixN;rw[if_pos (by omega),if_pos (by omega)];rfl
theorem ZdX {f g:Nat->Int} (h:∀ c,c<n->f c=g c):ZaK n f=ZaK n g:=QR fun c hc=>h c (QM.mp hc)
theorem RowsI.upd {pr a:Addr} {as:List Addr} {es':Es} {r0:Nat} {f:Nat->Int} (h:RowsI H pr as os es) (ha:as[r0]?=some a) (hf:∀ c,c<os.length->f c=JD os es' r0 c) (ho:∀ r,r<os.length->r≠r0->∀ c,c<os.length->JD os es r c=JD os es' r c) :
  RowsI (upd H a (.lst ((ZaK os.length f).map V.int))) pr as os es':=by
 have hr0:=(Qo.mp ha).1;refine⟨?_,h.len,h.nd,fun r b e=>?_⟩
 ·rw[Zi (Ne.symm (h.row r0 a ha).1)];exact h.tab
 ·obtain⟨e1,e2⟩:=h.row r b e;refine⟨e1,?_⟩;have hr:=(Qo.mp e).1;by_cases c:r=r0
  ·subst c;rw[e]at ha;cases ha;rw[Zc,ZdX hf]
  ·have hne:b≠a:=fun q=>by
    subst q;have x1:=(Qo.mp e).2;have x2:=(Qo.mp ha).2;exact c ((WQ h.nd).mp (x1.trans x2.symm))
   rw[Zi hne,e2,ZdX (ho r (by rw[←h.len];exact hr) c)]
theorem RowsI.on {pr:Addr} {as:List Addr} {es':Es} (h:RowsI H pr as os es) (s:Same H H') (ho:∀ r,r<os.length->∀ c,c<os.length->JD os es r c=JD os es' r c):RowsI H' pr as os es' :=
 ⟨s _ _ h.tab,h.len,h.nd,fun r a e=>by
  obtain⟨e1,e2⟩:=h.row r a e;have hr:=(Qo.mp e).1;refine⟨e1,s _ _ ?_⟩;rw[e2,ZdX (ho r (by rw[←h.len];exact hr))]⟩
abbrev YM:Stmt:=top 29
abbrev Jk:List Str:=["H","root","numbers","rows","piece","many","here","there"]
theorem scTreeTable:Zm Jk ["H","root"] (Zg YM):=⟨rfl,rfl,rfl,by decide +kernel,rfl,by decide +kernel,by decide +kernel⟩
def ZgK:Sp:=fun vs H Q _=>∃ (v:V) (es:Es) (r:Str),vs=[v,.str r]/\HeapV H v es/\Jq es/\∀ t H' ts ss,Same H H'->SPts es ss->H' t=some (.tup (ts.map V.ref))->RowsT H' ts (Zgv (othL ss r) es)->Q (.ref t) H'
theorem ZbY (D:HasDef K mg "tree_table" YM ["H","root"]) (B:Blt mg) (g40_:FOk P w K mg base 3 "row_numbers" ["H","root"] ZkQ) (g12_:FOk P w K mg base 3 "begin_of" ["piece"] Zbv) (g17_:FOk P w K mg base 3 "end_of" ["piece"] ZfG):FOk P w K mg base 4 "tree_table" ["H","root"] ZgK:=by
 refine D.ok scTreeTable (fun vs H Q E h=>?_) (fun f cdv A outer s H vs Q E hr h=>?_)
 ·obtain⟨v,es,r,rfl,_⟩:=h;rfl
 ·obtain⟨v,es,r,rfl,hV,hF,k⟩:=h;have hu:=JH hr;refine⟨_,(Ze (Zp (i:=2) scTreeTable.nd rfl (.inr rfl) (Zt g40_ hr (Za (pv 0) (Za (pv 1) Zd))))
   (Ze (ZnQ (ZbP (i:=3) (Zg YM) Jk ["point"] [2] scTreeTable.nd rfl (.inl rfl) rfl (Zmd (pv 2)) (fun _ _ _ _ _=>Yi 0) (fun _ _ _ _ _=>ZZ) (fun _ _ _ _ _=>(Zq Zlc (ZR (Za Zf Zd)) (Zl ZiZ rfl B.len Ys (Za (pv 1) Zd))))))
   (Ze (Z4 PassesOwn.never rfl (Yf (pv 0)) (Z7 2 K rfl (Zv (Zy (i:=4) scTreeTable.nd rfl (.inl rfl)) (Zv (Zy (i:=5) scTreeTable.nd rfl (.inl rfl)) Z6)))
    (Ze (Zp (i:=6) scTreeTable.nd rfl (.inl rfl) (ZeX hu (pv 2) (Zt g12_ hr (Za (pv 4) Zd)) ⟨rfl,rfl,rfl,rfl⟩))
   (Ze (Zp (i:=7) scTreeTable.nd rfl (.inl rfl) (ZeX hu (pv 2) (Zt g17_ hr (Za (pv 4) Zd)) ⟨rfl,rfl,rfl,rfl⟩))
   (Zh (ZE (Zo ZhN (pv 6) YF (Zr _)) (Ze (Zhx (Zw ix_list (pv 3) (pv 6) (fun _ _=>rfl)) (pv 6) Zdb (pv 5) Zot JQ)
   (Zh (ZE (Zo ZhN (pv 7) YF (Zr _)) (Zh (Zhx (Zw ix_list (pv 3) (pv 6) (fun _ _=>rfl)) (pv 7) Zdb (pv 5) Zos JQ)) Zs))) Zs)))))
   (Zh (Zn (ZA ZB rfl B.tuple Yr (Za (ZJ (Zg YM) Jk ["row"] [] rfl (Yp (pv 3)) (fun _ _ _ _ _=>Yi 0) (fun _ _ _ _ _=>ZZ) (fun _ _ _ _ _=>(ZA (ZaX K) rfl B.tuple Yr (Za (pv 0) Zd)))) Zd))))))),?_⟩
  obtain⟨q,vs,rfl,hq,hpa⟩:=hV;have hvl:=hpa.1;have hfew:=hF.few;refine⟨_,rfl,_,rfl,.ref q,es,r,rfl,⟨q,vs,rfl,hq,hpa⟩,hF,fun d H1 ss s1 hS hd1=>?_⟩;have hol:(othL ss r).length<=128:=by
   have h1:(othL ss r).length<=ss.length:=Q5 _ _;have h2:=hS.pts.len;omega
  generalize hos:othL ss r=os at *;have hkl:(ixD os).length=os.length:=XY _ _;refine⟨d,_,hd1,fun o=>⟨_,rfl,d,o,_,rfl,Zc,Zif (ixD os).length (fun i=>((ixD os).map fun p=>kV p.1).getD i .non) (fun _=>QK os.length (V.int 0)) (Zj (by omega)) (ZmH Zc) ?_ ?_⟩⟩
  ·intro i H3 Qe hi hs kq;refine⟨ZjN,fun p1 hp1=>?_⟩;have s2:=Zb (o:=.lst [V.int 0]) hp1;refine⟨_,rfl,d,ixD os,rfl,.inr ⟨o,s2 _ _ (hs _ _ Zc)⟩,p1,_,_,rfl,rfl,Zc,by omega,by omega,?_,fun p2 hp2=>?_⟩
   ·rw[hkl];exact Zj (by simp;omega)
   refine kq p2 _ (s2.trans (Zb hp2)) (s2.free hp2) ?_;rw[Zc,hkl,show((os.length:Int)).toNat=os.length from rfl,Zfm]
  intro pr as H2 hal hnd hrow hs2 hpr hprl;rw[hkl]at hal;have hdf:H2 d=some (.frz o (.dK (ixD os))):=hs2 _ _ Zc;refine⟨hdf,?_⟩;have npd:pr≠d:=fun z=>by rw[z,Zc]at hpr;cases hpr
  have nad:∀ (r:Nat) (a:Addr),as[r]?=some a->a≠d:=fun r a e z=>by
   have:=(hrow r a e).2.1;rw[z,Zc]at this;cases this
  have n1:∀ b,(upd H1 d (.frz o (.dK (ixD os)))) b=none->H1 b=none:=fun b z=>by
   by_cases e:b=d
   ·rw[e,Zc]at z;cases z
   ·rw[Zi e]at z;exact z
  have s3:Same H (upd H2 d (.dK (ixD os))):=fun b u e=>by
   by_cases z:b=d
   ·rw[z]at e ⊢;rw[Zc,←hd1];exact s1 _ _ e
   ·rw[Zi z];refine hs2 _ _ ?_;rw[Zi z];exact s1 _ _ e
  have hd3:(upd H2 d (.dK (ixD os))) d=some (.dK (ixD os)):=Zc;have hR3:RowsI (upd H2 d (.dK (ixD os))) pr as os []:=by
   refine⟨by rw[Zi npd];exact hprl,hal,hnd,fun r a e=>⟨(hrow r a e).1,?_⟩⟩;rw[Zi (nad r a e),(hrow r a e).2.2,Zgj os r]
  have Npr:H pr=none:=s1.free (n1 _ hpr);have Nas:∀ (r:Nat) (a:Addr),as[r]?=some a->H a=none:=fun r a e=>s1.free (n1 _ (hrow r a e).2.1);generalize upd H2 d (.dK (ixD os))=H3 at s3 hd3 hR3;clear hdf hrow hprl hpr hs2 n1;refine⟨_,rfl,q,rfl,⟨_,SqT.of (s3 _ _ hq)⟩,YJ (K:=K) (a:=q) (xs:=vs) (fun i σ H4=>(∃ z4 z5 z6 z7:Option V,σ=[some (.ref q),some (.str r),some (.ref d),some (.ref pr),z4,z5,z6,z7])/\Same H H4/\H4 d=some (.dK (ixD os))/\RowsI H4 pr as os (es.take i))
   ⟨⟨none,none,none,none,rfl⟩,s3,hd3,hR3⟩ (fun i σ H4 _ ⟨_,s4,_⟩=>SqT.of (s4 _ _ hq)) ?_ ?_⟩
  ·rintro i x σ H4 hi ⟨⟨z4,z5,z6,z7,rfl⟩,s4,hd4,hR4⟩;have hiv:i<vs.length:=(Qo.mp hi).1;have hie:i<es.length:=by rw[←hpa.1];exact hiv
   obtain⟨b,e1,e2⟩:=hpa.2 i es[i] (Qa hie);rw[hi]at e1;cases e1;obtain⟨l1,l2⟩:=hF.long es[i] (QF hie);have het:es.take (i+1)=es.take i++[es[i]]:=QY hie;have e2':=s4 _ _ e2;rw[het];generalize es[i]=e at *;generalize es.take i=et at *;refine⟨b,_,rfl,SqT.of e2',rfl,_,_,rfl,_,_,rfl,rfl,?_⟩;refine⟨_,rfl,d,rfl,.inl ⟨_,.inl hd4⟩,_,rfl,e.1,rfl,l1,l2,_,DGet.kk (k:=Sum.inr (bg e.1)) hd4,?_⟩;refine⟨_,rfl,d,rfl,.inl ⟨_,.inl hd4⟩,_,rfl,e.1,rfl,l1,l2,_,DGet.kk (k:=Sum.inr (en e.1)) hd4,?_⟩;rw[Zlo,Zlo];refine⟨_,rfl,rfl,_,rfl,?_⟩;by_cases hb:bg e.1∈os
   rotate_left
   ·rw[if_neg hb];refine ZM (by simp) ⟨⟨_,_,_,_,rfl⟩,s4,hd4,hR4.on (Same.refl _) fun r hr c hc=>?_⟩;rw[JN,if_neg (by rw[Rs hb];omega),UQ]
   rw[if_pos hb];refine Ya (by simp) ?_;have hb0:os.idxOf (bg e.1)<os.length:=UE.mpr hb;obtain⟨hb1,hidx⟩:∃ n,os.idxOf (bg e.1)=n:=⟨_,rfl⟩
   rw[hidx]at hb0 ⊢;have hba:hb1<as.length:=by rw[hal];exact hb0
   have ha:=Qa hba;generalize as[hb1]=a at ha;obtain⟨nap,hrow4⟩:=hR4.row hb1 a ha;have hatr:atI (as.map V.ref) (hb1:Int)=some (.ref a):=by
    unfold atI;rw[Qc,Zio hba];show(as.map V.ref)[hb1]?=_;rw[Qk,ha];rfl
   have hlenr:∀ f:Nat->Int,((ZaK os.length f).map V.int).length=os.length:=fun f=>by rw[Qc,Xn]
   refine⟨_,rfl,_,rfl,pr,_,_,_,rfl,rfl,SqL.of hR4.tab,hatr,_,rfl,a,_,hb1,_,rfl,rfl,hrow4,Xp hb0,_,rfl,_,_,rfl,rfl,a,_,_,hb1,rfl,rfl,hrow4,by rw[hlenr];exact Zio hb0,?_⟩;rw[ZeQ];have s5:Same H (upd H4 a (.lst ((ZaK os.length fun c=>JD os et hb1 c+if c=hb1 then e.2 else 0).map V.int))):=fun c u q=>by
    rw[Zi (Zk q (Nas hb1 a ha))];exact s4 _ _ q
   have nda:d≠a:=fun z=>by rw[z,hrow4]at hd4;cases hd4
   have hd5:(upd H4 a (.lst ((ZaK os.length fun c=>JD os et hb1 c+if c=hb1 then e.2 else 0).map V.int))) d=some (.dK (ixD os)):=by rw[Zi nda];exact hd4
   have hpr5:(upd H4 a (.lst ((ZaK os.length fun c=>JD os et hb1 c+if c=hb1 then e.2 else 0).map V.int))) pr=some (.lst (as.map V.ref)):=by rw[Zi (Ne.symm nap)];exact hR4.tab
   have hoth:∀ r,r<os.length->r≠hb1->∀ c,c<os.length->JD os et r c=JD os (et++[e]) r c:=fun r _ hr c _=>by
    rw[JN,if_neg (by rw[hidx];exact hr),UQ]
   refine⟨_,rfl,rfl,_,rfl,?_⟩;by_cases ht:en e.1∈os
   rotate_left
   ·rw[if_neg ht];refine ZM (by simp) ⟨⟨_,_,_,_,rfl⟩,s5,hd5,hR4.upd ha (fun c hc=>?_) hoth⟩;rw[JN,hidx,if_pos (rfl:hb1=hb1),Rs ht,if_neg (show ¬ c=os.length by omega)];by_cases z:c=hb1 <;> simp[z]
   rw[if_pos ht];refine Ya (by simp) ?_;have ht0:os.idxOf (en e.1)<os.length:=UE.mpr ht;obtain⟨ht1,hidt⟩:∃ n,os.idxOf (en e.1)=n:=⟨_,rfl⟩
   rw[hidt]at ht0 ⊢;have hrow5:(upd H4 a (.lst ((ZaK os.length fun c=>JD os et hb1 c+if c=hb1 then e.2 else 0).map V.int))) a=_:=Zc;refine⟨_,rfl,_,rfl,pr,_,_,_,rfl,rfl,SqL.of hpr5,hatr,_,rfl,a,_,ht1,_,rfl,rfl,hrow5,Xp ht0,_,rfl,_,_,rfl,rfl,a,_,_,ht1,rfl,rfl,hrow5,by rw[hlenr];exact Zio ht0,?_⟩;dsimp only;rw[Int.sub_eq_add_neg,ZeQ,X9];refine⟨⟨_,_,_,_,rfl⟩,fun c u q=>?_,?_,hR4.upd ha (fun c hc=>?_) hoth⟩
   ·rw[Zi (Zk q (Nas hb1 a ha))];exact s4 _ _ q
   ·rw[Zi nda];exact hd4
   ·rw[JN,hidx,if_pos (rfl:hb1=hb1),hidt];exact ZoK _ _ _ _
  ·rintro σ H4 ⟨⟨z4,z5,z6,z7,rfl⟩,s4,hd4,hR4⟩;rw[hpa.1,Q6 (Qi _)]at hR4;refine⟨_,rfl,pr,rfl,⟨_,SqL.of hR4.tab⟩,Xc as.length (fun i=>(as.map V.ref).getD i .non) (fun i v H=>∃ a,v=V.ref a/\H a=some (.tup (((Zgv os es).getD i []).map V.int))) (Zj (by omega)) (fun i v H H' ts ⟨b,e,q⟩=>⟨b,e,ts _ _ q⟩) (by have:=Xd (K:=K) (SqL.of hR4.tab);rw[Qc]at this;exact this) ?_ ?_⟩
   ·intro i H5 Qe hi hs kq;rw[YQ hi];have hrw:=(hR4.row i _ (Qa hi)).2;rw[←ZeD (by rw[←hal];exact hi)]at hrw;exact⟨_,rfl,_,_,rfl,.inl ⟨SqL.of (hs _ _ hrw),fun l hl=>kq _ _ (Zb hl) ⟨l,rfl,Zc⟩⟩⟩
   intro D1 vs1 H5 hl1 hr3 hs3 hD1 hDl1;obtain⟨ts,ets,hts⟩:=Zhq vs1 _ hr3;refine⟨D1,vs1,rfl,.inl ⟨SqL.of hDl1,fun t ht=>?_⟩⟩;have s6:=Zb (o:=.tup vs1) ht;have htt:(upd H5 t (.tup vs1)) t=some (.tup (ts.map V.ref)):=by rw[Zc,ets]
   subst hos;refine k t _ ts ss ((s4.trans hs3).trans s6) hS htt ⟨?_,fun i b e=>s6 _ _ (hts i b e)⟩;have h1:ts.length=vs1.length:=by rw[ets,Qc]
   rw[h1,hl1,hal];unfold Zgv;simp
theorem ZkK {g:Tie->Int}:∀ ts:List Tie,(∀ t∈ts,(g t).natAbs<=2000)->((ts.map g).sum).natAbs<=2000*ts.length
 | [],_=>by simp
 | t::ts,h=>by
  have ih:=ZkK ts fun u hu=>h u (Qg _ hu);have h1:=h t Qd;rw[Qj,Qy,QO];have:=RV (g t) ((ts.map g).sum);omega
theorem Znl (hF:Jq es) (r c:Nat):Sm 120 (JD os es r c):=by
 have h:(JD os es r c).natAbs<=2000*(Yy os es r).length:=by
  unfold JD Zl4;refine ZkK _ fun t ht=>?_;unfold Yy at ht;obtain⟨e,he,rfl⟩:=Qr.mp ht;have hm:=hF.many e (QB.mp he).1;dsimp only;split <;> split <;> simp <;> omega
 have hl:(Yy os es r).length<=es.length:=by
  unfold Yy;rw[Qc];exact Q5 _ _
 have hf:=hF.few;have:(JD os es r c).natAbs<=128000:=by omega
 exact Wv this (by decide)
theorem ZlK (os:List Str) (es:Es):det os.length (Zlh (Zgv os es))=ZP os.length (Yy os es) os.length []:=by
 rw[JV (T:=Yy os es) (fun r t ht=>?_) os.length [] (by simp) (fun x hx=>by cases hx)]
 ·refine YR fun r hr c hc=>?_;unfold Zlh;rw[ZeD hr];unfold ZaK;rw[Qb,Qk,Q0 hc];rfl
 ·unfold Yy at ht;obtain⟨e,_,rfl⟩:=Qr.mp ht;exact Rt
abbrev ZbA:Stmt:=top 30
abbrev ZjY:List Str:=["H","root"]
theorem Zg8:Zm ZjY ["H","root"] (Zg ZbA):=⟨rfl,rfl,rfl,by decide +kernel,rfl,by decide +kernel,by decide +kernel⟩
noncomputable def Y1 (os:List Str) (es:Es):Int:=ZP os.length (Yy os es) os.length []
def ZgJ:Sp:=fun vs H Q _=>∃ (v:V) (es:Es) (r:Str),vs=[v,.str r]/\HeapV H v es/\Jq es/\(∀ ss,SPts es ss->(othL ss r).length<=31)/\∀ H' ss,Same H H'->SPts es ss->Q (.int (Y1 (othL ss r) es)) H'
theorem Zd1 (D:HasDef K mg "trees_of" ZbA ["H","root"]) (B:Blt mg) (g48_:FOk P w K mg base 4 "tree_table" ["H","root"] ZgK) (g53_:FOk P w K mg base 4 "worth_of" ["table"] ZcG):FOk P w K mg base 5 "trees_of" ["H","root"] ZgJ:=by
 refine D.ok Zg8 (fun vs H Q E h=>?_) (fun f cdv A outer s H vs Q E hr h=>?_)
 ·obtain⟨v,es,r,rfl,_⟩:=h;rfl
 ·obtain⟨v,es,r,rfl,hV,hF,hn,k⟩:=h;refine⟨_,(Zh (Zn (Zt g53_ hr (Za (Zt g48_ hr (Za (pv 0) (Za (pv 1) Zd))) Zd)))),?_⟩;refine⟨_,rfl,_,rfl,v,es,r,rfl,hV,hF,fun t H1 ts ss s1 hS ht hR=>?_⟩;have hq:Sq (othL ss r).length (Zgv (othL ss r) es):=by
   refine⟨by unfold Zgv;simp,fun row hrow=>?_⟩;unfold Zgv at hrow;obtain⟨i,_,rfl⟩:=Qr.mp hrow;exact Xn _ _
  have hm:SmM 120 (Zgv (othL ss r) es):=fun row hrow x hx=>by
   unfold Zgv at hrow;obtain⟨i,_,rfl⟩:=Qr.mp hrow;unfold ZaK at hx;obtain⟨c,_,rfl⟩:=Qr.mp hx;exact Znl hF i c
  refine⟨t,ts,_,_,_,rfl,ht,hR,ZmY (hn ss hS) hq hm,hn ss hS,fun H2 s2=>?_⟩;rw[ZlK];exact k H2 ss (s1.trans s2) hS
theorem range_getD {α:Type} (l:List α) (d:α):(Qs l.length).map (fun i=>l.getD i d)=l:=by
 apply QT;intro i;rw[Qk];by_cases h:i<l.length
 ·rw[Q0 h,Qa h];show some (l.getD i d)=_;rw[Qb,Qa h];rfl
 ·rw[Ql (by rw[Q4];omega),Ql (by omega)];rfl
section
variable {P:Program} {w:World} {K:PySem.W.Frag} {mg:Str->Option Value} {base:Heap} {S C A1 A2 A3 A4 A5 A6 A7 A8:Addr}
end
def SB (D:Addr) (H H':Hp):Prop:=∀ b u,b≠D->H b=some u->H' b=some u
theorem SB.refl (D:Addr) (H:Hp):SB D H H:=fun _ _ _ e=>e
theorem SB.trans {H1 H2:Hp} (a:SB D H H1) (b:SB D H1 H2):SB D H H2:=fun c u hc e=>b c u hc (a c u hc e)
theorem SB.upd {o:HO}:SB D H (upd H D o):=fun b u hb e=>by rw[Zi hb];exact e
def DK (H:Hp) (D:Addr) (n:Nat):Prop:=∃ ns:List Int,H D=some (.lst (ns.map V.int))/\n<=ns.length/\∀ x∈ns,0<=x/\x<10 ^ 18
theorem DK.same (h:DK H D n) (s:Same H H'):DK H' D n:=by
 obtain⟨ns,e,r⟩:=h;exact⟨ns,s _ _ e,r⟩
theorem DK.pop (h:DK H D (n+1)):∃ (ns:List Int) (c:Int),H D=some (.lst ((ns++[c]).map V.int))/\0<=c/\c<10 ^ 18/\DK (upd H D (.lst (ns.map V.int))) D n:=by
 obtain⟨ns,e,l,b⟩:=h;rcases WW ns with z | ⟨r,c,z⟩
 ·rw[z]at l;simp at l
 ·rw[WX]at z;subst z;have hc:=b c (by simp);rw[Qp,QA]at l;exact⟨r,c,e,hc.1,hc.2,r,Zc,by omega,fun x hx=>b x (QS _ hx)⟩
theorem cut_to {ns:List Int} {m:Nat}:Zfs (ns.map V.int) none (some (m:Int))=(ns.take m).map V.int:=by
 unfold Zfs;rw[HT.sIx_none,HT.sIx_nat,List.drop_zero,Nat.sub_zero,Vk,Qc];apply QT;intro i;rw[RL,RL];by_cases h:i<m
 ·rw[if_pos h];by_cases h2:i<ns.length
  ·rw[if_pos (by omega)]
  ·rw[if_neg (by omega),Ql (by rw[Qc];omega)]
 ·rw[if_neg h,if_neg (by omega)]
theorem Zki {hp:List Pr} (h:HpAt H v hp):HeapV H v hp:=by
 obtain⟨a,xs,e,ha,hl,r⟩:=h;refine⟨a,xs,e,ha,hl,fun i p q=>?_⟩;obtain⟨b,eb,hb⟩:=r i p q;have hi:i<xs.length:=by rw[hl];exact(Qo.mp q).1
 rw[Qb,Qa hi]at eb;exact⟨b,by rw[Qa hi];exact congrArg some eb,hb⟩
theorem Zkh {hp:List Pr} (h:ZU ps hp):hp.length<=ps.length:=by
 have nd:(hp.map (·.1)).Nodup:=by
  rw[WY,We];refine List.Pairwise.imp ?_ (We.mp h.srt);intro x y hxy e;rw[e]at hxy;exact Uc _ hxy
 have:=Xs nd fun x hx=>(h.mem x).mp hx;rw[Qc]at this;exact this
def fc:Nat->Nat
 | 0=>1
 | n+1=>(n+1)*fc n
theorem Zlt:∀ n,0<fc n
 | 0=>Nat.one_pos
 | n+1=>Nat.mul_pos (Nat.succ_pos n) (Zlt n)
theorem Zdh:∀ s a b,a+b=s->fc a*fc b ∣ fc (a+b)
 | 0,a,b,h=>by
  have:a=0/\b=0:=by omega
  obtain⟨rfl,rfl⟩:=this;exact⟨1,rfl⟩
 | s+1,0,b,h=>by rw[Nat.zero_add];exact⟨1,by show fc b=1*fc b*1;omega⟩
 | s+1,a+1,0,h=>⟨1,by show fc (a+1)=fc (a+1)*1*1;omega⟩
 | s+1,a+1,b+1,h=>by
  have h1:=Zdh s a (b+1) (by omega);have h2:=Zdh s (a+1) b (by omega);have e:fc (a+1+(b+1))=(a+1)*fc (a+(b+1))+(b+1)*fc (a+1+b):=by
   have e1:a+1+(b+1)=(a+b+1)+1:=by omega
   have e2:a+(b+1)=a+b+1:=by omega
   have e3:a+1+b=a+b+1:=by omega
   rw[e1,e2,e3];show(a+b+1+1)*fc (a+b+1)=_;rw[←Rj];congr 1;omega
  rw[e];refine Nat.dvd_add ?_ ?_
  ·show(a+1)*fc a*fc (b+1) ∣ _;rw[Vm];exact WA _ h1
  ·show fc (a+1)*((b+1)*fc b) ∣ _;rw[RW];exact WA _ h2
def Zhy (ms:List Nat):Nat:=ms.foldr (fun m p=>fc m*p) 1
theorem Jj (m:Nat) (ms:List Nat):Zhy (m::ms)=fc m*Zhy ms:=rfl
theorem ZbQ:∀ ms:List Nat,Zhy ms ∣ fc ms.sum
 | []=>⟨1,rfl⟩
 | m::ms=>by
  rw[Jj,Qy];exact Ry (WA _ (ZbQ ms)) (Zdh _ _ _ rfl)
theorem Zie:∀ (ms:List Nat) (m:Nat),m∈ms->m<=ms.sum
 | [],m,h=>by cases h
 | n::ms,m,h=>by
  rw[Qy];rcases Qx.mp h with e | e
  ·omega
  ·have:=Zie ms m e;omega
theorem ZcM:∀ (ms:List Nat) (m:Nat),m∈ms->Zhy ms ∣ m*fc (ms.sum-1)
 | [],m,h=>by cases h
 | n::ms,m,h=>by
  rw[Jj,Qy];cases m with
  | zero=>rw[RK];exact Nat.dvd_zero _
  | succ k =>
  rcases Qx.mp h with e | e
  ·subst e;show(k+1)*fc k*_ ∣ _;rw[Vm,show k+1+ms.sum-1=k+ms.sum by omega];exact WA _ (Ry (WA _ (ZbQ ms)) (Zdh _ _ _ rfl))
  ·have h1:=ZcM ms (k+1) e;have hs:k+1<=ms.sum:=Zie ms _ e;rw[show n+ms.sum-1=n+(ms.sum-1)by omega];refine Ry (WA _ h1) ?_;rw[RW];exact WA _ (Zdh _ _ _ rfl)
def fI (x:Int):Int:=(fc x.toNat:Int)
theorem Zdi (x:Int):1<=fI x:=by
 have:=Zlt x.toNat;unfold fI;omega
def prI (l:List Int):Int:=l.foldr (fun a b=>a*b) 1
theorem ZbS:prI []=1:=rfl
theorem Zx (a:Int) (l:List Int):prI (a::l)=a*prI l:=rfl
theorem ZhA:∀ a b:List Int,prI (a++b)=prI a*prI b
 | [],b=>by rw[UO,ZbS,Wi]
 | x::a,b=>by rw[List.cons_append,Zx,Zx,ZhA a b,Wd]
theorem Zhz:∀ l:List Int,(Zhy (l.map RM):Int)=prI (l.map fI)
 | []=>rfl
 | x::l=>by
  rw[Qj,Qj,Jj,Zx,←Zhz l,Rh];rfl
theorem YL:∀ l:List Int,(∀ x∈l,0<=x)->(l.map RM).sum=l.sum.toNat/\0<=l.sum
 | [],_=>⟨rfl,Ww _⟩
 | x::l,h=>by
  obtain⟨e,p⟩:=YL l fun y hy=>h y (Qg _ hy);have hx:=h x Qd;rw[Qj,Qy,Qy,e];omega
theorem Zm1 {l:List Int} (h:∀ x∈l,0<=x):prI (l.map fI) ∣ fI l.sum:=by
 have:=ZbQ (l.map RM);rw[(YL l h).1]at this;rw[←Zhz];exact Rc.mpr this
theorem Zm0 {l:List Int} (h:∀ x∈l,0<=x) {m:Int} (hm:m∈l):prI (l.map fI) ∣ m*fI (l.sum-1):=by
 have:=ZcM (l.map RM) m.toNat (Qr.mpr ⟨m,hm,rfl⟩);rw[(YL l h).1]at this;rw[←Zhz];have h2:=Rc.mpr this;rw[Rh,UW (h m hm)]at h2;have e:fI (l.sum-1)=(fc (l.sum.toNat-1):Int):=by
  unfold fI;congr 2;omega
 rw[e];exact h2
theorem ZgA {d:Int}:∀ l:List Int,(∀ x∈l,d ∣ x)->d ∣ l.sum
 | [],_=>Int.dvd_zero _
 | x::l,h=>by
  rw[Qy];exact Int.dvd_add (h x Qd) (ZgA l fun y hy=>h y (Qg _ hy))
theorem ZeF (c:Int):∀ l:List Int,l.sum*c=(l.map fun x=>x*c).sum
 | []=>by simp
 | x::l=>by rw[Qy,Qj,Qy,Ri,ZeF c l]
theorem Zcy {n:Nat} {T:Nat->List Tie} (G A:Nat->Int) (h:∀ i,i<n->∀ t∈T i,G i ∣ t.2*A i):∀ (k:Nat) (ch:List Nat),ch.length+k=n->prI ((Wx ch.length k).map G) ∣ ZP n T k ch*prI ((Wx ch.length k).map A)
 | 0,ch,_=>⟨ZP n T 0 ch,by show _*1=1*_;rw[UZ,Wi]⟩
 | k+1,ch,hl=>by
  unfold ZP;rw[show Wx ch.length (k+1)=ch.length::Wx (ch.length+1) k from rfl,Qj,Qj,Zx,Zx,ZeF,QV];refine ZgA _ fun x hx=>?_;obtain⟨t,ht,rfl⟩:=Qr.mp hx;have ih:=Zcy G A h k (ch++[t.1]) (by rw[Qp,QA];omega);rw[Qp,QA]at ih;have h1:=h ch.length (by omega) t ht;have:=Vf h1 ih;show _ ∣ t.2*ZP n T k (ch++[t.1])*(A ch.length*prI _);have e:t.2*ZP n T k (ch++[t.1])*(A ch.length*prI ((Wx (ch.length+1) k).map A))=t.2*A ch.length*(ZP n T k (ch++[t.1])*prI ((Wx (ch.length+1) k).map A)):=by
   rw[Wd,Wd,Wt (ZP n T k (ch++[t.1]))]
  rw[e];exact this
theorem Jr {n:Nat} {T:Nat->List Tie} (h:∀ i,∀ t∈T i,0<=t.2):∀ (k:Nat) (ch:List Nat),0<=ZP n T k ch
 | 0,ch=>by
  unfold ZP;split <;> decide
 | k+1,ch=>by
  unfold ZP;have:∀ l:List Int,(∀ x∈l,0<=x)->0<=l.sum:=fun l hl=>(YL l hl).2;refine this _ fun x hx=>?_;obtain⟨t,ht,rfl⟩:=Qr.mp hx;exact Rn (h _ t ht) (Jr h k _)
def gS (es:Es) (x:Str):Int:=prI ((es.filter fun e=>decide (bg e.1=x)).map fun e=>fI e.2)
theorem ZeS {g:Str->Int}:∀ l:List Str,(∀ x∈l,g x=1)->prI (l.map g)=1
 | [],_=>rfl
 | x::l,h=>by
  rw[Qj,Zx,h x Qd,ZeS l fun y hy=>h y (Qg _ hy)];rfl
theorem Jx {g f:Str->Int} {y:Str} {c:Int}:∀ l:List Str,l.Nodup->y∈l->f y=c*g y->(∀ x∈l,x≠y->f x=g x)->prI (l.map f)=c*prI (l.map g)
 | [],_,h,_,_=>by cases h
 | x::l,nd,h,hy,ho=>by
  obtain⟨n1,n2⟩:=QW.mp nd;rw[Qj,Qj,Zx,Zx];by_cases e:x=y
  ·subst e;have:l.map f=l.map g:=QR fun z hz=>ho z (Qg _ hz) fun q=>n1 (q▸hz);rw[hy,this,Wd]
  ·have hm:y∈l:=(Qx.mp h).resolve_left fun q=>e q.symm;rw[ho x Qd e,Jx l n2 hm hy fun z hz=>ho z (Qg _ hz),Wt]
theorem ZcQ {rs:List Str} (nd:rs.Nodup):∀ es:Es,(∀ e∈es,bg e.1∈rs)->prI (es.map fun e=>fI e.2)=prI (rs.map (gS es))
 | [],_=>(ZeS rs fun x _=>rfl).symm
 | e::es,h=>by
  rw[Qj,Zx,ZcQ nd es fun z hz=>h z (Qg _ hz)];refine(Jx (y:=bg e.1) rs nd (h e Qd) ?_ fun x _ hx=>?_).symm
  ·unfold gS;rw[WB (by simp),Qj,Zx]
  ·unfold gS;rw[WC (by simp;exact fun q=>hx q.symm)]
theorem ZdZ (hF:Jq es) (y:Str):∀ x∈(es.filter fun e=>decide (bg e.1=y)).map fun e=>e.2,0<=x:=fun x hx=>by
 obtain⟨e,he,rfl⟩:=Qr.mp hx;exact(hF.many e (QB.mp he).1).1
theorem Zlq (es:Es) (y:Str):gS es y=prI (((es.filter fun e=>decide (bg e.1=y)).map fun e=>e.2).map fI):=by
 unfold gS;rw[QV];rfl
noncomputable def Zmn (ss:List Str) (es:Es) (r:Str):Int:=Y1 (othL ss r) es*fI (Zba es r)*prI ((othL ss r).map fun x=>fI (Zba es x-1))
theorem Zmm {r:Str} (hF:Jq es) (hS:SPts es ss):prI (es.map fun e=>fI e.2) ∣ Zmn ss es r:=by
 have nd0:(othL ss r).Nodup:=by unfold othL;exact hS.pts.nd.filter _
 have nr:r∉othL ss r:=by
  unfold othL;intro q;have:=(QB.mp q).2;simp at this
 have hb:∀ e∈es,bg e.1∈r::othL ss r:=fun e he=>by
  have:=(hS.pts.mem (bg e.1)).mpr ⟨e,he,.inl rfl⟩;by_cases c:bg e.1=r
  ·rw[c];exact Qd
  ·refine Qg _ ?_;unfold othL;exact QB.mpr ⟨this,by simp[c]⟩
 rw[ZcQ (rs:=r::othL ss r) (QW.mpr ⟨nr,nd0⟩) es hb,Qj,Zx];unfold Zmn;have h1:gS es r ∣ fI (Zba es r):=by
  rw[Zlq];exact Zm1 (ZdZ hF r)
 generalize othL ss r=os at *;have h2:=Zcy (n:=os.length) (T:=Yy os es) (fun i=>gS es (os.getD i "")) (fun i=>fI (Zba es (os.getD i "")-1)) (fun i hi t ht=>by
  unfold Yy at ht;obtain⟨e,he,rfl⟩:=Qr.mp ht;obtain⟨he1,he2⟩:=QB.mp he;have he3:os.idxOf (bg e.1)=i:=of_decide_eq_true he2;have hin:bg e.1∈os:=UE.mp (by omega);have hat:os.getD i "" = bg e.1:=by
   rw[Qb,Qa hi];subst he3;show os[os.idxOf (bg e.1)]=_;exact List.getElem_idxOf hi
  dsimp only;rw[hat,Zlq];exact Zm0 (ZdZ hF _) (Qr.mpr ⟨e,QB.mpr ⟨he1,by simp⟩,rfl⟩)) os.length [] (by simp)
 have e1:∀ g:Str->Int,(Wx ([]:List Nat).length os.length).map (fun i=>g (os.getD i ""))=os.map g:=fun g=>by
  show(Wx 0 os.length).map _=_;rw[←UR]
  conv=>rhs;rw[←range_getD os ""]
  rw[QV];rfl
 rw[e1 (gS es),e1 fun x=>fI (Zba es x-1)]at h2;have h3:=Vf h1 h2;have e2:Y1 os es*fI (Zba es r)*prI (os.map fun x=>fI (Zba es x-1))=fI (Zba es r)*(ZP os.length (Yy os es) os.length []*prI (os.map fun x=>fI (Zba es x-1))):=by
  unfold Y1;rw[WN (ZP os.length (Yy os es) os.length []),Wd]
 rw[e2];exact h3
theorem ZbR:∀ l:List Int,(∀ x∈l,1<=x)->1<=prI l
 | [],_=>Ww _
 | x::l,h=>by
  rw[Zx];have h1:=ZbR l fun y hy=>h y (Qg _ hy);have h2:=h x Qd;have:=Int.mul_le_mul h2 h1 (by decide) (by omega)
  rwa [Wi]at this
theorem Zje (hF:Jq es) (os:List Str):0<=Y1 os es:=Jr (fun i t ht=>by
 unfold Yy at ht;obtain⟨e,he,rfl⟩:=Qr.mp ht;exact(hF.many e (QB.mp he).1).1) _ _
theorem Zn0 (hF:Jq es) (ss:List Str) (r:Str):0<=Zmn ss es r:=by
 unfold Zmn;refine Rn (Rn (Zje hF _) (by have:=Zdi (Zba es r);omega)) ?_;have:=ZbR ((othL ss r).map fun x=>fI (Zba es x-1)) fun y hy=>by
  obtain⟨x,_,rfl⟩:=Qr.mp hy;exact Zdi _
 omega
theorem Zll {K:PySem.W.Frag} {mp:List Nat} {σ:L2.St} {H1:Hp} {Q:VK} {q:Addr} {vs:List V} (hS:lcS 2 mp σ=[none,none]) (hq:H1 q=some (.tup vs)) (hpa:PA H1 vs es) (hl:es.length<=1000)
  (done:∀ D H',Same H1 H'->H' D=some (.lst ((es.map fun e=>e.2).map V.int))->Q (.ref D) H'):JB 2 mp σ (Zpw K 2 (ZmW (JI 0) (ZmW (JI 1) ZpS))) Znm (Zne 1) (Itt K q) H1 Q:=by
 refine Xc vs.length (fun i=>vs.getD i .non) (fun i v _=>v= .int (es.getD i ("",0)).2) (Zj (by rw[hpa.1];exact hl)) (fun _ _ _ _ _ r=>r) (Zaw (SqT.of hq)) ?_ ?_
 ·intro i H Qe hi hs kq;have hie:i<es.length:=by rw[←hpa.1];exact hi
  obtain⟨b,e1,e2⟩:=hpa.2 i es[i] (Qa hie);have ev:vs.getD i .non= .ref b:=by rw[Qb,e1];rfl
  have ee:es.getD i ("",0)=es[i]:=by rw[Qb,Qa hie];rfl
  rw[ev,hS];refine⟨b,_,rfl,SqT.of (hs _ _ e2),rfl,_,_,rfl,_,_,rfl,rfl,_,rfl,kq _ _ (Same.refl _) ?_⟩;rw[ee]
 ·intro D us H' hul hR hs hD hDl;refine done D H' hs ?_;rw[hDl];congr 2;apply QT;intro i;by_cases hi:i<us.length
  ·have hie:i<es.length:=by rw[←hpa.1,←hul];exact hi
   rw[Qa hi,hR i _ (Qa hi),Qk,Qk,Qa hie,Qb,Qa hie];rfl
  ·rw[Ql (by omega),Ql (by rw[Qc,Qc];have:=hpa.1;omega)]
theorem ZgB:∀ {l:List Int} {b:Nat},(∀ x∈l,0<=x/\x<=b)->0<=l.sum/\l.sum<=b*l.length
 | [],b,_=>by simp
 | x::l,b,h=>by
  have ih:=ZgB (l:=l) (b:=b) fun y hy=>h y (Qg _ hy);have hx:=h x (Qd ..);rw[Qy,QO];push_cast;rw[U0,UZ];omega
theorem ZmC {l:List Int} (h:∀ x∈l,0<=x/\x<=(64000:Nat)) (hl:l.length<=128):(∀ x∈l,InLong x)/\∀ k,InLong (l.take k).sum:=by
 constructor
 ·intro x hx;have:=h x hx;unfold InLong;omega
 ·intro k;have h1:=ZgB (l:=l.take k) (b:=64000) fun x hx=>h x (Uu hx);have h2:(l.take k).length<=128:=by rw[QJ];omega
  unfold InLong;omega
theorem ZlH (f:Str->Int) (ss:List Str):(ups f ss).length<=ss.length:=by
 unfold ups;rw[Qc];exact Q5 _ _
theorem Zjd (hF:Jq es) {f:Str->Int} (hf:∀ x,(f x).natAbs=(mo es x).natAbs) (hp:SPts es ss):(∀ x∈(ups f ss).map fun e=>e.2,InLong x)/\(∀ k,InLong (((ups f ss).map fun e=>e.2).take k).sum)/\(ups f ss).length<=1000:=by
 have hb:∀ x,(f x).natAbs<=64000:=fun x=>by
  rw[hf];have:=Zoi (es:=es) (b:=1000) x hF.many;have:=hF.few;omega
 have hl:(ups f ss).length<=128:=by
  have:=ZlH f ss;have:=hp.pts.len;have:=hF.few;omega
 obtain⟨a1,a2⟩:=ZmC (l:=(ups f ss).map fun e=>e.2) (fun x hx=>by
  obtain⟨e,he,rfl⟩:=Qr.mp hx;have:=Znj hb ss e he;omega) (by rw[Qc];exact hl)
 exact⟨a1,a2,by omega⟩
theorem Zcz {n:Nat} {T:Nat->List Tie} {b:Nat} (hT:∀ r,((T r).map fun t=>t.2.natAbs).sum<=b) (hb:1<=b):∀ (k:Nat) (ch:List Nat),(ZP n T k ch).natAbs<=b ^ k
 | 0,ch=>by
  unfold ZP;split <;> simp
 | k+1,ch=>by
  unfold ZP;have key:∀ ts:List Tie,((ts.map fun t=>t.2*ZP n T k (ch++[t.1])).sum).natAbs<=((ts.map fun t=>t.2.natAbs).sum)*b ^ k:=fun ts=>by
   induction ts with
   | nil=>simp
   | cons t ts ih =>
    rw[Qj,Qy,Qj,Qy,Rj];refine Q7 (RV _ _) (Nat.add_le_add ?_ ih);rw[Vh];exact Nat.mul_le_mul_left _ (Zcz hT hb k _)
  refine Q7 (key _) ?_;rw[Nat.pow_succ,RF (b ^ k)];exact Nat.mul_le_mul_right _ (hT _)
theorem ZlJ (hF:Jq es) (os:List Str) (r:Nat):((Yy os es r).map fun t=>t.2.natAbs).sum<=64000:=by
 have key:∀ l:List Tie,(∀ t∈l,t.2.natAbs<=1000)->(l.map fun t=>t.2.natAbs).sum<=1000*l.length:=fun l=>by
  induction l with
  | nil=>intro _;simp
  | cons t l ih =>
   intro h;have:=ih fun u hu=>h u (Qg _ hu);have:=h t Qd;rw[Qj,Qy,QO];omega
 have h1:=key (Yy os es r) fun t ht=>by
  unfold Yy at ht;obtain⟨e,he,rfl⟩:=Qr.mp ht;have:=hF.many e (QB.mp he).1;dsimp only;omega
 have h2:(Yy os es r).length<=es.length:=by
  unfold Yy;rw[Qc];exact Q5 _ _
 have:=hF.few;omega
theorem ZiG:∀ {a b:Nat},a<=b->fc a<=fc b
 | a,0,h=>by rw[Nat.le_zero.mp h];exact Qi _
 | a,b+1,h=>by
  by_cases e:a=b+1
  ·rw[e];exact Qi _
  ·refine Q7 (ZiG (b:=b) (by omega)) ?_;show fc b<=(b+1)*fc b;exact Nat.le_mul_of_pos_left _ (Nat.succ_pos b)
theorem Zox (h:n<=30):fc n<2 ^ 108:=Wv (ZiG h) (by decide)
theorem ZiH {x:Int} (h:x<=30):Sm 108 (fI x):=by
 show(fI x).natAbs<2 ^ 108;unfold fI;rw[RN];exact Zox (by omega)
theorem Zez (hF:Jq es) (h:os.length<=31):Sm 500 (Y1 os es):=by
 show(Y1 os es).natAbs<2 ^ 500;unfold Y1;refine Wv (Zcz (b:=64000) (ZlJ hF os) (by decide) os.length []) ?_;exact Wv (Rr (by decide) h) (by decide +kernel)
theorem Zk6 {g:Str->Int} (hg:∀ x,Sm 108 (g x)):∀ l:List Str,Sm (108*l.length+1) (prI (l.map g))
 | []=>by show(1:Int).natAbs<2 ^ 1;decide
 | x::l=>by
  have:=(hg x).mul (Zk6 hg l);rw[Qj,Zx,QO,show 108*(l.length+1)+1=108+(108*l.length+1)by omega];exact this
theorem ZjG (l:List Int) (x:Int):prI (l++[x])=prI l*x:=by
 rw[ZhA,Zx,ZbS,UZ]
abbrev Jg:Stmt:=top 31
abbrev ZfY:List Str:=["number","product","factor"]
theorem scFactorial:Zm ZfY ["number"] (Zg Jg):=⟨rfl,rfl,rfl,by decide +kernel,rfl,by decide +kernel,by decide +kernel⟩
def ZlS:Sp:=fun vs H Q _=>∃ n:Int,vs=[.int n]/\-1000<=n/\n<=30/\Q (.int (fI n)) H
theorem Zc2 (D:HasDef K mg "factorial" Jg ["number"]) (B:Blt mg):FOk P w K mg base 1 "factorial" ["number"] ZlS:=by
 refine D.ok scFactorial (fun vs H Q E h=>?_) (fun f cdv A outer s H vs Q E hr h=>?_)
 ·obtain⟨n,rfl,_⟩:=h;rfl
 ·obtain⟨n,rfl,n1,n2,k⟩:=h;refine⟨_,(Ze (Zp (i:=1) scFactorial.nd rfl (.inl rfl) Zf)
   (Ze (Z4 PassesOwn.never rfl (ZcP rfl B.range (Za Zf (Za (Zq ZS (pv 0) Zf) Zd))) (Zy (i:=2) scFactorial.nd rfl (.inl rfl))
    (Zh (Zp (i:=1) scFactorial.nd rfl (.inl rfl) (Zq Zal (pv 1) (pv 2)))))
   (Zh (Zn (pv 1))))),?_⟩
  refine⟨_,rfl,_,_,rfl,rfl,2,n+1,rfl,⟨by decide,by decide,by omega,by omega⟩,?_⟩;refine XZ (n:=(n+1-2).toNat) (fun i σ H3=>∃ z2:Option V,σ=[some (.int n),some (.int (fc (i+1):Int)),z2]/\H3=H) ⟨none,rfl,rfl⟩ ?_ ?_
  ·rintro i σ H3 hi ⟨z2,rfl,rfl⟩;have hb:fc (i+1)<2 ^ 108:=Zox (by omega);refine⟨_,rfl,_,rfl,_,_,rfl,rfl,⟨Sm.big (k:=108) (by show(fc (i+1):Int).natAbs<2 ^ 108;rw[RN];exact hb) (by decide),Sm.big (k:=5) (by show(2+(i:Int)).natAbs<2 ^ 5;omega) (by decide)⟩,some (.int (2+(i:Int))),?_,rfl⟩;have e:((fc (i+1):Nat):Int)*(2+(i:Int))=((fc (i+1+1):Nat):Int):=by
    show _=(((i+1+1)*fc (i+1):Nat):Int);rw[Rh,WN];congr 1;omega
   dsimp only;rw[e];rfl
  ·rintro σ H3 ⟨z2,rfl,rfl⟩;refine⟨_,rfl,?_⟩;have e:((fc ((n+1-2).toNat+1):Nat):Int)=fI n:=by
    unfold fI;by_cases c:1<=n
    ·congr 2;omega
    ·have e1:(n+1-2).toNat=0:=by omega
     have e2:n.toNat=0:=by omega
     rw[e1,e2];rfl
   rw[e];exact k
abbrev Yl:Stmt:=top 24
abbrev XB:List Str:=["H"]
theorem Zab:Zm XB ["H"] (Zg Yl):=⟨rfl,rfl,rfl,by decide +kernel,rfl,by decide +kernel,by decide +kernel⟩
structure Few (es:Es):Prop where
 out:∀ x,Zba es x<=30
 one:∀ e∈es,e.2<=30
theorem Zk9 (hF:Jq es) (x:Str):0<=Zba es x:=(YL _ (ZdZ hF x)).2
theorem ZnZ (hF:Jq es) (hW:Few es) {r:Str} (h:os.length<=31) (ys:List Str) (hy:ys.length<=30):Sm 3900 (Y1 os es*fI (Zba es r)*prI (ys.map fun x=>fI (Zba es x-1))):=by
 have h1:=((Zez hF h).mul (ZiH (hW.out r))).mul (Zk6 (g:=fun x=>fI (Zba es x-1)) (fun x=>ZiH (by have:=hW.out x;omega)) ys);exact h1.up (by omega)
def ZkL (wsh:Str) (us:Es):Str:=match us with | []=>wsh | u::_=>u.1
theorem Zla (ss:List Str) (r:Str):(othL ss r).length<=ss.length:=Q5 _ _
theorem ZjL {x r:Str}:othL (ss++[x]) r=if x=r then othL ss r else othL ss r++[x]:=by
 unfold othL;rw[Wg];by_cases c:x=r <;> simp[c]
abbrev Zad:Stmt:=top 32
abbrev Zh3:List Str:=["H","end","orders","point"]
theorem scOrdersTo:Zm Zh3 ["H","end"] (Zg Zad):=⟨rfl,rfl,rfl,by decide +kernel,rfl,by decide +kernel,by decide +kernel⟩
def ZnD:Sp:=fun vs H Q _=>∃ (v:V) (es:Es) (r:Str),vs=[v,.str r]/\HeapV H v es/\Jq es/\Few es/\(∀ ss,SPts es ss->ss.length<=29)/\∀ H' ss,Same H H'->SPts es ss->Q (.int (Zmn ss es r)) H'
theorem ZcX (D:HasDef K mg "orders_to" Zad ["H","end"]) (B:Blt mg) (g49_:FOk P w K mg base 5 "trees_of" ["H","root"] ZgJ) (g35_:FOk P w K mg base 5 "outs_of" ["H","P"] ZkR) (g19_:FOk P w K mg base 5 "factorial" ["number"] ZlS) (g38_:FOk P w K mg base 5 "points_of" ["H"] XL):FOk P w K mg base 6 "orders_to" ["H","end"] ZnD:=by
 refine D.ok scOrdersTo (fun vs H Q E h=>?_) (fun f cdv A outer s H vs Q E hr h=>?_)
 ·obtain⟨v,es,r,rfl,_⟩:=h;rfl
 ·obtain⟨v,es,r,rfl,hV,hF,hW,hn,k⟩:=h;refine⟨_,(Ze (Zp (i:=2) scOrdersTo.nd rfl (.inl rfl) (Zq Zal (Zt g49_ hr (Za (pv 0) (Za (pv 1) Zd))) (Zt g19_ hr (Za (Zt g35_ hr (Za (pv 0) (Za (pv 1) Zd))) Zd))))
   (Ze (Z4 PassesOwn.never rfl (Yf (Zt g38_ hr (Za (pv 0) Zd))) (Zy (i:=3) scOrdersTo.nd rfl (.inl rfl))
    (Zh (ZE (Zo ZaM (pv 3) (pv 1) (Zr _)) (Zh (Zp (i:=2) scOrdersTo.nd rfl (.inl rfl) (Zq Zal (pv 2) (Zt g19_ hr (Za (Zq Xa (Zt g35_ hr (Za (pv 0) (Za (pv 3) Zd))) Zf) Zd))))) Zs)))
   (Zh (Zn (pv 2))))),?_⟩
  have ho:∀ ss,SPts es ss->(othL ss r).length<=31:=fun ss hS=>Q7 (Q7 (Zla ss r) (hn ss hS)) (by decide);refine⟨_,rfl,_,rfl,v,es,r,rfl,hV,hF,ho,fun H1 ss s1 hS=>?_⟩;refine⟨_,rfl,_,rfl,v,es,r,rfl,hV.same s1,hF,fun H2 s2=>?_⟩;have o1:=Zk9 hF r;have o2:=hW.out r;have s12:=s1.trans s2;refine⟨_,rfl,by omega,o2,_,_,rfl,rfl,⟨(Zez hF (ho ss hS)).big (by decide),(ZiH o2).big (by decide)⟩,?_⟩;refine⟨_,rfl,v,es,rfl,hV.same s12,hF,fun v' H3 ss' s3 hT hS'=>?_⟩;have ess:=SPts.one hS' hS;subst ess;obtain⟨q,rfl,hq⟩:=hT;have s13:=s12.trans s3;have hno:=ho _ hS;refine⟨q,rfl,⟨_,SqT.of hq⟩,YJ (K:=K) (a:=q) (xs:=ss'.map V.str) (fun i σ H4=>(∃ z3:Option V,σ=[some v,some (.str r),some (.int (Y1 (othL ss' r) es*fI (Zba es r)*prI ((othL (ss'.take i) r).map fun x=>fI (Zba es x-1)))),z3])/\Same H3 H4)
   ⟨⟨none,?_⟩,Same.refl _⟩ (fun i σ H4 _ ⟨_,s4⟩=>SqT.of (s4 _ _ hq)) ?_ ?_⟩
  ·rw[show othL (ss'.take 0) r=[]from rfl,Wq,ZbS,UZ];rfl
  ·rintro i x σ H4 hi ⟨⟨z3,rfl⟩,s4⟩;obtain⟨hi',rfl⟩:=JY hi;have etk:ss'.take (i+1)=ss'.take i++[ss'[i]]:=QY hi';rw[etk,ZjL];have hlt:(othL (ss'.take i) r).length<=29:=by
    have h1:=Zla (ss'.take i) r;have h2:=hn _ hS;rw[QJ]at h1;omega
   generalize ss'[i]=x at *;refine⟨_,rfl,_,rfl,rfl,_,rfl,?_⟩;by_cases c:x=r
   ·rw[if_pos c];exact ZM (by rw[c];simp) ⟨⟨_,rfl⟩,s4⟩
   ·rw[if_neg c];refine Ya (by simp[c]) ?_;refine⟨_,rfl,_,rfl,_,rfl,v,es,x,rfl,hV.same (s13.trans s4),hF,fun H5 s5=>?_⟩;have p1:=Zk9 hF x;have p2:=hW.out x;refine⟨_,_,rfl,rfl,_,rfl,by omega,by omega,_,_,rfl,rfl,⟨(ZnZ hF hW hno _ (by omega)).big (by decide),(ZiH (by omega)).big (by decide)⟩,⟨some (.str x),?_⟩,s4.trans s5⟩;rw[QG,Qj,Wq,ZjG,←Wd];rfl
  ·rintro σ H4 ⟨⟨z3,rfl⟩,s4⟩;rw[Qc,Q6 (Qi _)];exact⟨_,rfl,k H4 ss' (s13.trans s4) hS⟩
theorem ZdH {α:Type} (f g:α->Int):∀ l:List α,(l.map fun x=>f x+g x).sum=(l.map f).sum+(l.map g).sum
 | []=>rfl
 | x::l=>by
  rw[Qj,Qj,Qj,Qy,Qy,Qy,ZdH f g l];omega
theorem Zgz (y:Str):∀ l:List Str,l.Nodup->(l.map fun x=>if x=y then (1:Int)else 0).sum=if y∈l then 1 else 0
 | [],_=>rfl
 | x::l,nd=>by
  obtain⟨n1,n2⟩:=QW.mp nd;rw[Qj,Qy,Zgz y l n2];by_cases e:x=y
  ·subst e;rw[if_pos rfl,if_neg n1,if_pos Qd];rfl
  ·rw[if_neg e,UF];by_cases h:y∈l
   ·rw[if_pos h,if_pos (Qg _ h)]
   ·rw[if_neg h,if_neg fun q=>(Qx.mp q).elim (fun z=>e z.symm) h]
theorem ZiU {ks:List Str} (nd:ks.Nodup) (p:Str->Bool):∀ ps:List Str,(∀ x∈ps,x∈ks)->((ks.filter p).map fun x=>(ps.count x:Int)).sum=((ps.filter p).length:Int)
 | [],_=>by
  have:∀ l:List Str,(l.map fun x=>((([]:List Str).count x:Nat):Int)).sum=0:=fun l=>by
   induction l with
   | nil=>rfl
   | cons x l ih=>rw[Qj,Qy,ih];rfl
  rw[this];rfl
 | y::ps,h=>by
  have ih:=ZiU nd p ps fun x hx=>h x (Qg _ hx);have e:∀ x:Str,(((y::ps).count x:Nat):Int)=(ps.count x:Int)+if x=y then 1 else 0:=fun x=>by
   rw[Vg];by_cases c:x=y
   ·subst c;simp
   ·rw[if_neg (by simpa using fun q:y=x=>c q.symm),if_neg c];rfl
  have e2:((ks.filter p).map fun x=>(((y::ps).count x:Nat):Int))=(ks.filter p).map fun x=>(ps.count x:Int)+if x=y then 1 else 0:=QR fun x _=>e x
  rw[e2,ZdH,ih,Zgz y _ (nd.filter _)];by_cases c:p y=true
  ·rw[if_pos (QB.mpr ⟨h y Qd,c⟩),WB c,QO];omega
  ·rw[if_neg fun q=>c (QB.mp q).2,WC c];omega
theorem Zei (h:ZU ps hp):(hp.map (·.1)).Nodup:=by
 rw[WY,We];refine List.Pairwise.imp ?_ (We.mp h.srt);intro x y hxy e;rw[e]at hxy;exact Uc _ hxy
theorem Zcd (h:ZU ps hp) (p:Str->Bool):((hp.filter fun e=>p e.1).map fun e=>e.2).sum=((ps.filter p).length:Int):=by
 rw[←ZiU (Zei h) p ps fun x hx=>(h.mem x).mpr hx];congr 1;rw[Rg,QV];refine QR fun e he=>?_;exact h.cnt e (QB.mp he).1
def oR (ps:List Str) (y:Str):Nat:=(ps.filter fun x=>decide (bg x=y)).length
def iR (ps:List Str) (y:Str):Nat:=(ps.filter fun x=>decide (en x=y)).length
theorem ZbW (h:ZU ps hp) (y:Str):Zba hp y=(oR ps y:Int):=Zcd h fun x=>decide (bg x=y)
theorem Zlg (h:ZU ps hp) (y:Str):mo hp y=(oR ps y:Int)-(iR ps y:Int):=by
 have key:∀ es:Es,mo es y=((es.filter fun e=>decide (bg e.1=y)).map fun e=>e.2).sum-((es.filter fun e=>decide (en e.1=y)).map fun e=>e.2).sum:=fun es=>by
  induction es with
  | nil=>rfl
  | cons e es ih =>
   rw[Zaq,ih];unfold mo1 ind;by_cases a:bg e.1=y <;> by_cases b:en e.1=y <;> simp[a,b] <;> omega
 rw[key,Zcd h fun x=>decide (bg x=y),Zcd h fun x=>decide (en x=y)];rfl
theorem Zow (h:ZU ps hp) (hl:ps.length<=30):Few hp:=by
 refine⟨fun x=>?_,fun e he=>?_⟩
 ·rw[ZbW h];have:oR ps x<=ps.length:=Q5 _ _;omega
 ·have h1:=h.cnt e he;have h2:=Ru (a:=e.1) (l:=ps);omega
def Zn4 (ps:List Str):Es:=ps.map fun x=>(x,1)
def hD (ps:List Str) (r x:Str):Int:=fI ((oR ps x:Int)-if x=r then 0 else 1)
def ZoP (os:List Str) (x:Str) (r c:Nat):Int:=if os.idxOf (bg x)=r then (if c=r then 1 else 0)-(if c=os.idxOf (en x)then 1 else 0)else 0
theorem Zgu (os:List Str) (r c:Nat):∀ es:Es,JD os es r c=(es.map fun e=>e.2*ZoP os e.1 r c).sum
 | []=>rfl
 | e::es=>by
  rw[Qj,Qy,←Zgu os r c es];unfold JD Zl4 Yy ZoP;by_cases h:os.idxOf (bg e.1)=r
  ·rw[if_pos h,WB (by simpa using h),Qj,Qj,Qy]
  ·rw[if_neg h,WC (by simpa using h),UP,UF]
theorem ZeG (φ:Str->Int) (y:Str):∀ l:List Str,l.Nodup->y∈l->(l.map fun x=>(if x=y then (1:Int)else 0)*φ x).sum=φ y
 | [],_,h=>by cases h
 | x::l,nd,h=>by
  obtain⟨n1,n2⟩:=QW.mp nd;rw[Qj,Qy];by_cases e:x=y
  ·subst e;have:∀ m:List Str,x∉m->(m.map fun z=>(if z=x then (1:Int)else 0)*φ z).sum=0:=fun m hm=>by
    induction m with
    | nil=>rfl
    | cons z m ih =>
     rw[Qj,Qy,ih fun q=>hm (Qg _ q),if_neg fun q=>hm (by rw[q];exact Qd),Ug];rfl
   rw[this l n1,if_pos rfl,Wi,UQ]
  ·rw[if_neg e,Ug,UF];exact ZeG φ y l n2 ((Qx.mp h).resolve_left fun q=>e q.symm)
theorem Zft {ks:List Str} (nd:ks.Nodup) (φ:Str->Int):∀ ps:List Str,(∀ x∈ps,x∈ks)->(ks.map fun x=>(ps.count x:Int)*φ x).sum=(ps.map φ).sum
 | [],_=>by
  have:∀ l:List Str,(l.map fun x=>((([]:List Str).count x:Nat):Int)*φ x).sum=0:=fun l=>by
   induction l with
   | nil=>rfl
   | cons x l ih =>
    rw[Qj,Qy,ih];simp
  rw[this];rfl
 | y::ps,h=>by
  have ih:=Zft nd φ ps fun x hx=>h x (Qg _ hx);have e:∀ x:Str,(((y::ps).count x:Nat):Int)*φ x=(ps.count x:Int)*φ x+(if x=y then 1 else 0)*φ x:=fun x=>by
   rw[Vg,←Ri];congr 1;by_cases c:x=y
   ·subst c;simp
   ·rw[if_neg (by simpa using fun q:y=x=>c q.symm),if_neg c];rfl
  have e2:(ks.map fun x=>(((y::ps).count x:Nat):Int)*φ x)=ks.map fun x=>(ps.count x:Int)*φ x+(if x=y then 1 else 0)*φ x:=QR fun x _=>e x;rw[e2,ZdH,ih,ZeG φ y _ nd (h y Qd),Qj,Qy];omega
theorem Zis (h:ZU ps hp) (φ:Str->Int):(hp.map fun e=>e.2*φ e.1).sum=(ps.map φ).sum:=by
 rw[←Zft (Zei h) φ ps fun x hx=>(h.mem x).mpr hx,QV];congr 1;refine QR fun e he=>?_;show e.2*φ e.1=(ps.count e.1:Int)*φ e.1;rw[h.cnt e he]
def ZpQ (os ps:List Str):Yd:=fun r c=>(ps.map fun x=>ZoP os x r c).sum
theorem Zjh (h:ZU ps hp) (os:List Str):JD os hp=ZpQ os ps:=by
 funext r c
 rw[Zgu];exact Zis h fun x=>ZoP os x r c
def trR (os ps:List Str):Int:=det os.length (ZpQ os ps)
theorem Zgt (h:ZU ps hp) (os:List Str):Y1 os hp=trR os ps:=by
 unfold Y1 trR;rw[←Zjh h,JV (T:=Yy os hp) (fun r t ht=>?_) os.length [] (by simp) (fun x hx=>by cases hx)]
 ·rfl
 ·unfold Yy at ht;obtain⟨e,_,rfl⟩:=Qr.mp ht;exact Rt
def inP (ps:List Str) (y:Str):Bool:=ps.any fun x=>decide (bg x=y) || decide (en x=y)
def osL (ss ps:List Str) (e:Str):List Str:=ss.filter fun y=>decide (y≠e)&&inP ps y
def prO (ps os:List Str):Int:=prI (os.map fun y=>fI ((oR ps y:Int)-1))
def BR (ss ps:List Str) (e:Str):Int:=trR (osL ss ps e) ps*fI (oR ps e)*prO ps (osL ss ps e)
def Bal (ps:List Str) (P e:Str):Prop:=∀ y,(oR ps y:Int)-(iR ps y:Int)=(if y=P then 1 else 0)-(if y=e then 1 else 0)
theorem inP_iff:inP ps y=true↔∃ x∈ps,bg x=y\/en x=y:=by
 unfold inP;rw[List.any_eq_true];constructor
 ·rintro⟨x,hx,h⟩;exact⟨x,hx,by simpa using h⟩
 ·rintro⟨x,hx,h⟩;exact⟨x,hx,by simpa using h⟩
def ZpH (ps:List Str):Prop:=∀ a∈ps,∀ b∈ps,Rch (Zn4 ps) (bg a) (bg b)
theorem ZkC {fs:Es} (h:∀ e∈es,∃ f∈fs,f.1=e.1) {a b:Str} (k:Adj es a b):Adj fs a b:=by
 obtain⟨e,he,q⟩:=k;obtain⟨f,hf,hf1⟩:=h e he;exact⟨f,hf,by rw[hf1];exact q⟩
theorem Rch.mono {fs:Es} (h:∀ e∈es,∃ f∈fs,f.1=e.1) {a b:Str} (k:Rch es a b):Rch fs a b:=by
 induction k with
 | here=>exact .here
 | step _ q ih=>exact .step ih (ZkC h q)
theorem ZjO {x:Str} (h:x∈ps):(x,(1:Int))∈Zn4 ps:=Qr.mpr ⟨x,h,rfl⟩
def ZlD (ps:List Str) (P:Str):Prop:=ZpH ps/\inP ps P=true/\∃ e,Bal ps P e
def prK (ks ps:List Str):Int:=prI (ks.map fun k=>fI (ps.count k:Int))
theorem Zmb (ks ps:List Str):1<=prK ks ps:=ZbR _ fun y hy=>by
 obtain⟨x,_,rfl⟩:=Qr.mp hy;exact Zdi _
def IsC (ss ks ps:List Str) (P:Str) (n:Int):Prop:=(ps=[]->n=1)/\(ps≠[]->¬ ZlD ps P->n=0)/\(ps≠[]->ZlD ps P->∀ e,Bal ps P e->n*prK ks ps=BR ss ps e)
theorem ZiF {P:Str}:∀ ss:List Str,ss.Nodup->P∈ss->(ss.filter fun y=>decide (y=P))=[P]
 | [],_,h=>by cases h
 | x::ss,nd,h=>by
  obtain⟨n1,n2⟩:=QW.mp nd;by_cases e:x=P
  ·subst e;rw[WB (by simp)];congr 1;exact UK.mpr fun y hy=>by simp;exact fun z=>n1 (z▸hy)
  ·rw[WC (by simpa using e)];exact ZiF ss n2 ((Qx.mp h).resolve_left fun z=>e z.symm)
theorem Zgm (h:∀ y∈ss,g y<=0):ups g ss=[]:=by
 unfold ups;rw[UK.mpr fun y hy=>by have:=h y hy;simp;omega];rfl
theorem Zex {P:Str} (nd:ss.Nodup) (hP:P∈ss) (h1:g P=1) (h:∀ y∈ss,y≠P->g y<=0):ups g ss=[(P,1)]:=by
 unfold ups;have:(ss.filter fun x=>decide (0<g x))=ss.filter fun y=>decide (y=P):=List.filter_congr fun y hy=>decide_eq_decide.mpr ⟨fun z=>by
  false_or_by_contra;rename_i w;have:=h y hy w;omega,fun z=>by rw[z,h1];decide⟩
 rw[this,ZiF ss nd hP,Qj,Wq,h1]
theorem sm_one (h:sm (ups g ss)<=1):(ups g ss=[]/\∀ y∈ss,g y<=0)\/∃ u∈ss,ups g ss=[(u,1)]/\g u=1/\∀ y∈ss,y≠u->g y<=0:=by
 have hm:∀ y,y∈(ss.filter fun x=>decide (0<g x))↔y∈ss/\0<g y:=fun y=>by
  rw[QB];simp
 unfold ups at h ⊢;generalize (ss.filter fun x=>decide (0<g x))=fl at *;cases fl with
 | nil =>
  refine .inl ⟨rfl,fun y hy=>?_⟩;false_or_by_contra;rename_i w;have:=(hm y).mpr ⟨hy,by omega⟩;cases this
 | cons u fl =>
  have hu:=(hm u).mp Qd;cases fl with
  | nil =>
   unfold sm at h;rw[Qj,Wq,Qj,Wq,Qy,RG]at h;have e1:g u=1:=by
    have h:g u+0<=1:=h;omega
   refine .inr ⟨u,hu.1,by rw[Qj,Wq,e1],e1,fun y hy hn=>?_⟩;false_or_by_contra;rename_i w;exact hn (Qm.mp ((hm y).mpr ⟨hy,by omega⟩))
  | cons v fl =>
   exfalso;have hv:=(hm v).mp (Qg _ Qd);unfold sm at h;rw[QV,Qj,Qj,Qy,Qy]at h;have hr:0<=(fl.map ((fun e:Str×Int=>e.2) ∘ fun x=>(x,g x))).sum:=(YL _ fun y hy=>by
    obtain⟨z,hz,rfl⟩:=Qr.mp hy;have:=(hm z).mp (Qg _ (Qg _ hz));show 0<=g z;omega).2
   have h:g u+(g v+(fl.map ((fun e:Str×Int=>e.2) ∘ fun x=>(x,g x))).sum)<=1:=h;omega
theorem Zh9 (hS:SPts hp ss) (h:y∉ss):mo hp y=0:=Zee fun e he=>⟨fun z=>h ((hS.pts.mem y).mpr ⟨e,he,.inl z⟩),fun z=>h ((hS.pts.mem y).mpr ⟨e,he,.inr z⟩)⟩
theorem Xg (hO:ZU ps hp) (hS:SPts hp ss):inP ps y=true↔y∈ss:=by
 rw[inP_iff,hS.pts.mem];constructor
 ·rintro⟨x,hx,q⟩;obtain⟨e,he,rfl⟩:=Qr.mp ((hO.mem x).mpr hx);exact⟨e,he,q⟩
 ·rintro⟨e,he,q⟩;exact⟨e.1,(hO.mem _).mp (Qr.mpr ⟨e,he,rfl⟩),q⟩
theorem Zcp (hO:ZU ps hp) {P e:Str}:Bal ps P e↔∀ y,mo hp y=(if y=P then 1 else 0)-(if y=e then 1 else 0):=by
 unfold Bal;constructor
 ·intro h y;rw[Zlg hO];exact h y
 ·intro h y;rw[←Zlg hO];exact h y
theorem ZlI (hO:ZU ps hp) (hS:SPts hp ss) {P e:Str} (hB:Bal ps P e):ZkL P (ups (fun y=>-mo hp y) ss)=e:=by
 have hb:=(Zcp hO).mp hB;by_cases c:P=e
 ·subst c;rw[Zgm fun y _=>by rw[hb y];split <;> omega];rfl
 ·have he:mo hp e = -1:=by
   rw[hb e,if_neg (Ne.symm c),if_pos rfl];omega
  have hes:e∈ss:=by
   false_or_by_contra;rename_i z;rw[Zh9 hS z]at he;omega
  rw[Zex (P:=e) hS.pts.nd hes (by rw[he];rfl) fun y _ hy=>by
   rw[hb y,if_neg hy];split <;> omega]
  rfl
theorem ups_begin (hO:ZU ps hp) (hS:SPts hp ss) {P e:Str} (hB:Bal ps P e) (hP:P∈ss):(P=e/\ups (mo hp) ss=[])\/(P≠e/\ups (mo hp) ss=[(P,1)]):=by
 have hb:=(Zcp hO).mp hB;by_cases c:P=e
 ·subst c;refine .inl ⟨rfl,Zgm fun y _=>by rw[hb y];split <;> omega⟩
 ·refine .inr ⟨c,Zex hS.pts.nd hP (by rw[hb P,if_pos rfl,if_neg c];rfl) fun y _ hy=>by
   rw[hb y,if_neg hy];split <;> omega⟩
theorem ZoI (hO:ZU ps hp) (hS:SPts hp ss) (h:¬ 1<sm (ups (mo hp) ss)):(ups (mo hp) ss=[]/\∀ P,Bal ps P P)\/∃ u∈ss,ups (mo hp) ss=[(u,1)]/\∃ e,Bal ps u e:=by
 have ht:tot (mo hp) ss=0:=ZkI hS.pts.nd fun e he=>⟨(hS.pts.mem _).mpr ⟨e,he,.inl rfl⟩,(hS.pts.mem _).mpr ⟨e,he,.inr rfl⟩⟩
 have hbal:=Zgn (mo hp) ss;rw[ht]at hbal;rcases sm_one (g:=mo hp) (ss:=ss) (by omega)with ⟨a1,a2⟩ | ⟨u,hu,a1,a2,a3⟩
 ·refine .inl ⟨a1,fun P=>(Zcp hO).mpr fun y=>?_⟩;rw[a1]at hbal;have h0:sm ([]:Es)=0:=rfl;have:∀ z∈ss,-mo hp z<=0:=by
   rcases sm_one (g:=fun x=>-mo hp x) (ss:=ss) (by omega)with ⟨b1,b2⟩ | ⟨v,hv,b1,b2,b3⟩
   ·exact b2
   ·exfalso;rw[b1]at hbal;have h1:sm [(v,(1:Int))]=1:=rfl;omega
  have e0:mo hp y=0:=by
   by_cases c:y∈ss
   ·have x1:=a2 y c;have x2:=this y c;omega
   ·exact Zh9 hS c
  rw[e0];omega
 ·refine .inr ⟨u,hu,a1,?_⟩;rw[a1]at hbal;have h1:sm [(u,(1:Int))]=1:=rfl;rcases sm_one (g:=fun x=>-mo hp x) (ss:=ss) (by omega)with ⟨b1,b2⟩ | ⟨v,hv,b1,b2,b3⟩
  ·exfalso;rw[b1]at hbal;have h0:sm ([]:Es)=0:=rfl;omega
  ·refine⟨v,(Zcp hO).mpr fun y=>?_⟩;by_cases c:y∈ss
   ·by_cases d1:y=u
    ·subst d1;have:y≠v:=fun z=>by
      rw[←z]at b2;have b2 : -mo hp y=1:=b2;omega
     rw[if_pos rfl,if_neg this,a2];rfl
    ·rw[if_neg d1];by_cases d2:y=v
     ·subst d2;have b2 : -mo hp y=1:=b2;rw[if_pos rfl];omega
     ·rw[if_neg d2];have x1:=a3 y c d1;have x2 : -mo hp y<=0:=b3 y c d2;omega
   ·have n1:y≠u:=fun z=>c (z▸hu);have n2:y≠v:=fun z=>c (z▸hv);rw[Zh9 hS c,if_neg n1,if_neg n2];rfl
theorem Zkv {e:Str×Int} (hO:ZU ps (e::es)):ZpH ps↔∀ e'∈e::es,Rch (e::es) (bg e.1) (bg e'.1):=by
 have sub1:∀ f∈Zn4 ps,∃ g∈e::es,g.1=f.1:=fun f hf=>by
  unfold Zn4 at hf;obtain⟨x,hx,rfl⟩:=Qr.mp hf;obtain⟨g,hg,q⟩:=Qr.mp ((hO.mem x).mpr hx);exact⟨g,hg,q⟩
 have sub2:∀ f∈e::es,∃ g∈Zn4 ps,g.1=f.1:=fun f hf=>⟨_,ZjO ((hO.mem f.1).mp (Qr.mpr ⟨f,hf,rfl⟩)),rfl⟩
 constructor
 ·intro h e' he';exact(h e.1 ((hO.mem _).mp (Qr.mpr ⟨e,Qd,rfl⟩)) e'.1 ((hO.mem _).mp (Qr.mpr ⟨e',he',rfl⟩))).mono sub1
 ·intro h a ha b hb;obtain⟨f,hf,rfl⟩:=Qr.mp ((hO.mem a).mpr ha);obtain⟨g,hg,rfl⟩:=Qr.mp ((hO.mem b).mpr hb);exact((h f hf).symm.trans (h g hg)).mono sub2
theorem Zkg {ks:List Str} (hO:ZU ps hp) (ndk:ks.Nodup) (hks:∀ x∈ps,x∈ks):prI (hp.map fun e=>fI e.2)=prK ks ps:=by
 have e1:(hp.map fun e=>fI e.2)=(hp.map (·.1)).map fun k=>fI (ps.count k:Int):=by
  rw[QV];refine QR fun e he=>?_;show fI e.2=fI (ps.count e.1:Int);rw[hO.cnt e he]
 have nd1:=Zei hO;have hm:∀ x,x∈hp.map (·.1)↔x∈ps:=hO.mem;rw[e1];generalize hp.map (·.1)=ls at *;have perm_pr:∀ {l m:List Int},l.Perm m->prI l=prI m:=fun {l m} h=>by
  induction h with
  | nil=>rfl
  | cons x _ ih=>rw[Zx,Zx,ih]
  | swap x y l=>rw[Zx,Zx,Zx,Zx,Wt]
  | trans _ _ a b=>rw[a,b]
 have e2:ls.Perm (ks.filter fun x=>decide (x∈ps)):=(U3 nd1 (ndk.filter _)).mpr fun x=>by
  rw[hm,QB];simp;exact hks x
 rw[perm_pr (e2.map fun k=>fI (ps.count k:Int))];unfold prK;clear e2 ndk hks;induction ks with
 | nil=>rfl
 | cons k ks ih =>
  rw[Qj,Zx,←ih];by_cases c:k∈ps
  ·rw[WB (by simpa using c),Qj,Zx]
  ·rw[WC (by simpa using c),List.count_eq_zero_of_not_mem c];exact(Wi _).symm
theorem Zn1 (hO:ZU ps hp) {ss0:List Str} (hS:SPts hp ss) (hs0:(ss0.map fun x=>x.cps.toList).Pairwise (· < ·)) (hc:∀ y,inP ps y=true->y∈ss0) (e:Str):Zmn ss hp e=BR ss0 ps e:=by
 have eo:othL ss e=osL ss0 ps e:=by
  refine Zbu ?_ ?_ fun x=>?_
  ·unfold othL;exact hS.srt.sublist (List.Sublist.map _ RC)
  ·unfold osL;exact hs0.sublist (List.Sublist.map _ RC)
  ·unfold othL osL;rw[QB,QB];constructor
   ·rintro⟨h1,h2⟩;have:=(Xg hO hS).mpr h1;exact⟨hc x this,by simp at h2;simp[h2,this]⟩
   ·rintro⟨h1,h2⟩;simp at h2;exact⟨(Xg hO hS).mp h2.2,by simp[h2.1]⟩
 unfold Zmn BR prO;rw[Zgt hO,eo,ZbW hO];congr 2;refine QR fun y _=>?_;rw[ZbW hO]
structure Rw (H:Hp) (v:V) (ps:List Str) (e:Str×Int) (es:Es):Prop where
 hV:HeapV H v (e::es)
 hO:ZU ps (e::es)
 hF:Jq (e::es)
 hW:Few (e::es)
 hn:∀ ss,SPts (e::es) ss->ss.length<=29
theorem Rw.same {e:Str×Int} (h:Rw H v ps e es) (s:Same H H'):Rw H' v ps e es:=⟨h.hV.same s,h.hO,h.hF,h.hW,h.hn⟩
def IsN (ps:List Str) (P:Str) (n:Int):Prop:=0<=n/\∀ ss0 ks:List Str,(ss0.map fun x=>x.cps.toList).Pairwise (· < ·)->(∀ y,inP ps y=true->y∈ss0)->ks.Nodup->(∀ x∈ps,x∈ks)->IsC ss0 ks ps P n
def ZdJ:Sp:=fun vs H Q _=>∃ (v:V) (es:Es),vs=[v]/\HeapV H v es/\Jq es/\∀ H' ss,Same H H'->SPts es ss->Q (.bl (decide (1<sm (ups (mo es) ss)))) H'
theorem Zc0 (D:HasDef K mg "has_many_begins" Yl ["H"]) (B:Blt mg) (g13_:FOk P w K mg base 3 "begins_of" ["H"] XM):FOk P w K mg base 4 "has_many_begins" ["H"] ZdJ:=by
 refine D.ok Zab (fun vs H Q E h=>?_) (fun f cdv A outer s H vs Q E hr h=>?_)
 ·obtain⟨v,es,rfl,_⟩:=h;rfl
 ·obtain⟨v,es,rfl,hV,hF,k⟩:=h;refine⟨_,(Zh (Zn (YH ZaN (Zl (Zdt rfl) rfl B.sum Zep (Za (ZJ (Zg Yl) XB ["point","more"] [] rfl (Yf (Zt g13_ hr (Za (pv 0) Zd))) (fun _ _ _ _ _=>Z7 2 K rfl (Zv (Yi 0) (Zv (Yi 1) Z6))) (fun _ _ _ _ _=>ZZ) (fun _ _ _ _ _=>(pv 1))) Zd)) Zf (Zr _)))),?_⟩;refine⟨_,rfl,v,es,rfl,hV,hF,fun v' H1 ss s1 hv' hss=>?_⟩;obtain⟨b1,b2,b3⟩:=Zjd hF (f:=mo es) (fun _=>rfl) hss;obtain⟨q,us,rfl,hq,hpa⟩:=hv';refine⟨q,rfl,⟨_,SqT.of hq⟩,Zll rfl hq hpa b3 fun D1 H2 s2 hD=>?_⟩;exact⟨D1,_,rfl,SqL.of hD,b1,b2,_,_,rfl,rfl,k H2 ss (s1.trans s2) hss⟩
abbrev ZbJ:Stmt:=top 25
abbrev Zj1:List Str:=["H"]
theorem Zhb:Zm Zj1 ["H"] (Zg ZbJ):=⟨rfl,rfl,rfl,by decide +kernel,rfl,by decide +kernel,by decide +kernel⟩
def ZgU:Sp:=fun vs H Q _=>∃ (v:V) (ps:List Str) (e:Str×Int) (es:Es),vs=[v]/\Rw H v ps e es/\∀ H' (b:Bool),Same H H'->(b=true->ZpH ps/\∀ ss,SPts (e::es) ss->¬ 1<sm (ups (mo (e::es)) ss))->(b=false->∀ p,¬ ZlD ps p)->Q (.bl b) H'
theorem ZcZ (D:HasDef K mg "has_text" ZbJ ["H"]) (B:Blt mg) (g21_:FOk P w K mg base 4 "hangs" ["H"] ZdL) (g22_:FOk P w K mg base 4 "has_many_begins" ["H"] ZdJ):FOk P w K mg base 5 "has_text" ["H"] ZgU:=by
 refine D.ok Zhb (fun vs H Q E h=>?_) (fun f cdv A outer s H vs Q E hr h=>?_)
 ·obtain⟨v,ps,e,es,rfl,_⟩:=h;rfl
 ·obtain⟨v,ps,e,es,rfl,hR,k⟩:=h;refine⟨_,(Zh (Zn (Za9 (Zt g21_ hr (Za (pv 0) Zd)) (Za8 (ZhF (Zt g22_ hr (Za (pv 0) Zd))))))),?_⟩;refine⟨_,rfl,v,e,es,rfl,hR.hV,hR.hF,fun H1 b s1 hb=>⟨b,rfl,?_⟩⟩;rw[←Zkv hR.hO]at hb;refine Zff (fun c=>?_) (fun c=>k _ _ s1 (fun z=>by cases z) fun _ p z=>absurd (hb.mpr z.1) c);refine⟨_,rfl,v,e::es,rfl,(hR.same s1).hV,hR.hF,fun H2 ss s2 hS=>⟨_,rfl,k _ _ (s1.trans s2) (fun z=>⟨hb.mp c,fun ss' hS'=>?_⟩) fun z p hp=>?_⟩⟩
  ·rw[SPts.one hS' hS];simpa using z
  ·have z':1<sm (ups (mo (e::es)) ss):=by simpa using z
   obtain⟨_,z2,e',z3⟩:=hp;rcases ups_begin hR.hO hS z3 ((Xg hR.hO hS).mp z2)with q | q
   ·rw[q.2]at z';exact absurd z' (by show ¬ (1:Int)<0;decide)
   ·rw[q.2]at z';exact absurd z' (by show ¬ (1:Int)<1;decide)
abbrev Zac:Stmt:=top 33
abbrev Zh1:List Str:=["H","begins"]
theorem scStartsOf:Zm Zh1 ["H"] (Zg Zac):=⟨rfl,rfl,rfl,by decide +kernel,rfl,by decide +kernel,by decide +kernel⟩
def J0:Sp:=fun vs H Q _=>∃ (v:V) (ps:List Str) (e:Str×Int) (es:Es),vs=[v]/\Rw H v ps e es/\∀ H' v' rs,Same H H'->TupS H' v' rs->(∀ p,p∈rs↔ZlD ps p)->rs.Nodup->rs.length<=29->Q v' H'
theorem ZbZ (D:HasDef K mg "starts_of" Zac ["H"]) (B:Blt mg) (g23_:FOk P w K mg base 5 "has_text" ["H"] ZgU) (g13_:FOk P w K mg base 5 "begins_of" ["H"] XM) (g38_:FOk P w K mg base 5 "points_of" ["H"] XL):FOk P w K mg base 6 "starts_of" ["H"] J0:=by
 refine D.ok scStartsOf (fun vs H Q E h=>?_) (fun f cdv A outer s H vs Q E hr h=>?_)
 ·obtain⟨v,ps,e,es,rfl,_⟩:=h;rfl
 ·obtain⟨v,ps,e,es,rfl,hR,k⟩:=h;refine⟨_,(Ze (ZE (Z3 (ZQ (Zt g23_ hr (Za (pv 0) Zd)))) (Zh (Zn (YE Zd))) Zs)
   (Ze (Zp (i:=1) scStartsOf.nd rfl (.inl rfl) (Zt g13_ hr (Za (pv 0) Zd)))
   (Ze (ZE (Zo Yv (Zl ZC rfl B.len Ys (Za (pv 1) Zd)) Zf (Zr _)) (Zh (Zn (Zt g38_ hr (Za (pv 0) Zd)))) Zs)
   (Zh (Zn (YE (Za (Zw ix_tup (Zw ix_tup (pv 1) Zf (fun _ _=>rfl)) Zf (fun _ _=>rfl)) Zd))))))),?_⟩
  have hO:=hR.hO;refine⟨_,rfl,v,ps,e,es,rfl,hR,fun H1 b s1 hb hb0=>⟨_,rfl,?_⟩⟩;cases b with
  | false =>
   exact Ya rfl ⟨Zj (QL _),fun q hq=>k _ (.ref q) [] (s1.trans (Zb hq)) ⟨q,rfl,Zc⟩ (fun p=>Iff.intro (fun z=>(Us z).elim) (fun z=>absurd z (hb0 rfl p))) Wy (QL _)⟩
  | true =>
  refine ZM rfl ?_;refine⟨_,rfl,v,e::es,rfl,(hR.same s1).hV,hR.hF,fun v' H2 ss s2 hv' hss=>?_⟩;have s12:=s1.trans s2;obtain⟨q,us,rfl,hq,hpa⟩:=hv';obtain⟨hc,hm⟩:=hb rfl;have hm:=hm ss hss;have hbal:=ZoI hO hss hm;refine⟨_,rfl,.ref q,_,rfl,.inr ⟨_,SqT.of hq,rfl⟩,rfl,_,rfl,?_⟩;rw[hpa.1];have hbg:∀ p,ZlD ps p->(ups (mo (e::es)) ss=[])\/ups (mo (e::es)) ss=[(p,1)]:=fun p hp=>by
   obtain⟨z1,z2,e',z3⟩:=hp;rcases ups_begin hO hss z3 ((Xg hO hss).mp z2)with q | q
   ·exact .inl q.2
   ·exact .inr q.2
  rcases hbal with ⟨a1,a2⟩ | ⟨u,hu,a1,e',a2⟩
  ·rw[a1];refine Ya (by decide) ⟨_,rfl,v,e::es,rfl,(hR.same s12).hV,hR.hF,fun v3 H3 rs s3 ht hS3=>k _ _ rs (s12.trans s3) ht (fun p=>⟨fun z=>⟨hc,(Xg hO hS3).mpr z,p,a2 p⟩,fun z=>(Xg hO hS3).mp z.2.1⟩) hS3.pts.nd (hR.hn _ hS3)⟩
  ·rw[a1]at hpa ⊢;refine ZM (Xf (by show((1:Nat):Int)≠0;decide)) ?_;obtain⟨b,e1,e2⟩:=hpa.2 0 (u,1) rfl;refine⟨_,rfl,q,us,0,.ref b,rfl,rfl,SqT.of hq,YI (by decide) e1,b,_,0,.str u,rfl,rfl,SqT.of e2,rfl,Zj (show 1<=1000 by decide),fun r hr=>?_⟩;refine k _ (.ref r) [u] (s12.trans (Zb hr)) ⟨r,rfl,Zc⟩ (fun p=>⟨fun z=>?_,fun z=>?_⟩) (QW.mpr ⟨by simp,Wy⟩) (by simp)
   ·rw[Qm.mp z];exact⟨hc,(Xg hO hss).mpr hu,e',a2⟩
   ·rcases hbg p z with q | q
    ·rw[a1]at q;cases q
    ·rw[a1]at q;injection q with q1 q2
     injection q1 with q3 q4
     rw[q3];exact Qm.mpr rfl
theorem Zfg {p:Str}:∀ rs:List Str,inV (.str p) (rs.map V.str)=decide (p∈rs)
 | []=>rfl
 | r::rs=>by
  have ih:=Zfg (p:=p) rs;unfold inV at ih ⊢;rw[Qj,Uv,ih];have e:eqV (.str r) (.str p)=decide (r=p):=by
   unfold eqV;by_cases c:r=p <;> simp[c]
  rw[e,WE,Vc,decide_eq_true_iff,decide_eq_true_iff,decide_eq_true_iff,Qx];exact⟨fun h=>h.elim (fun z=>.inl z.symm) .inr,fun h=>h.elim (fun z=>.inl z.symm) .inr⟩
theorem Zit {e:Str×Int} (hO:ZU ps (e::es)):ps≠[]:=fun z=>by
 have:=(hO.mem e.1).mp (Qr.mpr ⟨e,Qd,rfl⟩);rw[z]at this;cases this
abbrev Jh:Stmt:=top 34
abbrev ZfZ:List Str:=["H","P","ends","end","orders","piece","many"]
theorem scCountFrom:Zm ZfZ ["H","P"] (Zg Jh):=⟨rfl,rfl,rfl,by decide +kernel,rfl,by decide +kernel,by decide +kernel⟩
def ZeL:Sp:=fun vs H Q _=>∃ (v:V) (ps:List Str) (e:Str×Int) (es:Es) (p:Str),vs=[v,.str p]/\Rw H v ps e es/\∀ H' (n:Int),Same H H'->IsN ps p n->Q (.int n) H'
theorem ZaT (D:HasDef K mg "count_from" Jh ["H","P"]) (B:Blt mg) (g42_:FOk P w K mg base 6 "starts_of" ["H"] J0) (g18_:FOk P w K mg base 6 "ends_of" ["H"] ZkW) (g34_:FOk P w K mg base 6 "orders_to" ["H","end"] ZnD) (g19_:FOk P w K mg base 6 "factorial" ["number"] ZlS):FOk P w K mg base 7 "count_from" ["H","P"] ZeL:=by
 refine D.ok scCountFrom (fun vs H Q E h=>?_) (fun f cdv A outer s H vs Q E hr h=>?_)
 ·obtain⟨v,ps,e,es,p,rfl,_⟩:=h;rfl
 ·obtain⟨v,ps,e,es,p,rfl,hR,k⟩:=h;have hO:=hR.hO;have hV:=hR.hV;have hF:=hR.hF;have hW:=hR.hW;have hn:=hR.hn;refine⟨_,(Ze (ZE (Zo ZcS (pv 1) (Zt g42_ hr (Za (pv 0) Zd)) rfl) (Zh (Zn Zf)) Zs)
   (Ze (Zp (i:=2) scCountFrom.nd rfl (.inl rfl) (Zt g18_ hr (Za (pv 0) Zd)))
   (Ze (Zp (i:=3) scCountFrom.nd rfl (.inl rfl) (ZeV (Zo Yv (Zl ZC rfl B.len Ys (Za (pv 2) Zd)) Zf (Zr _)) (pv 1) (Zw ix_tup (Zw ix_tup (pv 2) Zf (fun _ _=>rfl)) Zf (fun _ _=>rfl))))
   (Ze (Zp (i:=4) scCountFrom.nd rfl (.inl rfl) (Zt g34_ hr (Za (pv 0) (Za (pv 3) Zd))))
   (Ze (Z4 PassesOwn.never rfl (Yf (pv 0)) (Z7 2 K rfl (Zv (Zy (i:=5) scCountFrom.nd rfl (.inl rfl)) (Zv (Zy (i:=6) scCountFrom.nd rfl (.inl rfl)) Z6)))
    (Zh (Zp (i:=4) scCountFrom.nd rfl (.inl rfl) (Zq ZeY (pv 4) (Zt g19_ hr (Za (pv 6) Zd))))))
   (Zh (Zn (pv 4)))))))),?_⟩
  refine⟨_,rfl,_,rfl,v,ps,e,es,rfl,hR,fun H1 v1 rs s1 hT hrs _ _=>?_⟩;obtain⟨q1,rfl,hq1⟩:=hT;refine⟨q1,_,rfl,.inr (SqT.of hq1),rfl,by simp[Zcj],_,rfl,?_⟩;rw[Zfg];by_cases hst:p∈rs
  rotate_left
  ·refine Ya (by simp[hst]) ?_;refine k _ 0 s1 ⟨Ww _,fun ss0 ks _ _ _ _=>⟨fun z=>absurd z (Zit hO),fun _ _=>rfl,fun _ z=>absurd ((hrs p).mpr z) hst⟩⟩
  refine ZM (by simp[hst]) ?_;have hSt:=(hrs p).mp hst;refine⟨_,rfl,v,e::es,rfl,hV.same s1,hF,fun v' H2 ss s2 hv' hss=>?_⟩;have s12:=s1.trans s2;obtain⟨q2,us,rfl,hq2,hpa2⟩:=hv';obtain⟨ue,hue⟩:∃ ue,ups (fun y=>-mo (e::es) y) ss=ue:=⟨_,rfl⟩
  dsimp only;refine Yh (fun σ H'=>H'=H2/\σ=[some v,some (.str p),some (.ref q2),some (.str (ZkL p ue)),none,none,none]) (fun R hR=>?_) ?_
  ·refine⟨_,rfl,.ref q2,_,rfl,.inr ⟨_,SqT.of hq2,rfl⟩,rfl,_,rfl,?_⟩;rw[hpa2.1,hue];rw[hue]at hpa2;cases ue with
   | nil=>exact Ya (by decide) ⟨_,rfl,hR _ _ ⟨rfl,rfl⟩⟩
   | cons u ue =>
    refine ZM (Xf (by rw[QO];omega)) ?_;obtain⟨b,e1,e2⟩:=hpa2.2 0 u rfl;exact⟨_,rfl,q2,us,0,.ref b,rfl,rfl,SqT.of hq2,YI (by decide) e1,b,_,0,.str u.1,rfl,rfl,SqT.of e2,rfl,hR _ _ ⟨rfl,rfl⟩⟩
  rintro σ H2' ⟨rfl,rfl⟩;refine⟨_,rfl,_,rfl,v,e::es,_,rfl,hV.same s12,hF,hW,hn,fun H3 ss' s3 hS'=>?_⟩;have ess:=SPts.one hS' hss;subst ess;have s13:=s12.trans s3;obtain⟨n,hdv⟩:=Zmm (r:=ZkL p ue) hF hS';have hnn:=Zn0 hF ss' (ZkL p ue);have kk:∀ H',Same H H'->Q (.int n) H':=fun H' s'=>by
   refine k H' n s' ⟨?_,fun ss0 ks h1 h2 h3 h4=>⟨fun z=>absurd z (Zit hO),fun _ z=>absurd hSt z,fun _ _ e' hB=>?_⟩⟩
   ·rw[hdv]at hnn;have hp:=ZbR ((e::es).map fun e=>fI e.2) fun y hy=>by
     obtain⟨x,_,rfl⟩:=Qr.mp hy;exact Zdi _
    false_or_by_contra;rename_i c;have:=Int.mul_neg_of_pos_of_neg (show 0<prI ((e::es).map fun e=>fI e.2)by omega) (show n<0 by omega);omega
   ·have he:ZkL p ue=e':=by rw[←hue];exact ZlI hO hS' hB
    rw[he]at hdv;rw[←Zkg hO h3 h4,←Zn1 hO hS' h1 h2 e',hdv,WN]
  rw[hdv];clear hdv hnn hue hpa2 hq2 hrs hSt hO;have hW1:=hW.one;have hF1:=hF.many;obtain⟨q,vs,rfl,hq,hpa⟩:=hV.same s13;clear k hW hF hn hV hR;generalize e::es=fs at *;refine⟨_,rfl,q,rfl,⟨_,SqT.of hq⟩,YJ (K:=K) (a:=q) (xs:=vs) (fun i σ H4=>(∃ z5 z6:Option V,σ=[some (.ref q),some (.str p),some (.ref q2),some (.str (ZkL p ue)),some (.int (prI ((fs.drop i).map fun e=>fI e.2)*n)),z5,z6])/\Same H3 H4)
   ⟨⟨none,none,rfl⟩,Same.refl _⟩ (fun i σ H4 _ ⟨_,s4⟩=>SqT.of (s4 _ _ hq)) ?_ ?_⟩
  ·rintro i x σ H4 hi ⟨⟨z5,z6,rfl⟩,s4⟩;have hiv:i<vs.length:=(Qo.mp hi).1;have hie:i<fs.length:=by rw[←hpa.1];exact hiv
   obtain⟨b,e1,e2⟩:=hpa.2 i fs[i] (Qa hie);rw[hi]at e1;cases e1;have m1:=hW1 _ (QF hie);have m2:=(hF1 _ (QF hie)).1;rw[U5 hie];generalize fs[i]=g at *;have hp:=Zdi g.2;refine⟨b,_,rfl,SqT.of (s4 _ _ e2),rfl,_,_,rfl,_,_,rfl,rfl,_,rfl,_,rfl,_,rfl,by omega,m1,_,_,rfl,rfl,⟨by omega,(ZiH m1).big (by decide)⟩,⟨some (.str g.1),some (.int g.2),?_⟩,s4⟩;rw[Qj,Zx,Wd];dsimp only;rw[Ra _ (by omega)];rfl
  ·rintro σ H4 ⟨⟨z5,z6,rfl⟩,s4⟩;rw[hpa.1,List.drop_length];refine⟨_,rfl,?_⟩;rw[Wq,ZbS,Wi];exact kk _ (s13.trans s4)
theorem ZmO {Pr:Nat->Int->Prop}:∀ (vs:List V),(∀ (i:Nat) (v:V),vs[i]?=some v->∃ n:Int,v= .int n/\Pr i n)->∃ ns:List Int,vs=ns.map V.int/\∀ (i:Nat) (n:Int),ns[i]?=some n->Pr i n:=by
 intro vs;induction vs generalizing Pr with
 | nil=>exact fun _=>⟨[],rfl,fun i n h=>by simp at h⟩
 | cons v vs ih =>
  intro h;obtain⟨n,e,hn⟩:=h 0 v rfl;obtain⟨ns,e2,h2⟩:=ih (Pr:=fun i=>Pr (i+1)) fun i u hu=>h (i+1) u hu;refine⟨n::ns,by rw[e,e2];rfl,fun i m hm=>?_⟩;cases i with
  | zero=>cases hm;exact hn
  | succ i=>exact h2 i m hm
abbrev JR:Stmt:=top 35
abbrev Ze5:List Str:=["H"]
theorem Zhc:Zm Ze5 ["H"] (Zg JR):=⟨rfl,rfl,rfl,by decide +kernel,rfl,by decide +kernel,by decide +kernel⟩
def J2:Sp:=fun vs H Q _=>∃ (v:V) (ps:List Str) (e:Str×Int) (es:Es),vs=[v]/\Rw H v ps e es/\∀ H' (rs:List Str) (ns:List Int),Same H H'->(∀ p,p∈rs↔ZlD ps p)->rs.Nodup->ns.length=rs.length->(∀ (i:Nat) (n:Int),ns[i]?=some n->IsN ps (rs.getD i "") n)->Q (.int ns.sum) H'
theorem Zd7 (D:HasDef K mg "count_of" JR ["H"]) (B:Blt mg) (g42_:FOk P w K mg base 7 "starts_of" ["H"] J0) (g15_:FOk P w K mg base 7 "count_from" ["H","P"] ZeL):FOk P w K mg base 8 "count_of" ["H"] J2:=by
 refine D.ok Zhc (fun vs H Q E h=>?_) (fun f cdv A outer s H vs Q E hr h=>?_)
 ·obtain⟨v,ps,e,es,rfl,_⟩:=h;rfl
 ·obtain⟨v,ps,e,es,rfl,hR,k⟩:=h;refine⟨_,(Zh (Zn (Zl (X2 rfl) rfl B.sum Zep (Za (ZJ (Zg JR) Ze5 ["point"] [0] rfl (Yf (Zt g42_ hr (Za (pv 0) Zd))) (fun _ _ _ _ _=>Yi 0) (fun _ _ _ _ _=>ZZ) (fun _ _ _ _ _=>(Zt g15_ hr (Za (pv 1) (Za (pv 0) Zd))))) Zd)))),?_⟩;refine⟨_,rfl,v,ps,e,es,rfl,hR,fun H1 v1 rs s1 hT hrs hnd hrl=>?_⟩;obtain⟨q,rfl,hq⟩:=hT;refine⟨q,rfl,⟨_,SqT.of hq⟩,Xc (rs.map V.str).length (fun i=>(rs.map V.str).getD i .non) (fun i v _=>∃ n:Int,v= .int n/\IsN ps (rs.getD i "") n) (Zj (by rw[Qc];omega)) (fun _ _ _ _ _ r=>r) (Zaw (SqT.of hq)) ?_ ?_⟩
  ·intro i H3 Qe hi hs kq;have hi':i<rs.length:=by rw[Qc]at hi;exact hi
   rw[YQ hi'];refine⟨_,rfl,_,rfl,v,ps,e,es,rs[i],rfl,hR.same (s1.trans hs),fun H4 n s4 hn=>kq _ _ s4 ⟨n,rfl,?_⟩⟩;rw[Qb,Qa hi'];exact hn
  intro D1 vs1 H3 hl1 hr1 hs3 hD1 hDl1;obtain⟨ns,e1,hns⟩:=ZmO (Pr:=fun i n=>IsN ps (rs.getD i "") n) vs1 hr1;subst e1;rw[Qc,Qc]at hl1;exact⟨D1,ns,rfl,SqL.of hDl1,k _ rs ns (s1.trans hs3) hrs hnd hl1 hns⟩
theorem ZeM (x:Str):∀ ss:List Str,(ss.map fun x=>x.cps.toList).Pairwise (· < ·)->∃ tt:List Str,(tt.map fun x=>x.cps.toList).Pairwise (· < ·)/\∀ y,y∈tt↔y=x\/y∈ss
 | [],_=>⟨[x],by simp,fun y=>by simp⟩
 | z::ss,h=>by
  rw[Qj,WL]at h;obtain⟨h1,h2⟩:=h;have hz:∀ y∈ss,z.cps.toList<y.cps.toList:=fun y hy=>h1 _ (Qr.mpr ⟨y,hy,rfl⟩);by_cases a:x.cps.toList<z.cps.toList
  ·refine⟨x::z::ss,?_,fun y=>by simp⟩;rw[Qj,WL,Qj,WL];refine⟨fun c hc=>?_,h1,h2⟩;rcases Qx.mp hc with q | q
   ·rw[q];exact a
   ·exact Rx a (h1 c q)
  ·by_cases b:z.cps.toList<x.cps.toList
   ·obtain⟨tt,t1,t2⟩:=ZeM x ss h2;refine⟨z::tt,?_,fun y=>?_⟩
    ·rw[Qj,WL];refine⟨fun c hc=>?_,t1⟩;obtain⟨y,hy,rfl⟩:=Qr.mp hc;rcases(t2 y).mp hy with q | q
     ·rw[q];exact b
     ·exact hz y q
    ·rw[Qx,t2,Qx];exact⟨fun q=>q.elim (fun q=>.inr (.inl q)) (fun q=>q.elim .inl (fun q=>.inr (.inr q))),fun q=>q.elim (fun q=>.inr (.inl q)) (fun q=>q.elim .inl (fun q=>.inr (.inr q)))⟩
   ·have e:x=z:=YS (U8 (Uk.mp b) (Uk.mp a));refine⟨z::ss,?_,fun y=>?_⟩
    ·rw[Qj,WL];exact⟨h1,h2⟩
    ·rw[Qx,e];exact⟨.inr,fun q=>q.elim .inl id⟩
theorem ZdN:∀ l:List Str,∃ tt:List Str,(tt.map fun x=>x.cps.toList).Pairwise (· < ·)/\∀ y,y∈tt↔y∈l
 | []=>⟨[],by simp,fun y=>by simp⟩
 | x::l=>by
  obtain⟨ss,h1,h2⟩:=ZdN l;obtain⟨tt,t1,t2⟩:=ZeM x ss h1;exact⟨tt,t1,fun y=>by rw[t2,h2,Qx]⟩
theorem Zny {tt:List Str} (h:(tt.map fun x=>x.cps.toList).Pairwise (· < ·)):tt.Nodup:=by
 rw[WY];refine List.Pairwise.imp ?_ (We.mp h);intro x y hxy e;rw[e]at hxy;exact Uc _ hxy
structure RowOk (ps:List Str):Prop where
 len:ps.length<=30
 one:∀ x∈ps,(1<=x.length/\x.length<=1000)/\PyData.strOk x=true
 pts:∀ l:List Str,l.Nodup->(∀ y∈l,inP ps y=true)->l.length<=29
 same:∃ L:Nat,1<=L/\L<=63/\∀ x∈ps,x.length=L
theorem Zkc {qs:List Str} (h:∀ x∈qs,x∈ps) (k:inP qs y=true):inP ps y=true:=by
 obtain⟨x,hx,q⟩:=inP_iff.mp k;exact inP_iff.mpr ⟨x,h x hx,q⟩
theorem RowOk.sub {qs:List Str} (h:RowOk ps) (hs:∀ x∈qs,x∈ps) (hl:qs.length<=ps.length):RowOk qs:=⟨Q7 hl h.len,fun x hx=>h.one x (hs x hx),fun l nd hi=>h.pts l nd fun y hy=>Zkc hs (hi y hy),h.same.imp fun L q=>⟨q.1,q.2.1,fun x hx=>q.2.2 x (hs x hx)⟩⟩
theorem ZnL (hR:RowOk ps) (hne:ps≠[]) (hA:HpAt H v hp) (hO:ZU ps hp):∃ e es,hp=e::es/\Rw H v ps e es:=by
 have hlen:=Zkh hO;have hl:=hR.len;cases hp with
 | nil =>
  cases ps with
  | nil=>exact absurd rfl hne
  | cons x ps=>exact absurd ((hO.mem x).mpr Qd) (by simp)
 | cons e es =>
  refine⟨e,es,rfl,Zki hA,hO,⟨by omega,fun g hg=>?_,fun g hg=>?_⟩,Zow hO hl,fun ss hS=>hR.pts ss hS.pts.nd fun y hy=>(Xg hO hS).mpr hy⟩
  ·have h1:=hO.cnt g hg;have h2:=Ru (a:=g.1) (l:=ps);omega
  ·exact(hR.one _ ((hO.mem g.1).mp (Qr.mpr ⟨g,hg,rfl⟩))).1
theorem ZlR (ps:List Str):∃ ss0 ks:List Str,(ss0.map fun x=>x.cps.toList).Pairwise (· < ·)/\(∀ y,inP ps y=true->y∈ss0)/\ks.Nodup/\∀ x∈ps,x∈ks:=by
 obtain⟨ss0,t1,t2⟩:=ZdN (ps.map bg++ps.map en);obtain⟨ks,u1,u2⟩:=ZdN ps;refine⟨ss0,ks,t1,fun y hy=>?_,Zny u1,fun x hx=>(u2 x).mpr hx⟩;obtain⟨x,hx,q⟩:=inP_iff.mp hy;rw[t2,QI,Qr,Qr];exact q.elim (fun q=>.inl ⟨x,hx,q⟩) (fun q=>.inr ⟨x,hx,q⟩)
theorem ZmM {P:Str} {n m:Int} (h:IsN ps P n) (k:IsN ps P m):n=m:=by
 obtain⟨ss0,ks,t1,t2,t3,t4⟩:=ZlR ps;obtain⟨a1,a2,a3⟩:=h.2 ss0 ks t1 t2 t3 t4;obtain⟨b1,b2,b3⟩:=k.2 ss0 ks t1 t2 t3 t4;by_cases c:ps=[]
 ·rw[a1 c,b1 c]
 by_cases d:ZlD ps P
 ·obtain⟨_,_,e,hB⟩:=id d;have hp:=Zmb ks ps;exact Int.eq_of_mul_eq_mul_right (by omega) ((a3 c d e hB).trans (b3 c d e hB).symm)
 ·rw[a2 c d,b2 c d]
theorem cut_from {j:Nat} (h:j<=ps.length):Zfs (ps.map V.str) (some (j:Int)) none=(ps.drop j).map V.str:=by
 unfold Zfs;have h1:HT.sIx (ps.map V.str).length 0 (some (j:Int))=j:=by
  rw[HT.sIx_nat,Qc];exact UT h
 have h2:HT.sIx (ps.map V.str).length (ps.map V.str).length none=(ps.map V.str).length:=rfl;rw[h1,h2,Q6 (by rw[Wh];exact Qi _),Vl]
abbrev ZbH:Stmt:=top 50
abbrev ZdU:Stmt:=top 51
abbrev ZbI:Stmt:=top 52
theorem Zha:Zm ["thing"] ["thing"] (Zg ZbH):=⟨rfl,rfl,rfl,by decide +kernel,rfl,by decide +kernel,by decide +kernel⟩
theorem Zd6 (D:HasDef K mg "is_whole" ZbH ["thing"]) (B:Blt mg):FOk P w K mg base 1 "is_whole" ["thing"] Jc:=by
 refine D.ok Zha (fun vs H Q E h=>?_) (fun f cdv A outer s H vs Q E hr h=>?_)
 ·obtain⟨x,n,rfl,_⟩:=h;rfl
 ·obtain⟨x,n,rfl,ty,k⟩:=h;refine⟨_,Zh (Zn (Za9 (Zl Yc rfl B.isi X4 (Za (pv 0) (Za (ZaL rfl B.int Zkz) Zd)))
   (Za8 (ZhF (Zl Yc rfl B.isi X4 (Za (pv 0) (Za (ZaL rfl B.bool Zlz) Zd))))))),?_⟩
  refine⟨_,rfl,x,"int",n,rfl,by decide,ty,_,rfl,?_⟩;refine Zff (fun e=>?_) (fun e=>?_)
  ·refine⟨_,rfl,x,"bool",n,rfl,by decide,ty,_,rfl,?_⟩;rw[(Zcb n ty.mem).1 e];exact k
  ·rw[(Zcb n ty.mem).2 e]at k;exact k
def ZT:V->Bool
 | .int i=>decide (1<=i)&&decide (i<=300)
 | _=>false
def ZgP:Sp:=fun vs H Q _=>∃ (x:V) (n:String),vs=[x]/\TyB H x n/\Q (.bl (ZT x)) H
theorem Zjw:Zm ["thing"] ["thing"] (Zg ZdU):=⟨rfl,rfl,rfl,by decide +kernel,rfl,by decide +kernel,by decide +kernel⟩
theorem ZfU (D:HasDef K mg "is_long" ZdU ["thing"]) (B:Blt mg) (G1:FOk P w K mg base 1 "is_whole" ["thing"] Jc):FOk P w K mg base 2 "is_long" ["thing"] ZgP:=by
 refine D.ok Zjw (fun vs H Q E h=>?_) (fun f cdv A outer s H vs Q E hr h=>?_)
 ·obtain⟨x,n,rfl,_⟩:=h;rfl
 ·obtain⟨x,n,rfl,ty,k⟩:=h;obtain⟨t3,m3⟩:=B.most;refine⟨_,Zh (Zn (Za9 (Zt G1 hr (Za (pv 0) Zd))
   (Za8 (ZjJ Zn2 Zn2 Zf (pv 0) (Yj (v:=.int 300) rfl m3 ⟨_,rfl⟩))))),?_⟩
  refine⟨_,rfl,x,n,rfl,ty,_,rfl,?_⟩;refine Zff (fun e=>?_) (fun e=>?_)
  ·cases ty with
   | int i =>
    refine⟨_,rfl,_,_,rfl,rfl,_,rfl,?_⟩;refine Zff (fun e1=>?_) (fun e1=>?_)
    ·refine⟨_,_,rfl,rfl,?_⟩;show Q (.bl (decide (i<=300))) H;have:(ZT (.int i))=decide (i<=300):=by simp only[ZT];rw[e1];rfl
     rw[←this];exact k
    ·have:(ZT (.int i))=false:=by simp only[ZT];rw[RS.mpr e1];rfl
     rw[this]at k;exact k
   | _=>exact absurd e (by decide)
  ·have:ZT x=false:=by
    cases ty with
    | int i=>exact absurd rfl e
    | _=>rfl
   rw[this]at k;exact k
def ZI (c:Nat):Bool:=decide (97<=c)&&decide (c<=122)
def YB:V->Bool
 | .str z=>ZT (.int z.length)&&z.cps.toList.all ZI
 | _=>false
theorem Zan (c:Nat):decide (c∈(("abcdefghijklmnopqrstuvwxyz" : Str)).cps.toList)=ZI c:=by
 rw[JA,WE];simp only[decide_eq_true_eq,Qr,QM,ZI,QP];constructor
 ·rintro⟨a,h,rfl⟩;omega
 ·rintro⟨h1,h2⟩;exact⟨c-97,by omega,by omega⟩
def ZkN:Sp:=fun vs H Q _=>∃ (x:V) (n:String),vs=[x]/\TyB H x n/\(∀ z,x= .str z->z.length<=sizeLine)/\∀ H',Same H H'->Q (.bl (YB x)) H'
theorem Zjv:Zm ["thing"] ["thing"] (Zg ZbI):=⟨rfl,rfl,rfl,by decide +kernel,rfl,by decide +kernel,by decide +kernel⟩
theorem ZfT (D:HasDef K mg "is_text" ZbI ["thing"]) (B:Blt mg) (G1:FOk P w K mg base 2 "is_long" ["thing"] ZgP):FOk P w K mg base 3 "is_text" ["thing"] ZkN:=by
 refine D.ok Zjv (fun vs H Q E h=>?_) (fun f cdv A outer s H vs Q E hr h=>?_)
 ·obtain⟨x,n,rfl,_⟩:=h;rfl
 ·obtain⟨x,n,rfl,ty,hz,k⟩:=h;obtain⟨t3,m3⟩:=B.letters;refine⟨_,Ze (ZE (PW.pt (Zae (Z3 (ZQ (Zl Yc rfl B.isi X4 (Za (pv 0) (Za (ZaL rfl B.str Zm5) Zd)))))
    (Jw (Z3 (ZQ (Zt G1 hr (Za (Zl ZC rfl B.len Ys (Za (pv 0) Zd)) Zd))))))) (Zh (Zn Ym)) Zs)
   (Zh (Zn (Zl (Zi1 rfl) rfl B.all ZpB (Za (ZJ (Zg ZbI) ["thing"] ["sign"] [] rfl (Zk7 (pv 0)) (fun _ _ _ _ _=>Yi 0) (fun _ _ _ _ _=>ZZ)
    (fun _ _ _ _ _=>YH ZhO (pv 0) (Yj (v:=.str _) rfl m3 ⟨_,rfl⟩) rfl)) Zd)))),?_⟩
  refine⟨_,rfl,x,"str",n,rfl,by decide,ty,_,rfl,?_⟩;cases hb:ZmL n "str" with
  | false =>
   have e:YB x=false:=by
    cases ty with
    | str z=>exact absurd hb (by decide)
    | _=>rfl
   refine ZmK (ZmK ?_);rw[←e];exact k H (Same.refl H)
  | true =>
   cases ty with
   | str z =>
    have hz':=hz z rfl;refine Zka ?_;refine⟨_,rfl,.str z,z.length,rfl,⟨hz',rfl⟩,.int z.length,"int",rfl,.int _,_,rfl,?_⟩;cases hl:ZT (.int z.length)with
    | false =>
     refine ZmK ?_;have e:YB (.str z)=false:=by simp only[YB,hl,UY]
     rw[←e];exact k H (Same.refl H)
    | true =>
     refine Zka ?_;refine⟨.str z,rfl,z,rfl,Xc z.cps.size (fun i=>.str ⟨#[z.cps.getD i 0]⟩) (fun i v _=>v= .bl (ZI (z.cps.getD i 0))) hz' (fun _ _ _ _ _ r=>r) Zln ?_ ?_⟩
     ·intro i H1 Qe hi hs kq;refine⟨_,rfl,_,_,rfl,rfl,kq _ _ (Same.refl _) ?_⟩;exact congrArg V.bl ((ZpK _ _).trans (Zan _))
     ·intro D vs H' hlv hr hs hD hDl;have e:=Zew (f:=fun i=>V.bl (ZI (z.cps.getD i 0))) hlv hr;have e2:(Qs z.cps.size).map (fun i=>ZI (z.cps.getD i 0))=z.cps.toList.map ZI:=by
       have q:=congrArg (List.map ZI) (Zf8 z.cps.toList);rw[QV]at q;rw[←q];simp[Function.comp_def,QQ,Qb]
      refine⟨D,z.cps.toList.map ZI,rfl,SqL.of ?_,?_⟩
      ·rw[hDl,e,←e2,QV];rfl
      ·have e3:YB (.str z)=(z.cps.toList.map ZI).all id:=by
        simp only[YB,hl,Rz,List.all_map];rfl
       rw[←e3];exact k H' hs
   | _=>exact absurd hb (by decide)
abbrev Zl2:Stmt:=top 53
def ZkT:Sp:=fun vs H Q _=>∃ l:Int,vs=[.int l]/\Q (.int (300+1-l)) H
theorem ZnI:Zm ["long"] ["long"] (Zg Zl2):=⟨rfl,rfl,rfl,by decide +kernel,rfl,by decide +kernel,by decide +kernel⟩
theorem Zmp (D:HasDef K mg "most_pieces" Zl2 ["long"]) (B:Blt mg):FOk P w K mg base 1 "most_pieces" ["long"] ZkT:=by
 refine D.ok ZnI (fun vs H Q E h=>?_) (fun f cdv A outer s H vs Q E hr h=>?_)
 ·obtain⟨l,rfl,_⟩:=h;rfl
 ·obtain⟨l,rfl,k⟩:=h;obtain⟨t3,m3⟩:=B.most;refine⟨_,Zh (Zn (Zq Xa (Zq ZS (Yj (v:=.int 300) rfl m3 ⟨_,rfl⟩) Zf) (pv 0))),?_⟩;exact⟨_,_,rfl,rfl,_,rfl,_,_,rfl,rfl,k⟩
structure IsHp (hp:List Pr) (L:Nat):Prop where
 ne:hp≠[]
 lo:1<=L
 hi:L<=300
 len:∀ p∈hp,p.1.length=L
 sg:∀ p∈hp,p.1.cps.toList.all ZI=true
 pos:∀ p∈hp,1<=p.2
 srt:(hp.map fun p=>p.1.cps.toList).Pairwise (· < ·)
 sum:(hp.map (·.2)).sum+L<=301
theorem Jl:∀ hp:List Pr,(∀ p∈hp,1<=p.2)->(hp.length:Int)<=(hp.map (·.2)).sum
 | [],_=>by simp
 | p::r,h=>by
  have h1:=Jl r fun q hq=>h q (Qg _ hq);have h2:=h p Qd;rw[Qj,Qy,QO];omega
theorem Zlj:∀ hp:List Pr,(∀ p∈hp,1<=p.2)->∀ p∈hp,p.2<=(hp.map (·.2)).sum
 | [],_,p,hp=>by cases hp
 | q::r,h,p,hp=>by
  have h2:=h q Qd;have h4:=Jl r fun z hz=>h z (Qg _ hz);rw[Qj,Qy];rcases Qx.mp hp with e | e
  ·subst e;omega
  ·have h3:=Zlj r (fun z hz=>h z (Qg _ hz)) p e;omega
section
variable {hp:List Pr} {L:Nat}
theorem IsHp.few (h:IsHp hp L):hp.length<=300:=by
 have h1:=Jl hp h.pos;have h2:=h.sum;have h3:=h.lo;omega
theorem IsHp.many (h:IsHp hp L):∀ p∈hp,p.2<=300:=fun p m=>by
 have h1:=Zlj hp h.pos p m;have h2:=h.sum;have h3:=h.lo;omega
end
end Sh
namespace L2
open PySem PySem.Spec PyProof.Rows
end L2
namespace Sh
open PySem L2 PyProof.Rows
seal L2.PE L2.PS L2.PSs L2.PT L2.PW L2.PA L2.PI L2.PG L2.PGs L2.PO L2.PC L2.PCs L2.OpR L2.UnR L2.CallR L2.MtR L2.IxR L2.SlR
variable {P:Program} {w:World} {K:PySem.W.Frag} {mg:Str->Option Value} {base:Heap}
end Sh
namespace L2
open PySem PySem.Spec PyProof.Rows
end L2
namespace Sh
open PySem L2 PyProof.Rows
seal L2.PE L2.PS L2.PSs L2.PT L2.PW L2.PA L2.PI L2.PG L2.PGs L2.PO L2.PC L2.PCs L2.OpR L2.UnR L2.CallR L2.MtR L2.IxR L2.SlR
variable {P:Program} {w:World} {K:PySem.W.Frag} {mg:Str->Option Value} {base:Heap}
end Sh
namespace L2
open PySem PySem.Spec PyProof.Rows
end L2
namespace Sh
open PySem L2 PyProof.Rows
seal L2.PE L2.PS L2.PSs L2.PT L2.PW L2.PA L2.PI L2.PG L2.PGs L2.PO L2.PC L2.PCs L2.OpR L2.UnR L2.CallR L2.MtR L2.IxR L2.SlR
variable {P:Program} {w:World} {K:PySem.W.Frag} {mg:Str->Option Value} {base:Heap}
variable {B G:List Nat} {H H2 H4:Hp} {adr:Str->Addr} {bk d:Addr} {ks:List Str} {r:Str->List Nat}
abbrev ZdV:Stmt:=top 54
abbrev Zmy:List Str:=["manys"]
theorem Zjx:Zm Zmy ["manys"] (Zg ZdV):=⟨rfl,rfl,rfl,by decide +kernel,rfl,by decide +kernel,by decide +kernel⟩
def ZkP:Sp:=fun vs H Q _=>∃ (d:Addr) (ks:List Str) (g:Str->Int),vs=[.ref d]/\H d=some (.dK (ks.map fun x=>((Sum.inr x:Key),V.int (g x))))/\ks.Nodup/\ks.length<64 /\
 ∀ v H' (ss:List Str),Same H H'->ss.Perm ks->(ss.map fun x=>x.cps.toList).Pairwise (· < ·)->HpAt H' v (ss.map fun x=>(x,g x))->Q v H'
theorem ZfV (D:HasDef K mg "in_rows" ZdV ["manys"]) (B:Blt mg):FOk P w K mg base 1 "in_rows" ["manys"] ZkP:=by
 refine D.ok Zjx (fun vs H Q E h=>?_) (fun f cdv A outer s H vs Q E hr h=>?_)
 ·obtain⟨d,ks,g,rfl,_⟩:=h;rfl
 ·obtain⟨d,ks,g,rfl,hd,nd,h64,k⟩:=h;refine⟨_,(Zh (Zn (ZA ZB rfl B.tuple Yr (Za (Zl (Xi rfl) rfl B.sorted YZ (Za (ZbU (pv 0)) Zd)) Zd)))),?_⟩;refine⟨_,rfl,d,_,rfl,hd,fun p hp=>⟨p,d,ks,fun x=>.int (g x),rfl,Zc,Zb hp _ _ hd,nd,h64,fun D1 H1 vs ss hs1 hperm hsrt hD1 hl hv=>?_⟩⟩;refine⟨D1,vs,rfl,.inl ⟨SqL.of hD1,fun l hl0=>?_⟩⟩;refine k _ _ ss (((Zb hp).trans hs1).trans (Zb hl0)) hperm hsrt ⟨l,vs,rfl,Zc,by rw[Qc];exact hl,fun i q e=>?_⟩;rw[Qk]at e;cases ex:ss[i]? with
  | none=>rw[ex]at e;cases e
  | some x =>
   rw[ex]at e;cases e;obtain⟨b,e1,e2⟩:=hv i x ex;rw[Qb,e1];exact⟨b,rfl,Zb hl0 _ _ e2⟩
theorem ZjM (cs:List Nat) (h:cs.length<=1000):(((cs.map fun c=>tx [c]).map fun x=>x.length).sum)+(cs.map fun c=>tx [c]).length*("" : Str).length<=16777216:=by
 have e0:("" : Str).length=0:=rfl;have es:((cs.map fun c=>tx [c]).map fun x=>x.length).sum<=(cs.map fun c=>tx [c]).length*1:=ZaZ _ 1 fun y hy=>by
  obtain⟨c,_,rfl⟩:=Qr.mp hy;rw[Z1];exact Qi _
 rw[e0,Nat.mul_zero];rw[Qc]at es;omega
abbrev nV (i:Nat):V:=V.int (i:Int)
def ZpD (H:Hp) (b:Addr) (t:Str×Str):Prop:=∃ s:Str,H b=some (.tup [.str t.1,.str s,.str t.2])
def TyA (H:Hp) (vs:List V) (ts:Ts):Prop:=vs.length=ts.length/\∀ (i:Nat) (t:Str×Str),ts[i]?=some t->∃ b,vs[i]?=some (.ref b)/\ZpD H b t
def TiesV (H:Hp) (v:V) (ts:Ts):Prop:=∃ a vs,v= .ref a/\SeqAt' H a vs/\TyA H vs ts
theorem TyA.same {H':Hp} {vs:List V} {ts:Ts} (h:TyA H vs ts) (s:Same H H'):TyA H' vs ts:=⟨h.1,fun i t e=>by
 obtain⟨b,e1,m,e2⟩:=h.2 i t e;exact⟨b,e1,m,s _ _ e2⟩⟩
theorem TiesV.same {H':Hp} {v:V} {ts:Ts} (h:TiesV H v ts) (s:Same H H'):TiesV H' v ts:=by
 obtain⟨a,vs,e,h1,h2⟩:=h;exact⟨a,vs,e,h1.same s,h2.same s⟩
theorem TyA.at {vs:List V} {ts:Ts} (h:TyA H vs ts) {i:Nat} (hi:i<ts.length):∃ b s,atI vs (i:Int)=some (.ref b)/\H b=some (.tup [.str (frm ts i),.str s,.str (tow ts i)]):=by
 obtain⟨b,e1,s,e2⟩:=h.2 i ts[i] (Qa hi);refine⟨b,s,Zfz e1,?_⟩;unfold frm tow;rw[Qb,Qa hi];exact e2
theorem Zi5 {xs:List V} {v:V}:atI (xs++[v]) (-1)=some v:=by
 unfold atI ixN;rw[if_neg (by decide),if_pos (by rw[Qp,QA];omega)];simp only[R7,Qp,QA];rw[show((-1:Int)+((xs.length+1:Nat):Int)).toNat=xs.length by omega];simp
structure NJ (H H2:Hp) (d:Addr) (ks:List Str) (adr:Str->Addr) (r:Str->List Nat):Prop where
 sm:Same H H2
 dn:H d=none
 dd:H2 d=some (.dK (rD ks adr))
 nd:ks.Nodup
 row:∀ P∈ks,H2 (adr P)=some (.lst ((r P).map nV))
 fresh:∀ P∈ks,H (adr P)=none
 inj:∀ P∈ks,∀ P'∈ks,adr P=adr P'->P=P'
 out:∀ P,P∉ks->r P=[]
def ZlC (r:Str->List Nat) (P:Str) (y:Nat):Str->List Nat:=fun x=>if x=P then r P++[y]else r x
theorem NJ.ne (J:NJ H H2 d ks adr r) {P:Str} (hP:P∈ks):adr P≠d:=fun e=>by
 have:=J.row P hP;rw[e,J.dd]at this;cases this
theorem NJ.old {p:Addr} (J:NJ H H2 d ks adr r) {P:Str} {y:Nat} (hP:P∈ks) (hp:H2 p=none) :
  NJ H (upd (upd H2 p (.lst [])) (adr P) (.lst ((r P).map nV++[nV y]))) d (Y2 ks P) adr (ZlC r P y):=by
 have ek:Y2 ks P=ks:=by unfold Y2;rw[if_pos hP]
 rw[ek];have s1:=Zb (o:=.lst []) hp;refine⟨fun b u hb=>?_,J.dn,?_,J.nd,fun Q hQ=>?_,J.fresh,J.inj,fun Q hQ=>?_⟩
 ·rw[Zi fun e=>by rw[e,J.fresh P hP]at hb;cases hb];exact s1 _ _ (J.sm b u hb)
 ·rw[Zi (Ne.symm (J.ne hP))];exact s1 _ _ J.dd
 ·unfold ZlC;by_cases c:Q=P
  ·subst c;rw[Zc,if_pos rfl,QG];rfl
  ·rw[if_neg c,Zi fun e=>c (J.inj Q hQ P hP e)];exact s1 _ _ (J.row Q hQ)
 ·unfold ZlC;rw[if_neg (fun e:Q=P=>hQ (e▸hP))];exact J.out Q hQ
theorem NJ.new {p:Addr} (J:NJ H H2 d ks adr r) {P:Str} {y:Nat} (hP:P∉ks) (hp:H2 p=none) :
  NJ H (upd (upd (upd H2 p (.lst [])) d (.dK (rD (ks++[P]) fun x=>if x=P then p else adr x))) p (.lst ([]++[nV y]))) d (Y2 ks P) (fun x=>if x=P then p else adr x) (ZlC r P y):=by
 have ek:Y2 ks P=ks++[P]:=by unfold Y2;rw[if_neg hP]
 rw[ek];have hpd:d≠p:=fun e=>by rw[←e,J.dd]at hp;cases hp
 have hpa:∀ Q∈ks,adr Q≠p:=fun Q hQ e=>by have:=J.row Q hQ;rw[e,hp]at this;cases this
 have mm:∀ Q,Q∈ks++[P]->Q∈ks\/Q=P:=fun Q h=>by simpa using h
 refine⟨fun b u hb=>?_,J.dn,?_,?_,fun Q hQ=>?_,fun Q hQ=>?_,fun Q hQ Q' hQ' e=>?_,fun Q hQ=>?_⟩
 ·have h2:=J.sm b u hb;rw[Zi (Zk h2 hp),Zi (Zk hb J.dn),Zi (Zk h2 hp)];exact h2
 ·rw[Zi hpd,Zc]
 ·exact Wb.mpr ⟨J.nd,by simp,fun a ha b hb e=>by rw[Qm.mp hb]at e;subst e;exact hP ha⟩
 ·unfold ZlC;by_cases c:Q=P
  ·subst c;rw[if_pos rfl,if_pos rfl,Zc,J.out Q hP];rfl
  ·rw[if_neg c,if_neg c];have hQ':Q∈ks:=(mm Q hQ).resolve_right c;rw[Zi (hpa Q hQ'),Zi (J.ne hQ'),Zi (hpa Q hQ')];exact J.row Q hQ'
 ·skip
  by_cases c:Q=P
  ·rw[if_pos c];cases hh:H p with
   | none=>rfl
   | some u=>have:=J.sm p u hh;rw[hp]at this;cases this
  ·rw[if_neg c];exact J.fresh Q ((mm Q hQ).resolve_right c)
 ·skip
  by_cases c:Q=P
  ·by_cases c':Q'=P
   ·rw[c,c']
   ·rw[if_pos c,if_neg c']at e;exact absurd e.symm (hpa Q' ((mm Q' hQ').resolve_right c'))
  ·by_cases c':Q'=P
   ·rw[if_neg c,if_pos c']at e;exact absurd e (hpa Q ((mm Q hQ).resolve_right c))
   ·rw[if_neg c,if_neg c']at e;exact J.inj Q ((mm Q hQ).resolve_right c) Q' ((mm Q' hQ').resolve_right c') e
 ·have h1:Q∉ks:=fun z=>hQ (QS _ z);have h2:¬ Q=P:=fun z=>hQ (by simp[z]);unfold ZlC;rw[if_neg h2];exact J.out Q h1
def NoR (H:Hp) (v:V) (d:Addr) (ts:Ts) (j:Nat):L2.St->Hp->Prop:=fun σ H2=>(∃ z2:Option V,σ=[some v,some (.ref d),z2])/\∃ ks adr r,NJ H H2 d ks adr r/\ks.length<=j/\∀ P,r P=((Wx (ts.length-j) j).filter fun i=>decide (frm ts i=P)).reverse
abbrev XE:Stmt:=top 19
abbrev Zec:List Str:=["ties","numbers","number"]
theorem scNumbersOut:Zm Zec ["ties"] (Zg XE):=⟨rfl,rfl,rfl,by decide +kernel,rfl,by decide +kernel,by decide +kernel⟩
def ZnC:Sp:=fun vs H Q _=>∃ (v:V) (ts:Ts),vs=[v]/\TiesV H v ts/\ts.length<=400/\∀ d H' ks adr,NJ H H' d ks adr (rows ts)->Q (.ref d) H'
theorem ZaR (D:HasDef K mg "numbers_out" XE ["ties"]) (B:Blt mg):FOk P w K mg base 1 "numbers_out" ["ties"] ZnC:=by
 refine D.ok scNumbersOut (fun vs H Q E h=>?_) (fun f cdv A outer s H vs Q E hr h=>?_)
 ·obtain⟨v,ts,rfl,_⟩:=h;rfl
 ·obtain⟨v,ts,rfl,hV,hlen,k⟩:=h;obtain⟨a,vs,rfl,hs,hty⟩:=id hV;refine⟨_,(Ze (Zp (i:=1) scNumbersOut.nd rfl (.inl rfl) YW)
   (Ze (Z4 PassesOwn.never rfl (ZhD rfl B.range (Za (Zq Xa (Zl ZC rfl B.len Ys (Za (pv 0) Zd)) Zf) (Za (XG Yx Zf) (Za (XG Yx Zf) Zd)))) (Zy (i:=2) scNumbersOut.nd rfl (.inl rfl))
    (Zh (ZW (ZbV F.plainAttrs_list F.slot_list_append F.type_list_append Yk (ZdY (pv 1) (Zw ix_tup (Zw (Zax K) (pv 0) (pv 2) (fun _ _=>rfl)) Zf (fun _ _=>rfl)) (ZR Zd) ⟨rfl,rfl,rfl,rfl⟩) (Za (pv 2) Zd)))))
   (Zh (Zn (pv 1))))),?_⟩
  intro d hd;have s1:=Zb (o:=.dK []) hd;have hvl:=hty.1;refine⟨_,rfl,.ref a,_,rfl,Zid (hs.same s1),_,_,rfl,rfl,_,rfl,_,rfl,_,_,rfl,⟨by omega,by omega,by decide,by decide⟩,?_⟩;rw[show((vs.length:Int)-1-(-1)).toNat=ts.length by omega];refine Zf9 (fun j σ H2=>NoR H (.ref a) d ts j σ H2) ⟨⟨none,rfl⟩,[],fun _=>d,fun _=>[],⟨s1,hd,Zc,Wy,(fun P h=>by cases h),(fun P h=>by cases h),(fun P h=>by cases h),fun _ _=>rfl⟩,Qi _,fun P=>by simp⟩ ?_ ?_
  ·rintro j σ H2 hj ⟨⟨z2,rfl⟩,ks,adr,r,J,hkl,hr2⟩;have hi:ts.length-1-j<ts.length:=by omega
   obtain⟨b,sg,e1,e2⟩:=hty.at hi;have ej:((vs.length:Int)-1-(j:Int))=((ts.length-1-j:Nat):Int):=by omega
   have hrl:∀ P,(r P).length<=j:=fun P=>by
    rw[hr2,UX];have:=Q5 (fun i=>decide (frm ts i=P)) (Wx (ts.length-j) j);rw[List.length_range']at this;exact this
   have eR:Wx (ts.length-(j+1)) (j+1)=(ts.length-1-j)::Wx (ts.length-j) j:=by
    rw[R5,show ts.length-(j+1)=ts.length-1-j by omega,show ts.length-1-j+1=ts.length-j by omega]
   have fin:∀ H4 adr4,NJ H H4 d (Y2 ks (frm ts (ts.length-1-j))) adr4 (ZlC r (frm ts (ts.length-1-j)) (ts.length-1-j))->NoR H (.ref a) d ts (j+1) [some (.ref a),some (.ref d),some (.int ((vs.length:Int)-1-(j:Int)))] H4:=fun H4 adr4 J4=>by
    refine⟨⟨_,rfl⟩,_,adr4,_,J4,?_,fun P=>?_⟩
    ·have:=Y0 ks (frm ts (ts.length-1-j));omega
    ·rw[eR,Ue];unfold ZlC;by_cases c:P=frm ts (ts.length-1-j)
     ·rw[if_pos c,if_pos (decide_eq_true c.symm),U4,←c,hr2]
     ·rw[if_neg c,if_neg (fun z=>c (of_decide_eq_true z).symm),hr2]
   refine⟨_,rfl,d,rfl,.inl ⟨_,.inl J.dd⟩,_,rfl,_,rfl,?_⟩;rw[ej];refine ZcJ ((hs.same J.sm)) e1 ⟨b,_,0,.str (frm ts (ts.length-1-j)),rfl,rfl,SqT.of (J.sm _ _ e2),rfl,Zj (show 0<=1000 by decide),fun p hp=>?_⟩;rw[←ej];refine⟨_,Sum.inr (frm ts (ts.length-1-j)),Zb hp _ _ J.dd,rfl,by rw[Zht];exact Zz (by omega),fun v hv=>?_,fun hv=>?_⟩
   ·rw[Jv]at hv;by_cases c:frm ts (ts.length-1-j)∈ks
    ·rw[if_pos c]at hv;cases hv;have hrow:=Zb (o:=.lst []) hp _ _ (J.row _ c);refine⟨.inl ⟨rfl,_,SqL.of hrow⟩,_,rfl,adr _,_,.int ((vs.length:Int)-1-(j:Int)),rfl,rfl,hrow,?_,?_⟩
     ·rw[Qc];have:=hrl (frm ts (ts.length-1-j));exact Zz (by omega)
     ·have:=fin _ _ (J.old (y:=ts.length-1-j) c hp);rw[ej]at this ⊢;exact this
    ·rw[if_neg c]at hv;cases hv
   ·rw[Jv]at hv;by_cases c:frm ts (ts.length-1-j)∈ks
    ·rw[if_pos c]at hv;cases hv
    ·have hpd:p≠d:=fun e=>by rw[e,J.dd]at hp;cases hp
     rw[Zk3 c];have hl:(upd (upd H2 p (.lst [])) d (.dK (rD (ks++[frm ts (ts.length-1-j)]) fun x=>if x=frm ts (ts.length-1-j)then p else adr x))) p=some (.lst []):=by rw[Zi hpd,Zc]
     refine⟨.inl ⟨rfl,_,SqL.of hl⟩,_,rfl,p,[],.int ((vs.length:Int)-1-(j:Int)),rfl,rfl,hl,Zz (by decide),?_⟩;have:=fin _ _ (J.new (y:=ts.length-1-j) c hp);rw[ej]at this ⊢;exact this
  ·rintro σ H2 ⟨⟨z2,rfl⟩,ks,adr,r,J,hkl,hr2⟩;have er:r=rows ts:=funext fun P=>by
    rw[hr2,Ur];unfold rows;rw[UR]
   rw[er]at J;exact⟨_,rfl,k d H2 ks adr J⟩
def ZoL (H:Hp) (v:V) (X:List Nat):Prop:=∃ q,v= .ref q/\H q=some (.tup (X.map nV))
theorem Zlx {ts:Ts} {u:Str}:∀ {Y X:List Nat},(∃ v,Ch ts u (X++Y) v)->∃ v,Ch ts u X v
 | [],X,h=>by rw[Re]at h;exact h
 | y::Y,X,h=>by
  rw[show X++y::Y=(X++[y])++Y by simp]at h;obtain⟨v,h⟩:=Zlx (Y:=Y) h;exact⟨_,h.pop.1⟩
theorem Ch.det {ts:Ts} {u v w:Str} {X:List Nat} (h:Ch ts u X v) (h':Ch ts u X w):v=w:=by
 induction h with
 | nil u=>cases h';rfl
 | cons e h ih=>cases h' with | cons e' h'=>exact ih h'
abbrev Zhk:Stmt:=top 20
abbrev Zoe:List Str:=["ties","begin","numbers","point","number"]
theorem scIsWay:Zm Zoe ["ties","begin","numbers"] (Zg Zhk):=⟨rfl,rfl,rfl,by decide +kernel,rfl,by decide +kernel,by decide +kernel⟩
def ZgS:Sp:=fun vs H Q _=>∃ (v x:V) (b:Str) (ts:Ts) (X:List Nat),vs=[v,.str b,x]/\TiesV H v ts/\ZoL H x X/\(∀ i∈X,i<ts.length)/\∀ c:Bool,(c=true↔X.length=ts.length/\∃ f,Ch ts b X f)->Q (.bl c) H
theorem ZhV (D:HasDef K mg "is_way" Zhk ["ties","begin","numbers"]) (B:Blt mg):FOk P w K mg base 1 "is_way" ["ties","begin","numbers"] ZgS:=by
 refine D.ok scIsWay (fun vs H Q E h=>?_) (fun f cdv A outer s H vs Q E hr h=>?_)
 ·obtain⟨v,x,b,ts,X,rfl,_⟩:=h;rfl
 ·obtain⟨v,x,b,ts,X,rfl,⟨a,vs,rfl,hs,hty⟩,⟨q,rfl,hq⟩,hX,k⟩:=h;refine⟨_,(Ze (ZE (Zo ZaM (Zl ZC rfl B.len Ys (Za (pv 2) Zd)) (Zl ZC rfl B.len Ys (Za (pv 0) Zd)) (Zr _)) (Zh (Zn Ym)) Zs)
   (Ze (Zp (i:=3) scIsWay.nd rfl (.inl rfl) (pv 1))
   (Ze (Z4 PassesOwn.never rfl (Yf (pv 2)) (Zy (i:=4) scIsWay.nd rfl (.inl rfl))
    (Ze (ZE (Zo ZaM (Zw ix_tup (Zw (Zax K) (pv 0) (pv 4) (fun _ _=>rfl)) Zf (fun _ _=>rfl)) (pv 3) (Zr _)) (Zh (Zn Ym)) Zs)
   (Zh (Zp (i:=3) scIsWay.nd rfl (.inl rfl) (Zw ix_tup (Zw (Zax K) (pv 0) (pv 4) (fun _ _=>rfl)) Zf (fun _ _=>rfl))))))
   (Zh (Zn Ym))))),?_⟩
  refine⟨_,rfl,.ref q,_,rfl,.inr ⟨_,SqT.of hq,rfl⟩,_,rfl,.ref a,_,rfl,Zid hs,rfl,_,rfl,?_⟩;rw[Qc,hty.1];by_cases cl:X.length=ts.length
  ·refine ZM (by rw[Zaz (by rw[cl])];rfl) ?_;refine⟨_,rfl,_,rfl,q,rfl,⟨_,SqT.of hq⟩,YJ (K:=K) (a:=q) (xs:=X.map nV) (fun i σ H2=>(∃ (pt:Str) (z:Option V),σ=[some (.ref a),some (.str b),some (.ref q),some (.str pt),z]/\Ch ts b (X.take i) pt)/\H2=H)
    ⟨⟨b,none,rfl,.nil _⟩,rfl⟩ (fun i σ H2 _ ⟨_,e⟩=>by rw[e];exact SqT.of hq) ?_ ?_⟩
   ·rintro i x σ H2 hi ⟨⟨pt,z,rfl,hc⟩,rfl⟩;obtain⟨hi',rfl⟩:=JY hi;have hin:=hX X[i] (QF hi');obtain⟨b0,sg,e1,e2⟩:=hty.at hin;have etk:X.take (i+1)=X.take i++[X[i]]:=QY hi';refine⟨_,rfl,_,rfl,ZcJ hs e1 ⟨b0,_,0,.str (frm ts X[i]),rfl,rfl,SqT.of e2,rfl,_,rfl,rfl,_,rfl,?_⟩⟩;by_cases cf:frm ts X[i]=pt
    ·refine ZM (by rw[cf];simp) ?_;refine⟨_,rfl,_,rfl,ZcJ hs e1 ⟨b0,_,2,.str (tow ts X[i]),rfl,rfl,SqT.of e2,rfl,?_⟩⟩;exact⟨⟨tow ts X[i],_,rfl,by rw[etk];exact hc.snoc cf⟩,rfl⟩
    ·refine Ya (by simp[cf]) (k false ⟨fun z=>(by cases z),fun z=>?_⟩);obtain⟨_,f,hf⟩:=z;have:=Zlx (ts:=ts) (u:=b) (X:=X.take (i+1)) (Y:=X.drop (i+1)) ⟨f,by rw[UL];exact hf⟩;obtain⟨f',hf'⟩:=this;rw[etk]at hf';exact absurd (hf'.pop.1.det hc) cf
   ·rintro σ H2 ⟨⟨pt,z,rfl,hc⟩,rfl⟩;rw[Qc,WS]at hc;exact k true ⟨fun _=>⟨cl,pt,hc⟩,fun _=>rfl⟩
  ·refine Ya (by rw[Xf (by omega)];rfl) (k false ⟨fun z=>(by cases z),fun z=>absurd z.1 cl⟩)
structure WJ (H:Hp) (d g bk:Addr) (ks:List Str) (adr:Str->Addr) (H4:Hp) (r:Str->List Nat) (G B:List Nat):Prop where
 sm:Same H H4
 dd:H4 d=some (.dK (rD ks adr))
 row:∀ P∈ks,H4 (adr P)=some (.lst ((r P).map nV))
 gg:H4 g=some (.lst (G.map nV))
 bb:H4 bk=some (.lst (B.map nV))
 gn:H g=none
 bn:H bk=none
 fresh:∀ P∈ks,H (adr P)=none
 inj:∀ P∈ks,∀ P'∈ks,adr P=adr P'->P=P'
 ag:∀ P∈ks,adr P≠g
 ab:∀ P∈ks,adr P≠bk
 gb:g≠bk
 out:∀ P,P∉ks->r P=[]
theorem WJ.same {H5:Hp} {g:Addr} (J:WJ H d g bk ks adr H4 r G B) (s:Same H4 H5):WJ H d g bk ks adr H5 r G B where
 sm:=J.sm.trans s
 dd:=s _ _ J.dd
 row:=fun P hP=>s _ _ (J.row P hP)
 gg:=s _ _ J.gg
 bb:=s _ _ J.bb
 gn:=J.gn
 bn:=J.bn
 fresh:=J.fresh
 inj:=J.inj
 ag:=J.ag
 ab:=J.ab
 gb:=J.gb
 out:=J.out
theorem WJ.setRow {g:Addr} {X:List Nat} {pt:Str} (J:WJ H d g bk ks adr H4 r G B) (hp:pt∈ks):WJ H d g bk ks adr (upd H4 (adr pt) (.lst (X.map nV))) (Zi6 r pt X) G B where
 sm:=fun b u hb=>by
  rw[Zi (Zk hb (J.fresh pt hp))];exact J.sm b u hb
 dd:=by
  rw[Zi (ZjV J.dd (J.row pt hp) (by simp))];exact J.dd
 row:=fun P hP=>by
  unfold Zi6;by_cases c:P=pt
  ·subst c;rw[if_pos rfl,Zc]
  ·rw[if_neg c,Zi (fun e=>c (J.inj P hP pt hp e))];exact J.row P hP
 gg:=by
  rw[Zi (Ne.symm (J.ag pt hp))];exact J.gg
 bb:=by
  rw[Zi (Ne.symm (J.ab pt hp))];exact J.bb
 gn:=J.gn
 bn:=J.bn
 fresh:=J.fresh
 inj:=J.inj
 ag:=J.ag
 ab:=J.ab
 gb:=J.gb
 out:=fun P hP=>by
  unfold Zi6;rw[if_neg (fun e:P=pt=>hP (e▸hp))];exact J.out P hP
theorem WJ.setG {g:Addr} {X:List Nat} (J:WJ H d g bk ks adr H4 r G B):WJ H d g bk ks adr (upd H4 g (.lst (X.map nV))) r X B where
 sm:=fun b u hb=>by
  rw[Zi (Zk hb J.gn)];exact J.sm b u hb
 dd:=by
  rw[Zi (ZjV J.dd J.gg (by simp))];exact J.dd
 row:=fun P hP=>by
  rw[Zi (J.ag P hP)];exact J.row P hP
 gg:=Zc
 bb:=by
  rw[Zi (Ne.symm J.gb)];exact J.bb
 gn:=J.gn
 bn:=J.bn
 fresh:=J.fresh
 inj:=J.inj
 ag:=J.ag
 ab:=J.ab
 gb:=J.gb
 out:=J.out
theorem WJ.setB {g:Addr} {X:List Nat} (J:WJ H d g bk ks adr H4 r G B):WJ H d g bk ks adr (upd H4 bk (.lst (X.map nV))) r G X where
 sm:=fun b u hb=>by
  rw[Zi (Zk hb J.bn)];exact J.sm b u hb
 dd:=by
  rw[Zi (ZjV J.dd J.bb (by simp))];exact J.dd
 row:=fun P hP=>by
  rw[Zi (J.ab P hP)];exact J.row P hP
 gg:=by
  rw[Zi J.gb];exact J.gg
 bb:=Zc
 gn:=J.gn
 bn:=J.bn
 fresh:=J.fresh
 inj:=J.inj
 ag:=J.ag
 ab:=J.ab
 gb:=J.gb
 out:=J.out
theorem WJ.got {g p:Addr} (J:WJ H d g bk ks adr H4 r G B) (pt:Str) (hp:H4 p=none):∃ l,(Xx (rD ks adr) (Sum.inr pt:Key)).getD (.ref p)= .ref l/\(upd H4 p (.lst [])) l=some (.lst ((r pt).map nV)):=by
 rw[Jv];by_cases c:pt∈ks
 ·rw[if_pos c];exact⟨_,rfl,Zb hp _ _ (J.row pt c)⟩
 ·rw[if_neg c];exact⟨p,rfl,by rw[Zc,J.out pt c];rfl⟩
abbrev Zhe:Stmt:=top 21
abbrev Zn8:List Str:=["ties","begin","left","gone","backwards","point","numbers"]
theorem scWayOf:Zm Zn8 ["ties","begin"] (Zg Zhe):=⟨rfl,rfl,rfl,by decide +kernel,rfl,by decide +kernel,by decide +kernel⟩
def ZnA:Sp:=fun vs H Q _=>∃ (v:V) (b:Str) (ts:Ts),vs=[v,.str b]/\TiesV H v ts/\ts.length<=400/\(Eul ts b (wayX ts b)->∀ x H',Same H H'->ZoL H' x (wayX ts b)->Q x H')/\(¬ ZlF ts b->∀ H',Same H H'->Q .non H')
theorem ZhR (D:HasDef K mg "way_of" Zhe ["ties","begin"]) (B:Blt mg) (g33_:FOk P w K mg base 1 "numbers_out" ["ties"] ZnC) (g28_:FOk P w K mg base 1 "is_way" ["ties","begin","numbers"] ZgS):FOk P w K mg base 2 "way_of" ["ties","begin"] ZnA:=by
 refine D.ok scWayOf (fun vs H Q E h=>?_) (fun f cdv A outer s H vs Q E hr h=>?_)
 ·obtain⟨v,b,ts,rfl,_⟩:=h;rfl
 ·obtain⟨v,b,ts,rfl,hV,hlen,k1,k2⟩:=h;have hu:=JH hr;obtain⟨a,vs,rfl,hs,hty⟩:=id hV;refine⟨_,(Ze (Zp (i:=2) scWayOf.nd rfl (.inl rfl) (Zt g33_ hr (Za (pv 0) Zd)))
   (Ze (Zp (i:=3) scWayOf.nd rfl (.inl rfl) (ZR Zd))
   (Ze (Zp (i:=4) scWayOf.nd rfl (.inl rfl) (ZR Zd))
   (Ze (Zp (i:=5) scWayOf.nd rfl (.inl rfl) (pv 1))
   (Ze (ZbO PassesOwn.never (PW.pt (Zae (Zo ZaN (Zl ZC rfl B.len Ys (Za (Yu hu (pv 2) (pv 5) (ZR Zd) ⟨rfl,rfl,rfl,rfl⟩) Zd)) Zf (Zr _)) (Jw (Zo ZaN (Zl ZC rfl B.len Ys (Za (pv 3) Zd)) Zf (Zr _)))))
    (Zh (ZE (Zo ZaN (Zl ZC rfl B.len Ys (Za (Yu hu (pv 2) (pv 5) (ZR Zd) ⟨rfl,rfl,rfl,rfl⟩) Zd)) Zf (Zr _)) (Ze (ZW (ZbV F.plainAttrs_list F.slot_list_append F.type_list_append Yk (pv 3) (Za (ZhI F.plainAttrs_list F.slot_list_pop F.type_list_pop Zed (Zaj hu (pv 2) (pv 5) (fun _ _=>rfl))) Zd)))
   (Zh (Zp (i:=5) scWayOf.nd rfl (.inl rfl) (Zw ix_tup (Zw (Zax K) (pv 0) (Zw ix_list (pv 3) (XG Yx Zf) (fun _ _=>rfl)) (fun _ _=>rfl)) Zf (fun _ _=>rfl))))) (Ze (ZW (ZbV F.plainAttrs_list F.slot_list_append F.type_list_append Yk (pv 4) (Za (ZhI F.plainAttrs_list F.slot_list_pop F.type_list_pop Zed (pv 3)) Zd)))
   (Zh (Zp (i:=5) scWayOf.nd rfl (.inl rfl) (Zw ix_tup (Zw (Zax K) (pv 0) (Zw ix_list (pv 4) (XG Yx Zf) (fun _ _=>rfl)) (fun _ _=>rfl)) Zf (fun _ _=>rfl))))))))
   (Ze (Zp (i:=6) scWayOf.nd rfl (.inl rfl) (ZA ZB rfl B.tuple Yr (Za (ZnU (pv 4) (XG Yx Zf)) Zd)))
   (Ze (ZE (ZQ (Zt g28_ hr (Za (pv 0) (Za (pv 1) (Za (pv 6) Zd))))) (Zh (Zn (pv 6))) Zs)
   (Zh (Zn YF))))))))),?_⟩
  refine⟨_,rfl,.ref a,ts,rfl,hV,hlen,fun d H1 ks adr J=>?_⟩;refine⟨Zj (show 0<=1000 by decide),fun g hg=>?_⟩;refine⟨Zj (show 0<=1000 by decide),fun bk hbk=>?_⟩;have hgb:g≠bk:=fun e=>by rw[←e,Zc]at hbk;cases hbk
  have hbk1:H1 bk=none:=by rw[Zi (Ne.symm hgb)]at hbk;exact hbk
  have W0:WJ H d g bk ks adr (upd (upd H1 g (.lst [])) bk (.lst [])) (rows ts) [] []:=by
   have ss:=(Zb (o:=.lst []) hg).trans (Zb (o:=.lst []) hbk);exact⟨J.sm.trans ss,ss _ _ J.dd,fun P hP=>ss _ _ (J.row P hP),by rw[Zi hgb,Zc];rfl,Zc,J.sm.free hg,J.sm.free hbk1,J.fresh,J.inj,(fun P hP e=>by have:=J.row P hP;rw[e,hg]at this;cases this),(fun P hP e=>by have:=J.row P hP;rw[e,hbk1]at this;cases this),hgb,J.out⟩
  generalize upd (upd H1 g (.lst [])) bk (.lst [])=H3 at W0;refine⟨_,rfl,?_⟩
  try dsimp only[JI]
  show ZfF (ZeE _ _) _ _ _ _;refine Yh (fun σ H4=>∃ (pt:Str) (r:Str->List Nat) (BB:List Nat),σ=[some (.ref a),some (.str b),some (.ref d),some (.ref g),some (.ref bk),some (.str pt),none]/\WJ H d g bk ks adr H4 r [] BB/\WI ts b pt r [] BB/\r pt=[]/\BB.reverse=wayX ts b) (fun R hR=>?_) ?_
  ·refine⟨fun m σ H4=>∃ (pt:Str) (r:Str->List Nat) (G BB:List Nat),σ=[some (.ref a),some (.str b),some (.ref d),some (.ref g),some (.ref bk),some (.str pt),none]/\WJ H d g bk ks adr H4 r G BB/\WI ts b pt r G BB/\m=2*(ts.length-(G.length+BB.length))+G.length/\wlk ts m r pt G BB=wlk ts (2*ts.length) (rows ts) b [] [],
    ⟨_,b,rows ts,[],[],rfl,W0,WI.start (Zl3 ts) (ZjD ts),rfl,by simp⟩,?_⟩
   rintro m σ H4 ⟨pt,r,G,BB,rfl,J4,hW,hm,hw⟩;have hl4:=hW.len;have hrl:=hW.in_len pt;refine⟨_,rfl,d,rfl,.inl ⟨_,.inl J4.dd⟩,_,rfl,Zj (show 0<=1000 by decide),fun p hp=>?_⟩;have s5:=Zb (o:=.lst []) hp;obtain⟨l,el,hl⟩:=J4.got pt hp;have J5:=J4.same s5;refine⟨_,.inl ⟨_,Sum.inr pt,.inl J5.dd,rfl,rfl⟩,?_⟩;rw[el];generalize upd H4 p (.lst [])=H5 at J5 hl;clear hp s5 el J4 H4;refine⟨.ref l,_,rfl,.inl ⟨_,SqL.of hl,rfl⟩,_,_,rfl,rfl,_,rfl,?_⟩;rw[Qc];rcases WW (r pt)with e0 | ⟨X,i,e0⟩
   ·refine ZM (by rw[e0];simp) ?_;refine⟨_,rfl,.ref g,_,rfl,.inl ⟨_,SqL.of J5.gg,rfl⟩,_,_,rfl,rfl,_,rfl,?_⟩;rw[Qc];rcases WW G with rfl | ⟨X,i,rfl⟩
    ·refine ZM (by simp) (hR _ _ ⟨pt,r,BB,rfl,J5,hW,e0,?_⟩);rw[Zjb e0]at hw;unfold wayX;rw[←hw]
    ·rw[WX]at *;refine Ya (by simp) ?_;have hi:i<ts.length:=hW.lt i (by simp);obtain⟨b0,sg,f1,f2⟩:=hty.at hi;rw[Qp,QA]at hm hl4;refine⟨fun σ' H'=>∃ m',m'<m/\∃ (pt:Str) (r:Str->List Nat) (G BB:List Nat),σ'=[some (.ref a),some (.str b),some (.ref d),some (.ref g),some (.ref bk),some (.str pt),none]/\WJ H d g bk ks adr H' r G BB/\WI ts b pt r G BB/\m'=2*(ts.length-(G.length+BB.length))+G.length/\wlk ts m' r pt G BB=wlk ts (2*ts.length) (rows ts) b [] [],fun _ _ z=>z,?_⟩;refine⟨_,rfl,d,rfl,.inl ⟨_,.inl J5.dd⟩,_,rfl,Zj (show 0<=1000 by decide),fun p hp=>?_⟩;have s5:=Zb (o:=.lst []) hp;obtain⟨l',el,hl'⟩:=J5.got pt hp;have J6:=J5.same s5;refine⟨_,.inl ⟨_,Sum.inr pt,.inl J6.dd,rfl,rfl⟩,?_⟩;rw[el];generalize upd H5 p (.lst [])=H6 at J6 hl';refine⟨.ref l',_,rfl,.inl ⟨_,SqL.of hl',rfl⟩,_,_,rfl,rfl,_,rfl,?_⟩;rw[Qc];refine ZM (by rw[e0];simp) ?_;refine⟨_,rfl,.inl ⟨rfl,_,SqL.of J6.bb⟩,_,rfl,.inl ⟨rfl,_,SqL.of J6.gg⟩,g,_,nV i,rfl,rfl,J6.gg,by simp,?_⟩;rw[show((X++[i]).map nV).dropLast=X.map nV by rw[QG,Q8,UV]];have J7:=J6.setG (X:=X);refine⟨bk,_,nV i,rfl,rfl,J7.bb,by rw[Qc];exact Zz (by omega),?_⟩;rw[show BB.map nV++[nV i]=(BB++[i]).map nV by rw[QG,Q8]];have J8:=J7.setB (X:=BB++[i]);refine⟨_,rfl,_,rfl,_,rfl,bk,_,-1,nV i,rfl,rfl,SqL.of J8.bb,by rw[QG,Q8];exact Zi5,?_⟩;refine ZcJ (hs.same J8.sm) f1 ⟨b0,_,0,.str (frm ts i),rfl,rfl,SqT.of (J8.sm _ _ f2),rfl,?_⟩;refine⟨2*(ts.length-(X.length+(BB++[i]).length))+X.length,?_,frm ts i,r,X,BB++[i],rfl,J8,hW.pop e0,rfl,?_⟩
     ·rw[Qp,QA];omega
     ·rw[←hw,show m=2*(ts.length-(X.length+(BB++[i]).length))+X.length+1 by rw[Qp,QA];omega,Zja e0]
   ·rw[WX]at e0;refine Ya (by rw[e0];simp) ?_;refine Ya rfl ?_;have hik:i∈r pt:=by rw[e0];simp
    have hpk:pt∈ks:=Classical.byContradiction fun c=>by rw[J5.out pt c]at hik;cases hik
    have hi:i<ts.length:=((hW.row pt i).mp hik).1;obtain⟨b0,sg,f1,f2⟩:=hty.at hi;have hW2:=hW.push e0;have hl5:=hW2.len;rw[Qp,QA]at hl5;refine⟨fun σ' H'=>∃ m',m'<m/\∃ (pt:Str) (r:Str->List Nat) (G BB:List Nat),σ'=[some (.ref a),some (.str b),some (.ref d),some (.ref g),some (.ref bk),some (.str pt),none]/\WJ H d g bk ks adr H' r G BB/\WI ts b pt r G BB/\m'=2*(ts.length-(G.length+BB.length))+G.length/\wlk ts m' r pt G BB=wlk ts (2*ts.length) (rows ts) b [] [],fun _ _ z=>z,?_⟩;refine⟨_,rfl,d,rfl,.inl ⟨_,.inl J5.dd⟩,_,rfl,Zj (show 0<=1000 by decide),fun p hp=>?_⟩;have s5:=Zb (o:=.lst []) hp;obtain⟨l',el,hl'⟩:=J5.got pt hp;have J6:=J5.same s5;refine⟨_,.inl ⟨_,Sum.inr pt,.inl J6.dd,rfl,rfl⟩,?_⟩;rw[el];generalize upd H5 p (.lst [])=H6 at J6 hl';refine⟨.ref l',_,rfl,.inl ⟨_,SqL.of hl',rfl⟩,_,_,rfl,rfl,_,rfl,?_⟩;rw[Qc];refine Ya (by rw[e0];simp) ?_;have hrow:=J6.row pt hpk;rw[e0]at hrow;refine⟨_,rfl,.inl ⟨rfl,_,SqL.of J6.gg⟩,_,rfl,_,rfl,d,.ref (adr pt),rfl,.inl ⟨_,Sum.inr pt,.inl J6.dd,rfl,by rw[Jv,if_pos hpk]⟩,.inl ⟨rfl,_,SqL.of hrow⟩,adr pt,_,nV i,rfl,rfl,hrow,by simp,?_⟩;rw[show((X++[i]).map nV).dropLast=X.map nV by rw[QG,Q8,UV]];have J7:=J6.setRow (X:=X) hpk;refine⟨g,_,nV i,rfl,rfl,J7.gg,by rw[Qc];exact Zz (by omega),?_⟩;rw[show G.map nV++[nV i]=(G++[i]).map nV by rw[QG,Q8]];have J8:=J7.setG (X:=G++[i]);refine⟨_,rfl,_,rfl,_,rfl,g,_,-1,nV i,rfl,rfl,SqL.of J8.gg,by rw[QG,Q8];exact Zi5,?_⟩;refine ZcJ (hs.same J8.sm) f1 ⟨b0,_,2,.str (tow ts i),rfl,rfl,SqT.of (J8.sm _ _ f2),rfl,?_⟩;refine⟨2*(ts.length-((G++[i]).length+BB.length))+(G++[i]).length,?_,tow ts i,Zi6 r pt X,G++[i],BB,rfl,J8,hW2,rfl,?_⟩
    ·rw[Qp,QA];omega
    ·rw[←hw,show m=2*(ts.length-((G++[i]).length+BB.length))+(G++[i]).length+1 by rw[Qp,QA];omega,Zgk e0]
  ·rintro σ H4 ⟨pt,r,BB,rfl,J4,hW,e0,ew⟩;refine⟨_,rfl,_,rfl,bk,_,rfl,SqL.of J4.bb,rfl,fun p hp=>?_⟩;refine⟨p,_,rfl,.inl ⟨SqL.of Zc,fun l hl=>?_⟩⟩;have s5:=(J4.sm.trans (Zb (o:=.lst (BB.map nV).reverse) hp)).trans (Zb (o:=.tup (BB.map nV).reverse) hl);have hT:ZoL (upd (upd H4 p (.lst (BB.map nV).reverse)) l (.tup (BB.map nV).reverse)) (.ref l) (wayX ts b):=⟨l,rfl,by rw[Zc,←ew,List.map_reverse]⟩
   refine⟨_,rfl,_,rfl,_,rfl,.ref a,.ref l,b,ts,wayX ts b,rfl,hV.same s5,hT,fun i hi=>?_,fun c hc=>?_⟩
   ·rw[←ew,Ut]at hi;exact hW.lt i (by simpa using hi)
   ·refine⟨_,rfl,?_⟩;cases c with
    | true =>
     obtain⟨h1,f,h2⟩:=hc.mp rfl;rw[←ew]at h1 h2;rw[UX]at h1;have hE:=hW.eul h1 h2;rw[ew]at hE;exact Ya rfl ⟨_,rfl,k1 hE _ _ s5 hT⟩
    | false =>
     refine ZM rfl (k2 (fun hg=>?_) _ s5);have hE:=hW.done e0 hg;rw[ew]at hE;have:=hc.mpr ⟨by rw[hE.1.length_eq,Q4],hE.2⟩;cases this
end Sh
namespace L2
theorem Zf0 {X:Cx}:MtR X "list.extend" Zhs:=Zh8
end L2
namespace Sh
open PySem L2 PyProof.Rows
seal L2.PE L2.PS L2.PSs L2.PT L2.PW L2.PA L2.PI L2.PG L2.PGs L2.PO L2.PC L2.PCs L2.OpR L2.UnR L2.CallR L2.MtR L2.IxR L2.SlR
variable {P:Program} {w:World} {K:PySem.W.Frag} {mg:Str->Option Value} {base:Heap}
variable {H:Hp}
structure Hpy (es:Es) (L:Nat):Prop where
 fine:Jq es
 ne:es≠[]
 len:∀ e∈es,e.1.length=L
 l1:1<=L
 l3:L<=300
 pos:∀ e∈es,1<=e.2
 tot:(ZH es).length<=350
 srt:((es.map (·.1)).map fun x=>x.cps.toList).Pairwise (· < ·)
 cd:∀ e∈es,Cd e.1.cps.toList
theorem Zly (x:Str):(bg x).length=x.length-1:=by
 unfold bg;rw[Z1,UN,XX]
theorem Zoz (x:Str):(en x).length=x.length-1:=by
 unfold en;rw[Z1,Wh,XX]
def TyS (H:Hp) (us:List V) (T:List Str):Prop:=us.length=T.length/\∀ (i:Nat) (x:Str),T[i]?=some x->∃ b,us[i]?=some (.ref b)/\H b=some (.tup [.str (bg x),.str (tx [lst x]),.str (en x)])
theorem TyS.same {H':Hp} {us:List V} {T:List Str} (h:TyS H us T) (s:TSame H H'):TyS H' us T:=⟨h.1,fun i x e=>by
 obtain⟨b,e1,e2⟩:=h.2 i x e;exact⟨b,e1,s _ _ e2⟩⟩
theorem TyS.rep {us:List V} {T:List Str} (h:TyS H us T) {b:Addr} {x:Str} (hb:H b=some (.tup [.str (bg x),.str (tx [lst x]),.str (en x)])) (n:Nat):TyS H (us++QK n (.ref b)) (T++QK n x):=by
 refine⟨by simp[h.1],fun i y e=>?_⟩;by_cases hi:i<T.length
 ·rw[Q3 hi]at e;obtain⟨c,e1,e2⟩:=h.2 i y e;exact⟨c,by rw[Q3 (by rw[h.1];exact hi)];exact e1,e2⟩
 ·rw[QZ (by omega)]at e;have hm:=Wp e;have hl:=(Qo.mp e).1;rw[WT]at hl;rw[(UD.mp hm).2];refine⟨b,?_,hb⟩;rw[QZ (by rw[h.1];omega),h.1,WO,if_pos hl]
theorem TyS.tyA {us:List V} {es:Es} (h:TyS H us (ZH es)):TyA H us (tsE es):=⟨by rw[h.1,Y3],fun i t e=>by
 unfold tsE at e;rw[Qk]at e;cases hx:(ZH es)[i]? with
 | none=>rw[hx]at e;cases e
 | some x =>
  rw[hx]at e;cases e;obtain⟨b,e1,e2⟩:=h.2 i x hx;exact⟨b,e1,_,e2⟩⟩
theorem ZkA {α:Type} {l:List α} {c:α}:atI (l++[c]) (-1)=some c:=by
 unfold atI ixN;rw[if_neg (by decide),if_pos (by rw[Qp,QA];omega)];simp only[R7,Qp,QA];rw[show((-1:Int)+((l.length+1:Nat):Int)).toNat=l.length by omega];simp
theorem Zoj {x:Str} (h:1<=x.length):atI x.cps.toList (-1)=some (lst x):=by
 rw[ZoH h];exact ZkA
theorem Zga {es:Es} {n:Nat}:(ZH (es.take n)).length<=(ZH es).length:=by
 have:ZH es=ZH (es.take n)++ZH (es.drop n):=by
  unfold ZH;rw[←RA,UL]
 rw[this,Qp];omega
def Zqm (H:Hp) (x:V) (ts:Ts) (b:Str):Prop:=(Eul ts b (wayX ts b)/\ZoL H x (wayX ts b))\/(¬ ZlF ts b/\x= .non)
theorem Zi9 {ts:Ts} {b:Str} {Q:V->Hp->Prop} (h:∀ x H',Same H H'->Zqm H' x ts b->Q x H'):(Eul ts b (wayX ts b)->∀ x H',Same H H'->ZoL H' x (wayX ts b)->Q x H')/\(¬ ZlF ts b->∀ H',Same H H'->Q .non H') :=
 ⟨fun e x H' s t=>h x H' s (.inl ⟨e,t⟩),fun g H' s=>h .non H' s (.inr ⟨g,rfl⟩)⟩
abbrev ZdP:Stmt:=top 3
abbrev Zmv:List Str:=["H","ties","piece","many"]
theorem scTiesOf:Zm Zmv ["H"] (Zg ZdP):=⟨rfl,rfl,rfl,by decide +kernel,rfl,by decide +kernel,by decide +kernel⟩
def ZeI:Sp:=fun vs H Q _=>∃ (v:V) (es:Es) (L:Nat),vs=[v]/\HeapV H v es/\Hpy es L/\∀ q us H',Same H H'->H' q=some (.lst us)->TyS H' us (ZH es)->Q (.ref q) H'
theorem ZfN (D:HasDef K mg "ties_of" ZdP ["H"]) (g12_:FOk P w K mg base 1 "begin_of" ["piece"] Zbv) (g17_:FOk P w K mg base 1 "end_of" ["piece"] ZfG):FOk P w K mg base 2 "ties_of" ["H"] ZeI:=by
 refine D.ok scTiesOf (fun vs H Q E h=>?_) (fun f cdv A outer s H vs Q E hr h=>?_)
 ·obtain⟨v,es,L,rfl,_⟩:=h;rfl
 ·obtain⟨v,es,L,rfl,⟨q,vs,rfl,hq,hpa⟩,hF,k⟩:=h;refine⟨_,(Ze (Zp (i:=1) scTiesOf.nd rfl (.inl rfl) (ZR Zd))
   (Ze (Z4 PassesOwn.never rfl (Yf (pv 0)) (Z7 2 K rfl (Zv (Zy (i:=2) scTiesOf.nd rfl (.inl rfl)) (Zv (Zy (i:=3) scTiesOf.nd rfl (.inl rfl)) Z6)))
    (Zh (ZW (ZbV F.plainAttrs_list F.slot_list_extend F.type_list_extend Zf0 (pv 1) (Za (Zq Zlc (ZR (Za (YE (Za (Zt g12_ hr (Za (pv 2) Zd)) (Za (Zw Zim (pv 2) (XG Yx Zf) (fun _ _=>rfl)) (Za (Zt g17_ hr (Za (pv 2) Zd)) Zd)))) Zd)) (pv 3)) Zd)))))
   (Zh (Zn (pv 1))))),?_⟩
  refine⟨Zj (show 0<=1000 by decide),fun l hl=>?_⟩;have s1:=Zb (o:=.lst []) hl;refine⟨_,rfl,q,rfl,⟨_,SqT.of (s1 _ _ hq)⟩,?_⟩;refine YJ (K:=K) (a:=q) (xs:=vs) (fun i σ H2=>∃ (z2 z3:Option V) (us:List V),σ=[some (.ref q),some (.ref l),z2,z3]/\Same H H2/\H2 l=some (.lst us)/\TyS H2 us (ZH (es.take i)))
   ⟨none,none,[],rfl,s1,Zc,⟨rfl,fun i x e=>by rw[Rm]at e;cases e⟩⟩ (fun i σ H2 _ ⟨_,_,_,_,s2,_⟩=>SqT.of (s2 _ _ hq)) ?_ ?_
  ·rintro i x σ H2 hi ⟨z2,z3,us,rfl,s2,hl2,hty⟩;have hiv:i<vs.length:=(Qo.mp hi).1;have hie:i<es.length:=by rw[←hpa.1];exact hiv
   obtain⟨b,e1,e2⟩:=hpa.2 i es[i] (Qa hie);rw[hi]at e1;cases e1;obtain⟨l1,l2⟩:=hF.fine.long es[i] (QF hie);have hm:=hF.fine.many es[i] (QF hie);have het:es.take (i+1)=es.take i++[es[i]]:=QY hie;have htot:=hF.tot;have ht1:=Zga (es:=es) (n:=i);have hul:=hty.1;refine⟨b,_,rfl,SqT.of (s2 _ _ e2),rfl,_,_,rfl,_,_,rfl,rfl,?_⟩;rw[het,Zgb];generalize es[i]=e at *;refine⟨_,rfl,.inl ⟨rfl,_,SqL.of hl2⟩,_,rfl,e.1,rfl,l1,l2,_,rfl,_,rfl,e.1,_,_,rfl,rfl,Zb6 l2,Zoj l1,_,rfl,e.1,rfl,l1,l2,Zj (show 3<=1000 by decide),fun t ht=>?_⟩;have t1:=Zb (o:=.tup [.str (bg e.1),.str (tx [lst e.1]),.str (en e.1)]) ht;refine⟨Zj (show 1<=1000 by decide),fun p hp=>?_⟩;have t2:=Zb (o:=.lst [.ref t]) hp;refine⟨_,rfl,p,e.2,_,rfl,rfl,Zc,by omega,by omega,Zj (by simp only[QA];omega),fun p2 hp2=>?_⟩;rw[Zfm];have t3:=Zb (o:=.lst (QK e.2.toNat (V.ref t))) hp2;have hl5:=t3 _ _ (t2 _ _ (t1 _ _ hl2));refine⟨l,p2,_,_,rfl,rfl,hl5,Zc,?_,?_⟩
   ·rw[WT];refine Z2 ?_;omega
   have ts:=YU (ys:=us++QK e.2.toNat (V.ref t)) hl5;refine⟨_,_,_,rfl,fun b u hb=>by rw[Zi (Zk hb hl)];exact t3 _ _ (t2 _ _ (t1 _ _ (s2 b u hb))),Zc,?_⟩;exact((hty.same (((t1.trans t2).trans t3).tup.trans ts)).rep (ts _ _ (t3 _ _ (t2 _ _ Zc))) _)
  ·rintro σ H2 ⟨z2,z3,us,rfl,s2,hl2,hty⟩;rw[hpa.1,WS]at hty;exact⟨_,rfl,k l us H2 s2 hl2 hty⟩
abbrev ZbB:Stmt:=top 9
abbrev ZjZ:List Str:=["H","wish","begins"]
theorem scStartOf:Zm ZjZ ["H","wish"] (Zg ZbB):=⟨rfl,rfl,rfl,by decide +kernel,rfl,by decide +kernel,by decide +kernel⟩
def ZgM:Sp:=fun vs H Q _=>∃ (v:V) (wsh:Str) (es:Es),vs=[v,.str wsh]/\HeapV H v es/\Jq es/\∀ H' ss,Same H H'->SPts es ss->Q (.str (ZkL wsh (ups (mo es) ss))) H'
theorem Zd2 (D:HasDef K mg "start_of" ZbB ["H","wish"]) (B:Blt mg) (g13_:FOk P w K mg base 3 "begins_of" ["H"] XM):FOk P w K mg base 4 "start_of" ["H","wish"] ZgM:=by
 refine D.ok scStartOf (fun vs H Q E h=>?_) (fun f cdv A outer s H vs Q E hr h=>?_)
 ·obtain⟨v,wsh,es,rfl,_⟩:=h;rfl
 ·obtain⟨v,wsh,es,rfl,hV,hF,k⟩:=h;refine⟨_,(Ze (Zp (i:=2) scStartOf.nd rfl (.inl rfl) (Zt g13_ hr (Za (pv 0) Zd)))
   (Ze (ZE (Zo Yv (Zl ZC rfl B.len Ys (Za (pv 2) Zd)) Zf (Zr _)) (Zh (Zn (pv 1))) Zs)
   (Zh (Zn (Zw ix_tup (Zw ix_tup (pv 2) Zf (fun _ _=>rfl)) Zf (fun _ _=>rfl)))))),?_⟩
  refine⟨_,rfl,v,es,rfl,hV,hF,fun v' H1 ss s1 hv' hss=>?_⟩;have kk:=k H1 ss s1 hss;obtain⟨q,us,rfl,hq,hpa⟩:=hv';refine⟨_,rfl,.ref q,_,rfl,.inr ⟨_,SqT.of hq,rfl⟩,rfl,_,rfl,?_⟩;rw[hpa.1];generalize ups (mo es) ss=ue at *;cases ue with
  | nil=>exact Ya (by decide) ⟨_,rfl,kk⟩
  | cons u ue =>
   refine ZM (Xf (by rw[QO];omega)) ?_;obtain⟨b,e1,e2⟩:=hpa.2 0 u rfl;exact⟨_,rfl,q,us,0,.ref b,rfl,rfl,SqT.of hq,YI (by decide) e1,b,_,0,.str u.1,rfl,rfl,SqT.of e2,rfl,kk⟩
abbrev XQ:Stmt:=top 22
abbrev Zc4:List Str:=["ties","begin","numbers"]
theorem scTextFrom:Zm Zc4 ["ties","begin"] (Zg XQ):=⟨rfl,rfl,rfl,by decide +kernel,rfl,by decide +kernel,by decide +kernel⟩
def Za1:Sp:=fun vs H Q _=>∃ (q:Addr) (b:Str) (us:List V) (es:Es) (L:Nat),vs=[.ref q,.str b]/\H q=some (.lst us)/\TyS H us (ZH es)/\Hpy es L/\b.length=L-1/\ZlF (tsE es) b/\∀ H',Same H H'->Eul (tsE es) b (wayX (tsE es) b)->Q (.str (tx (ZcF es b (wayX (tsE es) b)))) H'
theorem ZcV (D:HasDef K mg "text_from" XQ ["ties","begin"]) (B:Blt mg) (g52_:FOk P w K mg base 2 "way_of" ["ties","begin"] ZnA):FOk P w K mg base 3 "text_from" ["ties","begin"] Za1:=by
 refine D.ok scTextFrom (fun vs H Q E h=>?_) (fun f cdv A outer s H vs Q E hr h=>?_)
 ·obtain⟨q,b,us,es,L,rfl,_⟩:=h;rfl
 ·obtain⟨q,b,us,es,L,rfl,hq,hty,hF,hb,hg,k⟩:=h;refine⟨_,(Ze (Zp (i:=2) scTextFrom.nd rfl (.inl rfl) (Zt g52_ hr (Za (pv 0) (Za (pv 1) Zd))))
   (Ze (ZE (Zo ZcT (pv 2) YF (Zr _)) (Zh (Zn YF)) Zs)
   (Zh (Zn (Zq Yw (pv 1) (ZbV F.plainAttrs_str F.slot_str_join F.type_str_join Zmz Z8 (Za (ZJ (Zg XQ) Zc4 ["number"] [0] rfl (Yf (pv 2)) (fun _ _ _ _ _=>Yi 0) (fun _ _ _ _ _=>ZZ) (fun _ _ _ _ _=>(Zw (ZmI K) (Zw (YG K) (pv 1) (pv 0) (fun _ _=>rfl)) Zf (fun _ _=>rfl)))) Zd))))))),?_⟩
  have htot:=hF.tot;have hl3:=hF.l3;refine⟨_,rfl,_,rfl,.ref q,b,tsE es,rfl,⟨q,us,rfl,.inl hq,hty.tyA⟩,by rw[Y3];omega,Zi9 fun x H1 s1 hx=>?_⟩;rcases hx with ⟨hE,qn,rfl,hqn⟩ | ⟨hn,_⟩
  rotate_left
  ·exact absurd hg hn
  have kE:=fun H' s'=>k H' s' hE;have hXl:(wayX (tsE es) b).length=(ZH es).length:=by rw[hE.1.length_eq,Q4,Y3]
  have hX:∀ i∈wayX (tsE es) b,i<(ZH es).length:=fun i hi=>by
   have:=QM.mp (hE.1.mem_iff.mp hi);rw[Y3]at this;exact this
  generalize wayX (tsE es) b=X at *;refine⟨_,rfl,rfl,_,rfl,ZM (by simp) ?_⟩;refine⟨_,rfl,rfl,_,rfl,qn,rfl,⟨_,SqT.of hqn⟩,Xc X.length (fun i=>(X.map nV).getD i .non) (fun i v _=>v= .str (tx [lst ((ZH es).getD (X.getD i 0) "")])) (Zj (by omega)) (fun _ _ _ _ _ r=>r) (by have:=Zaw (SqT.of (K:=K) hqn);rw[Qc]at this;exact this) ?_ ?_⟩
  ·intro i H3 Qe hi hs kq;rw[YQ hi];have hin:=hX X[i] (QF hi);obtain⟨b0,e1,e2⟩:=hty.2 X[i] (ZH es)[X[i]] (Qa hin);refine⟨_,rfl,_,rfl,q,us,X[i],.ref b0,rfl,rfl,SqL.of (hs _ _ (s1 _ _ hq)),Zfz e1,b0,_,1,_,rfl,rfl,SqT.of (hs _ _ (s1 _ _ e2)),rfl,kq _ _ (Same.refl _) ?_⟩;rw[Qb (l:=X),Qa hi,WR,Qb,Qa hin];rfl
  intro D1 vs1 H3 hl1 hr1 hs3 hD1 hDl1;have ev:vs1=((X.map fun i=>lst ((ZH es).getD i "")).map fun c=>tx [c]).map V.str:=by
   rw[QV,QV];refine Zgl hl1 fun i v hv c hc=>?_;rw[hr1 i v hv,Qb (l:=X),hc];rfl
  rw[ev]at hDl1;have hos:=ZjM (X.map fun i=>lst ((ZH es).getD i "")) (by rw[Qc];omega);refine⟨"",D1,_,rfl,rfl,SqL.of hDl1,hos,?_⟩;rw[Zik];refine⟨_,_,rfl,rfl,?_,?_⟩
  ·rw[Z1,Qc];refine Zj ?_;omega
  rw[show b++tx (X.map fun i=>lst ((ZH es).getD i ""))=tx (ZcF es b X)by unfold ZcF;rw[←ZaY,tx_eta]];exact kE H3 (s1.trans hs3)
def ZoS (e0:Str×Int) (es0:Es):Prop:=∀ e∈e0::es0,Rch (e0::es0) (bg e0.1) (bg e.1)
def VerV (H:Hp) (v:V) (e0:Str×Int) (es0:Es) (L:Nat):Prop:=∃ q wd x ss,v= .ref q/\H q=some (.tup [.str wd,x])/\SPts (e0::es0) ss /\
 ((wd = "begins"/\1<sm (ups (mo (e0::es0)) ss)/\HeapV H x (ups (mo (e0::es0)) ss)) \/
  (wd = "apart"/\¬ 1<sm (ups (mo (e0::es0)) ss)/\¬ ZoS e0 es0/\∃ ps,TupS H x ps/\(ps.map fun x=>x.cps.toList).Pairwise (· < ·)/\ps.length<=602/\∀ x,x∈ps↔Rch (e0::es0) (bg e0.1) x) \/
  (wd = "text"/\¬ 1<sm (ups (mo (e0::es0)) ss)/\ZoS e0 es0/\∃ b X,x= .str (tx (ZcF (e0::es0) b X))/\b=Y5 e0 (ups (mo (e0::es0)) ss)/\X=wayX (tsE (e0::es0)) b/\Eul (tsE (e0::es0)) b X/\b.length=L-1))
theorem VerV.same {H':Hp} {v:V} {e0:Str×Int} {es0:Es} {L:Nat} (h:VerV H v e0 es0 L) (s:Same H H'):VerV H' v e0 es0 L:=by
 obtain⟨q,wd,x,ss,e1,e2,e3,h⟩:=h;refine⟨q,wd,x,ss,e1,s _ _ e2,e3,?_⟩;rcases h with ⟨a,b,c⟩ | ⟨a,b,c,ps,d,f⟩ | h
 ·exact .inl ⟨a,b,c.same s⟩
 ·exact .inr (.inl ⟨a,b,c,ps,d.same s,f⟩)
 ·exact .inr (.inr h)
theorem ZgH {e0:Str×Int} {es0:Es} {ss:List Str} {L:Nat} (hF:Hpy (e0::es0) L) (hs:SPts (e0::es0) ss):(Y5 e0 (ups (mo (e0::es0)) ss)).length=L-1:=by
 cases hu:ups (mo (e0::es0)) ss with
 | nil =>
  show(bg e0.1).length=L-1;rw[Zly,hF.len e0 (Qd ..)]
 | cons u us =>
  have hm:u∈ups (mo (e0::es0)) ss:=by rw[hu];exact Qd ..
  obtain⟨p,hp,ep⟩:=Qr.mp hm;obtain⟨h1,_⟩:=QB.mp hp;obtain⟨e,he,q⟩:=(hs.pts.mem p).mp h1;show u.1.length=L-1;rw[←ep];show p.length=L-1;rcases q with q | q
  ·rw[←q,Zly,hF.len e he]
  ·rw[←q,Zoz,hF.len e he]
theorem Znx (e0:Str×Int) (us:Es):ZkL (bg e0.1) us=Y5 e0 us:=by
 cases us <;> rfl
abbrev Zbz:Stmt:=top 26
abbrev ZjX:List Str:=["H"]
theorem Zg7:Zm ZjX ["H"] (Zg Zbz):=⟨rfl,rfl,rfl,by decide +kernel,rfl,by decide +kernel,by decide +kernel⟩
def JZ:Sp:=fun vs H Q _=>∃ (v:V) (e0:Str×Int) (es0:Es) (L:Nat),vs=[v]/\HeapV H v (e0::es0)/\Hpy (e0::es0) L/\∀ v' H',Same H H'->VerV H' v' e0 es0 L->Q v' H'
theorem ZfM (D:HasDef K mg "verdict" Zbz ["H"]) (B:Blt mg) (g22_:FOk P w K mg base 4 "has_many_begins" ["H"] ZdJ) (g13_:FOk P w K mg base 4 "begins_of" ["H"] XM) (g21_:FOk P w K mg base 4 "hangs" ["H"] ZdL) (g36_:FOk P w K mg base 4 "part_of" ["H"] ZgN) (g47_:FOk P w K mg base 4 "ties_of" ["H"] ZeI) (g12_:FOk P w K mg base 4 "begin_of" ["piece"] Zbv) (g41_:FOk P w K mg base 4 "start_of" ["H","wish"] ZgM) (g44_:FOk P w K mg base 4 "text_from" ["ties","begin"] Za1):FOk P w K mg base 5 "verdict" ["H"] JZ:=by
 refine D.ok Zg7 (fun vs H Q E h=>?_) (fun f cdv A outer s H vs Q E hr h=>?_)
 ·obtain⟨v,e0,es0,L,rfl,_⟩:=h;rfl
 ·obtain⟨v,e0,es0,L,rfl,hV,hF,k⟩:=h;refine⟨_,(Ze (ZE (ZQ (Zt g22_ hr (Za (pv 0) Zd))) (Zh (Zn (YE (Za Z8 (Za (Zt g13_ hr (Za (pv 0) Zd)) Zd))))) Zs)
   (Ze (ZE (Z3 (ZQ (Zt g21_ hr (Za (pv 0) Zd)))) (Zh (Zn (YE (Za Z8 (Za (Zt g36_ hr (Za (pv 0) Zd)) Zd))))) Zs)
   (Zh (Zn (YE (Za Z8 (Za (Zt g44_ hr (Za (Zt g47_ hr (Za (pv 0) Zd)) (Za (Zt g41_ hr (Za (pv 0) (Za (Zt g12_ hr (Za (Zw ix_tup (Zw ix_tup (pv 0) Zf (fun _ _=>rfl)) Zf (fun _ _=>rfl)) Zd)) Zd))) Zd))) Zd))))))),?_⟩
  refine⟨_,rfl,v,_,rfl,hV,hF.fine,fun H1 ss s1 hss=>⟨_,rfl,?_⟩⟩;by_cases c1:1<sm (ups (mo (e0::es0)) ss)
  ·refine Ya (decide_eq_true c1) ⟨_,rfl,v,_,rfl,hV.same s1,hF.fine,fun v' H2 ss2 s2 hv' hss2=>⟨Zj (show 2<=1000 by decide),fun p hp=>?_⟩⟩;have es:=hss.one hss2;subst es;have s3:=Zb (o:=.tup [.str "begins",v']) hp;exact k _ _ ((s1.trans s2).trans s3) ⟨p,"begins",v',ss,rfl,Zc,hss,.inl ⟨rfl,c1,hv'.same s3⟩⟩
  ·refine ZM (decide_eq_false c1) ⟨_,rfl,v,e0,es0,rfl,hV.same s1,hF.fine,fun H2 c s2 hc=>⟨_,rfl,?_⟩⟩;have hV2:=(hV.same s1).same s2;cases c with
   | false =>
    have hn:¬ ZoS e0 es0:=fun h=>by have:=hc.mpr h;cases this
    refine Ya rfl ⟨_,rfl,v,e0,es0,rfl,hV2,hF.fine,fun v' H3 ps s3 hps hsr hpl hpm=>⟨Zj (show 2<=1000 by decide),fun p hp=>?_⟩⟩;have s4:=Zb (o:=.tup [.str "apart",v']) hp;exact k _ _ (((s1.trans s2).trans s3).trans s4) ⟨p,"apart",v',ss,rfl,Zc,hss,.inr (.inl ⟨rfl,c1,hn,ps,hps.same s4,hsr,Q7 hpl (by decide),hpm⟩)⟩
   | true =>
    have hh:ZoS e0 es0:=hc.mp rfl;refine ZM rfl ?_;refine⟨_,rfl,v,_,L,rfl,hV2,hF,fun q us H3 s3 hq hty=>?_⟩;have hV3:=hV2.same s3;obtain⟨qv,vs,rfl,hqv,hpa⟩:=id hV3;obtain⟨b0,f1,f2⟩:=hpa.2 0 e0 rfl;obtain⟨l1,l2⟩:=hF.fine.long e0 (Qd ..);refine⟨_,rfl,_,rfl,qv,vs,0,.ref b0,rfl,rfl,SqT.of hqv,YI (by decide) f1,b0,_,0,.str e0.1,rfl,rfl,SqT.of f2,rfl,e0.1,rfl,l1,l2,.ref qv,bg e0.1,_,rfl,hV3,hF.fine,fun H4 ss4 s4 hss4=>?_⟩;have es:=hss.one hss4;subst es;rw[Znx];have hg:ZlF (tsE (e0::es0)) (Y5 e0 (ups (mo (e0::es0)) ss)):=Zov hF.pos hss.pts.nd hss.pts.mem (by omega) hh;have hbl:=ZgH hF hss;refine⟨q,_,us,e0::es0,L,rfl,s4 _ _ hq,hty.same s4.tup,hF,hbl,hg,fun H5 s5 hE=>⟨Zj (show 2<=1000 by decide),fun p hp=>?_⟩⟩;have s6:=Zb (o:=.tup [.str "text",.str (tx (ZcF (e0::es0) (Y5 e0 (ups (mo (e0::es0)) ss)) (wayX (tsE (e0::es0)) (Y5 e0 (ups (mo (e0::es0)) ss)))))]) hp;exact k _ _ (((((s1.trans s2).trans s3).trans s4).trans s5).trans s6) ⟨p,"text",_,ss,rfl,Zc,hss,.inr (.inr ⟨rfl,c1,hh,_,_,rfl,rfl,rfl,hE,hbl⟩)⟩
end Sh
namespace L2
open PySem PySem.Spec PyProof.Rows
variable {C2:Addr} {X:Cx} {bm2:List Value} {x:Str}
theorem ZaD {M:Model} {A:Around} {E:Value->Shared->Prop} {nm q nm2 q2:Str} {C N N2:Addr} {bs bm bs2:List Value} {hdct hdct2:Bool} {sn sn2:List Str} {sub sub2:List Value} {ab ab2:Bool} {col col2:Option Bool} {dd dd2:Option Addr} {k0 k1 k2 k3 k5 j0 j1 j2 j3 j5:Option Value} {nw nw2:String}
  {h:Heap} {g:Array GenState} {d:Drawn} {t:Nat} {os:OsState} {e:Addr} {oe:Obj} {Q:Bool->Shared->Prop} (hC:h.get? C=some (excClassObj nm q C N bs bm hdct sn sub ab col dd k0 k1 k2 k3 k5 nw)) (hC2:h.get? C2=some (excClassObj nm2 q2 C2 N2 bs2 bm2 hdct2 sn2 sub2 ab2 col2 dd2 j0 j1 j2 j3 j5 nw2))
  (he:h.get? e=some oe) (hcls:oe.cls= .ref C) (hb:bm2.contains (.type "BaseException")=true) (g2:(Value.ref C::bm).contains (.ref C2)=true) (hq:Q true ⟨h,g,d,t,os⟩):wpAny M A (excMatches (.ref e) (.ref C2)) Q E ⟨h,g,d,t,os⟩:=by
 have g1:(Value.ref C2::bm2).contains (.type "BaseException")=true:=by rw[UC,hb,RH]
 have g3:=tc_notTuple;unfold excMatches
 repeat (first
  | (with_reducible refine wpAny_loadPart_at he ?_;rw[hcls])
  | with_reducible refine wpAny_loadPart_at hC2 ?_
  | (with_reducible refine wpAny_isSubtype_exc hC2 ?_;rw[g1])
  | (with_reducible refine wpAny_isSubtype_exc hC ?_;rw[g2])
  | wp_step)
 exact hq
abbrev TXx:=VK->XK->St->Hp->Prop
def PX (X:Cx) (e:Expr) (tx:TXx):Prop:=∀ (pins:List (Addr×Obj)) (s:Shared) (σ:St) (H:Hp) (Q:VK) (E:XK) (QE:Value->Shared->Prop),Inv X pins σ H s ->
 (∀ ev s1 s2 H1,Inv X pins σ H1 s1->CXx X.prog X.w X.stack H1 s1 E ev s2->QE ev s2)->tx Q E σ H->wpAny (model X.prog X.w) X.A (eval e X.env) (EP X pins σ Q) QE s
section
variable {X:Cx} {k:Nat} {f C:Addr} {fd:FuncData} {ps:List Str} {sp:Sp} {dvs:List V} {ds:List Value} {x m:Str} {p pos apos spos:Pos} {e o:Expr} {es:List Expr} {ta:TE} {t:TA}
theorem ZdW {pins:List (Addr×Obj)} {σ:St} {H:Hp} {s:Shared} {Q:VK} {E:XK} {QE:Value->Shared->Prop} {us:List Value} {vs:List V} (F:FnOk X.prog X.w X.K X.mg X.base (CXx X.prog X.w) k f fd ps sp) (hr:Room k X.A) (hb:Binds X.K fd ps ds) (hd:Vals dvs ds)
  (hx:∀ ev s',CXx X.prog X.w X.stack H s E ev s'->QE ev s') (I:Inv X pins σ H s) (r:Vals vs us) (h:sp (vs++dvs) H Q E):wpAny (model X.prog X.w) X.A (call (.ref f) us) (EP X pins σ Q) QE s:=by
 have r2:Vals (vs++dvs) (us++ds):=r.append hd;have hl:(us++ds).length=ps.length:=by rw[←r2.length];exact F.len _ _ _ _ h
 refine wpAny_call (codeAny_mono (F.run X.A X.stack s H ⟨us,[]⟩ (us++ds) (vs++dvs) Q E hr I.env0 (hb s us I.kIn hl) r2 h) fun r s' hq=>?_);cases r with
 | error e=>exact hx e s' hq
 | ok fl =>
  cases fl with
  | ret u=>exact I.after hq
  | next=>exact False.elim hq
  | brk=>exact False.elim hq
  | cont=>exact False.elim hq
theorem Zl8 {name:Str} (G:ZoT X.prog X.w X.K X.mg X.base k name ps sp) (hr:Room k X.A) (ha:∀ E,PA (X.wish E) (e::es) t) (hg:Gl X name:=by rfl)
  (hdb:(name==("__debug__" : Str))=false:=by decide) (he:starEach (e::es) X.env=(false,eval e X.env)::starEach es X.env:=by rfl) (hpl:(backTo pos (starEach es X.env)).any (·.1)=false:=by rfl) :
  PX X (.Call (.Name name p) (e::es) [] pos) (fun Q E σ H=>ZlO sp [] E t σ H Q):=by
 intro pins s σ H Q E QE I hE h;obtain⟨f,fd,F,b,hm,hkp⟩:=G.ex;refine wpAny_Call_Name_kw (Xb I hg hm ?_ hdb);refine PySem.W.callWith_K (h₀:=X.base) I.ok.mod.kin hkp (thn (ha QE pos pins s σ H _ (I.wish QE) h) fun us s1 ⟨vs,H1,I1',r,q⟩=>⟨I1'.unwish.kIn,?_⟩) he hpl;exact ZdW F hr b .nil (fun ev s' hq=>hE ev s1 s' H1 I1'.unwish hq) I1'.unwish r q
theorem Zpj {pl:Sem Bool} (ho:∀ E,PE (X.wish E) o ta) (c:Cls X.K C) (hm:ZlE X.K C m f) (F:FnOk X.prog X.w X.K X.mg X.base (CXx X.prog X.w) k f fd ps sp) (hr:Room k X.A) (hb:Binds X.K fd ps ds) (hd:Vals dvs ds) (ha:∀ E,PA (X.wish E) (e::es) t)
  (hst:starEach (e::es) X.env=(false,eval e X.env)::starEach es X.env:=by rfl) (hpl:(backTo pos (starEach es X.env)).any (·.1)=false:=by rfl)
  (ht:eval (.Call (.Attribute o m apos) (e::es) [] pos) X.env=(do
   let ov ←eval o X.env
   standAt apos.atName
   let (f,first) ←holding [ov] (getMethod ov m pl)
   callWith pos f first (backTo pos (starEach (e::es) X.env)) (backToKw pos (keywordEach [] X.env))):=by rfl) :
  PX X (.Call (.Attribute o m apos) (e::es) [] pos) (fun Q E σ H=>ZcA C m sp dvs E ta t σ H Q):=by
 intro pins s σ H Q E QE I hE h;refine PySem.W.methodCall_KW (pl:=pl) (thn (ho QE pins s σ H _ (I.wish QE) h) fun u s1 ⟨x,H1,I1,rx,a,dx,fs,ex,ea,l,q⟩=>?_) ht;subst ex;obtain rfl:u=Value.ref a:=rx;refine YO I1.unwish ea c hm l ?_;refine PySem.W.callWith_K (first:=[.ref a]) (h₀:=X.base) I.ok.mod.kin hm.kp (thn (ha QE pos pins s1 σ H1 _ I1 q) fun us s2 ⟨vs,H2,I2,r,q2⟩=>⟨I2.unwish.kIn,?_⟩) hst hpl;exact ZdW (us:=.ref a::us) (vs:=.ref a::vs) F hr hb hd (fun ev s' hq=>hE ev s2 s' H2 I2.unwish hq) I2.unwish (.cons rfl r) q2
theorem ZjF {pl:Sem Bool} (ho:∀ E,PE (X.wish E) o ta) (c:Cls X.K C) (hm:ZlE X.K C m f) (F:FnOk X.prog X.w X.K X.mg X.base (CXx X.prog X.w) k f fd ps sp) (hr:Room k X.A) (hb:Binds X.K fd ps ds) (hd:Vals dvs ds)
  (ht:eval (.Call (.Attribute o m apos) [] [] pos) X.env=(do
   let ov ←eval o X.env
   standAt apos.atName
   let (f,first) ←holding [ov] (getMethod ov m pl)
   callWith pos f first (backTo pos (starEach [] X.env)) (backToKw pos (keywordEach [] X.env))):=by rfl) :
  PX X (.Call (.Attribute o m apos) [] [] pos) (fun Q E σ H=>ZcA C m sp dvs E ta Znf σ H Q):=by
 intro pins s σ H Q E QE I hE h;refine PySem.W.methodCall_KW (pl:=pl) (thn (ho QE pins s σ H _ (I.wish QE) h) fun u s1 ⟨x,H1,I1,rx,a,dx,fs,ex,ea,l,q⟩=>?_) ht;subst ex;obtain rfl:u=Value.ref a:=rx;refine YO I1.unwish ea c hm l ?_;exact PySem.W.callWith_K0 (first:=[.ref a]) I1.unwish.kIn hm.kp (ZdW (us:=[.ref a]) (vs:=[.ref a]) F hr hb hd (fun ev s' hq=>hE ev s1 s' H1 I1.unwish hq) I1.unwish (.cons rfl .nil) q)
theorem Zl7 (M:Mk X.K C f) (F:FnOk X.prog X.w X.K X.mg X.base (CXx X.prog X.w) k f fd ps sp) (hr:Room (k+1) X.A) (hg:Gl X x) (hm:X.mg x=some (.ref C)) (hb:Binds X.K fd ps ds) (hd:Vals dvs ds)
  (ha:∀ E,PA (X.wish E) (e::es) t) (hdb:(x==("__debug__" : Str))=false:=by decide) (he:starEach (e::es) X.env=(false,eval e X.env)::starEach es X.env:=by rfl) (hpl:(backTo pos (starEach es X.env)).any (·.1)=false:=by rfl) :
  PX X (.Call (.Name x p) (e::es) [] pos) (fun Q E σ H=>Zji C sp dvs E t σ H Q):=by
 intro pins s σ H Q E QE I hE h;refine wpAny_Call_Name_kw (Xb I hg hm ?_ hdb);refine PySem.W.callWith_K (h₀:=X.base) I.ok.mod.kin M.kp (thn (ha QE pos pins s σ H _ (I.wish QE) h) fun us s1 ⟨vs,H1,I1',r,q⟩=>⟨I1'.unwish.kIn,?_⟩) he hpl;have I1:=I1'.unwish;have hq:=q (s1.heap.objs.size+1) s1.heap.objs.size (I1.hok.fresh (Ux _)) (I1.hok.fresh (Qi _)) (QD (WF _));have I2:=Inv.made (C:=C) I1;have r2:Vals (V.ref (s1.heap.objs.size+1)::(vs++dvs)) (Value.ref (s1.heap.objs.size+1)::(us++ds)):=.cons rfl (r.append hd);have hl:(Value.ref (s1.heap.objs.size+1)::us++ds).length=ps.length:=by
  have e:=r2.length;rw[F.len _ _ _ _ hq]at e;exact e.symm
 refine wpAny_call (Ze7 (f:=f) I1.kIn M.makes M.init (beq_iff_eq.mp M.fn) (codeAny_mono (F.run _ X.stack _ _ ⟨Value.ref (s1.heap.objs.size+1)::us,[]⟩ (Value.ref (s1.heap.objs.size+1)::(us++ds)) _ _ E (hr.make C us [])
  (I2.env0.make C us []) (hb _ (Value.ref (s1.heap.objs.size+1)::us) I2.kIn hl) r2 hq) fun r s' hq'=>?_))
 cases r with
 | error e=>exact hE e _ s' _ I2 hq'
 | ok fl =>
  cases fl with
  | ret u =>
   obtain⟨v,H',I3,rv,ev,q3⟩:=I2.after hq';subst ev;exact⟨rv,⟨V.ref (s1.heap.objs.size+1),H',I3,rfl,q3⟩⟩
  | next=>exact False.elim hq'
  | brk=>exact False.elim hq'
  | cont=>exact False.elim hq'
end
abbrev TC:=(St->Hp->Prop)->XK->St->Hp->Prop
def PBc (X:Cx) (body:List Stmt) (tb:TC):Prop:=∀ (pins:List (Addr×Obj)) (s:Shared) (σ:St) (H:Hp) (nx:St->Hp->Prop) (E:XK) (Qn:Shared->Prop) (QE:Value->Shared->Prop),Inv X pins σ H s->(∀ s' σ' H',Inv X pins σ' H' s'->nx σ' H'->Qn s') ->
 (∀ e s1 s2 H1,Inv X pins σ H1 s1->CXx X.prog X.w X.stack H1 s1 E e s2->QE e s2)->tb nx E σ H->wpAny (model X.prog X.w) X.A (execs body X.env) (fun f s'=>match f with | .next=>Qn s' | _=>False) QE s
section
variable {X:Cx}
theorem Zmk {e:Expr} {spos:Pos} {tx:TXx} (hx:PX X e tx) (hsw:swapsWith e none spos.line X.env=pure false:=by rfl):PBc X [.Expr e spos] (fun nx E σ H=>tx (fun _ H2=>nx σ H2) E σ H):=by
 intro pins s σ H nx E Qn QE I hn hE h;refine wpAny_execs_cons (wpAny_Expr_any ?_ I.quiet hsw);exact thn (hx pins s σ H _ E QE I hE h) fun u s1 ⟨v,H1,I1,rv,q⟩=>wpAny_execs_nil (hn _ _ _ I1 q)
theorem ZnX {c:Expr} {a b:List Stmt} {pos:Pos} {tc:TT} {ta tb:TC} (hc:∀ E,PT (X.wish E) c tc) (ha:PBc X a ta) (hb:PBc X b tb):PBc X [.If c a b pos] (fun nx E σ H=>tc σ H fun d H1=>if d=true then ta nx E σ H1 else tb nx E σ H1):=by
 intro pins s σ H nx E Qn QE I hn hE h;refine wpAny_execs_cons (wpAny_If (thn (hc QE pins s σ H _ (I.wish QE) h) fun d s1 ⟨H1,I1,q1⟩=>?_));cases d with
 | true=>exact wpAny_mono (ha pins s1 σ H1 nx E (fun s'=>Qn s') QE I1.unwish hn hE q1) (fun f s' q=>by cases f <;> first | exact wpAny_execs_nil q | exact q.elim) fun _ _ z=>z
 | false=>exact wpAny_mono (hb pins s1 σ H1 nx E (fun s'=>Qn s') QE I1.unwish hn hE q1) (fun f s' q=>by cases f <;> first | exact wpAny_execs_nil q | exact q.elim) fun _ _ z=>z
theorem ZjK {e:Expr} {spos:Pos} {rest:List Stmt} {tx:TXx} {t2:TS} (hx:PX X e tx) (h2:∀ E,PSs (X.wish E) rest t2) (hsw:swapsWith e none spos.line X.env=pure false:=by rfl) :
  PBc X (.Expr e spos::rest) (fun nx E σ H=>tx (fun _ H2=>t2 {nx:=nx,rt:=fun _ _=>False,bk:=fun _ _=>False,ct:=fun _ _=>False} σ H2) E σ H):=by
 intro pins s σ H nx E Qn QE I hn hE h;refine wpAny_execs_cons (wpAny_Expr_any ?_ I.quiet hsw);refine thn (hx pins s σ H _ E QE I hE h) fun u s1 ⟨v,H1,I1,rv,q⟩=>?_;refine wpAny_mono (h2 QE pins s1 σ H1 _ (I1.wish QE) q) (fun f s' r=>?_) fun _ _ z=>z;cases f with
 | next =>
  obtain⟨σ6,H6,I6,q7⟩:=r;exact hn _ _ _ I6.unwish q7
 | brk =>
  obtain⟨σ6,H6,I6,q7⟩:=r;exact q7
 | cont =>
  obtain⟨σ6,H6,I6,q7⟩:=r;exact q7
 | ret u =>
  obtain⟨v6,σ6,H6,I6,r6,q7⟩:=r;exact q7
end
def Znn (K:PySem.W.Frag) (mg:Str->Option Value) (C2:Addr) (tb:TC) (i:Nat) (hs:Addr->Obj->TS):TS:=fun D σ H=>tb D.nx
 (fun cls _ H2=>(∃ y C bm,cls= .ref C/\XCls K mg y C bm/\bm.contains (.ref C2)=true)/\∀ ea oe,oe.cls=cls->H2 ea=none->hs ea oe (ZmS D i) (σ.set i (some (.ref ea))) H2) σ H
theorem Zma {n:Str} {np hpos pos:Pos} {body:List Stmt} {tb:TC} {b₀:Stmt} {suite:List Stmt} {hs:Addr->Obj->TS} (i:Nat)
  (hcalm:X.calm=true) (hstk:X.stack=X.env::X.outer) (hfr:X.env.frame=some X.env.locals) (hB:PBc X body tb) (c:XCls X.K X.mg x C2 bm2)
  (hsuite:∀ ea oe pn,(ea,oe)∈pn->PSs (X.caught ea pn) (b₀::suite) (hs ea oe)) (hN:X.N.Nodup) (hi:X.N[i]?=some n:=by rfl) (hk:X.env.scope.names.lookup n=some .local:=by rfl) (hgx:Gl X x:=by rfl)
  (hdx:(x==("__debug__" : Str))=false:=by decide) :
  PS X (.Try body [.ExceptHandler (some (.Name x np)) (some n) (b₀::suite) hpos] [] [] pos) (Znn X.K X.mg C2 tb i hs):=by
 intro pins s σ H D I h;refine wpAny_Try_except (wpAny_mono (hB pins s σ H _ _ (fun s'=>wpAny (model X.prog X.w) X.A (execs [] X.env) (SP X pins D) X.xe s') _ I (fun s' σ2 H2 I2 q2=>wpAny_execs_nil ⟨σ2,H2,I2,q2⟩) ?_ h) (fun f s' q=>by cases f <;> first | exact q | exact q.elim) fun _ _ z=>z);intro ev s1 s2 H1 I1 hq;obtain⟨ea,cls,a0,H',B,rfl,os,bare,un,hok,fl,c1,c2,c3,⟨y,C,bm,rfl,cy,hsub⟩,hE⟩:=hq;have fl0:Heap.FlyingW B (X.env::X.outer) ea (.ref C) a0 s2.heap:=by rw[←hstk];exact fl
 have nfr:ea∉L2.frs X.stack:=fun hm=>by
  obtain⟨_,o,ho,hd⟩:=fl.2.2.1.mem hm;obtain⟨_,_,_,oe,vs',_,_,_,he',_,hd',_⟩:=fl;rw[he']at ho;cases ho;exact hd _ hd'
 have hfrs:L2.frs X.stack=X.env.locals::X.fs:=by rw[hstk];exact Zcg hfr
 have nloc:ea≠X.env.locals:=fun z=>nfr (by rw[hfrs,z];exact Qd);have nfs:ea∉X.fs:=fun z=>nfr (by rw[hfrs];exact Qg _ z);have nH:H' ea=none:=by
  cases q3:H' ea with
  | none=>rfl
  | some u =>
   obtain⟨o,ho⟩:=c1 ea u q3;rw[fl.2.1]at ho;cases ho
 have key:∀ (h9:Heap) (tk:Nat),B.StaysIn h9->s2.heap.UpToSlots h9->Inv X pins σ H' {s2 with heap:=h9,toks:=tk}:=fun h9 tk hB up=>by
  refine I1.call' (ch:=[]) os ⟨fun b o q n hb _=>hB b o (c2 b o q n hb),fun b o q n hb _=>?_,un.free,fun b o q _=>?_,un.tups,un.frzs,un.tbls⟩ (hok.stays c1 fl.1 hB) bare (fun b z=>nomatch z)
  ·obtain⟨sl,q2⟩:=un.slot b o q n hb (by simp);obtain⟨_,o',ho,hd⟩:=fl.2.2.1.mem (b:=b) hb;rw[q2]at ho;cases ho;obtain⟨sl2,q3⟩:=up b _ q2 hd;exact⟨sl2,q3⟩
  ·by_cases hb:b∈L2.frs X.stack
   ·obtain⟨_,o',ho,hd⟩:=fl.2.2.1.mem (b:=b) hb;obtain⟨sl2,q3⟩:=up b _ ho hd;exact⟨_,q3⟩
   ·obtain⟨o',q3⟩:=c3 b o q hb;exact⟨o',hB b o' q3⟩
 refine wpAny_looks_onW (by rw[←hstk];exact I1.ok.frames) hfr fl0 fun h2 held up2=>wpAny_landsW held fun h3 fl3 up3=>?_;have up23:=up2.trans up3;obtain⟨oe3,ws3,he3,hcls3,hd3,_⟩:=fl3.first;have I3:=key h3 s2.toks fl3.1 up23;have J3:=I3.caught (oe:=oe3) he3 nH nloc nfs (fun v z=>by rw[hd3]at z;cases z);obtain⟨N1,nm1,qn1,bs1,hdct1,sn1,sub1,ab1,col1,dd1,k01,k11,k21,k31,k51,mN1,hC1,_,_,T1⟩:=cy.at I3.kIn;obtain⟨N2,nm2,qn2,bs2,hdct2,sn2,sub2,ab2,col2,dd2,k02,k12,k22,k32,k52,mN2,hC2,_,_,T2⟩:=c.at I3.kIn;refine wpAny_handleBy_cons (codeAny_handlers_test (Xb J3 hgx c.bound ?_ hdx)) (by intro z;cases z);refine ZaW hC1 hC2 he3 hcls3 (T2.hasType PySem.F.excBase_ValueError.hasBase) hsub ?_;refine codeAny_handlers_suite_as (lands_againW fl3 fun h4 fl4 up4=>?_);obtain⟨oe4,ws4,he4,hcls4,hd4,_⟩:=fl4.first;have I4:=key h4 s2.toks fl4.1 (up23.trans up4);have J4:=I4.caught (oe:=oe4) he4 nH nloc nfs (fun v z=>by rw[hd4]at z;cases z);refine Zbt (X:=X.caught ea (X.pn++pins++[(ea,oe4)])) J4 hN hi (.inl hk) (v:=.ref ea) rfl (fun s5 J5=>?_) (.inr hk);refine wpAny_mono (hsuite ea oe4 _ (QU _ (Qm.mpr rfl)) [] s5 _ H' (ZmS D i) J5 (hE ea oe4 hcls4 nH)) (fun fl6 s6 q6=>?_) (fun _ _ z=>z.elim);cases fl6 with
 | next =>
  obtain⟨σ6,H6,I6,q7⟩:=q6;exact XU (I6.uncaught I.ok) hN hi hk fun s7 I7=>⟨_,H6,I7,q7⟩
 | brk =>
  obtain⟨σ6,H6,I6,q7⟩:=q6;exact XU (I6.uncaught I.ok) hN hi hk fun s7 I7=>⟨_,H6,I7,q7⟩
 | cont =>
  obtain⟨σ6,H6,I6,q7⟩:=q6;exact XU (I6.uncaught I.ok) hN hi hk fun s7 I7=>⟨_,H6,I7,q7⟩
 | ret u =>
  obtain⟨v6,σ6,H6,I6,r6,q7⟩:=q6;exact XU (I6.uncaught I.ok) hN hi hk fun s7 I7=>⟨v6,_,H6,I7,r6,q7⟩
def Zo0 (K:PySem.W.Frag) (mg:Str->Option Value) (C2:Addr) (tb:TC) (hs:Addr->Obj->TS):TS:=fun D σ H=>tb D.nx
 (fun cls _ H2=>(∃ y C bm,cls= .ref C/\XCls K mg y C bm/\(Value.ref C::bm).contains (.ref C2)=true)/\∀ ea oe,oe.cls=cls->H2 ea=none->hs ea oe D σ H2) σ H
theorem Zhw {np hpos pos:Pos} {body:List Stmt} {tb:TC} {b₀:Stmt} {suite:List Stmt} {hs:Addr->Obj->TS}
  (hcalm:X.calm=true) (hstk:X.stack=X.env::X.outer) (hfr:X.env.frame=some X.env.locals) (hB:PBc X body tb) (c:XCls X.K X.mg x C2 bm2)
  (hsuite:∀ ea oe pn,(ea,oe)∈pn->PSs (X.caught ea pn) (b₀::suite) (hs ea oe)) (hgx:Gl X x:=by rfl)
  (hdx:(x==("__debug__" : Str))=false:=by decide) :
  PS X (.Try body [.ExceptHandler (some (.Name x np)) none (b₀::suite) hpos] [] [] pos) (Zo0 X.K X.mg C2 tb hs):=by
 intro pins s σ H D I h;refine wpAny_Try_except (wpAny_mono (hB pins s σ H _ _ (fun s'=>wpAny (model X.prog X.w) X.A (execs [] X.env) (SP X pins D) X.xe s') _ I (fun s' σ2 H2 I2 q2=>wpAny_execs_nil ⟨σ2,H2,I2,q2⟩) ?_ h) (fun f s' q=>by cases f <;> first | exact q | exact q.elim) fun _ _ z=>z);intro ev s1 s2 H1 I1 hq;obtain⟨ea,cls,a0,H',B,rfl,os,bare,un,hok,fl,c1,c2,c3,⟨y,C,bm,rfl,cy,hsub⟩,hE⟩:=hq;have fl0:Heap.FlyingW B (X.env::X.outer) ea (.ref C) a0 s2.heap:=by rw[←hstk];exact fl
 have nfr:ea∉L2.frs X.stack:=fun hm=>by
  obtain⟨_,o,ho,hd⟩:=fl.2.2.1.mem hm;obtain⟨_,_,_,oe,vs',_,_,_,he',_,hd',_⟩:=fl;rw[he']at ho;cases ho;exact hd _ hd'
 have hfrs:L2.frs X.stack=X.env.locals::X.fs:=by rw[hstk];exact Zcg hfr
 have nloc:ea≠X.env.locals:=fun z=>nfr (by rw[hfrs,z];exact Qd);have nfs:ea∉X.fs:=fun z=>nfr (by rw[hfrs];exact Qg _ z);have nH:H' ea=none:=by
  cases q3:H' ea with
  | none=>rfl
  | some u =>
   obtain⟨o,ho⟩:=c1 ea u q3;rw[fl.2.1]at ho;cases ho
 have key:∀ (h9:Heap) (tk:Nat),B.StaysIn h9->s2.heap.UpToSlots h9->Inv X pins σ H' {s2 with heap:=h9,toks:=tk}:=fun h9 tk hB up=>by
  refine I1.call' (ch:=[]) os ⟨fun b o q n hb _=>hB b o (c2 b o q n hb),fun b o q n hb _=>?_,un.free,fun b o q _=>?_,un.tups,un.frzs,un.tbls⟩ (hok.stays c1 fl.1 hB) bare (fun b z=>nomatch z)
  ·obtain⟨sl,q2⟩:=un.slot b o q n hb (by simp);obtain⟨_,o',ho,hd⟩:=fl.2.2.1.mem (b:=b) hb;rw[q2]at ho;cases ho;obtain⟨sl2,q3⟩:=up b _ q2 hd;exact⟨sl2,q3⟩
  ·by_cases hb:b∈L2.frs X.stack
   ·obtain⟨_,o',ho,hd⟩:=fl.2.2.1.mem (b:=b) hb;obtain⟨sl2,q3⟩:=up b _ ho hd;exact⟨_,q3⟩
   ·obtain⟨o',q3⟩:=c3 b o q hb;exact⟨o',hB b o' q3⟩
 refine wpAny_looks_onW (by rw[←hstk];exact I1.ok.frames) hfr fl0 fun h2 held up2=>wpAny_landsW held fun h3 fl3 up3=>?_;have up23:=up2.trans up3;obtain⟨oe3,ws3,he3,hcls3,hd3,_⟩:=fl3.first;have I3:=key h3 s2.toks fl3.1 up23;have J3:=I3.caught (oe:=oe3) he3 nH nloc nfs (fun v z=>by rw[hd3]at z;cases z);obtain⟨N1,nm1,qn1,bs1,hdct1,sn1,sub1,ab1,col1,dd1,k01,k11,k21,k31,k51,mN1,hC1,_,_,T1⟩:=cy.at I3.kIn;obtain⟨N2,nm2,qn2,bs2,hdct2,sn2,sub2,ab2,col2,dd2,k02,k12,k22,k32,k52,mN2,hC2,_,_,T2⟩:=c.at I3.kIn;refine wpAny_handleBy_cons (codeAny_handlers_test (Xb J3 hgx c.bound ?_ hdx)) (by intro z;cases z);refine ZaD hC1 hC2 he3 hcls3 (T2.hasType PySem.F.excBase_ValueError.hasBase) hsub ?_;refine codeAny_handlers_suite (lands_againW fl3 fun h4 fl4 up4=>?_);obtain⟨oe4,ws4,he4,hcls4,hd4,_⟩:=fl4.first;have I4:=key h4 s2.toks fl4.1 (up23.trans up4);have J4:=I4.caught (oe:=oe4) he4 nH nloc nfs (fun v z=>by rw[hd4]at z;cases z);refine wpAny_mono (hsuite ea oe4 _ (QU _ (Qm.mpr rfl)) [] _ _ H' D J4 (hE ea oe4 hcls4 nH)) (fun fl6 s6 q6=>?_) (fun _ _ z=>z.elim);cases fl6 with
 | next =>
  obtain⟨σ6,H6,I6,q7⟩:=q6;exact⟨_,H6,I6.uncaught I.ok,q7⟩
 | brk =>
  obtain⟨σ6,H6,I6,q7⟩:=q6;exact⟨_,H6,I6.uncaught I.ok,q7⟩
 | cont =>
  obtain⟨σ6,H6,I6,q7⟩:=q6;exact⟨_,H6,I6.uncaught I.ok,q7⟩
 | ret u =>
  obtain⟨v6,σ6,H6,I6,r6,q7⟩:=q6;exact⟨v6,_,H6,I6.uncaught I.ok,r6,q7⟩
structure FunD (K:PySem.W.Frag) (x qual:Str) (st:Stmt) (f:Addr) (fd:FuncData):Prop where
 ex:∃ (oc:Value) (od:Option Addr) (dV kV doc pm:Value) (an:Option Addr) (cdv ct:Value) (osl:Array (Option Value)),
  fd=PySem.W.fnOf x qual (ZO st) (ZG st) (Zg st) dV kV doc pm an cdv ct/\K.lookup f=some ⟨oc,od,.func fd,osl⟩/\PySem.W.codeIn K cdv qual=true
structure HasM (K:PySem.W.Frag) (C:Addr) (m qual:Str) (st:Stmt) (ps:List Str) (dss:List (List V)):Prop where
 ex:∃ f fd,FunD K m qual st f fd/\ZlE K C m f/\∀ dvs∈dss,∃ ds,Vals dvs ds/\Binds K fd ps ds
structure HasI (K:PySem.W.Frag) (C:Addr) (qual:Str) (st:Stmt) (ps:List Str):Prop where
 ex:∃ f fd,FunD K "__init__" qual st f fd/\Mk K C f/\Binds K fd ps []
structure MOkX (P:Program) (w:World) (K:PySem.W.Frag) (mg:Str->Option Value) (base:Heap) (C:Addr) (k:Nat) (m:Str) (ps:List Str) (dss:List (List V)) (sp:Sp):Prop where
 ex:∃ f fd,FnOk P w K mg base (CXx P w) k f fd ps sp/\ZlE K C m f/\∀ dvs∈dss,∃ ds,Vals dvs ds/\Binds K fd ps ds
structure IOkX (P:Program) (w:World) (K:PySem.W.Frag) (mg:Str->Option Value) (base:Heap) (C:Addr) (k:Nat) (ps:List Str) (sp:Sp):Prop where
 ex:∃ f fd,FnOk P w K mg base (CXx P w) k f fd ps sp/\Mk K C f/\Binds K fd ps []
section
variable {P:Program} {w:World} {K:PySem.W.Frag} {mg:Str->Option Value} {base:Heap} {C:Addr} {m qual:Str} {st:Stmt} {N ps:List Str} {dss:List (List V)} {j k:Nat} {sp:Sp}
theorem FunD.okX {f:Addr} {fd:FuncData} (F:FunD K x qual st f fd) (S:Zm N ps (Zg st)) (len:∀ vs H Q E,sp vs H Q E->vs.length=ps.length)
  (hbody:∀ (f:Addr) (cdv:Value) (A:Around) (outer:List Env) (s:Shared) (vs:List V) (H:Hp) (Q:VK) (E:XK),Lv (Zdq (CXx P w) P w K mg base N qual (Zg st) f cdv A outer s H E) E->Room k (A.deeper (envOfC qual (Zg st) s.heap.objs.size f cdv))->sp vs H Q E ->
   ∃ t,PSs (Zdq (CXx P w) P w K mg base N qual (Zg st) f cdv A outer s H E) (ZG st) t/\t {nx:=fun _ H'=>Q .non H',rt:=Q} (start N vs) H):FnOk P w K mg base (CXx P w) (k+1) f fd ps sp:=by
 obtain⟨oc,od,dV,kV,doc,pm,an,cdv,ct,osl,rfl,lk,hcd⟩:=F.ex;refine ZmX lk hcd S len fun A outer s H vs Q E hr hsp=>?_;exact hbody f cdv A outer s vs H Q E ⟨rfl,rfl,rfl,fun _ _ h=>h⟩ hr hsp
theorem HasM.okX (D:HasM K C m qual st ps dss) (S:Zm N ps (Zg st)) (len:∀ vs H Q E,sp vs H Q E->vs.length=ps.length)
  (hbody:∀ (f:Addr) (cdv:Value) (A:Around) (outer:List Env) (s:Shared) (vs:List V) (H:Hp) (Q:VK) (E:XK),Lv (Zdq (CXx P w) P w K mg base N qual (Zg st) f cdv A outer s H E) E->Room k (A.deeper (envOfC qual (Zg st) s.heap.objs.size f cdv))->sp vs H Q E ->
   ∃ t,PSs (Zdq (CXx P w) P w K mg base N qual (Zg st) f cdv A outer s H E) (ZG st) t/\t {nx:=fun _ H'=>Q .non H',rt:=Q} (start N vs) H):MOkX P w K mg base C (k+1) m ps dss sp:=by
 obtain⟨f,fd,F,me,b⟩:=D.ex;exact⟨f,fd,F.okX S len hbody,me,b⟩
theorem HasI.okX (D:HasI K C qual st ps) (S:Zm N ps (Zg st)) (len:∀ vs H Q E,sp vs H Q E->vs.length=ps.length)
  (hbody:∀ (f:Addr) (cdv:Value) (A:Around) (outer:List Env) (s:Shared) (vs:List V) (H:Hp) (Q:VK) (E:XK),Lv (Zdq (CXx P w) P w K mg base N qual (Zg st) f cdv A outer s H E) E->Room k (A.deeper (envOfC qual (Zg st) s.heap.objs.size f cdv))->sp vs H Q E ->
   ∃ t,PSs (Zdq (CXx P w) P w K mg base N qual (Zg st) f cdv A outer s H E) (ZG st) t/\t {nx:=fun _ H'=>Q .non H',rt:=Q} (start N vs) H):IOkX P w K mg base C (k+1) ps sp:=by
 obtain⟨f,fd,F,me,b⟩:=D.ex;exact⟨f,fd,F.okX S len hbody,me,b⟩
theorem MOkX.mono (G:MOkX P w K mg base C j m ps dss sp) (h:j<=k):MOkX P w K mg base C k m ps dss sp:=by
 obtain⟨f,fd,F,r⟩:=G.ex;exact⟨f,fd,F.mono h,r⟩
theorem IOkX.mono (G:IOkX P w K mg base C j ps sp) (h:j<=k):IOkX P w K mg base C k ps sp:=by
 obtain⟨f,fd,F,r⟩:=G.ex;exact⟨f,fd,F.mono h,r⟩
theorem Zdx {fd:FuncData} {T:Addr} {o:Obj} {items:Array Value} {n:Nat} {i:Int} {t:Tok} (hd:fd.defaults= .ref T) (hl:K.lookup T=some o) (ho:o.data= .seq items n) (hi:items= #[.int i t]) {ds:List Value}
  (h:∀ us:List Value,(us++ds).length=ps.length->∃ kk:Option (Array Value)->Sem (List (Str×Value)),bindArgs fd ⟨us,[]⟩=seqItems? fd.defaults >>= kk/\kk (some #[.int i t])=pure (ps.zip (us++ds))):Binds K fd ps ds:=fun s us hK hlen=>by
 obtain⟨kk,h1,h2⟩:=h us hlen;exact PySem.W.binds_K hK hd hl ho h1 (by rw[hi];exact h2)
end
theorem ZhL:X6 (CXx X.prog X.w) X (fun _ _ _=>False):=fun pins σ H s e s' I hq=>by
 obtain⟨ea,cls,a0,H',B,rfl,os,bare,un,hok,fl,c1,c2,c3,hE⟩:=hq;exact hE.elim
section
variable {X:Cx} {C:Addr} {m:Str} {ps:List Str} {dss:List (List V)} {k:Nat} {sp:Sp} {E:XK} {p pos apos:Pos} {e o:Expr} {es:List Expr} {ta:TE} {t:TA} {x:Str}
theorem ZfL {pl:Sem Bool} (G:MOkX X.prog X.w X.K X.mg X.base C k m ps dss sp) (dvs:List V) (hdv:dvs∈dss) (L:Lv X E) (hr:Room k X.A) (c:Cls X.K C) (he:PE X o ta) (ha:PA X (e::es) t)
  (hst:starEach (e::es) X.env=(false,eval e X.env)::starEach es X.env:=by rfl) (hpl:(backTo pos (starEach es X.env)).any (·.1)=false:=by rfl)
  (ht:eval (.Call (.Attribute o m apos) (e::es) [] pos) X.env=(do
   let ov ←eval o X.env
   standAt apos.atName
   let (f,first) ←holding [ov] (getMethod ov m pl)
   callWith pos f first (backTo pos (starEach (e::es) X.env)) (backToKw pos (keywordEach [] X.env))):=by rfl) :
  PE X (.Call (.Attribute o m apos) (e::es) [] pos) (ZcA C m sp dvs E ta t):=by
 obtain⟨f,fd,F,me,b⟩:=G.ex;obtain⟨ds,hv,hb⟩:=b dvs hdv;exact Zmf (pl:=pl) he c me F hr hb hv L.pass ha hst hpl ht
theorem ZhG {pl:Sem Bool} (G:MOkX X.prog X.w X.K X.mg X.base C k m ps dss sp) (dvs:List V) (hdv:dvs∈dss) (L:Lv X E) (hr:Room k X.A) (c:Cls X.K C) (he:PE X o ta)
  (ht:eval (.Call (.Attribute o m apos) [] [] pos) X.env=(do
   let ov ←eval o X.env
   standAt apos.atName
   let (f,first) ←holding [ov] (getMethod ov m pl)
   callWith pos f first (backTo pos (starEach [] X.env)) (backToKw pos (keywordEach [] X.env))):=by rfl) :
  PE X (.Call (.Attribute o m apos) [] [] pos) (ZcA C m sp dvs E ta Znf):=by
 obtain⟨f,fd,F,me,b⟩:=G.ex;obtain⟨ds,hv,hb⟩:=b dvs hdv;exact ZeU (pl:=pl) he c me F hr hb hv L.pass ht
theorem ZhH {pl:Sem Bool} (G:MOkX X.prog X.w X.K X.mg X.base C k m ps dss sp) (dvs:List V) (hdv:dvs∈dss) (hr:Room k X.A) (c:Cls X.K C) (he:PE X o ta)
  (ht:eval (.Call (.Attribute o m apos) [] [] pos) X.env=(do
   let ov ←eval o X.env
   standAt apos.atName
   let (f,first) ←holding [ov] (getMethod ov m pl)
   callWith pos f first (backTo pos (starEach [] X.env)) (backToKw pos (keywordEach [] X.env))):=by rfl) :
  PE X (.Call (.Attribute o m apos) [] [] pos) (ZcA C m sp dvs (fun _ _ _=>False) ta Znf):=by
 obtain⟨f,fd,F,me,b⟩:=G.ex;obtain⟨ds,hv,hb⟩:=b dvs hdv;exact ZeU (pl:=pl) he c me F hr hb hv ZhL ht
theorem ZnV (G:IOkX X.prog X.w X.K X.mg X.base C k ps sp) (hr:Room (k+1) X.A) (hm:X.mg x=some (.ref C)) (ha:PA X (e::es) t) (hg:Gl X x:=by rfl) (hdb:(x==("__debug__" : Str))=false:=by decide) (he:starEach (e::es) X.env=(false,eval e X.env)::starEach es X.env:=by rfl) (hpl:(backTo pos (starEach es X.env)).any (·.1)=false:=by rfl) :
  PE X (.Call (.Name x p) (e::es) [] pos) (Zji C sp [] (fun _ _ _=>False) t):=by
 obtain⟨f,fd,F,me,b⟩:=G.ex;exact Zmg me F hr hg hm b .nil ZhL ha hdb he hpl
theorem Zpi (G:IOkX X.prog X.w X.K X.mg X.base C k ps sp) (hr:Room (k+1) X.A) (hm:X.mg x=some (.ref C)) (ha:∀ E,PA (X.wish E) (e::es) t) (hg:Gl X x:=by rfl) (hdb:(x==("__debug__" : Str))=false:=by decide) (he:starEach (e::es) X.env=(false,eval e X.env)::starEach es X.env:=by rfl) (hpl:(backTo pos (starEach es X.env)).any (·.1)=false:=by rfl) :
  PX X (.Call (.Name x p) (e::es) [] pos) (fun Q E σ H=>Zji C sp [] E t σ H Q):=by
 obtain⟨f,fd,F,me,b⟩:=G.ex;exact Zl7 me F hr hg hm b .nil ha hdb he hpl
theorem ZnO {pl:Sem Bool} (G:MOkX X.prog X.w X.K X.mg X.base C k m ps dss sp) (dvs:List V) (hdv:dvs∈dss) (hr:Room k X.A) (c:Cls X.K C) (ho:∀ E,PE (X.wish E) o ta)
  (ht:eval (.Call (.Attribute o m apos) [] [] pos) X.env=(do
   let ov ←eval o X.env
   standAt apos.atName
   let (f,first) ←holding [ov] (getMethod ov m pl)
   callWith pos f first (backTo pos (starEach [] X.env)) (backToKw pos (keywordEach [] X.env))):=by rfl) :
  PX X (.Call (.Attribute o m apos) [] [] pos) (fun Q E σ H=>ZcA C m sp dvs E ta Znf σ H Q):=by
 obtain⟨f,fd,F,me,b⟩:=G.ex;obtain⟨ds,hv,hb⟩:=b dvs hdv;exact ZjF (pl:=pl) ho c me F hr hb hv ht
end
open PySem PySem.Spec PyProof.Rows PySem.W
def vvO (p d:Addr):HO:=.ext fun h=>h.IsValuesView p d
theorem Zh7:MtR X "dict.values" (fun x vs H Q=>∃ d kvs,x= .ref d/\vs=[]/\H d=some (.dK kvs)/\∀ p,H p=none->Q (.ref p) (upd H p (vvO p d))):=by
 intro pins s σ H x vs v us Q I rx rv h;obtain⟨d,kvs,rfl,rfl,hd,q⟩:=h;cases rx;cases rv;obtain⟨hz,lo,vs',kv,dd⟩:=ZaE I.hok hd;refine call_meetsIn PySem.F.slot_dict_values dd.typeIs PySem.F.entry_dict_values (PySem.F.args_dict_values_1 _) (meets_dict_values (Zu X.prog X.w) d lo) ⟨⟨_,dd⟩,?_⟩;refine⟨.ref s.heap.objs.size,_,I.laid (t':=s.toks) (o:=vvO s.heap.objs.size d) (fun b u e=>Qh _ e) (Qi _) ?_,rfl,q _ (I.hok.fresh (Qi _))⟩;refine⟨⟨_,Qz _ rfl,rfl,rfl⟩,⟨_,Qz _ rfl⟩,fun h1 h2 ⟨o,e,r⟩ k=>⟨o,k o e,r⟩⟩
def ZlL (td:TE):TE:=fun σ H Q=>td σ H fun x H1=>∃ d kvs,x= .ref d/\H1 d=some (.dK kvs)/\∀ p,H1 p=none->Q (.ref p) (upd H1 p (vvO p d))
theorem Zai {o:Expr} {apos cpos:Pos} {td:TE} (ho:PE X o td) (hbase:attributeBase o "values" X.env (eval o X.env)=eval o X.env:=by rfl) (hline:(apos.endLine==cpos.line)=true:=by rfl) :
  PE X (.Call (.Attribute o "values" apos) [] [] cpos) (ZlL td):=by
 intro pins s σ H Q I h;refine wpAny_Call_method0_late hbase hline (thn (ho pins s σ H _ I h) fun v s1 ⟨x,H1,I1,r1,d,kvs,ex,hd,q1⟩=>?_);subst ex;obtain rfl:v=Value.ref d:=r1;obtain⟨t1,t2,_⟩:=Zbf I1 (.inl ⟨kvs,.inl hd⟩);exact⟨"dict",_,PySem.F.plainAttrs_dict,PySem.F.slot_dict_values,PySem.F.type_dict_values,t1,t2,Calls.callWith_builtin rfl (PySem.evalArgs_none (Zh7 pins s1 σ H1 (.ref d) [] (.ref d) [] Q I1 rfl .nil ⟨d,kvs,rfl,rfl,hd,q1⟩))⟩
theorem Zih:∀ {kvs:List (Key×V)} {vs':List (Key×Value)},KV kvs vs'->Vals (kvs.map (·.2)) (vs'.map (·.2)):=by
 intro kvs vs' h;induction h with
 | nil=>exact .nil
 | cons p _ ih=>exact .cons p.2 ih
theorem Zbl (hc:X.calm=true):CallR X (.type "list") (fun xs H Q=>∃ (p d:Addr) (kvs:List (Key×V)),xs=[.ref p]/\H p=some (vvO p d)/\H d=some (.dK kvs)/\∀ l,H l=none->Q (.ref l) (upd H l (.lst (kvs.map (·.2))))):=by
 intro pins s σ H xs us Q I r h;obtain⟨p,d,kvs,rfl,hp,hd,q⟩:=h;obtain⟨u,rfl,ru⟩:=YT r;cases ru;obtain⟨hz,lo,vs',kv,dd⟩:=ZaE I.hok hd;obtain⟨ep,hat⟩:=dd.dictAt;have hv:s.heap.IsValuesView p d:=(show _/\_ from I.hok p _ hp).1;have hl:=kv.length;refine kdl_call kdl_values (I.ok.hd hc) ⟨hv,hat⟩ (by rw[←hl];exact hz) fun h' tk acc c hk hD hacc=>?_;have ea:acc.toList=vs'.map (·.2):=by
  apply QT;intro i;rw[Qk];cases e:acc.toList[i]? with
  | none =>
   have:vs'.length<=i:=by
    have:=Q9.mp e;rw[QC,hacc.1]at this;exact this
   rw[Ql this];rfl
  | some v =>
   obtain⟨k,hk2⟩:=hacc.2 i v (by rw[←Wl];exact e);rw[hk2];rfl
 refine⟨.ref s.heap.objs.size,_,I.laid (t':=tk) (o:=.lst (kvs.map (·.2))) hk (Qi _) ⟨by rw[Qc];exact hz,vs'.map (·.2),c,Zih kv,?_⟩,rfl,q _ (I.hok.fresh (Qi _))⟩;rw[hD,←ea]
theorem ZiW (hc:X.calm=true):CallR X (.builtin "sum") (fun xs H Q=>∃ (p d:Addr) (kvs:List (Key×V)) (ns:List Int),xs=[.ref p]/\H p=some (vvO p d)/\H d=some (.dK kvs)/\kvs.map (·.2)=ns.map V.int/\Q (.int ns.sum) H):=by
 intro pins s σ H xs us Q I r h;obtain⟨p,d,kvs,ns,rfl,hp,hd,en,q⟩:=h;obtain⟨u,rfl,ru⟩:=YT r;cases ru;obtain⟨hz,lo,vs',kv,dd⟩:=ZaE I.hok hd;obtain⟨ep,hat⟩:=dd.dictAt;have hv:s.heap.IsValuesView p d:=(show _/\_ from I.hok p _ hp).1;have hl:=kv.length;have hnl:kvs.length=ns.length:=by have:=congrArg RX en;rw[Qc,Qc]at this;exact this
 have src:=kdl_values (prog:=X.prog) (w:=X.w) (knd:=Zu X.prog X.w) (d:=d) (r:=p) (kvs:=vs') (ep:=ep);have hin:X.A.in1.handled=none:=I.ok.hd hc;obtain⟨oI,St,hi,wk,st0⟩:=src.iter X.A.in1 s hin ⟨hv,hat⟩;have hdl:=(src.there s.heap ⟨hv,hat⟩).2;refine call_sum_walkG (hi _ _ ⟨s.heap.objs.size,[s.heap.objs.size,d],[s.heap.objs.size],vs'.length,_,St,fun i=>ns.getD i 0,rfl,wk,st0,?_,?_,?_⟩)
 ·intro b hb;show b<(s.heap.push _).objs.size;rw[WK];have:b=s.heap.objs.size\/b=d:=by simpa using hb
  rcases this with z | z
  ·rw[z];exact WF _
  ·rw[z];exact Ua hdl
 ·intro i v hv;obtain⟨k,e1⟩:=hv;have rv:=Zih kv;rw[en]at rv;have hi:i<vs'.length:=(Qo.mp e1).1;have hb:(ns.map V.int)[i]?=some (.int (ns.getD i 0)):=by
   rw[Qk,Qb];cases e:ns[i]? with
   | none=>exact absurd (Q9.mp e) (by omega)
   | some b=>rfl
  obtain⟨u',hu,ru⟩:=rv.get hb;rw[Qk,e1]at hu;cases hu;exact ru
 ·intro h' tk t' kk;refine⟨.int ns.sum,H,I.kept fun b o e=>kk b o (by simpa using QD (Qw e)) (Qh _ e),⟨t',?_⟩,q⟩;rw[YA,Q6 (by omega)]
end L2
namespace Sh
open PySem L2 PyProof.Rows
seal L2.PE L2.PS L2.PSs L2.PT L2.PW L2.PA L2.PI L2.PG L2.PGs L2.PO L2.PC L2.PCs L2.OpR L2.UnR L2.CallR L2.MtR L2.IxR L2.SlR L2.PX L2.PBc
variable {P:Program} {w:World} {K:PySem.W.Frag} {mg:Str->Option Value} {base:Heap}
variable {H:Hp} {L:Nat} {d:Addr} {g:Str->Int} {ks:List Str}
structure BgC (K:PySem.W.Frag) (mg:Str->Option Value) (C:Addr):Prop where
 cl:Cls K C
 nL:NoAttr K C "long"
 nM:NoAttr K C "manys"
 mgC:mg "Bag" = some (.ref C)
def Zi7 (L:Int) (d:Addr):List (Str×V):=Zcv "manys" (.ref d) (Zcv "long" (.int L) [])
theorem Zdd (L:Int) (d:Addr):(Zi7 L d).lookup ("long" : Str)=some (.int L):=by
 unfold Zi7;rw[Z0,if_neg (by decide +kernel),Z0,if_pos rfl]
theorem Z5 (L:Int) (d:Addr):(Zi7 L d).lookup ("manys" : Str)=some (.ref d):=by
 unfold Zi7;rw[Z0,if_pos rfl]
theorem Yq (L:Int) (d:Addr) {m:Str} (h1:¬ m = "manys") (h2:¬ m = "long"):(Zi7 L d).lookup m=none:=by
 unfold Zi7;rw[Z0,if_neg h1,Z0,if_neg h2];rfl
structure BagAt (C:Addr) (H:Hp) (b d:Addr) (L:Nat) (ks:List Str) (g:Str->Int):Prop where
 ob:∃ dx,H b=some (.ins C dx (Zi7 L d))
 dc:H d=some (.dK (gD ks g))
structure X7 (ks:List Str) (g:Str->Int):Prop where
 nd:ks.Nodup
 few:ks.length<=60
 out:∀ y,y∉ks->g y=0
 pos:∀ y∈ks,1<=g y
theorem BagAt.same {C:Addr} {H':Hp} {b:Addr} (h:BagAt C H b d L ks g) (s:Same H H'):BagAt C H' b d L ks g :=
 ⟨let ⟨dx,e⟩:=h.ob;⟨dx,s _ _ e⟩,s _ _ h.dc⟩
def Bt (d:Addr) (H H':Hp):Prop:=∀ a u,a≠d->H a=some u->H' a=some u
def Yb (L:Nat) (p m:V):Bool:=match p,m with
 | .str z,.int k=>YB (.str z)&&decide (z.length=L)&&decide (1<=k)
 | _,_=>false
def upK (ks:List Str) (g:Str->Int) (x:Str) (k:Int):List Str:=if g x+k=0 then (if x∈ks then ks else ks++[x]).filter fun y=>decide (y≠x)else if x∈ks then ks else ks++[x]
def upG (g:Str->Int) (x:Str) (k:Int):Str->Int:=fun y=>if y=x then g x+k else g y
theorem ZiB (ks:List Str) (g:Str->Int):(gD ks g).map (·.2)=(ks.map g).map V.int:=by
 unfold gD;rw[QV,QV];rfl
theorem ZaB (h:X7 ks g) (x:Str):(Xx (gD ks g) (Sum.inr x)).getD (.int 0)= .int (g x):=by
 rw[JC];by_cases c:x∈ks
 ·rw[if_pos c];rfl
 ·rw[if_neg c,h.out x c];rfl
theorem Zdw {H':Hp} (s:Same H H') (o:HO):Bt d H (upd H' d o):=fun a u n e=>by
 rw[Zi n];exact s a u e
section
variable {P:Program} {w:World} {K:PySem.W.Frag} {mg:Str->Option Value} {base:Heap} {C CH CP:Addr} {bmH bmP:List Value}
abbrev Xz (i:Nat):Stmt:=ZmP (top 56) i
theorem ZnJ:Zm ["self","long"] ["self","long"] (Zg (Xz 0)):=⟨rfl,rfl,rfl,by decide +kernel,rfl,by decide +kernel,by decide +kernel⟩
def ZgT (C CH:Addr):Sp:=fun vs H Q E=>∃ (x dx:Addr) (v:V) (n:String),vs=[.ref x,v]/\H x=some (.ins C dx [])/\TyB H v n/\((ZT v=false/\∀ H',Same H H'->E (.ref CH) none H') \/
 (∃ L:Nat,v= .int L/\ZT v=true/\∀ d H',H d=none->(∀ a u,a≠x->H a=some u->H' a=some u)->BagAt C H' x d L [] (fun _=>0)->Q .non H'))
theorem Zmq (D:HasI K C "Bag.__init__" (Xz 0) ["self","long"]) (T:BgC K mg C) (c:XCls K mg "NoHeap" CH bmH) (g26_:FOk P w K mg base 2 "is_long" ["thing"] ZgP):IOkX P w K mg base C 3 ["self","long"] (ZgT C CH):=by
 refine D.okX ZnJ (fun vs H Q E h=>?_) (fun f cdv A outer s vs H Q E L hr h=>?_)
 ·obtain⟨x,dx,v,n,rfl,_⟩:=h;rfl
 ·obtain⟨x,dx,v,n,rfl,hx,ty,h⟩:=h;refine⟨_,(Ze (ZE (Z3 (ZQ (Zt g26_ hr (Za (pv 1) Zd)))) (Zh (Xq L c rfl (Za Z8 Zd))) Zs)
   (Ze (Zk4 (pv 0) (pv 1) rfl)
   (Zh (Zk4 (pv 0) YW rfl)))),?_⟩
  refine⟨_,rfl,v,n,rfl,ty,_,rfl,?_⟩;rcases h with ⟨hl,kE⟩ | ⟨Ln,rfl,hl,k⟩
  ·rw[hl];exact ZmK ⟨(show 1<=sizeLine by rw[sizeLine_eq];decide),kE _ (Same.refl _)⟩
  ·rw[hl];refine Zka ?_;refine⟨_,rfl,_,rfl,x,C,dx,_,rfl,hx,T.cl,T.nL,by show 0<1000;decide,?_⟩;intro d hd;have hxd:x≠d:=fun e=>by rw[←e,Zc]at hd;cases hd
   have hd0:H d=none:=by rw[Zi hxd.symm]at hd;exact hd
   refine⟨_,rfl,x,C,dx,_,rfl,by rw[Zi hxd,Zc],T.cl,T.nM,by show 1<1000;decide,?_⟩;refine k d _ hd0 (fun a u n e=>?_) ⟨⟨dx,Zc⟩,?_⟩
   ·rw[Zi n,Zi (Zk e hd0),Zi n];exact e
   ·rw[Zi hxd.symm,Zc];rfl
theorem Zl1:Zm ["self","piece","many"] ["self","piece","many"] (Zg (Xz 1)):=⟨rfl,rfl,rfl,by decide +kernel,rfl,by decide +kernel,by decide +kernel⟩
def ZdM (C CP:Addr):Sp:=fun vs H Q E=>∃ (b d:Addr) (L:Nat) (ks:List Str) (g:Str->Int) (p m:V) (np nm:String),vs=[.ref b,p,m]/\BagAt C H b d L ks g/\TyB H p np/\TyB H m nm/\(∀ z,p= .str z->z.length<=sizeLine) /\
 ((Yb L p m=false/\∀ H',Same H H'->E (.ref CP) none H')\/(Yb L p m=true/\∀ H',Same H H'->Q .non H'))
theorem ZjS (D:HasM K C "check" "Bag.check" (Xz 1) ["self","piece","many"] [[]]) (B:Blt mg) (T:BgC K mg C) (c:XCls K mg "NoPiece" CP bmP) (g27_:FOk P w K mg base 3 "is_text" ["thing"] ZkN) (g29_:FOk P w K mg base 3 "is_whole" ["thing"] Jc) :
  MOkX P w K mg base C 4 "check" ["self","piece","many"] [[]] (ZdM C CP):=by
 refine D.okX Zl1 (fun vs H Q E h=>?_) (fun f cdv A outer s vs H Q E L hr h=>?_)
 ·obtain⟨b,d,Ln,ks,g,p,m,np,nm,rfl,_⟩:=h;rfl
 ·obtain⟨b,d,Ln,ks,g,p,m,np,nm,rfl,hB,tp,tm,hsz,h⟩:=h;refine⟨_,(Ze (ZE (PW.pt (Zae (Z3 (ZQ (Zt g27_ hr (Za (pv 1) Zd)))) (Jw (Zo ZaM (Zl ZC rfl B.len Ys (Za (pv 1) Zd)) (XA (pv 0) rfl) (Zr _))))) (Zh (Xq L c rfl (Za Z8 Zd))) Zs)
   (Zh (ZE (PW.pt (Zae (Z3 (ZQ (Zt g29_ hr (Za (pv 2) Zd)))) (Jw (Zo ZbX (pv 2) Zf (Zr _))))) (Zh (Xq L c rfl (Za Z8 Zd))) Zs))),?_⟩
  have one:(1:Nat)<=sizeLine:=by rw[sizeLine_eq];decide
  have bad:Yb Ln p m=false->∀ H',Same H H'->E (.ref CP) none H':=fun hf=>by
   rcases h with ⟨_,k⟩ | ⟨ht,_⟩
   ·exact k
   ·rw[hf]at ht;cases ht
  refine⟨_,rfl,p,np,rfl,tp,hsz,fun H1 s1=>⟨_,rfl,?_⟩⟩;cases ht:YB p with
  | false =>
   refine Ya rfl (Ya rfl ⟨one,bad ?_ _ s1⟩);cases p <;> first | rfl | (cases m <;> first | rfl | (simp only[Yb];rw[ht];rfl))
  | true =>
   obtain⟨z,rfl⟩:∃ z,p= .str z:=by cases p <;> first | exact⟨_,rfl⟩ | cases ht
   refine ZM rfl ?_;obtain⟨dx,hb⟩:=(hB.same s1).ob;refine⟨_,rfl,.str z,z.length,rfl,⟨hsz z rfl,rfl⟩,_,rfl,b,C,dx,_,_,rfl,hb,T.cl,T.nL,Zdd _ _,rfl,_,rfl,?_⟩;by_cases cl:z.length=Ln
   rotate_left
   ·refine Ya (by rw[decide_eq_false fun e=>cl (by injection e with e;omega)];rfl) ⟨one,bad ?_ _ s1⟩;cases m <;> first | rfl | (simp only[Yb];rw[decide_eq_false cl,Uq];rfl)
   refine ZM (by rw[decide_eq_true (by rw[cl])];rfl) ?_;refine⟨_,rfl,m,nm,rfl,tm.same s1,_,rfl,?_⟩;cases hn:(nm == "int")with
   | false =>
    refine Ya rfl (Ya rfl ⟨one,bad ?_ _ s1⟩);cases tm with
    | int i=>cases hn
    | _=>rfl
   | true =>
    obtain⟨k0,rfl⟩:∃ k0,m= .int k0:=by
     cases tm with
     | int i=>exact⟨i,rfl⟩
     | _=>exact absurd hn (by decide)
    refine ZM rfl ?_;refine⟨_,rfl,_,_,rfl,rfl,_,rfl,?_⟩;by_cases ck:k0<1
    ·refine Ya (decide_eq_true ck) ⟨one,bad ?_ _ s1⟩;simp only[Yb];rw[decide_eq_false (show ¬ 1<=k0 by omega),Uq]
    ·refine ZM (decide_eq_false ck) ?_;rcases h with ⟨hf,_⟩ | ⟨_,kk⟩
     ·simp only[Yb]at hf;rw[ht,decide_eq_true cl,decide_eq_true (show 1<=k0 by omega)]at hf;cases hf
     ·exact kk _ s1
end
theorem Xv {p m:V} (h:Yb L p m=true):∃ x k,p= .str x/\m= .int k/\1<=k/\x.length=L/\YB (.str x)=true:=by
 cases p with
 | str z =>
  cases m with
  | int k =>
   simp only[Yb,QP,decide_eq_true_eq]at h;exact⟨z,k,rfl,rfl,h.2,h.1.2,h.1.1⟩
  | _=>cases h
 | _=>cases h
section
variable {P:Program} {w:World} {K:PySem.W.Frag} {mg:Str->Option Value} {base:Heap} {C CH CP:Addr} {bmH bmP:List Value}
theorem Zpb:Zm ["self","piece","many"] ["self","piece","many"] (Zg (Xz 2)):=⟨rfl,rfl,rfl,by decide +kernel,rfl,by decide +kernel,by decide +kernel⟩
def ZnB (C CP CH:Addr):Sp:=fun vs H Q E=>∃ (b d:Addr) (L:Nat) (ks:List Str) (g:Str->Int) (p m:V) (np nm:String),vs=[.ref b,p,m]/\BagAt C H b d L ks g/\X7 ks g/\TyB H p np/\TyB H m nm/\(∀ z,p= .str z->z.length<=sizeLine) /\
 ((Yb L p m=false/\∀ H',Same H H'->E (.ref CP) none H')\/∃ x k,p= .str x/\m= .int k/\Yb L p m=true/\((301-(L:Int)<(ks.map g).sum+k/\∀ H',Same H H'->E (.ref CH) none H') \/
  ((ks.map g).sum+k<=301-(L:Int)/\∀ H',Bt d H H'->H' d=some (.dK (gD (upK ks g x k) (upG g x k)))->Q .non H')))
theorem Zn5 {dss:List (List V)} (D:HasM K C "put" "Bag.put" (Xz 2) ["self","piece","many"] dss) (B:Blt mg) (T:BgC K mg C) (c:XCls K mg "NoHeap" CH bmH) (g14_:MOkX P w K mg base C 4 "check" ["self","piece","many"] [[]] (ZdM C CP)) (g32_:FOk P w K mg base 4 "most_pieces" ["long"] ZkT) :
  MOkX P w K mg base C 5 "put" ["self","piece","many"] dss (ZnB C CP CH):=by
 refine D.okX Zpb (fun vs H Q E h=>?_) (fun f cdv A outer s vs H Q E L hr h=>?_)
 ·obtain⟨b,d,Ln,ks,g,p,m,np,nm,rfl,_⟩:=h;rfl
 ·obtain⟨b,d,Ln,ks,g,p,m,np,nm,rfl,hB,hok,tp,tm,hsz,h⟩:=h;have hu:=JH hr;refine⟨_,(Ze (ZW (ZfL g14_ [] (Qm.mpr rfl) L hr T.cl (pv 0) (Za (pv 1) (Za (pv 2) Zd))))
   (Ze (ZE (Zo ZaN (Zq ZS (Zl (ZiW rfl) rfl B.sum Zep (Za (Zai (XA (pv 0) rfl)) Zd)) (pv 2)) (Zt g32_ hr (Za (XA (pv 0) rfl) Zd)) (Zr _)) (Zh (Xq L c rfl (Za Z8 Zd))) Zs)
   (Zh (YV hu (XA (pv 0) rfl) (pv 1) (Zq ZS (Yu hu (XA (pv 0) rfl) (pv 1) Zf ⟨rfl,rfl,rfl,rfl⟩) (pv 2)) rfl)))),?_⟩
  have one:(1:Nat)<=sizeLine:=by rw[sizeLine_eq];decide
  obtain⟨dx0,hb0⟩:=hB.ob;refine⟨_,rfl,b,dx0,_,rfl,hb0,Yq _ _ (by decide +kernel) (by decide +kernel),_,rfl,_,rfl,b,d,Ln,ks,g,p,m,np,nm,rfl,hB,tp,tm,hsz,?_⟩;rcases h with ⟨hf,kE⟩ | ⟨x,k,rfl,rfl,hg,h⟩
  ·exact .inl ⟨hf,kE⟩
  refine .inr ⟨hg,fun H1 s1=>?_⟩;have hB1:=hB.same s1;obtain⟨dx,hb⟩:=hB1.ob;refine⟨_,rfl,b,C,dx,_,_,rfl,hb,T.cl,T.nM,Z5 _ _,d,_,rfl,hB1.dc,fun pv hpv=>?_⟩;have s2:=Zb (o:=vvO pv d) hpv;have hB2:=hB1.same s2;have hpv2:(upd H1 pv (vvO pv d)) pv=some (vvO pv d):=Zc;have sA:=s1.trans s2;generalize upd H1 pv (vvO pv d)=H2 at s2 hB2 hpv2 sA;obtain⟨dx2,hb2⟩:=hB2.ob;refine⟨pv,d,_,ks.map g,rfl,hpv2,hB2.dc,ZiB ks g,_,rfl,_,_,rfl,rfl,_,rfl,b,C,dx2,_,_,rfl,hb2,T.cl,T.nL,Zdd _ _,(Ln:Int),rfl,_,_,rfl,rfl,_,rfl,?_⟩;rcases h with ⟨hs,kE⟩ | ⟨hs,kQ⟩
  ·exact Ya (decide_eq_true (show(300+1-(Ln:Int))<(ks.map g).sum+k by omega)) ⟨one,kE _ sA⟩
  refine ZM (decide_eq_false (show ¬ (300+1-(Ln:Int))<(ks.map g).sum+k by omega)) ?_;obtain⟨_,_,e1,e2,k1,_,_⟩:=Xv hg;cases e1;cases e2;refine⟨_,rfl,b,C,dx2,_,_,rfl,hb2,T.cl,T.nM,Z5 _ _,d,rfl,.inl ⟨_,.inl hB2.dc⟩,_,rfl,_,DGet.kk (k:=Sum.inr x) hB2.dc,?_⟩;rw[ZaB hok];refine⟨_,rfl,_,_,rfl,rfl,_,rfl,b,C,dx2,_,_,rfl,hb2,T.cl,T.nM,Z5 _ _,_,rfl,d,_,rfl,DPut.kk (k:=Sum.inr x) hB2.dc (by rw[XY];exact Zz (by have:=hok.few;omega)),?_⟩;refine kQ _ (Zdw sA _) ?_;rw[Zc,Zbg];have hp:0<=g x:=by
   by_cases c0:x∈ks
   ·have:=hok.pos x c0;omega
   ·rw[hok.out x c0];exact Ww _
  unfold upK upG;rw[if_neg (show ¬ g x+k=0 by omega)]
theorem scTake:Zm ["self","piece","many","left"] ["self","piece","many"] (Zg (Xz 3)):=⟨rfl,rfl,rfl,by decide +kernel,rfl,by decide +kernel,by decide +kernel⟩
def ZkO (C CP:Addr):Sp:=fun vs H Q E=>∃ (b d:Addr) (L:Nat) (ks:List Str) (g:Str->Int) (p m:V) (np nm:String),vs=[.ref b,p,m]/\BagAt C H b d L ks g/\X7 ks g/\TyB H p np/\TyB H m nm/\(∀ z,p= .str z->z.length<=sizeLine) /\
 ((Yb L p m=false/\∀ H',Same H H'->E (.ref CP) none H')\/∃ x k,p= .str x/\m= .int k/\Yb L p m=true/\((g x<k/\∀ H',Same H H'->E (.ref CP) none H') \/
  (k<=g x/\∀ H',Bt d H H'->H' d=some (.dK (gD (upK ks g x (-k)) (upG g x (-k))))->Q .non H')))
theorem Zmo {dss:List (List V)} (D:HasM K C "take" "Bag.take" (Xz 3) ["self","piece","many"] dss) (B:Blt mg) (T:BgC K mg C) (c:XCls K mg "NoPiece" CP bmP) (g14_:MOkX P w K mg base C 4 "check" ["self","piece","many"] [[]] (ZdM C CP)) :
  MOkX P w K mg base C 5 "take" ["self","piece","many"] dss (ZkO C CP):=by
 refine D.okX scTake (fun vs H Q E h=>?_) (fun f cdv A outer s vs H Q E L hr h=>?_)
 ·obtain⟨b,d,Ln,ks,g,p,m,np,nm,rfl,_⟩:=h;rfl
 ·obtain⟨b,d,Ln,ks,g,p,m,np,nm,rfl,hB,hok,tp,tm,hsz,h⟩:=h;have hu:=JH hr;refine⟨_,(Ze (ZW (ZfL g14_ [] (Qm.mpr rfl) L hr T.cl (pv 0) (Za (pv 1) (Za (pv 2) Zd))))
   (Ze (Zp (i:=3) scTake.nd rfl (.inl rfl) (Zq Xa (Yu hu (XA (pv 0) rfl) (pv 1) Zf ⟨rfl,rfl,rfl,rfl⟩) (pv 2)))
   (Ze (ZE (Zo ZbX (pv 3) Zf (Zr _)) (Zh (Xq L c rfl (Za Z8 Zd))) Zs)
   (Ze (YV hu (XA (pv 0) rfl) (pv 1) (pv 3) rfl)
   (Zh (ZE (Zo Yv (pv 3) Zf (Zr _)) (Zh (ZW (ZeW (XA (pv 0) rfl) (pv 1) ⟨rfl,rfl,rfl,rfl⟩))) Zs)))))),?_⟩
  have one:(1:Nat)<=sizeLine:=by rw[sizeLine_eq];decide
  obtain⟨dx0,hb0⟩:=hB.ob;refine⟨_,rfl,b,dx0,_,rfl,hb0,Yq _ _ (by decide +kernel) (by decide +kernel),_,rfl,_,rfl,b,d,Ln,ks,g,p,m,np,nm,rfl,hB,tp,tm,hsz,?_⟩;rcases h with ⟨hf,kE⟩ | ⟨x,k,rfl,rfl,hg,h⟩
  ·exact .inl ⟨hf,kE⟩
  refine .inr ⟨hg,fun H1 s1=>?_⟩;have hB1:=hB.same s1;obtain⟨dx,hb⟩:=hB1.ob;obtain⟨_,_,e1,e2,k1,_,_⟩:=Xv hg;cases e1;cases e2;refine⟨_,rfl,b,C,dx,_,_,rfl,hb,T.cl,T.nM,Z5 _ _,d,rfl,.inl ⟨_,.inl hB1.dc⟩,_,rfl,_,DGet.kk (k:=Sum.inr x) hB1.dc,?_⟩;rw[ZaB hok];refine⟨_,rfl,_,_,rfl,rfl,_,rfl,_,_,rfl,rfl,_,rfl,?_⟩;rcases h with ⟨hs,kE⟩ | ⟨hs,kQ⟩
  ·exact Ya (decide_eq_true (show g x-k<0 by omega)) ⟨one,kE _ s1⟩
  refine ZM (decide_eq_false (show ¬ g x-k<0 by omega)) ?_;have hxk:x∈ks:=Classical.byContradiction fun n=>by have:=hok.out x n;omega
  refine⟨_,rfl,_,rfl,b,C,dx,_,_,rfl,hb,T.cl,T.nM,Z5 _ _,_,rfl,d,_,rfl,DPut.kk (k:=Sum.inr x) hB1.dc (by rw[XY];exact Zz (by have:=hok.few;omega)),?_⟩;rw[Zbg,if_pos hxk];have hbd:b≠d:=fun e=>by rw[e,hB1.dc]at hb;cases hb
  have hb2:(upd H1 d (.dK (gD ks fun y=>if y=x then g x-k else g y))) b=some (.ins C dx (Zi7 Ln d)):=by rw[Zi hbd];exact hb
  have hd2:(upd H1 d (.dK (gD ks fun y=>if y=x then g x-k else g y))) d=some (.dK (gD ks fun y=>if y=x then g x-k else g y)):=Zc;have eG:upG g x (-k)=fun y=>if y=x then g x-k else g y:=by
   funext y
   unfold upG;by_cases e:y=x
   ·rw[if_pos e,if_pos e];omega
   ·rw[if_neg e,if_neg e]
  refine⟨_,rfl,rfl,_,rfl,?_⟩;by_cases c0:g x=k
  ·refine Ya (Zaz (by omega)) ?_;refine⟨_,rfl,b,C,dx,_,_,rfl,hb2,T.cl,T.nM,Z5 _ _,d,rfl,.inl ⟨_,.inl hd2⟩,_,rfl,_,Sum.inr x,_,hd2,rfl,(by rw[JC,if_pos hxk,if_pos rfl]),?_⟩;rw[ZiC,X9];refine kQ _ (Zdw s1 _) ?_;rw[Zc,eG];unfold upK;rw[if_pos (show g x + -k=0 by omega),if_pos hxk]
  ·refine ZM (Xf (by omega)) ?_;refine kQ _ (Zdw s1 _) ?_;rw[Zc,eG];unfold upK;rw[if_neg (show ¬ g x + -k=0 by omega),if_pos hxk]
end
theorem ZpR {v:V} {hp:Es} (h:HpAt H v hp):HeapV H v hp:=by
 obtain⟨a,xs,e,ha,hl,hx⟩:=h;refine⟨a,xs,e,ha,hl,fun i p hp=>?_⟩;obtain⟨b,e1,e2⟩:=hx i p hp;have hi:i<xs.length:=by rw[hl];exact(Qo.mp hp).1
 rw[Qb,Qa hi]at e1;exact⟨b,by rw[Qa hi];exact congrArg some e1,e2⟩
def SrtOf (ss ks:List Str):Prop:=ss.Perm ks/\(ss.map fun x=>x.cps.toList).Pairwise (· < ·)
theorem SrtOf.one {ss tt:List Str} (h:SrtOf ss ks) (k:SrtOf tt ks):ss=tt:=Zbu h.2 k.2 fun x=>by rw[h.1.mem_iff,k.1.mem_iff]
section
variable {P:Program} {w:World} {K:PySem.W.Frag} {mg:Str->Option Value} {base:Heap} {C CH CP:Addr} {bmH bmP:List Value}
theorem Zjz:Zm ["self"] ["self"] (Zg (Xz 4)):=⟨rfl,rfl,rfl,by decide +kernel,rfl,by decide +kernel,by decide +kernel⟩
def Zbw (C:Addr):Sp:=fun vs H Q _=>∃ (b d:Addr) (L:Nat) (ks:List Str) (g:Str->Int),vs=[.ref b]/\BagAt C H b d L ks g/\X7 ks g/\∀ v H' ss,Same H H'->SrtOf ss ks->HpAt H' v (ss.map fun x=>(x,g x))->Q v H'
theorem ZfX (D:HasM K C "as_heap" "Bag.as_heap" (Xz 4) ["self"] [[]]) (T:BgC K mg C) (g24_:FOk P w K mg base 1 "in_rows" ["manys"] ZkP):MOkX P w K mg base C 2 "as_heap" ["self"] [[]] (Zbw C):=by
 refine D.okX Zjz (fun vs H Q E h=>?_) (fun f cdv A outer s vs H Q E L hr h=>?_)
 ·obtain⟨b,d,Ln,ks,g,rfl,_⟩:=h;rfl
 ·obtain⟨b,d,Ln,ks,g,rfl,hB,hok,k⟩:=h;refine⟨_,(Zh (Zn (Zt g24_ hr (Za (XA (pv 0) rfl) Zd)))),?_⟩;obtain⟨dx,hb⟩:=hB.ob;exact⟨_,rfl,b,C,dx,_,_,rfl,hb,T.cl,T.nM,Z5 _ _,d,ks,g,rfl,hB.dc,hok.nd,by have:=hok.few;omega,fun v H' ss s' hp hs hA=>k v H' ss s' ⟨hp,hs⟩ hA⟩
theorem ZnK:Zm ["self"] ["self"] (Zg (Xz 5)):=⟨rfl,rfl,rfl,by decide +kernel,rfl,by decide +kernel,by decide +kernel⟩
def ZgV (C CH:Addr):Sp:=fun vs H Q E=>∃ (b d:Addr) (L:Nat) (ks:List Str) (g:Str->Int),vs=[.ref b]/\BagAt C H b d L ks g/\X7 ks g/\((ks=[]/\∀ H',Same H H'->E (.ref CH) none H') \/
 (ks≠[]/\∀ v H' ss,Same H H'->SrtOf ss ks->HpAt H' v (ss.map fun x=>(x,g x))->Q v H'))
theorem Zc1 (D:HasM K C "full_heap" "Bag.full_heap" (Xz 5) ["self"] [[]]) (B:Blt mg) (T:BgC K mg C) (c:XCls K mg "NoHeap" CH bmH) (g11_:MOkX P w K mg base C 2 "as_heap" ["self"] [[]] (Zbw C)):MOkX P w K mg base C 3 "full_heap" ["self"] [[]] (ZgV C CH):=by
 refine D.okX ZnK (fun vs H Q E h=>?_) (fun f cdv A outer s vs H Q E L hr h=>?_)
 ·obtain⟨b,d,Ln,ks,g,rfl,_⟩:=h;rfl
 ·obtain⟨b,d,Ln,ks,g,rfl,hB,hok,h⟩:=h;refine⟨_,(Ze (ZE (Zo Yv (Zl ZaH rfl B.len Ys (Za (XA (pv 0) rfl) Zd)) Zf (Zr _)) (Zh (Xq L c rfl (Za Z8 Zd))) Zs)
   (Zh (Zn (ZhG g11_ [] (Qm.mpr rfl) L hr T.cl (pv 0))))),?_⟩
  obtain⟨dx,hb⟩:=hB.ob;refine⟨_,rfl,b,C,dx,_,_,rfl,hb,T.cl,T.nM,Z5 _ _,d,_,rfl,hB.dc,rfl,_,rfl,?_⟩;rw[XY];rcases h with ⟨rfl,kE⟩ | ⟨hne,k⟩
  ·exact Ya (Zaz rfl) ⟨(show 1<=sizeLine by rw[sizeLine_eq];decide),kE _ (Same.refl _)⟩
  ·have:=List.length_pos_iff.mpr hne;refine ZM (Xf (by omega)) ?_;exact⟨_,rfl,b,dx,_,rfl,hb,Yq _ _ (by decide +kernel) (by decide +kernel),b,d,Ln,ks,g,rfl,hB,hok,k⟩
theorem ZnG:Zm ["self"] ["self"] (Zg (Xz 6)):=⟨rfl,rfl,rfl,by decide +kernel,rfl,by decide +kernel,by decide +kernel⟩
def ZgI (C CH:Addr):Sp:=fun vs H Q E=>∃ (b d:Addr) (L:Nat) (ks:List Str) (g:Str->Int),vs=[.ref b]/\BagAt C H b d L ks g/\X7 ks g/\((ks=[]/\∀ H',Same H H'->E (.ref CH) none H') \/
 (∃ ss e0 es0,SrtOf ss ks/\(ss.map fun x=>(x,g x))=e0::es0/\Hpy (e0::es0) L/\∀ v H',Same H H'->VerV H' v e0 es0 L->Q v H'))
theorem ZaO (D:HasM K C "verdict_now" "Bag.verdict_now" (Xz 6) ["self"] [[]]) (T:BgC K mg C) (g20_:MOkX P w K mg base C 5 "full_heap" ["self"] [[]] (ZgV C CH)) (g50_:FOk P w K mg base 5 "verdict" ["H"] JZ):MOkX P w K mg base C 6 "verdict_now" ["self"] [[]] (ZgI C CH):=by
 refine D.okX ZnG (fun vs H Q E h=>?_) (fun f cdv A outer s vs H Q E L hr h=>?_)
 ·obtain⟨b,d,Ln,ks,g,rfl,_⟩:=h;rfl
 ·obtain⟨b,d,Ln,ks,g,rfl,hB,hok,h⟩:=h;refine⟨_,(Zh (Zn (Zt g50_ hr (Za (ZhG g20_ [] (Qm.mpr rfl) L hr T.cl (pv 0)) Zd)))),?_⟩;obtain⟨dx,hb⟩:=hB.ob;refine⟨_,rfl,b,dx,_,rfl,hb,Yq _ _ (by decide +kernel) (by decide +kernel),b,d,Ln,ks,g,rfl,hB,hok,?_⟩;rcases h with ⟨hn,kE⟩ | ⟨ss,e0,es0,hS,he,hH,k⟩
  ·exact .inl ⟨hn,kE⟩
  ·refine .inr ⟨fun e=>?_,fun v H' tt s' hT hA=>?_⟩
   ·rw[e]at hS;rw[Vn.mp hS.1]at he;cases he
   ·rw[hT.one hS,he]at hA;exact⟨v,e0,es0,Ln,rfl,ZpR hA,hH,fun v2 H2 s2 hV=>k v2 H2 (s'.trans s2) hV⟩
theorem ZnH:Zm ["self"] ["self"] (Zg (Xz 7)):=⟨rfl,rfl,rfl,by decide +kernel,rfl,by decide +kernel,by decide +kernel⟩
def Znd (ps:List Str) (n:Int):Prop:=∃ (rs:List Str) (ns:List Int),(∀ p,p∈rs↔ZlD ps p)/\rs.Nodup/\ns.length=rs.length/\(∀ (i:Nat) (n:Int),ns[i]?=some n->IsN ps (rs.getD i "") n)/\n=ns.sum
def ZgL (C CH:Addr):Sp:=fun vs H Q E=>∃ (b d:Addr) (L:Nat) (ks:List Str) (g:Str->Int),vs=[.ref b]/\BagAt C H b d L ks g/\X7 ks g/\((ks=[]/\∀ H',Same H H'->E (.ref CH) none H') \/
 (∃ ss ps,SrtOf ss ks/\ks≠[]/\ZU ps (ss.map fun x=>(x,g x))/\RowOk ps/\ps≠[]/\∀ n H',Same H H'->Znd ps n->Q (.int n) H'))
theorem ZcU (D:HasM K C "texts_now" "Bag.texts_now" (Xz 7) ["self"] [[]]) (T:BgC K mg C) (g20_:MOkX P w K mg base C 8 "full_heap" ["self"] [[]] (ZgV C CH)) (g16_:FOk P w K mg base 8 "count_of" ["H"] J2):MOkX P w K mg base C 9 "texts_now" ["self"] [[]] (ZgL C CH):=by
 refine D.okX ZnH (fun vs H Q E h=>?_) (fun f cdv A outer s vs H Q E L hr h=>?_)
 ·obtain⟨b,d,Ln,ks,g,rfl,_⟩:=h;rfl
 ·obtain⟨b,d,Ln,ks,g,rfl,hB,hok,h⟩:=h;refine⟨_,(Zh (Zn (Zt g16_ hr (Za (ZhG g20_ [] (Qm.mpr rfl) L hr T.cl (pv 0)) Zd)))),?_⟩;obtain⟨dx,hb⟩:=hB.ob;refine⟨_,rfl,b,dx,_,rfl,hb,Yq _ _ (by decide +kernel) (by decide +kernel),b,d,Ln,ks,g,rfl,hB,hok,?_⟩;rcases h with ⟨hn,kE⟩ | ⟨ss,ps,hS,hne,hO,hR,hpn,k⟩
  ·exact .inl ⟨hn,kE⟩
  ·refine .inr ⟨hne,fun v H' tt s' hT hA=>?_⟩;rw[hT.one hS]at hA;obtain⟨e,es,he,hRw⟩:=ZnL hR hpn hA hO;exact⟨v,ps,e,es,rfl,hRw,fun H2 rs ns s2 h1 h2 h3 h4=>k _ H2 (s'.trans s2) ⟨rs,ns,h1,h2,h3,h4,rfl⟩⟩
end
def dueF (L:Nat) (ks:List Str) (g:Str->Int) (way:Int) (p m:V):Nat:=match p,m with
 | .str x,.int k=>if Yb L (.str x) (.int k)=true then (if way=0 then (if (ks.map g).sum+k<=301-(L:Int)then 0 else 2)else if k<=g x then 0 else 1)else 1
 | _,_=>1
def nwF (L:Nat) (ks:List Str) (g:Str->Int) (way:Int) (p m:V):List Str×(Str->Int):=match p,m with
 | .str x,.int k=>if dueF L ks g way (.str x) (.int k)=0 then (upK ks g x (if way=0 then k else -k),upG g x (if way=0 then k else -k))else (ks,g)
 | _,_=>(ks,g)
theorem Jo {way:Int} {p m:V} (h:Yb L p m=false):dueF L ks g way p m=1:=by
 cases p with
 | str z =>
  cases m with
  | int k =>
   simp only[dueF];rw[h];rfl
  | _=>rfl
 | _=>cases m <;> rfl
def oneM (m:V):V:=if m= .non then .int 1 else m
structure ZoN (K:PySem.W.Frag) (mg:Str->Option Value) (S CP CH A1 A2 A3 A4 A5 A6 A7:Addr):Prop where
 sh:XCls K mg "ShredError" S (Zgh K S)
 np:XCls K mg "NoPiece" CP (Zgh K CP)
 nh:XCls K mg "NoHeap" CH (Zgh K CH)
 up1:(Zgh K CP).contains (.ref S)=true
 up2:(Zgh K CH).contains (.ref S)=true
 at1:JJ K CP
 at2:JJ K CH
 v1:PySem.W.kitOne K (.ref CP) (.type "ValueError")=some true
 v2:PySem.W.kitOne K (.ref CH) (.type "ValueError")=some true
 x1:PySem.W.kitOne K (.ref CP) (.ref CH)=some false
 x2:PySem.W.kitOne K (.ref CH) (.ref CP)=some false
 o1:PySem.W.kitAny K (.ref CP) [.ref A1,.ref A2,.ref A3,.ref A4,.ref A5,.ref A6,.ref A7]=some false
 o2:PySem.W.kitAny K (.ref CH) [.ref A1,.ref A2,.ref A3,.ref A4,.ref A5,.ref A6,.ref A7]=some false
 g1:mg "NoText" = some (.ref A1)
 g2:mg "NoLine" = some (.ref A2)
 g3:mg "NoTexts" = some (.ref A3)
 g4:mg "NoNumber" = some (.ref A4)
 g5:mg "NoDeed" = some (.ref A5)
 g6:mg "Unlike" = some (.ref A6)
 g7:mg "Apart" = some (.ref A7)
 vn:mg "ValueError" = none
section
variable {P:Program} {w:World} {K:PySem.W.Frag} {mg:Str->Option Value} {base:Heap} {C CH CP S A1 A2 A3 A4 A5 A6 A7:Addr} {bmH bmP:List Value}
abbrev Zhj:Stmt:=top 61
abbrev XV:List Str:=["_law_bag","_law_way","_law_piece_here","_law_many_here"]
theorem ZlY:Zm XV XV (Zg Zhj):=⟨rfl,rfl,rfl,by decide +kernel,rfl,by decide +kernel,by decide +kernel⟩
def ZfC (C:Addr) (H:Hp) (b d:Addr) (L:Nat) (ks:List Str) (g:Str->Int) (way:Int) (p m:V):Prop:=(way=0\/way=1)/\BagAt C H b d L ks g/\X7 ks g/\(∃ np,TyB H p np)/\(∃ nm,TyB H (oneM m) nm)/\∀ z,p= .str z->z.length<=sizeLine
def ZkX (C CP CH:Addr):Sp:=fun vs H Q E=>∃ (b d:Addr) (L:Nat) (ks:List Str) (g:Str->Int) (way:Int) (p m:V),vs=[.ref b,.int way,p,m]/\ZfC C H b d L ks g way p m /\
 (dueF L ks g way p (oneM m)=1->∀ H',Same H H'->E (.ref CP) none H')/\(dueF L ks g way p (oneM m)=2->∀ H',Same H H'->E (.ref CH) none H') /\
 (dueF L ks g way p (oneM m)=0->∀ H',Bt d H H'->H' d=some (.dK (gD (nwF L ks g way p (oneM m)).1 (nwF L ks g way p (oneM m)).2))->Q .non H')
theorem Zhv {Q:VK} {E:XK} {b:Addr} {p m:V} (h1:dueF L ks g 0 p m=1->∀ H',Same H H'->E (.ref CP) none H') (h2:dueF L ks g 0 p m=2->∀ H',Same H H'->E (.ref CH) none H')
  (h0:dueF L ks g 0 p m=0->∀ H',Bt d H H'->H' d=some (.dK (gD (nwF L ks g 0 p m).1 (nwF L ks g 0 p m).2))->Q .non H') :
  (Yb L p m=false/\∀ H',Same H H'->E (.ref CP) none H')\/∃ x k,p= .str x/\m= .int k/\Yb L p m=true/\((301-(L:Int)<(ks.map g).sum+k/\∀ H',Same H H'->E (.ref CH) none H') \/
  ((ks.map g).sum+k<=301-(L:Int)/\∀ H',Bt d H H'->H' d=some (.dK (gD (upK ks g x k) (upG g x k)))->Q .non H')):=by
 cases hg:Yb L p m with
 | false=>exact .inl ⟨rfl,h1 (Jo hg)⟩
 | true =>
  obtain⟨x,k,rfl,rfl,_⟩:=Xv hg;refine .inr ⟨x,k,rfl,rfl,rfl,?_⟩;have ed:dueF L ks g 0 (.str x) (.int k)=if (ks.map g).sum+k<=301-(L:Int)then 0 else 2:=by
   simp only[dueF];rw[if_pos hg,if_pos trivial]
  by_cases c:(ks.map g).sum+k<=301-(L:Int)
  ·rw[if_pos c]at ed;have en:nwF L ks g 0 (.str x) (.int k)=(upK ks g x k,upG g x k):=by
    simp only[nwF];rw[if_pos ed,if_pos trivial]
   have:=h0 ed;rw[en]at this;exact .inr ⟨c,this⟩
  ·rw[if_neg c]at ed;exact .inl ⟨by omega,h2 ed⟩
theorem ZeB {Q:VK} {E:XK} {b:Addr} {p m:V} (h1:dueF L ks g 1 p m=1->∀ H',Same H H'->E (.ref CP) none H')
  (h0:dueF L ks g 1 p m=0->∀ H',Bt d H H'->H' d=some (.dK (gD (nwF L ks g 1 p m).1 (nwF L ks g 1 p m).2))->Q .non H') :
  (Yb L p m=false/\∀ H',Same H H'->E (.ref CP) none H')\/∃ x k,p= .str x/\m= .int k/\Yb L p m=true/\((g x<k/\∀ H',Same H H'->E (.ref CP) none H') \/
  (k<=g x/\∀ H',Bt d H H'->H' d=some (.dK (gD (upK ks g x (-k)) (upG g x (-k))))->Q .non H')):=by
 cases hg:Yb L p m with
 | false=>exact .inl ⟨rfl,h1 (Jo hg)⟩
 | true =>
  obtain⟨x,k,rfl,rfl,_⟩:=Xv hg;refine .inr ⟨x,k,rfl,rfl,rfl,?_⟩;have ed:dueF L ks g 1 (.str x) (.int k)=if k<=g x then 0 else 1:=by
   simp only[dueF];rw[if_pos hg,if_neg (by decide)]
  by_cases c:k<=g x
  ·rw[if_pos c]at ed;have en:nwF L ks g 1 (.str x) (.int k)=(upK ks g x (-k),upG g x (-k)):=by
    simp only[nwF];rw[if_pos ed,if_neg (by decide)]
   have:=h0 ed;rw[en]at this;exact .inr ⟨c,this⟩
  ·rw[if_neg c]at ed;exact .inl ⟨by omega,h1 ed⟩
theorem ZhU (D:HasDef K mg "_law_deed" Zhj XV) (T:BgC K mg C) (g39_:MOkX P w K mg base C 5 "put" ["self","piece","many"] [[],[.int 1]] (ZnB C CP CH)) (g43_:MOkX P w K mg base C 5 "take" ["self","piece","many"] [[],[.int 1]] (ZkO C CP)):ZoT P w K mg base 6 "_law_deed" XV (ZkX C CP CH):=by
 refine D.okX ZlY (fun vs H Q E h=>?_) (fun f cdv A outer s vs H Q E L hr h=>?_)
 ·obtain⟨b,d,Ln,ks,g,way,p,m,rfl,_⟩:=h;rfl
 ·obtain⟨b,d,Ln,ks,g,way,p,m,rfl,⟨hw,hB,hok,⟨np,tp⟩,⟨nm,tm⟩,hsz⟩,h1,h2,h0⟩:=h;have m0:([]:List V)∈[[],[V.int 1]]:=Qd;have m1:[V.int 1]∈[[],[V.int 1]]:=Qg _ Qd;refine⟨_,(Zh (ZE (PW.pt (XT (Zo Yv (pv 1) Zf (Zr _)) (Y9 (Zo ZcT (pv 3) YF (Zr _))))) (Zh (ZW (ZfL g39_ [.int 1] m1 L hr T.cl (pv 0) (Za (pv 2) Zd))))
   (Zh (ZE (Zo Yv (pv 1) Zf (Zr _)) (Zh (ZW (ZfL g39_ [] m0 L hr T.cl (pv 0) (Za (pv 2) (Za (pv 3) Zd)))))
   (Zh (ZE (Zo ZcT (pv 3) YF (Zr _)) (Zh (ZW (ZfL g43_ [.int 1] m1 L hr T.cl (pv 0) (Za (pv 2) Zd)))) (Zh (ZW (ZfL g43_ [] m0 L hr T.cl (pv 0) (Za (pv 2) (Za (pv 3) Zd))))))))))),?_⟩
  obtain⟨dx,hb⟩:=hB.ob;have nP:(Zi7 Ln d).lookup ("put" : Str)=none:=Yq _ _ (by decide +kernel) (by decide +kernel);have nT:(Zi7 Ln d).lookup ("take" : Str)=none:=Yq _ _ (by decide +kernel) (by decide +kernel);refine⟨_,rfl,rfl,_,rfl,?_⟩;rcases hw with rfl | rfl
  ·refine Ya rfl ?_;refine⟨_,rfl,rfl,_,rfl,?_⟩;by_cases c:m= .non
   ·refine Ya (decide_eq_true c) ?_;subst c;exact⟨_,rfl,b,dx,_,rfl,hb,nP,_,rfl,b,d,Ln,ks,g,p,.int 1,np,nm,rfl,hB,hok,tp,tm,hsz,Zhv (b:=b) h1 h2 h0⟩
   ·refine ZM (decide_eq_false c) ?_;have em:oneM m=m:=if_neg c;rw[em]at tm h1 h2 h0;refine⟨_,rfl,rfl,_,rfl,Ya rfl ?_⟩;exact⟨_,rfl,b,dx,_,rfl,hb,nP,_,rfl,_,rfl,b,d,Ln,ks,g,p,m,np,nm,rfl,hB,hok,tp,tm,hsz,Zhv (b:=b) h1 h2 h0⟩
  ·refine ZM rfl (ZM rfl ?_);refine⟨_,rfl,rfl,_,rfl,ZM rfl ?_⟩;refine⟨_,rfl,rfl,_,rfl,?_⟩;by_cases c:m= .non
   ·refine Ya (decide_eq_true c) ?_;subst c;exact⟨_,rfl,b,dx,_,rfl,hb,nT,_,rfl,b,d,Ln,ks,g,p,.int 1,np,nm,rfl,hB,hok,tp,tm,hsz,ZeB (b:=b) h1 h0⟩
   ·refine ZM (decide_eq_false c) ?_;have em:oneM m=m:=if_neg c;rw[em]at tm h1 h2 h0;exact⟨_,rfl,b,dx,_,rfl,hb,nT,_,rfl,_,rfl,b,d,Ln,ks,g,p,m,np,nm,rfl,hB,hok,tp,tm,hsz,ZeB (b:=b) h1 h0⟩
end
theorem ZoY {K:PySem.W.Frag} {mg:Str->Option Value} {C2:Addr} {tb:TC} {i:Nat} {hs:Addr->Obj->TS} {D:Zev} {σ:L2.St} (EE:XK) (hE:∀ cls x H2,EE cls x H2->(∃ y C bm,cls= .ref C/\XCls K mg y C bm/\bm.contains (.ref C2)=true)/\∀ ea oe,oe.cls=cls->H2 ea=none->hs ea oe (ZmS D i) (σ.set i (some (.ref ea))) H2)
  (key:∀ E:XK,(∀ cls x H2,EE cls x H2->E cls x H2)->tb D.nx E σ H):Znn K mg C2 tb i hs D σ H:=key _ hE
section
variable {P:Program} {w:World} {K:PySem.W.Frag} {mg:Str->Option Value} {base:Heap} {C CH CP S A1 A2 A3 A4 A5 A6 A7:Addr} {bmH bmP:List Value}
abbrev Zhg:Stmt:=top 62
abbrev Zn9:List Str:=["_law_bag","_law_way","_law_piece_here","_law_many_here","_law_told_here","error"]
theorem scLTold:Zm Zn9 XV (Zg Zhg):=⟨rfl,rfl,rfl,by decide +kernel,rfl,by decide +kernel,by decide +kernel⟩
def ZgQ (C:Addr):Sp:=fun vs H Q _=>∃ (b d:Addr) (L:Nat) (ks:List Str) (g:Str->Int) (way:Int) (p m:V),vs=[.ref b,.int way,p,m]/\ZfC C H b d L ks g way p m /\
 ∀ q H',Bt d H H'->H' d=some (.dK (gD (nwF L ks g way p (oneM m)).1 (nwF L ks g way p (oneM m)).2))->H' q=some (.lst [.bl true,.int (dueF L ks g way p (oneM m):Nat),.int (if 0<dueF L ks g way p (oneM m)then 1 else 0)])->Q (.ref q) H'
theorem Zd9 {way:Int} {p m:V} (h:dueF L ks g way p m≠0):nwF L ks g way p m=(ks,g):=by
 cases p with
 | str z =>
  cases m with
  | int k =>
   simp only[nwF];rw[if_neg h]
  | _=>rfl
 | _=>cases m <;> rfl
theorem ZiJ (L:Nat) (ks:List Str) (g:Str->Int) (way:Int) (p m:V):dueF L ks g way p m=0\/dueF L ks g way p m=1\/dueF L ks g way p m=2:=by
 cases p with
 | str z =>
  cases m with
  | int k =>
   simp only[dueF];split
   ·split
    ·split
     ·exact .inl rfl
     ·exact .inr (.inr rfl)
    ·split
     ·exact .inl rfl
     ·exact .inr (.inl rfl)
   ·exact .inr (.inl rfl)
  | _=>exact .inr (.inl rfl)
 | _=>cases m <;> exact .inr (.inl rfl)
theorem ZhS (D:HasDef K mg "_law_told" Zhg XV) (B:Blt mg) (Er:ZoN K mg S CP CH A1 A2 A3 A4 A5 A6 A7) (G1:ZoT P w K mg base 6 "_law_deed" XV (ZkX C CP CH)):FOk P w K mg base 7 "_law_told" XV (ZgQ C):=by
 refine D.ok scLTold (fun vs H Q E h=>?_) (fun f cdv A outer s H vs Q E hr h=>?_)
 ·obtain⟨b,d,Ln,ks,g,way,p,m,rfl,_⟩:=h;rfl
 ·obtain⟨b,d,Ln,ks,g,way,p,m,rfl,hD,k⟩:=h;refine⟨_,(Ze (Zp (i:=4) scLTold.nd rfl (.inl rfl) (ZR Zd))
   (Zl9 (Zma 5 rfl rfl rfl (ZjK (Zl8 G1 hr (fun _=>Za (pv 0) (Za (pv 1) (Za (pv 2) (Za (pv 3) Zd))))) (fun _=>Zh (Zp (i:=4) scLTold.nd rfl (.inl rfl) (ZR (Za Ym (Za Zf (Za Zf Zd))))))) Er.sh (fun ea oe pn hm =>
    (Ze (Zp (i:=4) scLTold.nd rfl (.inl rfl) (ZR (Za (Zl (X3 hm) rfl B.isi X4 (Za (pv 5) (Za (ZaL rfl Er.vn Zqk) Zd))) (Za (Zq ZS Zf (ZA Zdv rfl B.int Zkz (Za (Zl (X3 hm) rfl B.isi X4 (Za (pv 5) (Za (Yj (v:=.ref CH) rfl Er.nh.bound rfl) Zd))) Zd))) (Za Zf Zd)))))
    (Ze (ZE (Zo ZaM (Zl (X3 hm) rfl B.isi X4 (Za (pv 5) (Za (Yj (v:=.ref CP) rfl Er.np.bound rfl) Zd))) (Zl (X3 hm) rfl B.isi X4 (Za (pv 5) (Za (Yj (v:=.ref CH) rfl Er.nh.bound rfl) Zd))) (Zr _)) (Zh (Zk5 Zf (Zk8 (pv 4) Zf JQ))) Zs)
    (Zh (ZE (ZQ (Zl (Zi0 hm) rfl B.isi X4 (Za (pv 5) (Za (YE (Za (Yj (v:=.ref A1) rfl Er.g1 rfl) (Za (Yj (v:=.ref A2) rfl Er.g2 rfl) (Za (Yj (v:=.ref A3) rfl Er.g3 rfl) (Za (Yj (v:=.ref A4) rfl Er.g4 rfl) (Za (Yj (v:=.ref A5) rfl Er.g5 rfl) (Za (Yj (v:=.ref A6) rfl Er.g6 rfl) (Za (Yj (v:=.ref A7) rfl Er.g7 rfl) Zd)))))))) Zd)))) (Zh (Zk5 Zf (Zk8 (pv 4) Zf JQ))) Zs))))) scLTold.nd)
   (Zh (Zn (pv 4))))),?_⟩
  refine⟨QL _,fun p0 hp0=>?_⟩;have s0:=Zb (o:=.lst []) hp0;generalize upd H p0 (.lst [])=H00 at s0;obtain⟨hw,hB,hok,⟨np,tp⟩,⟨nm,tm⟩,hsz⟩:=hD;have hD0:ZfC C H00 b d Ln ks g way p m:=⟨hw,hB.same s0,hok,⟨np,tp.same s0⟩,⟨nm,tm.same s0⟩,hsz⟩
  obtain⟨du,edu⟩:∃ du,du=dueF Ln ks g way p (oneM m):=⟨_,rfl⟩
  have h3:=ZiJ Ln ks g way p (oneM m);have hnw:du≠0->nwF Ln ks g way p (oneM m)=(ks,g):=fun q=>Zd9 (by rw[←edu];exact q);rw[←edu]at h3 k;refine⟨fun σ H'=>∃ q a0 a1 a2 a3 a5,σ=[a0,a1,a2,a3,some (.ref q),a5]/\Bt d H H'/\H' d=some (.dK (gD (nwF Ln ks g way p (oneM m)).1 (nwF Ln ks g way p (oneM m)).2))/\H' q=some (.lst [.bl true,.int (du:Nat),.int (if 0<du then 1 else 0)]),?_,?_⟩
  ·refine ZoY (fun cls _ H1=>Same H00 H1/\((du=1/\cls= .ref CP)\/(du=2/\cls= .ref CH))) ?_ ?_
   ·rintro cls _ H1 ⟨hs1,hc⟩;obtain⟨Cx,bq,ecl,hX,hup,hat,k1,k2,k3,k4,hdu⟩:∃ (Cx:Addr) (bq:Bool),cls= .ref Cx/\(∃ y,XCls K mg y Cx (Zgh K Cx))/\(Zgh K Cx).contains (.ref S)=true/\JJ K Cx/\PySem.W.kitOne K (.ref Cx) (.ref CP)=some (!bq)/\PySem.W.kitOne K (.ref Cx) (.ref CH)=some bq/\PySem.W.kitOne K (.ref Cx) (.type "ValueError")=some true/\PySem.W.kitAny K (.ref Cx) [.ref A1,.ref A2,.ref A3,.ref A4,.ref A5,.ref A6,.ref A7]=some false/\(du:Int)=1+(if bq then 1 else 0):=by
     rcases hc with ⟨e1,e2⟩ | ⟨e1,e2⟩
     ·exact⟨CP,false,e2,⟨_,Er.np⟩,Er.up1,Er.at1,Zfe,Er.x1,Er.v1,Er.o1,by rw[e1];rfl⟩
     ·exact⟨CH,true,e2,⟨_,Er.nh⟩,Er.up2,Er.at2,Er.x2,Zfe,Er.v2,Er.o2,by rw[e1];rfl⟩
    have hd1:0<du:=by rcases hc with ⟨e1,_⟩ | ⟨e1,_⟩ <;> omega
    subst ecl;obtain⟨y,hX⟩:=hX;refine⟨⟨_,_,_,rfl,hX,hup⟩,fun ea oe hoe hne=>?_⟩;refine⟨_,rfl,.ty "ValueError",Cx,_,true,rfl,hoe,hat,rfl,k3,_,rfl,.ref CH,Cx,.ref CH,bq,rfl,hoe,hat,rfl,k2,.inr ⟨bq,rfl,?_⟩⟩;refine⟨_,_,rfl,rfl,(show 3<=sizeLine by rw[sizeLine_eq];decide),fun q hq=>?_⟩;have s1:=Zb (o:=.lst [.bl true,.int (1+if bq then 1 else 0),.int 0]) hq;have hq1:(upd H1 q (.lst [.bl true,.int (1+if bq then 1 else 0),.int 0])) q=some (.lst [.bl true,.int (1+if bq then 1 else 0),.int 0]):=Zc;generalize upd H1 q (.lst [.bl true,.int (1+if bq then 1 else 0),.int 0])=H2 at s1 hq1;refine⟨_,rfl,.ref CP,Cx,.ref CP,!bq,rfl,hoe,hat,rfl,k1,_,rfl,.ref CH,Cx,.ref CH,bq,rfl,hoe,hat,rfl,k2,rfl,_,rfl,?_⟩;refine Ya (by cases bq <;> rfl) ?_;refine⟨_,rfl,q,_,2,2,rfl,rfl,hq1,rfl,?_⟩;have hq2:(upd H2 q (.lst [.bl true,.int (1+if bq then 1 else 0),.int 1])) q=some (.lst [.bl true,.int (1+if bq then 1 else 0),.int 1]):=Zc;have hqH1:H1 q=none:=hq;refine⟨_,rfl,(show 7<=sizeLine by rw[sizeLine_eq];decide),fun t ht=>?_⟩;have s2:=Zb (o:=.tup [.ref A1,.ref A2,.ref A3,.ref A4,.ref A5,.ref A6,.ref A7]) ht;refine⟨t,Cx,[A1,A2,A3,A4,A5,A6,A7],false,rfl,hoe,hat,Zc,k4,_,rfl,Zka ?_⟩;have sAll:Same H (upd (upd H2 q (.lst [.bl true,.int (1+if bq then 1 else 0),.int 1])) t (.tup [.ref A1,.ref A2,.ref A3,.ref A4,.ref A5,.ref A6,.ref A7])):=fun a u ea=>by
     refine s2 _ _ ?_;have e1:=hs1 _ _ (s0 _ _ ea);rw[Zi (Zk e1 hqH1)];exact s1 _ _ e1
    refine⟨q,_,_,_,_,_,rfl,fun a u _ ea=>sAll a u ea,?_,?_⟩
    ·rw[hnw (by omega)];exact sAll _ _ hB.dc
    ·have:=s2 _ _ hq2;refine this.trans ?_;rw[←hdu,if_pos hd1]
   ·intro E1 hE1;refine⟨_,rfl,_,rfl,_,rfl,_,rfl,b,d,Ln,ks,g,way,p,m,rfl,hD0,?_,?_,?_⟩
    ·intro e H1 hs1;exact hE1 _ _ _ ⟨hs1,.inl ⟨by rw[edu];exact e,rfl⟩⟩
    ·intro e H1 hs1;exact hE1 _ _ _ ⟨hs1,.inr ⟨by rw[edu];exact e,rfl⟩⟩
    ·intro e H1 hbt hd1;have e0:du=0:=by rw[edu];exact e
     refine⟨(show 3<=sizeLine by rw[sizeLine_eq];decide),fun q hq=>?_⟩;have s1:=Zb (o:=.lst [.bl true,.int 0,.int 0]) hq;refine⟨q,_,_,_,_,_,rfl,fun a u n ea=>s1 _ _ (hbt a u n (s0 _ _ ea)),s1 _ _ hd1,?_⟩;rw[Zc,e0];rfl
  ·rintro σ H' ⟨q,a0,a1,a2,a3,a5,rfl,hbt,hd1,hq⟩;exact⟨_,rfl,k q H' hbt hd1 hq⟩
abbrev ZdT:Stmt:=top 69
theorem Zju:Zm ["_law_long"] ["_law_long"] (Zg ZdT):=⟨rfl,rfl,rfl,by decide +kernel,rfl,by decide +kernel,by decide +kernel⟩
def ZgO:Sp:=fun vs H Q _=>∃ (v:V) (n:String),vs=[v]/\TyB H v n/\ZT v=false/\∀ H',Same H H'->Q (.bl true) H'
theorem Zd5 (D:HasDef K mg "_law_no_bag" ZdT ["_law_long"]) (T:BgC K mg C) (Er:ZoN K mg S CP CH A1 A2 A3 A4 A5 A6 A7) (G1:IOkX P w K mg base C 3 ["self","long"] (ZgT C CH)):FOk P w K mg base 5 "_law_no_bag" ["_law_long"] ZgO:=by
 refine D.ok Zju (fun vs H Q E h=>?_) (fun f cdv A outer s H vs Q E hr h=>?_)
 ·obtain⟨v,n,rfl,_⟩:=h;rfl
 ·obtain⟨v,n,rfl,tv,hl,k⟩:=h;refine⟨_,(Ze (Zhw rfl rfl rfl (Zmk (Zpi G1 hr T.mgC (fun _=>Za (pv 0) Zd))) Er.nh (fun ea oe pn hm=>Zh (Zn Ym))) (Zh (Zn Ym))),?_⟩;refine⟨_,rfl,fun x dx hx hdx hne=>?_⟩;have s1:Same H (upd (upd H dx (.own x)) x (.ins C dx [])):=fun a u e=>by
   rw[Zi (Zk e hx),Zi (Zk e hdx)];exact e
  refine⟨x,dx,v,n,rfl,Zc,tv.same s1,.inl ⟨hl,fun H1 s2=>?_⟩⟩;refine⟨⟨_,CH,_,rfl,Er.nh,by simp⟩,fun ea oe hoe hne=>?_⟩;exact k _ (s1.trans s2)
abbrev ZbE:Stmt:=top 66
theorem Zg9:Zm ["_law_bag","_law_way"] ["_law_bag","_law_way"] (Zg ZbE):=⟨rfl,rfl,rfl,by decide +kernel,rfl,by decide +kernel,by decide +kernel⟩
def ZeJ (C:Addr):Sp:=fun vs H Q _=>∃ (b d:Addr) (L:Nat) (g:Str->Int) (way:Int),vs=[.ref b,.int way]/\BagAt C H b d L [] g/\X7 [] g/\∀ H',Same H H'->Q (.bl true) H'
theorem ZcY (D:HasDef K mg "_law_no_heap" ZbE ["_law_bag","_law_way"]) (T:BgC K mg C) (Er:ZoN K mg S CP CH A1 A2 A3 A4 A5 A6 A7) (G1:MOkX P w K mg base C 9 "verdict_now" ["self"] [[]] (ZgI C CH)) (G2:MOkX P w K mg base C 9 "texts_now" ["self"] [[]] (ZgL C CH)):FOk P w K mg base 10 "_law_no_heap" ["_law_bag","_law_way"] (ZeJ C):=by
 refine D.ok Zg9 (fun vs H Q E h=>?_) (fun f cdv A outer s H vs Q E hr h=>?_)
 ·obtain⟨b,d,Ln,g,way,rfl,_⟩:=h;rfl
 ·obtain⟨b,d,Ln,g,way,rfl,hB,hok,k⟩:=h;have m0:([]:List V)∈[([]:List V)]:=Qm.mpr rfl;refine⟨_,(Ze (Zhw rfl rfl rfl (ZnX (fun _=>Zo Yv (pv 1) Zf (Zr _)) (Zmk (ZnO G1 [] m0 hr T.cl (fun _=>pv 0))) (Zmk (ZnO G2 [] m0 hr T.cl (fun _=>pv 0)))) Er.nh (fun ea oe pn hm=>Zh (Zn Ym))) (Zh (Zn Ym))),?_⟩;obtain⟨dx,hb⟩:=hB.ob;refine⟨_,rfl,rfl,_,rfl,Zff (fun _=>?_) (fun _=>?_)⟩
  ·refine⟨_,rfl,b,dx,_,rfl,hb,Yq _ _ (by decide +kernel) (by decide +kernel),b,d,Ln,[],g,rfl,hB,hok,.inl ⟨rfl,fun H1 s1=>?_⟩⟩;exact⟨⟨_,CH,_,rfl,Er.nh,by simp⟩,fun ea oe hoe hne=>k _ s1⟩
  ·refine⟨_,rfl,b,dx,_,rfl,hb,Yq _ _ (by decide +kernel) (by decide +kernel),b,d,Ln,[],g,rfl,hB,hok,.inl ⟨rfl,fun H1 s1=>?_⟩⟩;exact⟨⟨_,CH,_,rfl,Er.nh,by simp⟩,fun ea oe hoe hne=>k _ s1⟩
end
end Sh
namespace L2
open PySem PySem.Spec PyProof.Rows PySem.W
theorem ZeZ {X:Cx} (hu:X.A.units+64<cLine):OpR X (compareOp .Eq) (fun x y H Q=>∃ a b xs,x= .ref a/\y= .ref b/\H a=some (.lst xs)/\H b=some (.lst [])/\Q (.bl xs.isEmpty) H):=by
 intro pins s σ H x y v u Q I rx ry h;obtain⟨a,b,xs,rfl,rfl,ha,hb,q⟩:=h;cases rx;cases ry;obtain⟨_,its,n,r,g⟩:=(show ObjOk X.prog X.w H s.heap a (.lst xs)from I.hok a _ ha)
 obtain⟨_,its2,n2,r2,g2⟩:=(show ObjOk X.prog X.w H s.heap b (.lst [])from I.hok b _ hb)
 cases r2;have hl:=r.length;cases xs with
 | nil =>
  cases r;exact SeqAt.RcAt.lists (e:=fun _=>true) (items:=#[]) (items2:=#[]) ⟨_,g,rfl,n,rfl⟩ ⟨_,g2,rfl,n2,rfl⟩ rfl (Wv (R8 _ _) hu) (fun j h1 _=>absurd h1 (Ve _)) X.prog X.w X.xe (EP X pins σ Q) ⟨V.bl _,H,I,rfl,q⟩
 | cons x xs =>
  refine SeqAt.RcAt.lists_lengths (items:=its.toArray) (items2:=#[]) ⟨_,g,rfl,n,rfl⟩ ⟨_,g2,rfl,n2,rfl⟩ ?_ (Wv (R8 _ _) hu) X.prog X.w X.xe (EP X pins σ Q) ⟨V.bl _,H,I,rfl,q⟩;rw[bne_iff_ne];intro e;rw[Qu,←hl]at e;cases e
end L2
namespace Sh
open PySem L2 PyProof.Rows
seal L2.PE L2.PS L2.PSs L2.PT L2.PW L2.PA L2.PI L2.PG L2.PGs L2.PO L2.PC L2.PCs L2.OpR L2.UnR L2.CallR L2.MtR L2.IxR L2.SlR L2.PX L2.PBc
variable {P:Program} {w:World} {K:PySem.W.Frag} {mg:Str->Option Value} {base:Heap}
variable {C d:Addr} {H H':Hp} {L n:Nat} {g:Str->Int} {h:Heap} {ks ss:List Str} {sd:Int} {x:Str}
theorem ZmE {k:Nat} {mp:List Nat} {σ:L2.St} {g:TG} {tc:TT} {te:TE} {J:It} {H1:Hp} {Q:VK} (n:Nat) (xs:Nat->V) (t:Nat->Bool) (hn:n<=sizeLine)
  (hJ:∀ H,Same H1 H->(∀ i,i<n->J.go i H/\∀ x H',J.yld i H x H'->H'=H/\x=xs i)/\J.stop n H)
  (step:∀ i H (Qt:VK) (Qf:Hp->Prop),i<n->Same H1 H->(t i=true->Qt (xs i) H)->(t i=false->Qf H)->g (xs i) (lcS k mp σ) H fun σ4 H4=>tc σ4 H4 fun b H5=>if b=true then te σ4 H5 Qt else Qf H5)
  (done:∀ D H',Same H1 H'->H1 D=none->H' D=some (.lst (((Qs n).filter t).map xs))->Q (.ref D) H'):JB k mp σ g tc te J H1 Q:=by
 intro D hD;refine⟨fun i m acc H=>m=n-i/\i<=n/\acc=((Qs i).filter t).map xs/\Same H1 H/\H D=some (.lst acc),⟨n,by simp,QL _,rfl,Zb hD,Zc⟩,?_⟩;rintro i m acc H ⟨rfl,hi,rfl,hs,hDa⟩;obtain⟨j1,j2⟩:=hJ H hs;by_cases hlt:i<n
 ·refine .inr ⟨(j1 i hlt).1,fun x H3 y=>?_⟩;obtain⟨e1,e2⟩:=(j1 i hlt).2 x H3 y;subst e1 e2;refine step i H3 _ _ hlt hs (fun ht=>⟨hDa,?_,n-(i+1),by omega,rfl,hlt,?_,fun b o e=>?_,Zc⟩) (fun ht=>⟨n-(i+1),by omega,rfl,hlt,?_,hs,hDa⟩)
  ·rw[Qc];have:=Q5 t (Qs i);rw[Q4]at this;omega
  ·rw[WV,Wg,QG];simp[ht]
  ·rw[Zi (Zk e hD)];exact hs b o e
  ·rw[WV,Wg,QG];simp[ht]
 ·have e:i=n:=by omega
  subst e;exact .inl ⟨j2,done D H hs hD hDa⟩
def ZaA (L:Nat):V->Bool
 | .str z=>decide (z.length=L)&&z.cps.toList.all ZI
 | _=>false
def Zpp (L:Nat):V->Bool
 | .str z=>decide (z.length=L)
 | _=>false
theorem ZjT (z:Str) (f:Nat->V):(((Qs z.cps.size).filter fun i=>!ZI (z.cps.getD i 0)).map f).isEmpty=z.cps.toList.all ZI:=by
 rw[WE,List.isEmpty_iff,RB,UK,WG];constructor
 ·intro h c hc;obtain⟨i,hi,e⟩:=WP hc;rw[QC]at hi;have:=h i (QM.mpr hi);have eg:z.cps.getD i 0=c:=by
   rw[QQ,QX hi];simpa using e
  rw[eg]at this;simpa using this
 ·intro h i hi;have hi':=QM.mp hi;have eg:z.cps.getD i 0=z.cps[i]:=by
   rw[QQ,QX hi'];rfl
  rw[eg];have:=h z.cps[i] (by simp);simp[this]
theorem Zcf (h1:1<=L) (h2:L<=300) (p:V) (k:Int):Yb L p (.int k)=(ZaA L p&&decide (1<=k)):=by
 cases p with
 | str z =>
  simp only[Yb,ZaA,YB,ZT];by_cases c:z.length=L
  ·rw[decide_eq_true c,decide_eq_true (show(1:Int)<=z.length by omega),decide_eq_true (show(z.length:Int)<=300 by omega)];simp
  ·rw[decide_eq_false c];simp
 | _=>rfl
theorem Zfi {p m:V} (h:∀ k,m≠.int k):Yb L p m=false:=by
 cases p <;> cases m <;> first | rfl | exact absurd rfl (h _)
structure RowAt (C:Addr) (H:Hp) (r b d d2:Addr) (L:Nat) (ks:List Str) (g:Str->Int):Prop where
 row:H r=some (.lst [.ref b,.int L,.ref d2])
 bag:BagAt C H b d L ks g
 dc2:H d2=some (.dK (gD ks g))
theorem RowAt.same {r b d2:Addr} (h:RowAt C H r b d d2 L ks g) (s:Same H H'):RowAt C H' r b d d2 L ks g:=⟨s _ _ h.row,h.bag.same s,s _ _ h.dc2⟩
section
variable {P:Program} {w:World} {K:PySem.W.Frag} {mg:Str->Option Value} {base:Heap} {C:Addr}
abbrev ZjB:Stmt:=top 63
abbrev Zod:List Str:=["_law_row","_law_way","_law_piece_here","_law_many_here","_law_good"]
theorem scLDue:Zm Zod ["_law_row","_law_way","_law_piece_here","_law_many_here"] (Zg ZjB):=⟨rfl,rfl,rfl,by decide +kernel,rfl,by decide +kernel,by decide +kernel⟩
def ZnF (C:Addr):Sp:=fun vs H Q _=>∃ (r b d d2:Addr) (L:Nat) (ks:List Str) (g:Str->Int) (way:Int) (p m:V),vs=[.ref r,.int way,p,m]/\RowAt C H r b d d2 L ks g/\ZfC C H b d L ks g way p m/\1<=L/\L<=300 /\
 ∀ H',Bt d2 H H'->H' d2=some (.dK (gD (nwF L ks g way p (oneM m)).1 (nwF L ks g way p (oneM m)).2))->Q (.int (dueF L ks g way p (oneM m):Nat)) H'
theorem ZjQ (D:HasDef K mg "_law_due" ZjB ["_law_row","_law_way","_law_piece_here","_law_many_here"]) (B:Blt mg) (g10_:FOk P w K mg base 1 "_law_whole" ["_law_found"] Jc):FOk P w K mg base 2 "_law_due" ["_law_row","_law_way","_law_piece_here","_law_many_here"] (ZnF C):=by
 refine D.ok scLDue (fun vs H Q E h=>?_) (fun f cdv A outer s H vs Q E hr h=>?_)
 ·obtain⟨r,b,d,d2,Ln,ks,g,way,p,m,rfl,_⟩:=h;rfl
 ·obtain⟨r,b,d,d2,Ln,ks,g,way,p,m,rfl,hRw,⟨hw,_,hok,⟨np,tp⟩,⟨nm,tm⟩,hsz⟩,hL1,hL3,k⟩:=h;have hu:=JH hr;refine⟨_,(Ze (Zp (i:=4) scLDue.nd rfl (.inl rfl) (Za9 (Zl Yc rfl B.isi X4 (Za (pv 2) (Za (ZaL rfl B.str Zm5) Zd))) (Za8 (YH Yv (Zl ZC rfl B.len Ys (Za (pv 2) Zd)) (Zw ix_list (pv 0) Zf (fun _ _=>rfl)) (Zr _)))))
   (Ze (ZE (ZQ (pv 4)) (Zh (Zp (i:=4) scLDue.nd rfl (.inl rfl) (YH (ZeZ hr.units) (ZJ (Zg ZjB) Zod ["_law_sign"] [] rfl (Zk7 (pv 2)) (fun _ _ _ _ _=>Yi 0) (fun _ _ _ _ _=>Zak (Zo ZcR (pv 0) Z8 rfl)) (fun _ _ _ _ _=>(pv 0))) (ZR Zd) (Zr _)))) Zs)
   (Ze (ZE (Zo ZcT (pv 3) YF (Zr _)) (Zh (Zp (i:=3) scLDue.nd rfl (.inl rfl) Zf)) Zs)
   (Ze (ZE (PW.pt (Zae (Z3 (ZQ (pv 4))) (Zae (Z3 (ZQ (Zt g10_ hr (Za (pv 3) Zd)))) (Jw (Zo ZbX (pv 3) Zf (Zr _)))))) (Zh (Zn Zf)) Zs)
   (Ze (ZE (PW.pt (XT (Zo Yv (pv 1) Zf (Zr _)) (Y9 (Zo ZaN (Zq ZS (Zl (X2 rfl) rfl B.sum Zep (Za (ZA (Zbl rfl) rfl B.list Zfx (Za (Zai (Zw ix_list (pv 0) Zf (fun _ _=>rfl))) Zd)) Zd)) (pv 3)) (Zq Xa Zf (Zw ix_list (pv 0) Zf (fun _ _=>rfl))) (Zr _))))) (Zh (Zn Zf)) Zs)
   (Ze (ZE (PW.pt (XT (Zo Yv (pv 1) Zf (Zr _)) (Y9 (Zo ZbX (Yu hu (Zw ix_list (pv 0) Zf (fun _ _=>rfl)) (pv 2) Zf ⟨rfl,rfl,rfl,rfl⟩) (pv 3) (Zr _))))) (Zh (Zn Zf)) Zs)
   (Ze (YV hu (Zw ix_list (pv 0) Zf (fun _ _=>rfl)) (pv 2) (Zq ZS (Yu hu (Zw ix_list (pv 0) Zf (fun _ _=>rfl)) (pv 2) Zf ⟨rfl,rfl,rfl,rfl⟩) (Zq Jy (pv 3) (Zw ix_list (ZR (Za Zf (Za (XG Yx Zf) Zd))) (pv 1) (fun _ _=>rfl)))) rfl)
   (Ze (ZE (Zo Yv (Zaj hu (Zw ix_list (pv 0) Zf (fun _ _=>rfl)) (pv 2) (fun _ _=>rfl)) Zf (Zr _)) (Zh (ZW (ZeW (Zw ix_list (pv 0) Zf (fun _ _=>rfl)) (pv 2) ⟨rfl,rfl,rfl,rfl⟩))) Zs)
   (Zh (Zn Zf)))))))))),?_⟩
  show ZfF (ZoQ _ _) _ _ _ _;refine Yh (fun σ H'=>H'=H/\σ=[some (.ref r),some (.int way),some p,some m,some (.bl (Zpp Ln p))]) (fun R hR=>?_) ?_
  ·refine⟨_,rfl,p,"str",np,rfl,by decide,tp,_,rfl,?_⟩;cases hb:ZmL np "str" with
   | false =>
    have e:(Zpp Ln p)=false:=by
     cases tp with
     | str z=>exact absurd hb (by decide)
     | _=>rfl
    rw[e]at hR;exact Zka (hR _ _ ⟨rfl,rfl⟩)
   | true =>
    refine ZmK ?_;cases tp with
    | str z =>
     refine⟨_,rfl,.str z,z.length,rfl,⟨hsz z rfl,rfl⟩,_,rfl,r,_,1,.int Ln,rfl,rfl,SqL.of hRw.row,rfl,rfl,hR _ _ ⟨rfl,?_⟩⟩;have:decide (V.int (z.length:Int)=V.int (Ln:Int))=decide (z.length=Ln):=by
      by_cases c:z.length=Ln
      ·rw[decide_eq_true c,c];simp
      ·rw[decide_eq_false c,decide_eq_false fun e=>c (by injection e with e;omega)]
     rw[this];rfl
    | _=>exact absurd hb (by decide)
  rintro σ H0 ⟨rfl,rfl⟩;show ZfF (ZkJ _ _ _) _ _ _ _;refine Yh (fun σ H'=>Same H0 H'/\σ=[some (.ref r),some (.int way),some p,some m,some (.bl (ZaA Ln p))]) (fun R hR=>?_) ?_
  ·refine⟨_,rfl,_,rfl,?_⟩;cases hl:Zpp Ln p with
   | false =>
    refine ZM rfl (hR _ _ ⟨Same.refl _,?_⟩);have:ZaA Ln p=false:=by
     cases p with
     | str z =>
      have h0:decide (z.length=Ln)=false:=hl;simp only[ZaA];rw[h0];rfl
     | _=>rfl
    rw[this]
   | true =>
    obtain⟨z,rfl⟩:∃ z,p= .str z:=by cases p <;> first | exact⟨_,rfl⟩ | cases hl
    have h0:decide (z.length=Ln)=true:=hl;have hz:=hsz z rfl;refine Ya rfl ?_;refine⟨_,rfl,z,rfl,ZmE z.cps.size (fun i=>.str ⟨#[z.cps.getD i 0]⟩) (fun i=>!ZI (z.cps.getD i 0)) hz Zln ?_ ?_⟩
    ·intro i H1 Qt Qf hi hs ht hf;refine⟨_,rfl,_,_,rfl,rfl,_,rfl,?_⟩;have e:(!(!(Builtin.Str.occurrences ("abcdefghijklmnopqrstuvwxyz" : Str) ⟨#[z.cps.getD i 0]⟩ 0 ("abcdefghijklmnopqrstuvwxyz" : Str).length 1).isEmpty))= !ZI (z.cps.getD i 0):=by
      rw[ZpK,Zan]
     rw[e];cases ho:ZI (z.cps.getD i 0)with
     | false=>exact Ya rfl ⟨_,rfl,ht (by rw[ho];rfl)⟩
     | true=>exact ZM rfl (hf (by rw[ho];rfl))
    ·intro D1 H1 hs hD1 hDl;refine⟨QL _,fun p0 hp0=>?_⟩;have s0:=Zb (o:=.lst []) hp0;refine⟨D1,p0,_,rfl,rfl,s0 _ _ hDl,Zc,hR _ _ ⟨hs.trans s0,?_⟩⟩;rw[ZjT];simp only[ZaA];rw[h0,Rz];rfl
  rintro σ H1 ⟨s1,rfl⟩;have hR1:=hRw.same s1;show ZfF (ZkJ _ _ _) _ _ _ _;refine Yh (fun σ H'=>H'=H1/\σ=[some (.ref r),some (.int way),some p,some (oneM m),some (.bl (ZaA Ln p))]) (fun R hR=>?_) ?_
  ·refine⟨_,rfl,rfl,_,rfl,?_⟩;by_cases c:m= .non
   ·refine Ya (decide_eq_true c) (hR _ _ ⟨rfl,?_⟩);rw[c];rfl
   ·refine ZM (decide_eq_false c) (hR _ _ ⟨rfl,?_⟩);rw[show oneM m=m from if_neg c]
  rintro σ H1' ⟨rfl,rfl⟩;generalize oneM m=m1 at *;have ret:∀ H',Same H1' H'->dueF Ln ks g way p m1≠0->Q (.int (dueF Ln ks g way p m1:Nat)) H':=fun H' s' hne=>by
   refine k H' (fun a u _ ea=>s' _ _ (s1 _ _ ea)) ?_;rw[Zd9 hne];exact s' _ _ (s1 _ _ hRw.dc2)
  have ret1:∀ H',Same H1' H'->dueF Ln ks g way p m1=1->Q (.int 1) H':=fun H' s' e=>by
   have:=ret H' s' (by omega);rw[e]at this;exact this
  refine⟨_,rfl,_,rfl,?_⟩;cases hg:ZaA Ln p with
  | false =>
   refine Ya rfl (Ya rfl ?_);refine ret1 _ (Same.refl _) (Jo ?_);cases m1 with
   | int k0=>rw[Zcf hL1 hL3,hg];rfl
   | _=>exact Zfi fun k0 e=>by cases e
  | true =>
  refine ZM rfl ?_;refine⟨_,rfl,m1,nm,rfl,tm.same s1,_,rfl,?_⟩;cases hn:(nm == "int")with
  | false =>
   refine Ya rfl (Ya rfl ?_);refine ret1 _ (Same.refl _) (Jo ?_);cases tm with
   | int i=>cases hn
   | _=>exact Zfi fun k0 e=>by cases e
  | true =>
  obtain⟨k0,rfl⟩:∃ k0,m1= .int k0:=by
   cases tm with
   | int i=>exact⟨i,rfl⟩
   | _=>exact absurd hn (by decide)
  refine ZM rfl ?_;refine⟨_,rfl,_,_,rfl,rfl,_,rfl,?_⟩;by_cases ck:k0<1
  ·refine Ya (decide_eq_true ck) ?_;refine ret1 _ (Same.refl _) (Jo ?_);rw[Zcf hL1 hL3,decide_eq_false (show ¬ 1<=k0 by omega),Uq]
  refine ZM (decide_eq_false ck) ?_;obtain⟨x,rfl⟩:∃ x,p= .str x:=by cases p <;> first | exact⟨_,rfl⟩ | cases hg
  have hgP:Yb Ln (.str x) (.int k0)=true:=by rw[Zcf hL1 hL3,hg,decide_eq_true (show 1<=k0 by omega)];rfl
  have hrow2:atI [V.ref b,.int Ln,.ref d2] 2=some (.ref d2):=rfl;have hrow1:atI [V.ref b,.int Ln,.ref d2] 1=some (.int Ln):=rfl;have ed:dueF Ln ks g way (.str x) (.int k0)=(if way=0 then (if (ks.map g).sum+k0<=301-(Ln:Int)then 0 else 2)else if k0<=g x then 0 else 1):=by
   simp only[dueF];rw[if_pos hgP]
  unfold Znq;dsimp only;refine Yh (fun σ H'=>Same H1' H'/\σ=[some (.ref r),some (.int way),some (.str x),some (.int k0),some (.bl true)]/\(way=0->(ks.map g).sum+k0<=301-(Ln:Int))) (fun R hR=>?_) ?_
  ·refine⟨_,rfl,rfl,_,rfl,?_⟩;by_cases cw:way=0
   rotate_left
   ·exact ZM (Xf cw) (ZM rfl (hR _ _ ⟨Same.refl _,rfl,fun e=>absurd e cw⟩))
   refine Ya (Zaz cw) ?_;refine⟨_,rfl,r,_,2,.ref d2,rfl,rfl,SqL.of hR1.row,hrow2,d2,_,rfl,hR1.dc2,fun pv hpv=>?_⟩;have s2:=Zb (o:=vvO pv d2) hpv;refine⟨pv,d2,_,rfl,Zc,s2 _ _ hR1.dc2,fun l hl=>?_⟩;have s3:=Zb (o:=.lst ((gD ks g).map (·.2))) hl;have s23:=s2.trans s3;refine⟨l,ks.map g,rfl,SqL.of (by rw[Zc,ZiB]),_,rfl,_,_,rfl,rfl,_,rfl,r,_,1,.int Ln,rfl,rfl,SqL.of (s23 _ _ hR1.row),hrow1,_,_,rfl,rfl,_,_,rfl,rfl,_,rfl,?_⟩;by_cases cs:(ks.map g).sum+k0<=301-(Ln:Int)
   ·exact ZM (decide_eq_false (show ¬ 301-(Ln:Int)<(ks.map g).sum+k0 by omega)) (hR _ _ ⟨s23,rfl,fun _=>cs⟩)
   ·refine Ya (decide_eq_true (show 301-(Ln:Int)<(ks.map g).sum+k0 by omega)) ?_;have e2:dueF Ln ks g way (.str x) (.int k0)=2:=by rw[ed,if_pos cw,if_neg cs]
    have:=ret _ s23 (by omega);rw[e2]at this;exact this
  rintro σ H2 ⟨s2,rfl,hA⟩;have hR2:=hR1.same s2;show ZfF (ZkJ _ _ _) _ _ _ _;refine Yh (fun σ H'=>H'=H2/\σ=[some (.ref r),some (.int way),some (.str x),some (.int k0),some (.bl true)]/\(way=1->k0<=g x)) (fun R hR=>?_) ?_
  ·refine⟨_,rfl,rfl,_,rfl,?_⟩;by_cases cw:way=1
   rotate_left
   ·exact ZM (Xf cw) (ZM rfl (hR _ _ ⟨rfl,rfl,fun e=>absurd e cw⟩))
   refine Ya (Zaz cw) ?_;refine⟨_,rfl,r,_,2,.ref d2,rfl,rfl,SqL.of hR2.row,hrow2,d2,rfl,.inl ⟨_,.inl hR2.dc2⟩,_,rfl,_,DGet.kk (k:=Sum.inr x) hR2.dc2,?_⟩;rw[ZaB hok];refine⟨_,rfl,_,_,rfl,rfl,_,rfl,?_⟩;by_cases cs:k0<=g x
   ·exact ZM (decide_eq_false (show ¬ g x<k0 by omega)) (hR _ _ ⟨rfl,rfl,fun _=>cs⟩)
   ·refine Ya (decide_eq_true (show g x<k0 by omega)) ?_;exact ret1 _ s2 (by rw[ed,cw,if_neg (by decide),if_neg cs])
  rintro σ H2' ⟨rfl,rfl,hB⟩;have e0:dueF Ln ks g way (.str x) (.int k0)=0:=by
   rw[ed];rcases hw with e | e
   ·rw[if_pos e,if_pos (hA e)]
   ·rw[if_neg (by omega),if_pos (hB e)]
  have hat:atI [V.int 1,.int (-1)] way=some (.int (if way=0 then 1 else -1)):=by
   rcases hw with e | e
   ·rw[e];rfl
   ·rw[e];rfl
  obtain⟨kk,ekk⟩:∃ kk,kk=k0*(if way=0 then 1 else -1):=⟨_,rfl⟩
  have ekk2:kk=if way=0 then k0 else -k0:=by
   rw[ekk];split <;> omega
  have en:nwF Ln ks g way (.str x) (.int k0)=(upK ks g x kk,upG g x kk):=by
   simp only[nwF];rw[if_pos e0,ekk2]
  rw[e0,en]at k;refine⟨_,rfl,r,_,2,.ref d2,rfl,rfl,SqL.of hR2.row,hrow2,d2,rfl,.inl ⟨_,.inl hR2.dc2⟩,_,rfl,_,DGet.kk (k:=Sum.inr x) hR2.dc2,?_⟩;rw[ZaB hok];refine⟨_,rfl,_,rfl,Zj (show 2<=1000 by decide),fun pl hpl=>?_⟩;have s3:=Zb (o:=.lst [V.int 1,.int (-1)]) hpl;have hR3:=hR2.same s3;refine⟨_,rfl,pl,_,way,_,rfl,rfl,SqL.of Zc,hat,_,_,rfl,rfl,.inr (by split <;> decide),_,_,rfl,rfl,?_⟩;rw[←ekk];refine⟨_,rfl,r,_,2,.ref d2,rfl,rfl,SqL.of hR3.row,hrow2,_,rfl,d2,_,rfl,DPut.kk (k:=Sum.inr x) hR3.dc2 (by rw[XY];exact Zz (by have:=hok.few;omega)),?_⟩;rw[Zbg];have hrd:r≠d2:=fun e=>by have h1:=hR3.row;rw[e,hR3.dc2]at h1;cases h1
  generalize upd H2' pl (.lst [V.int 1,.int (-1)])=H3 at s3 hR3;have sA:=(s1.trans s2).trans s3;have hxk:x∈(if x∈ks then ks else ks++[x]):=by
   by_cases c:x∈ks
   ·rw[if_pos c];exact c
   ·rw[if_neg c];exact QU _ (Qm.mpr rfl)
  have hk1:upK ks g x kk=if g x+kk=0 then (if x∈ks then ks else ks++[x]).filter fun y=>decide (y≠x)else if x∈ks then ks else ks++[x]:=rfl
  generalize (if x∈ks then ks else ks++[x])=k1 at hxk hk1;have hrow':(upd H3 d2 (.dK (gD k1 fun y=>if y=x then g x+kk else g y))) r=some (.lst [.ref b,.int Ln,.ref d2]):=by rw[Zi hrd];exact hR3.row
  have hd2':(upd H3 d2 (.dK (gD k1 fun y=>if y=x then g x+kk else g y))) d2=some (.dK (gD k1 fun y=>if y=x then g x+kk else g y)):=Zc;have gv:Xx (gD k1 fun y=>if y=x then g x+kk else g y) (Sum.inr x)=some (.int (g x+kk)):=by rw[JC,if_pos hxk,if_pos rfl]
  have dg:DGet (upd H3 d2 (.dK (gD k1 fun y=>if y=x then g x+kk else g y))) d2 (.str x) (some (.int (g x+kk))):=by
   have:=DGet.kk (k:=Sum.inr x) hd2';rw[gv]at this;exact this
  refine⟨_,rfl,r,_,2,.ref d2,rfl,rfl,SqL.of hrow',hrow2,_,rfl,d2,_,rfl,dg,rfl,_,rfl,?_⟩;by_cases c0:g x+kk=0
  ·refine Ya (Zaz c0) ?_;refine⟨_,rfl,r,_,2,.ref d2,rfl,rfl,SqL.of hrow',hrow2,d2,rfl,.inl ⟨_,.inl hd2'⟩,_,rfl,_,Sum.inr x,_,hd2',rfl,gv,?_⟩;rw[ZiC,X9];refine k _ (Zdw sA _) ?_;rw[Zc,hk1,if_pos c0];rfl
  ·refine ZM (Xf c0) ?_;refine k _ (Zdw sA _) ?_;rw[Zc,hk1,if_neg c0];rfl
end
def pcG (sd few step n:Int):Nat->Int×List Nat
 | 0=>(n,[])
 | k+1=>(((pcG sd few step n k).1 / few*69621+k) % 2147483629,(pcG sd few step n k).2++[((sd / 2+(pcG sd few step n k).1 % few*step) % 26).toNat+97])
def pcF (c:Int) (L:Nat) (sd:Int):List Nat:=(pcG sd (2+sd % 2) (1+sd / 52 % 8) ((c*48271+sd) % 2147483647) L).2
theorem ZhK (sd few step n:Int):∀ k,(pcG sd few step n k).2.length=k/\(pcG sd few step n k).2.all ZI=true
 | 0=>⟨rfl,rfl⟩
 | k+1=>by
  obtain⟨h1,h2⟩:=ZhK sd few step n k;have m:=ZN (sd / 2+(pcG sd few step n k).1 % few*step) (show(0:Int)<26 by decide);refine⟨by simp[pcG,h1],?_⟩;simp only[pcG,List.all_append,h2,Rz,Rv,List.all_nil,Bool.and_true,ZI];rw[decide_eq_true (show 97<=((sd / 2+(pcG sd few step n k).1 % few*step) % 26).toNat+97 by omega),decide_eq_true (show((sd / 2+(pcG sd few step n k).1 % few*step) % 26).toNat+97<=122 by omega)];rfl
theorem ZnW {few step n:Int} (hn:0<=n):∀ k,0<=(pcG sd few step n k).1
 | 0=>hn
 | k+1=>(ZN _ (show(0:Int)<2147483629 by decide)).1
section
variable {P:Program} {w:World} {K:PySem.W.Frag} {mg:Str->Option Value} {base:Heap} {C:Addr}
abbrev ZdS:Stmt:=top 59
abbrev Zmx:List Str:=["_law_cell","_law_long","_law_seed","_law_letters","_law_few_here","_law_step","_law_number","_law_signs","_law_k","_law_at"]
theorem scLPiece:Zm Zmx ["_law_cell","_law_long","_law_seed"] (Zg ZdS):=⟨rfl,rfl,rfl,by decide +kernel,rfl,by decide +kernel,by decide +kernel⟩
def ZeK:Sp:=fun vs H Q _=>∃ (c:Int) (L:Nat) (sd:Int),vs=[.int c,.int L,.int sd]/\L<=300/\Q (.str (tx (pcF c L sd))) H
theorem ZfR (D:HasDef K mg "_law_piece" ZdS ["_law_cell","_law_long","_law_seed"]) (B:Blt mg):FOk P w K mg base 1 "_law_piece" ["_law_cell","_law_long","_law_seed"] ZeK:=by
 refine D.ok scLPiece (fun vs H Q E h=>?_) (fun f cdv A outer s H vs Q E hr h=>?_)
 ·obtain⟨c,L,sd,rfl,_⟩:=h;rfl
 ·obtain⟨c,L,sd,rfl,hL,k⟩:=h;refine⟨_,(Ze (Zp (i:=3) scLPiece.nd rfl (.inl rfl) Z8)
   (Ze (Zp (i:=4) scLPiece.nd rfl (.inl rfl) (Zq ZS Zf (Zq ZL (pv 2) Zf)))
   (Ze (Zp (i:=5) scLPiece.nd rfl (.inl rfl) (Zq ZS Zf (Zq ZL (Zq Z9 (pv 2) Zf) Zf)))
   (Ze (Zp (i:=6) scLPiece.nd rfl (.inl rfl) (Zq ZL (Zq ZS (Zq Jy (pv 0) Zf) (pv 2)) Zf))
   (Ze (Zp (i:=7) scLPiece.nd rfl (.inl rfl) Z8)
   (Ze (Z4 PassesOwn.never rfl (Zah rfl B.range (Za (pv 1) Zd)) (Zy (i:=8) scLPiece.nd rfl (.inl rfl))
    (Ze (Zp (i:=9) scLPiece.nd rfl (.inl rfl) (Zq ZS (Zq Z9 (pv 2) Zf) (Zq Jy (Zq ZL (pv 6) (pv 4)) (pv 5))))
   (Ze (Zp (i:=7) scLPiece.nd rfl (.inl rfl) (Zq Yw (pv 7) (Zw Zim (pv 3) (Zq ZL (pv 9) Zf) (fun _ _=>rfl))))
   (Zh (Zp (i:=6) scLPiece.nd rfl (.inl rfl) (Zq ZL (Zq ZS (Zq Jy (Zq Z9 (pv 6) (pv 4)) Zf) (pv 8)) Zf))))))
   (Zh (Zn (pv 7))))))))),?_⟩
  have m2:=ZN sd (show(0:Int)<2 by decide);have m8:=ZN (sd / 52) (show(0:Int)<8 by decide);refine⟨_,rfl,_,_,rfl,rfl,(by show(0:Int)<2;decide),_,_,rfl,rfl,?_⟩;refine⟨_,rfl,_,_,rfl,rfl,⟨by decide,by decide⟩,_,_,rfl,rfl,(by show(0:Int)<8;decide),_,_,rfl,rfl,?_⟩;refine⟨_,rfl,_,_,rfl,rfl,.inr (by decide),_,rfl,_,_,rfl,rfl,_,_,rfl,rfl,(by show(0:Int)<2147483647;decide),?_⟩;obtain⟨few,ef⟩:∃ few,few=2+sd % 2:=⟨_,rfl⟩
  obtain⟨step,es⟩:∃ step,step=1+sd / 52 % 8:=⟨_,rfl⟩
  obtain⟨n,en⟩:∃ n,n=(c*48271+sd) % 2147483647:=⟨_,rfl⟩
  have hn:=ZN (c*48271+sd) (show(0:Int)<2147483647 by decide);have ek:pcF c L sd=(pcG sd few step n L).2:=by rw[ef,es,en];rfl
  rw[ek]at k;dsimp only;rw[←ef,←es,←en];rw[←en]at hn;refine⟨_,rfl,_,rfl,by omega,by omega,?_⟩;rw[WD];refine XZ (n:=L) (fun i σ H2=>H2=H/\∃ z8 z9:Option V,σ=[some (.int c),some (.int L),some (.int sd),some (.str "abcdefghijklmnopqrstuvwxyz"),some (.int few),some (.int step),some (.int (pcG sd few step n i).1),some (.str (tx (pcG sd few step n i).2)),z8,z9])
   ⟨rfl,none,none,rfl⟩ ?_ ?_
  ·rintro i σ H2 hi ⟨rfl,z8,z9,rfl⟩;rw[UF];obtain⟨hl,_⟩:=ZhK sd few step n i;have hnn:=ZnW (sd:=sd) (few:=few) (step:=step) hn.1 i;have eN:(pcG sd few step n (i+1))=(((pcG sd few step n i).1 / few*69621+i) % 2147483629,(pcG sd few step n i).2++[((sd / 2+(pcG sd few step n i).1 % few*step) % 26).toNat+97]):=rfl;rw[eN];generalize pcG sd few step n i=st at *;have m26:=ZN (sd / 2+st.1 % few*step) (show(0:Int)<26 by decide);refine⟨_,rfl,_,_,rfl,rfl,⟨by decide,by decide⟩,_,rfl,_,rfl,_,_,rfl,rfl,by omega,_,rfl,_,_,rfl,rfl,.inr (by constructor <;> omega),_,_,rfl,rfl,?_⟩;refine⟨_,rfl,_,rfl,_,rfl,_,_,rfl,rfl,(by show(0:Int)<26;decide),?_⟩;refine⟨_,_,_,rfl,rfl,Zj (show 26<=1000 by decide),Zic m26.1 m26.2,_,_,rfl,rfl,Zj (by rw[Z1];show _+1<=1000;omega),?_⟩;refine⟨_,rfl,_,rfl,_,_,rfl,rfl,⟨by omega,by omega⟩,_,_,rfl,rfl,.inr (by decide),_,rfl,_,_,rfl,rfl,_,_,rfl,rfl,(by show(0:Int)<2147483629;decide),?_⟩;refine⟨rfl,some (.int i),some (.int (sd / 2+st.1 % few*step)),?_⟩;have ea:tx st.2++(⟨#[((sd / 2+st.1 % few*step) % 26).toNat+97]⟩:Str)=tx (st.2++[((sd / 2+st.1 % few*step) % 26).toNat+97]):=ZaY _ _;rw[←ea];rfl
  ·rintro σ H2 ⟨rfl,z8,z9,rfl⟩;exact⟨_,rfl,k⟩
abbrev Zhh:Stmt:=top 60
abbrev Zoa:List Str:=["_law_cell","_law_piece_here","_law_some"]
theorem scLOddP:Zm Zoa ["_law_cell","_law_piece_here"] (Zg Zhh):=⟨rfl,rfl,rfl,by decide +kernel,rfl,by decide +kernel,by decide +kernel⟩
def ZkS:Sp:=fun vs H Q _=>∃ (c:Int) (pd:List Nat),vs=[.int c,.str (tx pd)]/\1<=pd.length/\pd.length<=300/\∀ v H',Same H H'->(∃ n,TyB H' v n)->(∀ z,v= .str z->z.length<=sizeLine)->ZaA pd.length v=false->Q v H'
theorem ZaS (D:HasDef K mg "_law_odd_piece" Zhh ["_law_cell","_law_piece_here"]):FOk P w K mg base 1 "_law_odd_piece" ["_law_cell","_law_piece_here"] ZkS:=by
 refine D.ok scLOddP (fun vs H Q E h=>?_) (fun f cdv A outer s H vs Q E hr h=>?_)
 ·obtain⟨c,pd,rfl,_⟩:=h;rfl
 ·obtain⟨c,pd,rfl,h1,h3,k⟩:=h;refine⟨_,(Ze (Zp (i:=2) scLOddP.nd rfl (.inl rfl) (ZR (Za (Zq Yw (pv 1) Z8) (Za (ZX Js (pv 1) (Yn Zf) Yo) (Za (Zq Yw Z8 (ZX Js (pv 1) (Yn Zf) Yo)) (Za (Zq Yw (ZX Js (pv 1) Yo (Yn (XG Yx Zf))) Z8) (Za (Zq Yw (ZX Js (pv 1) Yo (Yn (XG Yx Zf))) Z8) (Za Zf (Za YF (Za (YE (Za (pv 1) Zd)) (Za Ym Zd)))))))))))
   (Zh (Zn (Zw ix_list (pv 2) (Zq ZL (pv 0) Zf) (fun _ _=>rfl))))),?_⟩
  have ch:∀ (c:Nat) (s:Str),s=tx [c]->s.length=1:=fun c s e=>by rw[e,Z1];rfl
  refine⟨_,rfl,_,_,rfl,rfl,Zj (by rw[Z1];show _+1<=1000;omega),?_⟩;refine⟨_,rfl,_,rfl,tx pd,rfl,Zj (by rw[Z1];omega),?_⟩;rw[JO (by rw[Z1];omega)];have le:(en (tx pd)).length=pd.length-1:=by unfold en;rw[Z1,ZV,Wh]
  have lb:(bg (tx pd)).length=pd.length-1:=by unfold bg;rw[Z1,ZV,UN]
  refine⟨_,rfl,_,rfl,tx pd,rfl,Zj (by rw[Z1];omega),?_⟩;rw[JO (by rw[Z1];omega)];refine⟨_,_,rfl,rfl,Zj (by rw[le];show 1+_<=1000;omega),?_⟩;refine⟨_,rfl,_,rfl,_,rfl,tx pd,rfl,Zj (by rw[Z1];omega),?_⟩;rw[show(-(1:Int)) = -1 from rfl,JP (by rw[Z1];omega)];refine⟨_,_,rfl,rfl,Zj (by rw[lb];show _+1<=1000;omega),?_⟩;refine⟨_,rfl,_,rfl,_,rfl,tx pd,rfl,Zj (by rw[Z1];omega),?_⟩;rw[JP (by rw[Z1];omega)];refine⟨_,_,rfl,rfl,Zj (by rw[lb];show _+1<=1000;omega),?_⟩;refine⟨_,rfl,Zj (show 1<=1000 by decide),fun t ht=>?_⟩;have s1:=Zb (o:=.tup [.str (tx pd)]) ht;refine⟨Zj (show 9<=1000 by decide),fun l hl=>?_⟩;have s2:=Zb (o:=.lst [.str (tx pd ++ "a"),.str (en (tx pd)),.str ("A" ++ en (tx pd)),.str (bg (tx pd) ++ "1"),.str (bg (tx pd) ++ " "),.int 5,.non,.ref t,.bl true]) hl;have m9:=ZN c (show(0:Int)<9 by decide);have ea:("a" : Str)=tx [97]:=rfl;have eA:("A" : Str)=tx [65]:=rfl;have e1:("1" : Str)=tx [49]:=rfl;have es:(" " : Str)=tx [32]:=rfl;have een:en (tx pd)=tx (pd.drop 1):=by unfold en;rw[ZV]
  have ebg:bg (tx pd)=tx pd.dropLast:=by unfold bg;rw[ZV]
  have gl:∀ y:List Nat,(y.length≠pd.length\/∃ c∈y,ZI c=false)->ZaA pd.length (.str (tx y))=false:=fun y hy=>by
   simp only[ZaA,Z1,ZV];rcases hy with q | ⟨c,hc,q⟩
   ·rw[decide_eq_false q];rfl
   ·have:y.all ZI=false:=by
     rw[List.all_eq_false];exact⟨c,hc,by rw[q];decide⟩
    rw[this,Uq]
  have key:∀ y:List Nat,y.length<=1000->(y.length≠pd.length\/∃ c∈y,ZI c=false)->Q (.str (tx y)) (upd (upd H t (.tup [.str (tx pd)])) l (.lst [.str (tx pd ++ "a"),.str (en (tx pd)),.str ("A" ++ en (tx pd)),.str (bg (tx pd) ++ "1"),.str (bg (tx pd) ++ " "),.int 5,.non,.ref t,.bl true])):=fun y hy hg =>
   k _ _ (s1.trans s2) ⟨"str",.str _⟩ (fun z ez=>by cases ez;rw[Z1];exact Zj hy) (gl y hg)
  have ht2:=s2 _ _ (Zc (H:=H) (a:=t) (o:=.tup [.str (tx pd)]));have fin:∃ v,atI [V.str (tx pd ++ "a"),.str (en (tx pd)),.str ("A" ++ en (tx pd)),.str (bg (tx pd) ++ "1"),.str (bg (tx pd) ++ " "),.int 5,.non,.ref t,.bl true] (c % 9)=some v/\Q v (upd (upd H t (.tup [.str (tx pd)])) l (.lst [.str (tx pd ++ "a"),.str (en (tx pd)),.str ("A" ++ en (tx pd)),.str (bg (tx pd) ++ "1"),.str (bg (tx pd) ++ " "),.int 5,.non,.ref t,.bl true])):=by
   have:c % 9=0\/c % 9=1\/c % 9=2\/c % 9=3\/c % 9=4\/c % 9=5\/c % 9=6\/c % 9=7\/c % 9=8:=by omega
   rcases this with e | e | e | e | e | e | e | e | e <;> rw[e]
   ·refine⟨_,rfl,?_⟩;have:=key (pd++[97]) (by simp;omega) (.inl (by simp));rw[←ZaY,←ea]at this;exact this
   ·refine⟨_,rfl,?_⟩;have:=key (pd.drop 1) (by rw[Wh];omega) (.inl (by rw[Wh];omega));rw[←een]at this;exact this
   ·refine⟨_,rfl,?_⟩;have:=key ([65]++pd.drop 1) (by simp;omega) (.inr ⟨65,by simp,by decide⟩);rw[←ZaY,←een,←eA]at this;exact this
   ·refine⟨_,rfl,?_⟩;have:=key (pd.dropLast++[49]) (by simp;omega) (.inr ⟨49,by simp,by decide⟩);rw[←ZaY,←ebg,←e1]at this;exact this
   ·refine⟨_,rfl,?_⟩;have:=key (pd.dropLast++[32]) (by simp;omega) (.inr ⟨32,by simp,by decide⟩);rw[←ZaY,←ebg,←es]at this;exact this
   ·exact⟨_,rfl,k _ _ (s1.trans s2) ⟨"int",.int _⟩ (fun z ez=>by cases ez) rfl⟩
   ·exact⟨_,rfl,k _ _ (s1.trans s2) ⟨"NoneType",.non⟩ (fun z ez=>by cases ez) rfl⟩
   ·exact⟨_,rfl,k _ _ (s1.trans s2) ⟨"tuple",.tup ht2⟩ (fun z ez=>by cases ez) rfl⟩
   ·exact⟨_,rfl,k _ _ (s1.trans s2) ⟨"bool",.bl _⟩ (fun z ez=>by cases ez) rfl⟩
  obtain⟨v,hat,hQ⟩:=fin;exact⟨_,rfl,_,rfl,_,_,rfl,rfl,(by show(0:Int)<9;decide),l,_,_,v,rfl,rfl,SqL.of Zc,hat,hQ⟩
abbrev Zhi:Stmt:=top 64
abbrev Zob:List Str:=["_law_cell","_law_way","_law_row","_law_piece_here","_law_room","_law_some","_law_odd"]
theorem scLMany:Zm Zob ["_law_cell","_law_way","_law_row","_law_piece_here"] (Zg Zhi):=⟨rfl,rfl,rfl,by decide +kernel,rfl,by decide +kernel,by decide +kernel⟩
def ZgR (C:Addr):Sp:=fun vs H Q _=>∃ (r b d d2:Addr) (L:Nat) (ks:List Str) (g:Str->Int) (c way:Int) (x:Str),vs=[.int c,.int way,.ref r,.str x]/\RowAt C H r b d d2 L ks g/\X7 ks g/\∀ v H',Same H H'->(∃ n,TyB H' (oneM v) n)->Q v H'
theorem ZhT (D:HasDef K mg "_law_many" Zhi ["_law_cell","_law_way","_law_row","_law_piece_here"]) (B:Blt mg):FOk P w K mg base 1 "_law_many" ["_law_cell","_law_way","_law_row","_law_piece_here"] (ZgR C):=by
 refine D.ok scLMany (fun vs H Q E h=>?_) (fun f cdv A outer s H vs Q E hr h=>?_)
 ·obtain⟨r,b,d,d2,L,ks,g,c,way,x,rfl,_⟩:=h;rfl
 ·obtain⟨r,b,d,d2,L,ks,g,c,way,x,rfl,hRw,hok,k⟩:=h;have hu:=JH hr;refine⟨_,(Ze (Zp (i:=4) scLMany.nd rfl (.inl rfl) (Zq Xa (Zq Xa Zf (Zw ix_list (pv 2) Zf (fun _ _=>rfl))) (Zl (X2 rfl) rfl B.sum Zep (Za (ZA (Zbl rfl) rfl B.list Zfx (Za (Zai (Zw ix_list (pv 2) Zf (fun _ _=>rfl))) Zd)) Zd))))
   (Ze (ZE (Zo Yv (pv 1) Zf (Zr _)) (Zh (Zp (i:=4) scLMany.nd rfl (.inl rfl) (Yu hu (Zw ix_list (pv 2) Zf (fun _ _=>rfl)) (pv 3) Zf ⟨rfl,rfl,rfl,rfl⟩))) Zs)
   (Ze (Zp (i:=5) scLMany.nd rfl (.inl rfl) (ZR (Za YF (Za Zf (Za Zf (Za Zf (Za (pv 4) (Za (Zq ZS (pv 4) Zf) (Za (Zq ZS Zf (Zq ZL (Zq Z9 (pv 0) Zf) Zf)) (Za YF Zd))))))))))
   (Ze (Zp (i:=6) scLMany.nd rfl (.inl rfl) (ZR (Za Zf (Za (Zq Xa (XG Yx Zf) (Zq ZL (pv 0) (Zq Zld Zf Zf))) (Za Ym (Za Z8 (Za Zf (Za (YE (Za Zf Zd)) Zd))))))))
   (Ze (ZE (Zo Yv (Zq ZL (pv 0) Zf) Zf (Zr _)) (Zh (Zn (Zw ix_list (pv 6) (Zq ZL (Zq Z9 (pv 0) Zf) Zf) (fun _ _=>rfl)))) Zs)
   (Zh (Zn (Zw ix_list (pv 5) (Zq ZL (Zq ZL (pv 0) Zf) Zf) (fun _ _=>rfl))))))))),?_⟩
  have hrow2:atI [V.ref b,.int L,.ref d2] 2=some (.ref d2):=rfl;have hrow1:atI [V.ref b,.int L,.ref d2] 1=some (.int L):=rfl;refine⟨_,rfl,r,_,1,.int L,rfl,rfl,SqL.of hRw.row,hrow1,_,_,rfl,rfl,_,rfl,r,_,2,.ref d2,rfl,rfl,SqL.of hRw.row,hrow2,d2,_,rfl,hRw.dc2,fun pv hpv=>?_⟩;have s2:=Zb (o:=vvO pv d2) hpv;refine⟨pv,d2,_,rfl,Zc,s2 _ _ hRw.dc2,fun l hl=>?_⟩;have s3:=Zb (o:=.lst ((gD ks g).map (·.2))) hl;have s23:=s2.trans s3;refine⟨l,ks.map g,rfl,SqL.of (by rw[Zc,ZiB]),_,_,rfl,rfl,?_⟩;have hR2:=hRw.same s23;generalize upd (upd H pv (vvO pv d2)) l (.lst ((gD ks g).map (·.2)))=H2 at s23 hR2
  try dsimp only[JI]
  show ZfF (ZkJ _ _ _) _ _ _ _;refine Yh (fun σ H'=>H'=H2/\∃ rm:Int,σ=[some (.int c),some (.int way),some (.ref r),some (.str x),some (.int rm),none,none]) (fun R hR=>?_) ?_
  ·refine⟨_,rfl,rfl,_,rfl,Zff (fun e=>?_) (fun e=>hR _ _ ⟨rfl,_,rfl⟩)⟩;refine⟨_,rfl,r,_,2,.ref d2,rfl,rfl,SqL.of hR2.row,hrow2,d2,rfl,.inl ⟨_,.inl hR2.dc2⟩,_,rfl,_,DGet.kk (k:=Sum.inr x) hR2.dc2,?_⟩;rw[ZaB hok];exact hR _ _ ⟨rfl,_,rfl⟩
  rintro σ H2' ⟨rfl,rm,rfl⟩;refine⟨_,rfl,_,rfl,_,_,rfl,rfl,_,rfl,_,_,rfl,rfl,⟨by decide,by decide⟩,_,_,rfl,rfl,(by show(0:Int)<300;decide),_,_,rfl,rfl,Zj (show 8<=1000 by decide),fun l1 hl1=>?_⟩;have t1:=Zb (o:=.lst [V.non,.int 1,.int 2,.int 3,.int rm,.int (rm+1),.int (1+c / 12 % 300),.non]) hl1;have hl1':(upd H2' l1 (.lst [V.non,.int 1,.int 2,.int 3,.int rm,.int (rm+1),.int (1+c / 12 % 300),.non])) l1=some (.lst [V.non,.int 1,.int 2,.int 3,.int rm,.int (rm+1),.int (1+c / 12 % 300),.non]):=Zc;generalize upd H2' l1 (.lst [V.non,.int 1,.int 2,.int 3,.int rm,.int (rm+1),.int (1+c / 12 % 300),.non])=H3 at t1 hl1';refine⟨_,rfl,_,rfl,_,_,rfl,rfl,⟨by decide,by decide,by decide⟩,_,_,rfl,rfl,(by show(0:Int)<10 ^ 18;decide),_,_,rfl,rfl,Zj (show 1<=1000 by decide),fun tp htp=>?_⟩;have t2:=Zb (o:=.tup [.int 1]) htp;refine⟨Zj (show 6<=1000 by decide),fun l2 hl2=>?_⟩;have t3:=Zb (o:=.lst [V.int 0,.int (-1-c % 10 ^ 18),.bl true,.str "1",.int 1,.ref tp]) hl2;have htp2:=t3 _ _ (Zc (H:=H3) (a:=tp) (o:=.tup [.int 1]));have hl2':(upd (upd H3 tp (.tup [.int 1])) l2 (.lst [V.int 0,.int (-1-c % 10 ^ 18),.bl true,.str "1",.int 1,.ref tp])) l2=some (.lst [V.int 0,.int (-1-c % 10 ^ 18),.bl true,.str "1",.int 1,.ref tp]):=Zc;have hl1'':=t3 _ _ (t2 _ _ hl1');have sA:=(s23.trans t1).trans (t2.trans t3);have kk:∀ v,(∃ n,TyB (upd (upd H3 tp (.tup [.int 1])) l2 (.lst [V.int 0,.int (-1-c % 10 ^ 18),.bl true,.str "1",.int 1,.ref tp])) (oneM v) n)->Q v (upd (upd H3 tp (.tup [.int 1])) l2 (.lst [V.int 0,.int (-1-c % 10 ^ 18),.bl true,.str "1",.int 1,.ref tp])):=fun v hv=>k v (upd (upd H3 tp (.tup [.int 1])) l2 (.lst [V.int 0,.int (-1-c % 10 ^ 18),.bl true,.str "1",.int 1,.ref tp])) sA hv;refine⟨_,rfl,_,_,rfl,rfl,(by show(0:Int)<11;decide),rfl,_,rfl,Zff (fun e=>?_) (fun e=>?_)⟩
  ·have m6:=ZN (c / 11) (show(0:Int)<6 by decide);have fin:∃ v,atI [V.int 0,.int (-1-c % 10 ^ 18),.bl true,.str "1",.int 1,.ref tp] (c / 11 % 6)=some v/\∃ n,TyB (upd (upd H3 tp (.tup [.int 1])) l2 (.lst [V.int 0,.int (-1-c % 10 ^ 18),.bl true,.str "1",.int 1,.ref tp])) (oneM v) n:=by
    have:c / 11 % 6=0\/c / 11 % 6=1\/c / 11 % 6=2\/c / 11 % 6=3\/c / 11 % 6=4\/c / 11 % 6=5:=by omega
    rcases this with e | e | e | e | e | e <;> rw[e]
    ·exact⟨_,rfl,_,.int _⟩
    ·exact⟨_,rfl,_,.int _⟩
    ·exact⟨_,rfl,_,.bl _⟩
    ·exact⟨_,rfl,_,.str _⟩
    ·exact⟨_,rfl,_,.int _⟩
    ·exact⟨_,rfl,_,.tup htp2⟩
   obtain⟨v,hat,hv⟩:=fin;exact⟨_,rfl,_,rfl,_,_,rfl,rfl,⟨by decide,by decide⟩,_,_,rfl,rfl,(by show(0:Int)<6;decide),l2,_,_,v,rfl,rfl,SqL.of hl2',hat,kk v hv⟩
  ·have m8:=ZN (c % 11) (show(0:Int)<8 by decide);have fin:∃ v,atI [V.non,.int 1,.int 2,.int 3,.int rm,.int (rm+1),.int (1+c / 12 % 300),.non] (c % 11 % 8)=some v/\∃ n,TyB (upd (upd H3 tp (.tup [.int 1])) l2 (.lst [V.int 0,.int (-1-c % 10 ^ 18),.bl true,.str "1",.int 1,.ref tp])) (oneM v) n:=by
    have:c % 11 % 8=0\/c % 11 % 8=1\/c % 11 % 8=2\/c % 11 % 8=3\/c % 11 % 8=4\/c % 11 % 8=5\/c % 11 % 8=6\/c % 11 % 8=7:=by omega
    rcases this with e | e | e | e | e | e | e | e <;> rw[e]
    ·exact⟨_,rfl,_,.int _⟩
    ·exact⟨_,rfl,_,.int _⟩
    ·exact⟨_,rfl,_,.int _⟩
    ·exact⟨_,rfl,_,.int _⟩
    ·exact⟨_,rfl,_,.int _⟩
    ·exact⟨_,rfl,_,.int _⟩
    ·exact⟨_,rfl,_,.int _⟩
    ·exact⟨_,rfl,_,.int _⟩
   obtain⟨v,hat,hv⟩:=fin;exact⟨_,rfl,_,rfl,_,_,rfl,rfl,(by show(0:Int)<11;decide),_,_,rfl,rfl,(by show(0:Int)<8;decide),l1,_,_,v,rfl,rfl,SqL.of hl1'',hat,kk v hv⟩
end
def pD (l:List (Str×PyData)):PyData:=.tuple (l.map fun e=>.tuple [.str e.1,e.2])
def FlD (e:Str×PyData):Prop:=PyData.strOk e.1=true/\PyData.canLay0 e.2=true/\PyData.depth e.2=0
theorem Zig:∀ {l:List (Str×PyData)},(∀ e∈l,FlD e)->PyData.canLayAll0 (l.map fun e=>PyData.tuple [.str e.1,e.2])=true/\PyData.depthAll (l.map fun e=>PyData.tuple [.str e.1,e.2])<=1
 | [],_=>by simp[PyData.canLayAll0,PyData.depthAll]
 | e::r,h=>by
  obtain⟨h1,h2⟩:=Zig (l:=r) fun y hy=>h y (Qg _ hy);obtain⟨k1,k2,k3⟩:=h e Qd;rw[Qj,PyData.canLayAll0,PyData.depthAll,h1];refine⟨by simp[PyData.canLay0,PyData.canLayAll0,k1,k2],?_⟩;simp[PyData.depth,PyData.depthAll,k3];omega
theorem Zg0 {l:List (Str×PyData)} (h:∀ e∈l,FlD e):SeqAt.shaped (pD l)=true:=by
 obtain⟨h1,h2⟩:=Zig h;unfold SeqAt.shaped pD;rw[QP];constructor
 ·rw[PyData.canLay0];exact h1
 ·refine decide_eq_true ?_;rw[PyData.depth];omega
theorem Zk2 {H:Hp}:∀ {l:List (Str×PyData)} {vs:List V},vs.length=l.length->(∀ (i:Nat) e,l[i]?=some e->∃ b y,vs[i]?=some (.ref b)/\H b=some (.tup [.str e.1,y])/\RepD H e.2 y)->RepA H (l.map fun e=>PyData.tuple [.str e.1,e.2]) vs
 | [],vs,hl,_=>by
  rw[Wq,RepA];exact Wo.mp hl
 | x::r,[],hl,_=>by simp at hl
 | x::r,v::vs,hl,h=>by
  rw[Qj,RepA];obtain⟨b,y,e,hb,hy⟩:=h 0 x rfl;have ev:v= .ref b:=by simpa using e
  refine⟨v,vs,rfl,?_,Zk2 (by simpa using hl) fun i y hy=>?_⟩
  ·rw[RepD];refine⟨b,_,ev,hb,?_⟩;rw[RepA];refine⟨_,_,rfl,by rw[RepD],?_⟩;rw[RepA];exact⟨_,_,rfl,hy,by rw[RepA]⟩
  ·obtain⟨b',y',e',hb'⟩:=h (i+1) y (by simpa using hy);exact⟨b',y',by simpa using e',hb'⟩
def Zce (hp:Es):PyData:=pD (hp.map fun e=>(e.1,PyData.int e.2))
theorem ZcL {v:V} {hp:Es} (h:HeapV H v hp):RepD H (Zce hp) v:=by
 obtain⟨a,xs,rfl,ha,hl,hx⟩:=h;unfold Zce pD;rw[RepD];refine⟨a,xs,rfl,ha,Zk2 (by rw[Qc];exact hl) fun i e he=>?_⟩;rw[Qk]at he;obtain⟨x,hx',rfl⟩:=Wr.mp he;obtain⟨b,e1,e2⟩:=hx i x hx';exact⟨b,_,e1,e2,by rw[RepD]⟩
def ZoR (L:Nat) (ks:List Str):Prop:=∀ x∈ks,x.length=L/\x.cps.toList.all ZI=true
theorem ZgG (h:x.cps.toList.all ZI=true):PyData.strOk x=true:=by
 unfold PyData.strOk;rw[←R9,WG];intro c hc;have:=WG.mp h c hc;simp only[ZI,QP,decide_eq_true_eq]at this;exact decide_eq_true (by omega)
theorem ZcI (h:ZoR L ks) (hS:SrtOf ss ks):SeqAt.shaped (Zce (ss.map fun x=>(x,g x)))=true:=by
 refine Zg0 fun e he=>?_;obtain⟨y,hy,rfl⟩:=Qr.mp he;obtain⟨x,hx,rfl⟩:=Qr.mp hy;exact⟨ZgG (h x (hS.1.mem_iff.mp hx)).2,by simp[PyData.canLay0],by simp[PyData.depth]⟩
section
variable {P:Program} {w:World} {K:PySem.W.Frag} {mg:Str->Option Value} {base:Heap} {C:Addr}
abbrev ZbF:Stmt:=top 65
abbrev Zh4:List Str:=["_law_row","_law_found","_law_due_here","_law_pair"]
theorem scLHeapR:Zm Zh4 ["_law_row"] (Zg ZbF):=⟨rfl,rfl,rfl,by decide +kernel,rfl,by decide +kernel,by decide +kernel⟩
def ZdK (C:Addr):Sp:=fun vs H Q _=>∃ (r b d d2:Addr) (L:Nat) (ks:List Str) (g:Str->Int),vs=[.ref r]/\RowAt C H r b d d2 L ks g/\X7 ks g/\ZoR L ks/\∀ H',Same H H'->Q (.bl true) H'
theorem Zam (D:HasDef K mg "_law_heap_right" ZbF ["_law_row"]) (B:Blt mg) (T:BgC K mg C) (g11_:MOkX P w K mg base C 2 "as_heap" ["self"] [[]] (Zbw C)) (g10_:FOk P w K mg base 2 "_law_whole" ["_law_found"] Jc):FOk P w K mg base 3 "_law_heap_right" ["_law_row"] (ZdK C):=by
 refine D.ok scLHeapR (fun vs H Q E h=>?_) (fun f cdv A outer s H vs Q E hr h=>?_)
 ·obtain⟨r,b,d,d2,L,ks,g,rfl,_⟩:=h;rfl
 ·obtain⟨r,b,d,d2,L,ks,g,rfl,hRw,hok,hKs,k⟩:=h;have hu:=JH hr;have m0:([]:List V)∈[([]:List V)]:=Qm.mpr rfl;refine⟨_,(Ze (Zp (i:=1) scLHeapR.nd rfl (.inl rfl) (ZhH g11_ [] m0 hr T.cl (Zw ix_list (pv 0) Zf (fun _ _=>rfl))))
   (Ze (Zp (i:=2) scLHeapR.nd rfl (.inl rfl) (ZA ZB rfl B.tuple Yr (Za (ZJ (Zg ZbF) Zh4 ["_law_piece_here"] [0] rfl (Yp (Zl (YK rfl) rfl B.sorted YZ (Za (Zw ix_list (pv 0) Zf (fun _ _=>rfl)) Zd))) (fun _ _ _ _ _=>Yi 0) (fun _ _ _ _ _=>ZZ) (fun _ _ _ _ _=>(YE (Za (pv 0) (Za (Zaj hu (Zw (YG K) (pv 1) Zf (fun _ _=>rfl)) (pv 0) (fun _ _=>rfl)) Zd))))) Zd)))
   (Ze (ZE (PW.pt (Zae (Z3 (ZQ (Zl Yc rfl B.isi X4 (Za (pv 1) (Za (ZaL rfl B.tuple Yr) Zd))))) (Jw (Zo ZaM (Zl ZC rfl B.len Ys (Za (pv 1) Zd)) (Zl ZC rfl B.len Ys (Za (pv 2) Zd)) (Zr _))))) (Zh (Zn Ym)) Zs)
   (Ze (Z4 PassesOwn.never rfl (Yf (pv 1)) (Zy (i:=3) scLHeapR.nd rfl (.inl rfl))
    (Zh (ZE (PW.pt (Zae (Z3 (ZQ (Zl Yc rfl B.isi X4 (Za (pv 3) (Za (ZaL rfl B.tuple Yr) Zd))))) (Zae (Zo ZaM (Zl ZC rfl B.len Ys (Za (pv 3) Zd)) Zf (Zr _)) (Zae (Z3 (ZQ (Zl Yc rfl B.isi X4 (Za (Zw ix_tup (pv 3) Zf (fun _ _=>rfl)) (Za (ZaL rfl B.str Zm5) Zd))))) (Jw (Z3 (ZQ (Zt g10_ hr (Za (Zw ix_tup (pv 3) Zf (fun _ _=>rfl)) Zd))))))))) (Zh (Zn Ym)) Zs)))
   (Zh (Zn (YH (Zlf hr.units) (pv 1) (pv 2) (Zr _)))))))),?_⟩
  have hrow2:atI [V.ref b,.int L,.ref d2] 2=some (.ref d2):=rfl;obtain⟨dx,hb⟩:=hRw.bag.ob;refine⟨_,rfl,r,_,0,.ref b,rfl,rfl,SqL.of hRw.row,rfl,b,dx,_,rfl,hb,Yq _ _ (by decide +kernel) (by decide +kernel),b,d,L,ks,g,rfl,hRw.bag,hok,fun v1 H1 ss s1 hS hA=>?_⟩;have hR1:=hRw.same s1;obtain⟨q1,us1,rfl,hq1,hpa1⟩:=ZpR hA;refine⟨_,rfl,r,_,2,.ref d2,rfl,rfl,SqL.of hR1.row,hrow2,d2,ks,fun x=>.int (g x),rfl,hR1.dc2,hok.nd,by have:=hok.few;omega,fun lp ss2 hlp hperm hsrt=>?_⟩;have e2:ss2=ss:=SrtOf.one ⟨hperm,Zb5 (hperm.nodup_iff.mpr hok.nd) hsrt⟩ hS;subst e2;have s2:=Zb (o:=.lst (ss2.map V.str)) hlp;have hR2:=hR1.same s2;have hl2:(upd H1 lp (.lst (ss2.map V.str))) lp=some (.lst (ss2.map V.str)):=Zc;generalize upd H1 lp (.lst (ss2.map V.str))=H2 at s2 hR2 hl2;have hsl:ss2.length<=60:=by rw[hS.1.length_eq];exact hok.few
  refine⟨lp,rfl,⟨_,SqL.of hl2⟩,Xc (ss2.map V.str).length (fun i=>(ss2.map V.str).getD i .non) (fun i v H'=>∃ a,v= .ref a/\H' a=some (.tup [.str (ss2.getD i ""),.int (g (ss2.getD i ""))])) (Zj (by rw[Qc];omega)) (fun i v H' H'' s' ⟨a,e,r⟩=>⟨a,e,s' _ _ r⟩) (Xd (SqL.of hl2)) ?_ ?_⟩
  ·intro i H3 Qe hi hs kq;rw[Qc]at hi;have eu:(ss2.map V.str).getD i .non= .str ss2[i]:=by rw[Qb,Qk,Qa hi];rfl
   have eg:ss2.getD i "" = ss2[i]:=by rw[Qb,Qa hi];rfl
   rw[eg]at kq;rw[eu];have hxk:ss2[i]∈ks:=hS.1.mem_iff.mp (QF hi);have dg:DGet H3 d2 (.str ss2[i]) (some (.int (g ss2[i]))):=by
    have:=DGet.kk (k:=Sum.inr ss2[i]) (hs _ _ hR2.dc2);rw[JC,if_pos hxk]at this;exact this
   refine⟨_,rfl,_,rfl,r,_,2,.ref d2,rfl,rfl,SqL.of (hs _ _ hR2.row),hrow2,_,rfl,d2,_,rfl,dg,Zj (show 2<=1000 by decide),fun t ht=>?_⟩;exact kq _ _ (Zb ht) ⟨t,rfl,Zc⟩
  intro D2 vs2 H3 hl3 hr3 hs3 hD3 hDl3;refine⟨D2,_,rfl,.inl ⟨SqL.of hDl3,fun q2 hq2=>?_⟩⟩;have s4:=Zb (o:=.tup vs2) hq2;rw[Qc]at hl3;have hHV:HeapV (upd H3 q2 (.tup vs2)) (.ref q2) (ss2.map fun x=>(x,g x)):=by
   refine⟨q2,vs2,rfl,Zc,by rw[hl3,Qc],fun i e he=>?_⟩;rw[Qk]at he;obtain⟨x,hx,rfl⟩:=Wr.mp he;have hi:i<vs2.length:=by rw[hl3];exact(Qo.mp hx).1
   obtain⟨a,ea,ha⟩:=hr3 i vs2[i] (Qa hi);rw[Qb,hx,WR]at ha;exact⟨a,by rw[Qa hi,ea],s4 _ _ ha⟩
  have s14:=(s2.trans hs3).trans s4;have hq1':=s14 _ _ hq1;have sA:=s1.trans s14;have hq2':(upd H3 q2 (.tup vs2)) q2=some (.tup vs2):=Zc;have hHV1:HeapV (upd H3 q2 (.tup vs2)) (.ref q1) (ss2.map fun x=>(x,g x)):=⟨q1,us1,rfl,hq1',hpa1.1,fun i e he=>by
   obtain⟨a,h1,h2⟩:=hpa1.2 i e he;exact⟨a,h1,s14 _ _ h2⟩⟩
  generalize upd H3 q2 (.tup vs2)=H4 at s4 hHV hHV1 hq1' hq2' sA s14;refine⟨_,rfl,.ref q1,"tuple","tuple",rfl,by decide,.tup hq1',_,rfl,ZM (by decide) ?_⟩;refine⟨_,rfl,.ref q1,us1.length,rfl,.inr ⟨_,SqT.of hq1',rfl⟩,_,rfl,.ref q2,vs2.length,rfl,.inr ⟨_,SqT.of hq2',rfl⟩,rfl,_,rfl,?_⟩;have el:us1.length=vs2.length:=by rw[hpa1.1,hl3,Qc]
  refine ZM (by rw[el];simp) ?_;refine⟨_,rfl,q1,rfl,⟨_,SqT.of hq1'⟩,?_⟩;refine YJ (K:=K) (a:=q1) (xs:=us1) (fun i σ H'=>H'=H4/\∃ z3:Option V,σ=[some (.ref r),some (.ref q1),some (.ref q2),z3]) ⟨rfl,none,rfl⟩ (fun i σ H' _ ⟨e,_⟩=>by rw[e];exact SqT.of hq1') ?_ ?_
  ·rintro i x σ H' hi ⟨rfl,z3,rfl⟩;have hie:i<(ss2.map fun x=>(x,g x)).length:=by rw[←hpa1.1];exact(Qo.mp hi).1
   obtain⟨a,e1,e2⟩:=hpa1.2 i _ (Qa hie);rw[hi]at e1;cases e1;have ha:=s14 _ _ e2;generalize (ss2.map fun x=>(x,g x))[i]=pr at ha;refine⟨_,rfl,.ref a,"tuple","tuple",rfl,by decide,.tup ha,_,rfl,ZM (by decide) ?_⟩;refine⟨_,rfl,.ref a,2,rfl,.inr ⟨_,SqT.of ha,rfl⟩,rfl,_,rfl,ZM (by decide) ?_⟩;refine⟨_,rfl,a,_,0,.str pr.1,rfl,rfl,SqT.of ha,rfl,.str pr.1,"str","str",rfl,by decide,.str _,_,rfl,ZM (by decide) ?_⟩;refine⟨_,rfl,a,_,1,.int pr.2,rfl,rfl,SqT.of ha,rfl,.int pr.2,"int",rfl,.int _,_,rfl,ZM (by decide) ?_⟩;exact⟨rfl,_,rfl⟩
  ·rintro σ H' ⟨rfl,z3,rfl⟩;have hsh:=ZcI (g:=g) hKs hS;refine⟨_,rfl,_,rfl,_,_,ZcL hHV1,ZcL hHV,hsh,hsh,?_⟩;rw[SeqAt.eqv_refl _ (SeqAt.canLay_of_shaped hsh)];exact k _ sA
end
theorem Zbs {z:Str} (h:Cd z.cps.toList):PyData.strOk z=true:=by
 unfold PyData.strOk;rw[←R9,WG];intro c hc;have:=h c hc;exact decide_eq_true (by omega)
theorem ZbM {H:Hp}:∀ ps:List Str,RepA H (ps.map PyData.str) (ps.map V.str)
 | []=>by rw[Wq,RepA];rfl
 | p::ps=>by
  rw[Qj,RepA];exact⟨.str p,ps.map V.str,rfl,by rw[RepD],ZbM ps⟩
theorem Zfc:∀ ps:List Str,(∀ p∈ps,PyData.strOk p=true)->PyData.canLayAll0 (ps.map PyData.str)=true/\PyData.depthAll (ps.map PyData.str)=0
 | [],_=>by simp[PyData.canLayAll0,PyData.depthAll]
 | p::ps,h=>by
  obtain⟨h1,h2⟩:=Zfc ps fun q hq=>h q (Qg _ hq);rw[Qj,PyData.canLayAll0,PyData.depthAll,h1,h2];simp[PyData.canLay0,PyData.depth,h p Qd]
theorem Jf {wd:Str} {x:PyData} (hw:PyData.strOk wd=true) (h1:PyData.canLay0 x=true) (h2:PyData.depth x<=3):SeqAt.shaped (.tuple [.str wd,x])=true:=by
 unfold SeqAt.shaped;rw[QP];constructor
 ·rw[PyData.canLay0];simp[PyData.canLayAll0,PyData.canLay0,hw,h1]
 ·refine decide_eq_true ?_;simp[PyData.depth,PyData.depthAll];omega
theorem Ji {q:Addr} {wd:Str} {x:V} {dd:PyData} (hq:H q=some (.tup [.str wd,x])) (h:RepD H dd x):RepD H (.tuple [.str wd,dd]) (.ref q):=by
 rw[RepD];refine⟨q,_,rfl,hq,?_⟩;rw[RepA];refine⟨_,_,rfl,by rw[RepD],?_⟩;rw[RepA];exact⟨_,_,rfl,h,by rw[RepA]⟩
theorem Zfv {es:Es} (h:Hpy es L) (hx:∃ e∈es,bg e.1=x\/en e.1=x):Cd x.cps.toList:=by
 obtain⟨e,he,q⟩:=hx;have:=h.cd e he;rcases q with q | q
 ·rw[←q];unfold bg;rw[ZV];exact fun c hc=>this c ((List.dropLast_sublist _).mem hc)
 ·rw[←q];unfold en;rw[ZV];exact fun c hc=>this c (UU hc)
theorem Zjc {v v':V} {e0:Str×Int} {es0:Es} (hH:Hpy (e0::es0) L) (h:VerV H v e0 es0 L) (h':VerV H v' e0 es0 L):∃ dd,SeqAt.shaped dd=true/\RepD H dd v/\RepD H dd v':=by
 obtain⟨q,wd,x,ss,rfl,hq,hS,h⟩:=h;obtain⟨q',wd',x',ss',rfl,hq',hS',h'⟩:=h';have es:=hS.one hS';subst es;have hup:∀ u∈ups (mo (e0::es0)) ss,PyData.strOk u.1=true:=fun u hu=>by
  unfold ups at hu;obtain⟨y,hy,rfl⟩:=Qr.mp hu;exact Zbs (Zfv hH ((hS.pts.mem y).mp (QB.mp hy).1))
 rcases h with ⟨rfl,c1,hx⟩ | ⟨rfl,c1,c2,ps,hx,hsr,_,hm⟩ | ⟨rfl,c1,c2,b,X,rfl,eb,eX,_,_⟩
 ·rcases h' with ⟨rfl,_,hx'⟩ | ⟨_,c,_⟩ | ⟨_,c,_⟩
  ·obtain⟨h1,h2⟩:=Zig (l:=(ups (mo (e0::es0)) ss).map fun e=>(e.1,PyData.int e.2)) fun e he=>by
    obtain⟨u,hu,rfl⟩:=Qr.mp he;exact⟨hup u hu,by simp[PyData.canLay0],by simp[PyData.depth]⟩
   refine⟨.tuple [.str "begins",Zce (ups (mo (e0::es0)) ss)],Jf (by decide +kernel) ?_ ?_,Ji hq (ZcL hx),Ji hq' (ZcL hx')⟩
   ·unfold Zce pD;rw[PyData.canLay0];exact h1
   ·unfold Zce pD;rw[PyData.depth];omega
  ·exact absurd c1 c
  ·exact absurd c1 c
 ·rcases h' with ⟨_,c,_⟩ | ⟨rfl,_,_,ps',hx',hsr',_,hm'⟩ | ⟨_,_,c,_⟩
  ·exact absurd c c1
  ·have ep:ps=ps':=Zbu hsr hsr' fun y=>by rw[hm,hm']
   subst ep;have hst:∀ p∈ps,PyData.strOk p=true:=fun p hp=>by
    refine Zbs (Zfv hH ?_);refine Rch.closed (F:=fun y=>∃ e∈e0::es0,bg e.1=y\/en e.1=y) ⟨e0,Qd,.inl rfl⟩ (fun P _ y ⟨e,he,k⟩=>?_) ((hm p).mp hp);rcases k with ⟨_,k⟩ | ⟨_,k⟩
    ·exact⟨e,he,.inr k⟩
    ·exact⟨e,he,.inl k⟩
   obtain⟨h1,h2⟩:=Zfc ps hst;obtain⟨a,rfl,ha⟩:=hx;obtain⟨a',rfl,ha'⟩:=hx';refine⟨.tuple [.str "apart",.tuple (ps.map PyData.str)],Jf (by decide +kernel) (by rw[PyData.canLay0];exact h1) (by rw[PyData.depth,h2];decide),Ji hq (by rw[RepD];exact⟨a,_,rfl,ha,ZbM ps⟩),Ji hq' (by rw[RepD];exact⟨a',_,rfl,ha',ZbM ps⟩)⟩
  ·exact absurd c c2
 ·rcases h' with ⟨_,c,_⟩ | ⟨_,_,c,_⟩ | ⟨rfl,_,_,b',X',rfl,eb',eX',_,_⟩
  ·exact absurd c c1
  ·exact absurd c2 c
  ·have e1:b=b':=eb.trans eb'.symm;subst e1;have e2:X=X':=eX.trans eX'.symm;subst e2;have hb:Cd b.cps.toList:=by
    rw[eb];cases hu:ups (mo (e0::es0)) ss with
    | nil=>exact Zfv hH ⟨e0,Qd,.inl rfl⟩
    | cons u us =>
     have hm:u∈ups (mo (e0::es0)) ss:=by rw[hu];exact Qd
     unfold ups at hm;obtain⟨y,hy,ey⟩:=Qr.mp hm;have:(Y5 e0 (u::us))=y:=by
      show u.1=y;rw[←ey]
     rw[this];exact Zfv hH ((hS.pts.mem y).mp (QB.mp hy).1)
   have ht:PyData.strOk (tx (ZcF (e0::es0) b X))=true:=by
    refine Zbs ?_;rw[ZV];intro c hc;unfold ZcF at hc;rcases QI.mp hc with r | r
    ·exact hb c r
    ·obtain⟨i,_,rfl⟩:=Qr.mp r;unfold lst;by_cases hi:i<(ZH (e0::es0)).length
     ·rw[Qb,Qa hi,WR];have hm:=QF hi;generalize (ZH (e0::es0))[i]=y at hm;unfold ZH at hm;obtain⟨e,he,hr⟩:=R4.mp hm;rw[(UD.mp hr).2];have:=hH.cd e he;rw[List.getLastD_eq_getLast?];cases hg:e.1.cps.toList.getLast? with
      | none=>show 0<1000;decide
      | some c=>exact this c (List.mem_of_getLast? hg)
     ·rw[Qb,Ql (by omega)];show(0:Nat)<1000;decide
   exact⟨.tuple [.str "text",.str (tx (ZcF (e0::es0) b X))],Jf (by decide +kernel) (by simp[PyData.canLay0,ht]) (by simp[PyData.depth]),Ji hq (by rw[RepD]),Ji hq' (by rw[RepD])⟩
theorem ZcB {a b:List Int} (h:a.Perm b):a.sum=b.sum:=by
 induction h with
 | nil=>rfl
 | cons x _ ih=>rw[Qy,Qy,ih]
 | swap x y l=>rw[Qy,Qy,Qy,Qy];omega
 | trans _ _ h1 h2=>rw[h1,h2]
theorem Zm4 {ps:List Str} {n m:Int} (h:Znd ps n) (k:Znd ps m):n=m:=by
 classical
 obtain⟨rs,ns,h1,h2,h3,h4,rfl⟩:=h;obtain⟨rs',ns',k1,k2,k3,k4,rfl⟩:=k
 let f:Str->Int:=fun p=>if q:∃ n,IsN ps p n then q.choose else 0
 have hf:∀ p n,IsN ps p n->n=f p:=fun p n hn=>by
  have q:∃ n,IsN ps p n:=⟨n,hn⟩
  show n=dite _ _ _;rw[dif_pos q];exact ZmM hn q.choose_spec
 have gen:∀ (rs:List Str) (ns:List Int),ns.length=rs.length->(∀ (i:Nat) (n:Int),ns[i]?=some n->IsN ps (rs.getD i "") n)->ns=rs.map f:=fun rs ns hl hn=>by
  apply QT;intro i;rw[Qk];by_cases hi:i<rs.length
  ·have hin:i<ns.length:=by omega
   rw[Qa hin,Qa hi];have:=hf _ _ (hn i _ (Qa hin));rw[Qb,Qa hi]at this;rw[this];rfl
  ·rw[Ql (by omega),Ql (by omega)];rfl
 rw[gen rs ns h3 h4,gen rs' ns' k3 k4];exact ZcB (((U3 h2 k2).mpr fun x=>by rw[h1,k1]).map f)
section
variable {P:Program} {w:World} {K:PySem.W.Frag} {mg:Str->Option Value} {base:Heap} {C:Addr}
abbrev ZjA:Stmt:=top 67
abbrev Zoc:List Str:=["_law_heap","_law_points","_law_piece_here","_law_times"]
theorem scLFew:Zm Zoc ["_law_heap"] (Zg ZjA):=⟨rfl,rfl,rfl,by decide +kernel,rfl,by decide +kernel,by decide +kernel⟩
def ZnE:Sp:=fun vs H Q _=>∃ (v:V) (es:Es),vs=[v]/\HeapV H v es/\es.length<=60/\(∀ e∈es,1<=e.1.length/\e.1.length<=300)/\∀ (b:Bool) H',Same H H'->(b=true->(∀ l:List Str,l.Nodup->(∀ y∈l,∃ e∈es,bg e.1=y\/en e.1=y)->l.length<=12)/\(es.map fun e=>e.2).sum<=30)->Q (.bl b) H'
theorem ZjP (D:HasDef K mg "_law_few" ZjA ["_law_heap"]) (B:Blt mg):FOk P w K mg base 1 "_law_few" ["_law_heap"] ZnE:=by
 refine D.ok scLFew (fun vs H Q E h=>?_) (fun f cdv A outer s H vs Q E hr h=>?_)
 ·obtain⟨v,es,rfl,_⟩:=h;rfl
 ·obtain⟨v,es,rfl,⟨q,us,rfl,hq,hpa⟩,hel,hlen,k⟩:=h;have hu:=JH hr;refine⟨_,(Ze (Zp (i:=1) scLFew.nd rfl (.inl rfl) YW)
   (Ze (Z4 PassesOwn.never rfl (Yf (pv 0)) (Z7 2 K rfl (Zv (Zy (i:=2) scLFew.nd rfl (.inl rfl)) (Zv (Zy (i:=3) scLFew.nd rfl (.inl rfl)) Z6)))
    (Ze (YV hu (pv 1) (ZX Js (pv 2) Yo (Yn (XG Yx Zf))) Ym rfl)
   (Zh (YV hu (pv 1) (ZX Js (pv 2) (Yn Zf) Yo) Ym rfl))))
   (Zh (Zn (Za9 (YH ZbX (Zl ZaH rfl B.len Ys (Za (pv 1) Zd)) Zf (Zr _)) (Za8 (YH ZbX (Zl (X2 rfl) rfl B.sum Zep (Za (ZJ (Zg ZjA) Zoc ["_law_piece_here","_law_times"] [] rfl (Yf (pv 0)) (fun _ _ _ _ _=>Z7 2 K rfl (Zv (Yi 0) (Zv (Yi 1) Z6))) (fun _ _ _ _ _=>ZZ) (fun _ _ _ _ _=>(pv 1))) Zd)) Zf (Zr _)))))))),?_⟩
  intro d hd;have s1:=Zb (o:=.dK []) hd;refine⟨_,rfl,q,rfl,⟨_,SqT.of (s1 _ _ hq)⟩,?_⟩;refine YJ (K:=K) (a:=q) (xs:=us) (fun i σ H2=>∃ (z2 z3:Option V) (F:List Str),σ=[some (.ref q),some (.ref d),z2,z3]/\Same H H2/\H2 d=some (.dK (bD F))/\F.Nodup/\F.length<=2*i/\∀ y,(∃ e∈es.take i,bg e.1=y\/en e.1=y)->y∈F)
   ⟨none,none,[],rfl,s1,Zc,Wy,QL _,fun y ⟨e,he,_⟩=>by rw[Rm]at he;cases he⟩ (fun i σ H' _ ⟨_,_,_,_,s',_⟩=>SqT.of (s' _ _ hq)) ?_ ?_
  ·rintro i x σ H2 hi ⟨z2,z3,F,rfl,s2,hdd,nd,hF,hm⟩;have hiv:i<us.length:=(Qo.mp hi).1;have hie:i<es.length:=by rw[←hpa.1];exact hiv
   obtain⟨b,e1,e2⟩:=hpa.2 i es[i] (Qa hie);rw[hi]at e1;cases e1;obtain⟨l1,l3⟩:=hlen es[i] (QF hie);have het:es.take (i+1)=es.take i++[es[i]]:=QY hie;refine⟨b,_,rfl,SqT.of (s2 _ _ e2),rfl,_,_,rfl,_,_,rfl,rfl,?_⟩;rw[het];generalize es[i]=y at *;have a1:=Y0 F (bg y.1);have a2:=Y0 (Y2 F (bg y.1)) (en y.1);refine⟨_,rfl,_,rfl,_,rfl,_,rfl,y.1,rfl,Zj (by omega),?_⟩;rw[show(-(1:Int)) = -1 from rfl,JP l1];refine⟨d,_,rfl,DPut.kk (k:=Sum.inr (bg y.1)) hdd (by rw[Zfy];exact Zz (by omega)),?_⟩;rw[Zi4];refine⟨_,rfl,_,rfl,_,rfl,y.1,rfl,Zj (by omega),?_⟩;rw[JO l1];refine⟨d,_,rfl,DPut.kk (k:=Sum.inr (en y.1)) Zc (by rw[Zfy];exact Zz (by omega)),?_⟩;rw[Zi4,X9];refine⟨_,_,Y2 (Y2 F (bg y.1)) (en y.1),rfl,Jt s2 hd,Zc,Zcr (Zcr nd),by omega,fun z ⟨e,he,hz⟩=>?_⟩;rw[X5,X5];rcases QI.mp he with r | r
   ·exact .inl (.inl (hm z ⟨e,r,hz⟩))
   ·rw[Qm.mp r]at hz;rcases hz with hz | hz
    ·exact .inl (.inr hz.symm)
    ·exact .inr hz.symm
  ·rintro σ H2 ⟨z2,z3,F,rfl,s2,hdd,nd,hF,hm⟩;rw[hpa.1,WS]at hm;refine⟨_,rfl,d,_,rfl,hdd,_,_,rfl,rfl,_,rfl,?_⟩;rw[Zfy];by_cases c1:F.length<13
   rotate_left
   ·exact ZM (decide_eq_false (by omega)) (k false _ s2 fun e=>by cases e)
   refine Ya (decide_eq_true (by omega)) ?_;have hpa2:PA H2 us es:=⟨hpa.1,fun i e he=>by
    obtain⟨b,h1,h2⟩:=hpa.2 i e he;exact⟨b,h1,s2 _ _ h2⟩⟩
   refine⟨_,rfl,q,rfl,⟨_,SqT.of (s2 _ _ hq)⟩,Zll rfl (s2 _ _ hq) hpa2 (by omega) fun D1 H3 s3 hD=>?_⟩;refine⟨D1,_,rfl,SqL.of hD,_,_,rfl,rfl,?_⟩;refine k _ _ (s2.trans s3) fun e=>⟨fun l ndl hl=>?_,?_⟩
   ·have:=Xs ndl (B:=F) fun y hy=>hm y (hl y hy);omega
   ·have:=of_decide_eq_true e;omega
end
theorem Zkr (es:Es):PyData.eqv (Zce es) (.tuple [])=es.isEmpty:=by
 unfold Zce pD;cases es with
 | nil=>simp[PyData.eqv,PyData.eqvAll]
 | cons e es=>simp[PyData.eqv,PyData.eqvAll]
def YD (ss:List Str) (g:Str->Int):Es:=ss.map fun x=>(x,g x)
theorem Zdg (x:Str) (ss:List Str) (g:Str->Int):ZH (YD (x::ss) g)=QK (g x).toNat x++ZH (YD ss g):=by
 unfold YD;rw[Qj];exact Zbh _ _
theorem Zci (g:Str->Int):∀ (ss:List Str),ss.Nodup->∀ y,(ZH (YD ss g)).count y=if y∈ss then (g y).toNat else 0
 | [],_,y=>by rw[if_neg (by simp)];rfl
 | x::ss,nd,y=>by
  obtain⟨h1,h2⟩:=QW.mp nd;rw[Zdg,List.count_append,Zci g ss h2 y,List.count_replicate];by_cases e:y=x
  ·subst e;rw[if_neg h1,if_pos Qd];simp
  ·have:(x==y)=false:=by simpa using fun q=>e q.symm
   rw[this];by_cases m:y∈ss
   ·rw[if_pos m,if_pos (Qg _ m)];simp
   ·rw[if_neg m,if_neg (show ¬ y∈x::ss by simp[e,m])];simp
theorem Zch (g:Str->Int):∀ (ss:List Str),(∀ x∈ss,0<=g x)->((ZH (YD ss g)).length:Int)=(ss.map g).sum
 | [],_=>rfl
 | x::ss,h=>by
  rw[Zdg,Qp,WT,Qj,Qy,←Zch g ss fun y hy=>h y (Qg _ hy)];have:=h x Qd;omega
theorem Zdf (hS:SrtOf ss ks) (hok:X7 ks g):ZU (ZH (YD ss g)) (YD ss g):=by
 have nd:ss.Nodup:=hS.1.nodup_iff.mpr hok.nd;have hp:∀ x∈ss,1<=g x:=fun x hx=>hok.pos x (hS.1.mem_iff.mp hx);have em:(YD ss g).map (·.1)=ss:=by unfold YD;rw[QV];exact List.map_id _
 refine⟨?_,fun x=>?_,fun p hpm=>?_⟩
 ·have:((YD ss g).map fun p=>p.1.cps.toList)=ss.map fun x=>x.cps.toList:=by unfold YD;rw[QV];rfl
  rw[this];exact hS.2
 ·rw[em,←List.count_pos_iff (l:=ZH (YD ss g)),Zci g ss nd];by_cases m:x∈ss
  ·rw[if_pos m];have:=hp x m;exact⟨fun _=>by omega,fun _=>m⟩
  ·rw[if_neg m];exact⟨fun q=>absurd q m,fun q=>absurd q (by omega)⟩
 ·obtain⟨x,hx,rfl⟩:=Qr.mp hpm;have:=hp x hx;show g x=((ZH (YD ss g)).count x:Int);rw[Zci g ss nd,if_pos hx];omega
theorem Jm {g:Str->Int}:∀ {ks:List Str},(∀ x∈ks,0<=g x)->∀ x∈ks,g x<=(ks.map g).sum
 | [],_,x,hx=>by cases hx
 | y::ks,h,x,hx=>by
  rw[Qj,Qy];have hs:0<=(ks.map g).sum:=by
   clear hx;have:∀ l:List Str,(∀ x∈l,0<=g x)->0<=(l.map g).sum:=fun l=>by
    induction l with
    | nil=>intro _;exact Ww _
    | cons z l ih =>
     intro k;rw[Qj,Qy];have:=k z Qd;have:=ih fun q hq=>k q (Qg _ hq);omega
   exact this ks fun q hq=>h q (Qg _ hq)
  rcases Qx.mp hx with e | e
  ·rw[e];omega
  ·have:=Jm (fun q hq=>h q (Qg _ hq)) x e;have:=h y Qd;omega
structure ZkF (L:Nat) (ks:List Str) (g:Str->Int):Prop where
 ok:X7 ks g
 kok:ZoR L ks
 l1:1<=L
 l3:L<=3
 few:ks.length<=9
 sum:(ks.map g).sum<=301-(L:Int)
theorem Zm9 (h:ZkF L ks g) (hS:SrtOf ss ks) (hne:ks≠[]):∃ e0 es0,YD ss g=e0::es0/\Hpy (e0::es0) L:=by
 have hp:∀ x∈ss,1<=g x:=fun x hx=>h.ok.pos x (hS.1.mem_iff.mp hx);have hk:∀ x∈ss,x.length=L/\x.cps.toList.all ZI=true:=fun x hx=>h.kok x (hS.1.mem_iff.mp hx);have hsum:(ss.map g).sum=(ks.map g).sum:=ZcB (hS.1.map g);have hle:∀ x∈ss,g x<=300:=fun x hx=>by
  have:=Jm (g:=g) (ks:=ss) (fun y hy=>by have:=hp y hy;omega) x hx;have:=h.sum;have:=h.l1;omega
 have hsl:ss.length<=9:=by rw[hS.1.length_eq];exact h.few
 have l1:=h.l1;have l3:=h.l3;cases hss:ss with
 | nil =>
  rw[hss]at hS;exact absurd (Vo.mp hS.1).symm (by intro q;exact hne q.symm)
 | cons x0 ss0 =>
  refine⟨(x0,g x0),YD ss0 g,rfl,?_⟩;have ee:((x0,g x0)::YD ss0 g)=YD ss g:=by rw[hss];rfl
  rw[ee];have key:∀ e∈YD ss g,∃ x∈ss,e=(x,g x):=fun e he=>by
   obtain⟨x,hx,rfl⟩:=Qr.mp he;exact⟨x,hx,rfl⟩
  refine⟨⟨?_,fun e he=>?_,fun e he=>?_⟩,?_,fun e he=>?_,l1,by omega,fun e he=>?_,?_,?_,fun e he=>?_⟩
  ·unfold YD;rw[Qc];omega
  ·obtain⟨x,hx,rfl⟩:=key e he;exact⟨by have:=hp x hx;show 0<=g x;omega,by have:=hle x hx;show g x<=1000;omega⟩
  ·obtain⟨x,hx,rfl⟩:=key e he;have:=(hk x hx).1;exact⟨by show 1<=x.length;omega,by show x.length<=1000;omega⟩
  ·rw[hss];exact R6 _ _
  ·obtain⟨x,hx,rfl⟩:=key e he;exact(hk x hx).1
  ·obtain⟨x,hx,rfl⟩:=key e he;exact hp x hx
  ·have:=Zch g ss fun x hx=>by have:=hp x hx;omega
   have:=h.sum;omega
  ·have:(YD ss g).map (·.1)=ss:=by unfold YD;rw[QV];exact List.map_id _
   rw[this];exact hS.2
  ·obtain⟨x,hx,rfl⟩:=key e he;intro c hc;have:=WG.mp (hk x hx).2 c hc;simp only[ZI,QP,decide_eq_true_eq]at this;omega
theorem Zm8 (h:ZkF L ks g) (hS:SrtOf ss ks) (hne:ks≠[]) (h1:∀ l:List Str,l.Nodup->(∀ y∈l,∃ e∈YD ss g,bg e.1=y\/en e.1=y)->l.length<=12) (h2:((YD ss g).map fun e=>e.2).sum<=30):RowOk (ZH (YD ss g))/\ZH (YD ss g)≠[]:=by
 have hp:∀ x∈ss,1<=g x:=fun x hx=>h.ok.pos x (hS.1.mem_iff.mp hx);have hk:∀ x∈ss,x.length=L/\x.cps.toList.all ZI=true:=fun x hx=>h.kok x (hS.1.mem_iff.mp hx);have hO:=Zdf hS h.ok;have hfm:∀ x∈ZH (YD ss g),x∈ss:=fun x hx=>by
  have:=(hO.mem x).mpr hx;unfold YD at this;rw[QV]at this;obtain⟨y,hy,e⟩:=Qr.mp this;rw[←e];exact hy
 have es2:((YD ss g).map fun e=>e.2)=ss.map g:=by unfold YD;rw[QV];rfl
 rw[es2]at h2;have hfl:=Zch g ss fun x hx=>by have:=hp x hx;omega
 have l1:=h.l1;have l3:=h.l3;refine⟨⟨by omega,fun x hx=>?_,fun l nd hl=>?_,L,l1,by omega,fun x hx=>(hk x (hfm x hx)).1⟩,fun e=>?_⟩
 ·have:=hk x (hfm x hx);exact⟨by omega,ZgG this.2⟩
 ·refine Q7 (h1 l nd fun y hy=>?_) (by decide);obtain⟨x,hx,q⟩:=inP_iff.mp (hl y hy);refine⟨(x,g x),Qr.mpr ⟨x,hfm x hx,rfl⟩,?_⟩;first | exact q | exact q.symm | (rcases q with q | q <;> simp_all)
 ·rw[e]at hfl;cases hss:ss with
  | nil =>
   rw[hss]at hS;exact hne (Vo.mp hS.1)
  | cons x0 ss0 =>
   have:=Jm (g:=g) (ks:=ss) (fun y hy=>by have:=hp y hy;omega) x0 (by rw[hss];exact Qd);have:=hp x0 (by rw[hss];exact Qd);simp at hfl;omega
section
variable {P:Program} {w:World} {K:PySem.W.Frag} {mg:Str->Option Value} {base:Heap} {C CH:Addr}
abbrev ZbG:Stmt:=top 68
abbrev Zh5:List Str:=["_law_row","_law_turn","_law_heap","_law_k","_law_way"]
theorem scLAsked:Zm Zh5 ["_law_row","_law_turn"] (Zg ZbG):=⟨rfl,rfl,rfl,by decide +kernel,rfl,by decide +kernel,by decide +kernel⟩
def ZgW (C:Addr):Sp:=fun vs H Q _=>∃ (r b d d2:Addr) (L:Nat) (ks:List Str) (g:Str->Int) (turn:Int),vs=[.ref r,.int turn]/\RowAt C H r b d d2 L ks g/\ZkF L ks g/\∀ H',Same H H'->Q (.bl true) H'
theorem ZfS (D:HasDef K mg "_law_asked" ZbG ["_law_row","_law_turn"]) (B:Blt mg) (T:BgC K mg C) (g2_:FOk P w K mg base 10 "_law_few" ["_law_heap"] ZnE) (g6_:FOk P w K mg base 10 "_law_no_heap" ["_law_bag","_law_way"] (ZeJ C)) (g51_:MOkX P w K mg base C 10 "verdict_now" ["self"] [[]] (ZgI C CH)) (g45_:MOkX P w K mg base C 10 "texts_now" ["self"] [[]] (ZgL C CH))
  (g50_:FOk P w K mg base 10 "verdict" ["H"] JZ) (g16_:FOk P w K mg base 10 "count_of" ["H"] J2) (g3_:FOk P w K mg base 10 "_law_heap_right" ["_law_row"] (ZdK C)):FOk P w K mg base 11 "_law_asked" ["_law_row","_law_turn"] (ZgW C):=by
 refine D.ok scLAsked (fun vs H Q E h=>?_) (fun f cdv A outer s H vs Q E hr h=>?_)
 ·obtain⟨r,b,d,d2,L,ks,g,turn,rfl,_⟩:=h;rfl
 ·obtain⟨r,b,d,d2,L,ks,g,turn,rfl,hRw,hask,k⟩:=h;have hok:=hask.ok;have hu:=JH hr;have m0:([]:List V)∈[([]:List V)]:=Qm.mpr rfl;refine⟨_,(Ze (Zp (i:=2) scLAsked.nd rfl (.inl rfl) (ZA ZB rfl B.tuple Yr (Za (ZJ (Zg ZbG) Zh5 ["_law_piece_here"] [0] rfl (Yp (Zl (YK rfl) rfl B.sorted YZ (Za (Zw ix_list (pv 0) Zf (fun _ _=>rfl)) Zd))) (fun _ _ _ _ _=>Yi 0) (fun _ _ _ _ _=>ZZ) (fun _ _ _ _ _=>(YE (Za (pv 0) (Za (Zaj hu (Zw (YG K) (pv 1) Zf (fun _ _=>rfl)) (pv 0) (fun _ _=>rfl)) Zd))))) Zd)))
   (Ze (Z4 PassesOwn.never rfl (Zah rfl B.range (Za Zf Zd)) (Zy (i:=3) scLAsked.nd rfl (.inl rfl))
    (Ze (Zp (i:=4) scLAsked.nd rfl (.inl rfl) (Zq ZL (Zq ZS (pv 1) (pv 3)) Zf))
   (Ze (ZE (PW.pt (XT (Zo Yv (pv 4) Zf (Zr _)) (Y9 (Z3 (ZQ (Zt g2_ hr (Za (pv 2) Zd))))))) (Zh (Zp (i:=4) scLAsked.nd rfl (.inl rfl) Zf)) Zs)
   (Zh (ZE (Zo (Zlf hr.units) (pv 2) (YE Zd) (Zr _)) (Zh (ZE (Z3 (ZQ (Zt g6_ hr (Za (Zw ix_list (pv 0) Zf (fun _ _=>rfl)) (Za (pv 4) Zd))))) (Zh (Zn Ym)) Zs)) (Zh (ZE (PW.pt (XT (Zo Yv (pv 4) Zf (Zr _)) (Y9 (Zo (Zle hr.units) (ZhH g51_ [] m0 hr T.cl (Zw ix_list (pv 0) Zf (fun _ _=>rfl))) (Zt g50_ hr (Za (pv 2) Zd)) (Zr _))))) (Zh (Zn Ym)) (Zh (ZE (PW.pt (XT (Zo Yv (pv 4) Zf (Zr _)) (Y9 (Zo ZaM (ZhH g45_ [] m0 hr T.cl (Zw ix_list (pv 0) Zf (fun _ _=>rfl))) (Zt g16_ hr (Za (pv 2) Zd)) (Zr _))))) (Zh (Zn Ym)) Zs)))))))))
   (Zh (Zn (Zt g3_ hr (Za (pv 0) Zd)))))),?_⟩
  have hrow2:atI [V.ref b,.int L,.ref d2] 2=some (.ref d2):=rfl;have hrow0:atI [V.ref b,.int L,.ref d2] 0=some (.ref b):=rfl;refine⟨_,rfl,r,_,2,.ref d2,rfl,rfl,SqL.of hRw.row,hrow2,d2,ks,fun x=>.int (g x),rfl,hRw.dc2,hok.nd,by have:=hok.few;omega,fun lp ss hlp hperm hsrt=>?_⟩;have hS:SrtOf ss ks:=⟨hperm,Zb5 (hperm.nodup_iff.mpr hok.nd) hsrt⟩
  have s2:=Zb (o:=.lst (ss.map V.str)) hlp;have hR2:=hRw.same s2;have hl2:(upd H lp (.lst (ss.map V.str))) lp=some (.lst (ss.map V.str)):=Zc;generalize upd H lp (.lst (ss.map V.str))=H2 at s2 hR2 hl2;have hsl:ss.length<=9:=by rw[hS.1.length_eq];exact hask.few
  refine⟨lp,rfl,⟨_,SqL.of hl2⟩,Xc (ss.map V.str).length (fun i=>(ss.map V.str).getD i .non) (fun i v H'=>∃ a,v= .ref a/\H' a=some (.tup [.str (ss.getD i ""),.int (g (ss.getD i ""))])) (Zj (by rw[Qc];omega)) (fun i v H' H'' s' ⟨a,e,r⟩=>⟨a,e,s' _ _ r⟩) (Xd (SqL.of hl2)) ?_ ?_⟩
  ·intro i H3 Qe hi hs kq;rw[Qc]at hi;have eu:(ss.map V.str).getD i .non= .str ss[i]:=by rw[Qb,Qk,Qa hi];rfl
   have eg:ss.getD i "" = ss[i]:=by rw[Qb,Qa hi];rfl
   rw[eg]at kq;rw[eu];have hxk:ss[i]∈ks:=hS.1.mem_iff.mp (QF hi);have dg:DGet H3 d2 (.str ss[i]) (some (.int (g ss[i]))):=by
    have:=DGet.kk (k:=Sum.inr ss[i]) (hs _ _ hR2.dc2);rw[JC,if_pos hxk]at this;exact this
   refine⟨_,rfl,_,rfl,r,_,2,.ref d2,rfl,rfl,SqL.of (hs _ _ hR2.row),hrow2,_,rfl,d2,_,rfl,dg,Zj (show 2<=1000 by decide),fun t ht=>?_⟩;exact kq _ _ (Zb ht) ⟨t,rfl,Zc⟩
  intro D2 vs2 H3 hl3 hr3 hs3 hD3 hDl3;refine⟨D2,_,rfl,.inl ⟨SqL.of hDl3,fun q2 hq2=>?_⟩⟩;have s4:=Zb (o:=.tup vs2) hq2;rw[Qc]at hl3;have hpa:PA (upd H3 q2 (.tup vs2)) vs2 (YD ss g):=by
   refine⟨by unfold YD;rw[hl3,Qc],fun i e he=>?_⟩;unfold YD at he;rw[Qk]at he;obtain⟨x,hx,rfl⟩:=Wr.mp he;have hi:i<vs2.length:=by rw[hl3];exact(Qo.mp hx).1
   obtain⟨a,ea,ha⟩:=hr3 i vs2[i] (Qa hi);rw[Qb,hx,WR]at ha;exact⟨a,by rw[Qa hi,ea],s4 _ _ ha⟩
  have hHV:HeapV (upd H3 q2 (.tup vs2)) (.ref q2) (YD ss g):=⟨q2,vs2,rfl,Zc,hpa⟩
  have hHA:HpAt (upd H3 q2 (.tup vs2)) (.ref q2) (YD ss g):=⟨q2,vs2,rfl,Zc,hpa.1,fun i p he=>by
   obtain⟨a,e1,e2⟩:=hpa.2 i p he;exact⟨a,by rw[Qb,e1];rfl,e2⟩⟩
  have sA:=(s2.trans hs3).trans s4;generalize upd H3 q2 (.tup vs2)=H4 at s4 hHV hHA sA hpa;have hR4:=hRw.same sA;have hlen:∀ e∈YD ss g,1<=e.1.length/\e.1.length<=300:=fun e he=>by
   obtain⟨x,hx,rfl⟩:=Qr.mp he;have:=(hask.kok x (hS.1.mem_iff.mp hx)).1;have:=hask.l1;have:=hask.l3;exact⟨by show 1<=x.length;omega,by show x.length<=300;omega⟩
  have hel:(YD ss g).length<=60:=by unfold YD;rw[Qc];omega
  have hsh:=ZcI (g:=g) hask.kok hS;refine⟨_,rfl,by decide,by decide,?_⟩;refine XZ (n:=2) (fun i σ H'=>∃ z3 z4:Option V,σ=[some (.ref r),some (.int turn),some (.ref q2),z3,z4]/\Same H4 H')
   ⟨none,none,rfl,Same.refl _⟩ ?_ ?_
  ·rintro i σ H5 hi ⟨z3,z4,rfl,s5⟩;rw[UF];have m2:=ZN (turn+(i:Int)) (show(0:Int)<2 by decide);refine⟨_,rfl,_,rfl,_,_,rfl,rfl,_,_,rfl,rfl,(by show(0:Int)<2;decide),?_⟩;dsimp only;generalize (turn+(i:Int)) % 2=wy at m2
   try dsimp only[JI]
   show ZfF (ZkJ _ _ _) _ _ _ _;refine Yh (fun σ H'=>Same H4 H'/\∃ wy2:Int,σ=[some (.ref r),some (.int turn),some (.ref q2),some (.int i),some (.int wy2)]/\(wy2=0\/(wy2=1/\(∀ l:List Str,l.Nodup->(∀ y∈l,∃ e∈YD ss g,bg e.1=y\/en e.1=y)->l.length<=12)/\((YD ss g).map fun e=>e.2).sum<=30))) (fun R hR=>?_) ?_
   ·refine⟨_,rfl,rfl,_,rfl,?_⟩;by_cases cw:wy=1
    rotate_left
    ·exact ZM (Xf cw) (ZM rfl (hR _ _ ⟨s5,wy,rfl,.inl (by omega)⟩))
    refine Ya (Zaz cw) ?_;refine⟨_,rfl,.ref q2,YD ss g,rfl,hHV.same s5,hel,hlen,fun bq H6 s6 hb=>⟨_,rfl,?_⟩⟩;cases bq with
    | false=>exact Ya rfl (hR _ _ ⟨s5.trans s6,0,rfl,.inl rfl⟩)
    | true=>exact ZM rfl (hR _ _ ⟨s5.trans s6,wy,rfl,.inr ⟨cw,hb rfl⟩⟩)
   rintro σ H6 ⟨s6,wy2,rfl,hwy⟩;have hR6:=hR4.same s6;have hHV6:HeapV H6 (.ref q2) (YD ss g):=hHV.same s6;have hHA6:HpAt H6 (.ref q2) (YD ss g):=hHA.same s6.tup;obtain⟨dx,hb⟩:=hR6.bag.ob;refine⟨_,rfl,QL _,fun t ht=>?_⟩;have s7:=Zb (o:=.tup []) ht;have hR7:=hR6.same s7;have hb7:=s7 _ _ hb;have hHV7:=hHV6.same s7;have hHA7:=hHA6.same s7.tup;have s67:=s6.trans s7;refine⟨Zce (YD ss g),.tuple [],ZcL hHV7,by rw[RepD];exact⟨t,[],rfl,Zc,by rw[RepA]⟩,hsh,by decide +kernel,_,rfl,?_⟩;rw[Zkr];generalize upd H6 t (.tup [])=H7 at s7 hR7 hb7 hHV7 hHA7 s67;by_cases hne:ks=[]
   ·subst hne;have hse:ss=[]:=Vn.mp hS.1;subst hse;refine Ya rfl ?_;refine⟨_,rfl,r,_,0,.ref b,rfl,rfl,SqL.of hR7.row,hrow0,_,rfl,b,d,L,g,wy2,rfl,hR7.bag,hok,fun H8 s8=>⟨_,rfl,Zka ?_⟩⟩;exact⟨_,_,rfl,s67.trans s8⟩
   obtain⟨e0,es0,he,hH⟩:=Zm9 hask hS hne;refine ZM (by rw[he];rfl) ?_;rcases hwy with rfl | ⟨rfl,hf1,hf2⟩
   ·refine⟨_,rfl,rfl,_,rfl,Ya rfl ?_⟩;refine⟨_,rfl,r,_,0,.ref b,rfl,rfl,SqL.of hR7.row,hrow0,b,dx,_,rfl,hb7,Yq _ _ (by decide +kernel) (by decide +kernel),b,d,L,ks,g,rfl,hR7.bag,hok,.inr ⟨ss,e0,es0,hS,he,hH,fun v1 H8 s8 hV1=>?_⟩⟩;have hHV8:=hHV7.same s8;rw[he]at hHV8;refine⟨_,rfl,.ref q2,e0,es0,L,rfl,hHV8,hH,fun v2 H9 s9 hV2=>?_⟩;obtain⟨dd,shd,r1,r2⟩:=Zjc hH (hV1.same s9) hV2;refine⟨dd,dd,r1,r2,shd,shd,_,rfl,ZM (by rw[SeqAt.eqv_refl _ (SeqAt.canLay_of_shaped shd)];rfl) ?_⟩;refine⟨_,rfl,rfl,_,rfl,ZM rfl (ZM rfl ?_)⟩;exact⟨_,_,rfl,(s67.trans s8).trans s9⟩
   ·refine⟨_,rfl,rfl,_,rfl,ZM rfl (ZM rfl ?_)⟩;refine⟨_,rfl,rfl,_,rfl,Ya rfl ?_⟩;obtain⟨hRow,hpn⟩:=Zm8 hask hS hne hf1 hf2;have hO:=Zdf hS hok;refine⟨_,rfl,r,_,0,.ref b,rfl,rfl,SqL.of hR7.row,hrow0,b,dx,_,rfl,hb7,Yq _ _ (by decide +kernel) (by decide +kernel),b,d,L,ks,g,rfl,hR7.bag,hok,.inr ⟨ss,ZH (YD ss g),hS,hne,hO,hRow,hpn,fun n1 H8 s8 hC1=>?_⟩⟩;obtain⟨e,es,hee,hRw8⟩:=ZnL hRow hpn (hHA7.same s8.tup) hO;refine⟨_,rfl,.ref q2,ZH (YD ss g),e,es,rfl,hRw8,fun H9 rs ns s9 c1 c2 c3 c4=>?_⟩;have en:=Zm4 hC1 ⟨rs,ns,c1,c2,c3,c4,rfl⟩;refine⟨rfl,_,rfl,ZM (by rw[en];simp) ?_⟩;exact⟨_,_,rfl,(s67.trans s8).trans s9⟩
  ·rintro σ H5 ⟨z3,z4,rfl,s5⟩;exact⟨_,rfl,r,b,d,d2,L,ks,g,rfl,hR4.same s5,hok,hask.kok,fun H' s'=>k _ ((sA.trans s5).trans s')⟩
end
def ZaU (L:Nat) (sd:Int):List Str:=(Qs 9).map fun c:Nat=>tx (pcF (c:Int) L sd)
theorem Ze2 (L:Nat) (sd:Int):(ZaU L sd).length=9:=by unfold ZaU;rw[Qc,Q4]
structure Inv74 (L:Nat) (sd:Int) (ks:List Str) (g:Str->Int):Prop where
 ok:X7 ks g
 kok:ZoR L ks
 nine:∀ x∈ks,x∈ZaU L sd
 sum:(ks.map g).sum<=301-(L:Int)
theorem Inv74.few (h:Inv74 L sd ks g):ks.length<=9:=by
 have:=Xs h.ok.nd h.nine;rw[Ze2]at this;exact this
theorem Zgy {g:Str->Int} {x:Str} {k:Int}:∀ {ks:List Str},ks.Nodup->(ks.map (upG g x k)).sum=(ks.map g).sum+if x∈ks then k else 0
 | [],_=>rfl
 | y::ks,nd=>by
  obtain⟨h1,h2⟩:=QW.mp nd;rw[Qj,Qy,Qj,Qy,Zgy h2];unfold upG;by_cases e:y=x
  ·subst e;rw[if_pos rfl,if_neg h1,if_pos Qd];omega
  ·rw[if_neg e];by_cases m:x∈ks
   ·rw[if_pos m,if_pos (Qg _ m)];omega
   ·rw[if_neg m,if_neg (show ¬ x∈y::ks from fun q=>(Qx.mp q).elim (fun r=>e r.symm) m)];omega
theorem Zbo {g:Str->Int} {x:Str} (hx:g x=0):∀ {ks:List Str},((ks.filter fun y=>decide (y≠x)).map g).sum=(ks.map g).sum
 | []=>rfl
 | y::ks=>by
  by_cases e:y=x
  ·rw[WC (by simp[e]),Zbo hx,Qj,Qy,e,hx];omega
  ·rw[WB (by simp[e]),Qj,Qy,Zbo hx,Qj,Qy]
theorem Zlp {k:Int} (h:Inv74 L sd ks g) (hx:x.length=L/\x.cps.toList.all ZI=true) (h9:x∈ZaU L sd) (h0:0<=g x+k) (hs:(ks.map g).sum+k<=301-(L:Int)):Inv74 L sd (upK ks g x k) (upG g x k):=by
 have nd1:(if x∈ks then ks else ks++[x]).Nodup:=by
  split
  ·exact h.ok.nd
  ·rename_i c;exact Wb.mpr ⟨h.ok.nd,by simp,fun a ha b hb e=>c (by rw[Qm.mp hb]at e;rw[←e];exact ha)⟩
 have m1:∀ y,y∈(if x∈ks then ks else ks++[x])↔y∈ks\/y=x:=fun y=>by
  split
  ·rename_i c;exact⟨.inl,fun q=>q.elim id fun e=>by rw[e];exact c⟩
  ·rw[QI,Qm]
 have g1:∀ y,y≠x->upG g x k y=g y:=fun y n=>if_neg n;have gx:upG g x k x=g x+k:=if_pos rfl;have s1:((if x∈ks then ks else ks++[x]).map (upG g x k)).sum=(ks.map g).sum+k:=by
  by_cases c:x∈ks
  ·rw[if_pos c,Zgy h.ok.nd,if_pos c]
  ·rw[if_neg c,QG,WU,Zgy h.ok.nd,if_neg c];show _+0+(upG g x k x+0)=_;rw[gx,h.ok.out x c];omega
 have hmem:∀ y∈upK ks g x k,(y∈ks\/y=x)/\(g x+k=0->y≠x):=fun y hy=>by
  unfold upK at hy;split at hy
  ·obtain⟨q1,q2⟩:=QB.mp hy;exact⟨(m1 y).mp q1,fun _=>of_decide_eq_true q2⟩
  ·rename_i c;exact⟨(m1 y).mp hy,fun e=>absurd e c⟩
 have hnd:(upK ks g x k).Nodup:=by
  unfold upK;split
  ·exact nd1.filter _
  ·exact nd1
 have h9':∀ y∈upK ks g x k,y∈ZaU L sd:=fun y hy=>by
  rcases(hmem y hy).1 with q | q
  ·exact h.nine y q
  ·rw[q];exact h9
 refine⟨⟨hnd,?_,fun y hy=>?_,fun y hy=>?_⟩,fun y hy=>?_,h9',?_⟩
 ·have:=Xs hnd h9';rw[Ze2]at this;omega
 ·by_cases e:y=x
  ·rw[e,gx];rw[e]at hy;by_cases c:g x+k=0
   ·exact c
   ·exfalso;unfold upK at hy;rw[if_neg c]at hy;exact hy ((m1 x).mpr (.inr rfl))
  ·rw[g1 y e];refine h.ok.out y fun q=>hy ?_;unfold upK;split
   ·exact QB.mpr ⟨(m1 y).mpr (.inl q),decide_eq_true e⟩
   ·exact(m1 y).mpr (.inl q)
 ·obtain⟨q1,q2⟩:=hmem y hy;by_cases e:y=x
  ·rw[e,gx];have:g x+k≠0:=fun c=>q2 c e;omega
  ·rw[g1 y e];exact h.ok.pos y (q1.resolve_right e)
 ·rcases(hmem y hy).1 with q | q
  ·exact h.kok y q
  ·rw[q];exact hx
 ·unfold upK;split
  ·rename_i c;rw[Zbo (by rw[gx];exact c),s1];exact hs
  ·rw[s1];exact hs
theorem Zou {way:Int} {p m:V} (hw:way=0\/way=1) (h:Inv74 L sd ks g) (hp:(∃ x,p= .str x/\x∈ZaU L sd)\/∀ k,Yb L p (.int k)=false):Inv74 L sd (nwF L ks g way p m).1 (nwF L ks g way p m).2:=by
 by_cases hd:dueF L ks g way p m=0
 rotate_left
 ·rw[Zd9 hd];exact h
 obtain⟨x,k,rfl,rfl,hg⟩:∃ x k,p= .str x/\m= .int k/\Yb L p m=true:=by
  cases hg:Yb L p m with
  | false=>rw[Jo hg]at hd;cases hd
  | true =>
   obtain⟨x,k,e1,e2,_⟩:=Xv hg;exact⟨x,k,e1,e2,rfl⟩
 obtain⟨_,_,e1,e2,k1,hl,ht⟩:=Xv hg;cases e1;cases e2;have h9:x∈ZaU L sd:=by
  rcases hp with ⟨y,e,hy⟩ | hb
  ·cases e;exact hy
  ·rw[hb k]at hg;cases hg
 have hx:x.length=L/\x.cps.toList.all ZI=true:=by
  refine⟨hl,?_⟩;simp only[YB,QP]at ht;exact ht.2
 have hgx:0<=g x:=by
  by_cases c:x∈ks
  ·have:=h.ok.pos x c;omega
  ·rw[h.ok.out x c];exact Ww _
 have hs:=h.sum;have en:nwF L ks g way (.str x) (.int k)=(upK ks g x (if way=0 then k else -k),upG g x (if way=0 then k else -k)):=by
  simp only[nwF];rw[if_pos hd]
 rw[en];simp only[dueF]at hd;rw[if_pos hg]at hd;rcases hw with rfl | rfl
 ·rw[if_pos rfl]at hd ⊢;refine Zlp h hx h9 (by omega) ?_;by_cases c:(ks.map g).sum+k<=301-(L:Int)
  ·exact c
  ·rw[if_neg c]at hd;cases hd
 ·rw[if_neg (by decide)]at hd ⊢;by_cases c:k<=g x
  ·exact Zlp h hx h9 (by omega) (by omega)
  ·rw[if_neg c]at hd;cases hd
theorem Inv74.ask (h:Inv74 L sd ks g) (h1:1<=L) (h3:L<=3):ZkF L ks g:=⟨h.ok,h.kok,h1,h3,h.few,h.sum⟩
theorem ZmN (sd:Int) (h:L<=300):Inv74 L sd [] (fun _=>0):=⟨⟨Wy,QL _,fun _ _=>rfl,fun y hy=>by cases hy⟩,fun y hy=>(by cases hy),fun y hy=>(by cases hy),by show(0:Int)<=_;omega⟩
theorem RowAt.bt {r b d2 x:Addr} {kv:List (Key×V)} (h:RowAt C H r b d d2 L ks g) (hx:H x=some (.dK kv)) (n1:x≠d) (n2:x≠d2) (s:Bt x H H'):RowAt C H' r b d d2 L ks g:=by
 obtain⟨dx,hb⟩:=h.bag.ob;refine⟨s _ _ (fun e=>?_) h.row,⟨⟨dx,s _ _ (fun e=>?_) hb⟩,s _ _ n1.symm h.bag.dc⟩,s _ _ n2.symm h.dc2⟩
 ·have:=h.row;rw[e,hx]at this;cases this
 ·rw[e,hx]at hb;cases hb
theorem Zm6:bootBuiltins "range" = some (.type "range"):=by decide +kernel
structure RR where
 r:Addr
 b:Addr
 d:Addr
 d2:Addr
 L:Nat
 ks:List Str
 g:Str->Int
structure RowI (C:Addr) (sd:Int) (H:Hp) (ρ:RR):Prop where
 at_:RowAt C H ρ.r ρ.b ρ.d ρ.d2 ρ.L ρ.ks ρ.g
 inv:Inv74 ρ.L sd ρ.ks ρ.g
 l1:1<=ρ.L
 l3:ρ.L<=300
 ne:ρ.d≠ρ.d2
structure Apt (ρ τ:RR):Prop where
 n1:ρ.d≠τ.d
 n2:ρ.d≠τ.d2
 n3:ρ.d2≠τ.d
 n4:ρ.d2≠τ.d2
theorem Apt.symm {ρ τ:RR} (h:Apt ρ τ):Apt τ ρ:=⟨h.n1.symm,h.n3.symm,h.n2.symm,h.n4.symm⟩
theorem RowI.same {ρ:RR} (h:RowI C sd H ρ) (s:Same H H'):RowI C sd H' ρ:=⟨h.at_.same s,h.inv,h.l1,h.l3,h.ne⟩
theorem RowI.upl {ρ:RR} {l:Addr} {xs:List V} {o:HO} (h:RowI C sd H ρ) (hl:H l=some (.lst xs)) (n:xs.length≠3):RowI C sd (upd H l o) ρ:=by
 obtain⟨dx,hb⟩:=h.at_.bag.ob;have k1:=h.at_.row;have k2:=h.at_.bag.dc;have k3:=h.at_.dc2;refine⟨⟨?_,⟨⟨dx,?_⟩,?_⟩,?_⟩,h.inv,h.l1,h.l3,h.ne⟩
 ·rw[Zi (fun e=>by rw[e,hl]at k1;cases k1;exact n rfl)];exact k1
 ·rw[Zi (fun e=>by rw[e,hl]at hb;cases hb)];exact hb
 ·rw[Zi (fun e=>by rw[e,hl]at k2;cases k2)];exact k2
 ·rw[Zi (fun e=>by rw[e,hl]at k3;cases k3)];exact k3
theorem ZkG {x:V} {n:String} {kv kv':List (Key×V)} (h:TyB H x n) (hd:H d=some (.dK kv)) (hd':H' d=some (.dK kv')) (s:Bt d H H'):TyB H' x n:=by
 cases h with
 | non=>exact .non
 | bl b=>exact .bl b
 | int i=>exact .int i
 | str x=>exact .str x
 | @lst a xs e=>exact .lst (s a _ (fun q=>by rw[q,hd]at e;cases e) e)
 | @tup a xs e=>exact .tup (s a _ (fun q=>by rw[q,hd]at e;cases e) e)
 | @dK a kvs e =>
  by_cases q:a=d
  ·rw[q];exact .dK hd'
  ·exact .dK (s a _ q e)
theorem Zbb {a:Addr} {xs:List V} {kv:List (Key×V)} (h:H a=some (.lst xs)) (hd:H d=some (.dK kv)) (s:Bt d H H'):H' a=some (.lst xs):=s a _ (fun q=>by rw[q,hd]at h;cases h) h
section
variable {P:Program} {w:World} {K:PySem.W.Frag} {mg:Str->Option Value} {base:Heap} {C CH:Addr}
abbrev Zhf:Stmt:=top 70
abbrev Zpn:List Str:=["_law_script","_law_seed","_law_cell","_law_rows","_law_k","_law_long","_law_odd","_law_row","_law_number","_law_way","_law_piece_here","_law_many_here","_law_due_here"]
theorem scLaw:Zm Zpn ["_law_script"] (Zg Zhf):=⟨rfl,rfl,rfl,by decide +kernel,rfl,by decide +kernel,by decide +kernel⟩
def Zjl (K:PySem.W.Frag):Sp:=fun vs H Q _=>∃ (a:Addr) (ns:List Int),vs=[.ref a]/\SqL K H a (ns.map V.int)/\ns.length<=63/\∀ H',Q (.bl true) H'
theorem Zn6 {fa:Addr} {fd:FuncData} (Fl:Fun K "law" "law" Zhf fa fd) (B:Blt mg) (T:BgC K mg C) (g25_:IOkX P w K mg base C 10 ["self","long"] (ZgT C CH)) (g5_:FOk P w K mg base 11 "_law_no_bag" ["_law_long"] ZgO) (g8_:FOk P w K mg base 11 "_law_piece" ["_law_cell","_law_long","_law_seed"] ZeK)
  (g4_:FOk P w K mg base 11 "_law_many" ["_law_cell","_law_way","_law_row","_law_piece_here"] (ZgR C)) (g7_:FOk P w K mg base 11 "_law_odd_piece" ["_law_cell","_law_piece_here"] ZkS) (g1_:FOk P w K mg base 11 "_law_due" ["_law_row","_law_way","_law_piece_here","_law_many_here"] (ZnF C)) (g9_:FOk P w K mg base 11 "_law_told" XV (ZgQ C))
  (g3_:FOk P w K mg base 11 "_law_heap_right" ["_law_row"] (ZdK C)) (g0_:FOk P w K mg base 11 "_law_asked" ["_law_row","_law_turn"] (ZgW C)) :
  FnOk P w K mg base CX0 12 fa fd ["_law_script"] (Zjl K):=by
 refine Fl.ok scLaw (fun vs H Q E h=>?_) (fun cdv A outer s H vs Q E hr h=>?_)
 ·obtain⟨a,ns,rfl,_⟩:=h;rfl
 ·obtain⟨a,ns,rfl,ha,hl,k⟩:=h;refine⟨_,(Ze (Zp (i:=1) scLaw.nd rfl (.inr rfl) Zf)
   (Ze (Z4 PassesOwn.never rfl (Yp (ZX Zby (pv 0) Yo (Yn Zf))) (Zy (i:=2) scLaw.nd rfl (.inl rfl))
    (Zh (Zp (i:=1) scLaw.nd rfl (.inr rfl) (Zq ZL (Zq ZS (Zq Jy (pv 1) Zf) (pv 2)) Zf))))
   (Ze (Zp (i:=3) scLaw.nd rfl (.inl rfl) (ZR Zd))
   (Ze (Z4 PassesOwn.never rfl (Zah rfl B.range (Za Zf Zd)) (Zy (i:=4) scLaw.nd rfl (.inl rfl))
    (Ze (Zp (i:=5) scLaw.nd rfl (.inl rfl) (Zq ZS Zf (Zq ZL (Zq Z9 (pv 1) (Zq ZS Zf (Zq Jy Zf (pv 4)))) Zf)))
   (Ze (ZE (Zo Yv (Zq ZL (Zq Z9 (pv 1) Zf) Zf) (pv 4) (Zr _)) (Zh (Zp (i:=5) scLaw.nd rfl (.inl rfl) (Zq ZS Zf (Zq ZL (Zq Z9 (pv 1) Zf) Zf)))) Zs)
   (Zh (ZW (ZbV F.plainAttrs_list F.slot_list_append F.type_list_append Yk (pv 3) (Za (ZR (Za (ZnV g25_ hr T.mgC (Za (pv 5) Zd)) (Za (pv 5) (Za YW Zd)))) Zd)))))))
   (Ze (Z4 PassesOwn.never rfl (Yp (ZR (Za Zf (Za Zf (Za (Zq Xa (XG Yx Zf) (pv 1)) (Za Ym (Za YF (Za Z8 (Za (Zq ZS Zf (pv 1)) Zd))))))))) (Zy (i:=6) scLaw.nd rfl (.inl rfl))
    (Zh (ZE (Z3 (ZQ (Zt g5_ hr (Za (pv 6) Zd)))) (Zh (Zn Ym)) Zs)))
   (Ze (Z4 PassesOwn.never rfl (Yp (Zq ZhP (ZA (Zgf rfl) rfl B.list Zfx (Za (ZA Zkx rfl B.range Zm6 (Za Zf Zd)) Zd)) (ZJ (Zg Zhf) Zpn ["_law_cell"] [] rfl (Yp (ZX Zby (pv 0) Yo (Yn Zf))) (fun _ _ _ _ _=>Yi 0) (fun _ _ _ _ _=>ZZ) (fun _ _ _ _ _=>(Zq ZL (pv 0) (Zq Zld Zf Zf)))))) (Zy (i:=2) scLaw.nd rfl (.inl rfl))
    (Ze (Zp (i:=7) scLaw.nd rfl (.inl rfl) (Zw ix_list (pv 3) (Zq ZL (Zq ZS (pv 2) (Zq Z9 (pv 2) Zf)) Zf) (fun _ _=>rfl)))
   (Ze (Zp (i:=8) scLaw.nd rfl (.inl rfl) (Zq ZL (Zq ZS (Zq Jy (pv 2) Zf) (pv 1)) Zf))
   (Ze (Zp (i:=9) scLaw.nd rfl (.inl rfl) (Zq ZL (pv 8) Zf))
   (Ze (Zp (i:=10) scLaw.nd rfl (.inl rfl) (Zt g8_ hr (Za (Zq ZL (Zq Z9 (pv 8) Zf) Zf) (Za (Zw ix_list (pv 7) Zf (fun _ _=>rfl)) (Za (pv 1) Zd)))))
   (Ze (Zp (i:=11) scLaw.nd rfl (.inl rfl) (Zt g4_ hr (Za (Zq Z9 (pv 8) Zf) (Za (pv 9) (Za (pv 7) (Za (pv 10) Zd))))))
   (Ze (ZE (Zo Yv (Zq ZL (Zq Z9 (pv 8) Zf) Zf) Zf (Zr _)) (Zh (Zp (i:=10) scLaw.nd rfl (.inl rfl) (Zt g7_ hr (Za (Zq Z9 (pv 8) Zf) (Za (pv 10) Zd))))) Zs)
   (Ze (Zp (i:=12) scLaw.nd rfl (.inl rfl) (Zt g1_ hr (Za (pv 7) (Za (pv 9) (Za (pv 10) (Za (pv 11) Zd))))))
   (Ze (ZE (Zo (Zle hr.units) (Zt g9_ hr (Za (Zw ix_list (pv 7) Zf (fun _ _=>rfl)) (Za (pv 9) (Za (pv 10) (Za (pv 11) Zd))))) (ZR (Za Ym (Za (pv 12) (Za (ZA Zdv rfl B.int Zkz (Za (YH ZaN (pv 12) Zf (Zr _)) Zd)) Zd)))) (Zr _)) (Zh (Zn Ym)) Zs)
   (Ze (ZE (PW.pt (Zae (Z3 (ZQ (Zt g3_ hr (Za (Zw ix_list (pv 3) Zf (fun _ _=>rfl)) Zd)))) (Jw (Z3 (ZQ (Zt g3_ hr (Za (Zw ix_list (pv 3) Zf (fun _ _=>rfl)) Zd))))))) (Zh (Zn Ym)) Zs)
   (Zh (ZE (PW.pt (XT (Zo ZbX (Zw ix_list (pv 7) Zf (fun _ _=>rfl)) Zf (Zr _)) (XT (Zo Yv (Zq ZL (Zq Z9 (pv 8) Zf) Zf) Zf (Zr _)) (Y9 (Z3 (ZQ (Zt g0_ hr (Za (pv 7) (Za (pv 8) Zd))))))))) (Zh (Zn Ym)) Zs))))))))))))
   (Zh (Zn (YH (ZeZ hr.units) (ZJ (Zg Zhf) Zpn ["_law_row"] [1] rfl (Yp (pv 3)) (fun _ _ _ _ _=>Yi 0) (fun _ _ _ _ _=>Zak (PW.pt (XT (Zo ZbX (Zw (YG K) (pv 0) Zf (fun _ _=>rfl)) Zf (Zr _)) (Y9 (Z3 (ZQ (Zt g0_ hr (Za (pv 0) (Za (pv 1) Zd))))))))) (fun _ _ _ _ _=>(pv 0))) (ZR Zd) (Zr _)))))))))),?_⟩
  refine⟨_,rfl,_,rfl,a,_,rfl,ha,fun p1 hp1=>?_⟩;rw[ZoG (ns.map V.int) (by rw[Qc];exact hl)];have s1:=Zb (o:=.lst (ns.map V.int)) hp1;have hp1':(upd H p1 (.lst (ns.map V.int))) p1=some (.lst (ns.map V.int)):=Zc;generalize upd H p1 (.lst (ns.map V.int))=H1 at s1 hp1';refine⟨p1,rfl,⟨_,SqL.of hp1'⟩,?_⟩;refine JS (K:=K) (a:=p1) (xs:=ns.map V.int) (fun i σ H'=>H'=H1/\∃ (sd:Int) (z2:Option V),σ=[some (.ref a),some (.int sd),z2,none,none,none,none,none,none,none,none,none,none]/\0<=sd/\sd<999999937)
   ⟨rfl,4711,none,rfl,by decide,by decide⟩ (fun i σ H' _ ⟨e,_⟩=>by rw[e];exact SqL.of hp1') ?_ ?_
  ·rintro i x σ H' hi ⟨rfl,sd,z2,rfl,d0,d1⟩;rw[Qk]at hi;obtain⟨c,hc,rfl⟩:=Wr.mp hi;have m:=ZN (sd*613+c) (show(0:Int)<999999937 by decide);refine⟨_,rfl,_,_,rfl,rfl,.inr (by decide),_,rfl,_,_,rfl,rfl,_,_,rfl,rfl,(by show(0:Int)<999999937;decide),?_⟩;exact⟨rfl,_,_,rfl,m.1,m.2⟩
  rintro σ H' ⟨rfl,sd,z2,rfl,sd0,sd1⟩;refine⟨Zj (show 0<=1000 by decide),fun l hl0=>?_⟩;have s2:=Zb (o:=.lst []) hl0;refine⟨_,rfl,by decide,by decide,?_⟩;refine XZ (n:=2) (fun i σ H2=>∃ (z4 z5:Option V) (ρs:List RR),σ=[some (.ref a),some (.int sd),z2,some (.ref l),z4,z5,none,none,none,none,none,none,none]/\Same H' H2/\H2 l=some (.lst (ρs.map fun ρ=>V.ref ρ.r))/\ρs.length=i/\(∀ ρ∈ρs,RowI C sd H2 ρ)/\∀ ρ τ,ρs=[ρ,τ]->Apt ρ τ)
   ⟨none,none,[],rfl,s2,Zc,rfl,fun ρ hρ=>(by cases hρ),fun ρ τ e=>by cases e⟩ ?_ ?_
  ·rintro i σ H2 hi ⟨z4,z5,ρs,rfl,sA,hl2,hlen,hρ,hap⟩;rw[UF];have m3:=ZN (sd / (7+2*(i:Int))) (show(0:Int)<3 by decide);refine⟨_,rfl,_,rfl,_,_,rfl,rfl,.inr (by omega),_,_,rfl,rfl,_,_,rfl,rfl,⟨by omega,by omega⟩,_,_,rfl,rfl,(by show(0:Int)<3;decide),_,_,rfl,rfl,?_⟩
   try dsimp only[JI]
   show ZfF (ZkJ _ _ _) _ _ _ _;refine Yh (fun σ H'=>H'=H2/\∃ L:Nat,σ=[some (.ref a),some (.int sd),z2,some (.ref l),some (.int i),some (.int L),none,none,none,none,none,none,none]/\1<=L/\L<=300) (fun R hR=>?_) ?_
   ·refine⟨_,rfl,_,_,rfl,rfl,⟨by decide,by decide⟩,_,_,rfl,rfl,(by show(0:Int)<4;decide),_,rfl,rfl,_,rfl,Zff (fun e=>?_) (fun e=>?_)⟩
    ·have m297:=ZN (sd / 252) (show(0:Int)<297 by decide);refine⟨_,rfl,_,_,rfl,rfl,⟨by decide,by decide⟩,_,_,rfl,rfl,(by show(0:Int)<297;decide),_,_,rfl,rfl,?_⟩;obtain⟨L,eL⟩:∃ L:Nat,4+sd / 252 % 297=L:=⟨(4+sd / 252 % 297).toNat,by omega⟩
     refine hR _ _ ⟨rfl,L,?_,by omega,by omega⟩;rw[←eL];rfl
    ·obtain⟨L,eL⟩:∃ L:Nat,1+sd / (7+2*(i:Int)) % 3=L:=⟨(1+sd / (7+2*(i:Int)) % 3).toNat,by omega⟩
     refine hR _ _ ⟨rfl,L,?_,by omega,by omega⟩;rw[←eL];rfl
   rintro σ H2' ⟨rfl,L,rfl,hL1,hL3⟩;refine⟨_,rfl,.inl ⟨rfl,_,SqL.of hl2⟩,_,rfl,fun x dx hx hdx hne=>?_⟩;have t1:Same H2' (upd (upd H2' dx (.own x)) x (.ins C dx [])):=fun q u e=>by
    rw[Zi (Zk e hx),Zi (Zk e hdx)];exact e
   have hlong:ZT (.int (L:Int))=true:=by simp only[ZT];rw[decide_eq_true (show(1:Int)<=L by omega),decide_eq_true (show(L:Int)<=300 by omega)];rfl
   refine⟨x,dx,.int L,"int",rfl,Zc,.int _,.inr ⟨L,rfl,hlong,fun d H3 hd hk hB=>⟨rfl,?_⟩⟩⟩;have t2:Same H2' H3:=fun q u e=>hk q u (Zk e hx) (t1 q u e);have hd0:H2' d=none:=t1.free hd;refine⟨_,rfl,fun d2 hd2=>?_⟩;have t3:=Zb (o:=.dK []) hd2;refine⟨Zj (show 3<=1000 by decide),fun r hrr=>?_⟩;have t4:=Zb (o:=.lst [.ref x,.int L,.ref d2]) hrr;have t34:=t3.trans t4;have tA:=t2.trans t34;have hl5:=tA _ _ hl2;have hd3:H3 d=some (.dK []):=hB.dc;have nd12:d≠d2:=fun e=>by rw[e,hd2]at hd3;cases hd3
   refine⟨l,_,_,rfl,rfl,hl5,Zj (by rw[Qc];omega),?_⟩;have hnew:RowI C sd (upd (upd H3 d2 (.dK [])) r (.lst [.ref x,.int L,.ref d2])) ⟨r,x,d,d2,L,[],fun _=>0⟩:=⟨⟨Zc,hB.same t34,t4 _ _ Zc⟩,ZmN sd hL3,hL1,hL3,nd12⟩
   have hll:(ρs.map fun ρ=>V.ref ρ.r).length≠3:=by rw[Qc];omega
   refine⟨_,_,ρs++[⟨r,x,d,d2,L,[],fun _=>0⟩],rfl,Jt (sA.trans tA) hl0,?_,by rw[Qp,hlen];rfl,fun ρ hρ'=>?_,fun ρ τ e=>?_⟩
   ·rw[Zc,QG];rfl
   ·rcases QI.mp hρ' with q | q
    ·exact((hρ ρ q).same tA).upl hl5 hll
    ·rw[Qm.mp q];exact hnew.upl hl5 hll
   ·obtain⟨ρ0,rfl⟩:∃ ρ0,ρs=[ρ0]:=by
     have:=congrArg RX e;rw[Qp]at this;exact List.length_eq_one_iff.mp (by simpa using this)
    cases e;have h0:=hρ ρ Qd;have q1:=h0.at_.bag.dc;have q2:=h0.at_.dc2;exact⟨Zk q1 hd0,Zk (t2 _ _ q1) hd2,Zk q2 hd0,Zk (t2 _ _ q2) hd2⟩
  rintro σ H2 ⟨z4,z5,ρs,rfl,sA,hl2,hlen,hρ,hap⟩;obtain⟨ρ0,ρ1,rfl⟩:∃ ρ0 ρ1,ρs=[ρ0,ρ1]:=by match ρs,hlen with | [p,q],_=>exact⟨p,q,rfl⟩
  have hI0:=hρ ρ0 Qd;have hI1:=hρ ρ1 (Qg _ Qd);have hAp:=hap ρ0 ρ1 rfl;clear hρ hap hlen;refine⟨_,rfl,_,rfl,_,_,rfl,rfl,_,rfl,_,_,rfl,rfl,Zj (show 7<=1000 by decide),fun lo hlo=>?_⟩;have t1:=Zb (o:=.lst [V.int 0,.int 301,.int (-5-sd),.bl true,.non,.str "2",.int (301+sd)]) hlo;have hlo':(upd H2 lo (.lst [V.int 0,.int 301,.int (-5-sd),.bl true,.non,.str "2",.int (301+sd)])) lo=some (.lst [V.int 0,.int 301,.int (-5-sd),.bl true,.non,.str "2",.int (301+sd)]):=Zc;refine⟨lo,rfl,⟨_,SqL.of hlo'⟩,?_⟩;refine JS (K:=K) (a:=lo) (xs:=[V.int 0,.int 301,.int (-5-sd),.bl true,.non,.str "2",.int (301+sd)]) (fun i σ H'=>∃ z6:Option V,σ=[some (.ref a),some (.int sd),z2,some (.ref l),z4,z5,z6,none,none,none,none,none,none]/\Same (upd H2 lo (.lst [V.int 0,.int 301,.int (-5-sd),.bl true,.non,.str "2",.int (301+sd)])) H')
   ⟨none,rfl,Same.refl _⟩ (fun i σ H' _ ⟨_,_,s'⟩=>SqL.of (s' _ _ hlo')) ?_ ?_
  ·rintro i x σ H3 hi ⟨z6,rfl,s3⟩;have hx:(∃ n,TyB H3 x n)/\ZT x=false:=by
    have hm:=Wp hi;simp only[Qx,Us,or_false]at hm;rcases hm with rfl | rfl | rfl | rfl | rfl | rfl | rfl
    ·exact⟨⟨_,.int _⟩,rfl⟩
    ·exact⟨⟨_,.int _⟩,rfl⟩
    ·exact⟨⟨_,.int _⟩,by simp only[ZT];rw[decide_eq_false (show ¬ 1<=-5-sd by omega)];rfl⟩
    ·exact⟨⟨_,.bl _⟩,rfl⟩
    ·exact⟨⟨_,.non⟩,rfl⟩
    ·exact⟨⟨_,.str _⟩,rfl⟩
    ·exact⟨⟨_,.int _⟩,by simp only[ZT];rw[decide_eq_false (show ¬ 301+sd<=300 by omega),Uq]⟩
   obtain⟨⟨n,tx'⟩,hf⟩:=hx;refine⟨_,rfl,x,n,rfl,tx',hf,fun H4 s4=>⟨_,rfl,Zka ?_⟩⟩;exact⟨_,rfl,s3.trans s4⟩
  rintro σ H3 ⟨z6,rfl,s3⟩;have sB:=t1.trans s3;have hI0':=hI0.same sB;have hI1':=hI1.same sB;have hl3:=sB _ _ hl2;have hp13:=sB _ _ (sA _ _ hp1');have ha3:SqL K H3 a (ns.map V.int):=(s1.trans (sA.trans sB)).seq ha;clear hI0 hI1 hl2 t1 s3 sB hlo' hlo;refine⟨13,rfl,fun pr hpr=>?_⟩;have u1:=Zb (o:=.rng 0 13) hpr;refine⟨pr,13,rfl,Zc,by decide,fun l1 hl1=>?_⟩;have u2:=Zb (o:=.lst ((Qs 13).map fun(i:Nat)=>V.int i)) hl1;have u12:=u1.trans u2;have hl1':(upd (upd H3 pr (.rng 0 13)) l1 (.lst ((Qs 13).map fun(i:Nat)=>V.int i))) l1=some (.lst ((Qs 13).map fun(i:Nat)=>V.int i)):=Zc;generalize upd (upd H3 pr (.rng 0 13)) l1 (.lst ((Qs 13).map fun(i:Nat)=>V.int i))=H4 at u12 hl1';refine⟨_,rfl,_,rfl,a,_,rfl,u12.seq ha3,fun p4 hp4=>?_⟩;rw[ZoG (ns.map V.int) (by rw[Qc];exact hl)];have u3:=Zb (o:=.lst (ns.map V.int)) hp4;refine⟨p4,rfl,⟨_,SqL.of Zc⟩,Xc (ns.map V.int).length (fun i=>(ns.map V.int).getD i .non) (fun i v _=>∀ c,ns[i]?=some c->v= .int (c % 10 ^ 18)) (by rw[Qc];exact Zj (by omega)) (fun _ _ _ _ _ r=>r) (Xd (K:=K) (SqL.of Zc)) ?_ ?_⟩
  ·intro i H5 Qe hi hs kq;have hi':i<ns.length:=by rw[Qc]at hi;exact hi
   rw[YQ hi'];refine⟨_,rfl,_,_,rfl,rfl,⟨by decide,by decide,by decide⟩,_,_,rfl,rfl,(by show(0:Int)<10 ^ 18;decide),kq _ _ (Same.refl _) fun c hc=>?_⟩;rw[Qa hi']at hc;cases hc;rfl
  intro pc vs1 H5 hl1v hr1 hs5 hD1 hDl1;rw[Qc]at hl1v;have evs:=Zgl (f:=fun c=>V.int (c % 10 ^ 18)) hl1v hr1;obtain⟨cl,ecl,hcl,hcn⟩:∃ cl:List Int,((Qs 13).map fun(i:Nat)=>V.int i)++vs1=cl.map V.int/\cl.length<=76/\∀ c∈cl,0<=c:=by
   refine⟨((Qs 13).map fun(i:Nat)=>(i:Int))++ns.map fun c=>c % 10 ^ 18,?_,?_,fun c hc=>?_⟩
   ·rw[evs,QG,QV,QV];rfl
   ·rw[Qp,Qc,Qc,Q4];omega
   ·rcases QI.mp hc with q | q
    ·obtain⟨i,_,rfl⟩:=Qr.mp q;exact Int.natCast_nonneg _
    ·obtain⟨y,_,rfl⟩:=Qr.mp q;exact(ZN y (show(0:Int)<10 ^ 18 by decide)).1
  have hlv:vs1.length<=63:=by omega
  refine⟨l1,pc,_,_,rfl,rfl,hs5 _ _ (u3 _ _ hl1'),hDl1,Zj (by rw[Qc,Q4];omega),fun lc hlc=>?_⟩;have u6:=Zb (o:=.lst (((Qs 13).map fun(i:Nat)=>V.int i)++vs1)) hlc;have hlc':(upd H5 lc (.lst (((Qs 13).map fun(i:Nat)=>V.int i)++vs1))) lc=some (.lst (cl.map V.int)):=by rw[Zc,ecl]
  have sC:=((u12.trans u3).trans hs5).trans u6;have hJ0:=hI0'.same sC;have hJ1:=hI1'.same sC;have hl6:=sC _ _ hl3;generalize upd H5 lc (.lst (((Qs 13).map fun(i:Nat)=>V.int i)++vs1))=H6 at hlc' hJ0 hJ1 hl6;clear hI0' hI1' hl3 sC u6 hs5 u3 u12 hDl1 hD1;refine⟨lc,rfl,⟨_,SqL.of hlc'⟩,?_⟩;refine JS (K:=K) (a:=lc) (xs:=cl.map V.int) (fun i σ H'=>∃ (z2 z7 z8 z9 z10 z11 z12:Option V) (ρ0 ρ1:RR),σ=[some (.ref a),some (.int sd),z2,some (.ref l),z4,z5,z6,z7,z8,z9,z10,z11,z12]/\H' lc=some (.lst (cl.map V.int))/\H' l=some (.lst [.ref ρ0.r,.ref ρ1.r])/\RowI C sd H' ρ0/\RowI C sd H' ρ1/\Apt ρ0 ρ1)
   ⟨z2,none,none,none,none,none,none,ρ0,ρ1,rfl,hlc',hl6,hJ0,hJ1,hAp⟩ (fun i σ H' _ ⟨_,_,_,_,_,_,_,_,_,_,h',_⟩=>SqL.of h') ?_ ?_
  ·clear hJ0 hJ1 hl6 hAp hlc' ρ0 ρ1;rintro i x σ H7 hi ⟨z2,z7,z8,z9,z10,z11,z12,ρ0,ρ1,rfl,hlc7,hl7,hI0,hI1,hAp⟩;rw[Qk]at hi;obtain⟨c,hc,rfl⟩:=Wr.mp hi;have hc0:=hcn c (Wp hc);have m2:=ZN (c+c / 2) (show(0:Int)<2 by decide);obtain⟨ρ,τ,hat,hsel,hI,hJ,hA⟩:∃ ρ τ,atI [V.ref ρ0.r,.ref ρ1.r] ((c+c / 2) % 2)=some (.ref ρ.r)/\((ρ0=ρ/\ρ1=τ)\/(ρ0=τ/\ρ1=ρ))/\RowI C sd H7 ρ/\RowI C sd H7 τ/\Apt ρ τ:=by
    have:(c+c / 2) % 2=0\/(c+c / 2) % 2=1:=by omega
    rcases this with e | e <;> rw[e]
    ·exact⟨ρ0,ρ1,rfl,.inl ⟨rfl,rfl⟩,hI0,hI1,hAp⟩
    ·exact⟨ρ1,ρ0,rfl,.inr ⟨rfl,rfl⟩,hI1,hI0,hAp.symm⟩
   refine⟨_,rfl,_,rfl,_,rfl,_,_,rfl,rfl,⟨by decide,by decide⟩,_,_,rfl,rfl,_,_,rfl,rfl,(by show(0:Int)<2;decide),l,_,_,_,rfl,rfl,SqL.of hl7,hat,?_⟩;have mn:=ZN (c*39373+sd) (show(0:Int)<2147483629 by decide);refine⟨_,rfl,_,_,rfl,rfl,.inr (by decide),_,rfl,_,_,rfl,rfl,_,_,rfl,rfl,(by show(0:Int)<2147483629;decide),?_⟩;dsimp only;generalize (c*39373+sd) % 2147483629=nb at mn;have mw:=ZN nb (show(0:Int)<2 by decide);refine⟨_,rfl,_,_,rfl,rfl,(by show(0:Int)<2;decide),?_⟩;dsimp only;have m9:=ZN (nb / 2) (show(0:Int)<9 by decide);have hrow1:atI [V.ref ρ.b,.int ρ.L,.ref ρ.d2] 1=some (.int ρ.L):=rfl;have hrow0:atI [V.ref ρ.b,.int ρ.L,.ref ρ.d2] 0=some (.ref ρ.b):=rfl;refine⟨_,rfl,_,_,rfl,rfl,⟨by decide,by decide⟩,_,_,rfl,rfl,(by show(0:Int)<9;decide),_,rfl,ρ.r,_,1,.int ρ.L,rfl,rfl,SqL.of hI.at_.row,hrow1,_,rfl,_,ρ.L,sd,rfl,hI.l3,?_⟩;obtain⟨x9,e9⟩:∃ x9,x9=pcF (nb / 2 % 9) ρ.L sd:=⟨_,rfl⟩
   have hx9:tx x9∈ZaU ρ.L sd:=by
    unfold ZaU;refine Qr.mpr ⟨(nb / 2 % 9).toNat,QM.mpr (by omega),?_⟩;rw[e9,UW m9.1]
   have hx9l:x9.length=ρ.L:=by rw[e9];exact(ZhK _ _ _ _ _).1
   have hLl:=hI.l1;have hLh:=hI.l3;dsimp only;rw[←e9];refine⟨_,rfl,_,_,rfl,rfl,⟨by decide,by decide⟩,_,rfl,_,rfl,_,rfl,ρ.r,ρ.b,ρ.d,ρ.d2,ρ.L,ρ.ks,ρ.g,_,_,tx x9,rfl,hI.at_,hI.inv.ok,fun mv H8 s8 hmv=>?_⟩
   try dsimp only[JI]
   show ZfF (ZkJ _ _ _) _ _ _ _;refine Yh (fun σ H'=>∃ p,σ=[some (.ref a),some (.int sd),some (.int c),some (.ref l),z4,z5,z6,some (.ref ρ.r),some (.int nb),some (.int (nb % 2)),some p,some mv,z12]/\Same H8 H'/\(∃ np,TyB H' p np)/\(∀ z,p= .str z->z.length<=sizeLine)/\((∃ x,p= .str x/\x∈ZaU ρ.L sd)\/∀ k,Yb ρ.L p (.int k)=false)) (fun R hR=>?_) ?_
   ·refine⟨_,rfl,_,_,rfl,rfl,⟨by decide,by decide⟩,_,_,rfl,rfl,(by show(0:Int)<9;decide),rfl,_,rfl,Zff (fun e=>?_) (fun e=>?_)⟩
    ·refine⟨_,rfl,_,_,rfl,rfl,⟨by decide,by decide⟩,_,rfl,_,x9,rfl,by omega,by omega,fun v H9 s9 hty hsz hgb=>?_⟩;refine hR _ _ ⟨v,rfl,s9,hty,hsz,.inr fun k=>?_⟩;rw[Zcf hLl hLh,←hx9l,hgb];rfl
    ·exact hR _ _ ⟨.str (tx x9),rfl,Same.refl _,⟨_,.str _⟩,fun z ez=>by cases ez;rw[Z1];exact Zj (by omega),.inl ⟨_,rfl,hx9⟩⟩
   rintro σ H9 ⟨p,rfl,s9,⟨np,tp⟩,hsz,hp⟩;have s79:=s8.trans s9;have hI9:=hI.same s79;have hJ9:=hJ.same s79;obtain⟨nm,tm⟩:=hmv;have tm9:=tm.same s9;have hl9:=s79 _ _ hl7;have hlc9:=s79 _ _ hlc7;have hw:nb % 2=0\/nb % 2=1:=by omega
   generalize nb % 2=way at hw;obtain⟨du,edu⟩:∃ du,du=dueF ρ.L ρ.ks ρ.g way p (oneM mv):=⟨_,rfl⟩
   have hinv:=Zou (m:=oneM mv) hw hI9.inv hp;obtain⟨nk,enk⟩:∃ nk,nk=nwF ρ.L ρ.ks ρ.g way p (oneM mv):=⟨_,rfl⟩
   rw[←enk]at hinv;refine⟨_,rfl,_,rfl,_,rfl,_,rfl,ρ.r,ρ.b,ρ.d,ρ.d2,ρ.L,ρ.ks,ρ.g,way,p,mv,rfl,hI9.at_,⟨hw,hI9.at_.bag,hI9.inv.ok,⟨np,tp⟩,⟨nm,tm9⟩,hsz⟩,hLl,hLh,fun H10 hbt hd2n=>?_⟩;have qd2:=hI9.at_.dc2;have tp10:=ZkG tp qd2 hd2n hbt;have tm10:=ZkG tm9 qd2 hd2n hbt;have hrow10:=Zbb hI9.at_.row qd2 hbt;obtain⟨dx,hb9⟩:=hI9.at_.bag.ob;have hb10:=hbt _ _ (fun e=>by rw[e,qd2]at hb9;cases hb9) hb9;have hd10:=hbt _ _ hI9.ne hI9.at_.bag.dc;have hB10:BagAt C H10 ρ.b ρ.d ρ.L ρ.ks ρ.g:=⟨⟨dx,hb10⟩,hd10⟩
   have hτ10:=hJ9.at_.bt qd2 hA.n3 hA.n4 hbt;have hl10:=Zbb hl9 qd2 hbt;have hlc10:=Zbb hlc9 qd2 hbt;refine⟨_,rfl,ρ.r,_,0,.ref ρ.b,rfl,rfl,SqL.of hrow10,hrow0,_,rfl,_,rfl,_,rfl,ρ.b,ρ.d,ρ.L,ρ.ks,ρ.g,way,p,mv,rfl,⟨hw,hB10,hI9.inv.ok,⟨np,tp10⟩,⟨nm,tm10⟩,hsz⟩,fun q H11 hbt2 hdn hq=>?_⟩;have hb11:=hbt2 _ _ (fun e=>by rw[e,hd10]at hb10;cases hb10) hb10;have hrow11:=Zbb hrow10 hd10 hbt2;have hd211:=hbt2 _ _ hI9.ne.symm hd2n;have hτ11:=hτ10.bt hd10 hA.n1 hA.n2 hbt2;have hl11:=Zbb hl10 hd10 hbt2;have hlc11:=Zbb hlc10 hd10 hbt2;rw[←enk]at hdn hd211;rw[←edu]at hq;have hρ11:RowI C sd H11 ⟨ρ.r,ρ.b,ρ.d,ρ.d2,ρ.L,nk.1,nk.2⟩:=⟨⟨hrow11,⟨⟨dx,hb11⟩,hdn⟩,hd211⟩,hinv,hLl,hLh,hI9.ne⟩
   have hτI:RowI C sd H11 τ:=⟨hτ11,hJ9.inv,hJ9.l1,hJ9.l3,hJ9.ne⟩
   rw[←edu];refine⟨_,rfl,_,rfl,_,_,rfl,rfl,.inr ⟨_,rfl,Zj (show 3<=1000 by decide),fun q2 hq2=>?_⟩⟩;have w1:=Zb (o:=.lst [.bl true,.int (du:Nat),.int (if decide ((0:Int)<(du:Nat))then 1 else 0)]) hq2;have ee:(if decide ((0:Int)<(du:Nat))then (1:Int)else 0)=if 0<du then 1 else 0:=by
    by_cases c0:0<du
    ·rw[if_pos c0,if_pos (decide_eq_true (by omega))]
    ·rw[if_neg c0,if_neg (by simp;omega)]
   have hsh:SeqAt.shaped (.list [.bool true,.int (du:Nat),.int (if 0<du then 1 else 0)])=true:=by
    unfold SeqAt.shaped;simp[PyData.canLay0,PyData.canLayAll0,PyData.depth,PyData.depthAll]
   have rp:∀ (Hz:Hp) (z:Addr),Hz z=some (.lst [.bl true,.int (du:Nat),.int (if 0<du then 1 else 0)])->RepD Hz (.list [.bool true,.int (du:Nat),.int (if 0<du then 1 else 0)]) (.ref z):=fun Hz z hz=>by
    rw[RepD];refine⟨z,_,rfl,hz,?_⟩;simp only[RepA,RepD];exact⟨_,_,rfl,rfl,_,_,rfl,rfl,_,_,rfl,rfl,rfl⟩
   have hq2':(upd H11 q2 (.lst [.bl true,.int (du:Nat),.int (if decide ((0:Int)<(du:Nat))then 1 else 0)])) q2=some (.lst [.bl true,.int (du:Nat),.int (if 0<du then 1 else 0)]):=by rw[Zc,ee]
   refine⟨_,_,rp _ q (w1 _ _ hq),rp _ q2 hq2',hsh,hsh,_,rfl,ZM (by rw[SeqAt.eqv_refl _ (SeqAt.canLay_of_shaped hsh)];rfl) ?_⟩;have hρ12:=hρ11.same w1;have hτ12:=hτI.same w1;have hl12:=w1 _ _ hl11;have hlc12:=w1 _ _ hlc11;generalize upd H11 q2 _=H12 at hρ12 hτ12 hl12 hlc12 ⊢;obtain⟨α0,α1,e0,e1,hK0,hK1,hAp'⟩:∃ α0 α1:RR,α0.r=ρ0.r/\α1.r=ρ1.r/\RowI C sd H12 α0/\RowI C sd H12 α1/\Apt α0 α1:=by
    have hA2:Apt ⟨ρ.r,ρ.b,ρ.d,ρ.d2,ρ.L,nk.1,nk.2⟩ τ:=⟨hA.n1,hA.n2,hA.n3,hA.n4⟩
    rcases hsel with ⟨rfl,rfl⟩ | ⟨rfl,rfl⟩
    ·exact⟨⟨ρ0.r,ρ0.b,ρ0.d,ρ0.d2,ρ0.L,nk.1,nk.2⟩,ρ1,rfl,rfl,hρ12,hτ12,hA2⟩
    ·exact⟨ρ0,⟨ρ1.r,ρ1.b,ρ1.d,ρ1.d2,ρ1.L,nk.1,nk.2⟩,rfl,rfl,hτ12,hρ12,hA2.symm⟩
   rw[←e0,←e1]at hl12;refine⟨_,rfl,l,_,0,.ref α0.r,rfl,rfl,SqL.of hl12,rfl,α0.r,α0.b,α0.d,α0.d2,α0.L,α0.ks,α0.g,rfl,hK0.at_,hK0.inv.ok,hK0.inv.kok,fun H13 s13=>⟨_,rfl,ZM rfl ?_⟩⟩;refine⟨_,rfl,l,_,1,.ref α1.r,rfl,rfl,SqL.of (s13 _ _ hl12),rfl,α1.r,α1.b,α1.d,α1.d2,α1.L,α1.ks,α1.g,rfl,(hK1.same s13).at_,hK1.inv.ok,hK1.inv.kok,fun H14 s14=>⟨_,rfl,ZM rfl ?_⟩⟩;have s134:=s13.trans s14;have hρ14:=hρ12.same s134;have done:∀ H15,Same H14 H15->∃ (z2 z7 z8 z9 z10 z11 z12:Option V) (ρ0 ρ1:RR),[some (V.ref a),some (.int sd),some (.int c),some (.ref l),z4,z5,z6,some (.ref ρ.r),some (.int nb),some (.int way),some p,some mv,some (.int (du:Nat))]=[some (.ref a),some (.int sd),z2,some (.ref l),z4,z5,z6,z7,z8,z9,z10,z11,z12]/\H15 lc=some (.lst (cl.map V.int))/\H15 l=some (.lst [.ref ρ0.r,.ref ρ1.r])/\RowI C sd H15 ρ0/\RowI C sd H15 ρ1/\Apt ρ0 ρ1:=fun H15 s15 =>
    ⟨_,_,_,_,_,_,_,α0,α1,rfl,s15 _ _ (s134 _ _ hlc12),s15 _ _ (s134 _ _ hl12),hK0.same (s134.trans s15),hK1.same (s134.trans s15),hAp'⟩
   refine⟨_,rfl,ρ.r,_,1,.int ρ.L,rfl,rfl,SqL.of hρ14.at_.row,hrow1,_,_,rfl,rfl,_,rfl,?_⟩;by_cases cL:ρ.L<4
   rotate_left
   ·exact ZM (decide_eq_false (by omega)) (ZM rfl (done _ (Same.refl _)))
   refine Ya (decide_eq_true (by omega)) ?_;refine⟨_,rfl,_,_,rfl,rfl,⟨by decide,by decide⟩,_,_,rfl,rfl,(by show(0:Int)<8;decide),rfl,_,rfl,Zff (fun _=>?_) (fun _=>ZM rfl (done _ (Same.refl _)))⟩;refine⟨_,rfl,_,rfl,ρ.r,ρ.b,ρ.d,ρ.d2,ρ.L,nk.1,nk.2,nb,rfl,hρ14.at_,hinv.ask hLl (by omega),fun H15 s15=>⟨_,rfl,ZM rfl (done _ s15)⟩⟩
  ·clear hJ0 hJ1 hl6 hAp hlc' ρ0 ρ1;rintro σ H7 ⟨z2,z7,z8,z9,z10,z11,z12,ρ0,ρ1,rfl,hlc7,hl7,hI0,hI1,hAp⟩;refine⟨_,rfl,l,rfl,⟨_,SqL.of hl7⟩,Zb7 2 (fun i=>[V.ref ρ0.r,.ref ρ1.r].getD i .non) (fun _=>false) (fun _ _ _=>True) (Zj (show 2<=1000 by decide)) (fun _ _ _ _ _ r=>r) (Xd (K:=K) (SqL.of hl7)) ?_ ?_⟩
   ·intro i H8 Qt Qf hi hs ht hf;obtain⟨ρ,eρ,hI⟩:∃ ρ,[V.ref ρ0.r,.ref ρ1.r].getD i .non= .ref ρ.r/\RowI C sd H7 ρ:=by
     have:i=0\/i=1:=by omega
     rcases this with rfl | rfl
     ·exact⟨ρ0,rfl,hI0⟩
     ·exact⟨ρ1,rfl,hI1⟩
    rw[eρ];have hI8:=hI.same hs;have hrow1:atI [V.ref ρ.b,.int ρ.L,.ref ρ.d2] 1=some (.int ρ.L):=rfl;refine⟨_,rfl,ρ.r,_,1,.int ρ.L,rfl,rfl,SqL.of hI8.at_.row,hrow1,_,_,rfl,rfl,_,rfl,?_⟩;by_cases cL:ρ.L<4
    rotate_left
    ·exact ZM (decide_eq_false (by omega)) (ZM rfl (hf rfl _ (Same.refl _)))
    refine Ya (decide_eq_true (by omega)) ?_;refine⟨_,rfl,_,rfl,ρ.r,ρ.b,ρ.d,ρ.d2,ρ.L,ρ.ks,ρ.g,sd,rfl,hI8.at_,hI8.inv.ask hI8.l1 (by omega),fun H9 s9=>⟨_,rfl,ZM rfl (hf rfl _ s9)⟩⟩
   ·intro D2 vs2 H8 hlv hrv hs hD hDl;refine⟨QL _,fun p0 hp0=>?_⟩;have s0:=Zb (o:=.lst []) hp0;have e2:vs2=[]:=Wo.mp (by rw[hlv];simp);rw[e2]at hDl;exact⟨D2,p0,_,rfl,rfl,s0 _ _ hDl,Zc,k _⟩
end
open PySem L2
theorem blt_mk {K:PySem.W.Frag} {mg:Str->Option Value} (X:K.In h) (G:h.Ns mainGlobals mg) {v0 v1:Value} (z0:PySem.W.nsIn K mainGlobals "isinstance" = some none) (z1:PySem.W.nsIn K mainGlobals "int" = some none) (z2:PySem.W.nsIn K mainGlobals "bool" = some none) (z3:PySem.W.nsIn K mainGlobals "len" = some none) (z4:PySem.W.nsIn K mainGlobals "range" = some none) (z5:PySem.W.nsIn K mainGlobals "list" = some none) (z6:PySem.W.nsIn K mainGlobals "tuple" = some none) (z7:PySem.W.nsIn K mainGlobals "enumerate" = some none) (z8:PySem.W.nsIn K mainGlobals "sum" = some none) (z9:PySem.W.nsIn K mainGlobals "sorted" = some none) (z10:PySem.W.nsIn K mainGlobals "set" = some none) (z11:PySem.W.nsIn K mainGlobals "max" = some none) (z12:PySem.W.nsIn K mainGlobals "min" = some none) (z13:PySem.W.nsIn K mainGlobals "reversed" = some none) (z14:PySem.W.nsIn K mainGlobals "zip" = some none) (z15:PySem.W.nsIn K mainGlobals "str" = some none) (z16:PySem.W.nsIn K mainGlobals "dict" = some none) (z17:PySem.W.nsIn K mainGlobals "all" = some none) (cc0:PySem.W.nsIn K mainGlobals "LETTERS" = some (some v0)) (ee0:∃ t,v0= .str "abcdefghijklmnopqrstuvwxyz" t) (cc1:PySem.W.nsIn K mainGlobals "MOST_SIGNS" = some (some v1)) (ee1:∃ t,v1= .int 300 t):Blt mg :=
 ⟨PySem.W.mg_none_of X G z0,PySem.W.mg_none_of X G z1,PySem.W.mg_none_of X G z2,PySem.W.mg_none_of X G z3,PySem.W.mg_none_of X G z4,PySem.W.mg_none_of X G z5,PySem.W.mg_none_of X G z6,PySem.W.mg_none_of X G z7,PySem.W.mg_none_of X G z8,PySem.W.mg_none_of X G z9,PySem.W.mg_none_of X G z10,PySem.W.mg_none_of X G z11,PySem.W.mg_none_of X G z12,PySem.W.mg_none_of X G z13,PySem.W.mg_none_of X G z14,PySem.W.mg_none_of X G z15,PySem.W.mg_none_of X G z16,PySem.W.mg_none_of X G z17,(let ⟨t,e⟩:=ee0;⟨t,e▸PySem.W.mg_of X G cc0⟩),(let ⟨t,e⟩:=ee1;⟨t,e▸PySem.W.mg_of X G cc1⟩)⟩
theorem er_mk {K:PySem.W.Frag} {mg:Str->Option Value} {S CP CH A1 A2 A3 A4 A5 A6 A7:Addr} (X:K.In h) (G:h.Ns mainGlobals mg)
  (s0:PySem.W.nsIn K mainGlobals "ShredError" = some (some (.ref S))) (t1:PySem.W.nsIn K mainGlobals "NoPiece" = some (some (.ref CP))) (t2:PySem.W.nsIn K mainGlobals "NoHeap" = some (some (.ref CH))) (g1:PySem.W.nsIn K mainGlobals "NoText" = some (some (.ref A1))) (g2:PySem.W.nsIn K mainGlobals "NoLine" = some (some (.ref A2))) (g3:PySem.W.nsIn K mainGlobals "NoTexts" = some (some (.ref A3))) (g4:PySem.W.nsIn K mainGlobals "NoNumber" = some (some (.ref A4))) (g5:PySem.W.nsIn K mainGlobals "NoDeed" = some (some (.ref A5))) (g6:PySem.W.nsIn K mainGlobals "Unlike" = some (some (.ref A6))) (g7:PySem.W.nsIn K mainGlobals "Apart" = some (some (.ref A7)))
  (vn:PySem.W.nsIn K mainGlobals "ValueError" = some none) (qs:PySem.W.excIn K S ZoX "ValueError.__new__" = true) (q1:PySem.W.excIn K CP ZoX "ValueError.__new__" = true) (q2:PySem.W.excIn K CH ZoX "ValueError.__new__" = true) (u1:PySem.W.mroIn K CP (.ref S)=some true) (u2:PySem.W.mroIn K CH (.ref S)=some true) (n1:(S==CP)=false) (n2:(S==CH)=false) (h1:JJ K CP) (h2:JJ K CH)
  (v1:PySem.W.kitOne K (.ref CP) (.type "ValueError")=some true) (v2:PySem.W.kitOne K (.ref CH) (.type "ValueError")=some true) (x1:PySem.W.kitOne K (.ref CP) (.ref CH)=some false) (x2:PySem.W.kitOne K (.ref CH) (.ref CP)=some false) (o1:PySem.W.kitAny K (.ref CP) [.ref A1,.ref A2,.ref A3,.ref A4,.ref A5,.ref A6,.ref A7]=some false) (o2:PySem.W.kitAny K (.ref CH) [.ref A1,.ref A2,.ref A3,.ref A4,.ref A5,.ref A6,.ref A7]=some false):ZoN K mg S CP CH A1 A2 A3 A4 A5 A6 A7 :=
 ⟨ZdD (PySem.W.mg_of X G s0) qs,ZdD (PySem.W.mg_of X G t1) q1,ZdD (PySem.W.mg_of X G t2) q2,Znk u1 q1 n1,Znk u2 q2 n2,h1,h2,v1,v2,x1,x2,o1,o2,PySem.W.mg_of X G g1,PySem.W.mg_of X G g2,PySem.W.mg_of X G g3,PySem.W.mg_of X G g4,PySem.W.mg_of X G g5,PySem.W.mg_of X G g6,PySem.W.mg_of X G g7,PySem.W.mg_none_of X G vn⟩
theorem bg_mk {K:PySem.W.Frag} {mg:Str->Option Value} (X:K.In h) (G:h.Ns mainGlobals mg) (aC:PySem.W.nsIn K mainGlobals "Bag" = some (some (.ref C))) (pg:PySem.W.plainGet K C Str.empty=true) (hd:PySem.W.hasDictIn K C=true) (po:PySem.W.plainOver K C=true) (sa:PySem.W.findIn K (.ref C) "__setattr__" = some (some (.builtin "object.__setattr__")))
  (nL:PySem.W.findIn K (.ref C) "long" = some none) (nM:PySem.W.findIn K (.ref C) "manys" = some none):BgC K mg C:=⟨⟨pg,hd,po,sa⟩,nL,nM,PySem.W.mg_of X G aC⟩
section
variable {K:PySem.W.Frag} {C f T:Addr} {m qual:Str} {st:Stmt} {ps:List Str} {oc kV doc pm cdv ct:Value} {od an:Option Addr} {osl:Array (Option Value)}
theorem hasM_mk (a:PySem.W.findIn K (.ref C) m=some (some (.ref f))) (i:PySem.W.isFn K (.ref f)=true) (l:K.lookup f=some ⟨oc,od,.func (PySem.W.fnOf m qual (ZO st) (ZG st) (Zg st) .none kV doc pm an cdv ct),osl⟩) (c:PySem.W.codeIn K cdv qual=true) (k:PySem.W.keepIn K (.ref f)=true)
  (b:∀ us:List Value,us.length=ps.length->bindArgs (PySem.W.fnOf m qual (ZO st) (ZG st) (Zg st) .none kV doc pm an cdv ct) ⟨us,[]⟩=pure (ps.zip us)):HasM K C m qual st ps [[]] :=
 ⟨f,_,⟨⟨oc,od,.none,kV,doc,pm,an,cdv,ct,osl,rfl,l,c⟩⟩,⟨a,i,k⟩,fun dvs hd=>by rw[Qm.mp hd];exact⟨[],.nil,Binds.all b⟩⟩
theorem hasI_mk (mk:PySem.W.makesIn K C=true) (kc:PySem.W.keepIn K (.ref C)=true) (a:PySem.W.findIn K (.ref C) "__init__" = some (some (.ref f))) (i:PySem.W.isFn K (.ref f)=true) (l:K.lookup f=some ⟨oc,od,.func (PySem.W.fnOf "__init__" qual (ZO st) (ZG st) (Zg st) .none kV doc pm an cdv ct),osl⟩) (c:PySem.W.codeIn K cdv qual=true)
  (b:∀ us:List Value,us.length=ps.length->bindArgs (PySem.W.fnOf "__init__" qual (ZO st) (ZG st) (Zg st) .none kV doc pm an cdv ct) ⟨us,[]⟩=pure (ps.zip us)):HasI K C qual st ps :=
 ⟨f,_,⟨⟨oc,od,.none,kV,doc,pm,an,cdv,ct,osl,rfl,l,c⟩⟩,⟨mk,a,i,kc⟩,Binds.all b⟩
theorem Zfh {oc2:Value} {od2:Option Addr} {tk:Tok} {osl2:Array (Option Value)} (a:PySem.W.findIn K (.ref C) m=some (some (.ref f))) (i:PySem.W.isFn K (.ref f)=true) (l:K.lookup f=some ⟨oc,od,.func (PySem.W.fnOf m qual (ZO st) (ZG st) (Zg st) (.ref T) kV doc pm an cdv ct),osl⟩) (c:PySem.W.codeIn K cdv qual=true) (k:PySem.W.keepIn K (.ref f)=true)
  (lt:K.lookup T=some ⟨oc2,od2,.seq #[.int 1 tk] n,osl2⟩)
  (b0:∀ us:List Value,(us++[]).length=ps.length->∃ kk:Option (Array Value)->Sem (List (Str×Value)),bindArgs (PySem.W.fnOf m qual (ZO st) (ZG st) (Zg st) (.ref T) kV doc pm an cdv ct) ⟨us,[]⟩=seqItems? (.ref T) >>= kk/\kk (some #[.int 1 tk])=pure (ps.zip (us++[])))
  (b1:∀ us:List Value,(us++[Value.int 1 tk]).length=ps.length->∃ kk:Option (Array Value)->Sem (List (Str×Value)),bindArgs (PySem.W.fnOf m qual (ZO st) (ZG st) (Zg st) (.ref T) kV doc pm an cdv ct) ⟨us,[]⟩=seqItems? (.ref T) >>= kk/\kk (some #[.int 1 tk])=pure (ps.zip (us++[Value.int 1 tk]))):HasM K C m qual st ps [[],[.int 1]] :=
 ⟨f,_,⟨⟨oc,od,.ref T,kV,doc,pm,an,cdv,ct,osl,rfl,l,c⟩⟩,⟨a,i,k⟩,fun dvs hd=>by
  simp only[Qx,Us,or_false]at hd;rcases hd with rfl | rfl
  ·exact⟨[],.nil,Zdx rfl lt rfl rfl b0⟩
  ·exact⟨[Value.int 1 tk],.cons ⟨tk,rfl⟩ .nil,Zdx rfl lt rfl rfl b1⟩⟩
theorem hasPut {m qual:Str} {oc2:Value} {od2:Option Addr} {tk:Tok} {osl2:Array (Option Value)} (a:PySem.W.findIn K (.ref C) m=some (some (.ref f))) (i:PySem.W.isFn K (.ref f)=true) (l:K.lookup f=some ⟨oc,od,.func (PySem.W.fnOf m qual (ZO (Xz 2)) (ZG (Xz 2)) (Zg (Xz 2)) (.ref T) kV doc pm an cdv ct),osl⟩) (c:PySem.W.codeIn K cdv qual=true) (k:PySem.W.keepIn K (.ref f)=true)
  (lt:K.lookup T=some ⟨oc2,od2,.seq #[.int 1 tk] n,osl2⟩):HasM K C m qual (Xz 2) ["self","piece","many"] [[],[.int 1]]:=by
 refine Zfh a i l c k lt (fun us hl=>?_) (fun us hl=>?_)
 ·have hl':us.length=3:=by simpa using hl
  match us,hl' with
  | [_,_,_],_=>exact⟨_,rfl,rfl⟩
 ·have hl':us.length=2:=by simpa using hl
  match us,hl' with
  | [_,_],_=>exact⟨_,rfl,rfl⟩
theorem hasTake {m qual:Str} {oc2:Value} {od2:Option Addr} {tk:Tok} {osl2:Array (Option Value)} (a:PySem.W.findIn K (.ref C) m=some (some (.ref f))) (i:PySem.W.isFn K (.ref f)=true) (l:K.lookup f=some ⟨oc,od,.func (PySem.W.fnOf m qual (ZO (Xz 3)) (ZG (Xz 3)) (Zg (Xz 3)) (.ref T) kV doc pm an cdv ct),osl⟩) (c:PySem.W.codeIn K cdv qual=true) (k:PySem.W.keepIn K (.ref f)=true)
  (lt:K.lookup T=some ⟨oc2,od2,.seq #[.int 1 tk] n,osl2⟩):HasM K C m qual (Xz 3) ["self","piece","many"] [[],[.int 1]]:=by
 refine Zfh a i l c k lt (fun us hl=>?_) (fun us hl=>?_)
 ·have hl':us.length=3:=by simpa using hl
  match us,hl' with
  | [_,_,_],_=>exact⟨_,rfl,rfl⟩
 ·have hl':us.length=2:=by simpa using hl
  match us,hl' with
  | [_,_],_=>exact⟨_,rfl,rfl⟩
end
theorem all_mk {l:PySem.W.OpenLaw} {w:World} {K:PySem.W.Frag} {mg:Str->Option Value} {fa f0:Addr} (X:K.In h) (G:h.Ns mainGlobals mg) (hfa:mg "law" = some (.ref fa)) {oc kV dc pm cd ct:Value} {od an:Option Addr} {sl:Array (Option Value)}
  (B:Blt mg) {S CP CH A1 A2 A3 A4 A5 A6 A7 C:Addr} (Er:ZoN K mg S CP CH A1 A2 A3 A4 A5 A6 A7) (Tb:BgC K mg C) (I0:HasI K C "Bag.__init__" (Xz 0) ["self","long"]) (M1:HasM K C "check" "Bag.check" (Xz 1) ["self","piece","many"] [[]]) (M2:HasM K C "put" "Bag.put" (Xz 2) ["self","piece","many"] [[],[.int 1]]) (M3:HasM K C "take" "Bag.take" (Xz 3) ["self","piece","many"] [[],[.int 1]]) (M4:HasM K C "as_heap" "Bag.as_heap" (Xz 4) ["self"] [[]]) (M5:HasM K C "full_heap" "Bag.full_heap" (Xz 5) ["self"] [[]]) (M6:HasM K C "verdict_now" "Bag.verdict_now" (Xz 6) ["self"] [[]]) (M7:HasM K C "texts_now" "Bag.texts_now" (Xz 7) ["self"] [[]])
  (D0:HasDef K mg "begin_of" ZbL ["piece"])
  (D1:HasDef K mg "end_of" Zhm ["piece"])
  (D2:HasDef K mg "ties_of" ZdP ["H"])
  (D3:HasDef K mg "points_of" Y7 ["H"])
  (D4:HasDef K mg "outs_of" ZbC ["H","P"])
  (D5:HasDef K mg "more_out" ZbD ["H"])
  (D6:HasDef K mg "begins_of" XS ["H"])
  (D7:HasDef K mg "ends_of" ZbK ["H"])
  (D8:HasDef K mg "start_of" ZbB ["H","wish"])
  (D9:HasDef K mg "place_of_head" Y8 ["rows"])
  (D10:HasDef K mg "lessened" XR ["row","head","divisor"])
  (D11:HasDef K mg "worth_of" XO ["table"])
  (D12:HasDef K mg "tied_points" XC ["H"])
  (D13:HasDef K mg "part_of" ZdQ ["H"])
  (D14:HasDef K mg "hangs" Zhl ["H"])
  (D15:HasDef K mg "numbers_out" XE ["ties"])
  (D16:HasDef K mg "is_way" Zhk ["ties","begin","numbers"])
  (D17:HasDef K mg "way_of" Zhe ["ties","begin"])
  (D18:HasDef K mg "text_from" XQ ["ties","begin"])
  (D19:HasDef K mg "has_many_begins" Yl ["H"])
  (D20:HasDef K mg "has_text" ZbJ ["H"])
  (D21:HasDef K mg "verdict" Zbz ["H"])
  (D22:HasDef K mg "row_numbers" XD ["H","root"])
  (D23:HasDef K mg "tree_table" YM ["H","root"])
  (D24:HasDef K mg "trees_of" ZbA ["H","root"])
  (D25:HasDef K mg "factorial" Jg ["number"])
  (D26:HasDef K mg "orders_to" Zad ["H","end"])
  (D27:HasDef K mg "starts_of" Zac ["H"])
  (D28:HasDef K mg "count_from" Jh ["H","P"])
  (D29:HasDef K mg "count_of" JR ["H"])
  (D30:HasDef K mg "is_whole" ZbH ["thing"])
  (D31:HasDef K mg "is_long" ZdU ["thing"])
  (D32:HasDef K mg "is_text" ZbI ["thing"])
  (D33:HasDef K mg "most_pieces" Zl2 ["long"])
  (D34:HasDef K mg "in_rows" ZdV ["manys"])
  (D35:HasDef K mg "_law_whole" ZdR ["_law_found"])
  (D36:HasDef K mg "_law_piece" ZdS ["_law_cell","_law_long","_law_seed"])
  (D37:HasDef K mg "_law_odd_piece" Zhh ["_law_cell","_law_piece_here"])
  (D38:HasDef K mg "_law_deed" Zhj ["_law_bag","_law_way","_law_piece_here","_law_many_here"])
  (D39:HasDef K mg "_law_told" Zhg ["_law_bag","_law_way","_law_piece_here","_law_many_here"])
  (D40:HasDef K mg "_law_due" ZjB ["_law_row","_law_way","_law_piece_here","_law_many_here"])
  (D41:HasDef K mg "_law_many" Zhi ["_law_cell","_law_way","_law_row","_law_piece_here"])
  (D42:HasDef K mg "_law_heap_right" ZbF ["_law_row"])
  (D43:HasDef K mg "_law_no_heap" ZbE ["_law_bag","_law_way"])
  (D44:HasDef K mg "_law_few" ZjA ["_law_heap"])
  (D45:HasDef K mg "_law_asked" ZbG ["_law_row","_law_turn"])
  (D46:HasDef K mg "_law_no_bag" ZdT ["_law_long"])
  (a0:PySem.W.nsIn K mainGlobals "law" = some (some (.ref f0))) (l0:K.lookup f0=some ⟨oc,od,.func (PySem.W.fnOf "law" "law" (ZO Zhf) (ZG Zhf) (Zg Zhf) .none kV dc pm an cd ct),sl⟩) (c0:PySem.W.codeIn K cd "law" = true) (k0:PySem.W.keepIn K (.ref f0)=true) :
  ∃ fd:FuncData,(∀ (s:Shared) (v:Value),BindsTo s fd ⟨[v],[]⟩ [("_law_script",v)])/\∀ base:Heap,K.In base->base.Ns mainGlobals mg->FnOk l.prog w K mg base CX0 12 fa fd ["_law_script"] (Zjl K):=by
 have e:=hfa.symm.trans (PySem.W.mg_of X G a0);cases e;refine⟨PySem.W.fnOf "law" "law" (ZO Zhf) (ZG Zhf) (Zg Zhf) .none kV dc pm an cd ct,fun s v=>.of_eq rfl,fun base _ _=>?_⟩;have W0:=Zd8 (P:=l.prog) (w:=w) (base:=base) D0;have W1:=ZhW (P:=l.prog) (w:=w) (base:=base) D1;have W3:=ZcW (P:=l.prog) (w:=w) (base:=base) D3 B W0 W1;have W4:=ZfP (P:=l.prog) (w:=w) (base:=base) D4 B W0;have W2:=ZfN (P:=l.prog) (w:=w) (base:=base) D2 W0 W1;have W5:=Zd3 (P:=l.prog) (w:=w) (base:=base) D5 W0 W1;have W6:=Zc3 (P:=l.prog) (w:=w) (base:=base) D6 B W5;have W7:=ZfW (P:=l.prog) (w:=w) (base:=base) D7 B W5;have W8:=Zd2 (P:=l.prog) (w:=w) (base:=base) D8 B W6;have W9:=JF (P:=l.prog) (w:=w) (base:=base) D9 B;have W10:=Zd4 (P:=l.prog) (w:=w) (base:=base) D10 B;have W11:=Zd0 (P:=l.prog) (w:=w) (base:=base) D11 B W9 W10;have W12:=ZaP (P:=l.prog) (w:=w) (base:=base) D12 W0 W1;have W13:=ZfO (P:=l.prog) (w:=w) (base:=base) D13 B (W0.mono (by decide)) W12;have W14:=ZjR (P:=l.prog) (w:=w) (base:=base) D14 B W13 (W3.mono (by decide));have W15:=ZaR (P:=l.prog) (w:=w) (base:=base) D15 B;have W16:=ZhV (P:=l.prog) (w:=w) (base:=base) D16 B;have W17:=ZhR (P:=l.prog) (w:=w) (base:=base) D17 B W15 W16;have W18:=ZcV (P:=l.prog) (w:=w) (base:=base) D18 B W17;have W19:=Zc0 (P:=l.prog) (w:=w) (base:=base) D19 B W6;have W20:=ZcZ (P:=l.prog) (w:=w) (base:=base) D20 B W14 W19;have W21:=ZfM (P:=l.prog) (w:=w) (base:=base) D21 B W19 (W6.mono (by decide)) W14 (W13.mono (by decide)) (W2.mono (by decide)) (W0.mono (by decide)) W8 (W18.mono (by decide));have W22:=ZaQ (P:=l.prog) (w:=w) (base:=base) D22 B W3;have W23:=ZbY (P:=l.prog) (w:=w) (base:=base) D23 B W22 (W0.mono (by decide)) (W1.mono (by decide));have W24:=Zd1 (P:=l.prog) (w:=w) (base:=base) D24 B W23 (W11.mono (by decide));have W25:=Zc2 (P:=l.prog) (w:=w) (base:=base) D25 B;have W26:=ZcX (P:=l.prog) (w:=w) (base:=base) D26 B W24 (W4.mono (by decide)) (W25.mono (by decide)) (W3.mono (by decide));have W27:=ZbZ (P:=l.prog) (w:=w) (base:=base) D27 B W20 (W6.mono (by decide)) (W3.mono (by decide));have W28:=ZaT (P:=l.prog) (w:=w) (base:=base) D28 B W27 (W7.mono (by decide)) W26 (W25.mono (by decide));have W29:=Zd7 (P:=l.prog) (w:=w) (base:=base) D29 B (W27.mono (by decide)) W28;have W30:=Zd6 (P:=l.prog) (w:=w) (base:=base) D30 B;have W31:=ZfU (P:=l.prog) (w:=w) (base:=base) D31 B W30;have W32:=ZfT (P:=l.prog) (w:=w) (base:=base) D32 B W31;have W33:=Zmp (P:=l.prog) (w:=w) (base:=base) D33 B;have W34:=ZfV (P:=l.prog) (w:=w) (base:=base) D34 B;have W100:=Zmq (P:=l.prog) (w:=w) (base:=base) I0 Tb Er.nh W31;have W101:=ZjS (P:=l.prog) (w:=w) (base:=base) M1 B Tb Er.np W32 (W30.mono (by decide));have W102:=Zn5 (P:=l.prog) (w:=w) (base:=base) M2 B Tb Er.nh W101 (W33.mono (by decide));have W103:=Zmo (P:=l.prog) (w:=w) (base:=base) M3 B Tb Er.np W101;have W104:=ZfX (P:=l.prog) (w:=w) (base:=base) M4 Tb W34;have W105:=Zc1 (P:=l.prog) (w:=w) (base:=base) M5 B Tb Er.nh W104;have W106:=ZaO (P:=l.prog) (w:=w) (base:=base) M6 Tb (W105.mono (by decide)) (W21.mono (by decide));have W107:=ZcU (P:=l.prog) (w:=w) (base:=base) M7 Tb (W105.mono (by decide)) (W29.mono (by decide));have W35:=ZfQ (P:=l.prog) (w:=w) (base:=base) D35 B;have W36:=ZfR (P:=l.prog) (w:=w) (base:=base) D36 B;have W37:=ZaS (P:=l.prog) (w:=w) (base:=base) D37;have W38:=ZhU (P:=l.prog) (w:=w) (base:=base) D38 Tb W102 W103;have W39:=ZhS (P:=l.prog) (w:=w) (base:=base) D39 B Er W38;have W40:=ZjQ (C:=C) (P:=l.prog) (w:=w) (base:=base) D40 B W35;have W41:=ZhT (C:=C) (P:=l.prog) (w:=w) (base:=base) D41 B;have W42:=Zam (P:=l.prog) (w:=w) (base:=base) D42 B Tb W104 (W35.mono (by decide));have W43:=ZcY (P:=l.prog) (w:=w) (base:=base) D43 Tb Er (W106.mono (by decide)) W107;have W44:=ZjP (P:=l.prog) (w:=w) (base:=base) D44 B;have W45:=ZfS (P:=l.prog) (w:=w) (base:=base) D45 B Tb (W44.mono (by decide)) (W43.mono (by decide)) (W106.mono (by decide)) (W107.mono (by decide)) (W21.mono (by decide)) (W29.mono (by decide)) (W42.mono (by decide));have W46:=Zd5 (P:=l.prog) (w:=w) (base:=base) D46 Tb Er W100;exact Zn6 (ZiD (st:=Zhf) l0 c0 k0) B Tb (W100.mono (by decide)) (W46.mono (by decide)) (W36.mono (by decide)) (W41.mono (by decide)) (W37.mono (by decide)) (W40.mono (by decide)) (W39.mono (by decide)) (W42.mono (by decide)) (W45.mono (by decide))
theorem walk {l:PySem.W.OpenLaw} {q:Program} {loose:List Str} {XP:(Str->Option Value)->Heap->Prop} {YP:World->Heap->Prop} {d:DefRec} {K:Params->PySem.W.Frag} (hn:l.most=some 63) (hdf:d.params.defaults=[])
  (hY:∀ (w:World) (h:Heap),YP w h->(K w.params).In h)
  (F:∀ (w:World) (mg:Str->Option Value) (fa:Addr) (h:Heap),(K w.params).In h->h.Ns mainGlobals mg->mg d.name=some (.ref fa) ->
   ∃ fd:FuncData,(∀ (s:Shared) (u:Value),BindsTo s fd ⟨[u],[]⟩ [("_law_script",u)])/\∀ base:Heap,(K w.params).In base->base.Ns mainGlobals mg->FnOk l.prog w (K w.params) mg base CX0 12 fa fd ["_law_script"] (Zjl (K w.params))) :
  PySem.W.WalkO q loose XP YP l.row.toRowW d [] (fun f vs=>PySem.call f vs) :=
 L2.walk_of (n:=63) (k:=12) (x:="_law_script") (CX:=fun _=>CX0) (sp:=fun w=>Zjl (K w.params)) hn (by decide) hdf ⟨rfl,by decide,by decide⟩ hY F (fun _ _ a ns hl _ hS=>⟨a,ns,rfl,hS,hl,fun _=>rfl⟩) fun _ _ _ _ _ z=>z
end Sh
def PySem.W.Fast.tw16551602378080347199:Unit:=()
def PySem.W.Fast.tw16480772454330773279:Unit:=()
def PySem.W.Fast.tw1317346421362543571:Unit:=()
def PySem.W.Fast.tw18169024965272272805:Unit:=()
def PySem.W.Fast.tw11473640819472872885:Unit:=()
def PySem.W.Fast.tw12469577831095252842:Unit:=()
def PySem.W.Fast.tw6501663516208500526:Unit:=()
def PySem.W.Fast.tw4109541830324747323:Unit:=()
def PySem.W.Fast.tw10868342473083931510:Unit:=()
def PySem.W.Fast.tw18191651764028776427:Unit:=()
def PySem.W.Fast.tw8717454547860603095:Unit:=()
def PySem.W.Fast.tw11677292464173397971:Unit:=()
def PySem.W.Fast.tw17455404418791772562:Unit:=()
def PySem.W.Fast.tw12746465159767737777:Unit:=()
def PySem.W.Fast.tw6607656328331021607:Unit:=()
def PySem.W.Fast.tw11447547577922447493:Unit:=()
def PySem.W.Fast.tw4693642734986848296:Unit:=()
def PySem.W.Fast.tw4565225114529224702:Unit:=()
def PySem.W.Fast.tw14957180569062634387:Unit:=()
def PySem.W.Fast.tw17122348054327508422:Unit:=()
def PySem.W.Fast.tw17125059117981940458:Unit:=()
def PySem.W.Fast.tw11967196901077798189:Unit:=()
def PySem.W.Fast.tw9800565624010820377:Unit:=()
def PySem.W.Fast.tw4358809380496857376:Unit:=()
def PySem.W.Fast.tw15507040138336736095:Unit:=()
def PySem.W.Fast.tw11931612744552333772:Unit:=()
def PySem.W.Fast.tw17417413263136844127:Unit:=()
def PySem.W.Fast.tw16059965938652637685:Unit:=()
def PySem.W.Fast.tw2438763942668400472:Unit:=()
def PySem.W.Fast.tw2377767759163487914:Unit:=()
def PySem.W.Fast.tw13910052202763060609:Unit:=()
def PySem.W.Fast.tw13983008060408938879:Unit:=()
def PySem.W.Fast.tw6022894352957879040:Unit:=()
def PySem.W.Fast.tw12523785652817548551:Unit:=()
def PySem.W.Fast.tw7979821624759678014:Unit:=()
def PySem.W.Fast.tw16667179731319894086:Unit:=()
def PySem.W.Fast.tw12598689351370879552:Unit:=()
def PySem.W.Fast.tw18165514942120526628:Unit:=()
def PySem.W.Fast.tw8056684325745400094:Unit:=()
def PySem.W.Fast.tw8570540791884227018:Unit:=()
def PySem.W.Fast.tw3441180248090489366:Unit:=()
def PySem.W.Fast.tw18149328673486680939:Unit:=()
def PySem.W.Fast.tw14379337146990918566:Unit:=()
def PySem.W.Fast.tw13820530119321293585:Unit:=()
def PySem.W.Fast.tw11185171615060612512:Unit:=()
def PySem.W.Fast.tw7899006584336082122:Unit:=()
def PySem.W.Fast.tw9811393865927789494:Unit:=()
def PySem.W.Fast.tw11363626161906841198:Unit:=()
def PySem.W.Fast.tw4319417272231130834:Unit:=()
def PySem.W.Fast.tw1664109244505744461:Unit:=()
def PySem.W.Fast.tw5282195883919670095:Unit:=()
def PySem.W.Fast.tw1660731974737713686:Unit:=()
def PySem.W.Fast.tw12484430937340715423:Unit:=()
def PySem.W.Fast.tw12091032185358898113:Unit:=()
def PySem.W.Fast.tw16856367962041716327:Unit:=()
def PySem.W.Fast.tw18050639090792946216:Unit:=()
def PySem.W.Fast.tw16362770764543237278:Unit:=()
def PySem.W.Fast.tw17901251114796007733:Unit:=()
def PySem.W.Fast.tw1525151502313347411:Unit:=()
def PySem.W.Fast.tw5709441338000076915:Unit:=()
def PySem.W.Fast.tw2197085013527887174:Unit:=()
def PySem.W.Fast.tw7844798132752705438:Unit:=()
def PySem.W.Fast.tw8336296697970099988:Unit:=()
def PySem.W.Fast.tw17428726522657049931:Unit:=()
def PySem.W.Fast.tw1681408629884928556:Unit:=()
def PySem.W.Fast.tw14200645726361680698:Unit:=()
def PySem.W.Fast.tw5724285806485932975:Unit:=()
def PySem.W.Fast.tw2798991597390267079:Unit:=()
def PySem.W.Fast.tw13493667634315020597:Unit:=()
def PySem.W.Fast.tw17797266058433685050:Unit:=()
def PySem.W.Fast.tw240660596694715825:Unit:=()
def PySem.W.Fast.tw8492330753282164886:Unit:=()
def PySem.W.Fast.tw4474240927539428309:Unit:=()
def PySem.W.Fast.tw17770577381776635081:Unit:=()
def PySem.W.Fast.tw10758010940493754898:Unit:=()
def PySem.W.Fast.tw11982072123636523927:Unit:=()
def PySem.W.Fast.tw10524741328096213653:Unit:=()
def PySem.W.Fast.tw8830543621448082399:Unit:=()
def PySem.W.Fast.tw10574903291344975865:Unit:=()
def PySem.W.Fast.tw12918027299339350592:Unit:=()
def PySem.W.Fast.tw18438162639299926398:Unit:=()
def PySem.W.Fast.tw18039136142564710566:Unit:=()
def PySem.W.Fast.tw10438291354833810653:Unit:=()
def PySem.W.Fast.tw15950933916542206462:Unit:=()
def PySem.W.Fast.tw12803604544484738271:Unit:=()
def PySem.W.Fast.tw2897077767118722408:Unit:=()
def PySem.W.Fast.tw4954975753917600162:Unit:=()
def PySem.W.Fast.tw11792797887786015735:Unit:=()
def PySem.W.Fast.tw9458063669547425932:Unit:=()
def PySem.W.Fast.tw17672603917363009859:Unit:=()
def PySem.W.Fast.tw2580812667839922241:Unit:=()
def PySem.W.Fast.tw8506966753297531299:Unit:=()
def PySem.W.Fast.tw9043560277780968383:Unit:=()
def PySem.W.Fast.tw10595434404453880935:Unit:=()
def PySem.W.Fast.tw15372617878699555134:Unit:=()
def PySem.W.Fast.tw12061928699845473092:Unit:=()
def PySem.W.Fast.tw16116876213126475472:Unit:=()
def PySem.W.Fast.tw7293832051416555330:Unit:=()
def PySem.W.Fast.tw18443752536234492683:Unit:=()
def PySem.W.Fast.tw4448963731689170515:Unit:=()
def PySem.W.Fast.tw12952661342349015565:Unit:=()
def PySem.W.Fast.tw3433987968527571478:Unit:=()
def PySem.W.Fast.tw9375651855593540858:Unit:=()
def PySem.W.Fast.tw10209794086870341023:Unit:=()
def PySem.W.Fast.tw8839399262936601519:Unit:=()
def PySem.W.Fast.tw15707235166640756126:Unit:=()
def PySem.W.Fast.tw4067928663437200073:Unit:=()
def PySem.W.Fast.tw5469780651795620427:Unit:=()
def PySem.W.Fast.tw6433696633609227154:Unit:=()
def PySem.W.Fast.tw9006052176918005932:Unit:=()
def PySem.W.Fast.tw11057996289589589924:Unit:=()
def PySem.W.Fast.tw1465595721673396559:Unit:=()
def PySem.W.Fast.tw2777884431617308678:Unit:=()
def PySem.W.Fast.tw1632289396058104140:Unit:=()
def PySem.W.Fast.tw10931966950317592102:Unit:=()
def PySem.W.Fast.tw9966706441966885764:Unit:=()
def PySem.W.Fast.tw3161167623601278910:Unit:=()
def PySem.W.Fast.tw6073400145102538051:Unit:=()
open PySem PySem.W PyProof.Rows
set_option maxRecDepth 100000 in
theorem PySem.Challenge.cw_shredjoin_k74_bags_holds : PySem.Challenge.rw_shredjoin_k74_bags.Holds := by
 w_on; o_law; k_head; (case hw => w_witness2)
 k_fill
 refine Sh.walk (l := PySem.Challenge.rw_shredjoin_k74_bags) rfl rfl (fun w h Y => PySem.W.kIn_of Y) ?F
 case F =>
  intro w mg fa h KX G hmg
  refine' Sh.all_mk KX G hmg ?B ?Er ?Tb ?I0 ?M1 ?M2 ?M3 ?M4 ?M5 ?M6 ?M7 ?D0 ?D1 ?D2 ?D3 ?D4 ?D5 ?D6 ?D7 ?D8 ?D9 ?D10 ?D11 ?D12 ?D13 ?D14 ?D15 ?D16 ?D17 ?D18 ?D19 ?D20 ?D21 ?D22 ?D23 ?D24 ?D25 ?D26 ?D27 ?D28 ?D29 ?D30 ?D31 ?D32 ?D33 ?D34 ?D35 ?D36 ?D37 ?D38 ?D39 ?D40 ?D41 ?D42 ?D43 ?D44 ?D45 ?D46 ?a0 ?l0 ?c0 ?k0
  case B =>
   refine' Sh.blt_mk KX G ?z0 ?z1 ?z2 ?z3 ?z4 ?z5 ?z6 ?z7 ?z8 ?z9 ?z10 ?z11 ?z12 ?z13 ?z14 ?z15 ?z16 ?z17 ?cc0 ?ee0 ?cc1 ?ee1
   (case z0 => k_is); (case z1 => k_is); (case z2 => k_is); (case z3 => k_is); (case z4 => k_is); (case z5 => k_is); (case z6 => k_is); (case z7 => k_is); (case z8 => k_is); (case z9 => k_is); (case z10 => k_is); (case z11 => k_is); (case z12 => k_is); (case z13 => k_is); (case z14 => k_is); (case z15 => k_is); (case z16 => k_is); (case z17 => k_is); (case cc0 => k_is); (case ee0 => exact ⟨_, rfl⟩); (case cc1 => k_is); (case ee1 => exact ⟨_, rfl⟩)
  case Er =>
   refine' Sh.er_mk KX G ?s0 ?t1 ?t2 ?g1 ?g2 ?g3 ?g4 ?g5 ?g6 ?g7 ?vn ?qs ?q1 ?q2 ?u1 ?u2 ?n1 ?n2 ?h1 ?h2 ?v1 ?v2 ?x1 ?x2 ?o1 ?o2
   (case s0 => k_is); (case t1 => k_is); (case t2 => k_is)
   (case g1 => k_is); (case g2 => k_is); (case g3 => k_is); (case g4 => k_is); (case g5 => k_is); (case g6 => k_is); (case g7 => k_is)
   (case vn => k_is); (case qs => k_exc); (case q1 => k_exc); (case q2 => k_exc)
   (case u1 => k_is); (case u2 => k_is); (case n1 => decide); (case n2 => decide)
   (case h1 =>
    refine' L2.xattr_mk ?ga ?gx ?gc ?sp ?tk ?mo ?mb ?cl
    (case ga => k_is); (case gx => k_is); (case gc => k_is); (case sp => k_is); (case tk => k_is); (case mo => k_is); (case mb => k_is); (case cl => k_is))
   (case h2 =>
    refine' L2.xattr_mk ?ga ?gx ?gc ?sp ?tk ?mo ?mb ?cl
    (case ga => k_is); (case gx => k_is); (case gc => k_is); (case sp => k_is); (case tk => k_is); (case mo => k_is); (case mb => k_is); (case cl => k_is))
   (case v1 => kit_is); (case v2 => kit_is); (case x1 => kit_is); (case x2 => kit_is); (case o1 => kit_is); (case o2 => kit_is)
  case Tb =>
   refine' Sh.bg_mk KX G ?aC ?pg ?hd ?po ?sa ?nL ?nM
   (case aC => k_is); (case pg => k_is); (case hd => k_is); (case po => k_is); (case sa => k_is); (case nL => k_is); (case nM => k_is)
  case I0 =>
   refine' Sh.hasI_mk ?mk ?kc ?a ?i ?l ?c ?b
   (case mk => k_is); (case kc => k_is); (case a => k_is); (case i => k_is); (case l => k_is); (case c => k_is)
   case b => exact fun us hl => match us, hl with | [_, _], _ => rfl
  case M1 =>
   refine' Sh.hasM_mk ?a ?i ?l ?c ?k ?b
   (case a => k_is); (case i => k_is); (case l => k_is); (case c => k_is); (case k => k_is)
   case b => exact fun us hl => match us, hl with | [_, _, _], _ => rfl
  case M4 =>
   refine' Sh.hasM_mk ?a ?i ?l ?c ?k ?b
   (case a => k_is); (case i => k_is); (case l => k_is); (case c => k_is); (case k => k_is)
   case b => exact fun us hl => match us, hl with | [_], _ => rfl
  case M5 =>
   refine' Sh.hasM_mk ?a ?i ?l ?c ?k ?b
   (case a => k_is); (case i => k_is); (case l => k_is); (case c => k_is); (case k => k_is)
   case b => exact fun us hl => match us, hl with | [_], _ => rfl
  case M6 =>
   refine' Sh.hasM_mk ?a ?i ?l ?c ?k ?b
   (case a => k_is); (case i => k_is); (case l => k_is); (case c => k_is); (case k => k_is)
   case b => exact fun us hl => match us, hl with | [_], _ => rfl
  case M7 =>
   refine' Sh.hasM_mk ?a ?i ?l ?c ?k ?b
   (case a => k_is); (case i => k_is); (case l => k_is); (case c => k_is); (case k => k_is)
   case b => exact fun us hl => match us, hl with | [_], _ => rfl
  case M2 =>
   refine' Sh.hasPut ?a ?i ?l ?c ?k ?lt
   (case a => k_is); (case i => k_is); (case l => k_is); (case c => k_is); (case k => k_is); (case lt => k_is)
  case M3 =>
   refine' Sh.hasTake ?a ?i ?l ?c ?k ?lt
   (case a => k_is); (case i => k_is); (case l => k_is); (case c => k_is); (case k => k_is); (case lt => k_is)
  case D0 =>
   refine' L2.hasDef_mk KX G ?a ?l ?c ?k ?b
   (case a => k_is); (case l => k_is); (case c => k_is); (case k => k_is)
   case b => exact fun _ _ _ _ _ _ us hl => match us, hl with | [_], _ => rfl
  case D1 =>
   refine' L2.hasDef_mk KX G ?a ?l ?c ?k ?b
   (case a => k_is); (case l => k_is); (case c => k_is); (case k => k_is)
   case b => exact fun _ _ _ _ _ _ us hl => match us, hl with | [_], _ => rfl
  case D2 =>
   refine' L2.hasDef_mk KX G ?a ?l ?c ?k ?b
   (case a => k_is); (case l => k_is); (case c => k_is); (case k => k_is)
   case b => exact fun _ _ _ _ _ _ us hl => match us, hl with | [_], _ => rfl
  case D3 =>
   refine' L2.hasDef_mk KX G ?a ?l ?c ?k ?b
   (case a => k_is); (case l => k_is); (case c => k_is); (case k => k_is)
   case b => exact fun _ _ _ _ _ _ us hl => match us, hl with | [_], _ => rfl
  case D4 =>
   refine' L2.hasDef_mk KX G ?a ?l ?c ?k ?b
   (case a => k_is); (case l => k_is); (case c => k_is); (case k => k_is)
   case b => exact fun _ _ _ _ _ _ us hl => match us, hl with | [_, _], _ => rfl
  case D5 =>
   refine' L2.hasDef_mk KX G ?a ?l ?c ?k ?b
   (case a => k_is); (case l => k_is); (case c => k_is); (case k => k_is)
   case b => exact fun _ _ _ _ _ _ us hl => match us, hl with | [_], _ => rfl
  case D6 =>
   refine' L2.hasDef_mk KX G ?a ?l ?c ?k ?b
   (case a => k_is); (case l => k_is); (case c => k_is); (case k => k_is)
   case b => exact fun _ _ _ _ _ _ us hl => match us, hl with | [_], _ => rfl
  case D7 =>
   refine' L2.hasDef_mk KX G ?a ?l ?c ?k ?b
   (case a => k_is); (case l => k_is); (case c => k_is); (case k => k_is)
   case b => exact fun _ _ _ _ _ _ us hl => match us, hl with | [_], _ => rfl
  case D8 =>
   refine' L2.hasDef_mk KX G ?a ?l ?c ?k ?b
   (case a => k_is); (case l => k_is); (case c => k_is); (case k => k_is)
   case b => exact fun _ _ _ _ _ _ us hl => match us, hl with | [_, _], _ => rfl
  case D9 =>
   refine' L2.hasDef_mk KX G ?a ?l ?c ?k ?b
   (case a => k_is); (case l => k_is); (case c => k_is); (case k => k_is)
   case b => exact fun _ _ _ _ _ _ us hl => match us, hl with | [_], _ => rfl
  case D10 =>
   refine' L2.hasDef_mk KX G ?a ?l ?c ?k ?b
   (case a => k_is); (case l => k_is); (case c => k_is); (case k => k_is)
   case b => exact fun _ _ _ _ _ _ us hl => match us, hl with | [_, _, _], _ => rfl
  case D11 =>
   refine' L2.hasDef_mk KX G ?a ?l ?c ?k ?b
   (case a => k_is); (case l => k_is); (case c => k_is); (case k => k_is)
   case b => exact fun _ _ _ _ _ _ us hl => match us, hl with | [_], _ => rfl
  case D12 =>
   refine' L2.hasDef_mk KX G ?a ?l ?c ?k ?b
   (case a => k_is); (case l => k_is); (case c => k_is); (case k => k_is)
   case b => exact fun _ _ _ _ _ _ us hl => match us, hl with | [_], _ => rfl
  case D13 =>
   refine' L2.hasDef_mk KX G ?a ?l ?c ?k ?b
   (case a => k_is); (case l => k_is); (case c => k_is); (case k => k_is)
   case b => exact fun _ _ _ _ _ _ us hl => match us, hl with | [_], _ => rfl
  case D14 =>
   refine' L2.hasDef_mk KX G ?a ?l ?c ?k ?b
   (case a => k_is); (case l => k_is); (case c => k_is); (case k => k_is)
   case b => exact fun _ _ _ _ _ _ us hl => match us, hl with | [_], _ => rfl
  case D15 =>
   refine' L2.hasDef_mk KX G ?a ?l ?c ?k ?b
   (case a => k_is); (case l => k_is); (case c => k_is); (case k => k_is)
   case b => exact fun _ _ _ _ _ _ us hl => match us, hl with | [_], _ => rfl
  case D16 =>
   refine' L2.hasDef_mk KX G ?a ?l ?c ?k ?b
   (case a => k_is); (case l => k_is); (case c => k_is); (case k => k_is)
   case b => exact fun _ _ _ _ _ _ us hl => match us, hl with | [_, _, _], _ => rfl
  case D17 =>
   refine' L2.hasDef_mk KX G ?a ?l ?c ?k ?b
   (case a => k_is); (case l => k_is); (case c => k_is); (case k => k_is)
   case b => exact fun _ _ _ _ _ _ us hl => match us, hl with | [_, _], _ => rfl
  case D18 =>
   refine' L2.hasDef_mk KX G ?a ?l ?c ?k ?b
   (case a => k_is); (case l => k_is); (case c => k_is); (case k => k_is)
   case b => exact fun _ _ _ _ _ _ us hl => match us, hl with | [_, _], _ => rfl
  case D19 =>
   refine' L2.hasDef_mk KX G ?a ?l ?c ?k ?b
   (case a => k_is); (case l => k_is); (case c => k_is); (case k => k_is)
   case b => exact fun _ _ _ _ _ _ us hl => match us, hl with | [_], _ => rfl
  case D20 =>
   refine' L2.hasDef_mk KX G ?a ?l ?c ?k ?b
   (case a => k_is); (case l => k_is); (case c => k_is); (case k => k_is)
   case b => exact fun _ _ _ _ _ _ us hl => match us, hl with | [_], _ => rfl
  case D21 =>
   refine' L2.hasDef_mk KX G ?a ?l ?c ?k ?b
   (case a => k_is); (case l => k_is); (case c => k_is); (case k => k_is)
   case b => exact fun _ _ _ _ _ _ us hl => match us, hl with | [_], _ => rfl
  case D22 =>
   refine' L2.hasDef_mk KX G ?a ?l ?c ?k ?b
   (case a => k_is); (case l => k_is); (case c => k_is); (case k => k_is)
   case b => exact fun _ _ _ _ _ _ us hl => match us, hl with | [_, _], _ => rfl
  case D23 =>
   refine' L2.hasDef_mk KX G ?a ?l ?c ?k ?b
   (case a => k_is); (case l => k_is); (case c => k_is); (case k => k_is)
   case b => exact fun _ _ _ _ _ _ us hl => match us, hl with | [_, _], _ => rfl
  case D24 =>
   refine' L2.hasDef_mk KX G ?a ?l ?c ?k ?b
   (case a => k_is); (case l => k_is); (case c => k_is); (case k => k_is)
   case b => exact fun _ _ _ _ _ _ us hl => match us, hl with | [_, _], _ => rfl
  case D25 =>
   refine' L2.hasDef_mk KX G ?a ?l ?c ?k ?b
   (case a => k_is); (case l => k_is); (case c => k_is); (case k => k_is)
   case b => exact fun _ _ _ _ _ _ us hl => match us, hl with | [_], _ => rfl
  case D26 =>
   refine' L2.hasDef_mk KX G ?a ?l ?c ?k ?b
   (case a => k_is); (case l => k_is); (case c => k_is); (case k => k_is)
   case b => exact fun _ _ _ _ _ _ us hl => match us, hl with | [_, _], _ => rfl
  case D27 =>
   refine' L2.hasDef_mk KX G ?a ?l ?c ?k ?b
   (case a => k_is); (case l => k_is); (case c => k_is); (case k => k_is)
   case b => exact fun _ _ _ _ _ _ us hl => match us, hl with | [_], _ => rfl
  case D28 =>
   refine' L2.hasDef_mk KX G ?a ?l ?c ?k ?b
   (case a => k_is); (case l => k_is); (case c => k_is); (case k => k_is)
   case b => exact fun _ _ _ _ _ _ us hl => match us, hl with | [_, _], _ => rfl
  case D29 =>
   refine' L2.hasDef_mk KX G ?a ?l ?c ?k ?b
   (case a => k_is); (case l => k_is); (case c => k_is); (case k => k_is)
   case b => exact fun _ _ _ _ _ _ us hl => match us, hl with | [_], _ => rfl
  case D30 =>
   refine' L2.hasDef_mk KX G ?a ?l ?c ?k ?b
   (case a => k_is); (case l => k_is); (case c => k_is); (case k => k_is)
   case b => exact fun _ _ _ _ _ _ us hl => match us, hl with | [_], _ => rfl
  case D31 =>
   refine' L2.hasDef_mk KX G ?a ?l ?c ?k ?b
   (case a => k_is); (case l => k_is); (case c => k_is); (case k => k_is)
   case b => exact fun _ _ _ _ _ _ us hl => match us, hl with | [_], _ => rfl
  case D32 =>
   refine' L2.hasDef_mk KX G ?a ?l ?c ?k ?b
   (case a => k_is); (case l => k_is); (case c => k_is); (case k => k_is)
   case b => exact fun _ _ _ _ _ _ us hl => match us, hl with | [_], _ => rfl
  case D33 =>
   refine' L2.hasDef_mk KX G ?a ?l ?c ?k ?b
   (case a => k_is); (case l => k_is); (case c => k_is); (case k => k_is)
   case b => exact fun _ _ _ _ _ _ us hl => match us, hl with | [_], _ => rfl
  case D34 =>
   refine' L2.hasDef_mk KX G ?a ?l ?c ?k ?b
   (case a => k_is); (case l => k_is); (case c => k_is); (case k => k_is)
   case b => exact fun _ _ _ _ _ _ us hl => match us, hl with | [_], _ => rfl
  case D35 =>
   refine' L2.hasDef_mk KX G ?a ?l ?c ?k ?b
   (case a => k_is); (case l => k_is); (case c => k_is); (case k => k_is)
   case b => exact fun _ _ _ _ _ _ us hl => match us, hl with | [_], _ => rfl
  case D36 =>
   refine' L2.hasDef_mk KX G ?a ?l ?c ?k ?b
   (case a => k_is); (case l => k_is); (case c => k_is); (case k => k_is)
   case b => exact fun _ _ _ _ _ _ us hl => match us, hl with | [_, _, _], _ => rfl
  case D37 =>
   refine' L2.hasDef_mk KX G ?a ?l ?c ?k ?b
   (case a => k_is); (case l => k_is); (case c => k_is); (case k => k_is)
   case b => exact fun _ _ _ _ _ _ us hl => match us, hl with | [_, _], _ => rfl
  case D38 =>
   refine' L2.hasDef_mk KX G ?a ?l ?c ?k ?b
   (case a => k_is); (case l => k_is); (case c => k_is); (case k => k_is)
   case b => exact fun _ _ _ _ _ _ us hl => match us, hl with | [_, _, _, _], _ => rfl
  case D39 =>
   refine' L2.hasDef_mk KX G ?a ?l ?c ?k ?b
   (case a => k_is); (case l => k_is); (case c => k_is); (case k => k_is)
   case b => exact fun _ _ _ _ _ _ us hl => match us, hl with | [_, _, _, _], _ => rfl
  case D40 =>
   refine' L2.hasDef_mk KX G ?a ?l ?c ?k ?b
   (case a => k_is); (case l => k_is); (case c => k_is); (case k => k_is)
   case b => exact fun _ _ _ _ _ _ us hl => match us, hl with | [_, _, _, _], _ => rfl
  case D41 =>
   refine' L2.hasDef_mk KX G ?a ?l ?c ?k ?b
   (case a => k_is); (case l => k_is); (case c => k_is); (case k => k_is)
   case b => exact fun _ _ _ _ _ _ us hl => match us, hl with | [_, _, _, _], _ => rfl
  case D42 =>
   refine' L2.hasDef_mk KX G ?a ?l ?c ?k ?b
   (case a => k_is); (case l => k_is); (case c => k_is); (case k => k_is)
   case b => exact fun _ _ _ _ _ _ us hl => match us, hl with | [_], _ => rfl
  case D43 =>
   refine' L2.hasDef_mk KX G ?a ?l ?c ?k ?b
   (case a => k_is); (case l => k_is); (case c => k_is); (case k => k_is)
   case b => exact fun _ _ _ _ _ _ us hl => match us, hl with | [_, _], _ => rfl
  case D44 =>
   refine' L2.hasDef_mk KX G ?a ?l ?c ?k ?b
   (case a => k_is); (case l => k_is); (case c => k_is); (case k => k_is)
   case b => exact fun _ _ _ _ _ _ us hl => match us, hl with | [_], _ => rfl
  case D45 =>
   refine' L2.hasDef_mk KX G ?a ?l ?c ?k ?b
   (case a => k_is); (case l => k_is); (case c => k_is); (case k => k_is)
   case b => exact fun _ _ _ _ _ _ us hl => match us, hl with | [_, _], _ => rfl
  case D46 =>
   refine' L2.hasDef_mk KX G ?a ?l ?c ?k ?b
   (case a => k_is); (case l => k_is); (case c => k_is); (case k => k_is)
   case b => exact fun _ _ _ _ _ _ us hl => match us, hl with | [_], _ => rfl
  (case a0 => k_is); (case l0 => k_is); (case c0 => k_is); (case k0 => k_is)
#print axioms PySem.Challenge.cw_shredjoin_k74_bags_holds
