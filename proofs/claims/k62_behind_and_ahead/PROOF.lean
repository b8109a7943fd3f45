import PyProof.Rows.All
import Wide.All
import OpenK.AllK
import Wide.FinOn
import Lean
import PyProof.EqAt
import PyProof.EqKinds
import PyProof.TupleCall
import KE.KSortTup
import KE.KItemsList
import KE.KUnpack
import PyProof.EnumMake
import PyProof.EnumFor
import PyProof.EnumStmt
import KE.IntBitsLaws
import KE.KDictSum
import PyProof.SetRoads
import PyProof.Rows.SetFrom
import PyProof.FactsAll.set_1
import PyProof.FactsAll.set_2
import KE.KMinBuiltin
import PyProof.WalkInts
import PyProof.Rows.CallKwBuiltin
import PyProof.DictItemsLoops
import KE.KDictLaws
import KE.KPairComp
import PyProof.Rows.DictUnroll
import PyProof.ZipIter
import PyProof.AttrMissHeap
import KE.KDictOf
import KE.KRevIter
import PyProof.ListStr
import KE.KStateDown
import KE.KRevSl
import PyProof.ListRange
import PyProof.Rows.Range3
import PyProof.SeqI3
import PyProof.TupleOfSeq
import PySem.Challenge.RW_shredjoin_k62_behind_and_ahead
open List renaming getElem?_eq_getElem->Qa,getD_eq_getElem?_getD->Qb,length_map->Qc,length_append->Qd,getElem?_map->Qg,mem_map->Qi,mem_cons_self->Qj,mem_cons_of_mem->Ql,mem_singleton->Qm,getElem?_eq_none->Qo,getElem?_eq_some_iff->Qp,range->Qq,length_singleton->Qr,map_cons->Qs,size_toArray->Qw,mem_cons->Qy,map_append->Qz,map_map->QA,getElem_mem->QB,mem_filter->QD,mem_append->QF,length_cons->QG,mem_append_right->QH,getElem?_append_right->QI,replicate->QJ,mem_append_left->QM,mem_range->QN,getElem?_append_left->QO,length_take->QP,take_succ_eq_append_getElem->QR,getElem?_range->QT,ext_getElem?->QU,length_reverse->QW,mem_of_getElem?->QX,pairwise_map->QY,take_of_length_le->Q0,map_congr_left->Q3,length_replicate->Q4,length_range->Q5,length_filter_le->Q7,sum_cons->Q8,append_assoc->Q9,range_succ->Wb,map_singleton->Wc,mem_of_mem_erase->We,replicate_succ->Wf,length_erase_of_mem->Wh,mem_replicate->Wi,nodup_cons->Wj,mem_of_mem_take->Wm,length_pos_of_mem->Wo,count_pos_iff->Wp,take_length->Wr,mem_erase_of_ne->Ws,drop_eq_getElem_cons->Wt,pairwise_cons->Wx,lt_irrefl->Wy,take_zero->Wz,nodup_append->WA,filterMap_cons->WB,map_eq_nil_iff->WC,take_append_drop->WD,eq_nil_or_concat->WE,concat_eq_append->WF,count_eq_zero_of_not_mem->WG,map_nil->WH,length_drop->WK,filter_append->WM,perm_cons_erase->WN,length_eq_zero_iff->WP,flatten_cons->WQ,filter_cons->WS,nodup_range->WT,not_mem_nil->WU,perm_middle->WV,getElem_of_mem->WZ,getElem_inj->Ua,mem_reverse->Ub,mem_filterMap->Uc,append_nil->Ud,sum_append->Ue,perm_append_comm->Uf,nodup_iff_pairwise_ne->Ug,reverse_perm->Uh,flatMap_cons->Ui,pairwise_iff_getElem->Uj,dropLast_concat->Uk,not_lt->Ul,nodup_nil->Uo,lookup_cons->Uq,take_succ_cons->Ur,getElem?_replicate->Us,find?_cons->Ut,length_nil->Uu,nil_append->Uv,drop_of_length_le->Ux,singleton_append->UB,dropLast_eq_take->UC,drop_zero->UD,cons_lt_cons_iff->UE,cons_ne_nil->UG,perm_append_singleton->UI,length_pos_iff->UJ,getElem?_eq_none_iff->UK,pairwise_singleton->UN,getElem?_set_self->UO,length->UP,filter_eq_nil_iff->UR,any_cons->US,lt_trans->UT,any_eq_true->UU,mem_flatMap->UV,cons_append->UW,getElem?_set_ne->UY,mem_of_mem_drop->U1,count_cons->U2,mem_map_of_mem->U3,flatMap_append->U4,map_id->U5,contains_cons->U7,getElem?_drop->U9,reverse_cons->Rb,getLastD_eq_getLast?->Rc,getLast?_eq_getElem?->Re,le_antisymm->Rh,length_filterMap_le->Rl,idxOf?_eq_some_iff->Rn,of_mem_zip->Rp,range_succ_eq_map->Rr,count_erase_of_ne->Rs,range'->Rt,length_eq_one_iff->Ru,getElem?_reverse->Rx,count_erase_self->Ry,length_dropLast->RA,length_eraseIdx->RB,mem_iff_getElem->RC,reverse_reverse->RD,all_cons->RF,perm_iff_count->RG,map_replicate->RK,getElem?_take->RL,filterMap_nil->RM,take_add_one->RP,getElem?_inj->RS,count_append->RT,all_eq_true->RW,map_snd_zip->RY,flatMap_map->RZ,foldl->R0,foldl_cons->R1,filter_map->R6,drop_drop->R8,take_take->R9,drop_take->Va,sum_nil->Vc
open Nat renaming le_refl->Qk,ne_of_lt->QC,zero_le->QV,lt_of_lt_of_le->Q2,le_trans->Wg,sub_self->Wq,lt_irrefl->Wu,le_succ->WR,lt_of_le_of_lt->WW,le_succ_of_le->Uy,lt_succ_of_lt->Uz,lt_trans->UA,lt_succ_self->UF,le_add_right->UX,le_of_lt->Rf,ne_of_gt->Rg,mul_zero->Ri,zero_add->Rk,add_sub_cancel_left->Ro,succ_mul->RJ,lt_trichotomy->RN,le_of_not_lt->RV,not_lt->R5,not_lt_zero->R7
open Int renaming toNat_natCast->Wl,zero_add->UL,le_refl->UQ,sub_self->UZ,le_trans->U0,ofNat->U8,eq_ofNat_of_zero_le->Rm,mul_one->Rq
open Array renaming length_toList->QK,getElem?_eq_getElem->Q6,getD_eq_getD_getElem?->Wa,getElem?_toList->Wv,getElem?_eq_none->Uw,perm_iff_toList_perm->UH,append_assoc->U6,toList->RH,toList_push->RQ,toList_inj->RX
open Option renaming map_eq_some_iff->QS,map_some->Wd,getD_some->WL,isSome_iff_exists->WY,none_or->UM,isSome_map->Ra,bind_some->Rj,some_or->Rw,isSome_some->RI,getD_none->RU,map_none->R4
open PySem.Heap renaming get?_push_of_some->Qh,lt_size->Qu,get?_push_size->Qx,get?_update_other->QZ,get?_update_self->Ww,size_push->Um,get?_none_of_le->Rz
open Bool renaming false_ne_true->QL,and_eq_true->QQ,false_eq_true->Wn,eq_iff_iff->WX,false_and->Rv,or_false->RE,or_eq_true->R3,not_true->Vb,or_true->Vd
set_option maxHeartbeats 0
set_option Elab.async false
set_option linter.all false
set_option maxRecDepth 100000
namespace L2
open PySem PySem.Spec PyProof.Rows
variable {A:Around} {E Q:Value->Shared->Prop} {H H':Hp} {X:Cx} {a f:Addr} {body:List Stmt} {e tg:Expr} {fp:List Addr} {g:TG} {h:Heap} {i j k n t':Nat} {kvs:List (Key×V)} {o:Obj} {pins:List (Addr×Obj)} {pos:Pos} {ps:List Str} {s:Shared} {t:TE} {tb:TS} {u:Value} {v:V} {x:Str} {xs:List V} {σ:St}
abbrev Key:=Sum Int Str
def Zaq:Key->Value->Bool
 | .inl k,v=>Value.isInt k v
 | .inr x,v=>Value.isStrOf x v
def ZoE (w:World):Key->Int
 | .inl k=>hashInt k
 | .inr x=>hashStr w x
theorem keyIs_shape:∀ {k:Key} {v:Value},Zaq k v=true->(∃ i t,k=Sum.inl i/\v=Value.int i t)\/(∃ x t,k=Sum.inr x/\v=Value.str x t)
 | .inl i,v,h=>by
  obtain⟨t,e⟩:=Value.isInt_shape (k:=i) (v:=v) h;exact .inl ⟨i,t,rfl,e⟩
 | .inr x,v,h=>by
  obtain⟨t,e⟩:=Value.isStrOf_shape (x:=x) (v:=v) h;exact .inr ⟨x,t,rfl,e⟩
theorem ZhP (i:Int) (t:Tok):Zaq (.inl i) (.int i t)=true:=by simp[Zaq,Value.isInt]
theorem ZhO (x:Str) (t:Tok):Zaq (.inr x) (.str x t)=true:=by simp[Zaq,Value.isStrOf]
theorem ZmP (a b:Int):decide ((Sum.inl a:Key)=Sum.inl b)=(a==b):=by
 by_cases e:a=b
 ·subst e;simp
 ·have h:¬ (Sum.inl a:Key)=Sum.inl b:=fun q=>e (Sum.inl.inj q);rw[decide_eq_false h];exact(beq_eq_false_iff_ne.mpr e).symm
theorem ZmM (a b:Str):decide ((Sum.inr a:Key)=Sum.inr b)=decide (a=b):=by
 by_cases e:a=b
 ·subst e;simp
 ·have h:¬ (Sum.inr a:Key)=Sum.inr b:=fun q=>e (Sum.inr.inj q);rw[decide_eq_false h,decide_eq_false e]
theorem ZmO (a:Int) (b:Str):decide ((Sum.inl a:Key)=Sum.inr b)=false:=decide_eq_false (fun q=>nomatch q)
theorem ZmN (a:Str) (b:Int):decide ((Sum.inr a:Key)=Sum.inl b)=false:=decide_eq_false (fun q=>nomatch q)
def Zz (prog:Program) (w:World):PySem.KeyKind prog w Key where
 is:=Zaq
 hash:=ZoE w
 inj:=fun v a b ha hb=>by
  rcases keyIs_shape ha with ⟨i,t,rfl,rfl⟩ | ⟨x,t,rfl,rfl⟩
  ·rcases keyIs_shape hb with ⟨j,u,rfl,e⟩ | ⟨y,u,rfl,e⟩
   ·injection e with e1 _;rw[e1]
   ·exact nomatch e
  ·rcases keyIs_shape hb with ⟨j,u,rfl,e⟩ | ⟨y,u,rfl,e⟩
   ·exact nomatch e
   ·injection e with e1 _;rw[e1]
 byValue:=fun k v h=>by
  rcases keyIs_shape h with ⟨i,t,rfl,rfl⟩ | ⟨x,t,rfl,rfl⟩ <;> rfl
 pyHash:=fun hv h=>by
  rcases keyIs_shape hv with ⟨i,t,rfl,rfl⟩ | ⟨x,t,rfl,rfl⟩
  ·exact wpAny_pyHash_int h
  ·exact wpAny_pyHash_str h
 eqBool:=fun hu hv h=>by
  rcases keyIs_shape hu with ⟨i,t,rfl,rfl⟩ | ⟨x,t,rfl,rfl⟩
  ·rcases keyIs_shape hv with ⟨j,u,rfl,rfl⟩ | ⟨y,u,rfl,rfl⟩
   ·rw[ZmP]at h;exact wpAny_eqBool_int h
   ·rw[ZmO]at h;exact SeqAt.EqAt.int_str i t y u _ _ _ _ h
  ·rcases keyIs_shape hv with ⟨j,u,rfl,rfl⟩ | ⟨y,u,rfl,rfl⟩
   ·rw[ZmN]at h;exact SeqAt.EqAt.str_int x t j u _ _ _ _ h
   ·rw[ZmM]at h;exact wpAny_eqBool_str h
 «strs»:=fun k x t v h=>by
  rcases keyIs_shape h with ⟨i,u,rfl,e⟩ | ⟨y,u,rfl,e⟩
  ·exact nomatch e
  ·injection e with e1 _
   subst e1;cases v <;> rfl
theorem Zd5 (prog:Program) (w:World) (i:Int) (t:Tok):(Zz prog w).is (.inl i) (.int i t)=true:=ZhP i t
theorem XI (prog:Program) (w:World) (x:Str) (t:Tok):(Zz prog w).is (.inr x) (.str x t)=true:=ZhO x t
inductive V where
 | non | bl (b:Bool) | int (i:Int) | str (x:Str) | byt (b:Array UInt8) | flt (b:UInt64) | ref (a:Addr) | ty (n:String)
 deriving DecidableEq
def RelV:V->Value->Prop
 | .non,u=>u=Value.none
 | .bl b,u=>u=Value.bool b
 | .int i,u=>∃ t,u=Value.int i t
 | .str x,u=>∃ t,u=Value.str x t
 | .byt b,u=>∃ t,u=Value.bytes b t
 | .flt b,u=>∃ t,u=Value.float b t
 | .ref a,u=>u=Value.ref a
 | .ty n,u=>u=Value.type n
abbrev Vals:List V->List Value->Prop:=Paired RelV
theorem Vals.length {us:List Value} (r:Vals xs us):xs.length=us.length:=Paired.length r
theorem Vals.get:∀ {xs:List V} {us:List Value} {i:Nat} {x:V},Vals xs us->xs[i]?=some x->∃ u,us[i]?=some u/\RelV x u
 | _,_,_,_,.nil,e=>by simp at e
 | _,_,0,_,.cons r _,e=>by simp at e;subst e;exact⟨_,rfl,r⟩
 | _,_,i+1,x,.cons _ t,e=>by
  obtain⟨u,h1,h2⟩:=Vals.get (i:=i) (x:=x) t (by simpa using e);exact⟨u,by simpa using h1,h2⟩
theorem Vals.set {x:V} {u:Value} (r:RelV x u):∀ {xs:List V} {us:List Value} (i:Nat),Vals xs us->Vals (xs.set i x) (us.set i u)
 | _,_,_,.nil=>.nil
 | _,_,0,.cons _ t=>.cons r t
 | _,_,i+1,.cons q t=>.cons q (Vals.set r i t)
theorem Vals.append:∀ {xs ys:List V} {us ws:List Value},Vals xs us->Vals ys ws->Vals (xs++ys) (us++ws)
 | _,_,_,_,.nil,s=>s
 | _,_,_,_,.cons r t,s=>.cons r (Vals.append t s)
theorem Vals.take:∀ {xs:List V} {us:List Value} (n:Nat),Vals xs us->Vals (xs.take n) (us.take n)
 | _,_,0,_=>.nil
 | _,_,_+1,.nil=>.nil
 | _,_,n+1,.cons r t=>.cons r (Vals.take n t)
theorem Vals.drop:∀ {xs:List V} {us:List Value} (n:Nat),Vals xs us->Vals (xs.drop n) (us.drop n)
 | _,_,0,r=>r
 | _,_,_+1,.nil=>.nil
 | _,_,n+1,.cons _ t=>Vals.drop n t
def RelO:Option V->Option Value->Prop
 | some v,some u=>RelV v u
 | none,none=>True
 | _,_=>False
def KV {κ:Type}:List (κ×V)->List (κ×Value)->Prop:=Paired fun(p:κ×V) (q:κ×Value)=>p.1=q.1/\RelV p.2 q.2
def kV:Key->V
 | .inl i=>.int i
 | .inr x=>.str x
inductive HO where
  | lst (xs:List V)
  | tup (xs:List V)
  | dK (kvs:List (Key×V)) | dT (kvs:List (List Key×V))
  | set (S:Int->Bool) (n:Nat)
  | ins (C dx:Addr) (fs:List (Str×V))
  | own (x:Addr)
  | xd (fs:List (Str×V))
  | met (f x:Addr)
  | rng (lo hi:Int)
  | frz (o:Obj) (u:HO)
  | tbl (ps:Array Value)
  | ext (φ:Heap->Prop)
abbrev Hp:=Addr->Option HO
def upd (H:Hp) (a:Addr) (o:HO):Hp:=fun b=>if b=a then some o else H b
theorem Zd {o:HO}:upd H a o a=some o:=by unfold upd;rw[if_pos rfl]
theorem Zl {b:Addr} {o:HO} (h:b≠a):upd H a o b=H b:=by unfold upd;rw[if_neg h]
theorem Jg {o u:HO}:upd (upd H a o) a u=upd H a u:=by
 funext b;unfold upd;split <;> rfl
theorem Zjc {b:Addr} {o u:HO} (h:H a=some o) (h':H b=some u) (d:o≠u):a≠b:=by
 intro e;subst e;rw[h]at h';exact d (Option.some.inj h')
theorem Zo {b:Addr} {o:HO} (h:H a=some o) (h':H b=none):a≠b:=by
 intro e;subst e;rw[h]at h';cases h'
section
variable (P:Program) (w:World)
def NoD (h:Heap) (a:Addr):Prop:=∀ o,h.get? a=some o->o.dict=none
theorem ZbJ (hd:o.dict=none) (hf:o.isFreed=false):NoD (h.push o) h.objs.size:=fun o2 e=>by
 rw[Qx h hf]at e;cases e;exact hd
def ObjOk (H:Hp) (h:Heap) (a:Addr):HO->Prop
 | .lst xs=>xs.length<=sizeLine/\∃ (its:List Value) (n:Nat),Vals xs its/\h.get? a=some {cls:=.type "list",data:=.seq its.toArray n}
 | .tup xs=>xs.length<=sizeLine/\∃ its:List Value,Vals xs its/\IsTup h a its.toArray/\NoD h a
 | .dK kvs=>kvs.length<=sizeLine/\(a==sysModules)=false/\∃ vs,KV kvs vs/\h.DictOf (Zz P w) a vs
 | .dT kvs=>kvs.length<=sizeLine/\(a==sysModules)=false/\∃ xs:List (List Key×Addr×Value),
   Paired (fun(p:List Key×V) (q:List Key×Addr×Value)=>p.1=q.1/\H q.2.1=some (.tup (p.1.map kV))/\RelV p.2 q.2.2) kvs xs /\
   ∃ o es ep,h.get? a=some o/\o.ExactDict/\o.data= .dict es ep/\es.toList=xs.map (entryOfKey (tupleKind (Zz P w)))/\(xs.map (·.1)).Nodup
 | .set S n=>h.SetOf (intKind P w) a S n
 | .ins C dx fs=>H dx=some (.own a)/\fs.length<=1000/\dx≠a/\h.get? a=some (PySem.W.instObj C dx) /\
   ∃ mA,h.Ns1 dx mA/\(∀ f,RelO (fs.lookup f) (mA f))/\PySem.Within mA (fs.map (·.1))
 | .own _=>∃ o,h.get? a=some o
 | .xd fs=>∃ mA,h.Ns1 a mA/\∀ f,RelO (fs.lookup f) (mA f)
 | .rng lo hi=>∃ t u v,h.get? a=some {cls:=.type "range",data:=.fields #[.int lo t,.int hi u,.int 1 v]}
 | .frz o u=>h.get? a=some o/\ObjOk H h a u
 | .tbl ps=>h.get? a=some {cls:=.none,data:=.fields ps}
 | .met f x=>h.get? a=some (PySem.W.methodObj (.ref f) (.ref x))
 | .ext φ=>φ h/\(∃ o,h.get? a=some o)/\∀ h1 h2:Heap,φ h1->(∀ o,h1.get? a=some o->h2.get? a=some o)->φ h2
def HOk (H:Hp) (h:Heap):Prop:=∀ a o,H a=some o->ObjOk P w H h a o
end
section
variable {P:Program} {w:World} {H H':Hp} {h h':Heap} {a:Addr} {o:HO}
theorem ObjOk.lt (x:ObjOk P w H h a o):a<h.objs.size:=by
 cases o with
 | lst xs=>obtain⟨_,_,_,_,e⟩:=x;exact Qu e
 | tup xs=>obtain⟨_,_,_,p,_⟩:=x;exact p.lt
 | dK kvs=>obtain⟨_,_,_,_,o,_,_,e,_⟩:=x;exact Qu e
 | dT kvs=>obtain⟨_,_,_,_,o,_,_,e,_⟩:=x;exact Qu e
 | set S n=>obtain⟨o,_,_,_,e,_⟩:=x;exact Qu e
 | ins C dx fs=>obtain⟨_,_,_,e,_⟩:=x;exact Qu e
 | own y=>obtain⟨_,e⟩:=x;exact Qu e
 | xd fs=>obtain⟨_,⟨_,_,_,e,_⟩,_⟩:=x;exact Qu e
 | rng lo hi=>obtain⟨_,_,_,e⟩:=x;exact Qu e
 | frz ob u=>obtain⟨e,_⟩:=x;exact Qu e
 | tbl ps=>exact Qu (show h.get? a=some _ from x)
 | met f y=>exact Qu (show h.get? a=some _ from x)
 | ext φ=>obtain⟨_,⟨_,e⟩,_⟩:=x;exact Qu e
theorem Paired.mapP {α β:Type} {F G:α->β->Prop}:∀ {l₁:List α} {l₂:List β},Paired F l₁ l₂->(∀ a b,F a b->G a b)->Paired G l₁ l₂
 | _,_,.nil,_=>.nil
 | _,_,.cons r t,f=>.cons (f _ _ r) (Paired.mapP t f)
theorem ObjOk.stay (x:ObjOk P w H h a o) (k:∀ b u,(b=a\/H b=some (.own a))->h.get? b=some u->h'.get? b=some u)
  (ho:∀ b,H b=some (.own a)->H' b=some (.own a)) (ht:∀ b xs,H b=some (.tup xs)->H' b=some (.tup xs)):ObjOk P w H' h' a o:=by
 induction o with
 | lst xs=>obtain⟨z,its,n,r,e⟩:=x;exact⟨z,its,n,r,k _ _ (.inl rfl) e⟩
 | tup xs =>
  obtain⟨z,its,r,⟨ob,e,c⟩,nd⟩:=x;exact⟨z,its,r,⟨ob,k _ _ (.inl rfl) e,c⟩,fun o2 e2=>by
   rw[k _ _ (.inl rfl) e]at e2;cases e2;exact nd _ e⟩
 | dK kvs=>obtain⟨z,y,vs,r,ob,es,ep,e,c⟩:=x;exact⟨z,y,vs,r,ob,es,ep,k _ _ (.inl rfl) e,c⟩
 | dT kvs =>
  obtain⟨z,y,xs,r,ob,es,ep,e,c⟩:=x;exact⟨z,y,xs,Paired.mapP r fun p q z=>⟨z.1,ht _ _ z.2.1,z.2.2⟩,ob,es,ep,k _ _ (.inl rfl) e,c⟩
 | set S n=>obtain⟨ob,es,ep,t,e,c⟩:=x;exact⟨ob,es,ep,t,k _ _ (.inl rfl) e,c⟩
 | ins C dx fs =>
  obtain⟨d,z,ne,e,mA,⟨od,es,ep,e2,c⟩,r⟩:=x;exact⟨ho _ d,z,ne,k _ _ (.inl rfl) e,mA,⟨od,es,ep,k _ _ (.inr d) e2,c⟩,r⟩
 | own y=>obtain⟨ob,e⟩:=x;exact⟨ob,k _ _ (.inl rfl) e⟩
 | xd fs=>obtain⟨mA,⟨od,es,ep,e,c⟩,r⟩:=x;exact⟨mA,⟨od,es,ep,k _ _ (.inl rfl) e,c⟩,r⟩
 | rng lo hi=>obtain⟨t,u,v,e⟩:=x;exact⟨t,u,v,k _ _ (.inl rfl) e⟩
 | frz ob u ih=>obtain⟨e,q⟩:=x;exact⟨k _ _ (.inl rfl) e,ih q⟩
 | tbl ps =>
  have e:h.get? a=some {cls:=.none,data:=.fields ps}:=x;show h'.get? a=some {cls:=.none,data:=.fields ps};exact k a _ (.inl rfl) e
 | met f y =>
  have e:h.get? a=some (PySem.W.methodObj (.ref f) (.ref y)):=x;show h'.get? a=some (PySem.W.methodObj (.ref f) (.ref y));exact k a _ (.inl rfl) e
 | ext φ=>obtain⟨p,⟨o,e⟩,st⟩:=x;exact⟨st _ _ p fun o q=>k _ _ (.inl rfl) q,⟨o,k _ _ (.inl rfl) e⟩,st⟩
theorem HOk.lt (x:HOk P w H h) (e:H a=some o):a<h.objs.size:=(x a o e).lt
theorem HOk.fresh (x:HOk P w H h) (e:h.objs.size<=a):H a=none:=by
 cases q:H a with
 | none=>rfl
 | some u=>exact absurd (Q2 (x.lt q) e) (Wu _)
theorem HOk.kept (x:HOk P w H h) (k:∀ b u,h.get? b=some u->h'.get? b=some u):HOk P w H h':=fun a o e =>
 (x a o e).stay (fun b u _ q=>k b u q) (fun _ q=>q) fun _ _ q=>q
theorem HOk.laid (x:HOk P w H h) (k:∀ b u,h.get? b=some u->h'.get? b=some u) (hp:h.objs.size<=a) (new:ObjOk P w (upd H a o) h' a o):HOk P w (upd H a o) h':=fun b u e=>by
 have hn:=x.fresh hp;by_cases hb:b=a
 ·subst hb;rw[Zd]at e;cases e;exact new
 ·rw[Zl hb]at e;exact(x b u e).stay (fun c v _ q=>k c v q) (fun c q=>by rw[Zl (Zo q hn)];exact q) fun c xs q=>by rw[Zl (Zo q hn)];exact q
end
def Rd (H:Hp) (a:Addr) (u:HO):Prop:=H a=some u\/∃ o,H a=some (.frz o u)
theorem Rd.of {u:HO} (h:H a=some u):Rd H a u:=.inl h
theorem Rd.ok {P:Program} {w:World} {u:HO} (r:Rd H a u) (x:HOk P w H h):ObjOk P w H h a u:=by
 rcases r with r | ⟨o,r⟩
 ·exact x a u r
 ·obtain⟨_,q⟩:=x a _ r;exact q
def Mut:Option HO->Prop
 | some (.lst _)=>True
 | some (.dK _)=>True
 | some (.dT _)=>True
 | some (.set _ _)=>True
 | some (.ins _ _ _)=>True
 | some (.ext _)=>True
 | _=>False
section
variable {P:Program} {w:World} {H:Hp} {h h':Heap} {x e:Addr} {o':HO}
theorem HOk.write (ok:HOk P w H h) (mu:Mut (H x)) (he:e=x\/H e=some (.own x)) (k:∀ b u,b≠e->h.get? b=some u->h'.get? b=some u) (heo:∃ u,h'.get? e=some u)
  (new:ObjOk P w (upd H x o') h' x o'):HOk P w (upd H x o') h':=fun b u q=>by
 have nown:∀ c y,H c=some (.own y)->c≠x:=fun c y r z=>by subst z;rw[r]at mu;exact mu
 have ntup:∀ c xs,H c=some (.tup xs)->c≠x:=fun c xs r z=>by subst z;rw[r]at mu;exact mu
 by_cases hb:b=x
 ·subst hb;rw[Zd]at q;cases q;exact new
 ·rw[Zl hb]at q;by_cases hbe:b=e
  ·have q':H b=some (.own x):=by
    rcases he with z | z
    ·exact absurd (hbe.trans z) hb
    ·rw[hbe];exact z
   rw[q]at q';cases q';obtain⟨v,hv⟩:=heo;exact⟨v,by rw[hbe];exact hv⟩
  ·refine(ok b u q).stay (fun c v hc r=>k c v ?_ r) (fun c r=>by rw[Zl (nown c b r)];exact r) fun c xs r=>by rw[Zl (ntup c xs r)];exact r
   rcases hc with rfl | hc
   ·exact hbe
   ·rintro rfl;rcases he with z | z
    ·exact nown c b hc z
    ·rw[hc]at z;cases z;exact hb rfl
end
structure Un (fs ex:List Addr) (H H':Hp) (h h':Heap):Prop where
 keep:∀ b o,h.get? b=some o->H b=none->b∉fs->b∉ex->h'.get? b=some o
 slot:∀ b o,h.get? b=some o->H b=none->b∈fs->b∉ex->∃ sl,h'.get? b=some {o with slots:=sl}
 free:∀ b o,h.get? b=some o->H b=none->b∉ex->H' b=none
 there:∀ b o,h.get? b=some o->b∉ex->∃ o',h'.get? b=some o'
 tups:∀ b xs,H b=some (.tup xs)->H' b=some (.tup xs)
 frzs:∀ b o u,H b=some (.frz o u)->H' b=some (.frz o u)
 tbls:∀ b ps,H b=some (.tbl ps)->∃ more,H' b=some (.tbl (ps++more))
section
variable {fs fs' ex ex':List Addr} {H H1 H2:Hp} {h h1 h2 h':Heap} {a x e:Addr} {o:HO}
theorem Un.any (u:Un fs ex H H1 h h1) {b:Addr} {ob:Obj} (q:h.get? b=some ob) (n:H b=none) (hx:b∉ex):∃ sl,h1.get? b=some {ob with slots:=sl}:=by
 by_cases hb:b∈fs
 ·exact u.slot b ob q n hb hx
 ·exact⟨ob.slots,u.keep b ob q n hb hx⟩
theorem Un.trans (a:Un fs ex H H1 h h1) (b:Un fs ex H1 H2 h1 h2):Un fs ex H H2 h h2 where
 keep:=fun c ob q n hc hx=>b.keep c ob (a.keep c ob q n hc hx) (a.free c ob q n hx) hc hx
 slot:=fun c ob q n hc hx=>by
  obtain⟨sl,e1⟩:=a.slot c ob q n hc hx;obtain⟨sl',e2⟩:=b.slot c _ e1 (a.free c ob q n hx) hc hx;exact⟨sl',e2⟩
 free:=fun c ob q n hx=>by
  obtain⟨o',e1⟩:=a.there c ob q hx;exact b.free c o' e1 (a.free c ob q n hx) hx
 there:=fun c ob q hx=>by
  obtain⟨o',e1⟩:=a.there c ob q hx;exact b.there c o' e1 hx
 tups:=fun c xs q=>b.tups c xs (a.tups c xs q)
 frzs:=fun c ob xs q=>b.frzs c ob xs (a.frzs c ob xs q)
 tbls:=fun c ps q=>by
  obtain⟨m1,e1⟩:=a.tbls c ps q;obtain⟨m2,e2⟩:=b.tbls c _ e1;exact⟨m1++m2,by rw[e2,U6]⟩
theorem Un.kept (k:∀ b u,h.get? b=some u->h'.get? b=some u):Un fs ex H H h h' :=
 ⟨fun b ob q _ _ _=>k b ob q,fun b ob q _ _ _=>⟨ob.slots,k b ob q⟩,fun _ _ _ n _=>n,fun b ob q _=>⟨ob,k b ob q⟩,fun _ _ q=>q,fun _ _ _ q=>q,fun _ ps q=>⟨#[],by rw[q];simp⟩⟩
theorem Un.refl:Un fs ex H H h h:=Un.kept fun _ _ q=>q
theorem Un.laid (k:∀ b u,h.get? b=some u->h'.get? b=some u) (hp:h.objs.size<=a) (hn:H a=none):Un fs ex H (upd H a o) h h' where
 keep:=fun b u q _ _ _=>k b u q
 slot:=fun b u q _ _ _=>⟨u.slots,k b u q⟩
 free:=fun b u q n _=>by rw[Zl (QC (Q2 (Qu q) hp))];exact n
 there:=fun b u q _=>⟨u,k b u q⟩
 tups:=fun b xs q=>by rw[Zl (Zo q hn)];exact q
 frzs:=fun b u xs q=>by rw[Zl (Zo q hn)];exact q
 tbls:=fun b ps q=>⟨#[],by rw[Zl (Zo q hn),q];simp⟩
theorem Un.write (mu:Mut (H x)) (he:e=x\/H e=some (.own x)) (k:∀ b u,b≠e->h.get? b=some u->h'.get? b=some u) (heo:∃ u,h'.get? e=some u):Un fs ex H (upd H x o) h h':=by
 have hx:∀ b,H b=none->b≠x:=fun b n z=>by subst z;rw[n]at mu;exact mu
 have hb:∀ b,H b=none->b≠e:=fun b n z=>by
  subst z;rcases he with r | r
  ·exact hx b n r
  ·rw[n]at r;cases r
 have hm:∀ b u,H b=some u->¬ Mut (some u)->b≠x:=fun b u q nm z=>by subst z;rw[q]at mu;exact nm mu
 refine⟨fun b u q n _ _=>k b u (hb b n) q,fun b u q n _ _=>⟨u.slots,k b u (hb b n) q⟩,fun b u q n _=>by rw[Zl (hx b n)];exact n,fun b u q _=>?_,
  fun b xs q=>by rw[Zl (hm b _ q fun z=>z)];exact q,fun b u xs q=>by rw[Zl (hm b _ q fun z=>z)];exact q,fun b ps q=>⟨#[],by rw[Zl (hm b _ q fun z=>z),q];simp⟩⟩
 by_cases hbe:b=e
 ·subst hbe;exact heo
 ·exact⟨u,k b u hbe q⟩
theorem Un.mono (u:Un fs ex H H1 h h1) (hs:∀ b∈fs,b∈fs') (hx:∀ b∈ex,b∈ex'):Un fs' ex' H H1 h h1 :=
 ⟨fun b ob q n hb he=>u.keep b ob q n (fun z=>hb (hs b z)) fun z=>he (hx b z),fun _ _ q n _ he=>u.any q n fun z=>he (hx _ z),fun b ob q n he=>u.free b ob q n fun z=>he (hx b z),fun b ob q he=>u.there b ob q fun z=>he (hx b z),u.tups,u.frzs,u.tbls⟩
end
def trk (h:Heap) (H:Hp):List Addr:=(Qq h.objs.size).filter fun a=>(H a).isSome
def Zju (h:Heap) (H:Hp):Heap:=PySem.W.hideAll h (trk h H)
theorem ZhV (h:Heap) (H:Hp):(Zju h H).objs.size=h.objs.size:=PySem.W.hideAll_size _ _
theorem Zjt {b:Addr} (e:h.get? b=some o) (n:H b=none):(Zju h H).get? b=some o :=
 PySem.W.hideAll_get _ e fun hm=>by
  have q:(H b).isSome=true:=(QD.mp hm).2;rw[n]at q;simp at q
theorem Zk4 {b:Addr} (e:(Zju h H).get? b=some o):h.get? b=some o/\H b=none:=by
 have e':h.get? b=some o:=PySem.W.of_hideAll (trk h H) e;refine⟨e',?_⟩;cases q:H b with
 | none=>rfl
 | some x =>
  have hm:b∈trk h H:=QD.mpr ⟨QN.mpr (Qu e'),by simp[q]⟩;have z:(Zju h H).get? b=none:=PySem.W.hideAll_none (trk h H) hm;rw[z]at e;cases e
def Zlv (g h:Heap) (L:Addr):List (Addr×Obj):=(Qq h.objs.size).filterMap fun a=>if a=L\/(g.get? a).isSome=true then none else (h.get? a).map fun o=>(a,o)
def rest (g h:Heap) (L d:Addr):List (Addr×Obj):=(Zlv g h L).filter fun p=>decide (p.1≠d)
structure Mod (K:PySem.W.Frag) (mg:Str->Option Value) (base:Heap):Prop where
 kin:K.In base
 glob:base.Ns mainGlobals mg
 blt:∃ mb,base.Ns builtinsNs mb/\∀ x:Str,x≠"__name__"->mb x=bootBuiltins x
 nolimit:base.NoLimit
structure Cx where
 prog:Program
 w:World
 K:PySem.W.Frag
 mg:Str->Option Value
 base:Heap
 A:Around
 N:List Str
 s₀:Shared
 H₀:Hp
 env:Env
 outer:List Env
 stack:List Env
 ex:List Addr
 fn:Str->Bool
 calm:Bool
 pn:List (Addr×Obj)
 xe:Value->Shared->Prop
def frs (l:List Env):List Addr:=l.filterMap (·.frame)
abbrev Cx.fs (X:Cx):List Addr:=frs X.outer
def Vis (sc:Scope) (x:Str):Prop:=sc.names.lookup x=some .local\/sc.names.lookup x=some .cell\/sc.names.lookup x=some .free
def Loc (sc:Scope) (x:Str):Prop:=sc.names.lookup x=some .local\/sc.names.lookup x=some .cell
def ZoP (env:Env) (h:Heap) (m:Str->Option Value) (x:Str) (u:Value):Prop :=
 (env.kindOf x=some .local/\m x=some u)\/((env.kindOf x=some .cell\/env.kindOf x=some .free)/\∃ c,env.cells.lookup x=some c/\h.IsCell c (some u))
structure Cx.Ok (X:Cx):Prop where
 mod:Mod X.K X.mg X.base
 kind:X.env.scope.kind= .function
 glob:X.env.globals=mainGlobals
 blt:X.env.builtins=builtinsNs
 above:X.s₀.heap.objs.size<=X.env.locals
 inj:∀ x y c,X.env.cells.lookup x=some c->X.env.cells.lookup y=some c->x=y
 has:∀ x,(X.env.kindOf x=some .cell\/X.env.kindOf x=some .free)->∃ c,X.env.cells.lookup x=some c
 cab:∀ x c,X.fn x=true->X.env.cells.lookup x=some c->X.s₀.heap.objs.size<=c
 hd:X.calm=true->X.A.handled=none
 frames:X.A.frames=some X.stack
 stk:X.stack=X.outer\/(X.stack=X.env::X.outer/\X.env.frame=some X.env.locals)
 exf:∀ b∈X.ex,b≠X.env.locals/\∀ x c,X.env.cells.lookup x=some c->c≠b
 bs:∀ b o,X.base.get? b=some o->X.s₀.heap.get? b=some o/\X.H₀ b=none
 bsz:X.base.objs.size<=X.s₀.heap.objs.size
 noex:∀ b o,X.base.get? b=some o->b∉X.ex
 exfs:∀ b∈X.ex,b∉X.fs
 funs:X.s₀.heap.FunFrames X.base X.outer
 frf:∀ b∈X.fs,X.H₀ b=none
structure Inv (X:Cx) (pins:List (Addr×Obj)) (σ:List (Option V)) (H:Hp) (s:Shared):Prop where
 ok:X.Ok
 os:s.os=X.s₀.os
 bare:AllBare s.gens
 base:Un X.fs X.ex X.H₀ H X.s₀.heap s.heap
 loc:∃ m,s.heap.Ns X.env.locals m/\∀ (i:Nat) (x:Str) (v:V),X.N[i]?=some x->σ[i]?=some (some v)->Vis X.env.scope x->∃ u,RelV v u/\ZoP X.env s.heap m x u
 cell:∀ x c,X.env.cells.lookup x=some c->∃ v,s.heap.IsCell c v
 free:H X.env.locals=none
 freeC:∀ x c,X.env.cells.lookup x=some c->H c=none
 pin:∀ p∈X.pn++pins,s.heap.get? p.1=some p.2/\H p.1=none/\p.1≠X.env.locals/\p.1∉X.fs/\∀ v,p.2.data≠.cell v
 hok:HOk X.prog X.w H s.heap
 len:σ.length=X.N.length
section
variable {X:Cx} {pins:List (Addr×Obj)} {σ:List (Option V)} {H H':Hp} {s:Shared} {h':Heap}
theorem Cx.Ok.nofr (ok:X.Ok) {b:Addr} (e:X.base.get? b=some o):b∉X.fs:=fun hb=>by
 have:=(ok.funs.mem hb).1;rw[e]at this;cases this
theorem Inv.bs (I:Inv X pins σ H s):∀ b o,X.base.get? b=some o->s.heap.get? b=some o/\H b=none:=fun b o e =>
 ⟨I.base.keep b o (I.ok.bs b o e).1 (I.ok.bs b o e).2 (I.ok.nofr e) (I.ok.noex b o e),I.base.free b o (I.ok.bs b o e).1 (I.ok.bs b o e).2 (I.ok.noex b o e)⟩
theorem Inv.bk (I:Inv X pins σ H s):∀ b o,X.base.get? b=some o->s.heap.get? b=some o:=fun b o e=>(I.bs b o e).1
theorem Inv.mod (I:Inv X pins σ H s):Mod X.K X.mg X.base:=I.ok.mod
theorem Inv.kIn (I:Inv X pins σ H s):X.K.In s.heap:=I.ok.mod.kin.keeps I.bk
theorem Inv.nolimit (I:Inv X pins σ H s):s.heap.NoLimit:=I.ok.mod.nolimit.keeps I.bk
theorem Inv.lt (I:Inv X pins σ H s):X.env.locals<s.heap.objs.size:=let ⟨_,hn,_⟩:=I.loc;hn.lt
theorem Inv.sz (I:Inv X pins σ H s):X.s₀.heap.objs.size<=s.heap.objs.size:=Wg I.ok.above (Rf I.lt)
theorem Inv.nofs (I:Inv X pins σ H s) (h:s.heap.objs.size<=a):a∉X.fs:=fun hb=>by
 obtain⟨_,o,ho,_⟩:=I.ok.funs.mem hb;exact absurd (Q2 (Qu ho) (Wg I.sz h)) (Wu _)
theorem Inv.cne (I:Inv X pins σ H s):∀ x c,X.env.cells.lookup x=some c->c≠X.env.locals:=fun x c e z=>by
 obtain⟨v,o,ho,hd⟩:=I.cell x c e;obtain⟨m,⟨o',es,ep,ho',hd',_⟩,_⟩:=I.loc;rw[z,ho']at ho;cases ho;rw[hd']at hd;cases hd
theorem Inv.funs (I:Inv X pins σ H s):s.heap.FunFrames X.base X.outer:=by
 have all:∀ (l:List Env),(∀ b∈frs l,b∈X.fs)->X.s₀.heap.FunFrames X.base l->s.heap.FunFrames X.base l:=by
  intro l;induction l with
  | nil=>intro _ _;trivial
  | cons env r ih =>
   intro hs hl;obtain⟨hk,⟨L,o,hf,hn,ho,hd⟩,hr⟩:=hl;have hL:L∈X.fs:=hs L (by unfold frs;rw[WB,hf];exact Qj);obtain⟨sl,e⟩:=I.base.slot L o ho (I.ok.frf L hL) hL fun z=>I.ok.exfs L z hL;exact⟨hk,⟨L,_,hf,hn,e,hd⟩,ih (fun b hb=>hs b (by unfold frs;rw[WB,hf];exact Ql _ hb)) hr⟩
 exact all X.outer (fun _ hb=>hb) I.ok.funs
theorem Inv.stack (I:Inv X pins σ H s):s.heap.FunFrames X.base X.stack:=by
 rcases I.ok.stk with e | ⟨e,hf⟩
 ·rw[e];exact I.funs
 ·rw[e];obtain⟨m,hn,_⟩:=I.loc;refine .cons (by rw[I.ok.kind];decide) hf hn ?_ I.funs;exact Rz (Wg I.ok.bsz I.ok.above)
theorem Inv.stkSub (I:Inv X pins σ H s):∀ b∈frs X.stack,b∈X.env.locals::X.fs:=fun b hb=>by
 rcases I.ok.stk with e | ⟨e,hf⟩
 ·rw[e]at hb;exact Ql _ hb
 ·rw[e]at hb;unfold frs at hb;rw[WB,hf]at hb;exact hb
theorem Inv.stkFree (I:Inv X pins σ H s):∀ b∈frs X.stack,H b=none:=fun b hb=>by
 rcases Qy.mp (I.stkSub b hb)with e | hb
 ·rw[e];exact I.free
 ·obtain⟨_,o,ho,_⟩:=I.ok.funs.mem hb;exact I.base.free b o ho (I.ok.frf b hb) fun z=>I.ok.exfs b z hb
theorem Inv.step {g':Array GenState} {d':Drawn} {ch:List Addr} (I:Inv X pins σ H s)
  (hch:∀ b∈ch,(b∈X.ex\/X.s₀.heap.objs.size<=b)/\b≠X.env.locals/\(∀ x c,X.env.cells.lookup x=some c->c≠b)/\∀ p∈X.pn++pins,p.1≠b)
  (keep:∀ b o,b≠X.env.locals->b∉X.fs->b∉ch->s.heap.get? b=some o->H b=none->h'.get? b=some o)
  (slot:∀ b o,b≠X.env.locals->b∈X.fs->b∉ch->s.heap.get? b=some o->H b=none->∃ sl,h'.get? b=some {o with slots:=sl}) (free:∀ b o,b∉ch->s.heap.get? b=some o->H b=none->H' b=none)
  (there:∀ b o,b∉ch->s.heap.get? b=some o->∃ o',h'.get? b=some o')
  (tups:∀ b xs,H b=some (.tup xs)->H' b=some (.tup xs)) (frzs:∀ b o u,H b=some (.frz o u)->H' b=some (.frz o u)) (tbls:∀ b ps,H b=some (.tbl ps)->∃ more,H' b=some (.tbl (ps++more)))
  (ns:∀ m,s.heap.Ns X.env.locals m->h'.Ns X.env.locals m) (hok:HOk X.prog X.w H' h') (hg:AllBare g') :
  Inv X pins σ H' {s with heap:=h',gens:=g',drawn:=d',toks:=t'}:=by
 have neL:∀ b o,X.s₀.heap.get? b=some o->b≠X.env.locals:=fun b o e=>QC (Q2 (Qu e) I.ok.above);have neC:∀ b o,X.s₀.heap.get? b=some o->b∉X.ex->b∉ch:=fun b o e hx hb=>by
  rcases(hch b hb).1 with z | z
  ·exact hx z
  ·exact absurd (Q2 (Qu e) z) (Wu _)
 have cellK:∀ x c,X.env.cells.lookup x=some c->∀ v,s.heap.IsCell c v->h'.IsCell c v:=fun x c e v ⟨o,ho,hd⟩=>by
  have nch:c∉ch:=fun z=>(hch c z).2.2.1 x c e rfl;by_cases hc:c∈X.fs
  ·obtain⟨sl,q⟩:=slot c o (I.cne x c e) hc nch ho (I.freeC x c e);exact⟨_,q,hd⟩
  ·exact⟨o,keep c o (I.cne x c e) hc nch ho (I.freeC x c e),hd⟩
 refine⟨I.ok,I.os,hg,⟨fun b o e n hb hx=>?_,fun b o e n hb hx=>?_,fun b o e n hx=>?_,fun b o e hx=>?_,fun b xs e=>tups b xs (I.base.tups b xs e),fun b o xs e=>frzs b o xs (I.base.frzs b o xs e),fun b ps e=>?_⟩,?_,fun x c e=>?_,?_,fun x c e=>?_,fun p hp=>?_,hok,I.len⟩
 ·exact keep b o (neL b o e) hb (neC b o e hx) (I.base.keep b o e n hb hx) (I.base.free b o e n hx)
 ·obtain⟨sl,e1⟩:=I.base.slot b o e n hb hx;obtain⟨sl',e2⟩:=slot b _ (neL b o e) hb (neC b o e hx) e1 (I.base.free b o e n hx);exact⟨sl',e2⟩
 ·obtain⟨o',e1⟩:=I.base.there b o e hx;exact free b o' (neC b o e hx) e1 (I.base.free b o e n hx)
 ·obtain⟨o',e1⟩:=I.base.there b o e hx;exact there b o' (neC b o e hx) e1
 ·obtain⟨m1,e1⟩:=I.base.tbls b ps e;obtain⟨m2,e2⟩:=tbls b _ e1;exact⟨m1++m2,by rw[e2,U6]⟩
 ·obtain⟨m,hn,hl⟩:=I.loc;refine⟨m,ns m hn,fun i x v e1 e2 e3=>?_⟩;obtain⟨u,r,l⟩:=hl i x v e1 e2 e3;refine⟨u,r,?_⟩;rcases l with l | ⟨k,c,e,z⟩
  ·exact .inl l
  ·exact .inr ⟨k,c,e,cellK x c e _ z⟩
 ·obtain⟨v,z⟩:=I.cell x c e;exact⟨v,cellK x c e v z⟩
 ·obtain⟨m,⟨o,_,_,ho,_⟩,_⟩:=I.loc;exact free _ o (fun z=>(hch _ z).2.1 rfl) ho I.free
 ·obtain⟨v,o,ho,hd⟩:=I.cell x c e;exact free c o (fun z=>(hch c z).2.2.1 x c e rfl) ho (I.freeC x c e)
 ·obtain⟨e,n,ne,nf,d⟩:=I.pin p hp;have nch:p.1∉ch:=fun z=>(hch p.1 z).2.2.2 p hp rfl;exact⟨keep p.1 p.2 ne nf nch e n,free p.1 p.2 nch e n,ne,nf,d⟩
theorem Inv.un (I:Inv X pins σ H s) (u:Un X.fs [] H H' s.heap h') (hok:HOk X.prog X.w H' h'):Inv X pins σ H' {s with heap:=h',toks:=t'}:=by
 obtain⟨m,⟨o,es,ep,ho,r⟩,_⟩:=id I.loc;obtain⟨sl,hL⟩:=u.any ho I.free (by simp);exact I.step (g':=s.gens) (d':=s.drawn) (ch:=[]) (fun _ z=>nomatch z) (fun b o _ hb _ e n=>u.keep b o e n hb (by simp)) (fun b o _ hb _ e n=>u.slot b o e n hb (by simp)) (fun b o _ e n=>u.free b o e n (by simp)) (fun b o _ e=>u.there b o e (by simp)) u.tups u.frzs u.tbls (fun m' hm=>by
  obtain⟨o',es',ep',ho',r'⟩:=hm;rw[ho]at ho';cases ho';exact⟨_,es',ep',hL,r'⟩) hok I.bare
theorem Inv.call {g':Array GenState} {d':Drawn} {ch:List Addr} (I:Inv X pins σ H s) (u:Un (frs X.stack) ch H H' s.heap h') (hok:HOk X.prog X.w H' h') (hg:AllBare g')
  (hch:∀ b∈ch,(b∈X.ex\/X.s₀.heap.objs.size<=b)/\b≠X.env.locals/\(∀ x c,X.env.cells.lookup x=some c->c≠b)/\∀ p∈X.pn++pins,p.1≠b) :
  Inv X pins σ H' {s with heap:=h',gens:=g',drawn:=d',toks:=t'}:=by
 obtain⟨m,⟨o,es,ep,ho,r⟩,_⟩:=id I.loc;obtain⟨sl,hL⟩:=u.any ho I.free fun z=>(hch _ z).2.1 rfl;exact I.step (ch:=ch) hch (fun b o hL hb hc e n=>u.keep b o e n (fun z=>(Qy.mp (I.stkSub b z)).elim hL hb) hc) (fun b o _ _ hc e n=>u.any e n hc) (fun b o hc e n=>u.free b o e n hc) (fun b o hc e=>u.there b o e hc) u.tups u.frzs u.tbls (fun m' hm=>by
  obtain⟨o',es',ep',ho',r'⟩:=hm;rw[ho]at ho';cases ho';exact⟨_,es',ep',hL,r'⟩) hok hg
theorem Inv.turned {it:Addr} (I:Inv X pins σ H s) (k:∀ b o,b≠it->s.heap.get? b=some o->h'.get? b=some o) (hn:H it=none) (hL:it≠X.env.locals)
  (h1:it∈X.ex\/X.s₀.heap.objs.size<=it) (h2:∀ x c,X.env.cells.lookup x=some c->c≠it) (h3:∀ p∈X.pn++pins,p.1≠it):Inv X pins σ H {s with heap:=h',toks:=t'}:=by
 have nit:∀ b u,H b=some u->b≠it:=fun b u e z=>by rw[z,hn]at e;cases e
 refine I.step (g':=s.gens) (d':=s.drawn) (ch:=[it]) (fun b hb=>?_) (fun b o _ _ hc e _=>k b o (fun z=>hc (by simp[z])) e) (fun b o _ _ hc e _=>⟨o.slots,k b o (fun z=>hc (by simp[z])) e⟩) (fun _ _ _ _ n=>n)
  (fun b o hc e=>⟨o,k b o (fun z=>hc (by simp[z])) e⟩) (fun _ _ e=>e) (fun _ _ _ e=>e) (fun b ps e=>⟨#[],by rw[e];simp⟩) (fun m hm=>?_) (fun b u e=>?_) I.bare
 ·have e:b=it:=by simpa using hb
  subst e;exact⟨h1,hL,h2,h3⟩
 ·obtain⟨o,es,ep,ho,r⟩:=hm;exact⟨o,es,ep,k _ o (Ne.symm hL) ho,r⟩
 ·refine(I.hok b u e).stay (fun c v hc q=>k c v ?_ q) (fun _ q=>q) fun _ _ q=>q;rcases hc with z | z
  ·rw[z];exact nit b u e
  ·exact nit c _ z
theorem Inv.tok (I:Inv X pins σ H s) (t:Nat):Inv X pins σ H {s with toks:=t}:=I.un (h':=s.heap) (t':=t) Un.refl I.hok
theorem Inv.kept (I:Inv X pins σ H s) (k:∀ b u,s.heap.get? b=some u->h'.get? b=some u):Inv X pins σ H {s with heap:=h',toks:=t'}:=I.un (Un.kept k) (I.hok.kept k)
theorem Inv.laid {o:HO} (I:Inv X pins σ H s) (k:∀ b u,s.heap.get? b=some u->h'.get? b=some u) (hp:s.heap.objs.size<=a) (new:ObjOk X.prog X.w (upd H a o) h' a o) :
  Inv X pins σ (upd H a o) {s with heap:=h',toks:=t'}:=I.un (Un.laid k hp (I.hok.fresh hp)) (I.hok.laid k hp new)
theorem Inv.write {x e:Addr} {o:HO} (I:Inv X pins σ H s) (mu:Mut (H x)) (he:e=x\/H e=some (.own x)) (k:∀ b u,b≠e->s.heap.get? b=some u->h'.get? b=some u) (heo:∃ u,h'.get? e=some u)
  (new:ObjOk X.prog X.w (upd H x o) h' x o):Inv X pins σ (upd H x o) {s with heap:=h',toks:=t'}:=I.un (Un.write mu he k heo) (I.hok.write mu he k heo new)
theorem Inv.pins_of {pins':List (Addr×Obj)} (I:Inv X pins σ H s) (h:∀ p∈pins',s.heap.get? p.1=some p.2/\H p.1=none/\p.1≠X.env.locals/\p.1∉X.fs/\∀ v,p.2.data≠.cell v):Inv X pins' σ H s :=
 ⟨I.ok,I.os,I.bare,I.base,I.loc,I.cell,I.free,I.freeC,fun p hp=>(QF.mp hp).elim (fun z=>I.pin p (QM _ z)) (h p),I.hok,I.len⟩
theorem ZbH {N:List Str} (hN:N.Nodup) (a:N[i]?=some x) (b:N[j]?=some x):i=j:=by
 obtain⟨h1,e1⟩:=Qp.mp a;obtain⟨h2,e2⟩:=Qp.mp b;exact(Ua hN).mp (e1.trans e2.symm)
theorem Zb8 {M:Model} {Q:Unit->Shared->Prop} (I:Inv X pins σ H s) (hN:X.N.Nodup) (hi:X.N[i]?=some x) (hx:Loc X.env.scope x) (r:RelV v u)
  (h:∀ s',Inv X pins (σ.set i (some v)) H s'->(∃ a,Heap.SameBut a s.heap s'.heap/\(a=X.env.locals\/X.env.cells.lookup x=some a))->Q () s') (hf:X.fn x=true\/X.env.scope.names.lookup x=some .local:=by first | exact .inl rfl | exact .inr rfl | assumption):wpAny M A (storeName X.env x u) Q E s:=by
 obtain⟨m,hn,hl⟩:=id I.loc;have hcls:(X.env.scope.kind==.class || (X.env.scope.kind==.module&&X.env.locals != X.env.globals))=false:=by rw[I.ok.kind];rfl
 have hiσ:i<σ.length:=by rw[I.len];exact(Qp.mp hi).1
 have cne:=I.cne;have tracked:∀ {a:Addr} {h':Heap},(∃ o,s.heap.get? a=some o/\H a=none)->Heap.SameBut a s.heap h'->HOk X.prog X.w H h':=fun {a h'} ha hs b ob e=>by
  obtain⟨_,_,hfree⟩:=ha;refine(I.hok b ob e).stay (fun c w' hc q=>(hs.2 c ?_).trans q) (fun _ q=>q) fun _ _ q=>q;rintro rfl;rcases hc with rfl | hc
  ·rw[hfree]at e;cases e
  ·rw[hfree]at hc;cases hc
 rcases hx with hk | hk
 ·refine wpAny_storeName_local hk hn (fun h' hn' hs=>?_) hcls;obtain⟨oL,_,_,hoL,_⟩:=id hn;refine h _ ⟨I.ok,I.os,I.bare,⟨fun b o e n hb hx=>?_,fun b o e n hb hx=>?_,I.base.free,fun b o e hx=>?_,I.base.tups,I.base.frzs,I.base.tbls⟩,⟨_,hn',fun j y v' e1 e2 e3=>?_⟩,fun y c e=>?_,I.free,I.freeC,fun p hp=>?_,tracked ⟨oL,hoL,I.free⟩ hs,by simpa using I.len⟩ ⟨_,hs,.inl rfl⟩
  ·exact(hs.2 b (QC (Q2 (Qu e) I.ok.above))).trans (I.base.keep b o e n hb hx)
  ·obtain⟨sl,e1⟩:=I.base.slot b o e n hb hx;exact⟨sl,(hs.2 b (QC (Q2 (Qu e) I.ok.above))).trans e1⟩
  ·obtain⟨o',e1⟩:=I.base.there b o e hx;exact⟨o',(hs.2 b (QC (Q2 (Qu e) I.ok.above))).trans e1⟩
  ·by_cases hj:j=i
   ·subst hj;rw[hi]at e1;cases e1;rw[UO hiσ]at e2;cases e2;exact⟨u,r,.inl ⟨hk,by simp⟩⟩
   ·rw[UY (Ne.symm hj)]at e2;obtain⟨u',r',q⟩:=hl j y v' e1 e2 e3;refine⟨u',r',?_⟩;rcases q with ⟨k,e⟩ | ⟨k,c,e,z⟩
    ·refine .inl ⟨k,?_⟩;have:y≠x:=fun e=>hj (ZbH hN e1 (e▸hi));simp[this,e]
    ·exact .inr ⟨k,c,e,z.sameBut hs (cne y c e)⟩
  ·obtain⟨w',z⟩:=I.cell y c e;exact⟨w',z.sameBut hs (cne y c e)⟩
  ·obtain⟨e,n,ne,nf,d⟩:=I.pin p hp;exact⟨(hs.2 p.1 ne).trans e,n,ne,nf,d⟩
 ·have hfn:X.fn x=true:=by
   rcases hf with z | z
   ·exact z
   ·rw[z]at hk;cases hk
  obtain⟨c,hc⟩:=I.ok.has x (.inl hk);obtain⟨w',z⟩:=I.cell x c hc;refine wpAny_storeName_cell I.ok.kind hk hc z (fun h' hc' hs=>?_);obtain⟨oc,hoc,hocd⟩:=id z;refine h {s with heap:=h'} ⟨I.ok,I.os,I.bare,⟨fun b o e n hb hx=>?_,fun b o e n hb hx=>?_,I.base.free,fun b o e hx=>?_,I.base.tups,I.base.frzs,I.base.tbls⟩,⟨m,hn.sameBut hs (Ne.symm (cne x c hc)),fun j y v' e1 e2 e3=>?_⟩,fun y c' e=>?_,I.free,I.freeC,fun p hp=>?_,tracked ⟨oc,hoc,I.freeC x c hc⟩ hs,by simpa using I.len⟩ ⟨c,hs,.inr hc⟩
  ·exact(hs.2 b (QC (Q2 (Qu e) (I.ok.cab x c hfn hc)))).trans (I.base.keep b o e n hb hx)
  ·obtain⟨sl,e1⟩:=I.base.slot b o e n hb hx;exact⟨sl,(hs.2 b (QC (Q2 (Qu e) (I.ok.cab x c hfn hc)))).trans e1⟩
  ·obtain⟨o',e1⟩:=I.base.there b o e hx;exact⟨o',(hs.2 b (QC (Q2 (Qu e) (I.ok.cab x c hfn hc)))).trans e1⟩
  ·by_cases hj:j=i
   ·subst hj;rw[hi]at e1;cases e1;rw[UO hiσ]at e2;cases e2;exact⟨u,r,.inr ⟨.inl hk,c,hc,hc'⟩⟩
   ·rw[UY (Ne.symm hj)]at e2;obtain⟨u',r',q⟩:=hl j y v' e1 e2 e3;refine⟨u',r',?_⟩;rcases q with q | ⟨k,c',e,z'⟩
    ·exact .inl q
    ·refine .inr ⟨k,c',e,z'.sameBut hs ?_⟩;rintro rfl;exact hj (ZbH hN e1 (I.ok.inj _ _ _ e hc▸hi))
  ·by_cases hcc:c'=c
   ·subst hcc;exact⟨_,hc'⟩
   ·obtain⟨w2,z2⟩:=I.cell y c' e;exact⟨w2,z2.sameBut hs hcc⟩
  ·obtain⟨e,n,ne,nf,d⟩:=I.pin p hp;refine⟨(hs.2 p.1 ?_).trans e,n,ne,nf,d⟩;intro q;rw[q,hoc]at e;have q':oc=p.2:=Option.some.inj e;exact d w' (by rw[←q'];exact hocd)
theorem Zbl {M:Model} {Q:Unit->Shared->Prop} (I:Inv X pins σ H s) (hN:X.N.Nodup) (hi:X.N[i]?=some x) (hx:Loc X.env.scope x) (r:RelV v u)
  (h:∀ s',Inv X pins (σ.set i (some v)) H s'->Q () s') (hf:X.fn x=true\/X.env.scope.names.lookup x=some .local:=by first | exact .inl rfl | exact .inr rfl | assumption):wpAny M A (storeName X.env x u) Q E s :=
 Zb8 I hN hi hx r (fun s' I' _=>h s' I') hf
theorem Inv.call' {s':Shared} {ch:List Addr} (I:Inv X pins σ H s) (ho:s'.os=s.os) (u:Un (frs X.stack) ch H H' s.heap s'.heap) (hok:HOk X.prog X.w H' s'.heap) (hg:AllBare s'.gens)
  (hch:∀ b∈ch,(b∈X.ex\/X.s₀.heap.objs.size<=b)/\b≠X.env.locals/\(∀ x c,X.env.cells.lookup x=some c->c≠b)/\∀ p∈X.pn++pins,p.1≠b):Inv X pins σ H' s':=by
 obtain⟨h',g',d',t',o'⟩:=s';have e:o'=s.os:=ho;subst e;exact I.call (g':=g') (t':=t') (d':=d') u hok hg hch
end
abbrev XK:=Value->Option Addr->Hp->Prop
abbrev St:=List (Option V)
abbrev VK:=V->Hp->Prop
abbrev TE:=St->Hp->VK->Prop
abbrev TT:=St->Hp->(Bool->Hp->Prop)->Prop
abbrev TA:=St->Hp->(List V->Hp->Prop)->Prop
structure Zdo where
 nx:St->Hp->Prop
 rt:VK
 bk:St->Hp->Prop:=fun _ _=>False
 ct:St->Hp->Prop:=fun _ _=>False
abbrev TS:=Zdo->St->Hp->Prop
def EP (X:Cx) (pins:List (Addr×Obj)) (σ:St) (Q:VK) (u:Value) (s':Shared):Prop:=∃ v H',Inv X pins σ H' s'/\RelV v u/\Q v H'
def TP (X:Cx) (pins:List (Addr×Obj)) (σ:St) (Q:Bool->Hp->Prop) (b:Bool) (s':Shared):Prop:=∃ H',Inv X pins σ H' s'/\Q b H'
def AP (X:Cx) (pins:List (Addr×Obj)) (σ:St) (Q:List V->Hp->Prop) (us:List Value) (s':Shared):Prop:=∃ vs H',Inv X pins σ H' s'/\Vals vs us/\Q vs H'
def SP (X:Cx) (pins:List (Addr×Obj)) (D:Zdo) (f:Flow) (s':Shared):Prop :=
 match f with
 | .next=>∃ σ' H',Inv X pins σ' H' s'/\D.nx σ' H'
 | .brk=>∃ σ' H',Inv X pins σ' H' s'/\D.bk σ' H'
 | .cont=>∃ σ' H',Inv X pins σ' H' s'/\D.ct σ' H'
 | .ret u=>∃ v σ' H',Inv X pins σ' H' s'/\RelV v u/\D.rt v H'
def PE (X:Cx) (e:Expr) (t:TE):Prop :=
 ∀ (pins:List (Addr×Obj)) (s:Shared) (σ:St) (H:Hp) (Q:VK),Inv X pins σ H s->t σ H Q->wpAny (model X.prog X.w) X.A (eval e X.env) (EP X pins σ Q) X.xe s
def PT (X:Cx) (e:Expr) (t:TT):Prop :=
 ∀ (pins:List (Addr×Obj)) (s:Shared) (σ:St) (H:Hp) (Q:Bool->Hp->Prop),Inv X pins σ H s->t σ H Q->wpAny (model X.prog X.w) X.A (isTrue e X.env (eval e X.env)) (TP X pins σ Q) X.xe s
def PW (X:Cx) (e:Expr) (t:TT):Prop :=
 ∀ (whole:Sem Value) (pins:List (Addr×Obj)) (s:Shared) (σ:St) (H:Hp) (Q:Bool->Hp->Prop),Inv X pins σ H s->t σ H Q->wpAny (model X.prog X.w) X.A (isTrue e X.env whole) (TP X pins σ Q) X.xe s
theorem PW.pt {t:TT} (h:PW X e t):PT X e t:=h _
def PA (X:Cx) (es:List Expr) (t:TA):Prop :=
 ∀ (pos:Pos) (pins:List (Addr×Obj)) (s:Shared) (σ:St) (H:Hp) (Q:List V->Hp->Prop),Inv X pins σ H s->t σ H Q->wpAny (model X.prog X.w) X.A (spliced (backTo pos (starEach es X.env))) (AP X pins σ Q) X.xe s
def PS (X:Cx) (st:Stmt) (t:TS):Prop :=
 ∀ (pins:List (Addr×Obj)) (s:Shared) (σ:St) (H:Hp) (D:Zdo),Inv X pins σ H s->t D σ H->wpAny (model X.prog X.w) X.A (exec st X.env) (SP X pins D) X.xe s
def PSs (X:Cx) (st:List Stmt) (t:TS):Prop :=
 ∀ (pins:List (Addr×Obj)) (s:Shared) (σ:St) (H:Hp) (D:Zdo),Inv X pins σ H s->t D σ H->wpAny (model X.prog X.w) X.A (execs st X.env) (SP X pins D) X.xe s
theorem thn {α:Type} {t:Sem α} {Q Q':α->Shared->Prop} {M:Model} (h:wpAny M A t Q E s) (hQ:∀ a s,Q a s->Q' a s):wpAny M A t Q' E s:=wpAny_mono h hQ fun _ _ x=>x
section
variable {X:Cx}
theorem bin {a b:Expr} {ta tb:TE} (ha:PE X a ta) (hb:PE X b tb) {R:V->V->Hp->Prop} (I:Inv X pins σ H s) (h:ta σ H fun x H1=>tb σ H1 fun y H2=>R x y H2)
  {α:Type} {Q:α->Shared->Prop} {f:Value->Value->Sem α}
  (hf:∀ v u s2 x y H2,Inv X pins σ H2 s2->RelV x v->RelV y u->R x y H2->wpAny (model X.prog X.w) X.A (f v u) Q X.xe s2) :
  wpAny (model X.prog X.w) X.A (eval a X.env) (fun v s₁=>wpAny (model X.prog X.w) X.A (eval b X.env) (fun u s₂=>wpAny (model X.prog X.w) X.A (f v u) Q X.xe s₂) X.xe s₁) X.xe s:=by
 refine thn (ha pins s σ H _ I h) fun v s1 ⟨x,H1,I1,r1,q1⟩=>?_;refine thn (hb pins s1 σ H1 _ I1 q1) fun u s2 ⟨y,H2,I2,r2,q2⟩=>?_;exact hf v u s2 x y H2 I2 r1 r2 q2
def ZjN (i:Nat):TE:=fun σ H Q=>∃ v,σ[i]?=some (some v)/\Q v H
def tC (v:V):TE:=fun _ H Q=>Q v H
theorem Zmg (hN:X.N[i]?=some x) (hv:Vis X.env.scope x) (hd:(x==("__debug__" : Str))=false:=by decide) (hcd:(x==("__classdict__" : Str))=false:=by decide):PE X (.Name x pos) (ZjN i):=by
 intro pins s σ H Q I h;obtain⟨v,e,h⟩:=h;obtain⟨m,hn,hl⟩:=I.loc;obtain⟨u,r,l⟩:=hl i x v hN e hv;have fin:EP X pins σ Q u s:=⟨v,H,I,r,h⟩
 rcases l with ⟨hk,hm⟩ | ⟨hk,c,hc,hcell⟩
 ·exact wpAny_Name (wpAny_loadName_local I.ok.kind hk hn hm fin) hd
 ·rcases hk with hk | hk
  ·exact wpAny_Name (wpAny_loadName_cell I.ok.kind hk hc hcell fin) hd
  ·exact wpAny_Name (wpAny_loadName_free I.ok.kind hk hc hcell fin hcd) hd
theorem Zf {i j pos}:PE X (.Constant (.int i) j pos) (tC (.int i)):=fun _ _ _ H _ I h=>wpAny_Constant_int ⟨.int i,H,I.tok _,⟨_,rfl⟩,h⟩
theorem Yf {b j pos}:PE X (.Constant (.bool b) j pos) (tC (.bl b)):=fun _ _ _ H _ I h=>Constant_bool ⟨.bl b,H,I,rfl,h⟩
theorem JE {j pos}:PE X (.Constant .none j pos) (tC .non):=fun _ _ _ H _ I h=>Constant_none ⟨.non,H,I,rfl,h⟩
theorem ZY {x j pos}:PE X (.Constant (.str x) j pos) (tC (.str x)):=fun _ _ _ H _ I h=>Calls.Constant_str ⟨.str x,H,I.tok _,⟨_,rfl⟩,h⟩
def Gl (X:Cx) (x:Str):Prop:=X.env.kindOf x=some .globalImplicit
theorem Zan (I:Inv X pins σ H s) (hg:Gl X x) (hm:X.mg x=some u) (h:Q u s)
  (hd:(x==("__debug__" : Str))=false:=by decide):wpAny (model X.prog X.w) X.A (eval (.Name x pos) X.env) Q E s :=
 Calls.Name_function_global I.ok.kind hg (Calls.loadGlobal_global (by rw[I.ok.glob];exact I.mod.glob.keeps I.bk) hm h) hd
theorem JG (I:Inv X pins σ H s) (hg:Gl X x) (hm:X.mg x=none) (hv:bootBuiltins x=some u) (h:Q u s)
  (hn:x≠"__name__":=by decide) (hd:(x==("__debug__" : Str))=false:=by decide):wpAny (model X.prog X.w) X.A (eval (.Name x pos) X.env) Q E s:=by
 obtain⟨mb,h1,h2⟩:=I.mod.blt;exact Calls.Name_function_global I.ok.kind hg (Calls.loadGlobal_builtin (by rw[I.ok.glob];exact I.mod.glob.keeps I.bk) hm (by rw[I.ok.blt];exact h1.keeps I.bk) ((h2 x hn).trans hv) h) hd
theorem YW (hg:Gl X x) (hm:X.mg x=some u) (r:RelV v u) (hd:(x==("__debug__" : Str))=false:=by decide):PE X (.Name x pos) (tC v) :=
 fun _ _ _ H _ I h=>Zan I hg hm ⟨v,H,I,r,h⟩ hd
theorem ZkZ (hg:Gl X x) (hm:X.mg x=none) (hv:bootBuiltins x=some u) (r:RelV v u) (hn:x≠"__name__":=by decide) (hd:(x==("__debug__" : Str))=false:=by decide):PE X (.Name x pos) (tC v) :=
 fun _ _ _ H _ I h=>JG I hg hm hv ⟨v,H,I,r,h⟩ hn hd
variable {a b:Expr} {ta tb:TE} {pos:Pos}
def PC (X:Cx) (op:CmpOp) (a b:Expr) (t:TE):Prop :=
 ∀ (pins:List (Addr×Obj)) (s:Shared) (σ:St) (H:Hp) (Q:VK),Inv X pins σ H s->t σ H Q ->
  wpAny (model X.prog X.w) X.A (eval a X.env) (fun v s₁=>wpAny (model X.prog X.w) X.A (eval b X.env) (fun u s₂=>wpAny (model X.prog X.w) X.A (compareOp op v u) (EP X pins σ Q) X.xe s₂) X.xe s₁) X.xe s
theorem ZeZ (b:Expr) {op:CmpOp} (h:op≠.In) (h2:op≠.NotIn):behindInMarks op b=false:=by
 have e1:(op==CmpOp.In)=false:=by cases op <;> first | rfl | exact absurd rfl h
 have e2:(op==CmpOp.NotIn)=false:=by cases op <;> first | rfl | exact absurd rfl h2
 cases b <;> simp[behindInMarks,e1,e2]
def tB (t:TE):TT:=fun σ H Q=>t σ H fun x H1=>∃ c,x= .bl c/\Q c H1
theorem Zmi {op:CmpOp} (h:PC X op a b t) (h1:behindInMarks op b=false:=by first | exact ZeZ _ (by decide) (by decide) | rfl):PE X (.Compare a [op] [b] pos) t:=fun pins s σ H Q I hw=>wpAny_Compare1 (h pins s σ H Q I hw) h1
theorem ZaV {op:CmpOp} (h:PC X op a b t) (h1:behindInMarks op b=false:=by first | exact ZeZ _ (by decide) (by decide) | rfl):PT X (.Compare a [op] [b] pos) (tB t):=by
 intro pins s σ H Q I hw;refine wpAny_isTrue_Compare1 (thn (h pins s σ H _ I hw) fun v s1 h1=>thn h1 fun u s2 h2=>thn h2 fun c s3 ⟨x,H1,I1,r1,q1⟩=>?_) h1;obtain⟨d,rfl,q⟩:=q1;cases r1;exact wpAny_truthy_bool ⟨H1,I1,q⟩
theorem YG (h:PE X e t) (he:∀ whole,isTrue e X.env whole=(do let v ←whole;standAt e.pos;holding [v] (truthy v)):=by intro _;rfl):PT X e (tB t):=by
 intro pins s σ H Q I hw;refine isTrue_plain (thn (h pins s σ H _ I hw) fun v s1 ⟨x,H1,I1,r1,q1⟩=>?_) (he _);obtain⟨d,rfl,q⟩:=q1;cases r1;exact wpAny_truthy_bool ⟨H1,I1,q⟩
variable {tA tB':TT} {rest:List Expr}
def Zoy (t u:TT):TT:=fun σ H Q=>t σ H fun c H1=>if c=true then u σ H1 Q else Q false H1
def tOr (t u:TT):TT:=fun σ H Q=>t σ H fun c H1=>if c=true then Q true H1 else u σ H1 Q
def Zoq (t:TT):TT:=fun σ H Q=>t σ H fun c H1=>Q (!c) H1
theorem ZbA (ha:PT X a tA):PW X (.BoolOp .And [a] pos) tA:=by
 intro wh pins s σ H Q I h;refine isTrue_and (thn (ha pins s σ H Q I h) fun c s1 e=>?_);cases c with
 | true=>exact isTrue_and_nil e
 | false=>exact e
theorem Zad (ha:PT X a tA):PW X (.BoolOp .Or [a] pos) tA:=by
 intro wh pins s σ H Q I h;refine isTrue_or (thn (ha pins s σ H Q I h) fun c s1 e=>?_);cases c with
 | false=>exact isTrue_or_nil e
 | true=>exact e
theorem Zco (ha:PT X a tA) (hb:PW X (.BoolOp .And (b::rest) pos) tB'):PW X (.BoolOp .And (a::b::rest) pos) (Zoy tA tB'):=by
 intro wh pins s σ H Q I h;refine isTrue_and (thn (ha pins s σ H _ I h) fun c s1 ⟨H1,I1,q1⟩=>?_);cases c with
 | true=>exact hb wh pins s1 σ H1 Q I1 q1
 | false=>exact⟨H1,I1,q1⟩
theorem Zbz (ha:PT X a tA) (hb:PW X (.BoolOp .Or (b::rest) pos) tB'):PW X (.BoolOp .Or (a::b::rest) pos) (tOr tA tB'):=by
 intro wh pins s σ H Q I h;refine isTrue_or (thn (ha pins s σ H _ I h) fun c s1 ⟨H1,I1,q1⟩=>?_);cases c with
 | true=>exact⟨H1,I1,q1⟩
 | false=>exact hb wh pins s1 σ H1 Q I1 q1
theorem Xe (ha:PT X a tA):PT X (.UnaryOp .Not a pos) (Zoq tA):=by
 intro pins s σ H Q I h;exact isTrue_not (ha pins s σ H (fun c H1=>Q (!c) H1) I h)
def Zns (ta tb:TE):TE:=fun σ H Q=>ta σ H fun x H1=>∃ c,x= .bl c/\if c=true then tb σ H1 Q else Q (.bl false) H1
def Znl (ta:TE):TE:=fun σ H Q=>ta σ H fun x H1=>∃ c,x= .bl c/\Q (.bl (!c)) H1
theorem ZeS {op} (h:PE X a t):PE X (.BoolOp op [a] pos) t:=fun pins s σ H Q I hw=>BoolOp_one (h pins s σ H Q I hw)
theorem ZeT (ha:PE X a ta) (hb:PE X (.BoolOp .And (b::rest) pos) tb):PE X (.BoolOp .And (a::b::rest) pos) (Zns ta tb):=by
 intro pins s σ H Q I h;refine BoolOp_and (thn (ha pins s σ H _ I h) fun v s1 ⟨x,H1,I1,r1,q1⟩=>?_);obtain⟨c,rfl,q1⟩:=q1;cases r1;refine wpAny_truthy_bool ?_;cases c with
 | true=>exact hb pins s1 σ H1 Q I1 q1
 | false=>exact⟨.bl false,H1,I1,rfl,q1⟩
theorem Zhd (ha:PE X a ta):PE X (.UnaryOp .Not a pos) (Znl ta):=by
 intro pins s σ H Q I h;refine UnaryOp_ (thn (ha pins s σ H _ I h) fun v s1 ⟨x,H1,I1,r1,q1⟩=>?_);obtain⟨c,rfl,q1⟩:=q1;cases r1;exact not_of (wpAny_truthy_bool ⟨.bl (!c),H1,I1,rfl,q1⟩)
end
def SqL (K:PySem.W.Frag) (H:Hp) (a:Addr) (xs:List V):Prop :=
 Rd H a (.lst xs) \/
  ∃ (o:Obj) (its:Array Value) (n:Nat),K.lookup a=some o/\o.cls= .type "list"/\o.dict=none/\o.data= .seq its n/\its.size<=sizeLine/\Vals xs its.toList
def SqT (K:PySem.W.Frag) (H:Hp) (a:Addr) (xs:List V):Prop :=
 Rd H a (.tup xs) \/
  ∃ (o:Obj) (its:Array Value) (n:Nat),K.lookup a=some o/\o.cls= .type "tuple"/\o.data= .seq its n/\its.size<=sizeLine/\Vals xs its.toList
def ZoL:Value->Option V
 | .none=>some .non
 | .bool b=>some (.bl b)
 | .int i _=>some (.int i)
 | .str x _=>some (.str x)
 | .bytes b _=>some (.byt b)
 | .float b _=>some (.flt b)
 | .ref a=>some (.ref a)
 | .type n=>some (.ty n)
 | _=>none
theorem RelV.abs {x:V} (r:RelV x u):ZoL u=some x:=by
 cases x with
 | non=>cases r;rfl
 | bl _=>cases r;rfl
 | int _=>obtain⟨t,rfl⟩:=r;rfl
 | str _=>obtain⟨t,rfl⟩:=r;rfl
 | byt _=>obtain⟨t,rfl⟩:=r;rfl
 | flt _=>obtain⟨t,rfl⟩:=r;rfl
 | ref _=>cases r;rfl
 | ty _=>cases r;rfl
theorem RelV.inj {x y:V} (r:RelV x u) (q:RelV y u):x=y:=Option.some.inj (r.abs.symm.trans q.abs)
theorem Vals.inj:∀ {xs ys:List V} {us:List Value},Vals xs us->Vals ys us->xs=ys
 | _,_,_,.nil,.nil=>rfl
 | _,_,_,.cons r t,.cons r' t'=>by rw[r.inj r',Vals.inj t t']
section
variable {X:Cx} {pins:List (Addr×Obj)} {σ:St} {H:Hp} {s:Shared} {a:Addr} {xs ys:List V}
theorem SqL.of {K:PySem.W.Frag} (h:H a=some (.lst xs)):SqL K H a xs:=.inl (.inl h)
theorem SqT.of {K:PySem.W.Frag} (h:H a=some (.tup xs)):SqT K H a xs:=.inl (.inl h)
theorem Inv.list (I:Inv X pins σ H s) (h:SqL X.K H a xs):∃ its:List Value,Vals xs its/\PlainL s.heap a its.toArray/\xs.length<=sizeLine:=by
 rcases h with h | ⟨o,its,n,hk,hc,hd,hs,hz,r⟩
 ·obtain⟨z,its,n,r,e⟩:=h.ok I.hok;exact⟨its,r,⟨_,n,e,rfl,rfl,rfl⟩,z⟩
 ·refine⟨its.toList,r,⟨o,n,I.kIn a o hk,hc,hd,by simpa using hs⟩,?_⟩;have e:=r.length;simp only[QK]at e;omega
theorem Inv.tuple (I:Inv X pins σ H s) (h:SqT X.K H a xs):∃ its:List Value,Vals xs its/\IsTup s.heap a its.toArray/\xs.length<=sizeLine:=by
 rcases h with h | ⟨o,its,n,hk,hc,hs,hz,r⟩
 ·obtain⟨z,its,r,p,_⟩:=h.ok I.hok;exact⟨its,r,p,z⟩
 ·refine⟨its.toList,r,⟨o,I.kIn a o hk,hc,n,by simpa using hs⟩,?_⟩;have e:=r.length;simp only[QK]at e;omega
theorem Inv.list_inj (I:Inv X pins σ H s) (h:SqL X.K H a xs) (h':SqL X.K H a ys):xs=ys:=by
 obtain⟨its,r,⟨o,n,e,_,_,d⟩,_⟩:=I.list h;obtain⟨its',r',⟨o',n',e',_,_,d'⟩,_⟩:=I.list h';rw[e]at e';cases e';rw[d]at d';injection d' with d1 _
 have:its=its':=by simpa using congrArg RH d1
 subst this;exact r.inj r'
theorem Inv.tuple_inj (I:Inv X pins σ H s) (h:SqT X.K H a xs) (h':SqT X.K H a ys):xs=ys:=by
 obtain⟨its,r,⟨o,e,_,n,d⟩,_⟩:=I.tuple h;obtain⟨its',r',⟨o',e',_,n',d'⟩,_⟩:=I.tuple h';rw[e]at e';cases e';rw[d]at d';injection d' with d1 _
 have:its=its':=by simpa using congrArg RH d1
 subst this;exact r.inj r'
end
abbrev Cx.wish (X:Cx) (E:Value->Shared->Prop):Cx:={X with xe:=E}
abbrev Cx.nox (X:Cx):Cx:=X.wish fun _ _=>False
theorem Cx.Ok.wish (ok:X.Ok) (E:Value->Shared->Prop):(X.wish E).Ok :=
 ⟨ok.mod,ok.kind,ok.glob,ok.blt,ok.above,ok.inj,ok.has,ok.cab,ok.hd,ok.frames,ok.stk,ok.exf,ok.bs,ok.bsz,ok.noex,ok.exfs,ok.funs,ok.frf⟩
theorem Cx.Ok.unwish (ok:(X.wish E).Ok):X.Ok :=
 ⟨ok.mod,ok.kind,ok.glob,ok.blt,ok.above,ok.inj,ok.has,ok.cab,ok.hd,ok.frames,ok.stk,ok.exf,ok.bs,ok.bsz,ok.noex,ok.exfs,ok.funs,ok.frf⟩
section
variable {X:Cx} {pins:List (Addr×Obj)} {σ:St} {H:Hp} {s:Shared} {E:Value->Shared->Prop}
theorem Inv.wish (I:Inv X pins σ H s) (E:Value->Shared->Prop):Inv (X.wish E) pins σ H s:=⟨I.ok.wish E,I.os,I.bare,I.base,I.loc,I.cell,I.free,I.freeC,I.pin,I.hok,I.len⟩
theorem Inv.unwish (I:Inv (X.wish E) pins σ H s):Inv X pins σ H s:=⟨I.ok.unwish,I.os,I.bare,I.base,I.loc,I.cell,I.free,I.freeC,I.pin,I.hok,I.len⟩
theorem SP.unwish {D:Zdo} {f:Flow} {s':Shared} (h:SP (X.wish E) pins D f s'):SP X pins D f s':=by
 cases f with
 | next=>obtain⟨σ',H',I,q⟩:=h;exact⟨σ',H',I.unwish,q⟩
 | brk=>obtain⟨σ',H',I,q⟩:=h;exact⟨σ',H',I.unwish,q⟩
 | cont=>obtain⟨σ',H',I,q⟩:=h;exact⟨σ',H',I.unwish,q⟩
 | ret u=>obtain⟨v,σ',H',I,r,q⟩:=h;exact⟨v,σ',H',I.unwish,r,q⟩
theorem PE.nox (h:PE X.nox e t):PE X e t:=fun pins s σ H Q I hw =>
 wpAny_mono (h pins s σ H Q (I.wish _) hw) (fun _ _ ⟨v,H',I',r,q⟩=>⟨v,H',I'.unwish,r,q⟩) fun _ _ z=>False.elim z
theorem PT.nox {t:TT} (h:PT X.nox e t):PT X e t:=fun pins s σ H Q I hw =>
 wpAny_mono (h pins s σ H Q (I.wish _) hw) (fun _ _ ⟨H',I',q⟩=>⟨H',I'.unwish,q⟩) fun _ _ z=>False.elim z
theorem PSs.nox {st:List Stmt} {t:TS} (h:PSs X.nox st t):PSs X st t:=fun pins s σ H D I hw =>
 wpAny_mono (h pins s σ H D (I.wish _) hw) (fun _ _ q=>q.unwish) fun _ _ z=>False.elim z
end
section
variable {X:Cx} {st:Stmt} {rest:List Stmt} {t u:TS} {e:Expr} {te:TE} {pos:Pos}
def Znm:TS:=fun D σ H=>D.nx σ H
def Zdm (t u:TS):TS:=fun D σ H=>t {D with nx:=u D} σ H
theorem Zx:PSs X [] Znm:=fun _ _ σ H _ I h=>wpAny_execs_nil ⟨σ,H,I,h⟩
theorem Ze (h1:PS X st t) (h2:PSs X rest u):PSs X (st::rest) (Zdm t u):=by
 intro pins s σ H D I h;refine wpAny_execs_cons (thn (h1 pins s σ H {D with nx:=u D} I h) fun f s1 q=>?_);cases f with
 | next =>
  obtain⟨σ',H',I',q⟩:=q;exact h2 pins s1 σ' H' D I' q
 | ret v=>exact q
 | brk=>exact q
 | cont=>exact q
theorem Zi (h1:PS X st t):PSs X [st] t:=by
 intro pins s σ H D I h;refine wpAny_execs_cons (thn (h1 pins s σ H D I h) fun f s1 q=>?_);cases f with
 | next=>exact wpAny_execs_nil q
 | ret v=>exact q
 | brk=>exact q
 | cont=>exact q
theorem Inv.quiet (I:Inv X pins σ H s):interactive X.env=false:=by simp[interactive,I.ok.kind]
def Znn (te:TE):TS:=fun D σ H=>te σ H fun _ H1=>D.nx σ H1
theorem Z8 (he:PE X e te) (hs:swapsWith e none pos.line X.env=pure false:=by rfl):PS X (.Expr e pos) (Znn te):=by
 intro pins s σ H D I h;exact wpAny_Expr_any (thn (he pins s σ H _ I h) fun v s1 ⟨x,H1,I1,r1,q1⟩=>⟨σ,H1,I1,q1⟩) I.quiet hs
def Zop (te:TE):TS:=fun D σ H=>te σ H D.rt
theorem Zq (he:PE X e te):PS X (.Return (some e) pos) (Zop te):=by
 intro pins s σ H D I h;exact wpAny_Return_some (thn (he pins s σ H _ I h) fun v s1 ⟨x,H1,I1,r1,q1⟩=>⟨x,σ,H1,I1,r1,q1⟩)
def Zgf (c:TT) (t u:TS):TS:=fun D σ H=>c σ H fun b H1=>if b=true then t D σ H1 else u D σ H1
theorem Z2 {c:Expr} {a b:List Stmt} {tc:TT} (hc:PT X c tc) (ha:PSs X a t) (hb:PSs X b u):PS X (.If c a b pos) (Zgf tc t u):=by
 intro pins s σ H D I h;refine wpAny_If (thn (hc pins s σ H _ I h) fun d s1 ⟨H1,I1,q1⟩=>?_);cases d with
 | true=>exact ha pins s1 σ H1 D I1 q1
 | false=>exact hb pins s1 σ H1 D I1 q1
def ZlO:TS:=fun _ _ _=>False
theorem Zg4 {sts:List Stmt}:PSs X sts ZlO:=fun _ _ _ _ _ _ h=>h.elim
end
abbrev TG:=V->St->Hp->(St->Hp->Prop)->Prop
abbrev TGs:=List V->St->Hp->(St->Hp->Prop)->Prop
def PG (X:Cx) (target:Expr) (t:TG):Prop :=
 ∀ (pins:List (Addr×Obj)) (s:Shared) (σ:St) (H:Hp) (v:V) (u:Value) (Q:St->Hp->Prop),Inv X pins σ H s->RelV v u->t v σ H Q ->
  wpAny (model X.prog X.w) X.A (assign target X.env u) (fun _ s'=>∃ σ' H',Inv X pins σ' H' s'/\Q σ' H') X.xe s
def PGs (X:Cx) (ts:List Expr) (t:TGs):Prop :=
 ∀ (pins:List (Addr×Obj)) (s:Shared) (σ:St) (H:Hp) (vs:List V) (us:List Value) (Q:St->Hp->Prop),Inv X pins σ H s->Vals vs us->t vs σ H Q ->
  wpAny (model X.prog X.w) X.A (assignInOrder ((assignEach ts X.env).map (·.2)) us) (fun _ s'=>∃ σ' H',Inv X pins σ' H' s'/\Q σ' H') X.xe s
section
variable {X:Cx} {pos:Pos}
def XL (i:Nat):TG:=fun v σ H Q=>Q (σ.set i (some v)) H
theorem ZI (hN:X.N.Nodup) (hi:X.N[i]?=some x) (hx:Loc X.env.scope x) (hf:X.fn x=true\/X.env.scope.names.lookup x=some .local:=by first | exact .inl rfl | exact .inr rfl | assumption):PG X (.Name x pos) (XL i):=by
 intro pins s σ H v u Q I r h;exact wpAny_assign_Name (Zbl I hN hi hx r (fun s' I'=>⟨_,H,I',h⟩) hf)
def Zoi:TGs:=fun vs σ H Q=>vs=[]/\Q σ H
def Zln (t:TG) (u:TGs):TGs:=fun vs σ H Q=>∃ v r,vs=v::r/\t v σ H fun σ' H'=>u r σ' H' Q
theorem Yb:PGs X [] Zoi:=by
 intro pins s σ H vs us Q I r h;obtain⟨e,h⟩:=h;subst e;cases r;exact assignInOrder_nil ⟨σ,H,I,h⟩
theorem Zw {es:List Expr} {t:TG} {u:TGs} (h1:PG X e t) (h2:PGs X es u)
  (hs:(assignEach (e::es) X.env).map (·.2)=assign e X.env::(assignEach es X.env).map (·.2):=by rfl):PGs X (e::es) (Zln t u):=by
 intro pins s σ H vs us Q I r h;obtain⟨v,vr,e1,h⟩:=h;subst e1;cases r with
 | cons r rr =>
  rw[hs];refine assignInOrder_cons (thn (h1 pins s σ H _ _ _ I r h) fun _ s1 ⟨σ1,H1,I1,q1⟩=>?_);exact h2 pins s1 σ1 H1 _ _ Q I1 rr q1
def ZnP (K:PySem.W.Frag) (n:Nat) (t:TGs):TG:=fun v σ H Q=>∃ a xs,v= .ref a/\SqT K H a xs/\xs.length=n/\t xs σ H Q
theorem Zmf {es:List Expr} {t:TGs} (hc:X.calm=true) (h:PGs X es t)
  (hn:(assignEach es X.env).length=n:=by rfl) (hst:(assignEach es X.env).findIdx? (·.1)=none:=by rfl):PG X (.Tuple es k pos) (ZnP X.K n t):=by
 intro pins s σ H v u Q I r hw;obtain⟨a,xs,e1,hq,hl,hw⟩:=hw;subst e1;cases r;obtain⟨its,rv,ht,hz⟩:=I.tuple hq;refine assign_Tuple_tuple (I.ok.hd hc) ht (by simp[hn,←hl,rv.length]) hst fun h' hx=>?_;have I1:Inv X pins σ H {s with heap:=h'}:=I.kept (t':=s.toks) fun b o e=>hx b o (QC (Qu e)) e;exact h pins _ σ H xs _ Q I1 (by simpa using rv) hw
def Zn7 (te:TE) (g:TG):TS:=fun D σ H=>te σ H fun x H1=>g x σ H1 D.nx
theorem Zm {te:TE} {pos':Pos} (hN:X.N.Nodup) (hi:X.N[i]?=some x) (hx:Loc X.env.scope x) (he:PE X e te) (hs:swapsWith e (some (.Name x pos')) pos.line X.env=pure false:=by rfl) (hf:X.fn x=true\/X.env.scope.names.lookup x=some .local:=by first | exact .inl rfl | exact .inr rfl | assumption) :
  PS X (.Assign [.Name x pos'] e pos) (Zn7 te (XL i)):=by
 intro pins s σ H D I h;refine wpAny_Assign_Name (thn (he pins s σ H _ I h) fun v s1 ⟨y,H1,I1,r1,q1⟩=>?_) hs;exact Zbl I1 hN hi hx r1 (fun s2 I2=>⟨_,H1,I2,q1⟩) hf
def Zey (c:TT) (tb:TS):TS:=fun D σ H=>∃ W:Nat->St->Hp->Prop,(∃ m,W m σ H)/\∀ m σ H,W m σ H ->
 c σ H fun b H1=>if b=true then ∃ N:St->Hp->Prop,(∀ σ' H',N σ' H'->∃ m',m'<m/\W m' σ' H')/\tb {D with nx:=N,ct:=N,bk:=D.nx} σ H1 else D.nx σ H1
theorem ZbB {c:Expr} {tc:TT} (hp:PassesOwn (model X.prog X.w) X.A X.env X.xe) (hc:PT X c tc) (hb:PSs X body tb):PS X (.While c body [] pos) (Zey tc tb):=by
 intro pins s σ H D I h;obtain⟨W,⟨m0,w0⟩,turn⟩:=h;refine wpAny_While (codeAny_whileLoop (fun n s'=>∃ σ' H',Inv X pins σ' H' s'/\W n σ' H') ?_ m0 ⟨σ,H,I,w0⟩);rintro n s1 ⟨σ1,H1,I1,w1⟩;refine wpAny_passesOwn hp (thn (hc pins s1 σ1 H1 _ I1 (turn n σ1 H1 w1)) fun b s2 ⟨H2,I2,q2⟩=>?_);cases b with
 | true =>
  obtain⟨N,hN,q2⟩:=q2;rw[if_pos rfl];refine wpAny_passesOwn hp (thn (hb pins s2 σ1 H2 _ I2 q2) fun f s3 q3=>?_);cases f with
  | next =>
   obtain⟨σ3,H3,I3,n3⟩:=q3;obtain⟨m',hm,w3⟩:=hN σ3 H3 n3;exact⟨m',hm,σ3,H3,I3,w3⟩
  | cont =>
   obtain⟨σ3,H3,I3,n3⟩:=q3;obtain⟨m',hm,w3⟩:=hN σ3 H3 n3;exact⟨m',hm,σ3,H3,I3,w3⟩
  | brk=>exact q3
  | ret v=>exact q3
 | false =>
  rw[if_neg QL];exact wpAny_execs_nil ⟨σ1,H2,I2,q2⟩
end
structure It where
 go:Nat->Hp->Prop
 yld:Nat->Hp->V->Hp->Prop
 stop:Nat->Hp->Prop
def ZfW (X:Cx) (pins:List (Addr×Obj)) (H:Hp) (b:Addr):Prop :=
 H b=none/\b≠X.env.locals/\b∉X.fs/\(b∈X.ex\/X.s₀.heap.objs.size<=b)/\(∀ x c,X.env.cells.lookup x=some c->c≠b)/\∀ p∈X.pn++pins,p.1≠b
theorem Inv.fpOk {b:Addr} (I:Inv X pins σ H s) (hb:s.heap.objs.size<=b) (hn:H' b=none):ZfW X pins H' b:=by
 refine⟨hn,Rg (Q2 I.lt hb),I.nofs hb,.inr (Wg I.sz hb),fun x c e z=>?_,fun p hp z=>?_⟩
 ·obtain⟨v,q⟩:=I.cell x c e;exact absurd (Q2 q.lt (by rw[z];exact hb)) (Wu _)
 ·exact absurd (Q2 (Qu (I.pin p hp).1) (by rw[z];exact hb)) (Wu _)
structure Zku (P:Program) (w:World) (K:PySem.W.Frag) (tg:Expr) (J:It) (fp:List Addr) (it:Addr) (tn:Nat->Heap->Prop):Prop where
 mem:it∈fp
 obj:∀ i h,tn i h->∀ b∈fp,∃ o,h.get? b=some o/\∀ v,o.data≠.cell v
 keep:∀ i h h',tn i h->(∀ b∈fp,∀ o,h.get? b=some o->h'.get? b=some o)->tn i h'
 item:∀ (X:Cx),X.prog=P->X.w=w->X.K=K->X.calm=true->∀ (i:Nat) (pins:List (Addr×Obj)) (s:Shared) (σ:St) (H:Hp) (E:Value->Shared->Prop),Inv X pins σ H s->(∀ b∈fp,ZfW X pins H b)->tn i s.heap->J.go i H ->
  wpAny (model P w) X.A (pyNext (.ref it)) (fun r s1=>∃ u,r=some u /\
   wpAny (model P w) X.A (letOwnedTupleGo tg (.ref it) u) (fun _ s2=>∃ x H',Inv X pins σ H' s2/\RelV x u/\J.yld i H x H'/\tn (i+1) s2.heap/\∀ b∈fp,H' b=none) E s1) E s
 done:∀ (X:Cx),X.prog=P->X.w=w->X.K=K->X.calm=true->∀ (i:Nat) (pins:List (Addr×Obj)) (s:Shared) (σ:St) (H:Hp) (E:Value->Shared->Prop),Inv X pins σ H s->(∀ b∈fp,ZfW X pins H b)->tn i s.heap->J.stop i H ->
  wpAny (model P w) X.A (pyNext (.ref it)) (fun r s1=>r=none/\Inv X pins σ H s1) E s
 self:∀ (A:Around) (i:Nat) (s:Shared) (Q:Value->Shared->Prop) (E:Value->Shared->Prop),tn i s.heap->Q (.ref it) s->wpAny (model P w) A (pyIter (.ref it)) Q E s
abbrev TI:=St->Hp->(It->Hp->Prop)->Prop
def PIE (X:Cx) (pins:List (Addr×Obj)) (σ:St) (tg:Expr) (R:It->Hp->Prop) (itv:Value) (s2:Shared):Prop :=
 ∃ (it:Addr) (fp:List Addr) (tn:Nat->Heap->Prop) (J:It) (H':Hp),itv= .ref it/\Inv X pins σ H' s2/\Zku X.prog X.w X.K tg J fp it tn/\tn 0 s2.heap/\(∀ b∈fp,ZfW X pins H' b)/\R J H'
def PI (X:Cx) (tg iter:Expr) (wi:TI):Prop :=
 ∀ (pins:List (Addr×Obj)) (s:Shared) (σ:St) (H:Hp) (R:It->Hp->Prop),Inv X pins σ H s->wi σ H R ->
  wpAny (model X.prog X.w) X.A (eval iter X.env) (fun v s1=>wpAny (model X.prog X.w) X.A (pyIter v) (PIE X pins σ tg R) X.xe s1) X.xe s
theorem Zh0 {M:Model} {it:Addr} {n:String} {vs:Array Value} {Q:Unit->Shared->Prop} (ho:s.heap.get? it=some o) (hc:o.cls= .type n) (hd:o.data= .fields vs)
  (hn:["enumerate","zip","dict_itemiterator","dict_reverseitemiterator","odict_iterator","itertools.zip_longest","itertools.pairwise"].contains n=false) (hQ:Q () s):wpAny M A (letOwnedTupleGo tg (.ref it) u) Q E s:=by
 unfold letOwnedTupleGo;cases tg <;> first
  | exact wpAny_pure hQ
  | (cases u <;> first
    | exact wpAny_pure hQ
    | (refine wpAny_bind (wpAny_load ho ?_)
       rw[hc,hd];show wpAny M A (if (["enumerate","zip","dict_itemiterator","dict_reverseitemiterator","odict_iterator","itertools.zip_longest","itertools.pairwise"].contains n&&vs[0]? == some (rawInt _))=true then _ else _) Q E s;rw[if_neg (by intro h;rw[hn,Rv]at h;cases h)];exact wpAny_pure hQ))
def Itl (K:PySem.W.Frag) (a:Addr):It :=
 ⟨fun i H=>∃ xs x,SqL K H a xs/\xs[i]?=some x,fun i H x H'=>H'=H/\∀ xs,SqL K H a xs->xs[i]?=some x,fun i H=>∃ xs,SqL K H a xs/\xs.length<=i⟩
def Itt (K:PySem.W.Frag) (a:Addr):It :=
 ⟨fun i H=>∃ xs x,SqT K H a xs/\xs[i]?=some x,fun i H x H'=>H'=H/\∀ xs,SqT K H a xs->xs[i]?=some x,fun i H=>∃ xs,SqT K H a xs/\xs.length<=i⟩
def Itr (lo:Int) (n:Nat):It:=⟨fun i _=>i<n,fun i H x H'=>H'=H/\x= .int (lo+i),fun i _=>n<=i⟩
theorem Zga {P:Program} {w:World} {K:PySem.W.Frag} (a it:Addr):Zku P w K tg (Itl K a) [it] it (fun i h=>h.IsListIter it a i) where
 mem:=by simp
 obj:=fun i h st b hb=>by
  have e:b=it:=by simpa using hb
  subst e;obtain⟨o,e,c,d⟩:=st;exact⟨o,e,fun v z=>by rw[d]at z;cases z⟩
 keep:=fun i h h' st k=>st.at fun o e=>k it (by simp) o e
 item:=by
  intro X hP hw hK hc i pins s σ H E I hf st hg;subst hP hw hK;obtain⟨xs,x,hq,hx⟩:=hg;obtain⟨its,rv,p,hz⟩:=I.list hq;obtain⟨u,hu,ru⟩:=rv.get hx;obtain⟨f0,f1,f2,f3,f4,f5⟩:=hf it (by simp);refine wpAny_pyNext_list_item st p.isList (x:=u) (by simpa using hu) fun h' st' sb=>?_;have I1:Inv X pins σ H {s with heap:=h'}:=I.turned (t':=s.toks) (fun b o hb e=>(sb.2 b hb).trans e) f0 f1 f3 f4 f5;obtain⟨o,e,c,d⟩:=id st';exact⟨u,rfl,Zh0 (s:={s with heap:=h'}) e c d (by decide) ⟨x,H,I1,ru,⟨rfl,fun ys hy=>by rw[I.list_inj hy hq];exact hx⟩,st',fun b hb=>(hf b hb).1⟩⟩
 done:=by
  intro X hP hw hK hc i pins s σ H E I hf st hg;subst hP hw hK;obtain⟨xs,hq,hx⟩:=hg;obtain⟨its,rv,p,hz⟩:=I.list hq;obtain⟨f0,f1,f2,f3,f4,f5⟩:=hf it (by simp);have hl:=rv.length;exact wpAny_pyNext_list_end (I.ok.hd hc) st p.isList (by simp;omega) fun h' eb=>⟨rfl,I.turned (t':=s.toks) (fun b o hb e=>eb b o hb e) f0 f1 f3 f4 f5⟩
 self:=fun _ _ _ _ _ st h=>wpAny_pyIter_listiter st h
theorem Zfr {P:Program} {w:World} {K:PySem.W.Frag} (a it:Addr):Zku P w K tg (Itt K a) [it] it (fun i h=>h.IsTupleIter it a i) where
 mem:=by simp
 obj:=fun i h st b hb=>by
  have e:b=it:=by simpa using hb
  subst e;obtain⟨o,e,c,d⟩:=st;exact⟨o,e,fun v z=>by rw[d]at z;cases z⟩
 keep:=fun i h h' st k=>st.at fun o e=>k it (by simp) o e
 item:=by
  intro X hP hw hK hc i pins s σ H E I hf st hg;subst hP hw hK;obtain⟨xs,x,hq,hx⟩:=hg;obtain⟨its,rv,p,hz⟩:=I.tuple hq;obtain⟨u,hu,ru⟩:=rv.get hx;obtain⟨f0,f1,f2,f3,f4,f5⟩:=hf it (by simp);refine wpAny_pyNext_tuple_item st (show s.heap.IsTuple a its.toArray from p) (x:=u) (by simpa using hu) fun h' st' sb=>?_;have I1:Inv X pins σ H {s with heap:=h'}:=I.turned (t':=s.toks) (fun b o hb e=>(sb.2 b hb).trans e) f0 f1 f3 f4 f5;obtain⟨o,e,c,d⟩:=id st';exact⟨u,rfl,Zh0 (s:={s with heap:=h'}) e c d (by decide) ⟨x,H,I1,ru,⟨rfl,fun ys hy=>by rw[I.tuple_inj hy hq];exact hx⟩,st',fun b hb=>(hf b hb).1⟩⟩
 done:=by
  intro X hP hw hK hc i pins s σ H E I hf st hg;subst hP hw hK;obtain⟨xs,hq,hx⟩:=hg;obtain⟨its,rv,p,hz⟩:=I.tuple hq;obtain⟨f0,f1,f2,f3,f4,f5⟩:=hf it (by simp);have hl:=rv.length;exact wpAny_pyNext_tuple_end (I.ok.hd hc) st (show s.heap.IsTuple a its.toArray from p) (by simp;omega) fun h' eb=>⟨rfl,I.turned (t':=s.toks) (fun b o hb e=>eb b o hb e) f0 f1 f3 f4 f5⟩
 self:=fun _ _ _ _ _ st h=>wpAny_pyIter_tupleiter st h
theorem Zfs {P:Program} {w:World} {K:PySem.W.Frag} (it:Addr) (lo:Int) (n:Nat):Zku P w K tg (Itr lo n) [it] it (fun i h=>IsRangeIter h it (lo+(i:Nat)*1) ((n:Int)-(i:Nat)) 1) where
 mem:=by simp
 obj:=fun i h st b hb=>by
  have e:b=it:=by simpa using hb
  subst e;exact⟨_,st,fun v z=>by
   have z':Data.fields _=Data.cell v:=z;cases z'⟩
 keep:=fun i h h' st k=>k it (by simp) _ st
 item:=by
  intro X hP hw hK hc i pins s σ H E I hf st hg;subst hP hw hK;obtain⟨f0,f1,f2,f3,f4,f5⟩:=hf it (by simp);have W:=Walks.range (prog:=X.prog) (w:=X.w) (I.ok.hd hc) it lo 1 n;refine W.item i s _ _ hg st fun v h' tk hv st' kk=>?_;obtain⟨t,rfl⟩:=hv;have I1:Inv X pins σ H {s with heap:=h',toks:=tk}:=I.turned (fun b o hb e=>kk b o (by simpa using hb) e) f0 f1 f3 f4 f5;refine⟨_,rfl,Zh0 (s:={s with heap:=h',toks:=tk}) (n:="range_iterator") st' rfl rfl (by decide) ⟨.int (lo+i),H,I1,⟨t,?_⟩,⟨rfl,rfl⟩,st',fun b hb=>(hf b hb).1⟩⟩;rw[Rq]
 done:=by
  intro X hP hw hK hc i pins s σ H E I hf st hg;subst hP hw hK;obtain⟨f0,f1,f2,f3,f4,f5⟩:=hf it (by simp);exact wpAny_pyNext_range_end (I.ok.hd hc) st (by have:n<=i:=hg;omega) fun h' eb=>⟨rfl,I.turned (t':=s.toks) (fun b o hb e=>eb b o hb e) f0 f1 f3 f4 f5⟩
 self:=fun _ _ _ _ _ st h=>wpAny_pyIter_rangeiter st h
section
variable {X:Cx} {tg:Expr}
def ZnN (K:PySem.W.Frag) (tl:TE):TI:=fun σ H R=>tl σ H fun x H1=>∃ a,x= .ref a/\(∃ xs,SqL K H1 a xs)/\R (Itl K a) H1
def Zoh (K:PySem.W.Frag) (tl:TE):TI:=fun σ H R=>tl σ H fun x H1=>∃ a,x= .ref a/\(∃ xs,SqT K H1 a xs)/\R (Itt K a) H1
theorem Ym {l:Expr} {tl:TE} (hl:PE X l tl):PI X tg l (ZnN X.K tl):=by
 intro pins s σ H R I h;refine thn (hl pins s σ H _ I h) fun v s1 ⟨x,H1,I1,r1,q1⟩=>?_;obtain⟨a,e,⟨xs,hq⟩,q⟩:=q1;subst e;cases r1;obtain⟨its,rv,p,hz⟩:=I1.list hq;refine wpAny_pyIter_list p.isList ?_;refine⟨s1.heap.objs.size,[s1.heap.objs.size],_,_,H1,rfl,I1.kept (t':=s1.toks) fun b o e=>Qh _ e,Zga a _,⟨_,Qx _ rfl,rfl,rfl⟩,fun b hb=>?_,q⟩;have e:b=s1.heap.objs.size:=by simpa using hb
 subst e;exact I1.fpOk (Qk _) (I1.hok.fresh (Qk _))
theorem Yy {l:Expr} {tl:TE} (hl:PE X l tl):PI X tg l (Zoh X.K tl):=by
 intro pins s σ H R I h;refine thn (hl pins s σ H _ I h) fun v s1 ⟨x,H1,I1,r1,q1⟩=>?_;obtain⟨a,e,⟨xs,hq⟩,q⟩:=q1;subst e;cases r1;obtain⟨its,rv,p,hz⟩:=I1.tuple hq;refine wpAny_pyIter_tuple (show s1.heap.IsTuple a its.toArray from p) ?_;refine⟨s1.heap.objs.size,[s1.heap.objs.size],_,_,H1,rfl,I1.kept (t':=s1.toks) fun b o e=>Qh _ e,Zfr a _,⟨_,Qx _ rfl,rfl,rfl⟩,fun b hb=>?_,q⟩;have e:b=s1.heap.objs.size:=by simpa using hb
 subst e;exact I1.fpOk (Qk _) (I1.hok.fresh (Qk _))
theorem ZeP {R:It->Hp->Prop} {lo hi:Int} {t u v:Tok} {tk:Nat} (I:Inv X pins σ H s) (h1 : -(2 ^ 62)<=lo) (h2:lo<2 ^ 62) (h3 : -(2 ^ 62)<=hi) (h4:hi<2 ^ 62)
  (q:R (Itr lo (hi-lo).toNat) H):wpAny (model X.prog X.w) X.A (pyIter (.ref s.heap.objs.size)) (PIE X pins σ tg R) E {s with heap:=s.heap.push {cls:=.type "range",data:=.fields #[.int lo t,.int hi u,.int 1 v]},toks:=tk}:=by
 refine wpAny_pyIter_range (IsRange.new ..) (small_one h1 h2 h3 h4) ?_;have I1:Inv X pins σ H {s with heap:=s.heap.push {cls:=.type "range",data:=.fields #[.int lo t,.int hi u,.int 1 v]},toks:=tk}:=I.kept fun b o e=>Qh _ e;refine⟨(s.heap.push {cls:=.type "range",data:=.fields #[.int lo t,.int hi u,.int 1 v]}).objs.size,[(s.heap.push {cls:=.type "range",data:=.fields #[.int lo t,.int hi u,.int 1 v]}).objs.size],_,_,H,rfl,
  I1.kept (t':=tk) fun b o e=>Qh _ e,Zfs _ lo (hi-lo).toNat,?_,fun b hb=>?_,q⟩
 ·have e1:lo+((0:Nat):Int)*1=lo:=by simp
  have e2:(((hi-lo).toNat:Nat):Int)-((0:Nat):Int)=Builtin.Range.rangeSize lo hi 1:=by rw[rangeSize_one];split <;> omega
  show IsRangeIter _ _ (lo+((0:Nat):Int)*1) ((((hi-lo).toNat:Nat):Int)-((0:Nat):Int)) 1;rw[e1,e2];exact Qx _ rfl
 ·have e:b=(s.heap.push {cls:=.type "range",data:=.fields #[.int lo t,.int hi u,.int 1 v]}).objs.size:=by simpa using hb
  subst e;exact I1.fpOk (Qk _) (I1.hok.fresh (Qk _))
def ZnM (ta:TA):TI:=fun σ H R=>ta σ H fun vs H1=>∃ j:Int,vs=[.int j]/\-(2 ^ 62)<=j/\j<2 ^ 62/\R (Itr 0 j.toNat) H1
def ZnL (ta:TA):TI:=fun σ H R=>ta σ H fun vs H1=>∃ i j:Int,vs=[.int i,.int j]/\(-(2 ^ 62)<=i/\i<2 ^ 62/\-(2 ^ 62)<=j/\j<2 ^ 62)/\R (Itr i (j-i).toNat) H1
theorem Ys {a:Expr} {ta:TA} {p:Pos} (hg:Gl X "range") (hm:X.mg "range" = none) (ha:PA X [a] ta) (hs:starEach [a] X.env=[(false,eval a X.env)]:=by rfl):PI X tg (.Call (.Name "range" p) [a] [] pos) (ZnM ta):=by
 intro pins s σ H R I h;refine Call_ (JG I hg hm boot_range (PyProof.Rows.callWith_type1 (thn (ha pos pins s σ H _ I h) fun us s1 ⟨vs,H1,I1,r1,q1⟩=>?_) hs rfl));obtain⟨j,e,q1,q2,q⟩:=q1;subst e;cases r1 with
 | cons r rr =>
  cases rr;obtain⟨t,rfl⟩:=r;exact call_range_1 (ZeP I1 (by omega) (by omega) q1 q2 (by simpa using q))
theorem Zaf {a b:Expr} {ta:TA} {p pos:Pos} (hg:Gl X "range") (hm:X.mg "range" = none) (ha:PA X [a,b] ta) (hs:starEach [a,b] X.env=[(false,eval a X.env),(false,eval b X.env)]:=by rfl) (hs2:starEach [b] X.env=[(false,eval b X.env)]:=by rfl) :
  PI X tg (.Call (.Name "range" p) [a,b] [] pos) (ZnL ta):=by
 intro pins s σ H R I h;refine Call_ (JG I hg hm boot_range (PyProof.Rows.callWith_type1 (thn (ha pos pins s σ H _ I h) fun us s1 ⟨vs,H1,I1,r1,q1⟩=>?_) (by rw[hs,hs2]) (by rw[hs2];rfl)));obtain⟨i,j,e,⟨q1,q2,q3,q4⟩,q⟩:=q1;subst e;cases r1 with
 | cons r rr =>
  cases rr with
  | cons r' rr =>
   cases rr;obtain⟨t,rfl⟩:=r;obtain⟨t',rfl⟩:=r';exact call_range_2 (ZeP I1 q1 q2 q3 q4 q)
def Zou (wi:TI) (g:TG) (tb:TS):TS:=fun D σ H=>wi σ H fun J H1=>∃ W:Nat->Nat->St->Hp->Prop,(∃ m,W 0 m σ H1)/\∀ i m σ H,W i m σ H ->
 (J.stop i H/\D.nx σ H)\/(J.go i H/\∃ N:St->Hp->Prop,(∀ σ' H',N σ' H'->∃ m',m'<m/\W (i+1) m' σ' H')/\∀ x H',J.yld i H x H'->g x σ H' fun σ2 H2=>tb {D with nx:=N,ct:=N,bk:=D.nx} σ2 H2)
def Zcq (fp:List Addr) (h:Heap):List (Addr×Obj):=fp.filterMap fun b=>(h.get? b).map fun o=>(b,o)
theorem Xu {b:Addr} (hb:b∈fp) (e:h.get? b=some o):(b,o)∈Zcq fp h:=Uc.mpr ⟨b,hb,by rw[e];rfl⟩
theorem Zhy {p:Addr×Obj} (hp:p∈Zcq fp h):p.1∈fp/\h.get? p.1=some p.2:=by
 obtain⟨b,hb,e⟩:=Uc.mp hp;cases q:h.get? b with
 | none=>rw[q]at e;cases e
 | some o =>
  rw[q]at e;have e':(b,o)=p:=Option.some.inj e;subst e';exact⟨hb,q⟩
theorem Inv.pinned (I:Inv X pins σ H s) (hf:∀ b∈fp,ZfW X pins H b) (ho:∀ b∈fp,∃ o,s.heap.get? b=some o/\∀ v,o.data≠.cell v):Inv X (pins++Zcq fp s.heap) σ H s :=
 I.pins_of fun p hp=>(QF.mp hp).elim (fun z=>I.pin p (QH _ z)) fun z=>by
  obtain⟨hb,e⟩:=Zhy z;obtain⟨f0,f1,f2,_⟩:=hf p.1 hb;obtain⟨o,e',d⟩:=ho p.1 hb;rw[e]at e';cases e';exact⟨e,f0,f1,f2,d⟩
theorem Inv.unpinned {pl:List (Addr×Obj)} (I:Inv X (pins++pl) σ H s):Inv X pins σ H s:=I.pins_of fun p hp=>I.pin p (QH _ (QM _ hp))
theorem Yi {iter:Expr} {wi:TI} (hp:PassesOwn (model X.prog X.w) X.A X.env X.xe) (hc:X.calm=true) (hi:PI X tg iter wi) (hg:PG X tg g) (hb:PSs X body tb)
  (hs:∀ x,foldedSetIterable iter X.env x=pure x:=by intro _;rfl):PS X (.For tg iter body [] pos) (Zou wi g tb):=by
 intro pins s σ H D I h;refine wpAny_For (thn (hi pins s σ H _ I h) fun v s1 h1=>thn h1 fun itv s2 h2=>?_) hs;obtain⟨it,fp,tn,J,H2,e,I2,T,st2,f2,W,⟨m0,w0⟩,turn⟩:=h2;subst e
 -- what stays true of the iterator's objects through the loop
 have stat:∀ {H':Hp},(∀ b∈fp,H' b=none)->∀ b∈fp,ZfW X pins H' b:=fun hn b hb=>⟨hn b hb,(f2 b hb).2⟩
 refine codeAny_forLoop_any (fun n s'=>∃ i σ' H',Inv X pins σ' H' s'/\tn i s'.heap/\(∀ b∈fp,H' b=none)/\W i n σ' H') ?_ m0 ⟨0,σ,H2,I2,st2,fun b hb=>(f2 b hb).1,w0⟩;rintro n s3 ⟨i,σ3,H3,I3,st3,fr3,w3⟩;rcases turn i n σ3 H3 w3 with ⟨stop,qn⟩ | ⟨go,N,hN,step⟩
 ·refine wpAny_passesOwn hp (thn (T.done X rfl rfl rfl hc i pins s3 σ3 H3 X.xe I3 (stat fr3) st3 stop) fun r s4 ⟨hr,I4⟩=>?_);subst hr;exact wpAny_execs_nil ⟨σ3,H3,I4,qn⟩
 ·refine wpAny_passesOwn hp (thn (T.item X rfl rfl rfl hc i pins s3 σ3 H3 X.xe I3 (stat fr3) st3 go) fun r s4 ⟨u,hr,h4⟩=>?_);subst hr;refine wpAny_passesOwn hp (thn h4 fun _ s5 ⟨x,H5,I5,r5,y5,st5,fr5⟩=>?_);have I5':=I5.pinned (stat fr5) (T.obj _ _ st5);refine wpAny_passesOwn hp (thn (hg _ s5 σ3 H5 x u _ I5' r5 (step x H5 y5)) fun _ s6 ⟨σ6,H6,I6,q6⟩=>?_);refine wpAny_passesOwn hp (thn (hb _ s6 σ6 H6 _ I6 q6) fun f s7 q7=>?_);have again:∀ {σ7:St} {H7:Hp},Inv X (pins++Zcq fp s5.heap) σ7 H7 s7->N σ7 H7->∃ m,m<n/\∃ i σ' H',Inv X pins σ' H' s7/\tn i s7.heap/\(∀ b∈fp,H' b=none)/\W i m σ' H':=fun {σ7 H7} I7 n7=>by
   obtain⟨m',hm,w7⟩:=hN σ7 H7 n7;refine⟨m',hm,i+1,σ7,H7,I7.unpinned,T.keep _ _ _ st5 fun b hb o e=>(I7.pin (b,o) (QH _ (QH _ (Xu hb e)))).1,fun b hb=>?_,w7⟩;obtain⟨o,e,d⟩:=T.obj _ _ st5 b hb;exact(I7.pin (b,o) (QH _ (QH _ (Xu hb e)))).2.1
  cases f with
  | next=>obtain⟨σ7,H7,I7,n7⟩:=q7;exact again I7 n7
  | cont=>obtain⟨σ7,H7,I7,n7⟩:=q7;exact again I7 n7
  | brk=>obtain⟨σ7,H7,I7,q7⟩:=q7;exact⟨σ7,H7,I7.unpinned,q7⟩
  | ret v=>obtain⟨x7,σ7,H7,I7,r7,q7⟩:=q7;exact⟨x7,σ7,H7,I7.unpinned,r7,q7⟩
end
theorem X4 {K:PySem.W.Frag} {D:Zdo} (Pv:Nat->St->Hp->Prop) (h0:Pv 0 σ H) (hl:∀ i σ H,i<=xs.length->Pv i σ H->SqL K H a xs)
  (hs:∀ i x σ H,xs[i]?=some x->Pv i σ H->g x σ H fun σ2 H2=>tb {D with nx:=Pv (i+1),ct:=Pv (i+1),bk:=D.nx} σ2 H2) (hd:∀ σ H,Pv xs.length σ H->D.nx σ H) :
  ∃ W:Nat->Nat->St->Hp->Prop,(∃ m,W 0 m σ H)/\∀ i m σ H,W i m σ H ->
   ((Itl K a).stop i H/\D.nx σ H)\/((Itl K a).go i H/\∃ N:St->Hp->Prop,(∀ σ' H',N σ' H'->∃ m',m'<m/\W (i+1) m' σ' H')/\∀ x H',(Itl K a).yld i H x H'->g x σ H' fun σ2 H2=>tb {D with nx:=N,ct:=N,bk:=D.nx} σ2 H2):=by
 refine⟨fun i m σ H=>m=xs.length-i/\i<=xs.length/\Pv i σ H,⟨xs.length,by simp,QV _,h0⟩,?_⟩;rintro i m σ H ⟨rfl,hi,p⟩;have q:=hl i σ H hi p;by_cases hlt:i<xs.length
 ·refine .inr ⟨⟨xs,xs[i],q,by simp[hlt]⟩,Pv (i+1),fun σ' H' p'=>⟨xs.length-(i+1),by omega,rfl,hlt,p'⟩,fun x H' y=>?_⟩;obtain⟨e,y⟩:=y;subst e;exact hs i x σ _ (y xs q) p
 ·have e:i=xs.length:=by omega
  subst e;exact .inl ⟨⟨xs,q,Qk _⟩,hd σ H p⟩
theorem Jw {K:PySem.W.Frag} {D:Zdo} (Pv:Nat->St->Hp->Prop) (h0:Pv 0 σ H) (hl:∀ i σ H,i<=xs.length->Pv i σ H->SqT K H a xs)
  (hs:∀ i x σ H,xs[i]?=some x->Pv i σ H->g x σ H fun σ2 H2=>tb {D with nx:=Pv (i+1),ct:=Pv (i+1),bk:=D.nx} σ2 H2) (hd:∀ σ H,Pv xs.length σ H->D.nx σ H) :
  ∃ W:Nat->Nat->St->Hp->Prop,(∃ m,W 0 m σ H)/\∀ i m σ H,W i m σ H ->
   ((Itt K a).stop i H/\D.nx σ H)\/((Itt K a).go i H/\∃ N:St->Hp->Prop,(∀ σ' H',N σ' H'->∃ m',m'<m/\W (i+1) m' σ' H')/\∀ x H',(Itt K a).yld i H x H'->g x σ H' fun σ2 H2=>tb {D with nx:=N,ct:=N,bk:=D.nx} σ2 H2):=by
 refine⟨fun i m σ H=>m=xs.length-i/\i<=xs.length/\Pv i σ H,⟨xs.length,by simp,QV _,h0⟩,?_⟩;rintro i m σ H ⟨rfl,hi,p⟩;have q:=hl i σ H hi p;by_cases hlt:i<xs.length
 ·refine .inr ⟨⟨xs,xs[i],q,by simp[hlt]⟩,Pv (i+1),fun σ' H' p'=>⟨xs.length-(i+1),by omega,rfl,hlt,p'⟩,fun x H' y=>?_⟩;obtain⟨e,y⟩:=y;subst e;exact hs i x σ _ (y xs q) p
 ·have e:i=xs.length:=by omega
  subst e;exact .inl ⟨⟨xs,q,Qk _⟩,hd σ H p⟩
theorem YS {lo:Int} {D:Zdo} (Pv:Nat->St->Hp->Prop) (h0:Pv 0 σ H)
  (hs:∀ i σ H,i<n->Pv i σ H->g (.int (lo+i)) σ H fun σ2 H2=>tb {D with nx:=Pv (i+1),ct:=Pv (i+1),bk:=D.nx} σ2 H2) (hd:∀ σ H,Pv n σ H->D.nx σ H) :
  ∃ W:Nat->Nat->St->Hp->Prop,(∃ m,W 0 m σ H)/\∀ i m σ H,W i m σ H ->
   ((Itr lo n).stop i H/\D.nx σ H)\/((Itr lo n).go i H/\∃ N:St->Hp->Prop,(∀ σ' H',N σ' H'->∃ m',m'<m/\W (i+1) m' σ' H')/\∀ x H',(Itr lo n).yld i H x H'->g x σ H' fun σ2 H2=>tb {D with nx:=N,ct:=N,bk:=D.nx} σ2 H2):=by
 refine⟨fun i m σ H=>m=n-i/\i<=n/\Pv i σ H,⟨n,by simp,QV _,h0⟩,?_⟩;rintro i m σ H ⟨rfl,hi,p⟩;by_cases hlt:i<n
 ·refine .inr ⟨hlt,Pv (i+1),fun σ' H' p'=>⟨n-(i+1),by omega,rfl,hlt,p'⟩,fun x H' y=>?_⟩;obtain⟨e,y⟩:=y;subst e y;exact hs i σ _ hlt p
 ·have e:i=n:=by omega
  subst e;exact .inl ⟨Qk _,hd σ H p⟩
abbrev R2:=V->V->Hp->VK->Prop
def OpR (X:Cx) (f:Value->Value->Sem Value) (r:R2):Prop :=
 ∀ (pins:List (Addr×Obj)) (s:Shared) (σ:St) (H:Hp) (x y:V) (v u:Value) (Q:VK),Inv X pins σ H s->RelV x v->RelV y u->r x y H Q ->
  wpAny (model X.prog X.w) X.A (f v u) (EP X pins σ Q) X.xe s
def UnR (X:Cx) (f:Value->Sem Value) (r:V->Hp->VK->Prop):Prop :=
 ∀ (pins:List (Addr×Obj)) (s:Shared) (σ:St) (H:Hp) (x:V) (v:Value) (Q:VK),Inv X pins σ H s->RelV x v->r x H Q ->
  wpAny (model X.prog X.w) X.A (f v) (EP X pins σ Q) X.xe s
def CallR (X:Cx) (f:Value) (r:List V->Hp->VK->Prop):Prop :=
 ∀ (pins:List (Addr×Obj)) (s:Shared) (σ:St) (H:Hp) (xs:List V) (us:List Value) (Q:VK),Inv X pins σ H s->Vals xs us->r xs H Q ->
  wpAny (model X.prog X.w) X.A (call f us) (EP X pins σ Q) X.xe s
def ZoO (X:Cx) (r:V->Hp->(Bool->Hp->Prop)->Prop):Prop :=
 ∀ (pins:List (Addr×Obj)) (s:Shared) (σ:St) (H:Hp) (x:V) (v:Value) (Q:Bool->Hp->Prop),Inv X pins σ H s->RelV x v->r x H Q ->
  wpAny (model X.prog X.w) X.A (truthy v) (TP X pins σ Q) X.xe s
def tOp (r:R2) (ta tb:TE):TE:=fun σ H Q=>ta σ H fun x H1=>tb σ H1 fun y H2=>r x y H2 Q
def tUn (r:V->Hp->VK->Prop) (ta:TE):TE:=fun σ H Q=>ta σ H fun x H1=>r x H1 Q
def rI (C:Int->Int->Prop) (g:Int->Int->V):R2:=fun x y H Q=>∃ i j,x= .int i/\y= .int j/\C i j/\Q (g i j) H
def rI0 (g:Int->Int->V):R2:=fun x y H Q=>∃ i j,x= .int i/\y= .int j/\Q (g i j) H
def rU (g:Int->V):V->Hp->VK->Prop:=fun x H Q=>∃ i,x= .int i/\Q (g i) H
section
variable {X:Cx} {a b c:Expr} {ta tb tc:TE} {pos:Pos}
theorem ZnU (ha:PE X a ta) (hb:PE X b tb) {R:V->V->Hp->Prop} (I:Inv X pins σ H s)
  (h:ta σ H fun x H1=>tb σ H1 fun y H2=>R x y H2) {Q:Value->Shared->Prop} {f:Value->Value->Sem Value}
  (hf:∀ v u s2 x y H2,Inv X pins σ H2 s2->RelV x v->RelV y u->R x y H2->wpAny (model X.prog X.w) X.A (f v u) Q X.xe s2) :
  wpAny (model X.prog X.w) X.A (eval a X.env) (fun v s₁=>wpAny (model X.prog X.w) X.A (eval b X.env) (fun u s₂=>wpAny (model X.prog X.w) X.A (f v u) Q X.xe s₂) X.xe s₁) X.xe s:=by
 refine thn (ha pins s σ H _ I h) fun v s1 ⟨x,H1,I1,r1,q1⟩=>?_;refine thn (hb pins s1 σ H1 _ I1 q1) fun u s2 ⟨y,H2,I2,r2,q2⟩=>?_;exact hf v u s2 x y H2 I2 r1 r2 q2
theorem Zk {op:Operator} {r:R2} (ho:OpR X (binaryOp op) r) (ha:PE X a ta) (hb:PE X b tb):PE X (.BinOp a op b pos) (tOp r ta tb):=by
 intro pins s σ H Q I h;exact wpAny_BinOp (ZnU ha hb I h fun v u s2 x y H2 I2 rx ry q=>ho pins s2 σ H2 x y v u Q I2 rx ry q)
theorem YV {op:UnaryOp} {r:V->Hp->VK->Prop} (ho:UnR X (unaryOp op) r) (ha:PE X a ta):PE X (.UnaryOp op a pos) (tUn r ta):=by
 intro pins s σ H Q I h;exact UnaryOp_ (thn (ha pins s σ H _ I h) fun v s1 ⟨x,H1,I1,r1,q1⟩=>ho pins s1 σ H1 x v Q I1 r1 q1)
theorem opI {f:Value->Value->Sem Value} {C:Int->Int->Prop} {g:Int->Int->Int}
  (rule:∀ (i j:Int) (t u:Tok) (s:Shared) (Q:Value->Shared->Prop) (E:Value->Shared->Prop),C i j->Q (.int (g i j) s.toks) {s with toks:=s.toks+1}->wpAny (model X.prog X.w) X.A (f (.int i t) (.int j u)) Q E s) :
  OpR X f (rI C fun i j=>.int (g i j)):=by
 intro pins s σ H x y v u Q I rx ry h;obtain⟨i,j,rfl,rfl,hc,q⟩:=h;obtain⟨t,rfl⟩:=rx;obtain⟨t',rfl⟩:=ry;exact rule i j t t' s _ _ hc ⟨.int (g i j),H,I.tok _,⟨_,rfl⟩,q⟩
theorem Zob {f:Value->Value->Sem Value} {g:Int->Int->Int}
  (rule:∀ (i j:Int) (t u:Tok) (s:Shared) (Q:Value->Shared->Prop) (E:Value->Shared->Prop),Q (.int (g i j) s.toks) {s with toks:=s.toks+1}->wpAny (model X.prog X.w) X.A (f (.int i t) (.int j u)) Q E s) :
  OpR X f (rI0 fun i j=>.int (g i j)):=by
 intro pins s σ H x y v u Q I rx ry h;obtain⟨i,j,rfl,rfl,q⟩:=h;obtain⟨t,rfl⟩:=rx;obtain⟨t',rfl⟩:=ry;exact rule i j t t' s _ _ ⟨.int (g i j),H,I.tok _,⟨_,rfl⟩,q⟩
theorem Zoc {f:Value->Value->Sem Value} {g:Int->Int->Bool}
  (rule:∀ (i j:Int) (t u:Tok) (s:Shared) (Q:Value->Shared->Prop) (E:Value->Shared->Prop),Q (.bool (g i j)) s->wpAny (model X.prog X.w) X.A (f (.int i t) (.int j u)) Q E s) :
  OpR X f (rI0 fun i j=>.bl (g i j)):=by
 intro pins s σ H x y v u Q I rx ry h;obtain⟨i,j,rfl,rfl,q⟩:=h;obtain⟨t,rfl⟩:=rx;obtain⟨t',rfl⟩:=ry;exact rule i j t t' s _ _ ⟨.bl (g i j),H,I,rfl,q⟩
def ZoR (i j:Int):Prop:=0<j/\j<1073741824
def ZoQ (i j:Int):Prop:=0<=j/\j<=1000000/\i.natAbs<2 ^ 64
def CMul (i j:Int):Prop:=(-(2 ^ 64)<i/\i<2 ^ 64)\/(-(2 ^ 64)<j/\j<2 ^ 64)
theorem CMul.ok {i j:Int} (h:CMul i j):IntMulOk i j:=by
 rcases h with ⟨h1,h2⟩ | ⟨h1,h2⟩
 ·exact .of_left (intBits_le_64 h1 h2)
 ·exact .of_right (intBits_le_64 h1 h2)
theorem ZU:OpR X (binaryOp .Add) (rI0 fun i j=>.int (i+j)):=Zob fun _ _ _ _ _ _ _ q=>add_int q
theorem Ye:OpR X (binaryOp .Sub) (rI0 fun i j=>.int (i-j)):=Zob fun _ _ _ _ _ _ _ q=>sub_int q
theorem Zct:OpR X (binaryOp .Mult) (rI CMul fun i j=>.int (i*j)):=opI fun _ _ _ _ _ _ _ hc q=>mul_int q hc.ok
theorem ZV:OpR X (binaryOp .FloorDiv) (rI ZoR fun i j=>.int (i / j)):=opI fun i j _ _ _ _ _ hc q=>by
 have h1:(0:Int)<j:=hc.1;have h2:j<1073741824:=hc.2;exact floordiv_int (by omega) (by rw[Int.fdiv_eq_ediv_of_nonneg i (by omega)];exact q) (.inl (PyProof.noPylong_small (by omega)))
theorem ZR:OpR X (binaryOp .Mod) (rI (fun _ j=>0<j) fun i j=>.int (i % j)):=opI fun i j _ _ _ _ _ hc q=>by
 have h1:(0:Int)<j:=hc;exact mod_int' (by omega) (by rw[Int.fmod_eq_emod_of_nonneg i (by omega)];exact q)
theorem Zmn:OpR X (binaryOp .Pow) (rI ZoQ fun i j=>.int (i ^ j.toNat)):=opI fun _ _ _ _ _ _ _ hc q=>pow_int_small hc.1 hc.2.1 hc.2.2 q
theorem unI {f:Value->Sem Value} {g:Int->Int}
  (rule:∀ (i:Int) (t:Tok) (s:Shared) (Q:Value->Shared->Prop) (E:Value->Shared->Prop),Q (.int (g i) s.toks) {s with toks:=s.toks+1}->wpAny (model X.prog X.w) X.A (f (.int i t)) Q E s) :
  UnR X f (rU fun i=>.int (g i)):=by
 intro pins s σ H x v Q I rx h;obtain⟨i,rfl,q⟩:=h;obtain⟨t,rfl⟩:=rx;exact rule i t s _ _ ⟨.int (g i),H,I.tok _,⟨_,rfl⟩,q⟩
theorem Yg:UnR X (unaryOp .USub) (rU fun i=>.int (-i)):=unI fun _ _ _ _ _ q=>neg_int q
end
def Zn8:V->V->Bool
 | .non,.non=>true | .non,.int _=>true | .int _,.non=>true | .non,.bl _=>true | .bl _,.non=>true | .non,.str _=>true | .str _,.non=>true
 | .int _,.int _=>true | .bl _,.bl _=>true | .str _,.str _=>true | .byt _,.byt _=>true
 | .int _,.str _=>true | .str _,.int _=>true | .bl _,.str _=>true | .str _,.bl _=>true
 | _,_=>false
def rEq:R2:=fun x y H Q=>Zn8 x y=true/\Q (.bl (decide (x=y))) H
def rNe:R2:=fun x y H Q=>Zn8 x y=true/\Q (.bl (!decide (x=y))) H
theorem Zef {i j:Int}:decide (V.int i=V.int j)=(i==j):=by
 rw[WX];simp
theorem Zko {i j:Bool}:decide (V.bl i=V.bl j)=(i==j):=by
 rw[WX];simp
theorem dec_str {i j:Str}:decide (V.str i=V.str j)=(i==j):=by
 rw[WX];simp
theorem Zid {i j:Array UInt8}:decide (V.byt i=V.byt j)=(i.toList==j.toList):=by
 rw[WX];cases i;cases j;simp
section
variable {X:Cx} {a b c:Expr} {ta tb tc:TE} {pos:Pos}
theorem ZO {Q:VK} {k k':Bool} (I:Inv X pins σ H s) (q:Q (.bl k) H) (e:k=k'):EP X pins σ Q (.bool k') s:=by
 subst e;exact⟨.bl k,H,I,rfl,q⟩
theorem YE:OpR X (compareOp .Eq) rEq:=by
 intro pins s σ H x y v u Q I rx ry h;obtain⟨hs,q⟩:=h;cases x with
 | non =>
  cases rx;cases y with
  | non=>cases ry;exact PySem.EqNone.eq_none_none (ZO I q (by simp))
  | bl j=>cases ry;exact PySem.EqNone.eq_none_bool (ZO I q (by simp))
  | int j=>obtain⟨t',rfl⟩:=ry;exact PySem.EqNone.eq_none_int (ZO I q (by simp))
  | str j=>obtain⟨t',rfl⟩:=ry;exact PySem.EqNone.eq_none_str (ZO I q (by simp))
  | _=>exact absurd (show false=true from hs) QL
 | bl i =>
  cases rx;cases y with
  | non=>cases ry;exact PySem.EqNone.eq_bool_none (ZO I q (by simp))
  | bl j=>cases ry;exact eq_bool (ZO I q Zko)
  | str j=>obtain⟨t',rfl⟩:=ry;exact PySem.EqMixed.eq_bool_str (ZO I q (by simp))
  | _=>exact absurd (show false=true from hs) QL
 | int i =>
  obtain⟨t,rfl⟩:=rx;cases y with
  | non=>cases ry;exact PySem.EqNone.eq_int_none (ZO I q (by simp))
  | int j=>obtain⟨t',rfl⟩:=ry;exact eq_int (ZO I q Zef)
  | str j=>obtain⟨t',rfl⟩:=ry;exact PySem.EqMixed.eq_int_str (ZO I q (by simp))
  | _=>exact absurd (show false=true from hs) QL
 | str i =>
  obtain⟨t,rfl⟩:=rx;cases y with
  | non=>cases ry;exact PySem.EqNone.eq_str_none (ZO I q (by simp))
  | bl j=>cases ry;exact PySem.EqMixed.eq_str_bool (ZO I q (by simp))
  | int j=>obtain⟨t',rfl⟩:=ry;exact PySem.EqMixed.eq_str_int (ZO I q (by simp))
  | str j=>obtain⟨t',rfl⟩:=ry;exact eq_str (ZO I q dec_str)
  | _=>exact absurd (show false=true from hs) QL
 | byt i =>
  obtain⟨t,rfl⟩:=rx;cases y with
  | byt j=>obtain⟨t',rfl⟩:=ry;exact PySem.W.eq_bytes (ZO I q Zid)
  | _=>exact absurd (show false=true from hs) QL
 | _=>cases y <;> exact absurd (show false=true from hs) QL
theorem Zi4:OpR X (compareOp .NotEq) rNe:=by
 intro pins s σ H x y v u Q I rx ry h;obtain⟨hs,q⟩:=h;cases x with
 | non =>
  cases rx;cases y with
  | non=>cases ry;exact PySem.EqNone.ne_none_none (ZO I q (by simp))
  | bl j=>cases ry;exact PySem.EqNone.ne_none_bool (ZO I q (by simp))
  | int j=>obtain⟨t',rfl⟩:=ry;exact PySem.EqNone.ne_none_int (ZO I q (by simp))
  | str j=>obtain⟨t',rfl⟩:=ry;exact PySem.EqNone.ne_none_str (ZO I q (by simp))
  | _=>exact absurd (show false=true from hs) QL
 | bl i =>
  cases rx;cases y with
  | non=>cases ry;exact PySem.EqNone.ne_bool_none (ZO I q (by simp))
  | bl j=>cases ry;exact ne_bool (ZO I q (congrArg not Zko))
  | str j=>obtain⟨t',rfl⟩:=ry;exact PySem.EqMixed.ne_bool_str (ZO I q (by simp))
  | _=>exact absurd (show false=true from hs) QL
 | int i =>
  obtain⟨t,rfl⟩:=rx;cases y with
  | non=>cases ry;exact PySem.EqNone.ne_int_none (ZO I q (by simp))
  | int j=>obtain⟨t',rfl⟩:=ry;exact ne_int (ZO I q (congrArg not Zef))
  | str j=>obtain⟨t',rfl⟩:=ry;exact PySem.EqMixed.ne_int_str (ZO I q (by simp))
  | _=>exact absurd (show false=true from hs) QL
 | str i =>
  obtain⟨t,rfl⟩:=rx;cases y with
  | non=>cases ry;exact PySem.EqNone.ne_str_none (ZO I q (by simp))
  | bl j=>cases ry;exact PySem.EqMixed.ne_str_bool (ZO I q (by simp))
  | int j=>obtain⟨t',rfl⟩:=ry;exact PySem.EqMixed.ne_str_int (ZO I q (by simp))
  | str j=>obtain⟨t',rfl⟩:=ry;exact ne_str (ZO I q (congrArg not dec_str))
  | _=>exact absurd (show false=true from hs) QL
 | byt i =>
  obtain⟨t,rfl⟩:=rx;cases y with
  | byt j=>obtain⟨t',rfl⟩:=ry;exact PySem.W.ne_bytes (ZO I q (congrArg not Zid))
  | _=>exact absurd (show false=true from hs) QL
 | _=>cases y <;> exact absurd (show false=true from hs) QL
theorem Zk1:OpR X (compareOp .Lt) (rI0 fun i j=>.bl (decide (i<j))):=Zoc fun _ _ _ _ _ _ _ q=>lt_int q
theorem ZbE:OpR X (compareOp .Gt) (rI0 fun i j=>.bl (decide (j<i))):=Zoc fun _ _ _ _ _ _ _ q=>gt_int q
theorem Zkb:OpR X (compareOp .Is) (fun x y H Q=>y= .non/\Q (.bl (decide (x= .non))) H):=by
 intro pins s σ H x y v u Q I rx ry h;obtain⟨rfl,q⟩:=h;cases ry;refine is_none_gen (ZO I q ?_);cases x <;> first
  | (cases rx;rfl)
  | (obtain⟨t,rfl⟩:=rx;rfl)
theorem Zhj:OpR X (compareOp .IsNot) (fun x y H Q=>y= .non/\Q (.bl (!decide (x= .non))) H):=by
 intro pins s σ H x y v u Q I rx ry h;obtain⟨rfl,q⟩:=h;cases ry;refine isnot_none_gen (ZO I q ?_);cases x <;> first
  | (cases rx;rfl)
  | (obtain⟨t,rfl⟩:=rx;rfl)
theorem OpR.or {f:Value->Value->Sem Value} {r r':R2} (h:OpR X f r) (h':OpR X f r'):OpR X f (fun x y H Q=>r x y H Q\/r' x y H Q):=by
 intro pins s σ H x y v u Q I rx ry q;rcases q with q | q
 ·exact h pins s σ H x y v u Q I rx ry q
 ·exact h' pins s σ H x y v u Q I rx ry q
theorem Zy (b:Expr) {op:CmpOp} (h:op≠.In:=by decide) (h2:op≠.NotIn:=by decide):behindInMarks op b=false:=by
 have e1:(op==CmpOp.In)=false:=by cases op <;> first | rfl | exact absurd rfl h
 have e2:(op==CmpOp.NotIn)=false:=by cases op <;> first | rfl | exact absurd rfl h2
 cases b <;> simp[behindInMarks,e1,e2]
theorem XG {op:CmpOp} {r:R2} (ho:OpR X (compareOp op) r) (ha:PE X a ta) (hb:PE X b tb) (hm:behindInMarks op b=false):PE X (.Compare a [op] [b] pos) (tOp r ta tb):=by
 intro pins s σ H Q I h;exact wpAny_Compare1 (ZnU ha hb I h fun v u s2 x y H2 I2 rx ry q=>ho pins s2 σ H2 x y v u Q I2 rx ry q) hm
def ZlM (t:TE):TT:=fun σ H Q=>t σ H fun x H'=>∃ k,x= .bl k/\Q k H'
theorem Zt {op:CmpOp} {r:R2} (ho:OpR X (compareOp op) r) (ha:PE X a ta) (hb:PE X b tb) (hm:behindInMarks op b=false):PT X (.Compare a [op] [b] pos) (ZlM (tOp r ta tb)):=by
 intro pins s σ H Q I h;refine wpAny_isTrue_Compare1 (thn (ha pins s σ H _ I h) fun v s1 ⟨x,H1,I1,r1,q1⟩=>thn (hb pins s1 σ H1 _ I1 q1) fun u s2 ⟨y,H2,I2,r2,q2⟩ =>
  thn (ho pins s2 σ H2 x y v u _ I2 r1 r2 q2) fun c s3 ⟨z,H3,I3,r3,k,e,q3⟩=>?_) hm
 subst e;cases r3;exact wpAny_truthy_bool ⟨H3,I3,q3⟩
def ZoN (K:PySem.W.Frag) (x:V) (H:Hp) (k:Bool):Prop :=
 match x with
 | .non=>k=false
 | .bl b=>k=b
 | .int i=>k=(i != 0)
 | .str y=>y.length<=sizeLine/\k=((y.length:Int) != 0)
 | .byt y=>y.size<=sizeLine/\k=((y.size:Int) != 0)
 | .ref p=>(∃ xs,SqL K H p xs/\k= !xs.isEmpty)\/(∃ xs,SqT K H p xs/\k= !xs.isEmpty)\/∃ kvs,H p=some (.dK kvs)/\k= !kvs.isEmpty
 | _=>False
theorem ZfK {κ:Type} {kvs:List (κ×V)} {vs:List (κ×Value)} (r:KV kvs vs):(!vs.isEmpty)= !kvs.isEmpty:=by
 cases r <;> rfl
theorem Za5 {its:List Value} (r:Vals xs its):(!its.toArray.isEmpty)= !xs.isEmpty:=by
 cases r <;> simp
theorem ZcM:(sizeLine:Nat)<2 ^ 63:=by rw[sizeLine_eq];decide
theorem Zn6:ZoO X (fun x H Q=>∃ k,ZoN X.K x H k/\Q k H):=by
 intro pins s σ H x v Q I rx h;obtain⟨k,e,q⟩:=h;have hl:=ZcM;have hs:sizeLine=16777216:=sizeLine_eq;cases x with
 | non =>
  cases rx;have e':k=false:=e;subst e';exact truthy_none ⟨H,I,q⟩
 | bl b =>
  cases rx;have e':k=b:=e;subst e';exact wpAny_truthy_bool ⟨H,I,q⟩
 | int i =>
  obtain⟨t,rfl⟩:=rx;have e':k=(i != 0):=e;subst e';exact PySem.P.truthy_int ⟨H,I,q⟩
 | str y =>
  obtain⟨t,rfl⟩:=rx;obtain⟨hy,e'⟩:y.length<=sizeLine/\k=((y.length:Int) != 0):=e;subst e';exact PySem.P.truthy_str (by omega) ⟨H,I.tok _,q⟩
 | byt y =>
  obtain⟨t,rfl⟩:=rx;obtain⟨hy,e'⟩:y.size<=sizeLine/\k=((y.size:Int) != 0):=e;subst e';exact PySem.W.truthy_bytes (by omega) ⟨H,I.tok _,q⟩
 | ref p =>
  cases rx;have e':(∃ xs,SqL X.K H p xs/\k= !xs.isEmpty)\/(∃ xs,SqT X.K H p xs/\k= !xs.isEmpty)\/∃ kvs,H p=some (.dK kvs)/\k= !kvs.isEmpty:=e;rcases e' with ⟨xs,hx,e'⟩ | ⟨xs,hx,e'⟩ | ⟨kvs,hx,e'⟩
  ·subst e';obtain⟨its,r,pl,hz⟩:=I.list hx;have hlen:=r.length;exact wpAny_truthy_list pl.isList (by simp only[Qw];omega) ⟨H,I.tok _,by rw[Za5 r];exact q⟩
  ·subst e';obtain⟨its,r,pl,hz⟩:=I.tuple hx;have hlen:=r.length;exact truthy_tuple pl (by simp only[Qw];omega) ⟨H,I.tok _,by rw[Za5 r];exact q⟩
  ·subst e';obtain⟨hz,hS,vs,r,m⟩:kvs.length<=sizeLine/\(p==sysModules)=false/\∃ vs,KV kvs vs/\s.heap.DictOf (Zz X.prog X.w) p vs:=I.hok p _ hx;have hlen:kvs.length=vs.length:=Paired.length r;exact wpAny_truthy_dict hS m (by omega) ⟨H,I.tok _,by rw[ZfK r];exact q⟩
 | _=>exact(show False from e).elim
theorem ZD:OpR X (binaryOp .Add) (fun x y H Q=>∃ i j,x= .str i/\y= .str j/\i.length+j.length<=sizeLine/\Q (.str (i++j)) H):=by
 intro pins s σ H x y v u Q I rx ry h;obtain⟨i,j,rfl,rfl,hz,q⟩:=h;obtain⟨t,rfl⟩:=rx;obtain⟨t',rfl⟩:=ry;exact add_str (fun t' tk=>⟨.str (i++j),H,I.tok _,⟨_,rfl⟩,q⟩) hz
theorem Jf {x:V} {us:List Value} (r:Vals [x] us):∃ u,us=[u]/\RelV x u:=by
 cases r with
 | cons r1 r2=>cases r2;exact⟨_,rfl,r1⟩
theorem Zdq {x y:V} {us:List Value} (r:Vals [x,y] us):∃ u w',us=[u,w']/\RelV x u/\RelV y w':=by
 cases r with
 | cons r1 r2 =>
  cases r2 with
  | cons r3 r4=>cases r4;exact⟨_,_,rfl,r1,r3⟩
theorem Zio (hc:X.calm=true):CallR X (.builtin "max") (fun xs H Q=>∃ i j,xs=[.int i,.int j]/\Q (.int (if j>i then j else i)) H):=by
 intro pins s σ H xs us Q I r h;obtain⟨i,j,rfl,q⟩:=h;obtain⟨u,w',rfl,⟨t,rfl⟩,⟨t',rfl⟩⟩:=Zdq r;refine max_two_ints (I.ok.hd hc) fun h' tk k=>⟨_,H,I.kept k,?_,q⟩
 by_cases hj:j>i
 ·rw[if_pos hj,if_pos hj];exact⟨_,rfl⟩
 ·rw[if_neg hj,if_neg hj];exact⟨_,rfl⟩
theorem Zc8 (hc:X.calm=true):CallR X (.builtin "min") (fun xs H Q=>∃ i j,xs=[.int i,.int j]/\Q (.int (if j<i then j else i)) H):=by
 intro pins s σ H xs us Q I r h;obtain⟨i,j,rfl,q⟩:=h;obtain⟨u,w',rfl,⟨t,rfl⟩,⟨t',rfl⟩⟩:=Zdq r;refine min_two_ints (I.ok.hd hc) fun h' tk k=>⟨_,H,I.kept k,?_,q⟩
 by_cases hj:j<i
 ·rw[if_pos hj,if_pos hj];exact⟨_,rfl⟩
 ·rw[if_neg hj,if_neg hj];exact⟨_,rfl⟩
def ZlC (K:PySem.W.Frag) (x:V) (H:Hp) (n:Nat):Prop :=
 match x with
 | .str y=>y.length<=sizeLine/\n=y.length
 | .byt y=>y.size<=sizeLine/\n=y.size
 | .ref p=>(∃ xs,SqL K H p xs/\n=xs.length)\/∃ xs,SqT K H p xs/\n=xs.length
 | _=>False
theorem Zr:CallR X (.builtin "len") (fun xs H Q=>∃ x n,xs=[x]/\ZlC X.K x H n/\Q (.int n) H):=by
 intro pins s σ H xs us Q I r h;obtain⟨x,n,rfl,e,q⟩:=h;obtain⟨u,rfl,rx⟩:=Jf r;have hl:=ZcM;have hs:sizeLine=16777216:=sizeLine_eq;cases x with
 | str y =>
  obtain⟨t,rfl⟩:=rx;obtain⟨hy,e'⟩:y.length<=sizeLine/\n=y.length:=e;subst e';exact len_str (by omega) ⟨.int _,H,I.tok _,⟨_,rfl⟩,q⟩
 | byt y =>
  obtain⟨t,rfl⟩:=rx;obtain⟨hy,e'⟩:y.size<=sizeLine/\n=y.size:=e;subst e';exact PySem.W.len_bytes (by omega) ⟨.int _,H,I.tok _,⟨_,rfl⟩,q⟩
 | ref p =>
  cases rx;have e':(∃ xs,SqL X.K H p xs/\n=xs.length)\/∃ xs,SqT X.K H p xs/\n=xs.length:=e;rcases e' with ⟨xs,hx,e'⟩ | ⟨xs,hx,e'⟩
  ·subst e';obtain⟨its,r',pl,hz⟩:=I.list hx;have hlen:=r'.length;exact Calls.call_len_list pl.isList (by simp only[Qw];omega) ⟨.int xs.length,H,I.tok _,⟨_,by simp only[Qw];rw[hlen]⟩,q⟩
  ·subst e';obtain⟨its,r',pl,hz⟩:=I.tuple hx;have hlen:=r'.length;exact len_tuple pl (by simp only[Qw];omega) ⟨.int xs.length,H,I.tok _,⟨_,by simp only[Qw];rw[hlen]⟩,q⟩
 | _=>exact(show False from e).elim
end
structure ObjM (h:Heap) (x dx C:Addr) (mA:Str->Option Value):Prop where
 obj:h.get? x=some (PySem.W.instObj C dx)
 ns:h.Ns1 dx mA
 ne:dx≠x
theorem ZhK {dx:Addr} {mA:Str->Option Value} (n:h.Ns1 dx mA):∃ od,h.get? dx=some od/\∀ name,PySem.W.lookIn name od=some (mA name):=by
 obtain⟨o,es,ep,ho,hd,hk,_,hm⟩:=n;refine⟨o,ho,fun name=>?_⟩;have e:=hm name;unfold nsFind findBy at e;rw[←Array.find?_toList]at e;unfold PySem.W.lookIn;rw[hd];dsimp only;split
 ·rename_i y q;rw[q]at e;exact congrArg some e
 ·rename_i q;rw[q]at e;have a:es.toList.any (·.refKey)=false:=by
   rw[List.any_eq_false];intro y hy;obtain⟨z,t,hkey⟩:=hk y (Array.mem_toList_iff.mp hy);simp[DictEntry.refKey,hkey]
  have a':¬ es.toList.any (·.refKey)=true:=by rw[a];exact QL
  rw[if_neg a'];exact congrArg some e
theorem ObjM.look {x dx C:Addr} {mA:Str->Option Value} (I:ObjM h x dx C mA):∃ od,PySem.W.InstAt h x (PySem.W.instObj C dx) C (some od)/\∀ name,PySem.W.lookIn name od=some (mA name) :=
 let ⟨od,ho,hl⟩:=ZhK I.ns
 ⟨od,⟨I.obj,rfl,rfl,ho⟩,hl⟩
section
variable {prog:Program} {w:World} {A:Around} {E:Value->Shared->Prop} {s:Shared} {K:PySem.W.Frag} {x dx C f:Addr} {mA:Str->Option Value} {name:Str} {v:Value}
end
theorem RelO.some_of {o:Option Value} (r:RelO (some v) o):∃ u,o=some u/\RelV v u:=by
 cases o with
 | none=>exact(show False from r).elim
 | some u=>exact⟨u,rfl,r⟩
section
variable {P:Program} {w:World} {H H':Hp} {h h':Heap} {a C dx:Addr} {fs fs':List (Str×V)}
theorem Zlj (hok:HOk P w H h) (e:H a=some (.ins C dx fs)):∃ mA,ObjM h a dx C mA/\(∀ f,RelO (fs.lookup f) (mA f))/\PySem.Within mA (fs.map (·.1))/\fs.length<=1000/\H dx=some (.own a):=by
 obtain⟨d,z,ne,ob,mA,n,r,q⟩:=(show ObjOk P w H h a (.ins C dx fs)from hok a _ e)
 exact⟨mA,⟨ob,n,ne⟩,r,q,z,d⟩
end
structure Cls (K:PySem.W.Frag) (C:Addr):Prop where
 pg:PySem.W.plainGet K C Str.empty=true
 hd:PySem.W.hasDictIn K C=true
 po:PySem.W.plainOver K C=true
 sa:PySem.W.findIn K (.ref C) "__setattr__" = some (some (.builtin "object.__setattr__"))
theorem Cls.get {K:PySem.W.Frag} {C:Addr} (c:Cls K C) (f:Str):PySem.W.plainGet K C f=true:=c.pg
section
variable {X:Cx} {pins:List (Addr×Obj)} {σ:St} {H:Hp} {s:Shared} {a C dx:Addr} {fs:List (Str×V)} {f:Str} {v:V} {A:Around} {E:Value->Shared->Prop}
end
section
variable {X:Cx} {o e value:Expr} {f:Str} {pos pos' tpos:Pos} {ta tv:TE}
end
section
variable {X:Cx} {pins:List (Addr×Obj)} {σ:St} {H:Hp} {s:Shared} {A:Around} {E:Value->Shared->Prop} {Q:Value->Shared->Prop} {c:Value} {b:Bool}
inductive Zfp (K:PySem.W.Frag) (H:Hp):V->Value->Prop where
 | non:Zfp K H .non (.type "NoneType")
 | bl (x:Bool):Zfp K H (.bl x) (.type "bool")
 | int (i:Int):Zfp K H (.int i) (.type "int")
 | str (x:Str):Zfp K H (.str x) (.type "str")
 | flt (x:UInt64):Zfp K H (.flt x) (.type "float")
 | lst {a:Addr} {xs:List V} (e:H a=some (.lst xs)):Zfp K H (.ref a) (.type "list")
 | frz {a:Addr} {o:Obj} {xs:List V} (e:H a=some (.frz o (.lst xs))):Zfp K H (.ref a) (.type "list")
 | tup {a:Addr} {xs:List V} (e:H a=some (.tup xs)):Zfp K H (.ref a) (.type "tuple")
 | dK {a:Addr} {kvs:List (Key×V)} (e:H a=some (.dK kvs)):Zfp K H (.ref a) (.type "dict")
 | dT {a:Addr} {kvs:List (List Key×V)} (e:H a=some (.dT kvs)):Zfp K H (.ref a) (.type "dict")
 | ins {a C dx:Addr} {fs:List (Str×V)} (e:H a=some (.ins C dx fs)) (cl:Cls K C) (ha:PySem.W.findIn K (.ref C) "__class__" = some (some (.builtin "object.__class__")))
   (hn:PySem.W.specialIn K (.builtin "object.__class__") "__get__" = some (some (.builtin "getset_descriptor.__get__"))) (htk:PySem.W.takesIn K (.builtin "object.__class__")=some true)
   (hm:PySem.W.mroIn K C (.type "object")=some true):Zfp K H (.ref a) (.ref C)
theorem ZhT {x:V} {t:Value} (I:Inv X pins σ H s) (rx:RelV x u) (ty:Zfp X.K H x t) (e:PySem.W.kitOne X.K t c=some b) (h:∀ tk,Q (.bool b) {s with toks:=tk}) :
  wpAny (model X.prog X.w) A (call (.builtin "isinstance") [u,c]) Q E s:=by
 cases ty with
 | non=>cases (show u=Value.none from rx);exact PySem.W.kia_one PySem.W.kitx_none I.kIn True.intro e (fun z=>nomatch z) h
 | bl y=>cases (show u=Value.bool y from rx);exact PySem.W.kia_one PySem.W.kitx_bool I.kIn True.intro e (fun z=>nomatch z) h
 | int i=>obtain⟨t,q⟩:=(show ∃ t,u=Value.int i t from rx);cases q;exact PySem.W.kia_one PySem.W.kitx_int I.kIn True.intro e (fun z=>nomatch z) h
 | str y=>obtain⟨t,q⟩:=(show ∃ t,u=Value.str y t from rx);cases q;exact PySem.W.kia_one PySem.W.kitx_str I.kIn True.intro e (fun z=>nomatch z) h
 | flt y=>obtain⟨t,q⟩:=(show ∃ t,u=Value.float y t from rx);cases q;exact PySem.W.kia_one PySem.W.kitx_float I.kIn True.intro e (fun z=>nomatch z) h
 | @lst a xs ea =>
  cases (show u=Value.ref a from rx);obtain⟨_,_,n,_,h1⟩:=(show ObjOk X.prog X.w H s.heap a (.lst xs)from I.hok a _ ea)
  exact PySem.W.kia_one PySem.W.kitx_list I.kIn ⟨_,h1,rfl⟩ e (fun z=>nomatch z) h
 | @frz a ob xs ea =>
  cases (show u=Value.ref a from rx);obtain⟨_,_,_,n,_,h1⟩:=(show ObjOk X.prog X.w H s.heap a (.frz ob (.lst xs))from I.hok a _ ea)
  exact PySem.W.kia_one PySem.W.kitx_list I.kIn ⟨_,h1,rfl⟩ e (fun z=>nomatch z) h
 | @tup a xs ea =>
  cases (show u=Value.ref a from rx);obtain⟨_,_,_,p,_⟩:=(show ObjOk X.prog X.w H s.heap a (.tup xs)from I.hok a _ ea)
  obtain⟨o,h1,h2,_⟩:=p;exact PySem.W.kia_one PySem.W.kitx_tuple I.kIn ⟨o,h1,h2⟩ e (fun z=>nomatch z) h
 | @dK a kvs ea =>
  cases (show u=Value.ref a from rx);obtain⟨_,_,vs,_,p⟩:=(show ObjOk X.prog X.w H s.heap a (.dK kvs)from I.hok a _ ea)
  obtain⟨o,es,ep,h1,h2,_⟩:=p;exact PySem.W.kia_one PySem.W.kitx_dict I.kIn ⟨o,h1,h2.1⟩ e (fun z=>nomatch z) h
 | @dT a kvs ea =>
  cases (show u=Value.ref a from rx);obtain⟨_,_,xs,_,o,es,ep,h1,h2,_⟩:=(show ObjOk X.prog X.w H s.heap a (.dT kvs)from I.hok a _ ea)
  exact PySem.W.kia_one PySem.W.kitx_dict I.kIn ⟨o,h1,h2.1⟩ e (fun z=>nomatch z) h
 | @ins a C dx fs ea cl ha hn htk hm =>
  cases (show u=Value.ref a from rx);obtain⟨mA,O,_⟩:=Zlj I.hok ea;obtain⟨od,J,_⟩:=O.look;exact PySem.W.kia_one (PySem.W.kitx_own (cl.get _) cl.hd ha hn htk hm) I.kIn J e (fun z=>nomatch z) h
end
structure Room (k:Nat) (A:Around):Prop where
 hd:A.handled=none
 dp:A.depth+3*k+5<recursionLimit
 un:A.units+16*k+200<cLine
theorem Room.mono (r:Room k A) (h:j<=k):Room j A:=⟨r.hd,by have:=r.dp;omega,by have:=r.un;omega⟩
theorem Room.deeper (r:Room (k+1) A) (env:Env):Room k (A.deeper env) :=
 ⟨r.hd,by have:=r.dp;show A.depth+1+3*k+5<_;omega,by have:=r.un;show A.units+3+16*k+200<_;omega⟩
theorem Room.depth (r:Room k A):A.depth<recursionLimit:=by have:=r.dp;omega
theorem Room.units (r:Room k A):A.units+64<cLine:=by have:=r.un;omega
def Zor:TA:=fun _ H Q=>Q [] H
def Znr (ta:TE) (tr:TA):TA:=fun σ H Q=>ta σ H fun x H1=>tr σ H1 fun xs H2=>Q (x::xs) H2
section
variable {X:Cx} {e:Expr} {es:List Expr} {te:TE} {t:TA} {pos:Pos}
theorem Zc:PA X [] Zor:=fun _ _ _ _ H Q I h=>Calls.spliced_nil ⟨[],H,I,.nil,h⟩
theorem Za (ha:PE X e te) (hr:PA X es t) (hs:starEach (e::es) X.env=(false,eval e X.env)::starEach es X.env:=by rfl):PA X (e::es) (Znr te t):=by
 intro pos pins s σ H Q I h;rw[hs];show wpAny _ _ (spliced ((false,eval e X.env)::backTo pos (starEach es X.env))) _ _ s;refine Calls.spliced_cons (thn (ha pins s σ H _ I h) fun u s1 ⟨x,H1,I1,r1,q1⟩=>?_);exact thn (hr pos pins s1 σ H1 _ I1 q1) fun us s2 ⟨xs,H2,I2,r2,q2⟩=>⟨x::xs,H2,I2,.cons r1 r2,q2⟩
def Zon (t:TA):TE:=fun σ H Q=>t σ H fun xs H1=>xs.length<=sizeLine/\∀ p,H1 p=none->Q (.ref p) (upd H1 p (.tup xs))
def Zos (t:TA):TE:=fun σ H Q=>t σ H fun xs H1=>xs.length<=sizeLine/\∀ p,H1 p=none->Q (.ref p) (upd H1 p (.lst xs))
theorem Yt {x1} (h:PA X es t):PE X (.Tuple es x1 pos) (Zon t):=by
 intro pins s σ H Q I hq;refine wpAny_Tuple_spliced (thn (h pos pins s σ H _ I hq) fun us s1 ⟨xs,H1,I1,r,z,q⟩=>⟨by rw[←r.length];exact z,?_⟩);have hf:H1 s1.heap.objs.size=none:=I1.hok.fresh (Qk _);refine⟨.ref s1.heap.objs.size,upd H1 s1.heap.objs.size (.tup xs),I1.laid (t':=s1.toks) (fun b u e=>Qh _ e) (Qk _) ?_,rfl,q _ hf⟩;exact⟨z,us,r,⟨_,Qx _ rfl,rfl,_,rfl⟩,ZbJ rfl rfl⟩
theorem ZT (h:PA X es t):PE X (.List es pos) (Zos t):=by
 intro pins s σ H Q I hq;refine wpAny_List_spliced (thn (h pos pins s σ H _ I hq) fun us s1 ⟨xs,H1,I1,r,z,q⟩=>⟨by rw[←r.length];exact z,?_⟩);have hf:H1 s1.heap.objs.size=none:=I1.hok.fresh (Qk _);refine⟨.ref s1.heap.objs.size,upd H1 s1.heap.objs.size (.lst xs),I1.laid (t':=s1.toks) (fun b u e=>Qh _ e) (Qk _) ?_,rfl,q _ hf⟩;exact⟨z,us,0,r,Qx _ rfl⟩
end
abbrev Sp:=List V->Hp->VK->XK->Prop
abbrev CXT:=List Env->Hp->Shared->XK->Value->Shared->Prop
structure Znc (P:Program) (w:World) (K:PySem.W.Frag) (mg:Str->Option Value) (base:Heap) (A:Around) (outer:List Env) (s:Shared) (H:Hp):Prop where
 frames:A.frames=some outer
 mod:Mod K mg base
 bs:∀ b o,base.get? b=some o->s.heap.get? b=some o/\H b=none
 bsz:base.objs.size<=s.heap.objs.size
 funs:s.heap.FunFrames base outer
 frf:∀ b∈frs outer,H b=none
 hok:HOk P w H s.heap
 bare:AllBare s.gens
def CE (outer:List Env) (P:Program) (w:World) (H:Hp) (s:Shared) (Q:VK) (u:Value) (s':Shared):Prop :=
 ∃ v H',s'.os=s.os/\AllBare s'.gens/\Un (frs outer) [] H H' s.heap s'.heap/\HOk P w H' s'.heap/\RelV v u/\Q v H'
def CR (CX:CXT) (outer:List Env) (P:Program) (w:World) (H:Hp) (s:Shared) (Q:VK) (E:XK) (r:Result) (s':Shared):Prop :=
 match r with
 | .ok (.ret u)=>CE outer P w H s Q u s'
 | .ok _=>False
 | .error e=>CX outer H s E e s'
structure FnOk (P:Program) (w:World) (K:PySem.W.Frag) (mg:Str->Option Value) (base:Heap) (CX:CXT) (k:Nat) (f:Addr) (fd:FuncData) (ps:List Str) (sp:Sp):Prop where
 len:∀ vs H Q E,sp vs H Q E->vs.length=ps.length
 run:∀ (A:Around) (outer:List Env) (s:Shared) (H:Hp) (args:Args) (us:List Value) (vs:List V) (Q:VK) (E:XK),Room k A->Znc P w K mg base A outer s H->BindsTo s fd args (ps.zip us)->Vals vs us->sp vs H Q E ->
  codeAny (model P w) A (.call (.ref f) args) (CR CX outer P w H s Q E) s
theorem FnOk.mono {P:Program} {w:World} {K:PySem.W.Frag} {mg:Str->Option Value} {base:Heap} {CX:CXT} {fd:FuncData} {sp:Sp} (F:FnOk P w K mg base CX j f fd ps sp) (h:j<=k) :
  FnOk P w K mg base CX k f fd ps sp:=⟨F.len,fun A outer s H args us vs Q E hr=>F.run A outer s H args us vs Q E (hr.mono h)⟩
section
variable {X:Cx} {pins:List (Addr×Obj)} {σ:St} {H:Hp} {s s':Shared}
theorem Inv.env0 (I:Inv X pins σ H s):Znc X.prog X.w X.K X.mg X.base X.A X.stack s H :=
 ⟨I.ok.frames,I.ok.mod,I.bs,Wg I.ok.bsz I.sz,I.stack,I.stkFree,I.hok,I.bare⟩
theorem Inv.after {Q:VK} (I:Inv X pins σ H s) (h:CE X.stack X.prog X.w H s Q u s'):EP X pins σ Q u s':=by
 obtain⟨v,H',os,bare,un,hok,r,q⟩:=h;obtain⟨hh,g,d,t,os'⟩:=s';obtain rfl:os'=s.os:=os;exact⟨v,H',I.call (h':=hh) (g':=g) (d':=d) (t':=t) (ch:=[]) un hok bare (fun b z=>absurd z (by simp)),r,q⟩
end
def ZiJ (sp:Sp) (dvs:List V) (E:XK) (t:TA):TE:=fun σ H Q=>t σ H fun vs H1=>sp (vs++dvs) H1 Q E
def Binds (K:PySem.W.Frag) (fd:FuncData) (ps:List Str) (ds:List Value):Prop :=
 ∀ (s:Shared) (us:List Value),K.In s.heap->(us++ds).length=ps.length->BindsTo s fd ⟨us,[]⟩ (ps.zip (us++ds))
theorem Binds.all {K:PySem.W.Frag} {fd:FuncData} (h:∀ us:List Value,us.length=ps.length->bindArgs fd ⟨us,[]⟩=pure (ps.zip us)):Binds K fd ps []:=fun s us _ hl=>by
 rw[Ud]at hl ⊢;exact .of_eq (h us hl)
def Zdk (CX:CXT) (X:Cx) (E:XK):Prop:=∀ (pins:List (Addr×Obj)) (σ:St) (H:Hp) (s:Shared) (e:Value) (s':Shared),Inv X pins σ H s->CX X.stack H s E e s'->X.xe e s'
section
variable {X:Cx} {CX:CXT} {k:Nat} {f C:Addr} {fd:FuncData} {ps:List Str} {sp:Sp} {dvs:List V} {ds:List Value} {E:XK} {x m:Str} {p pos apos:Pos} {e o:Expr} {es:List Expr} {ta:TE} {t:TA}
theorem Zl9 {Q:VK} {us:List Value} {vs:List V} (F:FnOk X.prog X.w X.K X.mg X.base CX k f fd ps sp) (hr:Room k X.A) (hb:Binds X.K fd ps ds) (hd:Vals dvs ds) (hx:Zdk CX X E)
  (I:Inv X pins σ H s) (r:Vals vs us) (h:sp (vs++dvs) H Q E):wpAny (model X.prog X.w) X.A (call (.ref f) us) (EP X pins σ Q) X.xe s:=by
 have r2:Vals (vs++dvs) (us++ds):=r.append hd;have hl:(us++ds).length=ps.length:=by rw[←r2.length];exact F.len _ _ _ _ h
 refine wpAny_call (codeAny_mono (F.run X.A X.stack s H ⟨us,[]⟩ (us++ds) (vs++dvs) Q E hr I.env0 (hb s us I.kIn hl) r2 h) fun r s' hq=>?_);cases r with
 | error e=>exact hx pins σ H s e s' I hq
 | ok fl =>
  cases fl with
  | ret u=>exact I.after hq
  | next=>exact False.elim hq
  | brk=>exact False.elim hq
  | cont=>exact False.elim hq
theorem ZdP (F:FnOk X.prog X.w X.K X.mg X.base CX k f fd ps sp) (hr:Room k X.A) (hg:Gl X x) (hm:X.mg x=some (.ref f)) (hk:PySem.W.keepIn X.K (.ref f)=true) (hb:Binds X.K fd ps ds) (hd:Vals dvs ds) (hx:Zdk CX X E)
  (ha:PA X (e::es) t) (hdb:(x==("__debug__" : Str))=false:=by decide) (he:starEach (e::es) X.env=(false,eval e X.env)::starEach es X.env:=by rfl) (hpl:(backTo pos (starEach es X.env)).any (·.1)=false:=by rfl) :
  PE X (.Call (.Name x p) (e::es) [] pos) (ZiJ sp dvs E t):=by
 intro pins s σ H Q I h;refine wpAny_Call_Name_kw (Zan I hg hm ?_ hdb);refine PySem.W.callWith_K (h₀:=X.base) I.ok.mod.kin hk (thn (ha pos pins s σ H _ I h) fun us s1 ⟨vs,H1,I1,r,q⟩=>⟨I1.kIn,?_⟩) he hpl;exact Zl9 F hr hb hd hx I1 r q
end
section
variable {X:Cx} {CX:CXT} {k:Nat} {f C:Addr} {fd:FuncData} {ps ks:List Str} {sp:Sp} {E:XK} {x m:Str} {p pos apos kpos:Pos} {e o:Expr} {es:List Expr} {kws:List Keyword} {te ta:TE} {t tk:TA} {nm:Option Str}
variable {g:List Value->List Value->List Value} {gV:List V->List V->List V}
end
structure Zp (N P:List Str) (sc:Scope):Prop where
 kind:sc.kind= .function
 co:sc.isCoroutine=false
 gen:sc.isGenerator=false
 nd:N.Nodup
 pre:N.take P.length=P
 par:∀ x∈P,sc.names.lookup x=some .local\/sc.names.lookup x=some .cell
 nofree:∀ y∈sc.names,y.2≠.free
theorem Zdc {kindOf:Str->Option NameKind} {x:Str}:∀ {binds:List (Str×Value)} {m:Str->Option Value},(∀ v,(x,v)∉binds)->bindL kindOf binds m x=m x
 | [],_,_=>rfl
 | (n,v)::r,m,h=>by
  unfold bindL;rw[Zdc fun w hw=>h w (Ql _ hw)];split
  ·have:x≠n:=by rintro rfl;exact h v Qj
   simp[this]
  ·rfl
theorem Zde {kindOf:Str->Option NameKind} {x:Str}:∀ {binds:List (Str×Value)} {m:Str->Option Value},(∀ v,(x,v)∉binds)->bindC kindOf binds m x=m x
 | [],_,_=>rfl
 | (n,v)::r,m,h=>by
  unfold bindC;rw[Zde fun w hw=>h w (Ql _ hw)];split
  ·rfl
  ·have:x≠n:=by rintro rfl;exact h v Qj
   simp[this]
theorem Zdd {kindOf:Str->Option NameKind} {x:Str} {v:Value}:∀ {P:List Str} {vs:List Value} {i:Nat} {m:Str->Option Value},P.Nodup->P[i]?=some x->vs[i]?=some v->kindOf x=some .local ->
  bindL kindOf (P.zip vs) m x=some v
 | [],_,_,_,_,h,_,_=>by simp at h
 | _::_,[],_,_,_,_,h,_=>by simp at h
 | p::P,w::vs,0,m,nd,h1,h2,hk=>by
  simp at h1 h2;subst h1;subst h2;show bindL kindOf ((p,w)::P.zip vs) m p=_;unfold bindL;rw[Zdc fun v hv=>(Wj.mp nd).1 (Rp hv).1,if_pos hk];simp
 | p::P,w::vs,i+1,m,nd,h1,h2,hk=>by
  show bindL kindOf ((p,w)::P.zip vs) m x=_;unfold bindL;exact Zdd (i:=i) (Wj.mp nd).2 (by simpa using h1) (by simpa using h2) hk
theorem Zdf {kindOf:Str->Option NameKind} {x:Str} {v:Value}:∀ {P:List Str} {vs:List Value} {i:Nat} {m:Str->Option Value},P.Nodup->P[i]?=some x->vs[i]?=some v->kindOf x≠some .local ->
  bindC kindOf (P.zip vs) m x=some v
 | [],_,_,_,_,h,_,_=>by simp at h
 | _::_,[],_,_,_,_,h,_=>by simp at h
 | p::P,w::vs,0,m,nd,h1,h2,hk=>by
  simp at h1 h2;subst h1;subst h2;show bindC kindOf ((p,w)::P.zip vs) m p=_;unfold bindC;rw[Zde fun v hv=>(Wj.mp nd).1 (Rp hv).1,if_neg hk];simp
 | p::P,w::vs,i+1,m,nd,h1,h2,hk=>by
  show bindC kindOf ((p,w)::P.zip vs) m x=_;unfold bindC;exact Zdf (i:=i) (Wj.mp nd).2 (by simpa using h1) (by simpa using h2) hk
def start (N:List Str) (vs:List V):St:=vs.map some++QJ (N.length-vs.length) none
def Zig (CX:CXT) (P:Program) (w:World) (K:PySem.W.Frag) (mg:Str->Option Value) (base:Heap) (N:List Str) (qual:Str) (scope:Scope) (f:Addr) (cd:Value) (A:Around) (outer:List Env) (s:Shared) (H:Hp) (E:XK):Cx where
 prog:=P
 w:=w
 K:=K
 mg:=mg
 base:=base
 A:=A.deeper (envOfC qual scope s.heap.objs.size f cd)
 N:=N
 s₀:=s
 H₀:=H
 env:=envOfC qual scope s.heap.objs.size f cd
 outer:=outer
 stack:=envOfC qual scope s.heap.objs.size f cd::outer
 ex:=[]
 calm:=true
 fn:=fun _=>true
 pn:=[]
 xe:=fun e s'=>wpAny (model P w) (A.deeper (envOfC qual scope s.heap.objs.size f cd)) (leaving (envOfC qual scope s.heap.objs.size f cd) e) (fun _ s''=>CX outer H s E e s'') (fun e' s''=>CX outer H s E e' s'') s'
theorem Zfk {sc:Scope} (h:sc.names.lookup x=some .cell):∃ c,(cellsFrom n sc.names []).lookup x=some c:=by
 have q:=PySem.W.cellsFrom_some sc.names n [] (.inl h);exact WY.mp q
theorem ZhU {CX:CXT} {P:Program} {w:World} {K:PySem.W.Frag} {mg:Str->Option Value} {base:Heap} {N:List Str} {qual:Str} {scope:Scope} {cd:Value} {outer:List Env} {s1:Shared} {E:XK} {us:List Value} {vs:List V}
  (S:Zp N ps scope) (hd:A.handled=none) (e0:Znc P w K mg base A outer s H) (hl:vs.length=ps.length) (r:Vals vs us)
  (x:InCallC s s.heap.objs.size (bindL (envOfC qual scope s.heap.objs.size f cd).kindOf (ps.zip us) fun _=>none) (cellsFrom (s.heap.objs.size+1) scope.names []) (bindC (envOfC qual scope s.heap.objs.size f cd).kindOf (ps.zip us) fun _=>none) s1) :
  Inv (Zig CX P w K mg base N qual scope f cd A outer s H E) [] (start N vs) H s1:=by
 have hpl:ps.length<=N.length:=by have:=congrArg UP S.pre;rw[QP]at this;omega
 obtain⟨h1,tk,rfl,hk⟩:=x.done;have noA:∀ b:Addr,b∉(Zig CX P w K mg base N qual scope f cd A outer s H E).ex:=fun b z=>absurd (show b∈([]:List Addr)from z) (by simp);refine⟨⟨e0.mod,S.kind,rfl,rfl,Qk _,fun y z c h1 h2=>?_,fun y hy=>?_,fun y c _ h=>?_,fun _=>hd,Around.frames_deeper e0.frames,.inr ⟨rfl,rfl⟩,fun b z=>absurd z (noA b),e0.bs,e0.bsz,fun b _ _=>noA b,fun b z=>absurd z (noA b),e0.funs,e0.frf⟩,
  rfl,e0.bare,Un.kept hk,⟨_,x.toInCall.ns,fun i y v h1 h2 h3=>?_⟩,fun y c h=>⟨_,x.cell y c h⟩,e0.hok.fresh (Qk _),fun y c h=>?_,fun p hp=>absurd (show p∈([]:List (Addr×Obj))from hp) (by simp),e0.hok.kept hk,?_⟩
 ·exact name_of_addr x.apart (PySem.mem_of_lookup h1) (PySem.mem_of_lookup h2)
 ·have hy:scope.names.lookup y=some .cell\/scope.names.lookup y=some .free:=hy;rcases hy with hy | hy
  ·exact Zfk hy
  ·exact absurd rfl (S.nofree _ (PySem.mem_of_lookup hy))
 ·exact Rf (x.above y c (PySem.mem_of_lookup h))
 ·have hi:i<vs.length:=by
   unfold start at h2;by_cases hi:i<vs.length
   ·exact hi
   ·rw[QI (by simpa using hi)]at h2;rw[Us]at h2;split at h2 <;> cases h2
  have ha:vs[i]?=some v:=by
   unfold start at h2;rw[QO (by simpa using hi),Qg]at h2;cases e:vs[i]? with
   | none=>rw[e]at h2;cases h2
   | some a=>rw[e]at h2;cases h2;rfl
  obtain⟨u,hu,rv⟩:=r.get ha;have hp:ps[i]?=some y:=by
   rw[←S.pre,List.getElem?_take_of_lt (by omega)];exact h1
  have ndP:ps.Nodup:=by rw[←S.pre];exact S.nd.sublist (List.take_sublist _ _)
  refine⟨u,rv,?_⟩;rcases S.par y (QX hp)with k | k
  ·exact .inl ⟨k,Zdd ndP hp hu k⟩
  ·obtain⟨c,e⟩:=Zfk (n:=s.heap.objs.size+1) k;refine .inr ⟨.inl k,c,e,?_⟩;have q:=x.cell y c e;rw[Zdf ndP hp hu (by show scope.names.lookup y≠_;rw[k];decide)]at q;exact q
 ·exact e0.hok.fresh (Rf (x.above y c (PySem.mem_of_lookup h)))
 ·unfold start;show _=N.length;rw[Qd,Qc,Q4];omega
theorem ZmU {CX:CXT} {P:Program} {w:World} {K:PySem.W.Frag} {mg:Str->Option Value} {base:Heap} {name qual:Str} {params:Arguments} {scope:Scope} {dV kV doc pm cdv ct oc:Value} {an od:Option Addr}
  {osl:Array (Option Value)} {N ps:List Str} {sp:Sp} (lk:K.lookup f=some ⟨oc,od,.func (PySem.W.fnOf name qual params body scope dV kV doc pm an cdv ct),osl⟩) (hcd:PySem.W.codeIn K cdv qual=true) (S:Zp N ps scope)
  (len:∀ vs H Q E,sp vs H Q E->vs.length=ps.length)
  (hbody:∀ (A:Around) (outer:List Env) (s:Shared) (H:Hp) (vs:List V) (Q:VK) (E:XK),Room k (A.deeper (envOfC qual scope s.heap.objs.size f cdv))->sp vs H Q E ->
   ∃ t,PSs (Zig CX P w K mg base N qual scope f cdv A outer s H E) body t/\t {nx:=fun _ H'=>Q .non H',rt:=Q} (start N vs) H) :
  FnOk P w K mg base CX (k+1) f (PySem.W.fnOf name qual params body scope dV kV doc pm an cdv ct) ps sp:=by
 refine⟨len,fun A outer s H args us vs Q E hr e0 hb r hsp=>?_⟩;have hl:=len _ _ _ _ hsp;have KX:K.In s.heap:=e0.mod.kin.keeps fun b o e=>(e0.bs b o e).1;have lim:s.heap.NoLimit:=e0.mod.nolimit.keeps fun b o e=>(e0.bs b o e).1;have hkind:∀ y∈ps.zip us,scope.names.lookup y.1=some .local\/(scope.names.lookup y.1=some .cell/\((cellsFrom (s.heap.objs.size+1) scope.names []).lookup y.1).isSome=true):=fun⟨n,v⟩ hy=>by
  rcases S.par n (Rp hy).1 with q | q
  ·exact .inl q
  ·exact .inr ⟨q,PySem.W.cellsFrom_some _ _ _ (.inl q)⟩
 refine codeAny_call_function hr.depth (KX _ _ lk) rfl S.co S.gen rfl (PySem.W.codeRec_of KX hcd) (hb _ _ _ _ ?_);refine wpAny_newFunctionEnv_cells S.kind hkind fun env he s1 x=>?_;subst he;refine⟨lim.keeps x.toInCall.keep,codeAny_func ?_⟩;obtain⟨t,ht,hq⟩:=hbody A outer s H vs Q E (hr.deeper _) hsp;have I:Inv (Zig CX P w K mg base N qual scope f cdv A outer s H E) [] (start N vs) H s1:=ZhU S hr.hd e0 hl r x;refine wpAny_mono (ht [] s1 (start N vs) H _ I hq) (fun fl s' hs=>?_) fun e s' hs=>hs;have fin:∀ {σ':St} {H':Hp} {v:V} {u:Value},Inv (Zig CX P w K mg base N qual scope f cdv A outer s H E) [] σ' H' s'->RelV v u->Q v H'->CE outer P w H s Q u s' :=
  fun {σ' H' v u} J rv q=>⟨v,H',J.os,J.bare,J.base,J.hok,rv,q⟩
 cases fl with
 | ret u =>
  obtain⟨v,σ',H',J,rv,q⟩:=hs;exact fin J rv q
 | next =>
  obtain⟨σ',H',J,q⟩:=hs;exact fin (v:=V.non) (u:=Value.none) J rfl q
 | brk =>
  obtain⟨_,_,_,q⟩:=hs;exact False.elim q
 | cont =>
  obtain⟨_,_,_,q⟩:=hs;exact False.elim q
section
variable {X:Cx} {x:Str} {p pos:Pos} {e:Expr} {es:List Expr} {t:TA} {id T:String} {r:List V->Hp->VK->Prop}
def tCB (r:List V->Hp->VK->Prop) (t:TA):TE:=fun σ H Q=>t σ H fun vs H1=>r vs H1 Q
theorem Zj (hc:CallR X (.builtin id) r) (hg:Gl X x) (hm:X.mg x=none) (hv:bootBuiltins x=some (.builtin id)) (ha:PA X (e::es) t) (hn:x≠"__name__":=by decide) (hdb:(x==("__debug__" : Str))=false:=by decide)
  (he:starEach (e::es) X.env=(false,eval e X.env)::starEach es X.env:=by rfl) (hpl:(backTo pos (starEach es X.env)).any (·.1)=false:=by rfl):PE X (.Call (.Name x p) (e::es) [] pos) (tCB r t):=by
 intro pins s σ H Q I h;refine wpAny_Call_Name_kw (JG I hg hm hv ?_ hn hdb);exact PyProof.Rows.callWith_builtin1 (thn (ha pos pins s σ H _ I h) fun us s1 ⟨vs,H1,I1,r1,q1⟩=>hc pins s1 σ H1 vs us Q I1 r1 q1) he hpl
theorem ZJ (hc:CallR X (.type T) r) (hg:Gl X x) (hm:X.mg x=none) (hv:bootBuiltins x=some (.type T)) (ha:PA X (e::es) t) (hn:x≠"__name__":=by decide) (hdb:(x==("__debug__" : Str))=false:=by decide)
  (he:starEach (e::es) X.env=(false,eval e X.env)::starEach es X.env:=by rfl) (hpl:(backTo pos (starEach es X.env)).any (·.1)=false:=by rfl):PE X (.Call (.Name x p) (e::es) [] pos) (tCB r t):=by
 intro pins s σ H Q I h;refine wpAny_Call_Name_kw (JG I hg hm hv ?_ hn hdb);exact PyProof.Rows.callWith_type1 (thn (ha pos pins s σ H _ I h) fun us s1 ⟨vs,H1,I1,r1,q1⟩=>hc pins s1 σ H1 vs us Q I1 r1 q1) he hpl
end
section
variable {κ:Type} [DecidableEq κ]
def Xx (kvs:List (κ×V)) (k:κ):Option V:=(kvs.find? fun kv=>decide (kv.1=k)).map (·.2)
def Jc (kvs:List (κ×V)) (k:κ) (v:V):List (κ×V) :=
 if (kvs.any fun kv=>decide (kv.1=k))=true then kvs.map (fun kv=>if kv.1=k then (kv.1,v)else kv)else kvs++[(k,v)]
def ZcX (kvs:List (κ×V)) (k:κ):List (κ×V):=kvs.filter fun kv=>decide (kv.1≠k)
theorem JO {p:κ×V} {r:List (κ×V)} {k:κ} (e:p.1=k):Xx (p::r) k=some p.2:=by simp[Xx,Ut,e]
theorem JP {p:κ×V} {r:List (κ×V)} {k:κ} (e:¬ p.1=k):Xx (p::r) k=Xx r k:=by simp[Xx,Ut,e]
theorem JQ (k:κ):∀ kvs:List (κ×V),(kvs.any fun kv=>decide (kv.1=k))=(Xx kvs k).isSome
 | []=>rfl
 | p::r=>by
  rw[US];by_cases e:p.1=k
  ·simp only[JO e,decide_eq_true e,Bool.true_or,RI]
  ·rw[JP e,decide_eq_false e,Bool.false_or];exact JQ k r
theorem YZ (kvs:List (κ×V)) (k:κ) (v:V):(Jc kvs k v).length<=kvs.length+1:=by
 unfold Jc;split
 ·rw[Qc];omega
 ·rw[Qd,QG,Uu];omega
theorem JX {kvs:List (κ×V)} {k:κ} (v:V) (h:Xx kvs k=none):Jc kvs k v=kvs++[(k,v)]:=by
 unfold Jc;rw[JQ,h];exact if_neg (by decide)
theorem RelO.isSome_eq {o:Option V} {u:Option Value} (r:RelO o u):o.isSome=u.isSome:=by
 cases o with
 | none=>cases u with
  | none=>rfl
  | some _=>exact(show False from r).elim
 | some _=>cases u with
  | none=>exact(show False from r).elim
  | some _=>rfl
theorem RelO.getD {o:Option V} {u:Option Value} {d:V} {d':Value} (r:RelO o u) (rd:RelV d d'):RelV (o.getD d) (u.getD d'):=by
 cases o with
 | none=>cases u with
  | none=>exact rd
  | some _=>exact(show False from r).elim
 | some _=>cases u with
  | none=>exact(show False from r).elim
  | some _=>exact r
theorem KV.val {kvs:List (κ×V)} {vs:List (κ×Value)} (r:KV kvs vs) (k:κ):RelO (Xx kvs k) (valueAt vs k):=by
 unfold KV at r;induction r with
 | nil=>exact True.intro
 | @cons p q ps qs h t ih =>
  obtain⟨h1,h2⟩:=h;by_cases e:p.1=k
  ·have e':q.1=k:=h1.symm.trans e;have b:valueAt (q::qs) k=some q.2:=by simp[valueAt,Ut,e']
   rw[JO e,b];exact h2
  ·have e':¬ q.1=k:=fun z=>e (h1.trans z);have b:valueAt (q::qs) k=valueAt qs k:=by simp[valueAt,Ut,e']
   rw[JP e,b];exact ih
theorem KV.any {kvs:List (κ×V)} {vs:List (κ×Value)} (r:KV kvs vs) (k:κ):(kvs.any fun kv=>decide (kv.1=k))=vs.any fun kv=>decide (kv.1=k):=by
 unfold KV at r;induction r with
 | nil=>rfl
 | cons h t ih=>rw[US,US,ih,h.1]
theorem KV.repl {kvs:List (κ×V)} {vs:List (κ×Value)} (r:KV kvs vs) (k:κ) {y:V} (ry:RelV y u) :
  KV (kvs.map fun kv=>if kv.1=k then (kv.1,y)else kv) (vs.map fun kv=>if kv.1=k then (kv.1,u)else kv):=by
 unfold KV at r ⊢;induction r with
 | nil=>exact .nil
 | @cons p q ps qs h t ih =>
  rw[Qs,Qs];refine .cons ?_ ih;obtain⟨h1,h2⟩:=h;by_cases e:p.1=k
  ·rw[if_pos e,if_pos (h1.symm.trans e)];exact⟨h1,ry⟩
  ·rw[if_neg e,if_neg (fun z=>e (h1.trans z))];exact⟨h1,h2⟩
theorem KV.put {kvs:List (κ×V)} {vs:List (κ×Value)} (r:KV kvs vs) (k:κ) {y:V} (ry:RelV y u):KV (Jc kvs k y) (stored vs k u):=by
 unfold Jc stored;rw[r.any k];by_cases e:(vs.any fun kv=>decide (kv.1=k))=true
 ·rw[if_pos e,if_pos e];exact r.repl k ry
 ·rw[if_neg e,if_neg e];exact Paired.snoc r ⟨rfl,ry⟩
theorem KV.drop {kvs:List (κ×V)} {vs:List (κ×Value)} (r:KV kvs vs) (k:κ):KV (ZcX kvs k) (without vs k):=by
 unfold KV at r ⊢;unfold ZcX without;induction r with
 | nil=>exact .nil
 | @cons p q ps qs h t ih =>
  obtain⟨h1,h2⟩:=h;rw[WS,WS];by_cases e:p.1=k
  ·have a:¬ decide (p.1≠k)=true:=by simp[e]
   have b:¬ decide (q.1≠k)=true:=by simp[h1.symm.trans e]
   rw[if_neg a,if_neg b];exact ih
  ·have e':¬ q.1=k:=fun z=>e (h1.trans z);have a:decide (p.1≠k)=true:=by simp[e]
   have b:decide (q.1≠k)=true:=by simp[e']
   rw[if_pos a,if_pos b];exact .cons ⟨h1,h2⟩ ih
theorem KV.keys {kvs:List (κ×V)} {vs:List (κ×Value)} (r:KV kvs vs):kvs.map (·.1)=vs.map (·.1):=by
 unfold KV at r;induction r with
 | nil=>rfl
 | cons h t ih=>rw[Qs,Qs,ih,h.1]
theorem KV.length {kvs:List (κ×V)} {vs:List (κ×Value)} (r:KV kvs vs):kvs.length=vs.length:=Paired.length r
theorem Zfi (kvs:List (κ×V)) (k:κ):(ZcX kvs k).length<=kvs.length:=Q7 _ _
end
theorem JJ {P:Program} {w:World} {k:Key} (r:RelV (kV k) u):(Zz P w).is k u=true:=by
 cases k with
 | inl i=>obtain⟨t,e⟩:=(show ∃ t,u=Value.int i t from r);subst e;exact Zd5 P w i t
 | inr x=>obtain⟨t,e⟩:=(show ∃ t,u=Value.str x t from r);subst e;exact XI P w x t
theorem ZcP {P:Program} {w:World}:∀ {ks:List Key} {us:List Value},Vals (ks.map kV) us->ItemsAre (Zz P w) ks us
 | [],_,r=>by rw[WH]at r;cases r;exact .nil
 | k::ks,_,r=>by
  rw[Qs]at r;cases r with
  | cons h t=>exact .cons (JJ h) (ZcP t)
abbrev KT (H:Hp):List (List Key×V)->List (List Key×Addr×Value)->Prop:=Paired fun p q=>p.1=q.1/\H q.2.1=some (.tup (p.1.map kV))/\RelV p.2 q.2.2
theorem KT.val {kvs:List (List Key×V)} {xs:List (List Key×Addr×Value)} (r:KT H kvs xs) (k:List Key):RelO (Xx kvs k) ((atKey xs k).map (·.2)):=by
 induction r with
 | nil=>exact True.intro
 | @cons p q ps qs h t ih =>
  obtain⟨h1,_,h2⟩:=h;by_cases e:p.1=k
  ·have e':q.1=k:=h1.symm.trans e;have b:atKey (q::qs) k=some q.2:=by simp[atKey,Ut,e']
   rw[JO e,b];exact h2
  ·have e':¬ q.1=k:=fun z=>e (h1.trans z);have b:atKey (q::qs) k=atKey qs k:=by simp[atKey,Ut,e']
   rw[JP e,b];exact ih
theorem KT.repl {kvs:List (List Key×V)} {xs:List (List Key×Addr×Value)} (r:KT H kvs xs) (k:List Key) {y:V} (ry:RelV y u) :
  KT H (kvs.map fun kv=>if kv.1=k then (kv.1,y)else kv) (xs.map (putAt k u)):=by
 induction r with
 | nil=>exact .nil
 | @cons p q ps qs h t ih =>
  rw[Qs,Qs];refine .cons ?_ ih;obtain⟨h1,h2,h3⟩:=h;unfold putAt;by_cases e:p.1=k
  ·rw[if_pos e,if_pos (h1.symm.trans e)];exact⟨h1,h2,ry⟩
  ·rw[if_neg e,if_neg (fun z=>e (h1.trans z))];exact⟨h1,h2,h3⟩
theorem KT.put {kvs:List (List Key×V)} {xs:List (List Key×Addr×Value)} (r:KT H kvs xs) (k:List Key) {b:Addr} {y:V} (hb:H b=some (.tup (k.map kV))) (ry:RelV y u) :
  KT H (Jc kvs k y) (storedH xs k b u):=by
 have e:(kvs.any fun kv=>decide (kv.1=k))=(atKey xs k).isSome:=by
  rw[JQ,(r.val k).isSome_eq,Ra]
 unfold Jc storedH;rw[e];by_cases q:(atKey xs k).isSome=true
 ·rw[if_pos q,if_pos q];exact r.repl k ry
 ·rw[if_neg q,if_neg q];exact Paired.snoc r ⟨rfl,hb,ry⟩
theorem KT.keeps {kvs:List (List Key×V)} {xs:List (List Key×Addr×Value)} (r:KT H kvs xs) (ht:∀ b ys,H b=some (.tup ys)->H' b=some (.tup ys)):KT H' kvs xs :=
 Paired.mapP r fun _ _ z=>⟨z.1,ht _ _ z.2.1,z.2.2⟩
section
variable {P:Program} {w:World} {H:Hp} {h:Heap} {a:Addr}
theorem Zma {u:HO} (ok:HOk P w H h) (e:Rd H a u):ObjOk P w H h a u:=e.ok ok
theorem Zc1 (ok:HOk P w H h) (e:Rd H a (.dK kvs)):kvs.length<=sizeLine/\(a==sysModules)=false/\∃ vs,KV kvs vs/\h.DictOf (Zz P w) a vs :=
 show ObjOk P w H h a (.dK kvs)from Zma ok e
theorem Zc2 (ok:HOk P w H h) (e:H a=some (.dK kvs)):kvs.length<=sizeLine/\(a==sysModules)=false/\∃ vs,KV kvs vs/\h.DictOf (Zz P w) a vs:=Zc1 ok (.inl e)
theorem Za1 {ks:List Key} (ok:HOk P w H h) (e:H a=some (.tup (ks.map kV))):(tupleKind (Zz P w)).is h ks a:=by
 obtain⟨_,its,r,⟨o,h1,h2,n,h3⟩,_⟩:=(show ObjOk P w H h a (.tup (ks.map kV))from ok a _ e)
 exact⟨o,its.toArray,n,h1,h2,h3,by simpa using ZcP r⟩
theorem Zec {kvs:List (List Key×V)} (ok:HOk P w H h) (e:Rd H a (.dT kvs)):kvs.length<=sizeLine/\(a==sysModules)=false /\
  ∃ xs,KT H kvs xs/\h.DictOfH (tupleKind (Zz P w)) a xs:=by
 obtain⟨z,y,xs,r,o,es,ep,h1,h2,h3,h4,h5⟩:=(show ObjOk P w H h a (.dT kvs)from Zma ok e)
 refine⟨z,y,xs,r,o,es,ep,h1,h2,h3,h4,fun x hx=>?_,h5⟩;have all:∀ {l:List (List Key×V)} {m:List (List Key×Addr×Value)},KT H l m->∀ x∈m,(tupleKind (Zz P w)).is h x.1 x.2.1:=by
  intro l m q;induction q with
  | nil=>intro x hx;exact nomatch hx
  | @cons p q ps qs hq t ih =>
   intro x hx;rcases Qy.mp hx with e | hx
   ·subst e;exact Za1 ok (by rw[←hq.1];exact hq.2.1)
   ·exact ih x hx
 exact all r x hx
theorem ZnQ {kvs:List (List Key×V)} (ok:HOk P w H h) (e:H a=some (.dT kvs)):kvs.length<=sizeLine/\(a==sysModules)=false /\
  ∃ xs,KT H kvs xs/\h.DictOfH (tupleKind (Zz P w)) a xs:=Zec ok (.inl e)
end
def DGet (H:Hp) (a:Addr) (y:V) (r:Option V):Prop :=
 (∃ kvs k,Rd H a (.dK kvs)/\y=kV k/\r=Xx kvs k)\/∃ kvs k b,Rd H a (.dT kvs)/\y= .ref b/\H b=some (.tup (k.map kV))/\r=Xx kvs k
def DPut (H:Hp) (a:Addr) (y v:V) (H':Hp):Prop :=
 (∃ kvs k,H a=some (.dK kvs)/\y=kV k/\kvs.length<sizeLine/\H'=upd H a (.dK (Jc kvs k v))) \/
 ∃ kvs k b,H a=some (.dT kvs)/\y= .ref b/\H b=some (.tup (k.map kV))/\kvs.length<sizeLine/\H'=upd H a (.dT (Jc kvs k v))
theorem DGet.kk {k:Key} (e:H a=some (.dK kvs)):DGet H a (kV k) (Xx kvs k):=.inl ⟨kvs,k,.inl e,rfl,rfl⟩
theorem DPut.kk {k:Key} (e:H a=some (.dK kvs)) (hl:kvs.length<sizeLine):DPut H a (kV k) v (upd H a (.dK (Jc kvs k v))):=.inl ⟨kvs,k,e,rfl,hl,rfl⟩
section
variable {X:Cx} {pins:List (Addr×Obj)} {σ:St} {H:Hp} {s:Shared} {a:Addr} {y v:V} {u r:Value} {o:Option V} {A:Around} {E:Value->Shared->Prop}
theorem Inv.big (I:Inv X pins σ H s):sysModules<s.heap.objs.size:=by
 have h:mainGlobals<s.heap.objs.size:=(I.mod.glob.keeps I.bk).lt;exact UA (by decide) h
theorem Zif (hu:A.units+1<cLine) (I:Inv X pins σ H s) (g:DGet H a y (some v)) (ry:RelV y u) (h:∀ w' s',Inv X pins σ H s'->RelV v w'->Q w' s') :
  wpAny (model X.prog X.w) A (getItem (.ref a) u) Q E s:=by
 rcases g with ⟨kvs,k,e,ey,l⟩ | ⟨kvs,k,b,e,ey,eb,l⟩
 ·subst ey;obtain⟨z,hd,vs,rel,dd⟩:=Zc1 I.hok e;obtain⟨w',hw,rw'⟩:=RelO.some_of (v:=v) (o:=valueAt vs k) (by rw[l];exact rel.val k);exact wpAny_getItem_of (JJ ry) dd.mapOf hw (h w' _ (I.tok _) rw')
 ·subst ey;cases (show u=Value.ref b from ry);obtain⟨z,hd,xs,rel,dd⟩:=Zec I.hok e;obtain⟨w',hw,rw'⟩:=RelO.some_of (v:=v) (o:=(atKey xs k).map (·.2)) (by rw[l];exact rel.val k);obtain⟨p,hp,hp2⟩:=QS.mp hw;refine wpAny_getItem_heap (tupleKind_room_in1 hu) (Za1 I.hok eb) dd hp ?_;rw[hp2];exact h w' _ (I.tok _) rw'
theorem ZoH (hu:A.units+1<cLine) (I:Inv X pins σ H s) (g:DGet H a y o) (ry:RelV y u) (h:∀ s',Inv X pins σ H s'->Q (.bool o.isSome) s') :
  wpAny (model X.prog X.w) A (compareOp .In u (.ref a)) Q E s:=by
 rcases g with ⟨kvs,k,e,ey,l⟩ | ⟨kvs,k,b,e,ey,eb,l⟩
 ·subst ey;obtain⟨z,hd,vs,rel,dd⟩:=Zc1 I.hok e;refine wpAny_in_of (JJ ry) hd dd.mapOf ?_;rw[←(rel.val k).isSome_eq,←l];exact h _ (I.tok _)
 ·subst ey;cases (show u=Value.ref b from ry);obtain⟨z,hd,xs,rel,dd⟩:=Zec I.hok e;refine wpAny_in_heap (tupleKind_room_in1 hu) (Za1 I.hok eb) hd dd ?_;have q:=(rel.val k).isSome_eq;rw[Ra]at q;rw[←q,←l];exact h _ (I.tok _)
theorem Zlr (hu:A.units+1<cLine) (I:Inv X pins σ H s) (g:DGet H a y o) (ry:RelV y u) (h:∀ s',Inv X pins σ H s'->Q (.bool (!o.isSome)) s') :
  wpAny (model X.prog X.w) A (compareOp .NotIn u (.ref a)) Q E s:=by
 rcases g with ⟨kvs,k,e,ey,l⟩ | ⟨kvs,k,b,e,ey,eb,l⟩
 ·subst ey;obtain⟨z,hd,vs,rel,dd⟩:=Zc1 I.hok e;refine wpAny_notIn_of (JJ ry) hd dd.mapOf ?_;rw[←(rel.val k).isSome_eq,←l];exact h _ (I.tok _)
 ·subst ey;cases (show u=Value.ref b from ry);obtain⟨z,hd,xs,rel,dd⟩:=Zec I.hok e;refine wpAny_notIn_heap (tupleKind_room_in1 hu) (Za1 I.hok eb) hd dd ?_;have q:=(rel.val k).isSome_eq;rw[Ra]at q;rw[←q,←l];exact h _ (I.tok _)
theorem Jx {h':Heap} {ob:HO} (I:Inv X pins σ H s) (mu:Mut (H a)) (hs:Heap.SameBut a s.heap h') (he:∃ q,h'.get? a=some q) (new:ObjOk X.prog X.w (upd H a ob) h' a ob) :
  Inv X pins σ (upd H a ob) {s with heap:=h',toks:=t'} :=
 I.write (x:=a) (e:=a) mu (.inl rfl) (fun b q hb z=>(hs.2 b hb).trans z) he new
theorem Zc3 {P:Program} {w:World} {h':Heap} {vs:List (Key×Value)} (z:kvs.length<=sizeLine) (hd:(a==sysModules)=false) (rel:KV kvs vs) (dd:h'.DictOf (Zz P w) a vs) :
  ObjOk P w H' h' a (.dK kvs):=⟨z,hd,vs,rel,dd⟩
theorem Zie {Q:Unit->Shared->Prop} (hu:A.units+1<cLine) (I:Inv X pins σ H s) (g:DPut H a y v H') (ry:RelV y u) (rv:RelV v r) (h:∀ s',Inv X pins σ H' s'->Q () s') :
  wpAny (model X.prog X.w) A (setItem (.ref a) u r) Q E s:=by
 rcases g with ⟨kvs,k,e,ey,l,eH⟩ | ⟨kvs,k,b,e,ey,eb,l,eH⟩
 ·subst ey eH;obtain⟨z,hd,vs,rel,dd⟩:=Zc2 I.hok e;have hz:vs.length<=sizeLine:=by rw[←rel.length];exact z
  have hl:(Jc kvs k v).length<=sizeLine:=by have:=YZ kvs k v;omega
  refine wpAny_setItem_pairs (hsz:=hz) (JJ ry) dd fun h' dd' hs=>h _ ?_;have he:∃ q,h'.get? a=some q:=let ⟨q,_,_,hq,_⟩:=dd';⟨q,hq⟩;exact Jx I (by rw[e];exact True.intro) hs he (Zc3 hl hd (rel.put k rv) dd')
 ·subst ey eH;cases (show u=Value.ref b from ry);obtain⟨z,hd,xs,rel,dd⟩:=ZnQ I.hok e;have hz:xs.length<=sizeLine:=by rw[←Paired.length rel];exact z
  have hl:(Jc kvs k v).length<=sizeLine:=by have:=YZ kvs k v;omega
  refine wpAny_setItem_heap (hsz:=hz) (tupleKind_room_in1 hu) (Za1 I.hok eb) dd fun h' dd' hs=>h _ ?_;obtain⟨q,es,ep,hq,h2,h3,h4,_,h5⟩:=dd';refine Jx I (by rw[e];exact True.intro) hs ⟨q,hq⟩ ⟨hl,hd,_,(rel.put k eb rv).keeps fun c ys ec=>?_,q,es,ep,hq,h2,h3,h4,h5⟩;rw[Zl (Zjc ec e (fun z=>nomatch z))];exact ec
end
section
variable {X:Cx} {pins:List (Addr×Obj)} {σ:St} {H:Hp} {s:Shared} {a:Addr} {kvs:List (Key×V)} {k:Key} {u:Value} {A:Around} {E:Value->Shared->Prop}
theorem ZmZ {Q:Unit->Shared->Prop} (I:Inv X pins σ H s) (e:H a=some (.dK kvs)) (ry:RelV (kV k) u) (l:(Xx kvs k).isSome=true) (h:∀ s',Inv X pins σ (upd H a (.dK (ZcX kvs k))) s'->Q () s') :
  wpAny (model X.prog X.w) A (delItem (.ref a) u) Q E s:=by
 obtain⟨z,hd,vs,rel,dd⟩:=Zc2 I.hok e;refine wpAny_delItem_slot dd.typeIs (by decide) PySem.F.slot_dict_delitem
  (call_meetsIn PySem.F.slot_dict_delitem dd.typeIs PySem.F.entry_dict_delitem (PySem.F.args_dict_delitem_2 _ _) (meets_dict_delitem_pairs (Zz X.prog X.w) a (JJ ry)) ⟨vs,dd,by rw[←rel.length];exact z,by rw[←(rel.val k).isSome_eq];exact l,fun h' dd' hs=>h _ ?_⟩)
 have he:∃ q,h'.get? a=some q:=let ⟨q,_,_,hq,_⟩:=dd';⟨q,hq⟩;exact Jx I (by rw[e];exact True.intro) hs he (Zc3 (Wg (Zfi kvs k) z) hd (rel.drop k) dd')
theorem ZnR {more:List Value} (I:Inv X pins σ H s) (e:H a=some (.dK kvs)) (ry:RelV (kV k) u) (l:Xx kvs k=some v) (hm:more=[]\/∃ x,more=[x])
  (h:∀ w' s',Inv X pins σ (upd H a (.dK (ZcX kvs k))) s'->RelV v w'->Q w' s'):wpAny (model X.prog X.w) A (call (.builtin "dict.pop") (.ref a::u::more)) Q E s:=by
 obtain⟨z,hd,vs,rel,dd⟩:=Zc2 I.hok e;obtain⟨w',hw,rw'⟩:=RelO.some_of (v:=v) (o:=valueAt vs k) (by rw[←l];exact rel.val k);have hp:(keyPart u).isSome=true:=by
  cases k with
  | inl i=>obtain⟨t,q⟩:=(show ∃ t,u=Value.int i t from ry);subst q;rfl
  | inr x=>obtain⟨t,q⟩:=(show ∃ t,u=Value.str x t from ry);subst q;rfl
 have ha:argsOk "dict.pop" ⟨.ref a::u::more,[]⟩:=by
  rcases hm with q | ⟨x,q⟩
  ·subst q;exact PySem.F.args_dict_pop_2 _ _
  ·subst q;exact PySem.F.args_dict_pop_3 _ _ _
 refine call_meetsIn PySem.F.slot_dict_pop dd.typeIs PySem.F.entry_dict_pop ha (meets_dict_pop_there (Zz X.prog X.w) a (JJ ry) more hm hp)
  ⟨vs,w',dd,by rw[←rel.length];exact z,hw,fun h' dd' hs=>h w' _ ?_ rw'⟩
 have he:∃ q,h'.get? a=some q:=let ⟨q,_,_,hq,_⟩:=dd';⟨q,hq⟩;exact Jx I (by rw[e];exact True.intro) hs he (Zc3 (Wg (Zfi kvs k) z) hd (rel.drop k) dd')
theorem ZnS (I:Inv X pins σ H s) (e:Rd H a (.dK kvs)) (h:∀ t s',Inv X pins σ H s'->Q (.int kvs.length t) s'):wpAny (model X.prog X.w) A (call (.builtin "len") [.ref a]) Q E s:=by
 obtain⟨z,hd,vs,rel,dd⟩:=Zc1 I.hok e;refine call_len_dict hd dd (by rw[←rel.length];rw[sizeLine_eq]at z;omega) ?_;rw[←rel.length];exact h _ _ (I.tok _)
end
def Zom (i:Expr):Prop:=∀ ov iv,subscripted i false ov iv=operate [ov,iv] (getItem ov iv)
theorem ZkG {prog:Program} {w:World} {env:Env} {value slice:Expr} {T id:String} 
  (hl:typeLookup (.type T) "__getitem__" = pure (some (.builtin id))) (hs:Zom slice)
  (h:wpAny (model prog w) A (eval value env) (fun o s₁=>wpAny (model prog w) A (eval slice env) (fun i s₂=>s₂.TypeIs o T/\wpAny (model prog w) A (getItem o i) Q E s₂) E s₁) E s) :
  wpAny (model prog w) A (eval (.Subscript value slice pos) env) Q E s:=by
 refine Subscript_ (wpAny_mono h (fun o s₁ h₁=>wpAny_mono h₁ (fun i s₂ h₂=>?_) fun _ _ x=>x) fun _ _ x=>x);obtain⟨hT,h₂⟩:=h₂;unfold subscriptTail;refine wpAny_bind ?_;rw[getitemInPython_of_ne hT.not_modules];refine wpAny_bind (wpAny_specialOf hT hl ?_);have fin:wpAny (model prog w) A (subscripted slice false o i) (fun r s₃=>wpAny (model prog w) A (letTemporaryGo value o r >>= fun _=>pure r) Q E s₃) E s₂:=by
  rw[hs o i];exact wpAny_operating (wpAny_mono h₂ (fun r s₃ h₃=>wpAny_bind (wpAny_letTemporaryGo (wpAny_pure h₃))) fun _ _ x=>x)
 first
  | exact wpAny_pure (wpAny_bind fin)
  | exact wpAny_bind (wpAny_pure (wpAny_bind fin))
  | exact wpAny_bind fin
theorem Zed {y:V} {o:Option V} (I:Inv X pins σ H s) (g:DGet H a y o):s.TypeIs (.ref a) "dict":=by
 rcases g with ⟨kvs,k,e,_,_⟩ | ⟨kvs,k,b,e,_,_,_⟩
 ·obtain⟨_,_,vs,_,dd⟩:=Zc1 I.hok e;exact dd.typeIs
 ·obtain⟨_,_,xs,_,dd⟩:=Zec I.hok e;exact dd.typeIs
def Znq (td ty:TE):TE:=fun σ H Q=>td σ H fun x H1=>ty σ H1 fun y H2=>∃ a v,x= .ref a/\DGet H2 a y (some v)/\Q v H2
def Zov (ty td:TE):TE:=fun σ H Q=>ty σ H fun y H1=>td σ H1 fun x H2=>∃ a o,x= .ref a/\DGet H2 a y o/\Q (.bl o.isSome) H2
def ZkE (ty td:TE):TE:=fun σ H Q=>ty σ H fun y H1=>td σ H1 fun x H2=>∃ a o,x= .ref a/\DGet H2 a y o/\Q (.bl (!o.isSome)) H2
def Znx (td ty tv:TE):TS:=fun D σ H=>tv σ H fun v H1=>td σ H1 fun x H2=>ty σ H2 fun y H3=>∃ a H4,x= .ref a/\DPut H3 a y v H4/\D.nx σ H4
section
variable {X:Cx} {o i e value:Expr} {pos pos' tpos:Pos} {td ty tv:TE}
theorem YX (hu:X.A.units+1<cLine) (ho:PE X o td) (hi:PE X i ty) (hs:Zom i):PE X (.Subscript o i pos) (Znq td ty):=by
 intro pins s σ H Q I h;refine ZkG PySem.F.slot_dict_getitem.lookup hs (thn (ho pins s σ H _ I h) fun u s1 ⟨x,H1,I1,rx,q1⟩=>thn (hi pins s1 σ H1 _ I1 q1) fun iv s2 ⟨y,H2,I2,ry,a,v,ex,g,q2⟩=>?_);subst ex;obtain rfl:u=Value.ref a:=rx;exact⟨Zed I2 g,Zif hu I2 g ry fun w' s3 I3 rw'=>⟨v,H2,I3,rw',q2⟩⟩
theorem Zhh (hu:X.A.units+1<cLine) (hi:PE X i ty) (ho:PE X o td):PC X .In i o (Zov ty td):=by
 intro pins s σ H Q I h;refine thn (hi pins s σ H _ I h) fun iv s1 ⟨y,H1,I1,ry,q1⟩=>thn (ho pins s1 σ H1 _ I1 q1) fun u s2 ⟨x,H2,I2,rx,a,ov,ex,g,q2⟩=>?_;subst ex;obtain rfl:u=Value.ref a:=rx;exact ZoH hu I2 g ry fun s3 I3=>⟨.bl ov.isSome,H2,I3,rfl,q2⟩
theorem XW (hu:X.A.units+1<cLine) (hi:PE X i ty) (ho:PE X o td):PC X .NotIn i o (ZkE ty td):=by
 intro pins s σ H Q I h;refine thn (hi pins s σ H _ I h) fun iv s1 ⟨y,H1,I1,ry,q1⟩=>thn (ho pins s1 σ H1 _ I1 q1) fun u s2 ⟨x,H2,I2,rx,a,ov,ex,g,q2⟩=>?_;subst ex;obtain rfl:u=Value.ref a:=rx;exact Zlr hu I2 g ry fun s3 I3=>⟨.bl (!ov.isSome),H2,I3,rfl,q2⟩
theorem YK (hu:X.A.units+1<cLine) (ho:PE X o td) (hi:PE X i ty) (hv:PE X value tv) (hs:swapsWith value (some (.Subscript o i pos')) pos.line X.env=pure false) :
  PS X (.Assign [.Subscript o i pos'] value pos) (Znx td ty tv):=by
 intro pins s σ H D I h;refine wpAny_Assign_Subscript (thn (hv pins s σ H _ I h) fun r s1 ⟨v,H1,I1,rv,q1⟩=>thn (ho pins s1 σ H1 _ I1 q1) fun u s2 ⟨x,H2,I2,rx,q2⟩=>thn (hi pins s2 σ H2 _ I2 q2) fun iv s3 ⟨y,H3,I3,ry,a,H4,ex,g,q3⟩=>?_) hs;subst ex;obtain rfl:u=Value.ref a:=rx;exact Zie hu I3 g ry rv fun s4 I4=>⟨σ,H4,I4,q3⟩
end
theorem Zfj {P:Program} {w:World} (h:Heap) (hb:sysModules<h.objs.size):ObjOk P w H (h.push {cls:=.type "dict",data:=.dict #[]}) h.objs.size (.dK []) :=
 ⟨QV _,beq_eq_false_iff_ne.mpr (Ne.symm (QC hb)),[],.nil,Heap.DictOf.new h⟩
def ZlR:TE:=fun _ H Q=>∀ p,H p=none->Q (.ref p) (upd H p (.dK []))
section
variable {X:Cx} {pos:Pos}
theorem XV:PE X (.Dict [] [] pos) ZlR:=fun pins s σ H Q I h =>
 wpAny_Dict_empty ⟨.ref s.heap.objs.size,_,I.laid (a:=s.heap.objs.size) (o:=.dK []) (t':=s.toks) (fun _ _ q=>Qh _ q) (Qk _) (Zfj s.heap I.big),rfl,h _ (I.hok.fresh (Qk _))⟩
end
def Zge:List (TE×TE)->St->Hp->(List (V×V)->Hp->Prop)->Prop
 | [],_,H,Q=>Q [] H
 | (tk,tv)::r,σ,H,Q=>tk σ H fun x H1=>tv σ H1 fun y H2=>Zge r σ H2 fun ps H3=>Q ((x,y)::ps) H3
abbrev VV:List (V×V)->List (Value×Value)->Prop:=Paired fun p q=>RelV p.1 q.1/\RelV p.2 q.2
def PPs (X:Cx) (pos:Pos) (keys:List (Option Expr)) (values:List Expr) (trs:List (TE×TE)):Prop :=
 ∀ (pins:List (Addr×Obj)) (s:Shared) (σ:St) (H:Hp) (Q:List (V×V)->Hp->Prop),Inv X pins σ H s->Zge trs σ H Q ->
  wpAny (model X.prog X.w) X.A (evalPairs (pairTrees keys values X.env pos)) (fun vs s'=>∃ ps H',Inv X pins σ H' s'/\VV ps vs/\Q ps H') X.xe s
theorem Zg6:PPs X pos [] [] []:=fun pins s σ H Q I h=>pairTrees_nil_walk ⟨[],H,I,.nil,h⟩
theorem ZeQ {k v:Expr} {ks:List (Option Expr)} {vs:List Expr} {tk tv:TE} {trs:List (TE×TE)} (hk:PE X k tk) (hv:PE X v tv) (hr:PPs X pos ks vs trs) :
  PPs X pos (some k::ks) (v::vs) ((tk,tv)::trs):=fun pins s σ H Q I h =>
 pairTrees_cons_walk (thn (hk pins s σ H _ I h) fun u s1 ⟨x,H1,I1,rx,q1⟩=>thn (hv pins s1 σ H1 _ I1 q1) fun w2 s2 ⟨y,H2,I2,ry,q2⟩ =>
  thn (hr pins s2 σ H2 _ I2 q2) fun ws s3 ⟨ps,H3,I3,rel,q3⟩=>⟨(x,y)::ps,H3,I3,.cons ⟨rx,ry⟩ rel,q3⟩)
def Xh (kvs more:List (Key×V)):List (Key×V):=more.foldl (fun acc kv=>Jc acc kv.1 kv.2) kvs
theorem KV.merge:∀ {more:List (Key×V)} {rs:List (Key×Value)} {kvs:List (Key×V)} {vs:List (Key×Value)},KV more rs->KV kvs vs->KV (Xh kvs more) (merged vs rs):=by
 intro more rs kvs vs r;unfold KV at r;induction r generalizing kvs vs with
 | nil=>intro q;exact q
 | @cons p q ps qs h t ih =>
  intro r0;have e:KV (Jc kvs p.1 p.2) (stored vs q.1 q.2):=by
   have:=r0.put p.1 h.2;rw[←h.1];exact this
  exact ih e
theorem X0:∀ (more kvs:List (Key×V)),(Xh kvs more).length<=kvs.length+more.length
 | [],kvs=>by show kvs.length<=kvs.length+0;omega
 | p::r,kvs=>by
  have h1:=X0 r (Jc kvs p.1 p.2);have h2:=YZ kvs p.1 p.2;show(Xh (Jc kvs p.1 p.2) r).length<=_;rw[QG];omega
theorem Zbd {P:Program} {w:World}:∀ {kvs:List (Key×V)} {ws:List (Value×Value)},VV (kvs.map fun kv=>(kV kv.1,kv.2)) ws->∃ rs,Carries (Zz P w) ws rs/\KV kvs rs
 | [],_,r=>by rw[WH]at r;cases r;exact⟨[],True.intro,.nil⟩
 | p::kvs,_,r=>by
  rw[Qs]at r;cases r with
  | @cons a b as bs h t =>
   obtain⟨rs,c,q⟩:=Zbd (P:=P) (w:=w) t;obtain⟨b1,b2⟩:=b;exact⟨(p.1,b2)::rs,⟨JJ h.1,rfl,c⟩,.cons ⟨rfl,h.2⟩ q⟩
def Zno (trs:List (TE×TE)):TE:=fun σ H Q=>∀ p,H p=none->Zge trs σ (upd H p (.dK [])) fun ps H2=>H2 p=some (.dK [])/\∃ kvs:List (Key×V),ps=kvs.map (fun kv=>(kV kv.1,kv.2))/\kvs.length<=15/\Q (.ref p) (upd H2 p (.dK (Xh [] kvs)))
theorem Zhf {keys:List (Option Expr)} {values:List Expr} {trs:List (TE×TE)} (h:PPs X pos keys values trs) (hall:keys.all (·.isSome)=true) (hl:keys.length=values.length) (h0:keys≠[])
  (h15:keys.length<=15):PE X (.Dict keys values pos) (Zno trs):=by
 intro pins s σ H Q I q;have hn:=I.hok.fresh (Qk s.heap.objs.size);have I1:=I.laid (a:=s.heap.objs.size) (o:=.dK []) (h':=s.heap.push {cls:=.type "dict",data:=.dict #[]}) (t':=s.toks) (fun _ _ q=>Qh _ q) (Qk _) (Zfj s.heap I.big);refine wpAny_Dict_walk (knd:=Zz X.prog X.w) hall hl h0 h15 (thn (h pins _ σ _ _ I1 (q _ hn)) fun ws s2 ⟨ps,H2,I2,rel,e,kvs,ep,lk,q2⟩=>?_);subst ep;obtain⟨rs,c,rk⟩:=Zbd (P:=X.prog) (w:=X.w) rel;obtain⟨z,hd,vs0,r0,dd⟩:=Zc2 I2.hok e;cases r0;refine⟨rs,c,dd,fun h' dd' hs=>⟨.ref s.heap.objs.size,_,?_,rfl,q2⟩⟩;have hz:(Xh [] kvs).length<=sizeLine:=by
  have h1:=X0 kvs [];rw[Uu]at h1;rw[sizeLine_eq];omega
 have he:∃ q,h'.get? s.heap.objs.size=some q:=let ⟨q,_,_,hq,_⟩:=dd';⟨q,hq⟩;exact Jx I2 (by rw[e];exact True.intro) hs he (Zc3 hz hd (rk.merge .nil) dd')
structure M1 (X:Cx) (o:Expr) (m:Str) (apos:Pos) (e:Expr) (cpos:Pos):Prop where
 base:attributeBase o m X.env (eval o X.env)=eval o X.env
 few:((backTo cpos (starEach [e] X.env)).all (fun x=>!x.1)&&(backToKw cpos (keywordEach [] X.env)).all (fun x=>x.1.isSome)
  && decide (([e]:List Expr).length+([]:List Keyword).length+(if ([]:List Keyword).isEmpty then 0 else 1)<30))=true
 line:(apos.endLine==cpos.line)=true
 trees:backTo cpos (starEach [e] X.env)=[(false,eval e X.env)]
structure M2 (X:Cx) (o:Expr) (m:Str) (apos:Pos) (e f:Expr) (cpos:Pos):Prop where
 base:attributeBase o m X.env (eval o X.env)=eval o X.env
 few:((backTo cpos (starEach [e,f] X.env)).all (fun x=>!x.1)&&(backToKw cpos (keywordEach [] X.env)).all (fun x=>x.1.isSome)
  && decide (([e,f]:List Expr).length+([]:List Keyword).length+(if ([]:List Keyword).isEmpty then 0 else 1)<30))=true
 line:(apos.endLine==cpos.line)=true
 trees:backTo cpos (starEach [e,f] X.env)=[(false,eval e X.env),(false,eval f X.env)]
def IsD (H:Hp) (a:Addr):Prop:=(∃ kvs,Rd H a (.dK kvs))\/∃ kvs,Rd H a (.dT kvs)
theorem Zfd (I:Inv X pins σ H s) (d:IsD H a) :
  s.TypeIs (.ref a) "dict"/\(∀ b,Value.ref a= .ref b->∃ ob,s.heap.get? b=some ob/\ob.dict=none)/\(a==sysModules)=false:=by
 rcases d with ⟨kvs,e⟩ | ⟨kvs,e⟩
 ·obtain⟨_,hd,vs,_,dd⟩:=Zc1 I.hok e;refine⟨dd.typeIs,fun b q=>?_,hd⟩;cases q;obtain⟨ob,_,_,h1,h2,_⟩:=dd;exact⟨ob,h1,h2.2.1⟩
 ·obtain⟨_,hd,xs,_,dd⟩:=Zec I.hok e;refine⟨dd.typeIs,fun b q=>?_,hd⟩;cases q;obtain⟨ob,_,_,h1,h2,_⟩:=dd;exact⟨ob,h1,h2.2.1⟩
section
variable {X:Cx} {pins:List (Addr×Obj)} {σ:St} {H:Hp} {s:Shared} {a:Addr} {y d:V} {u r:Value} {o:Option V} {A:Around} {E:Value->Shared->Prop}
theorem ZmY (hu:A.units+1<cLine) (I:Inv X pins σ H s) (g:DGet H a y o) (ry:RelV y u) (rd:RelV d r) (h:∀ w' s',Inv X pins σ H s'->RelV (o.getD d) w'->Q w' s') :
  wpAny (model X.prog X.w) A (call (.builtin "dict.get") [.ref a,u,r]) Q E s:=by
 rcases g with ⟨kvs,k,e,ey,l⟩ | ⟨kvs,k,b,e,ey,eb,l⟩
 ·subst ey;obtain⟨z,hd,vs,rel,dd⟩:=Zc1 I.hok e;refine call_meetsIn PySem.F.slot_dict_get dd.typeIs PySem.F.entry_dict_get (PySem.F.args_dict_get_3 _ _ _) (meets_dict_get_default (Zz X.prog X.w) a (JJ ry) hd r) ⟨_,dd.mapOf,h _ _ (I.tok _) ?_⟩;rw[l];exact(rel.val k).getD rd
 ·subst ey;cases (show u=Value.ref b from ry);obtain⟨z,hd,xs,rel,dd⟩:=Zec I.hok e;refine call_meetsIn PySem.F.slot_dict_get dd.typeIs PySem.F.entry_dict_get (PySem.F.args_dict_get_3 _ _ _) (meetsH_dict_get_default (tupleKind (Zz X.prog X.w)) a b hd r) ⟨tupleKind_room_in1 hu,k,xs,Za1 I.hok eb,dd,h _ _ (I.tok _) ?_⟩;rw[l];exact(rel.val k).getD rd
end
def ZlS (td ty tx:TE):TE:=fun σ H Q=>td σ H fun x H1=>∃ a,x= .ref a/\IsD H1 a/\ty σ H1 fun y H2=>tx σ H2 fun z H3=>∃ o,DGet H3 a y o/\Q (o.getD z) H3
def ZlQ (td ty:TE):TE:=fun σ H Q=>td σ H fun x H1=>∃ a,x= .ref a/\IsD H1 a/\ty σ H1 fun y H2=>∃ kvs k v,H2 a=some (.dK kvs)/\y=kV k/\Xx kvs k=some v/\Q v (upd H2 a (.dK (ZcX kvs k)))
section
variable {X:Cx} {o e f:Expr} {apos cpos:Pos} {td ty tx:TE}
theorem YH (hu:X.A.units+1<cLine) (ho:PE X o td) (he:PE X e ty) (hf:PE X f tx) (m:M2 X o "get" apos e f cpos):PE X (.Call (.Attribute o "get" apos) [e,f] [] cpos) (ZlS td ty tx):=by
 intro pins s σ H Q I h;refine wpAny_Call_method m.base m.few m.line PySem.F.plainAttrs_dict PySem.F.slot_dict_get PySem.F.type_dict_get (thn (ho pins s σ H _ I h) fun u s1 ⟨x,H1,I1,rx,a,ex,d,q1⟩=>?_);subst ex;obtain rfl:u=Value.ref a:=rx;obtain⟨t1,t2,_⟩:=Zfd I1 d;refine⟨t1,t2,?_⟩;rw[m.trees];refine Calls.callWith_builtin rfl (Calls.evalArgs_plain (Calls.spliced_cons (thn (he pins s1 σ H1 _ I1 q1) fun iv s2 ⟨y,H2,I2,ry,q2⟩ =>
  Calls.spliced_cons (thn (hf pins s2 σ H2 _ I2 q2) fun fv s3 ⟨z,H3,I3,rz,ov,g,q3⟩=>Calls.spliced_nil ?_))))
 exact ZmY hu I3 g ry rz fun w' s4 I4 rw'=>⟨_,H3,I4,rw',q3⟩
theorem Zi1 (ho:PE X o td) (he:PE X e ty) (m:M1 X o "pop" apos e cpos):PE X (.Call (.Attribute o "pop" apos) [e] [] cpos) (ZlQ td ty):=by
 intro pins s σ H Q I h;refine wpAny_Call_method m.base m.few m.line PySem.F.plainAttrs_dict PySem.F.slot_dict_pop PySem.F.type_dict_pop (thn (ho pins s σ H _ I h) fun u s1 ⟨x,H1,I1,rx,a,ex,d,q1⟩=>?_);subst ex;obtain rfl:u=Value.ref a:=rx;obtain⟨t1,t2,_⟩:=Zfd I1 d;refine⟨t1,t2,?_⟩;rw[m.trees];refine Calls.callWith_builtin rfl (Calls.evalArgs_plain (Calls.spliced_cons (thn (he pins s1 σ H1 _ I1 q1) fun iv s2 ⟨y,H2,I2,ry,kvs,k,v,ea,ey,l,q2⟩=>Calls.spliced_nil ?_)));subst ey;exact ZnR I2 ea ry l (.inl rfl) fun w' s3 I3 rw'=>⟨v,_,I3,rw',q2⟩
end
section
variable {X:Cx} {pins:List (Addr×Obj)} {σ:St} {H:Hp} {s:Shared} {a:Addr} {kvs:List (Key×V)} {A:Around} {E:Value->Shared->Prop}
end
section
variable {X:Cx} {pins:List (Addr×Obj)} {σ:St} {H:Hp} {s:Shared} {a:Addr} {y:V} {u:Value} {A:Around} {E:Value->Shared->Prop}
end
end L2
namespace HT
open PySem PyProof.Rows
section
open PySem.SeqAt
open PySem.AutoSeq1 (wpAny_loadPart')
open PySem.MeetsSeq PySem.MeetsSeq2 PySem.MeetsSeq3
end
section
variable {prog:Program} {w:World} {A:Around} {E:Value->Shared->Prop} {s:Shared}
theorem cat_tup {t b:Addr} {vs ws:List Value} {Q:Value->Shared->Prop} (ht:IsTup s.heap t vs.toArray) (hb:IsTup s.heap b ws.toArray) (hv:vs≠[])
  (h1:ws=[]->Q (.ref t) s) (h2:ws≠[]->Q (.ref s.heap.objs.size) {s with heap:=s.heap.push {cls:=.type "tuple",data:=.seq (vs++ws).toArray}})
  (hsz:vs.length+ws.length<=sizeLine):wpAny (model prog w) A (binaryOp .Add (.ref t) (.ref b)) Q E s:=by
 obtain⟨⟨cls,dd,data,sl⟩,ho,hc,n,hd⟩:=id ht;obtain⟨⟨cls2,dd2,data2,sl2⟩,ho2,hc2,n2,hd2⟩:=id hb;simp only at hc hd hc2 hd2;subst hc hd hc2 hd2;have e:vs.toArray++ws.toArray=(vs++ws).toArray:=by simp
 by_cases hw:ws=[]
 ·exact concat_meets ⟨_,ho,rfl⟩ ⟨_,ho2,rfl⟩ noFill_tuple_add seq_tuple_add PySem.F.slot_tuple_add PySem.F.entry_tuple_add (PySem.F.args_tuple_add_2 _ _)
   (tuple_addW1 t b vs.toArray ws.toArray n n2 dd dd2 sl sl2 (by simpa using hv) (by simp[hw])) ⟨ho,ho2,h1 hw⟩
 ·refine concat_meets ⟨_,ho,rfl⟩ ⟨_,ho2,rfl⟩ noFill_tuple_add seq_tuple_add PySem.F.slot_tuple_add PySem.F.entry_tuple_add (PySem.F.args_tuple_add_2 _ _)
   (tuple_addW2 t b vs.toArray ws.toArray n n2 dd dd2 sl sl2 (by simpa using hv) (by simpa using hw) (by rw[Qw,Qw];exact hsz)) ⟨ho,ho2,?_⟩
  rw[e];exact h2 hw
def sIx (n d:Nat):Option Int->Nat
 | none=>d
 | some v=>if v<0 then (v+(n:Int)).toNat else min v.toNat n
end
end HT
namespace L2
open PySem PySem.Spec PyProof.Rows
variable {n:Nat} {s:Shared} {xs:List V}
abbrev TO:=St->Hp->(Option Int->Hp->Prop)->Prop
def PO (X:Cx) (e:Option Expr) (t:TO):Prop :=
 ∀ (pins:List (Addr×Obj)) (s:Shared) (σ:St) (H:Hp) (Q:Option Int->Hp->Prop),Inv X pins σ H s->t σ H Q ->
  wpAny (model X.prog X.w) X.A (evalPart e X.env) (fun u s'=>∃ o H',Inv X pins σ H' s'/\IsPart u o/\Q o H') X.xe s
def ZkD:TO:=fun _ H Q=>Q none H
def Znk (t:TE):TO:=fun σ H Q=>t σ H fun x H1=>∃ i,x= .int i/\Q (some i) H1
section
variable {X:Cx} {e:Expr} {te:TE} {lo hi:Option Expr} {tl th:TO} {pos p2:Pos}
theorem Z0:PO X none ZkD:=by
 intro pins s σ H Q I h;rw[evalPart_none];exact wpAny_pure ⟨none,H,I,.none,h⟩
theorem ZE (h:PE X e te):PO X (some e) (Znk te):=by
 intro pins s σ H Q I hw;rw[evalPart_some];refine thn (h pins s σ H _ I hw) fun u s1 ⟨x,H1,I1,r1,q1⟩=>?_;obtain⟨i,rfl,q⟩:=q1;obtain⟨t,rfl⟩:=r1;exact⟨some i,H1,I1,.int i t,q⟩
def SlR (X:Cx) (r:V->Option Int->Option Int->Hp->VK->Prop):Prop :=
 ∀ (pins:List (Addr×Obj)) (s:Shared) (σ:St) (H:Hp) (x:V) (v vl vu:Value) (lo hi:Option Int) (sl:Addr) (Q:VK),Inv X pins σ H s->RelV x v->s.heap.IsSliceOf sl vl vu .none->IsPart vl lo->IsPart vu hi->r x lo hi H Q ->
  ∃ T id,typeLookup (.type T) "__getitem__" = pure (some (.builtin id))/\s.TypeIs v T/\wpAny (model X.prog X.w) X.A (getItem v (.ref sl)) (EP X pins σ Q) X.xe s
theorem SlR.or {r r':V->Option Int->Option Int->Hp->VK->Prop} (h:SlR X r) (h':SlR X r'):SlR X (fun x lo hi H Q=>r x lo hi H Q\/r' x lo hi H Q):=by
 intro pins s σ H x v vl vu lo hi sl Q I rx hs pl pu q;rcases q with q | q
 ·exact h pins s σ H x v vl vu lo hi sl Q I rx hs pl pu q
 ·exact h' pins s σ H x v vl vu lo hi sl Q I rx hs pl pu q
def tSl (r:V->Option Int->Option Int->Hp->VK->Prop) (te:TE) (tl th:TO):TE:=fun σ H Q=>te σ H fun x H1=>tl σ H1 fun l H2=>th σ H2 fun u H3=>r x l u H3 Q
theorem ZC {r:V->Option Int->Option Int->Hp->VK->Prop} (hr:SlR X r) (he:PE X e te) (hl:PO X lo tl) (hu:PO X hi th):PE X (.Subscript e (.Slice lo hi none p2) pos) (tSl r te tl th):=by
 intro pins s σ H Q I h;refine Subscript_ (thn (he pins s σ H _ I h) fun v s1 ⟨x,H1,I1,r1,q1⟩=>?_);refine wpAny_Slice (thn (hl pins s1 σ H1 _ I1 q1) fun vl s2 ⟨l,H2,I2,pl,q2⟩=>thn (hu pins s2 σ H2 _ I2 q2) fun vu s3 ⟨u,H3,I3,pu,q3⟩=>?_);rw[evalPart_none];refine wpAny_pure ?_;have I4:Inv X pins σ H3 {s3 with heap:=s3.heap.push {cls:=.type "slice",data:=.fields #[vl,vu,.none]}}:=I3.kept (t':=s3.toks) fun b ob q=>Qh _ q;obtain⟨T,id,hT,ht,hg⟩:=hr pins {s3 with heap:=s3.heap.push {cls:=.type "slice",data:=.fields #[vl,vu,.none]}} σ H3 x v vl vu l u s3.heap.objs.size Q I4 r1 (Heap.IsSliceOf.new ..) pl pu q3;show wpAny (model X.prog X.w) X.A (subscriptTail e (.Slice lo hi none p2) v (.ref s3.heap.objs.size)) (EP X pins σ Q) X.xe {s3 with heap:=s3.heap.push {cls:=.type "slice",data:=.fields #[vl,vu,.none]}};exact tail_any (ops:=[.ref s3.heap.objs.size,v]) ht hT hg (by with_unfolding_all rfl)
def ZlB (xs:List V) (lo hi:Option Int):List V:=(xs.drop (HT.sIx xs.length 0 lo)).take (HT.sIx xs.length xs.length hi-HT.sIx xs.length 0 lo)
theorem Zeg (xs:List V) (lo hi:Option Int):(ZlB xs lo hi).length<=xs.length:=by
 unfold ZlB;rw[QP,WK];omega
def ZnC (K:PySem.W.Frag):R2:=fun x y H Q=>∃ a b xs ys,x= .ref a/\y= .ref b/\SqT K H a xs/\SqT K H b ys/\xs≠[]/\xs.length+ys.length<=sizeLine /\
 (ys=[]->Q (.ref a) H)/\(ys≠[]->∀ p,H p=none->Q (.ref p) (upd H p (.tup (xs++ys))))
theorem Vals.nil_iff {us:List Value} (r:Vals xs us):us=[]↔xs=[]:=by
 cases r with
 | nil=>simp
 | cons _ _=>simp
theorem Zk2:OpR X (binaryOp .Add) (ZnC X.K):=by
 intro pins s σ H x y v u Q I rx ry h;obtain⟨a,b,xs,ys,rfl,rfl,ha,hb,hx,hz,q1,q2⟩:=h;cases rx;cases ry;obtain⟨its,r1,p1,_⟩:=I.tuple ha;obtain⟨its2,r2,p2,_⟩:=I.tuple hb;refine HT.cat_tup p1 p2 (fun z=>hx (r1.nil_iff.mp z)) (fun z=>⟨.ref a,H,I,rfl,q1 (r2.nil_iff.mp z)⟩) (fun z=>?_) (by rw[←r1.length,←r2.length];exact hz);refine⟨.ref s.heap.objs.size,_,I.laid (t':=s.toks) (o:=.tup (xs++ys)) (fun b ob q=>Qh _ q) (Qk _) ?_,rfl,q2 (fun w=>z (r2.nil_iff.mpr w)) _ (I.hok.fresh (Qk _))⟩;exact⟨by rw[Qd];exact hz,_,r1.append r2,IsTup.new _ _,ZbJ rfl rfl⟩
end
def ixN (n:Nat) (i:Int):Option Nat:=if 0<=i then (if i<n then some i.toNat else none)else if -(n:Int)<=i then some (i+n).toNat else none
def atI {α:Type} (xs:List α) (i:Int):Option α:=(ixN xs.length i).bind fun j=>xs[j]?
theorem ixN_seq {i:Int} {j:Nat} (h:ixN n i=some j):seqIndex? i n=some j/\j<n/\-(n:Int)<=i/\i<n:=by
 unfold ixN at h;by_cases h0:0<=i
 ·rw[if_pos h0]at h;by_cases h1:i<n
  ·rw[if_pos h1]at h;have e:i.toNat=j:=Option.some.inj h;exact⟨by rw[seqIndex_of h0 h1,e],by omega,by omega,h1⟩
  ·rw[if_neg h1]at h;cases h
 ·rw[if_neg h0]at h;by_cases h1 : -(n:Int)<=i
  ·rw[if_pos h1]at h;have e:(i+n).toNat=j:=Option.some.inj h;exact⟨by rw[seqIndex_neg (by omega) h1,e],by omega,h1,by omega⟩
  ·rw[if_neg h1]at h;cases h
theorem Zek {α:Type} {xs:List α} {i:Int} {v:α} (h:atI xs i=some v):∃ j,seqIndex? i xs.length=some j/\xs[j]?=some v/\j<xs.length/\-(xs.length:Int)<=i/\i<xs.length:=by
 unfold atI at h;cases e:ixN xs.length i with
 | none=>rw[e]at h;cases h
 | some j =>
  rw[e]at h;obtain⟨h1,h2,h3,h4⟩:=ixN_seq e;exact⟨j,h1,h,h2,h3,h4⟩
theorem Zb1 {α:Type} {xs:List α} {j:Nat} {v:α} (h:xs[j]?=some v):atI xs (j:Int)=some v:=by
 have hj:j<xs.length:=(Qp.mp h).1;have e:ixN xs.length (j:Int)=some j:=by
  unfold ixN;rw[if_pos (by omega),if_pos (by omega)];simp
 unfold atI;rw[e];exact h
def Zly (b:Expr):Prop:=∀ o i,subscripted b false o i=operate [o,i] (getItem o i)
def IxR (X:Cx) (r:R2):Prop :=
 ∀ (value slice:Expr) (pins:List (Addr×Obj)) (s:Shared) (σ:St) (H:Hp) (x y:V) (v u:Value) (Q:VK),Inv X pins σ H s->RelV x v->RelV y u->r x y H Q ->
  subscripted slice false v u=operate [v,u] (getItem v u)->wpAny (model X.prog X.w) X.A (subscriptTail value slice v u) (EP X pins σ Q) X.xe s
def MtR (X:Cx) (id:String) (r:V->List V->Hp->VK->Prop):Prop :=
 ∀ (pins:List (Addr×Obj)) (s:Shared) (σ:St) (H:Hp) (x:V) (xs:List V) (v:Value) (us:List Value) (Q:VK),Inv X pins σ H s->RelV x v->Vals xs us->r x xs H Q ->
  wpAny (model X.prog X.w) X.A (call (.builtin id) (v::us)) (EP X pins σ Q) X.xe s
section
variable {X:Cx} {a b:Expr} {ta tb:TE} {pos:Pos}
theorem IxR.or {r r':R2} (h:IxR X r) (h':IxR X r'):IxR X (fun x y H Q=>r x y H Q\/r' x y H Q):=by
 intro value slice pins s σ H x y v u Q I rx ry q hs;rcases q with q | q
 ·exact h value slice pins s σ H x y v u Q I rx ry q hs
 ·exact h' value slice pins s σ H x y v u Q I rx ry q hs
theorem MtR.or {id:String} {r r':V->List V->Hp->VK->Prop} (h:MtR X id r) (h':MtR X id r'):MtR X id (fun x xs H Q=>r x xs H Q\/r' x xs H Q):=by
 intro pins s σ H x xs v us Q I rx rs q;rcases q with q | q
 ·exact h pins s σ H x xs v us Q I rx rs q
 ·exact h' pins s σ H x xs v us Q I rx rs q
theorem ZB {r:R2} (hr:IxR X r) (ha:PE X a ta) (hb:PE X b tb) (hs:Zly b):PE X (.Subscript a b pos) (tOp r ta tb):=by
 intro pins s σ H Q I h;exact Subscript_ (ZnU ha hb I h fun v u s2 x y H2 I2 rx ry q=>hr a b pins s2 σ H2 x y v u Q I2 rx ry q (hs _ _))
def Zmc (K:PySem.W.Frag):R2:=fun x y H Q=>∃ p xs i v,x= .ref p/\y= .int i/\SqL K H p xs/\atI xs i=some v/\Q v H
def ZnB (K:PySem.W.Frag):R2:=fun x y H Q=>∃ p xs i v,x= .ref p/\y= .int i/\SqT K H p xs/\atI xs i=some v/\Q v H
def Zoa:R2:=fun x y H Q=>∃ z i c,x= .str z/\y= .int i/\z.length<=sizeLine/\atI z.cps.toList i=some c/\Q (.str ⟨#[c]⟩) H
theorem ix_list:IxR X (Zmc X.K):=by
 intro value slice pins s σ H x y v u Q I rx ry h hs;obtain⟨p,xs,i,z,rfl,rfl,hq,he,q⟩:=h;cases rx;obtain⟨t,rfl⟩:=ry;obtain⟨its,r,pl,hz⟩:=I.list hq;obtain⟨j,h1,h2,h3,h4,h5⟩:=Zek he;obtain⟨w,ew,rw'⟩:=r.get h2;have hl:=r.length;have hn:=ZcM;have fin:EP X pins σ Q w s:=⟨z,H,I,rw',q⟩
 by_cases h0:0<=i
 ·have hj:i.toNat=j:=by
   rw[seqIndex_of h0 h5]at h1;exact Option.some.inj h1
  exact item_listR pl.isList h0 (by omega) (by rw[hj];simpa using ew) fin hs
 ·have hj:(i+(its.toArray.size:Int)).toNat=j:=by
   rw[seqIndex_neg (by omega) h4]at h1;rw[Qw,←hl];exact Option.some.inj h1
  exact subscriptTail_builtinR (x:=w) pl.isList.typeIs slot_list_getitem.lookup
   (wpAny_getItem_list_neg (Q:=fun r s'=>r=w/\EP X pins σ Q r s') pl.isList (by omega) (by rw[Qw] <;> omega) (by omega) (by rw[hj];simpa using ew) ⟨rfl,fin⟩) hs
theorem ix_tup:IxR X (ZnB X.K):=by
 intro value slice pins s σ H x y v u Q I rx ry h hs;obtain⟨p,xs,i,z,rfl,rfl,hq,he,q⟩:=h;cases rx;obtain⟨t,rfl⟩:=ry;obtain⟨its,r,pl,hz⟩:=I.tuple hq;obtain⟨j,h1,h2,h3,h4,h5⟩:=Zek he;obtain⟨w,ew,rw'⟩:=r.get h2;have hl:=r.length;have hn:=ZcM;have fin:EP X pins σ Q w s:=⟨z,H,I,rw',q⟩
 exact subscriptTail_builtinR (x:=w) pl.typeIs slot_tuple_getitem.lookup
  (getItem_tuple (j:=j) (Q:=fun r s'=>r=w/\EP X pins σ Q r s') pl (by omega) (by omega) (by rw[Qw,←hl];exact h1) (by simpa using ew) ⟨rfl,fin⟩) hs
theorem JH:IxR X Zoa:=by
 intro value slice pins s σ H x y v u Q I rx ry h hs;obtain⟨z,i,c,rfl,rfl,hz,he,q⟩:=h;obtain⟨t,rfl⟩:=rx;obtain⟨t',rfl⟩:=ry;obtain⟨j,h1,h2,h3,h4,h5⟩:=Zek he;have hl:z.cps.toList.length=z.length:=by simp[Str.length]
 rw[hl]at h1 h4 h5;have hn:=ZcM;exact tail_any (typeIs_str s z t) slot_str_getitem.lookup (getItem_str (c:=c) (by
  have e1:decide (i < -(2 ^ 63:Int))=false:=decide_eq_false (by omega);have e2:decide (i≥2 ^ 63)=false:=decide_eq_false (by omega);rw[e1,e2,RE]) (by rw[h1];simpa using h2) ⟨.str ⟨#[c]⟩,H,I.tok _,⟨_,rfl⟩,q⟩) hs
def rIx (K:PySem.W.Frag):R2:=fun x y H Q=>Zmc K x y H Q\/ZnB K x y H Q\/Zoa x y H Q
theorem ZmQ:IxR X (rIx X.K):=ix_list.or (ix_tup.or JH)
theorem Inv.lst {pins:List (Addr×Obj)} {σ:St} {H:Hp} {p:Addr} (I:Inv X pins σ H s) (h:H p=some (.lst xs)) :
  ∃ (its:List Value) (n:Nat),Vals xs its/\s.heap.get? p=some {cls:=.type "list",data:=.seq its.toArray n}/\xs.length<=sizeLine:=by
 obtain⟨z,its,n,r,e⟩:=I.hok p _ h;exact⟨its,n,r,e,z⟩
theorem Zcf (lo hi:Option Int) (n:Nat):(sliceBounds lo hi none n).1=((HT.sIx n 0 lo:Nat):Int)/\(sliceBounds lo hi none n).2.1=((HT.sIx n n hi:Nat):Int)/\(sliceBounds lo hi none n).2.2=1:=by
 refine⟨?_,?_,rfl⟩
 ·cases lo with
  | none=>simp[sliceBounds,HT.sIx]
  | some i =>
   simp only[sliceBounds,HT.sIx,RU,show(1:Int)>0 by decide,if_true];by_cases h:i<0
   ·simp only[h,if_true] <;> omega
   ·simp only[h,if_false] <;> omega
 ·cases hi with
  | none=>simp[sliceBounds,HT.sIx]
  | some i =>
   simp only[sliceBounds,HT.sIx,RU,show(1:Int)>0 by decide,if_true];by_cases h:i<0
   ·simp only[h,if_true] <;> omega
   ·simp only[h,if_false] <;> omega
theorem Zbs (its:List Value) (lo hi:Option Int):slicePick its.toArray lo hi none=((its.drop (HT.sIx its.length 0 lo)).take (HT.sIx its.length its.length hi-HT.sIx its.length 0 lo)).toArray:=by
 obtain⟨h1,h2,h3⟩:=Zcf lo hi its.toArray.size;unfold slicePick;rw[h1,h2,h3];simp only[sliceRange_one,pick_run,Qw] <;> rfl
def ZoA (K:PySem.W.Frag):V->Option Int->Option Int->Hp->VK->Prop:=fun x lo hi H Q=>∃ a xs,x= .ref a/\SqL K H a xs/\∀ p,H p=none->Q (.ref p) (upd H p (.lst (ZlB xs lo hi)))
theorem ZkH:SlR X (ZoA X.K):=by
 intro pins s σ H x v vl vu lo hi sl Q I rx hs pl pu h;obtain⟨a,xs,rfl,hx,q⟩:=h;cases rx;obtain⟨its,r,ht,hz⟩:=I.list hx;have hlen:=r.length;refine⟨"list",_,slot_list_getitem.lookup,ht.isList.typeIs,?_⟩;refine wpAny_getItem_list_slice ht.isList hs pl pu .none (by simp) ?_ (by rw[Qw] <;> omega);rw[Zbs,←hlen];refine⟨.ref s.heap.objs.size,_,I.laid (t':=s.toks) (o:=.lst (ZlB xs lo hi)) (fun b ob q=>Qh _ q) (Qk _) ?_,rfl,q _ (I.hok.fresh (Qk _))⟩;exact⟨Wg (Zeg xs lo hi) hz,_,0,(r.drop (HT.sIx xs.length 0 lo)).take (HT.sIx xs.length xs.length hi-HT.sIx xs.length 0 lo),Qx _ rfl⟩
def X6:V->Bool
 | .non=>true
 | .bl _=>true
 | .int _=>true
 | .str _=>true
 | _=>false
def eqV:V->V->Bool
 | .non,.non=>true
 | .bl a,.bl b=>a==b
 | .bl a,.int b=>(if a then 1 else 0)==b
 | .int a,.bl b=>a==(if b then 1 else 0)
 | .int a,.int b=>a==b
 | .str a,.str b=>a==b
 | _,_=>false
theorem ZmV {A:Around} {y x:V} {u v:Value} (ry:RelV y u) (rx:RelV x v) (fy:X6 y=true) (fx:X6 x=true):SeqAt.EqAt A s u v (eqV y x):=by
 cases y with
 | non =>
  cases ry;cases x with
  | non=>cases rx;exact SeqAt.EqAt.same _
  | bl b=>cases rx;exact SeqAt.EqAt.none_bool b
  | int b=>obtain⟨t,rfl⟩:=rx;exact SeqAt.EqAt.none_int b t
  | str b=>obtain⟨t,rfl⟩:=rx;exact SeqAt.EqAt.none_str b t
  | _=>exact absurd (show false=true from fx) QL
 | bl a =>
  cases ry;cases x with
  | non=>cases rx;exact SeqAt.EqAt.bool_none a
  | bl b=>cases rx;exact SeqAt.EqAt.bool_bool a b
  | int b=>obtain⟨t,rfl⟩:=rx;exact SeqAt.EqAt.bool_int a b t
  | str b=>obtain⟨t,rfl⟩:=rx;exact SeqAt.EqAt.bool_str a b t
  | _=>exact absurd (show false=true from fx) QL
 | int a =>
  obtain⟨t',rfl⟩:=ry;cases x with
  | non=>cases rx;exact SeqAt.EqAt.int_none a t'
  | bl b=>cases rx;exact SeqAt.EqAt.int_bool a t' b
  | int b=>obtain⟨t,rfl⟩:=rx;exact SeqAt.EqAt.int_int a t' b t
  | str b=>obtain⟨t,rfl⟩:=rx;exact SeqAt.EqAt.int_str a t' b t
  | _=>exact absurd (show false=true from fx) QL
 | str a =>
  obtain⟨t',rfl⟩:=ry;cases x with
  | non=>cases rx;exact SeqAt.EqAt.str_none a t'
  | bl b=>cases rx;exact SeqAt.EqAt.str_bool a t' b
  | int b=>obtain⟨t,rfl⟩:=rx;exact SeqAt.EqAt.str_int a t' b t
  | str b=>obtain⟨t,rfl⟩:=rx;exact SeqAt.EqAt.str_str a t' b t
  | _=>exact absurd (show false=true from fx) QL
 | _=>exact absurd (show false=true from fy) QL
def eqU (x:V) (u:Value):Bool:=match u with
 | .none=>eqV .non x
 | .bool b=>eqV (.bl b) x
 | .int i _=>eqV (.int i) x
 | .str z _=>eqV (.str z) x
 | _=>false
theorem Zkn {x y:V} {u:Value} (r:RelV y u) (f:X6 y=true):eqU x u=eqV y x:=by
 cases y with
 | non=>cases r;rfl
 | bl b=>cases r;rfl
 | int i=>obtain⟨t,rfl⟩:=r;rfl
 | str z=>obtain⟨t,rfl⟩:=r;rfl
 | _=>exact absurd (show false=true from f) QL
theorem ZaF {x:V}:∀ {xs:List V} {us:List Value},Vals xs us->xs.all X6=true->us.any (eqU x)=xs.any fun y=>eqV y x
 | _,_,.nil,_=>rfl
 | y::xs,u::us,.cons r t,f=>by
  rw[RF,QQ]at f;rw[US,US,Zkn r f.1,ZaF t f.2]
theorem XZ {A:Around} {s:Shared} {x:V} {v:Value} (rx:RelV x v) (fx:X6 x=true):∀ {xs:List V} {us:List Value},Vals xs us->xs.all X6=true->∀ u∈us,SeqAt.EqAt A s u v (eqU x u)
 | _,_,.nil,_=>fun u hu=>by cases hu
 | y::xs,u::us,.cons r t,f=>fun u' hu=>by
  rw[RF,QQ]at f;rcases Qy.mp hu with rfl | hu
  ·rw[Zkn r f.1];exact ZmV r rx f.1 fx
  ·exact XZ rx fx t f.2 u' hu
def inV (x:V) (xs:List V):Bool:=xs.any fun y=>eqV y x
def rIn (K:PySem.W.Frag) (neg:Bool):R2:=fun x y H Q=>∃ p xs,y= .ref p/\(SqL K H p xs\/SqT K H p xs)/\X6 x=true/\xs.all X6=true/\Q (.bl (if neg then !inV x xs else inV x xs)) H
theorem Zhk:OpR X (compareOp .In) (rIn X.K false):=by
 intro pins s σ H x y v u Q I rx ry h;obtain⟨p,xs,rfl,hq,fx,fs,q⟩:=h;cases ry;rcases hq with hq | hq
 ·obtain⟨its,r,pl,hz⟩:=I.list hq;refine SeqAt.in_listAt (eqU x) pl.isList (fun w hw=>XZ rx fx r fs w (by simpa using hw)) ⟨.bl _,H,I,rfl,?_⟩;rw[show its.toArray.any (eqU x)=its.any (eqU x)by simp,ZaF r fs];exact q
 ·obtain⟨its,r,pl,hz⟩:=I.tuple hq;refine SeqAt.in_tupleAt (eqU x) pl (fun w hw=>XZ rx fx r fs w (by simpa using hw)) ⟨.bl _,H,I,rfl,?_⟩;rw[show its.toArray.any (eqU x)=its.any (eqU x)by simp,ZaF r fs];exact q
theorem Xg:OpR X (compareOp .NotIn) (rIn X.K true):=by
 intro pins s σ H x y v u Q I rx ry h;obtain⟨p,xs,rfl,hq,fx,fs,q⟩:=h;cases ry;rcases hq with hq | hq
 ·obtain⟨its,r,pl,hz⟩:=I.list hq;refine SeqAt.notIn_listAt (eqU x) pl.isList (fun w hw=>XZ rx fx r fs w (by simpa using hw)) ⟨.bl _,H,I,rfl,?_⟩;rw[show its.toArray.any (eqU x)=its.any (eqU x)by simp,ZaF r fs];exact q
 ·obtain⟨its,r,pl,hz⟩:=I.tuple hq;refine SeqAt.notIn_tupleAt (eqU x) pl (fun w hw=>XZ rx fx r fs w (by simpa using hw)) ⟨.bl _,H,I,rfl,?_⟩;rw[show its.toArray.any (eqU x)=its.any (eqU x)by simp,ZaF r fs];exact q
theorem CallR.or {f:Value} {r r':List V->Hp->VK->Prop} (h:CallR X f r) (h':CallR X f r'):CallR X f (fun xs H Q=>r xs H Q\/r' xs H Q):=by
 intro pins s σ H xs us Q I rs q;rcases q with q | q
 ·exact h pins s σ H xs us Q I rs q
 ·exact h' pins s σ H xs us Q I rs q
theorem Zc9:CallR X (.type "list") (fun xs H Q=>∃ p ys,xs=[.ref p]/\(SqL X.K H p ys\/SqT X.K H p ys)/\∀ l,H l=none->Q (.ref l) (upd H l (.lst ys))):=by
 intro pins s σ H xs us Q I r h;obtain⟨p,ys,rfl,hq,q⟩:=h;obtain⟨u,rfl,rx⟩:=Jf r;cases rx;have fin:∀ (its:List Value),Vals ys its->ys.length<=sizeLine->∀ (h':Heap) (c':Nat),(∀ b o',s.heap.get? b=some o'->h'.get? b=some o') ->
   h'.get? s.heap.objs.size=some {cls:=.type "list",dict:=none,data:=.seq its.toArray c',slots:=#[]}->EP X pins σ Q (.ref s.heap.objs.size) {s with heap:=h'}:=fun its r' hz h' c' kp e =>
  ⟨.ref s.heap.objs.size,_,I.laid (t':=s.toks) kp (Qk _) (show ObjOk X.prog X.w _ h' _ (.lst ys)from⟨hz,its,c',r',e⟩),rfl,q _ (I.hok.fresh (Qk _))⟩
 rcases hq with hq | hq
 ·obtain⟨its,r',pl,hz⟩:=I.list hq;have hlen:=r'.length;obtain⟨o,ho,hc,n,hd⟩:=pl.isList;exact call_list_seq p (.inl rfl) ho hc hd (fun h' c' kp e=>fin its r' hz h' c' kp e) (by simp only[Qw] <;> omega)
 ·obtain⟨its,r',pl,hz⟩:=I.tuple hq;have hlen:=r'.length;obtain⟨o,ho,hc,n,hd⟩:=pl;exact call_list_seq p (.inr rfl) ho hc hd (fun h' c' kp e=>fin its r' hz h' c' kp e) (by simp only[Qw] <;> omega)
theorem ZH:CallR X (.type "tuple") (fun xs H Q=>∃ p ys,xs=[.ref p]/\((SqL X.K H p ys/\∀ l,H l=none->Q (.ref l) (upd H l (.tup ys)))\/(SqT X.K H p ys/\Q (.ref p) H))):=by
 intro pins s σ H xs us Q I r h;obtain⟨p,ys,rfl,h⟩:=h;obtain⟨u,rfl,rx⟩:=Jf r;cases rx;rcases h with ⟨hq,q⟩ | ⟨hq,q⟩
 ·obtain⟨its,r',pl,hz⟩:=I.list hq;have hlen:=r'.length;refine call_tuple_list pl.isList (fun h' kp=>?_) (by simp only[Qw] <;> omega);have I1:Inv X pins σ H {s with heap:=h'}:=I.kept (t':=s.toks) kp;have I2:Inv X pins σ (upd H h'.objs.size (.tup ys)) {s with heap:=h'.push {cls:=.type "tuple",data:=.seq its.toArray}} :=
   I1.laid (t':=s.toks) (fun b o e=>Qh _ e) (Qk _) (show ObjOk X.prog X.w _ _ _ (.tup ys)from⟨hz,its,r',IsTup.new _ _,ZbJ rfl rfl⟩)
  exact⟨.ref h'.objs.size,_,I2,rfl,q _ (I1.hok.fresh (Qk _))⟩
 ·obtain⟨its,r',pl,hz⟩:=I.tuple hq;exact call_tuple_same pl ⟨.ref p,H,I,rfl,q⟩
def tyV (K:PySem.W.Frag) (T:String) (x:V) (H:Hp):Prop:=match x with
 | .str _=>T = "str"
 | .int _=>T = "int"
 | .ref p=>(T = "list"/\∃ xs,SqL K H p xs)\/(T = "tuple"/\∃ o,K.lookup p=some o/\o.cls= .type "tuple"/\o.dict=none) \/
   (T = "dict"/\((∃ kvs,H p=some (.dK kvs))\/∃ kvs,H p=some (.dT kvs)))\/(T = "set"/\∃ S n,H p=some (.set S n))
 | _=>False
theorem ZjL {pins:List (Addr×Obj)} {σ:St} {H:Hp} {T:String} {x:V} {v:Value} (I:Inv X pins σ H s) (r:RelV x v) (ty:tyV X.K T x H) :
  s.TypeIs v T/\∀ a,v= .ref a->∃ ob,s.heap.get? a=some ob/\ob.dict=none:=by
 cases x with
 | str z =>
  obtain⟨t,rfl⟩:=r;cases (show T = "str" from ty);exact⟨typeIs_str s z t,fun _ e=>nomatch e⟩
 | int i =>
  obtain⟨t,rfl⟩:=r;cases (show T = "int" from ty);exact⟨typeIs_int s i t,fun _ e=>nomatch e⟩
 | ref p =>
  cases r;rcases ty with ⟨rfl,xs,hq⟩ | ⟨rfl,o,hk,hc,hd⟩ | ⟨rfl,hk⟩ | ⟨rfl,S,n,hk⟩
  ·obtain⟨its,_,pl,_⟩:=I.list hq;refine⟨pl.isList.typeIs,fun a e=>?_⟩;cases e;obtain⟨o,n,e,c,hd,_⟩:=pl;exact⟨o,e,hd⟩
  ·refine⟨⟨o,I.kIn p o hk,hc⟩,fun a e=>?_⟩;cases e;exact⟨o,I.kIn _ o hk,hd⟩
  ·have z:∃ o,s.heap.get? p=some o/\o.ExactDict:=by
    rcases hk with ⟨kvs,hk⟩ | ⟨kvs,hk⟩
    ·obtain⟨_,_,_,_,o,_,_,e,ex,_⟩:=I.hok p _ hk;exact⟨o,e,ex⟩
    ·obtain⟨_,_,_,_,o,_,_,e,ex,_⟩:=I.hok p _ hk;exact⟨o,e,ex⟩
   obtain⟨o,e,ex⟩:=z;refine⟨⟨o,e,ex.1⟩,fun a e2=>?_⟩;cases e2;exact⟨o,e,ex.2.1⟩
  ·obtain⟨o,_,_,_,e,ex,_⟩:=I.hok p _ hk;refine⟨⟨o,e,ex.1⟩,fun a e2=>?_⟩;cases e2;exact⟨o,e,ex.2.1⟩
 | _=>exact False.elim ty
def Zox (K:PySem.W.Frag) (T:String) (r:V->List V->Hp->VK->Prop) (to:TE):TE:=fun σ H Q=>to σ H fun x H1=>tyV K T x H1/\r x [] H1 Q
def tBM (K:PySem.W.Frag) (T:String) (r:V->List V->Hp->VK->Prop) (to:TE) (t:TA):TE:=fun σ H Q=>to σ H fun x H1=>tyV K T x H1/\t σ H1 fun xs H2=>r x xs H2 Q
variable {o e:Expr} {es:List Expr} {to:TE} {t:TA} {name:Str} {apos cpos:Pos} {T id:String} {r:V->List V->Hp->VK->Prop}
theorem Zhg (pa:PlainAttrs T) (slot:Slot T name id) (hty:typeOf (.builtin id)=pure (.type "method_descriptor")) (hm:MtR X id r) (ho:PE X o to)
  (hbase:attributeBase o name X.env (eval o X.env)=eval o X.env:=by rfl) (hline:(apos.endLine==cpos.line)=true:=by rfl):PE X (.Call (.Attribute o name apos) [] [] cpos) (Zox X.K T r to):=by
 intro pins s σ H Q I h;refine wpAny_Call_method0_late hbase hline (thn (ho pins s σ H _ I h) fun v s1 ⟨x,H1,I1,r1,ty,q1⟩=>?_);obtain⟨h1,h2⟩:=ZjL I1 r1 ty;exact⟨T,id,pa,slot,hty,h1,h2,Calls.callWith_builtin rfl (PySem.evalArgs_none (hm pins s1 σ H1 x [] v [] Q I1 r1 .nil q1))⟩
theorem Xf (pa:PlainAttrs T) (slot:Slot T name id) (hty:typeOf (.builtin id)=pure (.type "method_descriptor")) (hm:MtR X id r) (ho:PE X o to) (ha:PA X (e::es) t)
  (hbase:attributeBase o name X.env (eval o X.env)=eval o X.env:=by rfl)
  (hfew:((backTo cpos (starEach (e::es) X.env)).all (fun x=>!x.1)&&(backToKw cpos (keywordEach [] X.env)).all (fun x=>x.1.isSome)
   && decide ((e::es).length+([]:List Keyword).length+(if ([]:List Keyword).isEmpty then 0 else 1)<30))=true:=by rfl)
  (hline:(apos.endLine==cpos.line)=true:=by rfl) (hs:starEach (e::es) X.env=(false,eval e X.env)::starEach es X.env:=by rfl) (hplain:(backTo cpos (starEach es X.env)).any (·.1)=false:=by rfl) :
  PE X (.Call (.Attribute o name apos) (e::es) [] cpos) (tBM X.K T r to t):=by
 intro pins s σ H Q I h;refine wpAny_Call_method_late hbase hfew hline rfl (thn (ho pins s σ H _ I h) fun v s1 ⟨x,H1,I1,r1,ty,q1⟩=>?_);obtain⟨h1,h2⟩:=ZjL I1 r1 ty;refine⟨T,id,pa,slot,hty,h1,h2,?_⟩;have hA:=ha cpos pins s1 σ H1 _ I1 q1;rw[hs]at hA ⊢;refine Calls.callWith_builtin (by show(false || (backTo cpos (starEach es X.env)).any (·.1))=false;rw[hplain] <;> rfl) (Calls.evalArgs_plain ?_);exact thn hA fun us s2 ⟨vs,H2,I2,r2,q2⟩=>hm pins s2 σ H2 x vs v us Q I2 r1 r2 q2
end
def MtM (X:Cx) (id:String) (r:V->List V->Hp->VK->Prop):Prop :=
 ∀ (pins:List (Addr×Obj)) (s:Shared) (σ:St) (H:Hp) (x:V) (xs:List V) (v:Value) (us:List Value) (Q:VK),Inv X pins σ H s->RelV x v->Vals xs us->r x xs H Q ->
  wpAny (model X.prog X.w) X.A (call (.builtin id) (v::us)) (EP X pins σ Q) X.xe s
theorem Vals.one:∀ {x:V} {us:List Value},Vals [x] us->∃ u,us=[u]/\RelV x u
 | _,_,.cons r .nil=>⟨_,rfl,r⟩
theorem Vals.zero:∀ {us:List Value},Vals [] us->us=[]
 | _,.nil=>rfl
theorem Vals.dropLast {us:List Value} (h:Vals xs us):Vals xs.dropLast us.dropLast:=by
 induction h with
 | nil=>exact .nil
 | cons r t ih =>
  cases t with
  | nil=>exact .nil
  | cons q t'=>exact .cons r ih
theorem Vals.eraseIdx:∀ {xs:List V} {us:List Value} (i:Nat),Vals xs us->Vals (xs.eraseIdx i) (us.eraseIdx i)
 | _,_,_,.nil=>.nil
 | _,_,0,.cons _ t=>t
 | _,_,i+1,.cons r t=>.cons r (Vals.eraseIdx i t)
theorem Vals.rep {xs:List V} {us:List Value} (h:Vals xs us):∀ k:Nat,Vals (QJ k xs).flatten (QJ k us).flatten
 | 0=>.nil
 | k+1=>by
  rw[Wf,Wf,WQ,WQ];exact Vals.append h (Vals.rep h k)
theorem ZfS {α:Type} (l:List α):l.eraseIdx (l.length-1)=l.dropLast:=by
 induction l with
 | nil=>rfl
 | cons a r ih =>
  cases r with
  | nil=>rfl
  | cons b r =>
   have e:(a::b::r).length-1=((b::r).length-1)+1:=by
    have h1:(a::b::r).length=r.length+2:=rfl;have h2:(b::r).length=r.length+1:=rfl;omega
   rw[e,List.eraseIdx_cons_succ,ih]
   all_goals rfl
theorem ZcT (its:List Value):∀ (k:Nat) (acc:List Value),
  R0 (fun x1 x2=>x1++x2) acc.toArray (QJ k its.toArray)=(acc++(QJ k its).flatten).toArray
 | 0,acc=>by simp
 | k+1,acc=>by
  have e:acc.toArray++its.toArray=(acc++its).toArray:=by simp
  have e2:(acc++its)++(QJ k its).flatten=acc++(QJ (k+1) its).flatten:=by
   rw[Wf,WQ,Q9]
  rw[←e2,←ZcT its k (acc++its),←e,Wf,R1]
section
variable {X:Cx} {pins:List (Addr×Obj)} {σ:St} {H:Hp} {s:Shared} {l b:Addr} {xs ys zs:List V}
theorem Inv.lset {its its':List Value} {f:Array Value->Array Value} {t':Nat} (I:Inv X pins σ H s) (hH:H l=some (.lst xs))
  (e:s.heap.get? l=some {cls:=.type "list",data:=.seq its.toArray n}) (hf:f its.toArray=its'.toArray) (hv:Vals ys its') (hz:ys.length<=sizeLine) :
  Inv X pins σ (upd H l (.lst ys)) {s with heap:=s.heap.update l (Obj.mapSeq f),toks:=t'}:=by
 have q:=PySem.IsL.update e f;rw[hf]at q;refine I.write (x:=l) (e:=l) (by rw[hH];exact trivial) (.inl rfl) (fun b' u hb hu=>(QZ s.heap (Obj.mapSeq f) (Ne.symm hb)).trans hu) ⟨_,q⟩ ?_;exact⟨hz,its',_,hv,q⟩
theorem Inv.lnew {its:List Value} {t':Nat} (I:Inv X pins σ H s) (hv:Vals ys its) (hz:ys.length<=sizeLine) :
  Inv X pins σ (upd H s.heap.objs.size (.lst ys)) {s with heap:=s.heap.push {cls:=.type "list",data:=.seq its.toArray},toks:=t'} :=
 I.laid (fun _ _ q=>Qh _ q) (Qk _) ⟨hz,its,0,hv,Qx _ rfl⟩
theorem Inv.fresh (I:Inv X pins σ H s):H s.heap.objs.size=none:=I.hok.fresh (Qk _)
theorem Inv.lstM (I:Inv X pins σ H s) (hH:H l=some (.lst xs)):xs.length<=sizeLine/\∃ (its:List Value) (n:Nat),Vals xs its/\xs.length=its.length/\s.heap.get? l=some {cls:=.type "list",data:=.seq its.toArray n}:=by
 obtain⟨z,its,n,r,e⟩:=I.hok l _ hH;exact⟨z,its,n,r,r.length,e⟩
theorem ZeY (h:n<=sizeLine):Builtin.List.listTooLong n=false:=by
 unfold Builtin.List.listTooLong;exact decide_eq_false (by omega)
end
section
variable {X:Cx}
def Zg2:V->List V->Hp->VK->Prop:=fun x vs H Q=>∃ l xs y,x= .ref l/\vs=[y]/\H l=some (.lst xs)/\xs.length<sizeLine/\Q .non (upd H l (.lst (xs++[y])))
theorem ZcL:MtM X "list.append" Zg2:=by
 intro pins s σ H x vs v us Q I rx rv h;obtain⟨l,xs,y,rfl,rfl,hH,hz,q⟩:=h;cases rx;obtain⟨u,rfl,ru⟩:=rv.one;obtain⟨z,its,n,r,hl,e⟩:=I.lstM hH;refine call_meets F.slot_list_append ⟨_,e,rfl⟩ F.entry_list_append (F.args_list_append_2 _ _) (PySem.list_append l its.toArray n u (by rw[Qw];omega)) ⟨e,?_⟩;refine⟨.non,_,I.lset (its':=its++[u]) hH e (by simp) (r.append (.cons ru .nil)) ?_,rfl,q⟩;rw[Qd,Qr];omega
def Zg0:V->List V->Hp->VK->Prop:=fun x vs H Q=>∃ l b xs zs,x= .ref l/\vs=[.ref b]/\H l=some (.lst xs)/\H b=some (.lst zs)/\xs.length+zs.length<=sizeLine/\Q .non (upd H l (.lst (xs++zs)))
theorem ZhF:MtM X "list.extend" Zg0:=by
 intro pins s σ H x vs v us Q I rx rv h;obtain⟨l,b,xs,zs,rfl,rfl,hH,hB,hz,q⟩:=h;cases rx;obtain⟨u,rfl,ru⟩:=rv.one;cases ru;obtain⟨z,its,n,r,hl,e⟩:=I.lstM hH;obtain⟨z2,its2,n2,r2,hl2,e2⟩:=I.lstM hB;have hsz:its.toArray.size+its2.toArray.size<=sizeLine:=by rw[Qw,Qw];omega
 have hlong:¬ (!its.toArray.isEmpty&&Builtin.List.listTooLong (its.toArray.size+its2.toArray.size))=true:=by
  rw[ZeY hsz,Bool.and_false];exact QL
 refine call_meets F.slot_list_extend ⟨_,e,rfl⟩ F.entry_list_extend (F.args_list_extend_2 _ _)
  (AutoSeq1.list_extend_list_list_0 l its.toArray n b its2.toArray n2 hlong (by rw[Qw];omega) (by omega)) ⟨e,e2,?_⟩
 refine⟨.non,_,I.lset (its':=its++its2) hH e (by simp) (r.append r2) ?_,rfl,q⟩;rw[Qd];omega
def Zn9:V->List V->Hp->VK->Prop:=fun x vs H Q=>∃ l xs y,x= .ref l/\vs=[]/\H l=some (.lst xs)/\xs[xs.length-1]?=some y/\Q y (upd H l (.lst xs.dropLast))
theorem ZmE:MtM X "list.pop" Zn9:=by
 intro pins s σ H x vs v us Q I rx rv h;obtain⟨l,xs,y,rfl,rfl,hH,hy,q⟩:=h;cases rx;have hus:=rv.zero;subst hus;obtain⟨z,its,n,r,hl,e⟩:=I.lstM hH;obtain⟨u,hu,ru⟩:=r.get hy;have hy':its.toArray[its.toArray.size-1]?=some u:=by
  show its.toArray[its.length-1]?=some u;rw[←Wv,←hl];exact hu
 refine call_meets F.slot_list_pop ⟨_,e,rfl⟩ F.entry_list_pop (F.args_list_pop_1 _) (MeetsSeq.list_pop_last l its.toArray n u hy' (by rw[Qw];omega)) ⟨e,?_⟩;refine⟨y,_,I.lset (its':=its.dropLast) hH e ?_ r.dropLast ?_,ru,q⟩
 ·show its.toArray.eraseIdxIfInBounds (its.toArray.size-1)=its.dropLast.toArray;rw[Qw,List.eraseIdxIfInBounds_toArray,ZfS]
 ·rw[RA];omega
def ZoC:R2:=fun x y H Q=>∃ l b xs zs,x= .ref l/\y= .ref b/\H l=some (.lst xs)/\H b=some (.lst zs)/\xs.length+zs.length<=sizeLine/\∀ p,H p=none->Q (.ref p) (upd H p (.lst (xs++zs)))
theorem Zcu:OpR X (binaryOp .Add) ZoC:=by
 intro pins s σ H x y v u Q I rx ry h;obtain⟨l,b,xs,zs,rfl,rfl,hH,hB,hz,q⟩:=h;cases rx;cases ry;obtain⟨z,its,n,r,hl,e⟩:=I.lstM hH;obtain⟨z2,its2,n2,r2,hl2,e2⟩:=I.lstM hB;refine PySem.P.add_list e e2 ?_ (by rw[Qw,Qw];omega);have ea:its.toArray++its2.toArray=(its++its2).toArray:=by simp
 rw[ea];exact⟨.ref _,_,I.lnew (t':=s.toks) (r.append r2) (by rw[Qd];omega),rfl,q _ I.fresh⟩
def ZoB:R2:=fun x y H Q=>∃ l k xs,x= .ref l/\y= .int k/\H l=some (.lst xs)/\-(2 ^ 63)<=k/\k<2 ^ 63/\xs.length*k.toNat<=sizeLine /\
 ∀ p,H p=none->Q (.ref p) (upd H p (.lst (QJ k.toNat xs).flatten))
theorem Zlg {α:Type} (xs:List α) (k:Nat):(QJ k xs).flatten.length=k*xs.length:=by
 induction k with
 | zero=>simp
 | succ k ih=>rw[Wf,WQ,Qd,ih,RJ,Nat.add_comm]
theorem Zmm:OpR X (binaryOp .Mult) ZoB:=by
 intro pins s σ H x y v u Q I rx ry h;obtain⟨l,k,xs,rfl,rfl,hH,h1,h2,hz,q⟩:=h;cases rx;obtain⟨t,rfl⟩:=ry;obtain⟨z,its,n,r,hl,e⟩:=I.lstM hH;have hlen:its.toArray.size*k.toNat<=sizeLine:=by rw[Qw,←hl];exact hz
 have hcap:¬ its.toArray.size*k.toNat>(2 ^ 63-1) / 8:=by
  have:(sizeLine:Nat)<=(2 ^ 63-1) / 8:=by decide
  omega
 have hfit:¬ (!Builtin.List.listFitsIndex k)=true:=by
  rw[fitsIndex_both h1 h2];exact QL
 have hlong:¬ Builtin.List.listTooLong (its.toArray.size*k.toNat)=true:=by
  rw[ZeY hlen];exact QL
 have hnew:R0 (fun x1 x2=>x1++x2) #[] (QJ (if its.toArray.isEmpty=true then 0 else k.toNat) its.toArray)=(QJ k.toNat its).flatten.toArray:=by
  have f0:∀ m:Nat,R0 (fun x1 x2=>x1++x2) #[] (QJ m its.toArray)=(QJ m its).flatten.toArray:=fun m=>by
   have:=ZcT its m [];rw[Uv]at this;exact this
  rw[f0];cases its with
  | nil=>simp
  | cons a r'=>rw[if_neg (by simp)]
 refine wpAny_binaryOp_repeat_ref (T:="list") (U:="int") (by decide) ⟨_,e,rfl⟩ (fun s'=>typeIs_int s' k t) noFill_list_mul F.fills_int_mul F.slot_int_rmul repeat_list F.slot_int_index.lookup
  (call_meets F.slot_int_rmul (typeIs_int s k t) F.entry_int_rmul (F.args_int_rmul_2 _ _) (int___rmul___int_list k t l its.toArray n)
   ⟨e,rfl,⟨_,e,rfl⟩,call_meets F.slot_list_mul ⟨_,e,rfl⟩ F.entry_list_mul (F.args_list_mul_2 _ _) (AutoListH.list___mul___list_int_3 l its.toArray n k t hfit hcap hlong) ⟨e,?_⟩⟩)
 rw[hnew];exact⟨.ref _,_,I.lnew (t':=s.toks) (r.rep k.toNat) (by rw[Zlg,Nat.mul_comm];exact hz),rfl,q _ I.fresh⟩
end
section
variable {prog:Program} {w:World} {A:Around} {E:Value->Shared->Prop} {s:Shared}
end
section
variable {X:Cx}
end
end L2
namespace Att
open PySem PySem.W PySem.Calls PyProof.Rows
theorem Zat {P:Params} {h:Heap}:∀ (ns:List Int) (vs:List Value),WellAll P h vs (ns.map WData.int)->IntsAre vs ns:=by
 intro ns;induction ns with
 | nil =>
  intro vs w;rw[WH]at w;cases w;exact .nil
 | cons n ns ih =>
  intro vs w;rw[Qs]at w;cases w with
  | cons a b =>
   cases a;exact .cons _ _ (ih _ b)
theorem ZgC {l:OpenLaw} {n:Nat} (hn:l.most=some n) {P:Params} {h:Heap} {args:List WData} {vals:List Value}
  (hpre:l.row.toRowW.claim.pre args=true) (hwl:WellAll P h vals args) :
  ∃ a vs ns,vals=[Value.ref a]/\args=[WData.list (ns.map WData.int)]/\h.get? a=some {cls:=.type "list",data:=.seq vs.toArray}/\IntsAre vs ns/\ns.length<=n:=by
 have hsh:WShape.hasAll [] args [.list .int]=true:=(pre_splitW hpre).1;have hc:l.pre.holds [] {args:=args}=true:=(pre_splitW hpre).2;obtain⟨d,r,rfl,h1,h2⟩:=hasAllW_cons hsh;obtain rfl:=hasAllW_nil h2;obtain⟨xs,rfl,h3⟩:=hasW_list h1;obtain⟨ns,rfl⟩:=items_int h3;have hlen:ns.length<=n:=by
  unfold OpenLaw.pre at hc;have h4:(WTm.not (.lt (.lit (.int (n:Int))) (.len (.arg 0)))).holds [] {args:=[.list (ns.map .int)]}=true:=by
   have h4:=(holds_andW hc).1;rw[hn]at h4;exact h4
  have h5:=condW_of h4 (w_not (w_lt w_lit (w_len_list (w_arg rfl))));rw[Qc]at h5;refine RV fun q=>?_;have q':(n:Int)<((ns.length:Nat):Int):=by omega
  first
   | (rw[decide_eq_true q']at h5;exact absurd h5 (by decide))
   | (simp at h5;omega)
 cases hwl with
 | cons w1 w2 =>
  cases w2;cases w1 with
  | list ho hall=>exact⟨_,_,ns,rfl,rfl,ho,Zat ns _ hall,hlen⟩
theorem Zg7 (l:OpenLaw) (args:List WData):l.row.toRowW.claim.post args (.bool true) args=true :=
 postW_of (r:=l.row.toRowW) (X:=(true==true))
  (show WShape.has [] (.bool true) .bool=true by first | rfl | decide | simp[WShape.has,WShape.arms,WShape.armsAll])
  (show(WTm.eq .res (.lit (.bool true))).value [] {args:=args,res:=some (.bool true),after:=args}=some (.bool (true==true))from w_eq_bool (w_res rfl) w_lit) rfl
theorem attach_call {l:OpenLaw} {n:Nat} {q:Program} {loose:List Str} {XP:(Str->Option Value)->Heap->Prop} {YP:World->Heap->Prop} {d:DefRec}
  (hn:l.most=some n) (hdf:d.params.defaults=[])
  (call:∀ (w:World) (s₀ s₁:Shared) (mg mb:Str->Option Value) (fa:Addr) (o:Obj) (pm cd doc:Value) (a:Addr) (vs:List Value) (ns:List Int),
   Ground q loose [] XP w s₀ mg mb s₁.heap->YP w s₁.heap ->
   s₁.heap.get? fa=some o->o.data= .func (docDef d.name d.params d.body d.scope pm cd doc)->s₁.heap.CodeRec cd d.name->mg d.name=some (.ref fa) ->
   s₁.heap.get? a=some {cls:=.type "list",data:=.seq vs.toArray}->IntsAre vs ns->ns.length<=n->s₁.gens= #[] ->
   codeAny (model l.prog w) callerA (.call (.ref fa) ⟨[.ref a],[]⟩) (fun r s'=>r= .ok (.ret (.bool true))/\OldK s₁.heap s'.heap/\s'.os=s₁.os/\AllBare s'.gens) s₁) :
  WalkO q loose XP YP l.row.toRowW d [] (fun f vs=>PySem.call f vs):=by
 intro w s₀ s₁ mg mb G Y fa o pm cd doc dV kV ho hd hcd hD hmg hg args vals as hpre hlay hrd hwl hlo;obtain rfl:dV= .none:=Dflts.none hD hdf;obtain rfl:kV= .none:=Dflts.noKw hD;obtain⟨a,vs,ns,rfl,rfl,hobj,hints,hlen⟩:=ZgC hn hpre hwl;refine enter_call (codeAny_mono (call w s₀ s₁ mg mb fa o pm cd doc a vs ns G Y ho (fd_plain hd) hcd hmg hobj hints hlen hg) fun r s' hq=>?_);obtain⟨rfl,h2,h3,h4⟩:=hq;exact⟨.inl ⟨.bool true,.bool true,[],rfl,fun _=>rfl,.bool true,Zg7 l _,fun _=>⟨List.Pairwise.nil,fun _ hm=>(nomatch hm)⟩⟩,h2,h3,h4⟩
section
variable {prog:Program} {w:World} {A:Around} {E:Value->Shared->Prop} {s:Shared} {K:Frag}
def Zoe (h:Heap) (L d:Addr):List (Addr×Obj):=(Qq h.objs.size).filterMap fun a=>if a=L\/a=d then none else (h.get? a).map fun o=>(a,o)
end
end Att
namespace L2
open PySem PySem.Spec PyProof.Rows
variable {H H' H1 H2:Hp} {N ps:List Str} {X:Cx} {a f:Addr} {k n:Nat} {mp:List Nat} {name qual x:Str} {pos:Pos} {sp:Sp} {st:Stmt} {xs ys:List V}
theorem Zb6:∀ {vs:List Value} {ns:List Int},IntsAre vs ns->Vals (ns.map V.int) vs
 | _,_,.nil=>.nil
 | _,_,.cons n t h=>.cons ⟨t,rfl⟩ (Zb6 h)
def Zn3 (H:Hp):Prop:=∀ b,H b=none\/∃ o xs,H b=some (.frz o (.lst xs))
theorem Zjo {P:Program} {w:World} {K:PySem.W.Frag} {mg mb:Str->Option Value} {CX:CXT} {fa:Addr} {fd:FuncData} {s₁:Shared} {vs:List Value} {ns:List Int}
  (KX:K.In s₁.heap) (hns:s₁.heap.Ns mainGlobals mg) (hb:s₁.heap.Ns builtinsNs mb) (hbb:∀ x:Str,x≠"__name__"->mb x=bootBuiltins x) (hlim:s₁.heap.NoLimit) (hg:s₁.gens= #[])
  (ha:s₁.heap.get? a=some {cls:=.type "list",data:=.seq vs.toArray}) (hi:IntsAre vs ns) (hl:ns.length<=sizeLine) (hr:Room k callerA)
  (F:∀ base:Heap,K.In base->base.Ns mainGlobals mg->FnOk P w K mg base CX k fa fd [x] sp) (hbind:∀ (s:Shared) (u:Value),BindsTo s fd ⟨[u],[]⟩ [(x,u)])
  (hsp:∀ H:Hp,Zn3 H->SqL K H a (ns.map V.int)->sp [.ref a] H (fun v _=>v= .bl true) fun _ _ _=>False)
  (hCX:∀ H e s',CX [] H s₁ (fun _ _ _=>False) e s'->False) :
  codeAny (model P w) callerA (.call (.ref fa) ⟨[.ref a],[]⟩) (fun r s'=>r= .ok (.ret (.bool true))/\OldK s₁.heap s'.heap/\s'.os=s₁.os/\AllBare s'.gens) s₁:=by
 have rv:=Zb6 hi;have lenV:=hi.length
 -- from an abstract heap in which nothing but the script may be tracked
 have core:∀ H:Hp,Zn3 H->SqL K H a (ns.map V.int)->HOk P w H s₁.heap->(∀ b,H b≠none->b=a)->(H a≠none->K.lookup a=none) ->
   codeAny (model P w) callerA (.call (.ref fa) ⟨[.ref a],[]⟩) (fun r s'=>r= .ok (.ret (.bool true))/\OldK s₁.heap s'.heap/\s'.os=s₁.os/\AllBare s'.gens) s₁:=by
  intro H hO hS hok hA hK;have base_of:∀ {b:Addr} {o:Obj},s₁.heap.get? b=some o->H b=none->(Zju s₁.heap H).get? b=some o:=fun e n=>Zjt e n;have noA:∀ {b:Addr} {o:Obj} {es:Array DictEntry} {ep:Nat},s₁.heap.get? b=some o->o.data= .dict es ep->H b=none:=fun {b o es ep} e d=>by
   cases q:H b with
   | none=>rfl
   | some u =>
    have e':b=a:=hA b (by rw[q];simp);subst e';rw[ha]at e;cases e;have d':Data.seq vs.toArray _=Data.dict es ep:=d;cases d'
  have nsK:∀ {b:Addr} {m:Str->Option Value},s₁.heap.Ns b m->(Zju s₁.heap H).Ns b m:=fun {b m} ⟨o,es,ep,e,d,r⟩=>⟨o,es,ep,base_of e (noA e d),d,r⟩
  have hKb:K.In (Zju s₁.heap H):=fun b o e=>base_of (KX b o e) (by
   cases q:H b with
   | none=>rfl
   | some u =>
    have e':b=a:=hA b (by rw[q];simp);subst e';rw[hK (by rw[q];simp)]at e;cases e)
  have hM:Mod K mg (Zju s₁.heap H):=⟨hKb,nsK hns,⟨mb,nsK hb,hbb⟩,let ⟨mc,h1,h2⟩:=hlim;⟨mc,nsK h1,h2⟩⟩
  have e0:Znc P w K mg (Zju s₁.heap H) callerA [] s₁ H:=⟨rfl,hM,fun b o e=>Zk4 e,Nat.le_of_eq (ZhV _ _),trivial,fun b hb=>absurd (show b∈([]:List Addr)from hb) (by simp),hok,.of_eq hg⟩
  refine codeAny_mono ((F _ hKb (nsK hns)).run callerA [] s₁ H ⟨[.ref a],[]⟩ [.ref a] [.ref a] _ _ hr e0 (hbind s₁ (.ref a)) (.cons rfl .nil) (hsp H hO hS)) fun r s' h=>?_;cases r with
  | error e=>exact(hCX H e s' h).elim
  | ok fl =>
   cases fl with
   | next=>exact False.elim h
   | brk=>exact False.elim h
   | cont=>exact False.elim h
   | ret u =>
    obtain⟨v,H',os,bare,un,hok',r',q⟩:=h;have q':v= .bl true:=q;subst q';obtain rfl:u=Value.bool true:=r';refine⟨rfl,OldK.of_keep fun b o e=>?_,os,bare⟩;cases q:H b with
    | none=>exact un.keep b o e q (by intro z;exact absurd (show b∈([]:List Addr)from z) (by simp)) (by simp)
    | some u =>
     rcases hO b with z | ⟨ob,xs,z⟩
     ·rw[q]at z;cases z
     ·have z2:=un.frzs b ob _ z;obtain⟨e1,_⟩:=hok b _ z;obtain⟨e2,_⟩:=hok' b _ z2;rw[e]at e1;cases e1;exact e2
 cases hk:K.lookup a with
 | some o =>
  -- the script is one of the module's own objects
  have e:=KX a o hk;rw[ha]at e;cases e;refine core (fun _=>none) (fun _=>.inl rfl) (.inr ⟨_,vs.toArray,_,hk,rfl,rfl,rfl,by rw[Qw,lenV];exact hl,by simpa using rv⟩) (fun b u z=>by have z':(none:Option HO)=some u:=z;cases z') (fun b z=>absurd rfl z) fun z=>absurd rfl z
 | none =>
  refine core (fun b=>if b=a then some (.frz {cls:=.type "list",data:=.seq vs.toArray} (.lst (ns.map V.int)))else none) (fun b=>?_) (.inl (.inr ⟨{cls:=.type "list",data:=.seq vs.toArray},if_pos rfl⟩)) (fun b u z=>?_) (fun b z=>?_) fun _=>hk
  ·by_cases hb:b=a
   ·exact .inr ⟨_,_,if_pos hb⟩
   ·exact .inl (if_neg hb)
  ·by_cases hb:b=a
   ·have z':=(if_pos hb).symm.trans z;cases z';subst hb;exact⟨ha,by rw[Qc];exact hl,vs,_,rv,ha⟩
   ·have z':=(if_neg hb).symm.trans z;cases z'
  ·by_cases hb:b=a
   ·exact hb
   ·exact absurd (if_neg hb) z
theorem walk_of {l:PySem.W.OpenLaw} {q:Program} {loose:List Str} {XP:(Str->Option Value)->Heap->Prop} {YP:World->Heap->Prop} {d:DefRec} {K:Params->PySem.W.Frag} {CX:World->CXT} {sp:World->Sp} 
  (hn:l.most=some n) (hn2:n<=sizeLine) (hdf:d.params.defaults=[]) (hr:Room k callerA)
  (hY:∀ (w:World) (h:Heap),YP w h->(K w.params).In h)
  (F:∀ (w:World) (mg:Str->Option Value) (fa:Addr) (h:Heap),(K w.params).In h->h.Ns mainGlobals mg->mg d.name=some (.ref fa) ->
   ∃ fd:FuncData,(∀ (s:Shared) (u:Value),BindsTo s fd ⟨[u],[]⟩ [(x,u)]) /\
    ∀ base:Heap,(K w.params).In base->base.Ns mainGlobals mg->FnOk l.prog w (K w.params) mg base (CX w) k fa fd [x] (sp w))
  (hsp:∀ (w:World) (H:Hp) (a:Addr) (ns:List Int),ns.length<=n->Zn3 H->SqL (K w.params) H a (ns.map V.int)->sp w [.ref a] H (fun v _=>v= .bl true) fun _ _ _=>False)
  (hCX:∀ (w:World) (H:Hp) (s:Shared) (e:Value) (s':Shared),CX w [] H s (fun _ _ _=>False) e s'->False) :
  PySem.W.WalkO q loose XP YP l.row.toRowW d [] (fun f vs=>PySem.call f vs):=by
 refine Att.attach_call hn hdf fun w s₀ s₁ mg mb fa o pm cd doc a vs ns G Y ho hd hcd hmg hobj hints hlen hg=>?_;have KX:=hY w _ Y;obtain⟨fd,hb,hF⟩:=F w mg fa _ KX G.T.g hmg;exact Zjo KX G.T.g G.T.b G.T.builtins G.T.nolimit hg hobj hints (Wg hlen hn2) hr hF hb (fun H hO hS=>hsp w H a ns hlen hO hS) fun H e s'=>hCX w H s₁ e s'
def Xk (s:Stmt):Arguments:=match s with
 | .FunctionDef _ a _ _ _ _ _ _ _ _=>a
 | _=>{posonlyargs:=[],args:=[],vararg:=none,kwonlyargs:=[],kw_defaults:=[],kwarg:=none,defaults:=[]}
def Yw (s:Stmt):List Stmt:=match s with
 | .FunctionDef _ _ b _ _ _ _ _ _ _=>b
 | _=>[]
def Zg (s:Stmt):Scope:=match s with
 | .FunctionDef _ _ _ _ _ _ sc _ _ _=>sc
 | _=>{kind:=.function,names:=[],isGenerator:=false,isCoroutine:=false}
abbrev CX0:CXT:=fun _ _ _ _ _ _=>False
abbrev E0:XK:=fun _ _ _=>False
theorem ZnE:Zdk CX0 X E0:=fun _ _ _ _ _ _ _ h=>h.elim
structure Fun (K:PySem.W.Frag) (x qual:Str) (st:Stmt) (f:Addr) (fd:FuncData):Prop where
 ex:∃ (oc:Value) (od:Option Addr) (kV doc pm:Value) (an:Option Addr) (cdv ct:Value) (osl:Array (Option Value)),
  fd=PySem.W.fnOf x qual (Xk st) (Yw st) (Zg st) .none kV doc pm an cdv ct/\K.lookup f=some ⟨oc,od,.func fd,osl⟩/\PySem.W.codeIn K cdv qual=true
 kp:PySem.W.keepIn K (.ref f)=true
section
variable {P:Program} {w:World} {K:PySem.W.Frag} {mg:Str->Option Value} {base:Heap}
theorem Fun.ok {fd:FuncData} (F:Fun K x qual st f fd) (S:Zp N ps (Zg st)) (len:∀ vs H Q E,sp vs H Q E->vs.length=ps.length)
  (hbody:∀ (cdv:Value) (A:Around) (outer:List Env) (s:Shared) (H:Hp) (vs:List V) (Q:VK) (E:XK),Room k (A.deeper (envOfC qual (Zg st) s.heap.objs.size f cdv))->sp vs H Q E ->
   ∃ t,PSs (Zig CX0 P w K mg base N qual (Zg st) f cdv A outer s H E).nox (Yw st) t/\t {nx:=fun _ H'=>Q .non H',rt:=Q} (start N vs) H):FnOk P w K mg base CX0 (k+1) f fd ps sp:=by
 obtain⟨oc,od,kV,doc,pm,an,cdv,ct,osl,rfl,lk,hcd⟩:=F.ex;refine ZmU lk hcd S len fun A outer s H vs Q E hr hsp=>?_;obtain⟨t,h,q⟩:=hbody cdv A outer s H vs Q E hr hsp;exact⟨t,h.nox,q⟩
theorem Fun.binds {fd:FuncData} (F:Fun K x qual st f fd)
  (h:∀ (kV doc pm:Value) (an:Option Addr) (cdv ct:Value) (us:List Value),us.length=ps.length->bindArgs (PySem.W.fnOf x qual (Xk st) (Yw st) (Zg st) .none kV doc pm an cdv ct) ⟨us,[]⟩=pure (ps.zip us)):Binds K fd ps []:=by
 obtain⟨oc,od,kV,doc,pm,an,cdv,ct,osl,rfl,lk,hcd⟩:=F.ex;exact .all (h kV doc pm an cdv ct)
theorem Zh1 {oc:Value} {od an:Option Addr} {osl:Array (Option Value)} {kV doc pm cdv ct:Value} (l:K.lookup f=some ⟨oc,od,.func (PySem.W.fnOf x qual (Xk st) (Yw st) (Zg st) .none kV doc pm an cdv ct),osl⟩)
  (c:PySem.W.codeIn K cdv qual=true) (k:PySem.W.keepIn K (.ref f)=true):Fun K x qual st f (PySem.W.fnOf x qual (Xk st) (Yw st) (Zg st) .none kV doc pm an cdv ct):=⟨⟨oc,od,kV,doc,pm,an,cdv,ct,osl,rfl,l,c⟩,k⟩
end
theorem ZaO {A:Around} (hr:Room k A):A.units+1<cLine:=WW (Nat.add_le_add_left (by decide:1<=64) _) hr.units
theorem ZF (h:n<=1000):n<sizeLine:=WW h (by decide)
section
variable {X:Cx}
theorem pv (i:Nat) {pos:Pos} (hN:X.N[i]?=some x:=by rfl) (hv:Vis X.env.scope x:=by first | exact Or.inl rfl | exact Or.inr (.inl rfl) | exact Or.inr (.inr rfl)) (hd:(x==("__debug__" : Str))=false:=by decide)
  (hcd:(x==("__classdict__" : Str))=false:=by decide):PE X (.Name x pos) (ZjN i):=Zmg hN hv hd hcd
theorem Zdb:CallR X (.builtin "len") (fun xs H Q=>∃ a kvs,xs=[V.ref a]/\H a=some (.dK kvs)/\Q (.int kvs.length) H):=by
 intro pins s σ H xs us Q I r h;obtain⟨a,kvs,rfl,ha,q⟩:=h;obtain⟨u,rfl,ru⟩:=Jf r;cases ru;exact ZnS I (.inl ha) fun t s' I'=>⟨.int kvs.length,H,I',⟨t,rfl⟩,q⟩
end
theorem ZfJ {A B:Prop} (h:B):if false=true then A else B:=by
 rw[if_neg QL];exact h
theorem Zkk {A B:Prop} (h:A):if true=true then A else B:=by
 rw[if_pos rfl];exact h
theorem Ziz {c A B:Prop} [Decidable c] (h1:c->A) (h2:¬ c->B):if c then A else B:=by
 by_cases h:c
 ·rw[if_pos h];exact h1 h
 ·rw[if_neg h];exact h2 h
def Same (H H':Hp):Prop:=∀ b o,H b=some o->H' b=some o
theorem Same.refl (H:Hp):Same H H:=fun _ _ h=>h
theorem Same.trans (a:Same H H1) (b:Same H1 H2):Same H H2:=fun c o h=>b c o (a c o h)
theorem Same.free (e:Same H H') {l:Addr} (h:H' l=Option.none):H l=Option.none:=by
 cases q:H l with
 | none=>rfl
 | some o =>
  rw[e l o q]at h;cases h
theorem Same.seq {K:PySem.W.Frag} (e:Same H H') (h:SqL K H a xs):SqL K H' a xs:=by
 rcases h with (h | ⟨o,h⟩) | h
 ·exact .inl (.inl (e _ _ h))
 ·exact .inl (.inr ⟨o,e _ _ h⟩)
 ·exact .inr h
section
variable {κ:Type} [DecidableEq κ]
theorem Zhz:∀ {l:List κ} {k:κ},l.Nodup->¬ k∈l->(l++[k]).Nodup
 | [],k,_,_=>by simp
 | a::r,k,h,hk=>by
  obtain⟨h1,h2⟩:=Wj.mp h;show(a::(r++[k])).Nodup;refine Wj.mpr ⟨fun m=>?_,Zhz h2 fun m=>hk (Qy.mpr (Or.inr m))⟩;rcases QF.mp m with q | q
  ·exact h1 q
  ·exact hk (Qy.mpr (Or.inl (Qm.mp q).symm))
end
def Xl (env:Env):List (Str×NameKind)->List (Str×Addr)->List (Str×Addr)
 | [],cs=>cs
 | y::r,cs=>Xl env r (if y.2==NameKind.free then (y.1,(env.cells.lookup y.1).getD 0)::cs else cs)
theorem Zax {env:Env} (f:Str×NameKind->List (Str×Addr)->Sem (ForInStep (List (Str×Addr)))) :
  ∀ (ns:List (Str×NameKind)) (cs:List (Str×Addr)),(∀ y∈ns,∀ c,f y c=pure (.yield (if y.2==NameKind.free then (y.1,(env.cells.lookup y.1).getD 0)::c else c))) ->
   forIn ns cs f=pure (Xl env ns cs)
 | [],cs,_=>rfl
 | y::r,cs,h=>by
  rw[List.forIn_cons,h y Qj,pure_bind];exact Zax f r _ fun z hz=>h z (Ql _ hz)
theorem X9 {env:Env} {scope:Scope} (h:∀ y∈scope.names,y.2= .free->∃ c,env.cells.lookup y.1=some c) :
  closureFor scope env=pure (Xl env scope.names []):=by
 simp only[closureFor];rw[Zax (env:=env) _ _ _ (fun y hy c=>?_)]
 ·rfl
 ·obtain⟨n,k⟩:=y;cases hk:(k==NameKind.free)with
  | true =>
   obtain⟨a,ha⟩:=h (n,k) hy (by simpa using hk);have ha':env.cells.lookup n=some a:=ha;simp only[if_true,cellOf,ha',WL,pure_bind]
  | false=>simp only[Wn,if_false]
theorem Zc5 {env:Env}:∀ (ns:List (Str×NameKind)) (cs:List (Str×Addr)),(∀ y∈ns,y.2= .free->∃ c,env.cells.lookup y.1=some c) ->
  (∀ n c,cs.lookup n=some c->env.cells.lookup n=some c)->∀ n c,(Xl env ns cs).lookup n=some c->env.cells.lookup n=some c
 | [],cs,_,h,n,c,e=>h n c e
 | y::r,cs,hf,h,n,c,e=>by
  refine Zc5 r _ (fun z hz=>hf z (Ql _ hz)) (fun n c e=>?_) n c e;split at e
  ·rename_i hk;obtain⟨a,ha⟩:=hf y Qj (by simpa using hk);rw[ha,WL]at e;cases hn:n==y.1 with
   | true =>
    simp only[Uq,hn]at e;cases e;rw[eq_of_beq hn];exact ha
   | false =>
    simp only[Uq,hn]at e;exact h n c e
  ·exact h n c e
theorem Zaz {env:Env}:∀ (ns:List (Str×NameKind)) (cs:List (Str×Addr)) (n:Str),((n,NameKind.free)∈ns\/(cs.lookup n).isSome=true) ->
  ((Xl env ns cs).lookup n).isSome=true
 | [],cs,n,h=>by
  rcases h with h | h
  ·cases h
  ·exact h
 | y::r,cs,n,h=>by
  refine Zaz r _ n ?_;rcases h with h | h
  ·rcases Qy.mp h with h | h
   ·right
    subst h;simp
   ·exact .inl h
  ·right
   split
   ·cases hn:n==y.1 with
    | true=>simp only[Uq,hn];rfl
    | false=>simp only[Uq,hn];exact h
   ·exact h
def ZlA (env:Env) (n:Str) (k:NameKind):NameKind:=if (k==NameKind.free&&env.scope.kind==.function&&env.kindOf n==some .cell)=true then .cell else k
theorem ZaU (env:Env) (x:Str):∀ names:List (Str×NameKind),
  (names.map fun(n,k)=>if (k==NameKind.free&&env.scope.kind==.function&&env.kindOf n==some .cell)then (n,NameKind.cell)else (n,k)).lookup x=(names.lookup x).map (ZlA env x)
 | []=>rfl
 | (n,k)::r=>by
  have ih:=ZaU env x r;have e1:(if (k==NameKind.free&&env.scope.kind==.function&&env.kindOf n==some .cell)=true then (n,NameKind.cell)else (n,k))=(n,ZlA env n k):=by
   unfold ZlA;split <;> rfl
  rw[Qs];show List.lookup x ((if (k==NameKind.free&&env.scope.kind==.function&&env.kindOf n==some .cell)=true then (n,NameKind.cell)else (n,k))::_)=_;rw[e1];cases hx:x==n with
  | true =>
   simp only[Uq,hx];rw[eq_of_beq hx];rfl
  | false =>
   simp only[Uq,hx];exact ih
theorem JC (scope:Scope) (env:Env) (x:Str):(relabel scope env).names.lookup x=(scope.names.lookup x).map (ZlA env x):=ZaU env x scope.names
def lcN (N xs:List Str) (mp:List Nat):List Str:=xs++mp.map fun j=>N.getD j ""
def lcS (k:Nat) (mp:List Nat) (σ:St):St:=QJ k none++mp.map fun j=>(σ[j]?).getD none
structure ZlD (sc scope:Scope) (N xs:List Str) (mp:List Nat):Prop where
 kind:scope.kind= .function
 nocell:∀ y∈scope.names,y.2≠.cell
 names:∀ y∈scope.names,y.2= .local->scope.names.lookup y.1=some .local
 tg:∀ x∈xs,scope.names.lookup x=some .local
 fr:∀ y∈scope.names,y.2= .free->sc.names.lookup y.1=some .cell\/sc.names.lookup y.1=some .free
 out:∀ j∈mp,scope.names.lookup (N.getD j "")=some .free
 nd:(lcN N xs mp).Nodup
def Zjn (sc scope:Scope) (N xs:List Str) (mp:List Nat):Bool :=
 decide (scope.kind= .function)&&scope.names.all (fun y=>decide (y.2≠.cell))&&scope.names.all (fun y=>decide (y.2= .local->scope.names.lookup y.1=some .local)) &&
  xs.all (fun x=>decide (scope.names.lookup x=some .local))&&scope.names.all (fun y=>decide (y.2= .free->sc.names.lookup y.1=some .cell\/sc.names.lookup y.1=some .free)) &&
  mp.all (fun j=>decide (scope.names.lookup (N.getD j "")=some .free))&&decide (lcN N xs mp).Nodup
theorem Ze8 {sc scope:Scope} {xs:List Str} (h:Zjn sc scope N xs mp=true):ZlD sc scope N xs mp:=by
 simp only[Zjn,QQ,RW,decide_eq_true_eq]at h;obtain⟨⟨⟨⟨⟨⟨h1,h2⟩,h3⟩,h4⟩,h5⟩,h6⟩,h7⟩:=h;exact⟨h1,h2,h3,h4,h5,h6,h7⟩
abbrev lcx (X:Cx) (M:List Str) (scope:Scope) (cl:List (Str×Addr)) (C:Addr) (s₀:Shared) (H₀:Hp) (fp:List Addr):Cx where
 prog:=X.prog
 w:=X.w
 K:=X.K
 mg:=X.mg
 base:=X.base
 A:=X.A
 N:=M
 s₀:=s₀
 H₀:=H₀
 env:=compEnvC scope cl C X.env
 outer:=X.stack
 stack:=X.stack
 ex:=fp
 fn:=fun _=>false
 calm:=X.calm
 pn:=[]
 xe:=fun _ _=>False
section
variable {X:Cx} {pins:List (Addr×Obj)} {σ:St} {H₀:Hp} {s₀:Shared} {scope sc:Scope} {N xs:List Str} {mp:List Nat} {fp:List Addr}
theorem ZbR (I:Inv X pins σ H₀ s₀) (hsc:X.env.scope=sc) (S:ZlD sc scope N xs mp):∀ y∈scope.names,y.2= .free->∃ c,X.env.cells.lookup y.1=some c:=fun y hy e=>by
 refine I.ok.has y.1 ?_;have q:=S.fr y hy e;rw[←hsc]at q;exact q
theorem Zkh (I:Inv X pins σ H₀ s₀) (hsc:X.env.scope=sc) (S:ZlD sc scope N xs mp) {n:Str} {c:Addr} (e:(Xl X.env scope.names []).lookup n=some c):X.env.cells.lookup n=some c :=
 Zc5 scope.names [] (ZbR I hsc S) (fun _ _ z=>nomatch z) n c e
theorem ZmJ {h₁:Heap} {o:Obj} {m:Str->Option Value} {tk:Nat} (I:Inv X pins σ H₀ s₀) (hsc:X.env.scope=sc) (S:ZlD sc scope N xs mp) (hf:∀ b∈fp,ZfW X pins H₀ b)
  (hx:∀ b∈fp,∃ ob,s₀.heap.get? b=some ob) (hns:h₁.Ns s₀.heap.objs.size m) (hsb:Heap.SameBut s₀.heap.objs.size (s₀.heap.push o) h₁) :
  Inv (lcx X (lcN N xs mp) scope (Xl X.env scope.names []) s₀.heap.objs.size s₀ H₀ fp) [] (QJ (xs.length+mp.length) none) H₀ {s₀ with heap:=h₁,toks:=tk}:=by
 have kp:∀ b u,s₀.heap.get? b=some u->h₁.get? b=some u:=fun b u e=>hsb.extBut b u (QC (Qu e)) (Qh _ e);have sub:=@Zkh X pins σ H₀ s₀ scope sc N xs mp I hsc S;refine⟨⟨I.ok.mod,S.kind,I.ok.glob,I.ok.blt,Qk _,fun x y c e1 e2=>I.ok.inj x y c (sub e1) (sub e2),fun x hk=>?_,fun x c h _=>(QL h).elim,I.ok.hd,I.ok.frames,.inl rfl,
  fun b hb=>⟨?_,fun x c e=>(hf b hb).2.2.2.2.1 x c (sub e)⟩,fun b o e=>I.bs b o e,Wg I.ok.bsz I.sz,fun b o e hb=>?_,fun b hb z=>?_,I.stack,I.stkFree⟩,
  rfl,I.bare,Un.kept kp,⟨m,hns,fun i x v _ e2 _=>?_⟩,fun x c e=>?_,I.hok.fresh (Qk _),fun x c e=>I.freeC x c (sub e),fun p hp=>absurd (show p∈([]:List (Addr×Obj))from hp) (by simp),I.hok.kept kp,?_⟩
 ·have hk':(relabel scope X.env).names.lookup x=some .cell\/(relabel scope X.env).names.lookup x=some .free:=hk;rw[JC]at hk';cases e:scope.names.lookup x with
  | none=>rw[e]at hk';rcases hk' with z | z <;> cases z
  | some k =>
   have mem:(x,k)∈scope.names:=PySem.mem_of_lookup e;have hkf:k= .free:=by
    rw[e]at hk';have n1:=S.nocell _ mem;simp only[Wd,Option.some.injEq]at hk';unfold ZlA at hk';split at hk'
    ·rename_i hc;simp only[QQ]at hc;simpa using hc.1.1
    ·rcases hk' with z | z
     ·exact absurd z n1
     ·exact z
   subst hkf;exact WY.mp (Zaz scope.names [] x (.inl mem))
 ·obtain⟨ob,e⟩:=hx b hb;exact QC (Qu e)
 ·rcases(hf b hb).2.2.2.1 with z | z
  ·exact I.ok.noex b o e z
  ·exact absurd (Q2 (Qu (I.ok.bs b o e).1) z) (Wu _)
 ·rcases Qy.mp (I.stkSub b z)with e | e
  ·exact(hf b hb).2.1 e
  ·exact(hf b hb).2.2.1 e
 ·rw[Us]at e2;split at e2 <;> cases e2
 ·obtain⟨v,ob,ho,hd⟩:=I.cell x c (sub e);exact⟨v,ob,kp c ob ho,hd⟩
 ·show(QJ (xs.length+mp.length) none:St).length=(lcN N xs mp).length;simp[lcN]
theorem Ze7 {pY:List (Addr×Obj)} {σ':St} {s':Shared} {C:Addr} (I:Inv X pins σ H₀ s₀) (hsc:X.env.scope=sc) (hN:X.N=N) (S:ZlD sc scope N xs mp) (hf:∀ b∈fp,ZfW X pins H₀ b)
  (J:Inv (lcx X (lcN N xs mp) scope (Xl X.env scope.names []) C s₀ H₀ fp) pY σ' H s'):Inv (lcx X (lcN N xs mp) scope (Xl X.env scope.names []) C s₀ H₀ fp) pY (lcS xs.length mp σ) H s':=by
 obtain⟨m,hn,_⟩:=J.loc;refine⟨J.ok,J.os,J.bare,J.base,⟨m,hn,fun i x v e1 e2 e3=>?_⟩,J.cell,J.free,J.freeC,J.pin,J.hok,?_⟩
 ·have e1':(lcN N xs mp)[i]?=some x:=e1;unfold lcN at e1';unfold lcS at e2;by_cases hi:i<xs.length
  ·rw[QO (by simpa using hi),Us,if_pos hi]at e2;cases e2
  ·rw[QI (by simpa using hi),Q4,Qg]at e2;rw[QI (by simpa using hi),Qg]at e1';cases ej:mp[i-xs.length]? with
   | none=>rw[ej]at e2;cases e2
   | some j =>
    rw[ej]at e1' e2;have e1'':N.getD j "" = x:=Option.some.inj e1';have e2':(σ[j]?).getD none=some v:=Option.some.inj e2;have e2'':σ[j]?=some (some v):=by
     cases q:σ[j]? with
     | none=>rw[q]at e2';cases e2'
     | some z=>rw[q]at e2';exact congrArg some e2'
    have hj:j<N.length:=by
     have h1:=(Qp.mp e2'').1;rw[I.len,hN]at h1;exact h1
    have eN:N[j]?=some x:=by
     rw[←e1'',Qb];cases q:N[j]? with
     | none=>exact absurd (UK.mp q) (by omega)
     | some z=>rfl
    have fr:scope.names.lookup x=some .free:=by rw[←e1''];exact S.out j (QX ej)
    have mem:(x,NameKind.free)∈scope.names:=PySem.mem_of_lookup fr;have kX:X.env.scope.names.lookup x=some .cell\/X.env.scope.names.lookup x=some .free:=by
     rw[hsc];exact S.fr _ mem rfl
    obtain⟨mX,hnX,hl⟩:=I.loc;obtain⟨u,r,lk⟩:=hl j x v (by rw[hN];exact eN) e2'' (.inr kX);rcases lk with ⟨k,_⟩ | ⟨k,c,hc,hcell⟩
    ·have k':X.env.scope.names.lookup x=some .local:=k;rw[k']at kX;rcases kX with z | z <;> cases z
    ·refine⟨u,r,.inr ⟨?_,c,?_,?_⟩⟩
     ·show(relabel scope X.env).names.lookup x=some .cell\/(relabel scope X.env).names.lookup x=some .free;rw[JC,fr];simp only[Wd];unfold ZlA;split
      ·exact .inl rfl
      ·exact .inr rfl
     ·obtain⟨c',e'⟩:=WY.mp (Zaz (env:=X.env) scope.names [] x (.inl mem));have e'':=Zkh I hsc S e';rw[hc]at e'';cases e'';exact e'
     ·obtain⟨ob,ho,hd⟩:=hcell;obtain⟨sl,q⟩:=J.base.any ho (I.freeC x c hc) fun z=>(hf c z).2.2.2.2.1 x c hc rfl;exact⟨_,q,hd⟩
 ·show(lcS xs.length mp σ).length=(lcN N xs mp).length;simp[lcS,lcN]
theorem Zlh {pY:List (Addr×Obj)} {σ':St} {s':Shared} {C:Addr} {M:List Str} {cl:List (Str×Addr)} (I:Inv X pins σ H₀ s₀) (hf:∀ b∈fp,ZfW X pins H₀ b)
  (J:Inv (lcx X M scope cl C s₀ H₀ fp) pY σ' H s'):Inv X pins σ H s' :=
 I.call' (ch:=fp) J.os J.base J.hok J.bare fun b hb=>⟨(hf b hb).2.2.2.1,(hf b hb).2.1,(hf b hb).2.2.2.2.1,(hf b hb).2.2.2.2.2⟩
end
theorem Zeh {prog:Program} {w:World} {A:Around} {R:Result->Shared->Prop} {s:Shared} {elt target iter:Expr} {ifs:List Expr} {scope:Scope} {pos:Pos} {it acc:Value} {env:Env} (I:Nat->Shared->Prop)
  (turn:∀ n s,I n s->wpAny (model prog w) A (pyNext it) (fun r s1=>match r with
   | none=>R (.ok .next) s1
   | some v=>wpAny (model prog w) A (letOwnedTupleGo target it v) (fun _ s1'=>wpAny (model prog w) A (assign target env v) (fun _ s2 =>
     wpAny (model prog w) A (forIn ifs true fun c r=>if r=true then do let ok ←isTrue c env (eval c env);pure (ForInStep.yield ok)else pure (ForInStep.yield r)) (fun ok s3 =>
      if ok=true then wpAny (model prog w) A (eval elt env) (fun x s4=>wpAny (model prog w) A (call (.builtin "list.append") [acc,x]) (fun _ s5=>∃ m,m<n/\I m s5) (fun _ _=>False) s4) (fun _ _=>False) s3
      else ∃ m,m<n/\I m s3) (fun _ _=>False) s2) (fun _ _=>False) s1') (fun _ _=>False) s1) (fun _ _=>False) s)
  (n:Nat) (h:I n s):codeAny (model prog w) A (.compLoop (.ListComp elt [⟨target,iter,ifs,0⟩] scope pos) 0 it acc env) R s:=by
 refine codeAny_loop rfl I (fun n s hI=>?_) n h;show wpAny (model prog w) A ((compTurn (.ListComp elt [⟨target,iter,ifs,0⟩] scope pos) 0 it acc env).onRaise (fun x=>do noteFrame x env;theTreesLotGoes x)) _ _ s;refine wpAny_noted ?_;rw[compTurn_list];refine wpAny_bind (wpAny_standAt (wpAny_bind (wpAny_mono (turn n s hI) (fun r s1 h1=>?_) fun _ _ z=>z.elim)));cases r with
 | none=>exact wpAny_pure h1
 | some v =>
  refine wpAny_bind (wpAny_mono h1 (fun _ s1' h1'=>?_) fun _ _ z=>z.elim);refine wpAny_bind (wpAny_mono h1' (fun _ s2 h2=>wpAny_bind (wpAny_mono h2 (fun ok s3 h3=>?_) fun _ _ z=>z.elim)) fun _ _ z=>z.elim);cases ok with
  | false=>exact wpAny_pure ⟨rfl,h3⟩
  | true=>exact wpAny_bind (wpAny_bind (wpAny_mono h3 (fun x s4 h4=>wpAny_bind (wpAny_mono h4 (fun _ s5 h5=>wpAny_pure (wpAny_pure ⟨rfl,h5⟩)) fun _ _ z=>z.elim)) fun _ _ z=>z.elim))
def PCs (X:Cx) (ifs:List Expr) (t:TT):Prop :=
 ∀ (pins:List (Addr×Obj)) (s:Shared) (σ:St) (H:Hp) (Q:Bool->Hp->Prop),Inv X pins σ H s->t σ H Q ->
  wpAny (model X.prog X.w) X.A (forIn ifs true fun c r=>if r=true then do let ok ←isTrue c X.env (eval c X.env);pure (ForInStep.yield ok)else pure (ForInStep.yield r)) (TP X pins σ Q) X.xe s
def Zni:TT:=fun _ H Q=>Q true H
theorem Yd:PCs X [] Zni:=fun _ _ _ H _ I h=>wpAny_tests_nil ⟨H,I,h⟩
theorem YL {c:Expr} {t:TT} (h:PT X c t):PCs X [c] t:=fun pins s σ H Q I hw=>wpAny_tests_one (h pins s σ H Q I hw)
def Zap (k:Nat) (mp:List Nat) (σ:St) (g:TG) (tc:TT) (te:TE) (J:It) (H1:Hp) (Q:VK):Prop :=
 ∀ D,H1 D=none->∃ W:Nat->Nat->List V->Hp->Prop,(∃ m,W 0 m [] (upd H1 D (.lst [])))/\∀ i m acc H2,W i m acc H2 ->
  (J.stop i H2/\Q (.ref D) H2)\/(J.go i H2/\∀ x H3,J.yld i H2 x H3->g x (lcS k mp σ) H3 fun σ4 H4=>tc σ4 H4 fun b H5 =>
   if b=true then te σ4 H5 fun v H6=>H6 D=some (.lst acc)/\acc.length<sizeLine/\∃ m',m'<m/\W (i+1) m' (acc++[v]) (upd H6 D (.lst (acc++[v])))
   else ∃ m',m'<m/\W (i+1) m' acc H5)
def tLc (k:Nat) (mp:List Nat) (wi:TI) (g:TG) (tc:TT) (te:TE):TE:=fun σ H Q=>wi σ H fun J H1=>Zap k mp σ g tc te J H1 Q
section
variable {X:Cx} {pins:List (Addr×Obj)} {σ:St} {elt tgt iter:Expr} {ifs:List Expr} {scope sc:Scope} {pos:Pos} {N xs:List Str} {mp:List Nat} {wi:TI} {g:TG} {tc:TT} {te:TE}
theorem Zki {s2:Shared} {it:Addr} {fp:List Addr} {tn:Nat->Heap->Prop} {J:It} {Qv:VK} {E:Value->Shared->Prop} {RR:Value->Addr->Result->Shared->Prop}
  (hsc:X.env.scope=sc) (hN:X.N=N) (S:ZlD sc scope N xs mp) (hcalm:X.calm=true)
  (hg:∀ cl C s₀ H₀ fp,PG (lcx X (lcN N xs mp) scope cl C s₀ H₀ fp) tgt g) (hc:∀ cl C s₀ H₀ fp,PCs (lcx X (lcN N xs mp) scope cl C s₀ H₀ fp) ifs tc) (he:∀ cl C s₀ H₀ fp,PE (lcx X (lcN N xs mp) scope cl C s₀ H₀ fp) elt te)
  (I2:Inv X pins σ H2 s2) (T:Zku X.prog X.w X.K tgt J fp it tn) (st2:tn 0 s2.heap) (f2:∀ b∈fp,ZfW X pins H2 b) (h:Zap xs.length mp σ g tc te J H2 Qv)
  (hRR:∀ (D C:Addr) (s':Shared) (H':Hp) (m:Str->Option Value),s'.heap.Ns C m->Inv X pins σ H' s'->ZfW X pins H' C->Qv (.ref D) H'->RR (.ref D) C (.ok .next) s') :
  wpAny (model X.prog X.w) X.A (newList []) (fun acc s3=>wpAny (model X.prog X.w) X.A (newFunctionEnv scope X.env.globals (Xl X.env scope.names []) [] X.env.qual none .none (some X.env)) (fun cenv s4 =>
   codeAny (model X.prog X.w) X.A (.compStart (.ListComp elt [⟨tgt,iter,ifs,0⟩] scope pos) 0 (.ref it) acc {cenv with scope:=relabel scope X.env}) (RR acc cenv.locals) s4) E s3) E s2:=by
 have hD:H2 s2.heap.objs.size=none:=I2.hok.fresh (Qk _);obtain⟨W,⟨m0,w0⟩,turn⟩:=h s2.heap.objs.size hD;refine wpAny_newObj_type (wpAny_newFunctionEnv S.nocell (by intro y hy;simp at hy) (fun h1 hns1 hsb1=>?_) S.kind);dsimp only at hns1 hsb1 ⊢;have fpD:∀ b∈fp,b≠s2.heap.objs.size:=fun b hb=>by
  obtain⟨o,e,_⟩:=T.obj _ _ st2 b hb;exact QC (Qu e)
 have I3:Inv X pins σ (upd H2 s2.heap.objs.size (.lst [])) {s2 with heap:=s2.heap.push {cls:=.type "list",dict:=none,data:=.seq ([]:List Value).toArray}} :=
  I2.laid (t':=s2.toks) (fun b u e=>Qh _ e) (Qk _) ⟨QV _,[],0,.nil,Qx _ rfl⟩
 have f3:∀ b∈fp,ZfW X pins (upd H2 s2.heap.objs.size (.lst [])) b:=fun b hb=>⟨by rw[Zl (fpD b hb)];exact(f2 b hb).1,(f2 b hb).2⟩
 generalize hs3:({s2 with heap:=s2.heap.push {cls:=.type "list",dict:=none,data:=.seq ([]:List Value).toArray}}:Shared)=s3 at I3;have hh3:s2.heap.push {cls:=.type "list",dict:=none,data:=.seq ([]:List Value).toArray}=s3.heap:=by rw[←hs3]
 have kp3:∀ b o,s2.heap.get? b=some o->s3.heap.get? b=some o:=fun b o e=>by rw[←hh3];exact Qh _ e
 rw[hh3]at hns1 hsb1 ⊢;have st3:tn 0 s3.heap:=T.keep _ _ _ st2 fun b _ o e=>kp3 b o e;have x3:∀ b∈fp,∃ o,s3.heap.get? b=some o:=fun b hb=>by
  obtain⟨o,e,_⟩:=T.obj _ _ st3 b hb;exact⟨o,e⟩
 have st4:tn 0 h1:=T.keep _ _ _ st3 fun b _ o e=>hsb1.extBut b o (QC (Qu e)) (Qh _ e);have I4:=fun tk=>Ze7 I3 hsc hN S f3 (ZmJ (tk:=tk) I3 hsc S f3 x3 hns1 hsb1);have key:∀ s4:Shared,s4={s3 with heap:=h1,toks:=s4.toks}->codeAny (model X.prog X.w) X.A (.compLoop (.ListComp elt [⟨tgt,iter,ifs,0⟩] scope pos) 0 (.ref it) (.ref s2.heap.objs.size) (compEnvC scope (Xl X.env scope.names []) s3.heap.objs.size X.env))
   (RR (.ref s2.heap.objs.size) s3.heap.objs.size) s4:=by
  intro s4 hs4;have stat:∀ {H':Hp},(∀ b∈fp,H' b=none)->∀ b∈fp,ZfW (lcx X (lcN N xs mp) scope (Xl X.env scope.names []) s3.heap.objs.size s3 (upd H2 s2.heap.objs.size (.lst [])) fp) [] H' b:=fun hn b hb =>
   ⟨hn b hb,((I4 0).ok.exf b hb).1,(I4 0).ok.exfs b hb,.inl hb,((I4 0).ok.exf b hb).2,fun p hp=>absurd (show p∈([]:List (Addr×Obj))from hp) (by simp)⟩
  refine Zeh (fun n s'=>∃ i acc H',Inv (lcx X (lcN N xs mp) scope (Xl X.env scope.names []) s3.heap.objs.size s3 (upd H2 s2.heap.objs.size (.lst [])) fp) [] (lcS xs.length mp σ) H' s'/\tn i s'.heap/\(∀ b∈fp,H' b=none)/\W i n acc H') ?_ m0
   ⟨0,[],_,(by rw[hs4];exact I4 _),(by rw[hs4];exact st4),fun b hb=>(f3 b hb).1,w0⟩
  rintro n s6 ⟨i,acc,H6,I6,st6,fr6,w6⟩;rcases turn i n acc H6 w6 with ⟨stop,q⟩ | ⟨go,step⟩
  ·refine thn (T.done (lcx X (lcN N xs mp) scope (Xl X.env scope.names []) s3.heap.objs.size s3 (upd H2 s2.heap.objs.size (.lst [])) fp) rfl rfl rfl hcalm i [] s6 _ H6 _ I6 (stat fr6) st6 stop) fun r s7 ⟨hr,I7⟩=>?_;subst hr;obtain⟨m7,hn7,_⟩:=I7.loc;exact hRR _ _ s7 H6 m7 hn7 (Zlh I3 f3 I7) (I3.fpOk (Qk _) I7.free) q
  ·refine thn (T.item (lcx X (lcN N xs mp) scope (Xl X.env scope.names []) s3.heap.objs.size s3 (upd H2 s2.heap.objs.size (.lst [])) fp) rfl rfl rfl hcalm i [] s6 _ H6 _ I6 (stat fr6) st6 go) fun r s7 ⟨u,hr,h7⟩=>?_;subst hr;refine thn h7 fun _ s8 ⟨x,H8,I8,r8,y8,st8,fr8⟩=>?_;have I8':=I8.pinned (stat fr8) (T.obj _ _ st8);have again:∀ {σ':St} {H':Hp} {s':Shared},Inv (lcx X (lcN N xs mp) scope (Xl X.env scope.names []) s3.heap.objs.size s3 (upd H2 s2.heap.objs.size (.lst [])) fp) ([]++Zcq fp s8.heap) σ' H' s'->(∃ m acc',m<n/\W (i+1) m acc' H') ->
     ∃ m,m<n/\∃ i acc H',Inv (lcx X (lcN N xs mp) scope (Xl X.env scope.names []) s3.heap.objs.size s3 (upd H2 s2.heap.objs.size (.lst [])) fp) [] (lcS xs.length mp σ) H' s'/\tn i s'.heap/\(∀ b∈fp,H' b=none)/\W i m acc H':=by
    intro σ' H' s' J ⟨m,acc',hm,w'⟩;refine⟨m,hm,i+1,acc',H',Ze7 I3 hsc hN S f3 J.unpinned,T.keep _ _ _ st8 fun b hb o e=>(J.pin (b,o) (QH _ (QH _ (Xu hb e)))).1,fun b hb=>?_,w'⟩;obtain⟨o,e,_⟩:=T.obj _ _ st8 b hb;exact(J.pin (b,o) (QH _ (QH _ (Xu hb e)))).2.1
   refine thn (hg _ _ _ _ _ _ s8 _ H8 x u _ I8' r8 (step x H8 y8)) fun _ s9 ⟨σ9,H9,I9,q9⟩=>?_;refine thn (hc _ _ _ _ _ _ s9 σ9 H9 _ I9 q9) fun b s10 ⟨H10,I10,q10⟩=>?_;cases b with
   | false =>
    obtain⟨m',hm,w'⟩:=q10;exact again I10 ⟨m',acc,hm,w'⟩
   | true =>
    refine thn (he _ _ _ _ _ _ s10 σ9 H10 _ I10 q10) fun yv s11 ⟨v,H11,I11,r11,hDa,hz,m',hm,w'⟩=>?_;refine thn (ZcL _ s11 σ9 H11 (.ref s2.heap.objs.size) [v] (.ref s2.heap.objs.size) [yv] (fun _ H12=>H12=upd H11 s2.heap.objs.size (.lst (acc++[v]))) I11 rfl (.cons r11 .nil) ⟨_,acc,v,rfl,rfl,hDa,hz,rfl⟩) fun _ s12 ⟨_,H12,I12,_,e12⟩=>?_;subst e12;exact again I12 ⟨m',_,hm,w'⟩
 subst hs3;exact codeAny_compStart_list (key _ rfl) (T.self X.A 0 _ _ _ st4 (key _ rfl))
theorem ZK (sc:Scope) (N xs:List Str) (mp:List Nat) (hcalm:X.calm=true) (hi:PI X tgt iter wi) (hg:∀ cl C s₀ H₀ fp,PG (lcx X (lcN N xs mp) scope cl C s₀ H₀ fp) tgt g)
  (hc:∀ cl C s₀ H₀ fp,PCs (lcx X (lcN N xs mp) scope cl C s₀ H₀ fp) ifs tc) (he:∀ cl C s₀ H₀ fp,PE (lcx X (lcN N xs mp) scope cl C s₀ H₀ fp) elt te)
  (S:Zjn sc scope N xs mp=true:=by decide +kernel) (hsc:X.env.scope=sc:=by rfl) (hN:X.N=N:=by rfl) (hs:∀ x,foldedSetIterable iter X.env x=pure x:=by intro _;rfl) :
  PE X (.ListComp elt [⟨tgt,iter,ifs,0⟩] scope pos) (tLc xs.length mp wi g tc te):=by
 intro pins s σ H Q I h;have S':=Ze8 S;rw[eval_ListComp];refine wpAny_comprehension_free (use:=none) rfl hs (X9 (ZbR I hsc S')) S'.kind S'.names (thn (hi pins s σ H _ I h) fun v s1 h1=>thn h1 fun itv s2 h2=>?_);obtain⟨it,fp,tn,J,H2,e,I2,T,st2,f2,h3⟩:=h2;subst e;refine Zki (RR:=fun acc C=>compPost (model X.prog X.w) X.A X.xe none (EP X pins σ Q) acc C) hsc hN S' hcalm hg hc he I2 T st2 f2 h3 ?_;intro D C s' H' m hn I' fC q;exact⟨m,hn,fun h' hs'=>⟨.ref D,H',I'.turned (t':=s'.toks) (fun b o hb e=>hs'.extBut b o hb e) fC.1 fC.2.1 fC.2.2.2.1 fC.2.2.2.2.1 fC.2.2.2.2.2,rfl,q⟩⟩
theorem XU {i:Nat} {pos' spos:Pos} (sc:Scope) (N xs:List Str) (mp:List Nat) (hNd:X.N.Nodup) (hix:X.N[i]?=some x) (hx:Loc X.env.scope x) (hcalm:X.calm=true) (hi:PI X tgt iter wi) (hg:∀ cl C s₀ H₀ fp,PG (lcx X (lcN N xs mp) scope cl C s₀ H₀ fp) tgt g)
  (hc:∀ cl C s₀ H₀ fp,PCs (lcx X (lcN N xs mp) scope cl C s₀ H₀ fp) ifs tc) (he:∀ cl C s₀ H₀ fp,PE (lcx X (lcN N xs mp) scope cl C s₀ H₀ fp) elt te)
  (S:Zjn sc scope N xs mp=true:=by decide +kernel) (hsw:swapsWith (.ListComp elt [⟨tgt,iter,ifs,0⟩] scope pos) (some (.Name x pos')) spos.line X.env=pure true:=by rfl)
  (hsc:X.env.scope=sc:=by rfl) (hN:X.N=N:=by rfl) (hs:∀ x,foldedSetIterable iter X.env x=pure x:=by intro _;rfl) (hf:X.fn x=true\/X.env.scope.names.lookup x=some .local:=by first | exact .inl rfl | exact .inr rfl | assumption) :
  PS X (.Assign [.Name x pos'] (.ListComp elt [⟨tgt,iter,ifs,0⟩] scope pos) spos) (Zn7 (tLc xs.length mp wi g tc te) (XL i)):=by
 intro pins s σ H D I h;have S':=Ze8 S;rw[exec_Assign_Name_used _ _ _ _ hsw];refine wpAny_bind (wpAny_standAt (wpAny_bind ?_));show wpAny (model X.prog X.w) X.A (do let _ ←comprehension (.ListComp elt [⟨tgt,iter,ifs,0⟩] scope pos) scope X.env _ (newList []) false (eval iter X.env) (some (assign (.Name x pos') X.env))) _ _ s;refine wpAny_bind (wpAny_mono (wpAny_comprehension_free (use:=some (assign (.Name x pos') X.env)) (Q:=fun _ s'=>SP X pins D .next s') rfl hs (X9 (ZbR I hsc S')) S'.kind S'.names
  (thn (hi pins s σ H _ I h) fun v s1 h1=>thn h1 fun itv s2 h2=>?_)) (fun _ s' hq=>wpAny_pure (wpAny_pure hq)) fun _ _ e=>e)
 obtain⟨it,fp,tn,J,H2,e,I2,T,st2,f2,h3⟩:=h2;subst e;refine Zki (RR:=fun acc C=>compPost (model X.prog X.w) X.A X.xe (some (assign (.Name x pos') X.env)) (fun _ s'=>SP X pins D .next s') acc C) hsc hN S' hcalm hg hc he I2 T st2 f2 h3 ?_;intro D' C s' H' m hn I' fC q;show wpAny (model X.prog X.w) X.A (assign (.Name x pos') X.env (.ref D')) _ _ s';refine wpAny_assign_Name (Zb8 I' hNd hix hx (v:=.ref D') rfl (fun s'' I'' ⟨a,sb,ha⟩=>?_) hf);have nC:C≠a:=by
  rcases ha with z | z
  ·rw[z];exact fC.2.1
  ·exact fun e=>fC.2.2.2.2.1 x a z e.symm
 refine⟨m,hn.sameBut sb nC,fun h' hs'=>⟨_,H',I''.turned (t':=s''.toks) (fun b o hb e=>hs'.extBut b o hb e) fC.1 fC.2.1 fC.2.2.2.1 fC.2.2.2.2.1 fC.2.2.2.2.2,q⟩⟩
end
def TSame (H H':Hp):Prop:=∀ b xs,H b=some (.tup xs)->H' b=some (.tup xs)
theorem Same.tup (h:Same H H'):TSame H H':=fun b xs e=>h b _ e
theorem TSame.trans (a:TSame H H1) (b:TSame H1 H2):TSame H H2:=fun c xs e=>b c xs (a c xs e)
theorem Yh {D:Addr} (h:H D=some (.lst xs)):TSame H (upd H D (.lst ys)):=fun b zs e=>by
 rw[Zl (fun z=>by rw[z,h]at e;cases e)];exact e
theorem Zb {D:Addr} {o:HO} (h:H D=none):Same H (upd H D o):=fun b u e=>by
 rw[Zl (Zo e h)];exact e
theorem YD {σ:St} {g:TG} {te:TE} {J:It} {Q:VK} (n:Nat) (xs:Nat->V) (R:Nat->V->Hp->Prop) (hn:n<=sizeLine)
  (hR:∀ i v H H',TSame H H'->R i v H->R i v H')
  (hJ:∀ H,Same H1 H->(∀ i,i<n->J.go i H/\∀ x H',J.yld i H x H'->H'=H/\x=xs i)/\J.stop n H)
  (step:∀ i H (Qe:VK),i<n->Same H1 H->(∀ v H6,Same H H6->R i v H6->Qe v H6)->g (xs i) (lcS k mp σ) H fun σ4 H4=>te σ4 H4 Qe)
  (done:∀ D vs H',vs.length=n->(∀ i v,vs[i]?=some v->R i v H')->Same H1 H'->H1 D=none->H' D=some (.lst vs)->Q (.ref D) H'):Zap k mp σ g Zni te J H1 Q:=by
 intro D hD;refine⟨fun i m acc H=>m=n-i/\i<=n/\acc.length=i/\Same H1 H/\H D=some (.lst acc)/\∀ j v,acc[j]?=some v->R j v H,⟨n,by simp,QV _,rfl,Zb hD,Zd,fun j v e=>by simp at e⟩,?_⟩;rintro i m acc H ⟨rfl,hi,hl,hs,hDa,hr⟩;obtain⟨j1,j2⟩:=hJ H hs;by_cases hlt:i<n
 ·refine .inr ⟨(j1 i hlt).1,fun x H3 y=>?_⟩;obtain⟨e1,e2⟩:=(j1 i hlt).2 x H3 y;subst e1 e2;refine step i H3 _ hlt hs fun v H6 s6 r6=>⟨s6 _ _ hDa,by omega,n-(i+1),by omega,rfl,hlt,by rw[Qd,hl];rfl,fun b o e=>?_,Zd,fun j u e=>?_⟩
  ·rw[Zl (Zo e hD)];exact s6 _ _ (hs b o e)
  ·have ts:TSame H6 (upd H6 D (.lst (acc++[v]))):=Yh (s6 _ _ hDa);rcases RN j acc.length with h | h | h
   ·rw[QO h]at e;exact hR _ _ _ _ (s6.tup.trans ts) (hr j u e)
   ·subst h;rw[QI (Qk _),Wq]at e;cases e;rw[hl];exact hR _ _ _ _ ts r6
   ·rw[Qo (by rw[Qd,Qr];omega)]at e;cases e
 ·have e:i=n:=by omega
  subst e;exact .inl ⟨j2,done D acc H hl hr hs hD hDa⟩
theorem Xi {K:PySem.W.Frag} (h:SqL K H1 a ys):∀ H,Same H1 H->(∀ i,i<ys.length->(Itl K a).go i H/\∀ x H',(Itl K a).yld i H x H'->H'=H/\x=ys.getD i .non)/\(Itl K a).stop ys.length H:=fun H s=>by
 have q:=s.seq h;refine⟨fun i hi=>⟨⟨ys,ys[i],q,by simp[hi]⟩,fun x H' y=>⟨y.1,?_⟩⟩,⟨ys,q,Qk _⟩⟩;have e:=y.2 ys q;rw[Qb,e];rfl
theorem Same.tupS {K:PySem.W.Frag} (e:Same H H') (h:SqT K H a xs):SqT K H' a xs:=by
 rcases h with (h | ⟨o,h⟩) | h
 ·exact .inl (.inl (e _ _ h))
 ·exact .inl (.inr ⟨o,e _ _ h⟩)
 ·exact .inr h
theorem Xz {K:PySem.W.Frag} (h:SqT K H1 a ys):∀ H,Same H1 H->(∀ i,i<ys.length->(Itt K a).go i H/\∀ x H',(Itt K a).yld i H x H'->H'=H/\x=ys.getD i .non)/\(Itt K a).stop ys.length H:=fun H s=>by
 have q:=s.tupS h;refine⟨fun i hi=>⟨⟨ys,ys[i],q,by simp[hi]⟩,fun x H' y=>⟨y.1,?_⟩⟩,⟨ys,q,Qk _⟩⟩;have e:=y.2 ys q;rw[Qb,e];rfl
theorem ZbT {lo:Int}:∀ H,Same H1 H->(∀ i,i<n->(Itr lo n).go i H/\∀ x H',(Itr lo n).yld i H x H'->H'=H/\x= .int (lo+i))/\(Itr lo n).stop n H:=fun H _ =>
 ⟨fun i hi=>⟨hi,fun x H' y=>y⟩,Qk _⟩
def Its (x:Str):It:=⟨fun i _=>i<x.cps.size,fun i H v H'=>H'=H/\v= .str ⟨#[x.cps.getD i 0]⟩,fun i _=>x.cps.size<=i⟩
theorem Zer {P:Program} {w:World} {K:PySem.W.Frag} {tg:Expr} (it:Addr) (x:Str) (t:Tok) (T:String) (hT:T = "str_ascii_iterator"\/T = "str_iterator"):Zku P w K tg (Its x) [it] it (fun i h=>h.IsStrIter it T x t i) where
 mem:=by simp
 obj:=fun i h st b hb=>by
  have e:b=it:=by simpa using hb
  subst e;obtain⟨o,e,c,d⟩:=st;exact⟨o,e,fun v z=>by rw[d]at z;cases z⟩
 keep:=fun i h h' st k=>by
  obtain⟨o,e,c,d⟩:=st;exact⟨o,k it (by simp) o e,c,d⟩
 item:=by
  intro X hP hw hK hc i pins s σ H E I hf st hg;subst hP hw hK;obtain⟨f0,f1,f2,f3,f4,f5⟩:=hf it (by simp);have hd:=I.ok.hd hc;have fin:∀ (v:Value) (h':Heap) (tk:Nat),SignAt x i v->h'.IsStrIter it T x t (i+1)->(∀ b o,b∉[it]->s.heap.get? b=some o->h'.get? b=some o) ->
    ∃ u,some v=some u/\wpAny (model X.prog X.w) X.A (letOwnedTupleGo tg (.ref it) u) (fun _ s2=>∃ y H',Inv X pins σ H' s2/\RelV y u/\(Its x).yld i H y H'/\s2.heap.IsStrIter it T x t (i+1)/\∀ b∈[it],H' b=none) E {s with heap:=h',toks:=tk}:=by
   intro v h' tk hv st' kk;obtain⟨c,u,hc',rfl⟩:=hv;have I1:Inv X pins σ H {s with heap:=h',toks:=tk}:=I.turned (fun b o hb e=>kk b o (by simpa using hb) e) f0 f1 f3 f4 f5;obtain⟨o,e,c1,d1⟩:=id st';refine⟨_,rfl,Zh0 (s:={s with heap:=h',toks:=tk}) e c1 d1 (by rcases hT with z | z <;> rw[z] <;> decide) ⟨.str ⟨#[x.cps.getD i 0]⟩,H,I1,⟨u,?_⟩,⟨rfl,rfl⟩,st',fun b hb=>(hf b hb).1⟩⟩;rw[Wa,hc'];rfl
  rcases hT with z | z
  ·subst z;exact(Walks.strAscii (prog:=X.prog) (w:=X.w) hd it x t).item i s _ _ hg st fun v h' tk hv st' kk=>fin v h' tk hv st' kk
  ·subst z;exact(Walks.strWide (prog:=X.prog) (w:=X.w) hd it x t).item i s _ _ hg st fun v h' tk hv st' kk=>fin v h' tk hv st' kk
 done:=by
  intro X hP hw hK hc i pins s σ H E I hf st hg;subst hP hw hK;obtain⟨f0,f1,f2,f3,f4,f5⟩:=hf it (by simp);have hd:=I.ok.hd hc;have hg':x.cps.size<=i:=hg;have hn:x.cps[i]?=none:=Uw hg';rcases hT with z | z
  ·subst z;exact wpAny_pyNext_ascii_end hd st hn fun h' eb=>⟨rfl,I.turned (t':=s.toks) (fun b o hb e=>eb b o hb e) f0 f1 f3 f4 f5⟩
  ·subst z;exact wpAny_pyNext_wide_end hd st hn fun h' eb=>⟨rfl,I.turned (t':=s.toks) (fun b o hb e=>eb b o hb e) f0 f1 f3 f4 f5⟩
 self:=fun _ _ _ _ _ st h=>by
  rcases hT with z | z
  ·subst z;exact wpAny_pyIter_striter_ascii st h
  ·subst z;exact wpAny_pyIter_striter_wide st h
def ZoF (tl:TE):TI:=fun σ H R=>tl σ H fun v H1=>∃ x,v= .str x/\R (Its x) H1
theorem Zme {tg l:Expr} {tl:TE} (hl:PE X l tl):PI X tg l (ZoF tl):=by
 intro pins s σ H R I h;refine thn (hl pins s σ H _ I h) fun v s1 ⟨y,H1,I1,r1,q1⟩=>?_;obtain⟨x,e,q⟩:=q1;subst e;obtain⟨t,rfl⟩:=r1;cases ha:x.cps.all (· < 128)with
 | true =>
  refine wpAny_pyIter_ascii ha ⟨s1.heap.objs.size,[s1.heap.objs.size],_,_,H1,rfl,I1.kept (t':=s1.toks) fun b o e=>Qh _ e,Zer _ x t _ (.inl rfl),⟨_,Qx _ rfl,rfl,rfl⟩,fun b hb=>?_,q⟩;have e:b=s1.heap.objs.size:=by simpa using hb
  subst e;exact I1.fpOk (Qk _) (I1.hok.fresh (Qk _))
 | false =>
  refine wpAny_pyIter_wide ha ⟨s1.heap.objs.size,[s1.heap.objs.size],_,_,H1,rfl,I1.kept (t':=s1.toks) fun b o e=>Qh _ e,Zer _ x t _ (.inr rfl),⟨_,Qx _ rfl,rfl,rfl⟩,fun b hb=>?_,q⟩;have e:b=s1.heap.objs.size:=by simpa using hb
  subst e;exact I1.fpOk (Qk _) (I1.hok.fresh (Qk _))
section
variable {X:Cx}
def Zoz:V->Option Int->Option Int->Hp->VK->Prop:=fun x lo hi H Q=>∃ z:Str,x= .str z/\z.length<=sizeLine/\Q (.str (Txt.slice z lo hi)) H
theorem Z4:SlR X Zoz:=by
 intro pins s σ H x v vl vu lo hi sl Q I rx hs pl pu h;obtain⟨z,rfl,hz,q⟩:=h;obtain⟨t,rfl⟩:=rx;have fin:∀ t' k,EP X pins σ Q (.str (Txt.slice z lo hi) t') {s with toks:=k}:=fun t' k=>⟨.str _,H,I.tok _,⟨_,rfl⟩,q⟩
 have hle:(Txt.slice z lo hi).length<=sizeLine:=Wg (Txt.slice_le z _ _) hz;cases pl with
 | none =>
  cases pu with
  | none=>exact⟨"str",_,F.slot_str_getitem.lookup,typeIs_str _ _ _,wpAny_getItem_str_slice (l:=none) (u:=none) (st:=none) hs rfl (post_val_or_str ⟨hle,fin⟩)⟩
  | int j u=>exact⟨"str",_,F.slot_str_getitem.lookup,typeIs_str _ _ _,wpAny_getItem_str_slice (l:=none) (u:=some (j,u)) (st:=none) hs rfl (post_val_or_str ⟨hle,fin⟩)⟩
 | int i u' =>
  cases pu with
  | none=>exact⟨"str",_,F.slot_str_getitem.lookup,typeIs_str _ _ _,wpAny_getItem_str_slice (l:=some (i,u')) (u:=none) (st:=none) hs rfl (post_val_or_str ⟨hle,fin⟩)⟩
  | int j u=>exact⟨"str",_,F.slot_str_getitem.lookup,typeIs_str _ _ _,wpAny_getItem_str_slice (l:=some (i,u')) (u:=some (j,u)) (st:=none) hs rfl (post_val_or_str ⟨hle,fin⟩)⟩
theorem XH:OpR X (binaryOp .Mult) (fun x y H Q=>∃ (z:Str) (n:Int),x= .str z/\y= .int n/\MulOk z n/\Q (.str (Txt.mul z n)) H):=by
 intro pins s σ H x y v u Q I rx ry h;obtain⟨z,n,rfl,rfl,hok,q⟩:=h;obtain⟨t,rfl⟩:=rx;obtain⟨t',rfl⟩:=ry;exact SB.mul hok fun t' k=>⟨.str _,H,I.tok _,⟨_,rfl⟩,q⟩
theorem Jk:∀ {ss:List Str} {us:List Value},Vals (ss.map V.str) us->StrsAre us ss
 | [],_,r=>by
  cases r;exact .nil
 | x::ss,_,r=>by
  cases r with
  | cons r1 r2 =>
   obtain⟨t,e⟩:=r1;subst e;exact .cons x t (Jk r2)
def ZnA (K:PySem.W.Frag):V->List V->Hp->VK->Prop:=fun x vs H Q=>∃ (z:Str) (a:Addr) (ys:List Str),x= .str z/\vs=[.ref a]/\SqL K H a (ys.map V.str)/\(ys.map (·.length)).sum+ys.length*z.length<=16777216/\Q (.str (Txt.join z ys)) H
theorem Zam:MtR X "str.join" (ZnA X.K):=by
 intro pins s σ H x vs v us Q I rx rv h;obtain⟨z,a,ys,rfl,rfl,hq,hz,q⟩:=h;obtain⟨t,rfl⟩:=rx;obtain⟨u,rfl,ru⟩:=Jf rv;cases ru;obtain⟨its,r,pl,_⟩:=I.list hq;exact join_list pl.isList (Jk (by simpa using r)) hz fun t' k=>⟨.str _,H,I.tok _,⟨_,rfl⟩,q⟩
theorem YU:∀ (ns:List Int) (k:Nat),preSum (fun i=>ns.getD i 0) k=(ns.take k).sum
 | ns,0=>by simp[preSum]
 | ns,k+1=>by
  rw[preSum,YU ns k];by_cases h:k<ns.length
  ·rw[RP,Qa h,Qb,Qa h];simp only[Ue,Option.toList_some,Q8,Vc,WL];omega
  ·have h':ns.length<=k:=RV h;rw[Q0 h',Q0 (Uy h'),Qb,Qo h'];simp
theorem Zil (hc:X.calm=true):CallR X (.builtin "sum") (fun xs H Q=>∃ (a:Addr) (ns:List Int),xs=[.ref a]/\SqL X.K H a (ns.map V.int)/\(∀ n∈ns,InLong n)/\(∀ k,InLong (ns.take k).sum)/\Q (.int ns.sum) H):=by
 intro pins s σ H xs us Q I r h;obtain⟨a,ns,rfl,hq,h1,h2,q⟩:=h;obtain⟨u,rfl,ru⟩:=Jf r;cases ru;obtain⟨its,rv,pl,hz⟩:=I.list hq;have hl:=rv.length;rw[Qc]at hl;have hlt:a<s.heap.objs.size:=by
  obtain⟨o,n,e,_⟩:=pl;exact Qu e
 refine call_sum_walk (wpAny_pyIter_list pl.isList ⟨s.heap.objs.size,[s.heap.objs.size,a],[s.heap.objs.size],its.toArray.size,_,_,fun i=>ns.getD i 0,rfl,Walks.list (A:=X.A.in1) (I.ok.hd hc) _ _ (QC hlt) its.toArray,
  ⟨⟨_,Qx _ rfl,rfl,rfl⟩,pl.isList.push _⟩,?_,?_,?_,?_⟩)
 ·intro b hb;show b<(s.heap.push _).objs.size;rw[Um];have:b=s.heap.objs.size\/b=a:=by simpa using hb
  rcases this with z | z
  ·rw[z];exact UF _
  ·rw[z];exact Uz hlt
 ·intro i v hv;have e1:its[i]?=some v:=by simpa using hv
  have hi:i<its.length:=(Qp.mp e1).1;have hb:(ns.map V.int)[i]?=some (.int (ns.getD i 0)):=by
   rw[Qg,Qb];cases e:ns[i]? with
   | none=>exact absurd (UK.mp e) (by omega)
   | some b=>rfl
  obtain⟨u',hu,ru⟩:=rv.get hb;rw[e1]at hu;cases hu;exact ru
 ·intro j hj;have hj':j<ns.length:=by rw[hl];simpa using hj
  refine⟨?_,?_⟩
  ·show InLong (ns.getD j 0);rw[Qb,Qa hj'];exact h1 _ (QB hj')
  ·rw[YU];exact h2 _
 ·intro h' tk t' kk;refine⟨.int ns.sum,H,I.kept fun b o e=>kk b o (by simpa using QC (Qu e)) (Qh _ e),⟨t',?_⟩,q⟩;rw[YU,Q0 (by rw[Qw];omega)]
def Zok:V->Option Value
 | .ty n=>some (.type n)
 | .ref a=>some (.ref a)
 | _=>none
theorem ZjF:CallR X (.builtin "isinstance") (fun xs H Q=>∃ (x c:V) (t cv:Value) (b:Bool),xs=[x,c]/\Zfp X.K H x t/\Zok c=some cv/\PySem.W.kitOne X.K t cv=some b/\Q (.bl b) H):=by
 intro pins s σ H xs us Q I r h;obtain⟨x,c,t,cv,b,rfl,ty,rc,e,q⟩:=h;obtain⟨u,w',rfl,ru,rw'⟩:=Zdq r;have ec:w'=cv:=by
  cases c with
  | ty n=>exact(show w'=Value.type n from rw').trans (Option.some.inj rc)
  | ref n=>exact(show w'=Value.ref n from rw').trans (Option.some.inj rc)
  | _=>cases rc
 subst ec;exact ZhT I ru ty e fun tk=>⟨.bl b,H,I.tok _,rfl,q⟩
end
mutual
def RepD (H:Hp):PyData->V->Prop
 | .none,v=>v= .non
 | .bool b,v=>v= .bl b
 | .int i,v=>v= .int i
 | .str x,v=>v= .str x
 | .tuple ds,v=>∃ a xs,v= .ref a/\H a=some (.tup xs)/\RepA H ds xs
 | .list ds,v=>∃ a xs,v= .ref a/\H a=some (.lst xs)/\RepA H ds xs
 | .dict _,_=>False
def RepA (H:Hp):List PyData->List V->Prop
 | [],xs=>xs=[]
 | d::ds,xs=>∃ v vs,xs=v::vs/\RepD H d v/\RepA H ds vs
end
mutual
theorem RepD.same {H H':Hp} (h:Same H H'):∀ (d:PyData) (v:V),RepD H d v->RepD H' d v
 | .none,_,r=>r
 | .bool _,_,r=>r
 | .int _,_,r=>r
 | .str _,_,r=>r
 | .tuple ds,v,r=>by
  rw[RepD]at r ⊢;obtain⟨a,xs,e,e2,q⟩:=r;exact⟨a,xs,e,h _ _ e2,RepA.same h ds xs q⟩
 | .list ds,v,r=>by
  rw[RepD]at r ⊢;obtain⟨a,xs,e,e2,q⟩:=r;exact⟨a,xs,e,h _ _ e2,RepA.same h ds xs q⟩
 | .dict _,v,r=>by
  rw[RepD]at r;exact r.elim
theorem RepA.same {H H':Hp} (h:Same H H'):∀ (ds:List PyData) (vs:List V),RepA H ds vs->RepA H' ds vs
 | [],_,r=>r
 | d::ds,vs,r=>by
  rw[RepA]at r ⊢;obtain⟨v,us,e,q1,q2⟩:=r;exact⟨v,us,e,RepD.same h d v q1,RepA.same h ds us q2⟩
end
section
variable {X:Cx} {pins:List (Addr×Obj)} {σ:St} {H:Hp} {s:Shared}
mutual
theorem RepD.reads (I:Inv X pins σ H s):∀ (d:PyData) (v:V) (u:Value),RepD H d v->RelV v u->∃ as,Reads s.heap u d as
 | .none,v,u,r,q=>by
  rw[RepD]at r;subst r;cases q;exact⟨_,.none⟩
 | .bool b,v,u,r,q=>by
  rw[RepD]at r;subst r;cases q;exact⟨_,.bool b⟩
 | .int i,v,u,r,q=>by
  rw[RepD]at r;subst r;obtain⟨t,rfl⟩:=q;exact⟨_,.int i t⟩
 | .str x,v,u,r,q=>by
  rw[RepD]at r;subst r;obtain⟨t,rfl⟩:=q;exact⟨_,.str x t⟩
 | .tuple ds,v,u,r,q=>by
  rw[RepD]at r;obtain⟨a,xs,e,e2,q2⟩:=r;subst e;cases q;obtain⟨its,rv,⟨o,h1,h2,n,h3⟩,_⟩:=I.tuple (SqT.of e2);obtain⟨as,q3⟩:=RepA.reads I ds xs its q2 rv;exact⟨_,.tuple h1 h2 h3 (by simpa using q3)⟩
 | .list ds,v,u,r,q=>by
  rw[RepD]at r;obtain⟨a,xs,e,e2,q2⟩:=r;subst e;cases q;obtain⟨its,rv,⟨o,n,h1,h2,_,h3⟩,_⟩:=I.list (SqL.of e2);obtain⟨as,q3⟩:=RepA.reads I ds xs its q2 rv;exact⟨_,.list h1 h2 h3 (by simpa using q3)⟩
 | .dict _,v,u,r,q=>by
  rw[RepD]at r;exact r.elim
theorem RepA.reads (I:Inv X pins σ H s):∀ (ds:List PyData) (vs:List V) (us:List Value),RepA H ds vs->Vals vs us->∃ as,ReadsAll s.heap us ds as
 | [],vs,us,r,q=>by
  rw[RepA]at r;subst r;cases q;exact⟨_,.nil⟩
 | d::ds,vs,us,r,q=>by
  rw[RepA]at r;obtain⟨v,vs',e,q1,q2⟩:=r;subst e;cases q with
  | cons p1 p2 =>
   obtain⟨as,r1⟩:=RepD.reads I d v _ q1 p1;obtain⟨bs,r2⟩:=RepA.reads I ds vs' _ q2 p2;exact⟨_,.cons r1 r2⟩
end
end
section
variable {X:Cx}
theorem Zhl (hu:X.A.units+64<cLine):OpR X (compareOp .Eq) (fun x y H Q=>∃ da db,RepD H da x/\RepD H db y/\SeqAt.shaped da=true/\SeqAt.shaped db=true/\Q (.bl (PyData.eqv da db)) H):=by
 intro pins s σ H x y v u Q I rx ry h;obtain⟨da,db,r1,r2,s1,s2,q⟩:=h;obtain⟨as,q1⟩:=RepD.reads I da x v r1 rx;obtain⟨bs,q2⟩:=RepD.reads I db y u r2 ry;exact eq_dataH q1 q2 s1 s2 hu ⟨.bl _,H,I,rfl,q⟩
end
structure HasDef (K:PySem.W.Frag) (mg:Str->Option Value) (name:Str) (st:Stmt) (ps:List Str):Prop where
 ex:∃ f fd,Fun K name name st f fd/\Binds K fd ps []/\mg name=some (.ref f)
structure FOk (P:Program) (w:World) (K:PySem.W.Frag) (mg:Str->Option Value) (base:Heap) (k:Nat) (name:Str) (ps:List Str) (sp:Sp):Prop where
 ex:∃ f fd,FnOk P w K mg base CX0 k f fd ps sp/\Binds K fd ps []/\mg name=some (.ref f)/\PySem.W.keepIn K (.ref f)=true
section
variable {P:Program} {w:World} {K:PySem.W.Frag} {mg:Str->Option Value} {base:Heap}
theorem HasDef.ok (D:HasDef K mg name st ps) (S:Zp N ps (Zg st)) (len:∀ vs H Q E,sp vs H Q E->vs.length=ps.length)
  (hbody:∀ (f:Addr) (cdv:Value) (A:Around) (outer:List Env) (s:Shared) (H:Hp) (vs:List V) (Q:VK) (E:XK),Room k (A.deeper (envOfC name (Zg st) s.heap.objs.size f cdv))->sp vs H Q E ->
   ∃ t,PSs (Zig CX0 P w K mg base N name (Zg st) f cdv A outer s H E).nox (Yw st) t/\t {nx:=fun _ H'=>Q .non H',rt:=Q} (start N vs) H):FOk P w K mg base (k+1) name ps sp:=by
 obtain⟨f,fd,F,b,m⟩:=D.ex;exact⟨f,fd,F.ok S len fun cdv A outer s H vs Q E=>hbody f cdv A outer s H vs Q E,b,m,F.kp⟩
theorem FOk.mono {j:Nat} (G:FOk P w K mg base j name ps sp) (h:j<=k):FOk P w K mg base k name ps sp:=by
 obtain⟨f,fd,F,r⟩:=G.ex;exact⟨f,fd,F.mono h,r⟩
end
theorem Zv {p:Pos} {e:Expr} {es:List Expr} {t:TA} (G:FOk X.prog X.w X.K X.mg X.base k name ps sp) (hr:Room k X.A) (ha:PA X (e::es) t) (hg:Gl X name:=by rfl)
  (hdb:(name==("__debug__" : Str))=false:=by decide) (he:starEach (e::es) X.env=(false,eval e X.env)::starEach es X.env:=by rfl) (hpl:(backTo pos (starEach es X.env)).any (·.1)=false:=by rfl) :
  PE X (.Call (.Name name p) (e::es) [] pos) (ZiJ sp [] E0 t):=by
 obtain⟨f,fd,F,b,m,kp⟩:=G.ex;exact ZdP F hr hg m kp b .nil ZnE ha hdb he hpl
inductive TyB (H:Hp):V->String->Prop where
 | non:TyB H .non "NoneType"
 | bl (b:Bool):TyB H (.bl b) "bool"
 | int (i:Int):TyB H (.int i) "int"
 | str (x:Str):TyB H (.str x) "str"
 | lst {a:Addr} {xs:List V} (e:H a=some (.lst xs)):TyB H (.ref a) "list"
 | tup {a:Addr} {xs:List V} (e:H a=some (.tup xs)):TyB H (.ref a) "tuple"
 | dK {a:Addr} {kvs:List (Key×V)} (e:H a=some (.dK kvs)):TyB H (.ref a) "dict"
theorem TyB.of {K:PySem.W.Frag} {x:V} {n:String} (h:TyB H x n):Zfp K H x (.type n):=by
 cases h with
 | non=>exact .non
 | bl b=>exact .bl b
 | int i=>exact .int i
 | str x=>exact .str x
 | lst e=>exact .lst e
 | tup e=>exact .tup e
 | dK e=>exact .dK e
def Zdr:List String:=["NoneType","bool","int","str","list","tuple","dict"]
theorem TyB.mem {x:V} {n:String} (h:TyB H x n):n∈Zdr:=by
 cases h <;> simp[Zdr]
def Zog (n c:String):Bool:=n==c || (n == "bool" && c == "int")
def Zij:List String:=["int","bool","str","tuple","list"]
def ZoD (a b:String):Option Bool:=if (Value.type a==Value.type b)=true then some true else if PySem.W.kitMeta b=true then (fastBuiltinMro a).map (·.contains (Value.type b))else none
theorem Zli:∀ n∈Zdr,∀ c∈Zij,ZoD n c=some (Zog n c):=by decide +kernel
theorem Jb:CallR X (.builtin "isinstance") (fun xs H Q=>∃ (x:V) (c n:String),xs=[x,.ty c]/\c∈Zij/\TyB H x n/\Q (.bl (Zog n c)) H):=by
 intro pins s σ H xs us Q I r h;obtain⟨x,c,n,rfl,hc,ty,q⟩:=h;exact ZjF pins s σ H _ us Q I r ⟨x,.ty c,_,_,_,rfl,ty.of,rfl,Zli n ty.mem c hc,q⟩
theorem Zdg:bootBuiltins "isinstance" = some (.builtin "isinstance"):=by decide +kernel
theorem ZX:bootBuiltins "len" = some (.builtin "len"):=by decide +kernel
theorem Zm5:bootBuiltins "sum" = some (.builtin "sum"):=by decide +kernel
theorem Zm8:bootBuiltins "min" = some (.builtin "min"):=by decide +kernel
theorem ZnY:bootBuiltins "max" = some (.builtin "max"):=by decide +kernel
theorem YJ:bootBuiltins "sorted" = some (.builtin "sorted"):=by decide +kernel
theorem Zm6:bootBuiltins "str" = some (.type "str"):=by decide +kernel
theorem Yo:bootBuiltins "tuple" = some (.type "tuple"):=by decide +kernel
theorem Zks:bootBuiltins "list" = some (.type "list"):=by decide +kernel
theorem Zit:bootBuiltins "dict" = some (.type "dict"):=by decide +kernel
theorem Zhc {c:String} (hg:Gl X x) (hm:X.mg x=none) (hv:bootBuiltins x=some (.type c)) (hn:x≠"__name__":=by decide) (hd:(x==("__debug__" : Str))=false:=by decide):PE X (.Name x pos) (tC (.ty c)) :=
 ZkZ hg hm hv (show RelV (.ty c) (.type c)from rfl) hn hd
theorem Z6 {X:Cx} {xs:List Str} {scope:Scope} {cl:List (Str×Addr)} {C:Addr} {s₀:Shared} {H₀:Hp} {fp:List Addr} (i:Nat) {pos:Pos} (nd:(lcN N xs mp).Nodup:=by decide +kernel) (hi:(lcN N xs mp)[i]?=some x:=by rfl)
  (hx:(lcx X (lcN N xs mp) scope cl C s₀ H₀ fp).env.scope.names.lookup x=some .local:=by rfl):PG (lcx X (lcN N xs mp) scope cl C s₀ H₀ fp) (.Name x pos) (XL i):=ZI nd hi (.inl hx) (.inr hx)
def tx (l:List Nat):Str:=⟨l.toArray⟩
theorem Zs (l:List Nat):(tx l).cps.toList=l:=by simp[tx]
theorem Zn (l:List Nat):(tx l).length=l.length:=by simp[tx,Str.length]
theorem tx_eta (x:Str):tx x.cps.toList=x:=by simp[tx]
theorem Zeq {a b:List Nat} (h:tx a=tx b):a=b:=by
 have:=congrArg (fun x:Str=>x.cps.toList) h;simpa[tx]using this
theorem ZiD {vs:List V} {f:Nat->V} (hl:vs.length=n) (hr:∀ i v,vs[i]?=some v->v=f i):vs=(Qq n).map f:=by
 apply QU;intro i;rw[Qg];by_cases h:i<n
 ·rw[QT h,Wd,Qa (by omega)];exact congrArg some (hr i _ (Qa (by omega)))
 ·rw[Qo (by omega),Qo (by simpa using h)];rfl
theorem ZbU (K:PySem.W.Frag) (h:X.K=K:=by rfl):IxR X (ZnB K):=by subst h;exact ix_tup
theorem Y0 (K:PySem.W.Frag) (h:X.K=K:=by rfl):IxR X (Zmc K):=by subst h;exact ix_list
theorem Zda (K:PySem.W.Frag) (h:X.K=K:=by rfl):CallR X (.builtin "len") (fun xs H Q=>∃ x n,xs=[x]/\ZlC K x H n/\Q (.int n) H):=by subst h;exact Zr
theorem YA (h:n<=16777216):n<=sizeLine:=by rw[sizeLine_eq];exact h
open PySem PySem.Spec PyProof.Rows PySem.Builtin.Str
section
variable {X:Cx}
theorem Yc {es:List Expr} {t:TGs} (n:Nat) (K:PySem.W.Frag) (hc:X.calm=true) (h:PGs X es t) (hK:X.K=K:=by rfl)
  (hn:(assignEach es X.env).length=n:=by rfl) (hst:(assignEach es X.env).findIdx? (·.1)=none:=by rfl):PG X (.Tuple es k pos) (ZnP K n t):=by
 subst hK;exact Zmf hc h hn hst
end
theorem ZL (x:Str):x.cps.toList.length=x.length:=by simp[Str.length]
theorem ZaK {n:Int} (h:0<=n):(Txt.slice x none (some n)).cps.toList=x.cps.toList.take n.toNat:=by
 by_cases c:n<=x.length
 ·have e:=eq_of_beq (slice_closes_toL (x:=x) h c);rw[e];simp
 ·have e1:=slice_to_beyond (x:=x) (j:=n) (by omega);have e2:=eq_of_beq (slice_closes_toL (x:=x) (j:=x.length) (by omega) (UQ _));rw[e1,e2,Q0 (l:=x.cps.toList) (i:=n.toNat) (by rw[ZL];omega)];simp[Str.length];exact Q0 (by simp)
theorem J1 {i j:Int} (h0:0<=i) (h1:i<=j) (h2:j<=x.length):(Txt.slice x (some i) (some j)).cps.toList=(x.cps.toList.drop i.toNat).take (j-i).toNat:=by
 have e:=eq_of_beq (slice_closesL (x:=x) h0 h1 h2);rw[e]
theorem ZcU:∀ (l:List (Array Nat)) (a:Array Nat),(l.foldl (· ++ ·) a).toList=a.toList++(l.map RH).flatten
 | [],a=>by simp
 | b::l,a=>by
  rw[R1,ZcU l];simp
theorem ZcK {n:Int} (h:1<=n) (hx:x.length≠0):(Txt.mul x n).cps.toList=(QJ n.toNat x.cps.toList).flatten:=by
 unfold Txt.mul;rw[if_neg (by omega)];split
 ·rename_i c;simp only[R3,beq_iff_eq]at c;rcases c with c | c
  ·subst c;simp
  ·exact absurd c hx
 ·rw[ZcU];simp
theorem mulOk_of {n:Int} (h1:1<=n) (h2:n<=1000) (h3:x.length<=1000):MulOk x n:=by
 refine⟨?_,?_,?_⟩
 ·have a:¬ n < -(2 ^ 63):=by omega
  have b:¬ n≥2 ^ 63:=by omega
  rw[decide_eq_false a,decide_eq_false b];rfl
 ·intro _ _ q;have:(1000:Int)<=(2 ^ 63-1) / n:=by
   rw[Int.le_ediv_iff_mul_le (by omega)];omega
  omega
 ·intro _ _;have:x.length*n.toNat<=1000*1000:=Nat.mul_le_mul h3 (by omega);unfold tooLong;have hs:sizeLine=16777216:=sizeLine_eq;exact decide_eq_false (by omega)
theorem Zd7 {ns:List Int} {i:Int} (h0:0<=i) (h1:i<ns.length):atI (ns.map V.int) i=some (.int (ns.getD i.toNat 0)):=by
 obtain⟨j,rfl⟩:=Rm h0;refine Zb1 ?_;have hj:j<ns.length:=by omega
 rw[Qg,Qa hj,Wl,Qb,Qa hj];rfl
theorem ZS {α:Type} {l:List α} {i:Int} {c:α} (h0:0<=i) (h:l[i.toNat]?=some c):atI l i=some c:=by
 obtain⟨j,rfl⟩:=Rm h0;exact Zb1 h
def Zow (t u:TS):TS:=fun D σ H=>∃ W:St->Hp->Prop,t {D with nx:=W} σ H/\∀ σ' H',W σ' H'->u D σ' H'
theorem Zg5 {rest:List Stmt} {t u:TS} (h1:PS X st t) (h2:PSs X rest u):PSs X (st::rest) (Zow t u):=by
 intro pins s σ H D I h;obtain⟨W,hW,k⟩:=h;refine wpAny_execs_cons (thn (h1 pins s σ H {D with nx:=W} I hW) fun f s1 q=>?_);cases f with
 | next =>
  obtain⟨σ',H',I',q⟩:=q;exact h2 pins s1 σ' H' D I' (k σ' H' q)
 | ret v=>exact q
 | brk=>exact q
 | cont=>exact q
end L2
namespace Srt
open PySem PySem.W PyProof.Rows
section
variable {n:Nat} {lt:Nat->Nat->Bool} {cmp:Nat->Nat->(Bool->Shared->Prop)->Shared->Prop} {G:Shared->Prop}
structure Ord (n:Nat) (lt:Nat->Nat->Bool):Prop where
 tr:∀ i j k,lt i j=true->lt j k=true->lt i k=true
 asy:∀ i j,lt i j=true->lt j i=false
 tot:∀ i j,i<n->j<n->i≠j->lt i j=true\/lt j i=true
structure Pm (n:Nat) (p:Array Nat):Prop where
 size:p.size=n
 perm:p.Perm (Qq n).toArray
theorem Pm.below (h:Pm n p) {a:Nat} (ha:a<n):p.getD a 0<n:=by
 have hs:a<p.size:=by rw[h.size];exact ha
 have hm:p[a]∈p:=Array.getElem_mem hs;have:p[a]∈(Qq n).toArray:=h.perm.mem_iff.mp hm;rw[Wa,Q6 hs];simpa using this
theorem Pm.ne (h:Pm n p) {a b:Nat} (ha:a<n) (hb:b<n) (hab:a≠b):p.getD a 0≠p.getD b 0:=by
 have hs:a<p.size:=by rw[h.size];exact ha
 have hs2:b<p.size:=by rw[h.size];exact hb
 have nd:p.toList.Nodup:=by
  have:=(UH.mp h.perm)
  exact this.nodup_iff.mpr (by simpa using WT)
 rw[Wa,Q6 hs,Wa,Q6 hs2];intro e;have:=(Ua (h₀:=by simpa using hs) (h₁:=by simpa using hs2) nd).mp (by simpa using e);exact hab this
def Up (lt:Nat->Nat->Bool) (p:Array Nat) (m:Nat):Prop:=∀ a b,a<b->b<m->lt (p.getD a 0) (p.getD b 0)=true
def Dn (lt:Nat->Nat->Bool) (p:Array Nat) (m:Nat):Prop:=∀ a b,a<b->b<m->lt (p.getD b 0) (p.getD a 0)=true
theorem Up.more (o:Ord n lt) {p:Array Nat} {m:Nat} (h:Up lt p m) (h1:1<=m) (hl:lt (p.getD (m-1) 0) (p.getD m 0)=true):Up lt p (m+1):=fun a b hab hb=>by
 by_cases e:b=m
 ·subst e;by_cases e2:a=b-1
  ·rw[e2];exact hl
  ·exact o.tr _ _ _ (h a (b-1) (by omega) (by omega)) hl
 ·exact h a b hab (by omega)
theorem Dn.more (o:Ord n lt) {p:Array Nat} {m:Nat} (h:Dn lt p m) (h1:1<=m) (hl:lt (p.getD m 0) (p.getD (m-1) 0)=true):Dn lt p (m+1):=fun a b hab hb=>by
 by_cases e:b=m
 ·subst e;by_cases e2:a=b-1
  ·rw[e2];exact hl
  ·exact o.tr _ _ _ hl (h a (b-1) (by omega) (by omega))
 ·exact h a b hab (by omega)
theorem other (o:Ord n lt) {p:Array Nat} (hp:Pm n p) {a b:Nat} (ha:a<n) (hb:b<n) (hab:a≠b) (h:¬ lt (p.getD a 0) (p.getD b 0)=true):lt (p.getD b 0) (p.getD a 0)=true:=by
 rcases o.tot _ _ (hp.below ha) (hp.below hb) (hp.ne ha hb hab)with z | z
 ·exact absurd z h
 ·exact z
variable (o:Ord n lt) (hc:∀ i j C s,i<n->j<n->i≠j->G s->(∀ s',G s'->C (lt i j) s')->cmp i j C s)
include o hc
theorem asc {p:Array Nat} (hp:Pm n p) {Q:Nat->Shared->Prop}:∀ (f m:Nat) (s:Shared),1<=m->m+f<=n->Up lt p m->G s ->
  (∀ k s',m<=k->k<=m+f->Up lt p k->(k=m+f\/lt (p.getD k 0) (p.getD (k-1) 0)=true)->G s'->Q k s')->(kas_asc p f m).kasWp cmp Q s
 | 0,m,s,h1,h2,hu,g,k=>k m s (Qk _) (Qk _) hu (.inl rfl) g
 | f+1,m,s,h1,h2,hu,g,k=>by
  refine hc _ _ _ s (hp.below (by omega)) (hp.below (by omega)) (hp.ne (by omega) (by omega) (by omega)) g fun s' g'=>?_;by_cases c:lt (p.getD m 0) (p.getD (m-1) 0)=true
  ·dsimp only;rw[if_pos c];exact k m s' (Qk _) (by omega) hu (.inr c) g'
  ·dsimp only;rw[if_neg c];have c':=other o hp (by omega) (by omega) (by omega) c;exact asc hp f (m+1) s' (by omega) (by omega) (hu.more o h1 c') g' fun j s'' a1 a2 a3 a4 a5=>k j s'' (by omega) (by omega) a3 (by rcases a4 with z | z;exact .inl (by omega);exact .inr z) a5
theorem Zoj {p:Array Nat} (hp:Pm n p) {Q:Array Nat×Nat×Nat->Shared->Prop}:∀ (f m:Nat) (s:Shared),1<=m->m+f<=n->Dn lt p m->G s ->
  (∀ k s',m<=k->k<=m+f->Dn lt p k->G s'->Q (p,k,0) s')->(kas_desc f p m 0).kasWp cmp Q s
 | 0,m,s,h1,h2,hu,g,k=>k m s (Qk _) (Qk _) hu g
 | f+1,m,s,h1,h2,hu,g,k=>by
  refine hc _ _ _ s (hp.below (by omega)) (hp.below (by omega)) (hp.ne (by omega) (by omega) (by omega)) g fun s' g'=>?_;by_cases c:lt (p.getD m 0) (p.getD (m-1) 0)=true
  ·dsimp only;rw[if_pos c,if_neg (by omega)];exact Zoj hp f (m+1) s' (by omega) (by omega) (hu.more o h1 c) g' fun j s'' a1 a2 a3 a4=>k j s'' (by omega) (by omega) a3 a4
  ·dsimp only;rw[if_neg c];have c':=other o hp (by omega) (by omega) (by omega) c;refine hc _ _ _ s' (hp.below (by omega)) (hp.below (by omega)) (hp.ne (by omega) (by omega) (by omega)) g' fun s'' g''=>?_;dsimp only;rw[if_pos c'];exact k m s'' (Qk _) (by omega) hu g''
omit o hc in
theorem Zj4 {p:Array Nat} {m k:Nat} (hm:m<=p.size) (hk:k<m):(kas_rev p 0 m).getD k 0=p.getD (m-1-k) 0:=by
 unfold kas_rev;rw[Wa,getElem?_mirror_all hm,if_pos (by omega),Wa];congr 2;omega
omit o hc in
theorem Zj3 {p:Array Nat} (hp:Pm n p) (m:Nat):Pm n (kas_rev p 0 m):=⟨by unfold kas_rev;rw[mirror_size,hp.size],(mirror_perm _ _ _ _).trans hp.perm⟩
theorem Znh {p:Array Nat} (hp:Pm n p) {Q:Nat×Array Nat->Shared->Prop} {m:Nat} {s:Shared} (h1:1<=m) (h2:m<=n) (hd:Dn lt p m) (g:G s)
  (k:∀ j p' s',1<=j->j<=n->Pm n p'->Up lt p' j->G s'->Q (j,p') s'):(kas_tail3 m n p).kasWp cmp Q s:=by
 unfold kas_tail3;rw[KasT.kasWp_bind];have hu:Up lt (kas_rev p 0 m) m:=fun a b hab hb=>by
  rw[Zj4 (by rw[hp.size];exact h2) (by omega),Zj4 (by rw[hp.size];exact h2) hb];exact hd _ _ (by omega) (by omega)
 exact asc o hc (Zj3 hp m) _ m s h1 (by omega) hu g fun j s' a1 a2 a3 _ a5=>k j _ s' (by omega) (by omega) (Zj3 hp m) a3 a5
theorem count {p:Array Nat} (hp:Pm n p) {Q:Nat×Array Nat->Shared->Prop} {s:Shared} (h1:1<=n) (g:G s)
  (k:∀ j p' s',1<=j->j<=n->Pm n p'->Up lt p' j->G s'->Q (j,p') s'):(kas_count n p).kasWp cmp Q s:=by
 unfold kas_count;rw[KasT.kasWp_bind];refine asc o hc hp (n-1) 1 s (Qk _) (by omega) (fun a b _ _=>by omega) g fun m s' a1 a2 a3 a4 a5=>?_;by_cases e:m=n
 ·rw[if_pos (by simp[e])];exact k m p s' a1 (by omega) hp a3 a5
 ·rw[if_neg (by simp[e])];by_cases e1:m>1
  ·rw[if_pos e1];refine hc _ _ _ s' (hp.below (by omega)) (hp.below (by omega)) (hp.ne (by omega) (by omega) (by omega)) a5 fun s'' g''=>?_;dsimp only;rw[if_pos (a3 0 (m-1) (by omega) (by omega))];exact k m p s'' a1 (by omega) hp a3 g''
  ·rw[if_neg e1];have em:m=1:=by omega
   subst em;have hl:lt (p.getD 1 0) (p.getD 0 0)=true:=by
    rcases a4 with z | z
    ·omega
    ·exact z
   unfold kas_descPart;rw[KasT.kasWp_bind];refine Zoj o hc hp (n-2) 2 s' (by omega) (by omega) (fun a b hab hb=>?_) a5 fun j s'' b1 b2 b3 b4=>?_
   ·have ea:a=0:=by omega
    have eb:b=1:=by omega
    rw[ea,eb];exact hl
   ·rw[if_neg (show ¬ ((p,j,0):Array Nat×Nat×Nat).2.2>0 from by simp)];exact Znh o hc hp (by show 1<=j;omega) (by show j<=n;omega) b3 b4 k
theorem place {p:Array Nat} (hp:Pm n p) {k:Nat} (hk:k<n) {Q:Nat->Shared->Prop}:∀ (f l r:Nat) (s:Shared),l<=r->r<=k->r-l<=f->G s ->
  (∀ a,a<l->lt (p.getD a 0) (p.getD k 0)=true)->(∀ a,r<=a->a<k->lt (p.getD k 0) (p.getD a 0)=true)->Up lt p k ->
  (∀ l s',l<=k->(∀ a,a<l->lt (p.getD a 0) (p.getD k 0)=true)->(∀ a,l<=a->a<k->lt (p.getD k 0) (p.getD a 0)=true)->G s'->Q l s')->(kas_place p k f l r).kasWp cmp Q s
 | 0,l,r,s,h1,h2,h3,g,b1,b2,hu,q=>q l s (by omega) b1 (fun a h=>b2 a (by omega)) g
 | f+1,l,r,s,h1,h2,h3,g,b1,b2,hu,q=>by
  unfold kas_place;by_cases e:l≥r
  ·rw[if_pos e];exact q l s (by omega) b1 (fun a h=>b2 a (by omega)) g
  ·rw[if_neg e];refine hc _ _ _ s (hp.below (by omega)) (hp.below (by omega)) (hp.ne (by omega) (by omega) (by omega)) g fun s' g'=>?_;by_cases c:lt (p.getD k 0) (p.getD ((l+r) / 2) 0)=true
   ·dsimp only;rw[if_pos c];refine place hp hk f l ((l+r) / 2) s' (by omega) (by omega) (by omega) g' b1 (fun a h1 h2=>?_) hu q;by_cases ea:a=(l+r) / 2
    ·rw[ea];exact c
    ·exact o.tr _ _ _ c (hu _ _ (by omega) h2)
   ·dsimp only;rw[if_neg c];have c':=other o hp (by omega) (by omega) (by omega) c;refine place hp hk f ((l+r) / 2+1) r s' (by omega) (by omega) (by omega) g' (fun a h1=>?_) b2 hu q;by_cases ea:a=(l+r) / 2
    ·rw[ea];exact c'
    ·exact o.tr _ _ _ (hu _ _ (by omega) (by omega)) c'
theorem bin {Q:Array Nat->Shared->Prop} (hQ:∀ p s',Pm n p->Up lt p n->G s'->Q p s'):∀ (f:Nat) (p:Array Nat) (k:Nat) (s:Shared),k+f=n->Pm n p->Up lt p k->G s->(kas_bin f p k).kasWp cmp Q s
 | 0,p,k,s,h,hp,hu,g=>hQ p s hp ((show k=n from h)▸hu) g
 | f+1,p,k,s,h,hp,hu,g=>by
  unfold kas_bin;rw[KasT.kasWp_bind];refine place o hc hp (by omega) k 0 k s (QV _) (Qk _) (by omega) g (fun a h=>by omega) (fun a h1 h2=>by omega) hu fun l s' hl b1 b2 g'=>?_;have hs:k<p.size:=by rw[hp.size];omega
  have at':∀ j,(bubble p k (k-l)).getD j 0=if j=l then p.getD k 0 else if l<j/\j<=k then p.getD (j-1) 0 else p.getD j 0:=fun j=>by
   simp only[Wa];rw[getElem?_bubble hs (k-l) (by omega) j,show k-(k-l)=l by omega];by_cases q1:j=l
   ·rw[if_pos q1,if_pos q1]
   ·rw[if_neg q1,if_neg q1];by_cases q2:l<j/\j<=k
    ·rw[if_pos q2,if_pos q2]
    ·rw[if_neg q2,if_neg q2]
  refine bin hQ f _ (k+1) s' (by omega) ⟨by rw[bubble_size,hp.size],(bubble_perm _ _ _).trans hp.perm⟩ (fun a b hab hb=>?_) g';rw[at',at'];by_cases e1:a=l
  ·rw[if_pos e1,if_neg (by omega),if_pos (by omega)];exact b2 _ (by omega) (by omega)
  ·rw[if_neg e1];by_cases e2:l<a/\a<=k
   ·rw[if_pos e2,if_neg (by omega),if_pos (by omega)];exact hu _ _ (by omega) (by omega)
   ·rw[if_neg e2];by_cases e3:b=l
    ·rw[if_pos e3];exact b1 _ (by omega)
    ·rw[if_neg e3];by_cases e4:l<b/\b<=k
     ·rw[if_pos e4];by_cases e5:a=b-1
      ·exact absurd e5 (by omega)
      ·exact hu _ _ (by omega) (by omega)
     ·rw[if_neg e4];exact hu _ _ hab (by omega)
theorem sort {Q:Array Nat->Shared->Prop} {s:Shared} (h1:1<=n) (g:G s) (hQ:∀ p s',Pm n p->Up lt p n->G s'->Q p s'):(kas_sort n).kasWp cmp Q s:=by
 unfold kas_sort;rw[KasT.kasWp_bind];refine count o hc ⟨by simp,Array.Perm.refl _⟩ h1 g fun j p' s' a1 a2 a3 a4 a5=>?_;by_cases e:j<n
 ·dsimp only;rw[if_pos e,Nat.max_eq_left a1];exact bin o hc hQ _ p' j s' (by omega) a3 a4 a5
 ·dsimp only;rw[if_neg e];exact hQ p' s' a3 ((show j=n by omega)▸a4) a5
end
end Srt
namespace L2
open PySem PySem.Spec PyProof.Rows PySem.W
variable {C a ea:Addr} {H:Hp} {X:Cx} {bm:List Value} {e:Expr} {h:Heap} {k:Nat} {name x:Str} {oe:Obj} {pos:Pos} {ps:List Str} {sp:Sp} {st:Stmt}
def Zn2 (h:Heap) (v:Value) (x:Str):Prop:=∃ a t y,v= .ref a/\h.get? a=some {cls:=.type "tuple",data:=.seq #[.str x t,y]}
def ltX (xs:List Str) (i j:Nat):Bool:=decide ((xs.getD i "").cps.toList<(xs.getD j "").cps.toList)
theorem Y5 {xs:List Str} {i:Nat} (h:i<xs.length):xs.getD i "" = xs[i]:=by
 rw[Qb,Qa h];rfl
theorem ZbN {xs:List Str} (nd:xs.Nodup):Srt.Ord xs.length (ltX xs) where
 tr:=fun i j k h1 h2=>by
  unfold ltX at *;rw[decide_eq_true_eq]at *;exact UT h1 h2
 asy:=fun i j h1=>by
  unfold ltX at *;rw[decide_eq_true_eq]at h1;exact decide_eq_false (List.lt_asymm h1)
 tot:=fun i j hi hj hij=>by
  unfold ltX;rw[Y5 hi,Y5 hj,decide_eq_true_eq,decide_eq_true_eq];by_cases q:xs[i].cps.toList<xs[j].cps.toList
  ·exact .inl q
  ·by_cases q2:xs[j].cps.toList<xs[i].cps.toList
   ·exact .inr q2
   ·have e:=Rh (Ul.mp q2) (Ul.mp q);have e2:xs[i]=xs[j]:=by rw[←tx_eta xs[i],←tx_eta xs[j],e]
    exact absurd ((Ua nd).mp e2) hij
theorem Za2 {h:Heap}:∀ {vs:List Value} {xs:List Str},xs.length=vs.length->(∀ (i:Nat) (v:Value) (x:Str),vs[i]?=some v->xs[i]?=some x->Zn2 h v x)->∃ fs,KatTups h vs fs/\fs.length=vs.length/\∀ f∈fs,∃ x t,f= .str x t
 | [],[],_,_=>⟨[],trivial,rfl,fun f hf=>nomatch hf⟩
 | [],_::_,h,_=>by cases h
 | _::_,[],h,_=>by cases h
 | v::vs,x::xs,hl,hv=>by
  obtain⟨a,t,y,rfl,ha⟩:=hv 0 v x rfl rfl;obtain⟨fs,k,l,q⟩:=Za2 (vs:=vs) (xs:=xs) (by simpa using hl) fun i v x e1 e2=>hv (i+1) v x e1 e2;refine⟨.str x t::fs,KatTups.cons ha rfl rfl rfl k,by simp[l],fun f hf=>?_⟩;rcases Qy.mp hf with z | z
  ·exact⟨x,t,z⟩
  ·exact q f z
section
variable {prog:Program} {w:World} {A:Around} {E:Value->Shared->Prop} {s:Shared}
theorem ZfH {vs:List Value} {xs:List Str} {n:Nat} {P:PySem.Fin->Shared->Prop} (ho:s.heap.get? a=some (seqObj "list" vs.toArray n)) (h64:vs.length<64) (hl:xs.length=vs.length) (nd:xs.Nodup)
  (hv:∀ (i:Nat) (v:Value) (x:Str),vs[i]?=some v->xs[i]?=some x->Zn2 s.heap v x)
  (h:∀ (h1:Heap) (tk c:Nat) (p:Array Nat),Srt.Pm xs.length p->Srt.Up (ltX xs) p xs.length->(∀ b o,b≠a->s.heap.get? b=some o->h1.get? b=some o) ->
   h1.get? a=some (seqObj "list" (p.toList.map fun i=>vs.getD i Value.none).toArray c)->P (.done (.ret .none)) {s with heap:=h1,toks:=tk}) :
  wpAny (model prog w) A (Builtin.«list.sort» ⟨[.ref a],[]⟩) P E s:=by
 have ha:a<s.heap.objs.size:=Qu ho;have hz:vs.length<=sizeLine:=by rw[sizeLine_eq];omega
 rw[list_sort_plain];refine wpAny_bind (listItems_at ho rfl (wpAny_bind (listUpdate_at ho rfl ?_ (by rw[Qw];exact hz) (QV _))));obtain⟨e1,ho1⟩:∃ e1,(s.heap.update a (Obj.mapSeq fun _=>(#[]:Array Value))).get? a=some (seqObj "list" #[] e1):=⟨_,get?_update_seq ho fun _=>#[]⟩
 have k1:∀ b o,b≠a->s.heap.get? b=some o->(s.heap.update a (Obj.mapSeq fun _=>(#[]:Array Value))).get? b=some o:=fun b o hb q=>(QZ _ _ (Ne.symm hb)).trans q;refine wpAny_bind (seqEpoch_at ho1 rfl (wpAny_bind (wpAny_newTuple ?_ (by show vs.length<=_;exact hz))));refine wpAny_bind (wpAny_newList ?_ (QV _));refine wpAny_holding ?_;generalize hg:((s.heap.update a (Obj.mapSeq fun _=>(#[]:Array Value))).push {cls:=.type "tuple",data:=.seq vs.toArray.toList.toArray}).push {cls:=.type "list",data:=.seq ([]:List Value).toArray}=h6;have k6:∀ b o,b≠a->s.heap.get? b=some o->h6.get? b=some o:=fun b o hb q=>by
  rw[←hg];exact Qh _ (Qh _ (k1 b o hb q))
 have ho6:h6.get? a=some (seqObj "list" #[] e1):=by
  rw[←hg];exact Qh _ (Qh _ ho1)
 have hv6:∀ (i:Nat) (v:Value) (x:Str),vs[i]?=some v->xs[i]?=some x->Zn2 h6 v x:=fun i v x q1 q2=>by
  obtain⟨b,t,y,rfl,hb⟩:=hv i v x q1 q2;exact⟨b,t,y,rfl,k6 b _ (fun z=>by rw[z,ho]at hb;injection hb with hb;exact absurd (congrArg Obj.cls hb) (by unfold seqObj;simp)) hb⟩
 show wpAny (model prog w) A _ P E {s with heap:=h6};dsimp only
 -- the end: the items are put back
 have fin:∀ (tk:Nat) (p:Array Nat) (out:Array Value),Srt.Pm xs.length p->Srt.Up (ltX xs) p xs.length->out=(p.toList.map fun i=>vs.getD i Value.none).toArray ->
   ∃ c,(h6.update a (Obj.mapSeq fun _=>out)).get? a=some (seqObj "list" out c)/\out.size<=sizeLine/\P (.done (.ret .none)) {s with heap:=h6.update a (Obj.mapSeq fun _=>out),toks:=tk}:=fun tk p out hp hu ho'=>by
  have hc:=get?_update_seq ho6 fun _=>out;refine⟨_,hc,?_,h _ tk _ p hp hu (fun b o hb q=>(QZ _ _ (Ne.symm hb)).trans (k6 b o hb q)) (by rw[←ho'];exact hc)⟩;rw[ho',Qw,Qc,QK,hp.size,hl];exact hz
 by_cases h2:vs.toArray.size<2
 ·rw[if_pos h2,if_pos h2];rw[Qw]at h2;have hr:vs.toArray=((Qq xs.length).toArray.toList.map fun i=>vs.getD i Value.none).toArray:=by
   congr 1;apply QU;intro i;simp only[Qg];by_cases hi:i<vs.length
   ·rw[Qa hi,QT (by omega),Wd,Qb,Qa hi];rfl
   ·rw[Qo (by omega),Qo (by simp;omega)];rfl
  obtain⟨c,f1,f2,f3⟩:=fin s.toks (Qq xs.length).toArray vs.toArray ⟨by simp,Array.Perm.refl _⟩ (fun a b hab hb=>by omega) hr;refine wpAny_bind (wpAny_pure ?_);rw[StateT.run_pure];refine wpAny_bind (wpAny_pure ?_);have eo:(arrOf (SortSt.mk' general' (vs.toArray.zip vs.toArray) #[] 7 none)).map (·.2)=vs.toArray:=by
   show(vs.toArray.zip vs.toArray).map (·.2)=vs.toArray;apply RX.mp;simp;exact RY (Qk _)
  dsimp only;rw[eo];refine wpAny_bind (seqEpoch_at ho6 rfl (wpAny_bind (listUpdate_at ho6 rfl ?_ (QV _) (Uy f2))));simp only[bne_self_eq_false,Wn,if_false];exact wpAny_pure f3
 ·rw[if_neg h2,if_neg h2];rw[Qw]at h2;obtain⟨fs,kt,lf,hf⟩:=Za2 hl hv6;refine wpAny_bind (kat_kind (T:=.type "str") kt (by omega) (fun f m=>?_) (by decide) ?_)
  ·obtain⟨x,t,rfl⟩:=hf f m;exact Looks.of_pure rfl
  refine wpAny_bind (wpAny_mono (kat_run (κ:=tuples' ((Value.type "str") != Value.type "tuple")) (ks:=vs) (vs:=vs) (G:=fun p s'=>(∃ tk,s'={s with heap:=h6,toks:=tk})/\Srt.Pm xs.length p/\Srt.Up (ltX xs) p xs.length)
   (Q:=fun st' s'=>∃ p:Array Nat,arrOf st'=p.map (kas_item (vs.toArray.zip vs.toArray))/\failedOf st'=none/\(∃ tk,s'={s with heap:=h6,toks:=tk})/\Srt.Pm xs.length p/\Srt.Up (ltX xs) p xs.length)
   rfl (by omega) h64 (fun p st' s' _ a2 a3 a4=>⟨p,a2,a3,a4⟩) ?_) ?_ fun _ _ e=>e)
  ·rw[←hl];refine Srt.sort (G:=fun s'=>∃ tk,s'={s with heap:=h6,toks:=tk}) (ZbN nd) (fun i j C s' hi hj hij g k=>?_) (by omega) ⟨s.toks,rfl⟩ fun p s' hp hu g=>⟨g,hp,hu⟩
   obtain⟨tk,rfl⟩:=g;have hi':i<vs.length:=by omega
   have hj':j<vs.length:=by omega
   obtain⟨b1,t1,y1,e1,g1⟩:=hv6 i vs[i] xs[i] (Qa hi') (Qa hi);obtain⟨b2,t2,y2,e2,g2⟩:=hv6 j vs[j] xs[j] (Qa hj') (Qa hj);have n1:vs.getD i Value.none= .ref b1:=by rw[Qb,Qa hi'];exact e1
   have n2:vs.getD j Value.none= .ref b2:=by rw[Qb,Qa hj'];exact e2
   have hne:¬ xs[i]=xs[j]:=fun z=>hij ((Ua nd).mp z);show wpAny (model prog w) A (keyLt' _ (vs.getD i Value.none) (vs.getD j Value.none)) C (fun _ _=>False) {s with heap:=h6,toks:=tk};rw[n1,n2];refine kat_lt (s:={s with heap:=h6,toks:=tk}) g1 rfl g2 rfl (kat_cons (wpAny_eqBool_str ?_));rw[decide_eq_false hne];refine kat_no ?_;refine kas_lt_str ?_;have el:decide (xs[i].cps.toList<xs[j].cps.toList)=ltX xs i j:=by
    unfold ltX;rw[Y5 hi,Y5 hj]
   rw[el];exact k _ ⟨tk,rfl⟩
  ·rintro⟨⟨⟩,st'⟩ s' ⟨p,har,hf',⟨tk,rfl⟩,hp,hu⟩;obtain⟨c,f1,f2,f3⟩:=fin tk p _ hp hu rfl;dsimp only;rw[kat_snds rfl har];refine wpAny_bind (seqEpoch_at (s:={s with heap:=h6,toks:=tk}) ho6 rfl (wpAny_bind (listUpdate_at (s:={s with heap:=h6,toks:=tk}) ho6 rfl ?_ (QV _) (Uy f2))));rw[hf'];simp only[bne_self_eq_false,Wn,if_false];exact wpAny_pure f3
end
theorem ObjOk.there' {P:Program} {w:World} {o:HO} (x:ObjOk P w H h a o):∃ u,h.get? a=some u:=by
 cases o with
 | lst xs=>obtain⟨_,_,_,_,e⟩:=x;exact⟨_,e⟩
 | tup xs=>obtain⟨_,_,_,⟨_,e,_⟩,_⟩:=x;exact⟨_,e⟩
 | dK kvs=>obtain⟨_,_,_,_,o,_,_,e,_⟩:=x;exact⟨_,e⟩
 | dT kvs=>obtain⟨_,_,_,_,o,_,_,e,_⟩:=x;exact⟨_,e⟩
 | set S n=>obtain⟨o,_,_,_,e,_⟩:=x;exact⟨_,e⟩
 | ins C dx fs=>obtain⟨_,_,_,e,_⟩:=x;exact⟨_,e⟩
 | own y=>exact x
 | xd fs=>obtain⟨_,⟨_,_,_,e,_⟩,_⟩:=x;exact⟨_,e⟩
 | rng lo hi=>obtain⟨_,_,_,e⟩:=x;exact⟨_,e⟩
 | frz ob u=>obtain⟨e,_⟩:=x;exact⟨_,e⟩
 | tbl ps=>exact⟨_,show h.get? a=some _ from x⟩
 | met f y=>exact⟨_,show h.get? a=some _ from x⟩
 | ext φ=>obtain⟨_,e,_⟩:=x;exact e
section
variable {X:Cx} {pins:List (Addr×Obj)} {σ:St} {H:Hp} {s:Shared}
theorem Inv.laidN {N:Addr->Option HO} {h1:Heap} {tk:Nat} (I:Inv X pins σ H s) (k:∀ b u,s.heap.get? b=some u->h1.get? b=some u) (hN:∀ a o,N a=some o->s.heap.get? a=none/\∀ H2,ObjOk X.prog X.w H2 h1 a o) :
  Inv X pins σ (fun b=>(N b).or (H b)) {s with heap:=h1,toks:=tk}:=by
 have low:∀ b u,s.heap.get? b=some u->N b=none:=fun b u hb=>by
  cases q:N b with
  | none=>rfl
  | some o=>rw[(hN b o q).1]at hb;cases hb
 have old:∀ b u,H b=some u->(N b).or (H b)=some u:=fun b u q=>by
  obtain⟨v,hv⟩:=(I.hok b u q).there';rw[low b v hv,UM];exact q
 refine I.un ⟨fun b o q _ _ _=>k b o q,fun b o q _ _ _=>⟨o.slots,k b o q⟩,fun b o q n _=>?_,fun b o q _=>⟨o,k b o q⟩,fun b xs q=>old b _ q,fun b o u q=>old b _ q,fun b ps q=>⟨#[],by rw[old b _ q];simp⟩⟩ fun a o q=>?_
 ·show(N b).or (H b)=none;rw[low b o q,UM];exact n
 ·cases e:N a with
  | some u =>
   rw[e,Rw]at q;cases q;exact(hN a o e).2 _
  | none =>
   rw[e,UM]at q;exact(I.hok a o q).stay (fun b u _ z=>k b u z) (fun b z=>old b _ z) fun b xs z=>old b _ z
end
def ivO (p d:Addr):HO:=.ext fun h=>h.IsItemsView p d
theorem Zjk:MtR X "dict.items" (fun x vs H Q=>∃ d kvs,x= .ref d/\vs=[]/\H d=some (.dK kvs)/\∀ p,H p=none->Q (.ref p) (upd H p (ivO p d))):=by
 intro pins s σ H x vs v us Q I rx rv h;obtain⟨d,kvs,rfl,rfl,hd,q⟩:=h;cases rx;cases rv;obtain⟨hz,lo,vs',kv,dd⟩:=Zc2 I.hok hd;refine call_meetsIn PySem.F.slot_dict_items dd.typeIs PySem.F.entry_dict_items (PySem.F.args_dict_items_1 _) (meets_dict_items (Zz X.prog X.w) d lo) ⟨⟨_,dd⟩,?_⟩;refine⟨.ref s.heap.objs.size,_,I.laid (t':=s.toks) (o:=ivO s.heap.objs.size d) (fun b u e=>Qh _ e) (Qk _) ?_,rfl,q _ (I.hok.fresh (Qk _))⟩;refine⟨⟨_,Qx _ rfl,rfl,rfl⟩,⟨_,Qx _ rfl⟩,fun h1 h2 ⟨o,e,r⟩ k=>⟨o,k o e,r⟩⟩
theorem Zhb (ks:List Str) (p:Array Nat) (hp:Srt.Pm ks.length p):(p.toList.map fun i=>ks.getD i "").Perm ks:=by
 have h1:=(UH.mp hp.perm).map fun i=>ks.getD i "";have h2:((Qq ks.length).toArray.toList.map fun i=>ks.getD i "")=ks:=by
  apply QU;intro i;simp only[Qg];by_cases hi:i<ks.length
  ·rw[QT hi,Qa hi,Wd,Y5 hi]
  ·rw[Qo (by simp;omega),Qo (by omega)];rfl
 rw[h2]at h1;exact h1
theorem Xn (hc:X.calm=true):CallR X (.builtin "sorted") (fun xs H Q=>∃ (p d:Addr) (ks:List Str) (g:Str->V),xs=[.ref p]/\H p=some (ivO p d)/\H d=some (.dK (ks.map fun x=>((Sum.inr x:Key),g x)))/\ks.Nodup/\ks.length<64 /\
  ∀ (D:Addr) (H1:Hp) (vs:List V) (ss:List Str),Same H H1->ss.Perm ks->(ss.map fun x=>x.cps.toList).Pairwise (· < ·)->H1 D=some (.lst vs)->vs.length=ss.length ->
   (∀ (i:Nat) (x:Str),ss[i]?=some x->∃ b,vs[i]?=some (.ref b)/\H1 b=some (.tup [.str x,g x]))->Q (.ref D) H1):=by
 intro pins s σ H xs us Q I r h;obtain⟨p,d,ks,g,rfl,hp,hd,nd,h64,q⟩:=h;obtain⟨u,rfl,ru⟩:=Jf r;cases ru;have hview:s.heap.IsItemsView p d:=(I.hok p _ hp).1;obtain⟨hz,lo,vs',kv,dd⟩:=Zc2 I.hok hd;obtain⟨ep,hat⟩:=dd.dictAt;have hlen:ks.length=vs'.length:=by have:=kv.length;simpa using this
 have hsz:vs'.length<=sizeLine:=by rw[sizeLine_eq];omega
 refine Calls.call_function_entry kind_sorted plain_sorted entry_sorted (args_sorted1 _) ?_;unfold Builtin.«sorted»;refine wpAny_bind (m:=checkCount "sorted" 1 1 _) (wpAny_pure ?_);refine wpAny_bind (kdx_collect (A:=X.A.in1) (knd:=Zz X.prog X.w) (kvs:=vs') (ep:=ep) (I.ok.hd hc) hview hat hsz fun h1 tk as hk hl hG=>?_);refine wpAny_bind (wpAny_newList ?_ (by rw[Qc,hl];exact hsz));have pr:∀ (i:Nat),i<ks.length->∃ a t y,as[i]?=some a/\RelV (g (ks.getD i "")) y/\h1.get? a=some {cls:=.type "tuple",data:=.seq #[.str (ks.getD i "") t,y]}:=fun i hi=>by
  have hi2:i<as.length:=by omega
  obtain⟨key,k,x,e1,e2,e3⟩:=hG.pairs i as[i] (Qa hi2);have ek:=congrArg (fun l:List Key=>l[i]?) kv.keys;simp only[Qg]at ek;rw[e1,Qa hi]at ek;have ek':(Sum.inr ks[i]:Key)=k:=Option.some.inj ek;have ev:RelV (g ks[i]) x:=by
   have key:∀ {l1:List (Key×V)} {l2:List (Key×Value)} (i:Nat) (p:Key×V) (q:Key×Value),Paired (fun(p:Key×V) (q:Key×Value)=>p.1=q.1/\RelV p.2 q.2) l1 l2->l1[i]?=some p->l2[i]?=some q->RelV p.2 q.2:=by
    intro l1 l2 i p q hP;induction hP generalizing i with
    | nil=>intro e;simp at e
    | cons r t ih =>
     intro e1 e2;cases i with
     | zero =>
      simp at e1 e2;subst e1 e2;exact r.2
     | succ i=>exact ih i (by simpa using e1) (by simpa using e2)
   exact key i (Sum.inr ks[i],g ks[i]) (k,x) kv (by rw[Qg,Qa hi];rfl) e1
  subst ek';rcases keyIs_shape (show Zaq (Sum.inr ks[i]) key=true from e2)with ⟨j,t,e4,_⟩ | ⟨z,t,e4,e5⟩
  ·cases e4
  ·injection e4 with e4
   subst e4;refine⟨as[i],t,x,Qa hi2,by rw[Y5 hi];exact ev,?_⟩;rw[e3,e5,Y5 hi]
 have hB:(h1.push {cls:=.type "list",data:=.seq (as.map Value.ref).toArray}).get? h1.objs.size=some (seqObj "list" (as.map Value.ref).toArray 0):=Qx _ rfl;refine wpAny_bind (wpAny_holding (wpAny_call_entry slot_list_sort ⟨_,hB,rfl⟩ entry_list_sort ?body (args_list_sort _)));refine ZfH (s:={s with heap:=h1.push {cls:=.type "list",data:=.seq (as.map Value.ref).toArray},toks:=tk}) (xs:=ks) hB (by rw[Qc];omega) (by rw[Qc];omega) nd (fun i v x e1 e2=>?_) fun h3 tk3 c pm hpm hup hkeep hD=>⟨_,rfl,wpAny_pure ⟨_,rfl,?_⟩⟩
 ·have hi:i<ks.length:=(Qp.mp e2).1;obtain⟨a,t,y,f1,_,f3⟩:=pr i hi;rw[Qg,f1]at e1;cases e1;have ex:ks.getD i "" = x:=by rw[Qb,e2];rfl
  rw[ex]at f3;exact⟨a,t,y,rfl,Qh _ f3⟩
 ·have hold:∀ b u,s.heap.get? b=some u->h3.get? b=some u:=fun b u e=>hkeep b u (QC (Qu (hk b u e))) (Qh _ (hk b u e));have hDn:s.heap.get? h1.objs.size=none:=by
   cases z:s.heap.get? h1.objs.size with
   | none=>rfl
   | some u=>exact absurd (Qu (hk _ u z)) (Wu _)
  have tup3:∀ (i:Nat),i<ks.length->∃ a t y,as[i]?=some a/\RelV (g (ks.getD i "")) y/\s.heap.get? a=none/\a≠h1.objs.size/\h3.get? a=some {cls:=.type "tuple",data:=.seq #[.str (ks.getD i "") t,y]}:=fun i hi=>by
   obtain⟨a,t,y,f1,f2,f3⟩:=pr i hi;have ne:a≠h1.objs.size:=QC (Qu f3);exact⟨a,t,y,f1,f2,Rz (Rf (hG.above a (QX f1))),ne,hkeep a _ ne (Qh _ f3)⟩
  have asnd:as.Nodup:=hG.rise.imp fun {a b} z e=>by subst e;exact Wu _ z
  let N:Addr->Option HO:=fun b=>if b=h1.objs.size then some (.lst (pm.toList.map fun i=>V.ref (as.getD i 0)))else (as.idxOf? b).map fun i=>.tup [.str (ks.getD i ""),g (ks.getD i "")]
  have hND:N h1.objs.size=some (.lst (pm.toList.map fun i=>V.ref (as.getD i 0))):=if_pos rfl;have hNt:∀ (i:Nat),i<ks.length->∃ a,as[i]?=some a/\N a=some (.tup [.str (ks.getD i ""),g (ks.getD i "")]):=fun i hi=>by
   obtain⟨a,t,y,f1,f2,f3,f4,f5⟩:=tup3 i hi;refine⟨a,f1,?_⟩;show(if a=h1.objs.size then _ else _)=_;rw[if_neg f4];have hi2:i<as.length:=(Qp.mp f1).1;have e:as.idxOf? a=some i:=by
    rw[Rn];refine⟨hi2,by rw[Qa hi2]at f1;simpa using Option.some.inj f1,fun j hj=>?_⟩;intro z;have e1:as[j]'(by omega)=as[i]:=by rw[Qa hi2]at f1;rw[Option.some.inj f1];simpa using z
    exact absurd ((Ua asnd).mp e1) (by omega)
   rw[e];rfl
  have hNall:∀ a o,N a=some o->s.heap.get? a=none/\∀ H2,ObjOk X.prog X.w H2 h3 a o:=fun a o e=>by
   by_cases ha:a=h1.objs.size
   ·subst ha;rw[hND]at e;cases e;refine⟨hDn,fun H2=>⟨?_,pm.toList.map (fun i=>Value.ref (as.getD i 0)),c,?_,?_⟩⟩
    ·rw[Qc,QK,hpm.size,sizeLine_eq];omega
    ·have gen:∀ l:List Nat,Vals (l.map fun i=>V.ref (as.getD i 0)) (l.map fun i=>Value.ref (as.getD i 0)):=by
      intro l;induction l with
      | nil=>exact .nil
      | cons i l ih=>exact .cons rfl ih
     exact gen _
    ·rw[hD];have el:(List.map (fun i=>(List.map Value.ref as).getD i Value.none) pm.toList)=pm.toList.map fun i=>Value.ref (as.getD i 0):=by
      refine Q3 fun i hi=>?_;have hi':i<as.length:=by
       have:i∈pm:=by simpa using hi
       have:=hpm.perm.mem_iff.mp this;have:i<ks.length:=by simpa using this
       omega
      rw[Qb,Qg,Qa hi',Qb,Qa hi'];rfl
     rw[el]
   ·have e':(as.idxOf? a).map (fun i=>HO.tup [.str (ks.getD i ""),g (ks.getD i "")])=some o:=by
     have:(if a=h1.objs.size then some (HO.lst (pm.toList.map fun i=>V.ref (as.getD i 0)))else (as.idxOf? a).map fun i=>HO.tup [.str (ks.getD i ""),g (ks.getD i "")])=some o:=e;rw[if_neg ha]at this;exact this
    cases hx:as.idxOf? a with
    | none=>rw[hx]at e';cases e'
    | some i =>
     rw[hx]at e';cases e';obtain⟨hi,hai,_⟩:=Rn.mp hx;have hi':i<ks.length:=by omega
     obtain⟨a',t,y,f1,f2,f3,f4,f5⟩:=tup3 i hi';rw[Qa hi]at f1;have ea:a=a':=by rw[←Option.some.inj f1];simpa using hai.symm
     subst ea;refine⟨f3,fun H2=>⟨by show 2<=sizeLine;rw[sizeLine_eq];decide,[.str (ks.getD i "") t,y],.cons ⟨t,rfl⟩ (.cons f2 .nil),⟨⟨_,f5,rfl,_,rfl⟩,fun o e=>by rw[f5]at e;cases e;rfl⟩⟩⟩
  refine⟨.ref h1.objs.size,_,I.laidN (N:=N) (tk:=tk3) hold hNall,rfl,?_⟩;have hsame:Same H fun b=>(N b).or (H b):=fun b u e=>by
   obtain⟨v,hv⟩:=(I.hok b u e).there';have:N b=none:=by
    cases z:N b with
    | none=>rfl
    | some o=>rw[(hNall b o z).1]at hv;cases hv
   show(N b).or (H b)=some u;rw[this,UM];exact e
  refine q _ _ (pm.toList.map fun i=>V.ref (as.getD i 0)) (pm.toList.map fun i=>ks.getD i "") hsame (Zhb ks pm hpm) ?_ (by rw[hND];rfl) (by rw[Qc,Qc]) fun i x e=>?_
  ·rw[QA,QY,Uj];intro i j hi hj hij;have hz2:pm.toList.length=ks.length:=by rw[QK,hpm.size]
   have hu:=hup i j hij (by omega);unfold ltX at hu;rw[decide_eq_true_eq]at hu;have g1:pm.getD i 0=pm.toList[i]:=by rw[Wa,Q6 (by simpa using hi)];simp
   have g2:pm.getD j 0=pm.toList[j]:=by rw[Wa,Q6 (by simpa using hj)];simp
   rw[g1,g2]at hu;exact hu
  ·rw[Qg]at e;cases ep:pm.toList[i]? with
   | none=>rw[ep]at e;cases e
   | some k =>
    rw[ep]at e;have ex:ks.getD k "" = x:=Option.some.inj e;have hkm:k∈pm:=by simpa using QX ep
    have hkl:k<ks.length:=by simpa using hpm.perm.mem_iff.mp hkm
    obtain⟨a,f1,f2⟩:=hNt k hkl;refine⟨a,?_,?_⟩
    ·rw[Qg,ep,Wd,Qb,f1];rfl
    ·show(N a).or (H a)=_;rw[f2,Rw,ex]
def ZlP (td:TE):TE:=fun σ H Q=>td σ H fun x H1=>∃ d kvs,x= .ref d/\H1 d=some (.dK kvs)/\∀ p,H1 p=none->Q (.ref p) (upd H1 p (ivO p d))
theorem ZbD {o:Expr} {apos cpos:Pos} {td:TE} (ho:PE X o td) (hbase:attributeBase o "items" X.env (eval o X.env)=eval o X.env:=by rfl) (hline:(apos.endLine==cpos.line)=true:=by rfl) :
  PE X (.Call (.Attribute o "items" apos) [] [] cpos) (ZlP td):=by
 intro pins s σ H Q I h;refine wpAny_Call_method0_late hbase hline (thn (ho pins s σ H _ I h) fun v s1 ⟨x,H1,I1,r1,d,kvs,ex,hd,q1⟩=>?_);subst ex;obtain rfl:v=Value.ref d:=r1;obtain⟨t1,t2,_⟩:=Zfd I1 (.inl ⟨kvs,.inl hd⟩);exact⟨"dict",_,PySem.F.plainAttrs_dict,PySem.F.slot_dict_items,PySem.F.type_dict_items,t1,t2,Calls.callWith_builtin rfl (PySem.evalArgs_none (Zjk pins s1 σ H1 (.ref d) [] (.ref d) [] Q I1 rfl .nil ⟨d,kvs,rfl,rfl,hd,q1⟩))⟩
open PySem PySem.Spec PyProof.Rows
structure XCls (K:PySem.W.Frag) (mg:Str->Option Value) (x:Str) (C:Addr) (bm:List Value):Prop where
 bound:mg x=some (.ref C)
 look:∃ nm q N bs hdct sn sub ab col dd k0 k1 k2 k3 k5,K.lookup C=some (excClassObj nm q C N bs bm hdct sn sub ab col dd k0 k1 k2 k3 k5 "ValueError.__new__") /\
  PySem.W.nsOkIn K N=true/\PySem.W.nsIn K N "__init__" = some none
 tail:PySem.W.tailIn K [.type "ValueError",.type "Exception",.type "BaseException",.type "object"] bm=true
def ZfX (K:PySem.W.Frag) (C:Addr):List Value:=match K.lookup C with
 | some ⟨_,_,.cls cd,_⟩=>cd.mro.tail
 | _=>[]
theorem Zdp {K:PySem.W.Frag} {mg:Str->Option Value} (hb:mg x=some (.ref C)) (hq:PySem.W.excIn K C [.type "ValueError",.type "Exception",.type "BaseException",.type "object"] "ValueError.__new__" = true):XCls K mg x C (ZfX K C):=by
 unfold PySem.W.excIn at hq;cases hl:K.lookup C with
 | none=>rw[hl]at hq;cases hq
 | some o =>
  rw[hl]at hq;split at hq
  ·rename_i dd cd sl e0;injection e0 with e1
   subst e1;split at hq
   ·rename_i C1 bm k0 k1 k2 k3 n k5 e2 e3;rw[QQ,QQ,QQ,QQ,QQ]at hq;obtain⟨⟨⟨⟨⟨q1,q2⟩,q3⟩,q4⟩,q5⟩,q6⟩:=hq;have r1:=beq_iff_eq.mp q1;have r2:=beq_iff_eq.mp q2;have r6:=beq_iff_eq.mp q6;subst r1;subst r2;obtain⟨f1,f2,f3,f4,f5,f6,f7,f8,f9,f10,f11⟩:=cd;have em:ZfX K C1=bm:=by
     unfold ZfX;rw[hl];show List.tail f3=bm;have e2':f3=Value.ref C1::bm:=e2;rw[e2'];rfl
    rw[em];have e2':f3=Value.ref C1::bm:=e2;have q3':f11=false:=by simpa using q3
    subst e2';subst q3';obtain⟨l⟩:=sl;have e3':l=[k0,k1,k2,k3,some (.builtin "ValueError.__new__"),k5]:=e3;subst e3';exact⟨hb,⟨f1,f5,f4,f2,f6,f7,f8,f9,f10,dd,k0,k1,k2,k3,k5,hl,q5,r6⟩,q4⟩
   ·cases hq
  ·cases hq
theorem XCls.at {K:PySem.W.Frag} {mg:Str->Option Value} (c:XCls K mg x C bm) (X:K.In h):∃ N nm q bs hdct sn sub ab col dd k0 k1 k2 k3 k5 mN,
  h.get? C=some (excClassObj nm q C N bs bm hdct sn sub ab col dd k0 k1 k2 k3 k5 "ValueError.__new__")/\h.Ns N mN/\mN "__init__" = none/\OwnTail h [.type "ValueError",.type "Exception",.type "BaseException",.type "object"] bm:=by
 obtain⟨nm,q,N,bs,hdct,sn,sub,ab,col,dd,k0,k1,k2,k3,k5,hl,h1,h2⟩:=c.look;exact⟨N,nm,q,bs,hdct,sn,sub,ab,col,dd,k0,k1,k2,k3,k5,_,X _ _ hl,.of_isNs (PySem.W.isNs_of_in X h1),PySem.W.nsMap_none_of_in X h1 h2,PySem.W.tail_of_in X c.tail⟩
def CXx (P:Program) (w:World):CXT:=fun outer H s E e s'=>∃ (ea:Addr) (cls a0:Value) (H':Hp) (B:Heap),e= .ref ea/\s'.os=s.os/\AllBare s'.gens/\Un (frs outer) [] H H' s.heap s'.heap/\HOk P w H' s'.heap /\
 Heap.FlyingW B outer ea cls a0 s'.heap/\(∀ b u,H' b=some u->∃ o,B.get? b=some o)/\(∀ b o,s.heap.get? b=some o->H b=none->b∉frs outer->B.get? b=some o) /\
 (∀ b o,s.heap.get? b=some o->b∉frs outer->∃ o',B.get? b=some o')/\E cls none H'
theorem HOk.stays {P:Program} {w:World} {h' B:Heap} (x:HOk P w H h) (hB:∀ b u,H b=some u->∃ o,B.get? b=some o) (h1:B.StaysIn h) (h2:B.StaysIn h'):HOk P w H h':=fun a o e=>by
 have key:∀ b u,H b=some u->∀ v,h.get? b=some v->h'.get? b=some v:=fun b u q v hv=>by
  obtain⟨o',ho⟩:=hB b u q;have e1:=h1 b o' ho;rw[hv]at e1;cases e1;exact h2 b v ho
 refine(x a o e).stay (fun b v hb q=>?_) (fun _ q=>q) fun _ _ q=>q;rcases hb with z | z
 ·subst z;exact key b o e v q
 ·exact key b _ z v q
theorem Zff {env:Env} {L:Addr} {l:List Env} (h:env.frame=some L):frs (env::l)=L::frs l:=by
 unfold frs;rw[WB,h]
theorem ObjOk.there {P:Program} {w:World} {o:HO} (x:ObjOk P w H h a o):∃ u,h.get? a=some u:=by
 cases o with
 | lst xs=>obtain⟨_,_,_,_,e⟩:=x;exact⟨_,e⟩
 | tup xs=>obtain⟨_,_,_,⟨_,e,_⟩,_⟩:=x;exact⟨_,e⟩
 | dK kvs=>obtain⟨_,_,_,_,o,_,_,e,_⟩:=x;exact⟨_,e⟩
 | dT kvs=>obtain⟨_,_,_,_,o,_,_,e,_⟩:=x;exact⟨_,e⟩
 | set S n=>obtain⟨o,_,_,_,e,_⟩:=x;exact⟨_,e⟩
 | ins C dx fs=>obtain⟨_,_,_,e,_⟩:=x;exact⟨_,e⟩
 | own y=>exact x
 | xd fs=>obtain⟨_,⟨_,_,_,e,_⟩,_⟩:=x;exact⟨_,e⟩
 | rng lo hi=>obtain⟨_,_,_,e⟩:=x;exact⟨_,e⟩
 | frz ob u=>obtain⟨e,_⟩:=x;exact⟨_,e⟩
 | tbl ps=>exact⟨_,show h.get? a=some _ from x⟩
 | met f y=>exact⟨_,show h.get? a=some _ from x⟩
 | ext φ=>obtain⟨_,e,_⟩:=x;exact e
structure Lv (X:Cx) (E:XK):Prop where
 ex:X.ex=[]
 stk:X.stack=X.env::X.outer
 fr:X.env.frame=some X.env.locals
 xe:∀ e s',wpAny (model X.prog X.w) X.A (leaving X.env e) (fun _ s''=>CXx X.prog X.w X.outer X.H₀ X.s₀ E e s'') (fun e' s''=>CXx X.prog X.w X.outer X.H₀ X.s₀ E e' s'') s'->X.xe e s'
section
variable {X:Cx} {E:XK} {pins:List (Addr×Obj)} {σ:St} {H:Hp} {s:Shared}
theorem Lv.frs (L:Lv X E):frs X.stack=X.env.locals::X.fs:=by rw[L.stk];exact Zff L.fr
theorem Lv.old (L:Lv X E) (I:Inv X pins σ H s) {b:Addr} {o:Obj} (q:X.s₀.heap.get? b=some o) (hb:b∉X.fs):b∉L2.frs X.stack:=by
 rw[L.frs,Qy];rintro(z | z)
 ·exact absurd (Q2 (Qu q) (z▸I.ok.above)) (Wu _)
 ·exact hb z
theorem Lv.noex (L:Lv X E) (b:Addr):b∉X.ex:=by rw[L.ex];simp
theorem Lv.raised (L:Lv X E) (I:Inv X pins σ H s) {h1:Heap} {e:Addr} {args:List Value} (hx:Heap.MadeExcOf s.heap h1 e (.ref C) args) (hE:E (.ref C) none H):X.xe (.ref e) {s with heap:=h1}:=by
 have hin:∀ env∈X.stack,∀ b,env.frame=some b->b∈L2.frs X.stack:=fun env he b hb=>Uc.mpr ⟨env,he,hb⟩;have fB:s.heap.FunFrames (PySem.W.hideAll s.heap (L2.frs X.stack)) X.stack:=PySem.W.funFrames_hide I.stack hin;have kB:∀ b o,s.heap.get? b=some o->b∉L2.frs X.stack->(PySem.W.hideAll s.heap (L2.frs X.stack)).get? b=some o:=fun b o q n=>PySem.W.hideAll_get _ q n;rw[L.stk]at fB;refine L.xe _ _ (wpAny_leaves_madeW (base:=PySem.W.hideAll s.heap (L2.frs X.stack)) (h:=s.heap) (by rw[←L.stk];exact I.ok.frames) L.fr (fun b o q=>PySem.W.of_hideAll _ q) (by rw[L.stk];exact fB) hx fun h2 t fl tup bt up=>?_);have c1:∀ b u,H b=some u->∃ o,(PySem.W.hideAll s.heap (L2.frs X.stack)).get? b=some o:=fun b u q=>by
  obtain⟨o,ho⟩:=(I.hok b u q).there;exact⟨o,kB b o ho fun z=>by rw[I.stkFree b z]at q;cases q⟩
 have c2:∀ b o,X.s₀.heap.get? b=some o->X.H₀ b=none->b∉L2.frs X.outer->(PySem.W.hideAll s.heap (L2.frs X.stack)).get? b=some o:=fun b o q n hb=>kB b o (I.base.keep b o q n hb (L.noex b)) (L.old I q hb);have c3:∀ b o,X.s₀.heap.get? b=some o->b∉L2.frs X.outer->∃ o',(PySem.W.hideAll s.heap (L2.frs X.stack)).get? b=some o':=fun b o q hb=>by
  obtain⟨o',q1⟩:=I.base.there b o q (L.noex b);exact⟨o',kB b o' q1 (L.old I q hb)⟩
 have fr:∀ b∈L2.frs X.outer,∀ o,s.heap.get? b=some o->∃ sl,h2.get? b=some {o with slots:=sl}:=fun b hb o q=>by
  obtain⟨_,o',ho,hd⟩:=I.stack.mem (b:=b) (by show b∈L2.frs X.stack;rw[L.frs];exact Ql _ hb);rw[q]at ho;cases ho;exact up b o (hx.keeps b o q) hd
 refine⟨e,.ref C,.ref t,H,_,rfl,I.os,I.bare,⟨fun b o q n hb _=>fl.1 b o (c2 b o q n hb),fun b o q n hb _=>?_,fun b o q n _=>I.base.free b o q n (L.noex b),fun b o q _=>?_,I.base.tups,I.base.frzs,I.base.tbls⟩,
  I.hok.stays c1 (fun b o q=>PySem.W.of_hideAll _ q) fl.1,fl,c1,c2,c3,hE⟩
 ·obtain⟨sl,q1⟩:=I.base.slot b o q n hb (L.noex b);obtain⟨sl',q2⟩:=fr b hb _ q1;exact⟨sl',q2⟩
 ·by_cases hb:b∈L2.frs X.outer
  ·obtain⟨o',q1⟩:=I.base.there b o q (L.noex b);obtain⟨sl',q2⟩:=fr b hb _ q1;exact⟨_,q2⟩
  ·obtain⟨o',q1⟩:=c3 b o q hb;exact⟨o',fl.1 b o' q1⟩
theorem Lv.pass (L:Lv X E):Zdk (CXx X.prog X.w) X E:=by
 intro pins σ H s e s' I hc;obtain⟨ea,cls,a0,H',B,rfl,os,bare,un,hok,fl,c1,c2,c3,hE⟩:=hc;have fl0:Heap.FlyingW B (X.env::X.outer) ea cls a0 s'.heap:=by rw[←L.stk];exact fl
 refine L.xe _ _ (wpAny_leaves_onW (by rw[←L.stk];exact I.ok.frames) L.fr fl0 fun h2 fl2 up=>?_);have d2:∀ b o,X.s₀.heap.get? b=some o->X.H₀ b=none->b∉L2.frs X.outer->B.get? b=some o:=fun b o q n hb =>
  c2 b o (I.base.keep b o q n hb (L.noex b)) (I.base.free b o q n (L.noex b)) (L.old I q hb)
 have d3:∀ b o,X.s₀.heap.get? b=some o->b∉L2.frs X.outer->∃ o',B.get? b=some o':=fun b o q hb=>by
  obtain⟨o',q1⟩:=I.base.there b o q (L.noex b);exact c3 b o' q1 (L.old I q hb)
 have fr:∀ b∈L2.frs X.outer,∀ o,s'.heap.get? b=some o->∃ sl,h2.get? b=some {o with slots:=sl}:=fun b hb o q=>by
  obtain⟨_,o',ho,hd⟩:=fl.2.2.1.mem (b:=b) (by show b∈L2.frs X.stack;rw[L.frs];exact Ql _ hb);rw[q]at ho;cases ho;exact up b o q hd
 have hst:∀ b∈L2.frs X.outer,b∈L2.frs X.stack:=fun b hb=>by rw[L.frs];exact Ql _ hb
 refine⟨ea,cls,a0,H',B,rfl,os.trans I.os,bare,⟨fun b o q n hb _=>fl2.1 b o (d2 b o q n hb),fun b o q n hb _=>?_,fun b o q n _=>?_,fun b o q _=>?_,fun b xs q=>un.tups b xs (I.base.tups b xs q),fun b o u q=>un.frzs b o u (I.base.frzs b o u q),fun b ps q=>?_⟩,
  hok.stays c1 fl.1 fl2.1,fl2,c1,d2,d3,hE⟩
 ·obtain⟨sl,q1⟩:=I.base.slot b o q n hb (L.noex b);obtain⟨sl1,q2⟩:=un.slot b _ q1 (I.base.free b o q n (L.noex b)) (hst b hb) (by simp);obtain⟨sl',q3⟩:=fr b hb _ q2;exact⟨sl',q3⟩
 ·obtain⟨o',q1⟩:=I.base.there b o q (L.noex b);exact un.free b o' q1 (I.base.free b o q n (L.noex b)) (by simp)
 ·by_cases hb:b∈L2.frs X.outer
  ·obtain⟨o',q1⟩:=I.base.there b o q (L.noex b);obtain⟨o'',q2⟩:=un.there b o' q1 (by simp);obtain⟨sl',q3⟩:=fr b hb _ q2;exact⟨_,q3⟩
  ·obtain⟨o',q1⟩:=d3 b o q hb;exact⟨o',fl2.1 b o' q1⟩
 ·obtain⟨m1,e1⟩:=I.base.tbls b ps q;obtain⟨m2,e2⟩:=un.tbls b _ e1;exact⟨m1++m2,by rw[e2,U6]⟩
def ZlN (E:XK) (C:Addr) (t:TA):TS:=fun D σ H=>t σ H fun vs H1=>vs.length<=sizeLine/\E (.ref C) none H1
theorem ZbC {e₀:Expr} {es:List Expr} {t:TA} {np cpos pos:Pos} (L:Lv X E) (c:XCls X.K X.mg x C bm) (hcalm:X.calm=true) (ha:PA X (e₀::es) t) (hg:Gl X x:=by rfl) (hd:(x==("__debug__" : Str))=false:=by decide)
  (he:starEach (e₀::es) X.env=(false,eval e₀ X.env)::starEach es X.env:=by rfl) (hpl:(backTo cpos (starEach es X.env)).any (·.1)=false:=by rfl) :
  PS X (.Raise (some (.Call (.Name x np) (e₀::es) [] cpos)) none pos) (ZlN E C t):=by
 intro pins s σ H D I h;obtain⟨N,nm,q,bs,hdct,sn,sub,ab,col,dd,k0,k1,k2,k3,k5,mN,hC,hN,hni,T⟩:=c.at I.mod.kin;have hpl':(backTo cpos (starEach (e₀::es) X.env)).any (·.1)=false:=by
  rw[he];exact hpl
 refine wpAny_Raise_call_subU (C:=C) (nm:=nm) (q:=q) (N:=N) (bs:=bs) (bm:=bm) (hdct:=hdct) (sn:=sn) (sub:=sub) (ab:=ab) (col:=col) (dd:=dd) (k0:=k0) (k1:=k1) (k2:=k2) (k3:=k3) (k5:=k5)
  PySem.F.excBase_ValueError (by decide) PySem.F.excBase_ValueError (mN:=mN) (T.hasType PySem.F.excBase_ValueError.hasBase) (I.ok.hd hcalm) hpl' hni (Zan I hg c.bound ⟨rfl,?_⟩ hd)
 have hs:=ha cpos pins s σ H _ I h;rw[he]at hs ⊢;refine Calls.evalArgs_plain (wpAny_mono hs (fun us s2 ⟨vs,H2,I2,r,hl,hE⟩=>⟨rfl,?_,?_⟩) fun _ _ y=>y)
 ·rw[←r.length];exact hl
 ·obtain⟨N',nm',q',bs',hdct',sn',sub',ab',col',dd',k0',k1',k2',k3',k5',mN',hC',_⟩:=c.at I2.kIn;exact⟨I2.bk _ _ hC,hN.keeps I2.bk,T.keeps I2.bk,fun h1 e hm=>L.raised I2 hm hE⟩
end
theorem Fun.okX {P:Program} {w:World} {K:PySem.W.Frag} {mg:Str->Option Value} {base:Heap} {qual:Str} {f:Addr} {fd:FuncData} {N:List Str} (F:Fun K x qual st f fd) (S:Zp N ps (Zg st)) (len:∀ vs H Q E,sp vs H Q E->vs.length=ps.length)
  (hbody:∀ (X:Cx) (vs:List V) (H:Hp) (Q:VK) (E:XK) (cdv:Value) (A:Around) (outer:List Env) (s:Shared),X=Zig (CXx P w) P w K mg base N qual (Zg st) f cdv A outer s H E->Lv X E->Room k X.A->sp vs H Q E ->
   ∃ t,PSs (Zig (CXx P w) P w K mg base N qual (Zg st) f cdv A outer s H E) (Yw st) t/\t {nx:=fun _ H'=>Q .non H',rt:=Q} (start N vs) H):FnOk P w K mg base (CXx P w) (k+1) f fd ps sp:=by
 obtain⟨oc,od,kV,doc,pm,an,cdv,ct,osl,rfl,lk,hcd⟩:=F.ex;refine ZmU lk hcd S len fun A outer s H vs Q E hr hsp=>?_;exact hbody _ vs H Q E cdv A outer s rfl ⟨rfl,rfl,rfl,fun _ _ h=>h⟩ hr hsp
structure FOkX (P:Program) (w:World) (K:PySem.W.Frag) (mg:Str->Option Value) (base:Heap) (k:Nat) (name:Str) (ps:List Str) (sp:Sp):Prop where
 ex:∃ f fd,FnOk P w K mg base (CXx P w) k f fd ps sp/\Binds K fd ps []/\mg name=some (.ref f)/\PySem.W.keepIn K (.ref f)=true
theorem FOkX.mono {P:Program} {w:World} {K:PySem.W.Frag} {mg:Str->Option Value} {base:Heap} {j:Nat} (G:FOkX P w K mg base j name ps sp) (h:j<=k):FOkX P w K mg base k name ps sp:=by
 obtain⟨f,fd,F,r⟩:=G.ex;exact⟨f,fd,F.mono h,r⟩
theorem HasDef.okX {P:Program} {w:World} {K:PySem.W.Frag} {mg:Str->Option Value} {base:Heap} {N:List Str} (D:HasDef K mg name st ps) (S:Zp N ps (Zg st)) (len:∀ vs H Q E,sp vs H Q E->vs.length=ps.length)
  (hbody:∀ (f:Addr) (cdv:Value) (A:Around) (outer:List Env) (s:Shared) (vs:List V) (H:Hp) (Q:VK) (E:XK),Lv (Zig (CXx P w) P w K mg base N name (Zg st) f cdv A outer s H E) E->Room k (A.deeper (envOfC name (Zg st) s.heap.objs.size f cdv))->sp vs H Q E ->
   ∃ t,PSs (Zig (CXx P w) P w K mg base N name (Zg st) f cdv A outer s H E) (Yw st) t/\t {nx:=fun _ H'=>Q .non H',rt:=Q} (start N vs) H):FOkX P w K mg base (k+1) name ps sp:=by
 obtain⟨f,fd,F,b,m⟩:=D.ex;refine⟨f,fd,F.okX S len fun X vs H Q E cdv A outer s e l r h=>?_,b,m,F.kp⟩;subst e;exact hbody f cdv A outer s vs H Q E l r h
theorem Zhe {E:XK} {p:Pos} {es:List Expr} {t:TA} (G:FOkX X.prog X.w X.K X.mg X.base k name ps sp) (L:Lv X E) (hr:Room k X.A) (ha:PA X (e::es) t) (hg:Gl X name:=by rfl)
  (hdb:(name==("__debug__" : Str))=false:=by decide) (he:starEach (e::es) X.env=(false,eval e X.env)::starEach es X.env:=by rfl) (hpl:(backTo pos (starEach es X.env)).any (·.1)=false:=by rfl) :
  PE X (.Call (.Name name p) (e::es) [] pos) (ZiJ sp [] E t):=by
 obtain⟨f,fd,F,b,m,kp⟩:=G.ex;exact ZdP F hr hg m kp b .nil L.pass ha hdb he hpl
section
variable {X:Cx} {pins:List (Addr×Obj)} {σ:St} {H:Hp} {s:Shared}
theorem XY {M:Model} {A:Around} {E:Value->Shared->Prop} {i:Nat} {n:Str} {Q:Unit->Shared->Prop} (I:Inv X pins σ H s) (hN:X.N.Nodup) (hi:X.N[i]?=some n) (hk:X.env.scope.names.lookup n=some .local)
  (h:∀ s',Inv X pins (σ.set i none) H s'->Q () s'):wpAny M A (do bindName X.env n .none;unbindBehindTheSuite X.env n pos) Q E s:=by
 obtain⟨m,hn,hl⟩:=id I.loc;obtain⟨oL,_,_,hoL,_⟩:=id hn;have hc:(X.env.scope.kind==.class || (X.env.scope.kind==.module&&X.env.locals != X.env.globals))=false:=by rw[I.ok.kind];rfl
 refine wpAny_nameGoes_keeps hk hn hc fun h' v hn' hs=>?_;have ne:∀ b o,X.s₀.heap.get? b=some o->b≠X.env.locals:=fun b o e=>QC (Q2 (Qu e) I.ok.above);refine h _ ⟨I.ok,I.os,I.bare,⟨fun b o e n hb hx=>(hs.2 b (ne b o e)).trans (I.base.keep b o e n hb hx),fun b o e n hb hx=>?_,I.base.free,fun b o e hx=>?_,I.base.tups,I.base.frzs,I.base.tbls⟩,⟨_,hn',fun j y v' e1 e2 e3=>?_⟩,fun y c e=>?_,I.free,I.freeC,fun p hp=>?_,fun b ob e=>?_,by simpa using I.len⟩
 ·obtain⟨sl,e1⟩:=I.base.slot b o e n hb hx;exact⟨sl,(hs.2 b (ne b o e)).trans e1⟩
 ·obtain⟨o',e1⟩:=I.base.there b o e hx;exact⟨o',(hs.2 b (ne b o e)).trans e1⟩
 ·have hj:j≠i:=by
   rintro rfl;have hiσ:j<σ.length:=by rw[I.len];exact(Qp.mp hi).1
   rw[UO hiσ]at e2;cases e2
  rw[UY (Ne.symm hj)]at e2;obtain⟨u',r',q⟩:=hl j y v' e1 e2 e3;refine⟨u',r',?_⟩;rcases q with ⟨k,e⟩ | ⟨k,c,e,z⟩
  ·have hy:y≠n:=fun z=>hj (ZbH hN e1 (z▸hi));exact .inl ⟨k,(if_neg hy).trans e⟩
  ·exact .inr ⟨k,c,e,z.sameBut hs (I.cne y c e)⟩
 ·obtain⟨w',z⟩:=I.cell y c e;exact⟨w',z.sameBut hs (I.cne y c e)⟩
 ·obtain⟨e,n,ne,nf,d⟩:=I.pin p hp;exact⟨(hs.2 p.1 ne).trans e,n,ne,nf,d⟩
 ·refine(I.hok b ob e).stay (fun c w' hc q=>(hs.2 c fun z=>?_).trans q) (fun _ q=>q) fun _ _ q=>q;subst z;rcases hc with z | z
  ·rw[←z,I.free]at e;cases e
  ·rw[I.free]at z;cases z
abbrev Cx.caught (X:Cx) (ea:Addr) (pn:List (Addr×Obj)):Cx:={X with A:=X.A.mark (some (.ref ea)),calm:=false,pn:=pn,xe:=fun _ _=>False}
theorem Inv.caught (I:Inv X pins σ H s) (h1:s.heap.get? ea=some oe) (h2:H ea=none) (h3:ea≠X.env.locals) (h4:ea∉X.fs) (h5:∀ v,oe.data≠.cell v):Inv (X.caught ea (X.pn++pins++[(ea,oe)])) [] σ H s :=
 ⟨⟨I.ok.mod,I.ok.kind,I.ok.glob,I.ok.blt,I.ok.above,I.ok.inj,I.ok.has,I.ok.cab,fun z=>(QL z).elim,I.ok.frames,I.ok.stk,I.ok.exf,I.ok.bs,I.ok.bsz,I.ok.noex,I.ok.exfs,I.ok.funs,I.ok.frf⟩,I.os,I.bare,I.base,I.loc,I.cell,I.free,I.freeC,fun p hp=>by
  have hp':p∈X.pn++pins++[(ea,oe)]:=by simpa using hp
  rcases QF.mp hp' with z | z
  ·exact I.pin p z
  ·rw[Qm.mp z];exact⟨h1,h2,h3,h4,h5⟩,I.hok,I.len⟩
theorem Inv.uncaught {pins' q:List (Addr×Obj)} (ok:X.Ok) (I:Inv (X.caught ea (X.pn++pins++q)) pins' σ H s):Inv X pins σ H s :=
 ⟨ok,I.os,I.bare,I.base,I.loc,I.cell,I.free,I.freeC,fun p hp=>I.pin p (QM _ (QM _ hp)),I.hok,I.len⟩
end
theorem ZaP {M:Model} {A:Around} {E:Value->Shared->Prop} {nm q nm2 q2:Str} {N C2 N2:Addr} {bs bs2 bm2:List Value} {hdct hdct2:Bool} {sn sn2:List Str} {sub sub2:List Value} {ab ab2:Bool} {col col2:Option Bool} {dd dd2:Option Addr} {k0 k1 k2 k3 k5 j0 j1 j2 j3 j5:Option Value} {nw nw2:String}
  {h:Heap} {g:Array GenState} {d:Drawn} {t:Nat} {os:OsState} {e:Addr} {oe:Obj} {Q:Bool->Shared->Prop} (hC:h.get? C=some (excClassObj nm q C N bs bm hdct sn sub ab col dd k0 k1 k2 k3 k5 nw)) (hC2:h.get? C2=some (excClassObj nm2 q2 C2 N2 bs2 bm2 hdct2 sn2 sub2 ab2 col2 dd2 j0 j1 j2 j3 j5 nw2))
  (he:h.get? e=some oe) (hcls:oe.cls= .ref C) (hb:bm2.contains (.type "BaseException")=true) (hs:bm.contains (.ref C2)=true) (hq:Q true ⟨h,g,d,t,os⟩):wpAny M A (excMatches (.ref e) (.ref C2)) Q E ⟨h,g,d,t,os⟩:=by
 have g1:(Value.ref C2::bm2).contains (.type "BaseException")=true:=by rw[U7,hb,Vd]
 have g2:(Value.ref C::bm).contains (.ref C2)=true:=by rw[U7,hs,Vd]
 have g3:=tc_notTuple;unfold excMatches
 repeat (first
  | (with_reducible refine wpAny_loadPart_at he ?_;rw[hcls])
  | with_reducible refine wpAny_loadPart_at hC2 ?_
  | (with_reducible refine wpAny_isSubtype_exc hC2 ?_;rw[g1])
  | (with_reducible refine wpAny_isSubtype_exc hC ?_;rw[g2])
  | wp_step)
 exact hq
def Zll (D:Zdo) (i:Nat):Zdo:={nx:=fun σ H=>D.nx (σ.set i none) H,rt:=D.rt,bk:=fun σ H=>D.bk (σ.set i none) H,ct:=fun σ H=>D.ct (σ.set i none) H}
structure JM (K:PySem.W.Frag) (C:Addr):Prop where
 ga:findIn K (.ref C) "__getattribute__" = some (some (.builtin "BaseException.__getattribute__"))
 gx:findIn K (.ref C) "__getattr__" = some none
 gc:findIn K (.ref C) "__class__" = some (some (.builtin "object.__class__"))
 sp:specialIn K (.builtin "object.__class__") "__get__" = some (some (.builtin "getset_descriptor.__get__"))
 tk:takesIn K (.builtin "object.__class__")=some true
 mo:mroIn K C (.type "object")=some true
 mb:mroIn K C (.type "BaseException")=some true
 cl:(clsIn K C).isSome=true
section
variable {prog:Program} {w:World} {A:Around} {E:Value->Shared->Prop} {s:Shared} {K:Frag} {a C:Addr} {o:Obj}
def ExAt (h:Heap) (a C:Addr):Prop:=∃ o,h.get? a=some o/\o.cls= .ref C
theorem ExAt.type {M:Model} (x:ExAt h a C):Looks M h (typeOf (.ref a)) (.ref C):=by
 obtain⟨o,h1,h2⟩:=x;exact h2▸(Looks.ld h1).andThen .now
theorem ZjA {M:Model} (T:JM K C) (X:K.In h):Looks M h (Builtin.ObjectAttr.find (.ref a) (.ref C) "__class__") (.bind (.builtin "getset_descriptor.__get__") (.builtin "object.__class__")):=by
 have l1:=looks_findIn (M:=M) X T.gc;have l2:Looks M h (Builtin.ObjectAttr.getOf (some (.builtin "object.__class__"))) (some (.builtin "getset_descriptor.__get__")):=looks_specialIn X T.sp;have l3:=looks_takesIn (M:=M) X T.tk;have l4:Looks M h (Builtin.ObjectAttr.dataDescriptor? (some (.builtin "object.__class__")) (some (.builtin "getset_descriptor.__get__"))) (some (.builtin "getset_descriptor.__get__",.builtin "object.__class__")):=l3.andThen .now;exact l1.andThen (l2.andThen (l4.andThen (Looks.tag .now)))
theorem ZbX {tp:Value} {R:Result->Shared->Prop} (T:JM K C) (X:K.In s.heap) (x:ExAt s.heap a C) (h:R (.ok (.ret (.ref C))) s) :
  codeAny (model prog w) A (.call (.builtin "getset_descriptor.__get__") ⟨[.builtin "object.__class__",.ref a,tp],[]⟩) R s:=by
 obtain⟨hh,g,dr,t,os⟩:=s;have l0:=x.type (M:=model prog w);have l1:=looks_mroIn (M:=model prog w) X T.mo;refine codeAny_call_builtin
  KF.slot_gs.plain
  KF.entry_gs
  (KF.slot_gs.check _ _ _ _ _ _ _ _
   KF.type_class (KF.args_gs _ _ _) ?_)
 unfold Builtin.«getset_descriptor.__get__»;unfold PySem.Builtin.Getset_descriptor.descrGet;rw[dga_obj];refine wpAny_bind (wpAny_pure ?_);unfold PySem.Builtin.Getset_descriptor.descrGetter;unfold PySem.Builtin.Getset_descriptor.descrCheckInstance;unfold PySem.Builtin.Getset_descriptor.descrNameAndClass;unfold isInstance;simp only[KF.owner_class]
 repeat lk
 refine⟨Code.quiet_builtin _ (by decide +kernel),?_⟩;refine codeAny_builtin KF.entry_class ?_;unfold Builtin.«object.__class__»;unfold shownTypeOf
 repeat lk
 exact h
theorem Zh6 {Q:Option Value->Shared->Prop} (T:JM K C) (X:K.In s.heap) (I:ExAt s.heap a C) (h:Q (some (.ref C)) {s with toks:=s.toks+1}):wpAny (model prog w) A (getAttr? (.ref a) "__class__") Q E s:=by
 obtain⟨hh,g,d,t,os⟩:=s;have L0:=I.type (M:=model prog w);have L1:=looks_findIn (M:=model prog w) X T.ga;have L2:=looks_findIn (M:=model prog w) X T.gx;have L3:=ZjA (M:=model prog w) (a:=a) T X;have L4:=looks_mroIn (M:=model prog w) X T.mb;have hx:(onTheHeap (Value.ref C)&&Value.builtin "BaseException.__getattribute__" == Value.builtin "object.__getattribute__")=false:=by
  have:(Value.builtin "BaseException.__getattribute__" == Value.builtin "object.__getattribute__")=false:=by decide +kernel
  rw[this];rfl
 unfold getAttr? getAttrBy? getAttrBy;refine wpAny_bind (wpAny_mkText (wpAny_bind (wpAny_attempt (wpAny_holding (wpAny_bind (L0.at (wpAny_bind (L1.at ?_))))))));dsimp only;rw[hx];simp only[Wn,if_false];unfold getAttrByItsOwn hookBefore;rw[show onTheHeap (Value.ref C)=true from rfl,if_pos rfl];refine wpAny_bind (L2.at ?_);refine wpAny_bind (wpAny_attempt (wpAny_holding ?_));unfold callGetattribute boundAndCalled;simp only[Rv,Wn,if_false];have FB:=PySem.F.attrBase_ValueError;rw[FB.ga.bind (.ref a)];refine wpAny_bind (wpAny_pure ?_);have hk:builtinKind "BaseException.__getattribute__" = some .slot:=by decide +kernel
 have hsp:splitId "BaseException.__getattribute__" = some ("BaseException","__getattribute__"):=by decide +kernel
 have hargs:=F.args_bexc_ga (.ref a) (.str "__class__" t);refine wpAny_call (codeAny_call_builtin FB.ga.plain F.entry_bexc_ga ?_);show wpAny _ _ (checkBuiltinCall "BaseException.__getattribute__" ⟨[.ref a,.str "__class__" t],[]⟩) _ _ _;simp only[checkBuiltinCall,hk,hsp];refine wpAny_bind ?_;unfold isInstance;refine wpAny_bind (L0.at (L4.at ?_));simp only[Vb,Wn,if_false];refine wpAny_of_eq (a:=()) hargs ?_;show wpAny _ _ (Builtin.«object.__getattribute__» ⟨[.ref a,.str "__class__" t],[]⟩) _ _ _;unfold Builtin.«object.__getattribute__»;refine wpAny_bind (m:=slotArgs _ _ _) (wpAny_pure ?_);dsimp only;refine wpAny_bind (wpAny_pure ?_);refine wpAny_bind (L0.at (wpAny_bind (L3.at ?_)));show wpAny _ _ (holding [Value.builtin "object.__class__"] (call (.builtin "getset_descriptor.__get__") [.builtin "object.__class__",.ref a,.ref C]) >>= ret) _ _ _;refine wpAny_bind (wpAny_holding (wpAny_call (ZbX (s:={heap:=hh,gens:=g,drawn:=d,toks:=t+1,os:=os}) T X I ?_)));exact wpAny_pure (handed_on rfl (wpAny_pure h))
theorem Zfb (T:JM K C):KitX K (.ref a) (.ref C) (fun h=>ExAt h a C) where
 ty:=fun _ _ _ I=>I.type
 it:=fun _ _ X _=>by
  have hc:=T.cl;unfold clsIn at hc;split at hc
  ·rename_i c1 d1 cd1 sl1 ho;intro A1 Q1 E1 s1 k q;unfold isType loadHead;exact wpAny_bind (wpAny_loadPart (k _ _ (X _ _ ho)) (wpAny_pure q))
  ·cases hc
 ne:=fun h tp dd its n sl X htp=>by
  have hc:=T.cl;refine Bool.eq_false_iff.mpr fun q=>?_;have e:C=tp:=Value.ref.inj (beq_iff_eq.mp q);subst e;unfold clsIn at hc;split at hc
  ·rename_i c1 d1 cd1 sl1 ho;cases (X _ _ ho).symm.trans htp
  ·cases hc
 ca:=fun X I k=>Zh6 T X I k
end
theorem ZeR {pn:List (Addr×Obj)} {pins:List (Addr×Obj)} {σ:St} {s:Shared} (I:Inv (X.caught ea pn) pins σ H s) (hm:(ea,oe)∈pn) (hc:oe.cls= .ref C):ExAt s.heap ea C :=
 ⟨oe,(I.pin (ea,oe) (QM _ hm)).1,hc⟩
theorem ZaB {pn:List (Addr×Obj)} (hm:(ea,oe)∈pn):CallR (X.caught ea pn) (.builtin "isinstance") (fun xs H Q=>∃ (c:V) (C:Addr) (cv:Value) (b:Bool),xs=[.ref ea,c]/\oe.cls= .ref C/\JM X.K C/\Zok c=some cv/\kitOne X.K (.ref C) cv=some b/\Q (.bl b) H):=by
 intro pins s σ H xs us Q I r h;obtain⟨c,C,cv,b,rfl,hc,T,rc,e,q⟩:=h;obtain⟨u,w',rfl,ru,rw'⟩:=Zdq r;cases ru;have ec:w'=cv:=by
  cases c with
  | ty n=>exact(show w'=Value.type n from rw').trans (Option.some.inj rc)
  | ref n=>exact(show w'=Value.ref n from rw').trans (Option.some.inj rc)
  | _=>cases rc
 subst ec;exact kia_one (Zfb T) I.kIn (ZeR I hm hc) e (fun z=>nomatch z) fun tk=>⟨.bl b,H,I.tok _,rfl,q⟩
theorem Zip {pn:List (Addr×Obj)} (hm:(ea,oe)∈pn):CallR (X.caught ea pn) (.builtin "isinstance") (fun xs H Q=>∃ (t C:Addr) (cs:List Addr) (b:Bool),xs=[.ref ea,.ref t]/\oe.cls= .ref C/\JM X.K C/\H t=some (.tup (cs.map V.ref)) /\
  kitAny X.K (.ref C) (cs.map Value.ref)=some b/\Q (.bl b) H):=by
 intro pins s σ H xs us Q I r h;obtain⟨t,C,cs,b,rfl,hc,T,ht,e,q⟩:=h;obtain⟨u,w',rfl,ru,rw'⟩:=Zdq r;cases ru;cases rw';obtain⟨_,its,rv,⟨o,h1,h2,n,h3⟩,_⟩:=I.hok t _ ht;have ei:its=cs.map Value.ref:=by
  clear h3;have gen:∀ (cs:List Addr) (its:List Value),Vals (cs.map V.ref) its->its=cs.map Value.ref:=by
   intro cs;induction cs with
   | nil=>intro its r;cases r;rfl
   | cons c cs ih =>
    intro its r;cases r with
    | cons r1 r2 =>
     rw[ih _ r2,show _=Value.ref c from r1];rfl
  exact gen cs its rv
 subst ei;obtain⟨oc,od,odat,osl⟩:=o;have h2':oc= .type "tuple":=h2;have h3':odat= .seq (cs.map Value.ref).toArray n:=h3;subst h2' h3';exact kia_tup (Zfb T) I.kIn (ZeR I hm hc) h1 e (fun z=>nomatch z) fun tk=>⟨.bl b,H,I.tok _,rfl,q⟩
theorem ZnD:Zdk (CXx X.prog X.w) X E0:=fun _ _ _ _ _ _ _ h=>by
 obtain⟨_,_,_,_,_,_,_,_,_,_,_,_,_,_,z⟩:=h;exact z.elim
theorem Zag {p:Pos} {es:List Expr} {t:TA} (G:FOkX X.prog X.w X.K X.mg X.base k name ps sp) (hr:Room k X.A) (ha:PA X (e::es) t) (hg:Gl X name:=by rfl)
  (hdb:(name==("__debug__" : Str))=false:=by decide) (he:starEach (e::es) X.env=(false,eval e X.env)::starEach es X.env:=by rfl) (hpl:(backTo pos (starEach es X.env)).any (·.1)=false:=by rfl) :
  PE X (.Call (.Name name p) (e::es) [] pos) (ZiJ sp [] E0 t):=by
 obtain⟨f,fd,F,b,m,kp⟩:=G.ex;exact ZdP F hr hg m kp b .nil ZnD ha hdb he hpl
theorem ZoI:bootBuiltins "ValueError" = some (.type "ValueError"):=by decide +kernel
theorem Zfc {K:PySem.W.Frag} {v:Value}:PySem.W.kitOne K v v=some true:=by
 unfold PySem.W.kitOne;rw[if_pos (beq_self_eq_true v)]
theorem Zmj {o:Expr} {es:List Expr} {to:TE} {t:TA} {apos cpos:Pos} {T id:String} {r:V->List V->Hp->VK->Prop} (K:PySem.W.Frag) (pa:PlainAttrs T) (slot:Slot T name id) (hty:typeOf (.builtin id)=pure (.type "method_descriptor")) (hm:MtR X id r) (ho:PE X o to) (ha:PA X (e::es) t)
  (hK:X.K=K:=by rfl) (hbase:attributeBase o name X.env (eval o X.env)=eval o X.env:=by rfl)
  (hfew:((backTo cpos (starEach (e::es) X.env)).all (fun x=>!x.1)&&(backToKw cpos (keywordEach [] X.env)).all (fun x=>x.1.isSome)
   && decide ((e::es).length+([]:List Keyword).length+(if ([]:List Keyword).isEmpty then 0 else 1)<30))=true:=by rfl)
  (hline:(apos.endLine==cpos.line)=true:=by rfl) (hs:starEach (e::es) X.env=(false,eval e X.env)::starEach es X.env:=by rfl) (hplain:(backTo cpos (starEach es X.env)).any (·.1)=false:=by rfl) :
  PE X (.Call (.Attribute o name apos) (e::es) [] cpos) (tBM K T r to t):=by
 subst hK;exact Xf pa slot hty hm ho ha hbase hfew hline hs hplain
theorem Z1:MtR X "list.append" Zg2:=ZcL
theorem Zcm {H:Hp}:∀ bs:List Bool,RepA H (bs.map PyData.bool) (bs.map V.bl)
 | []=>by rw[WH,RepA];rfl
 | b::bs=>by
  rw[Qs,RepA];exact⟨.bl b,bs.map V.bl,rfl,by rw[RepD],Zcm bs⟩
theorem Zcn {bs:List Bool} (h:H a=some (.lst (bs.map V.bl))):RepD H (.list (bs.map PyData.bool)) (.ref a):=by
 rw[RepD];exact⟨a,_,rfl,h,Zcm bs⟩
theorem hasDef_mk {K:PySem.W.Frag} {mg:Str->Option Value} {f:Addr} {oc:Value} {od an:Option Addr} {sl:Array (Option Value)} {kV dc pm cd ct:Value} (X:K.In h) (G:h.Ns mainGlobals mg)
  (a:PySem.W.nsIn K mainGlobals name=some (some (.ref f))) (l:K.lookup f=some ⟨oc,od,.func (PySem.W.fnOf name name (Xk st) (Yw st) (Zg st) .none kV dc pm an cd ct),sl⟩) (c:PySem.W.codeIn K cd name=true) (k:PySem.W.keepIn K (.ref f)=true)
  (hb:∀ (kV doc pm:Value) (an:Option Addr) (cdv ct:Value) (us:List Value),us.length=ps.length->bindArgs (PySem.W.fnOf name name (Xk st) (Yw st) (Zg st) .none kV doc pm an cdv ct) ⟨us,[]⟩=pure (ps.zip us)):HasDef K mg name st ps :=
 ⟨_,_,Zh1 (st:=st) l c k,(Zh1 (st:=st) l c k).binds hb,PySem.W.mg_of X G a⟩
abbrev Zng:List Value:=[.type "ValueError",.type "Exception",.type "BaseException",.type "object"]
theorem xattr_mk {K:PySem.W.Frag} (ga:PySem.W.findIn K (.ref C) "__getattribute__" = some (some (.builtin "BaseException.__getattribute__"))) (gx:PySem.W.findIn K (.ref C) "__getattr__" = some none) (gc:PySem.W.findIn K (.ref C) "__class__" = some (some (.builtin "object.__class__"))) (sp:PySem.W.specialIn K (.builtin "object.__class__") "__get__" = some (some (.builtin "getset_descriptor.__get__"))) (tk:PySem.W.takesIn K (.builtin "object.__class__")=some true) (mo:PySem.W.mroIn K C (.type "object")=some true) (mb:PySem.W.mroIn K C (.type "BaseException")=some true) {cv:PySem.ClassData} (cl:PySem.W.clsIn K C=some cv):JM K C:=⟨ga,gx,gc,sp,tk,mo,mb,by rw[cl];rfl⟩
theorem ZlG {K:PySem.W.Frag} {S:Addr} {bmB:List Value} {nw:String} (e:PySem.W.mroIn K C (.ref S)=some true) (q:PySem.W.excIn K C bmB nw=true) (hne:(S==C)=false):(ZfX K C).contains (.ref S)=true:=by
 unfold PySem.W.mroIn PySem.W.clsIn at e;unfold PySem.W.excIn at q;unfold ZfX;cases hl:K.lookup C with
 | none=>rw[hl]at q;cases q
 | some o =>
  rw[hl]at q e;split at q
  ·rename_i dd cd sl e0;injection e0 with e1
   subst e1;split at q
   ·rename_i C1 bm k0 k1 k2 k3 n k5 e2 e3;rw[QQ,QQ,QQ,QQ,QQ]at q;have r1:=beq_iff_eq.mp q.1.1.1.1.1;subst r1;dsimp only[Option.bind]at e ⊢;rw[e2]at e ⊢;injection e with e4
    rw[U7]at e4;rcases(R3 ..).mp e4 with z | z
    ·have z1:=eq_of_beq z;injection z1 with z2
     rw[z2,beq_self_eq_true]at hne;cases hne
    ·exact z
   ·cases q
  ·cases q
theorem Y3 {c:Bool} {A B:Prop} (h:c=true) (a:A):if c=true then A else B:=by rw[if_pos h];exact a
theorem Yu {c:Bool} {A B:Prop} (h:c=false) (b:B):if c=true then A else B:=by rw[h];exact ZfJ b
theorem Zau {a b:Int} (h:¬ a=b):decide (V.int a=V.int b)=false:=decide_eq_false fun q=>h (by injection q)
theorem Za6 {a b:Int} (h:a=b):decide (V.int a=V.int b)=true:=decide_eq_true (congrArg V.int h)
theorem Yr {H1:Hp} {p:Addr} {o:HO} (s:Same H H1) (hp:H p=none):Same H (upd H1 p o):=fun b o' e=>by
 rw[Zl (Zo e hp)];exact s b o' e
open PySem PySem.Spec PyProof.Rows PySem.Builtin.Str
theorem JI {i:Int} (h0:0<=i) (h1:i<=x.length):(Txt.slice x (some i) none).cps.toList=x.cps.toList.drop i.toNat:=by
 rw[eq_of_beq (slice_closes_fromL h0 h1 rfl)];simp[Str.length];exact Q0 (by simp;omega)
theorem YR {n:Int} (h1:0<=n) (h2:n<=1000) (h3:x.length<=1000):MulOk x n:=by
 by_cases c:1<=n
 ·exact L2.mulOk_of c h2 h3
 ·have:n=0:=by omega
  subst this;exact⟨rfl,fun z=>absurd (by decide) z,fun z=>absurd (by decide) z⟩
end L2
namespace Sh
open PySem L2 PyProof.Rows
variable {P:Program} {w:World} {K:PySem.W.Frag} {mg:Str->Option Value} {base:Heap}
variable {i:Nat}
theorem ZW (a:Int) {n:Int} (h:0<n):0<=a % n/\a % n<n:=⟨Int.emod_nonneg _ (by omega),Int.emod_lt_of_pos _ h⟩
theorem ZaE (a b:Str):(a++b).cps.toList=a.cps.toList++b.cps.toList:=by simp[Str.cps_append]
theorem Z9 {a b:Str} (h:a.cps.toList=b.cps.toList):a=b:=by rw[←tx_eta a,←tx_eta b,h]
theorem Z7 (a b:List Nat):tx a++tx b=tx (a++b):=by
 apply Z9;rw[ZaE,Zs,Zs,Zs]
theorem ZhS:∀ l:List (List Nat),(Txt.join "" (l.map tx))=tx l.flatten:=by
 have key:∀ l:List (List Nat),(Str.join "" (l.map tx)).cps.toList=l.flatten:=by
  intro l;induction l with
  | nil=>rfl
  | cons c r ih =>
   cases r with
   | nil=>simp[Str.join,tx]
   | cons d q =>
    have e:Str.join "" ((c::d::q).map tx)=tx c ++ "" ++ Str.join "" ((d::q).map tx):=rfl;have e2:("" : Str).cps.toList=[]:=rfl;rw[e,ZaE,ZaE,ih,e2,Zs,Ud];rfl
 intro l;apply Z9;have:Txt.join "" (l.map tx)=Str.join "" (l.map tx):=StrLaws.glued_eq_join _ _;rw[this,key,Zs]
theorem ZcV:∀ l:List Nat,(l.map fun c=>[c]).flatten=l
 | []=>rfl
 | a::l=>by rw[Qs,WQ,ZcV l];rfl
theorem Zar (l:List Nat):Txt.join "" (l.map fun c=>tx [c])=tx l:=by
 have h:=ZhS (l.map fun c=>[c]);rw[QA,ZcV]at h;exact h
theorem ZcN:(("abcdefghijklmnopqrstuvwxyz" : Str)).cps.toList=(Qq 26).map (· + 97):=by decide +kernel
theorem ZhL {i:Int} (h0:0<=i) (h1:i<26):atI (("abcdefghijklmnopqrstuvwxyz" : Str)).cps.toList i=some (i.toNat+97):=by
 refine ZS h0 ?_;rw[ZcN,Qg,QT (by omega)];rfl
theorem ZnT (xs:List V) (h:xs.length<=63):ZlB xs none (some 63)=xs:=by
 have e1:HT.sIx xs.length 0 none=0:=rfl;have e2:HT.sIx xs.length xs.length (some 63)=xs.length:=by
  unfold HT.sIx;simp;omega
 unfold ZlB;rw[e1,e2];simp
theorem Ji:∀ (ys:List Str) (m:Nat),(∀ y∈ys,y.length<=m)->(ys.map (·.length)).sum<=ys.length*m
 | [],m,_=>by simp
 | y::ys,m,h=>by
  have h1:=Ji ys m fun z hz=>h z (Ql _ hz);have h2:=h y Qj;rw[Qs,Q8,QG,RJ];omega
theorem ZkU (n:Nat) (l:List Nat):((QJ n l).flatten).length=n*l.length:=by
 induction n with
 | zero=>simp
 | succ n ih=>rw[Wf,WQ,Qd,ih,RJ,Nat.add_comm]
theorem Zfn {xs:List V} {v:V} (h:xs[i]?=some v):atI xs (i:Int)=some v:=Zb1 h
theorem Ziu {z:List Nat} {i:Int} (h0:0<=i) (h1:i<z.length):atI (tx z).cps.toList i=some (z.getD i.toNat 0):=by
 refine ZS h0 ?_;rw[Zs,Qb,Qa (by omega)];rfl
theorem Zh {n:Nat} (h:n<=1000):n<=sizeLine:=YA (by omega)
theorem Zf6 {α:Type} {vs:List V} {ns:List α} {f:α->V} (hl:vs.length=ns.length) (hr:∀ (i:Nat) (v:V),vs[i]?=some v->∀ c,ns[i]?=some c->v=f c):vs=ns.map f:=by
 apply QU;intro i;by_cases hi:i<vs.length
 ·have hi':i<ns.length:=by omega
  rw[Qa hi,hr i _ (Qa hi) _ (Qa hi'),Qg,Qa hi'];rfl
 ·rw[Qo (by omega),Qo (by rw[Qc];omega)]
theorem Zaw {α:Type} {ns:List α} {f:α->V} (hi:i<ns.length):(ns.map f).getD i .non=f ns[i]:=by
 rw[Qb,Qg,Qa hi];rfl
theorem Zb9 {α:Type} {ns:List α} {f:α->V} {x:V} (hi:(ns.map f)[i]?=some x):∃ h:i<ns.length,x=f ns[i]:=by
 have h:i<ns.length:=by
  have:=(Qp.mp hi).1;rw[Qc]at this;exact this
 rw[Qg,Qa h]at hi;exact⟨h,(Option.some.inj hi).symm⟩
end Sh
namespace L2
open PySem PySem.Spec PyProof.Rows
end L2
namespace Sh
open PySem L2 PyProof.Rows
variable {P:Program} {w:World} {K:PySem.W.Frag} {mg:Str->Option Value} {base:Heap}
def bg (x:Str):Str:=tx x.cps.toList.dropLast
def en (x:Str):Str:=tx (x.cps.toList.drop 1)
abbrev Es:=List (Str×Int)
def ind (p:Prop) [Decidable p]:Int:=if p then 1 else 0
def mo1 (e:Str×Int) (P:Str):Int:=e.2*ind (bg e.1=P)-e.2*ind (en e.1=P)
def mo (es:Es) (P:Str):Int:=(es.map fun e=>mo1 e P).sum
theorem Zld (es:Es) (e:Str×Int) (P:Str):mo (es++[e]) P=mo es P+mo1 e P:=by
 unfold mo;rw[Qz,Ue];simp
theorem Zd4 (e:Str×Int) (es:Es) (P:Str):mo (e::es) P=mo1 e P+mo es P:=by
 unfold mo;rw[Qs,Q8]
theorem ZhG:∀ {es:Es} {P:Str},(∀ e∈es,bg e.1≠P/\en e.1≠P)->mo es P=0
 | [],_,_=>rfl
 | e::es,P,h=>by
  rw[Zd4,ZhG fun x hx=>h x (Ql _ hx)];obtain⟨h1,h2⟩:=h e (Qj ..);unfold mo1 ind;rw[if_neg h1,if_neg h2];simp
def ups (f:Str->Int) (ss:List Str):Es:=(ss.filter fun x=>decide (0<f x)).map fun x=>(x,f x)
def sm (es:Es):Int:=(es.map fun e=>e.2).sum
theorem ZiF (f:Str->Int) (x:Str) (ss:List Str):sm (ups f (x::ss))=(if 0<f x then f x else 0)+sm (ups f ss):=by
 unfold sm ups;rw[WS];by_cases c:0<f x
 ·rw[if_pos c,if_pos (by simpa using c)];simp
 ·rw[if_neg c,if_neg (by simpa using c)];simp
theorem ZlF {f:Str->Int} {b:Nat} (h:∀ x,(f x).natAbs<=b) (ss:List Str):∀ e∈ups f ss,0<e.2/\e.2<=b:=fun e he=>by
 unfold ups at he;obtain⟨x,hx,rfl⟩:=Qi.mp he;have h1:=(QD.mp hx).2;have h2:=h x;simp at h1;constructor
 ·exact h1
 ·show f x<=b;omega
theorem ZmF:∀ {es:Es} {b:Nat} (P:Str),(∀ e∈es,0<=e.2/\e.2<=b)->(mo es P).natAbs<=b*es.length
 | [],_,_,_=>by simp[mo]
 | e::es,b,P,h=>by
  have ih:=ZmF (es:=es) P fun x hx=>h x (Ql _ hx);obtain⟨h1,h2⟩:=h e (Qj ..);rw[Zd4,QG,Nat.mul_add];have:(mo1 e P).natAbs<=b:=by
   unfold mo1 ind;split <;> split <;> omega
  omega
def pcs (z:List Nat) (L:Nat):List Str:=(Qq (z.length-L+1)).map fun i=>tx ((z.drop i).take L)
def Adj (es:Es) (P y:Str):Prop:=∃ e∈es,(bg e.1=P/\en e.1=y)\/(en e.1=P/\bg e.1=y)
inductive Rch (es:Es) (a:Str):Str->Prop where
 | here:Rch es a a
 | step {P y:Str} (h:Rch es a P) (k:Adj es P y):Rch es a y
theorem Rch.closed {es:Es} {a:Str} {F:Str->Prop} (ha:F a) (hc:∀ P,F P->∀ y,Adj es P y->F y) {y:Str} (h:Rch es a y):F y:=by
 induction h with
 | here=>exact ha
 | step _ k ih=>exact hc _ ih _ k
theorem ZjI {es:Es} {e:Str×Int} {P y:Str}:Adj (es++[e]) P y↔Adj es P y\/(bg e.1=P/\en e.1=y)\/(en e.1=P/\bg e.1=y):=by
 unfold Adj;constructor
 ·rintro⟨x,hx,q⟩;rcases QF.mp hx with z | z
  ·exact .inl ⟨x,z,q⟩
  ·rw[Qm.mp z]at q;exact .inr q
 ·rintro(⟨x,hx,q⟩ | q)
  ·exact⟨x,QM _ hx,q⟩
  ·exact⟨e,by simp,q⟩
end Sh
namespace Tim
open PySem PySem.W PyProof.Rows
section
variable {M:Model} {A:Around} {E:Value->Shared->Prop} {σ:Type}
end
section
variable {prog:Program} {w:World} {A:Around} {E:Value->Shared->Prop}
variable {κ:SortKind} {ϕ:Keyed->Nat} {U:Keyed->Prop} {G:Shared->Prop}
end
section
variable {ϕ:Keyed->Nat} {T o X Y x y:List Keyed}
end
section
variable {prog:Program} {w:World} {A:Around} {E:Value->Shared->Prop} {κ:SortKind} {ϕ:Keyed->Nat} {U:Keyed->Prop} {G:Shared->Prop}
end
section
variable {ϕ:Keyed->Nat} {T O X Y x y:List Keyed}
end
section
variable {prog:Program} {w:World} {A:Around} {E:Value->Shared->Prop} {κ:SortKind} {ϕ:Keyed->Nat} {U:Keyed->Prop} {G:Shared->Prop}
end
section
variable {prog:Program} {w:World} {A:Around} {E:Value->Shared->Prop} {κ:SortKind} {ϕ:Keyed->Nat} {U:Keyed->Prop} {G:Shared->Prop}
end
section
variable {ϕ:Keyed->Nat}
end
section
variable {prog:Program} {w:World} {A:Around} {E:Value->Shared->Prop} {κ:SortKind} {ϕ:Keyed->Nat} {U:Keyed->Prop} {G:Shared->Prop}
end
section
variable {prog:Program} {w:World} {A:Around} {E:Value->Shared->Prop} {κ:SortKind} {ϕ:Keyed->Nat} {U:Keyed->Prop} {G:Shared->Prop}
end
structure WO (n:Nat) (lt:Nat->Nat->Bool):Prop where
 irr:∀ i,i<n->lt i i=false
 tr:∀ i j k,i<n->j<n->k<n->lt i j=true->lt j k=true->lt i k=true
 ntr:∀ i j k,i<n->j<n->k<n->lt k j=true->lt k i=true\/lt i j=true
section
variable {prog:Program} {w:World} {A:Around} {E:Value->Shared->Prop} {s:Shared}
end
structure Znb (prog:Program) (w:World) (h1:Heap) (vs:List Value) (lt:Nat->Nat->Bool) (κ:SortKind):Prop where
 wo:WO vs.length lt
 same:∀ i j,i<vs.length->vs[i]?=vs[j]?->∀ k,lt k i=lt k j
 kd:∀ (A:Around) (E:Value->Shared->Prop) (s:Shared) (Q:SortKind->Shared->Prop),(∀ b o,h1.get? b=some o->s.heap.get? b=some o)->2<=vs.length->Q κ s->wpAny (model prog w) A (keyKind' vs.toArray) Q E s
 ask:∀ (A:Around) (s:Shared) (i j:Nat) (x y:Value) (C:Bool->Shared->Prop),(∀ b o,h1.get? b=some o->s.heap.get? b=some o)->vs[i]?=some x->vs[j]?=some y->(∀ tk,C (lt i j) {s with toks:=tk})->wpAny (model prog w) A (keyLt' κ x y) C (fun _ _=>False) s
section
variable {prog:Program} {w:World} {A:Around} {E:Value->Shared->Prop} {s:Shared}
def ltS (xs:List Str) (i j:Nat):Bool:=decide ((xs.getD i "").cps.toList<(xs.getD j "").cps.toList)
theorem ZmH (xs:List Str) (n:Nat):WO n (ltS xs) where
 irr:=fun i _=>by
  unfold ltS;exact decide_eq_false (Wy _)
 tr:=fun i j k _ _ _ h1 h2=>by
  unfold ltS at *;rw[decide_eq_true_eq]at *;exact UT h1 h2
 ntr:=fun i j k _ _ _ h=>by
  unfold ltS at *;rw[decide_eq_true_eq]at h;rw[decide_eq_true_eq,decide_eq_true_eq];by_cases c:(xs.getD k "").cps.toList<(xs.getD i "").cps.toList
  ·exact .inl c
  ·exact .inr (List.lt_of_le_of_lt (Ul.mp c) h)
theorem strs_at:∀ {vs:List Value} {xs:List Str},StrsAre vs xs->∀ (i:Nat) (v:Value),vs[i]?=some v->∃ t,v= .str (xs.getD i "") t/\xs[i]?=some (xs.getD i "")
 | _,_,.nil,i,v,h=>by simp at h
 | _,_,.cons y t r,0,v,h=>by
  simp at h;exact⟨t,by rw[←h];rfl,rfl⟩
 | _,_,.cons y t r,i+1,v,h=>by
  obtain⟨t',e1,e2⟩:=strs_at r i v (by simpa using h);exact⟨t',by rw[e1];rfl,by simpa using e2⟩
theorem strs_len:∀ {vs:List Value} {xs:List Str},StrsAre vs xs->vs.length=xs.length
 | _,_,.nil=>rfl
 | _,_,.cons y t r=>by simp[strs_len r]
def PrI (h:Heap) (v:Value) (x:Str):Prop:=∃ a o n t y,v= .ref a/\h.get? a=some o/\o.cls= .type "tuple"/\o.data= .seq #[.str x t,y] n
theorem PrI.keep {h h':Heap} {v:Value} {x:Str} (p:PrI h v x) (k:∀ b o,h.get? b=some o->h'.get? b=some o):PrI h' v x:=by
 obtain⟨a,o,n,t,y,e,e1,e2⟩:=p;exact⟨a,o,n,t,y,e,k a o e1,e2⟩
theorem ZhQ {h:Heap}:∀ {vs:List Value} {xs:List Str},xs.length=vs.length->(∀ (i:Nat) (v:Value) (x:Str),vs[i]?=some v->xs[i]?=some x->PrI h v x)->∃ fs,KatTups h vs fs/\fs.length=vs.length/\∀ f∈fs,∃ x t,f= .str x t
 | [],[],_,_=>⟨[],trivial,rfl,fun f hf=>nomatch hf⟩
 | [],_::_,h,_=>by cases h
 | _::_,[],h,_=>by cases h
 | v::vs,x::xs,hl,hv=>by
  obtain⟨a,o,n,t,y,rfl,ha,hc,hd⟩:=hv 0 v x rfl rfl;obtain⟨fs,k,l,q⟩:=ZhQ (vs:=vs) (xs:=xs) (by simpa using hl) fun i v x e1 e2=>hv (i+1) v x e1 e2;refine⟨.str x t::fs,KatTups.cons ha hc hd rfl k,by simp[l],fun f hf=>?_⟩;rcases Qy.mp hf with z | z
  ·exact⟨x,t,z⟩
  ·exact q f z
theorem lt_ne {x y:Str} (h:¬ x.cps.toList<y.cps.toList) (h2:¬ x=y):y.cps.toList<x.cps.toList:=by
 by_cases c:y.cps.toList<x.cps.toList
 ·exact c
 ·have e:=Rh (Ul.mp c) (Ul.mp h);exact absurd (by rw[←L2.tx_eta x,←L2.tx_eta y,e]) h2
theorem Zh7 {v:Value} {Q:Bool->Shared->Prop} (h:Q true s):wpAny (model prog w) A (eqBool v v) Q E s:=by
 unfold eqBool;refine wpAny_holding ?_;rw[if_pos (by simp)];exact wpAny_bind (wpAny_rule (wpAny_pure h))
theorem sa_tups {h1:Heap} {vs:List Value} {xs:List Str} (hl:xs.length=vs.length) (nd:xs.Nodup) (hv:∀ (i:Nat) (v:Value) (x:Str),vs[i]?=some v->xs[i]?=some x->PrI h1 v x):Znb prog w h1 vs (ltS xs) (tuples' ((Value.type "str") != Value.type "tuple")) where
 wo:=ZmH xs _
 same:=fun i j hi e k=>by
  have hj:vs[j]?=some vs[i]:=by rw[←e];exact Qa hi
  have hj2:j<vs.length:=(Qp.mp hj).1;obtain⟨a,o,n,t,y,e1,e2,e3,e4⟩:=hv i vs[i] xs[i] (Qa hi) (Qa (by omega));obtain⟨a',o',n',t',y',e1',e2',e3',e4'⟩:=hv j vs[i] xs[j] hj (Qa (by omega));rw[e1]at e1';cases e1';rw[e2]at e2';cases e2';rw[e4]at e4';have ex:xs[i]=xs[j]:=by
   injection e4' with z1 _
   have:=congrArg (fun a:Array Value=>a[0]?) z1;simp at this;exact this.1
  unfold ltS;rw[Qb,Qb,Qb,Qa (show i<xs.length by omega),Qa (show j<xs.length by omega),ex]
 kd:=fun A E s Q k h2 q=>by
  obtain⟨fs,kt,lf,hf⟩:=ZhQ (h:=s.heap) hl fun i v x e1 e2=>(hv i v x e1 e2).keep k;refine kat_kind (T:=.type "str") kt (by omega) (fun f m=>?_) (by decide) q;obtain⟨x,t,rfl⟩:=hf f m;exact Looks.of_pure rfl
 ask:=fun A s i j x y C k e1 e2 q=>by
  have hi:i<vs.length:=(Qp.mp e1).1;have hj:j<vs.length:=(Qp.mp e2).1;obtain⟨a1,o1,n1,t1,y1,rfl,g1,c1,d1⟩:=(hv i x xs[i] e1 (Qa (by omega))).keep k;obtain⟨a2,o2,n2,t2,y2,rfl,g2,c2,d2⟩:=(hv j y xs[j] e2 (Qa (by omega))).keep k;have el:ltS xs i j=decide (xs[i].cps.toList<xs[j].cps.toList):=by
   unfold ltS;rw[Qb,Qb,Qa (show i<xs.length by omega),Qa (show j<xs.length by omega)];rfl
  by_cases hij:i=j
  ·subst hij;rw[e1]at e2;cases e2;rw[g1]at g2;cases g2;rw[el]at q;rw[decide_eq_false (Wy _)]at q;refine kat_lt g1 d1 g1 d1 ?_;refine kat_cons (Zh7 (kat_yes (kat_cons (Zh7 (kat_yes (kat_nil ?_))))));exact q s.toks
  have hne:¬ xs[i]=xs[j]:=fun z=>hij ((Ua nd).mp z);refine kat_lt g1 d1 g2 d2 (kat_cons (wpAny_eqBool_str ?_));rw[decide_eq_false hne];refine kat_no (kas_lt_str ?_);rw[←el];exact q s.toks
end
end Tim
namespace L2
open PySem PySem.Spec PyProof.Rows PySem.W
variable {J a:Addr} {Q:Value->Shared->Prop} {ep i n:Nat} {h:Heap} {ks:List Str} {o:Obj} {x:Str}
section
variable {prog:Program} {w:World} {A:Around} {E:Value->Shared->Prop} {s:Shared}
theorem JB (h:n<=1000):n<=sizeLine:=by rw[sizeLine_eq];omega
theorem Zmd {xs:List Str} {p:Array Nat} (hl:xs.length=n) (nd:xs.Nodup) (hp:Srt.Pm n p) (h:∀ i j,i<j->j<n->Tim.ltS xs (p.getD j 0) (p.getD i 0)=false):Srt.Up (ltX xs) p n:=fun i j hij hj=>by
 have h1:=h i j hij hj;have bi:=hp.below (show i<n by omega);have bj:=hp.below hj;have ne:=hp.ne (show i<n by omega) hj (by omega);unfold Tim.ltS at h1;unfold ltX;rw[decide_eq_false_iff_not]at h1;rw[decide_eq_true_eq];refine Tim.lt_ne h1 fun e=>ne ?_;rw[Y5 (by omega),Y5 (by omega)]at e;exact((Ua nd).mp e).symm
end
theorem ZdR {X:Cx} {pins:List (Addr×Obj)} {σ:St} {H:Hp} {s:Shared} {h3:Heap} {tk:Nat} {D:Addr} {vs:List V} (I:Inv X pins σ H s) (k:∀ b u,s.heap.get? b=some u->h3.get? b=some u) (hD:s.heap.get? D=none) (hz:vs.length<=sizeLine)
  (ho:∃ (its:List Value) (n:Nat),Vals vs its/\h3.get? D=some {cls:=.type "list",data:=.seq its.toArray n}):H D=none/\Inv X pins σ (upd H D (.lst vs)) {s with heap:=h3,toks:=tk}:=by
 have hn:H D=none:=by
  cases e:H D with
  | none=>rfl
  | some u =>
   obtain⟨v,hv⟩:=(I.hok D u e).there';rw[hD]at hv;cases hv
 refine⟨hn,?_⟩;have:=I.laidN (N:=fun b=>if b=D then some (.lst vs)else none) (tk:=tk) k fun a o e=>by
  by_cases c:a=D
  ·subst c;rw[if_pos rfl]at e;cases e;exact⟨hD,fun H2=>⟨hz,ho⟩⟩
  ·rw[if_neg c]at e;cases e
 have e:(fun b=>(if b=D then some (HO.lst vs)else none).or (H b))=upd H D (.lst vs):=by
  funext b
  by_cases c:b=D
  ·subst c;rw[if_pos rfl,Rw,Zd]
  ·rw[if_neg c,UM,Zl c]
 rw[e]at this;exact this
theorem Js {α:Type} {d:α} (ks:List α) (p:Array Nat) (hp:Srt.Pm ks.length p):(p.toList.map fun i=>ks.getD i d).Perm ks:=by
 have h1:=(UH.mp hp.perm).map fun i=>ks.getD i d;have h2:((Qq ks.length).toArray.toList.map fun i=>ks.getD i d)=ks:=by
  apply QU;intro i;simp only[Qg];by_cases hi:i<ks.length
  ·rw[QT hi,Qa hi,Wd,Qb,Qa hi];rfl
  ·rw[Qo (by simp;omega),Qo (by omega)];rfl
 rw[h2]at h1;exact h1
theorem ZfB {p:Array Nat} (hp:Srt.Pm n p) (hi:i<p.toList.length):p.getD i 0=p.toList[i]:=by
 rw[Wa,Q6 (by simpa using hi)];simp
theorem ZlW {xs:List Str} {p:Array Nat} (hp:Srt.Pm xs.length p) (h:∀ i j,i<j->j<xs.length->Tim.ltS xs (p.getD j 0) (p.getD i 0)=false):((p.toList.map fun i=>xs.getD i "").map fun x=>x.cps.toList).Pairwise (·<=·):=by
 rw[QA,QY,Uj];intro i j hi hj hij;have hz:p.toList.length=xs.length:=by rw[QK,hp.size]
 have hu:=h i j hij (by omega);unfold Tim.ltS at hu;rw[decide_eq_false_iff_not,ZfB hp hi,ZfB hp hj]at hu;exact Ul.mp hu
theorem Zhi:∀ {ks:List Str} {g:Str->V} {vs:List (Key×Value)},KV (ks.map fun x=>((Sum.inr x:Key),g x)) vs->∀ (i:Nat) (k:Key) (x:Value),vs[i]?=some (k,x)->k=Sum.inr (ks.getD i "")/\i<ks.length:=by
 intro ks g vs kv i k x e;have ek:=congrArg (fun l:List Key=>l[i]?) kv.keys;simp only[Qg]at ek;rw[e]at ek;cases z:ks[i]? with
 | none=>rw[z]at ek;cases ek
 | some y =>
  rw[z]at ek;refine⟨?_,(Qp.mp z).1⟩;rw[Qb,z];exact(Option.some.inj ek).symm
open PySem PySem.Spec PyProof.Rows
theorem ZgW {t t':SetTable} {hs:Array Int} {od:Array Nat} (h:t.relaid hs n=some (t',od)):t'.led=t.led/\t'.plain=t.plain:=by
 unfold SetTable.relaid SetTable.laid at h;cases e:SetTable.layClean (SetTable.sizeAbove n-1) hs with
 | none=>rw[e]at h;cases h
 | some ow =>
  rw[e]at h;obtain⟨h1,_⟩:=Prod.mk.inj (Option.some.inj h);rw[←h1];exact⟨rfl,rfl⟩
theorem ZiZ (t:SetTable) (es:Array (Int×Value)) (n:Nat):(relayAll t es n).2.1.led=t.led/\(t.plain=false->(relayAll t es n).2.1.plain=false):=by
 unfold relayAll;split
 ·rename_i t' od e;obtain⟨e1,e2⟩:=ZgW e;dsimp only;split
  ·exact⟨e1,fun h=>by rw[e2];exact h⟩
  ·exact⟨rfl,fun _=>rfl⟩
 ·exact⟨rfl,fun _=>rfl⟩
theorem ZmK (t:SetTable) (es:Array (Int×Value)) (hh:Int) (x:Value):(layNew t es hh x).2.1.led=t.led/\(t.plain=false->(layNew t es hh x).2.1.plain=false):=by
 unfold layNew;split
 ·dsimp only;unfold SetTable.orStandIn;split
  ·exact⟨rfl,fun h=>h⟩
  ·exact⟨rfl,fun _=>rfl⟩
 ·exact⟨rfl,fun _=>rfl⟩
def byT (w:World):Bool:=w.params.followText "set-order"
structure StT (prog:Program) (w:World) (h:Heap) (a:Addr) (ks:List Str) (o:Obj) (es:Array (Int×Value)) (ep:Nat) (t:SetTable):Prop where
 ob:h.get? a=some o
 ex:o.ExactSet
 dt:o.data= .set es ep t
 el:ElemsOf (Zz prog w) es.toList
 mem:∀ k:Key,(∃ x,k=Sum.inr x/\x∈ks)↔∃ e∈es.toList,(Zz prog w).is k e.2=true
 len:es.size=ks.length
 nd:ks.Nodup
 fits:t.fits es.size=true
 led:t.led= !byT w
 plain:ks≠[]->t.plain=false
def SetT (prog:Program) (w:World) (h:Heap) (a:Addr) (ks:List Str):Prop:=∃ o es ep t,StT prog w h a ks o es ep t
section
variable {prog:Program} {w:World} {A:Around} {E:Value->Shared->Prop} {s:Shared}
theorem SetT.keep {h':Heap} (x:SetT prog w h a ks) (k:∀ o,h.get? a=some o->h'.get? a=some o):SetT prog w h' a ks:=by
 obtain⟨o,es,ep,t,q⟩:=x;exact⟨o,es,ep,t,{q with ob:=k o q.ob}⟩
def ZfV (ks:List Str) (x:Str):List Str:=if x∈ks then ks else ks++[x]
theorem addS_mem {y:Str}:y∈ZfV ks x↔y∈ks\/y=x:=by
 unfold ZfV;split
 ·rename_i c;exact⟨.inl,fun h=>h.elim id fun e=>e▸c⟩
 ·simp
theorem Zlx (h:ks.Nodup):(ZfV ks x).Nodup:=by
 unfold ZfV;split
 ·exact h
 ·rename_i c;exact WA.mpr ⟨h,by simp,fun a ha b hb e=>by rw[Qm.mp hb]at e;subst e;exact c ha⟩
theorem ZjK (ks:List Str) (x:Str):(ZfV ks x).length<=ks.length+1:=by
 unfold ZfV;split <;> simp
theorem ZeB {es es':Array (Int×Value)} {t t':SetTable} (ho:h.get? a=some o) (hd:o.data= .set es ep t):(h.update a (Obj.putSet es' t')).get? a=some {o with data:=.set es' (ep+1) t'}:=by
 have:=Ww (Obj.putSet es' t') ho (by rw[putSet_of es' t' hd];rfl);rw[putSet_of es' t' hd]at this;exact this
theorem Zex {gg:Bool->Sem Unit} (hgg:∀ (b:Bool) (s₁:Shared) (Q':Unit->Shared->Prop),Q' () s₁->wpAny (model prog w) A (gg b) Q' E s₁) {es es1:Array (Int×Value)} {t t2:SetTable} (ho:s.heap.get? a=some o) (hd:o.data= .set es ep t)
  (S:∀ (h:Heap) (ob:Obj) (ep1:Nat) (es2:Array (Int×Value)) (t3:SetTable),h.get? a=some ob->ob.ExactSet->ob.data= .set es2 ep1 t3->List.Perm es2.toList es1.toList->t3.fits es2.size=true->t3.led=t2.led->(t2.plain=false->t3.plain=false)->SetT prog w h a ks) (hx:o.ExactSet) (hb:es1.size<scanBound) (hf:t2.fits es1.size=true) {wd:Bool} {R:Option Bool->Shared->Prop}
  (q:∀ h1,Heap.SameBut a s.heap h1->SetT prog w h1 a ks->R (some true) {s with heap:=h1}) :
  wpAny (model prog w) A (do
    storeSet a es1 t2
    if (!wd&&t2.tooFull)=true then do
      gg (relayAll t2 es1 (SetTable.grown es1.size)).2.2
      storeSet a (relayAll t2 es1 (SetTable.grown es1.size)).1 (relayAll t2 es1 (SetTable.grown es1.size)).2.1
      pure (some true)
     else pure (some true)) R E s:=by
 refine wpAny_bind (wpAny_storeSet_of ho hd ?_ (fits_of_scanBound hb));have o1:=ZeB (es':=es1) (t':=t2) ho hd;have m1:=Heap.SameBut.update s.heap a (Obj.putSet es1 t2);split
 ·have p:=relayAll_perm t2 es1 (SetTable.grown es1.size);have f:=relayAll_fits t2 es1 (SetTable.grown es1.size);obtain⟨l1,l2⟩:=ZiZ t2 es1 (SetTable.grown es1.size);generalize relayAll t2 es1 (SetTable.grown es1.size)=rl at p f l1 l2 ⊢;have sz:rl.1.size=es1.size:=by rw[←QK,p.length_eq,QK]
  refine wpAny_bind (hgg _ _ _ (wpAny_bind (wpAny_storeSet_of o1 rfl ?_ (fits_of_scanBound (by rw[sz];exact hb)))));exact wpAny_pure (q _ (m1.trans (Heap.SameBut.update _ a _)) (S _ _ _ rl.1 rl.2.1 (ZeB o1 rfl) hx rfl p f l1 l2))
 ·exact wpAny_pure (q _ m1 (S _ _ _ es1 t2 o1 hx rfl (List.Perm.refl _) hf rfl fun z=>z))
theorem ZkL {tk:Tok} {Q:Bool->Shared->Prop} (hS:SetT prog w s.heap a ks) (hroom:ks.length+1<scanBound)
  (q:∀ (r:Bool) (h1:Heap),Heap.SameBut a s.heap h1->SetT prog w h1 a (ZfV ks x)->Q r {s with heap:=h1}):wpAny (model prog w) A (setAddHashed a (.str x tk) ((Zz prog w).hash (Sum.inr x))) Q E s:=by
 obtain⟨o,es,ep,t,T⟩:=hS;have hkey:(Zz prog w).is (Sum.inr x:Key) (.str x tk)=true:=XI prog w x tk;have hb:es.size<scanBound:=by rw[T.len];omega
 unfold setAddHashed setAddHashedIn;refine wpAny_holding (wpAny_bind (wpAny_setState_of T.ob T.dt T.fits ?_));dsimp only;rw[byScan_of (knd:=Zz prog w) rfl hb T.el];simp only[↓reduceIte];unfold setAddByScan;refine wpAny_bind (wpAny_bind (wpAny_rule (wpAny_bind (wpAny_setScan_of hkey T.ob T.dt T.fits T.el ?_))));cases hr:List.findIdx? (fun e=>(Zz prog w).is (Sum.inr x:Key) e.2) es.toList with
 | some j =>
  dsimp only;obtain⟨hj,hpj,_⟩:=List.findIdx?_eq_some_iff_getElem.mp hr;obtain⟨y,ey,hy⟩:=(T.mem (Sum.inr x)).mpr ⟨es.toList[j],QB hj,hpj⟩;cases ey;refine wpAny_pure (wpAny_pure ?_);have es0:s={s with heap:=s.heap}:=by cases s;rfl
  rw[es0];refine q _ s.heap (Heap.SameBut.refl a s.heap) ?_;unfold ZfV;rw[if_pos hy];exact⟨o,es,ep,t,T⟩
 | none =>
  dsimp only;have hx:x∉ks:=fun hx=>by
   obtain⟨e,he,hp⟩:=(T.mem (Sum.inr x)).mp ⟨x,rfl,hx⟩;have:=List.findIdx?_eq_none_iff.mp hr e he;rw[hp]at this;cases this
  have perm:=layNew_perm t es ((Zz prog w).hash (Sum.inr x)) (.str x tk);have fit:=layNew_fits t es ((Zz prog w).hash (Sum.inr x)) (.str x tk);obtain⟨l1,l2⟩:=ZmK t es ((Zz prog w).hash (Sum.inr x)) (.str x tk);generalize layNew t es ((Zz prog w).hash (Sum.inr x)) (.str x tk)=L at perm fit l1 l2 ⊢;obtain⟨es1,t1,wd,gave⟩:=L;dsimp only at perm fit l1 l2 ⊢;rw[RQ]at perm;have sz1:es1.size=ks.length+1:=by rw[←QK,perm.length_eq,Qd,QK,T.len];rfl
  refine wpAny_bind ?_;have hgw:∀ (b:Bool) (s₁:Shared) (Q':Unit->Shared->Prop),Q' () s₁->wpAny (model prog w) A (match b with | true=>rule "set.scan.the-table-gave-way" | false=>pure ()) Q' E s₁:=fun b s₁ Q' hq=>by cases b <;> first | exact wpAny_pure hq | exact wpAny_rule hq
  refine hgw gave _ _ ?_;have mk:∀ (t2:SetTable),t2.led=t1.led->t2.plain=false->∀ (h:Heap) (ob:Obj) (ep1:Nat) (es2:Array (Int×Value)) (t3:SetTable),h.get? a=some ob->ob.ExactSet->ob.data= .set es2 ep1 t3->List.Perm es2.toList es1.toList->t3.fits es2.size=true->t3.led=t2.led->(t2.plain=false->t3.plain=false)->SetT prog w h a (ZfV ks x):=by
   intro t2 e1 e2 h ob ep1 es2 t3 c1 c2 c3 c4 c5 c6 c7;have pp:=c4.trans perm;refine⟨ob,es2,ep1,t3,c1,c2,c3,(T.el.push hkey rfl).perm pp,fun k=>?_,?_,Zlx T.nd,c5,by rw[c6,e1,l1,T.led],fun _=>c7 e2⟩
   ·constructor
    ·rintro⟨y,rfl,hy⟩;rcases addS_mem.mp hy with z | z
     ·obtain⟨e,he,hp⟩:=(T.mem (Sum.inr y)).mp ⟨y,rfl,z⟩;exact⟨e,pp.mem_iff.mpr (QM _ he),hp⟩
     ·subst z;exact⟨_,pp.mem_iff.mpr (QH _ (Qm.mpr rfl)),hkey⟩
    ·rintro⟨e,he,hp⟩;rcases QF.mp (pp.mem_iff.mp he)with z | z
     ·obtain⟨y,ey,hy⟩:=(T.mem k).mpr ⟨e,z,hp⟩;exact⟨y,ey,addS_mem.mpr (.inl hy)⟩
     ·rw[Qm.mp z]at hp;exact⟨x,(Zz prog w).inj _ _ _ hp hkey,addS_mem.mpr (.inr rfl)⟩
   ·rw[←QK,c4.length_eq,QK,sz1];unfold ZfV;rw[if_neg hx,Qd];rfl
  split
  ·refine wpAny_bind ?_;rw[hashByValue_scannable 8 (x:=.str x tk) rfl];refine wpAny_pure ?_;refine Zex (t2:=if plainKind (.str x tk)=true then t1 else {t1 with plain:=false}) hgw T.ob T.dt (mk _ rfl rfl) T.ex (by rw[sz1];exact hroom) (SetTable.fits_plain_off fit) fun h1 m hS'=>?_;exact wpAny_pure (q _ h1 m hS')
  ·rename_i hpl;refine wpAny_bind (wpAny_pure ?_);simp only[↓reduceIte];refine Zex hgw T.ob T.dt (mk t1 rfl (by simpa using hpl)) T.ex (by rw[sz1];exact hroom) fit fun h1 m hS'=>?_;exact wpAny_pure (q _ h1 m hS')
end
def met (val:Nat->Str):Nat->List Str
 | 0=>[]
 | i+1=>ZfV (met val i) (val i)
theorem Zd6 (val:Nat->Str):∀ i,(met val i).length<=i
 | 0=>Qk _
 | i+1=>by
  have:=ZjK (met val i) (val i);have:=Zd6 val i;show(ZfV _ _).length<=_;omega
theorem ZhI (val:Nat->Str):∀ i x,x∈met val i↔∃ j,j<i/\val j=x
 | 0,x=>by simp[met]
 | i+1,x=>by
  show x∈ZfV _ _↔_;rw[addS_mem,ZhI val i x];constructor
  ·rintro(⟨j,hj,e⟩ | e)
   ·exact⟨j,by omega,e⟩
   ·exact⟨i,by omega,e.symm⟩
  ·rintro⟨j,hj,e⟩;by_cases c:j=i
   ·subst c;exact .inr e.symm
   ·exact .inl ⟨j,by omega,e⟩
section
variable {prog:Program} {w:World} {A:Around} {R:Result->Shared->Prop} {J:Addr} {fp wr:List Addr} {G:Array GenState->Array GenState->Prop} {n:Nat} {P:Nat->Value->Prop} {St:Nat->Shared->Prop}
theorem Zf7 (W:WalksS prog w A.in1 J fp wr G n P St) (S:Addr) (hSf:S∉fp) (val:Nat->Str) (hval:∀ i v,P i v->∃ t,v= .str (val i) t) (hb:n+1<scanBound) :
  ∀ (k i:Nat) (s:Shared),n-i=k->i<=n->St i s->SetT prog w s.heap S (met val i)->(∀ s',Moved (S::wr) G s s'->SetT prog w s'.heap S (met val n)->R (.ok (.ret .none)) s') ->
   codeAny (model prog w) A (.builtin "set.update.loop" ⟨[.ref S,.ref J],[]⟩) R s:=by
 have hSw:S∉wr:=fun h=>hSf (W.sub _ h);have hsub:∀ b∈wr,b∈S::wr:=fun b hb=>Ql _ hb;intro k;induction k with
 | zero =>
  intro i s hk hi hst hS hR;have hin:i=n:=by omega
  subst hin;refine codeAny_builtin PyProof.Rows.F.entry_set_update_loop ?_;rw[Around.under_plainId PyProof.Rows.F.plain_set_update_loop _];refine(show wpAny _ A.in1 (pyNext (.ref J) >>= _) _ _ s from wpAny_bind (W.done s _ _ hst fun s1 mv=>?_));exact(show wpAny _ A.in1 (ret Value.none) _ _ s1 from wpAny_pure (hR s1 (mv.mono hsub) (hS.keep fun o e=>mv.heap S o hSw e)))
 | succ k ih =>
  intro i s hk hi hst hS hR;have hlt:i<n:=by omega
  refine codeAny_builtin PyProof.Rows.F.entry_set_update_loop ?_;rw[Around.under_plainId PyProof.Rows.F.plain_set_update_loop _];refine(show wpAny _ A.in1 (pyNext (.ref J) >>= _) _ _ s from wpAny_bind (W.item i s _ _ hlt hst fun v s1 hP hst1 mv=>?_));obtain⟨t,rfl⟩:=hval i v hP;have hS1:SetT prog w s1.heap S (met val i):=hS.keep fun o e=>mv.heap S o hSw e;refine(show wpAny _ A.in1 (holding [Value.str (val i) t] (setAdd S (.str (val i) t)) >>= _) _ _ s1 from wpAny_bind (wpAny_holding ?_));unfold setAdd;refine wpAny_holding (wpAny_bind ((Zz prog w).pyHash (k:=(Sum.inr (val i):Key)) (XI prog w (val i) t) ?_));refine ZkL (s:={s1 with toks:=s1.toks+1}) hS1 (by have:=Zd6 val i;omega) fun r h1 sb hS2=>?_;refine wpAny_pure ⟨plainId_quiet PyProof.Rows.F.plain_set_update_loop _,ih (i+1) _ (by omega) hlt (W.frame _ s1 _ _ hst1 (WR _) fun b hb o e=>?_) hS2 fun s2 mv2 hS3=>?_⟩
  ·rw[sb.2 b (fun h:b=S=>hSf (by rw[←h];exact hb))];exact e
  ·refine hR s2 (Moved.trans W.gtrans ((mv.mono hsub).then_heap (WR _) fun b o hb e=>?_) mv2) hS3;rw[sb.2 b (fun h:b=S=>hb (by rw[h];exact Qj))];exact e
end
section
variable {prog:Program} {w:World} {A:Around} {E:Value->Shared->Prop} {s:Shared}
theorem Zk6 (a:Value) {Q1:Value->Shared->Prop}
  (q:Q1 (.ref s.heap.objs.size) {s with heap:=s.heap.push {cls:=.type "set",dict:=none,data:=.set #[] 0 (.fresh 0 0 (!byT w))}}) :
  codeAny (model prog w) A (.call (.builtin "set.__new__") ⟨[.type "set",a],[]⟩) (wants Q1 E) s:=by
 refine codeAny_of_tree ?_;refine(show wpAny _ A.in1 (do checkBuiltinCall "set.__new__" ⟨[.type "set",a],[]⟩;again (.builtin "set.__new__" ⟨[.type "set",a],[]⟩)) _ _ s from wpAny_bind (wpAny_of_eq (PySem.F.newCall_set_1 a) (wpAny_pure ⟨plainId_quiet PySem.F.plain_set_new _,codeAny_builtin PySem.F.entry_set_new ?_⟩)));rw[Around.under_plainId PySem.F.plain_set_new _];unfold Builtin.«set.__new__» Builtin.Frozenset.newClass;have hsub:=sub_set_self;obtain⟨hp,gg,dd,tk,os⟩:=s;dsimp only
 wp_walk
 refine wpAny_askSetting (wpAny_pure ?_);dsimp only;simp only[newObj];exact wpAny_bind (wpAny_alloc (wpAny_pure (wpAny_pure q)))
theorem Zh3 (e:h.get? a=some {cls:=.type "set",dict:=none,data:=.set #[] 0 (.fresh 0 0 (!byT w))}):SetT prog w h a [] :=
 ⟨_,#[],0,_,e,⟨rfl,rfl,rfl⟩,rfl,fun e he=>by simp at he,fun k=>by simp,rfl,Uo,by rfl,rfl,fun z=>absurd rfl z⟩
theorem Zin {l:Addr} {items:Array Value} {ss:List Str} (hh:A.handled=none) (hl:s.heap.IsList l items) (hi:StrsAre items.toList ss) (hb:items.size+1<scanBound)
  (q:∀ (h1:Heap) (tk:Nat),SetT prog w h1 s.heap.objs.size (met (fun i=>ss.getD i "") items.size)->(∀ b o,s.heap.get? b=some o->h1.get? b=some o)->Q (.ref s.heap.objs.size) {s with heap:=h1,toks:=tk}) :
  wpAny (model prog w) A (call (.type "set") [.ref l]) Q E s:=by
 obtain⟨c,tl,hmro⟩:=PySem.F.called_set.mro;have hmade:=PySem.F.called_set.made;have hsub:=PySem.F.called_set.sub;refine wpAny_call (codeAny_of_tree ?_);refine(show wpAny _ _ (callAny (.type "set") _) _ _ _ from wpAny_pure ⟨Code.quiet_builtin _ (by decide +kernel),codeAny_builtin PySem.F.entry_type_call ?_⟩);rw[Around.under_plain (weight_type_call_type "set" [.ref l] []) rfl];have h1:=PySem.F.called_set.notType;have h2:=PySem.F.called_set.canCreate;have hct:=PySem.F.typeCall_set_1 (.ref l)
 repeat (any_goals (first | assumption | wp_step))
 refine codeAny_mono (Zk6 (.ref l) (E:=E) (Q1:=fun obj s1=>obj= .ref s.heap.objs.size/\s1={s with heap:=s.heap.push {cls:=.type "set",dict:=none,data:=.set #[] 0 (.fresh 0 0 (!byT w))}}) ⟨rfl,rfl⟩) fun r s1 hr=>?_;cases r with
 | error e=>exact hr
 | ok fl =>
  cases fl with
  | ret obj =>
   obtain⟨rfl,rfl⟩:=hr;have gS:(s.heap.push {cls:=.type "set",dict:=none,data:=.set #[] 0 (.fresh 0 0 (!byT w))}).get? s.heap.objs.size=some {cls:=.type "set",dict:=none,data:=.set #[] 0 (.fresh 0 0 (!byT w))}:=Qx _ rfl;have hT:Shared.TypeIs {s with heap:=s.heap.push {cls:=.type "set",dict:=none,data:=.set #[] 0 (.fresh 0 0 (!byT w))}} (.ref s.heap.objs.size) "set":=⟨_,gS,rfl⟩
   have hli:=PySem.F.called_set.init.lookup;have hbi:=PySem.F.called_set.init.bind (.ref s.heap.objs.size)
   repeat (any_goals (first | assumption | wp_step))
   refine codeAny_mono (codeAny_call_builtin (R:=wants (fun r s2=>r= .none/\∃ g tk,s2={s with heap:=g,toks:=tk}/\SetT prog w g s.heap.objs.size (met (fun i=>ss.getD i "") items.size)/\(∀ b o,s.heap.get? b=some o->g.get? b=some o)) E) PySem.F.called_set.init.plain PySem.F.entry_set_init (check_set_init_1 hT ?_)) fun r2 s2 hr2=>?_
   ·obtain⟨ol,hol,hcl,nl,hdl⟩:=hl;obtain⟨ocls,odict,odata,oslots⟩:=ol;simp only at hcl hdl;subst hcl;subst hdl;have hol':(s.heap.push {cls:=.type "set",dict:=none,data:=.set #[] 0 (.fresh 0 0 (!byT w))}).get? l=some {cls:=.type "list",dict:=odict,data:=.seq items nl,slots:=oslots}:=Qh _ hol;have hsls:=PySem.F.sub_list_set;have hslf:=PySem.F.sub_list_frozenset;have hne:(Value.type "list" == Value.type "dict")=false:=by decide
    have hl1:(s.heap.push {cls:=.type "set",dict:=none,data:=.set #[] 0 (.fresh 0 0 (!byT w))}).IsList l items:=⟨_,hol',rfl,nl,rfl⟩
    unfold Builtin.«set.__init__» noKeywords Builtin.Frozenset.updateFrom;generalize hPI:pyIter=PI
    wp_walk
    subst hPI;refine wpAny_pyIter_list hl1 (wpAny_bind (wpAny_runValue ?_));have hlS:l<s.heap.objs.size:=Qu hol;have hh3:A.in1.in1.in1.handled=none:=by simp[hh]
    have hneI:l≠(s.heap.push {cls:=.type "set",dict:=none,data:=.set #[] 0 (.fresh 0 0 (!byT w))}).objs.size:=by
     rw[Um];exact QC (Uz hlS)
    have hSf:s.heap.objs.size∉[(s.heap.push {cls:=.type "set",dict:=none,data:=.set #[] 0 (.fresh 0 0 (!byT w))}).objs.size,l]:=by
     rw[Um];simp only[Qy,WU,or_false,not_or];exact⟨QC (UF _),Rg hlS⟩
    have hval:∀ (i:Nat) (v:Value),items[i]?=some v->∃ t,v= .str ((fun i=>ss.getD i "") i) t:=fun i v hv=>by
     obtain⟨t,e,_⟩:=Tim.strs_at hi i v (by rw[Wv];exact hv);exact⟨t,e⟩
    refine Zf7 ((Walks.list hh3 _ l hneI items).toS) s.heap.objs.size hSf (fun i=>ss.getD i "") hval hb (items.size-0) 0 _ (by omega) (QV _)
     ⟨⟨_,Qx _ rfl,rfl,rfl⟩,(hl1.push _)⟩ (Zh3 (Qh _ gS)) ?_
    intro s3 mv hS3;obtain⟨h3,g3,d3,t3,o3⟩:=s3;have eg:g3=s.gens:=mv.gens;have ed:d3=s.drawn:=mv.drawn;have eo:o3=s.os:=mv.os;subst eg;subst ed;subst eo;refine wpAny_pure (show wpAny _ _ (ret Value.none) _ _ _ from wpAny_pure ⟨rfl,h3,t3,rfl,hS3,fun b o e=>?_⟩);have hb0:b<s.heap.objs.size:=Qu e;have hb2:b≠(s.heap.push {cls:=.type "set",dict:=none,data:=.set #[] 0 (.fresh 0 0 (!byT w))}).objs.size:=by
     rw[Um];exact QC (Uz hb0)
    exact mv.heap b o (by simp only[Qy,WU,or_false,not_or];exact⟨QC hb0,hb2⟩) (Qh _ (Qh _ e))
   ·cases r2 with
    | error e=>exact hr2
    | ok fl2 =>
     cases fl2 with
     | ret r =>
      obtain⟨rfl,g,tk,rfl,hS',hk'⟩:=hr2
      repeat (any_goals (first | assumption | wp_step))
      exact q _ _ hS' hk'
     | _=>exact hr2
  | _=>exact hr
end
theorem si_slot:Slot "set_iterator" "__next__" "set_iterator.__next__" :=
 .of (owner:="set_iterator") (n:="__next__") (by rw[typeLookup_type,builtinLookup_eq_fast];kernel_rfl) (by decide +kernel) (by decide +kernel) (by decide +kernel) (by first | exact .inl (by decide +kernel) | exact .inr (by decide +kernel)) (by rw[isSubtype_type];kernel_rfl)
theorem Xq:entryFor table "set_iterator.__next__" = some Builtin.«set_iterator.__next__»:=entryFor_of_fast (by kernel_rfl)
theorem Jn (a:Value):argsOk "set_iterator.__next__" ⟨[a],[]⟩:=by unfold argsOk;kernel_rfl
theorem ZiM:entryFor table "set.__iter__" = some Builtin.«frozenset.__iter__» :=
 entryFor_alias (id':="frozenset.__iter__") (by kernel_rfl) (by first | rfl | decide +kernel | (unfold String.splitOn;simp +decide [String.splitOnAux])) (by decide +kernel) (by kernel_rfl)
theorem Zbb {α:Type} {l:List α} (h:i<l.length):(l[i]::l.eraseIdx i).Perm l:=by
 rw[List.eraseIdx_eq_take_drop_succ];have e:l=l.take i++l[i]::l.drop (i+1):=by rw[←Wt h,WD]
 conv=>rhs;rw[e]
 exact WV.symm
theorem Zg8 {α:Type} (next:Nat->Nat):∀ (f k:Nat) (left:List α) (out:Array α),left.length<=f->(pickOrder.go next f k left out).toList.Perm (out.toList++left)
 | 0,k,left,out,h=>by
  have:left=[]:=WP.mp (by omega);subst this;unfold pickOrder.go;simp
 | f+1,k,[],out,h=>by
  unfold pickOrder.go;simp
 | f+1,k,x::left,out,h=>by
  unfold pickOrder.go;have hi:next k % (x::left).length<(x::left).length:=Nat.mod_lt _ (by simp);rw[Qa hi];dsimp only;refine(Zg8 next f (k+1) _ _ ?_).trans ?_
  ·rw[RB,if_pos hi];simp at h ⊢;omega
  ·rw[RQ,Q9];exact List.Perm.append_left _ (Zbb hi)
theorem Zae {α:Type} (next:Nat->Nat) (xs:Array α):(pickOrder next xs).toList.Perm xs.toList:=by
 unfold pickOrder;have:=Zg8 next xs.size 0 xs.toList #[] (by simp);simpa using this
abbrev Zb3 (h:Heap) (J:Addr) (f:Value) (i:Nat) (a:Addr) (n ep:Nat):Prop:=h.get? J=some {cls:=.type "set_iterator",dict:=none,data:=.fields #[f,.int i 0,.ref a,.int n 0,.int ep 0],slots:=#[]}
section
variable {prog:Program} {w:World} {A:Around} {E:Value->Shared->Prop} {s:Shared}
theorem Zb4 {src:Source} {Q:Nat->Shared->Prop} (hn:n≠0) (h:∀ i d,i<n->Q i {s with drawn:=d}):wpAny (model prog w) A (choose src n) Q E s :=
 fun _ _ _=>⟨hn,h _ _ (Nat.mod_lt _ (Nat.pos_of_ne_zero hn))⟩
theorem ZcY {α:Type}:∀ (n:Nat) (xs:List α) (s:Shared) {Q:List α->Shared->Prop},xs.length<=n->(∀ ys d,ys.Perm xs->Q ys {s with drawn:=d})->wpAny (model prog w) A (drawOrder n xs) Q E s
 | 0,xs,s,Q,hl,h=>by
  have:xs=[]:=WP.mp (by omega);subst this;unfold drawOrder;exact wpAny_pure (h [] s.drawn (List.Perm.refl _))
 | n+1,[],s,Q,hl,h=>by
  unfold drawOrder;exact wpAny_pure (h [] s.drawn (List.Perm.refl _))
 | n+1,x::xs,s,Q,hl,h=>by
  unfold drawOrder;refine wpAny_bind (Zb4 (by simp) fun i d hi=>?_);rw[Qa hi];dsimp only;refine wpAny_bind (ZcY n ((x::xs).eraseIdx i) {s with drawn:=d} ?_ fun ys d2 hp=>wpAny_pure (h _ d2 ?_))
  ·rw[RB];split <;> simp at * <;> omega
  ·exact(hp.cons _).trans (Zbb hi)
structure SeesS (h:Heap) (a:Addr) (o:Obj) (es:Array (Int×Value)) (ep:Nat) (t:SetTable) (n:Nat):Prop where
 ob:h.get? a=some o
 dt:o.data= .set es ep t
 fits:t.fits es.size=true
 len:es.size=n
theorem Yz {es:Array (Int×Value)} {t:SetTable} {Q:(Array (Int×Value)×Nat×SetTable)->Shared->Prop} (V:SeesS s.heap a o es ep t n) (q:Q (es,ep,t) s):wpAny (model prog w) A (setState a) Q E s:=wpAny_setState_of V.ob V.dt V.fits q
theorem YQ {f:Value} {es:Array (Int×Value)} {t:SetTable} {Q:PySem.Fin->Shared->Prop} (hJ:Zb3 s.heap J f i a n ep) (V:SeesS s.heap a o es ep t n)
  (q:wpAny (model prog w) A (if let .int slot _:=f then (do
    match ←setNext a slot.toNat (i:Int).toNat (ep:Int).toNat with
    | some (x,next) =>
     setField (.ref J) 0 (rawInt next)
     setField (.ref J) 1 (rawInt ((i:Int)+1))
     ret x
    | none=>setField (.ref J) 2 .none;raiseNew (←newExc (.type "StopIteration") []))
   else (do
    let some places ←seqItems? f | unsupported "internal:set_iterator"
    match places[(i:Int).toNat]? with
    | some (.int place _) =>
     let x ←setNextDrawn a place.toNat (ep:Int).toNat
     setField (.ref J) 1 (rawInt ((i:Int)+1))
     ret x
    | some _=>unsupported "internal:set_iterator"
    | none=>setField (.ref J) 0 (rawInt 0);setField (.ref J) 2 .none;raiseNew (←newExc (.type "StopIteration") []))) Q E s) :
  wpAny (model prog w) A (Builtin.«set_iterator.__next__» ⟨[.ref J],[]⟩) Q E s:=by
 refine(show wpAny _ _ (fieldsOf (.ref J) >>= _) _ _ s from wpAny_bind (wpAny_fieldsOf hJ rfl ?_));dsimp only;refine wpAny_bind (wpAny_setEntries_of V.ob V.dt V.fits ?_);rw[if_neg (by rw[V.len];simp)];exact q
theorem Jl {J:Addr} {Q:PySem.Fin->Shared->Prop} {g0:Heap} (hh:A.handled=none)
  (q:∀ g e,(∀ c o,g0.get? c=some o->g.get? c=some o)->(∃ o,g.get? e=some o/\o.cls= .type "StopIteration")->E (.ref e) {s with heap:=g}) :
  wpAny (model prog w) A (do raiseNew (←newExc (.type "StopIteration") [])) Q E {s with heap:=g0}:=by
 refine wpAny_bind ?_;simp only[newExc,newTuple];refine wpAny_bind (wpAny_newObj_type (wpAny_bind (m:=firstArgMember _ _) (wpAny_of_eq (a:=Value.none) (by first | rfl | (simp only[firstArgMember];rfl)) (wpAny_newObj_type ?_ (by size_fits)))) (by size_fits));simp only[raiseNew];refine wpAny_bind (wpAny_handled ?_);first | rw[show A.in1.handled=none from hh] | rw[hh]
 exact wpAny_bind (wpAny_pure (wpAny_throw (q _ _ (fun c o e=>Qh _ (Qh _ e)) ⟨_,Qx _ rfl,rfl⟩)))
theorem ZiT {T:Addr} {p m:Nat} {oT:Obj} {es:Array (Int×Value)} {t:SetTable} {pl:Array Value} {hx:Int} {x:Value} (hJ:Zb3 s.heap J (.ref T) i a n ep) (V:SeesS s.heap a o es ep t n)
  (gT:s.heap.get? T=some oT) (dT:oT.data= .seq pl m) (hp:pl[i]?=some (.int p 0)) (hx:es[p]?=some (hx,x)) (q:∀ g,Zb3 g J (.ref T) (i+1) a n ep->Heap.SameBut J s.heap g->Q x {s with heap:=g}) :
  wpAny (model prog w) A (Builtin.«set_iterator.__next__» ⟨[.ref J],[]⟩) (fun fin s'=>∃ v,fin= .done (.ret v)/\Q v s') E s:=by
 refine YQ hJ V ?_;dsimp only;refine wpAny_bind (wpAny_seqItems gT dT ?_);simp only[Wl,hp];unfold setNextDrawn;refine wpAny_bind (wpAny_bind (Yz V ?_));dsimp only;rw[if_neg (by simp),hx];refine wpAny_pure (wpAny_bind (wpAny_setField_rec hJ (by simp) fun g hg sb=>wpAny_pure ⟨x,rfl,q g ?_ sb⟩));have e:((i+1:Nat):Int)=(i:Int)+1:=by push_cast;rfl
 unfold Zb3;rw[e];exact hg
theorem ZkK {T:Addr} {m:Nat} {oT:Obj} {es:Array (Int×Value)} {t:SetTable} {pl:Array Value} {Q:PySem.Fin->Shared->Prop} (hh:A.handled=none) (hJ:Zb3 s.heap J (.ref T) i a n ep) (V:SeesS s.heap a o es ep t n)
  (gT:s.heap.get? T=some oT) (dT:oT.data= .seq pl m) (hp:pl[i]?=none) (q:∀ g e,(∀ c o,c≠J->s.heap.get? c=some o->g.get? c=some o)->(∃ o,g.get? e=some o/\o.cls= .type "StopIteration")->E (.ref e) {s with heap:=g}) :
  wpAny (model prog w) A (Builtin.«set_iterator.__next__» ⟨[.ref J],[]⟩) Q E s:=by
 refine YQ hJ V ?_;dsimp only;refine wpAny_bind (wpAny_seqItems gT dT ?_);simp only[Wl,hp];refine wpAny_bind (wpAny_setField_rec hJ (by simp) fun g1 hg1 sb1=>wpAny_bind (wpAny_setField_rec hg1 (by simp) fun g2 hg2 sb2=>?_));exact Jl (J:=J) hh fun g e k he=>q g e (fun c o hc z=>k c o (sb2.extBut _ _ hc (sb1.extBut _ _ hc z))) he
theorem ZiR {es:Array (Int×Value)} {t:SetTable} {hx:Int} {x:Value} (hb:byT w=true) (hJ:Zb3 s.heap J (.int 0 0) i a n ep) (V:SeesS s.heap a o es ep t n)
  (hp:(pickOrder (w.params.setOrder a ep) es)[i]?=some (hx,x)) (q:∀ g,Zb3 g J (.int 0 0) (i+1) a n ep->Heap.SameBut J s.heap g->Q x {s with heap:=g}) :
  wpAny (model prog w) A (Builtin.«set_iterator.__next__» ⟨[.ref J],[]⟩) (fun fin s'=>∃ v,fin= .done (.ret v)/\Q v s') E s:=by
 refine YQ hJ V ?_;dsimp only;refine wpAny_bind ?_;unfold setNext setsByText;refine wpAny_bind (Yz V ?_);dsimp only;refine wpAny_bind (wpAny_bind (wpAny_askSetting (wpAny_pure ?_)));dsimp only;rw[if_pos (show(model prog w).w.params.followText "set-order" = true from hb),if_neg (by simp)];unfold setWalk setsByText;refine wpAny_bind (wpAny_bind (Yz V ?_));dsimp only;refine wpAny_bind (wpAny_bind (wpAny_askSetting (wpAny_pure ?_)));dsimp only;rw[if_pos (show(model prog w).w.params.followText "set-order" = true from hb)];refine wpAny_bind (wpAny_askSetting (wpAny_pure (wpAny_pure ?_)));have hp':(pickOrder ((model prog w).w.params.setOrder a ep) es)[i]?=some (hx,x):=hp;simp only[Wl,hp',Wd];refine wpAny_bind (wpAny_setField_rec hJ (by simp) fun g1 hg1 sb1=>wpAny_bind (wpAny_setField_rec hg1 (by simp) fun g2 hg2 sb2=>wpAny_pure ⟨x,rfl,q g2 ?_ (sb1.trans sb2)⟩));have e:((i+1:Nat):Int)=(i:Int)+1:=by push_cast;rfl
 unfold Zb3;rw[e];exact hg2
theorem ZkI {es:Array (Int×Value)} {t:SetTable} {Q:PySem.Fin->Shared->Prop} (hh:A.handled=none) (hb:byT w=true) (hJ:Zb3 s.heap J (.int 0 0) i a n ep) (V:SeesS s.heap a o es ep t n)
  (hp:(pickOrder (w.params.setOrder a ep) es)[i]?=none) (q:∀ g e,(∀ c o,c≠J->s.heap.get? c=some o->g.get? c=some o)->(∃ o,g.get? e=some o/\o.cls= .type "StopIteration")->E (.ref e) {s with heap:=g}) :
  wpAny (model prog w) A (Builtin.«set_iterator.__next__» ⟨[.ref J],[]⟩) Q E s:=by
 refine YQ hJ V ?_;dsimp only;refine wpAny_bind ?_;unfold setNext setsByText;refine wpAny_bind (Yz V ?_);dsimp only;refine wpAny_bind (wpAny_bind (wpAny_askSetting (wpAny_pure ?_)));dsimp only;rw[if_pos (show(model prog w).w.params.followText "set-order" = true from hb),if_neg (by simp)];unfold setWalk setsByText;refine wpAny_bind (wpAny_bind (Yz V ?_));dsimp only;refine wpAny_bind (wpAny_bind (wpAny_askSetting (wpAny_pure ?_)));dsimp only;rw[if_pos (show(model prog w).w.params.followText "set-order" = true from hb)];refine wpAny_bind (wpAny_askSetting (wpAny_pure (wpAny_pure ?_)));have hp':(pickOrder ((model prog w).w.params.setOrder a ep) es)[i]?=none:=hp;simp only[Wl,hp',R4];refine wpAny_bind (wpAny_setField_rec hJ (by simp) fun g1 hg1 sb1=>?_);exact Jl (J:=J) hh fun g e k he=>q g e (fun c o hc z=>k c o (sb1.extBut _ _ hc z)) he
theorem ZaW {sl i:Nat} {es:Array (Int×Value)} {t:SetTable} {Q:Option (Value×Nat)->Shared->Prop} (hb:byT w=false) (V:SeesS s.heap a o es ep t n) (hn:n<=1) (led:t.led=true)
  (q:Q (match es[SetTable.below t.place sl]?,t.place[SetTable.below t.place sl]? with
   | some (_,x),some j=>some (x,j+1)
   | _,_=>none) s):wpAny (model prog w) A (setNext a sl i ep) Q E s:=by
 unfold setNext setsByText;refine wpAny_bind (Yz V ?_);dsimp only;refine wpAny_bind (wpAny_bind (wpAny_askSetting (wpAny_pure ?_)));dsimp only;rw[if_neg (by rw[show(model prog w).w.params.followText "set-order" = false from hb];decide)];refine(show wpAny (model prog w) A (if (!t.plain&&decide (es.size>1))=true then _ else _) Q E s from ?_);rw[if_neg (by rw[V.len];simp;omega)];refine(show wpAny (model prog w) A ((if (!t.led&&!es.isEmpty)=true then unsupported "set:maker-not-led" else pure ()) >>= fun _=>_) Q E s from ?_);rw[led];simp only[Vb,Rv,Wn,if_false];exact wpAny_bind (wpAny_pure (wpAny_pure q))
theorem ZiS {j:Nat} {es:Array (Int×Value)} {t:SetTable} {hx:Int} {x:Value} (hb:byT w=false) (led:t.led=true) (hJ:Zb3 s.heap J (.int 0 0) 0 a 1 ep) (V:SeesS s.heap a o es ep t 1)
  (hj:t.place= #[j]) (hp:es[0]?=some (hx,x)) (q:∀ g,Zb3 g J (.int ((j+1:Nat):Int) 0) 1 a 1 ep->Heap.SameBut J s.heap g->Q x {s with heap:=g}) :
  wpAny (model prog w) A (Builtin.«set_iterator.__next__» ⟨[.ref J],[]⟩) (fun fin s'=>∃ v,fin= .done (.ret v)/\Q v s') E s:=by
 refine YQ hJ V ?_;dsimp only;refine wpAny_bind (ZaW hb V (Qk _) led ?_);have hbw:SetTable.below t.place (0:Int).toNat=0:=by rw[hj];rfl
 rw[hbw,hp,hj];refine wpAny_bind (wpAny_setField_rec hJ (by simp) fun g1 hg1 sb1=>wpAny_bind (wpAny_setField_rec hg1 (by simp) fun g2 hg2 sb2=>wpAny_pure ⟨x,rfl,q g2 hg2 (sb1.trans sb2)⟩))
theorem ZkJ {sl:Nat} {es:Array (Int×Value)} {t:SetTable} {Q:PySem.Fin->Shared->Prop} (hh:A.handled=none) (hb:byT w=false) (led:t.led=true) (hJ:Zb3 s.heap J (.int (sl:Int) 0) i a n ep) (V:SeesS s.heap a o es ep t n) (hn:n<=1)
  (hp:es[SetTable.below t.place sl]?=none) (q:∀ g e,(∀ c o,c≠J->s.heap.get? c=some o->g.get? c=some o)->(∃ o,g.get? e=some o/\o.cls= .type "StopIteration")->E (.ref e) {s with heap:=g}) :
  wpAny (model prog w) A (Builtin.«set_iterator.__next__» ⟨[.ref J],[]⟩) Q E s:=by
 refine YQ hJ V ?_;dsimp only;refine wpAny_bind (ZaW hb V hn led ?_);rw[Wl,hp];refine wpAny_bind (wpAny_setField_rec hJ (by simp) fun g1 hg1 sb1=>?_);exact Jl (J:=J) hh fun g e k he=>q g e (fun c o hc z=>k c o (sb1.extBut _ _ hc z)) he
end
theorem SeesS.keep {h':Heap} {es:Array (Int×Value)} {t:SetTable} (V:SeesS h a o es ep t n) (k:∀ o,h.get? a=some o->h'.get? a=some o):SeesS h' a o es ep t n:={V with ob:=k o V.ob}
theorem Zgy:Slot "set_iterator" "__iter__" "set_iterator.__iter__" :=
 .of (owner:="set_iterator") (n:="__iter__") (by rw[typeLookup_type,builtinLookup_eq_fast];kernel_rfl) (by decide +kernel) (by decide +kernel) (by decide +kernel) (by first | exact .inl (by decide +kernel) | exact .inr (by decide +kernel)) (by rw[isSubtype_type];kernel_rfl)
theorem ZiP:entryFor table "set_iterator.__iter__" = some Builtin.«dict_keyiterator.__iter__» :=
 entryFor_alias (id':="dict_keyiterator.__iter__") (by kernel_rfl) (by first | rfl | decide +kernel | (unfold String.splitOn;simp +decide [String.splitOnAux])) (by decide +kernel) (by kernel_rfl)
theorem ZiQ (a:Value):argsOk "set_iterator.__iter__" ⟨[a],[]⟩:=by unfold argsOk;kernel_rfl
theorem ZdB {prog:Program} {w:World} {A:Around} {E:Value->Shared->Prop} {s:Shared} {f:Value} (hJ:Zb3 s.heap J f i a n ep) (h:Q (.ref J) s):wpAny (model prog w) A (pyIter (.ref J)) Q E s:=by
 refine wpAny_pyIter_slot ⟨_,hJ,rfl⟩ Zgy (wpAny_call_entry Zgy ⟨_,hJ,rfl⟩ ZiP ?_ (ZiQ _));exact(show wpAny _ _ (ret (.ref J)) _ _ s from wpAny_pure ⟨_,rfl,"set_iterator",_,⟨_,hJ,rfl⟩,si_slot.lookup,h⟩)
section
variable {prog:Program} {w:World} {A:Around} {E:Value->Shared->Prop} {s:Shared}
abbrev Zj9 (ord:Array (Int×Value)) (i:Nat) (v:Value):Prop:=∃ e,ord[i]?=some e/\v=e.2
theorem Znf (hh:A.handled=none) {T:Addr} {es:Array (Int×Value)} {t:SetTable} {ps:List Nat} (hJT:T≠J) (hJa:a≠J) (hps:ps.length=n) (hlt:∀ p∈ps,p<es.size) :
  Walks prog w A J [J,T,a] [J] n (Zj9 (ps.map fun p=>es.getD p (0,.none)).toArray) (fun i h=>Zb3 h J (.ref T) i a n ep/\(∃ oT m,h.get? T=some oT/\oT.data= .seq (ps.map fun p:Nat=>Value.int (p:Int) 0).toArray m)/\SeesS h a o es ep t n) where
 sub:=fun b hb=>by rw[Qm.mp hb];simp
 frame:=fun i h h' ⟨s1,⟨oT,m,g,d⟩,s3⟩ k=>⟨k J (by simp) _ s1,⟨oT,m,k T (by simp) _ g,d⟩,s3.keep fun o e=>k a (by simp) o e⟩
 item:=fun i s Q E hi ⟨s1,⟨oT,m,g,d⟩,s3⟩ q=>by
  have hi':i<ps.length:=by omega
  have hp:(ps.map fun p:Nat=>Value.int (p:Int) 0).toArray[i]?=some (.int (ps[i]:Nat) 0):=by simp[hi']
  have hpe:ps[i]<es.size:=hlt _ (QB hi');have hx:es[ps[i]]?=some (es[ps[i]].1,es[ps[i]].2):=by rw[Q6 hpe]
  unfold pyNext;refine wpAny_bind (wpAny_attempt (wpAny_callSpecial?_slot (name:=Str.ofString "__next__") ⟨_,s1,rfl⟩ si_slot (wpAny_call_entry si_slot ⟨_,s1,rfl⟩ Xq (ZiT s1 s3 g d hp hx fun g1 h1 sb=>wpAny_pure (q _ g1 s.toks ?_ ?_ ?_)) (Jn _))))
  ·refine⟨es[ps[i]],?_,rfl⟩;simp[hi',hpe]
  ·exact⟨h1,⟨oT,m,sb.extBut _ _ hJT g,d⟩,s3.keep fun o e=>sb.extBut _ _ hJa e⟩
  ·exact fun b o hb e=>sb.extBut _ _ (fun z=>hb (by simp[z])) e
 done:=fun s Q E ⟨s1,⟨oT,m,g,d⟩,s3⟩ q=>by
  unfold pyNext;refine wpAny_bind (wpAny_attempt (wpAny_callSpecial?_slot (name:=Str.ofString "__next__") ⟨_,s1,rfl⟩ si_slot (wpAny_call_entry si_slot ⟨_,s1,rfl⟩ Xq (ZkK hh s1 s3 g d (by simp[hps]) fun g1 e k ⟨oe,ge,ce⟩=>?_) (Jn _))));exact wpAny_bind (wpAny_isInstance (T:="StopIteration") (b:=true) ⟨oe,ge,ce⟩ isSubtype_stop (wpAny_pure (q g1 s.toks fun b o hb z=>k b o (fun y=>hb (by simp[y])) z)))
 self:=fun i s Q E ⟨s1,_⟩ q=>ZdB s1 q
theorem Znd (hh:A.handled=none) (hb:byT w=true) {es:Array (Int×Value)} {t:SetTable} (hJa:a≠J) (hn:es.size=n) :
  Walks prog w A J [J,a] [J] n (Zj9 (pickOrder (w.params.setOrder a ep) es)) (fun i h=>Zb3 h J (.int 0 0) i a n ep/\SeesS h a o es ep t n) where
 sub:=fun b hb=>by rw[Qm.mp hb];simp
 frame:=fun i h h' ⟨s1,s3⟩ k=>⟨k J (by simp) _ s1,s3.keep fun o e=>k a (by simp) o e⟩
 item:=fun i s Q E hi ⟨s1,s3⟩ q=>by
  have hsz:(pickOrder (w.params.setOrder a ep) es).size=n:=by rw[←QK,(Zae _ es).length_eq,QK,hn]
  have hx:(pickOrder (w.params.setOrder a ep) es)[i]?=some ((pickOrder (w.params.setOrder a ep) es)[i]'(by omega)):=Q6 (by omega);unfold pyNext;refine wpAny_bind (wpAny_attempt (wpAny_callSpecial?_slot (name:=Str.ofString "__next__") ⟨_,s1,rfl⟩ si_slot (wpAny_call_entry si_slot ⟨_,s1,rfl⟩ Xq (ZiR hb s1 s3 hx fun g1 h1 sb=>wpAny_pure (q _ g1 s.toks ⟨_,hx,rfl⟩ ⟨h1,s3.keep fun o e=>sb.extBut _ _ hJa e⟩ fun b o hb e=>sb.extBut _ _ (fun z=>hb (by simp[z])) e)) (Jn _))))
 done:=fun s Q E ⟨s1,s3⟩ q=>by
  have hsz:(pickOrder (w.params.setOrder a ep) es).size=n:=by rw[←QK,(Zae _ es).length_eq,QK,hn]
  unfold pyNext;refine wpAny_bind (wpAny_attempt (wpAny_callSpecial?_slot (name:=Str.ofString "__next__") ⟨_,s1,rfl⟩ si_slot (wpAny_call_entry si_slot ⟨_,s1,rfl⟩ Xq (ZkI hh hb s1 s3 (Uw (by omega)) fun g1 e k ⟨oe,ge,ce⟩=>?_) (Jn _))));exact wpAny_bind (wpAny_isInstance (T:="StopIteration") (b:=true) ⟨oe,ge,ce⟩ isSubtype_stop (wpAny_pure (q g1 s.toks fun b o hb z=>k b o (fun y=>hb (by simp[y])) z)))
 self:=fun i s Q E ⟨s1,_⟩ q=>ZdB s1 q
theorem Zne (hh:A.handled=none) (hb:byT w=false) {es:Array (Int×Value)} {t:SetTable} (hJa:a≠J) (hn:es.size=n) (h1:n<=1) (led:t.led=true) (hf:t.fits es.size=true) :
  Walks prog w A J [J,a] [J] n (Zj9 es) (fun i h=>(∃ sl:Nat,Zb3 h J (.int (sl:Int) 0) i a n ep/\(i<n->sl=0)/\(i=n->es[SetTable.below t.place sl]?=none))/\SeesS h a o es ep t n) where
 sub:=fun b hb=>by rw[Qm.mp hb];simp
 frame:=fun i h h' ⟨⟨sl,s1,s2⟩,s3⟩ k=>⟨⟨sl,k J (by simp) _ s1,s2⟩,s3.keep fun o e=>k a (by simp) o e⟩
 item:=fun i s Q E hi ⟨⟨sl,s1,s2,_⟩,s3⟩ q=>by
  have hn1:n=1:=by omega
  have hi0:i=0:=by omega
  subst hi0;have hsl:=s2 hi;subst hsl;subst hn1;have hpz:t.place.size=1:=by
   simp only[SetTable.fits,QQ,beq_iff_eq]at hf;omega
  obtain⟨j,hj⟩:∃ j,t.place= #[j]:=by
   generalize t.place=pl at hpz;obtain⟨l⟩:=pl;match l,hpz with
   | [j],_=>exact⟨j,rfl⟩
  have hx:es[0]?=some es[0]:=Q6 (by omega);unfold pyNext;refine wpAny_bind (wpAny_attempt (wpAny_callSpecial?_slot (name:=Str.ofString "__next__") ⟨_,s1,rfl⟩ si_slot (wpAny_call_entry si_slot ⟨_,s1,rfl⟩ Xq (ZiS hb led s1 s3 hj hx fun g1 hg1 sb=>wpAny_pure (q _ g1 s.toks ⟨_,hx,rfl⟩ ⟨⟨j+1,hg1,fun z=>absurd z (by omega),fun _=>?_⟩,s3.keep fun o e=>sb.extBut _ _ hJa e⟩ fun b o hb e=>sb.extBut _ _ (fun z=>hb (by simp[z])) e)) (Jn _))));have hbw:SetTable.below t.place (j+1)=1:=by
   rw[hj];unfold SetTable.below;show SetTable.below.go #[j] (j+1) 1 0 1=1;unfold SetTable.below.go;rw[if_pos (by omega)];dsimp only;rw[if_pos (by simp)];rfl
  rw[hbw];exact Uw (by omega)
 done:=fun s Q E ⟨⟨sl,s1,_,s2⟩,s3⟩ q=>by
  unfold pyNext;refine wpAny_bind (wpAny_attempt (wpAny_callSpecial?_slot (name:=Str.ofString "__next__") ⟨_,s1,rfl⟩ si_slot (wpAny_call_entry si_slot ⟨_,s1,rfl⟩ Xq (ZkJ hh hb led s1 s3 h1 (s2 rfl) fun g1 e k ⟨oe,ge,ce⟩=>?_) (Jn _))));exact wpAny_bind (wpAny_isInstance (T:="StopIteration") (b:=true) ⟨oe,ge,ce⟩ isSubtype_stop (wpAny_pure (q g1 s.toks fun b o hb z=>k b o (fun y=>hb (by simp[y])) z)))
 self:=fun i s Q E ⟨⟨sl,s1,_⟩,_⟩ q=>ZdB s1 q
end
section
variable {prog:Program} {w:World} {A:Around} {E:Value->Shared->Prop} {s:Shared}
theorem range_getD {es:Array (Int×Value)} {ps:List Nat} (h:ps.Perm (Qq es.size)):(ps.map fun p=>es.getD p (0,.none)).Perm es.toList:=by
 have h1:=h.map fun p=>es.getD p (0,.none);have h2:((Qq es.size).map fun p=>es.getD p (0,.none))=es.toList:=by
  apply QU;intro i;rw[Qg];by_cases hi:i<es.size
  ·rw[QT hi,Wv,Q6 hi];simp[hi]
  ·rw[Qo (by simp;omega),Qo (by simp;omega)];rfl
 rw[h2]at h1;exact h1
theorem Zjq {A':Around} {es:Array (Int×Value)} {t:SetTable} (hh:A'.handled=none) (S:StT prog w s.heap a ks o es ep t) (hz:ks.length<=1000)
  (q:∀ (J:Addr) (h1:Heap) (d:Drawn) (ord:Array (Int×Value)) (fp:List Addr) (St:Nat->Heap->Prop),ord.toList.Perm es.toList->Walks prog w A' J fp [J] ks.length (Zj9 ord) St->St 0 h1->(∀ b∈fp,b=a\/s.heap.objs.size<=b)->s.heap.objs.size<=J ->
   (∀ b u,s.heap.get? b=some u->h1.get? b=some u)->Q (.ref J) {s with heap:=h1,drawn:=d}):wpAny (model prog w) A (pyIter (.ref a)) Q E s:=by
 have hT:s.TypeIs (.ref a) "set":=⟨o,S.ob,S.ex.1⟩
 have V:SeesS s.heap a o es ep t ks.length:=⟨S.ob,S.dt,S.fits,S.len⟩
 have ha:a<s.heap.objs.size:=Qu S.ob;have es0:s={s with heap:=s.heap,drawn:=s.drawn}:=by cases s;rfl
 refine wpAny_pyIter_slot hT PySem.F.slot_set_iter (wpAny_call_entry PySem.F.slot_set_iter hT ZiM ?_ (PySem.F.args_set_iter_1 _));unfold Builtin.«frozenset.__iter__»;refine(show wpAny _ _ (Builtin.Frozenset.sizeOf a >>= _) _ _ s from wpAny_bind ?_);unfold Builtin.Frozenset.sizeOf;refine wpAny_bind (wpAny_setEntries_of V.ob V.dt V.fits (wpAny_pure ?_));dsimp only;unfold setDrawn setsByText;refine wpAny_bind (wpAny_bind (Yz V ?_));dsimp only;refine wpAny_bind (wpAny_bind (wpAny_askSetting (wpAny_pure (wpAny_pure ?_))));have lift1:∀ (x:Bool) (h:x=(!byT w&&(!t.plain&&decide (es.size>1)))),x=(!(model prog w).w.params.followText "set-order" && (!t.plain&&decide (es.size>1))):=fun x h=>h;by_cases c:(!byT w&&(!t.plain&&decide (es.size>1)))=true
 ·refine(show wpAny (model prog w) _ (if (!byT w&&(!t.plain&&decide (es.size>1)))=true then _ else _) _ _ s from ?_);rw[if_pos c];refine wpAny_bind (ZcY es.size (Qq es.size) s (by simp) fun ps d hp=>?_);have hpl:ps.length=ks.length:=by rw[hp.length_eq,Q5,S.len]
  refine wpAny_bind (wpAny_newTuple ?_ (by rw[Qc];exact JB (by omega)));have V1:SeesS (s.heap.push {cls:=.type "tuple",data:=.seq (ps.map fun i:Nat=>rawInt i).toArray}) a o es ep t ks.length:=V.keep fun o e=>Qh _ e;refine wpAny_bind ?_;unfold setEpoch;refine wpAny_bind (Yz (s:={s with heap:=s.heap.push {cls:=.type "tuple",data:=.seq (ps.map fun i:Nat=>rawInt i).toArray},drawn:=d}) V1 (wpAny_pure ?_));refine wpAny_bind (wpAny_newObj_type (wpAny_pure ⟨_,rfl,"set_iterator",_,⟨_,Qx _ rfl,rfl⟩,si_slot.lookup,?_⟩));have hsz:(s.heap.push {cls:=.type "tuple",data:=.seq (ps.map fun i:Nat=>rawInt i).toArray}).objs.size=s.heap.objs.size+1:=Um ..;refine q _ _ d (ps.map fun p=>es.getD p (0,.none)).toArray [_,s.heap.objs.size,a] _ (range_getD hp) (Znf hh (T:=s.heap.objs.size) (a:=a) (ep:=ep) (o:=o) (es:=es) (t:=t) (by rw[hsz];exact QC (UF _)) (by rw[hsz];exact QC (Uz ha)) hpl fun p hpm=>QN.mp (hp.mem_iff.mp hpm)) ⟨?_,⟨_,_,Qh _ (Qx _ rfl),rfl⟩,V1.keep fun o e=>Qh _ e⟩ ?_ (by rw[hsz];exact WR _) fun b u e=>Qh _ (Qh _ e)
  ·unfold Zb3;rw[Qx _ rfl,S.len];rfl
  ·intro b hb;rcases Qy.mp hb with z | z
   ·rw[z,hsz];exact .inr (WR _)
   ·rcases Qy.mp z with z | z
    ·rw[z];exact .inr (Qk _)
    ·exact .inl (Qm.mp z)
 ·refine(show wpAny (model prog w) _ (if (!byT w&&(!t.plain&&decide (es.size>1)))=true then _ else _) _ _ s from ?_);rw[if_neg c];refine wpAny_bind (wpAny_pure (wpAny_bind ?_));unfold setEpoch;refine wpAny_bind (Yz V (wpAny_pure ?_));refine wpAny_bind (wpAny_newObj_type (wpAny_pure ⟨_,rfl,"set_iterator",_,⟨_,Qx _ rfl,rfl⟩,si_slot.lookup,?_⟩));have fpk:∀ b∈[s.heap.objs.size,a],b=a\/s.heap.objs.size<=b:=fun b hb=>by
   rcases Qy.mp hb with z | z
   ·rw[z];exact .inr (Qk _)
   ·exact .inl (Qm.mp z)
  have gJ:Zb3 (s.heap.push {cls:=.type "set_iterator",data:=.fields #[rawInt 0,rawInt 0,.ref a,rawInt es.size,rawInt ep]}) s.heap.objs.size (.int 0 0) 0 a ks.length ep:=by
   unfold Zb3;rw[Qx _ rfl,S.len];rfl
  by_cases hb:byT w=true
  ·exact q _ _ s.drawn _ [s.heap.objs.size,a] _ (Zae _ es) (Znd hh hb (o:=o) (t:=t) (QC ha) S.len) ⟨gJ,V.keep fun o e=>Qh _ e⟩ fpk (Qk _) fun b u e=>Qh _ e
  ·have hb':byT w=false:=by simpa using hb
   have led:t.led=true:=by rw[S.led,hb'];rfl
   have h1:ks.length<=1:=by
    rcases Nat.lt_or_ge 1 ks.length with z | z
    ·have hpf:=S.plain (fun e=>by rw[e]at z;simp at z);exact absurd (by rw[hb',hpf,S.len];simp;omega) c
    ·exact z
   refine q _ _ s.drawn es [s.heap.objs.size,a] _ (List.Perm.refl _) (Zne hh hb' (o:=o) (t:=t) (ep:=ep) (QC ha) S.len h1 led S.fits) ⟨⟨0,gJ,fun _=>rfl,fun z=>?_⟩,V.keep fun o e=>Qh _ e⟩ fpk (Qk _) fun b u e=>Qh _ e;have:es.size=0:=by rw[S.len];exact z.symm
   exact Uw (by omega)
end
theorem ZhA:∀ {ks xs:List Str},ks.Nodup->(∀ x∈ks,x∈xs)->xs.length=ks.length->xs.Perm ks
 | [],xs,_,_,hl=>by rw[WP.mp hl]
 | k::ks,xs,nd,hs,hl=>by
  have nd':=Wj.mp nd;have hk:=hs k (Qj ..);have p:=WN hk;refine p.trans (List.Perm.cons k (ZhA nd'.2 (fun x hx=>?_) ?_))
  ·have hne:x≠k:=fun e=>nd'.1 (e▸hx);exact(Ws hne).mpr (hs x (Ql _ hx))
  ·rw[Wh hk,hl];rfl
section
variable {prog:Program} {w:World} {A:Around} {E:Value->Shared->Prop} {s:Shared}
theorem Zjs {r:Addr} {Q:Bool->Shared->Prop} (hT:s.TypeIs (.ref r) "set") (q:Q false s):wpAny (model prog w) A (Builtin.List.listLengthHint (.ref r)) Q E s:=by
 unfold Builtin.List.listLengthHint;refine wpAny_bind (wpAny_specialOf hT PySem.F.slot_set_len.lookup ?_);generalize hid:("set.__len__" : String)=nm
 wp_delta
 rw[show splitId nm=some ("set","__len__")from by subst hid;decide +kernel];subst hid;refine wpAny_bind (wpAny_isInstance (T:="set") (b:=true) hT (by rw[isSubtype_type];kernel_rfl) ?_);refine wpAny_ite_split (fun z=>absurd z (by decide)) fun _=>wpAny_ite_split (fun _=>?_) fun z=>absurd (by decide +kernel) z;exact wpAny_bind (wpAny_typeOf hT (wpAny_pure q))
theorem ZfQ {R:Result->Shared->Prop} {S:Addr} {es:Array (Int×Value)} {t:SetTable} {c₀:Nat} {res:Value} (hh:A.handled=none) (T:StT prog w s.heap a ks o es ep t) (hz:ks.length<=1000) (hSa:S≠a) (hS:s.heap.get? S=some {cls:=.type "list",data:=.seq #[] c₀})
  (q:∀ h1 tk d acc c (ord:Array (Int×Value)),ord.toList.Perm es.toList->(∀ b u,b≠S->s.heap.get? b=some u->h1.get? b=some u)->h1.get? S=some {cls:=.type "list",dict:=none,data:=.seq acc c,slots:=#[]}->ItemsOf (Zj9 ord) acc ks.length->R (.ok (.ret res)) {s with heap:=h1,toks:=tk,drawn:=d}) :
  wpAny (model prog w) A.in1 (Builtin.List.listExtendWith (.ref S) (.ref a) res) (fun fin s'=>match fin with | .done f=>R (.ok f) s' | .again c'=>c'.quiet=true/\codeAny (model prog w) A c' R s') (fun e s'=>R (.error e) s') s:=by
 have hT:s.TypeIs (.ref a) "set":=⟨o,T.ob,T.ex.1⟩
 have hSl:S<s.heap.objs.size:=Qu hS;unfold Builtin.List.listExtendWith;refine wpAny_bind (wpAny_typeOf (T:="set") hT ?_);have h1:Builtin.List.listSameRef (.ref S) (.ref a)=false:=by simp[Builtin.List.listSameRef,hSa]
 have n1:(Value.type "set" == Value.type "list")=false:=by decide
 have n2:(Value.type "set" == Value.type "tuple")=false:=by decide
 simp only[h1,n1,n2,RE,Wn,if_false];refine wpAny_bind (Zjq (A':=A.in1) hh T hz fun J g d ord fp St hp W st hfp hJ kk=>?_);have gS:=kk _ _ hS;have nf:S∉fp:=fun z=>by
  rcases hfp S z with y | y
  ·exact hSa y
  ·exact absurd hSl (R5.mpr y)
 have key:∀ (h:Heap) (c₁ tk:Nat),St 0 h->(∀ b u,b≠S->s.heap.get? b=some u->h.get? b=some u)->h.get? S=some {cls:=.type "list",data:=.seq #[] c₁}->codeAny (model prog w) A (.builtin "list.extend.loop" ⟨[.ref S,.ref J,res],[]⟩) R {s with heap:=h,toks:=tk,drawn:=d}:=by
  intro h c₁ tk hst hk hS₁;refine codeAny_extend_loopS W.toS (JB hz) S nf res ks.length 0 _ #[] c₁ rfl (QV _) hst hS₁ (ItemsOf.nil _) fun s2 acc c mv hS2 hacc=>?_;rw[Moved.eq_with mv];refine q s2.heap s2.toks d acc c ord hp (fun b u hb e=>mv.heap b u (fun z=>?_) (hk b u hb e)) hS2 hacc;rcases Qy.mp z with y | y
  ·exact hb y
  ·exact absurd (Qu e) (by rw[Qm.mp y];exact R5.mpr hJ)
 refine wpAny_bind (wpAny_holding (Zjs (s:={s with heap:=g,drawn:=d}) ⟨o,kk _ _ T.ob,T.ex.1⟩ ?_));refine wpAny_ite_split (fun _=>?_) (fun _=>wpAny_pure ⟨plainId_quiet PySem.F.plain_extend_loop _,key _ c₀ _ st (fun b u _ e=>kk b u e) gS⟩);refine wpAny_bind (wpAny_rule (wpAny_bind ?_));refine(show wpAny _ _ (updateSeq S (·.push .none) >>= fun _=>updateSeq S (·.pop)) _ _ _ from wpAny_bind (wpAny_updateSeq gS rfl ?_));have g2:=Ww (Obj.mapSeq (·.push Value.none)) gS rfl;refine wpAny_updateSeq (hz:=by seq_fits) g2 rfl ?_;have g3:=Ww (Obj.mapSeq (·.pop)) g2 rfl;refine wpAny_pure ⟨plainId_quiet PySem.F.plain_extend_loop _,key _ _ _ (W.frame 0 _ _ st fun b hb u e=>?_) (fun b u hb e=>?_) g3⟩
 ·have ne:b≠S:=fun z=>nf (z▸hb);exact(QZ _ _ (Ne.symm ne)).trans ((QZ _ _ (Ne.symm ne)).trans e)
 ·exact(QZ _ _ (Ne.symm hb)).trans ((QZ _ _ (Ne.symm hb)).trans (kk _ _ e))
theorem Zei {R:List Value->Shared->Prop} {es:Array (Int×Value)} {t:SetTable} (hh:A.handled=none) (T:StT prog w s.heap a ks o es ep t) (hz:ks.length<=1000)
  (q:∀ h1 tk d (acc:Array Value) (ord:Array (Int×Value)),ord.toList.Perm es.toList->(∀ b u,s.heap.get? b=some u->h1.get? b=some u)->ItemsOf (Zj9 ord) acc ks.length->R acc.toList {s with heap:=h1,toks:=tk,drawn:=d}) :
  wpAny (model prog w) A (collect (.ref a)) R E s:=by
 have ha:a<s.heap.objs.size:=Qu T.ob;unfold collect;refine wpAny_bind (wpAny_runValue (codeAny_builtin entry_proto_collect' ?_));rw[Around.under_plainId PySem.F.plain_proto_collect _];refine(show wpAny _ A.in1 (newList [] >>= fun l=>again (.builtin "list.__iadd__" ⟨[l,.ref a],[]⟩)) _ _ s from wpAny_bind (wpAny_newObj_type (wpAny_pure ⟨plainId_quiet PySem.F.plain_list_iadd _,codeAny_builtin entry_list_iadd' ?_⟩)));rw[Around.under_plainId PySem.F.plain_list_iadd _];have gS:(s.heap.push {cls:=.type "list",data:=.seq ([]:List Value).toArray}).get? s.heap.objs.size=some {cls:=.type "list",data:=.seq #[]}:=Qx _ rfl;show wpAny _ A.in1 (Builtin.List.listExtendWith (.ref s.heap.objs.size) (.ref a) (.ref s.heap.objs.size)) _ _ _;have T1:StT prog w (s.heap.push {cls:=.type "list",data:=.seq ([]:List Value).toArray}) a ks o es ep t:={T with ob:=Qh _ T.ob}
 have key:=ZfQ (A:=A) (s:={s with heap:=s.heap.push {cls:=.type "list",data:=.seq ([]:List Value).toArray}})
  (R:=fun(z:Result) (s':Shared)=>∃ (g:Heap) (tk:Nat) (d:Drawn) (acc:Array Value) (c:Nat) (ord:Array (Int×Value)),z= .ok (.ret (.ref s.heap.objs.size))/\s'={s with heap:=g,toks:=tk,drawn:=d}/\ord.toList.Perm es.toList /\
   (∀ b u,s.heap.get? b=some u->g.get? b=some u)/\g.get? s.heap.objs.size=some {cls:=.type "list",dict:=none,data:=.seq acc c,slots:=#[]}/\ItemsOf (Zj9 ord) acc ks.length)
  (S:=s.heap.objs.size) (res:=.ref s.heap.objs.size) (c₀:=0) hh T1 hz (Rg ha) gS (fun g tk d acc c ord hp kk gS2 hacc=>⟨g,tk,d,acc,c,ord,rfl,rfl,hp,fun b u e=>kk b u (QC (Qu e)) (Qh _ e),gS2,hacc⟩)
 refine wpAny_mono key (fun fin s' x=>?_) fun e s' x=>?_
 ·cases fin with
  | done f =>
   obtain⟨g,tk,d,acc,c,ord,e,rfl,hp,kk,gS2,hacc⟩:=x;cases e;exact(show wpAny _ A (load s.heap.objs.size >>= _) _ _ _ from wpAny_bind (wpAny_load gS2 (wpAny_pure (q g tk d acc ord hp kk hacc))))
  | again c1 =>
   refine⟨x.1,codeAny_mono x.2 fun z s2 y=>?_⟩;obtain⟨g,tk,d,acc,c,ord,rfl,rfl,hp,kk,gS2,hacc⟩:=y;exact(show wpAny _ A (load s.heap.objs.size >>= _) _ _ _ from wpAny_bind (wpAny_load gS2 (wpAny_pure (q g tk d acc ord hp kk hacc))))
 ·obtain⟨_,_,_,_,_,_,z,_⟩:=x;cases z
theorem ZgA {es:Array (Int×Value)} {t:SetTable} (T:StT prog w h a ks o es ep t) {ord:Array (Int×Value)} (hp:ord.toList.Perm es.toList) {acc:Array Value} (hacc:ItemsOf (Zj9 ord) acc ks.length) :
  ∃ xs:List Str,xs.Perm ks/\StrsAre acc.toList xs:=by
 have hol:ord.toList.length=ks.length:=by rw[hp.length_eq,QK,T.len]
 have el:∀ e∈ord.toList,∃ x tk,e.2= .str x tk/\x∈ks:=fun e he=>by
  have hm:=hp.mem_iff.mp he;obtain⟨⟨k,hk,_⟩,_⟩:=T.el e hm;obtain⟨x,ek,hx⟩:=(T.mem k).mpr ⟨e,hm,hk⟩;subst ek;rcases keyIs_shape (show Zaq (Sum.inr x) e.2=true from hk)with ⟨j,t,e4,_⟩ | ⟨z,t,e4,e5⟩
  ·cases e4
  ·injection e4 with e4
   exact⟨x,t,by rw[e5,e4],hx⟩
 have key:∀ (l:List (Int×Value)),(∀ e∈l,∃ x tk,e.2= .str x tk/\x∈ks)->∃ xs:List Str,StrsAre (l.map (·.2)) xs/\(∀ x∈xs,x∈ks)/\xs.length=l.length/\∀ x,(∃ e∈l,Zaq (Sum.inr x) e.2=true)->x∈xs:=by
  intro l;induction l with
  | nil=>exact fun _=>⟨[],.nil,(fun x hx=>by cases hx),rfl,(fun x ⟨e,he,_⟩=>by cases he)⟩
  | cons e l ih =>
   intro hl;obtain⟨xs,h1,h2,h3,h4⟩:=ih fun e he=>hl e (Ql _ he);obtain⟨x,tk,ex,hx⟩:=hl e (Qj ..);refine⟨x::xs,?_,fun y hy=>?_,by simp[h3],fun y ⟨e',he',hk⟩=>?_⟩
   ·rw[Qs,ex];exact .cons x tk h1
   ·rcases Qy.mp hy with z | z
    ·rw[z];exact hx
    ·exact h2 y z
   ·rcases Qy.mp he' with z | z
    ·subst z;rw[ex]at hk;rcases keyIs_shape hk with ⟨j,t,e4,_⟩ | ⟨z,t,e4,e5⟩
     ·cases e4
     ·injection e4 with e4
      injection e5 with e5 _
      rw[e4,←e5];exact Qj ..
    ·exact Ql _ (h4 y ⟨e',z,hk⟩)
 obtain⟨xs,h1,h2,h3,h4⟩:=key ord.toList el;have hsub:∀ x∈ks,x∈xs:=fun x hx=>by
  obtain⟨e,he,hk⟩:=(T.mem (Sum.inr x)).mp ⟨x,rfl,hx⟩;exact h4 x ⟨e,hp.mem_iff.mpr he,hk⟩
 refine⟨xs,?_,?_⟩
 ·exact ZhA T.nd hsub (by omega)
 ·have:acc.toList=ord.toList.map (·.2):=by
   apply QU;intro i;by_cases hi:i<acc.toList.length
   ·obtain⟨e,e1,e2⟩:=hacc.2 i acc.toList[i] (by rw[←Wv];exact Qa hi);rw[Qa hi,Qg,Wv,e1,e2];rfl
   ·have hl:=hacc.1;rw[←QK]at hl;rw[Qo (by omega),Qo (by rw[Qc];omega)]
  rw[this];exact h1
end
section
variable {X:Cx} {pins:List (Addr×Obj)} {σ:St} {H:Hp} {s:Shared}
theorem Inv.drw (I:Inv X pins σ H s) (d:Drawn):Inv X pins σ H {s with drawn:=d}:=by
 refine I.step (h':=s.heap) (t':=s.toks) (g':=s.gens) (d':=d) (ch:=[]) (fun b hb=>by cases hb) (fun b u _ _ _ e _=>e) (fun b u _ _ _ e _=>⟨u.slots,e⟩) (fun b u _ e n=>n) (fun b u _ e=>⟨u,e⟩) (fun b xs e=>e) (fun b u xs e=>e) (fun b ps e=>⟨#[],by rw[e];simp⟩) (fun m hm=>hm) I.hok I.bare
end
def stO (X:Cx) (p:Addr) (ks:List Str):HO:=.ext fun h=>SetT X.prog X.w h p ks
theorem Zc7 {X:Cx} (hc:X.calm=true):CallR X (.type "set") (fun xs H Q=>∃ (a:Addr) (ss:List Str),xs=[.ref a]/\SqL X.K H a (ss.map V.str)/\ss.length<=1000 /\
  ∀ (p:Addr) (ks:List Str),H p=none->ks.Nodup->(∀ x,x∈ks↔x∈ss)->ks.length<=ss.length->Q (.ref p) (upd H p (stO X p ks))):=by
 intro pins s σ H xs us Q I r h;obtain⟨a,ss,rfl,hq,h1k,q⟩:=h;obtain⟨u,rfl,ru⟩:=Jf r;cases ru;obtain⟨its,rv,pl,hz⟩:=I.list hq;have hl:=rv.length;rw[Qc]at hl;refine Zin (I.ok.hd hc) pl.isList (by simpa using Jk rv) (by rw[Qw];show its.length+1<4096;omega) fun h1 tk hS kk=>?_;have ez:its.toArray.size=ss.length:=by rw[Qw,hl]
 rw[ez]at hS;have hn:H s.heap.objs.size=none:=I.hok.fresh (Qk _);obtain⟨o,es,ep,t,T⟩:=id hS;refine⟨.ref s.heap.objs.size,_,I.laid (t':=tk) (o:=stO X s.heap.objs.size _) kk (Qk _) ⟨hS,⟨o,T.ob⟩,fun g1 g2 z k=>z.keep k⟩,rfl,q _ _ hn T.nd (fun x=>?_) (Zd6 _ _)⟩;rw[ZhI];constructor
 ·rintro⟨j,hj,e⟩;rw[←e,Qb,Qa hj];exact QB hj
 ·intro hx;obtain⟨j,hj,e⟩:=WZ hx;exact⟨j,hj,by rw[Qb,Qa hj];exact e⟩
end L2
namespace Sh
open PySem L2 PyProof.Rows
seal L2.PE L2.PS L2.PSs L2.PT L2.PW L2.PA L2.PI L2.PG L2.PGs L2.PO L2.PC L2.PCs L2.OpR L2.UnR L2.CallR L2.MtR L2.IxR L2.SlR
variable {P:Program} {w:World} {K:PySem.W.Frag} {mg:Str->Option Value} {base:Heap}
theorem XB (g:Str->V) (y:Str):∀ ks:List Str,Xx (ks.map fun x=>((Sum.inr x:Key),g x)) (Sum.inr y)=if y∈ks then some (g y)else none
 | []=>rfl
 | x::ks=>by
  have ih:=XB g y ks;by_cases e:x=y
  ·subst e;rw[Qs,JO rfl,if_pos Qj]
  ·rw[Qs,JP (fun q=>e (Sum.inr.inj q)),ih];have:(y∈x::ks)↔y∈ks:=by
    rw[Qy];exact⟨fun h=>h.elim (fun q=>absurd q.symm e) id,.inr⟩
   simp only[this]
theorem Jr (g:Str->V) (y:Str) (v:V) (ks:List Str) (h:y∈ks):Jc (ks.map fun x=>((Sum.inr x:Key),g x)) (Sum.inr y) v=ks.map fun x=>((Sum.inr x:Key),if x=y then v else g x):=by
 unfold Jc;rw[JQ,XB,if_pos h];simp only[RI,if_true,QA];apply Q3;intro x _;by_cases e:x=y
 ·subst e;simp
 ·have:¬ (Sum.inr x:Key)=Sum.inr y:=fun q=>e (Sum.inr.inj q);simp[this,e]
theorem Jm:∀ {l m:List (List Nat)},l.Pairwise (· < ·)->m.Pairwise (· < ·)->(∀ x,x∈l↔x∈m)->l=m
 | [],[],_,_,_=>rfl
 | [],y::m,_,_,h=>absurd ((h y).mpr Qj) (by simp)
 | x::l,[],_,_,h=>absurd ((h x).mp Qj) (by simp)
 | x::l,y::m,hl,hm,h=>by
  have h1:=Wx.mp hl;have h2:=Wx.mp hm;have e:x=y:=by
   rcases Qy.mp ((h x).mp Qj)with z | z
   ·exact z
   ·rcases Qy.mp ((h y).mpr Qj)with z2 | z2
    ·exact z2.symm
    ·exact absurd (UT (h1.1 y z2) (h2.1 x z)) (Wy _)
  subst e;have ih:=Jm h1.2 h2.2 fun z=>by
   constructor
   ·intro hz;rcases Qy.mp ((h z).mp (Ql _ hz))with q | q
    ·subst q;exact absurd (h1.1 z hz) (Wy _)
    ·exact q
   ·intro hz;rcases Qy.mp ((h z).mpr (Ql _ hz))with q | q
    ·subst q;exact absurd (h2.1 z hz) (Wy _)
    ·exact q
  rw[ih]
def gD (ks:List Str) (g:Str->Int):List (Key×V):=ks.map fun x=>((Sum.inr x:Key),V.int (g x))
theorem Y9 (ks:List Str) (g:Str->Int):(gD ks g).length=ks.length:=by unfold gD;rw[Qc]
theorem Y8 (ks:List Str) (g:Str->Int) (y:Str):Xx (gD ks g) (Sum.inr y)=if y∈ks then some (.int (g y))else none:=XB (fun x=>V.int (g x)) y ks
theorem ZbW {ks:List Str} {g g':Str->Int} (h:∀ x∈ks,g x=g' x):gD ks g=gD ks g':=by
 unfold gD;exact Q3 fun x m=>by rw[h x m]
theorem Za7 (ks:List Str) (g:Str->Int) (y:Str) (n:Int):Jc (gD ks g) (Sum.inr y) (.int n)=gD (if y∈ks then ks else ks++[y]) fun x=>if x=y then n else g x:=by
 by_cases m:y∈ks
 ·rw[if_pos m];unfold gD;rw[Jr _ _ _ _ m];apply Q3;intro x _;dsimp only;by_cases e:x=y
  ·rw[if_pos e,if_pos e]
  ·rw[if_neg e,if_neg e]
 ·rw[if_neg m,JX _ (by rw[Y8,if_neg m])];unfold gD;rw[Qz,Wc];dsimp only;rw[if_pos rfl];congr 1;apply Q3;intro x hx;have ne:¬ x=y:=by
   intro e;rw[e]at hx;exact m hx
  rw[if_neg ne]
theorem Zlm (ks:List Str) (g:Str->Int) (y:Str):ZcX (gD ks g) (Sum.inr y)=gD (ks.filter fun x=>decide (x≠y)) g:=by
 unfold ZcX gD;induction ks with
 | nil=>rfl
 | cons x ks ih =>
  rw[Qs,WS,WS,ih];by_cases e:x=y
  ·subst e;simp
  ·have h1:decide ((Sum.inr x:Key)≠Sum.inr y)=true:=decide_eq_true fun q=>e (by injection q);have h2:decide (x≠y)=true:=decide_eq_true e;rw[if_pos h1,if_pos h2,Qs]
end Sh
namespace L2
open PySem PySem.Spec PyProof.Rows
variable {X:Cx}
section
variable {prog:Program} {w:World} {A:Around} {R:Result->Shared->Prop} {it:Addr} {fp wr:List Addr} {n:Nat} {Pv:Nat->Value->Prop} {Sv:Nat->Heap->Prop}
end
theorem ZkV {k:Key} {u:Value} (h:Zaq k u=true):RelV (kV k) u:=by
 rcases keyIs_shape h with ⟨i,t,rfl,rfl⟩ | ⟨x,t,rfl,rfl⟩
 ·exact⟨t,rfl⟩
 ·exact⟨t,rfl⟩
theorem ZmL {kvs:List (Key×V)} {vs:List (Key×Value)} (r:KV kvs vs):∀ {i:Nat} {p:Key×V},kvs[i]?=some p->∃ q,vs[i]?=some q/\p.1=q.1/\RelV p.2 q.2:=by
 unfold KV at r;induction r with
 | nil=>intro i p e;simp at e
 | @cons a b as bs h t ih =>
  intro i p e;cases i with
  | zero =>
   simp at e;subst e;exact⟨b,rfl,h⟩
  | succ i =>
   obtain⟨q,e2,r⟩:=ih (i:=i) (p:=p) (by simpa using e);exact⟨q,by simpa using e2,r⟩
section
variable {X:Cx} {pins:List (Addr×Obj)} {σ:St} {H H':Hp} {s s':Shared} {d:Addr} {o:Obj} {kvs kvs':List (Key×V)}
theorem Inv.frozen (I:Inv X pins σ H s) (hd:H d=some (.dK kvs)):∃ o,Inv X pins σ (upd H d (.frz o (.dK kvs))) s:=by
 have q:=I.hok d _ hd;obtain⟨z,lo,vs,kv,dd⟩:=id q;obtain⟨o,es,ep,ho,r⟩:=id dd;refine⟨o,I.write (h':=s.heap) (t':=s.toks) (x:=d) (e:=d) (by rw[hd];exact True.intro) (.inl rfl) (fun _ _ _ z=>z) ⟨o,ho⟩ ⟨ho,z,lo,vs,kv,dd⟩⟩
theorem Inv.thaw (I:Inv X pins σ H s) (hd:H d=some (.dK kvs)) (J:Inv X pins σ H' s') (e:H' d=some (.frz o (.dK kvs'))):Inv X pins σ (upd H' d (.dK kvs')) s':=by
 have nn:∀ b,H' b=none->upd H' d (.dK kvs') b=none:=fun b z=>by
  rw[Zl]
  ·exact z
  ·intro w;rw[w,e]at z;cases z
 refine {J with base:=⟨J.base.keep,J.base.slot,fun b ob h1 h2 h3=>nn b (J.base.free b ob h1 h2 h3),J.base.there,fun b xs h1=>?_,fun b ob u h1=>?_,fun b ps h1=>?_⟩,free:=nn _ J.free,freeC:=fun x c h=>nn _ (J.freeC x c h),pin:=fun p hp=>?_,hok:=fun b u h1=>?_}
 ·have h2:=J.base.tups b xs h1;rw[Zl]
  ·exact h2
  ·intro w;rw[w,e]at h2;cases h2
 ·by_cases w:b=d
  ·have h2:=I.base.frzs b ob u h1;rw[w,hd]at h2;cases h2
  ·rw[Zl w];exact J.base.frzs b ob u h1
 ·obtain⟨more,h2⟩:=J.base.tbls b ps h1;refine⟨more,?_⟩;rw[Zl]
  ·exact h2
  ·intro w;rw[w,e]at h2;cases h2
 ·obtain⟨p1,p2,p3⟩:=J.pin p hp;exact⟨p1,nn _ p2,p3⟩
 ·have ho:∀ (a:Addr) (b:Addr),H' b=some (.own a)->upd H' d (.dK kvs') b=some (.own a):=fun a b z=>by
   rw[Zl]
   ·exact z
   ·intro w;rw[w,e]at z;cases z
  have ht:∀ (b:Addr) xs,H' b=some (.tup xs)->upd H' d (.dK kvs') b=some (.tup xs):=fun b xs z=>by
   rw[Zl]
   ·exact z
   ·intro w;rw[w,e]at z;cases z
  by_cases w:b=d
  ·subst w;rw[Zd]at h1;cases h1;obtain⟨_,q⟩:=J.hok b _ e;exact q.stay (fun _ _ _ z=>z) (ho b) ht
  ·rw[Zl w]at h1;exact(J.hok b u h1).stay (fun _ _ _ z=>z) (ho b) ht
end
def Zot (t:TE):TE:=fun σ H Q=>∃ d kvs,H d=some (.dK kvs)/\∀ o,t σ (upd H d (.frz o (.dK kvs))) fun v H'=>H' d=some (.frz o (.dK kvs))/\Q v (upd H' d (.dK kvs))
theorem Zj7 {e:Expr} {t:TE} (h:PE X e t):PE X e (Zot t):=by
 intro pins s σ H Q I q;obtain⟨d,kvs,hd,q⟩:=q;obtain⟨o,I1⟩:=I.frozen hd;exact thn (h pins s σ _ _ I1 (q o)) fun u s2 ⟨v,H2,I2,r,e2,q2⟩=>⟨v,_,I.thaw hd I2 e2,r,q2⟩
theorem Zkm {pins:List (Addr×Obj)} {σ:St} {H:Hp} {s:Shared} {d:Addr} {o:Obj} {kvs:List (Key×V)} {es:Array DictEntry} {ep:Nat} (I:Inv X pins σ H s) (hd:H d=some (.frz o (.dK kvs))) (ho:o.data= .dict es ep) :
  ∃ vs,KV kvs vs/\s.heap.DictAt (Zz X.prog X.w) d vs ep/\(d==sysModules)=false:=by
 obtain⟨h1,z,lo,vs,kv,o',es',ep',h2,h3,h4,h5⟩:=I.hok d _ hd;rw[h1]at h2;cases h2;rw[ho]at h4;cases h4;exact⟨vs,kv,⟨o,es,h1,h3,ho,h5⟩,lo⟩
theorem Zka (hu:X.A.units+64<cLine):OpR X (compareOp .NotEq) (fun x y H Q=>∃ da db,RepD H da x/\RepD H db y/\SeqAt.shaped da=true/\SeqAt.shaped db=true/\Q (.bl (!PyData.eqv da db)) H):=by
 intro pins s σ H x y v u Q I rx ry h;obtain⟨da,db,r1,r2,s1,s2,q⟩:=h;obtain⟨as,q1⟩:=RepD.reads I da x v r1 rx;obtain⟨bs,q2⟩:=RepD.reads I db y u r2 ry;exact ne_dataH q1 q2 s1 s2 hu ⟨.bl _,H,I,rfl,q⟩
theorem ZdE {t u:TS} {D:Zdo} {σ:L2.St} {H:Hp} (I:L2.St->Hp->Prop) (h:∀ R:L2.St->Hp->Prop,(∀ σ' H',I σ' H'->R σ' H')->t {D with nx:=R} σ H) (hu:∀ σ' H',I σ' H'->u D σ' H'):Zdm t u D σ H:=h _ hu
theorem Zd3:MtR X "list.pop" Zn9:=ZmE
section
variable {X:Cx} {pins:List (Addr×Obj)} {σ:St} {H:Hp} {s:Shared} {a:Addr} {kvs:List (Key×V)} {k:Key} {u:Value} {A:Around} {E:Value->Shared->Prop}
theorem ZmX {z:V} {r:Value} {Q:Value->Shared->Prop} (I:Inv X pins σ H s) (e:H a=some (.dK kvs)) (ry:RelV (kV k) u) (rz:RelV z r) (hl:kvs.length<sizeLine) (h1:∀ v w' s',Xx kvs k=some v->RelV v w'->Inv X pins σ H s'->Q w' s')
  (h2:Xx kvs k=none->∀ s',Inv X pins σ (upd H a (.dK (Jc kvs k z))) s'->Q r s'):wpAny (model X.prog X.w) A (call (.builtin "dict.setdefault") [.ref a,u,r]) Q E s:=by
 obtain⟨zz,hd,vs,rel,dd⟩:=Zc2 I.hok e;refine call_meetsIn PySem.F.slot_dict_setdefault dd.typeIs PySem.F.entry_dict_setdefault (PySem.F.args_dict_setdefault_3 _ _ _) (kt_meets_setdefault (Zz X.prog X.w) a (JJ ry) hd r) ⟨vs,dd,by rw[←rel.length];exact zz,fun v hv=>?_,fun hn h' dd' hs=>?_⟩
 ·have q:=rel.val k;rw[hv]at q;cases l:Xx kvs k with
  | none=>rw[l]at q;exact(show False from q).elim
  | some v'=>rw[l]at q;exact h1 v' v _ l q (I.tok _)
 ·have q:=rel.val k;rw[hn]at q;have hlp:(Jc kvs k z).length<=sizeLine:=by have:=YZ kvs k z;omega
  have he:∃ q,h'.get? a=some q:=let ⟨q,_,_,hq,_⟩:=dd';⟨q,hq⟩;cases l:Xx kvs k with
  | none=>exact h2 l _ (Jx I (by rw[e];exact True.intro) hs he (Zc3 hlp hd (rel.put k rz) dd'))
  | some v'=>rw[l]at q;exact(show False from q).elim
end
def Znp (td ty tx:TE):TE:=fun σ H Q=>td σ H fun x H1=>∃ a,x= .ref a/\IsD H1 a/\ty σ H1 fun y H2=>tx σ H2 fun z H3=>∃ kvs k,H3 a=some (.dK kvs)/\y=kV k/\kvs.length<sizeLine /\
 (∀ v,Xx kvs k=some v->Q v H3)/\(Xx kvs k=none->Q z (upd H3 a (.dK (Jc kvs k z))))
theorem ZdO {o e f:Expr} {apos cpos:Pos} {td ty tx:TE} (ho:PE X o td) (he:PE X e ty) (hf:PE X f tx) (m:M2 X o "setdefault" apos e f cpos):PE X (.Call (.Attribute o "setdefault" apos) [e,f] [] cpos) (Znp td ty tx):=by
 intro pins s σ H Q I h;refine wpAny_Call_method m.base m.few m.line PySem.F.plainAttrs_dict PySem.F.slot_dict_setdefault PySem.F.type_dict_setdefault (thn (ho pins s σ H _ I h) fun u s1 ⟨x,H1,I1,rx,a,ex,d,q1⟩=>?_);subst ex;obtain rfl:u=Value.ref a:=rx;obtain⟨t1,t2,_⟩:=Zfd I1 d;refine⟨t1,t2,?_⟩;rw[m.trees];refine Calls.callWith_builtin rfl (Calls.evalArgs_plain (Calls.spliced_cons (thn (he pins s1 σ H1 _ I1 q1) fun iv s2 ⟨y,H2,I2,ry,q2⟩ =>
  Calls.spliced_cons (thn (hf pins s2 σ H2 _ I2 q2) fun fv s3 ⟨z,H3,I3,rz,kvs,k,ea,ey,hl,q3,q4⟩=>Calls.spliced_nil ?_))))
 subst ey;exact ZmX I3 ea ry rz hl (fun v w' s4 l rw' I4=>⟨v,H3,I4,rw',q3 v l⟩) fun l s4 I4=>⟨z,_,I4,rz,q4 l⟩
open PySem PySem.Spec PyProof.Rows PySem.Builtin.Str
end L2
namespace Sh
open PySem L2 PyProof.Rows PySem.Builtin.Str
variable {P:Program} {w:World} {K:PySem.W.Frag} {mg:Str->Option Value} {base:Heap}
end Sh
namespace L2
open PySem PySem.Spec PyProof.Rows
def Itk (d:Addr) (o:Obj) (kvs:List (Key×V)):It :=
 ⟨fun i H=>H d=some (.frz o (.dK kvs))/\i<kvs.length,fun i H x H'=>H'=H/\∃ p,kvs[i]?=some p/\x=kV p.1,fun i H=>H d=some (.frz o (.dK kvs))/\kvs.length<=i⟩
theorem Zgb {P:Program} {w:World} {K:PySem.W.Frag} {tg:Expr} (d it:Addr) (o:Obj) (kvs:List (Key×V)) {es:Array DictEntry} {ep:Nat} (hod:o.data= .dict es ep) :
  Zku P w K tg (Itk d o kvs) [it] it (fun i h=>h.IsKeyIter it d i kvs.length ep) where
 mem:=by simp
 obj:=fun i h he c hc=>by
  have hc:=Qm.mp hc;subst hc;obtain⟨ob,g1,g2,g3⟩:=he;exact⟨ob,g1,fun v z=>by rw[g3]at z;cases z⟩
 keep:=fun i h h' he kk=>he.at fun ob e=>kk it (by simp) ob e
 item:=by
  intro X hP hw hK hc i pins s σ H E I hf he hg;subst hP hw hK;obtain⟨hd,hi⟩:=hg;obtain⟨vs,kv,da,lo⟩:=Zkm I hd hod;obtain⟨p,hp⟩:∃ p,kvs[i]?=some p:=⟨_,Qa hi⟩
  obtain⟨q,hq,e1,e2⟩:=ZmL kv hp;obtain⟨f0,f1,f2,f3,f4,f5⟩:=hf it (by simp);have he':s.heap.IsKeyIter it d i vs.length ep:=by rw[←kv.length];exact he
  refine wpAny_pyNext_dict_item (k:=q.1) he' da hq fun key h1 hkey hit1 sb=>?_;have I1:Inv X pins σ H {s with heap:=h1}:=I.turned (t':=s.toks) (fun b u hb e=>(sb.2 b hb).trans e) f0 f1 f3 f4 f5;refine⟨key,rfl,letGo_keyiter hit1 ⟨kV p.1,H,I1,by rw[e1];exact ZkV hkey,⟨rfl,p,hp,rfl⟩,by rw[kv.length];exact hit1,fun b hb=>(hf b hb).1⟩⟩
 done:=by
  intro X hP hw hK hc i pins s σ H E I hf he hg;subst hP hw hK;obtain⟨hd,hi⟩:=hg;obtain⟨vs,kv,da,lo⟩:=Zkm I hd hod;obtain⟨f0,f1,f2,f3,f4,f5⟩:=hf it (by simp);have he':s.heap.IsKeyIter it d i vs.length ep:=by rw[←kv.length];exact he
  exact wpAny_pyNext_dict_end (I.ok.hd hc) he' da (Qo (by rw[←kv.length];exact hi)) fun h' eb=>⟨rfl,I.turned (t':=s.toks) (fun b u hb e=>eb b u hb e) f0 f1 f3 f4 f5⟩
 self:=fun A i s Q E he h=>wpAny_pyIter_keyiter he h
def ZnO (td:TE):TI:=fun σ H R=>td σ H fun x H1=>∃ d o kvs,x= .ref d/\H1 d=some (.frz o (.dK kvs))/\R (Itk d o kvs) H1
theorem Zha {X:Cx} {tg ob:Expr} {td:TE} (ho:PE X ob td):PI X tg ob (ZnO td):=by
 intro pins s σ H R I h;refine thn (ho pins s σ H _ I h) fun v s1 ⟨x,H1,I1,r1,d,o,kvs,ex,hd,q1⟩=>?_;subst ex;obtain rfl:v=Value.ref d:=r1;obtain⟨g1,z,lo,vs,kv,dd⟩:=I1.hok d _ hd;obtain⟨ep,da⟩:=dd.dictAt;refine wpAny_pyIter_dict lo da ?_;obtain⟨o',es,g2,_,g3,_⟩:=id da;rw[g1]at g2;cases g2;refine⟨_,[_],_,Itk d o kvs,H1,rfl,I1.kept (t':=s1.toks) fun b u e=>Qh _ e,Zgb d s1.heap.objs.size o kvs g3,?_,fun b hb=>?_,q1⟩
 ·rw[kv.length];exact⟨_,Qx _ rfl,rfl,rfl⟩
 ·rw[Qm.mp hb];exact I1.fpOk (Qk _) (I1.hok.fresh (Qk _))
theorem ZhR {d:Addr} {o:Obj} {kvs:List (Key×V)} {H1:Hp} (hd:H1 d=some (.frz o (.dK kvs))):∀ H,Same H1 H->(∀ i,i<kvs.length->(Itk d o kvs).go i H/\∀ x H',(Itk d o kvs).yld i H x H'->H'=H/\x=(kvs.map fun p=>kV p.1).getD i .non)/\(Itk d o kvs).stop kvs.length H:=fun H s=>by
 refine⟨fun i hi=>⟨⟨s _ _ hd,hi⟩,fun x H' y=>?_⟩,⟨s _ _ hd,Qk _⟩⟩;obtain⟨e,p,hp,ex⟩:=y;refine⟨e,?_⟩;rw[ex,Qb,Qg,hp];rfl
theorem ZbP {k:Nat} {mp:List Nat} {σ:St} {g:TG} {tc:TT} {te:TE} {J:It} {H1:Hp} {Q:VK} (n:Nat) (xs:Nat->V) (t:Nat->Bool) (R:Nat->V->Hp->Prop) (hn:n<=sizeLine)
  (hR:∀ i v H H',TSame H H'->R i v H->R i v H')
  (hJ:∀ H,Same H1 H->(∀ i,i<n->J.go i H/\∀ x H',J.yld i H x H'->H'=H/\x=xs i)/\J.stop n H)
  (step:∀ i H (Qt:VK) (Qf:Hp->Prop),i<n->Same H1 H->(t i=true->∀ v H6,Same H H6->R i v H6->Qt v H6)->(t i=false->∀ H6,Same H H6->Qf H6)->g (xs i) (lcS k mp σ) H fun σ4 H4=>tc σ4 H4 fun b H5=>if b=true then te σ4 H5 Qt else Qf H5)
  (done:∀ D vs H',vs.length=((Qq n).filter t).length->(∀ (j i:Nat) (v:V),((Qq n).filter t)[j]?=some i->vs[j]?=some v->R i v H')->Same H1 H'->H1 D=none->H' D=some (.lst vs)->Q (.ref D) H'):Zap k mp σ g tc te J H1 Q:=by
 intro D hD;refine⟨fun i m acc H=>m=n-i/\i<=n/\acc.length=((Qq i).filter t).length/\Same H1 H/\H D=some (.lst acc)/\∀ (j q:Nat) (v:V),((Qq i).filter t)[j]?=some q->acc[j]?=some v->R q v H,
  ⟨n,by simp,QV _,rfl,Zb hD,Zd,fun j q v e _=>by simp at e⟩,?_⟩
 rintro i m acc H ⟨rfl,hi,hl,hs,hDa,hr⟩;obtain⟨j1,j2⟩:=hJ H hs;by_cases hlt:i<n
 ·refine .inr ⟨(j1 i hlt).1,fun x H3 y=>?_⟩;obtain⟨e1,e2⟩:=(j1 i hlt).2 x H3 y;subst e1 e2;refine step i H3 _ _ hlt hs (fun ht v H6 s6 r6=>⟨s6 _ _ hDa,?_,n-(i+1),by omega,rfl,hlt,?_,fun b o e=>?_,Zd,fun j q u e1 e2=>?_⟩) (fun ht H6 s6=>⟨n-(i+1),by omega,rfl,hlt,?_,hs.trans s6,s6 _ _ hDa,fun j q u e1 e2=>?_⟩)
  ·have:=Q7 t (Qq i);rw[Q5]at this;omega
  ·rw[Wb,WM,Qd,Qd,hl];simp[ht]
  ·rw[Zl (Zo e hD)];exact s6 _ _ (hs b o e)
  ·have ts:TSame H6 (upd H6 D (.lst (acc++[v]))):=Yh (s6 _ _ hDa);rw[Wb,WM]at e1;rcases RN j acc.length with h | h | h
   ·rw[QO h]at e2;rw[QO (by omega)]at e1;exact hR _ _ _ _ (s6.tup.trans ts) (hr j q u e1 e2)
   ·subst h;rw[QI (Qk _),Wq]at e2;rw[QI (by omega),hl,Wq]at e1;simp[ht]at e1 e2;subst e1 e2;exact hR _ _ _ _ ts r6
   ·rw[Qo (by rw[Qd,Qr];omega)]at e2;cases e2
  ·rw[Wb,WM,Qd,hl];simp[ht]
  ·rw[Wb,WM]at e1;have hj:j<acc.length:=(Qp.mp e2).1;rw[QO (by omega)]at e1;exact hR _ _ _ _ s6.tup (hr j q u e1 e2)
 ·have e:i=n:=by omega
  subst e;exact .inl ⟨j2,done D acc H hl hr hs hD hDa⟩
section
variable {prog:Program} {w:World} {A:Around} {E:Value->Shared->Prop} {s:Shared}
end
end L2
namespace Tim
open PySem PySem.W PyProof.Rows
structure SortA (prog:Program) (w:World) (h1:Heap) (vs:List Value) (lt:Nat->Nat->Bool) (κ:SortKind):Prop where
 kd:∀ (A:Around) (E:Value->Shared->Prop) (s:Shared) (Q:SortKind->Shared->Prop),(∀ b o,h1.get? b=some o->s.heap.get? b=some o)->2<=vs.length->Q κ s->wpAny (model prog w) A (keyKind' vs.toArray) Q E s
 ask:∀ (A:Around) (s:Shared) (i j:Nat) (x y:Value) (C:Bool->Shared->Prop),(∀ b o,h1.get? b=some o->s.heap.get? b=some o)->vs[i]?=some x->vs[j]?=some y->(∀ tk,C (lt i j) {s with toks:=tk})->wpAny (model prog w) A (keyLt' κ x y) C (fun _ _=>False) s
section
variable {prog:Program} {w:World} {A:Around} {E:Value->Shared->Prop} {s:Shared}
theorem list_sortS {a:Addr} {vs:List Value} {lt:Nat->Nat->Bool} {κ:SortKind} {n:Nat} {P:PySem.Fin->Shared->Prop} (ho:s.heap.get? a=some (seqObj "list" vs.toArray n)) (h64:vs.length<64) (o:Srt.Ord vs.length lt)
  (kd:∀ (h6:Heap) (Q:SortKind->Shared->Prop),(∀ b o,b≠a->s.heap.get? b=some o->h6.get? b=some o)->2<=vs.length->Q κ {s with heap:=h6}->wpAny (model prog w) A (keyKind' vs.toArray) Q E {s with heap:=h6})
  (ask:∀ (h6:Heap) (tk i j:Nat) (x y:Value) (C:Bool->Shared->Prop),(∀ b o,b≠a->s.heap.get? b=some o->h6.get? b=some o)->vs[i]?=some x->vs[j]?=some y->(∀ tk,C (lt i j) {s with heap:=h6,toks:=tk})->wpAny (model prog w) A (keyLt' κ x y) C (fun _ _=>False) {s with heap:=h6,toks:=tk})
  (h:∀ (h1:Heap) (tk c:Nat) (p:Array Nat),Srt.Pm vs.length p->(∀ i j,i<j->j<vs.length->lt (p.getD j 0) (p.getD i 0)=false)->(∀ b o,b≠a->s.heap.get? b=some o->h1.get? b=some o) ->
   h1.get? a=some (seqObj "list" (p.toList.map fun i=>vs.getD i Value.none).toArray c)->P (.done (.ret .none)) {s with heap:=h1,toks:=tk}) :
  wpAny (model prog w) A (Builtin.«list.sort» ⟨[.ref a],[]⟩) P E s:=by
 have ha:a<s.heap.objs.size:=Qu ho;have hz:vs.length<=sizeLine:=by rw[sizeLine_eq];omega
 rw[list_sort_plain];refine wpAny_bind (listItems_at ho rfl (wpAny_bind (listUpdate_at ho rfl ?_ (by rw[Qw];exact hz) (QV _))));obtain⟨e1,ho1⟩:∃ e1,(s.heap.update a (Obj.mapSeq fun _=>(#[]:Array Value))).get? a=some (seqObj "list" #[] e1):=⟨_,get?_update_seq ho fun _=>#[]⟩
 have k1:∀ b o,b≠a->s.heap.get? b=some o->(s.heap.update a (Obj.mapSeq fun _=>(#[]:Array Value))).get? b=some o:=fun b o hb q=>(QZ _ _ (Ne.symm hb)).trans q;refine wpAny_bind (seqEpoch_at ho1 rfl (wpAny_bind (wpAny_newTuple ?_ (by show vs.length<=_;exact hz))));refine wpAny_bind (wpAny_newList ?_ (QV _));refine wpAny_holding ?_;generalize hg:((s.heap.update a (Obj.mapSeq fun _=>(#[]:Array Value))).push {cls:=.type "tuple",data:=.seq vs.toArray.toList.toArray}).push {cls:=.type "list",data:=.seq ([]:List Value).toArray}=h6;have k6:∀ b o,b≠a->s.heap.get? b=some o->h6.get? b=some o:=fun b o hb q=>by
  rw[←hg];exact Qh _ (Qh _ (k1 b o hb q))
 have ho6:h6.get? a=some (seqObj "list" #[] e1):=by
  rw[←hg];exact Qh _ (Qh _ ho1)
 show wpAny (model prog w) A _ P E {s with heap:=h6};dsimp only;have fin:∀ (tk:Nat) (p:Array Nat) (out:Array Value),Srt.Pm vs.length p->(∀ i j,i<j->j<vs.length->lt (p.getD j 0) (p.getD i 0)=false)->out=(p.toList.map fun i=>vs.getD i Value.none).toArray ->
   ∃ c,(h6.update a (Obj.mapSeq fun _=>out)).get? a=some (seqObj "list" out c)/\out.size<=sizeLine/\P (.done (.ret .none)) {s with heap:=h6.update a (Obj.mapSeq fun _=>out),toks:=tk}:=fun tk p out hp hu ho'=>by
  have hc:=get?_update_seq ho6 fun _=>out;refine⟨_,hc,?_,h _ tk _ p hp hu (fun b o hb q=>(QZ _ _ (Ne.symm hb)).trans (k6 b o hb q)) (by rw[←ho'];exact hc)⟩;rw[ho',Qw,Qc,QK,hp.size];exact hz
 have hr:vs=(Qq vs.length).map fun i=>vs.getD i Value.none:=by
  apply QU;intro i;simp only[Qg];by_cases hi:i<vs.length
  ·rw[Qa hi,QT hi,Wd,Qb,Qa hi];rfl
  ·rw[Qo (by omega),Qo (by simp;omega)];rfl
 by_cases h2:vs.toArray.size<2
 ·rw[if_pos h2,if_pos h2];rw[Qw]at h2;obtain⟨c,f1,f2,f3⟩:=fin s.toks (Qq vs.length).toArray vs.toArray ⟨by simp,Array.Perm.refl _⟩ (fun a b hab hb=>by omega) (congrArg List.toArray hr);refine wpAny_bind (wpAny_pure ?_);rw[StateT.run_pure];refine wpAny_bind (wpAny_pure ?_);have eo:(arrOf (SortSt.mk' general' (vs.toArray.zip vs.toArray) #[] 7 none)).map (·.2)=vs.toArray:=by
   show(vs.toArray.zip vs.toArray).map (·.2)=vs.toArray;apply RX.mp;simp;exact RY (Qk _)
  dsimp only;rw[eo];refine wpAny_bind (seqEpoch_at ho6 rfl (wpAny_bind (listUpdate_at ho6 rfl ?_ (QV _) (Uy f2))));simp only[bne_self_eq_false,Wn,if_false];exact wpAny_pure f3
 ·rw[if_neg h2,if_neg h2];rw[Qw]at h2;refine wpAny_bind (kd h6 _ k6 (by omega) ?_);refine wpAny_bind (wpAny_mono (kat_run (κ:=κ) (ks:=vs) (vs:=vs) (G:=fun p s'=>(∃ tk,s'={s with heap:=h6,toks:=tk})/\Srt.Pm vs.length p/\Srt.Up lt p vs.length)
   (Q:=fun st' s'=>∃ p:Array Nat,arrOf st'=p.map (kas_item (vs.toArray.zip vs.toArray))/\failedOf st'=none/\(∃ tk,s'={s with heap:=h6,toks:=tk})/\Srt.Pm vs.length p/\Srt.Up lt p vs.length)
   rfl (by omega) h64 (fun p st' s' _ a2 a3 a4=>⟨p,a2,a3,a4⟩) ?_) ?_ fun _ _ e=>e)
  ·refine Srt.sort (G:=fun s'=>∃ tk,s'={s with heap:=h6,toks:=tk}) o (fun i j C s' hi hj hij g k=>?_) (by omega) ⟨s.toks,rfl⟩ fun p s' hp hu g=>⟨g,hp,hu⟩
   obtain⟨tk,rfl⟩:=g;show wpAny (model prog w) A (keyLt' κ (vs.getD i Value.none) (vs.getD j Value.none)) C (fun _ _=>False) {s with heap:=h6,toks:=tk};refine ask h6 tk i j _ _ C k6 ?_ ?_ fun tk2=>k _ ⟨tk2,rfl⟩
   ·rw[Qb,Qa hi];rfl
   ·rw[Qb,Qa hj];rfl
  ·rintro⟨⟨⟩,st'⟩ s' ⟨p,har,hf',⟨tk,rfl⟩,hp,hu⟩;obtain⟨c,f1,f2,f3⟩:=fin tk p _ hp (fun i j hij hj=>o.asy _ _ (hu i j hij hj)) rfl;dsimp only;rw[kat_snds rfl har];refine wpAny_bind (seqEpoch_at (s:={s with heap:=h6,toks:=tk}) ho6 rfl (wpAny_bind (listUpdate_at (s:={s with heap:=h6,toks:=tk}) ho6 rfl ?_ (QV _) (Uy f2))));rw[hf'];simp only[bne_self_eq_false,Wn,if_false];exact wpAny_pure f3
theorem sorted_allS {r:Addr} {Q:Value->Shared->Prop} {Pc:Heap->List Value->Prop} {lt:Nat->Nat->Bool} {κ:SortKind}
  (col:∀ (R:List Value->Shared->Prop),(∀ h1 tk vs,(∀ b o,s.heap.get? b=some o->h1.get? b=some o)->Pc h1 vs->R vs {s with heap:=h1,toks:=tk})->wpAny (model prog w) A.in1 (collect (.ref r)) R E s)
  (ord:∀ h1 vs,(∀ b o,s.heap.get? b=some o->h1.get? b=some o)->Pc h1 vs->vs.length<64/\Srt.Ord vs.length lt/\SortA prog w h1 vs lt κ)
  (fin:∀ h1 vs h3 tk c p,Pc h1 vs->(∀ b o,s.heap.get? b=some o->h3.get? b=some o)->(∀ b o,h1.get? b=some o->h3.get? b=some o)->(∀ b o,s.heap.get? b=some o->h1.get? b=some o)->Srt.Pm vs.length p->(∀ i j,i<j->j<vs.length->lt (p.getD j 0) (p.getD i 0)=false) ->
   h3.get? h1.objs.size=some (seqObj "list" (p.toList.map fun i=>vs.getD i Value.none).toArray c)->s.heap.get? h1.objs.size=none->Q (.ref h1.objs.size) {s with heap:=h3,toks:=tk}) :
  wpAny (model prog w) A (call (.builtin "sorted") [.ref r]) Q E s:=by
 refine Calls.call_function_entry kind_sorted plain_sorted entry_sorted (args_sorted1 _) ?_;unfold Builtin.«sorted»;refine wpAny_bind (m:=checkCount "sorted" 1 1 _) (wpAny_pure ?_);refine wpAny_bind (col _ fun h1 tk vs hk hP=>?_);obtain⟨h64,O,S⟩:=ord h1 vs hk hP;have hz:vs.length<=sizeLine:=by rw[sizeLine_eq];omega
 refine wpAny_bind (wpAny_newList ?_ hz);have hB:(h1.push {cls:=.type "list",data:=.seq vs.toArray}).get? h1.objs.size=some (seqObj "list" vs.toArray 0):=Qx _ rfl;refine wpAny_bind (wpAny_holding (wpAny_call_entry slot_list_sort ⟨_,hB,rfl⟩ entry_list_sort ?body (args_list_sort _)));have k1:∀ {h6:Heap},(∀ b o,b≠h1.objs.size->(h1.push {cls:=.type "list",data:=.seq vs.toArray}).get? b=some o->h6.get? b=some o)->∀ b o,h1.get? b=some o->h6.get? b=some o:=fun k b o e=>k b o (QC (Qu e)) (Qh _ e);refine list_sortS (s:={s with heap:=h1.push {cls:=.type "list",data:=.seq vs.toArray},toks:=tk}) hB h64 O (fun h6 Q k h2 q=>S.kd _ _ _ _ (k1 k) h2 q) (fun h6 tk' i j x y C k e1 e2 q=>S.ask _ _ i j x y C (k1 k) e1 e2 fun tk2=>q tk2)
  fun h3 tk3 c p hp hs hkeep hD=>⟨_,rfl,wpAny_pure ⟨_,rfl,?_⟩⟩
 refine fin h1 vs h3 tk3 c p hP (fun b o e=>k1 hkeep b o (hk b o e)) (k1 hkeep) hk hp hs hD ?_;cases e:s.heap.get? h1.objs.size with
 | none=>rfl
 | some u=>exact absurd (Qu (hk _ _ e)) (Wu _)
theorem sa_strsS {h1:Heap} {vs:List Value} {xs:List Str} (hS:StrsAre vs xs):SortA prog w h1 vs (ltS xs) oneType' where
 kd:=fun A E s Q _ h2 q=>by
  match vs,hS,h2 with
  | v1::v2::vs,hS,_ =>
   rw[keyKind_strs hS];exact wpAny_pure q
 ask:=fun A s i j x y C _ e1 e2 q=>by
  obtain⟨t1,rfl,_⟩:=strs_at hS i _ e1;obtain⟨t2,rfl,_⟩:=strs_at hS j _ e2;exact kas_lt_str (q s.toks)
end
end Tim
namespace L2
open PySem PySem.Spec PyProof.Rows PySem.W
variable {X:Cx} {n:Nat}
theorem Xm (hc:X.calm=true):CallR X (.builtin "sorted") (fun xs H Q=>∃ (p:Addr) (ks:List Str),xs=[.ref p]/\H p=some (stO X p ks)/\ks.length<64 /\
  ∀ (q:Addr) (ss:List Str),H q=none->ss.Perm ks->(ss.map fun x=>x.cps.toList).Pairwise (· < ·)->Q (.ref q) (upd H q (.lst (ss.map V.str)))):=by
 intro pins s σ H xs us Q I r h;obtain⟨p,ks,rfl,hp,h64,q⟩:=h;have h1k:ks.length<=1000:=by omega
 obtain⟨u,rfl,ru⟩:=Jf r;cases ru;obtain⟨⟨o,es,ep,t,T⟩,_,_⟩:=(show SetT X.prog X.w s.heap p ks/\_ from I.hok p _ hp)
 refine Calls.call_function_entry kind_sorted plain_sorted entry_sorted (args_sorted1 _) ?_;unfold Builtin.«sorted»;refine wpAny_bind (m:=checkCount "sorted" 1 1 _) (wpAny_pure (wpAny_bind (Zei (A:=X.A.in1) (I.ok.hd hc) T h1k fun h1 tk d acc ord hpm kk hacc=>?_)));obtain⟨ys,hys,hS⟩:=ZgA T hpm hacc;have hl:=Tim.strs_len hS;have hyl:=hys.length_eq;generalize acc.toList=vs at hS hl;have SA:Tim.SortA X.prog X.w h1 vs (Tim.ltS ys) oneType':=Tim.sa_strsS hS;have O:Srt.Ord vs.length (Tim.ltS ys):=by rw[hl];exact ZbN (hys.nodup_iff.mpr T.nd)
 refine wpAny_bind (wpAny_newList ?_ (JB (by omega)));have hB:(h1.push {cls:=.type "list",data:=.seq vs.toArray}).get? h1.objs.size=some (seqObj "list" vs.toArray 0):=Qx _ rfl;have k1:∀ {h6:Heap},(∀ b o,b≠h1.objs.size->(h1.push {cls:=.type "list",data:=.seq vs.toArray}).get? b=some o->h6.get? b=some o)->∀ b o,h1.get? b=some o->h6.get? b=some o:=fun k b o e=>k b o (QC (Qu e)) (Qh _ e);refine wpAny_bind (wpAny_holding (wpAny_call_entry slot_list_sort ⟨_,hB,rfl⟩ entry_list_sort ?_ (args_list_sort _)));refine Tim.list_sortS (s:={s with heap:=h1.push {cls:=.type "list",data:=.seq vs.toArray},toks:=tk,drawn:=d}) hB (by omega) O (fun h6 Q k h2 q=>SA.kd _ _ _ _ (k1 k) h2 q) (fun h6 tk' i j x y C k e1 e2 q=>SA.ask _ _ i j x y C (k1 k) e1 e2 fun tk2=>q tk2)
  fun h3 tk3 c pm hpm3 hs3 hkeep hD=>⟨_,rfl,wpAny_pure ⟨_,rfl,?_⟩⟩
 have hp':Srt.Pm ys.length pm:=by rw[←hl];exact hpm3
 have hN:s.heap.get? h1.objs.size=none:=by
  cases e:s.heap.get? h1.objs.size with
  | none=>rfl
  | some u=>exact absurd (Qu (kk _ _ e)) (Wu _)
 have hmem:∀ i∈pm.toList,i<ys.length:=fun i hi=>by
  have:i∈pm:=by simpa using hi
  have:=hp'.perm.mem_iff.mp this;simpa using this
 have vv:∀ l:List Nat,(∀ i∈l,i<ys.length)->Vals ((l.map fun i=>ys.getD i "").map V.str) (l.map fun i=>vs.getD i Value.none):=by
  intro l;induction l with
  | nil=>intro _;exact .nil
  | cons i l ih =>
   intro hh;have hi:i<vs.length:=by have:=hh i (Qj ..);omega
   obtain⟨t,e,_⟩:=Tim.strs_at hS i _ (Qa hi);refine .cons ?_ (ih fun j hj=>hh j (Ql _ hj));show RelV (V.str (ys.getD i "")) (vs.getD i Value.none);rw[Qb (l:=vs),Qa hi];exact⟨t,e⟩
 obtain⟨hn,I2⟩:=ZdR (tk:=tk3) (vs:=(pm.toList.map fun i=>ys.getD i "").map V.str) (I.drw d) (fun b u e=>k1 hkeep b u (kk b u e)) hN (by rw[Qc,Qc,QK,hp'.size];exact JB (by omega)) ⟨_,c,vv pm.toList hmem,hD⟩;refine⟨.ref h1.objs.size,_,I2,rfl,q _ _ hn ((Js ys pm hp').trans hys) ?_⟩;have nd:ys.Nodup:=hys.nodup_iff.mpr T.nd;have hup:=Zmd (n:=ys.length) rfl nd hp' (by rw[←hl];exact hs3);rw[QA,QY,Uj];intro i j hi hj hij;have hz2:pm.toList.length=ys.length:=by rw[QK,hp'.size]
 have hu:=hup i j hij (by omega);unfold ltX at hu;rw[decide_eq_true_eq,ZfB hp' hi,ZfB hp' hj]at hu;exact hu
theorem ZaQ (hc:X.calm=true):CallR X (.builtin "sorted") (fun xs H Q=>∃ (d:Addr) (ks:List Str) (g:Str->V),xs=[.ref d]/\H d=some (.dK (ks.map fun x=>((Sum.inr x:Key),g x)))/\ks.Nodup/\ks.length<64 /\
  ∀ (p:Addr) (ss':List Str),H p=none->ss'.Perm ks->(ss'.map fun x=>x.cps.toList).Pairwise (·<=·)->Q (.ref p) (upd H p (.lst (ss'.map V.str)))):=by
 intro pins s σ H xs us Q I r h;obtain⟨d,ks,g,rfl,hd,nd,h64,q⟩:=h;have h1k:ks.length<=1000:=by omega
 obtain⟨u,rfl,ru⟩:=Jf r;cases ru;obtain⟨hz,lo,vs',kv,dd⟩:=Zc2 I.hok hd;obtain⟨ep,hat⟩:=dd.dictAt;have hlen:ks.length=vs'.length:=by have:=kv.length;simpa using this
 have toS:∀ (n:Nat) (vs:List Value) (xs:List Str),vs.length=xs.length->(∀ (i:Nat) (v:Value),vs[i]?=some v->∃ t,v= .str (xs.getD i "") t)->StrsAre vs xs:=by
  intro n vs;induction vs with
  | nil =>
   intro xs e _;match xs,e with
   | [],_=>exact .nil
  | cons v vs ih =>
   intro xs e hh;match xs,e with
   | x::xs,e =>
    obtain⟨t,rfl⟩:=hh 0 v rfl;exact .cons x t (ih xs (by simpa using e) fun i u z=>by
     obtain⟨t,e⟩:=hh (i+1) u (by simpa using z);exact⟨t,e⟩)
 refine Tim.sorted_allS (lt:=Tim.ltS ks) (κ:=oneType') (Pc:=fun h1 vs=>StrsAre vs ks) (fun R hR=>?_) (fun h1 vs hk hP=>?_) fun h1 vs h3 tk c p hP hk k1 hk1 hp hs hD hN=>?_
 ·refine kdu_collect (A:=X.A.in1) (kdl_dict lo) (I.ok.hd hc) hat (JB (by omega)) fun h' tk acc hk hacc=>hR h' tk acc.toList hk (toS 0 _ _ (by rw[QK,hacc.1,hlen]) fun i v e=>?_);obtain⟨k,x,e1,e2⟩:=hacc.2 i v (by rw[←Wv];exact e);obtain⟨ek,hi⟩:=Zhi kv i k x e1;subst ek;rcases keyIs_shape (show Zaq (Sum.inr (ks.getD i "")) v=true from e2)with ⟨j,t,e4,_⟩ | ⟨z,t,e4,e5⟩
  ·cases e4
  ·injection e4 with e4
   exact⟨t,by rw[e5,e4]⟩
 ·have:=Tim.strs_len hP;exact⟨by omega,by rw[this];exact ZbN nd,Tim.sa_strsS hP⟩
 ·have hl:=Tim.strs_len hP;have hp':Srt.Pm ks.length p:=by rw[←hl];exact hp
  have vv:∀ l:List Nat,(∀ i∈l,i<ks.length)->Vals ((l.map fun i=>ks.getD i "").map V.str) (l.map fun i=>vs.getD i Value.none):=by
   intro l;induction l with
   | nil=>intro _;exact .nil
   | cons i l ih =>
    intro hh;have hi:i<vs.length:=by have:=hh i (Qj ..);omega
    obtain⟨t,e,_⟩:=Tim.strs_at hP i _ (Qa hi);refine .cons ?_ (ih fun j hj=>hh j (Ql _ hj));show RelV (V.str (ks.getD i "")) (vs.getD i Value.none);rw[Qb (l:=vs),Qa hi];exact⟨t,e⟩
  have hmem:∀ i∈p.toList,i<ks.length:=fun i hi=>by
   have:i∈p:=by simpa using hi
   have:=hp'.perm.mem_iff.mp this;simpa using this
  obtain⟨hn,I2⟩:=ZdR (tk:=tk) (vs:=(p.toList.map fun i=>ks.getD i "").map V.str) I hk hN (by rw[Qc,Qc,QK,hp'.size];exact JB h1k) ⟨_,c,vv p.toList hmem,hD⟩;exact⟨.ref h1.objs.size,_,I2,rfl,q _ _ hn (Js ks p hp') (ZlW hp' (by rw[←hl];exact hs))⟩
open PySem PySem.Spec PyProof.Rows
theorem ZcF:typeLookup (.type "list") "keys" = pure none:=am_miss_of_fast (by kernel_rfl)
theorem ZbI:typeLookup (.type "tuple") "keys" = pure none:=am_miss_of_fast (by kernel_rfl)
section
variable {prog:Program} {w:World} {A:Around} {E:Value->Shared->Prop} {s:Shared} {a:Addr} {o:Obj} {xs:Array Value} {k:Nat}
theorem ZhN {Q:Option Value->Shared->Prop} (hx:s.heap.get? a=some o) (hc:o.cls= .type "list") (hdat:o.data= .seq xs k) (hd:o.dict=none) (hA:A.handled=none)
  (h:∀ h' tk,(∀ b ob,s.heap.get? b=some ob->h'.get? b=some ob)->Q none {s with heap:=h',toks:=tk}) :
  wpAny (model prog w) A (getAttr? (.ref a) "keys") Q E s:=by
 obtain⟨c,dct,dat,sl⟩:=o;simp only at hc hdat hd;subst hc hdat hd;obtain⟨hp,g,d,tk,os⟩:=s;have hT:∀ tk',(⟨hp,g,d,tk',os⟩:Shared).TypeIs (.ref a) "list":=fun _=>⟨_,hx,rfl⟩
 have f1:=sub_AttributeError;have f3:=F.slot_list_getattribute.lookup;have f4:=F.slot_list_getattribute.bind (.ref a);have f5:=am_list_getattr_none;have hname:(["__module__","__name__","__qualname__","__doc__","__annotations__"]:List Str).contains "keys" = false:=by decide
 unfold getAttr? getAttrBy? getAttrBy
 repeat (any_goals (first | assumption | exact hT _ | ((with_reducible show wpAny _ _ (call (Value.builtin "list.__getattribute__") _ _) _ _ _);refine call_meets F.slot_list_getattribute (hT _) am_entry_list_getattribute (F.args_list_getattribute_2 _ _) (meets_getattribute_miss_list a xs k sl "keys" _ ZcF hname) ⟨hx,hA,fun h' tk' e hx'=>?_⟩) | wp_step))
 obtain⟨t',u',he⟩:=hx'.there;show wpAny _ _ (getattributeRaised _ _ _ _ _ _ _) _ _ _;unfold getattributeRaised
 repeat (any_goals (first | assumption | wp_step))
 exact h _ _ hx'.of.keeps
theorem ZfI {Q:Option Value->Shared->Prop} (hx:s.heap.get? a=some o) (hc:o.cls= .type "tuple") (hdat:o.data= .seq xs k) (hd:o.dict=none) (hA:A.handled=none)
  (h:∀ h' tk,(∀ b ob,s.heap.get? b=some ob->h'.get? b=some ob)->Q none {s with heap:=h',toks:=tk}) :
  wpAny (model prog w) A (getAttr? (.ref a) "keys") Q E s:=by
 obtain⟨c,dct,dat,sl⟩:=o;simp only at hc hdat hd;subst hc hdat hd;obtain⟨hp,g,d,tk,os⟩:=s;have hT:∀ tk',(⟨hp,g,d,tk',os⟩:Shared).TypeIs (.ref a) "tuple":=fun _=>⟨_,hx,rfl⟩
 have f1:=sub_AttributeError;have f3:=F.slot_tuple_getattribute.lookup;have f4:=F.slot_tuple_getattribute.bind (.ref a);have f5:=am_tuple_getattr_none;have hname:(["__module__","__name__","__qualname__","__doc__","__annotations__"]:List Str).contains "keys" = false:=by decide
 unfold getAttr? getAttrBy? getAttrBy
 repeat (any_goals (first | assumption | exact hT _ | ((with_reducible show wpAny _ _ (call (Value.builtin "tuple.__getattribute__") _ _) _ _ _);refine call_meets F.slot_tuple_getattribute (hT _) am_entry_tuple_getattribute (F.args_tuple_getattribute_2 _ _) (meets_getattribute_miss_tuple a xs k sl "keys" _ ZbI hname) ⟨hx,hA,fun h' tk' e hx'=>?_⟩) | wp_step))
 obtain⟨t',u',he⟩:=hx'.there;show wpAny _ _ (getattributeRaised _ _ _ _ _ _ _) _ _ _;unfold getattributeRaised
 repeat (any_goals (first | assumption | wp_step))
 exact h _ _ hx'.of.keeps
end
theorem ZN:plainId "dict.update.loop" = true:=by decide +kernel
theorem Yq:entryFor table "dict.update.loop" = some Builtin.«dict.update.loop»:=entryFor_of_fast (by kernel_rfl)
theorem Yn {h h':Heap} {a:Addr} {its:Array Value} (x:IsTup h a its) (e:∀ o,h.get? a=some o->h'.get? a=some o):IsTup h' a its:=by
 obtain⟨o,ho,r⟩:=x;exact⟨o,e o ho,r⟩
theorem Zd9 {h h':Heap} {a:Addr} {its:Array Value} (x:h.IsList a its) (e:∀ o,h.get? a=some o->h'.get? a=some o):h'.IsList a its:=by
 obtain⟨o,ho,r⟩:=x;exact⟨o,e o ho,r⟩
section
variable {prog:Program} {w:World} {Ky:Type} [DecidableEq Ky] {knd:KeyKind prog w Ky} {A:Around} {R:Except Value Flow->Shared->Prop}
theorem ZiG {l I d:Addr} {xs:Array Value} (tb:Nat->Addr) (ks:Nat->Ky) (kv vv:Nat->Value) (hh:A.handled=none) (hxs:xs.size=n) (hx:∀ j,j<n->xs[j]?=some (.ref (tb j))) (hk:∀ j,j<n->knd.is (ks j) (kv j)=true)
  (hnd:((Qq n).map ks).Nodup) (hn:n<=sizeLine) (ld:l≠d) (lI:l≠I) (dI:d≠I) (td:∀ j,j<n->tb j≠d) (tI:∀ j,j<n->tb j≠I) :
  ∀ (m i:Nat) (s:Shared),n-i=m->i<=n->s.heap.IsListIter I l i->s.heap.IsList l xs->(∀ j,j<n->IsTup s.heap (tb j) #[kv j,vv j])->s.heap.DictOf knd d ((Qq i).map fun j=>(ks j,vv j)) ->
  (∀ h' t',(∀ b o,b≠d->b≠I->s.heap.get? b=some o->h'.get? b=some o)->h'.DictOf knd d ((Qq n).map fun j=>(ks j,vv j))->R (.ok (.ret .none)) {s with heap:=h',toks:=t'}) ->
  codeAny (model prog w) A (.builtin "dict.update.loop" ⟨[.ref d,.ref I,.int i 0,.none],[]⟩) R s:=by
 intro m;induction m with
 | zero =>
  intro i s hm hi hit hl ht hd hR;have:i=n:=by omega
  subst this;refine codeAny_builtin Yq ?_;rw[Around.under_plainId ZN _];show wpAny _ A.in1 (pyNext (.ref I) >>= _) _ _ s;refine wpAny_bind (wpAny_pyNext_list_end hh hit hl (by simp[hxs]) fun h2 he2=>?_);refine wpAny_bind (wpAny_pure (wpAny_pure ?_));exact hR h2 s.toks (fun b o hb1 hb2 e=>he2 b o hb2 e) (hd.extBut he2 dI)
 | succ m ih =>
  intro i s hm hi hit hl ht hd hR;have hlt:i<n:=by omega
  refine codeAny_builtin Yq ?_;rw[Around.under_plainId ZN _];show wpAny _ A.in1 (pyNext (.ref I) >>= _) _ _ s;refine wpAny_bind (wpAny_pyNext_list_item hit hl (hx i hlt) fun h1 hit1 hs1=>?_);have e1:=hs1.extBut;have ht1:∀ j,j<n->IsTup h1 (tb j) #[kv j,vv j]:=fun j hj=>Yn (ht j hj) fun o e=>e1 _ o (tI j hj) e;obtain⟨ot,hot,hct,nt,hdt⟩:=ht1 i hlt;refine wpAny_bind (wpAny_holding (wpAny_bind (wpAny_tryCatch ?_)));unfold Builtin.Dict.pairItems;refine wpAny_bind (wpAny_typeOf (T:="tuple") ⟨ot,hot,hct⟩ ?_);rw[if_pos (by decide)];refine wpAny_bind (wpAny_seqItems hot hdt (wpAny_pure ?_));have hd1:h1.DictOf knd d ((Qq i).map fun j=>(ks j,vv j)):=hd.extBut e1 dI;show wpAny _ _ (holding [kv i,vv i] (dictSet d (kv i) (vv i))) _ _ _;refine wpAny_holding (wpAny_dictSet_pairs (s:={s with heap:=h1}) (hk i hlt) hd1 (fun h2 hd2 hs2=>?_) (by rw[Qc,Q5];omega));have hfresh:stored ((Qq i).map fun j=>(ks j,vv j)) (ks i) (vv i)=(Qq (i+1)).map fun j=>(ks j,vv j):=by
   unfold stored;rw[if_neg ?_,Wb,Qz]
   ·rfl
   ·intro q;obtain⟨p,hp,e⟩:=UU.mp q;obtain⟨j,hj,rfl⟩:=Qi.mp hp;have hj':=QN.mp hj;have e':ks j=ks i:=by simpa using e
    have h1:((Qq n).map ks)[j]?=some (ks j):=by rw[Qg,QT (by omega)];rfl
    have h2:((Qq n).map ks)[i]?=some (ks i):=by rw[Qg,QT hlt];rfl
    have:=(RS (by rw[Qc,Q5];omega) hnd).mp (h1.trans ((congrArg some e').trans h2.symm));omega
  rw[hfresh]at hd2;have e2:=hs2.extBut;have kp:∀ b o,b≠d->b≠I->s.heap.get? b=some o->h2.get? b=some o:=fun b o q1 q2 e=>e2 b o q1 (e1 b o q2 e);refine wpAny_pure ⟨plainId_quiet ZN _,?_⟩;have:=ih (i+1) {s with heap:=h2,toks:=s.toks+1} (by omega) hlt (hit1.extBut e2 (Ne.symm dI)) (Zd9 hl fun o e=>kp l o ld lI e) (fun j hj=>Yn (ht j hj) fun o e=>kp _ o (td j hj) (tI j hj) e) hd2
   fun h' t' k1 k2=>hR h' t' (fun b o q1 q2 e=>k1 b o q1 q2 (kp b o q1 q2 e)) k2
  exact this
theorem ZaC {l:Addr} {o:Obj} {xs:Array Value} {c:Nat} {E:Value->Shared->Prop} {s:Shared} {Q:Value->Shared->Prop} (tb:Nat->Addr) (ks:Nat->Ky) (kv vv:Nat->Value) (hh:A.handled=none)
  (ho:s.heap.get? l=some o) (hc:o.cls= .type "list") (hdt:o.data= .seq xs c) (hdi:o.dict=none) (hxs:xs.size=n) (hx:∀ j,j<n->xs[j]?=some (.ref (tb j))) (hk:∀ j,j<n->knd.is (ks j) (kv j)=true)
  (ht:∀ j,j<n->IsTup s.heap (tb j) #[kv j,vv j]) (hnd:((Qq n).map ks).Nodup) (hn:n<=sizeLine)
  (h:∀ h' t',(∀ b o,s.heap.get? b=some o->h'.get? b=some o)->h'.DictOf knd s.heap.objs.size ((Qq n).map fun j=>(ks j,vv j))->Q (.ref s.heap.objs.size) {s with heap:=h',toks:=t'}) :
  wpAny (model prog w) A (call (.type "dict") [.ref l]) Q E s:=by
 refine callType_codes (Q₁:=fun obj s₁=>obj= .ref s.heap.objs.size/\s₁={s with heap:=s.heap.push {cls:=.type "dict",data:=.dict #[]}}) F.kt_called_dict (F.kt_typeCall_dict_1 _) F.entry_dict_init (kt_code_dict_new _ ⟨rfl,rfl⟩) ?_;rintro obj s₁ ⟨rfl,rfl⟩;have hnew:(s.heap.push {cls:=.type "dict",data:=.dict #[]}).DictOf knd s.heap.objs.size []:=Heap.DictOf.new s.heap;have ll:=Qu ho;have lt:∀ j,j<n->tb j<s.heap.objs.size:=fun j hj=>by
  obtain⟨q,hq,_⟩:=ht j hj;exact Qu hq
 refine⟨hnew.typeIs,F.args_dict_init_2 _ _,?_⟩;unfold Builtin.«dict.__init__»;refine wpAny_bind ?_;unfold Builtin.Dict.selfAndRest;refine wpAny_bind (wpAny_notOrdered_dict hnew.typeIs ?_);show wpAny _ _ (pure (s.heap.objs.size,[Value.ref l])) _ _ _;refine wpAny_pure ?_;show wpAny _ _ (Builtin.Dict.updateFrom "dict.__init__" s.heap.objs.size (.ref l) [] .none) _ _ _;unfold Builtin.Dict.updateFrom;have ho1:(s.heap.push {cls:=.type "dict",data:=.dict #[]}).get? l=some o:=Qh _ ho;refine wpAny_bind (wpAny_typeOf (T:="list") ⟨o,ho1,hc⟩ ?_);rw[if_pos (by decide)];refine wpAny_bind (ZhN (A:=A.in1.in1) ho1 hc hdt hdi hh fun h1 tk k1=>?_);rw[if_pos (show(none:Option Value).isNone=true from rfl)];refine wpAny_bind (wpAny_rule ?_);have hl1:h1.IsList l xs:=⟨o,k1 _ _ ho1,hc,c,hdt⟩
 refine wpAny_bind (wpAny_pyIter_list (s:={s with heap:=h1,toks:=tk}) hl1 ?_);have hI:s.heap.objs.size<h1.objs.size:=Qu (k1 _ _ (Qx s.heap (o:={cls:=.type "dict",data:=.dict #[]}) rfl));have kp:∀ b o,s.heap.get? b=some o->(h1.push {cls:=.type "list_iterator",data:=.fields #[.ref l,.int 0 0]}).get? b=some o:=fun b o e=>Qh _ (k1 _ _ (Qh _ e));refine wpAny_pure ⟨plainId_quiet ZN _,?_⟩;have hnew1:h1.DictOf knd s.heap.objs.size []:=by
  obtain⟨q,es,ep,hq,r⟩:=hnew;exact⟨q,es,ep,k1 _ _ hq,r⟩
 refine ZiG (A:=A.in1) (l:=l) (I:=h1.objs.size) (d:=s.heap.objs.size) (xs:=xs) (n:=n) tb ks kv vv hh hxs hx hk hnd hn (QC ll) (QC (UA ll hI)) (QC hI) (fun j hj=>QC (lt j hj)) (fun j hj=>QC (UA (lt j hj) hI)) n 0 _ (by omega) (by omega)
  ⟨_,Qx _ rfl,rfl,rfl⟩ (hl1.push _) (fun j hj=>Yn (ht j hj) fun o e=>kp _ o e) (hnew1.push _) fun h2 t2 k2 hd2=>?_
 refine⟨rfl,h h2 t2 (fun b o e=>k2 b o ?_ ?_ (kp b o e)) hd2⟩
 ·exact QC (Qu e)
 ·exact QC (UA (Qu e) hI)
theorem Zf8 {l I d:Addr} {xs:Array Value} (tb:Nat->Addr) (ks:Nat->Ky) (kv vv:Nat->Value) (hh:A.handled=none) (hxs:xs.size=n) (hx:∀ j,j<n->xs[j]?=some (.ref (tb j))) (hk:∀ j,j<n->knd.is (ks j) (kv j)=true)
  (hnd:((Qq n).map ks).Nodup) (hn:n<=sizeLine) (ld:l≠d) (lI:l≠I) (dI:d≠I) (td:∀ j,j<n->tb j≠d) (tI:∀ j,j<n->tb j≠I) :
  ∀ (m i:Nat) (s:Shared),n-i=m->i<=n->IsTupIter s.heap I l i->IsTup s.heap l xs->(∀ j,j<n->IsTup s.heap (tb j) #[kv j,vv j])->s.heap.DictOf knd d ((Qq i).map fun j=>(ks j,vv j)) ->
  (∀ h' t',(∀ b o,b≠d->b≠I->s.heap.get? b=some o->h'.get? b=some o)->h'.DictOf knd d ((Qq n).map fun j=>(ks j,vv j))->R (.ok (.ret .none)) {s with heap:=h',toks:=t'}) ->
  codeAny (model prog w) A (.builtin "dict.update.loop" ⟨[.ref d,.ref I,.int i 0,.none],[]⟩) R s:=by
 intro m;induction m with
 | zero =>
  intro i s hm hi hit hl ht hd hR;have:i=n:=by omega
  subst this;refine codeAny_builtin Yq ?_;rw[Around.under_plainId ZN _];show wpAny _ A.in1 (pyNext (.ref I) >>= _) _ _ s;refine wpAny_bind (next_tuple_end hh hit hl (by simp[hxs]) fun h2 he2=>?_);refine wpAny_bind (wpAny_pure (wpAny_pure ?_));exact hR h2 s.toks (fun b o hb1 hb2 e=>he2 b o hb2 e) (hd.extBut he2 dI)
 | succ m ih =>
  intro i s hm hi hit hl ht hd hR;have hlt:i<n:=by omega
  refine codeAny_builtin Yq ?_;rw[Around.under_plainId ZN _];show wpAny _ A.in1 (pyNext (.ref I) >>= _) _ _ s;refine wpAny_bind (next_tuple_item hit hl (hx i hlt) fun h1 hit1 hs1=>?_);have e1:=hs1.extBut;have ht1:∀ j,j<n->IsTup h1 (tb j) #[kv j,vv j]:=fun j hj=>Yn (ht j hj) fun o e=>e1 _ o (tI j hj) e;obtain⟨ot,hot,hct,nt,hdt⟩:=ht1 i hlt;refine wpAny_bind (wpAny_holding (wpAny_bind (wpAny_tryCatch ?_)));unfold Builtin.Dict.pairItems;refine wpAny_bind (wpAny_typeOf (T:="tuple") ⟨ot,hot,hct⟩ ?_);rw[if_pos (by decide)];refine wpAny_bind (wpAny_seqItems hot hdt (wpAny_pure ?_));have hd1:h1.DictOf knd d ((Qq i).map fun j=>(ks j,vv j)):=hd.extBut e1 dI;show wpAny _ _ (holding [kv i,vv i] (dictSet d (kv i) (vv i))) _ _ _;refine wpAny_holding (wpAny_dictSet_pairs (s:={s with heap:=h1}) (hk i hlt) hd1 (fun h2 hd2 hs2=>?_) (by rw[Qc,Q5];omega));have hfresh:stored ((Qq i).map fun j=>(ks j,vv j)) (ks i) (vv i)=(Qq (i+1)).map fun j=>(ks j,vv j):=by
   unfold stored;rw[if_neg ?_,Wb,Qz]
   ·rfl
   ·intro q;obtain⟨p,hp,e⟩:=UU.mp q;obtain⟨j,hj,rfl⟩:=Qi.mp hp;have hj':=QN.mp hj;have e':ks j=ks i:=by simpa using e
    have h1:((Qq n).map ks)[j]?=some (ks j):=by rw[Qg,QT (by omega)];rfl
    have h2:((Qq n).map ks)[i]?=some (ks i):=by rw[Qg,QT hlt];rfl
    have:=(RS (by rw[Qc,Q5];omega) hnd).mp (h1.trans ((congrArg some e').trans h2.symm));omega
  rw[hfresh]at hd2;have e2:=hs2.extBut;have kp:∀ b o,b≠d->b≠I->s.heap.get? b=some o->h2.get? b=some o:=fun b o q1 q2 e=>e2 b o q1 (e1 b o q2 e);refine wpAny_pure ⟨plainId_quiet ZN _,?_⟩;have:=ih (i+1) {s with heap:=h2,toks:=s.toks+1} (by omega) hlt (hit1.extBut e2 (Ne.symm dI)) (Yn hl fun o e=>kp l o ld lI e) (fun j hj=>Yn (ht j hj) fun o e=>kp _ o (td j hj) (tI j hj) e) hd2
   fun h' t' k1 k2=>hR h' t' (fun b o q1 q2 e=>k1 b o q1 q2 (kp b o q1 q2 e)) k2
  exact this
theorem JL {l:Addr} {o:Obj} {xs:Array Value} {c:Nat} {E:Value->Shared->Prop} {s:Shared} {Q:Value->Shared->Prop} (tb:Nat->Addr) (ks:Nat->Ky) (kv vv:Nat->Value) (hh:A.handled=none)
  (ho:s.heap.get? l=some o) (hc:o.cls= .type "tuple") (hdt:o.data= .seq xs c) (hdi:o.dict=none) (hxs:xs.size=n) (hx:∀ j,j<n->xs[j]?=some (.ref (tb j))) (hk:∀ j,j<n->knd.is (ks j) (kv j)=true)
  (ht:∀ j,j<n->IsTup s.heap (tb j) #[kv j,vv j]) (hnd:((Qq n).map ks).Nodup) (hn:n<=sizeLine)
  (h:∀ h' t',(∀ b o,s.heap.get? b=some o->h'.get? b=some o)->h'.DictOf knd s.heap.objs.size ((Qq n).map fun j=>(ks j,vv j))->Q (.ref s.heap.objs.size) {s with heap:=h',toks:=t'}) :
  wpAny (model prog w) A (call (.type "dict") [.ref l]) Q E s:=by
 refine callType_codes (Q₁:=fun obj s₁=>obj= .ref s.heap.objs.size/\s₁={s with heap:=s.heap.push {cls:=.type "dict",data:=.dict #[]}}) F.kt_called_dict (F.kt_typeCall_dict_1 _) F.entry_dict_init (kt_code_dict_new _ ⟨rfl,rfl⟩) ?_;rintro obj s₁ ⟨rfl,rfl⟩;have hnew:(s.heap.push {cls:=.type "dict",data:=.dict #[]}).DictOf knd s.heap.objs.size []:=Heap.DictOf.new s.heap;have ll:=Qu ho;have lt:∀ j,j<n->tb j<s.heap.objs.size:=fun j hj=>by
  obtain⟨q,hq,_⟩:=ht j hj;exact Qu hq
 refine⟨hnew.typeIs,F.args_dict_init_2 _ _,?_⟩;unfold Builtin.«dict.__init__»;refine wpAny_bind ?_;unfold Builtin.Dict.selfAndRest;refine wpAny_bind (wpAny_notOrdered_dict hnew.typeIs ?_);show wpAny _ _ (pure (s.heap.objs.size,[Value.ref l])) _ _ _;refine wpAny_pure ?_;show wpAny _ _ (Builtin.Dict.updateFrom "dict.__init__" s.heap.objs.size (.ref l) [] .none) _ _ _;unfold Builtin.Dict.updateFrom;have ho1:(s.heap.push {cls:=.type "dict",data:=.dict #[]}).get? l=some o:=Qh _ ho;refine wpAny_bind (wpAny_typeOf (T:="tuple") ⟨o,ho1,hc⟩ ?_);rw[if_pos (by decide)];refine wpAny_bind (ZfI (A:=A.in1.in1) ho1 hc hdt hdi hh fun h1 tk k1=>?_);rw[if_pos (show(none:Option Value).isNone=true from rfl)];refine wpAny_bind (wpAny_rule ?_);have hl1:IsTup h1 l xs:=⟨o,k1 _ _ ho1,hc,c,hdt⟩
 refine wpAny_bind (iter_tuple (s:={s with heap:=h1,toks:=tk}) hl1 ?_);have hI:s.heap.objs.size<h1.objs.size:=Qu (k1 _ _ (Qx s.heap (o:={cls:=.type "dict",data:=.dict #[]}) rfl));have kp:∀ b o,s.heap.get? b=some o->(h1.push {cls:=.type "tuple_iterator",data:=.fields #[.ref l,.int 0 0]}).get? b=some o:=fun b o e=>Qh _ (k1 _ _ (Qh _ e));refine wpAny_pure ⟨plainId_quiet ZN _,?_⟩;have hnew1:h1.DictOf knd s.heap.objs.size []:=by
  obtain⟨q,es,ep,hq,r⟩:=hnew;exact⟨q,es,ep,k1 _ _ hq,r⟩
 refine Zf8 (A:=A.in1) (l:=l) (I:=h1.objs.size) (d:=s.heap.objs.size) (xs:=xs) (n:=n) tb ks kv vv hh hxs hx hk hnd hn (QC ll) (QC (UA ll hI)) (QC hI) (fun j hj=>QC (lt j hj)) (fun j hj=>QC (UA (lt j hj) hI)) n 0 _ (by omega) (by omega)
  ⟨_,Qx _ rfl,rfl,rfl⟩ (hl1.push _) (fun j hj=>Yn (ht j hj) fun o e=>kp _ o e) (hnew1.push _) fun h2 t2 k2 hd2=>?_
 refine⟨rfl,h h2 t2 (fun b o e=>k2 b o ?_ ?_ (kp b o e)) hd2⟩
 ·exact QC (Qu e)
 ·exact QC (UA (Qu e) hI)
end
def ZkW:List V->Hp->VK->Prop:=fun xs H Q=>∃ (p:Addr) (ys:List V) (kvs:List (Key×V)),xs=[.ref p]/\(H p=some (.lst ys)\/H p=some (.tup ys))/\ys.length=kvs.length/\(∀ (i:Nat) q,kvs[i]?=some q->∃ b,ys[i]?=some (.ref b)/\H b=some (.tup [kV q.1,q.2])) /\
 (kvs.map (·.1)).Nodup/\∀ l,H l=none->Q (.ref l) (upd H l (.dK kvs))
theorem Zcr {kvs:List (Key×V)} (vv:Nat->Value) (h:∀ (i:Nat) q,kvs[i]?=some q->RelV q.2 (vv i)) (d:Key):KV kvs ((Qq kvs.length).map fun j=>((kvs.map (·.1)).getD j d,vv j)):=by
 induction kvs generalizing vv with
 | nil=>exact .nil
 | cons q kvs ih =>
  rw[QG,Rr,Qs,QA];exact .cons ⟨rfl,h 0 q rfl⟩ (ih (fun j=>vv (j+1)) fun i q' e=>h (i+1) q' e)
theorem ZfA (l:List Key) (d:Key):(Qq l.length).map (fun j=>l.getD j d)=l:=by
 apply QU;intro i;rw[Qg];by_cases h:i<l.length
 ·rw[QT h,Wd,Qb,Qa h];rfl
 ·rw[Qo (by simpa using h),Qo (by simpa using h)];rfl
theorem Zep:∀ {ys:List V} {its:List Value} {j:Nat} {a:Addr},Vals ys its->ys[j]?=some (.ref a)->its.toArray[j]?=some (.ref a):=fun {ys its j a} r e=>by
 rw[List.getElem?_toArray];induction r generalizing j with
 | nil=>cases e
 | cons r1 r2 ih =>
  cases j with
  | zero=>cases e;cases r1;rfl
  | succ j=>exact ih e
theorem XN (hc:X.calm=true):CallR X (.type "dict") ZkW:=by
 intro pins s σ H xs us Q I r h;obtain⟨p,ys,kvs,rfl,hp,hl,hk,hnd,q⟩:=h;obtain⟨u,rfl,rx⟩:=Jf r;cases rx;have hf:H s.heap.objs.size=none:=I.hok.fresh (Qk _);have pr:∀ i:Nat,∃ t:Addr×Value×Value,∀ q,kvs[i]?=some q->ys[i]?=some (.ref t.1)/\IsTup s.heap t.1 #[t.2.1,t.2.2]/\RelV (kV q.1) t.2.1/\RelV q.2 t.2.2:=fun i=>by
  cases e:kvs[i]? with
  | none=>exact⟨(0,.none,.none),fun q z=>nomatch z⟩
  | some q =>
   obtain⟨b,e1,e2⟩:=hk i q e;obtain⟨its,rv,ht,_⟩:=I.tuple (SqT.of e2);obtain⟨u,v,rfl,r1,r2⟩:=Zdq rv;refine⟨(b,u,v),fun q' e'=>?_⟩;cases e';exact⟨e1,ht,r1,r2⟩
 obtain⟨t,ht⟩:=Classical.axiomOfChoice pr;have at_:∀ j,j<kvs.length->ys[j]?=some (.ref (t j).1)/\IsTup s.heap (t j).1 #[(t j).2.1,(t j).2.2]/\RelV (kV ((kvs.map (·.1)).getD j (Sum.inl 0))) (t j).2.1:=fun j hj=>by
  obtain⟨h1,h2,h3,h4⟩:=ht j _ (Qa hj);refine⟨h1,h2,?_⟩;rw[Qb,Qg,Qa hj];exact h3
 have hnd':((Qq kvs.length).map fun j=>(kvs.map (·.1)).getD j (Sum.inl 0)).Nodup:=by
  have e:=ZfA (kvs.map (·.1)) (Sum.inl 0);rw[Qc]at e;rw[e];exact hnd
 have fin:kvs.length<=sizeLine->∀ h' t',(∀ b o,s.heap.get? b=some o->h'.get? b=some o)->h'.DictOf (Zz X.prog X.w) s.heap.objs.size ((Qq kvs.length).map fun j=>((kvs.map (·.1)).getD j (Sum.inl 0),(t j).2.2)) ->
   EP X pins σ Q (.ref s.heap.objs.size) {s with heap:=h',toks:=t'}:=fun hz h' t' kp hd =>
  ⟨.ref s.heap.objs.size,_,I.laid (t':=t') (o:=.dK kvs) kp (Qk _) ⟨hz,beq_eq_false_iff_ne.mpr (Ne.symm (QC I.big)),_,Zcr (fun j=>(t j).2.2) (fun i q e=>(ht i q e).2.2.2) (Sum.inl 0),hd⟩,rfl,q _ hf⟩
 rcases hp with hp | hp
 ·obtain⟨z,its,n,r',e⟩:=I.hok p _ hp;have hlen:its.toArray.size=kvs.length:=by rw[Qw,←r'.length];exact hl
  have hz:kvs.length<=sizeLine:=by rw[←hl];exact z
  refine ZaC (fun j=>(t j).1) (fun j=>(kvs.map (·.1)).getD j (Sum.inl 0)) (fun j=>(t j).2.1) (fun j=>(t j).2.2) (I.ok.hd hc) e rfl rfl rfl hlen (fun j hj=>?_) (fun j hj=>JJ (at_ j hj).2.2) (fun j hj=>(at_ j hj).2.1) hnd' hz (fin hz);exact Zep r' (at_ j hj).1
 ·obtain⟨z,its,r',⟨o,e,c1,n,d1⟩,nd⟩:=(show ObjOk X.prog X.w H s.heap p (.tup ys)from I.hok p _ hp)
  have hlen:its.toArray.size=kvs.length:=by rw[Qw,←r'.length];exact hl
  have hz:kvs.length<=sizeLine:=by rw[←hl];exact z
  refine JL (fun j=>(t j).1) (fun j=>(kvs.map (·.1)).getD j (Sum.inl 0)) (fun j=>(t j).2.1) (fun j=>(t j).2.2) (I.ok.hd hc) e c1 d1 (nd _ e) hlen (fun j hj=>?_) (fun j hj=>JJ (at_ j hj).2.2) (fun j hj=>(at_ j hj).2.1) hnd' hz (fin hz);exact Zep r' (at_ j hj).1
end L2
namespace PySem
namespace F
theorem Zai:Manifest.owners.lookup (String.ofList ['d','e','s','r','e','v','e','r'].reverse)=some Manifest.sig_reversed:=by kernel_rfl
theorem slot_rev_next:Slot "reversed" "__next__" "reversed.__next__" :=
 .of (owner:="reversed") (n:="__next__") (by rw[typeLookup_type,builtinLookup_eq_fast];kernel_rfl) (by decide +kernel) (by decide +kernel) (by decide +kernel)
  (by first | exact .inl (by decide +kernel) | exact .inr (by decide +kernel)) (by rw[isSubtype_type];kernel_rfl)
theorem entry_rev_next:entryFor table "reversed.__next__" = some Builtin.«reversed.__next__»:=entryFor_of_tree (by kernel_rfl)
theorem args_rev_next_1 (a:Value):argsOk "reversed.__next__" ⟨[a],[]⟩:=by
 unfold argsOk;rw[signature?_of (id:="reversed.__next__") (n:=['_','_','t','x','e','n','_','_']) (o:=['d','e','s','r','e','v','e','r']) (by kernel_rfl) Zai];kernel_rfl
theorem slot_rev_iter:Slot "reversed" "__iter__" "reversed.__iter__" :=
 .of (owner:="reversed") (n:="__iter__") (by rw[typeLookup_type,builtinLookup_eq_fast];kernel_rfl) (by decide +kernel) (by decide +kernel) (by decide +kernel)
  (by first | exact .inl (by decide +kernel) | exact .inr (by decide +kernel)) (by rw[isSubtype_type];kernel_rfl)
theorem args_rev_iter_1 (a:Value):argsOk "reversed.__iter__" ⟨[a],[]⟩:=by
 unfold argsOk;rw[signature?_of (id:="reversed.__iter__") (n:=['_','_','r','e','t','i','_','_']) (o:=['d','e','s','r','e','v','e','r']) (by kernel_rfl) Zai];kernel_rfl
theorem entry_rev_iter:entryFor table "reversed.__iter__" = some Builtin.«dict_keyiterator.__iter__» :=
 entryFor_alias (id':="dict_keyiterator.__iter__") (by kernel_rfl) (by first | rfl | decide +kernel | (unfold String.splitOn;simp +decide [String.splitOnAux])) (by decide +kernel) (by kernel_rfl)
theorem rev_no_len:typeLookup (.type "reversed") "__len__" = pure none:=by rw[typeLookup_type,builtinLookup_eq_fast];kernel_rfl
theorem slot_rev_hint:Slot "reversed" "__length_hint__" "reversed.__length_hint__" :=
 .of (owner:="reversed") (n:="__length_hint__") (by rw[typeLookup_type,builtinLookup_eq_fast];kernel_rfl) (by decide +kernel) (by decide +kernel) (by decide +kernel)
  (by first | exact .inl (by decide +kernel) | exact .inr (by decide +kernel)) (by rw[isSubtype_type];kernel_rfl)
theorem entry_rev_hint:entryFor table "reversed.__length_hint__" = some Builtin.«reversed.__length_hint__»:=entryFor_of_tree (by kernel_rfl)
theorem args_rev_hint_1 (a:Value):argsOk "reversed.__length_hint__" ⟨[a],[]⟩:=by
 unfold argsOk;rw[signature?_of (id:="reversed.__length_hint__") (n:=['_','_','t','n','i','h','_','h','t','g','n','e','l','_','_']) (o:=['d','e','s','r','e','v','e','r']) (by kernel_rfl) Zai];kernel_rfl
theorem str_no_reversed:typeLookup (.type "str") "__reversed__" = pure none:=by rw[typeLookup_type,builtinLookup_eq_fast];kernel_rfl
theorem sub_rev_rev:isSubtype (.type "reversed") (.type "reversed")=pure true:=by rw[isSubtype_type];kernel_rfl
theorem Zbr:Slot "reversed" "__init__" "object.__init__" :=
 .of (owner:="object") (n:="__init__") (by rw[typeLookup_type,builtinLookup_eq_fast];kernel_rfl) (by decide +kernel) (by decide +kernel) (by decide +kernel)
  (by first | exact .inl (by decide +kernel) | exact .inr (by decide +kernel)) (by rw[isSubtype_type];kernel_rfl)
theorem called_rev:TypeCalled "reversed" "reversed.__new__" "object.__init__" :=
 ⟨by decide +kernel,by decide +kernel,⟨_,_,mro_reversed⟩,madeBy_type mro_reversed lookup_reversed_new (by decide +kernel),by decide +kernel,by rw[isSubtype_type];kernel_rfl,Zbr⟩
end F
end PySem
namespace PySem
def Znz (x:Str) (t:Tok) (i:Int):Obj:={cls:=.type "reversed",data:=.fields #[.str x t,rawInt i]}
theorem ZbM (x:Str) (t:Tok) (hx:x.length<=sizeLine) :
  Meets (Builtin.«reversed.__new__» ⟨[.type "reversed",.str x t],[]⟩) (fun _ R s =>
   R (.ok (.ret (.ref s.heap.objs.size))) {s with toks:=s.toks+1+1,heap:=s.heap.push (Znz x t ((x.length:Int)-1))}) :=
 .of_wp fun prog w A R s h=>by
  unfold Builtin.«reversed.__new__»;refine wpAny_bind (wpAny_of_eq (newClass_reversed _) ?_)
  try dsimp only
  refine wpAny_bind (wpAny_of_eq (a:=()) (by first | rfl | kernel_rfl) ?_);refine wpAny_bind (wpAny_of_eq (a:=()) (by first | rfl | kernel_rfl) ?_)
  try dsimp only
  refine wpAny_bind (wpAny_specialOf (typeIs_str _ x t) F.str_no_reversed ?_)
  try dsimp only
  refine wpAny_bind ?_
  wp_delta
  refine wpAny_bind (wpAny_isInstance (T:="str") (v:=.str x t) (b:=false) rfl F.sub_str_dict ?_)
  try dsimp only
  refine wpAny_bind (wpAny_specialOf (typeIs_str _ x t) F.slot_str_getitem.lookup ?_)
  try dsimp only
  rw[if_pos (by decide)];refine wpAny_pure ?_;rw[if_neg (by decide)];have hs:sizeLine=16777216:=sizeLine_eq;refine wpAny_bind (P.len_str (by omega) ?_);refine wpAny_bind (wpAny_of_eq (a:=some (x.length:Int)) rfl ?_)
  try dsimp only
  unfold Builtin.SmallTypes.newRecord
  try dsimp only
  refine wpAny_bind (wpAny_newObj_type ?_);exact wpAny_pure ⟨_,rfl,h⟩
section
variable {prog:Program} {w:World} {A:Around} {E:Value->Shared->Prop} {s:Shared}
theorem Jz {x:Str} {t:Tok} {Q:Value->Shared->Prop} (hx:x.length<=sizeLine)
  (h:Q (.ref s.heap.objs.size) {s with toks:=s.toks+1+1,heap:=s.heap.push (Znz x t ((x.length:Int)-1))}):wpAny (model prog w) A (call (.type "reversed") [.str x t]) Q E s :=
 callType_new F.called_rev (by decide) (F.typeCall_reversed_1 _) (F.newCall_reversed_1 _) (fun obj=>F.args_object_init_2 obj _) F.entry_reversed_new (ZbM x t hx) ⟨⟨_,Qx _ rfl,rfl⟩,h⟩
def Heap.IsRevS (h:Heap) (a:Addr) (x:Str) (t:Tok) (i:Int):Prop:=∃ o,h.get? a=some o/\o.cls= .type "reversed"/\o.data= .fields #[.str x t,rawInt i]
theorem Heap.IsRevS.typeIs {a:Addr} {x:Str} {t:Tok} {i:Int} (y:s.heap.IsRevS a x t i):s.TypeIs (.ref a) "reversed":=let ⟨o,ho,hc,_⟩:=y;⟨o,ho,hc⟩
theorem Heap.IsRevS.at {h h':Heap} {a:Addr} {x:Str} {t:Tok} {i:Int} (y:h.IsRevS a x t i) (e:∀ o,h.get? a=some o->h'.get? a=some o):h'.IsRevS a x t i:=let ⟨o,ho,r⟩:=y;⟨o,e _ ho,r⟩
theorem Jd {it:Addr} {x:Str} {t:Tok} {i c:Nat} {Q:Option Value->Shared->Prop} (hit:s.heap.IsRevS it x t (i:Int)) (hc:x.cps[i]?=some c) (hx:x.length<=sizeLine)
  (hQ:∀ h' u,h'.IsRevS it x t ((i:Int)-1)->Heap.SameBut it s.heap h'->Q (some (.str ⟨#[c]⟩ u)) {s with heap:=h',toks:=s.toks+1+1}):wpAny (model prog w) A (pyNext (.ref it)) Q E s:=by
 obtain⟨o,ho,hcl,hd⟩:=id hit;have hs:sizeLine=16777216:=sizeLine_eq;have hi:i<x.length:=by
  have:=(Array.getElem?_eq_some_iff.mp hc).1;exact this
 unfold pyNext;refine wpAny_bind (wpAny_attempt (wpAny_callSpecial?_slot (name:=Str.ofString "__next__") hit.typeIs F.slot_rev_next
  (wpAny_call_entry F.slot_rev_next hit.typeIs F.entry_rev_next ?_ (F.args_rev_next_1 _))))
 unfold Builtin.«reversed.__next__»;refine wpAny_bind (wpAny_of_eq (a:=(Value.ref it,[])) rfl ?_)
 try dsimp only
 refine wpAny_bind (wpAny_field ho hd (x:=.str x t) rfl ?_);refine wpAny_bind (wpAny_field ho hd (x:=rawInt (i:Int)) rfl ?_);show wpAny _ _ (if (i:Int)<0 then _ else _) _ _ s;rw[if_neg (by omega)];refine wpAny_bind (wpAny_specialOf (typeIs_str _ x t) F.slot_str_getitem.lookup ?_);rw[if_neg (by decide)];refine wpAny_bind (wpAny_mkInt ?_);have e1:decide ((i:Int) < -(2 ^ 63:Int))=false:=decide_eq_false (by omega);have e2:decide ((i:Int)≥2 ^ 63)=false:=decide_eq_false (by omega);have e3:seqIndex? (i:Int) x.length=some i:=(L2.ixN_seq (by unfold L2.ixN;rw[if_pos (by omega),if_pos (by omega)];rfl)).1;refine wpAny_bind (wpAny_attempt (P.getItem_str (c:=c) (by rw[e1,e2];rfl) (by rw[e3];exact hc) ?_))
 try dsimp only
 refine wpAny_bind (wpAny_field ho hd (x:=rawInt (i:Int)) rfl ?_);show wpAny _ _ (setField (Value.ref it) 1 (rawInt ((i:Int)-1)) >>= _) _ _ _;refine wpAny_bind (wpAny_setField ho hd (by simp) ?_);refine wpAny_pure ⟨_,rfl,wpAny_pure (hQ _ _ ?_ (Heap.SameBut.update ..))⟩;exact⟨_,Ww _ ho (Obj.isFreed_of_fields (Obj.data_mapFields hd _)),(Obj.cls_mapFields ..).trans hcl,by
  rw[Obj.data_mapFields hd];simp⟩
theorem Xb {it:Addr} {x:Str} {t:Tok} {Q:Option Value->Shared->Prop} (hh:A.handled=none) (hit:s.heap.IsRevS it x t (-1))
  (hQ:∀ h',Heap.ExtBut it s.heap h'->Q none {s with heap:=h'}):wpAny (model prog w) A (pyNext (.ref it)) Q E s:=by
 obtain⟨o,ho,hcl,hd⟩:=id hit;unfold pyNext;refine wpAny_bind (wpAny_attempt (wpAny_callSpecial?_slot (name:=Str.ofString "__next__") hit.typeIs F.slot_rev_next
  (wpAny_call_entry F.slot_rev_next hit.typeIs F.entry_rev_next ?_ (F.args_rev_next_1 _))))
 unfold Builtin.«reversed.__next__»;refine wpAny_bind (wpAny_of_eq (a:=(Value.ref it,[])) rfl ?_)
 try dsimp only
 refine wpAny_bind (wpAny_field ho hd (x:=.str x t) rfl ?_);refine wpAny_bind (wpAny_field ho hd (x:=rawInt (-1)) rfl ?_);show wpAny _ _ (if (-1:Int)<0 then _ else _) _ _ s;rw[if_pos (by decide)];refine wpAny_bind (wpAny_rule ?_);refine wpAny_bind ?_
 wp_delta
 refine wpAny_bind (wpAny_setField ho hd (by simp) ?_);have h1:=Ww (Obj.mapFields fun vs=>vs.set! 1 (rawInt (-1))) ho (Obj.isFreed_of_fields (Obj.data_mapFields hd _));have d1:(Obj.mapFields (fun vs=>vs.set! 1 (rawInt (-1))) o).data= .fields #[.str x t,rawInt (-1)]:=by rw[Obj.data_mapFields hd];simp
 refine wpAny_setField h1 d1 (by simp) ?_;refine wpAny_bind ?_;unfold Builtin.SmallTypes.stopIteration;refine wpAny_bind ?_;simp only[newExc,newTuple];refine wpAny_bind (wpAny_newObj_type ?_ (by size_fits));refine wpAny_bind (m:=firstArgMember _ _) (wpAny_of_eq (a:=Value.none) (by first | rfl | (simp only[firstArgMember];rfl)) ?_);refine wpAny_newObj_type ?_ (by size_fits);simp only[raiseNew];refine wpAny_bind (wpAny_handled ?_);first | rw[show A.in1.handled=none from hh] | rw[hh]
 refine wpAny_bind (wpAny_pure (wpAny_throw ?_));refine wpAny_bind (wpAny_isInstance (T:="StopIteration") (b:=true) ⟨_,Qx _ rfl,rfl⟩ isSubtype_stop ?_);refine wpAny_pure (hQ _ ?_);intro b ob hb e;refine Qh _ (Qh _ ?_);exact(QZ _ _ (Ne.symm hb)).trans ((QZ _ _ (Ne.symm hb)).trans e)
theorem YM {it:Addr} {x:Str} {t:Tok} {i:Int} {Q:Value->Shared->Prop} (hit:s.heap.IsRevS it x t i) (h:Q (.ref it) s):wpAny (model prog w) A (pyIter (.ref it)) Q E s:=by
 refine wpAny_pyIter_slot hit.typeIs F.slot_rev_iter (wpAny_call_entry F.slot_rev_iter hit.typeIs F.entry_rev_iter ?_ (F.args_rev_iter_1 _));show wpAny _ _ (ret (.ref it)) _ _ s;exact wpAny_pure ⟨_,rfl,"reversed",_,hit.typeIs,F.slot_rev_next.lookup,h⟩
end
theorem Zfq {prog:Program} {w:World} {A:Around} (hh:A.handled=none) (I:Addr) (x:Str) (t:Tok) (hx:x.length<=sizeLine) :
  Walks prog w A I [I] [I] x.length (fun i v=>∃ c u,x.cps[x.length-1-i]?=some c/\v= .str ⟨#[c]⟩ u) (fun i h=>i<=x.length/\h.IsRevS I x t ((x.length:Int)-1-(i:Int))) where
 sub:=fun b hb=>by simp at hb;simp[hb]
 frame:=fun _ _ _ y hk=>⟨y.1,y.2.at fun o e=>hk I (by simp) o e⟩
 item:=fun i s Q E hi y hQ=>by
  have e:(x.length:Int)-1-(i:Int)=((x.length-1-i:Nat):Int):=by omega
  have hit:=y.2;rw[e]at hit;have hlt:x.length-1-i<x.cps.size:=by
   have:x.length=x.cps.size:=rfl;omega
  have hc:x.cps[x.length-1-i]?=some (x.cps[x.length-1-i]'hlt):=Q6 hlt;refine Jd hit hc hx fun h' u hit' hs'=>?_;have e2:((x.length-1-i:Nat):Int)-1=(x.length:Int)-1-((i+1:Nat):Int):=by omega
  rw[e2]at hit';exact hQ _ h' _ ⟨_,u,hc,rfl⟩ ⟨hi,hit'⟩ fun b o hb eo=>hs'.extBut b o (fun h=>hb (by simp[h])) eo
 done:=fun s Q E y hQ=>by
  have e:(x.length:Int)-1-(x.length:Int) = -1:=by omega
  have hit:=y.2;rw[e]at hit;exact Xb hh hit fun h' he'=>hQ h' s.toks fun b o hb eo=>he' b o (fun h=>hb (by simp[h])) eo
 self:=fun _ _ _ _ y hQ=>YM y.2 hQ
section
variable {prog:Program} {w:World} {A:Around} {E:Value->Shared->Prop} {s:Shared}
theorem ZbY {it:Addr} {x:Str} {t:Tok} {Q:Value->Shared->Prop} (hit:s.heap.IsRevS it x t ((x.length:Int)-1)) (hx:x.length<=sizeLine)
  (h:∀ u tk,Q (.int x.length u) {s with toks:=tk}):wpAny (model prog w) A (call (.builtin "reversed.__length_hint__") [.ref it]) Q E s:=by
 obtain⟨o,ho,hcl,hd⟩:=id hit;have hs:sizeLine=16777216:=sizeLine_eq;refine wpAny_call_entry F.slot_rev_hint hit.typeIs F.entry_rev_hint ?_ (F.args_rev_hint_1 _);unfold Builtin.«reversed.__length_hint__»;refine wpAny_bind (wpAny_of_eq (a:=Value.ref it) rfl ?_);refine wpAny_bind (wpAny_field ho hd (x:=.str x t) rfl ?_);rw[if_neg (show ¬ ((Value.str x t==Value.none)=true)from QL)];refine wpAny_bind (P.len_str (by omega) ?_);refine wpAny_bind (wpAny_of_eq (a:=some (x.length:Int)) rfl ?_)
 try dsimp only
 refine wpAny_bind (wpAny_field ho hd (x:=rawInt ((x.length:Int)-1)) rfl ?_);show wpAny _ _ (if (x.length:Int)<(x.length:Int)-1+1 then _ else _) _ _ _;rw[if_neg (by omega)];unfold retInt;refine wpAny_bind (wpAny_mkInt (wpAny_pure ⟨_,rfl,?_⟩));have e:(x.length:Int)-1+1=x.length:=by omega
 rw[e];exact h _ _
theorem ZiY {it:Addr} {x:Str} {t:Tok} {Q:Bool->Shared->Prop} (hit:s.heap.IsRevS it x t ((x.length:Int)-1)) (hx:x.length<=sizeLine)
  (h:∀ b tk,Q b {s with toks:=tk}):wpAny (model prog w) A (Builtin.List.listLengthHint (.ref it)) Q E s:=by
 have hs:sizeLine=16777216:=sizeLine_eq;unfold Builtin.List.listLengthHint;refine wpAny_bind (wpAny_specialOf hit.typeIs F.rev_no_len ?_);show wpAny _ _ (specialOf (Value.ref it) (Str.ofString "__length_hint__") >>= _) _ _ _;refine wpAny_bind (wpAny_specialOf hit.typeIs F.slot_rev_hint.lookup ?_);have hsp:splitId "reversed.__length_hint__" = some ("reversed","__length_hint__"):=by decide +kernel
 try dsimp only
 rw[hsp]
 try dsimp only
 refine wpAny_bind (wpAny_isInstance hit.typeIs F.sub_rev_rev ?_);rw[if_neg (by decide)];rw[if_neg (by decide +kernel)];refine wpAny_bind (wpAny_rule ?_);refine wpAny_bind (wpAny_of_eq (F.slot_rev_hint.bind _) ?_)
 try dsimp only
 refine wpAny_bind (wpAny_attempt (ZbY hit hx fun u tk=>?_));have ea:asInt? (Value.int (x.length:Int) u)=pure (some (x.length:Int)):=by simp only[asInt?]
 generalize hn:(x.length:Int)=n at ea;simp only[ea,pure_bind];subst hn
 try dsimp only
 have f1:Builtin.List.listFitsIndex (x.length:Int)=true:=by
  unfold Builtin.List.listFitsIndex;have a1:decide (-(2 ^ 63:Int)<=(x.length:Int))=true:=decide_eq_true (by omega);have a2:decide ((x.length:Int)<2 ^ 63)=true:=decide_eq_true (by omega);rw[a1,a2];rfl
 have f2:Builtin.List.listTooLong (x.length:Int).toNat=false:=by
  unfold Builtin.List.listTooLong;rw[Wl];exact decide_eq_false (R5.mpr hx)
 rw[f1,if_neg (by decide),if_neg (by omega),f2,if_neg (by decide)];exact wpAny_pure (h _ _)
section
variable {R:Result->Shared->Prop}
theorem ZfR (hh:A.handled=none) {I:Addr} {x:Str} {t:Tok} (hx:x.length<=sizeLine) (S:Addr) (c₀:Nat) (hit:s.heap.IsRevS I x t ((x.length:Int)-1)) (hSI:S≠I)
  (hS:s.heap.get? S=some {cls:=.type "list",data:=.seq #[] c₀})
  (hR:∀ h' tk acc' c',(∀ b o,b≠S->b≠I->s.heap.get? b=some o->h'.get? b=some o)->h'.get? S=some {cls:=.type "list",dict:=none,data:=.seq acc' c',slots:=#[]} ->
   ItemsOf (fun i v=>∃ c u,x.cps[x.length-1-i]?=some c/\v= .str ⟨#[c]⟩ u) acc' x.length->R (.ok (.ret .none)) {s with heap:=h',toks:=tk}) :
  wpAny (model prog w) A.in1 (Builtin.List.listExtendWith (.ref S) (.ref I) .none)
   (fun fin s'=>match fin with | .done f=>R (.ok f) s' | .again c'=>c'.quiet=true/\codeAny (model prog w) A c' R s') (fun e s'=>R (.error e) s') s:=by
 have hSf:S∉[I]:=fun hm=>hSI (Qm.mp hm);unfold Builtin.List.listExtendWith;refine wpAny_bind (wpAny_typeOf hit.typeIs ?_);have h1:Builtin.List.listSameRef (.ref S) (.ref I)=false:=by simp[Builtin.List.listSameRef,hSI]
 have h2:(Value.type "reversed" == Value.type "list")=false:=by decide
 have h3:(Value.type "reversed" == Value.type "tuple")=false:=by decide
 simp only[h1,h2,h3,RE,Wn,if_false];refine wpAny_bind (YM hit ?_);refine wpAny_bind (wpAny_holding (ZiY hit hx fun b tk=>?_));have W:=(Zfq (prog:=prog) (w:=w) (A:=A.in1) hh I x t hx).toS;have st0:∀ h':Heap,(∀ b o,b≠S->s.heap.get? b=some o->h'.get? b=some o)->(0<=x.length/\h'.IsRevS I x t ((x.length:Int)-1-((0:Nat):Int))):=fun h' hk=>⟨QV _,by
  have:=hit.at (h':=h') fun o e=>hk I o (Ne.symm hSI) e;have e:(x.length:Int)-1-((0:Nat):Int)=(x.length:Int)-1:=by omega
  rw[e];exact this⟩
 have fin:∀ (h₁:Heap) (c₁:Nat),(∀ b o,b≠S->s.heap.get? b=some o->h₁.get? b=some o)->h₁.get? S=some {cls:=.type "list",data:=.seq #[] c₁} ->
   codeAny (model prog w) A (.builtin "list.extend.loop" ⟨[.ref S,.ref I,.none],[]⟩) R {s with heap:=h₁,toks:=tk}:=fun h₁ c₁ hk hS₁=>by
  refine codeAny_extend_loopS W hx _ hSf _ x.length 0 _ _ _ rfl (QV _) (st0 h₁ hk) hS₁ (ItemsOf.nil _) fun s' acc' c' hm hS' hacc=>?_;rw[Moved.eq_with hm];refine hR s'.heap s'.toks acc' c' (fun b ob hb hbI e=>hm.heap b ob (fun hmem=>?_) (hk b ob hb e)) hS' hacc;rcases Qy.mp hmem with e' | hmem
  ·exact hb e'
  ·exact hbI (Qm.mp hmem)
 split
 ·refine wpAny_bind (wpAny_rule ?_);refine wpAny_bind ?_;show wpAny _ A.in1 (updateSeq S (·.push .none) >>= fun _=>updateSeq S (·.pop)) _ _ _;refine wpAny_bind (wpAny_updateSeq hS rfl ?_);have hS₂:=Ww (Obj.mapSeq (·.push Value.none)) hS rfl;refine wpAny_updateSeq (hz:=by seq_fits) hS₂ rfl ?_;have hS₃:=Ww (Obj.mapSeq (·.pop)) hS₂ rfl;exact wpAny_pure ⟨plainId_quiet F.plain_extend_loop _,fin _ _ (fun b o hb e=>(QZ _ _ (Ne.symm hb)).trans ((QZ _ _ (Ne.symm hb)).trans e)) hS₃⟩
 ·exact wpAny_pure ⟨plainId_quiet F.plain_extend_loop _,fin _ _ (fun b o hb e=>e) hS⟩
theorem ZbO (hh:A.handled=none) {I:Addr} {x:Str} {t:Tok} (hx:x.length<=sizeLine) (S:Addr) (hit:s.heap.IsRevS I x t ((x.length:Int)-1)) (hSI:S≠I)
  (hS:s.heap.get? S=some {cls:=.type "list",data:=.seq #[]})
  (hR:∀ h' tk acc' c',(∀ b o,b≠S->b≠I->s.heap.get? b=some o->h'.get? b=some o)->h'.get? S=some {cls:=.type "list",dict:=none,data:=.seq acc' c',slots:=#[]} ->
   ItemsOf (fun i v=>∃ c u,x.cps[x.length-1-i]?=some c/\v= .str ⟨#[c]⟩ u) acc' x.length->R (.ok (.ret .none)) {s with heap:=h',toks:=tk}) :
  wpAny (model prog w) A.in1 (Builtin.«list.__init__» ⟨[.ref S,.ref I],[]⟩)
   (fun fin s'=>match fin with | .done f=>R (.ok f) s' | .again c'=>c'.quiet=true/\codeAny (model prog w) A c' R s') (fun e s'=>R (.error e) s') s:=by
 show wpAny _ A.in1 (do let old ←Builtin.List.listItems (.ref S);Builtin.List.listUpdate (.ref S) (fun _=>#[]);letGo old.toList.reverse;Builtin.List.listExtendWith (.ref S) (.ref I) .none) _ _ s;refine wpAny_bind ?_;unfold Builtin.List.listItems;refine wpAny_bind (wpAny_seqItems hS rfl (wpAny_pure ?_));show wpAny _ A.in1 (updateSeq S (fun _=>#[]) >>= fun _=>letGo (#[]:Array Value).toList.reverse >>= fun _=>Builtin.List.listExtendWith (.ref S) (.ref I) .none) _ _ s;refine wpAny_bind (wpAny_updateSeq hS rfl ?_);have hS₂:=Ww (Obj.mapSeq (fun _=>(#[]:Array Value))) hS rfl;have oth:∀ b o,b≠S->s.heap.get? b=some o->(s.heap.update S (Obj.mapSeq (fun _=>(#[]:Array Value)))).get? b=some o :=
  fun b o hb e=>(QZ _ _ (Ne.symm hb)).trans e
 refine wpAny_bind (wpAny_letGo ?_);refine ZfR hh hx S _ (hit.at fun o e=>oth I o (Ne.symm hSI) e) hSI hS₂ fun h' tk acc' c' hk hS' hacc=>?_;exact hR h' tk acc' c' (fun b o hb hbI e=>hk b o hb hbI (oth b o hb e)) hS' hacc
end
theorem ZbZ (hh:A.handled=none) {I:Addr} {x:Str} {t:Tok} {Q:Value->Shared->Prop} (hx:x.length<=sizeLine) (hit:s.heap.IsRevS I x t ((x.length:Int)-1))
  (hQ:∀ h' tk acc' c',(∀ b o,b≠I->s.heap.get? b=some o->h'.get? b=some o)->h'.get? s.heap.objs.size=some {cls:=.type "list",dict:=none,data:=.seq acc' c',slots:=#[]} ->
   ItemsOf (fun i v=>∃ c u,x.cps[x.length-1-i]?=some c/\v= .str ⟨#[c]⟩ u) acc' x.length->Q (.ref s.heap.objs.size) {s with heap:=h',toks:=tk}) :
  wpAny (model prog w) A (call (.type "list") [.ref I]) Q E s:=by
 have hSI:s.heap.objs.size≠I:=fun e=>by
  obtain⟨o,ho,_⟩:=hit;exact Wu _ (e▸Qu ho)
 refine callType_codes (Q₁:=fun obj s₁=>obj= .ref s.heap.objs.size/\s₁={s with heap:=s.heap.push {cls:=.type "list",data:=.seq #[]}}) F.called_list (F.typeCall_list_1 _) F.entry_list_init
  (code_list_new _ ⟨rfl,rfl⟩) fun obj s₁ h₁=>?_
 obtain⟨rfl,rfl⟩:=h₁;have hS:(s.heap.push {cls:=.type "list",data:=.seq #[]}).get? s.heap.objs.size=some {cls:=.type "list",data:=.seq #[]}:=Qx _ rfl;refine⟨⟨_,hS,rfl⟩,F.args_list_init_2 _ _,ZbO (A:=A.in1) hh hx _ (hit.at fun o e=>Qh _ e) hSI hS fun h' tk acc' c' hk hS' hacc=>?_⟩;exact⟨rfl,hQ h' tk acc' c' (fun b o hbI e=>hk b o (QC (Qu e)) hbI (Qh _ e)) hS' hacc⟩
end
end PySem
namespace L2
open PySem PySem.Spec PyProof.Rows
theorem ZfU:bootBuiltins "reversed" = some (.type "reversed"):=by decide +kernel
theorem Zkx:∀ (ws:List V) (us:List Value),ws.length=us.length->(∀ (i:Nat) (w:V) (u:Value),ws[i]?=some w->us[i]?=some u->RelV w u)->Vals ws us:=by
 intro ws;induction ws with
 | nil =>
  intro us hl _;have:us=[]:=WP.mp hl.symm;subst this;exact .nil
 | cons w ws ih =>
  intro us hl h;cases us with
  | nil=>cases hl
  | cons u us=>exact .cons (h 0 w u rfl rfl) (ih us (by simpa using hl) fun i w' u' e1 e2=>h (i+1) w' u' e1 e2)
def tLR (te:TE):TE:=fun σ H Q=>te σ H fun x H1=>∃ z:Str,x= .str z/\z.length<=sizeLine/\∀ p,H1 p=none->Q (.ref p) (upd H1 p (.lst (z.cps.toList.reverse.map fun c=>V.str (tx [c]))))
theorem ZaX {X:Cx} {e:Expr} {te:TE} {p1 p2 pos1 pos2:Pos} (hc:X.calm=true) (hgl:Gl X "list") (hml:X.mg "list" = none) (hgr:Gl X "reversed") (hmr:X.mg "reversed" = none) (he:PE X e te)
  (hs1:starEach [.Call (.Name "reversed" p2) [e] [] pos2] X.env=[(false,eval (.Call (.Name "reversed" p2) [e] [] pos2) X.env)]:=by rfl) (hs2:starEach [e] X.env=[(false,eval e X.env)]:=by rfl) :
  PE X (.Call (.Name "list" p1) [.Call (.Name "reversed" p2) [e] [] pos2] [] pos1) (tLR te):=by
 intro pins s σ H Q I h;refine wpAny_Call_Name_kw (JG I hgl hml Zks ?_ (by decide) (by decide));refine PyProof.Rows.callWith_type1 ?_ hs1 rfl;rw[hs1];refine Calls.spliced_cons ?_;refine wpAny_Call_Name_kw (JG I hgr hmr ZfU ?_ (by decide) (by decide));refine PyProof.Rows.callWith_type1 ?_ hs2 rfl;rw[hs2];refine Calls.spliced_cons (thn (he pins s σ H _ I h) fun u s1 ⟨x,H1,I1,r1,q1⟩=>Calls.spliced_nil ?_);obtain⟨z,rfl,hz,q⟩:=q1;obtain⟨t,rfl⟩:=r1;refine Jz hz ?_;refine Calls.spliced_nil ?_;refine ZbZ (I.ok.hd hc) hz ⟨_,Qx _ rfl,rfl,rfl⟩ fun h' tk acc c hk hS hacc=>?_;have hsz:(s1.heap.push (Znz z t ((z.length:Int)-1))).objs.size=s1.heap.objs.size+1:=Um ..;dsimp only at hS hk ⊢;rw[hsz]at hS ⊢;have hf:H1 (s1.heap.objs.size+1)=none:=I1.hok.fresh (WR _);refine⟨.ref (s1.heap.objs.size+1),_,I1.laid (h':=h') (t':=tk) (a:=s1.heap.objs.size+1) (o:=.lst (z.cps.toList.reverse.map fun c=>V.str (tx [c]))) (fun b u e=>hk b u (QC (Qu e)) (Qh _ e)) (WR _) ?_,rfl,q _ hf⟩;refine⟨by rw[Qc,QW];simpa[Str.length]using hz,acc.toList,c,?_,by rw[hS,Array.toArray_toList]⟩;have hzl:z.cps.toList.length=z.length:=by simp[Str.length]
 refine Zkx _ _ (by rw[Qc,QW,hzl,QK,hacc.1]) fun i w u e1 e2=>?_;have hi:i<z.length:=by
  have:=(Qp.mp e1).1;rw[Qc,QW,hzl]at this;exact this
 obtain⟨c',t',hc',rfl⟩:=hacc.2 i u (by rw[←Wv];exact e2);rw[Qg,Rx (by rw[hzl];exact hi),hzl]at e1;rw[←Wv]at hc';rw[hc']at e1;cases e1;exact⟨t',rfl⟩
end L2
namespace Sh
open PySem L2 PyProof.Rows
variable {P:Program} {w:World} {K:PySem.W.Frag} {mg:Str->Option Value} {base:Heap}
variable {B G:List Nat} {b p pt:Str} {es:Es} {i n:Nat} {ks:List Str} {r:Str->List Nat}
abbrev Ts:=List (Str×Str)
def dl (a b:Str):Int:=if a=b then 1 else 0
theorem XM (a:Str):dl a a=1:=if_pos rfl
theorem Zib (a b:Str):0<=dl a b:=by unfold dl;split <;> omega
def frm (ts:Ts) (i:Nat):Str:=(ts.getD i ("","")).1
def tow (ts:Ts) (i:Nat):Str:=(ts.getD i ("","")).2
def bal (ts:Ts) (X:List Nat) (p:Str):Int:=(X.map fun i=>dl (frm ts i) p-dl (tow ts i) p).sum
theorem ZaD (ts:Ts) (p:Str):bal ts [] p=0:=rfl
theorem Ya (ts:Ts) (i:Nat) (X:List Nat) (p:Str):bal ts (i::X) p=dl (frm ts i) p-dl (tow ts i) p+bal ts X p:=by
 unfold bal;rw[Qs,Q8]
theorem Xw (ts:Ts) (X Y:List Nat) (p:Str):bal ts (X++Y) p=bal ts X p+bal ts Y p:=by
 unfold bal;rw[Qz,Ue]
theorem Y6 {ts:Ts} {X Y:List Nat} (h:X.Perm Y) (p:Str):bal ts X p=bal ts Y p:=by
 induction h with
 | nil=>rfl
 | cons x _ ih=>rw[Ya,Ya,ih]
 | swap x y l=>rw[Ya,Ya,Ya,Ya];omega
 | trans _ _ a b=>exact a.trans b
inductive Ch (ts:Ts):Str->List Nat->Str->Prop where
 | nil (u:Str):Ch ts u [] u
 | cons {i:Nat} {X:List Nat} {u v:Str} (e:frm ts i=u) (h:Ch ts (tow ts i) X v):Ch ts u (i::X) v
theorem Ch.bal {ts:Ts} {u v:Str} {X:List Nat} (h:Ch ts u X v) (p:Str):bal ts X p=dl u p-dl v p:=by
 induction h with
 | nil u=>rw[ZaD];omega
 | cons e h ih=>rw[Ya,ih,e];omega
theorem Ch.snoc {ts:Ts} {u v:Str} {X:List Nat} (h:Ch ts u X v) (e:frm ts i=v):Ch ts u (X++[i]) (tow ts i):=by
 induction h with
 | nil u=>exact .cons e (.nil _)
 | cons e' h ih=>exact .cons e' (ih e)
theorem Ch.pop {ts:Ts} {u v:Str} {i:Nat}:∀ {X:List Nat},Ch ts u (X++[i]) v->Ch ts u X (frm ts i)/\v=tow ts i
 | [],h=>by
  cases h with
  | cons e h =>
   cases h;exact⟨e▸.nil _,rfl⟩
 | j::X,h=>by
  cases h with
  | cons e h =>
   obtain⟨a,b⟩:=Ch.pop (X:=X) h;exact⟨.cons e a,b⟩
theorem Ch.start {ts:Ts} {u w v:Str} {X:List Nat} (h:Ch ts u X v) (h':Ch ts w X v):u=w:=by
 cases h with
 | nil u=>cases h';rfl
 | cons e _=>cases h' with | cons e' _=>exact e.symm.trans e'
def ZiB (ts:Ts) (P y:Str):Prop:=∃ i,i<ts.length/\((frm ts i=P/\tow ts i=y)\/(tow ts i=P/\frm ts i=y))
inductive RchT (ts:Ts) (a:Str):Str->Prop where
 | here:RchT ts a a
 | step {P y:Str} (h:RchT ts a P) (k:ZiB ts P y):RchT ts a y
theorem RchT.closed {ts:Ts} {a:Str} {F:Str->Prop} (ha:F a) (hc:∀ P,F P->∀ y,ZiB ts P y->F y) {y:Str} (h:RchT ts a y):F y:=by
 induction h with
 | here=>exact ha
 | step _ k ih=>exact hc _ ih _ k
def Deg (ts:Ts) (b f:Str):Prop:=∀ p,bal ts (Qq ts.length) p=dl b p-dl f p
def ZaG (ts:Ts) (b:Str):Prop:=(∃ f,Deg ts b f)/\∀ i,i<ts.length->RchT ts b (frm ts i)
def Eul (ts:Ts) (b:Str) (X:List Nat):Prop:=X.Perm (Qq ts.length)/\∃ v,Ch ts b X v
theorem Zm1 {ts:Ts} {a u v:Str} {X:List Nat} (h:Ch ts u X v):RchT ts a u->(∀ i∈X,i<ts.length)->∀ i∈X,RchT ts a (frm ts i):=by
 induction h with
 | nil u=>intro _ _ i hi;cases hi
 | @cons j X u v e h ih =>
  intro ha hX i hi;rcases Qy.mp hi with z | z
  ·rw[z,e];exact ha
  ·exact ih (.step ha ⟨j,hX j (Qj ..),.inl ⟨e,rfl⟩⟩) (fun k hk=>hX k (Ql _ hk)) i z
theorem Eul.good {ts:Ts} {X:List Nat} (h:Eul ts b X):ZaG ts b:=by
 obtain⟨p,v,c⟩:=h;refine⟨⟨v,fun q=>by rw[←Y6 p];exact c.bal q⟩,fun i hi=>?_⟩;exact Zm1 c .here (fun j hj=>QN.mp (p.mem_iff.mp hj)) i (p.mem_iff.mpr (QN.mpr hi))
theorem Xt {X Y:List Nat} (h1:X.Nodup) (h2:Y.Nodup) (h:∀ x,x∈X↔x∈Y):X.Perm Y:=by
 rw[RG];intro a;rw[h1.count,h2.count];by_cases c:a∈X
 ·rw[if_pos c,if_pos ((h a).mp c)]
 ·rw[if_neg c,if_neg (fun z=>c ((h a).mpr z))]
theorem ZhB {F:List Nat}:∀ {ks:List Nat},F.Nodup->(∀ x∈F,x∈ks)->F.length<=ks.length:=by
 induction F with
 | nil=>exact fun _ _=>QV _
 | cons x F ih =>
  intro ks h1 h2;have nd':=Wj.mp h1;have hx:=h2 x (Qj ..);have:=ih (ks:=ks.erase x) nd'.2 fun y hy=>(Ws (fun(q:y=x)=>nd'.1 (q▸hy))).mpr (h2 y (Ql _ hy));rw[Wh hx]at this;have hpos:0<ks.length:=Wo hx;rw[QG];omega
theorem Zk8 {F ks:List Nat} (h1:F.Nodup) (h2:∀ x∈F,x∈ks) (he:F.length=ks.length):∀ x∈ks,x∈F:=by
 intro x hx;apply Classical.byContradiction;intro hn;have:=ZhB (ks:=ks.erase x) h1 fun y hy=>(Ws (fun(q:y=x)=>hn (q▸hy))).mpr (h2 y hy);rw[Wh hx]at this;have hpos:0<ks.length:=Wo hx;omega
structure WI (ts:Ts) (b pt:Str) (r:Str->List Nat) (G B:List Nat):Prop where
 nd:(G++B).Nodup
 lt:∀ i∈G++B,i<ts.length
 rnd:∀ p,(r p).Nodup
 row:∀ p i,i∈r p↔i<ts.length/\frm ts i=p/\i∉G++B
 chG:Ch ts b G pt
 chB:∀ f,Deg ts b f->∃ w,Ch ts w B.reverse f
 stk:∀ i∈B,r (tow ts i)=[]
theorem WI.start {ts:Ts} (h1:∀ p,(r p).Nodup) (h2:∀ p i,i∈r p↔i<ts.length/\frm ts i=p):WI ts b b r [] [] where
 nd:=Uo
 lt:=fun i hi=>by cases hi
 rnd:=h1
 row:=fun p i=>by rw[h2];simp
 chG:=.nil _
 chB:=fun f _=>⟨f,.nil _⟩
 stk:=fun i hi=>by cases hi
def Zix (r:Str->List Nat) (p:Str) (X:List Nat):Str->List Nat:=fun q=>if q=p then X else r q
theorem WI.push {ts:Ts} {X:List Nat} (h:WI ts b pt r G B) (e:r pt=X++[i]):WI ts b (tow ts i) (Zix r pt X) (G++[i]) B:=by
 have hi:=(h.row pt i).mp (by rw[e];simp);have hrn:=h.rnd pt;rw[e]at hrn;have hiX:i∉X:=fun z=>(WA.mp hrn).2.2 i z i (by simp) rfl;have mm:∀ j,j∈(G++[i])++B↔j∈G++B\/j=i:=fun j=>by
  simp only[QF,Qm];constructor
  ·rintro((z | z) | z)
   ·exact .inl (.inl z)
   ·exact .inr z
   ·exact .inl (.inr z)
  ·rintro((z | z) | z)
   ·exact .inl (.inl z)
   ·exact .inr z
   ·exact .inl (.inr z)
 refine⟨?_,fun j hj=>?_,fun p=>?_,fun p j=>?_,h.chG.snoc hi.2.1,h.chB,fun j hj=>?_⟩
 ·have pp:((G++[i])++B).Perm (i::(G++B)):=by
   rw[Q9,UB];exact WV
  exact pp.nodup_iff.mpr (Wj.mpr ⟨hi.2.2,h.nd⟩)
 ·rcases(mm j).mp hj with z | z
  ·exact h.lt j z
  ·rw[z];exact hi.1
 ·unfold Zix;split
  ·exact(WA.mp hrn).1
  ·exact h.rnd p
 ·rw[mm];unfold Zix;by_cases c:p=pt
  ·rw[if_pos c];have hr:=h.row pt j;rw[e,QF,Qm]at hr;subst c;constructor
   ·intro z;obtain⟨a1,a2,a3⟩:=hr.mp (.inl z);exact⟨a1,a2,fun q=>q.elim a3 fun w=>hiX (w▸z)⟩
   ·rintro⟨a1,a2,a3⟩;rcases hr.mpr ⟨a1,a2,fun q=>a3 (.inl q)⟩with z | z
    ·exact z
    ·exact absurd (.inr z) a3
  ·rw[if_neg c,h.row];constructor
   ·rintro⟨a1,a2,a3⟩;refine⟨a1,a2,fun q=>q.elim a3 fun w=>c ?_⟩;rw[←a2,w,hi.2.1]
   ·rintro⟨a1,a2,a3⟩;exact⟨a1,a2,fun q=>a3 (.inl q)⟩
 ·unfold Zix;have hs:=h.stk j hj;rw[if_neg (fun c=>by rw[c,e]at hs;simp at hs)];exact hs
theorem WI.stuck {ts:Ts} {w f:Str} (h:WI ts b pt r G B) (e:r pt=[]) (d:Deg ts b f) (c:Ch ts w B.reverse f):pt=w:=by
 have hp:(Qq ts.length).Perm ((G++B)++(Qq ts.length).filter fun i=>decide (i∉G++B)):=by
  refine Xt WT (WA.mpr ⟨h.nd,WT.filter _,fun a ha b' hb z=>?_⟩) fun x=>?_
  ·subst z;have:=(QD.mp hb).2;simp only[decide_eq_true_eq]at this;exact this ha
  ·rw[QF,QD,QN];constructor
   ·intro hx;by_cases cc:x∈G++B
    ·exact .inl cc
    ·exact .inr ⟨hx,decide_eq_true cc⟩
   ·rintro(z | z)
    ·exact h.lt x z
    ·exact z.1
 have h1:=d pt;rw[Y6 hp,Xw,Xw,h.chG.bal,←Y6 (Uh B),c.bal]at h1;have h2:∀ L:List Nat,(∀ i∈L,frm ts i≠pt)->bal ts L pt<=0:=by
  intro L;induction L with
  | nil=>intro _;rw[ZaD];omega
  | cons i L ih =>
   intro hL;have a:=ih fun j hj=>hL j (Ql _ hj);have b':dl (frm ts i) pt=0:=if_neg (hL i (Qj ..));have c':=Zib (tow ts i) pt;rw[Ya];omega
 have h3:=h2 ((Qq ts.length).filter fun i=>decide (i∉G++B)) fun i hi z=>by
  obtain⟨a1,a2⟩:=QD.mp hi;have:=(h.row pt i).mpr ⟨QN.mp a1,z,by simpa using a2⟩;rw[e]at this;cases this
 rw[XM]at h1;apply Classical.byContradiction;intro hn;have h4:dl w pt=0:=if_neg (fun z=>hn z.symm);omega
theorem WI.pop {ts:Ts} {X:List Nat} (h:WI ts b pt r (X++[i]) B) (e:r pt=[]):WI ts b (frm ts i) r X (B++[i]):=by
 obtain⟨c1,c2⟩:=h.chG.pop;have pp:(X++(B++[i])).Perm ((X++[i])++B):=by
  rw[Q9];exact Uf.append_left _ |>.trans (List.Perm.refl _)
 refine⟨pp.nodup_iff.mpr h.nd,fun j hj=>h.lt j (pp.mem_iff.mp hj),h.rnd,fun p j=>by rw[h.row,pp.mem_iff],c1,fun f d=>?_,fun j hj=>?_⟩
 ·obtain⟨w,c⟩:=h.chB f d;have:=h.stuck e d c;rw[List.reverse_append,List.reverse_singleton,UB];refine⟨frm ts i,.cons rfl ?_⟩;rw[←c2,this];exact c
 ·rcases QF.mp hj with z | z
  ·exact h.stk j z
  ·rw[Qm.mp z,←c2];exact e
theorem WI.done {ts:Ts} (h:WI ts b pt r [] B) (e:r pt=[]) (g:ZaG ts b):Eul ts b B.reverse:=by
 obtain⟨⟨f,d⟩,hr⟩:=g;have hpt:b=pt:=by cases h.chG;rfl
 subst hpt;obtain⟨w,c⟩:=h.chB f d;have ew:=h.stuck e d c;subst ew;have hnd:=h.nd;have hlt:=h.lt;rw[Uv]at hnd hlt;refine⟨?_,f,c⟩
 -- whoever is met has nothing left
 let M:Str->Prop:=fun p=>p=b\/∃ i∈B,tow ts i=p
 have hM:∀ p,M p->r p=[]:=fun p hp=>by
  rcases hp with z | ⟨i,hi,z⟩
  ·rw[z];exact e
  ·rw[←z];exact h.stk i hi
 have hp:(Qq ts.length).Perm (B++(Qq ts.length).filter fun i=>decide (i∉B)):=by
  refine Xt WT (WA.mpr ⟨hnd,WT.filter _,fun a ha b' hb z=>?_⟩) fun x=>?_
  ·subst z;have:=(QD.mp hb).2;simp only[decide_eq_true_eq]at this;exact this ha
  ·rw[QF,QD,QN];constructor
   ·intro hx;by_cases cc:x∈B
    ·exact .inl cc
    ·exact .inr ⟨hx,decide_eq_true cc⟩
   ·rintro(z | z)
    ·exact hlt x z
    ·exact z.1
 have hz:∀ p,bal ts ((Qq ts.length).filter fun i=>decide (i∉B)) p=0:=fun p=>by
  have h1:=d p;rw[Y6 hp,Xw,←Y6 (Uh B),c.bal]at h1;omega
 have key:∀ p,M p->∀ i,i<ts.length->(frm ts i=p\/tow ts i=p)->i∈B:=fun p hp i hi ht=>by
  apply Classical.byContradiction;intro hn;have hne:∀ j,j<ts.length->j∉B->frm ts j≠p:=fun j hj hjn z=>by
   have:=(h.row p j).mpr ⟨hj,z,by simpa using hjn⟩;rw[hM p hp]at this;cases this
  rcases ht with z | z
  ·exact hne i hi hn z
  ·have h2:∀ L:List Nat,(∀ j∈L,frm ts j≠p)->bal ts L p<=0/\(i∈L->bal ts L p<0):=by
    intro L;induction L with
    | nil=>intro _;exact⟨by rw[ZaD];omega,fun q=>by cases q⟩
    | cons j L ih =>
     intro hL;obtain⟨a1,a2⟩:=ih fun k hk=>hL k (Ql _ hk);have b':dl (frm ts j) p=0:=if_neg (hL j (Qj ..));have c':=Zib (tow ts j) p;rw[Ya];refine⟨by omega,fun q=>?_⟩;rcases Qy.mp q with q | q
     ·subst q;have:dl (tow ts i) p=1:=if_pos z;omega
     ·have:=a2 q;omega
   have h3:=(h2 ((Qq ts.length).filter fun i=>decide (i∉B)) fun j hj=>by
    obtain⟨a1,a2⟩:=QD.mp hj;exact hne j (QN.mp a1) (by simpa using a2)).2 (QD.mpr ⟨QN.mpr hi,decide_eq_true hn⟩)
   rw[hz]at h3;omega
 have hfr:∀ u X v,Ch ts u X v->M u->(∀ j∈X,j∈B)->∀ j∈X,M (frm ts j):=by
  intro u X v hc;induction hc with
  | nil u=>intro _ _ j hj;cases hj
  | @cons k X u v e' _ ih =>
   intro hu hX j hj;rcases Qy.mp hj with z | z
   ·rw[z,e'];exact hu
   ·exact ih (.inr ⟨k,hX k (Qj ..),rfl⟩) (fun l hl=>hX l (Ql _ hl)) j z
 have hcl:∀ P,M P->∀ y,ZiB ts P y->M y:=fun P hP y ⟨i,hi,q⟩=>by
  rcases q with ⟨q1,q2⟩ | ⟨q1,q2⟩
  ·exact .inr ⟨i,key P hP i hi (.inl q1),q2⟩
  ·have:=key P hP i hi (.inr q1);rw[←q2];exact hfr _ _ _ c (.inl rfl) (fun j hj=>Ub.mp hj) i (Ub.mpr this)
 refine Xt ((Uh B).nodup_iff.mpr hnd) WT fun x=>?_;rw[Ub,QN];refine⟨hlt x,fun hx=>?_⟩;exact key _ (RchT.closed (F:=M) (.inl rfl) hcl (hr x hx)) x hx (.inl rfl)
theorem WI.eul {ts:Ts} {v:Str} (h:WI ts b pt r [] B) (hl:B.length=ts.length) (c:Ch ts b B.reverse v):Eul ts b B.reverse:=by
 have hnd:=h.nd;have hlt:=h.lt;rw[Uv]at hnd hlt;refine⟨?_,v,c⟩;have hsub:∀ x∈B,x∈Qq ts.length:=fun x hx=>QN.mpr (hlt x hx);refine(Uh B).trans (Xt hnd WT fun x=>⟨hsub x,Zk8 hnd hsub (by rw[Q5,hl]) x⟩)
def rows (ts:Ts) (p:Str):List Nat:=((Qq ts.length).filter fun i=>decide (frm ts i=p)).reverse
theorem ZgU (ts:Ts) (p:Str):(rows ts p).Nodup:=(Uh _).nodup_iff.mpr (WT.filter _)
theorem ZeL (ts:Ts) (p:Str) (i:Nat):i∈rows ts p↔i<ts.length/\frm ts i=p:=by
 unfold rows;rw[Ub,QD,QN,decide_eq_true_eq]
def wlk (ts:Ts):Nat->(Str->List Nat)->Str->List Nat->List Nat->List Nat
 | 0,_,_,_,B=>B
 | n+1,r,pt,G,B=>match (r pt).getLast? with
  | some i=>wlk ts n (Zix r pt (r pt).dropLast) (tow ts i) (G++[i]) B
  | none=>match G.getLast? with
   | some i=>wlk ts n r (frm ts i) G.dropLast (B++[i])
   | none=>B
theorem Zb5 {ts:Ts} {X:List Nat} (e:r pt=X++[i]):wlk ts (n+1) r pt G B=wlk ts n (Zix r pt X) (tow ts i) (G++[i]) B:=by
 rw[wlk,e];simp
theorem Zen {ts:Ts} {X:List Nat} (e:r pt=[]):wlk ts (n+1) r pt (X++[i]) B=wlk ts n r (frm ts i) X (B++[i]):=by
 rw[wlk,e];simp
theorem Zeo {ts:Ts} (e:r pt=[]):wlk ts n r pt [] B=B:=by
 cases n with
 | zero=>rfl
 | succ n=>rw[wlk,e];rfl
def wayX (ts:Ts) (b:Str):List Nat:=(wlk ts (2*ts.length) (rows ts) b [] []).reverse
theorem WI.len {ts:Ts} (h:WI ts b pt r G B):G.length+B.length<=ts.length:=by
 have:=ZhB (ks:=Qq ts.length) h.nd fun x hx=>QN.mpr (h.lt x hx);rw[Qd,Q5]at this;exact this
theorem WI.in_len {ts:Ts} (h:WI ts b pt r G B) (p:Str):(r p).length<=ts.length:=by
 have:=ZhB (ks:=Qq ts.length) (h.rnd p) fun x hx=>QN.mpr ((h.row p x).mp hx).1;rw[Q5]at this;exact this
def sumZ (ks:List Str) (f:Str->Int):Int:=(ks.map f).sum
theorem ZZ (k:Str) (ks:List Str) (f:Str->Int):sumZ (k::ks) f=f k+sumZ ks f:=by
 unfold sumZ;rw[Qs,Q8]
theorem ZiK (ks:List Str) (f g:Str->Int):sumZ ks (fun p=>f p+g p)=sumZ ks f+sumZ ks g:=by
 induction ks with
 | nil=>rfl
 | cons k ks ih=>rw[ZZ,ZZ,ZZ,ih];omega
theorem Zbh (ks:List Str) (f g:Str->Int):sumZ ks (fun p=>f p-g p)=sumZ ks f-sumZ ks g:=by
 induction ks with
 | nil=>rfl
 | cons k ks ih=>rw[ZZ,ZZ,ZZ,ih];omega
theorem Jj {f g:Str->Int} (h:∀ p∈ks,f p<=g p):sumZ ks f<=sumZ ks g:=by
 induction ks with
 | nil=>exact UQ _
 | cons k ks ih =>
  rw[ZZ,ZZ];have h1:=h k (Qj ..);have h2:=ih fun p hp=>h p (Ql _ hp);omega
theorem YN (ks:List Str):sumZ ks (fun _=>0)=0:=by
 induction ks with
 | nil=>rfl
 | cons k ks ih=>rw[ZZ,ih];omega
theorem Yp {f:Str->Int} (h:∀ p∈ks,0<=f p) (hp:p∈ks):f p<=sumZ ks f:=by
 induction ks with
 | nil=>cases hp
 | cons k ks ih =>
  rw[ZZ];have h0:=h k (Qj ..);have h1:0<=sumZ ks f:=by
   have:=Jj (ks:=ks) (f:=fun _=>0) (g:=f) fun p hp=>h p (Ql _ hp);rw[YN]at this;exact this
  rcases Qy.mp hp with z | z
  ·rw[z];omega
  ·have:=ih (fun p hp=>h p (Ql _ hp)) z;omega
theorem Zb7 {f:Str->Int} (h:∀ p∈ks,0<=f p) {q:Str} (hp:p∈ks) (hq:q∈ks) (hne:p≠q):f p+f q<=sumZ ks f:=by
 induction ks with
 | nil=>cases hp
 | cons k ks ih =>
  rw[ZZ];have hk:∀ p∈ks,0<=f p:=fun p hp=>h p (Ql _ hp);have h0:=h k (Qj ..);rcases Qy.mp hp with z | z
  ·rcases Qy.mp hq with y | y
   ·exact absurd (z.trans y.symm) hne
   ·have:=Yp hk y;rw[z];omega
  ·rcases Qy.mp hq with y | y
   ·have:=Yp hk z;rw[y];omega
   ·have:=ih hk z y;omega
theorem X8 {a:Str} (h:p≠a):dl a p=0:=if_neg fun e=>h e.symm
theorem Zbi (nd:ks.Nodup) {a:Str} (h:a∈ks):sumZ ks (dl a)=1:=by
 induction ks with
 | nil=>cases h
 | cons k ks ih =>
  have nd':=Wj.mp nd;rw[ZZ];rcases Qy.mp h with z | z
  ·subst z;have:sumZ ks (dl a)=0:=by
    have e:∀ p∈ks,dl a p=0:=fun p hp=>X8 fun e=>nd'.1 (e▸hp);have h1:=Jj (f:=dl a) (g:=fun _=>0) fun p hp=>by rw[e p hp];exact UQ _
    have h2:=Jj (f:=fun _=>0) (g:=dl a) fun p hp=>by rw[e p hp];exact UQ _
    rw[YN]at h1 h2;omega
   rw[this,XM];omega
  ·rw[ih nd'.2 z,X8 (fun e:k=a=>nd'.1 (e▸z))];omega
abbrev moT (ts:Ts) (p:Str):Int:=bal ts (Qq ts.length) p
theorem Zgi {ts:Ts} {ks:List Str} (nd:ks.Nodup):∀ X:List Nat,(∀ i∈X,frm ts i∈ks/\tow ts i∈ks)->sumZ ks (bal ts X)=0
 | [],_=>YN ks
 | i::X,h=>by
  obtain⟨h1,h2⟩:=h i (Qj ..);have ih:=Zgi nd X fun j hj=>h j (Ql _ hj);have e:bal ts (i::X)=fun p=>(dl (frm ts i) p-dl (tow ts i) p)+bal ts X p:=funext fun p=>Ya ts i X p;rw[e,ZiK,Zbh,Zbi nd h1,Zbi nd h2,ih];rfl
theorem Zir {ts:Ts} {p:Str}:∀ X:List Nat,(∀ i∈X,frm ts i≠p/\tow ts i≠p)->bal ts X p=0
 | [],_=>rfl
 | i::X,h=>by
  obtain⟨h1,h2⟩:=h i (Qj ..);rw[Ya,Zir X fun j hj=>h j (Ql _ hj)];unfold dl;rw[if_neg h1,if_neg h2];rfl
def Yk (x:Int):Int:=if x>0 then x else 0
theorem Zmo (nd:ks.Nodup) {g:Str->Int} (h0:∀ p∈ks,0<=g p) (h1:sumZ ks g=1):∃ f∈ks,∀ p∈ks,g p=dl f p:=by
 have:∃ f∈ks,1<=g f:=by
  apply Classical.byContradiction;intro hn;have hz:∀ p∈ks,g p<=0:=fun p hp=>by
   apply Classical.byContradiction;intro c;exact hn ⟨p,hp,by omega⟩
  have:=Jj (f:=g) (g:=fun _=>0) hz;rw[YN]at this;omega
 obtain⟨f,hf,hg⟩:=this;refine⟨f,hf,fun p hp=>?_⟩;by_cases c:p=f
 ·subst c;have:=Yp h0 hp;rw[XM];omega
 ·have:=Zb7 h0 hp hf c;have:=h0 p hp;rw[X8 c];omega
structure Kp (ts:Ts) (ks:List Str):Prop where
 nd:ks.Nodup
 mem:∀ p,p∈ks↔∃ i,i<ts.length/\(frm ts i=p\/tow ts i=p)
theorem Kp.out {ts:Ts} (h:Kp ts ks) (hp:p∉ks):moT ts p=0 :=
 Zir _ fun i hi=>⟨fun e=>hp ((h.mem p).mpr ⟨i,QN.mp hi,.inl e⟩),fun e=>hp ((h.mem p).mpr ⟨i,QN.mp hi,.inr e⟩)⟩
theorem Kp.total {ts:Ts} (h:Kp ts ks):sumZ ks (moT ts)=0 :=
 Zgi h.nd _ fun i hi=>⟨(h.mem _).mpr ⟨i,QN.mp hi,.inl rfl⟩,(h.mem _).mpr ⟨i,QN.mp hi,.inr rfl⟩⟩
theorem Zjx {ts:Ts} (h:Kp ts ks) (g:ZaG ts b):∀ p∈ks,RchT ts b p:=fun p hp=>by
 obtain⟨i,hi,q⟩:=(h.mem p).mp hp;rcases q with q | q
 ·rw[←q];exact g.2 i hi
 ·exact .step (g.2 i hi) ⟨i,hi,.inl ⟨rfl,q⟩⟩
theorem ZhZ {ts:Ts} {M:Int} (h:Kp ts ks) (hb:b∈ks) (hs:sumZ ks (fun p=>Yk (moT ts p))<=1) (hM:M∈ks.map (moT ts)) (hle:∀ x∈ks.map (moT ts),x<=M) (h1:M=1->moT ts b=1) (hr:∀ p∈ks,RchT ts b p):ZaG ts b:=by
 have hpos:∀ p∈ks,0<=Yk (moT ts p):=fun p _=>by unfold Yk;split <;> omega
 have hle':∀ p∈ks,moT ts p<=M:=fun p hp=>hle _ (U3 hp);have tot:=h.total;refine⟨?_,fun i hi=>hr _ ((h.mem _).mpr ⟨i,hi,.inl rfl⟩)⟩;by_cases c:M<=0
 ·refine⟨b,fun p=>?_⟩;show moT ts p=_;rw[UZ];by_cases hp:p∈ks
  ·have hn:∀ q∈ks,0<=(fun q=>0-moT ts q) q:=fun q hq=>by have:=hle' q hq;show 0<=0-moT ts q;omega
   have:=Yp hn hp;rw[Zbh,YN,tot]at this;have h2:=hle' p hp;have h3:0-moT ts p<=0-0:=this;omega
  ·exact h.out hp
 ·obtain⟨p0,hp0,e0⟩:=Qi.mp hM;have hM1:M=1:=by
   have:=Yp hpos hp0;have e:Yk (moT ts p0)=M:=by rw[e0];unfold Yk;rw[if_pos (by omega)]
   have h4:Yk (moT ts p0)<=1:=U0 this hs;rw[e]at h4;omega
  have hb1:=h1 hM1;have eb:Yk (moT ts b)=1:=by rw[hb1];rfl
  have hoth:∀ p∈ks,p≠b->moT ts p<=0:=fun p hp hne=>by
   have:=Zb7 hpos hp hb hne;have h4:Yk (moT ts p)+Yk (moT ts b)<=1:=U0 this hs;rw[eb]at h4;apply Classical.byContradiction;intro c2;have:Yk (moT ts p)=moT ts p:=by unfold Yk;rw[if_pos (by omega)]
   omega
  obtain⟨f,hf,hg⟩:=Zmo h.nd (g:=fun p=>dl b p-moT ts p) (fun p hp=>by
   show 0<=dl b p-moT ts p;by_cases c2:p=b
   ·subst c2;rw[XM,hb1];decide
   ·have:=hoth p hp c2;rw[X8 c2];omega) (by rw[Zbh,Zbi h.nd hb,tot];rfl)
  refine⟨f,fun p=>?_⟩;show moT ts p=_;by_cases hp:p∈ks
  ·have:dl b p-moT ts p=dl f p:=hg p hp;omega
  ·rw[h.out hp,X8 (fun e:p=b=>hp (e▸hb)),X8 (fun e:p=f=>hp (e▸hf))];rfl
def ZA (es:Es):List Str:=es.flatMap fun e=>QJ e.2.toNat e.1
def tsE (es:Es):Ts:=(ZA es).map fun x=>(bg x,en x)
theorem Za8 (e:Str×Int) (es:Es):ZA (e::es)=QJ e.2.toNat e.1++ZA es:=by
 unfold ZA;rw[Ui]
theorem ZfP (es:Es) (e:Str×Int):ZA (es++[e])=ZA es++QJ e.2.toNat e.1:=by
 unfold ZA;rw[U4];simp
theorem Zay (hp:∀ e∈es,1<=e.2) (x:Str):x∈ZA es↔∃ e∈es,e.1=x:=by
 unfold ZA;rw[UV];constructor
 ·rintro⟨e,he,h⟩;exact⟨e,he,(Wi.mp h).2.symm⟩
 ·rintro⟨e,he,h⟩;have:=hp e he;exact⟨e,he,Wi.mpr ⟨by omega,h.symm⟩⟩
theorem Zdt (es:Es):(tsE es).length=(ZA es).length:=by unfold tsE;rw[Qc]
theorem Zlo (h:i<(ZA es).length):frm (tsE es) i=bg ((ZA es).getD i ""):=by
 unfold frm tsE;rw[Qb,Qg,Qa h,Qb,Qa h];rfl
theorem ZlJ (h:i<(ZA es).length):tow (tsE es) i=en ((ZA es).getD i ""):=by
 unfold tow tsE;rw[Qb,Qg,Qa h,Qb,Qa h];rfl
theorem Zjy {l:List Str} (h:i<l.length):l.getD i ""∈l:=by
 rw[Qb,Qa h];exact QB h
theorem Ze6 {l:List Str} {x:Str} (h:x∈l):∃ i,i<l.length/\l.getD i "" = x:=by
 obtain⟨i,hi,e⟩:=WZ h;refine⟨i,hi,?_⟩;rw[Qb,Qa hi];exact e
theorem Zb0 (ts:Ts) (p:Str):∀ n,n<=ts.length->bal ts (Qq n) p=((ts.take n).map fun t=>dl t.1 p-dl t.2 p).sum
 | 0,_=>by simp[ZaD]
 | n+1,h=>by
  rw[Wb,Xw,Zb0 ts p n (by omega),Ya,ZaD,QR (by omega),Qz,Ue];unfold frm tow;rw[Qb,Qa (by omega)];simp
theorem ZkF (n:Nat) (c:Int):(QJ n c).sum=n*c:=by
 induction n with
 | zero=>simp
 | succ n ih =>
  rw[Wf,Q8,ih,Int.natCast_add,Int.add_mul];omega
theorem Zle (h0:∀ e∈es,0<=e.2) (p:Str):moT (tsE es) p=mo es p:=by
 unfold moT;rw[Zb0 _ _ _ (Qk _),Wr];induction es with
 | nil=>rfl
 | cons e es ih =>
  have h1:=h0 e (Qj ..);unfold tsE;rw[Za8,Qz,Qz,Ue,RK,RK,ZkF,Zd4];have:=ih fun e he=>h0 e (Ql _ he);unfold tsE at this;rw[this];unfold mo1 dl ind;rw[Int.toNat_of_nonneg h1,Int.mul_sub]
theorem Zn0 (hp:∀ e∈es,1<=e.2) (P y:Str):ZiB (tsE es) P y↔Adj es P y:=by
 unfold ZiB Adj;constructor
 ·rintro⟨i,hi,q⟩;rw[Zdt]at hi;rw[Zlo hi,ZlJ hi]at q;obtain⟨e,he,h⟩:=(Zay hp _).mp (Zjy hi);rw[←h]at q;exact⟨e,he,q⟩
 ·rintro⟨e,he,q⟩;obtain⟨i,hi,h⟩:=Ze6 ((Zay hp e.1).mpr ⟨e,he,rfl⟩);refine⟨i,by rw[Zdt];exact hi,?_⟩;rw[Zlo hi,ZlJ hi,h];exact q
theorem Adj.symm {P y:Str} (h:Adj es P y):Adj es y P:=by
 obtain⟨e,he,q⟩:=h;exact⟨e,he,q.symm.imp (fun z=>⟨z.2,z.1⟩) fun z=>⟨z.2,z.1⟩⟩
theorem Rch.trans {a c:Str} (h:Rch es a b) (k:Rch es b c):Rch es a c:=by
 induction k with
 | here=>exact h
 | step _ j ih=>exact .step ih j
theorem Rch.symm {a:Str} (h:Rch es a b):Rch es b a:=by
 induction h with
 | here=>exact .here
 | step _ k ih=>exact Rch.trans (.step .here k.symm) ih
theorem Zgx (f:Str->Int):∀ ss:List Str,sm (ups f ss)=sumZ ss fun p=>Yk (f p)
 | []=>rfl
 | x::ss=>by
  rw[ZiF,ZZ,Zgx f ss];rfl
theorem Zea:∀ l:List Int,l≠[]->∃ M∈l,∀ x∈l,x<=M
 | [],h=>absurd rfl h
 | [x],_=>⟨x,by simp,fun y hy=>by rw[Qm.mp hy];exact UQ _⟩
 | x::y::l,_=>by
  obtain⟨M,h1,h2⟩:=Zea (y::l) (by simp);by_cases c:M<=x
  ·refine⟨x,by simp,fun z hz=>?_⟩;rcases Qy.mp hz with e | e
   ·rw[e];exact UQ _
   ·exact U0 (h2 z e) c
  ·refine⟨M,Ql _ h1,fun z hz=>?_⟩;rcases Qy.mp hz with e | e
   ·rw[e];omega
   ·exact h2 z e
def lst (x:Str):Nat:=x.cps.toList.getLastD 0
theorem Zfl {x:Str} (h:1<=x.length):x.cps.toList=(bg x).cps.toList++[lst x]:=by
 unfold bg lst;rw[Zs];rcases WE x.cps.toList with e | ⟨l,c,e⟩
 ·rw[←ZL,e]at h;simp at h
 ·rw[WF]at e;rw[e];simp
theorem Zih:∀ {es:Es},(es.map (·.1)).Nodup->(∀ e∈es,0<=e.2)->∀ e∈es,((ZA es).count e.1:Int)=e.2
 | [],_,_,e,he=>by cases he
 | d::es,nd,h0,e,he=>by
  rw[Qs]at nd;have nd':=Wj.mp nd;have hd:=h0 d (Qj ..);rw[Za8,RT,List.count_replicate];rcases Qy.mp he with z | z
  ·subst z;have:(ZA es).count e.1=0:=by
    rw[List.count_eq_zero];intro q;unfold ZA at q;obtain⟨e',he',h⟩:=UV.mp q;exact nd'.1 (Qi.mpr ⟨e',he',(Wi.mp h).2.symm⟩)
   rw[this,if_pos (by simp)];omega
  ·have ne:¬ (d.1==e.1)=true:=fun q=>nd'.1 (Qi.mpr ⟨e,z,(by simpa using q:d.1=e.1).symm⟩);rw[if_neg ne];have:=Zih nd'.2 (fun e he=>h0 e (Ql _ he)) e z;omega
end Sh
namespace L2
open PySem PySem.Spec PyProof.Rows PySem.W
def ZlE (hi:Int) (n:Nat):It:=⟨fun i _=>i<n,fun i H x H'=>H'=H/\x= .int (hi-i),fun i _=>n<=i⟩
theorem Zds {P:Program} {w:World} {K:PySem.W.Frag} {tg:Expr} (it:Addr) (hi:Int) (n:Nat):Zku P w K tg (ZlE hi n) [it] it (fun i h=>IsRangeIter h it (hi+(i:Nat)*(-1)) ((n:Int)-(i:Nat)) (-1)) where
 mem:=by simp
 obj:=fun i h st b hb=>by
  have e:b=it:=by simpa using hb
  subst e;exact⟨_,st,fun v z=>by
   have z':Data.fields _=Data.cell v:=z;cases z'⟩
 keep:=fun i h h' st k=>k it (by simp) _ st
 item:=by
  intro X hP hw hK hc i pins s σ H E I hf st hg;subst hP hw hK;obtain⟨f0,f1,f2,f3,f4,f5⟩:=hf it (by simp);have W:=Walks.range (prog:=X.prog) (w:=X.w) (I.ok.hd hc) it hi (-1) n;refine W.item i s _ _ hg st fun v h' tk hv st' kk=>?_;obtain⟨t,rfl⟩:=hv;have I1:Inv X pins σ H {s with heap:=h',toks:=tk}:=I.turned (fun b o hb e=>kk b o (by simpa using hb) e) f0 f1 f3 f4 f5;refine⟨_,rfl,Zh0 (s:={s with heap:=h',toks:=tk}) (n:="range_iterator") st' rfl rfl (by decide) ⟨.int (hi-i),H,I1,⟨t,?_⟩,⟨rfl,rfl⟩,st',fun b hb=>(hf b hb).1⟩⟩;rw[show hi+(i:Int)*(-1)=hi-i by omega]
 done:=by
  intro X hP hw hK hc i pins s σ H E I hf st hg;subst hP hw hK;obtain⟨f0,f1,f2,f3,f4,f5⟩:=hf it (by simp);exact wpAny_pyNext_range_end (I.ok.hd hc) st (by have:n<=i:=hg;omega) fun h' eb=>⟨rfl,I.turned (t':=s.toks) (fun b o hb e=>eb b o hb e) f0 f1 f3 f4 f5⟩
 self:=fun _ _ _ _ _ st h=>wpAny_pyIter_rangeiter st h
section
variable {X:Cx} {tg:Expr}
theorem ZgZ {pins:List (Addr×Obj)} {σ:St} {H:Hp} {s:Shared} {R:It->Hp->Prop} {E:Value->Shared->Prop} {lo hi:Int} {t u v:Tok} {tk:Nat} (I:Inv X pins σ H s) (h1 : -(2 ^ 62)<=lo) (h2:lo<2 ^ 62) (h3 : -(2 ^ 62)<=hi) (h4:hi<2 ^ 62)
  (q:R (ZlE lo (lo-hi).toNat) H):wpAny (model X.prog X.w) X.A (pyIter (.ref s.heap.objs.size)) (PIE X pins σ tg R) E {s with heap:=s.heap.push {cls:=.type "range",data:=.fields #[.int lo t,.int hi u,.int (-1) v]},toks:=tk}:=by
 refine wpAny_pyIter_range (IsRange.new ..) (small_down h1 h2 h3 h4) ?_;have I1:Inv X pins σ H {s with heap:=s.heap.push {cls:=.type "range",data:=.fields #[.int lo t,.int hi u,.int (-1) v]},toks:=tk}:=I.kept fun b o e=>Qh _ e;refine⟨(s.heap.push {cls:=.type "range",data:=.fields #[.int lo t,.int hi u,.int (-1) v]}).objs.size,[(s.heap.push {cls:=.type "range",data:=.fields #[.int lo t,.int hi u,.int (-1) v]}).objs.size],_,_,H,rfl,
  I1.kept (t':=tk) fun b o e=>Qh _ e,Zds _ lo (lo-hi).toNat,?_,fun b hb=>?_,q⟩
 ·have e1:lo+((0:Nat):Int)*(-1)=lo:=by simp
  have e2:(((lo-hi).toNat:Nat):Int)-((0:Nat):Int)=Builtin.Range.rangeSize lo hi (-1):=by rw[rangeSize_downNat];omega
  show IsRangeIter _ _ (lo+((0:Nat):Int)*(-1)) ((((lo-hi).toNat:Nat):Int)-((0:Nat):Int)) (-1);rw[e1,e2];exact Qx _ rfl
 ·have e:b=(s.heap.push {cls:=.type "range",data:=.fields #[.int lo t,.int hi u,.int (-1) v]}).objs.size:=by simpa using hb
  subst e;exact I1.fpOk (Qk _) (I1.hok.fresh (Qk _))
def ZnK (ta:TA):TI:=fun σ H R=>ta σ H fun vs H1=>∃ i j:Int,vs=[.int i,.int j,.int (-1)]/\(-(2 ^ 62)<=i/\i<2 ^ 62/\-(2 ^ 62)<=j/\j<2 ^ 62)/\R (ZlE i (i-j).toNat) H1
theorem Zg9 {a:Expr} {rs:List Expr} {ta:TA} {p pos:Pos} (hg:Gl X "range") (hm:X.mg "range" = none) (ha:PA X (a::rs) ta) (hs:starEach (a::rs) X.env=(false,eval a X.env)::starEach rs X.env:=by rfl) (hpl:(backTo pos (starEach rs X.env)).any (·.1)=false:=by rfl):PI X tg (.Call (.Name "range" p) (a::rs) [] pos) (ZnK ta):=by
 intro pins s σ H R I h;refine Call_ (JG I hg hm boot_range (PyProof.Rows.callWith_type1 (thn (ha pos pins s σ H _ I h) fun us s1 ⟨vs,H1,I1,r1,q1⟩=>?_) hs hpl));obtain⟨i,j,e,⟨q1,q2,q3,q4⟩,q⟩:=q1;subst e;cases r1 with
 | cons r rr =>
  cases rr with
  | cons r' rr =>
   cases rr with
   | cons r'' rr =>
    cases rr;obtain⟨t,rfl⟩:=r;obtain⟨t',rfl⟩:=r';obtain⟨t'',rfl⟩:=r'';exact call_range_3 (by decide) (ZgZ I1 q1 q2 q3 q4 q) (.inl (PyProof.noPylong_of_log2 (by decide +kernel)))
theorem ZfN {lo:Int} {n:Nat} {g:TG} {tb:TS} {D:Zdo} {σ:St} {H:Hp} (Pv:Nat->St->Hp->Prop) (h0:Pv 0 σ H)
  (hs:∀ i σ H,i<n->Pv i σ H->g (.int (lo-i)) σ H fun σ2 H2=>tb {D with nx:=Pv (i+1),ct:=Pv (i+1),bk:=D.nx} σ2 H2) (hd:∀ σ H,Pv n σ H->D.nx σ H) :
  ∃ W:Nat->Nat->St->Hp->Prop,(∃ m,W 0 m σ H)/\∀ i m σ H,W i m σ H ->
   ((ZlE lo n).stop i H/\D.nx σ H)\/((ZlE lo n).go i H/\∃ N:St->Hp->Prop,(∀ σ' H',N σ' H'->∃ m',m'<m/\W (i+1) m' σ' H')/\∀ x H',(ZlE lo n).yld i H x H'->g x σ H' fun σ2 H2=>tb {D with nx:=N,ct:=N,bk:=D.nx} σ2 H2):=by
 refine⟨fun i m σ H=>m=n-i/\i<=n/\Pv i σ H,⟨n,by simp,QV _,h0⟩,?_⟩;rintro i m σ H ⟨rfl,hi,p⟩;by_cases hlt:i<n
 ·refine .inr ⟨hlt,Pv (i+1),fun σ' H' p'=>⟨n-(i+1),by omega,rfl,hlt,p'⟩,fun x H' y=>?_⟩;obtain⟨e,y⟩:=y;subst e y;exact hs i σ _ hlt p
 ·have e:i=n:=by omega
  subst e;exact .inl ⟨Qk _,hd σ H p⟩
theorem Vals.rev {xs:List V} {us:List Value} (r:Vals xs us):Vals xs.reverse us.reverse:=by
 induction r with
 | nil=>exact .nil
 | cons h t ih =>
  rw[Rb,Rb];exact Vals.append ih (.cons h .nil)
def Zoo (K:PySem.W.Frag) (te ts:TE):TE:=fun σ H Q=>te σ H fun x H1=>ts σ H1 fun y H2=>∃ a xs,x= .ref a/\SqL K H2 a xs/\y= .int (-1)/\∀ p,H2 p=none->Q (.ref p) (upd H2 p (.lst xs.reverse))
theorem Zmh {e st:Expr} {te ts:TE} {p2 pos:Pos} (he:PE X e te) (hs:PE X st ts):PE X (.Subscript e (.Slice none none (some st) p2) pos) (Zoo X.K te ts):=by
 intro pins s σ H Q I h;refine Subscript_ (thn (he pins s σ H _ I h) fun v s1 ⟨x,H1,I1,r1,q1⟩=>?_);refine wpAny_Slice ?_;rw[evalPart_none];refine wpAny_pure (wpAny_pure ?_);rw[evalPart_some];refine thn (hs pins s1 σ H1 _ I1 q1) fun vs s3 ⟨y,H3,I3,ry,q3⟩=>?_;obtain⟨a,xs,rfl,hx,rfl,q⟩:=q3;obtain⟨t,rfl⟩:=ry;cases r1;have I4:Inv X pins σ H3 {s3 with heap:=s3.heap.push {cls:=.type "slice",data:=.fields #[.none,.none,.int (-1) t]}}:=I3.kept (t':=s3.toks) fun b ob q=>Qh _ q;obtain⟨its,r,ht,hz⟩:=I4.list hx;have hlen:=r.length;refine tail_any (ops:=[.ref a,.ref s3.heap.objs.size]) ht.isList.typeIs slot_list_getitem.lookup ?_ (by with_unfolding_all rfl);refine wpAny_getItem_list_slice ht.isList (Heap.IsSliceOf.new ..) .none .none (.int (-1) t) (by decide) ?_ (by rw[Qw] <;> omega);rw[krv_pick];have hv:=r.rev;refine⟨.ref _,_,I4.laid (t':=s3.toks) (o:=.lst xs.reverse) (fun b ob q=>Qh _ q) (Qk _) ?_,rfl,q _ (I4.hok.fresh (Qk _))⟩;exact⟨by rw[QW];omega,_,0,hv,Qx _ rfl⟩
end
end L2
namespace Tim
open PySem PySem.W PyProof.Rows
section
variable {prog:Program} {w:World} {A:Around} {E:Value->Shared->Prop} {s:Shared}
end
end Tim
namespace L2
open PySem PySem.Spec PyProof.Rows PySem.W
open PySem PySem.Spec PyProof.Rows
variable {H:Hp} {a:Addr} {ys:List V}
def SeqAt' (H:Hp) (a:Addr) (ys:List V):Prop:=H a=some (.lst ys)\/H a=some (.tup ys)
theorem SeqAt'.same {H':Hp} (s:Same H H') (h:SeqAt' H a ys):SeqAt' H' a ys:=h.imp (s _ _) (s _ _)
theorem ZhM {K:PySem.W.Frag} (h:SeqAt' H a ys):ZlC K (.ref a) H ys.length:=h.elim (fun h=>.inl ⟨_,SqL.of h,rfl⟩) fun h=>.inr ⟨_,SqT.of h,rfl⟩
theorem Zas {X:Cx} (K:PySem.W.Frag) (h:X.K=K:=by rfl):IxR X (rIx K):=by subst h;exact ZmQ
theorem Zch {K:PySem.W.Frag} {i:Int} {v:V} {Q:VK} (h:SeqAt' H a ys) (e:atI ys i=some v) (q:Q v H):rIx K (.ref a) (.int i) H Q :=
 h.elim (fun h=>.inl ⟨a,ys,i,v,rfl,rfl,SqL.of h,e,q⟩) fun h=>.inr (.inl ⟨a,ys,i,v,rfl,rfl,SqT.of h,e,q⟩)
end L2
namespace Sh
variable {P:Program} {w:World} {K:PySem.W.Frag} {mg:Str->Option Value} {base:Heap}
variable {L:Nat} {z:List Nat}
def seg (z:List Nat) (a b:Nat):List Nat:=(z.drop a).take (b-a)
def pt (z:List Nat) (L p:Nat):List Nat:=seg z p (p+L-1)
def stt (z:List Nat) (L a b:Nat):List Nat:=seg z (a+L-1) (b+L-1)
def win (L:Nat) (z:List Nat):List (List Nat):=(Qq (z.length+1-L)).map fun i=>(z.drop i).take L
theorem Zl3 {a b:Nat} (h:a<=b) (hb:b<=z.length):(seg z a b).length=b-a:=by
 unfold seg;rw[QP,WK];omega
theorem ZdG {a b c:Nat} (h1:a<=b) (h2:b<=c):seg z a b++seg z b c=seg z a c:=by
 unfold seg;have e:z.drop b=(z.drop a).drop (b-a):=by rw[R8];congr 1;omega
 have e2:c-a=(b-a)+(c-b):=by omega
 rw[e,e2,List.take_add]
theorem ZgB (z:List Nat):seg z 0 z.length=z:=by
 unfold seg;simp
theorem Zbe {a:Nat} {y:List Nat} (h1:1<=L) (h:L<=y.length+1):win L (a::y)=(a::y).take L::win L y:=by
 unfold win;have e:(a::y).length+1-L=(y.length+1-L)+1:=by rw[QG];omega
 rw[e,Rr,Qs,QA];rfl
theorem Zf4 (h:z.length<L):win L z=[]:=by
 unfold win;have:z.length+1-L=0:=by omega
 rw[this];rfl
theorem Zem {L:Nat} (h1:1<=L) {q:List Nat} (hq:q.length=L-1) (y:List Nat):∀ x:List Nat,win L (x++q++y)=win L (x++q)++win L (q++y)
 | []=>by rw[Uv,Zf4 (z:=q) (by omega),Uv]
 | a::x=>by
  rw[UW,UW,Zbe h1 (by simp;omega),Zbe h1 (by simp;omega),Zem h1 hq y x,UW];congr 1;rw[←UW,List.take_append_of_le_length (by simp;omega)]
theorem ZaR (h1:1<=L) {u x q:List Nat} (y:List Nat) (hu:u=x++q) (hq:q.length=L-1):win L (u++y)=win L u++win L (q++y):=by
 subst hu;exact Zem h1 hq y x
structure Fit (z:List Nat) (L:Nat):Prop where
 one:1<=L
 le:L<=z.length
section
variable {z:List Nat} {L:Nat}
theorem Zcp (h:Fit z L) {p:Nat} (hp:p<=z.length-L+1):(pt z L p).length=L-1:=by
 have:=h.one;have:=h.le;unfold pt;rw[Zl3 (by omega) (by omega)];omega
theorem YO (h:Fit z L) {a b:Nat} (hab:a<=b):pt z L a++stt z L a b=seg z a (b+L-1):=by
 have:=h.one;exact ZdG (by omega) (by omega)
theorem ZaT (h:Fit z L) {a b:Nat} (hab:a<=b):seg z a b++pt z L b=seg z a (b+L-1):=by
 have:=h.one;exact ZdG hab (by omega)
def ZaJ (z:List Nat) (L p0 p1 p2 p3:Nat):List Nat:=pt z L 0++(stt z L 0 p0++(stt z L p2 p3++(stt z L p1 p2++(stt z L p0 p1++stt z L p3 (z.length-L+1)))))
def ZaI (z:List Nat) (L p:Nat):List Nat:=pt z L p++stt z L p (z.length-L+1)++stt z L 0 p
theorem JY (h:Fit z L) {p:Nat} (hp:p<=z.length-L+1) {a:Nat} (ha:a<=p) {b:Nat} (hb:p<=b):win L (seg z a (b+L-1))=win L (seg z a (p+L-1))++win L (seg z p (b+L-1)):=by
 have:=h.one;have e:seg z a (p+L-1)++stt z L p b=seg z a (b+L-1):=ZdG (by omega) (by omega);rw[←e,ZaR h.one (stt z L p b) (x:=seg z a p) (q:=pt z L p) (ZaT h ha).symm (Zcp h hp),YO h hb]
theorem Zgg (h:Fit z L) {p0 p1 p2 p3:Nat} (h01:p0<=p1) (h12:p1<=p2) (h23:p2<=p3) (h3:p3<=z.length-L+1) (e02:pt z L p0=pt z L p2) (e13:pt z L p1=pt z L p3):(win L (ZaJ z L p0 p1 p2 p3)).Perm (win L z):=by
 have o:=h.one;have l:=h.le;have hN:z.length-L+1+L-1=z.length:=by omega
 -- the old text
 have w1:win L z=win L (seg z 0 (p0+L-1))++(win L (seg z p0 (p1+L-1))++(win L (seg z p1 (p2+L-1))++(win L (seg z p2 (p3+L-1))++win L (seg z p3 (z.length-L+1+L-1))))):=by
  rw[←JY h (p:=p3) (by omega) h23 (by omega),←JY h (p:=p2) (by omega) h12 (by omega),←JY h (p:=p1) (by omega) h01 (by omega),←JY h (p:=p0) (by omega) (by omega) (by omega),hN,ZgB]
 -- the new one
 have u0:pt z L 0++stt z L 0 p0=seg z 0 p0++pt z L p0:=by rw[YO h (by omega),ZaT h (by omega)]
 have u1:pt z L p2++stt z L p2 p3=seg z p2 p3++pt z L p3:=by rw[YO h h23,ZaT h h23]
 have u2:pt z L p1++stt z L p1 p2=seg z p1 p2++pt z L p2:=by rw[YO h h12,ZaT h h12]
 have u3:pt z L p0++stt z L p0 p1=seg z p0 p1++pt z L p1:=by rw[YO h h01,ZaT h h01]
 have w2:win L (ZaJ z L p0 p1 p2 p3)=win L (seg z 0 (p0+L-1))++(win L (seg z p2 (p3+L-1))++(win L (seg z p1 (p2+L-1))++(win L (seg z p0 (p1+L-1))++win L (seg z p3 (z.length-L+1+L-1))))):=by
  unfold ZaJ;have hp:=fun {p:Nat} (q:p<=z.length-L+1)=>Zcp h q;rw[←Q9,ZaR o _ u0 (hp (by omega)),e02,←Q9 (pt z L p2),ZaR o _ u1 (hp (by omega)),←e13,←Q9 (pt z L p1),ZaR o _ u2 (hp (by omega)),←e02,←Q9 (pt z L p0),ZaR o _ u3 (hp (by omega)),e13];have a0:=YO h (a:=0) (b:=p0) (by omega);have a1:pt z L p0++stt z L p2 p3=seg z p2 (p3+L-1):=by rw[e02,YO h h23]
  have a2:pt z L p3++stt z L p1 p2=seg z p1 (p2+L-1):=by rw[←e13,YO h h12]
  have a3:=YO h h01;have a4:=YO h h3;rw[a0,a1,a2,a3,a4]
 rw[w1,w2];refine List.Perm.append_left _ ?_;rw[←Q9,←Q9,←Q9,←Q9];refine List.Perm.append_right _ ?_;refine(Uf).trans ?_;rw[Q9];refine List.Perm.append_left _ ?_;exact Uf
theorem Zf9 (h:Fit z L) {p:Nat} (hp:p<=z.length-L+1) (e:pt z L 0=pt z L (z.length-L+1)):(win L (ZaI z L p)).Perm (win L z):=by
 have o:=h.one;have l:=h.le;have hN:z.length-L+1+L-1=z.length:=by omega
 have w1:win L z=win L (seg z 0 (p+L-1))++win L (seg z p (z.length-L+1+L-1)):=by
  rw[←JY h (p:=p) hp (by omega) hp,hN,ZgB]
 have w2:win L (ZaI z L p)=win L (seg z p (z.length-L+1+L-1))++win L (seg z 0 (p+L-1)):=by
  unfold ZaI;rw[ZaR o _ (x:=seg z p (z.length-L+1)) (q:=pt z L (z.length-L+1)) (by rw[YO h hp,ZaT h hp]) (Zcp h (by omega)),←e,YO h hp,YO h (QV p)]
 rw[w1,w2];exact Uf
theorem XC (h:Fit z L) {a b:Nat} (hab:a<=b) (hb:b<=z.length-L+1):(stt z L a b).length=b-a:=by
 have:=h.one;have:=h.le;unfold stt;rw[Zl3 (by omega) (by omega)];omega
theorem Zez (h:Fit z L) {p0 p1 p2 p3:Nat} (h01:p0<=p1) (h12:p1<=p2) (h23:p2<=p3) (h3:p3<=z.length-L+1):(ZaJ z L p0 p1 p2 p3).length=z.length:=by
 have:=h.one;have:=h.le;unfold ZaJ;simp only[Qd];rw[Zcp h (by omega),XC h (by omega) (by omega),XC h h23 h3,XC h h12 (by omega),XC h h01 (by omega),XC h h3 (by omega)];omega
theorem Zes (h:Fit z L) {p:Nat} (hp:p<=z.length-L+1):(ZaI z L p).length=z.length:=by
 have:=h.one;have:=h.le;unfold ZaI;simp only[Qd];rw[Zcp h hp,XC h hp (by omega),XC h (by omega) hp];omega
end
open PySem L2 PyProof.Rows
def top (i:Nat):Stmt:=PySem.Challenge.pw_shredjoin_k62_behind_and_ahead.main.body.getD i (.Pass ⟨0,0,0,0⟩)
structure Blt (mg:Str->Option Value):Prop where
 isi:mg "isinstance" = none
 int:mg "int" = none
 bool:mg "bool" = none
 len:mg "len" = none
 range:mg "range" = none
 list:mg "list" = none
 tuple:mg "tuple" = none
 enum:mg "enumerate" = none
 sum:mg "sum" = none
 sorted:mg "sorted" = none
 set:mg "set" = none
 max:mg "max" = none
 min:mg "min" = none
 rev:mg "reversed" = none
 zip:mg "zip" = none
 str:mg "str" = none
 dict:mg "dict" = none
seal L2.PE L2.PS L2.PSs L2.PT L2.PW L2.PA L2.PI L2.PG L2.PGs L2.PO L2.PC L2.PCs L2.OpR L2.UnR L2.CallR L2.MtR L2.IxR L2.SlR
def Za4:V->Bool
 | .int _=>true
 | _=>false
theorem ZG (h:z.length<=1000):(tx z).length<=sizeLine:=by rw[Zn];exact YA (by omega)
theorem YB {a b:Nat} {i j:Int} (ei:i=a) (ej:j=b) (hab:a<=b) (hb:b<=z.length):Txt.slice (tx z) (some i) (some j)=tx (seg z a b):=by
 subst ei ej;apply Z9;rw[J1 (by omega) (by omega) (by rw[Zn];omega),Zs,Zs];unfold seg;congr 1;omega
def Zca:Sp:=fun vs H Q _=>∃ (z:List Nat) (L a b:Nat),vs=[.str (tx z),.int L,.int a,.int b]/\Fit z L/\z.length<=1000/\a<=b/\b<=z.length-L+1/\Q (.str (tx (stt z L a b))) H
def Zee (word:Str) (many:Nat) (xs:List V):Bool:=decide (xs.length=many+1)&&decide (xs.headD .non= .str word)&&(xs.drop 1).all Za4
def JK (word:Str) (many:Nat):Option (List V)->Bool
 | none=>false
 | some xs=>Zee word many xs
def ascB (l:List Int):Bool:=(Qq (l.length-1)).all fun i=>decide (l.getD i 0<=l.getD (i+1) 0)
def Xa (z:List Nat) (L:Nat) (ns:List Int):List Int:=0::ns++[((z.length-L+1:Nat):Int)]
theorem Zic {a b:List Nat}:decide (V.str (tx a)=V.str (tx b))=decide (a=b):=by
 rw[WX,decide_eq_true_eq,decide_eq_true_eq];exact⟨fun e=>Zeq (by injection e),fun e=>by rw[e]⟩
def nAt (ns:List Int) (i:Nat):Nat:=(ns.getD i 0).toNat
def fitsB (z:List Nat) (L:Nat) (ns:List Int):Bool:=ascB (Xa z L ns)&&(decide (pt z L (nAt ns 0)=pt z L (nAt ns 2))&&decide (pt z L (nAt ns 1)=pt z L (nAt ns 3)))
theorem ZoJ {ns:List Int} (hl:ns.length=4) (h:ascB (Xa z L ns)=true):∃ p0 p1 p2 p3:Nat,ns=[(p0:Int),p1,p2,p3]/\p0<=p1/\p1<=p2/\p2<=p3/\p3<=z.length-L+1:=by
 match ns,hl with
 | [a,b,c,d],_ =>
  simp[ascB,Xa,Wb]at h;refine⟨a.toNat,b.toNat,c.toNat,d.toNat,?_,by omega,by omega,by omega,by omega⟩;have e1:(a.toNat:Int)=a:=by omega
  have e2:(b.toNat:Int)=b:=by omega
  have e3:(c.toNat:Int)=c:=by omega
  have e4:(d.toNat:Int)=d:=by omega
  rw[e1,e2,e3,e4]
theorem ZoK {ns:List Int} (hl:ns.length=1) (h:ascB (Xa z L ns)=true):∃ p:Nat,ns=[(p:Int)]/\p<=z.length-L+1:=by
 match ns,hl with
 | [a],_ =>
  simp[ascB,Xa,Wb]at h;exact⟨a.toNat,by rw[show(a.toNat:Int)=a by omega],by omega⟩
theorem ZiH:(2:Nat)<=sizeLine:=by rw[sizeLine_eq];decide
theorem Zh4:(4:Nat)<=sizeLine:=by rw[sizeLine_eq];decide
end Sh
namespace L2
theorem Jo {c:TT} {t1 t2 u:TS} {D:Zdo} {σ:L2.St} {H:Hp} (I:L2.St->Hp->Prop) (h:∀ R:L2.St->Hp->Prop,(∀ σ' H',I σ' H'->R σ' H')->Zgf c t1 t2 {D with nx:=R} σ H) (hu:∀ σ' H',I σ' H'->u D σ' H'):Zdm (Zgf c t1 t2) u D σ H:=h _ hu
end L2
namespace Sh
open PySem L2 PyProof.Rows
seal L2.PE L2.PS L2.PSs L2.PT L2.PW L2.PA L2.PI L2.PG L2.PGs L2.PO L2.PC L2.PCs L2.OpR L2.UnR L2.CallR L2.MtR L2.IxR L2.SlR
variable {P:Program} {w:World} {K:PySem.W.Frag} {mg:Str->Option Value} {base:Heap}
variable {L:Nat} {z:List Nat}
def ZfL:V->Int
 | .int i=>i
 | _=>0
def nsOf (o:Option (List V)):List Int:=((o.getD []).drop 1).map ZfL
def X7 (z:List Nat) (L:Nat) (o:Option (List V)):Option (List Nat) :=
 if JK "swap" 4 o=true/\fitsB z L (nsOf o)=true then some (ZaJ z L (nAt (nsOf o) 0) (nAt (nsOf o) 1) (nAt (nsOf o) 2) (nAt (nsOf o) 3))
 else if JK "turn" 1 o=true/\ascB (Xa z L (nsOf o))=true/\pt z L 0=pt z L (z.length-L+1)then some (ZaI z L (nAt (nsOf o) 0))else none
theorem ZcQ:∀ ys:List V,ys.all Za4=true->ys=(ys.map ZfL).map V.int
 | [],_=>rfl
 | y::ys,h=>by
  rw[RF,QQ]at h;rw[Qs,Qs,←ZcQ ys h.2];congr 1;cases y with
  | int i=>rfl
  | _=>simp[Za4]at h
theorem Zc4 {word:Str} {many:Nat} {o:Option (List V)} (h:JK word many o=true):o=some (.str word::(nsOf o).map V.int)/\(nsOf o).length=many:=by
 cases o with
 | none=>simp[JK]at h
 | some xs =>
  have h':Zee word many xs=true:=h;unfold Zee at h';rw[QQ,QQ,decide_eq_true_eq,decide_eq_true_eq]at h';obtain⟨⟨h1,h2⟩,h3⟩:=h';cases xs with
  | nil=>simp at h1
  | cons y ys =>
   have h2':y= .str word:=h2;subst h2';have h3':ys.all Za4=true:=h3;refine⟨?_,?_⟩
   ·show some (V.str word::ys)=some (V.str word::(ys.map ZfL).map V.int);rw[←ZcQ ys h3']
   ·show(ys.map ZfL).length=many;rw[Qc];simpa using h1
section
variable {P:Program} {w:World} {K:PySem.W.Frag} {mg:Str->Option Value} {base:Heap} {S C A1 A2 A3 A4 A5 A6 A7 A8:Addr}
abbrev ZgM:Stmt:=top 48
abbrev Zmw:List Str:=["_law_cells","_law_seed_here","_law_cell"]
theorem scLSeed:Zp Zmw ["_law_cells"] (Zg ZgM):=⟨rfl,rfl,rfl,by decide +kernel,rfl,by decide +kernel,by decide +kernel⟩
def ZjS (K:PySem.W.Frag):Sp:=fun vs H Q _=>∃ (a:Addr) (ns:List Int),vs=[.ref a]/\SqL K H a (ns.map V.int)/\ns.length<=63/\∀ sd:Int,0<=sd->sd<999999937->Q (.int sd) H
theorem Zhr (D:HasDef K mg "_law_seed" ZgM ["_law_cells"]) (B:Blt mg):FOk P w K mg base 1 "_law_seed" ["_law_cells"] (ZjS K):=by
 refine D.ok scLSeed (fun vs H Q E h=>?_) (fun f cdv A outer s H vs Q E hr h=>?_)
 ·obtain⟨a,ns,rfl,_⟩:=h;rfl
 ·obtain⟨a,ns,rfl,ha,hl,k⟩:=h;refine⟨_,(Ze (Zm (i:=1) scLSeed.nd rfl (.inl rfl) (Zk ZU Zf (Zj Zr rfl B.len ZX (Za (pv 0) Zc))))
   (Ze (Yi PassesOwn.never rfl (Ym (pv 0)) (ZI (i:=2) scLSeed.nd rfl (.inl rfl))
    (Zi (Zm (i:=1) scLSeed.nd rfl (.inl rfl) (Zk ZR (Zk ZU (Zk Zct (pv 1) Zf) (pv 2)) Zf))))
   (Zi (Zq (pv 1))))),?_⟩
  refine⟨_,rfl,.ref a,ns.length,rfl,(.inl ⟨_,ha,by rw[Qc]⟩),_,_,rfl,rfl,?_⟩;refine⟨_,rfl,a,rfl,⟨_,ha⟩,X4 (K:=K) (a:=a) (xs:=ns.map V.int) (fun i σ H2=>(∃ (z:Option V) (sd:Int),σ=[some (.ref a),some (.int sd),z]/\0<=sd/\sd<999999937)/\H2=H)
   ⟨⟨none,_,rfl,by omega,by omega⟩,rfl⟩ (fun i σ H2 _ ⟨_,e⟩=>by rw[e];exact ha) ?_ ?_⟩
  ·rintro i x σ H2 hi ⟨⟨z,sd,rfl,b1,b2⟩,rfl⟩;obtain⟨hi',rfl⟩:=Zb9 hi;have bd:=ZW (sd*613+ns[i]) (show(0:Int)<999999937 by decide);refine⟨_,rfl,_,_,rfl,rfl,.inr ⟨by decide,by decide⟩,_,rfl,_,_,rfl,rfl,_,_,rfl,rfl,(by show(0:Int)<999999937;decide),?_⟩;exact⟨⟨some (.int ns[i]),_,rfl,bd.1,bd.2⟩,rfl⟩
  rintro σ H2 ⟨⟨z,sd,rfl,b1,b2⟩,rfl⟩;exact⟨_,rfl,k sd b1 b2⟩
abbrev XS:Stmt:=top 49
abbrev ZcI:List Str:=["_law_cell","_law_some","_law_step"]
theorem scLLetters:Zp ZcI ["_law_cell"] (Zg XS):=⟨rfl,rfl,rfl,by decide +kernel,rfl,by decide +kernel,by decide +kernel⟩
def Cd (z:List Nat):Prop:=∀ c∈z,c<1000
def Zcc:Sp:=fun vs H Q _=>∃ cell:Int,vs=[.int cell]/\0<=cell/\cell<2147483647/\∀ (l:List Nat) H',Same H H'->2<=l.length->l.length<=4->Cd l->Q (.str (tx l)) H'
theorem Zcz (D:HasDef K mg "_law_letters" XS ["_law_cell"]) (B:Blt mg):FOk P w K mg base 1 "_law_letters" ["_law_cell"] Zcc:=by
 refine D.ok scLLetters (fun vs H Q E h=>?_) (fun f cdv A outer s H vs Q E hr h=>?_)
 ·obtain⟨cell,rfl,_⟩:=h;rfl
 ·obtain⟨cell,rfl,c0,c1,k⟩:=h;refine⟨_,(Ze (Zm (i:=1) scLLetters.nd rfl (.inr rfl) ZY)
   (Ze (Zm (i:=2) scLLetters.nd rfl (.inr rfl) (Zk ZU Zf (Zk ZR (Zk ZV (pv 0) Zf) Zf)))
   (Zi (Zq (Xf F.plainAttrs_str F.slot_str_join F.type_str_join Zam ZY (Za (ZK (Zg XS) ZcI ["_law_k"] [0,1,2] rfl (Ys rfl B.range (Za (ZB ix_list (ZT (Za Zf (Za Zf (Za Zf (Za Zf Zc))))) (Zk ZR (pv 0) Zf) (fun _ _=>rfl)) Zc)) (fun _ _ _ _ _=>Z6 0) (fun _ _ _ _ _=>Yd) (fun _ _ _ _ _=>(ZB JH (pv 2) (Zk ZR (Zk ZU (Zk ZV (pv 1) Zf) (Zk Zct (pv 0) (pv 3))) Zf) (fun _ _=>rfl)))) Zc)))))),?_⟩
  have m4:=ZW cell (show(0:Int)<4 by decide);have m8:=ZW (cell / 104) (show(0:Int)<8 by decide);have hm:∀ j:Nat,j<4->2<=([2,2,3,4]:List Int).getD j 0/\([2,2,3,4]:List Int).getD j 0<=4:=by decide
  have hm4:=hm (cell % 4).toNat (by omega);refine⟨_,rfl,_,_,rfl,rfl,⟨by decide,by decide⟩,_,_,rfl,rfl,(by show(0:Int)<8;decide),_,_,rfl,rfl,?_⟩;refine⟨rfl,Zh4,fun p hp=>⟨_,rfl,_,_,rfl,rfl,(by show(0:Int)<4;decide),p,_,_,_,rfl,rfl,SqL.of Zd,Zd7 (ns:=[2,2,3,4]) m4.1 m4.2,_,rfl,by omega,by omega,?_⟩⟩;have s0:=Zb (o:=.lst [.int 2,.int 2,.int 3,.int 4]) hp;generalize hN:(([2,2,3,4]:List Int).getD (cell % 4).toNat 0)=N at hm4;refine YD N.toNat (fun i=>.int (0+(i:Int))) (fun i v _=>∃ c:Nat,v= .str (tx [c])/\c<1000) (Zh (by omega)) (fun _ _ _ _ _ r=>r) ZbT ?_ ?_
  ·intro i H3 Qe hi hs kq;have mb:=ZW (cell / 4+(0+(i:Int))*(1+cell / 104 % 8)) (show(0:Int)<26 by decide);refine⟨_,rfl,_,rfl,_,_,rfl,rfl,⟨by decide,by decide⟩,_,rfl,_,rfl,_,_,rfl,rfl,.inl ⟨by omega,by omega⟩,_,_,rfl,rfl,_,_,rfl,rfl,(by show(0:Int)<26;decide),_,_,_,rfl,rfl,YA (by decide),ZhL mb.1 mb.2,kq _ _ (Same.refl _) ⟨_,rfl,by omega⟩⟩
  ·intro D1 vs1 H3 hl1 hr1 hs3 hD1 hDl1;have hcs:∃ cs:List Nat,vs1=(cs.map fun c=>tx [c]).map V.str/\cs.length=vs1.length/\Cd cs:=by
    have:∀ vs:List V,(∀ v∈vs,∃ c:Nat,v=V.str (tx [c])/\c<1000)->∃ cs:List Nat,vs=(cs.map fun c=>tx [c]).map V.str/\cs.length=vs.length/\Cd cs:=by
     intro vs;induction vs with
     | nil=>exact fun _=>⟨[],rfl,rfl,fun c hc=>by cases hc⟩
     | cons v vs ih =>
      intro h;obtain⟨cs,e,el,ed⟩:=ih fun u hu=>h u (by simp[hu]);obtain⟨c,ec,hc⟩:=h v (by simp);exact⟨c::cs,by rw[ec,e];rfl,by simp[el],fun x hx=>(Qy.mp hx).elim (fun q=>q▸hc) (ed x)⟩
    exact this vs1 fun v hv=>by
     obtain⟨i,hi,e⟩:=RC.mp hv;exact hr1 i v (by rw[←e];exact Qa hi)
   obtain⟨cs,ecs,elc,ecd⟩:=hcs;rw[ecs]at hDl1;refine⟨"",D1,cs.map fun c=>tx [c],rfl,rfl,SqL.of hDl1,?_,?_⟩
   ·have e0:("" : Str).length=0:=rfl;have es:((cs.map fun c=>tx [c]).map fun x=>x.length).sum<=(cs.map fun c=>tx [c]).length*1:=Ji _ 1 fun y hy=>by
     obtain⟨c,_,rfl⟩:=Qi.mp hy;rw[Zn];exact Qk _
    rw[e0,Ri];rw[Qc]at es;omega
   ·rw[Zar];exact k cs _ (s0.trans hs3) (by omega) (by omega) ecd
end
theorem Z5 {n:Int} (h:0<=n):Txt.slice (tx z) none (some n)=tx (z.take n.toNat):=by
 apply Z9;rw[ZaK h,Zs,Zs]
abbrev ZkS:Stmt:=top 51
abbrev ZnH:List Str:=["_law_signs","_law_seed_here"]
theorem Zl4:Zp ZnH ["_law_signs","_law_seed_here"] (Zg ZkS):=⟨rfl,rfl,rfl,by decide +kernel,rfl,by decide +kernel,by decide +kernel⟩
def Zl2:Sp:=fun vs H Q _=>∃ (z:List Nat) (sd:Int),vs=[.str (tx z),.int sd]/\1<=z.length/\z.length<=63/\0<=sd/\Cd z/\∀ z':List Nat,1<=z'.length->z'.length<=63->Cd z'->Q (.str (tx z')) H
theorem Zja (D:HasDef K mg "_law_cut" ZkS ["_law_signs","_law_seed_here"]) (B:Blt mg):FOk P w K mg base 1 "_law_cut" ["_law_signs","_law_seed_here"] Zl2:=by
 refine D.ok Zl4 (fun vs H Q E h=>?_) (fun f cdv A outer s H vs Q E hr h=>?_)
 ·obtain⟨z,sd,rfl,_⟩:=h;rfl
 ·obtain⟨z,sd,rfl,h1,h63,h0,hcd,k⟩:=h;refine⟨_,(Ze (Z2 (Zt YE (Zk ZR (Zk ZV (pv 1) Zf) Zf) Zf (Zy _)) (Zi (Zq (pv 0))) Zx)
   (Zi (Zq (ZC Z4 (pv 0) Z0 (ZE (Zk ZU Zf (Zk ZR (Zk ZV (pv 1) Zf) (Zj Zr rfl B.len ZX (Za (pv 0) Zc))))))))),?_⟩
  refine⟨_,rfl,_,_,rfl,rfl,⟨by decide,by decide⟩,_,_,rfl,rfl,(by show(0:Int)<2;decide),rfl,_,rfl,Ziz (fun e=>?_) (fun e=>?_)⟩
  ·exact⟨_,rfl,k z h1 h63 hcd⟩
  have ml:=ZW (sd / 29) (show(0:Int)<(z.length:Int)by omega);refine⟨_,rfl,_,rfl,_,_,rfl,rfl,⟨by decide,by decide⟩,_,rfl,.str (tx z),z.length,rfl,⟨ZG (by omega),(Zn z).symm⟩,_,_,rfl,rfl,(by show(0:Int)<(z.length:Int);omega),_,_,rfl,rfl,_,rfl,_,rfl,ZG (by omega),?_⟩;dsimp only;rw[Z5 (by omega)];refine k _ ?_ ?_ fun c hc=>hcd c (Wm hc)
  ·rw[QP];omega
  ·rw[QP];omega
abbrev JT:Stmt:=top 52
abbrev Ze1:List Str:=["_law_signs","_law_long"]
theorem ZgE:Zp Ze1 ["_law_signs","_law_long"] (Zg JT):=⟨rfl,rfl,rfl,by decide +kernel,rfl,by decide +kernel,by decide +kernel⟩
def Zdn (z:List Nat) (L:Nat):List V:=(Qq (z.length-L+2)).map fun i=>V.str (tx (pt z L i))
def ZlY:Sp:=fun vs H Q _=>∃ (z:List Nat) (L:Nat),vs=[.str (tx z),.int L]/\Fit z L/\z.length<=1000/\∀ p H',Same H H'->H' p=some (.lst (Zdn z L))->Q (.ref p) H'
theorem ZdW (D:HasDef K mg "_law_points" JT ["_law_signs","_law_long"]) (B:Blt mg):FOk P w K mg base 1 "_law_points" ["_law_signs","_law_long"] ZlY:=by
 refine D.ok ZgE (fun vs H Q E h=>?_) (fun f cdv A outer s H vs Q E hr h=>?_)
 ·obtain⟨z,L,rfl,_⟩:=h;rfl
 ·obtain⟨z,L,rfl,hF,hz,k⟩:=h;refine⟨_,(Zi (Zq (ZK (Zg JT) Ze1 ["_law_at"] [0,1] rfl (Ys rfl B.range (Za (Zk ZU (Zk Ye (Zj Zr rfl B.len ZX (Za (pv 0) Zc)) (pv 1)) Zf) Zc)) (fun _ _ _ _ _=>Z6 0) (fun _ _ _ _ _=>Yd) (fun _ _ _ _ _=>(ZC Z4 (pv 1) (ZE (pv 0)) (ZE (Zk Ye (Zk ZU (pv 0) (pv 2)) Zf))))))),?_⟩;have o:=hF.one;have l:=hF.le;refine⟨_,rfl,.str (tx z),z.length,rfl,⟨ZG hz,(Zn z).symm⟩,_,rfl,_,_,rfl,rfl,_,_,rfl,rfl,_,rfl,by omega,by omega,?_⟩;have en:((z.length:Int)-(L:Int)+2).toNat=z.length-L+2:=by omega
  rw[en];refine YD (z.length-L+2) (fun i=>.int (0+(i:Int))) (fun i v _=>v= .str (tx (pt z L i))) (YA (by omega)) (fun _ _ _ _ _ r=>r) ZbT ?_ ?_
  ·intro i H3 Qe hi hs kq;refine⟨_,rfl,_,rfl,_,rfl,_,rfl,_,rfl,_,_,rfl,rfl,_,_,rfl,rfl,_,rfl,_,rfl,ZG hz,kq _ _ (Same.refl _) ?_⟩;rw[YB (z:=z) (a:=i) (b:=i+L-1) (by omega) (by omega) (by omega) (by omega)];rfl
  ·intro D1 vs1 H3 hl1 hr1 hs3 hD1 hDl1;refine k D1 H3 hs3 ?_;rw[hDl1,ZiD hl1 hr1];rfl
abbrev ZgN:Stmt:=top 53
abbrev Zmx:List Str:=["_law_signs","_law_long","_law_one","_law_other"]
theorem ZkN:Zp Zmx ["_law_signs","_law_long","_law_one","_law_other"] (Zg ZgN):=⟨rfl,rfl,rfl,by decide +kernel,rfl,by decide +kernel,by decide +kernel⟩
theorem Zhs (D:HasDef K mg "_law_part" ZgN ["_law_signs","_law_long","_law_one","_law_other"]) (B:Blt mg):FOk P w K mg base 1 "_law_part" ["_law_signs","_law_long","_law_one","_law_other"] Zca:=by
 refine D.ok ZkN (fun vs H Q E h=>?_) (fun f cdv A outer s H vs Q E hr h=>?_)
 ·obtain⟨z,L,a,b,rfl,_⟩:=h;rfl
 ·obtain⟨z,L,a,b,rfl,hF,hz,hab,hb,k⟩:=h;refine⟨_,(Zi (Zq (ZC Z4 (pv 0) (ZE (Zk Ye (Zk ZU (pv 2) (pv 1)) Zf)) (ZE (Zk Ye (Zk ZU (pv 3) (pv 1)) Zf))))),?_⟩;refine⟨_,rfl,_,rfl,_,rfl,_,_,rfl,rfl,_,_,rfl,rfl,_,rfl,_,rfl,_,rfl,_,_,rfl,rfl,_,_,rfl,rfl,_,rfl,_,rfl,ZG hz,?_⟩;have:=hF.one;have:=hF.le;rw[YB (z:=z) (a:=a+L-1) (b:=b+L-1) (by omega) (by omega) (by omega) (by omega)];exact k
abbrev ZeJ:Stmt:=top 50
abbrev Zkd:List Str:=["_law_cells","_law_seed_here","_law_letters_here","_law_signs","_law_way"]
theorem scLText:Zp Zkd ["_law_cells","_law_seed_here"] (Zg ZeJ):=⟨rfl,rfl,rfl,by decide +kernel,rfl,by decide +kernel,by decide +kernel⟩
def ZjR (K:PySem.W.Frag):Sp:=fun vs H Q _=>∃ (a:Addr) (ns:List Int) (sd:Int),vs=[.ref a,.int sd]/\SqL K H a (ns.map V.int)/\ns.length<=63/\0<=sd/\sd<999999937/\∀ (z:List Nat) H',Same H H'->1<=z.length->z.length<=63->Cd z->Q (.str (tx z)) H'
theorem Zk3:∀ vs:List V,(∀ v∈vs,∃ c:Nat,v=V.str (tx [c])/\c<1000)->∃ cs:List Nat,vs=(cs.map fun c=>tx [c]).map V.str/\cs.length=vs.length/\Cd cs:=by
 intro vs;induction vs with
 | nil=>exact fun _=>⟨[],rfl,rfl,fun c hc=>by cases hc⟩
 | cons v vs ih =>
  intro h;obtain⟨cs,e,el,ed⟩:=ih fun u hu=>h u (by simp[hu]);obtain⟨c,ec,hc⟩:=h v (by simp);exact⟨c::cs,by rw[ec,e];rfl,by simp[el],fun x hx=>(Qy.mp hx).elim (fun q=>q▸hc) (ed x)⟩
theorem Zik {l:List Nat} (h:Cd l) (i:Nat):l.getD i 0<1000:=by
 rw[Qb];by_cases hi:i<l.length
 ·rw[Qa hi];exact h _ (QB hi)
 ·rw[Qo (by omega)];decide
theorem ZeX (cs:List Nat) (h:cs.length<=1000):(((cs.map fun c=>tx [c]).map fun x=>x.length).sum)+(cs.map fun c=>tx [c]).length*("" : Str).length<=16777216:=by
 have e0:("" : Str).length=0:=rfl;have es:((cs.map fun c=>tx [c]).map fun x=>x.length).sum<=(cs.map fun c=>tx [c]).length*1:=Ji _ 1 fun y hy=>by
  obtain⟨c,_,rfl⟩:=Qi.mp hy;rw[Zn];exact Qk _
 rw[e0,Ri];rw[Qc]at es;omega
theorem Zhq (D:HasDef K mg "_law_text" ZeJ ["_law_cells","_law_seed_here"]) (B:Blt mg) (g8_:FOk P w K mg base 1 "_law_letters" ["_law_cell"] Zcc):FOk P w K mg base 2 "_law_text" ["_law_cells","_law_seed_here"] (ZjR K):=by
 refine D.ok scLText (fun vs H Q E h=>?_) (fun f cdv A outer s H vs Q E hr h=>?_)
 ·obtain⟨a,ns,sd,rfl,_⟩:=h;rfl
 ·obtain⟨a,ns,sd,rfl,ha,hl,h0,h1,k⟩:=h;refine⟨_,(Ze (Zm (i:=2) scLText.nd rfl (.inr rfl) (Zv g8_ hr (Za (pv 1) Zc)))
   (Ze (Zm (i:=3) scLText.nd rfl (.inl rfl) (Xf F.plainAttrs_str F.slot_str_join F.type_str_join Zam ZY (Za (ZK (Zg ZeJ) Zkd ["_law_cell"] [2] rfl (Ym (pv 0)) (fun _ _ _ _ _=>Z6 0) (fun _ _ _ _ _=>Yd) (fun _ _ _ _ _=>(ZB JH (pv 1) (Zk ZR (pv 0) (Zj (Zda K) rfl B.len ZX (Za (pv 1) Zc))) (fun _ _=>rfl)))) Zc)))
   (Ze (Zm (i:=4) scLText.nd rfl (.inl rfl) (Zk ZR (Zk ZV (pv 1) Zf) Zf))
   (Ze (Z2 (Zt YE (pv 3) ZY (Zy _)) (Zi (Zm (i:=3) scLText.nd rfl (.inl rfl) (ZB JH (pv 2) Zf (fun _ _=>rfl)))) Zx)
   (Ze (Z2 (Zt YE (pv 4) Zf (Zy _)) (Zi (Zm (i:=3) scLText.nd rfl (.inl rfl) (ZC Z4 (Zk XH (ZC Z4 (pv 3) Z0 (ZE (Zk ZU Zf (Zk ZR (Zk ZV (pv 1) Zf) Zf)))) Zf) Z0 (ZE (Zk ZU Zf (Zk ZR (Zk ZV (pv 1) Zf) Zf)))))) Zx)
   (Ze (Z2 (Zt YE (pv 4) Zf (Zy _)) (Zi (Zm (i:=3) scLText.nd rfl (.inl rfl) (Zk ZD (ZC Z4 (pv 3) Z0 (ZE Zf)) (Xf F.plainAttrs_str F.slot_str_join F.type_str_join Zam ZY (Za (ZaX rfl rfl B.list rfl B.rev (ZC Z4 (pv 3) Z0 (ZE Zf))) Zc))))) Zx)
   (Ze (Z2 (Zt YE (pv 4) Zf (Zy _)) (Zi (Zm (i:=3) scLText.nd rfl (.inl rfl) (Zk ZD (ZC Z4 (pv 3) Z0 (ZE Zf)) (ZC Z4 (pv 3) Z0 (ZE (Zk ZU Zf (Zk ZR (Zk ZV (pv 1) Zf) Zf))))))) Zx)
   (Zi (Zq (pv 3)))))))))),?_⟩
  refine⟨_,rfl,sd,rfl,h0,by omega,fun l H1 s1 l2 l4 lcd=>?_⟩;have ha1:=s1.seq ha;refine⟨rfl,_,rfl,a,rfl,⟨_,ha1⟩,?_⟩;refine YD (ns.map V.int).length (fun i=>(ns.map V.int).getD i .non) (fun i v _=>∃ c:Nat,v= .str (tx [c])/\c<1000) (by rw[Qc];exact Zh (by omega)) (fun _ _ _ _ _ r=>r) (Xi ha1) ?_ ?_
  ·intro i H4 Qe hi hs kq;have hi':i<ns.length:=by rw[Qc]at hi;exact hi
   rw[Zaw hi'];have mb:=ZW ns[i] (show(0:Int)<(l.length:Int)by omega);exact⟨_,rfl,_,rfl,_,rfl,.str (tx l),l.length,rfl,⟨ZG (by omega),(Zn l).symm⟩,_,_,rfl,rfl,(by show(0:Int)<(l.length:Int);omega),_,_,_,rfl,rfl,ZG (by omega),Ziu mb.1 mb.2,kq _ _ (Same.refl _) ⟨_,rfl,Zik lcd _⟩⟩
  intro D1 vs1 H3 hl1 hr1 hs3 hD1 hDl1;obtain⟨cs,ecs,elc,ccd⟩:=Zk3 vs1 fun v hv=>by
   obtain⟨i,hi,e⟩:=RC.mp hv;exact hr1 i v (by rw[←e];exact Qa hi)
  rw[ecs]at hDl1;rw[Qc]at hl1;refine⟨"",D1,cs.map fun c=>tx [c],rfl,rfl,SqL.of hDl1,ZeX cs (by omega),?_⟩;rw[Zar];refine⟨_,rfl,_,_,rfl,rfl,⟨by decide,by decide⟩,_,_,rfl,rfl,(by show(0:Int)<6;decide),?_⟩;have s13:=s1.trans hs3;dsimp only[XL];show Zdm (Zgf _ _ _) _ _ _ _;refine Jo (fun σ H'=>∃ z:List Nat,σ=[some (.ref a),some (.int sd),some (.str (tx l)),some (.str (tx z)),some (.int (sd / 1009 % 6))]/\Same H H'/\1<=z.length/\z.length<=63/\Cd z) (fun R hR=>?_) ?_
  ·refine⟨_,rfl,rfl,_,rfl,Ziz (fun e=>?_) (fun e=>?_)⟩
   ·refine⟨_,rfl,_,_,_,rfl,rfl,ZG (by omega),Ziu (z:=l) (by decide) (by omega),?_⟩;exact hR _ _ ⟨[l.getD 0 0],rfl,s13,by simp,by simp,fun c hc=>by rw[Qm.mp hc];exact Zik lcd 0⟩
   ·refine hR _ _ ⟨cs,rfl,s13,?_,by omega,ccd⟩;cases cs with
    | nil=>exact absurd (decide_eq_true rfl) e
    | cons c r=>simp
  rintro σ H4 ⟨z,rfl,s4,z1,z63,zcd⟩;show Zdm (Zgf _ _ _) _ _ _ _;refine Jo (fun σ H'=>∃ z:List Nat,σ=[some (.ref a),some (.int sd),some (.str (tx l)),some (.str (tx z)),some (.int (sd / 1009 % 6))]/\Same H H'/\1<=z.length/\z.length<=63/\Cd z) (fun R hR=>?_) ?_
  ·refine⟨_,rfl,rfl,_,rfl,Ziz (fun e=>?_) (fun e=>hR _ _ ⟨z,rfl,s4,z1,z63,zcd⟩)⟩;have m7:=ZW (sd / 7) (show(0:Int)<7 by decide);have m60:=ZW (sd / 49) (show(0:Int)<60 by decide);refine⟨_,rfl,_,rfl,_,_,rfl,rfl,⟨by decide,by decide⟩,_,_,rfl,rfl,(by show(0:Int)<7;decide),_,_,rfl,rfl,_,rfl,_,rfl,ZG (by omega),?_⟩;dsimp only;rw[Z5 (by omega)];have hz':(z.take (1+sd / 7 % 7).toNat).length<=7/\1<=(z.take (1+sd / 7 % 7).toNat).length:=by
    rw[QP];omega
   have hyc:Cd (z.take (1+sd / 7 % 7).toNat):=fun c hc=>zcd c (Wm hc);generalize z.take (1+sd / 7 % 7).toNat=y at hz' hyc;have em:Txt.mul (tx y) 50=tx ((QJ 50 y).flatten):=by
    apply Z9;rw[ZcK (by decide) (by rw[Zn];omega),Zs,Zs];rfl
   refine⟨_,_,rfl,rfl,L2.mulOk_of (by decide) (by decide) (by rw[Zn];omega),?_⟩;rw[em];have hrl:=ZkU 50 y;refine⟨_,rfl,_,_,rfl,rfl,⟨by decide,by decide⟩,_,_,rfl,rfl,(by show(0:Int)<60;decide),_,_,rfl,rfl,_,rfl,_,rfl,ZG (by omega),?_⟩;dsimp only;rw[Z5 (by omega)];refine hR _ _ ⟨_,rfl,s4,?_,?_,fun c hc=>?_⟩
   ·rw[QP];omega
   ·rw[QP];omega
   ·obtain⟨q,hq,hcq⟩:=List.mem_flatten.mp (Wm hc);rw[(Wi.mp hq).2]at hcq;exact hyc c hcq
  rintro σ H5 ⟨z,rfl,s5,z1,z63,zcd⟩;show Zdm (Zgf _ _ _) _ _ _ _;refine Jo (fun σ H'=>∃ z:List Nat,σ=[some (.ref a),some (.int sd),some (.str (tx l)),some (.str (tx z)),some (.int (sd / 1009 % 6))]/\Same H H'/\1<=z.length/\z.length<=63/\Cd z) (fun R hR=>?_) ?_
  ·refine⟨_,rfl,rfl,_,rfl,Ziz (fun e=>?_) (fun e=>hR _ _ ⟨z,rfl,s5,z1,z63,zcd⟩)⟩;refine⟨_,rfl,_,rfl,_,rfl,ZG (by omega),rfl,_,rfl,_,rfl,_,rfl,ZG (by omega),_,rfl,?_,fun p hp=>?_⟩
   ·rw[Z5 (by decide)];exact ZG (by rw[QP];omega)
   rw[Z5 (by decide),Zs];have hz':(z.take (30:Int).toNat).length<=30/\1<=(z.take (30:Int).toNat).length:=by
    rw[QP];have:(30:Int).toNat=30:=rfl;omega
   have hyc:Cd (z.take (30:Int).toNat):=fun c hc=>zcd c (Wm hc);generalize z.take (30:Int).toNat=y at hz' hyc;have s6:=Zb (o:=.lst (y.reverse.map fun c=>V.str (tx [c]))) hp;have em:(y.reverse.map fun c=>V.str (tx [c]))=(y.reverse.map fun c=>tx [c]).map V.str:=by rw[QA];rfl
   refine⟨"",p,y.reverse.map fun c=>tx [c],rfl,rfl,SqL.of (by rw[Zd,em]),ZeX y.reverse (by rw[QW];omega),?_⟩;rw[Zar];refine⟨_,_,rfl,rfl,?_,?_⟩
   ·rw[Zn,Zn,QW];exact Zh (by omega)
   rw[Z7];refine hR _ _ ⟨_,rfl,s5.trans s6,?_,?_,fun c hc=>?_⟩
   ·rw[Qd];omega
   ·rw[Qd,QW];omega
   ·rcases QF.mp hc with q | q
    ·exact hyc c q
    ·exact hyc c (Ub.mp q)
  rintro σ H6 ⟨z,rfl,s6,z1,z63,zcd⟩;show Zdm (Zgf _ _ _) _ _ _ _;refine Jo (fun σ H'=>∃ z:List Nat,σ=[some (.ref a),some (.int sd),some (.str (tx l)),some (.str (tx z)),some (.int (sd / 1009 % 6))]/\Same H H'/\1<=z.length/\z.length<=63/\Cd z) (fun R hR=>?_) ?_
  ·refine⟨_,rfl,rfl,_,rfl,Ziz (fun e=>?_) (fun e=>hR _ _ ⟨z,rfl,s6,z1,z63,zcd⟩)⟩;have m6:=ZW (sd / 11) (show(0:Int)<6 by decide);refine⟨_,rfl,_,rfl,_,rfl,ZG (by omega),_,rfl,_,rfl,_,_,rfl,rfl,⟨by decide,by decide⟩,_,_,rfl,rfl,(by show(0:Int)<6;decide),_,_,rfl,rfl,_,rfl,_,rfl,ZG (by omega),?_⟩;dsimp only;rw[Z5 (by decide),Z5 (by omega)];have b1:(z.take (40:Int).toNat).length<=40/\1<=(z.take (40:Int).toNat).length:=by
    rw[QP];have:(40:Int).toNat=40:=rfl;omega
   have b2:(z.take (1+sd / 11 % 6).toNat).length<=6:=by
    rw[QP];omega
   refine⟨_,_,rfl,rfl,?_,?_⟩
   ·rw[Zn,Zn];exact Zh (by omega)
   rw[Z7];refine hR _ _ ⟨_,rfl,s6,?_,?_,fun c hc=>?_⟩
   ·rw[Qd];omega
   ·rw[Qd];omega
   ·rcases QF.mp hc with q | q
    ·exact zcd c (Wm q)
    ·exact zcd c (Wm q)
  rintro σ H7 ⟨z,rfl,s7,z1,z63,zcd⟩;exact⟨_,rfl,k z H7 s7 z1 z63 zcd⟩
theorem done_cases {o:Option (List V)} {r:List Nat} (h:X7 z L o=some r) :
  (∃ p0 p1 p2 p3:Nat,o=some (.str "swap" :: [(p0:Int),p1,p2,p3].map V.int)/\p0<=p1/\p1<=p2/\p2<=p3/\p3<=z.length-L+1/\pt z L p0=pt z L p2/\pt z L p1=pt z L p3/\r=ZaJ z L p0 p1 p2 p3) \/
   ∃ p:Nat,o=some (.str "turn" :: [(p:Int)].map V.int)/\p<=z.length-L+1/\pt z L 0=pt z L (z.length-L+1)/\r=ZaI z L p:=by
 unfold X7 at h;split at h
 ·rename_i c;obtain⟨e1,e2⟩:=Zc4 c.1;have hf:=c.2;generalize nsOf o=ns at *;unfold fitsB at hf;rw[QQ,QQ,decide_eq_true_eq,decide_eq_true_eq]at hf;obtain⟨p0,p1,p2,p3,rfl,h01,h12,h23,h3⟩:=ZoJ e2 hf.1;exact .inl ⟨p0,p1,p2,p3,e1,h01,h12,h23,h3,hf.2.1,hf.2.2,(Option.some.inj h).symm⟩
 ·split at h
  ·rename_i c;obtain⟨e1,e2⟩:=Zc4 c.1;have ha:=c.2;generalize nsOf o=ns at *;obtain⟨p,rfl,hp⟩:=ZoK e2 ha.1;exact .inr ⟨p,e1,hp,ha.2,(Option.some.inj h).symm⟩
  ·cases h
theorem ZkC (h:Fit z L):z.take (L-1)=pt z L 0:=by
 unfold pt seg;simp
abbrev ZkR:Stmt:=top 54
abbrev ZnG:List Str:=["_law_signs","_law_long","_law_deed","_law_last","_law_at","_law_made"]
theorem scLLed:Zp ZnG ["_law_signs","_law_long","_law_deed"] (Zg ZkR):=⟨rfl,rfl,rfl,by decide +kernel,rfl,by decide +kernel,by decide +kernel⟩
def Zl1:Sp:=fun vs H Q _=>∃ (z:List Nat) (L:Nat) (a:Addr) (xs:List V) (r:List Nat),vs=[.str (tx z),.int L,.ref a]/\Fit z L/\z.length<=63/\H a=some (.tup xs)/\X7 z L (some xs)=some r/\Q (.str (tx r)) H
theorem Zi9 (D:HasDef K mg "_law_led" ZkR ["_law_signs","_law_long","_law_deed"]) (B:Blt mg) (g11_:FOk P w K mg base 1 "_law_part" ["_law_signs","_law_long","_law_one","_law_other"] Zca):FOk P w K mg base 2 "_law_led" ["_law_signs","_law_long","_law_deed"] Zl1:=by
 refine D.ok scLLed (fun vs H Q E h=>?_) (fun f cdv A outer s H vs Q E hr h=>?_)
 ·obtain⟨z,L,a,xs,r,rfl,_⟩:=h;rfl
 ·obtain⟨z,L,a,xs,r,rfl,hF,hz,ha,hdone,k⟩:=h;refine⟨_,(Ze (Zm (i:=3) scLLed.nd rfl (.inl rfl) (Zk ZU (Zk Ye (Zj Zr rfl B.len ZX (Za (pv 0) Zc)) (pv 1)) Zf))
   (Ze (Z2 (Zt YE (ZB ix_tup (pv 2) Zf (fun _ _=>rfl)) ZY (Zy _)) (Ze (Zm (i:=4) scLLed.nd rfl (.inl rfl) (ZB ix_tup (pv 2) Zf (fun _ _=>rfl)))
   (Zi (Zq (Zk ZD (Zk ZD (ZC Z4 (pv 0) (ZE (pv 4)) (ZE (Zk Ye (Zk ZU (pv 4) (pv 1)) Zf))) (Zv g11_ hr (Za (pv 0) (Za (pv 1) (Za (pv 4) (Za (pv 3) Zc)))))) (Zv g11_ hr (Za (pv 0) (Za (pv 1) (Za Zf (Za (pv 4) Zc))))))))) Zx)
   (Ze (Zm (i:=5) scLLed.nd rfl (.inl rfl) (Zk ZD (Zk ZD (ZC Z4 (pv 0) Z0 (ZE (Zk Ye (pv 1) Zf))) (Zv g11_ hr (Za (pv 0) (Za (pv 1) (Za Zf (Za (ZB ix_tup (pv 2) Zf (fun _ _=>rfl)) Zc)))))) (Zv g11_ hr (Za (pv 0) (Za (pv 1) (Za (ZB ix_tup (pv 2) Zf (fun _ _=>rfl)) (Za (ZB ix_tup (pv 2) Zf (fun _ _=>rfl)) Zc)))))))
   (Ze (Zm (i:=5) scLLed.nd rfl (.inl rfl) (Zk ZD (Zk ZD (pv 5) (Zv g11_ hr (Za (pv 0) (Za (pv 1) (Za (ZB ix_tup (pv 2) Zf (fun _ _=>rfl)) (Za (ZB ix_tup (pv 2) Zf (fun _ _=>rfl)) Zc)))))) (Zv g11_ hr (Za (pv 0) (Za (pv 1) (Za (ZB ix_tup (pv 2) Zf (fun _ _=>rfl)) (Za (ZB ix_tup (pv 2) Zf (fun _ _=>rfl)) Zc)))))))
   (Zi (Zq (Zk ZD (pv 5) (Zv g11_ hr (Za (pv 0) (Za (pv 1) (Za (ZB ix_tup (pv 2) Zf (fun _ _=>rfl)) (Za (pv 3) Zc)))))))))))),?_⟩
  have o:=hF.one;have l:=hF.le;have hz':z.length<=1000:=by omega
  have elast:(z.length:Int)-(L:Int)+1=((z.length-L+1:Nat):Int):=by omega
  refine⟨_,rfl,.str (tx z),z.length,rfl,⟨ZG hz',(Zn z).symm⟩,_,rfl,_,_,rfl,rfl,_,_,rfl,rfl,?_⟩;dsimp only;rw[elast];rcases done_cases hdone with ⟨p0,p1,p2,p3,e,h01,h12,h23,h3,_,_,rfl⟩ | ⟨p,e,hp,_,rfl⟩
  ·have ex:=Option.some.inj e;subst ex;have hsw:=Zez hF h01 h12 h23 h3;unfold ZaJ at hsw k;simp only[Qd]at hsw;refine⟨_,rfl,a,_,0,_,rfl,rfl,SqT.of ha,ZS (by decide) rfl,rfl,_,rfl,Yu (by decide) ?_⟩;refine⟨_,rfl,_,rfl,_,_,rfl,rfl,_,rfl,_,rfl,ZG hz',?_⟩;have esl:Txt.slice (tx z) none (some ((L:Int)-1))=tx (pt z L 0):=by
    rw[Z5 (by omega),show((L:Int)-1).toNat=L-1 by omega,ZkC hF]
   dsimp only;rw[esl];refine⟨_,rfl,_,rfl,_,rfl,a,_,1,_,rfl,rfl,SqT.of ha,ZS (by decide) rfl,z,L,0,p0,rfl,hF,hz',by omega,by omega,_,_,rfl,rfl,?_,?_⟩
   ·rw[Zn,Zn];exact Zh (by omega)
   rw[Z7];refine⟨_,rfl,_,rfl,_,rfl,a,_,3,_,rfl,rfl,SqT.of ha,ZS (by decide) rfl,_,rfl,a,_,4,_,rfl,rfl,SqT.of ha,ZS (by decide) rfl,z,L,p2,p3,rfl,hF,hz',h23,h3,_,_,rfl,rfl,?_,?_⟩
   ·rw[Zn,Zn,Qd];exact Zh (by omega)
   rw[Z7];refine⟨_,rfl,_,rfl,_,rfl,_,rfl,a,_,2,_,rfl,rfl,SqT.of ha,ZS (by decide) rfl,_,rfl,a,_,3,_,rfl,rfl,SqT.of ha,ZS (by decide) rfl,z,L,p1,p2,rfl,hF,hz',h12,by omega,_,_,rfl,rfl,?_,?_⟩
   ·rw[Zn,Zn];simp only[Qd];exact Zh (by omega)
   rw[Z7];refine⟨_,rfl,_,rfl,_,rfl,a,_,1,_,rfl,rfl,SqT.of ha,ZS (by decide) rfl,_,rfl,a,_,2,_,rfl,rfl,SqT.of ha,ZS (by decide) rfl,z,L,p0,p1,rfl,hF,hz',h01,by omega,_,_,rfl,rfl,?_,?_⟩
   ·rw[Zn,Zn];simp only[Qd];exact Zh (by omega)
   rw[Z7];refine⟨_,rfl,_,rfl,_,rfl,_,rfl,a,_,4,_,rfl,rfl,SqT.of ha,ZS (by decide) rfl,_,rfl,z,L,p3,z.length-L+1,rfl,hF,hz',h3,by omega,_,_,rfl,rfl,?_,?_⟩
   ·rw[Zn,Zn];simp only[Qd];exact Zh (by omega)
   rw[Z7];simp only[Q9];exact k
  ·have ex:=Option.some.inj e;subst ex;have hl:=Zes hF hp;unfold ZaI at hl k;rw[Qd,Qd]at hl;refine⟨_,rfl,a,_,0,_,rfl,rfl,SqT.of ha,ZS (by decide) rfl,rfl,_,rfl,Y3 (by decide) ?_⟩;refine⟨_,rfl,a,_,1,_,rfl,rfl,SqT.of ha,ZS (by decide) rfl,?_⟩;refine⟨_,rfl,_,rfl,_,rfl,_,rfl,_,rfl,_,_,rfl,rfl,_,_,rfl,rfl,_,rfl,_,rfl,ZG hz',?_⟩;dsimp only;rw[YB (z:=z) (a:=p) (b:=p+L-1) rfl (by omega) (by omega) (by omega)];refine⟨_,rfl,_,rfl,_,rfl,_,rfl,z,L,p,z.length-L+1,rfl,hF,hz',hp,by omega,_,_,rfl,rfl,?_,?_⟩
   ·rw[Zn,Zn];have:(seg z p (p+L-1)).length=(pt z L p).length:=rfl;exact Zh (by omega)
   rw[Z7];refine⟨_,rfl,_,rfl,_,rfl,z,L,0,p,rfl,hF,hz',by omega,hp,_,_,rfl,rfl,?_,?_⟩
   ·rw[Zn,Zn,Qd];have:(seg z p (p+L-1)).length=(pt z L p).length:=rfl;exact Zh (by omega)
   rw[Z7];exact k
theorem Zh9 {p:Int}:(X7 z L (some (.str "turn" :: [p].map V.int))).isSome=(ascB (Xa z L [p])&&decide (pt z L 0=pt z L (z.length-L+1))):=by
 have h1:JK "swap" 4 (some (.str "turn" :: [p].map V.int))=false:=by simp[JK,Zee]
 have h2:JK "turn" 1 (some (.str "turn" :: [p].map V.int))=true:=by simp[JK,Zee,Za4]
 have h3:nsOf (some (.str "turn" :: [p].map V.int))=[p]:=by simp[nsOf,ZfL]
 unfold X7;rw[h1,h2,h3,if_neg (by simp)];cases ascB (Xa z L [p]) <;> by_cases c:pt z L 0=pt z L (z.length-L+1) <;> simp[c]
theorem Zia {a b c d:Int}:(X7 z L (some (.str "swap" :: [a,b,c,d].map V.int))).isSome=fitsB z L [a,b,c,d]:=by
 have h1:JK "swap" 4 (some (.str "swap" :: [a,b,c,d].map V.int))=true:=by simp[JK,Zee,Za4]
 have h2:JK "turn" 1 (some (.str "swap" :: [a,b,c,d].map V.int))=false:=by simp[JK,Zee]
 have h3:nsOf (some (.str "swap" :: [a,b,c,d].map V.int))=[a,b,c,d]:=by simp[nsOf,ZfL]
 unfold X7;rw[h1,h2,h3];cases fitsB z L [a,b,c,d] <;> simp
def Chk (z:List Nat) (L:Nat) (ns:List Int) (i:Nat):Prop:=∀ j,j<i->(0::ns).getD j 0<=ns.getD j 0/\ns.getD j 0<=((z.length-L+1:Nat):Int)
theorem chk1 {p:Int}:Chk z L [p] 1↔ascB (Xa z L [p])=true:=by
 simp only[ascB,Xa,Chk];constructor
 ·intro h;have:=h 0 (by decide);simp[Wb]at this ⊢;omega
 ·intro h j hj;have:j=0:=by omega
  subst this;simp[Wb]at h ⊢;omega
theorem chk4 {a b c d:Int}:Chk z L [a,b,c,d] 4↔ascB (Xa z L [a,b,c,d])=true:=by
 simp only[ascB,Xa,Chk];constructor
 ·intro h;have h0:=h 0 (by decide);have h1:=h 1 (by decide);have h2:=h 2 (by decide);have h3:=h 3 (by decide);simp[Wb]at h0 h1 h2 h3 ⊢;omega
 ·intro h j hj;simp[Wb]at h;match j,hj with
  | 0,_=>simp;omega
  | 1,_=>simp;omega
  | 2,_=>simp;omega
  | 3,_=>simp;omega
theorem Zg3 {p:Nat} (h:p<=z.length-L+1):atI (Zdn z L) (p:Int)=some (.str (tx (pt z L p))):=by
 refine Zb1 ?_;unfold Zdn;rw[Qg,QT (by omega)];rfl
theorem Zi0:atI (Zdn z L) (-1)=some (.str (tx (pt z L (z.length-L+1)))):=by
 have hl:(Zdn z L).length=z.length-L+2:=by unfold Zdn;simp
 unfold atI;rw[hl];have e:ixN (z.length-L+2) (-1)=some (z.length-L+1):=by
  unfold ixN;rw[if_neg (by decide),if_pos (by omega)];congr 1;omega
 rw[e];show(Zdn z L)[z.length-L+1]?=_;unfold Zdn;rw[Qg,QT (by omega)];rfl
def Xy (z:List Nat) (L lo w:Nat):List Int:=((Qq (z.length-L+2-lo)).filter fun i=>decide (pt z L (lo+i)=pt z L w)).map fun i=>((lo+i:Nat):Int)
theorem Zbq {lo w:Nat} {v:Int} (h:v∈Xy z L lo w):∃ q:Nat,v=q/\lo<=q/\q<z.length-L+2/\pt z L q=pt z L w:=by
 unfold Xy at h;obtain⟨i,hi,rfl⟩:=Qi.mp h;obtain⟨h1,h2⟩:=QD.mp hi;have:=QN.mp h1;exact⟨lo+i,rfl,by omega,by omega,of_decide_eq_true h2⟩
theorem Zc0 {p0 p1 p2 p3:Nat} (h01:p0<=p1) (h12:p1<=p2) (h23:p2<=p3) (h3:p3<=z.length-L+1) (e02:pt z L p0=pt z L p2) (e13:pt z L p1=pt z L p3):X7 z L (some (.str "swap" :: [(p0:Int),p1,p2,p3].map V.int))=some (ZaJ z L p0 p1 p2 p3):=by
 have h:(X7 z L (some (.str "swap" :: [(p0:Int),p1,p2,p3].map V.int))).isSome=true:=by
  rw[Zia];unfold fitsB;rw[QQ,QQ,decide_eq_true_eq,decide_eq_true_eq];refine⟨chk4.mp fun j hj=>?_,e02,e13⟩;match j,hj with
  | 0,_=>exact⟨(by show(0:Int)<=(p0:Int);omega),(by show(p0:Int)<=_;omega)⟩
  | 1,_=>exact⟨(by show(p0:Int)<=(p1:Int);omega),(by show(p1:Int)<=_;omega)⟩
  | 2,_=>exact⟨(by show(p1:Int)<=(p2:Int);omega),(by show(p2:Int)<=_;omega)⟩
  | 3,_=>exact⟨(by show(p2:Int)<=(p3:Int);omega),(by show(p3:Int)<=_;omega)⟩
 obtain⟨r,hr⟩:=WY.mp h;rw[hr];rcases done_cases hr with ⟨q0,q1,q2,q3,e,_,_,_,_,_,_,rfl⟩ | ⟨q,e,_⟩
 ·simp at e;obtain⟨e1,e2,e3,e4⟩:=e;rw[U8.inj e1,U8.inj e2,U8.inj e3,U8.inj e4]
 ·simp at e
theorem ZcZ {p:Nat} (hp:p<=z.length-L+1) (ec:pt z L 0=pt z L (z.length-L+1)):X7 z L (some (.str "turn" :: [(p:Int)].map V.int))=some (ZaI z L p):=by
 have h:(X7 z L (some (.str "turn" :: [(p:Int)].map V.int))).isSome=true:=by
  rw[Zh9,QQ,decide_eq_true_eq];refine⟨chk1.mp fun j hj=>?_,ec⟩;match j,hj with
  | 0,_=>exact⟨(by show(0:Int)<=(p:Int);omega),(by show(p:Int)<=_;omega)⟩
 obtain⟨r,hr⟩:=WY.mp h;rw[hr];rcases done_cases hr with ⟨q0,q1,q2,q3,e,_⟩ | ⟨q,e,_,_,rfl⟩
 ·simp at e
 ·simp at e;rw[U8.inj e]
end Sh
namespace L2
open PySem PySem.Spec PyProof.Rows
theorem ZbQ {k:Nat} {mp:List Nat} {σ:L2.St} {g:TG} {tc:TT} {te:TE} {J:It} {H1:Hp} {Q:VK} (n:Nat) (xs:Nat->V) (t:Nat->Bool) (hn:n<=sizeLine)
  (hJ:∀ H,Same H1 H->(∀ i,i<n->J.go i H/\∀ x H',J.yld i H x H'->H'=H/\x=xs i)/\J.stop n H)
  (step:∀ i H (Qt:VK) (Qf:Hp->Prop),i<n->Same H1 H->(t i=true->Qt (xs i) H)->(t i=false->Qf H)->g (xs i) (lcS k mp σ) H fun σ4 H4=>tc σ4 H4 fun b H5=>if b=true then te σ4 H5 Qt else Qf H5)
  (done:∀ D H',Same H1 H'->H1 D=none->H' D=some (.lst (((Qq n).filter t).map xs))->Q (.ref D) H'):Zap k mp σ g tc te J H1 Q:=by
 intro D hD;refine⟨fun i m acc H=>m=n-i/\i<=n/\acc=((Qq i).filter t).map xs/\Same H1 H/\H D=some (.lst acc),⟨n,by simp,QV _,rfl,Zb hD,Zd⟩,?_⟩;rintro i m acc H ⟨rfl,hi,rfl,hs,hDa⟩;obtain⟨j1,j2⟩:=hJ H hs;by_cases hlt:i<n
 ·refine .inr ⟨(j1 i hlt).1,fun x H3 y=>?_⟩;obtain⟨e1,e2⟩:=(j1 i hlt).2 x H3 y;subst e1 e2;refine step i H3 _ _ hlt hs (fun ht=>⟨hDa,?_,n-(i+1),by omega,rfl,hlt,?_,fun b o e=>?_,Zd⟩) (fun ht=>⟨n-(i+1),by omega,rfl,hlt,?_,hs,hDa⟩)
  ·rw[Qc];have:=Q7 t (Qq i);rw[Q5]at this;omega
  ·rw[Wb,WM,Qz];simp[ht]
  ·rw[Zl (Zo e hD)];exact hs b o e
  ·rw[Wb,WM,Qz];simp[ht]
 ·have e:i=n:=by omega
  subst e;exact .inl ⟨j2,done D H hs hD hDa⟩
theorem ZeO {H:Hp}:∀ ns:List Int,RepA H (ns.map PyData.int) (ns.map V.int)
 | []=>by rw[WH,RepA];rfl
 | p::ps=>by
  rw[Qs,RepA];exact⟨.int p,ps.map V.int,rfl,by rw[RepD],ZeO ps⟩
theorem Zfa:∀ ns:List Int,PyData.canLayAll0 (ns.map PyData.int)=true
 | []=>by simp[PyData.canLayAll0]
 | p::ps=>by
  rw[Qs,PyData.canLayAll0,Zfa ps];simp[PyData.canLay0]
theorem Zba:∀ ns:List Int,PyData.depthAll (ns.map PyData.int)=0
 | []=>by simp[PyData.depthAll]
 | p::ps=>by
  rw[Qs,PyData.depthAll,Zba ps];simp[PyData.depth]
theorem J2 (ns:List Int):SeqAt.shaped (.list (ns.map PyData.int))=true:=by
 unfold SeqAt.shaped;rw[QQ];constructor
 ·rw[PyData.canLay0];exact Zfa ns
 ·refine decide_eq_true ?_;rw[PyData.depth,Zba ns];decide
theorem ZcW (ns:List Int):PyData.eqv (.list (ns.map PyData.int)) (.list [])=ns.isEmpty:=by
 cases ns with
 | nil=>simp[PyData.eqv,PyData.eqvAll]
 | cons n r=>simp[PyData.eqv,PyData.eqvAll]
theorem Zcl {H:Hp} {a:Addr} {ns:List Int} (h:H a=some (.lst (ns.map V.int))):RepD H (.list (ns.map PyData.int)) (.ref a):=by
 rw[RepD];exact⟨a,_,rfl,h,ZeO ns⟩
end L2
namespace Sh
open PySem L2 PyProof.Rows
seal L2.PE L2.PS L2.PSs L2.PT L2.PW L2.PA L2.PI L2.PG L2.PGs L2.PO L2.PC L2.PCs L2.OpR L2.UnR L2.CallR L2.MtR L2.IxR L2.SlR
variable {P:Program} {w:World} {K:PySem.W.Frag} {mg:Str->Option Value} {base:Heap}
variable {H H':Hp} {L:Nat} {z:List Nat}
theorem Zgw {lo:Nat} (h:lo<z.length-L+2):Xy z L lo lo≠[]:=by
 intro e;have:(lo:Int)∈Xy z L lo lo:=by
  unfold Xy;exact Qi.mpr ⟨0,QD.mpr ⟨QN.mpr (by omega),by simp⟩,by simp⟩
 rw[e]at this;cases this
abbrev Jq:Stmt:=top 55
abbrev ZbL:List Str:=["_law_signs","_law_long","_law_cell","_law_points_here","_law_one","_law_some","_law_three","_law_two"]
theorem scLDrawn:Zp ZbL ["_law_signs","_law_long","_law_cell"] (Zg Jq):=⟨rfl,rfl,rfl,by decide +kernel,rfl,by decide +kernel,by decide +kernel⟩
def Zgv:Sp:=fun vs H Q _=>∃ (z:List Nat) (L:Nat) (cell:Int),vs=[.str (tx z),.int L,.int cell]/\Fit z L/\z.length<=63/\0<=cell/\∀ p H' xs ns,Same H H'->H' p=some (.tup xs)->X7 z L (some xs)=some ns->Q (.ref p) H'
theorem Zao {K:PySem.W.Frag} {mp:List Nat} {σ:L2.St} {H1:Hp} {Q:VK} {lo w:Nat} {pp:Addr} (hlo:lo<=z.length-L+1) (hw:w<=z.length-L+1) (hz:z.length<=63) (hpp:H1 pp=some (.lst (Zdn z L)))
  (hS:lcS 1 mp σ=[none,some (.ref pp),some (.int (w:Int))])
  (done:∀ D H',Same H1 H'->H' D=some (.lst ((Xy z L lo w).map V.int))->Q (.ref D) H') :
  Zap 1 mp σ (XL 0) (ZlM (tOp rEq (tOp (Zmc K) (ZjN 1) (ZjN 0)) (tOp (Zmc K) (ZjN 1) (ZjN 2)))) (ZjN 0) (Itr (lo:Int) (z.length-L+2-lo)) H1 Q:=by
 refine ZbQ (z.length-L+2-lo) (fun i=>.int ((lo:Int)+i)) (fun i=>decide (pt z L (lo+i)=pt z L w)) (Zh (by omega)) ZbT ?_ ?_
 ·intro i H Qt Qf hi hs ht hf;rw[hS];have e1:(lo:Int)+i=((lo+i:Nat):Int):=by omega
  refine⟨_,rfl,_,rfl,pp,_,_,_,rfl,rfl,SqL.of (hs _ _ hpp),by rw[e1];exact Zg3 (p:=lo+i) (by omega),_,rfl,_,rfl,pp,_,_,_,rfl,rfl,SqL.of (hs _ _ hpp),Zg3 (p:=w) hw,rfl,_,rfl,?_⟩;rw[Zic];by_cases c:pt z L (lo+i)=pt z L w
  ·exact Y3 (decide_eq_true c) ⟨_,rfl,ht (decide_eq_true c)⟩
  ·exact Yu (decide_eq_false c) (hf (decide_eq_false c))
 ·intro D H' hs hD hl;refine done D H' hs ?_;rw[hl];unfold Xy;rw[QA];congr 2
theorem ZfE (D:HasDef K mg "_law_drawn" Jq ["_law_signs","_law_long","_law_cell"]) (B:Blt mg) (g12_:FOk P w K mg base 1 "_law_points" ["_law_signs","_law_long"] ZlY):FOk P w K mg base 2 "_law_drawn" ["_law_signs","_law_long","_law_cell"] Zgv:=by
 refine D.ok scLDrawn (fun vs H Q E h=>?_) (fun f cdv A outer s H vs Q E hr h=>?_)
 ·obtain⟨z,L,cell,rfl,_⟩:=h;rfl
 ·obtain⟨z,L,cell,rfl,hF,hz,c0,k⟩:=h;refine⟨_,(Ze (Zm (i:=3) scLDrawn.nd rfl (.inr rfl) (Zv g12_ hr (Za (pv 0) (Za (pv 1) Zc))))
   (Ze (Z2 (PW.pt (Zco (Zt YE (ZB ix_list (pv 3) Zf (fun _ _=>rfl)) (ZB ix_list (pv 3) (YV Yg Zf) (fun _ _=>rfl)) (Zy _)) (ZbA (Zt YE (Zk ZR (pv 2) Zf) Zf (Zy _))))) (Zi (Zq (Yt (Za ZY (Za (Zk ZR (Zk ZV (pv 2) Zf) (Zj Zr rfl B.len ZX (Za (pv 3) Zc))) Zc))))) Zx)
   (Ze (Zm (i:=4) scLDrawn.nd rfl (.inr rfl) (Zk ZR (Zk ZV (pv 2) Zf) (Zj Zr rfl B.len ZX (Za (pv 3) Zc))))
   (Ze (XU (i:=5) (Zg Jq) ZbL ["_law_k"] [3,4] scLDrawn.nd rfl (.inl rfl) rfl (Zaf rfl B.range (Za (pv 4) (Za (Zj Zr rfl B.len ZX (Za (pv 3) Zc)) Zc))) (fun _ _ _ _ _=>Z6 0) (fun _ _ _ _ _=>YL (Zt YE (ZB (Y0 K) (pv 1) (pv 0) (fun _ _=>rfl)) (ZB (Y0 K) (pv 1) (pv 2) (fun _ _=>rfl)) (Zy _))) (fun _ _ _ _ _=>(pv 0)))
   (Ze (Zm (i:=6) scLDrawn.nd rfl (.inl rfl) (ZB ix_list (pv 5) (Zk ZR (Zk ZV (pv 2) Zf) (Zj Zr rfl B.len ZX (Za (pv 5) Zc))) (fun _ _=>rfl)))
   (Ze (Zm (i:=7) scLDrawn.nd rfl (.inr rfl) (Zk ZU (pv 4) (Zk ZR (Zk ZV (pv 2) Zf) (Zk ZU (Zk Ye (pv 6) (pv 4)) Zf))))
   (Ze (XU (i:=5) (Zg Jq) ZbL ["_law_k"] [3,7] scLDrawn.nd rfl (.inl rfl) rfl (Zaf rfl B.range (Za (pv 6) (Za (Zj Zr rfl B.len ZX (Za (pv 3) Zc)) Zc))) (fun _ _ _ _ _=>Z6 0) (fun _ _ _ _ _=>YL (Zt YE (ZB (Y0 K) (pv 1) (pv 0) (fun _ _=>rfl)) (ZB (Y0 K) (pv 1) (pv 2) (fun _ _=>rfl)) (Zy _))) (fun _ _ _ _ _=>(pv 0)))
   (Ze (Z2 (Zt (Zhl hr.units) (pv 5) (ZT Zc) (Zy _)) (Ze (Zm (i:=7) scLDrawn.nd rfl (.inr rfl) (pv 6))
   (Zi (XU (i:=5) (Zg Jq) ZbL ["_law_k"] [3,7] scLDrawn.nd rfl (.inl rfl) rfl (Zaf rfl B.range (Za (pv 6) (Za (Zj Zr rfl B.len ZX (Za (pv 3) Zc)) Zc))) (fun _ _ _ _ _=>Z6 0) (fun _ _ _ _ _=>YL (Zt YE (ZB (Y0 K) (pv 1) (pv 0) (fun _ _=>rfl)) (ZB (Y0 K) (pv 1) (pv 2) (fun _ _=>rfl)) (Zy _))) (fun _ _ _ _ _=>(pv 0))))) Zx)
   (Zi (Zq (Yt (Za ZY (Za (pv 4) (Za (pv 7) (Za (pv 6) (Za (ZB ix_list (pv 5) (Zk ZR (Zk ZV (pv 2) Zf) (Zj Zr rfl B.len ZX (Za (pv 5) Zc))) (fun _ _=>rfl)) Zc)))))))))))))))),?_⟩
  have o:=hF.one;have l:=hF.le;have hpl:(Zdn z L).length=z.length-L+2:=by unfold Zdn;simp
  have mpos:(0:Int)<((Zdn z L).length:Int):=by rw[hpl];omega
  refine⟨_,rfl,_,rfl,z,L,rfl,hF,by omega,fun pp H1 s1 hpp=>?_⟩;dsimp only[XL];show Zdm (Zgf _ _ _) _ _ _ _;refine Jo (fun σ H'=>σ=[some (.str (tx z)),some (.int L),some (.int cell),some (.ref pp),none,none,none,none]/\H'=H1) (fun R hR=>?_) ?_
  ·refine⟨_,rfl,pp,_,0,_,rfl,rfl,SqL.of hpp,Zg3 (p:=0) (by omega),_,rfl,_,rfl,pp,_,-1,_,rfl,rfl,SqL.of hpp,Zi0,rfl,_,rfl,?_⟩;rw[Zic];refine Ziz (fun e=>?_) (fun e=>ZfJ (hR _ _ ⟨rfl,rfl⟩));have ecl:=of_decide_eq_true e;refine⟨_,rfl,_,_,rfl,rfl,(by show(0:Int)<4;decide),rfl,_,rfl,Ziz (fun e=>?_) (fun e=>hR _ _ ⟨rfl,rfl⟩)⟩;refine⟨_,rfl,_,_,rfl,rfl,⟨by decide,by decide⟩,_,rfl,.ref pp,_,rfl,.inl ⟨_,SqL.of hpp,rfl⟩,_,_,rfl,rfl,mpos,ZiH,fun p hp=>?_⟩;have m1:=ZW (cell / 4) mpos;obtain⟨q,eq⟩:∃ q:Nat,cell / 4 % ((Zdn z L).length:Int)=q:=⟨(cell / 4 % ((Zdn z L).length:Int)).toNat,by omega⟩
   dsimp only;rw[eq];rw[hpl]at eq m1;exact k p _ _ _ (s1.trans (Zb hp)) Zd (ZcZ (p:=q) (by omega) ecl)
  rintro σ H2 ⟨rfl,rfl⟩;have m1:=ZW (cell / 4) mpos;rw[hpl]at m1;refine⟨_,rfl,_,_,rfl,rfl,⟨by decide,by decide⟩,_,rfl,.ref pp,_,rfl,.inl ⟨_,SqL.of hpp,rfl⟩,_,_,rfl,rfl,mpos,?_⟩;obtain⟨one,eone⟩:∃ one:Nat,cell / 4 % ((Zdn z L).length:Int)=one:=⟨(cell / 4 % ((Zdn z L).length:Int)).toNat,by rw[hpl];omega⟩
  dsimp only;rw[eone];rw[hpl]at eone;have hone:one<=z.length-L+1:=by omega
  refine⟨_,rfl,_,rfl,.ref pp,_,rfl,.inl ⟨_,SqL.of hpp,rfl⟩,_,_,rfl,⟨by omega,by omega,by rw[hpl];omega,by rw[hpl];omega⟩,?_⟩;rw[hpl,show(((z.length-L+2:Nat):Int)-(one:Int)).toNat=z.length-L+2-one by omega];refine Zao (z:=z) (L:=L) (lo:=one) (w:=one) (pp:=pp) hone hone hz hpp rfl fun q1 H3 s3 hq1=>?_;have hpp3:=s3 _ _ hpp;have hne1:=Zgw (z:=z) (L:=L) (lo:=one) (by omega);have hl1:0<(Xy z L one one).length:=UJ.mpr hne1;have mp1:(0:Int)<(((Xy z L one one).map V.int).length:Int):=by rw[Qc];omega
  have mm1:=ZW (cell / 311) mp1;rw[Qc]at mm1;refine⟨_,rfl,_,rfl,_,_,rfl,rfl,⟨by decide,by decide⟩,_,rfl,.ref q1,_,rfl,.inl ⟨_,SqL.of hq1,rfl⟩,_,_,rfl,rfl,mp1,q1,_,_,_,rfl,rfl,SqL.of hq1,Zd7 (by rw[Qc];exact mm1.1) (by rw[Qc];exact mm1.2),?_⟩;have hi1:(cell / 311 % ((Xy z L one one).length:Int)).toNat<(Xy z L one one).length:=by omega
  have hmem1:(Xy z L one one).getD (cell / 311 % (((Xy z L one one).map V.int).length:Int)).toNat 0∈Xy z L one one:=by
   rw[Qc,Qb,Qa hi1];exact QB hi1
  obtain⟨three,e3,h13,h3m,p31⟩:=Zbq hmem1;rw[e3];have mp2:(0:Int)<(three:Int)-(one:Int)+1:=by omega
  have mm2:=ZW (cell / 7919) mp2;refine⟨_,rfl,_,rfl,_,_,rfl,rfl,⟨by decide,by decide⟩,_,rfl,_,rfl,_,_,rfl,rfl,_,_,rfl,rfl,_,_,rfl,rfl,mp2,_,_,rfl,rfl,?_⟩;obtain⟨two,etwo⟩:∃ two:Nat,(one:Int)+cell / 7919 % ((three:Int)-(one:Int)+1)=two:=⟨((one:Int)+cell / 7919 % ((three:Int)-(one:Int)+1)).toNat,by omega⟩
  dsimp only;rw[etwo];have htwo:two<=z.length-L+1:=by omega
  have hthree:three<=z.length-L+1:=by omega
  have h12:one<=two/\two<=three:=by omega
  refine⟨_,rfl,_,rfl,.ref pp,_,rfl,.inl ⟨_,SqL.of hpp3,rfl⟩,_,_,rfl,⟨by omega,by omega,by rw[hpl];omega,by rw[hpl];omega⟩,?_⟩;rw[hpl,show(((z.length-L+2:Nat):Int)-(three:Int)).toNat=z.length-L+2-three by omega];refine Zao (z:=z) (L:=L) (lo:=three) (w:=two) (pp:=pp) hthree htwo hz hpp3 rfl fun q2 H4 s4 hq2=>?_;have hpp4:=s4 _ _ hpp3;have sA:=(s1.trans s3).trans s4;dsimp only[XL];show Zdm (Zgf _ _ _) _ _ _ _;refine Jo (fun σ H'=>∃ (tw:Nat) (q:Addr) (ns:List Int),σ=[some (.str (tx z)),some (.int L),some (.int cell),some (.ref pp),some (.int one),some (.ref q),some (.int three),some (.int tw)]/\Same H H'/\H' q=some (.lst (ns.map V.int))/\ns≠[]/\one<=tw/\tw<=three/\∀ v∈ns,∃ f:Nat,v=f/\three<=f/\f<z.length-L+2/\pt z L f=pt z L tw) (fun R hR=>?_) ?_
  ·refine⟨_,rfl,QV _,fun p0 hp0=>?_⟩;have s5:=Zb (o:=.lst []) hp0;refine⟨_,_,Zcl (s5 _ _ hq2),Zcl (ns:=[]) Zd,J2 _,J2 [],_,rfl,?_⟩;rw[show PyData.eqv (.list ((Xy z L three two).map PyData.int)) (.list (([]:List Int).map PyData.int))=(Xy z L three two).isEmpty from ZcW _];refine Ziz (fun e=>?_) (fun e=>?_)
   ·have hpp5:=s5 _ _ hpp4;refine⟨_,rfl,?_⟩;refine⟨_,rfl,_,rfl,.ref pp,_,rfl,.inl ⟨_,SqL.of hpp5,rfl⟩,_,_,rfl,⟨by omega,by omega,by rw[hpl];omega,by rw[hpl];omega⟩,?_⟩;rw[hpl,show(((z.length-L+2:Nat):Int)-(three:Int)).toNat=z.length-L+2-three by omega];refine Zao (z:=z) (L:=L) (lo:=three) (w:=three) (pp:=pp) hthree hthree hz hpp5 rfl fun q3 H6 s6 hq3=>?_;exact hR _ _ ⟨three,q3,_,rfl,(sA.trans s5).trans s6,hq3,Zgw (by omega),by omega,Qk _,fun v hv=>Zbq hv⟩
   ·exact hR _ _ ⟨two,q2,_,rfl,sA.trans s5,s5 _ _ hq2,fun q=>e (by rw[q];rfl),h12.1,h12.2,fun v hv=>Zbq hv⟩
  rintro σ H5 ⟨tw,q,ns,rfl,s5,hq,hne,ht1,ht3,hall⟩;have hl2:0<ns.length:=UJ.mpr hne;have mp3:(0:Int)<((ns.map V.int).length:Int):=by rw[Qc];omega
  have mm3:=ZW (cell / 101) mp3;rw[Qc]at mm3;refine⟨_,rfl,_,rfl,_,rfl,_,rfl,_,rfl,_,_,rfl,rfl,⟨by decide,by decide⟩,_,rfl,.ref q,_,rfl,.inl ⟨_,SqL.of hq,rfl⟩,_,_,rfl,rfl,mp3,q,_,_,_,rfl,rfl,SqL.of hq,Zd7 (by rw[Qc];exact mm3.1) (by rw[Qc];exact mm3.2),Zh (by simp),fun p hp=>?_⟩;have hi3:(cell / 101 % (ns.length:Int)).toNat<ns.length:=by omega
  have hmem3:ns.getD (cell / 101 % ((ns.map V.int).length:Int)).toNat 0∈ns:=by
   rw[Qc,Qb,Qa hi3];exact QB hi3
  obtain⟨four,e4,h34,h4m,p42⟩:=hall _ hmem3;rw[e4];exact k p _ _ _ (s5.trans (Zb hp)) Zd (Zc0 (p0:=one) (p1:=tw) (p2:=three) (p3:=four) ht1 ht3 h34 (by omega) p31.symm p42.symm)
theorem Zfh {d:PyData} (h:SeqAt.shaped d=true):PyData.eqv d d=true:=SeqAt.eqv_refl d (SeqAt.canLay_of_shaped h)
theorem Ja (h:Cd z) (a b:Nat):Cd (seg z a b):=fun c q=>h c (U1 (Wm q))
theorem ZaA {a b:List Nat} (h1:Cd a) (h2:Cd b):Cd (a++b):=fun c q=>(QF.mp q).elim (h1 c) (h2 c)
theorem Zlq {r:List Nat} {o:Option (List V)} (hF:Fit z L) (hc:Cd z) (h:X7 z L o=some r):(win L r).Perm (win L z)/\r.length=z.length/\Cd r:=by
 rcases done_cases h with ⟨p0,p1,p2,p3,e,h01,h12,h23,h3,e02,e13,rfl⟩ | ⟨p,e,hp,ec,rfl⟩
 ·refine⟨Zgg hF h01 h12 h23 h3 e02 e13,Zez hF h01 h12 h23 h3,?_⟩;unfold ZaJ pt stt;exact ZaA (Ja hc _ _) (ZaA (Ja hc _ _) (ZaA (Ja hc _ _) (ZaA (Ja hc _ _) (ZaA (Ja hc _ _) (Ja hc _ _)))))
 ·refine⟨Zf9 hF hp ec,Zes hF hp,?_⟩;unfold ZaI pt stt;exact ZaA (ZaA (Ja hc _ _) (Ja hc _ _)) (Ja hc _ _)
theorem Zah (h:Fit z L):pcs z L=(win L z).map tx:=by
 have:=h.le;unfold pcs win;rw[QA,show z.length+1-L=z.length-L+1 by omega];rfl
abbrev Mat:=List (List Int)
def Sm (n:Nat) (x:Int):Prop:=x.natAbs<2 ^ n
def ZhY (M:Mat):Option Nat:=M.findIdx? fun r=>decide (r.headD 0≠0)
def ZnI (r h:List Int) (d:Int):List Int:=(Qq (r.length-1)).map fun j=>(h.headD 0*r.getD (j+1) 0-r.headD 0*h.getD (j+1) 0).fdiv d
def Zmr (M:Mat) (p:Nat) (d:Int):Mat:=(M.take p++M.drop (p+1)).map fun r=>ZnI r (M.getD p []) d
def Sq (n:Nat) (M:Mat):Prop:=M.length=n/\∀ r∈M,r.length=n
def SmM (k:Nat) (M:Mat):Prop:=∀ r∈M,∀ x∈r,Sm k x
def FineM:Nat->Mat->Int->Int->Int->Prop
 | 0,M,_,_,W=>M=[]/\W=1
 | 1,M,s,_,W=>∃ x,M=[[x]]/\W=s*x/\(s=1\/s = -1)
 | n+2,M,s,d,W=>Sq (n+2) M/\SmM 3900 M/\Sm 3900 d/\d≠0/\(s=1\/s = -1)/\match ZhY M with
  | none=>W=0
  | some p=>FineM (n+1) (Zmr M p d) (if p % 2=0 then s else -s) ((M.getD p []).headD 0) W
theorem Sm.mul {a b:Nat} {x y:Int} (h:Sm a x) (k:Sm b y):Sm (a+b) (x*y):=by
 unfold Sm at *;rw[Int.natAbs_mul,Nat.pow_add];exact Nat.mul_lt_mul'' h k
theorem Sm.up {a b:Nat} {x:Int} (h:Sm a x) (hab:a<=b):Sm b x:=Q2 h (Nat.pow_le_pow_right (by decide) hab)
theorem Sm.one (a:Nat) (h:1<=a):Sm a 1:=by
 have:Sm 1 1:=by unfold Sm;decide
 exact this.up h
structure RowsL (H:Hp) (as:List Addr) (M:Mat):Prop where
 len:as.length=M.length
 row:∀ i a,as[i]?=some a->H a=some (.lst ((M.getD i []).map V.int))
theorem RowsL.same {as:List Addr} {M:Mat} (s:Same H H') (h:RowsL H as M):RowsL H' as M:=⟨h.len,fun i a e=>s _ _ (h.row i a e)⟩
theorem FineM.len:∀ {n:Nat} {M:Mat} {s d W:Int},FineM n M s d W->M.length=n
 | 0,_,_,_,_,h=>by rw[h.1];rfl
 | 1,_,_,_,_,⟨x,e,_⟩=>by rw[e];rfl
 | _+2,_,_,_,_,h=>h.1.1
theorem FineM.go {n p:Nat} {M:Mat} {s d W:Int} (h:FineM (n+2) M s d W) (e:ZhY M=some p):FineM (n+1) (Zmr M p d) (if p % 2=0 then s else -s) ((M.getD p []).headD 0) W:=by
 have:=h.2.2.2.2.2;rw[e]at this;exact this
theorem FineM.stop {n:Nat} {M:Mat} {s d W:Int} (h:FineM (n+2) M s d W) (e:ZhY M=none):W=0:=by
 have:=h.2.2.2.2.2;rw[e]at this;exact this
structure RowsT (H:Hp) (as:List Addr) (M:Mat):Prop where
 len:as.length=M.length
 row:∀ i a,as[i]?=some a->H a=some (.tup ((M.getD i []).map V.int))
theorem RowsT.same {as:List Addr} {M:Mat} (s:Same H H') (h:RowsT H as M):RowsT H' as M:=⟨h.len,fun i a e=>s _ _ (h.row i a e)⟩
abbrev Pr:=Str×Int
def PairAt (H:Hp) (v:V) (p:Pr):Prop:=∃ b,v= .ref b/\H b=some (.tup [.str p.1,.int p.2])
def HpAt (H:Hp) (v:V) (hp:List Pr):Prop:=∃ a xs,v= .ref a/\H a=some (.tup xs)/\xs.length=hp.length/\∀ i p,hp[i]?=some p->PairAt H (xs.getD i .non) p
theorem PairAt.same (s:TSame H H') {v:V} {p:Pr} (h:PairAt H v p):PairAt H' v p:=by
 obtain⟨b,e,q⟩:=h;exact⟨b,e,s _ _ q⟩
theorem HpAt.same (s:TSame H H') {v:V} {hp:List Pr} (h:HpAt H v hp):HpAt H' v hp:=by
 obtain⟨a,xs,e,q,l,r⟩:=h;exact⟨a,xs,e,s _ _ q,l,fun i p z=>(r i p z).same s⟩
end Sh
namespace L2
open PySem PySem.Spec PyProof.Rows
end L2
namespace Sh
open PySem L2 PyProof.Rows
seal L2.PE L2.PS L2.PSs L2.PT L2.PW L2.PA L2.PI L2.PG L2.PGs L2.PO L2.PC L2.PCs L2.OpR L2.UnR L2.CallR L2.MtR L2.IxR L2.SlR
variable {P:Program} {w:World} {K:PySem.W.Frag} {mg:Str->Option Value} {base:Heap}
variable {H:Hp} {es:Es} {ks ss:List Str} {x:Str}
theorem YI {α:Type} [DecidableEq α]:∀ {l B:List α},l.Nodup->(∀ x∈l,x∈B)->l.length<=B.length
 | [],B,_,_=>QV _
 | x::l,B,nd,h=>by
  have h1:=Wj.mp nd;have h2:=YI (l:=l) (B:=B.erase x) h1.2 fun y hy=>by
   have ne:y≠x:=fun q=>h1.1 (q▸hy);exact(Ws ne).mpr (h y (Ql _ hy))
  have h3:=Wh (h x Qj);have h4:0<B.length:=Wo (h x Qj);rw[QG];omega
structure Zu (ps:List Str) (hp:List Pr):Prop where
 srt:(hp.map fun p=>p.1.cps.toList).Pairwise (· < ·)
 mem:∀ x,x∈hp.map (·.1)↔x∈ps
 cnt:∀ p∈hp,p.2=ps.count p.1
section
variable {P:Program} {w:World} {K:PySem.W.Frag} {mg:Str->Option Value} {base:Heap} {S C A1 A2 A3 A4 A5 A6 A7 A8:Addr}
end
theorem JR (h:1<=x.length):Txt.slice x none (some (-1))=bg x:=by
 apply Z9;rw[eq_of_beq (slice_closes_to_neg (x:=x) (j:=-1) (k:=-1+x.length) (by decide) (by omega) rfl)];unfold bg;rw[Zs,UC,ZL];simp;congr 1;omega
theorem XQ (h:1<=x.length):Txt.slice x (some 1) none=en x:=by
 apply Z9;rw[JI (by decide) (by omega)];unfold en;rw[Zs];rfl
def PA (H:Hp) (vs:List V) (es:Es):Prop:=vs.length=es.length/\∀ (i:Nat) (e:Str×Int),es[i]?=some e->∃ b,vs[i]?=some (.ref b)/\H b=some (.tup [.str e.1,.int e.2])
theorem PA.same {H':Hp} {vs:List V} (h:PA H vs es) (s:TSame H H'):PA H' vs es:=⟨h.1,fun i e q=>by
 obtain⟨b,e1,e2⟩:=h.2 i e q;exact⟨b,e1,s _ _ e2⟩⟩
def HeapV (H:Hp) (v:V) (es:Es):Prop:=∃ q vs,v= .ref q/\H q=some (.tup vs)/\PA H vs es
theorem HeapV.same {H':Hp} {v:V} (h:HeapV H v es) (s:Same H H'):HeapV H' v es:=by
 obtain⟨q,vs,e,e1,e2⟩:=h;exact⟨q,vs,e,s _ _ e1,e2.same s.tup⟩
structure Pts (es:Es) (ks:List Str):Prop where
 nd:ks.Nodup
 mem:∀ P,P∈ks↔∃ e∈es,bg e.1=P\/en e.1=P
 len:ks.length<=2*es.length
structure Ziw (es:Es):Prop where
 few:es.length<=63
 many:∀ e∈es,0<=e.2/\e.2<=1000
 long:∀ e∈es,1<=e.1.length/\e.1.length<=1000
 pts:∀ ks,Pts es ks->ks.length<64
theorem Pts.nil:Pts [] []:=⟨Uo,fun P=>by simp,Qk _⟩
def Yx (ks:List Str) (x:Str):List Str:=if x∈ks then ks else ks++[x]
theorem JA (h:ks.Nodup):(Yx ks x).Nodup:=by
 unfold Yx;split
 ·exact h
 ·rename_i c;exact WA.mpr ⟨h,by simp,fun a ha b hb e=>by rw[Qm.mp hb]at e;subst e;exact c ha⟩
theorem addK_mem {y:Str}:y∈Yx ks x↔y∈ks\/y=x:=by
 unfold Yx;split
 ·rename_i c;exact⟨.inl,fun h=>h.elim id fun e=>e▸c⟩
 ·simp
theorem Y7 (ks:List Str) (x:Str):(Yx ks x).length<=ks.length+1:=by
 unfold Yx;split <;> simp
theorem Pts.step (h:Pts es ks) (e:Str×Int):Pts (es++[e]) (Yx (Yx ks (bg e.1)) (en e.1)) where
 nd:=JA (JA h.nd)
 mem:=fun P=>by
  rw[addK_mem,addK_mem,h.mem];constructor
  ·rintro((⟨x,hx,q⟩ | q) | q)
   ·exact⟨x,QM _ hx,q⟩
   ·exact⟨e,by simp,.inl q.symm⟩
   ·exact⟨e,by simp,.inr q.symm⟩
  ·rintro⟨x,hx,q⟩;rcases QF.mp hx with z | z
   ·exact .inl (.inl ⟨x,z,q⟩)
   ·rw[Qm.mp z]at q;rcases q with q | q
    ·exact .inl (.inr q.symm)
    ·exact .inr q.symm
 len:=by
  have h1:=Y7 (Yx ks (bg e.1)) (en e.1);have h2:=Y7 ks (bg e.1);have:=h.len;rw[Qd,Qr];omega
theorem Pts.zero (h:Pts es ks) {P:Str} (hP:P∉ks):mo es P=0:=ZhG fun e he=>⟨fun q=>hP ((h.mem P).mpr ⟨e,he,.inl q⟩),fun q=>hP ((h.mem P).mpr ⟨e,he,.inr q⟩)⟩
theorem Zfe {g:Str->Int} {y:Str} (h0:y∉ks->g y=0):(Xx (gD ks g) (Sum.inr y:Key)).getD (.int 0)= .int (g y):=by
 rw[Y8];split
 ·rfl
 ·rename_i c;rw[h0 c];rfl
theorem Zh5 {p:Str->Bool}:ss.filter p=((Qq ss.length).filter fun i=>p (ss.getD i "")).map fun i=>ss.getD i "":=by
 have e:ss=(Qq ss.length).map fun i=>ss.getD i "":=by
  apply QU;intro i;rw[Qg];by_cases hi:i<ss.length
  ·rw[QT hi,Wd,Qb,Qa hi];rfl
  ·rw[Qo (by omega),Qo (by simp;omega)];rfl
 conv=>lhs;rw[e]
 rw[R6];rfl
def ZiX (x:Str) (n:Int) (v:V) (H:Hp):Prop:=∃ b,v= .ref b/\H b=some (.tup [.str x,.int n])
theorem ZnF {vs:List V} {p:Str->Bool} {f:Str->Int} (hl:vs.length=((Qq ss.length).filter fun i=>p (ss.getD i "")).length)
  (hR:∀ (j i:Nat) (v:V),((Qq ss.length).filter fun i=>p (ss.getD i ""))[j]?=some i->vs[j]?=some v->ZiX (ss.getD i "") (f (ss.getD i "")) v H):PA H vs ((ss.filter p).map fun x=>(x,f x)):=by
 rw[Zh5];refine⟨by rw[Qc,Qc,hl],fun j e he=>?_⟩;rw[Qg,Qg]at he;cases hj:((Qq ss.length).filter fun i=>p (ss.getD i ""))[j]? with
 | none=>rw[hj]at he;cases he
 | some i =>
  rw[hj]at he;cases he;have hjv:j<vs.length:=by rw[hl];exact(Qp.mp hj).1
  obtain⟨b,e1,e2⟩:=hR j i vs[j] hj (Qa hjv);exact⟨b,by rw[Qa hjv,e1],e2⟩
structure SPts (es:Es) (ss:List Str):Prop where
 srt:(ss.map fun x=>x.cps.toList).Pairwise (· < ·)
 pts:Pts es ss
theorem SPts.of (h:Pts es ks) (p:ss.Perm ks) (s:(ss.map fun x=>x.cps.toList).Pairwise (· < ·)):SPts es ss :=
 ⟨s,p.nodup_iff.mpr h.nd,fun P=>by rw[p.mem_iff,h.mem],by rw[p.length_eq];exact h.len⟩
theorem ZQ (h:x.length<=1000):x.length<=sizeLine:=YA (by omega)
abbrev Zby:Stmt:=top 16
abbrev Zjj:List Str:=["piece"]
theorem ZgH:Zp Zjj ["piece"] (Zg Zby):=⟨rfl,rfl,rfl,by decide +kernel,rfl,by decide +kernel,by decide +kernel⟩
def Zbo:Sp:=fun vs H Q _=>∃ x:Str,vs=[.str x]/\1<=x.length/\x.length<=1000/\Q (.str (bg x)) H
theorem ZdZ (D:HasDef K mg "begin_of" Zby ["piece"]):FOk P w K mg base 1 "begin_of" ["piece"] Zbo:=by
 refine D.ok ZgH (fun vs H Q E h=>?_) (fun f cdv A outer s H vs Q E hr h=>?_)
 ·obtain⟨x,rfl,_⟩:=h;rfl
 ·obtain⟨x,rfl,h1,h2,k⟩:=h;refine⟨_,(Zi (Zq (ZC Z4 (pv 0) Z0 (ZE (YV Yg Zf))))),?_⟩;refine⟨_,rfl,_,rfl,_,rfl,_,rfl,ZQ h2,?_⟩;rw[←JR h1]at k;exact k
abbrev ZgS:Stmt:=top 17
abbrev ZmD:List Str:=["piece"]
theorem ZkQ:Zp ZmD ["piece"] (Zg ZgS):=⟨rfl,rfl,rfl,by decide +kernel,rfl,by decide +kernel,by decide +kernel⟩
def Zce:Sp:=fun vs H Q _=>∃ x:Str,vs=[.str x]/\1<=x.length/\x.length<=1000/\Q (.str (en x)) H
theorem Zhx (D:HasDef K mg "end_of" ZgS ["piece"]):FOk P w K mg base 1 "end_of" ["piece"] Zce:=by
 refine D.ok ZkQ (fun vs H Q E h=>?_) (fun f cdv A outer s H vs Q E hr h=>?_)
 ·obtain⟨x,rfl,_⟩:=h;rfl
 ·obtain⟨x,rfl,h1,h2,k⟩:=h;refine⟨_,(Zi (Zq (ZC Z4 (pv 0) (ZE Zf) Z0))),?_⟩;refine⟨_,rfl,_,rfl,_,rfl,ZQ h2,?_⟩;rw[←XQ h1]at k;exact k
theorem Zgk {l m:List Str} (hl:(l.map fun x=>x.cps.toList).Pairwise (· < ·)) (hm:(m.map fun x=>x.cps.toList).Pairwise (· < ·)) (h:∀ x,x∈l↔x∈m):l=m:=by
 have e:=Jm hl hm fun c=>by
  rw[Qi,Qi];exact⟨fun⟨x,hx,q⟩=>⟨x,(h x).mp hx,q⟩,fun⟨x,hx,q⟩=>⟨x,(h x).mpr hx,q⟩⟩
 have key:∀ (l m:List Str),(l.map fun x=>x.cps.toList)=(m.map fun x=>x.cps.toList)->l=m:=by
  intro l;induction l with
  | nil =>
   intro m e;cases m with
   | nil=>rfl
   | cons _ _=>cases e
  | cons x l ih =>
   intro m e;cases m with
   | nil=>cases e
   | cons y m =>
    rw[Qs,Qs]at e;injection e with e1 e2
    rw[Z9 e1,ih m e2]
 exact key l m e
theorem SPts.one {l m:List Str} (h:SPts es l) (k:SPts es m):l=m:=Zgk h.srt k.srt fun x=>by rw[h.pts.mem,k.pts.mem]
abbrev Zbu:Stmt:=top 21
abbrev Zjf:List Str:=["H","more","piece","many"]
theorem scMoreOut:Zp Zjf ["H"] (Zg Zbu):=⟨rfl,rfl,rfl,by decide +kernel,rfl,by decide +kernel,by decide +kernel⟩
def Zcb:Sp:=fun vs H Q _=>∃ (v:V) (es:Es),vs=[v]/\HeapV H v es/\Ziw es/\∀ d H' ks,Same H H'->H' d=some (.dK (gD ks (mo es)))->Pts es ks->Q (.ref d) H'
theorem ZdU (D:HasDef K mg "more_out" Zbu ["H"]) (g21_:FOk P w K mg base 1 "begin_of" ["piece"] Zbo) (g25_:FOk P w K mg base 1 "end_of" ["piece"] Zce):FOk P w K mg base 2 "more_out" ["H"] Zcb:=by
 refine D.ok scMoreOut (fun vs H Q E h=>?_) (fun f cdv A outer s H vs Q E hr h=>?_)
 ·obtain⟨v,es,rfl,_⟩:=h;rfl
 ·obtain⟨v,es,rfl,⟨q,vs,rfl,hq,hpa⟩,hF,k⟩:=h;have hu:=ZaO hr;refine⟨_,(Ze (Zm (i:=1) scMoreOut.nd rfl (.inl rfl) XV)
   (Ze (Yi PassesOwn.never rfl (Yy (pv 0)) (Yc 2 K rfl (Zw (ZI (i:=2) scMoreOut.nd rfl (.inl rfl)) (Zw (ZI (i:=3) scMoreOut.nd rfl (.inl rfl)) Yb)))
    (Ze (YK hu (pv 1) (Zv g21_ hr (Za (pv 2) Zc)) (Zk ZU (YH hu (pv 1) (Zv g21_ hr (Za (pv 2) Zc)) Zf ⟨rfl,rfl,rfl,rfl⟩) (pv 3)) rfl)
   (Zi (YK hu (pv 1) (Zv g25_ hr (Za (pv 2) Zc)) (Zk Ye (YH hu (pv 1) (Zv g25_ hr (Za (pv 2) Zc)) Zf ⟨rfl,rfl,rfl,rfl⟩) (pv 3)) rfl))))
   (Zi (Zq (pv 1))))),?_⟩
  intro d hd;have s1:=Zb (o:=.dK []) hd;refine⟨_,rfl,q,rfl,⟨_,SqT.of (s1 _ _ hq)⟩,?_⟩;refine Jw (K:=K) (a:=q) (xs:=vs) (fun i σ H2=>(∃ z2 z3:Option V,σ=[some (.ref q),some (.ref d),z2,z3])/\Same H H2/\∃ ks,Pts (es.take i) ks/\H2 d=some (.dK (gD ks (mo (es.take i)))))
   ⟨⟨none,none,rfl⟩,s1,[],Pts.nil,Zd⟩ (fun i σ H2 _ ⟨_,s2,_⟩=>SqT.of (s2 _ _ hq)) ?_ ?_
  ·rintro i x σ H2 hi ⟨⟨z2,z3,rfl⟩,s2,ks,hk,hdd⟩;have hiv:i<vs.length:=(Qp.mp hi).1;have hie:i<es.length:=by rw[←hpa.1];exact hiv
   obtain⟨b,e1,e2⟩:=hpa.2 i es[i] (Qa hie);rw[hi]at e1;cases e1;obtain⟨l1,l2⟩:=hF.long es[i] (QB hie);have hkl:=hk.len;have hfew:=hF.few;rw[QP]at hkl;refine⟨b,_,rfl,SqT.of (s2 _ _ e2),rfl,_,_,rfl,_,_,rfl,rfl,?_⟩;have het:es.take (i+1)=es.take i++[es[i]]:=QR hie;generalize es[i]=e at *;have h0:=fun(hP:bg e.1∉ks)=>hk.zero hP;have hg:=Zfe (ks:=ks) (g:=mo (es.take i)) h0;refine⟨_,rfl,d,rfl,.inl ⟨_,.inl hdd⟩,_,rfl,e.1,rfl,l1,l2,_,DGet.kk (k:=Sum.inr (bg e.1)) hdd,_,rfl,_,_,hg,rfl,_,rfl,_,rfl,e.1,rfl,l1,l2,d,_,rfl,DPut.kk (k:=Sum.inr (bg e.1)) hdd (by rw[Y9];exact ZF (by omega)),?_⟩;rw[Za7];have hdd2:(upd H2 d (.dK (gD (Yx ks (bg e.1)) fun x=>if x=bg e.1 then mo (es.take i) (bg e.1)+e.2 else mo (es.take i) x))) d=some (.dK (gD (Yx ks (bg e.1)) fun x=>if x=bg e.1 then mo (es.take i) (bg e.1)+e.2 else mo (es.take i) x)):=Zd;have hg2:=Zfe (ks:=Yx ks (bg e.1)) (g:=fun x=>if x=bg e.1 then mo (es.take i) (bg e.1)+e.2 else mo (es.take i) x) (y:=en e.1) fun hP=>by
    rw[addK_mem,not_or]at hP;rw[if_neg hP.2,hk.zero hP.1]
   have hal:=Y7 ks (bg e.1);refine⟨_,rfl,d,rfl,.inl ⟨_,.inl hdd2⟩,_,rfl,e.1,rfl,l1,l2,_,DGet.kk (k:=Sum.inr (en e.1)) hdd2,_,rfl,_,_,hg2,rfl,_,rfl,_,rfl,e.1,rfl,l1,l2,d,_,rfl,DPut.kk (k:=Sum.inr (en e.1)) hdd2 (by rw[Y9];exact ZF (by omega)),?_⟩;refine⟨⟨_,_,rfl⟩,fun c u hc=>?_,Yx (Yx ks (bg e.1)) (en e.1),by rw[het];exact hk.step e,?_⟩
   ·rw[Jg,Zl (Zo hc hd)];exact s2 c u hc
   ·rw[Zd,Za7,het];refine congrArg (fun l=>some (HO.dK l)) (ZbW fun x _=>?_);rw[Zld];unfold mo1 ind;by_cases c1:x=en e.1
    ·subst c1;rw[if_pos rfl,if_pos rfl];by_cases c2:en e.1=bg e.1
     ·rw[if_pos c2,if_pos c2.symm,c2];omega
     ·rw[if_neg c2,if_neg (Ne.symm c2)];omega
    ·rw[if_neg c1,if_neg (Ne.symm c1)];by_cases c2:x=bg e.1
     ·subst c2;rw[if_pos rfl,if_pos rfl];omega
     ·rw[if_neg c2,if_neg (Ne.symm c2)];omega
  ·rintro σ H2 ⟨⟨z2,z3,rfl⟩,s2,ks,hk,hdd⟩;rw[hpa.1,Wr]at hk hdd;exact⟨_,rfl,k d H2 ks s2 hdd hk⟩
abbrev XT:Stmt:=top 22
abbrev ZcJ:List Str:=["H"]
theorem Zfy:Zp ZcJ ["H"] (Zg XT):=⟨rfl,rfl,rfl,by decide +kernel,rfl,by decide +kernel,by decide +kernel⟩
def Zbn:Sp:=fun vs H Q _=>∃ (v:V) (es:Es),vs=[v]/\HeapV H v es/\Ziw es/\∀ v' H' ss,Same H H'->HeapV H' v' (ups (mo es) ss)->SPts es ss->Q v' H'
theorem ZcC (D:HasDef K mg "begins_of" XT ["H"]) (B:Blt mg) (g32_:FOk P w K mg base 2 "more_out" ["H"] Zcb):FOk P w K mg base 3 "begins_of" ["H"] Zbn:=by
 refine D.ok Zfy (fun vs H Q E h=>?_) (fun f cdv A outer s H vs Q E hr h=>?_)
 ·obtain⟨v,es,rfl,_⟩:=h;rfl
 ·obtain⟨v,es,rfl,hV,hF,k⟩:=h;refine⟨_,(Zi (Zq (ZJ ZH rfl B.tuple Yo (Za (ZK (Zg XT) ZcJ ["point","more"] [] rfl (Ym (Zj (Xn rfl) rfl B.sorted YJ (Za (ZbD (Zv g32_ hr (Za (pv 0) Zc))) Zc))) (fun _ _ _ _ _=>Yc 2 K rfl (Zw (Z6 0) (Zw (Z6 1) Yb))) (fun _ _ _ _ _=>YL (Zt ZbE (pv 1) Zf (Zy _))) (fun _ _ _ _ _=>(Yt (Za (pv 0) (Za (pv 1) Zc))))) Zc)))),?_⟩;refine⟨_,rfl,v,es,rfl,hV,hF,fun d H1 ks s1 hd hP=>⟨d,_,rfl,hd,fun p hp=>?_⟩⟩;have hkl:=hP.len;have hfew:=hF.few;refine⟨p,d,ks,fun x=>.int (mo es x),rfl,Zd,Zb hp _ _ hd,hP.nd,hF.pts _ hP,fun D1 H2 vs ss s2 hpm hsrt hD1 hl hv=>?_⟩;have hss:=hpm.length_eq;refine⟨D1,rfl,⟨_,SqL.of hD1⟩,ZbP ss.length (fun i=>vs.getD i .non) (fun i=>decide (0<(mo es) (ss.getD i ""))) (fun i v H=>ZiX (ss.getD i "") ((mo es) (ss.getD i "")) v H) (Zh (by omega)) (fun i v H H' hs ⟨b,e1,e2⟩=>⟨b,e1,hs _ _ e2⟩) (by have:=Xi (K:=K) (SqL.of hD1);rw[hl]at this;exact this) ?_ ?_⟩
  ·intro i H3 Qt Qf hi hs ht hf;obtain⟨b,e1,e2⟩:=hv i ss[i] (Qa hi);have ev:vs.getD i .non= .ref b:=by rw[Qb,e1];rfl
   have es1:ss.getD i "" = ss[i]:=by rw[Qb,Qa hi];rfl
   rw[es1]at ht hf;rw[ev];refine⟨b,_,rfl,SqT.of (hs _ _ e2),rfl,_,_,rfl,_,_,rfl,rfl,?_⟩;refine⟨_,rfl,_,_,rfl,rfl,_,rfl,?_⟩;by_cases c:0<(mo es) ss[i]
   ·refine Y3 (decide_eq_true (by omega)) (⟨_,rfl,_,rfl,Zh (show 2<=1000 by decide),fun r hr=>ht (decide_eq_true c) _ _ (Zb hr) ⟨r,rfl,Zd⟩⟩)
   ·exact Yu (decide_eq_false (by omega)) (hf (decide_eq_false c) _ (Same.refl _))
  ·intro D2 vs2 H3 hl2 hR hs3 hD2 hDl;refine⟨D2,vs2,rfl,.inl ⟨SqL.of hDl,fun q hq=>?_⟩⟩;have sq:=Zb (o:=.tup vs2) hq;refine k (.ref q) _ ss (((s1.trans (Zb hp)).trans s2).trans (hs3.trans sq)) ⟨q,vs2,rfl,Zd,?_⟩ (SPts.of hP hpm hsrt);exact(ZnF (p:=fun x=>decide (0<(mo es) x)) (f:=fun x=>(mo es) x) hl2 hR).same sq.tup
end Sh
namespace L2
open PySem PySem.Spec PyProof.Rows
theorem Zm7:bootBuiltins "set" = some (.type "set"):=by decide +kernel
end L2
namespace Sh
open PySem L2 PyProof.Rows
seal L2.PE L2.PS L2.PSs L2.PT L2.PW L2.PA L2.PI L2.PG L2.PGs L2.PO L2.PC L2.PCs L2.OpR L2.UnR L2.CallR L2.MtR L2.IxR L2.SlR
variable {P:Program} {w:World} {K:PySem.W.Frag} {mg:Str->Option Value} {base:Heap}
variable {F ks ss:List Str} {H H2:Hp} {adr:Str->Addr} {d:Addr} {es:Es} {x y:Str}
theorem Zgj {vs:List V} {f:Str->Str} (hl:vs.length=es.length) (hR:∀ (i:Nat) (v:V),vs[i]?=some v->v= .str (f (es.getD i ("",0)).1)):vs=(es.map fun e=>f e.1).map V.str:=by
 apply QU;intro i;by_cases hi:i<vs.length
 ·have hie:i<es.length:=by omega
  rw[Qa hi,hR i _ (Qa hi),Qg,Qg,Qa hie,Qb,Qa hie];rfl
 ·rw[Qo (by omega),Qo (by rw[Qc,Qc];omega)]
def TupS (H:Hp) (v:V) (ss:List Str):Prop:=∃ q,v= .ref q/\H q=some (.tup (ss.map V.str))
theorem TupS.same {H':Hp} {v:V} (h:TupS H v ss) (s:Same H H'):TupS H' v ss:=by
 obtain⟨q,e,e2⟩:=h;exact⟨q,e,s _ _ e2⟩
abbrev Xd:Stmt:=top 19
abbrev Zal:List Str:=["H"]
theorem Zfw:Zp Zal ["H"] (Zg Xd):=⟨rfl,rfl,rfl,by decide +kernel,rfl,by decide +kernel,by decide +kernel⟩
def ZeE:Sp:=fun vs H Q _=>∃ (v:V) (es:Es),vs=[v]/\HeapV H v es/\Ziw es/\∀ v' H' ss,Same H H'->TupS H' v' ss->SPts es ss->Q v' H'
theorem Zcx (D:HasDef K mg "points_of" Xd ["H"]) (B:Blt mg) (g21_:FOk P w K mg base 1 "begin_of" ["piece"] Zbo) (g25_:FOk P w K mg base 1 "end_of" ["piece"] Zce):FOk P w K mg base 2 "points_of" ["H"] ZeE:=by
 refine D.ok Zfw (fun vs H Q E h=>?_) (fun f cdv A outer s H vs Q E hr h=>?_)
 ·obtain⟨v,es,rfl,_⟩:=h;rfl
 ·obtain⟨v,es,rfl,⟨q,vs,rfl,hq,hpa⟩,hF,k⟩:=h;refine⟨_,(Zi (Zq (ZJ ZH rfl B.tuple Yo (Za (Zj (Xm rfl) rfl B.sorted YJ (Za (ZJ (Zc7 rfl) rfl B.set Zm7 (Za (Zk Zcu (ZK (Zg Xd) Zal ["piece","many"] [] rfl (Yy (pv 0)) (fun _ _ _ _ _=>Yc 2 K rfl (Zw (Z6 0) (Zw (Z6 1) Yb))) (fun _ _ _ _ _=>Yd) (fun _ _ _ _ _=>(Zv g21_ hr (Za (pv 0) Zc))))
   (ZK (Zg Xd) Zal ["piece","many"] [] rfl (Yy (pv 0)) (fun _ _ _ _ _=>Yc 2 K rfl (Zw (Z6 0) (Zw (Z6 1) Yb))) (fun _ _ _ _ _=>Yd) (fun _ _ _ _ _=>(Zv g25_ hr (Za (pv 0) Zc))))) Zc)) Zc)) Zc)))),?_⟩
  have hfew:=hF.few;have hvl:=hpa.1;refine⟨_,rfl,q,rfl,⟨_,SqT.of hq⟩,YD vs.length (fun i=>vs.getD i .non) (fun i v _=>v= .str (bg (es.getD i ("",0)).1)) (Zh (by omega)) (fun _ _ _ _ _ r=>r) (Xz (SqT.of hq)) ?_ ?_⟩
  ·intro i H3 Qe hi hs kq;have hie:i<es.length:=by omega
   obtain⟨b,e1,e2⟩:=hpa.2 i es[i] (Qa hie);have ev:vs.getD i .non= .ref b:=by rw[Qb,e1];rfl
   have ee:es.getD i ("",0)=es[i]:=by rw[Qb,Qa hie];rfl
   obtain⟨l1,l2⟩:=hF.long es[i] (QB hie);rw[ev];refine⟨b,_,rfl,SqT.of (hs _ _ e2),rfl,_,_,rfl,_,_,rfl,rfl,_,rfl,es[i].1,rfl,l1,l2,kq _ _ (Same.refl _) ?_⟩;rw[ee]
  intro D1 vs1 H3 hl1 hr1 hs3 hD1 hDl1;rw[Zgj (f:=bg) (by omega) hr1]at hDl1;refine⟨_,rfl,q,rfl,⟨_,SqT.of (hs3 _ _ hq)⟩,YD vs.length (fun i=>vs.getD i .non) (fun i v _=>v= .str (en (es.getD i ("",0)).1)) (Zh (by omega)) (fun _ _ _ _ _ r=>r) (Xz (SqT.of (hs3 _ _ hq))) ?_ ?_⟩
  ·intro i H4 Qe hi hs kq;have hie:i<es.length:=by omega
   obtain⟨b,e1,e2⟩:=hpa.2 i es[i] (Qa hie);have ev:vs.getD i .non= .ref b:=by rw[Qb,e1];rfl
   have ee:es.getD i ("",0)=es[i]:=by rw[Qb,Qa hie];rfl
   obtain⟨l1,l2⟩:=hF.long es[i] (QB hie);rw[ev];refine⟨b,_,rfl,SqT.of (hs _ _ (hs3 _ _ e2)),rfl,_,_,rfl,_,_,rfl,rfl,_,rfl,es[i].1,rfl,l1,l2,kq _ _ (Same.refl _) ?_⟩;rw[ee]
  intro D2 vs2 H4 hl2 hr2 hs4 hD2 hDl2;rw[Zgj (f:=en) (by omega) hr2]at hDl2;refine⟨D1,D2,_,_,rfl,rfl,hs4 _ _ hDl1,hDl2,Zh (by simp only[Qc];omega),fun p hp=>?_⟩;have s5:=Zb (o:=.lst ((es.map fun e=>bg e.1).map V.str++(es.map fun e=>en e.1).map V.str)) hp;refine⟨p,(es.map fun e=>bg e.1)++(es.map fun e=>en e.1),rfl,SqL.of (by rw[Zd,Qz]),by simp only[Qd,Qc];omega,fun p2 ks hp2 hnd hmem hkl=>?_⟩;have hkl':ks.length<=2*es.length:=by simp only[Qd,Qc]at hkl;omega
  have hPk:Pts es ks:=by
   refine⟨hnd,fun x=>?_,hkl'⟩;rw[hmem,QF,Qi,Qi];constructor
   ·rintro(⟨e,he,z⟩ | ⟨e,he,z⟩)
    ·exact⟨e,he,.inl z⟩
    ·exact⟨e,he,.inr z⟩
   ·rintro⟨e,he,z | z⟩
    ·exact .inl ⟨e,he,z⟩
    ·exact .inr ⟨e,he,z⟩
  refine⟨p2,ks,rfl,Zd,hF.pts _ hPk,fun q2 ss hq2 hpm hsrt=>?_⟩;refine⟨q2,_,rfl,.inl ⟨SqL.of Zd,fun l hl=>?_⟩⟩;refine k (.ref l) _ ss (((((hs3.trans hs4).trans s5).trans (Zb hp2)).trans (Zb hq2)).trans (Zb hl)) ⟨l,rfl,Zd⟩ (SPts.of (ks:=ks) ⟨hnd,fun x=>?_,hkl'⟩ hpm hsrt);rw[hmem,QF,Qi,Qi];constructor
  ·rintro(⟨e,he,z⟩ | ⟨e,he,z⟩)
   ·exact⟨e,he,.inl z⟩
   ·exact⟨e,he,.inr z⟩
  ·rintro⟨e,he,z | z⟩
   ·exact .inl ⟨e,he,z⟩
   ·exact .inr ⟨e,he,z⟩
def rD (ks:List Str) (adr:Str->Addr):List (Key×V):=ks.map fun x=>((Sum.inr x:Key),V.ref (adr x))
theorem Zg1 (ks:List Str) (adr:Str->Addr):(rD ks adr).length=ks.length:=by unfold rD;rw[Qc]
theorem JD (ks:List Str) (adr:Str->Addr) (y:Str):Xx (rD ks adr) (Sum.inr y)=if y∈ks then some (.ref (adr y))else none:=XB (fun x=>V.ref (adr x)) y ks
theorem Zj6 {p:Addr} (h:y∉ks):Jc (rD ks adr) (Sum.inr y) (.ref p)=rD (ks++[y]) fun x=>if x=y then p else adr x:=by
 rw[JX _ (by rw[JD,if_neg h])];unfold rD;rw[Qz,Wc];dsimp only;rw[if_pos rfl];congr 1;refine Q3 fun x hx=>?_;rw[if_neg (fun e:x=y=>h (e▸hx))]
structure TJ (H H2:Hp) (d:Addr) (ks:List Str) (adr:Str->Addr) (r:Str->List Str):Prop where
 sm:Same H H2
 dn:H d=none
 dd:H2 d=some (.dK (rD ks adr))
 nd:ks.Nodup
 row:∀ P∈ks,H2 (adr P)=some (.lst ((r P).map V.str))
 fresh:∀ P∈ks,H (adr P)=none
 inj:∀ P∈ks,∀ P'∈ks,adr P=adr P'->P=P'
 out:∀ P,P∉ks->r P=[]
def Zel (r:Str->List Str) (P y:Str):Str->List Str:=fun x=>if x=P then r P++[y]else r x
theorem Zfo {r:Str->List Str} {P z:Str}:z∈Zel r P y x↔z∈r x\/(x=P/\z=y):=by
 unfold Zel;by_cases c:x=P
 ·subst c;rw[if_pos rfl];simp
 ·rw[if_neg c];simp[c]
theorem Zb2 {r:Str->List Str} {P:Str} {n:Nat} (h:∀ x,(r x).length<=n) (x:Str):(Zel r P y x).length<=n+1:=by
 unfold Zel;split
 ·have:=h P;simp;omega
 ·have:=h x;omega
theorem TJ.ne {r:Str->List Str} (J:TJ H H2 d ks adr r) {P:Str} (hP:P∈ks):adr P≠d:=fun e=>by
 have:=J.row P hP;rw[e,J.dd]at this;cases this
theorem TJ.old {p:Addr} {r:Str->List Str} (J:TJ H H2 d ks adr r) {P:Str} (hP:P∈ks) (hp:H2 p=none) :
  TJ H (upd (upd H2 p (.lst [])) (adr P) (.lst ((r P).map V.str++[.str y]))) d (Yx ks P) adr (Zel r P y):=by
 have ek:Yx ks P=ks:=by unfold Yx;rw[if_pos hP]
 rw[ek];have s1:=Zb (o:=.lst []) hp;refine⟨fun b u hb=>?_,J.dn,?_,J.nd,fun Q hQ=>?_,J.fresh,J.inj,fun Q hQ=>?_⟩
 ·rw[Zl fun e=>by rw[e,J.fresh P hP]at hb;cases hb];exact s1 _ _ (J.sm b u hb)
 ·rw[Zl (Ne.symm (J.ne hP))];exact s1 _ _ J.dd
 ·unfold Zel;by_cases c:Q=P
  ·subst c;rw[Zd,if_pos rfl,Qz];rfl
  ·rw[if_neg c,Zl fun e=>c (J.inj Q hQ P hP e)];exact s1 _ _ (J.row Q hQ)
 ·unfold Zel;rw[if_neg (fun e:Q=P=>hQ (e▸hP))];exact J.out Q hQ
theorem TJ.new {p:Addr} {r:Str->List Str} (J:TJ H H2 d ks adr r) {P:Str} (hP:P∉ks) (hp:H2 p=none) :
  TJ H (upd (upd (upd H2 p (.lst [])) d (.dK (rD (ks++[P]) fun x=>if x=P then p else adr x))) p (.lst ([]++[.str y]))) d (Yx ks P) (fun x=>if x=P then p else adr x) (Zel r P y):=by
 have ek:Yx ks P=ks++[P]:=by unfold Yx;rw[if_neg hP]
 rw[ek];have hpd:d≠p:=fun e=>by rw[←e,J.dd]at hp;cases hp
 have hpa:∀ Q∈ks,adr Q≠p:=fun Q hQ e=>by have:=J.row Q hQ;rw[e,hp]at this;cases this
 have mm:∀ Q,Q∈ks++[P]->Q∈ks\/Q=P:=fun Q h=>by simpa using h
 refine⟨fun b u hb=>?_,J.dn,?_,?_,fun Q hQ=>?_,fun Q hQ=>?_,fun Q hQ Q' hQ' e=>?_,fun Q hQ=>?_⟩
 ·have h2:=J.sm b u hb;rw[Zl (Zo h2 hp),Zl (Zo hb J.dn),Zl (Zo h2 hp)];exact h2
 ·rw[Zl hpd,Zd]
 ·exact WA.mpr ⟨J.nd,by simp,fun a ha b hb e=>by rw[Qm.mp hb]at e;subst e;exact hP ha⟩
 ·unfold Zel;by_cases c:Q=P
  ·subst c;rw[if_pos rfl,if_pos rfl,Zd,J.out Q hP];rfl
  ·rw[if_neg c,if_neg c];have hQ':Q∈ks:=(mm Q hQ).resolve_right c;rw[Zl (hpa Q hQ'),Zl (J.ne hQ'),Zl (hpa Q hQ')];exact J.row Q hQ'
 ·skip
  by_cases c:Q=P
  ·rw[if_pos c];cases hh:H p with
   | none=>rfl
   | some u=>have:=J.sm p u hh;rw[hp]at this;cases this
  ·rw[if_neg c];exact J.fresh Q ((mm Q hQ).resolve_right c)
 ·skip
  by_cases c:Q=P
  ·by_cases c':Q'=P
   ·rw[c,c']
   ·rw[if_pos c,if_neg c']at e;exact absurd e.symm (hpa Q' ((mm Q' hQ').resolve_right c'))
  ·by_cases c':Q'=P
   ·rw[if_neg c,if_pos c']at e;exact absurd e (hpa Q ((mm Q hQ).resolve_right c))
   ·rw[if_neg c,if_neg c']at e;exact J.inj Q ((mm Q hQ).resolve_right c) Q' ((mm Q' hQ').resolve_right c') e
 ·have h1:Q∉ks:=fun z=>hQ (QM _ z);have h2:¬ Q=P:=fun z=>hQ (by simp[z]);unfold Zel;rw[if_neg h2];exact J.out Q h1
def TiR (H:Hp) (q d:Addr) (es:Es) (i:Nat):L2.St->Hp->Prop:=fun σ H2=>(∃ z2 z3:Option V,σ=[some (.ref q),some (.ref d),z2,z3])/\∃ ks adr r,TJ H H2 d ks adr r/\Pts (es.take i) ks/\(∀ P y,y∈r P↔Adj (es.take i) P y)/\∀ P,(r P).length<=2*i
abbrev XD:Stmt:=top 25
abbrev Zd0:List Str:=["H","tied","piece","many"]
theorem scTiedPoints:Zp Zd0 ["H"] (Zg XD):=⟨rfl,rfl,rfl,by decide +kernel,rfl,by decide +kernel,by decide +kernel⟩
def ZjQ:Sp:=fun vs H Q _=>∃ (v:V) (es:Es),vs=[v]/\HeapV H v es/\Ziw es/\∀ d H' ks adr r,TJ H H' d ks adr r->Pts es ks->(∀ P y,y∈r P↔Adj es P y)->(∀ P,(r P).length<=128)->Q (.ref d) H'
theorem ZaL (D:HasDef K mg "tied_points" XD ["H"]) (g21_:FOk P w K mg base 1 "begin_of" ["piece"] Zbo) (g25_:FOk P w K mg base 1 "end_of" ["piece"] Zce):FOk P w K mg base 2 "tied_points" ["H"] ZjQ:=by
 refine D.ok scTiedPoints (fun vs H Q E h=>?_) (fun f cdv A outer s H vs Q E hr h=>?_)
 ·obtain⟨v,es,rfl,_⟩:=h;rfl
 ·obtain⟨v,es,rfl,⟨q,vs,rfl,hq,hpa⟩,hF,k⟩:=h;refine⟨_,(Ze (Zm (i:=1) scTiedPoints.nd rfl (.inl rfl) XV)
   (Ze (Yi PassesOwn.never rfl (Yy (pv 0)) (Yc 2 K rfl (Zw (ZI (i:=2) scTiedPoints.nd rfl (.inl rfl)) (Zw (ZI (i:=3) scTiedPoints.nd rfl (.inl rfl)) Yb)))
    (Ze (Z8 (Xf F.plainAttrs_list F.slot_list_append F.type_list_append Z1 (ZdO (pv 1) (Zv g21_ hr (Za (pv 2) Zc)) (ZT Zc) ⟨rfl,rfl,rfl,rfl⟩) (Za (Zv g25_ hr (Za (pv 2) Zc)) Zc)))
   (Zi (Z8 (Xf F.plainAttrs_list F.slot_list_append F.type_list_append Z1 (ZdO (pv 1) (Zv g25_ hr (Za (pv 2) Zc)) (ZT Zc) ⟨rfl,rfl,rfl,rfl⟩) (Za (Zv g21_ hr (Za (pv 2) Zc)) Zc))))))
   (Zi (Zq (pv 1))))),?_⟩
  intro d hd;have s1:=Zb (o:=.dK []) hd;refine⟨_,rfl,q,rfl,⟨_,SqT.of (s1 _ _ hq)⟩,?_⟩;refine Jw (K:=K) (a:=q) (xs:=vs) (fun i σ H2=>(∃ z2 z3:Option V,σ=[some (.ref q),some (.ref d),z2,z3])/\∃ ks adr r,TJ H H2 d ks adr r/\Pts (es.take i) ks/\(∀ P y,y∈r P↔Adj (es.take i) P y)/\∀ P,(r P).length<=2*i)
   ⟨⟨none,none,rfl⟩,[],fun _=>d,fun _=>[],⟨s1,hd,Zd,Uo,(fun P h=>by cases h),(fun P h=>by cases h),(fun P h=>by cases h),fun _ _=>rfl⟩,Pts.nil,(fun P y=>by simp[Adj]),fun P=>Qk _⟩ (fun i σ H2 _ ⟨_,_,_,_,J,_⟩=>SqT.of (J.sm _ _ hq)) ?_ ?_
  ·rintro i x σ H2 hi ⟨⟨z2,z3,rfl⟩,ks,adr,r,J,hk,hadj,hlen⟩;have hiv:i<vs.length:=(Qp.mp hi).1;have hie:i<es.length:=by rw[←hpa.1];exact hiv
   obtain⟨b,e1,e2⟩:=hpa.2 i es[i] (Qa hie);rw[hi]at e1;cases e1;obtain⟨l1,l2⟩:=hF.long es[i] (QB hie);have hkl:=hk.len;have hfew:=hF.few;rw[QP]at hkl;refine⟨b,_,rfl,SqT.of (J.sm _ _ e2),rfl,_,_,rfl,_,_,rfl,rfl,?_⟩;have het:es.take (i+1)=es.take i++[es[i]]:=QR hie;generalize es[i]=e at *;have one:∀ (H3:Hp) (ks3:List Str) (adr3:Str->Addr) (r3:Str->List Str) (P y:Str) (R:L2.St->Hp->Prop) (σ3:L2.St),TJ H H3 d ks3 adr3 r3->ks3.length<=500->(∀ x,(r3 x).length<=500)->(∀ H4 adr4,TJ H H4 d (Yx ks3 P) adr4 (Zel r3 P y)->R σ3 H4)->∀ p,H3 p=none ->
     (∀ v,Xx (rD ks3 adr3) (Sum.inr P:Key)=some v->∃ l xs,v= .ref l/\(upd H3 p (.lst [])) l=some (.lst xs)/\xs.length<sizeLine/\R σ3 (upd (upd H3 p (.lst [])) l (.lst (xs++[.str y])))) /\
     (Xx (rD ks3 adr3) (Sum.inr P:Key)=none->∃ xs,(upd (upd H3 p (.lst [])) d (.dK (Jc (rD ks3 adr3) (Sum.inr P) (.ref p)))) p=some (.lst xs)/\xs.length<sizeLine/\R σ3 (upd (upd (upd H3 p (.lst [])) d (.dK (Jc (rD ks3 adr3) (Sum.inr P) (.ref p)))) p (.lst (xs++[.str y])))):=by
    intro H3 ks3 adr3 r3 P y R σ3 J3 hks hr3 hR p hp;constructor
    ·intro v hv;rw[JD]at hv;by_cases c:P∈ks3
     ·rw[if_pos c]at hv;cases hv;refine⟨adr3 P,(r3 P).map V.str,rfl,Zb hp _ _ (J3.row P c),?_,hR _ _ (J3.old c hp)⟩;rw[Qc];have:=hr3 P;exact ZF (by omega)
     ·rw[if_neg c]at hv;cases hv
    ·intro hv;rw[JD]at hv;by_cases c:P∈ks3
     ·rw[if_pos c]at hv;cases hv
     ·have hpd:p≠d:=fun e=>by rw[e,J3.dd]at hp;cases hp
      refine⟨[],by rw[Zl hpd,Zd],ZF (by decide),?_⟩;rw[Zj6 c];exact hR _ _ (J3.new c hp)
   have hkz:ks.length<=500:=by omega
   have hrz:∀ x,(r x).length<=500:=fun x=>by have:=hlen x;omega
   show Zdm _ _ _ _ _;refine ZdE (fun σ H'=>σ=[some (.ref q),some (.ref d),some (.str e.1),some (.int e.2)]/\∃ adr',TJ H H' d (Yx ks (bg e.1)) adr' (Zel r (bg e.1) (en e.1))) (fun R hR=>?_) ?_
   ·refine⟨_,rfl,d,rfl,.inl ⟨_,.inl J.dd⟩,_,rfl,e.1,rfl,l1,l2,Zh (show 0<=1000 by decide),fun p hp=>?_⟩;refine⟨_,Sum.inr (bg e.1),Zb hp _ _ J.dd,rfl,by rw[Zg1];exact ZF (by omega),fun v hv=>?_,fun hv=>?_⟩
    ·obtain⟨l,xs,rfl,hl,hz,hr'⟩:=(one H2 ks adr r (bg e.1) (en e.1) R [some (.ref q),some (.ref d),some (.str e.1),some (.int e.2)] J hkz hrz (fun H4 adr4 J4=>hR _ _ ⟨rfl,adr4,J4⟩) p hp).1 v hv;exact⟨.inl ⟨rfl,_,SqL.of hl⟩,_,rfl,e.1,rfl,l1,l2,l,xs,.str (en e.1),rfl,rfl,hl,hz,hr'⟩
    ·obtain⟨xs,hl,hz,hr'⟩:=(one H2 ks adr r (bg e.1) (en e.1) R [some (.ref q),some (.ref d),some (.str e.1),some (.int e.2)] J hkz hrz (fun H4 adr4 J4=>hR _ _ ⟨rfl,adr4,J4⟩) p hp).2 hv;exact⟨.inl ⟨rfl,_,SqL.of hl⟩,_,rfl,e.1,rfl,l1,l2,p,xs,.str (en e.1),rfl,rfl,hl,hz,hr'⟩
   rintro σ H3 ⟨rfl,adr3,J3⟩;have hal:=Y7 ks (bg e.1);have hrz3:∀ x,(Zel r (bg e.1) (en e.1) x).length<=500:=fun x=>by have:=Zb2 (P:=bg e.1) (y:=en e.1) hlen x;omega
   have fin:∀ H4 adr4,TJ H H4 d (Yx (Yx ks (bg e.1)) (en e.1)) adr4 (Zel (Zel r (bg e.1) (en e.1)) (en e.1) (bg e.1))->TiR H q d es (i+1) [some (.ref q),some (.ref d),some (.str e.1),some (.int e.2)] H4:=fun H4 adr4 J4=>by
    refine⟨⟨_,_,rfl⟩,_,adr4,_,J4,by rw[het];exact hk.step e,fun P y=>?_,fun P=>?_⟩
    ·rw[Zfo,Zfo,hadj,het,ZjI];constructor
     ·rintro((z | ⟨z1,z2⟩) | ⟨z1,z2⟩)
      ·exact .inl z
      ·exact .inr (.inl ⟨z1.symm,z2.symm⟩)
      ·exact .inr (.inr ⟨z1.symm,z2.symm⟩)
     ·rintro(z | ⟨z1,z2⟩ | ⟨z1,z2⟩)
      ·exact .inl (.inl z)
      ·exact .inl (.inr ⟨z1.symm,z2.symm⟩)
      ·exact .inr ⟨z1.symm,z2.symm⟩
    ·have:=Zb2 (P:=en e.1) (y:=bg e.1) (fun x=>Zb2 (P:=bg e.1) (y:=en e.1) hlen x) P;omega
   refine⟨_,rfl,d,rfl,.inl ⟨_,.inl J3.dd⟩,_,rfl,e.1,rfl,l1,l2,Zh (show 0<=1000 by decide),fun p hp=>?_⟩;refine⟨_,Sum.inr (en e.1),Zb hp _ _ J3.dd,rfl,by rw[Zg1];exact ZF (by omega),fun v hv=>?_,fun hv=>?_⟩
   ·obtain⟨l,xs,rfl,hl,hz,hr'⟩:=(one H3 _ adr3 _ (en e.1) (bg e.1) (TiR H q d es (i+1)) [some (.ref q),some (.ref d),some (.str e.1),some (.int e.2)] J3 (by omega) hrz3 fin p hp).1 v hv;exact⟨.inl ⟨rfl,_,SqL.of hl⟩,_,rfl,e.1,rfl,l1,l2,l,xs,.str (bg e.1),rfl,rfl,hl,hz,hr'⟩
   ·obtain⟨xs,hl,hz,hr'⟩:=(one H3 _ adr3 _ (en e.1) (bg e.1) (TiR H q d es (i+1)) [some (.ref q),some (.ref d),some (.str e.1),some (.int e.2)] J3 (by omega) hrz3 fin p hp).2 hv;exact⟨.inl ⟨rfl,_,SqL.of hl⟩,_,rfl,e.1,rfl,l1,l2,p,xs,.str (bg e.1),rfl,rfl,hl,hz,hr'⟩
  ·rintro σ H2 ⟨⟨z2,z3,rfl⟩,ks,adr,r,J,hk,hadj,hlen⟩;rw[hpa.1,Wr]at hk hadj;have:=hF.few;exact⟨_,rfl,k d H2 ks adr r J hk hadj fun P=>by have:=hlen P;rw[hpa.1]at this;omega⟩
def bD (ks:List Str):List (Key×V):=ks.map fun x=>((Sum.inr x:Key),V.bl true)
theorem Zdj (ks:List Str):(bD ks).length=ks.length:=by unfold bD;rw[Qc]
theorem Zdh (ks:List Str) (y:Str):Xx (bD ks) (Sum.inr y)=if y∈ks then some (.bl true)else none:=XB (fun _=>V.bl true) y ks
theorem Zdi (ks:List Str) (y:Str):Jc (bD ks) (Sum.inr y) (.bl true)=bD (Yx ks y):=by
 unfold Yx;by_cases m:y∈ks
 ·rw[if_pos m];unfold bD;rw[Jr _ _ _ _ m];refine Q3 fun x _=>?_;simp
 ·rw[if_neg m,JX _ (by rw[Zdh,if_neg m])];unfold bD;rw[Qz,Wc]
theorem Zjm (nd:ss.Nodup) (h:(ss.map fun x=>x.cps.toList).Pairwise (·<=·)):(ss.map fun x=>x.cps.toList).Pairwise (· < ·):=by
 rw[QY]at h ⊢;have:=List.Pairwise.and nd h;refine this.imp fun {a b} q=>?_;refine Tim.lt_ne (fun z=>?_) (Ne.symm q.1);exact absurd z (Ul.mpr q.2)
structure Wk (es:Es) (a:Str) (ks F W:List Str):Prop where
 nd:F.Nodup
 fst:a∈F
 rch:∀ x∈F,Rch es a x
 sub:∀ x∈W,x∈F
 inn:∀ x∈F,x∈ks
theorem Wk.le {a:Str} {W:List Str} (h:Wk es a ks F W):F.length<=ks.length:=by
 have h1:=h.nd;have h2:=h.inn;clear h;induction F generalizing ks with
 | nil=>exact QV _
 | cons x F ih =>
  have nd':=Wj.mp h1;have hx:=h2 x (Qj ..);have p:=WN hx;have:=ih (ks:=ks.erase x) nd'.2 fun y hy=>(Ws (fun(q:y=x)=>nd'.1 (q▸hy))).mpr (h2 y (Ql _ hy));rw[Wh hx]at this;have hpos:0<ks.length:=Wo hx;rw[QG];omega
abbrev ZdJ:Stmt:=top 26
abbrev Zk9:List Str:=["H","tied","first","found","waiting","here","point"]
theorem scPartOf:Zp Zk9 ["H"] (Zg ZdJ):=⟨rfl,rfl,rfl,by decide +kernel,rfl,by decide +kernel,by decide +kernel⟩
def ZjV:Sp:=fun vs H Q _=>∃ (v:V) (e:Str×Int) (es:Es),vs=[v]/\HeapV H v (e::es)/\Ziw (e::es)/\∀ v' H' ss,Same H H'->TupS H' v' ss->(ss.map fun x=>x.cps.toList).Pairwise (· < ·)->ss.length<=128->(∀ x,x∈ss↔Rch (e::es) (bg e.1) x)->Q v' H'
theorem ZfC (D:HasDef K mg "part_of" ZdJ ["H"]) (B:Blt mg) (g21_:FOk P w K mg base 2 "begin_of" ["piece"] Zbo) (g42_:FOk P w K mg base 2 "tied_points" ["H"] ZjQ):FOk P w K mg base 3 "part_of" ["H"] ZjV:=by
 refine D.ok scPartOf (fun vs H Q E h=>?_) (fun f cdv A outer s H vs Q E hr h=>?_)
 ·obtain⟨v,e,es,rfl,_⟩:=h;rfl
 ·obtain⟨v,e,es0,rfl,hV,hF,k⟩:=h;have hu:=ZaO hr;obtain⟨q,vs,rfl,hq,hpa⟩:=id hV;refine⟨_,(Ze (Zm (i:=1) scPartOf.nd rfl (.inl rfl) (Zv g42_ hr (Za (pv 0) Zc)))
   (Ze (Zm (i:=2) scPartOf.nd rfl (.inl rfl) (Zv g21_ hr (Za (ZB ix_tup (ZB ix_tup (pv 0) Zf (fun _ _=>rfl)) Zf (fun _ _=>rfl)) Zc)))
   (Ze (Zm (i:=3) scPartOf.nd rfl (.inl rfl) (Zhf (ZeQ (pv 2) Yf Zg6) rfl rfl (UG _ _) (by decide)))
   (Ze (Zm (i:=4) scPartOf.nd rfl (.inl rfl) (ZT (Za (pv 2) Zc)))
   (Ze (ZbB PassesOwn.never (Zt ZbE (Zj Zr rfl B.len ZX (Za (pv 4) Zc)) Zf (Zy _))
    (Ze (Zm (i:=5) scPartOf.nd rfl (.inl rfl) (Zhg F.plainAttrs_list F.slot_list_pop F.type_list_pop Zd3 (pv 4)))
   (Zi (Yi PassesOwn.never rfl (Ym (YX hu (pv 1) (pv 5) (fun _ _=>rfl))) (ZI (i:=6) scPartOf.nd rfl (.inl rfl))
    (Zi (Z2 (ZaV (XW hu (pv 6) (pv 3))) (Ze (YK hu (pv 3) (pv 6) Yf rfl)
   (Zi (Z8 (Xf F.plainAttrs_list F.slot_list_append F.type_list_append Z1 (pv 4) (Za (pv 6) Zc))))) Zx))))))
   (Zi (Zq (ZJ ZH rfl B.tuple Yo (Za (Zj (ZaQ rfl) rfl B.sorted YJ (Za (pv 3) Zc)) Zc))))))))),?_⟩
  obtain⟨b0,eb0,hb0⟩:=hpa.2 0 e rfl;obtain⟨l1,l2⟩:=hF.long e (Qj ..);refine⟨_,rfl,.ref q,e::es0,rfl,hV,hF,fun d H1 ks adr r J hk hadj hlen=>?_⟩;have hf1:=hk.len;have hf2:=hF.few;have haK:bg e.1∈ks:=(hk.mem _).mpr ⟨e,Qj ..,.inl rfl⟩;generalize hes:e::es0=es at *;refine⟨_,rfl,q,vs,0,.ref b0,rfl,rfl,SqT.of (J.sm _ _ hq),ZS (by decide) eb0,b0,_,0,.str e.1,rfl,rfl,SqT.of (J.sm _ _ hb0),rfl,e.1,rfl,l1,l2,fun fd hfd=>?_⟩;refine⟨_,rfl,Zd,[((Sum.inr (bg e.1):Key),V.bl true)],rfl,by simp,?_⟩;rw[Jg];have s2:Same H1 (upd H1 fd (.dK (Xh [] [((Sum.inr (bg e.1):Key),V.bl true)]))):=Zb hfd;have hfd2:(upd H1 fd (.dK (Xh [] [((Sum.inr (bg e.1):Key),V.bl true)]))) fd=some (.dK (bD [bg e.1])):=Zd;generalize upd H1 fd (.dK (Xh [] [((Sum.inr (bg e.1):Key),V.bl true)]))=H2 at s2 hfd2;refine⟨_,rfl,Zh (show 1<=1000 by decide),fun wl hwl=>?_⟩;have hwl1:H1 wl=none:=s2.free hwl;have hne:wl≠fd:=fun z=>by rw[z,hfd2]at hwl;cases hwl
  have s3:=s2.trans (Zb (o:=.lst [.str (bg e.1)]) hwl);have hfd3:=Zb (o:=.lst [.str (bg e.1)]) hwl _ _ hfd2;have hwl3:(upd H2 wl (.lst [.str (bg e.1)])) wl=some (.lst ([bg e.1].map V.str)):=Zd;generalize upd H2 wl (.lst [.str (bg e.1)])=H3 at s3 hfd3 hwl3;have shift:∀ {H4:Hp} (F W:List Str),Same H1 H4->Same H1 (upd (upd H4 fd (.dK (bD F))) wl (.lst (W.map V.str))):=fun F W s b u hb=>by
   rw[Zl (Zo hb hwl1),Zl (Zo hb hfd)];exact s b u hb
  have shW:∀ {H4:Hp} (o:HO),Same H1 H4->Same H1 (upd H4 wl o):=fun o s b u hb=>by
   rw[Zl (Zo hb hwl1)];exact s b u hb
  have shF:∀ {H4:Hp} (o:HO),Same H1 H4->Same H1 (upd H4 fd o):=fun o s b u hb=>by
   rw[Zl (Zo hb hfd)];exact s b u hb
  try dsimp only[XL]
  show Zdm (Zey _ _) _ _ _ _;refine ZdE (fun σ H4=>∃ (F:List Str) (z5 z6:Option V),σ=[some (.ref q),some (.ref d),some (.str (bg e.1)),some (.ref fd),some (.ref wl),z5,z6]/\Same H1 H4/\H4 fd=some (.dK (bD F))/\Wk es (bg e.1) ks F []/\∀ x∈F,∀ y,Adj es x y->y∈F) (fun R hR=>?_) ?_
  ·refine⟨fun m σ H4=>∃ (F W:List Str) (z5 z6:Option V),σ=[some (.ref q),some (.ref d),some (.str (bg e.1)),some (.ref fd),some (.ref wl),z5,z6]/\Same H1 H4/\H4 fd=some (.dK (bD F))/\H4 wl=some (.lst (W.map V.str))/\Wk es (bg e.1) ks F W/\(∀ x∈F,x∉W->∀ y,Adj es x y->y∈F)/\m=2*(ks.length-F.length)+W.length/\m<=2*ks.length,
    ⟨_,[bg e.1],[bg e.1],none,none,rfl,s3,hfd3,hwl3,⟨by simp,by simp,(fun x hx=>by rw[Qm.mp hx];exact .here),fun x hx=>hx,fun x hx=>by rw[Qm.mp hx];exact haK⟩,(fun x hx hw=>absurd hx hw),rfl,by have:=Wo haK;simp only[Qr];omega⟩,?_⟩
   rintro m σ H4 ⟨F,W,z5,z6,rfl,s4,hfd4,hwl4,hW,hcl,hm,hw5⟩;refine⟨_,rfl,.ref wl,_,rfl,.inl ⟨_,SqL.of hwl4,rfl⟩,_,_,rfl,rfl,_,rfl,?_⟩;rcases WE W with rfl | ⟨r0,here,rfl⟩
   ·exact Yu (by decide) (hR _ _ ⟨F,z5,z6,rfl,s4,hfd4,hW,fun x hx=>hcl x hx (fun z=>by cases z)⟩)
   rw[WF]at *;refine Y3 (decide_eq_true (by rw[Qz,Qd,Wc,Qr];omega)) ?_;have hhF:here∈F:=hW.sub here (by simp);have hhK:=hW.inn here hhF;rw[Qd,Qr]at hm;refine⟨fun σ' H'=>∃ m',m'<m/\∃ (F W:List Str) (z5 z6:Option V),σ'=[some (.ref q),some (.ref d),some (.str (bg e.1)),some (.ref fd),some (.ref wl),z5,z6]/\Same H1 H'/\H' fd=some (.dK (bD F))/\H' wl=some (.lst (W.map V.str))/\Wk es (bg e.1) ks F W/\(∀ x∈F,x∉W->∀ y,Adj es x y->y∈F)/\m'=2*(ks.length-F.length)+W.length/\m'<=2*ks.length,fun _ _ z=>z,?_⟩;refine⟨_,rfl,.inl ⟨rfl,_,SqL.of hwl4⟩,wl,_,V.str here,rfl,rfl,hwl4,by rw[Qz,Wc];simp,?_⟩;rw[show((r0++[here]).map V.str).dropLast=r0.map V.str by rw[Qz,Wc,Uk]];have s5:Same H1 (upd H4 wl (.lst (r0.map V.str))):=shW _ s4;have hwl5:(upd H4 wl (.lst (r0.map V.str))) wl=some (.lst (r0.map V.str)):=Zd;have hfd5:(upd H4 wl (.lst (r0.map V.str))) fd=some (.dK (bD F)):=by rw[Zl (Ne.symm hne)];exact hfd4
   generalize upd H4 wl (.lst (r0.map V.str))=H5 at s5 hwl5 hfd5;refine⟨_,rfl,_,rfl,d,.ref (adr here),rfl,.inl ⟨_,Sum.inr here,.inl (s5 _ _ J.dd),rfl,by rw[JD,if_pos hhK]⟩,adr here,rfl,⟨_,SqL.of (s5 _ _ (J.row here hhK))⟩,?_⟩;refine X4 (K:=K) (a:=adr here) (xs:=(r here).map V.str) (fun j σ' H'=>∃ (F W:List Str) (z6:Option V),σ'=[some (.ref q),some (.ref d),some (.str (bg e.1)),some (.ref fd),some (.ref wl),some (.str here),z6]/\Same H1 H'/\H' fd=some (.dK (bD F))/\H' wl=some (.lst (W.map V.str))/\Wk es (bg e.1) ks F W/\(∀ x∈F,x∉W->x≠here->∀ y,Adj es x y->y∈F)/\(∀ y∈(r here).take j,y∈F)/\2*(ks.length-F.length)+W.length+1<=m)
    ⟨F,r0,z6,rfl,s5,hfd5,hwl5,⟨hW.nd,hW.fst,hW.rch,fun x hx=>hW.sub x (QM _ hx),hW.inn⟩,fun x hx h1 h2=>hcl x hx (fun z=>by rcases QF.mp z with z | z;exact h1 z;exact h2 (Qm.mp z)),(fun y hy=>by rw[Wz]at hy;cases hy),by omega⟩
    (fun i σ' H' _ ⟨_,_,_,_,s6,_⟩=>SqL.of (s6 _ _ (J.row here hhK))) ?_ ?_
   ·rintro j x σ' H6 hj ⟨F6,W6,z6',rfl,s6,hfd6,hwl6,hW6,hcl6,hin6,hm6⟩;rw[Qg]at hj;obtain⟨y,hy,rfl⟩:=QS.mp hj;have hya:Adj es here y:=(hadj here y).mp (QX hy);have hyK:y∈ks:=by
     obtain⟨e',he',q'⟩:=hya;rcases q' with ⟨_,q'⟩ | ⟨_,q'⟩
     ·exact(hk.mem y).mpr ⟨e',he',.inr q'⟩
     ·exact(hk.mem y).mpr ⟨e',he',.inl q'⟩
    have htk:(r here).take (j+1)=(r here).take j++[y]:=by
     rw[RP,hy];rfl
    have hle6:=hW6.le;refine⟨_,rfl,_,rfl,fd,Xx (bD F6) (Sum.inr y),rfl,.inl ⟨_,Sum.inr y,.inl hfd6,rfl,rfl⟩,?_⟩;rw[Zdh];by_cases c:y∈F6
    ·rw[if_pos c];refine⟨_,rfl,Yu rfl ⟨F6,W6,_,rfl,s6,hfd6,hwl6,hW6,hcl6,fun y' hy'=>?_,hm6⟩⟩;rw[htk]at hy';rcases QF.mp hy' with z | z
     ·exact hin6 y' z
     ·rw[Qm.mp z];exact c
    ·rw[if_neg c];have hW7:Wk es (bg e.1) ks (F6++[y]) (W6++[y]):=⟨WA.mpr ⟨hW6.nd,by simp,fun a ha b hb e=>by rw[Qm.mp hb]at e;subst e;exact c ha⟩,QM _ hW6.fst,(fun x hx=>by
       rcases QF.mp hx with z | z
       ·exact hW6.rch x z
       ·rw[Qm.mp z];exact .step (hW.rch here hhF) hya),(fun x hx=>by
       rcases QF.mp hx with z | z
       ·exact QM _ (hW6.sub x z)
       ·rw[Qm.mp z];simp),fun x hx=>by
       rcases QF.mp hx with z | z
       ·exact hW6.inn x z
       ·rw[Qm.mp z];exact hyK⟩
     have hlt:F6.length+1<=ks.length:=by
      have:=hW7.le;rw[Qd,Qr]at this;exact this
     refine⟨_,rfl,Y3 rfl ⟨_,rfl,_,rfl,fd,_,rfl,DPut.kk (k:=Sum.inr y) hfd6 (by rw[Zdj];exact ZF (by omega)),?_⟩⟩;rw[Zdi,show Yx F6 y=F6++[y]by unfold Yx;rw[if_neg c]];have s7:Same H1 (upd H6 fd (.dK (bD (F6++[y])))):=shF _ s6;have hfd7:(upd H6 fd (.dK (bD (F6++[y])))) fd=some (.dK (bD (F6++[y]))):=Zd;have hwl7:(upd H6 fd (.dK (bD (F6++[y])))) wl=some (.lst (W6.map V.str)):=by rw[Zl hne];exact hwl6
     generalize upd H6 fd (.dK (bD (F6++[y])))=H7 at s7 hfd7 hwl7;refine⟨_,rfl,.inl ⟨rfl,_,SqL.of hwl7⟩,_,rfl,wl,_,.str y,rfl,rfl,hwl7,by rw[Qc];exact ZF (by omega),?_⟩;refine⟨F6++[y],W6++[y],_,rfl,shW _ s7,by rw[Zl (Ne.symm hne)];exact hfd7,by rw[Zd,Qz,Wc],hW7,fun x hx hxw hxh y' hy'=>?_,fun y' hy'=>?_,by rw[Qd,Qd,Qr];omega⟩
     ·rcases QF.mp hx with z | z
      ·exact QM _ (hcl6 x z (fun q=>hxw (QM _ q)) hxh y' hy')
      ·exact absurd (QH _ z) hxw
     ·rw[htk]at hy';rcases QF.mp hy' with z | z
      ·exact QM _ (hin6 y' z)
      ·exact QH _ z
   ·rintro σ' H6 ⟨F6,W6,z6',rfl,s6,hfd6,hwl6,hW6,hcl6,hin6,hm6⟩;rw[Qc,Wr]at hin6;refine⟨_,?_,F6,W6,_,_,rfl,s6,hfd6,hwl6,hW6,fun x hx hxw y hxy=>?_,rfl,?_⟩
    ·omega
    ·by_cases c:x=here
     ·subst c;exact hin6 y ((hadj x y).mpr hxy)
     ·exact hcl6 x hx hxw c y hxy
    ·omega
  ·rintro σ H4 ⟨F,z5,z6,rfl,s4,hfd4,hW,hcl⟩;have hle:=hW.le;refine⟨_,rfl,fd,F,fun _=>.bl true,rfl,hfd4,hW.nd,WW hle (hF.pts _ hk),fun p ss hp hpm hsrt=>?_⟩;refine⟨p,_,rfl,.inl ⟨SqL.of Zd,fun l hl=>?_⟩⟩;refine k (.ref l) _ ss (((J.sm.trans s4).trans (Zb hp)).trans (Zb hl)) ⟨l,rfl,Zd⟩ (Zjm (hpm.nodup_iff.mpr hW.nd) hsrt) (by rw[hpm.length_eq];omega) fun x=>?_;rw[hpm.mem_iff];exact⟨hW.rch x,fun z=>Rch.closed hW.fst hcl z⟩
theorem Zk7:∀ {ks:List Str},F.Nodup->(∀ x∈F,x∈ks)->F.length<=ks.length:=by
 induction F with
 | nil=>exact fun _ _=>QV _
 | cons x F ih =>
  intro ks h1 h2;have nd':=Wj.mp h1;have hx:=h2 x (Qj ..);have:=ih (ks:=ks.erase x) nd'.2 fun y hy=>(Ws (fun(q:y=x)=>nd'.1 (q▸hy))).mpr (h2 y (Ql _ hy));rw[Wh hx]at this;have hpos:0<ks.length:=Wo hx;rw[QG];omega
theorem Zms (h1:F.Nodup) (h2:∀ x∈F,x∈ks) (he:F.length=ks.length):∀ x∈ks,x∈F:=by
 intro x hx;apply Classical.byContradiction;intro hn;have:=Zk7 (ks:=ks.erase x) h1 fun y hy=>(Ws (fun(q:y=x)=>hn (q▸hy))).mpr (h2 y hy);rw[Wh hx]at this;have hpos:0<ks.length:=Wo hx;omega
theorem Zjd (h:(ss.map fun x=>x.cps.toList).Pairwise (· < ·)):ss.Nodup:=by
 rw[QY]at h;refine h.imp fun {a b} q e=>?_;subst e;exact Wy _ q
theorem Rch.pt {e:Str×Int} (h:Rch (e::es) (bg e.1) x):∃ e'∈e::es,bg e'.1=x\/en e'.1=x:=by
 cases h with
 | here=>exact⟨e,by simp,.inl rfl⟩
 | step _ k =>
  obtain⟨e',he,⟨_,q⟩ | ⟨_,q⟩⟩:=k
  ·exact⟨e',he,.inr q⟩
  ·exact⟨e',he,.inl q⟩
theorem Zjw {e:Str×Int} {pp:List Str} (n1:ss.Nodup) (h1:∀ x,x∈ss↔Rch (e::es) (bg e.1) x) (n2:pp.Nodup) (h2:∀ x,x∈pp↔∃ e'∈e::es,bg e'.1=x\/en e'.1=x) :
  ss.length=pp.length↔∀ e'∈e::es,Rch (e::es) (bg e.1) (bg e'.1):=by
 have sub:∀ x∈ss,x∈pp:=fun x hx=>(h2 x).mpr ((h1 x).mp hx).pt;constructor
 ·intro he e' he';exact(h1 _).mp (Zms n1 sub he _ ((h2 _).mpr ⟨e',he',.inl rfl⟩))
 ·intro h;have:∀ x∈pp,x∈ss:=fun x hx=>by
   obtain⟨e',he',q | q⟩:=(h2 x).mp hx
   ·rw[←q];exact(h1 _).mpr (h e' he')
   ·exact(h1 _).mpr (.step (h e' he') ⟨e',he',.inl ⟨rfl,q⟩⟩)
  have a:=Zk7 n1 sub;have b:=Zk7 n2 this;omega
abbrev ZgR:Stmt:=top 27
abbrev ZmC:List Str:=["H"]
theorem ZkP:Zp ZmC ["H"] (Zg ZgR):=⟨rfl,rfl,rfl,by decide +kernel,rfl,by decide +kernel,by decide +kernel⟩
def Zgu:Sp:=fun vs H Q _=>∃ (v:V) (e:Str×Int) (es:Es),vs=[v]/\HeapV H v (e::es)/\Ziw (e::es)/\∀ H' (b:Bool),Same H H'->(b=true↔∀ e'∈e::es,Rch (e::es) (bg e.1) (bg e'.1))->Q (.bl b) H'
theorem Zjb (D:HasDef K mg "hangs" ZgR ["H"]) (B:Blt mg) (g35_:FOk P w K mg base 3 "part_of" ["H"] ZjV) (g36_:FOk P w K mg base 3 "points_of" ["H"] ZeE):FOk P w K mg base 4 "hangs" ["H"] Zgu:=by
 refine D.ok ZkP (fun vs H Q E h=>?_) (fun f cdv A outer s H vs Q E hr h=>?_)
 ·obtain⟨v,e,es,rfl,_⟩:=h;rfl
 ·obtain⟨v,e,es,rfl,hV,hF,k⟩:=h;refine⟨_,(Zi (Zq (XG YE (Zj Zr rfl B.len ZX (Za (Zv g35_ hr (Za (pv 0) Zc)) Zc)) (Zj Zr rfl B.len ZX (Za (Zv g36_ hr (Za (pv 0) Zc)) Zc)) (Zy _)))),?_⟩;refine⟨_,rfl,v,e,es,rfl,hV,hF,fun v1 H1 ss s1 ht1 hs1 hl1 hm1=>?_⟩;obtain⟨q1,rfl,hq1⟩:=id ht1;refine⟨.ref q1,ss.length,rfl,.inr ⟨_,SqT.of hq1,by rw[Qc]⟩,_,rfl,v,e::es,rfl,hV.same s1,hF,fun v2 H2 pp s2 ht2 hp2=>?_⟩;obtain⟨q2,rfl,hq2⟩:=id ht2;refine⟨.ref q2,pp.length,rfl,.inr ⟨_,SqT.of hq2,by rw[Qc]⟩,?_⟩;refine⟨rfl,k _ _ (s1.trans s2) ?_⟩;rw[Zef,←Zjw (Zjd hs1) hm1 hp2.pts.nd hp2.pts.mem,beq_iff_eq];exact⟨fun z=>by omega,fun z=>by rw[z]⟩
theorem ZoG {p:Str×Int->Bool}:es.filter p=((Qq es.length).filter fun i=>p (es.getD i ("",0))).map fun i=>es.getD i ("",0):=by
 have e:es=(Qq es.length).map fun i=>es.getD i ("",0):=by
  apply QU;intro i;rw[Qg];by_cases hi:i<es.length
  ·rw[QT hi,Wd,Qb,Qa hi];rfl
  ·rw[Qo (by omega),Qo (by simp;omega)];rfl
 conv=>lhs;rw[e]
 rw[R6];rfl
theorem dec_str:decide (V.str x=V.str y)=decide (x=y):=by
 rw[WX];simp
end Sh
namespace L2
open PySem PySem.Spec PyProof.Rows
end L2
namespace Sh
open PySem L2 PyProof.Rows
seal L2.PE L2.PS L2.PSs L2.PT L2.PW L2.PA L2.PI L2.PG L2.PGs L2.PO L2.PC L2.PCs L2.OpR L2.UnR L2.CallR L2.MtR L2.IxR L2.SlR
variable {P:Program} {w:World} {K:PySem.W.Frag} {mg:Str->Option Value} {base:Heap}
end Sh
namespace L2
open PySem PySem.Spec PyProof.Rows
end L2
namespace Sh
open PySem L2 PyProof.Rows
seal L2.PE L2.PS L2.PSs L2.PT L2.PW L2.PA L2.PI L2.PG L2.PGs L2.PO L2.PC L2.PCs L2.OpR L2.UnR L2.CallR L2.MtR L2.IxR L2.SlR
variable {P:Program} {w:World} {K:PySem.W.Frag} {mg:Str->Option Value} {base:Heap}
variable {D:Addr} {H:Hp} {ps:List Str}
theorem Zjz (n:Nat) (x:V):(QJ n [x]).flatten=QJ n x:=by
 induction n with
 | zero=>rfl
 | succ n ih=>rw[Wf,WQ,ih,Wf];rfl
section
variable {P:Program} {w:World} {K:PySem.W.Frag} {mg:Str->Option Value} {base:Heap} {S C A1 A2 A3 A4 A5 A6 A7 A8:Addr}
end
def SB (D:Addr) (H H':Hp):Prop:=∀ b u,b≠D->H b=some u->H' b=some u
theorem SB.refl (D:Addr) (H:Hp):SB D H H:=fun _ _ _ e=>e
theorem SB.trans {H1 H2:Hp} (a:SB D H H1) (b:SB D H1 H2):SB D H H2:=fun c u hc e=>b c u hc (a c u hc e)
def DK (H:Hp) (D:Addr) (n:Nat):Prop:=∃ ns:List Int,H D=some (.lst (ns.map V.int))/\n<=ns.length/\∀ x∈ns,0<=x/\x<10 ^ 18
theorem DK.same {H':Hp} {n:Nat} (h:DK H D n) (s:Same H H'):DK H' D n:=by
 obtain⟨ns,e,r⟩:=h;exact⟨ns,s _ _ e,r⟩
theorem DK.pop {n:Nat} (h:DK H D (n+1)):∃ (ns:List Int) (c:Int),H D=some (.lst ((ns++[c]).map V.int))/\0<=c/\c<10 ^ 18/\DK (upd H D (.lst (ns.map V.int))) D n:=by
 obtain⟨ns,e,l,b⟩:=h;rcases WE ns with z | ⟨r,c,z⟩
 ·rw[z]at l;simp at l
 ·rw[WF]at z;subst z;have hc:=b c (by simp);rw[Qd,Qr]at l;exact⟨r,c,e,hc.1,hc.2,r,Zd,by omega,fun x hx=>b x (QM _ hx)⟩
theorem Z3 {hp:List Pr} (h:Zu ps hp):hp.length<=ps.length:=by
 have nd:(hp.map (·.1)).Nodup:=by
  rw[Ug,QY];refine List.Pairwise.imp ?_ (QY.mp h.srt);intro x y hxy e;rw[e]at hxy;exact Wy _ hxy
 have:=YI nd fun x hx=>(h.mem x).mp hx;rw[Qc]at this;exact this
def fc:Nat->Nat
 | 0=>1
 | n+1=>(n+1)*fc n
def fI (x:Int):Int:=(fc x.toNat:Int)
theorem ZmI {K:PySem.W.Frag} {mp:List Nat} {σ:L2.St} {H1:Hp} {Q:VK} {q:Addr} {vs:List V} {es:Es} (hS:lcS 2 mp σ=[none,none]) (hq:H1 q=some (.tup vs)) (hpa:PA H1 vs es) (hl:es.length<=1000)
  (done:∀ D H',Same H1 H'->H' D=some (.lst ((es.map fun e=>e.2).map V.int))->Q (.ref D) H'):Zap 2 mp σ (ZnP K 2 (Zln (XL 0) (Zln (XL 1) Zoi))) Zni (ZjN 1) (Itt K q) H1 Q:=by
 refine YD vs.length (fun i=>vs.getD i .non) (fun i v _=>v= .int (es.getD i ("",0)).2) (Zh (by rw[hpa.1];exact hl)) (fun _ _ _ _ _ r=>r) (Xz (SqT.of hq)) ?_ ?_
 ·intro i H Qe hi hs kq;have hie:i<es.length:=by rw[←hpa.1];exact hi
  obtain⟨b,e1,e2⟩:=hpa.2 i es[i] (Qa hie);have ev:vs.getD i .non= .ref b:=by rw[Qb,e1];rfl
  have ee:es.getD i ("",0)=es[i]:=by rw[Qb,Qa hie];rfl
  rw[ev,hS];refine⟨b,_,rfl,SqT.of (hs _ _ e2),rfl,_,_,rfl,_,_,rfl,rfl,_,rfl,kq _ _ (Same.refl _) ?_⟩;rw[ee]
 ·intro D us H' hul hR hs hD hDl;refine done D H' hs ?_;rw[hDl];congr 2;apply QU;intro i;by_cases hi:i<us.length
  ·have hie:i<es.length:=by rw[←hpa.1,←hul];exact hi
   rw[Qa hi,hR i _ (Qa hi),Qg,Qg,Qa hie,Qb,Qa hie];rfl
  ·rw[Qo (by omega),Qo (by rw[Qc,Qc];have:=hpa.1;omega)]
theorem Zgh:∀ {l:List Int} {b:Nat},(∀ x∈l,0<=x/\x<=b)->0<=l.sum/\l.sum<=b*l.length
 | [],b,_=>by simp
 | x::l,b,h=>by
  have ih:=Zgh (l:=l) (b:=b) fun y hy=>h y (Ql _ hy);have hx:=h x (Qj ..);rw[Q8,QG];push_cast;rw[Int.mul_add,Rq];omega
theorem Zlf {l:List Int} (h:∀ x∈l,0<=x/\x<=(64000:Nat)) (hl:l.length<=128):(∀ x∈l,InLong x)/\∀ k,InLong (l.take k).sum:=by
 constructor
 ·intro x hx;have:=h x hx;unfold InLong;omega
 ·intro k;have h1:=Zgh (l:=l.take k) (b:=64000) fun x hx=>h x (Wm hx);have h2:(l.take k).length<=128:=by rw[QP];omega
  unfold InLong;omega
theorem Zky (f:Str->Int) (ss:List Str):(ups f ss).length<=ss.length:=by
 unfold ups;rw[Qc];exact Q7 _ _
theorem ZiE {es:Es} (hF:Ziw es) {f:Str->Int} (hf:∀ x,(f x).natAbs=(mo es x).natAbs) {ss:List Str} (hp:SPts es ss):(∀ x∈(ups f ss).map fun e=>e.2,InLong x)/\(∀ k,InLong (((ups f ss).map fun e=>e.2).take k).sum)/\(ups f ss).length<=1000:=by
 have hb:∀ x,(f x).natAbs<=64000:=fun x=>by
  rw[hf];have:=ZmF (es:=es) (b:=1000) x hF.many;have:=hF.few;omega
 have hl:(ups f ss).length<=128:=by
  have:=Zky f ss;have:=hp.pts.len;have:=hF.few;omega
 obtain⟨a1,a2⟩:=Zlf (l:=(ups f ss).map fun e=>e.2) (fun x hx=>by
  obtain⟨e,he,rfl⟩:=Qi.mp hx;have:=ZlF hb ss e he;omega) (by rw[Qc];exact hl)
 exact⟨a1,a2,by omega⟩
def Zlz (wsh:Str) (us:Es):Str:=match us with | []=>wsh | u::_=>u.1
theorem XJ {hp:Es} (h:Zu ps hp):(hp.map (·.1)).Nodup:=by
 rw[Ug,QY];refine List.Pairwise.imp ?_ (QY.mp h.srt);intro x y hxy e;rw[e]at hxy;exact Wy _ hxy
def oR (ps:List Str) (y:Str):Nat:=(ps.filter fun x=>decide (bg x=y)).length
def hD (ps:List Str) (r x:Str):Int:=fI ((oR ps x:Int)-if x=r then 0 else 1)
def inP (ps:List Str) (y:Str):Bool:=ps.any fun x=>decide (bg x=y) || decide (en x=y)
theorem inP_iff {y:Str}:inP ps y=true↔∃ x∈ps,bg x=y\/en x=y:=by
 unfold inP;rw[UU];constructor
 ·rintro⟨x,hx,h⟩;exact⟨x,hx,by simpa using h⟩
 ·rintro⟨x,hx,h⟩;exact⟨x,hx,by simpa using h⟩
theorem ZeH (x:Str):∀ ss:List Str,(ss.map fun x=>x.cps.toList).Pairwise (· < ·)->∃ tt:List Str,(tt.map fun x=>x.cps.toList).Pairwise (· < ·)/\∀ y,y∈tt↔y=x\/y∈ss
 | [],_=>⟨[x],by simp,fun y=>by simp⟩
 | z::ss,h=>by
  rw[Qs,Wx]at h;obtain⟨h1,h2⟩:=h;have hz:∀ y∈ss,z.cps.toList<y.cps.toList:=fun y hy=>h1 _ (Qi.mpr ⟨y,hy,rfl⟩);by_cases a:x.cps.toList<z.cps.toList
  ·refine⟨x::z::ss,?_,fun y=>by simp⟩;rw[Qs,Wx,Qs,Wx];refine⟨fun c hc=>?_,h1,h2⟩;rcases Qy.mp hc with q | q
   ·rw[q];exact a
   ·exact UT a (h1 c q)
  ·by_cases b:z.cps.toList<x.cps.toList
   ·obtain⟨tt,t1,t2⟩:=ZeH x ss h2;refine⟨z::tt,?_,fun y=>?_⟩
    ·rw[Qs,Wx];refine⟨fun c hc=>?_,t1⟩;obtain⟨y,hy,rfl⟩:=Qi.mp hc;rcases(t2 y).mp hy with q | q
     ·rw[q];exact b
     ·exact hz y q
    ·rw[Qy,t2,Qy];exact⟨fun q=>q.elim (fun q=>.inr (.inl q)) (fun q=>q.elim .inl (fun q=>.inr (.inr q))),fun q=>q.elim (fun q=>.inr (.inl q)) (fun q=>q.elim .inl (fun q=>.inr (.inr q)))⟩
   ·have e:x=z:=Z9 (Rh (Ul.mp b) (Ul.mp a));refine⟨z::ss,?_,fun y=>?_⟩
    ·rw[Qs,Wx];exact⟨h1,h2⟩
    ·rw[Qy,e];exact⟨.inr,fun q=>q.elim .inl id⟩
theorem ZdA:∀ l:List Str,∃ tt:List Str,(tt.map fun x=>x.cps.toList).Pairwise (· < ·)/\∀ y,y∈tt↔y∈l
 | []=>⟨[],by simp,fun y=>by simp⟩
 | x::l=>by
  obtain⟨ss,h1,h2⟩:=ZdA l;obtain⟨tt,t1,t2⟩:=ZeH x ss h1;exact⟨tt,t1,fun y=>by rw[t2,h2,Qy]⟩
structure RowOk (ps:List Str):Prop where
 len:ps.length<=27
 one:∀ x∈ps,(1<=x.length/\x.length<=1000)/\PyData.strOk x=true
 pts:∀ l:List Str,l.Nodup->(∀ y∈l,inP ps y=true)->l.length<=31
 same:∃ L:Nat,1<=L/\L<=12/\∀ x∈ps,x.length=L
theorem Zjr {qs:List Str} (h:∀ x∈qs,x∈ps) {y:Str} (k:inP qs y=true):inP ps y=true:=by
 obtain⟨x,hx,q⟩:=inP_iff.mp k;exact inP_iff.mpr ⟨x,h x hx,q⟩
theorem RowOk.sub {qs:List Str} (h:RowOk ps) (hs:∀ x∈qs,x∈ps) (hl:qs.length<=ps.length):RowOk qs:=⟨Wg hl h.len,fun x hx=>h.one x (hs x hx),fun l nd hi=>h.pts l nd fun y hy=>Zjr hs (hi y hy),h.same.imp fun L q=>⟨q.1,q.2.1,fun x hx=>q.2.2 x (hs x hx)⟩⟩
end Sh
namespace L2
open PySem PySem.Spec PyProof.Rows
end L2
namespace Sh
open PySem L2 PyProof.Rows
seal L2.PE L2.PS L2.PSs L2.PT L2.PW L2.PA L2.PI L2.PG L2.PGs L2.PO L2.PC L2.PCs L2.OpR L2.UnR L2.CallR L2.MtR L2.IxR L2.SlR
variable {P:Program} {w:World} {K:PySem.W.Frag} {mg:Str->Option Value} {base:Heap}
section
variable {P:Program} {w:World} {K:PySem.W.Frag} {mg:Str->Option Value} {base:Heap} {S C A1 A2 A3 A4 A5 A6 A7 A8:Addr}
end
end Sh
namespace L2
open PySem PySem.Spec PyProof.Rows
end L2
namespace Sh
open PySem L2 PyProof.Rows
seal L2.PE L2.PS L2.PSs L2.PT L2.PW L2.PA L2.PI L2.PG L2.PGs L2.PO L2.PC L2.PCs L2.OpR L2.UnR L2.CallR L2.MtR L2.IxR L2.SlR
variable {P:Program} {w:World} {K:PySem.W.Frag} {mg:Str->Option Value} {base:Heap}
def Zmq (c:Nat):Bool:=decide (97<=c)&&decide (c<=122)
theorem Ju:∀ hp:List Pr,(∀ p∈hp,1<=p.2)->(hp.length:Int)<=(hp.map (·.2)).sum
 | [],_=>by simp
 | p::r,h=>by
  have h1:=Ju r fun q hq=>h q (Ql _ hq);have h2:=h p Qj;rw[Qs,Q8,QG];omega
theorem Zkf:∀ hp:List Pr,(∀ p∈hp,1<=p.2)->∀ p∈hp,p.2<=(hp.map (·.2)).sum
 | [],_,p,hp=>by cases hp
 | q::r,h,p,hp=>by
  have h2:=h q Qj;have h4:=Ju r fun z hz=>h z (Ql _ hz);rw[Qs,Q8];rcases Qy.mp hp with e | e
  ·subst e;omega
  ·have h3:=Zkf r (fun z hz=>h z (Ql _ hz)) p e;omega
section
variable {hp:List Pr} {L:Nat}
end
end Sh
namespace L2
open PySem PySem.Spec PyProof.Rows
end L2
namespace Sh
open PySem L2 PyProof.Rows
seal L2.PE L2.PS L2.PSs L2.PT L2.PW L2.PA L2.PI L2.PG L2.PGs L2.PO L2.PC L2.PCs L2.OpR L2.UnR L2.CallR L2.MtR L2.IxR L2.SlR
variable {P:Program} {w:World} {K:PySem.W.Frag} {mg:Str->Option Value} {base:Heap}
end Sh
namespace L2
open PySem PySem.Spec PyProof.Rows
end L2
namespace Sh
open PySem L2 PyProof.Rows
seal L2.PE L2.PS L2.PSs L2.PT L2.PW L2.PA L2.PI L2.PG L2.PGs L2.PO L2.PC L2.PCs L2.OpR L2.UnR L2.CallR L2.MtR L2.IxR L2.SlR
variable {P:Program} {w:World} {K:PySem.W.Frag} {mg:Str->Option Value} {base:Heap}
end Sh
namespace L2
open PySem PySem.Spec PyProof.Rows
end L2
namespace Sh
open PySem L2 PyProof.Rows
seal L2.PE L2.PS L2.PSs L2.PT L2.PW L2.PA L2.PI L2.PG L2.PGs L2.PO L2.PC L2.PCs L2.OpR L2.UnR L2.CallR L2.MtR L2.IxR L2.SlR
variable {P:Program} {w:World} {K:PySem.W.Frag} {mg:Str->Option Value} {base:Heap}
abbrev ZdL:Stmt:=top 13
abbrev Zlb:List Str:=["manys"]
theorem ZiU:Zp Zlb ["manys"] (Zg ZdL):=⟨rfl,rfl,rfl,by decide +kernel,rfl,by decide +kernel,by decide +kernel⟩
def ZjT:Sp:=fun vs H Q _=>∃ (d:Addr) (ks:List Str) (g:Str->Int),vs=[.ref d]/\H d=some (.dK (ks.map fun x=>((Sum.inr x:Key),V.int (g x))))/\ks.Nodup/\ks.length<64 /\
 ∀ v H' (ss:List Str),Same H H'->ss.Perm ks->(ss.map fun x=>x.cps.toList).Pairwise (· < ·)->HpAt H' v (ss.map fun x=>(x,g x))->Q v H'
theorem ZfF (D:HasDef K mg "in_rows" ZdL ["manys"]) (B:Blt mg):FOk P w K mg base 1 "in_rows" ["manys"] ZjT:=by
 refine D.ok ZiU (fun vs H Q E h=>?_) (fun f cdv A outer s H vs Q E hr h=>?_)
 ·obtain⟨d,ks,g,rfl,_⟩:=h;rfl
 ·obtain⟨d,ks,g,rfl,hd,nd,h64,k⟩:=h;refine⟨_,(Zi (Zq (ZJ ZH rfl B.tuple Yo (Za (Zj (Xn rfl) rfl B.sorted YJ (Za (ZbD (pv 0)) Zc)) Zc)))),?_⟩;refine⟨_,rfl,d,_,rfl,hd,fun p hp=>⟨p,d,ks,fun x=>.int (g x),rfl,Zd,Zb hp _ _ hd,nd,h64,fun D1 H1 vs ss hs1 hperm hsrt hD1 hl hv=>?_⟩⟩;refine⟨D1,vs,rfl,.inl ⟨SqL.of hD1,fun l hl0=>?_⟩⟩;refine k _ _ ss (((Zb hp).trans hs1).trans (Zb hl0)) hperm hsrt ⟨l,vs,rfl,Zd,by rw[Qc];exact hl,fun i q e=>?_⟩;rw[Qg]at e;cases ex:ss[i]? with
  | none=>rw[ex]at e;cases e
  | some x =>
   rw[ex]at e;cases e;obtain⟨b,e1,e2⟩:=hv i x ex;rw[Qb,e1];exact⟨b,rfl,Zb hl0 _ _ e2⟩
theorem X3 {ps:List Str} {h1 h2:List Pr} (a:Zu ps h1) (b:Zu ps h2):h1=h2:=by
 have mem:∀ (h:List Pr),Zu ps h->∀ x,x∈(h.map fun p=>p.1.cps.toList)↔∃ z∈ps,z.cps.toList=x:=fun h hh x=>by
  constructor
  ·intro q;obtain⟨p,hp,e⟩:=Qi.mp q;exact⟨p.1,(hh.mem p.1).mp (Qi.mpr ⟨p,hp,rfl⟩),e⟩
  ·rintro⟨z,hz,e⟩;obtain⟨p,hp,e2⟩:=Qi.mp ((hh.mem z).mpr hz);exact Qi.mpr ⟨p,hp,by rw[e2,e]⟩
 have e:=Jm a.srt b.srt fun x=>(mem h1 a x).trans (mem h2 b x).symm;have hl:h1.length=h2.length:=by have:=congrArg UP e;simpa using this
 apply List.ext_getElem hl;intro i hi1 hi2;have e1:h1[i].1.cps.toList=h2[i].1.cps.toList:=by
  have:=congrArg (fun l:List (List Nat)=>l[i]?) e;simpa[hi1,hi2]using this
 have e2:h1[i].1=h2[i].1:=Z9 e1;have e3:h1[i].2=h2[i].2:=by rw[a.cnt _ (QB hi1),b.cnt _ (QB hi2),e2]
 exact Prod.ext e2 e3
end Sh
namespace L2
end L2
namespace Sh
open PySem L2 PyProof.Rows
seal L2.PE L2.PS L2.PSs L2.PT L2.PW L2.PA L2.PI L2.PG L2.PGs L2.PO L2.PC L2.PCs L2.OpR L2.UnR L2.CallR L2.MtR L2.IxR L2.SlR
variable {P:Program} {w:World} {K:PySem.W.Frag} {mg:Str->Option Value} {base:Heap}
variable {B G:List Nat} {H H' H2 H4:Hp} {adr:Str->Addr} {bk d:Addr} {hp:Es} {ks ps:List Str} {r:Str->List Nat} {v:V} {vs:List V}
section
variable {hp:List Pr} {L:Nat}
end
theorem Zml {es:Es} {p:Str×Int->Bool} {f:Str->Str} {n:Nat} (hn:n=es.length) (hl:vs.length=((Qq n).filter fun i=>p (es.getD i ("",0))).length)
  (hR:∀ (j i:Nat) (v:V),((Qq n).filter fun i=>p (es.getD i ("",0)))[j]?=some i->vs[j]?=some v->ZiX (f (es.getD i ("",0)).1) (es.getD i ("",0)).2 v H):PA H vs ((es.filter p).map fun e=>(f e.1,e.2)):=by
 subst hn;rw[ZoG];refine⟨by rw[Qc,Qc,hl],fun j e he=>?_⟩;rw[Qg,Qg]at he;cases hj:((Qq es.length).filter fun i=>p (es.getD i ("",0)))[j]? with
 | none=>rw[hj]at he;cases he
 | some i =>
  rw[hj]at he;cases he;have hjv:j<vs.length:=by rw[hl];exact(Qp.mp hj).1
  obtain⟨b,e1,e2⟩:=hR j i vs[j] hj (Qa hjv);exact⟨b,by rw[Qa hjv,e1],e2⟩
def lc (x:Str):Str:=⟨#[x.cps.toList.getD (x.length-1) 0]⟩
def nxt (es:Es) (y:Str):Es:=(es.filter fun e=>decide (bg e.1=y)).map fun e=>(lc e.1,e.2)
def Zgn:Sp:=fun vs H Q _=>∃ (v:V) (es:Es) (y:Str),vs=[v,.str y]/\HeapV H v es/\Ziw es/\∀ v' H',Same H H'->HeapV H' v' (nxt es y)->Q v' H'
abbrev JS:Stmt:=top 20
abbrev Ze0:List Str:=["H","P"]
theorem ZgD:Zp Ze0 ["H","P"] (Zg JS):=⟨rfl,rfl,rfl,by decide +kernel,rfl,by decide +kernel,by decide +kernel⟩
theorem ZnJ {x:Str} (h:1<=x.length):atI x.cps.toList (-1)=some (x.cps.toList.getD (x.length-1) 0):=by
 have hl:x.cps.toList.length=x.length:=ZL x;unfold atI ixN;rw[if_neg (by decide),if_pos (by omega),Rj,hl];have e:((-1:Int)+(x.length:Int)).toNat=x.length-1:=by omega
 rw[e,Qb,Qa (by omega)];rfl
theorem ZdT (D:HasDef K mg "nexts_of" JS ["H","P"]) (B:Blt mg) (g21_:FOk P w K mg base 1 "begin_of" ["piece"] Zbo):FOk P w K mg base 2 "nexts_of" ["H","P"] Zgn:=by
 refine D.ok ZgD (fun vs H Q E h=>?_) (fun f cdv A outer s H vs Q E hr h=>?_)
 ·obtain⟨v,es,y,rfl,_⟩:=h;rfl
 ·obtain⟨v,es,y,rfl,⟨q,vs,rfl,hq,hpa⟩,hF,k⟩:=h;refine⟨_,(Zi (Zq (ZJ ZH rfl B.tuple Yo (Za (ZK (Zg JS) Ze0 ["piece","many"] [1] rfl (Yy (pv 0)) (fun _ _ _ _ _=>Yc 2 K rfl (Zw (Z6 0) (Zw (Z6 1) Yb))) (fun _ _ _ _ _=>YL (Zt YE (Zv g21_ hr (Za (pv 0) Zc)) (pv 2) (Zy _))) (fun _ _ _ _ _=>(Yt (Za (ZB JH (pv 0) (YV Yg Zf) (fun _ _=>rfl)) (Za (pv 1) Zc))))) Zc)))),?_⟩;have hfew:=hF.few;have hvl:=hpa.1;refine⟨_,rfl,q,rfl,⟨_,SqT.of hq⟩,ZbP vs.length (fun i=>vs.getD i .non) (fun i=>(fun e:Str×Int=>decide (bg e.1=y)) (es.getD i ("",0))) (fun i v H=>ZiX (lc (es.getD i ("",0)).1) (es.getD i ("",0)).2 v H) (Zh (by omega)) (fun i v H H' hs ⟨b,e1,e2⟩=>⟨b,e1,hs _ _ e2⟩) (Xz (SqT.of hq)) ?_ ?_⟩
  ·intro i H3 Qt Qf hi hs ht hf;have hie:i<es.length:=by omega
   obtain⟨b,e1,e2⟩:=hpa.2 i es[i] (Qa hie);have ev:vs.getD i .non= .ref b:=by rw[Qb,e1];rfl
   have ee:es.getD i ("",0)=es[i]:=by rw[Qb,Qa hie];rfl
   obtain⟨l1,l2⟩:=hF.long es[i] (QB hie);rw[ee]at ht hf;rw[ev];refine⟨b,_,rfl,SqT.of (hs _ _ e2),rfl,_,_,rfl,_,_,rfl,rfl,_,rfl,es[i].1,rfl,l1,l2,_,rfl,rfl,_,rfl,?_⟩;rw[dec_str];by_cases c:bg es[i].1=y
   ·refine Y3 (decide_eq_true c) ⟨_,rfl,_,rfl,es[i].1,_,_,rfl,rfl,ZQ l2,ZnJ l1,_,rfl,Zh (show 2<=1000 by decide),fun p hp=>ht (decide_eq_true c) _ _ (Zb hp) ⟨p,rfl,Zd⟩⟩
   ·exact Yu (decide_eq_false c) (hf (decide_eq_false c) _ (Same.refl _))
  intro D2 vs2 H16 hl2 hR2 s16 hD2 hDl2;have hp2:=Zml (p:=fun e=>decide (bg e.1=y)) (f:=lc) hvl hl2 hR2;refine⟨D2,vs2,rfl,.inl ⟨SqL.of hDl2,fun l hl=>?_⟩⟩;have sq:=Zb (o:=.tup vs2) hl;exact k _ _ (s16.trans sq) ⟨l,vs2,rfl,Zd,hp2.same sq.tup⟩
def Lng (ps:List Str):Prop:=∀ x∈ps,1<=x.length
theorem Lng.erase (h:Lng ps) (x:Str):Lng (ps.erase x):=fun y hy=>h y (We hy)
abbrev Zbv:Stmt:=top 14
theorem Jv {hp:List Pr} (h:Zu ps hp):(hp.map fun p=>((Sum.inr p.1:Key),V.int p.2))=gD (hp.map (·.1)) fun x=>(ps.count x:Int):=by
 unfold gD;rw[QA];exact Q3 fun p m=>by rw[h.cnt p m];rfl
theorem ZbS {g:Str->Int} (h:ks.Nodup):((gD ks g).map (·.1)).Nodup:=by
 unfold gD;rw[QA];exact QY.mpr (h.imp fun {a b} q e=>q (by
  have e':(Sum.inr a:Key)=Sum.inr b:=e;injection e'))
theorem Xj {ss:List Str} {g:Str->Int} (hperm:ss.Perm ks) (hsrt:(ss.map fun x=>x.cps.toList).Pairwise (· < ·)) (hm:∀ x,x∈ks↔x∈ps) (hg:∀ x∈ks,g x=ps.count x):Zu ps (ss.map fun x=>(x,g x)):=by
 refine⟨?_,fun x=>?_,fun p m=>?_⟩
 ·rw[QA];exact hsrt
 ·rw[QA];have:ss.map ((·.1) ∘ fun x=>(x,g x))=ss:=by
   conv=>rhs;rw[←U5 ss]
   exact Q3 fun _ _=>rfl
  rw[this,hperm.mem_iff,hm]
 ·obtain⟨x,mx,rfl⟩:=Qi.mp m;exact hg x (hperm.mem_iff.mp mx)
theorem Y4 {hp:List Pr} (h:HpAt H v hp):∃ a xs,v= .ref a/\H a=some (.tup xs)/\xs.length=hp.length/\∀ (i:Nat) p,hp[i]?=some p->∃ b,xs[i]?=some (.ref b)/\H b=some (.tup [.str p.1,.int p.2]):=by
 obtain⟨a,xs,rfl,ha,hl,hr⟩:=h;refine⟨a,xs,rfl,ha,hl,fun i p e=>?_⟩;obtain⟨b,e1,e2⟩:=hr i p e;have hi:i<xs.length:=by rw[hl];exact(Qp.mp e).1
 rw[Qb,Qa hi]at e1;exact⟨b,by rw[Qa hi];exact congrArg some e1,e2⟩
abbrev Zjg:List Str:=["H","piece","manys"]
theorem scLessOne:Zp Zjg ["H","piece"] (Zg Zbv):=⟨rfl,rfl,rfl,by decide +kernel,rfl,by decide +kernel,by decide +kernel⟩
def Zbm (C:Addr):Sp:=fun vs H Q E=>∃ (v:V) (hp:List Pr) (ps:List Str) (x:Str),vs=[v,.str x]/\HpAt H v hp/\Zu ps hp/\hp.length<=63 /\
 ((x∉ps/\∀ H',Same H H'->E (.ref C) none H')\/(x∈ps/\∀ v' H' hp',Same H H'->HpAt H' v' hp'->Zu (ps.erase x) hp'->Q v' H'))
theorem ZdV {C:Addr} {bm:List Value} (D:HasDef K mg "less_one" Zbv ["H","piece"]) (B:Blt mg) (Bd:mg "dict" = none) (c:XCls K mg "NoPiece" C bm) (g29_:FOk P w K mg base 4 "in_rows" ["manys"] ZjT):FOkX P w K mg base 5 "less_one" ["H","piece"] (Zbm C):=by
 refine D.okX scLessOne (fun vs H Q E h=>?_) (fun f cdv A outer s vs H Q E L hr h=>?_)
 ·obtain⟨v,hp,ps,x,rfl,_⟩:=h;rfl
 ·obtain⟨v,hp,ps,x,rfl,hA,hO,hl,h⟩:=h;have hu:=ZaO hr;refine⟨_,(Ze (Zm (i:=2) scLessOne.nd rfl (.inl rfl) (ZJ (XN rfl) rfl Bd Zit (Za (pv 0) Zc)))
   (Ze (Z2 (ZaV (XW hu (pv 1) (pv 2))) (Zi (ZbC L c rfl (Za ZY Zc))) Zx)
   (Ze (YK hu (pv 2) (pv 1) (Zk Ye (YX hu (pv 2) (pv 1) (fun _ _=>rfl)) Zf) rfl)
   (Zg5 (Z2 (Zt YE (YX hu (pv 2) (pv 1) (fun _ _=>rfl)) Zf (Zy _)) (Zi (Z8 (Zi1 (pv 2) (pv 1) ⟨rfl,rfl,rfl,rfl⟩))) Zx)
   (Zi (Zq (Zv g29_ hr (Za (pv 2) Zc)))))))),?_⟩
  have one:(1:Nat)<=sizeLine:=by rw[sizeLine_eq];decide
  obtain⟨a,xs,rfl,ha,hlx,hq⟩:=Y4 hA;refine⟨_,rfl,a,xs,hp.map fun p=>((Sum.inr p.1:Key),V.int p.2),rfl,.inr ha,by rw[Qc];exact hlx,fun i q e=>?_,?_,fun d hd=>?_⟩
  ·rw[Qg]at e;cases ep:hp[i]? with
   | none=>rw[ep]at e;cases e
   | some p=>rw[ep]at e;cases e;exact hq i p ep
  ·rw[Jv hO];exact ZbS (XJ hO)
  rw[Jv hO];have sd:=Zb (o:=.dK (gD (hp.map (·.1)) fun x=>(ps.count x:Int))) hd;have nd:=XJ hO;have hm:=hO.mem;generalize hks:hp.map (·.1)=ks at sd nd hm;have hkl:ks.length<=63:=by rw[←hks,Qc];exact hl
  have hdd:(upd H d (.dK (gD ks fun x=>(ps.count x:Int)))) d=some (.dK (gD ks fun x=>(ps.count x:Int))):=Zd;refine⟨_,rfl,_,rfl,d,_,rfl,DGet.kk (k:=Sum.inr x) hdd,_,rfl,?_⟩;rw[Y8];rcases h with ⟨hx,kE⟩ | ⟨hx,k⟩
  ·rw[if_neg fun q=>hx ((hm x).mp q)];exact Zkk ⟨one,kE _ sd⟩
  ·have hxk:=(hm x).mpr hx;rw[if_pos hxk];refine ZfJ ?_;have dg:DGet (upd H d (.dK (gD ks fun x=>(ps.count x:Int)))) d (.str x) (some (.int (ps.count x))):=by
    have:=DGet.kk (k:=Sum.inr x) hdd;rw[Y8,if_pos hxk]at this;exact this
   refine⟨_,rfl,_,rfl,d,_,rfl,dg,_,_,rfl,rfl,_,rfl,_,rfl,d,_,rfl,DPut.kk (k:=Sum.inr x) hdd ?_,?_⟩
   ·rw[Y9];exact ZF (by omega)
   dsimp only;rw[Za7,if_pos hxk];have cpos:1<=ps.count x:=Wp.mpr hx;have s2:Same H (upd (upd H d (.dK (gD ks fun x=>(ps.count x:Int)))) d (.dK (gD ks fun y=>if y=x then (ps.count x:Int)-1 else (ps.count y:Int)))):=Yr sd hd;generalize hH2:upd (upd H d (.dK (gD ks fun x=>(ps.count x:Int)))) d (.dK (gD ks fun y=>if y=x then (ps.count x:Int)-1 else (ps.count y:Int)))=H2 at s2;have hdd2:H2 d=some (.dK (gD ks fun y=>if y=x then (ps.count x:Int)-1 else (ps.count y:Int))):=by rw[←hH2];exact Zd
   have gv2:Xx (gD ks fun y=>if y=x then (ps.count x:Int)-1 else (ps.count y:Int)) (Sum.inr x)=some (.int ((ps.count x:Int)-1)):=by
    rw[Y8,if_pos hxk,if_pos rfl]
   have cnt:∀ y,(ps.erase x).count y=if y=x then ps.count x-1 else ps.count y:=fun y=>by
    by_cases e:y=x
    ·rw[if_pos e,e,Ry]
    ·rw[if_neg e,Rs e]
   refine⟨fun σ' H'=>∃ (ks':List Str) (g:Str->Int),σ'=[some (.ref a),some (.str x),some (.ref d)]/\Same H H'/\ks'.Nodup/\ks'.length<=63/\(∀ y,y∈ks'↔y∈ps.erase x)/\(∀ y∈ks',g y=(ps.erase x).count y)/\H' d=some (.dK (gD ks' g)),?_,?_⟩
   ·have dg2:DGet H2 d (.str x) (some (.int ((ps.count x:Int)-1))):=by
     have:=DGet.kk (k:=Sum.inr x) hdd2;rw[gv2]at this;exact this
    refine⟨_,rfl,_,rfl,d,_,rfl,dg2,rfl,_,rfl,?_⟩;by_cases c1:ps.count x=1
    ·refine Y3 (Za6 (by omega)) ?_;refine⟨_,rfl,d,rfl,.inl ⟨_,.inl hdd2⟩,_,rfl,_,Sum.inr x,_,hdd2,rfl,gv2,?_⟩;rw[Zlm];have nx:x∉ps.erase x:=fun q=>by
      have:=Wp.mpr q;rw[cnt x,if_pos rfl]at this;omega
     refine⟨_,_,rfl,Yr s2 hd,nd.filter _,Wg (Q7 _ _) hkl,fun y=>?_,fun y my=>?_,Zd⟩
     ·rw[QD,hm,decide_eq_true_eq];constructor
      ·rintro⟨q1,q2⟩;exact(Ws q2).mpr q1
      ·intro q;have ne:y≠x:=fun e=>nx (e▸q);exact⟨(Ws ne).mp q,ne⟩
     ·have ne:y≠x:=by
       rw[QD,decide_eq_true_eq]at my;exact my.2
      rw[if_neg ne,cnt y,if_neg ne]
    ·refine Yu (Zau (by omega)) ?_;refine⟨ks,_,rfl,s2,nd,hkl,fun y=>?_,fun y my=>?_,hdd2⟩
     ·rw[hm,←Wp,←Wp,cnt y];by_cases e:y=x
      ·rw[if_pos e,e];constructor <;> intro _ <;> omega
      ·rw[if_neg e]
     ·rw[cnt y];by_cases e:y=x
      ·rw[if_pos e,if_pos e];omega
      ·rw[if_neg e,if_neg e]
   ·rintro σ' H3 ⟨ks',g,rfl,s3,nd',hl',hm',hg',hd3⟩;refine⟨_,rfl,d,ks',g,rfl,hd3,nd',by omega,fun v' H4 ss s4 hperm hsrt hA'=>?_⟩;exact k v' H4 _ (s3.trans s4) hA' (Xj hperm hsrt hm' hg')
structure Hv (H:Hp) (v:V) (ps:List Str) (hp:Es):Prop where
 at_:HpAt H v hp
 of:Zu ps hp
theorem Hv.same (h:Hv H v ps hp) (s:Same H H'):Hv H' v ps hp:=⟨h.at_.same s.tup,h.of⟩
theorem ZmR (hO:Zu ps hp):hp=[]↔ps=[]:=by
 constructor
 ·rintro rfl;cases ps with
  | nil=>rfl
  | cons x ps=>exact absurd ((hO.mem x).mpr Qj) (by simp)
 ·rintro rfl;cases hp with
  | nil=>rfl
  | cons e es=>exact absurd ((hO.mem e.1).mp (Qi.mpr ⟨e,Qj,rfl⟩)) (by simp)
def LsP (H:Hp) (a:Addr) (es:Es):Prop:=∃ vs,H a=some (.lst vs)/\PA H vs es
theorem LsP.same {a:Addr} {es:Es} (h:LsP H a es) (s:Same H H'):LsP H' a es:=by
 obtain⟨vs,h1,h2⟩:=h;exact⟨vs,s _ _ h1,h2.same s.tup⟩
theorem ZhW {qs:List Str} (h:Zu ps hp) (p:qs.Perm ps):Zu qs hp:=⟨h.srt,fun x=>by rw[h.mem,p.mem_iff],fun g hg=>by rw[h.cnt g hg,p.count_eq]⟩
def cDT (ks ps:List Str):List (Key×V):=ks.map fun x=>((Sum.inr x:Key),V.int (ps.count x))
structure Zn5 (ks ps:List Str):Prop where
 nd:ks.Nodup
 mem:∀ x,x∈ks↔x∈ps
theorem Zii (h:Zn5 ks ps) (y:Str):∃ ks',Zn5 ks' (ps++[y])/\Jc (cDT ks ps) (Sum.inr y) (.int ((ps.count y:Int)+1))=cDT ks' (ps++[y])/\ks'.length<=ks.length+1:=by
 have hc:∀ x,(ps++[y]).count x=ps.count x+if y=x then 1 else 0:=fun x=>by
  rw[RT,List.count_singleton];simp[beq_iff_eq]
 by_cases m:y∈ks
 ·refine⟨ks,⟨h.nd,fun x=>?_⟩,?_,WR _⟩
  ·rw[h.mem x,QF,Qm];exact⟨.inl,fun q=>q.elim id fun e=>by rw[e];exact(h.mem y).mp m⟩
  ·unfold cDT;rw[Jr _ _ _ _ m];apply Q3;intro x _;rw[hc x];by_cases e:x=y
   ·subst e;simp
   ·have e':¬ y=x:=fun q=>e q.symm;simp[e,e']
 ·have hn:y∉ps:=fun q=>m ((h.mem y).mpr q);refine⟨ks++[y],⟨Zhz h.nd m,fun x=>?_⟩,?_,by rw[Qd];exact Qk _⟩
  ·rw[QF,QF,h.mem x]
  ·unfold cDT;rw[JX _ (by rw[XB,if_neg m]),Qz];congr 1
   ·apply Q3;intro x hx;rw[hc x];have e':¬ y=x:=fun q=>m (q▸hx);simp[e']
   ·rw[Wc,hc y];simp
theorem ZcR {ss:List Str} (hs:(ss.map fun x=>x.cps.toList).Pairwise (· < ·)) (hm:∀ x,x∈ss↔x∈ps):Zu ps (ss.map fun x=>(x,(ps.count x:Int))):=by
 refine⟨?_,fun x=>?_,fun p hp=>?_⟩
 ·rw[QA];exact hs
 ·rw[QA];have e:ss.map ((·.1) ∘ fun x=>(x,(ps.count x:Int)))=ss:=by
   conv=>rhs;rw[←U5 ss]
   exact Q3 fun _ _=>rfl
  rw[e,hm]
 ·obtain⟨x,_,rfl⟩:=Qi.mp hp;rfl
abbrev ZgL:Stmt:=top 56
abbrev Zmv:List Str:=["_law_signs","_law_long","_law_found","_law_at","_law_piece"]
theorem scLTorn:Zp Zmv ["_law_signs","_law_long"] (Zg ZgL):=⟨rfl,rfl,rfl,by decide +kernel,rfl,by decide +kernel,by decide +kernel⟩
def Zgm:Sp:=fun vs H Q _=>∃ (z:List Nat) (L:Nat),vs=[.str (tx z),.int L]/\Fit z L/\z.length<=63/\∀ v H' (hp:Es),Same H H'->Zu (pcs z L) hp->HpAt H' v hp->Q v H'
theorem Zhn (D:HasDef K mg "_law_torn" ZgL ["_law_signs","_law_long"]) (B:Blt mg):FOk P w K mg base 1 "_law_torn" ["_law_signs","_law_long"] Zgm:=by
 refine D.ok scLTorn (fun vs H Q E h=>?_) (fun f cdv A outer s H vs Q E hr h=>?_)
 ·obtain⟨z,L,rfl,_⟩:=h;rfl
 ·obtain⟨z,L,rfl,hF,hz,k⟩:=h;have hu:=ZaO hr;refine⟨_,(Ze (Zm (i:=2) scLTorn.nd rfl (.inl rfl) XV)
   (Ze (Yi PassesOwn.never rfl (Ys rfl B.range (Za (Zk ZU (Zk Ye (Zj Zr rfl B.len ZX (Za (pv 0) Zc)) (pv 1)) Zf) Zc)) (ZI (i:=3) scLTorn.nd rfl (.inl rfl))
    (Ze (Zm (i:=4) scLTorn.nd rfl (.inl rfl) (ZC Z4 (pv 0) (ZE (pv 3)) (ZE (Zk ZU (pv 3) (pv 1)))))
   (Zi (YK hu (pv 2) (pv 4) (Zk ZU (YH hu (pv 2) (pv 4) Zf ⟨rfl,rfl,rfl,rfl⟩) Zf) rfl))))
   (Zi (Zq (ZJ ZH rfl B.tuple Yo (Za (Zj (Xn rfl) rfl B.sorted YJ (Za (ZbD (pv 2)) Zc)) Zc)))))),?_⟩
  have o:=hF.one;have l:=hF.le;refine fun d hd=>⟨_,rfl,.str (tx z),z.length,rfl,⟨ZG (by omega),(Zn z).symm⟩,_,rfl,_,_,rfl,rfl,_,_,rfl,rfl,_,rfl,by omega,by omega,?_⟩
  have en:((z.length:Int)-(L:Int)+1).toNat=z.length+1-L:=by omega
  rw[en];obtain⟨ps,hps⟩:∃ ps,ps=(win L z).map tx:=⟨_,rfl⟩
  have hpl:ps.length=z.length+1-L:=by rw[hps];unfold win;rw[Qc,Qc,Q5]
  have hpi:∀ (i:Nat) (h:i<ps.length),ps[i]=tx ((z.drop i).take L):=fun i h=>by
   have e1:ps[i]?=some (tx ((z.drop i).take L)):=by
    rw[hps];unfold win;rw[Qg,Qg,QT (by omega)];rfl
   rw[Qa h]at e1;exact Option.some.inj e1
  rw[Zah hF,←hps]at k;refine YS (n:=z.length+1-L) (fun i σ H2=>(∃ z3 z4:Option V,σ=[some (.str (tx z)),some (.int L),some (.ref d),z3,z4])/\Same H H2/\∃ ks,Zn5 ks (ps.take i)/\ks.length<=i/\H2 d=some (.dK (cDT ks (ps.take i))))
   ⟨⟨none,none,rfl⟩,Zb hd,[],⟨Uo,fun x=>Iff.rfl⟩,Qk _,Zd⟩ ?_ ?_
  ·rintro i σ H2 hi ⟨⟨z3,z4,rfl⟩,s2,ks,hk,hkl,hdd⟩;rw[UL];have hi':i<ps.length:=by omega
   refine⟨_,rfl,_,rfl,_,rfl,_,rfl,_,rfl,_,_,rfl,rfl,_,rfl,_,rfl,ZG (by omega),?_⟩;rw[YB (z:=z) (a:=i) (b:=i+L) (by omega) (by omega) (by omega) (by omega)];have ep:tx (seg z i (i+L))=ps[i]:=by
    rw[hpi i hi'];unfold seg;rw[show i+L-i=L by omega]
   rw[ep];have hg:(Xx (cDT ks (ps.take i)) (Sum.inr ps[i]:Key)).getD (.int 0)= .int ((ps.take i).count ps[i]):=by
    unfold cDT;rw[XB];split
    ·rfl
    ·rename_i m;have:ps[i]∉ps.take i:=fun q=>m ((hk.mem _).mpr q);rw[WG this];rfl
   obtain⟨ks',hk',ep2,hl'⟩:=Zii hk ps[i];rw[←QR hi']at hk' ep2;refine⟨_,rfl,d,rfl,.inl ⟨_,.inl hdd⟩,_,rfl,_,DGet.kk (k:=Sum.inr ps[i]) hdd,_,_,hg,rfl,_,rfl,_,rfl,d,_,rfl,DPut.kk (k:=Sum.inr ps[i]) hdd ?_,?_⟩
   ·unfold cDT;rw[Qc];exact ZF (by omega)
   ·refine⟨⟨_,_,rfl⟩,fun b u e=>?_,ks',hk',by omega,?_⟩
    ·rw[Zl (Zo e hd)];exact s2 b u e
    ·rw[Zd];exact congrArg (fun l=>some (HO.dK l)) ep2
  ·rintro σ H2 ⟨⟨z3,z4,rfl⟩,s2,ks,hk,hkl,hdd⟩;rw[Q0 (by omega)]at hk hdd;refine⟨_,rfl,d,_,rfl,hdd,fun p hp=>⟨p,d,ks,fun x=>.int (ps.count x),rfl,Zd,Zb hp _ _ hdd,hk.nd,by omega,fun D1 H3 vs ss hs3 hperm hsrt hD1 hl hv=>?_⟩⟩;refine⟨D1,vs,rfl,.inl ⟨SqL.of hD1,fun q hq=>?_⟩⟩;refine k _ _ _ (((s2.trans (Zb hp)).trans hs3).trans (Zb hq)) (ZcR hsrt fun x=>by rw[hperm.mem_iff,hk.mem]) ?_;refine⟨q,vs,rfl,Zd,by rw[Qc];exact hl,fun i p hi=>?_⟩;rw[Qg]at hi;obtain⟨x,hx,rfl⟩:=QS.mp hi;obtain⟨b,e1,e2⟩:=hv i x hx;refine⟨b,?_,Zb hq _ _ e2⟩;rw[Qb,e1];rfl
abbrev nV (i:Nat):V:=V.int (i:Int)
def Zn1 (H:Hp) (b:Addr) (t:Str×Str):Prop:=∃ s:Str,H b=some (.tup [.str t.1,.str s,.str t.2])
def TyA (H:Hp) (vs:List V) (ts:Ts):Prop:=vs.length=ts.length/\∀ (i:Nat) (t:Str×Str),ts[i]?=some t->∃ b,vs[i]?=some (.ref b)/\Zn1 H b t
def TiesV (H:Hp) (v:V) (ts:Ts):Prop:=∃ a vs,v= .ref a/\SeqAt' H a vs/\TyA H vs ts
theorem TyA.same {ts:Ts} (h:TyA H vs ts) (s:Same H H'):TyA H' vs ts:=⟨h.1,fun i t e=>by
 obtain⟨b,e1,m,e2⟩:=h.2 i t e;exact⟨b,e1,m,s _ _ e2⟩⟩
theorem TiesV.same {ts:Ts} (h:TiesV H v ts) (s:Same H H'):TiesV H' v ts:=by
 obtain⟨a,vs,e,h1,h2⟩:=h;exact⟨a,vs,e,h1.same s,h2.same s⟩
theorem TyA.at {ts:Ts} (h:TyA H vs ts) {i:Nat} (hi:i<ts.length):∃ b s,atI vs (i:Int)=some (.ref b)/\H b=some (.tup [.str (frm ts i),.str s,.str (tow ts i)]):=by
 obtain⟨b,e1,s,e2⟩:=h.2 i ts[i] (Qa hi);refine⟨b,s,Zfn e1,?_⟩;unfold frm tow;rw[Qb,Qa hi];exact e2
theorem Zej {xs:List V}:atI (xs++[v]) (-1)=some v:=by
 unfold atI ixN;rw[if_neg (by decide),if_pos (by rw[Qd,Qr];omega)];simp only[Rj,Qd,Qr];rw[show((-1:Int)+((xs.length+1:Nat):Int)).toNat=xs.length by omega];simp
structure NJ (H H2:Hp) (d:Addr) (ks:List Str) (adr:Str->Addr) (r:Str->List Nat):Prop where
 sm:Same H H2
 dn:H d=none
 dd:H2 d=some (.dK (rD ks adr))
 nd:ks.Nodup
 row:∀ P∈ks,H2 (adr P)=some (.lst ((r P).map nV))
 fresh:∀ P∈ks,H (adr P)=none
 inj:∀ P∈ks,∀ P'∈ks,adr P=adr P'->P=P'
 out:∀ P,P∉ks->r P=[]
def Zkt (r:Str->List Nat) (P:Str) (y:Nat):Str->List Nat:=fun x=>if x=P then r P++[y]else r x
theorem NJ.ne (J:NJ H H2 d ks adr r) {P:Str} (hP:P∈ks):adr P≠d:=fun e=>by
 have:=J.row P hP;rw[e,J.dd]at this;cases this
theorem NJ.old {p:Addr} (J:NJ H H2 d ks adr r) {P:Str} {y:Nat} (hP:P∈ks) (hp:H2 p=none) :
  NJ H (upd (upd H2 p (.lst [])) (adr P) (.lst ((r P).map nV++[nV y]))) d (Yx ks P) adr (Zkt r P y):=by
 have ek:Yx ks P=ks:=by unfold Yx;rw[if_pos hP]
 rw[ek];have s1:=Zb (o:=.lst []) hp;refine⟨fun b u hb=>?_,J.dn,?_,J.nd,fun Q hQ=>?_,J.fresh,J.inj,fun Q hQ=>?_⟩
 ·rw[Zl fun e=>by rw[e,J.fresh P hP]at hb;cases hb];exact s1 _ _ (J.sm b u hb)
 ·rw[Zl (Ne.symm (J.ne hP))];exact s1 _ _ J.dd
 ·unfold Zkt;by_cases c:Q=P
  ·subst c;rw[Zd,if_pos rfl,Qz];rfl
  ·rw[if_neg c,Zl fun e=>c (J.inj Q hQ P hP e)];exact s1 _ _ (J.row Q hQ)
 ·unfold Zkt;rw[if_neg (fun e:Q=P=>hQ (e▸hP))];exact J.out Q hQ
theorem NJ.new {p:Addr} (J:NJ H H2 d ks adr r) {P:Str} {y:Nat} (hP:P∉ks) (hp:H2 p=none) :
  NJ H (upd (upd (upd H2 p (.lst [])) d (.dK (rD (ks++[P]) fun x=>if x=P then p else adr x))) p (.lst ([]++[nV y]))) d (Yx ks P) (fun x=>if x=P then p else adr x) (Zkt r P y):=by
 have ek:Yx ks P=ks++[P]:=by unfold Yx;rw[if_neg hP]
 rw[ek];have hpd:d≠p:=fun e=>by rw[←e,J.dd]at hp;cases hp
 have hpa:∀ Q∈ks,adr Q≠p:=fun Q hQ e=>by have:=J.row Q hQ;rw[e,hp]at this;cases this
 have mm:∀ Q,Q∈ks++[P]->Q∈ks\/Q=P:=fun Q h=>by simpa using h
 refine⟨fun b u hb=>?_,J.dn,?_,?_,fun Q hQ=>?_,fun Q hQ=>?_,fun Q hQ Q' hQ' e=>?_,fun Q hQ=>?_⟩
 ·have h2:=J.sm b u hb;rw[Zl (Zo h2 hp),Zl (Zo hb J.dn),Zl (Zo h2 hp)];exact h2
 ·rw[Zl hpd,Zd]
 ·exact WA.mpr ⟨J.nd,by simp,fun a ha b hb e=>by rw[Qm.mp hb]at e;subst e;exact hP ha⟩
 ·unfold Zkt;by_cases c:Q=P
  ·subst c;rw[if_pos rfl,if_pos rfl,Zd,J.out Q hP];rfl
  ·rw[if_neg c,if_neg c];have hQ':Q∈ks:=(mm Q hQ).resolve_right c;rw[Zl (hpa Q hQ'),Zl (J.ne hQ'),Zl (hpa Q hQ')];exact J.row Q hQ'
 ·skip
  by_cases c:Q=P
  ·rw[if_pos c];cases hh:H p with
   | none=>rfl
   | some u=>have:=J.sm p u hh;rw[hp]at this;cases this
  ·rw[if_neg c];exact J.fresh Q ((mm Q hQ).resolve_right c)
 ·skip
  by_cases c:Q=P
  ·by_cases c':Q'=P
   ·rw[c,c']
   ·rw[if_pos c,if_neg c']at e;exact absurd e.symm (hpa Q' ((mm Q' hQ').resolve_right c'))
  ·by_cases c':Q'=P
   ·rw[if_neg c,if_pos c']at e;exact absurd e (hpa Q ((mm Q hQ).resolve_right c))
   ·rw[if_neg c,if_neg c']at e;exact J.inj Q ((mm Q hQ).resolve_right c) Q' ((mm Q' hQ').resolve_right c') e
 ·have h1:Q∉ks:=fun z=>hQ (QM _ z);have h2:¬ Q=P:=fun z=>hQ (by simp[z]);unfold Zkt;rw[if_neg h2];exact J.out Q h1
def NoR (H:Hp) (v:V) (d:Addr) (ts:Ts) (j:Nat):L2.St->Hp->Prop:=fun σ H2=>(∃ z2:Option V,σ=[some v,some (.ref d),z2])/\∃ ks adr r,NJ H H2 d ks adr r/\ks.length<=j/\∀ P,r P=((Rt (ts.length-j) j).filter fun i=>decide (frm ts i=P)).reverse
abbrev XE:Stmt:=top 29
abbrev Zd1:List Str:=["ties","numbers","number"]
theorem scNumbersOut:Zp Zd1 ["ties"] (Zg XE):=⟨rfl,rfl,rfl,by decide +kernel,rfl,by decide +kernel,by decide +kernel⟩
def ZlZ:Sp:=fun vs H Q _=>∃ (v:V) (ts:Ts),vs=[v]/\TiesV H v ts/\ts.length<=400/\∀ d H' ks adr,NJ H H' d ks adr (rows ts)->Q (.ref d) H'
theorem ZaN (D:HasDef K mg "numbers_out" XE ["ties"]) (B:Blt mg):FOk P w K mg base 1 "numbers_out" ["ties"] ZlZ:=by
 refine D.ok scNumbersOut (fun vs H Q E h=>?_) (fun f cdv A outer s H vs Q E hr h=>?_)
 ·obtain⟨v,ts,rfl,_⟩:=h;rfl
 ·obtain⟨v,ts,rfl,hV,hlen,k⟩:=h;obtain⟨a,vs,rfl,hs,hty⟩:=id hV;refine⟨_,(Ze (Zm (i:=1) scNumbersOut.nd rfl (.inl rfl) XV)
   (Ze (Yi PassesOwn.never rfl (Zg9 rfl B.range (Za (Zk Ye (Zj Zr rfl B.len ZX (Za (pv 0) Zc)) Zf) (Za (YV Yg Zf) (Za (YV Yg Zf) Zc)))) (ZI (i:=2) scNumbersOut.nd rfl (.inl rfl))
    (Zi (Z8 (Xf F.plainAttrs_list F.slot_list_append F.type_list_append Z1 (ZdO (pv 1) (ZB ix_tup (ZB (Zas K) (pv 0) (pv 2) (fun _ _=>rfl)) Zf (fun _ _=>rfl)) (ZT Zc) ⟨rfl,rfl,rfl,rfl⟩) (Za (pv 2) Zc)))))
   (Zi (Zq (pv 1))))),?_⟩
  intro d hd;have s1:=Zb (o:=.dK []) hd;have hvl:=hty.1;refine⟨_,rfl,.ref a,_,rfl,ZhM (hs.same s1),_,_,rfl,rfl,_,rfl,_,rfl,_,_,rfl,⟨by omega,by omega,by decide,by decide⟩,?_⟩;rw[show((vs.length:Int)-1-(-1)).toNat=ts.length by omega];refine ZfN (fun j σ H2=>NoR H (.ref a) d ts j σ H2) ⟨⟨none,rfl⟩,[],fun _=>d,fun _=>[],⟨s1,hd,Zd,Uo,(fun P h=>by cases h),(fun P h=>by cases h),(fun P h=>by cases h),fun _ _=>rfl⟩,Qk _,fun P=>by simp⟩ ?_ ?_
  ·rintro j σ H2 hj ⟨⟨z2,rfl⟩,ks,adr,r,J,hkl,hr2⟩;have hi:ts.length-1-j<ts.length:=by omega
   obtain⟨b,sg,e1,e2⟩:=hty.at hi;have ej:((vs.length:Int)-1-(j:Int))=((ts.length-1-j:Nat):Int):=by omega
   have hrl:∀ P,(r P).length<=j:=fun P=>by
    rw[hr2,QW];have:=Q7 (fun i=>decide (frm ts i=P)) (Rt (ts.length-j) j);rw[List.length_range']at this;exact this
   have eR:Rt (ts.length-(j+1)) (j+1)=(ts.length-1-j)::Rt (ts.length-j) j:=by
    rw[List.range'_succ,show ts.length-(j+1)=ts.length-1-j by omega,show ts.length-1-j+1=ts.length-j by omega]
   have fin:∀ H4 adr4,NJ H H4 d (Yx ks (frm ts (ts.length-1-j))) adr4 (Zkt r (frm ts (ts.length-1-j)) (ts.length-1-j))->NoR H (.ref a) d ts (j+1) [some (.ref a),some (.ref d),some (.int ((vs.length:Int)-1-(j:Int)))] H4:=fun H4 adr4 J4=>by
    refine⟨⟨_,rfl⟩,_,adr4,_,J4,?_,fun P=>?_⟩
    ·have:=Y7 ks (frm ts (ts.length-1-j));omega
    ·rw[eR,WS];unfold Zkt;by_cases c:P=frm ts (ts.length-1-j)
     ·rw[if_pos c,if_pos (decide_eq_true c.symm),Rb,←c,hr2]
     ·rw[if_neg c,if_neg (fun z=>c (of_decide_eq_true z).symm),hr2]
   refine⟨_,rfl,d,rfl,.inl ⟨_,.inl J.dd⟩,_,rfl,_,rfl,?_⟩;rw[ej];refine Zch ((hs.same J.sm)) e1 ⟨b,_,0,.str (frm ts (ts.length-1-j)),rfl,rfl,SqT.of (J.sm _ _ e2),rfl,Zh (show 0<=1000 by decide),fun p hp=>?_⟩;rw[←ej];refine⟨_,Sum.inr (frm ts (ts.length-1-j)),Zb hp _ _ J.dd,rfl,by rw[Zg1];exact ZF (by omega),fun v hv=>?_,fun hv=>?_⟩
   ·rw[JD]at hv;by_cases c:frm ts (ts.length-1-j)∈ks
    ·rw[if_pos c]at hv;cases hv;have hrow:=Zb (o:=.lst []) hp _ _ (J.row _ c);refine⟨.inl ⟨rfl,_,SqL.of hrow⟩,_,rfl,adr _,_,.int ((vs.length:Int)-1-(j:Int)),rfl,rfl,hrow,?_,?_⟩
     ·rw[Qc];have:=hrl (frm ts (ts.length-1-j));exact ZF (by omega)
     ·have:=fin _ _ (J.old (y:=ts.length-1-j) c hp);rw[ej]at this ⊢;exact this
    ·rw[if_neg c]at hv;cases hv
   ·rw[JD]at hv;by_cases c:frm ts (ts.length-1-j)∈ks
    ·rw[if_pos c]at hv;cases hv
    ·have hpd:p≠d:=fun e=>by rw[e,J.dd]at hp;cases hp
     rw[Zj6 c];have hl:(upd (upd H2 p (.lst [])) d (.dK (rD (ks++[frm ts (ts.length-1-j)]) fun x=>if x=frm ts (ts.length-1-j)then p else adr x))) p=some (.lst []):=by rw[Zl hpd,Zd]
     refine⟨.inl ⟨rfl,_,SqL.of hl⟩,_,rfl,p,[],.int ((vs.length:Int)-1-(j:Int)),rfl,rfl,hl,ZF (by decide),?_⟩;have:=fin _ _ (J.new (y:=ts.length-1-j) c hp);rw[ej]at this ⊢;exact this
  ·rintro σ H2 ⟨⟨z2,rfl⟩,ks,adr,r,J,hkl,hr2⟩;have er:r=rows ts:=funext fun P=>by
    rw[hr2,Wq];unfold rows;rw[List.range_eq_range']
   rw[er]at J;exact⟨_,rfl,k d H2 ks adr J⟩
def Zna (H:Hp) (v:V) (X:List Nat):Prop:=∃ q,v= .ref q/\H q=some (.tup (X.map nV))
theorem Zkq {ts:Ts} {u:Str}:∀ {Y X:List Nat},(∃ v,Ch ts u (X++Y) v)->∃ v,Ch ts u X v
 | [],X,h=>by rw[Ud]at h;exact h
 | y::Y,X,h=>by
  rw[show X++y::Y=(X++[y])++Y by simp]at h;obtain⟨v,h⟩:=Zkq (Y:=Y) h;exact⟨_,h.pop.1⟩
theorem Ch.det {ts:Ts} {u v w:Str} {X:List Nat} (h:Ch ts u X v) (h':Ch ts u X w):v=w:=by
 induction h with
 | nil u=>cases h';rfl
 | cons e h ih=>cases h' with | cons e' h'=>exact ih h'
abbrev ZgQ:Stmt:=top 30
abbrev ZmB:List Str:=["ties","begin","numbers","point","number"]
theorem scIsWay:Zp ZmB ["ties","begin","numbers"] (Zg ZgQ):=⟨rfl,rfl,rfl,by decide +kernel,rfl,by decide +kernel,by decide +kernel⟩
def Zgs:Sp:=fun vs H Q _=>∃ (v x:V) (b:Str) (ts:Ts) (X:List Nat),vs=[v,.str b,x]/\TiesV H v ts/\Zna H x X/\(∀ i∈X,i<ts.length)/\∀ c:Bool,(c=true↔X.length=ts.length/\∃ f,Ch ts b X f)->Q (.bl c) H
theorem Zhw (D:HasDef K mg "is_way" ZgQ ["ties","begin","numbers"]) (B:Blt mg):FOk P w K mg base 1 "is_way" ["ties","begin","numbers"] Zgs:=by
 refine D.ok scIsWay (fun vs H Q E h=>?_) (fun f cdv A outer s H vs Q E hr h=>?_)
 ·obtain⟨v,x,b,ts,X,rfl,_⟩:=h;rfl
 ·obtain⟨v,x,b,ts,X,rfl,⟨a,vs,rfl,hs,hty⟩,⟨q,rfl,hq⟩,hX,k⟩:=h;refine⟨_,(Ze (Z2 (Zt Zi4 (Zj Zr rfl B.len ZX (Za (pv 2) Zc)) (Zj Zr rfl B.len ZX (Za (pv 0) Zc)) (Zy _)) (Zi (Zq Yf)) Zx)
   (Ze (Zm (i:=3) scIsWay.nd rfl (.inl rfl) (pv 1))
   (Ze (Yi PassesOwn.never rfl (Yy (pv 2)) (ZI (i:=4) scIsWay.nd rfl (.inl rfl))
    (Ze (Z2 (Zt Zi4 (ZB ix_tup (ZB (Zas K) (pv 0) (pv 4) (fun _ _=>rfl)) Zf (fun _ _=>rfl)) (pv 3) (Zy _)) (Zi (Zq Yf)) Zx)
   (Zi (Zm (i:=3) scIsWay.nd rfl (.inl rfl) (ZB ix_tup (ZB (Zas K) (pv 0) (pv 4) (fun _ _=>rfl)) Zf (fun _ _=>rfl))))))
   (Zi (Zq Yf))))),?_⟩
  refine⟨_,rfl,.ref q,_,rfl,.inr ⟨_,SqT.of hq,rfl⟩,_,rfl,.ref a,_,rfl,ZhM hs,rfl,_,rfl,?_⟩;rw[Qc,hty.1];by_cases cl:X.length=ts.length
  ·refine Yu (by rw[Za6 (by rw[cl])];rfl) ?_;refine⟨_,rfl,_,rfl,q,rfl,⟨_,SqT.of hq⟩,Jw (K:=K) (a:=q) (xs:=X.map nV) (fun i σ H2=>(∃ (pt:Str) (z:Option V),σ=[some (.ref a),some (.str b),some (.ref q),some (.str pt),z]/\Ch ts b (X.take i) pt)/\H2=H)
    ⟨⟨b,none,rfl,.nil _⟩,rfl⟩ (fun i σ H2 _ ⟨_,e⟩=>by rw[e];exact SqT.of hq) ?_ ?_⟩
   ·rintro i x σ H2 hi ⟨⟨pt,z,rfl,hc⟩,rfl⟩;obtain⟨hi',rfl⟩:=Zb9 hi;have hin:=hX X[i] (QB hi');obtain⟨b0,sg,e1,e2⟩:=hty.at hin;have etk:X.take (i+1)=X.take i++[X[i]]:=QR hi';refine⟨_,rfl,_,rfl,Zch hs e1 ⟨b0,_,0,.str (frm ts X[i]),rfl,rfl,SqT.of e2,rfl,_,rfl,rfl,_,rfl,?_⟩⟩;by_cases cf:frm ts X[i]=pt
    ·refine Yu (by rw[cf];simp) ?_;refine⟨_,rfl,_,rfl,Zch hs e1 ⟨b0,_,2,.str (tow ts X[i]),rfl,rfl,SqT.of e2,rfl,?_⟩⟩;exact⟨⟨tow ts X[i],_,rfl,by rw[etk];exact hc.snoc cf⟩,rfl⟩
    ·refine Y3 (by simp[cf]) (k false ⟨fun z=>(by cases z),fun z=>?_⟩);obtain⟨_,f,hf⟩:=z;have:=Zkq (ts:=ts) (u:=b) (X:=X.take (i+1)) (Y:=X.drop (i+1)) ⟨f,by rw[WD];exact hf⟩;obtain⟨f',hf'⟩:=this;rw[etk]at hf';exact absurd (hf'.pop.1.det hc) cf
   ·rintro σ H2 ⟨⟨pt,z,rfl,hc⟩,rfl⟩;rw[Qc,Wr]at hc;exact k true ⟨fun _=>⟨cl,pt,hc⟩,fun _=>rfl⟩
  ·refine Y3 (by rw[Zau (by omega)];rfl) (k false ⟨fun z=>(by cases z),fun z=>absurd z.1 cl⟩)
structure WJ (H:Hp) (d g bk:Addr) (ks:List Str) (adr:Str->Addr) (H4:Hp) (r:Str->List Nat) (G B:List Nat):Prop where
 sm:Same H H4
 dd:H4 d=some (.dK (rD ks adr))
 row:∀ P∈ks,H4 (adr P)=some (.lst ((r P).map nV))
 gg:H4 g=some (.lst (G.map nV))
 bb:H4 bk=some (.lst (B.map nV))
 gn:H g=none
 bn:H bk=none
 fresh:∀ P∈ks,H (adr P)=none
 inj:∀ P∈ks,∀ P'∈ks,adr P=adr P'->P=P'
 ag:∀ P∈ks,adr P≠g
 ab:∀ P∈ks,adr P≠bk
 gb:g≠bk
 out:∀ P,P∉ks->r P=[]
theorem WJ.same {H5:Hp} {g:Addr} (J:WJ H d g bk ks adr H4 r G B) (s:Same H4 H5):WJ H d g bk ks adr H5 r G B where
 sm:=J.sm.trans s
 dd:=s _ _ J.dd
 row:=fun P hP=>s _ _ (J.row P hP)
 gg:=s _ _ J.gg
 bb:=s _ _ J.bb
 gn:=J.gn
 bn:=J.bn
 fresh:=J.fresh
 inj:=J.inj
 ag:=J.ag
 ab:=J.ab
 gb:=J.gb
 out:=J.out
theorem WJ.setRow {g:Addr} {X:List Nat} {pt:Str} (J:WJ H d g bk ks adr H4 r G B) (hp:pt∈ks):WJ H d g bk ks adr (upd H4 (adr pt) (.lst (X.map nV))) (Zix r pt X) G B where
 sm:=fun b u hb=>by
  rw[Zl (Zo hb (J.fresh pt hp))];exact J.sm b u hb
 dd:=by
  rw[Zl (Zjc J.dd (J.row pt hp) (by simp))];exact J.dd
 row:=fun P hP=>by
  unfold Zix;by_cases c:P=pt
  ·subst c;rw[if_pos rfl,Zd]
  ·rw[if_neg c,Zl (fun e=>c (J.inj P hP pt hp e))];exact J.row P hP
 gg:=by
  rw[Zl (Ne.symm (J.ag pt hp))];exact J.gg
 bb:=by
  rw[Zl (Ne.symm (J.ab pt hp))];exact J.bb
 gn:=J.gn
 bn:=J.bn
 fresh:=J.fresh
 inj:=J.inj
 ag:=J.ag
 ab:=J.ab
 gb:=J.gb
 out:=fun P hP=>by
  unfold Zix;rw[if_neg (fun e:P=pt=>hP (e▸hp))];exact J.out P hP
theorem WJ.setG {g:Addr} {X:List Nat} (J:WJ H d g bk ks adr H4 r G B):WJ H d g bk ks adr (upd H4 g (.lst (X.map nV))) r X B where
 sm:=fun b u hb=>by
  rw[Zl (Zo hb J.gn)];exact J.sm b u hb
 dd:=by
  rw[Zl (Zjc J.dd J.gg (by simp))];exact J.dd
 row:=fun P hP=>by
  rw[Zl (J.ag P hP)];exact J.row P hP
 gg:=Zd
 bb:=by
  rw[Zl (Ne.symm J.gb)];exact J.bb
 gn:=J.gn
 bn:=J.bn
 fresh:=J.fresh
 inj:=J.inj
 ag:=J.ag
 ab:=J.ab
 gb:=J.gb
 out:=J.out
theorem WJ.setB {g:Addr} {X:List Nat} (J:WJ H d g bk ks adr H4 r G B):WJ H d g bk ks adr (upd H4 bk (.lst (X.map nV))) r G X where
 sm:=fun b u hb=>by
  rw[Zl (Zo hb J.bn)];exact J.sm b u hb
 dd:=by
  rw[Zl (Zjc J.dd J.bb (by simp))];exact J.dd
 row:=fun P hP=>by
  rw[Zl (J.ab P hP)];exact J.row P hP
 gg:=by
  rw[Zl J.gb];exact J.gg
 bb:=Zd
 gn:=J.gn
 bn:=J.bn
 fresh:=J.fresh
 inj:=J.inj
 ag:=J.ag
 ab:=J.ab
 gb:=J.gb
 out:=J.out
theorem WJ.got {g p:Addr} (J:WJ H d g bk ks adr H4 r G B) (pt:Str) (hp:H4 p=none):∃ l,(Xx (rD ks adr) (Sum.inr pt:Key)).getD (.ref p)= .ref l/\(upd H4 p (.lst [])) l=some (.lst ((r pt).map nV)):=by
 rw[JD];by_cases c:pt∈ks
 ·rw[if_pos c];exact⟨_,rfl,Zb hp _ _ (J.row pt c)⟩
 ·rw[if_neg c];exact⟨p,rfl,by rw[Zd,J.out pt c];rfl⟩
abbrev ZgJ:Stmt:=top 31
abbrev Zmt:List Str:=["ties","begin","left","gone","backwards","point","numbers"]
theorem scWayOf:Zp Zmt ["ties","begin"] (Zg ZgJ):=⟨rfl,rfl,rfl,by decide +kernel,rfl,by decide +kernel,by decide +kernel⟩
def ZlX:Sp:=fun vs H Q _=>∃ (v:V) (b:Str) (ts:Ts),vs=[v,.str b]/\TiesV H v ts/\ts.length<=400/\(Eul ts b (wayX ts b)->∀ x H',Same H H'->Zna H' x (wayX ts b)->Q x H')/\(¬ ZaG ts b->∀ H',Same H H'->Q .non H')
theorem Zhm (D:HasDef K mg "way_of" ZgJ ["ties","begin"]) (B:Blt mg) (g34_:FOk P w K mg base 1 "numbers_out" ["ties"] ZlZ) (g30_:FOk P w K mg base 1 "is_way" ["ties","begin","numbers"] Zgs):FOk P w K mg base 2 "way_of" ["ties","begin"] ZlX:=by
 refine D.ok scWayOf (fun vs H Q E h=>?_) (fun f cdv A outer s H vs Q E hr h=>?_)
 ·obtain⟨v,b,ts,rfl,_⟩:=h;rfl
 ·obtain⟨v,b,ts,rfl,hV,hlen,k1,k2⟩:=h;have hu:=ZaO hr;obtain⟨a,vs,rfl,hs,hty⟩:=id hV;refine⟨_,(Ze (Zm (i:=2) scWayOf.nd rfl (.inl rfl) (Zv g34_ hr (Za (pv 0) Zc)))
   (Ze (Zm (i:=3) scWayOf.nd rfl (.inl rfl) (ZT Zc))
   (Ze (Zm (i:=4) scWayOf.nd rfl (.inl rfl) (ZT Zc))
   (Ze (Zm (i:=5) scWayOf.nd rfl (.inl rfl) (pv 1))
   (Ze (ZbB PassesOwn.never (PW.pt (Zbz (Zt ZbE (Zj Zr rfl B.len ZX (Za (YH hu (pv 2) (pv 5) (ZT Zc) ⟨rfl,rfl,rfl,rfl⟩) Zc)) Zf (Zy _)) (Zad (Zt ZbE (Zj Zr rfl B.len ZX (Za (pv 3) Zc)) Zf (Zy _)))))
    (Zi (Z2 (Zt ZbE (Zj Zr rfl B.len ZX (Za (YH hu (pv 2) (pv 5) (ZT Zc) ⟨rfl,rfl,rfl,rfl⟩) Zc)) Zf (Zy _)) (Ze (Z8 (Xf F.plainAttrs_list F.slot_list_append F.type_list_append Z1 (pv 3) (Za (Zhg F.plainAttrs_list F.slot_list_pop F.type_list_pop Zd3 (YX hu (pv 2) (pv 5) (fun _ _=>rfl))) Zc)))
   (Zi (Zm (i:=5) scWayOf.nd rfl (.inl rfl) (ZB ix_tup (ZB (Zas K) (pv 0) (ZB ix_list (pv 3) (YV Yg Zf) (fun _ _=>rfl)) (fun _ _=>rfl)) Zf (fun _ _=>rfl))))) (Ze (Z8 (Xf F.plainAttrs_list F.slot_list_append F.type_list_append Z1 (pv 4) (Za (Zhg F.plainAttrs_list F.slot_list_pop F.type_list_pop Zd3 (pv 3)) Zc)))
   (Zi (Zm (i:=5) scWayOf.nd rfl (.inl rfl) (ZB ix_tup (ZB (Zas K) (pv 0) (ZB ix_list (pv 4) (YV Yg Zf) (fun _ _=>rfl)) (fun _ _=>rfl)) Zf (fun _ _=>rfl))))))))
   (Ze (Zm (i:=6) scWayOf.nd rfl (.inl rfl) (ZJ ZH rfl B.tuple Yo (Za (Zmh (pv 4) (YV Yg Zf)) Zc)))
   (Ze (Z2 (YG (Zv g30_ hr (Za (pv 0) (Za (pv 1) (Za (pv 6) Zc))))) (Zi (Zq (pv 6))) Zx)
   (Zi (Zq JE))))))))),?_⟩
  refine⟨_,rfl,.ref a,ts,rfl,hV,hlen,fun d H1 ks adr J=>?_⟩;refine⟨Zh (show 0<=1000 by decide),fun g hg=>?_⟩;refine⟨Zh (show 0<=1000 by decide),fun bk hbk=>?_⟩;have hgb:g≠bk:=fun e=>by rw[←e,Zd]at hbk;cases hbk
  have hbk1:H1 bk=none:=by rw[Zl (Ne.symm hgb)]at hbk;exact hbk
  have W0:WJ H d g bk ks adr (upd (upd H1 g (.lst [])) bk (.lst [])) (rows ts) [] []:=by
   have ss:=(Zb (o:=.lst []) hg).trans (Zb (o:=.lst []) hbk);exact⟨J.sm.trans ss,ss _ _ J.dd,fun P hP=>ss _ _ (J.row P hP),by rw[Zl hgb,Zd];rfl,Zd,J.sm.free hg,J.sm.free hbk1,J.fresh,J.inj,(fun P hP e=>by have:=J.row P hP;rw[e,hg]at this;cases this),(fun P hP e=>by have:=J.row P hP;rw[e,hbk1]at this;cases this),hgb,J.out⟩
  generalize upd (upd H1 g (.lst [])) bk (.lst [])=H3 at W0;refine⟨_,rfl,?_⟩
  try dsimp only[XL]
  show Zdm (Zey _ _) _ _ _ _;refine ZdE (fun σ H4=>∃ (pt:Str) (r:Str->List Nat) (BB:List Nat),σ=[some (.ref a),some (.str b),some (.ref d),some (.ref g),some (.ref bk),some (.str pt),none]/\WJ H d g bk ks adr H4 r [] BB/\WI ts b pt r [] BB/\r pt=[]/\BB.reverse=wayX ts b) (fun R hR=>?_) ?_
  ·refine⟨fun m σ H4=>∃ (pt:Str) (r:Str->List Nat) (G BB:List Nat),σ=[some (.ref a),some (.str b),some (.ref d),some (.ref g),some (.ref bk),some (.str pt),none]/\WJ H d g bk ks adr H4 r G BB/\WI ts b pt r G BB/\m=2*(ts.length-(G.length+BB.length))+G.length/\wlk ts m r pt G BB=wlk ts (2*ts.length) (rows ts) b [] [],
    ⟨_,b,rows ts,[],[],rfl,W0,WI.start (ZgU ts) (ZeL ts),rfl,by simp⟩,?_⟩
   rintro m σ H4 ⟨pt,r,G,BB,rfl,J4,hW,hm,hw⟩;have hl4:=hW.len;have hrl:=hW.in_len pt;refine⟨_,rfl,d,rfl,.inl ⟨_,.inl J4.dd⟩,_,rfl,Zh (show 0<=1000 by decide),fun p hp=>?_⟩;have s5:=Zb (o:=.lst []) hp;obtain⟨l,el,hl⟩:=J4.got pt hp;have J5:=J4.same s5;refine⟨_,.inl ⟨_,Sum.inr pt,.inl J5.dd,rfl,rfl⟩,?_⟩;rw[el];generalize upd H4 p (.lst [])=H5 at J5 hl;clear hp s5 el J4 H4;refine⟨.ref l,_,rfl,.inl ⟨_,SqL.of hl,rfl⟩,_,_,rfl,rfl,_,rfl,?_⟩;rw[Qc];rcases WE (r pt)with e0 | ⟨X,i,e0⟩
   ·refine Yu (by rw[e0];simp) ?_;refine⟨_,rfl,.ref g,_,rfl,.inl ⟨_,SqL.of J5.gg,rfl⟩,_,_,rfl,rfl,_,rfl,?_⟩;rw[Qc];rcases WE G with rfl | ⟨X,i,rfl⟩
    ·refine Yu (by simp) (hR _ _ ⟨pt,r,BB,rfl,J5,hW,e0,?_⟩);rw[Zeo e0]at hw;unfold wayX;rw[←hw]
    ·rw[WF]at *;refine Y3 (by simp) ?_;have hi:i<ts.length:=hW.lt i (by simp);obtain⟨b0,sg,f1,f2⟩:=hty.at hi;rw[Qd,Qr]at hm hl4;refine⟨fun σ' H'=>∃ m',m'<m/\∃ (pt:Str) (r:Str->List Nat) (G BB:List Nat),σ'=[some (.ref a),some (.str b),some (.ref d),some (.ref g),some (.ref bk),some (.str pt),none]/\WJ H d g bk ks adr H' r G BB/\WI ts b pt r G BB/\m'=2*(ts.length-(G.length+BB.length))+G.length/\wlk ts m' r pt G BB=wlk ts (2*ts.length) (rows ts) b [] [],fun _ _ z=>z,?_⟩;refine⟨_,rfl,d,rfl,.inl ⟨_,.inl J5.dd⟩,_,rfl,Zh (show 0<=1000 by decide),fun p hp=>?_⟩;have s5:=Zb (o:=.lst []) hp;obtain⟨l',el,hl'⟩:=J5.got pt hp;have J6:=J5.same s5;refine⟨_,.inl ⟨_,Sum.inr pt,.inl J6.dd,rfl,rfl⟩,?_⟩;rw[el];generalize upd H5 p (.lst [])=H6 at J6 hl';refine⟨.ref l',_,rfl,.inl ⟨_,SqL.of hl',rfl⟩,_,_,rfl,rfl,_,rfl,?_⟩;rw[Qc];refine Yu (by rw[e0];simp) ?_;refine⟨_,rfl,.inl ⟨rfl,_,SqL.of J6.bb⟩,_,rfl,.inl ⟨rfl,_,SqL.of J6.gg⟩,g,_,nV i,rfl,rfl,J6.gg,by simp,?_⟩;rw[show((X++[i]).map nV).dropLast=X.map nV by rw[Qz,Wc,Uk]];have J7:=J6.setG (X:=X);refine⟨bk,_,nV i,rfl,rfl,J7.bb,by rw[Qc];exact ZF (by omega),?_⟩;rw[show BB.map nV++[nV i]=(BB++[i]).map nV by rw[Qz,Wc]];have J8:=J7.setB (X:=BB++[i]);refine⟨_,rfl,_,rfl,_,rfl,bk,_,-1,nV i,rfl,rfl,SqL.of J8.bb,by rw[Qz,Wc];exact Zej,?_⟩;refine Zch (hs.same J8.sm) f1 ⟨b0,_,0,.str (frm ts i),rfl,rfl,SqT.of (J8.sm _ _ f2),rfl,?_⟩;refine⟨2*(ts.length-(X.length+(BB++[i]).length))+X.length,?_,frm ts i,r,X,BB++[i],rfl,J8,hW.pop e0,rfl,?_⟩
     ·rw[Qd,Qr];omega
     ·rw[←hw,show m=2*(ts.length-(X.length+(BB++[i]).length))+X.length+1 by rw[Qd,Qr];omega,Zen e0]
   ·rw[WF]at e0;refine Y3 (by rw[e0];simp) ?_;refine Y3 rfl ?_;have hik:i∈r pt:=by rw[e0];simp
    have hpk:pt∈ks:=Classical.byContradiction fun c=>by rw[J5.out pt c]at hik;cases hik
    have hi:i<ts.length:=((hW.row pt i).mp hik).1;obtain⟨b0,sg,f1,f2⟩:=hty.at hi;have hW2:=hW.push e0;have hl5:=hW2.len;rw[Qd,Qr]at hl5;refine⟨fun σ' H'=>∃ m',m'<m/\∃ (pt:Str) (r:Str->List Nat) (G BB:List Nat),σ'=[some (.ref a),some (.str b),some (.ref d),some (.ref g),some (.ref bk),some (.str pt),none]/\WJ H d g bk ks adr H' r G BB/\WI ts b pt r G BB/\m'=2*(ts.length-(G.length+BB.length))+G.length/\wlk ts m' r pt G BB=wlk ts (2*ts.length) (rows ts) b [] [],fun _ _ z=>z,?_⟩;refine⟨_,rfl,d,rfl,.inl ⟨_,.inl J5.dd⟩,_,rfl,Zh (show 0<=1000 by decide),fun p hp=>?_⟩;have s5:=Zb (o:=.lst []) hp;obtain⟨l',el,hl'⟩:=J5.got pt hp;have J6:=J5.same s5;refine⟨_,.inl ⟨_,Sum.inr pt,.inl J6.dd,rfl,rfl⟩,?_⟩;rw[el];generalize upd H5 p (.lst [])=H6 at J6 hl';refine⟨.ref l',_,rfl,.inl ⟨_,SqL.of hl',rfl⟩,_,_,rfl,rfl,_,rfl,?_⟩;rw[Qc];refine Y3 (by rw[e0];simp) ?_;have hrow:=J6.row pt hpk;rw[e0]at hrow;refine⟨_,rfl,.inl ⟨rfl,_,SqL.of J6.gg⟩,_,rfl,_,rfl,d,.ref (adr pt),rfl,.inl ⟨_,Sum.inr pt,.inl J6.dd,rfl,by rw[JD,if_pos hpk]⟩,.inl ⟨rfl,_,SqL.of hrow⟩,adr pt,_,nV i,rfl,rfl,hrow,by simp,?_⟩;rw[show((X++[i]).map nV).dropLast=X.map nV by rw[Qz,Wc,Uk]];have J7:=J6.setRow (X:=X) hpk;refine⟨g,_,nV i,rfl,rfl,J7.gg,by rw[Qc];exact ZF (by omega),?_⟩;rw[show G.map nV++[nV i]=(G++[i]).map nV by rw[Qz,Wc]];have J8:=J7.setG (X:=G++[i]);refine⟨_,rfl,_,rfl,_,rfl,g,_,-1,nV i,rfl,rfl,SqL.of J8.gg,by rw[Qz,Wc];exact Zej,?_⟩;refine Zch (hs.same J8.sm) f1 ⟨b0,_,2,.str (tow ts i),rfl,rfl,SqT.of (J8.sm _ _ f2),rfl,?_⟩;refine⟨2*(ts.length-((G++[i]).length+BB.length))+(G++[i]).length,?_,tow ts i,Zix r pt X,G++[i],BB,rfl,J8,hW2,rfl,?_⟩
    ·rw[Qd,Qr];omega
    ·rw[←hw,show m=2*(ts.length-((G++[i]).length+BB.length))+(G++[i]).length+1 by rw[Qd,Qr];omega,Zb5 e0]
  ·rintro σ H4 ⟨pt,r,BB,rfl,J4,hW,e0,ew⟩;refine⟨_,rfl,_,rfl,bk,_,rfl,SqL.of J4.bb,rfl,fun p hp=>?_⟩;refine⟨p,_,rfl,.inl ⟨SqL.of Zd,fun l hl=>?_⟩⟩;have s5:=(J4.sm.trans (Zb (o:=.lst (BB.map nV).reverse) hp)).trans (Zb (o:=.tup (BB.map nV).reverse) hl);have hT:Zna (upd (upd H4 p (.lst (BB.map nV).reverse)) l (.tup (BB.map nV).reverse)) (.ref l) (wayX ts b):=⟨l,rfl,by rw[Zd,←ew,List.map_reverse]⟩
   refine⟨_,rfl,_,rfl,_,rfl,.ref a,.ref l,b,ts,wayX ts b,rfl,hV.same s5,hT,fun i hi=>?_,fun c hc=>?_⟩
   ·rw[←ew,Ub]at hi;exact hW.lt i (by simpa using hi)
   ·refine⟨_,rfl,?_⟩;cases c with
    | true =>
     obtain⟨h1,f,h2⟩:=hc.mp rfl;rw[←ew]at h1 h2;rw[QW]at h1;have hE:=hW.eul h1 h2;rw[ew]at hE;exact Y3 rfl ⟨_,rfl,k1 hE _ _ s5 hT⟩
    | false =>
     refine Yu rfl (k2 (fun hg=>?_) _ s5);have hE:=hW.done e0 hg;rw[ew]at hE;have:=hc.mpr ⟨by rw[hE.1.length_eq,Q5],hE.2⟩;cases this
end Sh
namespace L2
end L2
namespace Sh
open PySem L2 PyProof.Rows
seal L2.PE L2.PS L2.PSs L2.PT L2.PW L2.PA L2.PI L2.PG L2.PGs L2.PO L2.PC L2.PCs L2.OpR L2.UnR L2.CallR L2.MtR L2.IxR L2.SlR
variable {P:Program} {w:World} {K:PySem.W.Frag} {mg:Str->Option Value} {base:Heap}
variable {H:Hp}
def TyS (H:Hp) (us:List V) (T:List Str):Prop:=us.length=T.length/\∀ (i:Nat) (x:Str),T[i]?=some x->∃ b,us[i]?=some (.ref b)/\H b=some (.tup [.str (bg x),.str (tx [lst x]),.str (en x)])
theorem TyS.same {H':Hp} {us:List V} {T:List Str} (h:TyS H us T) (s:TSame H H'):TyS H' us T:=⟨h.1,fun i x e=>by
 obtain⟨b,e1,e2⟩:=h.2 i x e;exact⟨b,e1,s _ _ e2⟩⟩
theorem TyS.rep {us:List V} {T:List Str} (h:TyS H us T) {b:Addr} {x:Str} (hb:H b=some (.tup [.str (bg x),.str (tx [lst x]),.str (en x)])) (n:Nat):TyS H (us++QJ n (.ref b)) (T++QJ n x):=by
 refine⟨by simp[h.1],fun i y e=>?_⟩;by_cases hi:i<T.length
 ·rw[QO hi]at e;obtain⟨c,e1,e2⟩:=h.2 i y e;exact⟨c,by rw[QO (by rw[h.1];exact hi)];exact e1,e2⟩
 ·rw[QI (by omega)]at e;have hm:=QX e;have hl:=(Qp.mp e).1;rw[Q4]at hl;rw[(Wi.mp hm).2];refine⟨b,?_,hb⟩;rw[QI (by rw[h.1];omega),h.1,Us,if_pos hl]
theorem ZjH {α:Type} {l:List α} {c:α}:atI (l++[c]) (-1)=some c:=by
 unfold atI ixN;rw[if_neg (by decide),if_pos (by rw[Qd,Qr];omega)];simp only[Rj,Qd,Qr];rw[show((-1:Int)+((l.length+1:Nat):Int)).toNat=l.length by omega];simp
theorem ZhJ {x:Str} (h:1<=x.length):atI x.cps.toList (-1)=some (lst x):=by
 rw[Zfl h];exact ZjH
theorem ZfO {es:Es} {n:Nat}:(ZA (es.take n)).length<=(ZA es).length:=by
 have:ZA es=ZA (es.take n)++ZA (es.drop n):=by
  unfold ZA;rw[←U4,WD]
 rw[this,Qd];omega
def ZoM (H:Hp) (x:V) (ts:Ts) (b:Str):Prop:=(Eul ts b (wayX ts b)/\Zna H x (wayX ts b))\/(¬ ZaG ts b/\x= .non)
theorem ZiC {ts:Ts} {b:Str} {Q:V->Hp->Prop} (h:∀ x H',Same H H'->ZoM H' x ts b->Q x H'):(Eul ts b (wayX ts b)->∀ x H',Same H H'->Zna H' x (wayX ts b)->Q x H')/\(¬ ZaG ts b->∀ H',Same H H'->Q .non H') :=
 ⟨fun e x H' s t=>h x H' s (.inl ⟨e,t⟩),fun g H' s=>h .non H' s (.inr ⟨g,rfl⟩)⟩
abbrev Zbt:Stmt:=top 23
abbrev Zje:List Str:=["H","wish","begins"]
theorem scStartOf:Zp Zje ["H","wish"] (Zg Zbt):=⟨rfl,rfl,rfl,by decide +kernel,rfl,by decide +kernel,by decide +kernel⟩
def Zdz:Sp:=fun vs H Q _=>∃ (v:V) (wsh:Str) (es:Es),vs=[v,.str wsh]/\HeapV H v es/\Ziw es/\∀ H' ss,Same H H'->SPts es ss->Q (.str (Zlz wsh (ups (mo es) ss))) H'
theorem ZdS (D:HasDef K mg "start_of" Zbt ["H","wish"]) (B:Blt mg) (g22_:FOk P w K mg base 3 "begins_of" ["H"] Zbn):FOk P w K mg base 4 "start_of" ["H","wish"] Zdz:=by
 refine D.ok scStartOf (fun vs H Q E h=>?_) (fun f cdv A outer s H vs Q E hr h=>?_)
 ·obtain⟨v,wsh,es,rfl,_⟩:=h;rfl
 ·obtain⟨v,wsh,es,rfl,hV,hF,k⟩:=h;refine⟨_,(Ze (Zm (i:=2) scStartOf.nd rfl (.inl rfl) (Zv g22_ hr (Za (pv 0) Zc)))
   (Ze (Z2 (Zt YE (Zj Zr rfl B.len ZX (Za (pv 2) Zc)) Zf (Zy _)) (Zi (Zq (pv 1))) Zx)
   (Zi (Zq (ZB ix_tup (ZB ix_tup (pv 2) Zf (fun _ _=>rfl)) Zf (fun _ _=>rfl)))))),?_⟩
  refine⟨_,rfl,v,es,rfl,hV,hF,fun v' H1 ss s1 hv' hss=>?_⟩;have kk:=k H1 ss s1 hss;obtain⟨q,us,rfl,hq,hpa⟩:=hv';refine⟨_,rfl,.ref q,_,rfl,.inr ⟨_,SqT.of hq,rfl⟩,rfl,_,rfl,?_⟩;rw[hpa.1];generalize ups (mo es) ss=ue at *;cases ue with
  | nil=>exact Y3 (by decide) ⟨_,rfl,kk⟩
  | cons u ue =>
   refine Yu (Zau (by rw[QG];omega)) ?_;obtain⟨b,e1,e2⟩:=hpa.2 0 u rfl;exact⟨_,rfl,q,us,0,.ref b,rfl,rfl,SqT.of hq,ZS (by decide) e1,b,_,0,.str u.1,rfl,rfl,SqT.of e2,rfl,kk⟩
end Sh
namespace L2
open PySem PySem.Spec PyProof.Rows PySem.W
section
variable {X:Cx}
theorem Zjp (x:Str) (t:Tok):List.filterMap (fun i=>x.cps[i]?) (slicePicked x none none (some (-1,t)))=x.cps.toList.reverse:=by
 have e:slicePicked x none none (some (-1,t))=sliceRange ((x.length:Int)-1) (-1) (-1):=rfl;rw[e,krv_sliceRange,krv_range,List.filterMap_reverse];congr 1;exact krv_all x.cps
def Znj (te ts:TE):TE:=fun σ H Q=>te σ H fun x H1=>ts σ H1 fun y H2=>∃ z:Str,x= .str z/\z.length<=sizeLine/\y= .int (-1)/\Q (.str (tx z.cps.toList.reverse)) H2
theorem ZdN {e st:Expr} {te ts:TE} {p2 pos:Pos} (he:PE X e te) (hs:PE X st ts):PE X (.Subscript e (.Slice none none (some st) p2) pos) (Znj te ts):=by
 intro pins s σ H Q I h;refine Subscript_ (thn (he pins s σ H _ I h) fun v s1 ⟨x,H1,I1,r1,q1⟩=>?_);refine wpAny_Slice ?_;rw[evalPart_none];refine wpAny_pure (wpAny_pure ?_);rw[evalPart_some];refine thn (hs pins s1 σ H1 _ I1 q1) fun vs s3 ⟨y,H3,I3,ry,q3⟩=>?_;obtain⟨z,rfl,hz,rfl,q⟩:=q3;obtain⟨t,rfl⟩:=ry;obtain⟨t0,rfl⟩:=r1;have I4:Inv X pins σ H3 {s3 with heap:=s3.heap.push {cls:=.type "slice",data:=.fields #[.none,.none,.int (-1) t]}}:=I3.kept (t':=s3.toks) fun b ob q=>Qh _ q;refine tail_any (ops:=[.ref s3.heap.objs.size,.str z t0]) (typeIs_str _ _ _) F.slot_str_getitem.lookup ?_ (by with_unfolding_all rfl);refine wpAny_getItem_str_slice (l:=none) (u:=none) (st:=some (-1,t)) (Heap.IsSliceOf.new ..) rfl ?_;unfold sliceMade;refine post_val_or_str ?_;rw[if_neg (by simp)];rw[Zjp];have e:({cps:=z.cps.toList.reverse.toArray}:Str)=tx z.cps.toList.reverse:=rfl;rw[e];refine⟨by rw[Zn,QW];exact hz,fun t' k=>⟨.str _,H3,I4.tok _,⟨_,rfl⟩,q⟩⟩
end
theorem XA {X:Cx}:CallR X (.builtin "sorted") (fun xs H Q=>∃ (a:Addr) (rs:List (Addr×Str)),xs=[.ref a]/\SqL X.K H a (rs.map fun r=>V.ref r.1)/\(∀ r∈rs,∃ y,H r.1=some (.tup [.str r.2,y]))/\(rs.map (·.2)).Nodup/\rs.length<64 /\
  ∀ (p:Addr) (rs':List (Addr×Str)),H p=none->rs'.Perm rs->(rs'.map fun r=>r.2.cps.toList).Pairwise (· < ·)->Q (.ref p) (upd H p (.lst (rs'.map fun r=>V.ref r.1)))):=by
 intro pins s σ H xs us Q I r h;obtain⟨a,rs,rfl,hq,ht,nd,h64,q⟩:=h;have h1k:rs.length<=1000:=by omega
 obtain⟨u,rfl,ru⟩:=Jf r;cases ru;obtain⟨its,rv,pl,hz⟩:=I.list hq;have hl:=rv.length;rw[Qc]at hl;have iat:∀ (i:Nat) (hi:i<rs.length),its[i]?=some (.ref rs[i].1):=fun i hi=>by
  obtain⟨u',hu,ru⟩:=rv.get (show(rs.map fun r=>V.ref r.1)[i]?=some (V.ref rs[i].1)by rw[Qg,Qa hi];rfl);rw[hu];exact congrArg some ru
 have pr:∀ (i:Nat) (v:Value) (x:Str),its[i]?=some v->(rs.map (·.2))[i]?=some x->Tim.PrI s.heap v x:=fun i v x e1 e2=>by
  have hi:i<rs.length:=by have:=(Qp.mp e1).1;omega
  rw[iat i hi]at e1;cases e1;rw[Qg,Qa hi]at e2;cases e2;obtain⟨y,hy⟩:=ht rs[i] (QB hi);obtain⟨_,jts,rj,⟨o,g1,g2,n,g3⟩,_⟩:=(show ObjOk X.prog X.w H s.heap rs[i].1 (.tup [.str rs[i].2,y])from I.hok _ _ hy)
  obtain⟨u1,u2,ej,r1,r2⟩:=Zdq rj;obtain⟨t,rfl⟩:=r1;exact⟨rs[i].1,o,n,t,u2,rfl,g1,g2,by rw[g3,ej]⟩
 have hS:∀ {h1:Heap},(∀ b o,s.heap.get? b=some o->h1.get? b=some o)->Tim.SortA X.prog X.w h1 its (Tim.ltS (rs.map (·.2))) (tuples' ((Value.type "str") != Value.type "tuple")):=fun {h1} hk=>⟨(Tim.sa_tups (prog:=X.prog) (w:=X.w) (h1:=h1) (by rw[Qc];omega) nd fun i v x e1 e2=>(pr i v x e1 e2).keep hk).kd,(Tim.sa_tups (prog:=X.prog) (w:=X.w) (h1:=h1) (by rw[Qc];omega) nd fun i v x e1 e2=>(pr i v x e1 e2).keep hk).ask⟩
 refine Tim.sorted_allS (lt:=Tim.ltS (rs.map (·.2))) (κ:=tuples' ((Value.type "str") != Value.type "tuple")) (Pc:=fun h1 vs=>its=vs) (fun R hR=>?_) (fun h1 vs hk hP=>?_) fun h1 vs h3 tk c p hP hk k1 hk1 hp hs hD hN=>?_
 ·exact collect_list pl.isList (hR _ s.toks its (fun b o e=>(QZ _ _ (Rg (Qu e))).trans (Qh _ e)) rfl) (JB (by omega))
 ·subst hP;exact⟨by omega,by have:=ZbN nd;rw[Qc,hl]at this;exact this,hS hk⟩
 ·subst hP;have hp':Srt.Pm rs.length p:=by rw[hl];exact hp
  have vv:∀ l:List Nat,(∀ i∈l,i<rs.length)->Vals ((l.map fun i=>rs.getD i (0,"")).map fun r=>V.ref r.1) (l.map fun i=>its.getD i Value.none):=by
   intro l;induction l with
   | nil=>intro _;exact .nil
   | cons i l ih =>
    intro hh;have hi:i<rs.length:=hh i (Qj ..);refine .cons ?_ (ih fun j hj=>hh j (Ql _ hj));show its.getD i Value.none=Value.ref (rs.getD i (0,"")).1;rw[Qb (l:=its),iat i hi,Qb,Qa hi];rfl
  have hmem:∀ i∈p.toList,i<rs.length:=fun i hi=>by
   have:i∈p:=by simpa using hi
   have:=hp'.perm.mem_iff.mp this;simpa using this
  obtain⟨hn,I2⟩:=ZdR (tk:=tk) (vs:=(p.toList.map fun i=>rs.getD i (0,"")).map fun r=>V.ref r.1) I hk hN (by rw[Qc,Qc,QK,hp'.size];exact JB h1k) ⟨_,c,vv p.toList hmem,hD⟩;refine⟨.ref h1.objs.size,_,I2,rfl,q _ _ hn (Js rs p hp') ?_⟩;have hup:=Zmd (n:=rs.length) (by rw[Qc]) nd hp' (by rw[hl];exact hs);rw[QA,QY,Uj];intro i j hi hj hij;have hz2:p.toList.length=rs.length:=by rw[QK,hp'.size]
  have hu:=hup i j hij (by omega);unfold ltX at hu;rw[decide_eq_true_eq,ZfB hp' hi,ZfB hp' hj]at hu;have ge:∀ k,k<rs.length->(rs.map fun r=>r.2).getD k ("" : Str)=(rs.getD k (0,"")).2:=fun k hk=>by
   rw[Qb,Qg,Qa hk,Qb,Qa hk];rfl
  rw[ge _ (hmem _ (QB hi)),ge _ (hmem _ (QB hj))]at hu;exact hu
end L2
namespace Sh
open PySem L2 PyProof.Rows
variable {P:Program} {w:World} {K:PySem.W.Frag} {mg:Str->Option Value} {base:Heap}
variable {L i:Nat} {b p:Str} {hp:Es} {ps ss:List Str} {z:List Nat}
def ChP:Str->List (Str×Str)->Str->Prop
 | u,[],v=>u=v
 | u,t::W,v=>t.1=u/\ChP t.2 W v
theorem Jy {W':List (Str×Str)} {v:Str}:∀ {W:List (Str×Str)} {u m:Str},ChP u W m->ChP m W' v->ChP u (W++W') v
 | [],u,m,h,k=>by rw[show u=m from h];exact k
 | t::W,u,m,⟨h1,h2⟩,k=>⟨h1,Jy h2 k⟩
theorem Zjl {α β:Type} {f:α->β} {W U:List β} (h:W.Perm U):∀ {l:List α},U=l.map f->∃ X:List α,X.Perm l/\W=X.map f:=by
 induction h with
 | nil =>
  intro l e;exact⟨[],by rw[WC.mp e.symm],rfl⟩
 | cons x _ ih =>
  intro l e;cases l with
  | nil=>cases e
  | cons a l =>
   rw[Qs]at e;injection e with e1 e2
   obtain⟨X,p,q⟩:=ih e2;exact⟨a::X,p.cons a,by rw[Qs,q,e1]⟩
 | swap x y l0 =>
  intro l e;match l,e with
  | a::b::l,e =>
   simp only[Qs,List.cons.injEq]at e;exact⟨b::a::l,List.Perm.swap _ _ _,by rw[Qs,Qs,e.1,e.2.1,e.2.2]⟩
 | trans _ _ ih1 ih2 =>
  intro l e;obtain⟨X,p,q⟩:=ih2 e;obtain⟨Y,p',q'⟩:=ih1 q;exact⟨Y,p'.trans p,q'⟩
theorem range_getD {α:Type} (l:List α) (d:α):l=(Qq l.length).map fun i=>l.getD i d:=by
 apply QU;intro i;rw[Qg];by_cases h:i<l.length
 ·rw[Qa h,QT h,Wd,Qb,Qa h];rfl
 ·rw[Qo (by omega),Qo (by simp;omega)];rfl
theorem Zlt {ts:Ts}:∀ {X:List Nat} {u v:Str},ChP u (X.map fun i=>ts.getD i ("","")) v->Ch ts u X v
 | [],u,v,h=>by rw[show u=v from h];exact .nil _
 | i::X,u,v,⟨h1,h2⟩=>.cons h1 (Zlt h2)
theorem Zfg {ts W:Ts} {v:Str} (hp:W.Perm ts) (hc:ChP b W v):∃ X,Eul ts b X/\Ch ts b X v:=by
 obtain⟨X,p,e⟩:=Zjl hp (range_getD ts ("",""));rw[e]at hc;exact⟨X,⟨p,v,Zlt hc⟩,Zlt hc⟩
theorem Ziv {ts:Ts} {P y:Str} (h:ZiB ts P y):ZiB ts y P:=by
 obtain⟨i,hi,h⟩:=h;exact⟨i,hi,h.elim (fun q=>.inr ⟨q.2,q.1⟩) fun q=>.inl ⟨q.2,q.1⟩⟩
theorem RchT.trans' {ts:Ts} {a c:Str} (h:RchT ts a b) (k:RchT ts b c):RchT ts a c:=by
 induction k with
 | here=>exact h
 | step _ q ih=>exact .step ih q
theorem RchT.symm' {ts:Ts} {a:Str} (h:RchT ts a b):RchT ts b a:=by
 induction h with
 | here=>exact .here
 | step _ q ih=>exact RchT.trans' (.step .here (Ziv q)) ih
def ptS (z:List Nat) (L i:Nat):Str:=tx ((z.drop i).take (L-1))
def be (x:Str):Str×Str:=(bg x,en x)
theorem bgw (h:i+L<=z.length) (h1:1<=L):bg (tx ((z.drop i).take L))=ptS z L i:=by
 unfold bg ptS;rw[Zs];congr 1;rw[UC,R9,QP,WK];congr 1;omega
theorem enw:en (tx ((z.drop i).take L))=ptS z L (i+1):=by
 unfold en ptS;rw[Zs,Va,R8]
theorem Yv (h:i<z.length-L+1):(pcs z L)[i]?=some (tx ((z.drop i).take L)):=by
 unfold pcs;rw[Qg,QT h];rfl
theorem ZM (z:List Nat) (L:Nat):(pcs z L).length=z.length-L+1:=by
 unfold pcs;rw[Qc,Q5]
theorem ZaY {z:List Nat} {L:Nat} (hF:Fit z L):∀ (n i:Nat),i+n<=z.length-L+1->ChP (ptS z L i) (((pcs z L).drop i).take n |>.map be) (ptS z L (i+n))
 | 0,i,_=>by
  rw[Wz];exact rfl
 | n+1,i,h=>by
  have hi:i<(pcs z L).length:=by rw[ZM];omega
  have hl:=hF.le;rw[Wt hi,Ur,Qs];have e:(pcs z L)[i]=tx ((z.drop i).take L):=by
   have:=Yv (z:=z) (L:=L) (i:=i) (by omega);rw[Qa hi]at this;exact Option.some.inj this
  refine⟨?_,?_⟩
  ·show bg (pcs z L)[i]=_;rw[e,bgw (by omega) hF.one]
  ·show ChP (en (pcs z L)[i]) _ _;rw[e,enw,show i+(n+1)=(i+1)+n by omega];exact ZaY hF n (i+1) (by omega)
theorem ZP (h:Zu ps hp):(ZA hp).Perm ps:=by
 rw[RG];intro x;have nd:=XJ h;have nn:∀ e∈hp,0<=e.2:=fun e he=>by rw[h.cnt e he];omega
 by_cases c:x∈ps
 ·obtain⟨e,he,rfl⟩:=Qi.mp ((h.mem x).mpr c);have:=Zih nd nn e he;rw[h.cnt e he]at this;exact U8.inj this
 ·rw[WG c,WG fun q=>c ?_];unfold ZA at q;obtain⟨e,he,hx⟩:=UV.mp q;rw[(Wi.mp hx).2];exact(h.mem _).mp (Qi.mpr ⟨e,he,rfl⟩)
structure Tx (ps:List Str) (L:Nat) (z:List Nat):Prop where
 fit:Fit z L
 pm:(pcs z L).Perm ps
 cd:Cd z
 few:z.length<=63
theorem Ze5 (h:Tx ps L z) (hO:Zu ps hp) (p:Str):mo hp p=dl (ptS z L 0) p-dl (ptS z L (z.length-L+1)) p:=by
 have nn:∀ e∈hp,0<=e.2:=fun e he=>by rw[hO.cnt e he];omega
 have hc:=ZaY h.fit (z.length-L+1) 0 (by omega);rw[UD,Q0 (by rw[ZM];omega),Rk]at hc;have hp':((pcs z L).map be).Perm (tsE hp):=(h.pm.trans (ZP hO).symm).map be;obtain⟨X,hE,hX⟩:=Zfg hp' hc;rw[←Zle nn p,←hX.bal p];exact(Y6 hE.1 p).symm
theorem Zfv (h:Tx ps L z) (hO:Zu ps hp) (hS:SPts hp ss) (wsh:Str) :
  Zlz wsh (ups (mo hp) ss)=if ptS z L 0=ptS z L (z.length-L+1)then wsh else ptS z L 0:=by
 have hm:=Ze5 h hO;generalize ptS z L (z.length-L+1)=f at hm;have h0:ptS z L 0∈ss:=by
  have hl:=h.fit.le;have hi:0<(pcs z L).length:=by rw[ZM];omega
  refine(hS.pts.mem _).mpr ?_;have e:=Yv (z:=z) (L:=L) (i:=0) (by omega);have m:tx ((z.drop 0).take L)∈ps:=h.pm.mem_iff.mp (QX e);obtain⟨x,hx,e2⟩:=Qi.mp ((hO.mem _).mpr m);exact⟨x,hx,.inl (by rw[e2,bgw (by omega) h.fit.one])⟩
 generalize ptS z L 0=b at hm h0;by_cases c:b=f
 ·subst c;rw[if_pos rfl];have:ups (mo hp) ss=[]:=by
   unfold ups;rw[WC,UR];intro x _;rw[hm x];simp
  rw[this];rfl
 ·rw[if_neg c];have ha:∀ u∈ups (mo hp) ss,u.1=b:=fun u hu=>by
   unfold ups at hu;obtain⟨x,hx,rfl⟩:=Qi.mp hu;have:=of_decide_eq_true (QD.mp hx).2;rw[hm x]at this;unfold dl at this;by_cases q:b=x
   ·exact q.symm
   ·rw[if_neg q]at this;split at this <;> omega
  have hne:(b,mo hp b)∈ups (mo hp) ss:=by
   unfold ups;refine Qi.mpr ⟨b,QD.mpr ⟨h0,decide_eq_true ?_⟩,rfl⟩;rw[hm b];unfold dl;rw[if_pos rfl,if_neg fun q=>c q.symm];decide
  generalize ups (mo hp) ss=us at *;cases us with
  | nil=>cases hne
  | cons u us=>exact ha u Qj
abbrev T3:=List (Str×Str×Str)
def Zdl (x:Str):Str×Str×Str:=(bg x,tx [lst x],en x)
def tsT (T:T3):Ts:=T.map fun t=>(t.1,t.2.2)
def ZfY (T:T3) (X:List Nat):List Nat:=X.flatMap fun i=>(T.getD i ("","","")).2.1.cps.toList
noncomputable def tf (T:T3) (b:Str):Option Str:=by
 classical
 exact if ZaG (tsT T) b then some (tx (b.cps.toList++ZfY T (wayX (tsT T) b)))else none
theorem Xc {T:T3} (h:ZaG (tsT T) b):tf T b=some (tx (b.cps.toList++ZfY T (wayX (tsT T) b))):=by
 unfold tf;exact if_pos h
theorem Zev {T:T3} (h:¬ ZaG (tsT T) b):tf T b=none:=by
 unfold tf;exact if_neg h
noncomputable def hpl (ps:List Str):Es:=by
 classical
 exact if h:∃ hp,Zu ps hp then h.choose else []
theorem Yl (h:Zu ps hp):hpl ps=hp:=by
 have e:∃ hp,Zu ps hp:=⟨hp,h⟩
 unfold hpl;rw[dif_pos e];exact X3 e.choose_spec h
theorem ZeD {es:Es} {l m:List Str} (h:SPts es l) (k:SPts es m):l=m:=by
 refine List.Perm.eq_of_pairwise (le:=fun a b:Str=>a.cps.toList<b.cps.toList) (fun x y _ _ h1 h2=>absurd (UT h1 h2) (Wy _)) (QY.mp h.srt) (QY.mp k.srt) ?_;refine(List.perm_ext_iff_of_nodup h.pts.nd k.pts.nd).mpr fun x=>?_;rw[h.pts.mem,k.pts.mem]
noncomputable def stF (ps:List Str) (wsh:Str):Str:=by
 classical
 exact if h:∃ ss,SPts (hpl ps) ss then Zlz wsh (ups (mo (hpl ps)) h.choose)else wsh
theorem ZaS (h:Zu ps hp) (k:SPts hp ss) (wsh:Str):stF ps wsh=Zlz wsh (ups (mo hp) ss):=by
 have e0:=Yl h;have e:∃ ss,SPts (hpl ps) ss:=⟨ss,by rw[e0];exact k⟩
 unfold stF;rw[dif_pos e];have:e.choose=ss:=ZeD e.choose_spec (by rw[e0];exact k);rw[this,e0]
noncomputable def ZfT (ps:List Str) (p:Str):T3:=(ZA (hpl (ps.erase p))).map Zdl++[(bg p,tx [lst p],p)]
noncomputable def Je (ps:List Str) (p s:Str):T3:=(ZA (hpl ((ps.erase p).erase (en p++s)))).map Zdl++[(bg p,tx [lst p]++s,en (en p++s))]
noncomputable def ZjE (ps:List Str) (p:Str):Option Str:=tf (ZfT ps p) (stF ps (en p))
noncomputable def ZaH (ps:List Str) (p s:Str):Option Str:=tf (Je ps p s) (stF ps (bg p))
noncomputable def YC (ps:List Str) (p:Str):List (Str×Option Str):=(("" : Str),ZjE ps p)::(nxt (hpl (ps.erase p)) (en p)).map fun e=>(e.1,ZaH ps p e.1)
def Zd8 (r:Str×Option Str):Option (Str×Str):=r.2.map fun t=>(r.1,t)
noncomputable def sb (ps:List Str) (p:Str):List (Str×Str):=(YC ps p).filterMap Zd8
def sg (z:List Nat) (L i:Nat):Str:=tx ((z.drop (i+L)).take 1)
theorem Xv {A:List Str} (h:(p::A).Perm ps):A.Perm (ps.erase p):=by
 have:=h.erase p;rw[List.erase_cons_head]at this;exact this
theorem Jh (F:List Str) (t:Str×Str×Str):tsT (F.map Zdl++[t])=F.map be++[(t.1,t.2.2)]:=by
 unfold tsT;rw[Qz,QA];rfl
theorem ZcO {x:Str} (h:1<=x.length):lc x=tx [lst x]:=by
 unfold lc lst;rw[Rc,Re,Qb,ZL];rfl
theorem Zh8 {x y:Str} (h:1<=x.length) (e:bg x=y):y++lc x=x:=by
 rw[ZcO h,←e,←tx_eta (bg x),Z7,←Zfl h,tx_eta]
theorem Zkg (h1:1<=L) (h:i+1+L<=z.length):lc (tx ((z.drop (i+1)).take L))=sg z L i:=by
 unfold lc sg;rw[Zs,Zn,QP,WK,Qb,RL,if_pos (by omega),U9];have e:(z.drop (i+L)).take 1=[z[i+L]]:=by
  rw[Wt (by omega),Ur,Wz]
 rw[e,show i+1+(min L (z.length-(i+1))-1)=i+L by omega,Qa (by omega)];rfl
theorem ZiV {s t:Str} {o:Option Str} (h:(s,o)∈YC ps p) (e:o=some t):s∈(sb ps p).map Prod.fst :=
 Qi.mpr ⟨(s,t),Uc.mpr ⟨(s,o),h,by rw[e];rfl⟩,rfl⟩
theorem Yj (qs:List Str):∃ hp,Zu qs hp:=by
 obtain⟨tt,h1,h2⟩:=ZdA qs;exact⟨_,ZcR h1 h2⟩
theorem ZlV {l:List Str} (h:(l.map fun x=>x.cps.toList).Pairwise (· < ·)):l.Nodup :=
 (QY.mp h).imp fun {a b} q e=>by rw[e]at q;exact absurd q (Wy _)
theorem JZ (hp:Es):∃ ss,SPts hp ss:=by
 obtain⟨tt,h1,h2⟩:=ZdA (hp.flatMap fun e=>[bg e.1,en e.1]);have nd:=ZlV h1;refine⟨tt,h1,nd,fun P=>?_,?_⟩
 ·rw[h2,UV];constructor
  ·rintro⟨e,he,m⟩;rcases Qy.mp m with q | q
   ·exact⟨e,he,.inl q.symm⟩
   ·exact⟨e,he,.inr (Qm.mp q).symm⟩
  ·rintro⟨e,he,q | q⟩
   ·exact⟨e,he,by rw[q];exact Qj⟩
   ·exact⟨e,he,by rw[q];exact Ql _ (Qm.mpr rfl)⟩
 ·have hl:(hp.flatMap fun e=>[bg e.1,en e.1]).length=2*hp.length:=by
   clear h2;induction hp with
   | nil=>rfl
   | cons e hp ih=>rw[Ui,Qd,ih];simp only[QG,Uu];omega
  rw[←hl];exact YI nd fun x hx=>(h2 x).mp hx
section
variable {ps:List Str} {L:Nat} {z:List Nat}
theorem ZeC (h:Tx ps L z) (hO:Zu ps hp) (hS:SPts hp ss) (wsh:Str):stF ps wsh=if ptS z L 0=ptS z L (z.length-L+1)then wsh else ptS z L 0:=by
 rw[ZaS hO hS,Zfv h hO hS]
theorem Xs (h:Tx ps L z) (hi:i<z.length-L+1) (e:(pcs z L)[i]?=some p):p=tx ((z.drop i).take L)/\bg p=ptS z L i/\en p=ptS z L (i+1)/\p.length=L/\p∈ps:=by
 have hl:=h.fit.le;have m:=h.pm.mem_iff.mp (QX e);rw[Yv hi]at e;cases e;refine⟨rfl,bgw (by omega) h.fit.one,enw,?_,m⟩;rw[Zn,QP,WK];omega
theorem ZjC (h:Tx ps L z) (e:(pcs z L)[z.length-L]?=some p) {hp1:Es} (hO:Zu ps hp) (hS:SPts hp ss) (hO1:Zu (ps.erase p) hp1):ZaG (tsT (ZfT ps p)) (stF ps (en p)):=by
 obtain⟨e0,e1,e2,e3,e4⟩:=Xs h (by omega) e;rw[ZeC h hO hS,e2];have hl:=h.fit.le;have hs:(if ptS z L 0=ptS z L (z.length-L+1)then ptS z L (z.length-L+1)else ptS z L 0)=ptS z L 0:=by
  split
  ·rename_i q;exact q.symm
  ·rfl
 rw[hs];unfold ZfT;rw[Yl hO1,Jh];have hc:=ZaY h.fit (z.length-L) 0 (by omega);rw[UD,Rk]at hc;have hc2:ChP (ptS z L 0) ((((pcs z L).take (z.length-L)).map be)++[(bg p,p)]) p:=Jy hc ⟨e1,rfl⟩;have hsp:pcs z L=(pcs z L).take (z.length-L)++[p]:=by
  have hi:z.length-L<(pcs z L).length:=by rw[ZM];omega
  have:=QR hi;rw[Qa hi]at e;rw[Option.some.inj e,Q0 (by rw[ZM];omega)]at this;exact this
 have hpm:((pcs z L).take (z.length-L)).Perm (ZA hp1):=by
  refine(Xv (p:=p) ?_).trans (ZP hO1).symm;refine List.Perm.trans ?_ h.pm
  conv=>rhs;rw[hsp]
  exact(UI _ _).symm
 obtain⟨X,hE,_⟩:=Zfg ((hpm.map be).append_right [(bg p,p)]) hc2;exact hE.good
theorem Zf2 (h:Tx ps L z) (hi:i+1<z.length-L+1) {o:Str} (e:(pcs z L)[i]?=some p) (eo:(pcs z L)[i+1]?=some o) {hp2:Es} (hO:Zu ps hp) (hS:SPts hp ss) (hO2:Zu ((ps.erase p).erase o) hp2) :
  ZaG (tsT (Je ps p (lc o))) (stF ps (bg p)):=by
 obtain⟨e0,e1,e2,e3,e4⟩:=Xs h (by omega) e;obtain⟨f0,f1,f2,f3,f4⟩:=Xs h hi eo;have hl:=h.fit.le;have ho:en p++lc o=o:=Zh8 (by have:=h.fit.one;omega) (by rw[f1,e2]);unfold Je;rw[ho,Yl hO2,Jh];have ca:=ZaY h.fit i 0 (by omega);have cb:=ZaY h.fit (z.length-L+1-(i+2)) (i+2) (by omega);rw[UD,Rk]at ca;rw[Q0 (by rw[WK,ZM];omega),show i+2+(z.length-L+1-(i+2))=z.length-L+1 by omega]at cb;have hc:ChP (ptS z L 0) (((pcs z L).take i).map be++([(bg p,en o)]++((pcs z L).drop (i+2)).map be)) (ptS z L (z.length-L+1)) :=
  Jy ca (Jy (m:=ptS z L (i+2)) ⟨e1,f2⟩ cb)
 have hsp:pcs z L=(pcs z L).take i++(p::o::(pcs z L).drop (i+2)):=by
  have h1:i<(pcs z L).length:=by rw[ZM];omega
  have h2:i+1<(pcs z L).length:=by rw[ZM];omega
  rw[Qa h1]at e;rw[Qa h2]at eo
  conv=>lhs;rw[←WD i (pcs z L),Wt h1,Wt h2,Option.some.inj e,Option.some.inj eo]
 have hpm:((pcs z L).take i++(pcs z L).drop (i+2)).Perm (ZA hp2):=by
  refine(Xv (p:=o) (Xv (p:=p) ?_)).trans (ZP hO2).symm;refine List.Perm.trans ?_ h.pm
  conv=>rhs;rw[hsp]
  exact((WV (l₁:=(pcs z L).take i)).trans (List.Perm.cons p WV)).symm
 have hpw:(((pcs z L).take i).map be++([(bg p,en o)]++((pcs z L).drop (i+2)).map be)).Perm ((ZA hp2).map be++[(bg p,en o)]):=by
  refine List.Perm.trans ?_ ((hpm.map be).append_right _);rw[Qz,Q9];exact List.Perm.append_left _ Uf
 obtain⟨X,hE,hX⟩:=Zfg hpw hc;have g:=hE.good;rw[ZeC h hO hS];by_cases c:ptS z L 0=ptS z L (z.length-L+1)
 ·rw[if_pos c];refine⟨⟨bg p,fun q=>?_⟩,fun j hj=>?_⟩
  ·rw[←Y6 hE.1 q,hX.bal q,c,UZ,UZ]
  ·have hn:(ZA hp2).length<((ZA hp2).map be++[(bg p,en o)]).length:=by simp
   have k:=g.2 (ZA hp2).length hn;have ef:frm ((ZA hp2).map be++[(bg p,en o)]) (ZA hp2).length=bg p:=by
    unfold frm;rw[Qb,QI (by simp)];simp
   rw[ef]at k;exact k.symm'.trans' (g.2 j hj)
 ·rw[if_neg c];exact g
theorem Zet (h:Tx ps L z) (hi:i<z.length-L+1) (e:(pcs z L)[i]?=some p):sg z L i∈(sb ps p).map Prod.fst:=by
 obtain⟨hp,hO⟩:=Yj ps;obtain⟨ss,hS⟩:=JZ hp;obtain⟨hp1,hO1⟩:=Yj (ps.erase p);have hl:=h.fit.le;have ho:=h.fit.one;by_cases c:i+1=z.length-L+1
 ·have ei:i=z.length-L:=by omega
  subst ei;have g:=Xc (ZjC h e hO hS hO1);have es:sg z L (z.length-L) = "":=by
   unfold sg;rw[Ux (by omega)];rfl
  rw[es];exact ZiV Qj g
 ·have hi2:i+1<z.length-L+1:=by omega
  have eo:=Yv (z:=z) (L:=L) (i:=i+1) hi2;obtain⟨e0,e1,e2,e3,e4⟩:=Xs h hi e;obtain⟨f0,f1,f2,f3,f4⟩:=Xs h hi2 eo;rw[←Zkg ho (by omega)];obtain⟨hp2,hO2⟩:=Yj ((ps.erase p).erase (tx ((z.drop (i+1)).take L)));have g:=Xc (Zf2 h hi2 e eo hO hS hO2);generalize ho':tx ((z.drop (i+1)).take L)=o at *;have hm:o∈ps.erase p:=by
   have h1:i<(pcs z L).length:=by rw[ZM];omega
   have h2:i+1<(pcs z L).length:=by rw[ZM];omega
   have e':=e;have eo':=eo;rw[Qa h1]at e';rw[Qa h2]at eo';have hsp:pcs z L=(pcs z L).take i++(p::o::(pcs z L).drop (i+2)):=by
    conv=>lhs;rw[←WD i (pcs z L),Wt h1,Wt h2,Option.some.inj e',Option.some.inj eo']
   have:((pcs z L).take i++(o::(pcs z L).drop (i+2))).Perm (ps.erase p):=by
    refine Xv (p:=p) (List.Perm.trans ?_ h.pm)
    conv=>rhs;rw[hsp]
    exact(WV (l₁:=(pcs z L).take i)).symm
   exact this.mem_iff.mp (QH _ Qj)
  obtain⟨x,hx,ex⟩:=Qi.mp ((hO1.mem o).mpr hm);refine ZiV (o:=ZaH ps p (lc o)) (Ql _ (Qi.mpr ⟨(lc o,x.2),?_,rfl⟩)) g;unfold nxt;rw[Yl hO1];refine Qi.mpr ⟨x,QD.mpr ⟨hx,decide_eq_true ?_⟩,by rw[ex]⟩;rw[ex,f1,e2]
end
end Sh
namespace L2
theorem Zlc {X:Cx}:MtR X "list.extend" Zg0:=ZhF
end L2
namespace Sh
open PySem L2 PyProof.Rows
seal L2.PE L2.PS L2.PSs L2.PT L2.PW L2.PA L2.PI L2.PG L2.PGs L2.PO L2.PC L2.PCs L2.OpR L2.UnR L2.CallR L2.MtR L2.IxR L2.SlR
variable {P:Program} {w:World} {K:PySem.W.Frag} {mg:Str->Option Value} {base:Heap}
variable {H H':Hp} {L:Nat} {hp:Es} {ps:List Str} {rs:List (Str×Str)} {us:List V} {y:Str} {z:List Nat}
def ZeV:Option Str->V
 | some s=>.str s
 | none=>.non
def TyL (H:Hp) (us:List V) (T:T3):Prop:=us.length=T.length/\∀ (i:Nat) (t:Str×Str×Str),T[i]?=some t->∃ b,us[i]?=some (.ref b)/\H b=some (.tup [.str t.1,.str t.2.1,.str t.2.2])
theorem TyL.same {T:T3} (h:TyL H us T) (s:TSame H H'):TyL H' us T:=⟨h.1,fun i x e=>by
 obtain⟨b,e1,e2⟩:=h.2 i x e;exact⟨b,e1,s _ _ e2⟩⟩
theorem TyL.tyA {T:T3} (h:TyL H us T):TyA H us (tsT T):=⟨by unfold tsT;rw[h.1,Qc],fun i t e=>by
 unfold tsT at e;rw[Qg]at e;obtain⟨x,hx,rfl⟩:=QS.mp e;obtain⟨b,e1,e2⟩:=h.2 i x hx;exact⟨b,e1,_,e2⟩⟩
theorem TyL.of {F:List Str} (h:TyS H us F):TyL H us (F.map Zdl):=⟨by rw[h.1,Qc],fun i t e=>by
 rw[Qg]at e;obtain⟨x,hx,rfl⟩:=QS.mp e;exact h.2 i x hx⟩
theorem TyL.snoc {T:T3} (h:TyL H us T) {b:Addr} {t:Str×Str×Str} (hb:H b=some (.tup [.str t.1,.str t.2.1,.str t.2.2])):TyL H (us++[.ref b]) (T++[t]):=by
 refine⟨by simp[h.1],fun i y e=>?_⟩;by_cases hi:i<T.length
 ·rw[QO hi]at e;obtain⟨c,e1,e2⟩:=h.2 i y e;exact⟨c,by rw[QO (by rw[h.1];exact hi)];exact e1,e2⟩
 ·have hl:=(Qp.mp e).1;rw[Qd,Qr]at hl;have hi':i=T.length:=by omega
  subst hi';rw[QI (Qk _),Wq]at e;cases e;exact⟨b,by rw[←h.1,QI (Qk _),Wq];rfl,hb⟩
theorem Za3:∀ l:List Str,(Txt.join "" l).cps.toList=l.flatMap fun x=>x.cps.toList:=by
 have key:∀ l:List Str,(Str.join "" l).cps.toList=l.flatMap fun x=>x.cps.toList:=by
  intro l;induction l with
  | nil=>rfl
  | cons c r ih =>
   cases r with
   | nil=>simp[Str.join]
   | cons d q =>
    have e:Str.join "" (c::d::q)=c ++ "" ++ Str.join "" (d::q):=rfl;have e2:("" : Str).cps.toList=[]:=rfl;have ac:∀ a b:Str,(a++b).cps.toList=a.cps.toList++b.cps.toList:=fun a b=>by
     have:=Z7 a.cps.toList b.cps.toList;rw[tx_eta,tx_eta]at this;rw[this,Zs]
    rw[e,ac,ac,ih,e2];simp
 intro l;have:Txt.join "" l=Str.join "" l:=StrLaws.glued_eq_join _ _;rw[this,key]
theorem ZiA {v:V} (h:HpAt H v hp):HeapV H v hp:=by
 obtain⟨a,xs,rfl,ha,hl,hr⟩:=Y4 h;exact⟨a,xs,rfl,ha,hl,fun i e q=>hr i e q⟩
structure RO (ps:List Str):Prop where
 len:ps.length<=63
 one:∀ x∈ps,1<=x.length/\x.length<=63/\Cd x.cps.toList
 pts:∀ l:List Str,l.Nodup->(∀ y∈l,∃ x∈ps,bg x=y\/en x=y)->l.length<64
theorem RO.erase (h:RO ps) (x:Str):RO (ps.erase x):=⟨Wg List.length_erase_le h.len,fun y hy=>h.one y (We hy),fun l nd hl=>h.pts l nd fun y hy=>by
 obtain⟨z,hz,q⟩:=hl y hy;exact⟨z,We hz,q⟩⟩
theorem RO.fine (h:RO ps) (hO:Zu ps hp):Ziw hp where
 few:=by have:=Z3 hO;have:=h.len;omega
 many:=fun e he=>by
  rw[hO.cnt e he];have:=List.count_le_length (a:=e.1) (l:=ps);have:=h.len;omega
 long:=fun e he=>by
  have:=h.one e.1 ((hO.mem _).mp (Qi.mpr ⟨e,he,rfl⟩));omega
 pts:=fun ks hk=>h.pts ks hk.nd fun y hy=>by
  obtain⟨e,he,q⟩:=(hk.mem y).mp hy;exact⟨e.1,(hO.mem _).mp (Qi.mpr ⟨e,he,rfl⟩),q⟩
theorem X5 (hO:Zu ps hp):(ZA hp).length=ps.length:=(ZP hO).length_eq
abbrev ZgK:Stmt:=top 18
abbrev Zmu:List Str:=["H","ties","piece","many"]
theorem scTies2:Zp Zmu ["H"] (Zg ZgK):=⟨rfl,rfl,rfl,by decide +kernel,rfl,by decide +kernel,by decide +kernel⟩
def Zdy:Sp:=fun vs H Q _=>∃ (v:V) (ps:List Str) (es:Es),vs=[v]/\Hv H v ps es/\RO ps/\∀ q us H',Same H H'->H' q=some (.lst us)->TyS H' us (ZA es)->Q (.ref q) H'
theorem Zi7 (D:HasDef K mg "ties_of" ZgK ["H"]) (g21_:FOk P w K mg base 1 "begin_of" ["piece"] Zbo) (g25_:FOk P w K mg base 1 "end_of" ["piece"] Zce):FOk P w K mg base 2 "ties_of" ["H"] Zdy:=by
 refine D.ok scTies2 (fun vs H Q E h=>?_) (fun f cdv A outer s H vs Q E hr h=>?_)
 ·obtain⟨v,ps,es,rfl,_⟩:=h;rfl
 ·obtain⟨v,ps,es,rfl,hV,hR,k⟩:=h;have hFf:=hR.fine hV.of;have htt:=X5 hV.of;have hpl:=hR.len;obtain⟨q,vs,rfl,hq,hpa⟩:=ZiA hV.at_;refine⟨_,(Ze (Zm (i:=1) scTies2.nd rfl (.inl rfl) (ZT Zc))
   (Ze (Yi PassesOwn.never rfl (Yy (pv 0)) (Yc 2 K rfl (Zw (ZI (i:=2) scTies2.nd rfl (.inl rfl)) (Zw (ZI (i:=3) scTies2.nd rfl (.inl rfl)) Yb)))
    (Zi (Z8 (Xf F.plainAttrs_list F.slot_list_extend F.type_list_extend Zlc (pv 1) (Za (Zk Zmm (ZT (Za (Yt (Za (Zv g21_ hr (Za (pv 2) Zc)) (Za (ZB JH (pv 2) (YV Yg Zf) (fun _ _=>rfl)) (Za (Zv g25_ hr (Za (pv 2) Zc)) Zc)))) Zc)) (pv 3)) Zc)))))
   (Zi (Zq (pv 1))))),?_⟩
  refine⟨Zh (show 0<=1000 by decide),fun l hl=>?_⟩;have s1:=Zb (o:=.lst []) hl;refine⟨_,rfl,q,rfl,⟨_,SqT.of (s1 _ _ hq)⟩,?_⟩;refine Jw (K:=K) (a:=q) (xs:=vs) (fun i σ H2=>∃ (z2 z3:Option V) (us:List V),σ=[some (.ref q),some (.ref l),z2,z3]/\Same H H2/\H2 l=some (.lst us)/\TyS H2 us (ZA (es.take i)))
   ⟨none,none,[],rfl,s1,Zd,⟨rfl,fun i x e=>by rw[Wz]at e;cases e⟩⟩ (fun i σ H2 _ ⟨_,_,_,_,s2,_⟩=>SqT.of (s2 _ _ hq)) ?_ ?_
  ·rintro i x σ H2 hi ⟨z2,z3,us,rfl,s2,hl2,hty⟩;have hiv:i<vs.length:=(Qp.mp hi).1;have hie:i<es.length:=by rw[←hpa.1];exact hiv
   obtain⟨b,e1,e2⟩:=hpa.2 i es[i] (Qa hie);rw[hi]at e1;cases e1;obtain⟨l1,l2⟩:=hFf.long es[i] (QB hie);have hm:=hFf.many es[i] (QB hie);have het:es.take (i+1)=es.take i++[es[i]]:=QR hie;have ht1:=ZfO (es:=es) (n:=i);have hul:=hty.1;refine⟨b,_,rfl,SqT.of (s2 _ _ e2),rfl,_,_,rfl,_,_,rfl,rfl,?_⟩;rw[het,ZfP];generalize es[i]=e at *;refine⟨_,rfl,.inl ⟨rfl,_,SqL.of hl2⟩,_,rfl,e.1,rfl,l1,l2,_,rfl,_,rfl,e.1,_,_,rfl,rfl,ZQ l2,ZhJ l1,_,rfl,e.1,rfl,l1,l2,Zh (show 3<=1000 by decide),fun t ht=>?_⟩;have t1:=Zb (o:=.tup [.str (bg e.1),.str (tx [lst e.1]),.str (en e.1)]) ht;refine⟨Zh (show 1<=1000 by decide),fun p hp=>?_⟩;have t2:=Zb (o:=.lst [.ref t]) hp;refine⟨_,rfl,p,e.2,_,rfl,rfl,Zd,by omega,by omega,Zh (by simp only[Qr];omega),fun p2 hp2=>?_⟩;rw[Zjz];have t3:=Zb (o:=.lst (QJ e.2.toNat (V.ref t))) hp2;have hl5:=t3 _ _ (t2 _ _ (t1 _ _ hl2));refine⟨l,p2,_,_,rfl,rfl,hl5,Zd,?_,?_⟩
   ·rw[Q4];refine YA ?_;omega
   have ts:=Yh (ys:=us++QJ e.2.toNat (V.ref t)) hl5;refine⟨_,_,_,rfl,fun b u hb=>by rw[Zl (Zo hb hl)];exact t3 _ _ (t2 _ _ (t1 _ _ (s2 b u hb))),Zd,?_⟩;exact((hty.same (((t1.trans t2).trans t3).tup.trans ts)).rep (ts _ _ (t3 _ _ (t2 _ _ Zd))) _)
  ·rintro σ H2 ⟨z2,z3,us,rfl,s2,hl2,hty⟩;rw[hpa.1,Wr]at hty;exact⟨_,rfl,k l us H2 s2 hl2 hty⟩
abbrev XR:Stmt:=top 32
abbrev ZcG:List Str:=["ties","begin","numbers"]
theorem scTextFrom:Zp ZcG ["ties","begin"] (Zg XR):=⟨rfl,rfl,rfl,by decide +kernel,rfl,by decide +kernel,by decide +kernel⟩
def Znu:Sp:=fun vs H Q _=>∃ (q:Addr) (b:Str) (us:List V) (T:T3),vs=[.ref q,.str b]/\H q=some (.lst us)/\TyL H us T/\T.length<=100/\(∀ t∈T,t.2.1.length<=2)/\b.length<=100/\∀ H',Same H H'->Q (ZeV (tf T b)) H'
theorem Zeb {α:Type} {g:α->List Nat}:∀ {l:List α},(∀ x∈l,(g x).length<=2)->(l.flatMap g).length<=2*l.length
 | [],_=>by simp
 | x::l,h=>by
  rw[Ui,Qd,QG];have:=h x Qj;have:=Zeb (l:=l) fun y hy=>h y (Ql _ hy);omega
theorem Zdv:∀ {l:List Str},(∀ x∈l,x.length<=2)->(l.map (·.length)).sum<=2*l.length
 | [],_=>by simp
 | x::l,h=>by
  rw[Qs,Q8,QG];have:=h x Qj;have:=Zdv (l:=l) fun y hy=>h y (Ql _ hy);omega
theorem Zcw (D:HasDef K mg "text_from" XR ["ties","begin"]) (B:Blt mg) (g44_:FOk P w K mg base 2 "way_of" ["ties","begin"] ZlX):FOk P w K mg base 3 "text_from" ["ties","begin"] Znu:=by
 refine D.ok scTextFrom (fun vs H Q E h=>?_) (fun f cdv A outer s H vs Q E hr h=>?_)
 ·obtain⟨q,b,us,T,rfl,_⟩:=h;rfl
 ·obtain⟨q,b,us,T,rfl,hq,hty,hT,hL,hb,k⟩:=h;refine⟨_,(Ze (Zm (i:=2) scTextFrom.nd rfl (.inl rfl) (Zv g44_ hr (Za (pv 0) (Za (pv 1) Zc))))
   (Ze (Z2 (Zt Zkb (pv 2) JE (Zy _)) (Zi (Zq JE)) Zx)
   (Zi (Zq (Zk ZD (pv 1) (Xf F.plainAttrs_str F.slot_str_join F.type_str_join Zam ZY (Za (ZK (Zg XR) ZcG ["number"] [0] rfl (Yy (pv 2)) (fun _ _ _ _ _=>Z6 0) (fun _ _ _ _ _=>Yd) (fun _ _ _ _ _=>(ZB (ZbU K) (ZB (Y0 K) (pv 1) (pv 0) (fun _ _=>rfl)) Zf (fun _ _=>rfl)))) Zc))))))),?_⟩
  have htl:(tsT T).length=T.length:=by unfold tsT;rw[Qc]
  refine⟨_,rfl,_,rfl,.ref q,b,tsT T,rfl,⟨q,us,rfl,.inl hq,hty.tyA⟩,by rw[htl];omega,ZiC fun x H1 s1 hx=>?_⟩;rcases hx with ⟨hE,qn,rfl,hqn⟩ | ⟨hn,rfl⟩
  rotate_left
  ·rw[Zev hn]at k;exact⟨_,rfl,rfl,_,rfl,Y3 (by simp) (k H1 s1)⟩
  rw[Xc hE.good]at k;have hXl:(wayX (tsT T) b).length=T.length:=by rw[hE.1.length_eq,Q5,htl]
  have hX:∀ i∈wayX (tsT T) b,i<T.length:=fun i hi=>by
   have:=QN.mp (hE.1.mem_iff.mp hi);rw[htl]at this;exact this
  generalize wayX (tsT T) b=X at *;refine⟨_,rfl,rfl,_,rfl,Yu (by simp) ?_⟩;refine⟨_,rfl,rfl,_,rfl,qn,rfl,⟨_,SqT.of hqn⟩,YD X.length (fun i=>(X.map nV).getD i .non) (fun i v _=>v= .str (T.getD (X.getD i 0) ("","","")).2.1) (Zh (by omega)) (fun _ _ _ _ _ r=>r) (by have:=Xz (SqT.of (K:=K) hqn);rw[Qc]at this;exact this) ?_ ?_⟩
  ·intro i H3 Qe hi hs kq;rw[Zaw hi];have hin:=hX X[i] (QB hi);obtain⟨b0,e1,e2⟩:=hty.2 X[i] T[X[i]] (Qa hin);refine⟨_,rfl,_,rfl,q,us,X[i],.ref b0,rfl,rfl,SqL.of (hs _ _ (s1 _ _ hq)),Zfn e1,b0,_,1,_,rfl,rfl,SqT.of (hs _ _ (s1 _ _ e2)),rfl,kq _ _ (Same.refl _) ?_⟩;rw[Qb (l:=X),Qa hi,WL,Qb,Qa hin];rfl
  intro D1 vs1 H3 hl1 hr1 hs3 hD1 hDl1;have ev:vs1=(X.map fun i=>(T.getD i ("","","")).2.1).map V.str:=by
   rw[QA];refine Zf6 hl1 fun i v hv c hc=>?_;rw[hr1 i v hv,Qb (l:=X),hc];rfl
  rw[ev]at hDl1;have h2:∀ x∈X.map fun i=>(T.getD i ("","","")).2.1,x.length<=2:=fun x hx=>by
   obtain⟨i,hi,rfl⟩:=Qi.mp hx;rw[Qb,Qa (hX i hi)];exact hL _ (QB _)
  have hsm:=Zdv h2;rw[Qc]at hsm;refine⟨"",D1,_,rfl,rfl,SqL.of hDl1,?_,?_⟩
  ·have:("" : Str).length=0:=rfl;rw[this,Ri];omega
  have ej:Txt.join "" (X.map fun i=>(T.getD i ("","","")).2.1)=tx (ZfY T X):=by
   rw[←tx_eta (Txt.join _ _),Za3,RZ];rfl
  rw[ej];have hll:(ZfY T X).length<=2*X.length:=Zeb fun i hi=>by
   rw[ZL];exact h2 _ (Qi.mpr ⟨i,hi,rfl⟩)
  refine⟨_,_,rfl,rfl,?_,?_⟩
  ·rw[Zn];refine Zh ?_;omega
  rw[show b++tx (ZfY T X)=tx (b.cps.toList++ZfY T X)by rw[←Z7,tx_eta]];exact k H3 (s1.trans hs3)
theorem Zfm (x:Str):(bg x).length=x.length-1:=by
 unfold bg;rw[Zn,RA,ZL]
theorem Za9 (x:Str):(en x).length=x.length-1:=by
 unfold en;rw[Zn,WK,ZL]
theorem Zgl {ss:List Str} (hR:RO ps) (hO:Zu ps hp) (hS:SPts hp ss) {wsh:Str} (hw:wsh.length<=63):(Zlz wsh (ups (mo hp) ss)).length<=63:=by
 have ha:∀ u∈ups (mo hp) ss,u.1.length<=63:=fun u hu=>by
  unfold ups at hu;obtain⟨x,hx,rfl⟩:=Qi.mp hu;obtain⟨e,he,q⟩:=(hS.pts.mem x).mp (QD.mp hx).1;have:=(hR.one e.1 ((hO.mem _).mp (Qi.mpr ⟨e,he,rfl⟩))).2.1;show x.length<=63;rcases q with rfl | rfl
  ·rw[Zfm];omega
  ·rw[Za9];omega
 generalize ups (mo hp) ss=us at *;cases us with
 | nil=>exact hw
 | cons u us=>exact ha u Qj
theorem Zbf {F:List Str} {t:Str×Str×Str} (ht:t.2.1.length<=2):∀ x∈F.map Zdl++[t],x.2.1.length<=2:=fun x hx=>by
 rcases QF.mp hx with q | q
 ·obtain⟨y,_,rfl⟩:=Qi.mp q;show(tx [lst y]).length<=2;rw[Zn];exact WR _
 ·rw[Qm.mp q];exact ht
section
variable {P:Program} {w:World} {K:PySem.W.Frag} {mg:Str->Option Value} {base:Heap} {C:Addr}
abbrev YT:Stmt:=top 38
abbrev ZbK:List Str:=["H","piece","rest","last"]
theorem scTextThatEnds:Zp ZbK ["H","piece"] (Zg YT):=⟨rfl,rfl,rfl,by decide +kernel,rfl,by decide +kernel,by decide +kernel⟩
def ZjZ:Sp:=fun vs H Q _=>∃ (v:V) (ps:List Str) (hp:Es) (p:Str),vs=[v,.str p]/\Hv H v ps hp/\RO ps/\p∈ps/\∀ H',Same H H'->Q (ZeV (ZjE ps p)) H'
theorem Jt (D:HasDef K mg "text_that_ends" YT ["H","piece"]) (g31_:FOkX P w K mg base 5 "less_one" ["H","piece"] (Zbm C)) (g21_:FOk P w K mg base 5 "begin_of" ["piece"] Zbo) (g25_:FOk P w K mg base 5 "end_of" ["piece"] Zce)
  (g43_:FOk P w K mg base 5 "ties_of" ["H"] Zdy) (g38_:FOk P w K mg base 5 "start_of" ["H","wish"] Zdz) (g39_:FOk P w K mg base 5 "text_from" ["ties","begin"] Znu):FOk P w K mg base 6 "text_that_ends" ["H","piece"] ZjZ:=by
 refine D.ok scTextThatEnds (fun vs H Q E h=>?_) (fun f cdv A outer s H vs Q E hr h=>?_)
 ·obtain⟨v,ps,hp,p,rfl,_⟩:=h;rfl
 ·obtain⟨v,ps,hp,p,rfl,hV,hR,hm,k⟩:=h;obtain⟨l1,l2,_⟩:=hR.one p hm;refine⟨_,(Ze (Zm (i:=2) scTextThatEnds.nd rfl (.inl rfl) (Zag g31_ hr (Za (pv 0) (Za (pv 1) Zc))))
   (Ze (Zm (i:=3) scTextThatEnds.nd rfl (.inl rfl) (Yt (Za (Zv g21_ hr (Za (pv 1) Zc)) (Za (ZB JH (pv 1) (YV Yg Zf) (fun _ _=>rfl)) (Za (pv 1) Zc)))))
   (Zi (Zq (Zv g39_ hr (Za (Zk Zcu (Zv g43_ hr (Za (pv 2) Zc)) (ZT (Za (pv 3) Zc))) (Za (Zv g38_ hr (Za (pv 0) (Za (Zv g25_ hr (Za (pv 1) Zc)) Zc))) Zc))))))),?_⟩
  have hlen:=Z3 hV.of;have hpl:=hR.len;refine⟨_,rfl,_,rfl,v,hp,ps,p,rfl,hV.at_,hV.of,by omega,.inr ⟨hm,fun v1 H1 hp1 s1 hA1 hO1=>?_⟩⟩;refine⟨_,rfl,p,rfl,l1,by omega,_,rfl,_,rfl,p,_,_,rfl,rfl,ZQ (by omega),ZhJ l1,_,rfl,Zh (show 3<=1000 by decide),fun t ht=>?_⟩;have t1:=Zb (o:=.tup [.str (bg p),.str (tx [lst p]),.str p]) ht;have hV1:Hv (upd H1 t (.tup [.str (bg p),.str (tx [lst p]),.str p])) v1 (ps.erase p) hp1:=Hv.same ⟨hA1,hO1⟩ t1;refine⟨_,rfl,v1,_,hp1,rfl,hV1,hR.erase p,fun q us H2 s2 hq hty=>?_⟩;refine⟨_,rfl,Zh (show 1<=1000 by decide),fun c hc=>?_⟩;have t2:=Zb (o:=.lst [.ref t]) hc;have hul:us.length<=63:=by rw[hty.1,X5 hO1];have:=(hR.erase p).len;omega
  refine⟨q,c,_,_,rfl,rfl,t2 _ _ hq,Zd,Zh (by simp only[Qr];omega),fun d hd=>?_⟩;have t3:=Zb (o:=.lst (us++[.ref t])) hd;have sA:=((s1.trans t1).trans s2).trans (t2.trans t3);refine⟨_,rfl,_,rfl,p,rfl,l1,by omega,v,en p,hp,rfl,ZiA (hV.same sA).at_,hR.fine hV.of,fun H3 ss s3 hS=>?_⟩;have hst:=ZaS hV.of hS (en p);have hsl:=Zgl hR hV.of hS (wsh:=en p) (by rw[Za9];omega);rw[←hst]at hsl ⊢;have hkt:TSame H2 H3:=((t2.trans t3).trans s3).tup;have hT:TyL H3 (us++[.ref t]) (ZfT ps p):=by
   unfold ZfT;rw[Yl hO1];exact TyL.snoc ((TyL.of hty).same hkt) (hkt _ _ (s2 _ _ Zd))
  refine⟨d,_,_,ZfT ps p,rfl,s3 _ _ Zd,hT,?_,?_,by omega,fun H4 s4=>k H4 ((sA.trans s3).trans s4)⟩
  ·rw[←hT.1,Qd,Qr];omega
  ·unfold ZfT;exact Zbf (by show(tx [lst p]).length<=2;rw[Zn];exact WR _)
abbrev J9:Stmt:=top 37
abbrev ZhC:List Str:=["H","piece","sign","other","rest","both"]
theorem scTextWith:Zp ZhC ["H","piece","sign"] (Zg J9):=⟨rfl,rfl,rfl,by decide +kernel,rfl,by decide +kernel,by decide +kernel⟩
def ZjO:Sp:=fun vs H Q _=>∃ (v:V) (ps:List Str) (hp:Es) (p sg:Str),vs=[v,.str p,.str sg]/\Hv H v ps hp/\RO ps/\p∈ps/\sg.length=1/\en p++sg∈ps.erase p/\∀ H',Same H H'->Q (ZeV (ZaH ps p sg)) H'
theorem Zcv (D:HasDef K mg "text_with" J9 ["H","piece","sign"]) (g31_:FOkX P w K mg base 5 "less_one" ["H","piece"] (Zbm C)) (g21_:FOk P w K mg base 5 "begin_of" ["piece"] Zbo) (g25_:FOk P w K mg base 5 "end_of" ["piece"] Zce)
  (g43_:FOk P w K mg base 5 "ties_of" ["H"] Zdy) (g38_:FOk P w K mg base 5 "start_of" ["H","wish"] Zdz) (g39_:FOk P w K mg base 5 "text_from" ["ties","begin"] Znu):FOk P w K mg base 6 "text_with" ["H","piece","sign"] ZjO:=by
 refine D.ok scTextWith (fun vs H Q E h=>?_) (fun f cdv A outer s H vs Q E hr h=>?_)
 ·obtain⟨v,ps,hp,p,sg,rfl,_⟩:=h;rfl
 ·obtain⟨v,ps,hp,p,sg,rfl,hV,hR,hm,hsg,hmo,k⟩:=h;obtain⟨l1,l2,_⟩:=hR.one p hm;obtain⟨m1,m2,_⟩:=(hR.erase p).one _ hmo;refine⟨_,(Ze (Zm (i:=3) scTextWith.nd rfl (.inl rfl) (Zk ZD (Zv g25_ hr (Za (pv 1) Zc)) (pv 2)))
   (Ze (Zm (i:=4) scTextWith.nd rfl (.inl rfl) (Zag g31_ hr (Za (Zag g31_ hr (Za (pv 0) (Za (pv 1) Zc))) (Za (pv 3) Zc))))
   (Ze (Zm (i:=5) scTextWith.nd rfl (.inl rfl) (Yt (Za (Zv g21_ hr (Za (pv 1) Zc)) (Za (Zk ZD (ZB JH (pv 1) (YV Yg Zf) (fun _ _=>rfl)) (pv 2)) (Za (Zv g25_ hr (Za (pv 3) Zc)) Zc)))))
   (Zi (Zq (Zv g39_ hr (Za (Zk Zcu (Zv g43_ hr (Za (pv 4) Zc)) (ZT (Za (pv 5) Zc))) (Za (Zv g38_ hr (Za (pv 0) (Za (Zv g21_ hr (Za (pv 1) Zc)) Zc))) Zc)))))))),?_⟩
  have hlen:=Z3 hV.of;have hpl:=hR.len;refine⟨_,rfl,p,rfl,l1,by omega,_,rfl,_,_,rfl,rfl,Zh (by rw[Za9];omega),?_⟩;refine⟨_,rfl,_,rfl,v,hp,ps,p,rfl,hV.at_,hV.of,by omega,.inr ⟨hm,fun v1 H1 hp1 s1 hA1 hO1=>?_⟩⟩;have hlen1:=Z3 hO1;have hpl1:=(hR.erase p).len;refine⟨_,rfl,v1,hp1,ps.erase p,en p++sg,rfl,hA1,hO1,by omega,.inr ⟨hmo,fun v2 H2 hp2 s2 hA2 hO2=>?_⟩⟩;have hR2:=(hR.erase p).erase (en p++sg);refine⟨_,rfl,p,rfl,l1,by omega,_,rfl,_,rfl,p,_,_,rfl,rfl,ZQ (by omega),ZhJ l1,_,rfl,_,_,rfl,rfl,Zh (by rw[hsg];exact(show 1+1<=1000 by decide)),_,rfl,en p++sg,rfl,m1,by omega,Zh (show 3<=1000 by decide),fun t ht=>?_⟩;have t1:=Zb (o:=.tup [.str (bg p),.str (tx [lst p]++sg),.str (en (en p++sg))]) ht;have hV2:Hv (upd H2 t (.tup [.str (bg p),.str (tx [lst p]++sg),.str (en (en p++sg))])) v2 ((ps.erase p).erase (en p++sg)) hp2:=Hv.same ⟨hA2,hO2⟩ t1;refine⟨_,rfl,v2,_,hp2,rfl,hV2,hR2,fun q us H3 s3 hq hty=>?_⟩;refine⟨_,rfl,Zh (show 1<=1000 by decide),fun c hc=>?_⟩;have t2:=Zb (o:=.lst [.ref t]) hc;have hul:us.length<=63:=by rw[hty.1,X5 hO2];have:=hR2.len;omega
  refine⟨q,c,_,_,rfl,rfl,t2 _ _ hq,Zd,Zh (by simp only[Qr];omega),fun d hd=>?_⟩;have t3:=Zb (o:=.lst (us++[.ref t])) hd;have sA:=(((s1.trans s2).trans t1).trans s3).trans (t2.trans t3);refine⟨_,rfl,_,rfl,p,rfl,l1,by omega,v,bg p,hp,rfl,ZiA (hV.same sA).at_,hR.fine hV.of,fun H4 ss s4 hS=>?_⟩;have hst:=ZaS hV.of hS (bg p);have hsl:=Zgl hR hV.of hS (wsh:=bg p) (by rw[Zfm];omega);rw[←hst]at hsl ⊢;have hkt:TSame H3 H4:=((t2.trans t3).trans s4).tup;have hT:TyL H4 (us++[.ref t]) (Je ps p sg):=by
   unfold Je;rw[Yl hO2];exact TyL.snoc ((TyL.of hty).same hkt) (hkt _ _ (s3 _ _ Zd))
  refine⟨d,_,_,Je ps p sg,rfl,s4 _ _ Zd,hT,?_,?_,by omega,fun H5 s5=>k H5 ((sA.trans s4).trans s5)⟩
  ·rw[←hT.1,Qd,Qr];omega
  ·unfold Je;refine Zbf ?_;show(tx [lst p]++sg).length<=2;rw[←tx_eta sg,Z7,Zn,Qd,ZL,hsg];exact Qk _
end
def RwO (H:Hp) (us:List V) (rs:List (Str×Option Str)):Prop:=us.length=rs.length/\∀ (i:Nat) r,rs[i]?=some r->∃ b,us[i]?=some (.ref b)/\H b=some (.tup [.str r.1,ZeV r.2])
def RwS (H:Hp) (us:List V) (rs:List (Str×Str)):Prop:=us.length=rs.length/\∀ (i:Nat) r,rs[i]?=some r->∃ b,us[i]?=some (.ref b)/\H b=some (.tup [.str r.1,.str r.2])
theorem RwO.same {rs:List (Str×Option Str)} (h:RwO H us rs) (s:TSame H H'):RwO H' us rs:=⟨h.1,fun i x e=>by
 obtain⟨b,e1,e2⟩:=h.2 i x e;exact⟨b,e1,s _ _ e2⟩⟩
theorem RwS.same (h:RwS H us rs) (s:TSame H H'):RwS H' us rs:=⟨h.1,fun i x e=>by
 obtain⟨b,e1,e2⟩:=h.2 i x e;exact⟨b,e1,s _ _ e2⟩⟩
theorem ZdM {α:Type} {rs:List α} {R:V->α->Prop} (h:us.length=rs.length/\∀ (i:Nat) r,rs[i]?=some r->∃ u,us[i]?=some u/\R u r) {u:V} {r:α} (hb:R u r):(us++[u]).length=(rs++[r]).length/\∀ (i:Nat) x,(rs++[r])[i]?=some x->∃ y,(us++[u])[i]?=some y/\R y x:=by
 refine⟨by simp[h.1],fun i y e=>?_⟩;by_cases hi:i<rs.length
 ·rw[QO hi]at e;rw[QO (by rw[h.1];exact hi)];exact h.2 i y e
 ·have hl:=(Qp.mp e).1;rw[Qd,Qr]at hl;have hi':i=rs.length:=by omega
  subst hi';rw[QI (Qk _),Wq]at e;cases e;exact⟨u,by rw[←h.1,QI (Qk _),Wq];rfl,hb⟩
theorem RwO.snoc {rs:List (Str×Option Str)} (h:RwO H us rs) {b:Addr} {r:Str×Option Str} (hb:H b=some (.tup [.str r.1,ZeV r.2])):RwO H (us++[.ref b]) (rs++[r]):=by
 obtain⟨h1,h2⟩:=ZdM (R:=fun u r=>∃ b,u= .ref b/\H b=some (.tup [.str r.1,ZeV r.2])) ⟨h.1,fun i r e=>by
  obtain⟨b,e1,e2⟩:=h.2 i r e;exact⟨_,e1,b,rfl,e2⟩⟩ (u:=.ref b) (r:=r) ⟨b,rfl,hb⟩
 exact⟨h1,fun i x e=>by
  obtain⟨y,e1,b,rfl,e2⟩:=h2 i x e;exact⟨b,e1,e2⟩⟩
theorem RwS.snoc (h:RwS H us rs) {b:Addr} {r:Str×Str} (hb:H b=some (.tup [.str r.1,.str r.2])):RwS H (us++[.ref b]) (rs++[r]):=by
 obtain⟨h1,h2⟩:=ZdM (R:=fun u r=>∃ b,u= .ref b/\H b=some (.tup [.str r.1,.str r.2])) ⟨h.1,fun i r e=>by
  obtain⟨b,e1,e2⟩:=h.2 i r e;exact⟨_,e1,b,rfl,e2⟩⟩ (u:=.ref b) (r:=r) ⟨b,rfl,hb⟩
 exact⟨h1,fun i x e=>by
  obtain⟨y,e1,b,rfl,e2⟩:=h2 i x e;exact⟨b,e1,e2⟩⟩
theorem Zcj {H:Hp} {us:List V} {rs:List (Str×Option Str)} (h:RwO H us rs):∀ n,n<=rs.length->RwS H (((Qq n).filter fun i=>(rs.getD i ("",none)).2.isSome).map fun i=>us.getD i .non) ((rs.take n).filterMap Zd8)
 | 0,_=>⟨rfl,fun i r e=>by rw[Wz]at e;cases e⟩
 | n+1,hn=>by
  have ih:=Zcj h n (by omega);have hi:n<rs.length:=by omega
  rw[Wb,WM,Qz,QR hi,List.filterMap_append];obtain⟨b,e1,e2⟩:=h.2 n rs[n] (Qa hi);have eg:rs.getD n ("",none)=rs[n]:=by rw[Qb,Qa hi];rfl
  have eu:us.getD n .non= .ref b:=by rw[Qb,e1];rfl
  generalize rs[n]=r at *;obtain⟨s,o⟩:=r;cases o with
  | none =>
   have:[n].filter (fun i=>(rs.getD i ("",none)).2.isSome)=[]:=by rw[WS,eg];rfl
   rw[this];simp only[WH,Ud,WB,RM,Zd8,R4];exact ih
  | some t =>
   have:[n].filter (fun i=>(rs.getD i ("",none)).2.isSome)=[n]:=by rw[WS,eg];rfl
   rw[this];simp only[Qs,WH,WB,RM,Zd8,Wd];rw[eu];exact ih.snoc (r:=(s,t)) e2
def TupR (H:Hp) (v:V) (rs:List (Str×Str)):Prop:=∃ q us,v= .ref q/\H q=some (.tup us)/\RwS H us rs
theorem TupR.same {v:V} (h:TupR H v rs) (s:Same H H'):TupR H' v rs:=by
 obtain⟨q,us,e,hq,hr⟩:=h;exact⟨q,us,e,s _ _ hq,hr.same s.tup⟩
theorem ZbG {e:Str×Int} (h:e∈nxt hp y):∃ x∈hp,bg x.1=y/\e.1=lc x.1:=by
 unfold nxt at h;obtain⟨x,hx,rfl⟩:=Qi.mp h;have:=QD.mp hx;exact⟨x,this.1,of_decide_eq_true this.2,rfl⟩
theorem Zi3 (o:Option Str):(!decide (ZeV o= .non))=o.isSome:=by
 cases o with
 | none=>rfl
 | some s=>simp[ZeV]
section
variable {P:Program} {w:World} {K:PySem.W.Frag} {mg:Str->Option Value} {base:Heap} {C:Addr}
abbrev YF:Stmt:=top 39
abbrev JF:List Str:=["H","piece","rows","sign","many"]
theorem scSignsBehind:Zp JF ["H","piece"] (Zg YF):=⟨rfl,rfl,rfl,by decide +kernel,rfl,by decide +kernel,by decide +kernel⟩
def Znv:Sp:=fun vs H Q _=>∃ (v:V) (ps:List Str) (hp:Es) (p:Str),vs=[v,.str p]/\Hv H v ps hp/\RO ps/\p∈ps/\∀ v' H',Same H H'->TupR H' v' (sb ps p)->Q v' H'
theorem Zaj (D:HasDef K mg "signs_behind" YF ["H","piece"]) (B:Blt mg) (g31_:FOkX P w K mg base 6 "less_one" ["H","piece"] (Zbm C)) (g25_:FOk P w K mg base 6 "end_of" ["piece"] Zce)
  (g33_:FOk P w K mg base 6 "nexts_of" ["H","P"] Zgn) (g40_:FOk P w K mg base 6 "text_that_ends" ["H","piece"] ZjZ) (g41_:FOk P w K mg base 6 "text_with" ["H","piece","sign"] ZjO):FOk P w K mg base 7 "signs_behind" ["H","piece"] Znv:=by
 refine D.ok scSignsBehind (fun vs H Q E h=>?_) (fun f cdv A outer s H vs Q E hr h=>?_)
 ·obtain⟨v,ps,hp,p,rfl,_⟩:=h;rfl
 ·obtain⟨v,ps,hp,p,rfl,hV,hR,hm,k⟩:=h;obtain⟨l1,l2,_⟩:=hR.one p hm;refine⟨_,(Ze (Zm (i:=2) scSignsBehind.nd rfl (.inl rfl) (ZT (Za (Yt (Za ZY (Za (Zv g40_ hr (Za (pv 0) (Za (pv 1) Zc))) Zc))) Zc)))
   (Ze (Yi PassesOwn.never rfl (Yy (Zv g33_ hr (Za (Zag g31_ hr (Za (pv 0) (Za (pv 1) Zc))) (Za (Zv g25_ hr (Za (pv 1) Zc)) Zc)))) (Yc 2 K rfl (Zw (ZI (i:=3) scSignsBehind.nd rfl (.inl rfl)) (Zw (ZI (i:=4) scSignsBehind.nd rfl (.inl rfl)) Yb)))
    (Zi (Z8 (Xf F.plainAttrs_list F.slot_list_append F.type_list_append Z1 (pv 2) (Za (Yt (Za (pv 3) (Za (Zv g41_ hr (Za (pv 0) (Za (pv 1) (Za (pv 3) Zc)))) Zc))) Zc)))))
   (Zi (Zq (ZJ ZH rfl B.tuple Yo (Za (ZK (Zg YF) JF ["row"] [] rfl (Ym (pv 2)) (fun _ _ _ _ _=>Z6 0) (fun _ _ _ _ _=>YL (Zt Zhj (ZB (ZbU K) (pv 0) Zf (fun _ _=>rfl)) JE (Zy _))) (fun _ _ _ _ _=>(pv 0))) Zc)))))),?_⟩
  have hlen:=Z3 hV.of;have hpl:=hR.len;refine⟨_,rfl,_,rfl,v,ps,hp,p,rfl,hV,hR,hm,fun H1 s1=>?_⟩;refine⟨Zh (show 2<=1000 by decide),fun t ht=>?_⟩;have t1:=Zb (o:=.tup [.str ("" : Str),ZeV (ZjE ps p)]) ht;refine⟨Zh (show 1<=1000 by decide),fun l hl=>?_⟩;have t2:=Zb (o:=.lst [.ref t]) hl;have sA:=(s1.trans t1).trans t2;have hV2:=hV.same sA;refine⟨_,rfl,_,rfl,v,hp,ps,p,rfl,hV2.at_,hV2.of,by omega,.inr ⟨hm,fun v1 H3 hp1 s3 hA1 hO1=>?_⟩⟩;have hR1:=hR.erase p;refine⟨_,rfl,p,rfl,l1,by omega,v1,hp1,en p,rfl,ZiA hA1,hR1.fine hO1,fun v2 H4 s4 hv2=>?_⟩;obtain⟨qn,us,rfl,hqn,hpa⟩:=hv2;have s24:=s3.trans s4;have sB:=sA.trans s24;have hll:H4 l=some (.lst [.ref t]):=s24 _ _ Zd;have htt:H4 t=some (.tup [.str ("" : Str),ZeV (ZjE ps p)]):=s24 _ _ (t2 _ _ Zd);have hlH:H l=none:=by
   cases e:H l with
   | none=>rfl
   | some o=>rw[(s1.trans t1) _ _ e]at hl;cases hl
  refine⟨qn,rfl,⟨_,SqT.of hqn⟩,?_⟩;refine Jw (K:=K) (a:=qn) (xs:=us) (fun i σ H2=>∃ (z3 z4:Option V) (ws:List V),σ=[some v,some (.str p),some (.ref l),z3,z4]/\Same H H2/\TSame H4 H2/\H2 l=some (.lst ws)/\RwO H2 ws ((("" : Str),ZjE ps p)::((nxt hp1 (en p)).take i).map fun e=>(e.1,ZaH ps p e.1)))
   ⟨none,none,[.ref t],rfl,sB,(Same.refl _).tup,hll,rfl,fun i r e=>?_⟩ (fun i σ H2 _ ⟨_,_,_,_,_,ts,_⟩=>SqT.of (ts _ _ hqn)) ?_ ?_
  ·rw[Wz,WH]at e;cases i with
   | zero=>cases e;exact⟨t,rfl,htt⟩
   | succ i=>cases e
  ·rintro i x σ H2 hi ⟨z3,z4,ws,rfl,sC,tC,hlw,hrw⟩;have hiv:i<us.length:=(Qp.mp hi).1;have hie:i<(nxt hp1 (en p)).length:=by rw[←hpa.1];exact hiv
   obtain⟨b,e1,e2⟩:=hpa.2 i (nxt hp1 (en p))[i] (Qa hie);rw[hi]at e1;cases e1;obtain⟨y,hy,by1,by2⟩:=ZbG (QB hie);have hyp:y.1∈ps.erase p:=(hO1.mem _).mp (Qi.mpr ⟨y,hy,rfl⟩);obtain⟨y1,y2,_⟩:=hR1.one _ hyp;have het:(nxt hp1 (en p)).take (i+1)=(nxt hp1 (en p)).take i++[(nxt hp1 (en p))[i]]:=QR hie;have hnl:(nxt hp1 (en p)).length<=63:=by
    unfold nxt;rw[Qc];have:=Q7 (fun e:Str×Int=>decide (bg e.1=en p)) hp1;have:=Z3 hO1;have:=hR1.len;omega
   rw[het,Qz];generalize (nxt hp1 (en p))[i]=e at *;have hwl:=hrw.1;rw[QG,Qc,QP]at hwl;refine⟨b,_,rfl,SqT.of (tC _ _ e2),rfl,_,_,rfl,_,_,rfl,rfl,?_⟩;refine⟨_,rfl,.inl ⟨rfl,_,SqL.of hlw⟩,_,rfl,_,rfl,_,rfl,_,rfl,v,ps,hp,p,e.1,rfl,hV.same sC,hR,hm,by rw[by2];rfl,by rw[by2,Zh8 y1 by1];exact hyp,fun H5 s5=>?_⟩;refine⟨Zh (show 2<=1000 by decide),fun c hc=>?_⟩;have t5:=Zb (o:=.tup [.str e.1,ZeV (ZaH ps p e.1)]) hc;have hl5:=t5 _ _ (s5 _ _ hlw);refine⟨l,ws,_,rfl,rfl,hl5,Zh (by omega),?_⟩;have ts:=Yh (ys:=ws++[.ref c]) hl5;refine⟨_,_,_,rfl,fun b u hb=>by rw[Zl (Zo hb hlH)];exact t5 _ _ (s5 _ _ (sC b u hb)),((tC.trans s5.tup).trans t5.tup).trans ts,Zd,?_⟩;exact((hrw.same ((s5.tup.trans t5.tup).trans ts)).snoc (r:=(e.1,ZaH ps p e.1)) (ts _ _ Zd))
  ·rintro σ H2 ⟨z3,z4,ws,rfl,sC,tC,hlw,hrw⟩;rw[hpa.1,Wr]at hrw;have erw:(("" : Str),ZjE ps p)::((nxt hp1 (en p)).map fun e=>(e.1,ZaH ps p e.1))=YC ps p:=by
    unfold YC;rw[Yl hO1]
   rw[erw]at hrw;have hnl:(nxt hp1 (en p)).length<=63:=by
    unfold nxt;rw[Qc];have:=Q7 (fun e:Str×Int=>decide (bg e.1=en p)) hp1;have:=Z3 hO1;have:=hR1.len;omega
   have hwl:=hrw.1;have hrl:(YC ps p).length<=64:=by rw[←erw,QG,Qc];omega
   refine⟨_,rfl,l,rfl,⟨_,SqL.of hlw⟩,ZbQ ws.length (fun i=>ws.getD i .non) (fun i=>((YC ps p).getD i ("",none)).2.isSome) (Zh (by omega)) (Xi (SqL.of hlw)) ?_ ?_⟩
   ·intro i H5 Qt Qf hi hs ht hf;have hie:i<(YC ps p).length:=by rw[←hwl];exact hi
    obtain⟨b,e1,e2⟩:=hrw.2 i (YC ps p)[i] (Qa hie);have eg:(YC ps p).getD i ("",none)=(YC ps p)[i]:=by rw[Qb,Qa hie];rfl
    have eu:ws.getD i .non= .ref b:=by rw[Qb,e1];rfl
    rw[eg]at ht hf;rw[eu]at ht ⊢;refine⟨_,rfl,b,_,1,_,rfl,rfl,SqT.of (hs _ _ e2),rfl,rfl,_,rfl,?_⟩;rw[Zi3];cases c:((YC ps p)[i]).2.isSome with
    | true=>exact Zkk ⟨_,rfl,ht c⟩
    | false=>exact ZfJ (hf c)
   ·intro D1 H5 hs hD1 hDl;refine⟨D1,_,rfl,.inl ⟨SqL.of hDl,fun q hq=>?_⟩⟩;have t6:=Zb (o:=.tup (((Qq ws.length).filter fun i=>((YC ps p).getD i ("",none)).2.isSome).map fun i=>ws.getD i .non)) hq;refine k _ _ ((sC.trans hs).trans t6) ⟨q,_,rfl,Zd,?_⟩;have hk:=Zcj (hrw.same (hs.trans t6).tup) (YC ps p).length (Qk _);rw[Wr,←hwl]at hk;exact hk
end
def rv (x:Str):Str:=tx x.cps.toList.reverse
theorem ZkT (x:Str):rv (rv x)=x:=by
 unfold rv;rw[Zs,RD,tx_eta]
theorem ZgT {x:Str} (h:rv x=rv y):x=y:=by rw[←ZkT x,h,ZkT]
theorem Zls {i:Nat} (h:i+L<=z.length):(z.reverse.drop i).take L=((z.drop (z.length-i-L)).take L).reverse:=by
 rw[List.drop_reverse,List.take_reverse,Va,QP,show min (z.length-i) z.length-L=z.length-i-L by omega,show z.length-i-(z.length-i-L)=L by omega]
theorem Zk0 (h:Fit z L):pcs z.reverse L=((pcs z L).map rv).reverse:=by
 have hl:=h.le;apply QU;intro i;by_cases hi:i<z.length-L+1
 ·rw[Yv (by rw[QW];exact hi),Rx (by rw[Qc,ZM];exact hi),Qg,Qc,ZM,Yv (by omega),Wd,Zls (by omega)];unfold rv;rw[Zs,show z.length-L+1-1-i=z.length-i-L by omega]
 ·rw[Qo (by rw[ZM,QW];omega),Qo (by rw[QW,Qc,ZM];omega)]
theorem Tx.rev (h:Tx ps L z):Tx (ps.map rv) L z.reverse where
 fit:=⟨h.fit.one,by rw[QW];exact h.fit.le⟩
 pm:=by
  rw[Zk0 h.fit];exact(Uh _).trans (h.pm.map rv)
 cd:=fun c hc=>h.cd c (Ub.mp hc)
 few:=by rw[QW];exact h.few
theorem Tx.ro (h:Tx ps L z):RO ps where
 len:=by
  rw[←h.pm.length_eq,ZM];have:=h.few;have:=h.fit.one;have:=h.fit.le;omega
 one:=fun x hx=>by
  have hm:=h.pm.mem_iff.mpr hx;unfold pcs at hm;obtain⟨i,hi,rfl⟩:=Qi.mp hm;have:=QN.mp hi;have hl:=h.fit.le;have:=h.fit.one;have:=h.few;rw[Zn,Zs,QP,WK];exact⟨by omega,by omega,fun c hc=>h.cd c (U1 (Wm hc))⟩
 pts:=fun l nd hl=>by
  have one:=h.fit.one;have hle:=h.fit.le;have hf:=h.few;have hp:∀ y∈l,∃ i,i<z.length-L+2/\y=ptS z L i:=fun y hy=>by
   obtain⟨x,hx,q⟩:=hl y hy;have hm:=h.pm.mem_iff.mpr hx;unfold pcs at hm;obtain⟨i,hi,rfl⟩:=Qi.mp hm;have:=QN.mp hi;rcases q with q | q
   ·exact⟨i,by omega,by rw[←q,bgw (by omega) one]⟩
   ·exact⟨i+1,by omega,by rw[←q,enw]⟩
  by_cases c:L=1
  ·have:=YI nd (B:=[tx []]) fun y hy=>by
    obtain⟨i,_,rfl⟩:=hp y hy;unfold ptS;rw[c,Wq,Wz];exact Qm.mpr rfl
   rw[Qr]at this;omega
  ·have:=YI nd (B:=(Qq (z.length-L+2)).map (ptS z L)) fun y hy=>by
    obtain⟨i,hi,rfl⟩:=hp y hy;exact Qi.mpr ⟨i,QN.mpr hi,rfl⟩
   rw[Qc,Q5]at this;omega
theorem Tx.at (h:Tx ps L z) {p:Str} (hp:p∈ps):∃ i,i<z.length-L+1/\(pcs z L)[i]?=some p:=by
 obtain⟨i,hi⟩:=List.mem_iff_getElem?.mp (h.pm.mem_iff.mpr hp);have:=(Qp.mp hi).1;rw[ZM]at this;exact⟨i,this,hi⟩
theorem Tx.len (h:Tx ps L z) {p:Str} (hp:p∈ps):p.length=L:=by
 obtain⟨i,hi,e⟩:=h.at hp;exact(Xs h hi e).2.2.2.1
theorem Zmb {es:Es} (hp:∀ e∈es,1<=e.2) {a:Str} (h:RchT (tsE es) a y):Rch es a y:=by
 induction h with
 | here=>exact .here
 | step _ k ih=>exact .step ih ((Zn0 hp _ _).mp k)
theorem ZbV (hO:Zu ps hp):∀ e∈hp,1<=e.2:=fun e he=>by
 rw[hO.cnt e he];have:1<=ps.count e.1:=Wp.mpr ((hO.mem _).mp (Qi.mpr ⟨e,he,rfl⟩));omega
theorem Zfu (h:Tx ps L z) (hO:Zu ps hp):∃ b,∀ e∈hp,RchT (tsE hp) b (bg e.1):=by
 have hc:=ZaY h.fit (z.length-L+1) 0 (by omega);rw[UD,Q0 (by rw[ZM];omega),Rk]at hc;obtain⟨X,hE,_⟩:=Zfg ((h.pm.trans (ZP hO).symm).map be) hc;refine⟨ptS z L 0,fun e he=>?_⟩;have hm:e.1∈ZA hp:=(Zay (ZbV hO) _).mpr ⟨e,he,rfl⟩;obtain⟨i,hi,ei⟩:=Ze6 hm;have:=hE.good.2 i (by show i<(tsE hp).length;rw[Zdt];exact hi);rw[←ei,←Zlo hi];exact this
theorem Zdu {ss:List Str} (h:Tx ps L z) (hO:Zu ps hp) (hS:SPts hp ss):¬ 1<sm (ups (mo hp) ss):=by
 rw[Zgx];have h1:sumZ ss (fun p=>Yk (mo hp p))<=sumZ ss (dl (ptS z L 0)):=Jj fun p _=>by
  rw[Ze5 h hO p];have:=Zib (ptS z L 0) p;have:=Zib (ptS z L (z.length-L+1)) p;unfold Yk;split <;> omega
 have h0:ptS z L 0∈ss:=by
  have hl:=h.fit.le;refine(hS.pts.mem _).mpr ?_;have e:=Yv (z:=z) (L:=L) (i:=0) (by omega);have m:tx ((z.drop 0).take L)∈ps:=h.pm.mem_iff.mp (QX e);obtain⟨x,hx,e2⟩:=Qi.mp ((hO.mem _).mpr m);exact⟨x,hx,.inl (by rw[e2,bgw (by omega) h.fit.one])⟩
 rw[Zbi hS.pts.nd h0]at h1;omega
theorem ZcS (hO:Zu ps hp) (hne:ps≠[]):∃ e es,hp=e::es:=by
 cases hp with
 | nil=>exact absurd ((ZmR hO).mp rfl) hne
 | cons e es=>exact⟨e,es,rfl⟩
theorem Tx.ne (h:Tx ps L z):ps≠[]:=fun e=>by
 have:=h.pm.length_eq;rw[e,ZM]at this;cases this
section
variable {P:Program} {w:World} {K:PySem.W.Frag} {mg:Str->Option Value} {base:Heap} {C C2:Addr} {bm bm2:List Value}
abbrev JV:Stmt:=top 34
abbrev Ze3:List Str:=["H"]
theorem ZgG:Zp Ze3 ["H"] (Zg JV):=⟨rfl,rfl,rfl,by decide +kernel,rfl,by decide +kernel,by decide +kernel⟩
def Zgo:Sp:=fun vs H Q _=>∃ (v:V) (es:Es),vs=[v]/\HeapV H v es/\Ziw es/\∀ H' ss,Same H H'->SPts es ss->Q (.bl (decide (1<sm (ups (mo es) ss)))) H'
theorem ZcB (D:HasDef K mg "has_many_begins" JV ["H"]) (B:Blt mg) (g22_:FOk P w K mg base 3 "begins_of" ["H"] Zbn):FOk P w K mg base 4 "has_many_begins" ["H"] Zgo:=by
 refine D.ok ZgG (fun vs H Q E h=>?_) (fun f cdv A outer s H vs Q E hr h=>?_)
 ·obtain⟨v,es,rfl,_⟩:=h;rfl
 ·obtain⟨v,es,rfl,hV,hF,k⟩:=h;refine⟨_,(Zi (Zq (XG ZbE (Zj (Zil rfl) rfl B.sum Zm5 (Za (ZK (Zg JV) Ze3 ["point","more"] [] rfl (Yy (Zv g22_ hr (Za (pv 0) Zc))) (fun _ _ _ _ _=>Yc 2 K rfl (Zw (Z6 0) (Zw (Z6 1) Yb))) (fun _ _ _ _ _=>Yd) (fun _ _ _ _ _=>(pv 1))) Zc)) Zf (Zy _)))),?_⟩;refine⟨_,rfl,v,es,rfl,hV,hF,fun v' H1 ss s1 hv' hss=>?_⟩;obtain⟨b1,b2,b3⟩:=ZiE hF (f:=mo es) (fun _=>rfl) hss;obtain⟨q,us,rfl,hq,hpa⟩:=hv';refine⟨q,rfl,⟨_,SqT.of hq⟩,ZmI rfl hq hpa b3 fun D1 H2 s2 hD=>?_⟩;exact⟨D1,_,rfl,SqL.of hD,b1,b2,_,_,rfl,rfl,k H2 ss (s1.trans s2) hss⟩
abbrev Zbx:Stmt:=top 35
abbrev Zji:List Str:=["H"]
theorem ZgF:Zp Zji ["H"] (Zg Zbx):=⟨rfl,rfl,rfl,by decide +kernel,rfl,by decide +kernel,by decide +kernel⟩
end
end Sh
namespace L2
theorem ZdF {t u:TS} {D:Zdo} {σ:L2.St} {H:Hp} (I:L2.St->Hp->Prop) (h:∀ R:L2.St->Hp->Prop,(∀ σ' H',I σ' H'->R σ' H')->t {D with nx:=R} σ H) (hu:∀ σ' H',I σ' H'->u D σ' H'):Zdm t u D σ H:=h _ hu
end L2
namespace Sh
open PySem L2 PyProof.Rows
seal L2.PE L2.PS L2.PSs L2.PT L2.PW L2.PA L2.PI L2.PG L2.PGs L2.PO L2.PC L2.PCs L2.OpR L2.UnR L2.CallR L2.MtR L2.IxR L2.SlR
variable {P:Program} {w:World} {K:PySem.W.Frag} {mg:Str->Option Value} {base:Heap}
variable {b p:Str} {hp:Es} {ps ss:List Str}
theorem ZlU {x y:Str}:decide (V.str x=V.str y)=decide (x=y):=by
 rw[WX,decide_eq_true_eq,decide_eq_true_eq];exact⟨fun e=>by injection e,fun e=>by rw[e]⟩
theorem ZeU {H:Hp} {vs:List V} {fs:List Str} {f:Str->Int} (h:PA H vs (fs.map fun x=>(x,f x))):∃ rs:List (Addr×Str),vs=rs.map (fun r=>V.ref r.1)/\rs.map Prod.snd=fs/\∀ r∈rs,H r.1=some (.tup [.str r.2,.int (f r.2)]):=by
 obtain⟨hl,hh⟩:=h;rw[Qc]at hl;induction fs generalizing vs with
 | nil =>
  have:vs=[]:=WP.mp hl;subst this;exact⟨[],rfl,rfl,fun r hr=>by cases hr⟩
 | cons x fs ih =>
  cases vs with
  | nil=>simp at hl
  | cons v vs =>
   obtain⟨b,e1,e2⟩:=hh 0 (x,f x) rfl;obtain⟨rs,h1,h2,h3⟩:=ih (vs:=vs) (by simpa using hl) fun i e he=>by
    obtain⟨b,q1,q2⟩:=hh (i+1) e (by simpa using he);exact⟨b,by simpa using q1,q2⟩
   have ev:v= .ref b:=by simpa using e1
   refine⟨(b,x)::rs,by rw[Qs,←h1,ev],by rw[Qs,h2],fun r hr=>?_⟩;rcases Qy.mp hr with z | z
   ·rw[z];exact e2
   ·exact h3 r z
theorem Zkp (ps:List Str) (x:Str):(ps.map rv).count (rv x)=ps.count x:=by
 induction ps with
 | nil=>rfl
 | cons y ps ih =>
  rw[Qs,U2,U2,ih];congr 1;by_cases c:y=x
  ·rw[c];simp
  ·rw[if_neg (by simpa using fun e=>c (ZgT e)),if_neg (by simpa using c)]
abbrev Xr:Stmt:=top 40
abbrev ZaZ:List Str:=["H"]
theorem ZdI:Zp ZaZ ["H"] (Zg Xr):=⟨rfl,rfl,rfl,by decide +kernel,rfl,by decide +kernel,by decide +kernel⟩
def Zj0:Sp:=fun vs H Q _=>∃ (v:V) (ps:List Str) (hp:Es),vs=[v]/\Hv H v ps hp/\RO ps/\∀ v' H' hp',Same H H'->Hv H' v' (ps.map rv) hp'->Q v' H'
theorem ZcD (D:HasDef K mg "backwards" Xr ["H"]) (B:Blt mg):FOk P w K mg base 1 "backwards" ["H"] Zj0:=by
 refine D.ok ZdI (fun vs H Q E h=>?_) (fun f cdv A outer s H vs Q E hr h=>?_)
 ·obtain⟨v,ps,hp,rfl,_⟩:=h;rfl
 ·obtain⟨v,ps,hp,rfl,hV,hR,k⟩:=h;refine⟨_,(Zi (Zq (ZJ ZH rfl B.tuple Yo (Za (Zj XA rfl B.sorted YJ (Za (ZK (Zg Xr) ZaZ ["piece","many"] [] rfl (Yy (pv 0)) (fun _ _ _ _ _=>Yc 2 K rfl (Zw (Z6 0) (Zw (Z6 1) Yb))) (fun _ _ _ _ _=>Yd) (fun _ _ _ _ _=>(Yt (Za (ZdN (pv 0) (YV Yg Zf)) (Za (pv 1) Zc))))) Zc)) Zc)))),?_⟩;obtain⟨q,us,rfl,hq,hpa⟩:=ZiA hV.at_;have hlen:=Z3 hV.of;have hpl:=hR.len;refine⟨_,rfl,q,rfl,⟨_,SqT.of hq⟩,YD us.length (fun i=>us.getD i .non) (fun i v H'=>∃ b,v= .ref b/\H' b=some (.tup [.str (rv (hp.getD i ("",0)).1),.int (hp.getD i ("",0)).2])) (Zh (by rw[hpa.1];omega)) (fun i v H' H'' s' ⟨b,e,r⟩=>⟨b,e,s' _ _ r⟩) (Xz (SqT.of hq)) ?_ ?_⟩
  ·intro i H1 Qe hi hs kq;have hie:i<hp.length:=by rw[←hpa.1];exact hi
   obtain⟨b,e1,e2⟩:=hpa.2 i hp[i] (Qa hie);have eu:us.getD i .non= .ref b:=by rw[Qb,e1];rfl
   have eh:hp.getD i ("",0)=hp[i]:=by rw[Qb,Qa hie];rfl
   rw[eh]at kq;rw[eu];have hm:=hR.one _ ((hV.of.mem _).mp (Qi.mpr ⟨hp[i],QB hie,rfl⟩));refine⟨b,_,rfl,SqT.of (hs _ _ e2),rfl,_,_,rfl,_,_,rfl,rfl,?_⟩;refine⟨_,rfl,_,rfl,hp[i].1,rfl,ZQ (by omega),rfl,_,rfl,Zh (show 2<=1000 by decide),fun t ht=>?_⟩;exact kq _ _ (Zb ht) ⟨t,rfl,Zd⟩
  intro D1 vs1 H1 hl1 hr1 hs1 hD1 hDl1;have hPA:PA H1 vs1 ((hp.map fun e=>rv e.1).map fun x=>(x,((ps.map rv).count x:Int))):=by
   refine⟨by rw[hl1,hpa.1,Qc,Qc],fun i e he=>?_⟩;rw[QA,Qg]at he;obtain⟨x,hx,rfl⟩:=QS.mp he;have hie:i<hp.length:=(Qp.mp hx).1;have hiv:i<vs1.length:=by rw[hl1,hpa.1];exact hie
   obtain⟨b,e1,e2⟩:=hr1 i vs1[i] (Qa hiv);rw[Qb,hx,WL]at e2;refine⟨b,by rw[Qa hiv,e1],?_⟩;rw[e2,hV.of.cnt x (QX hx)];show _=some (HO.tup [V.str (rv x.1),V.int ((ps.map rv).count (rv x.1):Int)]);rw[Zkp]
  obtain⟨rs,e1,e2,e3⟩:=ZeU hPA;rw[e1]at hDl1;have nd:(rs.map (·.2)).Nodup:=by
   show(rs.map Prod.snd).Nodup;rw[e2];have:=XJ hV.of;rw[Ug,QY]at this ⊢;exact this.imp fun {a b} q e=>q (ZgT e)
  have hrl:rs.length<64:=by
   have:=congrArg UP e2;rw[Qc,Qc]at this;omega
  refine⟨D1,rs,rfl,SqL.of hDl1,fun r hr=>⟨_,e3 r hr⟩,nd,hrl,fun p rs' hp' hperm hsrt=>?_⟩;refine⟨p,_,rfl,.inl ⟨SqL.of Zd,fun d hd=>?_⟩⟩;have s2:=Zb (o:=.lst (rs'.map fun r=>V.ref r.1)) hp';have s3:=Zb (o:=.tup (rs'.map fun r=>V.ref r.1)) hd;refine k _ _ (rs'.map fun r=>(r.2,((ps.map rv).count r.2:Int))) ((hs1.trans s2).trans s3) ⟨⟨d,_,rfl,Zd,by rw[Qc,Qc],fun i e he=>?_⟩,?_⟩
  ·rw[Qg]at he;obtain⟨r,hr,rfl⟩:=QS.mp he;refine⟨r.1,?_,s3 _ _ (s2 _ _ (e3 r (hperm.mem_iff.mp (QX hr))))⟩;rw[Qb,Qg,hr];rfl
  ·have:=Xj (ss:=rs'.map (·.2)) (ks:=rs.map (·.2)) (ps:=ps.map rv) (g:=fun x=>((ps.map rv).count x:Int)) (hperm.map _) (by rw[QA];exact hsrt) (fun x=>?_) fun x _=>rfl
   ·rw[QA]at this;exact this
   ·show x∈rs.map Prod.snd↔_;rw[e2,Qi,Qi];constructor
    ·rintro⟨e,he,rfl⟩;exact⟨e.1,(hV.of.mem _).mp (Qi.mpr ⟨e,he,rfl⟩),rfl⟩
    ·rintro⟨y,hy,rfl⟩;obtain⟨e,he,rfl⟩:=Qi.mp ((hV.of.mem y).mpr hy);exact⟨e,he,rfl⟩
theorem ZjM {T:T3} {t:Str} {n:Nat} (hL:∀ x∈T,x.2.1.length<=2) (hT:T.length<=100) (hb:b.length<=100) (h:tf T b=some t):t.length<=1000:=by
 by_cases g:ZaG (tsT T) b
 ·rw[Xc g]at h;cases h;rw[Zn,Qd,ZL];have hw:(wayX (tsT T) b).length<=2*(tsT T).length:=by
   unfold wayX;rw[QW];have key:∀ (m:Nat) (r:Str->List Nat) (pt:Str) (G B:List Nat),(wlk (tsT T) m r pt G B).length<=m+B.length:=by
    intro m;induction m with
    | zero=>intro r pt G B;rw[wlk];omega
    | succ m ih =>
     intro r pt G B;rw[wlk];split
     ·refine Wg (ih _ _ _ _) ?_;omega
     ·split
      ·refine Wg (ih _ _ _ _) ?_;rw[Qd,Qr];omega
      ·omega
   have:=key (2*(tsT T).length) (rows (tsT T)) b [] [];simpa using this
  have htl:(tsT T).length=T.length:=by unfold tsT;rw[Qc]
  have hl:(ZfY T (wayX (tsT T) b)).length<=2*(wayX (tsT T) b).length:=Zeb fun i _=>by
   rw[ZL,Qb];cases e:T[i]? with
   | none=>exact QV _
   | some x=>exact hL x (QX e)
  omega
 ·rw[Zev g]at h;cases h
theorem Zl6 (hR:RO ps) (hm:p∈ps):∀ r∈sb ps p,r.2.length<=1000:=fun r hr=>by
 obtain⟨hp,hO⟩:=Yj ps;obtain⟨ss,hS⟩:=JZ hp;obtain⟨hp1,hO1⟩:=Yj (ps.erase p);have hst:∀ wsh:Str,wsh.length<=63->(stF ps wsh).length<=63:=fun wsh hw=>by
  rw[ZaS hO hS];exact Zgl hR hO hS hw
 have l2:=(hR.one p hm).2.1;unfold sb at hr;obtain⟨⟨s,o⟩,hro,hk⟩:=Uc.mp hr;unfold Zd8 at hk;obtain⟨t,ht,rfl⟩:=QS.mp hk;have ht':o=some t:=ht;subst ht';show t.length<=1000;unfold YC at hro;rcases Qy.mp hro with q | q
 ·injection q with _ q2
  refine ZjM (n:=0) ?_ ?_ ?_ q2.symm
  ·unfold ZfT;exact Zbf (by show(tx [lst p]).length<=2;rw[Zn];exact WR _)
  ·unfold ZfT;rw[Yl hO1,Qd,Qc,X5 hO1,Qr];have:=(hR.erase p).len;omega
  ·have:=hst (en p) (by rw[Za9];omega);omega
 ·obtain⟨e,he,q⟩:=Qi.mp q;injection q with _ q2
  obtain⟨hp2,hO2⟩:=Yj ((ps.erase p).erase (en p++e.1));obtain⟨y,hy,_,ey⟩:=ZbG he;refine ZjM (n:=0) ?_ ?_ ?_ q2
  ·unfold Je;refine Zbf ?_;show(tx [lst p]++e.1).length<=2;rw[ey,show lc y.1=tx [y.1.cps.toList.getD (y.1.length-1) 0]from rfl,Z7,Zn];exact Qk _
  ·unfold Je;rw[Yl hO2,Qd,Qc,X5 hO2,Qr];have:=((hR.erase p).erase (en p++e.1)).len;omega
  ·have:=hst (bg p) (by rw[Zfm];omega);omega
abbrev JW:Stmt:=top 43
abbrev Ze4:List Str:=["H","piece"]
theorem ZgI:Zp Ze4 ["H","piece"] (Zg JW):=⟨rfl,rfl,rfl,by decide +kernel,rfl,by decide +kernel,by decide +kernel⟩
theorem Zm0 {ts:Ts} {u v:Str} {X:List Nat} (h:Ch ts u X v):ChP u (X.map fun i=>ts.getD i ("","")) v:=by
 induction h with
 | nil=>exact rfl
 | cons e _ ih=>exact⟨e,ih⟩
theorem Zc6 {W':List (Str×Str)} {v:Str}:∀ {W:List (Str×Str)} {u:Str},ChP u (W++W') v->∃ m,ChP u W m/\ChP m W' v
 | [],u,h=>⟨u,rfl,h⟩
 | t::W,u,⟨h1,h2⟩=>by
  obtain⟨m,q1,q2⟩:=Zc6 h2;exact⟨m,⟨h1,q1⟩,q2⟩
theorem Zi2 {L a:Nat} {y:List Nat} (h1:1<=L) (h:L<=y.length):pcs (a::y) L=tx ((a::y).take L)::pcs y L:=by
 rw[Zah ⟨h1,by rw[QG];omega⟩,Zah ⟨h1,h⟩,Zbe h1 (by omega),Qs]
theorem Zbc {L:Nat} (h1:1<=L):∀ (Y:List Str) (b v:Str),Y≠[]->ChP b (Y.map be) v->(∀ w∈Y,w.length=L)->∃ y:List Nat,pcs y L=Y/\y.length=L-1+Y.length/\y.take (L-1)=b.cps.toList/\∀ c∈y,∃ w∈Y,c∈w.cps.toList
 | [],_,_,h,_,_=>absurd rfl h
 | [w],b,v,_,⟨hb,_⟩,hl=>by
  have hw:=hl w Qj;have hb':bg w=b:=hb;refine⟨w.cps.toList,?_,by rw[ZL,hw,Qr];omega,?_,fun c hc=>⟨w,Qj,hc⟩⟩
  ·unfold pcs;rw[ZL,hw,Wq];show [tx ((w.cps.toList.drop 0).take L)]=[w];rw[UD,Q0 (by rw[ZL];omega),tx_eta]
  ·rw[←hb'];unfold bg;rw[Zs,UC,ZL,hw]
 | w::w2::Y,b,v,_,⟨hb,hc⟩,hl=>by
  have hw:=hl w Qj;have hb':bg w=b:=hb;obtain⟨y,e1,e2,e3,e4⟩:=Zbc h1 (w2::Y) (en w) v (UG _ _) hc fun x hx=>hl x (Ql _ hx);have hwl:w.cps.toList.length=L:=by rw[ZL,hw]
  obtain⟨c0,cr,ec⟩:∃ c0 cr,w.cps.toList=c0::cr:=by
   cases q:w.cps.toList with
   | nil=>rw[q]at hwl;simp at hwl;omega
   | cons c0 cr=>exact⟨c0,cr,rfl⟩
  have een:(en w).cps.toList=cr:=by
   unfold en;rw[Zs,ec];rfl
  rw[een]at e3;have hyl:L<=y.length:=by rw[e2,QG];omega
  have etk:(c0::y).take L=c0::cr:=by
   rw[show L=(L-1)+1 by omega,Ur,e3]
  refine⟨c0::y,?_,by rw[QG,e2];simp only[QG];omega,?_,fun c hc=>?_⟩
  ·rw[Zi2 h1 hyl,etk,e1,←ec,tx_eta]
  ·rw[←hb'];unfold bg;rw[Zs,UC,hwl,ec];cases L with
   | zero=>omega
   | succ n =>
    rw[Nat.add_sub_cancel];cases n with
    | zero=>rfl
    | succ k =>
     rw[Ur,Ur];have:cr=y.take (k+1):=by rw[←e3];rfl
     rw[this,R9,Nat.min_eq_left (WR k)]
  ·rcases Qy.mp hc with q | q
   ·exact⟨w,Qj,by rw[ec,q];exact Qj⟩
   ·obtain⟨x,hx,hcx⟩:=e4 c q;exact⟨x,Ql _ hx,hcx⟩
section
variable {ps:List Str} {L:Nat} {z:List Nat}
theorem Zav {α:Type} (A B:List α) (x:α):(A++x::B)[A.length]?=some x:=by
 rw[QI (Qk _),Wq];rfl
theorem Zdw:∀ l:List (Str×Option Str),((l.filterMap Zd8).map Prod.fst).Sublist (l.map Prod.fst)
 | []=>List.Sublist.refl _
 | (s,none)::l=>by
  rw[WB];exact(Zdw l).cons _
 | (s,some t)::l=>by
  rw[WB];exact(Zdw l).cons₂ _
theorem Zm9 {a:List Nat} {c d:Nat} (h:a++[c]<a++[d]):c<d:=by
 induction a with
 | nil =>
  have h':[c]<[d]:=h;rcases UE.mp h' with q | q
  ·exact q
  ·exact absurd q.2 (Wy _)
 | cons x a ih =>
  rcases UE.mp (show x::(a++[c])<x::(a++[d])from h)with q | q
  ·exact absurd q (Wu _)
  ·exact ih q.2
theorem Zk5 {qs:List Str} {y:Str} (hO:Zu qs hp) (hl:∀ x∈qs,1<=x.length):(((nxt hp y).map Prod.fst).map fun x=>x.cps.toList).Pairwise (· < ·):=by
 unfold nxt;rw[QA,QA,QY];have h:=(QY.mp hO.srt).filter fun e:Str×Int=>decide (bg e.1=y);refine List.Pairwise.imp_of_mem ?_ h;intro a b ma mb hab;obtain⟨ma1,ma2⟩:=QD.mp ma;obtain⟨mb1,mb2⟩:=QD.mp mb;have la:=hl a.1 ((hO.mem _).mp (Qi.mpr ⟨a,ma1,rfl⟩));have lb:=hl b.1 ((hO.mem _).mp (Qi.mpr ⟨b,mb1,rfl⟩));have ea:=of_decide_eq_true ma2;have eb:=of_decide_eq_true mb2;rw[Zfl la,Zfl lb,ea,eb]at hab;show(lc a.1).cps.toList<(lc b.1).cps.toList;rw[ZcO la,ZcO lb,Zs,Zs];exact UE.mpr (.inl (Zm9 hab))
theorem Zl5 (h:RO ps):(((sb ps p).map Prod.fst).map fun x=>x.cps.toList).Pairwise (· < ·):=by
 obtain⟨hp1,hO1⟩:=Yj (ps.erase p);have hs:=(Zdw (YC ps p)).map fun x:Str=>x.cps.toList;refine List.Pairwise.sublist hs ?_;unfold YC;rw[Yl hO1,Qs,Qs,Wx];have hn:=Zk5 (y:=en p) hO1 fun x hx=>((h.erase p).one x hx).1;rw[QA]at *;constructor
 ·intro c hc;obtain⟨r,hr,rfl⟩:=Qi.mp hc;obtain⟨e,he,rfl⟩:=Qi.mp hr;obtain⟨x,hx,xb,xl⟩:=ZbG he;show []<(e.1).cps.toList;rw[xl];exact List.nil_lt_cons _ _
 ·rw[QA];exact hn
end
theorem ZfZ {ts:Ts} {b:Str}:∀ (m:Nat) (pt:Str) (r:Str->List Nat) (G B:List Nat),WI ts b pt r G B->2*ts.length<=m+G.length+2*B.length->∃ pt' r' B',WI ts b pt' r' [] B'/\r' pt'=[]/\wlk ts m r pt G B=B'
 | m,pt,r,G,B,h,hm=>by
  have hl:=h.len;rcases WE (r pt)with e | ⟨X,i,e⟩
  ·rcases WE G with eg | ⟨Y,j,eg⟩
   ·subst eg;exact⟨pt,r,B,h,e,Zeo e⟩
   ·rw[WF]at eg;subst eg;have h2:=h.pop e;cases m with
    | zero =>
     rw[Qd,Qr]at hl hm;omega
    | succ m =>
     rw[Zen e];refine ZfZ m _ _ _ _ h2 ?_;rw[Qd,Qr]at hm ⊢;omega
  ·rw[WF]at e;have h2:=h.push e;have hl2:=h2.len;rw[Qd,Qr]at hl2;cases m with
   | zero=>omega
   | succ m =>
    rw[Zb5 e];refine ZfZ m _ _ _ _ h2 ?_;rw[Qd,Qr];omega
theorem Zkw {ts:Ts} (g:ZaG ts b):Eul ts b (wayX ts b):=by
 obtain⟨pt,r,B,h,e,ew⟩:=ZfZ (2*ts.length) b (rows ts) [] [] (WI.start (ZgU ts) (ZeL ts)) (by omega);unfold wayX;rw[ew];exact h.done e g
theorem Zft {L:Nat} {y:List Nat} (h1:1<=L) (h:L<=y.length):y=y.take (L-1)++(pcs y L).map lst:=by
 conv=>lhs;rw[←WD (L-1) y]
 congr 1;apply QU;intro i;rw[U9,Qg];by_cases hi:i<y.length-L+1
 ·rw[Yv hi,Wd,Qa (by omega)];congr 1;unfold lst;rw[Zs,Rc,Re,QP,WK,RL,if_pos (by omega),U9,show i+(min L (y.length-i)-1)=L-1+i by omega,Qa (by omega)];rfl
 ·rw[Qo (by omega),Qo (by rw[ZM];omega)];rfl
theorem Zcs {F:List Str} {t:Str×Str×Str} (g:ZaG (tsT (F.map Zdl++[t])) b):∃ (Y1 Y2:List Str) (m v:Str),(Y1++Y2).Perm F/\ChP b (Y1.map be) m/\t.1=m/\ChP t.2.2 (Y2.map be) v/\ZfY (F.map Zdl++[t]) (wayX (tsT (F.map Zdl++[t])) b)=Y1.map lst++t.2.1.cps.toList++Y2.map lst:=by
 obtain⟨hp,v,hc⟩:=Zkw g;have hl:(tsT (F.map Zdl++[t])).length=F.length+1:=by unfold tsT;simp
 rw[hl]at hp;generalize wayX (tsT (F.map Zdl++[t])) b=X at *;obtain⟨X1,X2,rfl⟩:=List.append_of_mem (hp.mem_iff.mpr (QN.mpr (UF F.length)));have hp2:(X1++X2).Perm (Qq F.length):=by
  have q:=(WV (l₁:=X1) (a:=F.length) (l₂:=X2)).symm.trans hp;rw[Wb]at q;exact(List.perm_cons _).mp (q.trans (UI _ _))
 have hlt:∀ i∈X1++X2,i<F.length:=fun i hi=>QN.mp (hp2.mem_iff.mp hi);have hts:∀ i,i<F.length->(tsT (F.map Zdl++[t])).getD i ("","")=be (F.getD i ""):=fun i hi=>by
  rw[Jh,Qb,QO (by rw[Qc];exact hi),Qg,Qb,Qa hi];rfl
 have htn:(tsT (F.map Zdl++[t])).getD F.length ("","")=(t.1,t.2.2):=by
  rw[Jh,Qb,QI (by rw[Qc];exact Qk _),Qc,Wq];rfl
 have hT:∀ i,i<F.length->((F.map Zdl++[t]).getD i ("","","")).2.1.cps.toList=[lst (F.getD i "")]:=fun i hi=>by
  rw[Qb,QO (by rw[Qc];exact hi),Qg,Qb,Qa hi];exact Zs _
 have hTn:((F.map Zdl++[t]).getD F.length ("","","")).2.1=t.2.1:=by
  rw[Qb,QI (by rw[Qc];exact Qk _),Qc,Wq];rfl
 have hch:=Zm0 hc;rw[Qz,Qs,htn]at hch;obtain⟨m,h1,h2,h3⟩:=Zc6 hch;have mapbe:∀ Z:List Nat,(∀ i∈Z,i<F.length)->(Z.map fun i=>(tsT (F.map Zdl++[t])).getD i ("",""))=(Z.map fun i=>F.getD i "").map be:=fun Z hZ=>by
  rw[QA];exact Q3 fun i hi=>hts i (hZ i hi)
 have lab1:∀ Z:List Nat,(∀ i∈Z,i<F.length)->ZfY (F.map Zdl++[t]) Z=(Z.map fun i=>F.getD i "").map lst:=fun Z=>by
  induction Z with
  | nil=>intro _;rfl
  | cons i Z ih =>
   intro hZ;unfold ZfY;rw[Ui,hT i (hZ i Qj)];have:=ih fun j hj=>hZ j (Ql _ hj);unfold ZfY at this;rw[this];rfl
 refine⟨X1.map fun i=>F.getD i "",X2.map fun i=>F.getD i "",m,v,?_,?_,h2,?_,?_⟩
 ·rw[←Qz]
  conv=>rhs;rw[range_getD F ""]
  exact hp2.map _
 ·rw[←mapbe X1 fun i hi=>hlt i (QM _ hi)];exact h1
 ·rw[←mapbe X2 fun i hi=>hlt i (QH _ hi)];exact h3
 ·have e1:=lab1 X1 fun i hi=>hlt i (QM _ hi);have e2:=lab1 X2 fun i hi=>hlt i (QH _ hi);unfold ZfY at e1 e2 ⊢;rw[U4,Ui,e1,e2,hTn,Q9]
section
variable {ps:List Str} {L:Nat} {z:List Nat}
theorem Zew (h:Tx ps L z) {Y:List Str} {v:Str} (hp:Y.Perm ps) (hc:ChP b (Y.map be) v):Tx ps L (b.cps.toList++Y.map lst)/\(b.cps.toList++Y.map lst).length=z.length/\pcs (b.cps.toList++Y.map lst) L=Y:=by
 have hne:Y≠[]:=fun e=>h.ne (List.nil_perm.mp (e▸hp));obtain⟨y,e1,e2,e3,e4⟩:=Zbc h.fit.one Y b v hne hc fun w hw=>h.len (hp.mem_iff.mp hw);have hl:=h.pm.length_eq;rw[ZM]at hl;have hyl:=hp.length_eq;have:=h.fit.le;have one:=h.fit.one;have:=h.few;have eyl:y.length=z.length:=by omega
 have ey:y=b.cps.toList++Y.map lst:=by
  rw[Zft one (y:=y) (by omega),e3,e1]
 rw[←ey];refine⟨⟨⟨by omega,by omega⟩,by rw[e1];exact hp,fun c hc=>?_,by omega⟩,eyl,e1⟩;obtain⟨w,hw,hcw⟩:=e4 c hc;exact(h.ro.one w (hp.mem_iff.mp hw)).2.2 c hcw
theorem ZiI (h:Tx ps L z) {s t:Str} (hm:p∈ps) (hr:(s,t)∈sb ps p):∃ y i,t=tx y/\Tx ps L y/\y.length=z.length/\i<y.length-L+1/\(pcs y L)[i]?=some p/\sg y L i=s:=by
 unfold sb at hr;obtain⟨⟨s2,o⟩,hro,hk⟩:=Uc.mp hr;unfold Zd8 at hk;obtain⟨t2,ht,e⟩:=QS.mp hk;have ht':o=some t2:=ht;subst ht';injection e with e1 e2
 have e1':s2=s:=e1;subst e1';subst e2;clear hk hr;obtain⟨hp1,hO1⟩:=Yj (ps.erase p);have hpl:=h.len hm;have one:=h.fit.one;have hpe:(p::ps.erase p).Perm ps:=(WN hm).symm;unfold YC at hro;rcases Qy.mp hro with q | q
 ·injection q with q1 q2
  subst q1;have g:ZaG (tsT (ZfT ps p)) (stF ps (en p)):=Classical.byContradiction fun n=>by
   unfold ZjE at q2;rw[Zev n]at q2;cases q2
  unfold ZjE at q2;rw[Xc g]at q2;have q3:=Option.some.inj q2;unfold ZfT at g q3;rw[Yl hO1]at g q3;obtain⟨Y1,Y2,m,v,hY,hc1,hm1,hc2,el⟩:=Zcs g;rw[el]at q3;have hF:∀ x∈ZA hp1,x.length=L:=fun x hx=>h.len (We ((ZP hO1).mem_iff.mp hx));have hY2:Y2=[]:=by
   cases Y2 with
   | nil=>rfl
   | cons x Y2 =>
    exfalso;have hx:bg x=p:=hc2.1;have:=congrArg Str.length hx;rw[Zfm,hF x (hY.mem_iff.mp (QH _ Qj)),hpl]at this;omega
  subst hY2;rw[Ud]at hY;have hYc:ChP (stF ps (en p)) ((Y1++[p]).map be) (en p):=by
   rw[Qz];exact Jy hc1 ⟨hm1,rfl⟩
  obtain⟨hT,hyl,ey⟩:=Zew h (((UI p Y1).trans (List.Perm.cons p (hY.trans (ZP hO1)))).trans hpe) hYc;have hnum:=ZM ((stF ps (en p)).cps.toList++(Y1++[p]).map lst) L;rw[ey,Qd,Qr]at hnum;refine⟨_,Y1.length,?_,hT,hyl,by omega,by rw[ey];exact Zav Y1 [] p,?_⟩
  ·rw[q3];congr 1;simp[Zs]
  ·unfold sg;rw[Ux (by have:=hT.fit.le;omega)];rfl
 ·obtain⟨e,he,q⟩:=Qi.mp q;injection q with q1 q2
  have q1':e.1=s2:=q1;rw[Yl hO1]at he;obtain⟨x,hx,xb,xl⟩:=ZbG he;have hxm:x.1∈ps.erase p:=(hO1.mem _).mp (Qi.mpr ⟨x,hx,rfl⟩);have hxl:=h.len (We hxm);have exo:en p++e.1=x.1:=by rw[xl];exact Zh8 (by omega) xb
  rw[←q1'];have g:ZaG (tsT (Je ps p e.1)) (stF ps (bg p)):=Classical.byContradiction fun n=>by
   unfold ZaH at q2;rw[Zev n]at q2;cases q2
  unfold ZaH at q2;rw[Xc g]at q2;have q3:=Option.some.inj q2;obtain⟨hp2,hO2⟩:=Yj ((ps.erase p).erase x.1);unfold Je at g q3;rw[exo,Yl hO2]at g q3;obtain⟨Y1,Y2,m,v,hY,hc1,hm1,hc2,el⟩:=Zcs g;rw[el]at q3;have hYc:ChP (stF ps (bg p)) ((Y1++p::x.1::Y2).map be) v:=by
   rw[Qz];exact Jy hc1 ⟨hm1,xb,hc2⟩
  have hYp:(Y1++p::x.1::Y2).Perm ps:=by
   refine(WV.trans (List.Perm.cons p WV)).trans ?_;refine List.Perm.trans (List.Perm.cons p ?_) hpe;refine List.Perm.trans (List.Perm.cons x.1 ?_) (WN hxm).symm;exact hY.trans (ZP hO2)
  obtain⟨hT,hyl,ey⟩:=Zew h hYp hYc;have hnum:=ZM ((stF ps (bg p)).cps.toList++(Y1++p::x.1::Y2).map lst) L;rw[ey,Qd,QG,QG]at hnum;have hyf:=hT.fit.le;refine⟨_,Y1.length,?_,hT,hyl,by omega,by rw[ey];exact Zav _ _ _,?_⟩
  ·rw[←q3];congr 1;have es:(tx [lst p]++e.1).cps.toList=[lst p,lst x.1]:=by
    rw[xl,ZcO (by omega),Z7,Zs];rfl
   show(stF ps (bg p)).cps.toList++(Y1.map lst++(tx [lst p]++e.1).cps.toList++Y2.map lst)=_;rw[es];simp
  ·have en2:(pcs ((stF ps (bg p)).cps.toList++(Y1++p::x.1::Y2).map lst) L)[Y1.length+1]?=some x.1:=by
    rw[ey,QI (by omega),show Y1.length+1-Y1.length=1 by omega];rfl
   rw[Yv (by omega)]at en2;rw[←Zkg one (by omega),Option.some.inj en2,xl]
end
def bl (t:Str×Str) (q:Str):Int:=dl t.1 q-dl t.2 q
theorem YY (ts:Ts) (q:Str):moT ts q=(ts.map fun t=>bl t q).sum:=by
 have:=Zb0 ts q ts.length (Qk _);rw[Wr]at this;exact this
theorem Xp {a b:List Int} (h:a.Perm b):a.sum=b.sum:=by
 induction h with
 | nil=>rfl
 | cons x _ ih=>rw[Q8,Q8,ih]
 | swap x y l=>rw[Q8,Q8,Q8,Q8];omega
 | trans _ _ h1 h2=>rw[h1,h2]
theorem ZhH (hO:Zu ps hp) (q:Str):mo hp q=(ps.map fun x=>bl (be x) q).sum:=by
 have nn:∀ e∈hp,0<=e.2:=fun e he=>by rw[hO.cnt e he];omega
 rw[←Zle nn q,YY];unfold tsE;rw[QA];exact Xp ((ZP hO).map _)
theorem Zbg (a b:List Int):(a++b).sum=a.sum+b.sum:=Ue
section
variable {ps:List Str} {p o:Str} {hp hp1 hp2:Es}
theorem Zf1 (hO:Zu ps hp) (hO2:Zu ((ps.erase p).erase o) hp2) (hm:p∈ps) (ho:o∈ps.erase p) (e:bg o=en p) (q:Str):moT ((ZA hp2).map be++[(bg p,en o)]) q=mo hp q:=by
 rw[YY,ZhH hO,Qz,Zbg,QA];have h1:((ZA hp2).map fun x=>bl (be x) q).sum=(((ps.erase p).erase o).map fun x=>bl (be x) q).sum:=Xp ((ZP hO2).map _);have h2:(ps.map fun x=>bl (be x) q).sum=bl (be p) q+(bl (be o) q+(((ps.erase p).erase o).map fun x=>bl (be x) q).sum):=by
  rw[Xp ((WN hm).map fun x=>bl (be x) q),Qs,Q8,Xp ((WN ho).map fun x=>bl (be x) q),Qs,Q8]
 have h3:((ZA hp2).map ((fun t=>bl t q) ∘ be)).sum=((ZA hp2).map fun x=>bl (be x) q).sum:=rfl;rw[h3,h1,h2];show _+(bl (bg p,en o) q+0)=_;unfold bl be;simp only[e];omega
theorem ZmW (hO:Zu ps hp) (hO1:Zu (ps.erase p) hp1) (hm:p∈ps) (q:Str):moT ((ZA hp1).map be++[(bg p,p)]) q=mo hp q+dl (en p) q-dl p q:=by
 rw[YY,ZhH hO,Qz,Zbg,QA];have h1:((ZA hp1).map fun x=>bl (be x) q).sum=((ps.erase p).map fun x=>bl (be x) q).sum:=Xp ((ZP hO1).map _);have h2:(ps.map fun x=>bl (be x) q).sum=bl (be p) q+((ps.erase p).map fun x=>bl (be x) q).sum:=by
  rw[Xp ((WN hm).map fun x=>bl (be x) q),Qs,Q8]
 have h3:((ZA hp1).map ((fun t=>bl t q) ∘ be)).sum=((ZA hp1).map fun x=>bl (be x) q).sum:=rfl;rw[h3,h1,h2];show _+(bl (bg p,p) q+0)=_;unfold bl be;simp only;omega
theorem Zf3 (hO:Zu ps hp) {ks:List Str} (hS:SPts hp ss) (hO2:Zu ((ps.erase p).erase o) hp2) (hm:p∈ps) (ho:o∈ps.erase p) (e:bg o=en p) (hk:Kp ((ZA hp2).map be++[(bg p,en o)]) ks) (hs:sumZ ks (fun q=>Yk (moT ((ZA hp2).map be++[(bg p,en o)]) q))<=1)
  (hr:∀ q∈ks,RchT ((ZA hp2).map be++[(bg p,en o)]) (bg p) q) (hbk:bg p∈ks) (hup:∀ q∈ss,0<mo hp q->q∈ks):ZaG ((ZA hp2).map be++[(bg p,en o)]) (stF ps (bg p)):=by
 have hmo:=Zf1 hO hO2 hm ho e;generalize (ZA hp2).map be++[(bg p,en o)]=ts at *;have hb:stF ps (bg p)∈ks/\((∃ q∈ks,moT ts q=1)->moT ts (stF ps (bg p))=1):=by
  rw[ZaS hO hS];have hus:∀ u∈ups (mo hp) ss,u.1∈ss/\0<mo hp u.1:=fun u hu=>by
   unfold ups at hu;obtain⟨x,hx,rfl⟩:=Qi.mp hu;exact⟨(QD.mp hx).1,of_decide_eq_true (QD.mp hx).2⟩
  have hnil:ups (mo hp) ss=[]->∀ q∈ss,¬ 0<mo hp q:=fun en q hq hp0=>by
   have:(q,mo hp q)∈ups (mo hp) ss:=by
    unfold ups;exact Qi.mpr ⟨q,QD.mpr ⟨hq,decide_eq_true hp0⟩,rfl⟩
   rw[en]at this;cases this
  have hsum:∀ q∈ks,Yk (moT ts q)<=1:=fun q hq=>U0 (Yp (f:=fun q=>Yk (moT ts q)) (fun p _=>by unfold Yk;split <;> omega) hq) hs;cases hu:ups (mo hp) ss with
  | nil =>
   refine⟨hbk,fun⟨q,hq,hq1⟩=>?_⟩;exfalso;have hz:mo hp q=1:=by rw[←hmo];exact hq1
   have hqs:q∈ss:=Classical.byContradiction fun n=>by
    have:=hS.pts.zero n;omega
   exact hnil hu q hqs (by omega)
  | cons u us =>
   obtain⟨h1,h2⟩:=hus u (by rw[hu];exact Qj);have hk1:=hup u.1 h1 h2;refine⟨hk1,fun _=>?_⟩;show moT ts u.1=1;have h3:=hsum u.1 hk1;rw[hmo]at h3 ⊢;unfold Yk at h3;split at h3 <;> omega
 generalize stF ps (bg p)=b at hb;obtain⟨M,hM,hMx⟩:=Zea (ks.map (moT ts)) (fun e=>by rw[WC]at e;rw[e]at hbk;cases hbk);refine ZhZ hk hb.1 hs hM hMx (fun e1=>hb.2 ?_) fun q hq=>(hr b hb.1).symm'.trans' (hr q hq);obtain⟨q,hq,eq⟩:=Qi.mp hM;exact⟨q,hq,by rw[eq];exact e1⟩
end
theorem ZiL {a f:Str} (hm:∀ q,mo hp q=dl a q-dl f q) (hS:SPts hp ss) (wsh:Str):Zlz wsh (ups (mo hp) ss)=if a=f then wsh else a:=by
 by_cases c:a=f
 ·subst c;rw[if_pos rfl];have:ups (mo hp) ss=[]:=by
   unfold ups;rw[WC,UR];intro x _;rw[hm x];simp
  rw[this];rfl
 ·rw[if_neg c];have ha1:mo hp a=1:=by
   rw[hm a];unfold dl;rw[if_pos rfl,if_neg fun q=>c q.symm];rfl
  have h0:a∈ss:=Classical.byContradiction fun n=>by
   have:=hS.pts.zero n;omega
  have ha:∀ u∈ups (mo hp) ss,u.1=a:=fun u hu=>by
   unfold ups at hu;obtain⟨x,hx,rfl⟩:=Qi.mp hu;have:=of_decide_eq_true (QD.mp hx).2;rw[hm x]at this;unfold dl at this;by_cases q:a=x
   ·exact q.symm
   ·rw[if_neg q]at this;split at this <;> omega
  have hne:(a,mo hp a)∈ups (mo hp) ss:=by
   unfold ups;exact Qi.mpr ⟨a,QD.mpr ⟨h0,decide_eq_true (by omega)⟩,rfl⟩
  generalize ups (mo hp) ss=us at *;cases us with
  | nil=>cases hne
  | cons u us=>exact ha u Qj
theorem Zh2 {ts:Ts} {t:Str×Str} {i:Nat} (h:i<ts.length):frm (ts++[t]) i=frm ts i/\tow (ts++[t]) i=tow ts i:=by
 unfold frm tow;rw[Qb,QO h,Qb];exact⟨rfl,rfl⟩
theorem ZgY {ts:Ts} {t:Str×Str} {a:Str} (h:RchT ts a b):RchT (ts++[t]) a b:=by
 induction h with
 | here=>exact .here
 | step _ k ih =>
  refine .step ih ?_;obtain⟨i,hi,q⟩:=k;obtain⟨e1,e2⟩:=Zh2 (t:=t) hi;exact⟨i,by rw[Qd];omega,by rw[e1,e2];exact q⟩
theorem ZjD {ks:List Str} {a0:Str} {hp1:Es} (hO:Zu ps hp) (hS:SPts hp ss) (hO1:Zu (ps.erase p) hp1) (hm:p∈ps) (hk:Kp ((ZA hp1).map be) ks) (hs:sumZ ks (fun q=>Yk (moT ((ZA hp1).map be) q))<=1) (hbk:bg p∈ks)
  (hend:moT ((ZA hp1).map be) (bg p)=0-sumZ ks (fun q=>Yk (moT ((ZA hp1).map be) q))) (h0:a0∈ks) (hr:∀ q∈ks,RchT ((ZA hp1).map be) a0 q):ZaG ((ZA hp1).map be++[(bg p,p)]) (stF ps (en p)):=by
 have hmo:=ZmW hO hO1 hm;have happ:∀ q,moT ((ZA hp1).map be++[(bg p,p)]) q=moT ((ZA hp1).map be) q+dl (bg p) q-dl p q:=fun q=>by
  rw[YY,YY,Qz,Zbg];show _+(bl (bg p,p) q+0)=_;unfold bl;simp only;omega
 generalize (ZA hp1).map be=ts at *;have hpn:∀ q∈ks,0<=Yk (moT ts q):=fun q _=>by unfold Yk;split <;> omega
 obtain⟨M,hM,hMx⟩:=Zea (ks.map (moT ts)) (fun e=>by rw[WC]at e;rw[e]at h0;cases h0);have hle:∀ q∈ks,moT ts q<=M:=fun q hq=>hMx _ (U3 hq);have hM1:M<=1:=by
  obtain⟨u,hu,eu⟩:=Qi.mp hM;have:=U0 (Yp (f:=fun q=>Yk (moT ts q)) hpn hu) hs;have h2:Yk (moT ts u)<=1:=this;rw[eu]at h2;unfold Yk at h2;split at h2 <;> omega
 obtain⟨b1,hb1,hb1m,hb1e⟩:∃ b1∈ks,(M=1->moT ts b1=1)/\(M≠1->b1=bg p):=by
  by_cases c:M=1
  ·obtain⟨u,hu,eu⟩:=Qi.mp hM;exact⟨u,hu,fun _=>by rw[eu];exact c,fun n=>absurd c n⟩
  ·exact⟨bg p,hbk,fun n=>absurd n c,fun _=>rfl⟩
 have g:=ZhZ hk hb1 hs hM hMx hb1m fun q hq=>(hr b1 hb1).symm'.trans' (hr q hq);obtain⟨⟨f,hdeg⟩,hreach⟩:=id g;have hdeg':∀ q,moT ts q=dl b1 q-dl f q:=hdeg;have hf:f=bg p:=by
  have h1:=hdeg' (bg p);by_cases c:M=1
  ·have hs1:sumZ ks (fun q=>Yk (moT ts q))=1:=by
    have h2:Yk (moT ts b1)<=sumZ ks (fun q=>Yk (moT ts q)):=Yp (f:=fun q=>Yk (moT ts q)) hpn hb1;rw[hb1m c]at h2;have h3:Yk 1=1:=rfl;omega
   rw[hs1]at hend;rw[hend]at h1;have h4:=Zib b1 (bg p);unfold dl at h1 h4;by_cases q:f=bg p
   ·exact q
   ·rw[if_neg q]at h1;split at h1 <;> omega
  ·have hb:=hb1e c;have hz:sumZ ks (fun q=>Yk (moT ts q))=0:=by
    have h5:sumZ ks (fun q=>Yk (moT ts q))<=sumZ ks (fun _=>0):=Jj fun q hq=>by
     have:=hle q hq;unfold Yk;split <;> omega
    rw[YN]at h5;have h6:Yk (moT ts b1)<=sumZ ks (fun q=>Yk (moT ts q)):=Yp (f:=fun q=>Yk (moT ts q)) hpn hb1;have:=hpn b1 hb1;omega
   rw[hz]at hend;rw[hend,hb]at h1;unfold dl at h1;rw[if_pos rfl]at h1;by_cases q:f=bg p
   ·exact q
   ·rw[if_neg q]at h1;omega
 subst hf;have hts:∀ q,moT (ts++[(bg p,p)]) q=dl b1 q-dl p q:=fun q=>by
  rw[happ,hdeg' q];omega
 have hst:stF ps (en p)=b1:=by
  rw[ZaS hO hS,ZiL (a:=b1) (f:=en p) (fun q=>by have h1:=hmo q;have h2:=hts q;omega) hS];split
  ·rename_i c;exact c.symm
  ·rfl
 rw[hst];refine⟨⟨p,hts⟩,fun i hi=>?_⟩;rw[Qd,Qr]at hi;by_cases c:i<ts.length
 ·rw[(Zh2 c).1];exact ZgY (hreach i c)
 ·have ei:i=ts.length:=by omega
  subst ei;have ef:frm (ts++[(bg p,p)]) ts.length=bg p:=by
   unfold frm;rw[Qb,QI (Qk _),Wq];rfl
  rw[ef];exact ZgY (Zjx hk g _ hbk)
theorem ZiO {t:List Nat} {a:Nat} (h:a<=t.length) {i j:Int} (ei:i=a) (ej:j=a+1):Txt.slice (tx t) (some i) (some j)=tx ((t.drop a).take 1):=by
 subst ei ej;by_cases c:a<t.length
 ·rw[YB (z:=t) (a:=a) (b:=a+1) rfl (by omega) (by omega) (by omega)];unfold seg;rw[Ro]
 ·have ea:a=t.length:=by omega
  subst ea;have e:Txt.slice (tx t) (some (t.length:Int)) (some ((t.length:Int)+1))=Txt.slice (tx t) (some (t.length:Int)) (some (t.length:Int)):=by
   unfold Txt.slice Builtin.Str.strSliceIndices;simp only[Zn];rw[if_neg (show ¬ ((t.length:Int)+1)<0 by omega),if_neg (show ¬ (t.length:Int)<0 by omega),show min ((t.length:Int)+1) (t.length:Int)=min (t.length:Int) (t.length:Int)by omega];simp only[if_pos (show(1:Int)>0 by decide)]
  rw[e,YB (z:=t) (a:=t.length) (b:=t.length) rfl rfl (Qk _) (Qk _)];unfold seg;rw[Wq,Wz,Ux (Qk _)];rfl
def beh (t pd:List Nat) (n:Nat):List Str:=((Qq n).filter fun i=>decide ((t.drop i).take pd.length=pd)).map fun i=>sg t pd.length i
theorem Ziq (t pd:List Nat) (n:Nat):(beh t pd n).length<=n:=by
 unfold beh;rw[Qc];have:=Q7 (fun i=>decide ((t.drop i).take pd.length=pd)) (Qq n);rw[Q5]at this;exact this
theorem beh_mem {t pd:List Nat} {n:Nat} {s:Str}:s∈beh t pd n↔∃ i,i<n/\(t.drop i).take pd.length=pd/\sg t pd.length i=s:=by
 unfold beh;rw[Qi];constructor
 ·rintro⟨i,hi,e⟩;obtain⟨h1,h2⟩:=QD.mp hi;exact⟨i,QN.mp h1,of_decide_eq_true h2,e⟩
 ·rintro⟨i,h1,h2,e⟩;exact⟨i,QD.mpr ⟨QN.mpr h1,decide_eq_true h2⟩,e⟩
abbrev Zbw:Stmt:=top 57
abbrev Zjh:List Str:=["_law_signs","_law_piece","_law_found","_law_at"]
theorem scLBehind:Zp Zjh ["_law_signs","_law_piece"] (Zg Zbw):=⟨rfl,rfl,rfl,by decide +kernel,rfl,by decide +kernel,by decide +kernel⟩
def Zcd:Sp:=fun vs H Q _=>∃ t pd:List Nat,vs=[.str (tx t),.str (tx pd)]/\pd.length<=t.length/\t.length<=100/\∀ q H',Same H H'->H' q=some (.lst ((beh t pd (t.length-pd.length+1)).map V.str))->Q (.ref q) H'
theorem ZdY (D:HasDef K mg "_law_behind" Zbw ["_law_signs","_law_piece"]) (B:Blt mg):FOk P w K mg base 1 "_law_behind" ["_law_signs","_law_piece"] Zcd:=by
 refine D.ok scLBehind (fun vs H Q E h=>?_) (fun f cdv A outer s H vs Q E hr h=>?_)
 ·obtain⟨t,pd,rfl,_⟩:=h;rfl
 ·obtain⟨t,pd,rfl,hl,ht,k⟩:=h;refine⟨_,(Ze (Zm (i:=2) scLBehind.nd rfl (.inl rfl) (ZT Zc))
   (Ze (Yi PassesOwn.never rfl (Ys rfl B.range (Za (Zk ZU (Zk Ye (Zj Zr rfl B.len ZX (Za (pv 0) Zc)) (Zj Zr rfl B.len ZX (Za (pv 1) Zc))) Zf) Zc)) (ZI (i:=3) scLBehind.nd rfl (.inl rfl))
    (Zi (Z2 (Zt YE (ZC Z4 (pv 0) (ZE (pv 3)) (ZE (Zk ZU (pv 3) (Zj Zr rfl B.len ZX (Za (pv 1) Zc))))) (pv 1) (Zy _)) (Zi (Z8 (Xf F.plainAttrs_list F.slot_list_append F.type_list_append Z1 (pv 2) (Za (ZC Z4 (pv 0) (ZE (Zk ZU (pv 3) (Zj Zr rfl B.len ZX (Za (pv 1) Zc)))) (ZE (Zk ZU (Zk ZU (pv 3) (Zj Zr rfl B.len ZX (Za (pv 1) Zc))) Zf))) Zc)))) Zx)))
   (Zi (Zq (pv 2))))),?_⟩
  have lt:∀ H',ZlC K (.str (tx t)) H' t.length:=fun H'=>⟨ZG (by omega),(Zn t).symm⟩
  have lp:∀ H',ZlC K (.str (tx pd)) H' pd.length:=fun H'=>⟨ZG (by omega),(Zn pd).symm⟩
  refine⟨Zh (show 0<=1000 by decide),fun l hl0=>?_⟩;have s1:=Zb (o:=.lst []) hl0;refine⟨_,rfl,.str (tx t),t.length,rfl,lt _,_,rfl,.str (tx pd),pd.length,rfl,lp _,_,_,rfl,rfl,_,_,rfl,rfl,_,rfl,by omega,by omega,?_⟩;rw[show((t.length:Int)-(pd.length:Int)+1).toNat=t.length-pd.length+1 by omega];refine YS (n:=t.length-pd.length+1) (fun i σ H2=>∃ z3:Option V,σ=[some (.str (tx t)),some (.str (tx pd)),some (.ref l),z3]/\Same H H2/\H2 l=some (.lst ((beh t pd i).map V.str)))
   ⟨none,rfl,s1,Zd⟩ ?_ ?_
  ·rintro i σ H2 hi ⟨z3,rfl,s2,hl2⟩;rw[UL];refine⟨_,rfl,_,rfl,_,rfl,_,rfl,_,rfl,.str (tx pd),pd.length,rfl,lp _,_,_,rfl,rfl,_,rfl,tx t,rfl,ZG (by omega),?_⟩;rw[YB (z:=t) (a:=i) (b:=i+pd.length) rfl (by omega) (by omega) (by omega)];refine⟨_,rfl,rfl,_,rfl,?_⟩;rw[Zic];have es:seg t i (i+pd.length)=(t.drop i).take pd.length:=by
    unfold seg;rw[Ro]
   rw[es];have eb:beh t pd (i+1)=beh t pd i++(if (t.drop i).take pd.length=pd then [sg t pd.length i]else []):=by
    unfold beh;rw[Wb,WM,Qz];congr 1;by_cases c:(t.drop i).take pd.length=pd
    ·simp[c]
    ·simp[c]
   rw[eb];refine Ziz (fun c=>?_) (fun c=>?_)
   ·rw[if_pos (of_decide_eq_true c)];refine⟨_,rfl,.inl ⟨rfl,_,SqL.of hl2⟩,_,rfl,_,rfl,_,rfl,.str (tx pd),pd.length,rfl,lp _,_,_,rfl,rfl,_,rfl,_,rfl,_,rfl,.str (tx pd),pd.length,rfl,lp _,_,_,rfl,rfl,_,_,rfl,rfl,_,rfl,tx t,rfl,ZG (by omega),?_⟩;rw[ZiO (a:=i+pd.length) (by omega) (by omega) (by omega)];have hbl:=Ziq t pd i;refine⟨l,_,_,rfl,rfl,hl2,Zh (by rw[Qc];omega),?_⟩;refine⟨_,rfl,Yr s2 hl0,?_⟩;rw[Zd,Qz];rfl
   ·rw[if_neg (fun q=>c (decide_eq_true q)),Ud];exact⟨_,rfl,s2,hl2⟩
  ·rintro σ H2 ⟨z3,rfl,s2,hl2⟩;exact⟨_,rfl,k l H2 s2 hl2⟩
abbrev ZgP:Stmt:=top 58
abbrev ZmA:List Str:=["_law_signs"]
theorem ZkO:Zp ZmA ["_law_signs"] (Zg ZgP):=⟨rfl,rfl,rfl,by decide +kernel,rfl,by decide +kernel,by decide +kernel⟩
def Zgr:Sp:=fun vs H Q _=>∃ t:List Nat,vs=[.str (tx t)]/\t.length<=100/\∀ H',Same H H'->Q (.str (tx t.reverse)) H'
theorem Zhv (D:HasDef K mg "_law_back" ZgP ["_law_signs"]) (B:Blt mg):FOk P w K mg base 1 "_law_back" ["_law_signs"] Zgr:=by
 refine D.ok ZkO (fun vs H Q E h=>?_) (fun f cdv A outer s H vs Q E hr h=>?_)
 ·obtain⟨t,rfl,_⟩:=h;rfl
 ·obtain⟨t,rfl,ht,k⟩:=h;refine⟨_,(Zi (Zq (Xf F.plainAttrs_str F.slot_str_join F.type_str_join Zam ZY (Za (ZaX rfl rfl B.list rfl B.rev (pv 0)) Zc)))),?_⟩;refine⟨rfl,_,rfl,tx t,rfl,ZG (by omega),fun p hp=>?_⟩;rw[Zs];have s1:=Zb (o:=.lst (t.reverse.map fun c=>V.str (tx [c]))) hp;refine⟨"",p,t.reverse.map fun c=>tx [c],rfl,rfl,SqL.of (by rw[Zd,QA];rfl),?_,?_⟩
  ·have h2:∀ x∈t.reverse.map fun c=>tx [c],x.length<=2:=fun x hx=>by
    obtain⟨c,_,rfl⟩:=Qi.mp hx;rw[Zn];exact WR _
   have hs:=Zdv h2;rw[Qc,QW]at hs;have:("" : Str).length=0:=rfl;rw[this,Ri];omega
  have ej:Txt.join "" (t.reverse.map fun c=>tx [c])=tx t.reverse:=by
   rw[←tx_eta (Txt.join _ _),Za3,RZ];congr 1;have:∀ l:List Nat,(l.flatMap fun c=>(tx [c]).cps.toList)=l:=fun l=>by
    induction l with
    | nil=>rfl
    | cons c l ih=>rw[Ui,ih,Zs];rfl
   exact this _
  rw[ej];exact k _ s1
def Zdx:List Str->List Str->Option (List Str)
 | ps,[]=>some ps
 | ps,x::xs=>if x∈ps then Zdx (ps.erase x) xs else none
theorem Zbj:∀ (ps a b:List Str),Zdx ps (a++b)=(Zdx ps a).bind fun qs=>Zdx qs b
 | ps,[],b=>rfl
 | ps,x::a,b=>by
  show(if x∈ps then Zdx (ps.erase x) (a++b)else none)=_;show _=((if x∈ps then Zdx (ps.erase x) a else none).bind fun qs=>Zdx qs b);split
  ·exact Zbj _ a b
  ·rfl
theorem ZeA:∀ {xs ps qs:List Str},Zdx ps xs=some qs->∀ y∈qs,y∈ps
 | [],ps,qs,h,y,hy=>by
  have h':some ps=some qs:=h;cases h';exact hy
 | x::xs,ps,qs,h,y,hy=>by
  have h':(if x∈ps then Zdx (ps.erase x) xs else none)=some qs:=h;split at h'
  ·exact We (ZeA h' y hy)
  ·cases h'
def TyN (H:Hp) (us:List V) (l:List (Str×Str×Int)):Prop:=us.length=l.length/\∀ (i:Nat) t,l[i]?=some t->∃ b,us[i]?=some (.ref b)/\H b=some (.tup [.str t.1,.str t.2.1,.int t.2.2])
def tiesN (ks:List Str) (g:Str->Int):List (Str×Str×Int):=(ks.filter fun x=>decide (0<g x)).map fun x=>(bg x,en x,g x)
abbrev ZgO:Stmt:=top 59
abbrev Zmz:List Str:=["_law_heap","_law_some","_law_left_here","_law_piece"]
theorem scLLeft:Zp Zmz ["_law_heap","_law_some"] (Zg ZgO):=⟨rfl,rfl,rfl,by decide +kernel,rfl,by decide +kernel,by decide +kernel⟩
def ZjW:Sp:=fun vs H Q _=>∃ (v:V) (ps:List Str) (hp:Es) (a:Addr) (xs:List Str),vs=[v,.ref a]/\Hv H v ps hp/\RO ps/\H a=some (.lst (xs.map V.str))/\(∀ qs,Zdx ps xs=some qs->∀ d H',Same H H'->H' d=some (.dK (gD (hp.map (·.1)) fun x=>(qs.count x:Int)))->Q (.ref d) H')/\(Zdx ps xs=none->∀ H',Same H H'->Q .non H')
theorem Zht (D:HasDef K mg "_law_left" ZgO ["_law_heap","_law_some"]) (B:Blt mg):FOk P w K mg base 1 "_law_left" ["_law_heap","_law_some"] ZjW:=by
 refine D.ok scLLeft (fun vs H Q E h=>?_) (fun f cdv A outer s H vs Q E hr h=>?_)
 ·obtain⟨v,ps,hp,a,xs,rfl,_⟩:=h;rfl
 ·obtain⟨v,ps,hp,a,xs,rfl,hV,hR,ha,k1,k2⟩:=h;have hu:=ZaO hr;refine⟨_,(Ze (Zm (i:=2) scLLeft.nd rfl (.inl rfl) (ZJ (XN rfl) rfl B.dict Zit (Za (ZJ Zc9 rfl B.list Zks (Za (pv 0) Zc)) Zc)))
   (Ze (Yi PassesOwn.never rfl (Ym (pv 1)) (ZI (i:=3) scLLeft.nd rfl (.inl rfl))
    (Ze (Z2 (Zt YE (YH hu (pv 2) (pv 3) Zf ⟨rfl,rfl,rfl,rfl⟩) Zf (Zy _)) (Zi (Zq JE)) Zx)
   (Zi (YK hu (pv 2) (pv 3) (Zk Ye (YX hu (pv 2) (pv 3) (fun _ _=>rfl)) Zf) rfl))))
   (Zi (Zq (pv 2))))),?_⟩
  have hO:=hV.of;have hlen:=Z3 hO;have hpl:=hR.len;obtain⟨q,us0,rfl,hq,hpa⟩:=ZiA hV.at_;refine⟨_,rfl,q,us0,rfl,.inr (SqT.of hq),fun l hl=>?_⟩;have s2:=Zb (o:=.lst us0) hl;refine⟨l,us0,hp.map fun p=>((Sum.inr p.1:Key),V.int p.2),rfl,.inl Zd,by rw[Qc];exact hpa.1,fun j r er=>?_,?_,fun d hd=>?_⟩
  ·rw[Qg]at er;obtain⟨y,hy,rfl⟩:=QS.mp er;obtain⟨c,q1,q2⟩:=hpa.2 j y hy;exact⟨c,q1,s2 _ _ q2⟩
  ·rw[Jv hO];exact ZbS (XJ hO)
  rw[Jv hO];have hkm:=hO.mem;have hkl:(hp.map (·.1)).length<=63:=by rw[Qc];omega
  generalize hp.map (·.1)=ks at *;have s3:=Zb (o:=.dK (gD ks fun x=>(ps.count x:Int))) hd;have sA:=s2.trans s3;have hdH:H d=none:=by
   cases e:H d with
   | none=>rfl
   | some o=>rw[s2 _ _ e]at hd;cases hd
  refine⟨_,rfl,a,rfl,⟨_,SqL.of (sA _ _ ha)⟩,?_⟩;refine X4 (K:=K) (a:=a) (xs:=xs.map V.str) (fun i σ H'=>∃ (z3:Option V) (qs:List Str),σ=[some (.ref q),some (.ref a),some (.ref d),z3]/\Same H H'/\H' d=some (.dK (gD ks fun x=>(qs.count x:Int)))/\Zdx ps (xs.take i)=some qs)
   ⟨none,ps,rfl,sA,Zd,by rw[Wz];rfl⟩ (fun i σ H' _ ⟨_,_,_,s',_⟩=>SqL.of (s' _ _ ha)) ?_ ?_
  ·rintro i x σ H2 hi ⟨z3,qs,rfl,sB,hdd,hsm⟩;rw[Qg]at hi;obtain⟨x,hx,rfl⟩:=QS.mp hi;have hil:i<xs.length:=(Qp.mp hx).1;have hqs:=ZeA hsm;have etk:xs.take (i+1)=xs.take i++[x]:=by
    rw[QR hil];rw[Qa hil]at hx;rw[Option.some.inj hx]
   have hstep:Zdx ps (xs.take (i+1))=if x∈qs then some (qs.erase x)else none:=by
    rw[etk,Zbj,hsm];rfl
   have hg:(Xx (gD ks fun y=>(qs.count y:Int)) (Sum.inr x)).getD (.int 0)= .int (qs.count x):=by
    rw[Y8];split
    ·rfl
    ·rename_i c;rw[WG fun q=>c ((hkm _).mpr (hqs _ q))];rfl
   refine⟨_,rfl,d,rfl,.inl ⟨_,.inl hdd⟩,_,rfl,_,DGet.kk (k:=Sum.inr x) hdd,?_⟩;rw[hg];refine⟨rfl,_,rfl,?_⟩;by_cases hm:x∉qs
   ·refine Y3 (Za6 (by rw[WG hm];rfl)) ?_;refine k2 ?_ _ sB;rw[if_neg hm]at hstep;rw[←WD (i+1) xs,Zbj,hstep];rfl
   have hm:=Classical.not_not.mp hm;have hcp:0<qs.count x:=Wp.mpr hm;refine Yu (Zau (by omega)) ?_;have hxk:x∈ks:=(hkm x).mpr (hqs x hm);have dg:DGet H2 d (.str x) (some (.int (qs.count x))):=by
    have:=DGet.kk (k:=Sum.inr x) hdd;rw[Y8,if_pos hxk]at this;exact this
   refine⟨_,rfl,_,rfl,d,_,rfl,dg,_,_,rfl,rfl,_,rfl,_,rfl,d,_,rfl,DPut.kk (k:=Sum.inr x) hdd (by rw[Y9];exact ZF (by omega)),?_⟩;dsimp only;rw[Za7,if_pos hxk];have egd:(gD ks fun y=>if y=x then (qs.count x:Int)-1 else (qs.count y:Int))=gD ks fun y=>((qs.erase x).count y:Int):=ZbW fun y _=>by
    by_cases e:y=x
    ·rw[if_pos e,e,Ry];omega
    ·rw[if_neg e,Rs e]
   rw[egd];refine⟨_,qs.erase x,rfl,Yr sB hdH,Zd,?_⟩;rw[hstep,if_pos hm]
  ·rintro σ H2 ⟨z3,qs,rfl,sB,hdd,hsm⟩;rw[Qc,Wr]at hsm;exact⟨_,rfl,k1 qs hsm d H2 sB hdd⟩
abbrev ZeI:Stmt:=top 60
abbrev Zkc:List Str:=["_law_left_here"]
theorem ZkM:Zp Zkc ["_law_left_here"] (Zg ZeI):=⟨rfl,rfl,rfl,by decide +kernel,rfl,by decide +kernel,by decide +kernel⟩
def Zgq:Sp:=fun vs H Q _=>∃ (d:Addr) (ks:List Str) (g:Str->Int),vs=[.ref d]/\H d=some (.dK (gD ks g))/\ks.length<=63/\(∀ x∈ks,1<=x.length/\x.length<=63)/\∀ q us H',Same H H'->H' q=some (.lst us)->TyN H' us (tiesN ks g)->Q (.ref q) H'
theorem Zhp (D:HasDef K mg "_law_ties" ZeI ["_law_left_here"]) (B:Blt mg):FOk P w K mg base 1 "_law_ties" ["_law_left_here"] Zgq:=by
 refine D.ok ZkM (fun vs H Q E h=>?_) (fun f cdv A outer s H vs Q E hr h=>?_)
 ·obtain⟨d,ks,g,rfl,_⟩:=h;rfl
 ·obtain⟨d,ks,g,rfl,hd,hkl,hkx,k⟩:=h;have hu:=ZaO hr;refine⟨_,(Zi (Zq (Zj7 (ZK (Zg ZeI) Zkc ["_law_piece"] [0] rfl (Zha (pv 0)) (fun _ _ _ _ _=>Z6 0) (fun _ _ _ _ _=>YL (Zt ZbE (YX hu (pv 1) (pv 0) (fun _ _=>rfl)) Zf (Zy _))) (fun _ _ _ _ _=>(Yt (Za (ZC Z4 (pv 0) Z0 (ZE (YV Yg Zf))) (Za (ZC Z4 (pv 0) (ZE Zf) Z0) (Za (YX hu (pv 1) (pv 0) (fun _ _=>rfl)) Zc))))))))),?_⟩;refine⟨d,_,hd,fun o=>?_⟩;have hfz:(upd H d (.frz o (.dK (gD ks g)))) d=some (.frz o (.dK (gD ks g))):=Zd;refine⟨_,rfl,d,o,_,rfl,hfz,ZbP (gD ks g).length (fun i=>((gD ks g).map fun p=>kV p.1).getD i .non) (fun i=>decide (0<g (ks.getD i ""))) (fun i v H'=>∃ b,v= .ref b/\H' b=some (.tup [.str (bg (ks.getD i "")),.str (en (ks.getD i "")),.int (g (ks.getD i ""))])) (Zh (by rw[Y9];omega)) (fun i v H' H'' s' ⟨b,e,r⟩=>⟨b,e,s' _ _ r⟩) (ZhR hfz) ?_ ?_⟩
  ·intro i H9 Qt Qf hi hs ht hf;rw[Y9]at hi;have es1:ks.getD i "" = ks[i]:=by rw[Qb,Qa hi];rfl
   have ek:((gD ks g).map fun p=>kV p.1).getD i .non= .str ks[i]:=by
    unfold gD;rw[QA,Qb,Qg,Qa hi];rfl
   rw[es1]at ht hf;rw[ek];obtain⟨l1,l2⟩:=hkx _ (QB hi);have hgt:DGet H9 d (kV (Sum.inr ks[i])) (some (.int (g ks[i]))):=.inl ⟨_,Sum.inr ks[i],.inr ⟨o,hs _ _ hfz⟩,rfl,by rw[Y8,if_pos (QB hi)]⟩;generalize ks[i]=y at *;refine⟨_,rfl,_,rfl,d,_,rfl,hgt,_,_,rfl,rfl,_,rfl,?_⟩;by_cases c:0<g y
   ·refine Y3 (decide_eq_true c) ?_;refine⟨_,rfl,_,rfl,_,rfl,y,rfl,ZQ (by omega),?_⟩;rw[show(-(1:Int)) = -1 from rfl,JR l1];refine⟨_,rfl,_,rfl,y,rfl,ZQ (by omega),?_⟩;rw[XQ l1];refine⟨_,rfl,_,rfl,d,_,rfl,hgt,Zh (show 3<=1000 by decide),fun r hr=>?_⟩;exact ht (decide_eq_true c) _ _ (Zb hr) ⟨r,rfl,Zd⟩
   ·exact Yu (decide_eq_false c) (hf (decide_eq_false c) _ (Same.refl _))
  intro D2 vs2 H9 hl2 hR9 hs9 hD2 hDl2;refine⟨hs9 _ _ hfz,?_⟩;rw[Y9]at hl2 hR9;have hDd:D2≠d:=fun e=>by rw[e,hfz]at hD2;cases hD2
  have ts:TSame H9 (upd H9 d (.dK (gD ks g))):=fun b xs e=>by
   rw[Zl (fun z=>by rw[z,hs9 _ _ hfz]at e;cases e)];exact e
  have sX:Same H (upd H9 d (.dK (gD ks g))):=fun c u hc=>by
   by_cases e:c=d
   ·rw[e]at hc ⊢;rw[Zd];exact hd.symm.trans hc
   ·rw[Zl e];exact hs9 _ _ (by rw[Zl e];exact hc)
  refine k D2 vs2 _ sX (by rw[Zl hDd];exact hDl2) ?_;have et:tiesN ks g=((Qq ks.length).filter fun i=>decide (0<g (ks.getD i ""))).map fun i=>(bg (ks.getD i ""),en (ks.getD i ""),g (ks.getD i "")):=by
   unfold tiesN;rw[Zh5 (p:=fun x=>decide (0<g x)),QA];rfl
  rw[et];refine⟨by rw[hl2,Qc],fun j t ht=>?_⟩;rw[Qg]at ht;obtain⟨i,hi,rfl⟩:=QS.mp ht;have hj:j<vs2.length:=by rw[hl2];exact(Qp.mp hi).1
  obtain⟨b,e1,e2⟩:=hR9 j i vs2[j] hi (Qa hj);exact⟨b,by rw[Qa hj,e1],ts _ _ e2⟩
end Sh
namespace L2
open PySem PySem.Spec PyProof.Rows PySem.W
theorem ZeW {X:Cx} (hu:X.A.units+64<cLine):OpR X (compareOp .NotEq) (fun x y H Q=>∃ a b xs,x= .ref a/\y= .ref b/\H a=some (.lst xs)/\H b=some (.lst [])/\Q (.bl (!xs.isEmpty)) H):=by
 intro pins s σ H x y v u Q I rx ry h;obtain⟨a,b,xs,rfl,rfl,ha,hb,q⟩:=h;cases rx;cases ry;obtain⟨_,its,n,r,g⟩:=(show ObjOk X.prog X.w H s.heap a (.lst xs)from I.hok a _ ha)
 obtain⟨_,its2,n2,r2,g2⟩:=(show ObjOk X.prog X.w H s.heap b (.lst [])from I.hok b _ hb)
 cases r2;have hl:=r.length;cases xs with
 | nil =>
  cases r;exact SeqAt.RcNeAt.lists (e:=fun _=>true) (items:=#[]) (items2:=#[]) ⟨_,g,rfl,n,rfl⟩ ⟨_,g2,rfl,n2,rfl⟩ rfl (WW (UX _ _) hu) (fun j h1 _=>absurd h1 (R7 _)) X.prog X.w X.xe (EP X pins σ Q) ⟨V.bl _,H,I,rfl,q⟩
 | cons x xs =>
  refine SeqAt.RcNeAt.lists_lengths (items:=its.toArray) (items2:=#[]) ⟨_,g,rfl,n,rfl⟩ ⟨_,g2,rfl,n2,rfl⟩ ?_ (WW (UX _ _) hu) X.prog X.w X.xe (EP X pins σ Q) ⟨V.bl _,H,I,rfl,q⟩;rw[bne_iff_ne];intro e;rw[Qw,←hl]at e;cases e
theorem Zi5 {X:Cx} (hu:X.A.units+64<cLine):OpR X (compareOp .Eq) (fun x y H Q=>∃ a b xs,x= .ref a/\y= .ref b/\H a=some (.lst xs)/\H b=some (.lst [])/\Q (.bl xs.isEmpty) H):=by
 intro pins s σ H x y v u Q I rx ry h;obtain⟨a,b,xs,rfl,rfl,ha,hb,q⟩:=h;cases rx;cases ry;obtain⟨_,its,n,r,g⟩:=(show ObjOk X.prog X.w H s.heap a (.lst xs)from I.hok a _ ha)
 obtain⟨_,its2,n2,r2,g2⟩:=(show ObjOk X.prog X.w H s.heap b (.lst [])from I.hok b _ hb)
 cases r2;have hl:=r.length;cases xs with
 | nil =>
  cases r;exact SeqAt.RcAt.lists (e:=fun _=>true) (items:=#[]) (items2:=#[]) ⟨_,g,rfl,n,rfl⟩ ⟨_,g2,rfl,n2,rfl⟩ rfl (WW (UX _ _) hu) (fun j h1 _=>absurd h1 (R7 _)) X.prog X.w X.xe (EP X pins σ Q) ⟨V.bl _,H,I,rfl,q⟩
 | cons x xs =>
  refine SeqAt.RcAt.lists_lengths (items:=its.toArray) (items2:=#[]) ⟨_,g,rfl,n,rfl⟩ ⟨_,g2,rfl,n2,rfl⟩ ?_ (WW (UX _ _) hu) X.prog X.w X.xe (EP X pins σ Q) ⟨V.bl _,H,I,rfl,q⟩;rw[bne_iff_ne];intro e;rw[Qw,←hl]at e;cases e
end L2
namespace Sh
open PySem L2 PyProof.Rows
variable {P:Program} {w:World} {K:PySem.W.Frag} {mg:Str->Option Value} {base:Heap}
variable {F:List Str} {l:List (Str×Str×Int)}
def tsN (l:List (Str×Str×Int)):Ts:=l.map fun t=>(t.1,t.2.1)
theorem Zlw {t:Str×Str×Int} (h:t∈l):ZiB (tsN l) t.1 t.2.1/\ZiB (tsN l) t.2.1 t.1:=by
 obtain⟨i,hi,e⟩:=WZ h;have hl:(tsN l).length=l.length:=by unfold tsN;rw[Qc]
 have ef:frm (tsN l) i=t.1/\tow (tsN l) i=t.2.1:=by
  unfold frm tow tsN;rw[Qb,Qg,Qa hi,e];exact⟨rfl,rfl⟩
 exact⟨⟨i,by omega,.inl ef⟩,⟨i,by omega,.inr ⟨ef.2,ef.1⟩⟩⟩
theorem ZjJ {P y:Str} (h:ZiB (tsN l) P y):∃ t∈l,(t.1=P/\t.2.1=y)\/(t.2.1=P/\t.1=y):=by
 obtain⟨i,hi,q⟩:=h;have hl:(tsN l).length=l.length:=by unfold tsN;rw[Qc]
 have hi':i<l.length:=by omega
 have ef:frm (tsN l) i=l[i].1/\tow (tsN l) i=l[i].2.1:=by
  unfold frm tow tsN;rw[Qb,Qg,Qa hi'];exact⟨rfl,rfl⟩
 rw[ef.1,ef.2]at q;exact⟨l[i],QB hi',q⟩
structure Come (l:List (Str×Str×Int)) (a:Str) (F:List Str):Prop where
 nd:F.Nodup
 fst:a∈F
 rch:∀ x∈F,RchT (tsN l) a x
 inn:∀ x∈F,x=a\/∃ t∈l,t.1=x\/t.2.1=x
theorem Come.few {a:Str} (h:Come l a F):F.length<=2*l.length+1:=by
 have:=YI h.nd (B:=a::(l.map (·.1)++l.map (·.2.1))) fun x hx=>by
  rcases h.inn x hx with q | ⟨t,ht,q | q⟩
  ·rw[q];exact Qj
  ·exact Ql _ (QM _ (Qi.mpr ⟨t,ht,q⟩))
  ·exact Ql _ (QH _ (Qi.mpr ⟨t,ht,q⟩))
 rw[QG,Qd,Qc,Qc]at this;omega
theorem Come.add {a:Str} (h:Come l a F) {t:Str×Str×Int} (ht:t∈l) (hh:t.1∈F\/t.2.1∈F):Come l a (Yx (Yx F t.1) t.2.1):=by
 obtain⟨a1,a2⟩:=Zlw ht;have r1:RchT (tsN l) a t.1/\RchT (tsN l) a t.2.1:=by
  rcases hh with q | q
  ·exact⟨h.rch _ q,.step (h.rch _ q) a1⟩
  ·exact⟨.step (h.rch _ q) a2,h.rch _ q⟩
 refine⟨JA (JA h.nd),by rw[addK_mem,addK_mem];exact .inl (.inl h.fst),fun x hx=>?_,fun x hx=>?_⟩
 ·rcases addK_mem.mp hx with q | q
  ·rcases addK_mem.mp q with q | q
   ·exact h.rch _ q
   ·rw[q];exact r1.1
  ·rw[q];exact r1.2
 ·rcases addK_mem.mp hx with q | q
  ·rcases addK_mem.mp q with q | q
   ·exact h.inn _ q
   ·exact .inr ⟨t,ht,.inl q.symm⟩
  ·exact .inr ⟨t,ht,.inr q.symm⟩
theorem Come.all {a:Str} (h:Come l a F) (hc:∀ t∈l,(t.1∈F\/t.2.1∈F)->t.1∈F/\t.2.1∈F) (y:Str):y∈F↔RchT (tsN l) a y:=by
 refine⟨h.rch y,fun r=>RchT.closed (F:=fun x=>x∈F) h.fst (fun P hP y ha=>?_) r⟩;obtain⟨t,ht,q | q⟩:=ZjJ ha
 ·rw[←q.2];exact(hc t ht (.inl (by rw[q.1];exact hP))).2
 ·rw[←q.2];exact(hc t ht (.inr (by rw[q.1];exact hP))).1
theorem addK_or' (F:List Str) (x:Str):Yx F x=F\/(Yx F x).length=F.length+1:=by
 unfold Yx;split
 ·exact .inl rfl
 ·exact .inr (by rw[Qd];rfl)
seal L2.PE L2.PS L2.PSs L2.PT L2.PW L2.PA L2.PI L2.PG L2.PGs L2.PO L2.PC L2.PCs L2.OpR L2.UnR L2.CallR L2.MtR L2.IxR L2.SlR
abbrev JU:Stmt:=top 61
abbrev Ze2:List Str:=["_law_ties_here","_law_come","_law_many","_law_here","_law_there","_law_times"]
theorem scLJoined:Zp Ze2 ["_law_ties_here"] (Zg JU):=⟨rfl,rfl,rfl,by decide +kernel,rfl,by decide +kernel,by decide +kernel⟩
def ZeF:Sp:=fun vs H Q _=>∃ (q:Addr) (us:List V) (t0:Str×Str×Int) (l:List (Str×Str×Int)),vs=[.ref q]/\H q=some (.lst us)/\TyN H us (t0::l)/\l.length<=100/\∀ (b:Bool) H',Same H H'->(b=true↔∀ t∈t0::l,RchT (tsN (t0::l)) t0.1 t.1)->Q (.bl b) H'
theorem ZdX (D:HasDef K mg "_law_joined" JU ["_law_ties_here"]) (B:Blt mg):FOk P w K mg base 1 "_law_joined" ["_law_ties_here"] ZeF:=by
 refine D.ok scLJoined (fun vs H Q E h=>?_) (fun f cdv A outer s H vs Q E hr h=>?_)
 ·obtain⟨q,us,t0,l,rfl,_⟩:=h;rfl
 ·obtain⟨q,us,t0,l,rfl,hq,hty,hl,k⟩:=h;have hu:=ZaO hr;refine⟨_,(Ze (Zm (i:=1) scLJoined.nd rfl (.inr rfl) (Zhf (ZeQ (ZB ix_tup (ZB ix_list (pv 0) Zf (fun _ _=>rfl)) Zf (fun _ _=>rfl)) Yf Zg6) rfl rfl (UG _ _) (by decide)))
   (Ze (Zm (i:=2) scLJoined.nd rfl (.inl rfl) Zf)
   (Ze (ZbB PassesOwn.never (Zt Zk1 (pv 2) (Zj Zdb rfl B.len ZX (Za (pv 1) Zc)) (Zy _))
    (Ze (Zm (i:=2) scLJoined.nd rfl (.inl rfl) (Zj Zdb rfl B.len ZX (Za (pv 1) Zc)))
   (Zi (Yi PassesOwn.never rfl (Ym (pv 0)) (Yc 3 K rfl (Zw (ZI (i:=3) scLJoined.nd rfl (.inl rfl)) (Zw (ZI (i:=4) scLJoined.nd rfl (.inl rfl)) (Zw (ZI (i:=5) scLJoined.nd rfl (.inl rfl)) Yb))))
    (Zi (Z2 (PW.pt (Zbz (ZaV (Zhh hu (pv 3) (pv 1))) (Zad (ZaV (Zhh hu (pv 4) (pv 1)))))) (Ze (YK hu (pv 1) (pv 3) Yf rfl)
   (Zi (YK hu (pv 1) (pv 4) Yf rfl))) Zx))))))
   (Zi (Zq (XG (Zi5 hr.units) (ZK (Zg JU) Ze2 ["_law_tie"] [1] rfl (Ym (pv 0)) (fun _ _ _ _ _=>Z6 0) (fun _ _ _ _ _=>YL (ZaV (XW hu (ZB (ZbU K) (pv 0) Zf (fun _ _=>rfl)) (pv 1)))) (fun _ _ _ _ _=>(pv 0))) (ZT Zc) (Zy _))))))),?_⟩
  obtain⟨b0,eb0,hb0⟩:=hty.2 0 t0 rfl;intro d hd;have sd:=Zb (o:=.dK []) hd;refine⟨_,rfl,q,us,0,.ref b0,rfl,rfl,SqL.of (sd _ _ hq),ZS (by decide) eb0,b0,_,0,.str t0.1,rfl,rfl,SqT.of (sd _ _ hb0),rfl,?_⟩;refine⟨Zd,[((Sum.inr t0.1:Key),V.bl true)],rfl,by simp,?_⟩;rw[Jg];have s2:Same H (upd H d (.dK (Xh [] [((Sum.inr t0.1:Key),V.bl true)]))):=Zb hd;have hd2:(upd H d (.dK (Xh [] [((Sum.inr t0.1:Key),V.bl true)]))) d=some (.dK (bD [t0.1])):=Zd;generalize upd H d (.dK (Xh [] [((Sum.inr t0.1:Key),V.bl true)]))=H2 at s2 hd2;have sh:∀ {H4:Hp} (o:HO),Same H H4->Same H (upd H4 d o):=fun o s b u hb=>by
   rw[Zl (Zo hb hd)];exact s b u hb
  have ht0:t0∈t0::l:=Qj;have hll:(t0::l).length<=101:=by rw[QG];omega
  generalize t0::l=ll at hty k ht0 hll
  try dsimp only[XL]
  show Zdm (Zey _ _) _ _ _ _;refine ZdF (fun σ H4=>∃ (F:List Str) (z2 z3 z4 z5:Option V),σ=[some (.ref q),some (.ref d),z2,z3,z4,z5]/\Same H H4/\H4 d=some (.dK (bD F))/\Come ll t0.1 F/\∀ t∈ll,(t.1∈F\/t.2.1∈F)->t.1∈F/\t.2.1∈F) (fun R hR=>?_) ?_
  ·refine⟨fun m σ H4=>∃ (F:List Str) (n:Nat) (z3 z4 z5:Option V),σ=[some (.ref q),some (.ref d),some (.int (n:Int)),z3,z4,z5]/\Same H H4/\H4 d=some (.dK (bD F))/\Come ll t0.1 F/\(n<F.length\/∀ t∈ll,(t.1∈F\/t.2.1∈F)->t.1∈F/\t.2.1∈F)/\m=1000-n,
    ⟨_,[t0.1],0,none,none,none,rfl,s2,hd2,⟨by simp,by simp,(fun x hx=>by rw[Qm.mp hx];exact .here),fun x hx=>.inl (Qm.mp hx)⟩,.inl (by simp),rfl⟩,?_⟩
   rintro m σ H4 ⟨F,n,z3,z4,z5,rfl,s4,hd4,hW,hor,hm⟩;have hle:=hW.few;refine⟨_,rfl,_,rfl,d,_,rfl,hd4,_,_,rfl,rfl,_,rfl,?_⟩;rw[Zdj];by_cases c:¬ n<F.length
   ·exact Yu (decide_eq_false (by omega)) (hR _ _ ⟨F,_,z3,z4,z5,rfl,s4,hd4,hW,hor.resolve_left c⟩)
   have c:=Classical.not_not.mp c;refine Y3 (decide_eq_true (by omega)) ?_;refine⟨_,fun _ _ z=>z,?_⟩;refine⟨_,rfl,d,_,rfl,hd4,?_⟩;rw[Zdj];refine⟨_,rfl,q,rfl,⟨_,SqL.of (s4 _ _ hq)⟩,?_⟩;refine X4 (K:=K) (a:=q) (xs:=us) (fun j σ' H'=>∃ (F':List Str) (z3 z4 z5:Option V),σ'=[some (.ref q),some (.ref d),some (.int (F.length:Int)),z3,z4,z5]/\Same H H'/\H' d=some (.dK (bD F'))/\Come ll t0.1 F'/\(F'=F\/F.length<F'.length)/\(∀ x∈F,x∈F')/\∀ t∈ll.take j,(t.1∈F\/t.2.1∈F)->t.1∈F'/\t.2.1∈F')
    ⟨F,z3,z4,z5,rfl,s4,hd4,hW,.inl rfl,fun x hx=>hx,fun x hx=>by rw[Wz]at hx;cases hx⟩
    (fun i σ' H' _ ⟨_,_,_,_,_,s6,_⟩=>SqL.of (s6 _ _ hq)) ?_ ?_
   ·rintro i x σ' H6 hi ⟨F6,z3',z4',z5',rfl,s6,hd6,hW6,hor6,hsub6,hcl6⟩;have hiv:i<us.length:=(Qp.mp hi).1;have hie:i<ll.length:=by rw[←hty.1];exact hiv
    obtain⟨b,e1,e2⟩:=hty.2 i ll[i] (Qa hie);rw[hi]at e1;cases e1;have het:ll.take (i+1)=ll.take i++[ll[i]]:=QR hie;have hmem:ll[i]∈ll:=QB hie;refine⟨b,_,rfl,SqT.of (s6 _ _ e2),rfl,_,_,rfl,_,_,rfl,_,_,rfl,rfl,?_⟩;generalize ll[i]=y at *;have hle6:=hW6.few;have fin:(y.1∈F6\/y.2.1∈F6)->∃ (F':List Str) (z3 z4 z5:Option V),[some (.ref q),some (.ref d),some (.int (F.length:Int)),some (V.str y.1),some (V.str y.2.1),some (V.int y.2.2)]=[some (.ref q),some (.ref d),some (.int (F.length:Int)),z3,z4,z5]/\Same H (upd H6 d (.dK (bD (Yx (Yx F6 y.1) y.2.1))))/\(upd H6 d (.dK (bD (Yx (Yx F6 y.1) y.2.1)))) d=some (.dK (bD F'))/\Come ll t0.1 F'/\(F'=F\/F.length<F'.length)/\(∀ x∈F,x∈F')/\∀ t∈ll.take (i+1),(t.1∈F\/t.2.1∈F)->t.1∈F'/\t.2.1∈F':=fun hh=>by
     refine⟨_,_,_,_,rfl,sh _ s6,Zd,hW6.add hmem hh,?_,fun x hx=>by rw[addK_mem,addK_mem];exact .inl (.inl (hsub6 x hx)),fun t ht ht2=>?_⟩
     ·rcases addK_or' F6 y.1 with h1 | h1 <;> rcases addK_or' (Yx F6 y.1) y.2.1 with h2 | h2
      ·rw[h2,h1];exact hor6
      ·right
       rcases hor6 with z | z
       ·rw[h2,h1,z];omega
       ·rw[h2,h1];omega
      ·right
       rcases hor6 with z | z
       ·rw[h2,h1,z];omega
       ·rw[h2,h1];omega
      ·right
       rcases hor6 with z | z
       ·rw[h2,h1,z];omega
       ·rw[h2,h1];omega
     ·rw[het]at ht;rcases QF.mp ht with z | z
      ·have:=hcl6 t z ht2;exact⟨by rw[addK_mem,addK_mem];exact .inl (.inl this.1),by rw[addK_mem,addK_mem];exact .inl (.inl this.2)⟩
      ·rw[Qm.mp z];exact⟨by rw[addK_mem,addK_mem];exact .inl (.inr rfl),by rw[addK_mem];exact .inr rfl⟩
    have dputs:(bD F6).length<sizeLine:=by rw[Zdj];exact ZF (by omega)
    have hal:=Y7 F6 y.1;have dputs2:(bD (Yx F6 y.1)).length<sizeLine:=by rw[Zdj];exact ZF (by omega)
    refine⟨_,rfl,_,rfl,d,_,rfl,DGet.kk (k:=Sum.inr y.1) hd6,?_⟩;rw[Zdh];by_cases c1:y.1∈F6
    ·rw[if_pos c1];refine⟨_,rfl,Y3 rfl (Y3 rfl ?_)⟩;refine⟨_,rfl,_,rfl,d,_,rfl,DPut.kk (k:=Sum.inr y.1) hd6 dputs,?_⟩;rw[Zdi];refine⟨_,rfl,_,rfl,d,_,rfl,DPut.kk (k:=Sum.inr y.2.1) Zd dputs2,?_⟩;rw[Zdi,Jg];exact fin (.inl c1)
    rw[if_neg c1];refine⟨_,rfl,Yu rfl ⟨_,rfl,_,rfl,d,_,rfl,DGet.kk (k:=Sum.inr y.2.1) hd6,?_⟩⟩;rw[Zdh];by_cases c2:y.2.1∈F6
    ·rw[if_pos c2];refine⟨_,rfl,Y3 rfl ?_⟩;refine⟨_,rfl,_,rfl,d,_,rfl,DPut.kk (k:=Sum.inr y.1) hd6 dputs,?_⟩;rw[Zdi];refine⟨_,rfl,_,rfl,d,_,rfl,DPut.kk (k:=Sum.inr y.2.1) Zd dputs2,?_⟩;rw[Zdi,Jg];exact fin (.inr c2)
    rw[if_neg c2];refine⟨_,rfl,Yu rfl ?_⟩;refine⟨F6,_,_,_,rfl,s6,hd6,hW6,hor6,hsub6,fun t ht ht2=>?_⟩;rw[het]at ht;rcases QF.mp ht with z | z
    ·exact hcl6 t z ht2
    ·rw[Qm.mp z]at ht2;rcases ht2 with r | r
     ·exact absurd (hsub6 _ r) c1
     ·exact absurd (hsub6 _ r) c2
   ·rintro σ' H6 ⟨F6,z3',z4',z5',rfl,s6,hd6,hW6,hor6,hsub6,hcl6⟩;rw[hty.1,Wr]at hcl6;refine⟨1000-F.length,by omega,F6,F.length,_,_,_,rfl,s6,hd6,hW6,?_,rfl⟩;rcases hor6 with r | r
    ·exact .inr (by rw[r]at hcl6 ⊢;exact hcl6)
    ·exact .inl r
  ·rintro σ H4 ⟨F,z2,z3,z4,z5,rfl,s4,hd4,hW,hcl⟩;have hall:=hW.all hcl;refine⟨_,rfl,q,rfl,⟨_,SqL.of (s4 _ _ hq)⟩,ZbQ us.length (fun i=>us.getD i .non) (fun i=>decide ((ll.getD i ("","",0)).1∉F)) (Zh (by rw[hty.1];omega)) (Xi (SqL.of (s4 _ _ hq))) ?_ ?_⟩
   ·intro i H5 Qt Qf hi hs ht hf;have hie:i<ll.length:=by rw[←hty.1];exact hi
    obtain⟨b,e1,e2⟩:=hty.2 i ll[i] (Qa hie);have eg:ll.getD i ("","",0)=ll[i]:=by rw[Qb,Qa hie];rfl
    have eu:us.getD i .non= .ref b:=by rw[Qb,e1];rfl
    rw[eg]at ht hf;rw[eu]at ht ⊢;refine⟨_,rfl,b,_,0,_,rfl,rfl,SqT.of (hs _ _ (s4 _ _ e2)),rfl,_,rfl,d,_,rfl,DGet.kk (k:=Sum.inr ll[i].1) (hs _ _ hd4),?_⟩;rw[Zdh];by_cases c:ll[i].1∈F
    ·rw[if_pos c];exact⟨_,rfl,ZfJ (hf (decide_eq_false fun n=>n c))⟩
    ·rw[if_neg c];exact⟨_,rfl,Zkk ⟨_,rfl,ht (decide_eq_true c)⟩⟩
   ·intro D1 H5 hs hD1 hDl;refine⟨QV _,fun p0 hp0=>?_⟩;have s0:=Zb (o:=.lst []) hp0;refine⟨D1,p0,_,rfl,rfl,s0 _ _ hDl,Zd,?_⟩;refine k _ _ ((s4.trans hs).trans s0) ?_;rw[List.isEmpty_iff,WC,UR];constructor
    ·intro hx t ht;obtain⟨i,hi,e⟩:=WZ ht;have:=hx i (QN.mpr (by rw[hty.1];exact hi));rw[Qb,Qa hi,WL,e]at this;refine(hall t.1).mp (Classical.byContradiction fun n=>this (decide_eq_true n))
    ·intro hx i hi;have hi':i<ll.length:=by rw[←hty.1];exact QN.mp hi
     rw[Qb,Qa hi',WL];have:=(hall _).mpr (hx ll[i] (QB hi'));intro n;exact of_decide_eq_true n this
end Sh
namespace L2
open PySem PySem.Spec PyProof.Rows
theorem Zim {X:Cx} (hc:X.calm=true):CallR X (.builtin "sum") (fun xs H Q=>∃ (a:Addr) (ns:List Int),xs=[.ref a]/\SqL X.K H a (ns.map V.int)/\Q (.int ns.sum) H):=by
 intro pins s σ H xs us Q I r h;obtain⟨a,ns,rfl,hq,q⟩:=h;obtain⟨u,rfl,ru⟩:=Jf r;cases ru;obtain⟨its,rv,pl,hz⟩:=I.list hq;have hl:=rv.length;rw[Qc]at hl;have hlt:a<s.heap.objs.size:=by
  obtain⟨o,n,e,_⟩:=pl;exact Qu e
 refine call_sum_walkG (wpAny_pyIter_list pl.isList ⟨s.heap.objs.size,[s.heap.objs.size,a],[s.heap.objs.size],its.toArray.size,_,_,fun i=>ns.getD i 0,rfl,Walks.list (A:=X.A.in1) (I.ok.hd hc) _ _ (QC hlt) its.toArray,
  ⟨⟨_,Qx _ rfl,rfl,rfl⟩,pl.isList.push _⟩,?_,?_,?_⟩)
 ·intro b hb;show b<(s.heap.push _).objs.size;rw[Um];have:b=s.heap.objs.size\/b=a:=by simpa using hb
  rcases this with z | z
  ·rw[z];exact UF _
  ·rw[z];exact Uz hlt
 ·intro i v hv;have e1:its[i]?=some v:=by simpa using hv
  have hi:i<its.length:=(Qp.mp e1).1;have hb:(ns.map V.int)[i]?=some (.int (ns.getD i 0)):=by
   rw[Qg,Qb];cases e:ns[i]? with
   | none=>exact absurd (UK.mp e) (by omega)
   | some b=>rfl
  obtain⟨u',hu,ru⟩:=rv.get hb;rw[e1]at hu;cases hu;exact ru
 ·intro h' tk t' kk;refine⟨.int ns.sum,H,I.kept fun b o e=>kk b o (by simpa using QC (Qu e)) (Qh _ e),⟨t',?_⟩,q⟩;rw[YU,Q0 (by rw[Qw];omega)]
end L2
namespace Sh
open PySem L2 PyProof.Rows
seal L2.PE L2.PS L2.PSs L2.PT L2.PW L2.PA L2.PI L2.PG L2.PGs L2.PO L2.PC L2.PCs L2.OpR L2.UnR L2.CallR L2.MtR L2.IxR L2.SlR
variable {P:Program} {w:World} {K:PySem.W.Frag} {mg:Str->Option Value} {base:Heap}
variable {H:Hp} {hp:Es} {ks ps qs:List Str} {l:List (Str×Str×Int)} {p:Str} {v:V}
def wb (l:List (Str×Str×Int)) (q:Str):Int:=(l.map fun t=>t.2.2*(dl t.1 q-dl t.2.1 q)).sum
theorem Zf5 (l:List (Str×Str×Int)) (t:Str×Str×Int) (q:Str):wb (l++[t]) q=wb l q+t.2.2*(dl t.1 q-dl t.2.1 q):=by
 unfold wb;rw[Qz,Ue];simp
structure PtN (l:List (Str×Str×Int)) (ks:List Str):Prop where
 nd:ks.Nodup
 mem:∀ q,q∈ks↔∃ t∈l,t.1=q\/t.2.1=q
theorem PtN.step (h:PtN l ks) (t:Str×Str×Int):PtN (l++[t]) (Yx (Yx ks t.1) t.2.1) where
 nd:=JA (JA h.nd)
 mem:=fun q=>by
  rw[addK_mem,addK_mem,h.mem];constructor
  ·rintro((⟨u,hu,e⟩ | e) | e)
   ·exact⟨u,QM _ hu,e⟩
   ·exact⟨t,QH _ (Qm.mpr rfl),.inl e.symm⟩
   ·exact⟨t,QH _ (Qm.mpr rfl),.inr e.symm⟩
  ·rintro⟨u,hu,e⟩;rcases QF.mp hu with r | r
   ·exact .inl (.inl ⟨u,r,e⟩)
   ·rw[Qm.mp r]at e;rcases e with e | e
    ·exact .inl (.inr e.symm)
    ·exact .inr e.symm
theorem PtN.out (h:PtN l ks) {q:Str} (hq:q∉ks):wb l q=0:=by
 have hn:∀ t∈l,t.1≠q/\t.2.1≠q:=fun t ht=>⟨fun e=>hq ((h.mem q).mpr ⟨t,ht,.inl e⟩),fun e=>hq ((h.mem q).mpr ⟨t,ht,.inr e⟩)⟩
 unfold wb;have:∀ m:List (Str×Str×Int),(∀ t∈m,t.1≠q/\t.2.1≠q)->(m.map fun t=>t.2.2*(dl t.1 q-dl t.2.1 q)).sum=0:=fun m=>by
  induction m with
  | nil=>intro _;rfl
  | cons t m ih =>
   intro k;obtain⟨k1,k2⟩:=k t Qj;rw[Qs,Q8,ih fun u hu=>k u (Ql _ hu)];unfold dl;rw[if_neg k1,if_neg k2];simp
 exact this l hn
theorem PtN.few (h:PtN l ks):ks.length<=2*l.length:=by
 have:=YI h.nd (B:=l.map (·.1)++l.map (·.2.1)) fun x hx=>by
  obtain⟨t,ht,q⟩:=(h.mem x).mp hx;rcases q with q | q
  ·exact QM _ (Qi.mpr ⟨t,ht,q⟩)
  ·exact QH _ (Qi.mpr ⟨t,ht,q⟩)
 rw[Qd,Qc,Qc]at this;omega
abbrev ZeK:Stmt:=top 62
abbrev Zke:List Str:=["_law_ties_here","_law_end","_law_more","_law_here","_law_there","_law_times","_law_out"]
theorem scLGoes:Zp Zke ["_law_ties_here","_law_end"] (Zg ZeK):=⟨rfl,rfl,rfl,by decide +kernel,rfl,by decide +kernel,by decide +kernel⟩
def ZjY:Sp:=fun vs H Q _=>∃ (q:Addr) (us:List V) (t0:Str×Str×Int) (l:List (Str×Str×Int)) (e:Option Str),vs=[.ref q,ZeV e]/\H q=some (.lst us)/\TyN H us (t0::l)/\l.length<=100/\∀ (b:Bool) H' ks,Same H H'->PtN (t0::l) ks ->
 (b=true↔sumZ ks (fun p=>Yk (wb (t0::l) p))<=1/\(∀ t∈t0::l,RchT (tsN (t0::l)) t0.1 t.1)/\∀ p,e=some p->p∈ks/\wb (t0::l) p=0-sumZ ks (fun p=>Yk (wb (t0::l) p)))->Q (.bl b) H'
theorem Zhu (D:HasDef K mg "_law_goes" ZeK ["_law_ties_here","_law_end"]) (B:Blt mg) (g5_:FOk P w K mg base 1 "_law_joined" ["_law_ties_here"] ZeF):FOk P w K mg base 2 "_law_goes" ["_law_ties_here","_law_end"] ZjY:=by
 refine D.ok scLGoes (fun vs H Q E h=>?_) (fun f cdv A outer s H vs Q E hr h=>?_)
 ·obtain⟨q,us,t0,l,e,rfl,_⟩:=h;rfl
 ·obtain⟨q,us,t0,l,e,rfl,hq,hty,hl,k⟩:=h;have hu:=ZaO hr;refine⟨_,(Ze (Zm (i:=2) scLGoes.nd rfl (.inr rfl) XV)
   (Ze (Yi PassesOwn.never rfl (Ym (pv 0)) (Yc 3 K rfl (Zw (ZI (i:=3) scLGoes.nd rfl (.inl rfl)) (Zw (ZI (i:=4) scLGoes.nd rfl (.inl rfl)) (Zw (ZI (i:=5) scLGoes.nd rfl (.inl rfl)) Yb))))
    (Ze (YK hu (pv 2) (pv 3) (Zk ZU (YH hu (pv 2) (pv 3) Zf ⟨rfl,rfl,rfl,rfl⟩) (pv 5)) rfl)
   (Zi (YK hu (pv 2) (pv 4) (Zk Ye (YH hu (pv 2) (pv 4) Zf ⟨rfl,rfl,rfl,rfl⟩) (pv 5)) rfl))))
   (Ze (Zm (i:=6) scLGoes.nd rfl (.inl rfl) (Zj (Zim rfl) rfl B.sum Zm5 (Za (Zj7 (ZK (Zg ZeK) Zke ["_law_point"] [2] rfl (Zha (pv 2)) (fun _ _ _ _ _=>Z6 0) (fun _ _ _ _ _=>Yd) (fun _ _ _ _ _=>(Zj (Zio rfl) rfl B.max ZnY (Za Zf (Za (YX hu (pv 1) (pv 0) (fun _ _=>rfl)) Zc)))))) Zc)))
   (Ze (Z2 (PW.pt (Zbz (Zt ZbE (pv 6) Zf (Zy _)) (Zad (Xe (YG (Zv g5_ hr (Za (pv 0) Zc))))))) (Zi (Zq Yf)) Zx)
   (Ze (Z2 (Zt Zkb (pv 1) JE (Zy _)) (Zi (Zq Yf)) Zx)
   (Zi (Zq (ZeT (Zmi (Zhh hu (pv 1) (pv 2))) (ZeS (XG YE (YX hu (pv 2) (pv 1) (fun _ _=>rfl)) (Zk Ye Zf (pv 6)) (Zy _))))))))))),?_⟩
  intro d hd;have s1:=Zb (o:=.dK []) hd;have hll:(t0::l).length<=101:=by rw[QG];omega
  refine⟨_,rfl,q,rfl,⟨_,SqL.of (s1 _ _ hq)⟩,?_⟩;refine X4 (K:=K) (a:=q) (xs:=us) (fun i σ H2=>∃ (z3 z4 z5:Option V) (ks:List Str),σ=[some (.ref q),some (ZeV e),some (.ref d),z3,z4,z5,none]/\Same H H2/\PtN ((t0::l).take i) ks/\H2 d=some (.dK (gD ks (wb ((t0::l).take i)))))
   ⟨none,none,none,[],rfl,s1,⟨Uo,fun q=>by rw[Wz];simp⟩,Zd⟩ (fun i σ H' _ ⟨_,_,_,_,_,s',_⟩=>SqL.of (s' _ _ hq)) ?_ ?_
  ·rintro i x σ H2 hi ⟨z3,z4,z5,ks,rfl,s2,hP,hdd⟩;have hiv:i<us.length:=(Qp.mp hi).1;have hie:i<(t0::l).length:=by rw[←hty.1];exact hiv
   obtain⟨b,e1,e2⟩:=hty.2 i (t0::l)[i] (Qa hie);rw[hi]at e1;cases e1;have het:(t0::l).take (i+1)=(t0::l).take i++[(t0::l)[i]]:=QR hie;have hfew:=hP.few;rw[QP]at hfew;refine⟨b,_,rfl,SqT.of (s2 _ _ e2),rfl,_,_,rfl,_,_,rfl,_,_,rfl,rfl,?_⟩;rw[het];generalize (t0::l)[i]=y at *;have hPs:=hP.step y;have hws:=Zf5 ((t0::l).take i) y;have hout:∀ p,p∉ks->wb ((t0::l).take i) p=0:=fun p hp=>hP.out hp;generalize wb ((t0::l).take i)=g at *;have hg1:=Zfe (ks:=ks) (g:=g) (y:=y.1) fun hp=>hout _ hp;refine⟨_,rfl,d,rfl,.inl ⟨_,.inl hdd⟩,_,rfl,_,DGet.kk (k:=Sum.inr y.1) hdd,_,rfl,_,_,hg1,rfl,_,rfl,_,rfl,d,_,rfl,DPut.kk (k:=Sum.inr y.1) hdd (by rw[Y9];exact ZF (by omega)),?_⟩;dsimp only;rw[Za7];have hal:=Y7 ks y.1;have hdd2:(upd H2 d (.dK (gD (Yx ks y.1) fun x=>if x=y.1 then g y.1+y.2.2 else g x))) d=some (.dK (gD (Yx ks y.1) fun x=>if x=y.1 then g y.1+y.2.2 else g x)):=Zd;have hg2:=Zfe (ks:=Yx ks y.1) (g:=fun x=>if x=y.1 then g y.1+y.2.2 else g x) (y:=y.2.1) fun hp=>by
    rw[addK_mem,not_or]at hp;rw[if_neg hp.2,hout _ hp.1]
   refine⟨_,rfl,d,rfl,.inl ⟨_,.inl hdd2⟩,_,rfl,_,DGet.kk (k:=Sum.inr y.2.1) hdd2,_,rfl,_,_,hg2,rfl,_,rfl,_,rfl,d,_,rfl,DPut.kk (k:=Sum.inr y.2.1) hdd2 (by rw[Y9];exact ZF (by omega)),?_⟩;refine⟨_,_,_,_,rfl,fun c u hc=>?_,hPs,?_⟩
   ·rw[Jg,Zl (Zo hc hd)];exact s2 c u hc
   ·rw[Zd,Za7];refine congrArg (fun l=>some (HO.dK l)) (ZbW fun x _=>?_);rw[hws];by_cases c1:x=y.2.1
    ·rw[if_pos c1,←c1,XM];by_cases c2:x=y.1
     ·rw[if_pos c2,←c2,XM,UZ,Int.mul_zero];omega
     ·rw[if_neg c2,X8 c2,show((0:Int)-1) = -1 from rfl,Int.mul_neg,Rq];omega
    ·rw[if_neg c1,X8 c1];by_cases c2:x=y.1
     ·rw[if_pos c2,←c2,XM,show((1:Int)-0)=1 from rfl,Rq]
     ·rw[if_neg c2,X8 c2,UZ,Int.mul_zero,Int.add_zero]
  ·rintro σ H2 ⟨z3,z4,z5,ks,rfl,s2,hP,hdd⟩;rw[hty.1,Wr]at hP hdd;have hfew:=hP.few;have kk:=fun b H' s' hb=>k b H' ks s' hP hb;generalize wb (t0::l)=g at *;refine⟨d,_,hdd,fun o=>?_⟩;have hfz:(upd H2 d (.frz o (.dK (gD ks g)))) d=some (.frz o (.dK (gD ks g))):=Zd;refine⟨_,rfl,d,o,_,rfl,hfz,YD (gD ks g).length (fun i=>((gD ks g).map fun p=>kV p.1).getD i .non) (fun i v _=>v= .int (Yk (g (ks.getD i "")))) (Zh (by rw[Y9];omega)) (fun _ _ _ _ _ r=>r) (ZhR hfz) ?_ ?_⟩
   ·intro i H9 Qe hi hs kq;rw[Y9]at hi;have es1:ks.getD i "" = ks[i]:=by rw[Qb,Qa hi];rfl
    have ek:((gD ks g).map fun p=>kV p.1).getD i .non= .str ks[i]:=by
     unfold gD;rw[QA,Qb,Qg,Qa hi];rfl
    rw[es1]at kq;rw[ek];have hgt:DGet H9 d (kV (Sum.inr ks[i])) (some (.int (g ks[i]))):=.inl ⟨_,Sum.inr ks[i],.inr ⟨o,hs _ _ hfz⟩,rfl,by rw[Y8,if_pos (QB hi)]⟩;refine⟨_,rfl,_,rfl,d,_,rfl,hgt,_,_,rfl,kq _ _ (Same.refl _) ?_⟩;rfl
   intro D2 vs2 H9 hl2 hR9 hs9 hD2 hDl2;refine⟨hs9 _ _ hfz,?_⟩;rw[Y9]at hl2;have ev:vs2=(ks.map fun x=>Yk (g x)).map V.int:=by
    rw[QA];apply QU;intro i;rw[Qg];by_cases hi:i<ks.length
    ·rw[Qa (by omega),Qa hi,hR9 i _ (Qa (by omega)),Qb,Qa hi];rfl
    ·rw[Qo (by omega),Qo (by omega)];rfl
   rw[ev]at hDl2;have hDd:D2≠d:=fun e=>by rw[e,hfz]at hD2;cases hD2
   have sX:Same H2 (upd H9 d (.dK (gD ks g))):=fun c u hc=>by
    by_cases e:c=d
    ·rw[e]at hc ⊢;rw[Zd];exact hdd.symm.trans hc
    ·rw[Zl e];exact hs9 _ _ (by rw[Zl e];exact hc)
   have hDX:(upd H9 d (.dK (gD ks g))) D2=some (.lst ((ks.map fun x=>Yk (g x)).map V.int)):=by rw[Zl hDd];exact hDl2
   have hdX:(upd H9 d (.dK (gD ks g))) d=some (.dK (gD ks g)):=Zd;generalize upd H9 d (HO.dK (gD ks g))=HX at sX hDX hdX;refine⟨D2,_,rfl,SqL.of hDX,?_⟩;have sHX:=s2.trans sX;have eo:(ks.map fun x=>Yk (g x)).sum=sumZ ks fun p=>Yk (g p):=rfl;rw[eo];generalize sumZ ks (fun p=>Yk (g p))=out at *;refine⟨_,rfl,_,_,rfl,rfl,_,rfl,?_⟩;by_cases c1:1<out
   ·refine Y3 (decide_eq_true c1) (Y3 rfl ?_);exact kk false HX sHX ⟨fun q=>(by cases q),fun q=>absurd q.1 (by omega)⟩
   refine Yu (decide_eq_false c1) ?_;refine⟨_,rfl,q,us,t0,l,rfl,sHX _ _ hq,⟨hty.1,fun i t ht=>?_⟩,hl,fun b HY sY hb=>⟨_,rfl,?_⟩⟩
   ·obtain⟨c,q1,q2⟩:=hty.2 i t ht;exact⟨c,q1,sHX _ _ q2⟩
   have sHY:=sHX.trans sY;cases b with
   | false =>
    refine Y3 rfl ?_;exact kk false HY sHY ⟨fun q=>(by cases q),fun q=>absurd (hb.mpr q.2.1) (by decide)⟩
   | true =>
    refine Yu rfl ?_;have hj:=hb.mp rfl;refine⟨_,rfl,rfl,_,rfl,?_⟩;cases e with
    | none=>exact Y3 (by decide) (kk true HY sHY ⟨fun _=>⟨by omega,hj,fun p hp=>by cases hp⟩,fun _=>rfl⟩)
    | some p =>
     refine Yu (by simp[ZeV]) ?_;have hdY:=sY _ _ hdX;refine⟨_,rfl,_,rfl,d,_,rfl,DGet.kk (k:=Sum.inr p) hdY,?_⟩;rw[Y8];by_cases c2:p∈ks
     ·rw[if_pos c2];refine⟨_,rfl,Zkk ?_⟩;have dg:DGet HY d (.str p) (some (.int (g p))):=by
       have:=DGet.kk (k:=Sum.inr p) hdY;rw[Y8,if_pos c2]at this;exact this
      refine⟨_,rfl,_,rfl,d,_,rfl,dg,_,rfl,_,_,rfl,rfl,rfl,?_⟩;refine kk _ HY sHY ?_;rw[decide_eq_true_eq];constructor
      ·intro q;exact⟨by omega,hj,fun p' hp'=>by cases hp';exact⟨c2,by injection q⟩⟩
      ·intro q;rw[(q.2.2 p rfl).2]
     ·rw[if_neg c2];refine⟨_,rfl,ZfJ ?_⟩;exact kk false HY sHY ⟨fun q=>(by cases q),fun q=>absurd (q.2.2 p rfl).1 c2⟩
def JN (e:Str×Int) (es:Es):Prop:=(∀ e'∈e::es,Rch (e::es) (bg e.1) (bg e'.1))/\∀ ss,SPts (e::es) ss->¬ 1<sm (ups (mo (e::es)) ss)
section
variable {P:Program} {w:World} {K:PySem.W.Frag} {mg:Str->Option Value} {base:Heap} {C C2:Addr} {bm bm2:List Value}
def Zgt:Sp:=fun vs H Q _=>∃ (v:V) (ps:List Str) (e:Str×Int) (es:Es),vs=[v]/\Hv H v ps (e::es)/\RO ps/\∀ (b:Bool) H',Same H H'->(b=true↔JN e es)->Q (.bl b) H'
theorem ZcA (D:HasDef K mg "has_text" Zbx ["H"]) (B:Blt mg) (g26_:FOk P w K mg base 4 "hangs" ["H"] Zgu) (g27_:FOk P w K mg base 4 "has_many_begins" ["H"] Zgo):FOk P w K mg base 5 "has_text" ["H"] Zgt:=by
 refine D.ok ZgF (fun vs H Q E h=>?_) (fun f cdv A outer s H vs Q E hr h=>?_)
 ·obtain⟨v,ps,e,es,rfl,_⟩:=h;rfl
 ·obtain⟨v,ps,e,es,rfl,hV,hR,k⟩:=h;refine⟨_,(Zi (Zq (ZeT (Zv g26_ hr (Za (pv 0) Zc)) (ZeS (Zhd (Zv g27_ hr (Za (pv 0) Zc))))))),?_⟩;have hF:=hR.fine hV.of;refine⟨_,rfl,v,e,es,rfl,ZiA hV.at_,hF,fun H1 b s1 hb=>⟨b,rfl,?_⟩⟩;cases b with
  | false=>exact ZfJ (k false H1 s1 ⟨fun q=>(by cases q),fun q=>absurd (hb.mpr q.1) (by decide)⟩)
  | true =>
   refine Zkk ?_;refine⟨_,rfl,v,e::es,rfl,ZiA (hV.same s1).at_,hF,fun H2 ss s2 hS=>⟨_,rfl,k _ _ (s1.trans s2) ?_⟩⟩;rw[Bool.not_eq_true',decide_eq_false_iff_not];constructor
   ·intro q;exact⟨hb.mp rfl,fun ss' hS'=>by rw[ZeD hS' hS];exact q⟩
   ·intro q;exact q.2 ss hS
abbrev XF:Stmt:=top 41
abbrev Zd2:List Str:=["H","piece"]
theorem Zci:Zp Zd2 ["H","piece"] (Zg XF):=⟨rfl,rfl,rfl,by decide +kernel,rfl,by decide +kernel,by decide +kernel⟩
def ZeG (C C2:Addr):Sp:=fun vs H Q E=>∃ (v:V) (ps:List Str) (e:Str×Int) (es:Es) (p:Str),vs=[v,.str p]/\Hv H v ps (e::es)/\RO ps /\
 ((p∉ps/\∀ H',Same H H'->E (.ref C) none H')\/(p∈ps/\¬ JN e es/\∀ H',Same H H'->E (.ref C2) none H')\/(p∈ps/\JN e es/\∀ H',Same H H'->Q .non H'))
theorem Zak (D:HasDef K mg "check_piece" XF ["H","piece"]) (B:Blt mg) (c1:XCls K mg "NoPiece" C bm) (c2:XCls K mg "NoTexts" C2 bm2) (g28_:FOk P w K mg base 5 "has_text" ["H"] Zgt):FOkX P w K mg base 6 "check_piece" ["H","piece"] (ZeG C C2):=by
 refine D.okX Zci (fun vs H Q E h=>?_) (fun f cdv A outer s vs H Q E L hr h=>?_)
 ·obtain⟨v,ps,e,es,p,rfl,_⟩:=h;rfl
 ·obtain⟨v,ps,e,es,p,rfl,hV,hR,h⟩:=h;have hu:=ZaO hr;refine⟨_,(Ze (Z2 (ZaV (XW hu (pv 1) (ZJ (XN rfl) rfl B.dict Zit (Za (pv 0) Zc)))) (Zi (ZbC L c1 rfl (Za ZY Zc))) Zx)
   (Zi (Z2 (Xe (YG (Zv g28_ hr (Za (pv 0) Zc)))) (Zi (ZbC L c2 rfl (Za ZY Zc))) Zx))),?_⟩
  have one:(1:Nat)<=sizeLine:=by rw[sizeLine_eq];decide
  obtain⟨hp,ehp⟩:∃ hp,hp=e::es:=⟨_,rfl⟩
  have hV':Hv H v ps hp:=by rw[ehp];exact hV
  obtain⟨a,xs,rfl,ha,hlx,hq⟩:=Y4 hV'.at_;refine⟨_,rfl,_,rfl,a,xs,hp.map fun p=>((Sum.inr p.1:Key),V.int p.2),rfl,.inr ha,by rw[Qc];exact hlx,fun i q e=>?_,?_,fun d hd=>?_⟩
  ·rw[Qg]at e;cases ep:hp[i]? with
   | none=>rw[ep]at e;cases e
   | some p=>rw[ep]at e;cases e;exact hq i p ep
  ·rw[Jv hV'.of];exact ZbS (XJ hV'.of)
  rw[Jv hV'.of];have sd:=Zb (o:=.dK (gD (hp.map (·.1)) fun x=>(ps.count x:Int))) hd;refine⟨d,_,rfl,DGet.kk (k:=Sum.inr p) Zd,_,rfl,?_⟩;rw[Y8];rcases h with ⟨hm,kE⟩ | h
  ·rw[if_neg fun q=>hm ((hV'.of.mem p).mp q)];exact Zkk ⟨one,kE _ sd⟩
  have hm:p∈ps:=h.elim (·.1) (·.1);rw[if_pos ((hV'.of.mem p).mpr hm)];refine ZfJ ?_;refine⟨_,rfl,_,ps,e,es,rfl,hV.same sd,hR,fun b H2 s2 hb=>⟨_,rfl,?_⟩⟩;rcases h with ⟨_,hn,kE⟩ | ⟨_,ht,kQ⟩
  ·have:b=false:=by
    cases b with
    | false=>rfl
    | true=>exact absurd (hb.mp rfl) hn
   subst this;exact Zkk ⟨one,kE _ (sd.trans s2)⟩
  ·have:b=true:=hb.mpr ht;subst this;exact ZfJ (kQ _ (sd.trans s2))
end
theorem ZlK {e:Str×Int} {es:Es} {L:Nat} {z:List Nat} (h:Tx ps L z) (hO:Zu ps (e::es)):JN e es:=by
 refine⟨fun e' he'=>?_,fun ss hS=>Zdu h hO hS⟩;obtain⟨b0,hr0⟩:=Zfu h hO;exact Zmb (ZbV hO) ((hr0 e Qj).symm'.trans' (hr0 e' he'))
section
variable {P:Program} {w:World} {K:PySem.W.Frag} {mg:Str->Option Value} {base:Heap} {C C2:Addr}
abbrev Zac:Stmt:=top 42
abbrev ZhE:List Str:=["H","piece"]
theorem Zfx:Zp ZhE ["H","piece"] (Zg Zac):=⟨rfl,rfl,rfl,by decide +kernel,rfl,by decide +kernel,by decide +kernel⟩
def J0 (C C2:Addr):Sp:=fun vs H Q E=>∃ (v:V) (ps:List Str) (e:Str×Int) (es:Es) (p:Str),vs=[v,.str p]/\Hv H v ps (e::es)/\RO ps /\
 ((p∉ps/\∀ H',Same H H'->E (.ref C) none H')\/(p∈ps/\¬ JN e es/\∀ H',Same H H'->E (.ref C2) none H')\/(p∈ps/\JN e es/\∀ v' H',Same H H'->TupR H' v' (sb ps p)->Q v' H'))
theorem ZbF (D:HasDef K mg "behind_of" Zac ["H","piece"]) (g24_:FOkX P w K mg base 7 "check_piece" ["H","piece"] (ZeG C C2)) (g37_:FOk P w K mg base 7 "signs_behind" ["H","piece"] Znv):FOkX P w K mg base 8 "behind_of" ["H","piece"] (J0 C C2):=by
 refine D.okX Zfx (fun vs H Q E h=>?_) (fun f cdv A outer s vs H Q E L hr h=>?_)
 ·obtain⟨v,ps,e,es,p,rfl,_⟩:=h;rfl
 ·obtain⟨v,ps,e,es,p,rfl,hV,hR,h⟩:=h;refine⟨_,(Ze (Z8 (Zhe g24_ L hr (Za (pv 0) (Za (pv 1) Zc))))
   (Zi (Zq (Zv g37_ hr (Za (pv 0) (Za (pv 1) Zc)))))),?_⟩
  refine⟨_,rfl,_,rfl,v,ps,e,es,p,rfl,hV,hR,?_⟩;rcases h with ⟨hm,kE⟩ | ⟨hm,hn,kE⟩ | ⟨hm,ht,kQ⟩
  ·exact .inl ⟨hm,kE⟩
  ·exact .inr (.inl ⟨hm,hn,kE⟩)
  ·refine .inr (.inr ⟨hm,ht,fun H1 s1=>?_⟩);exact⟨_,rfl,_,rfl,v,ps,_,p,rfl,hV.same s1,hR,hm,fun v' H2 s2 hr2=>kQ v' H2 (s1.trans s2) hr2⟩
def Zbp (C C2:Addr):Sp:=fun vs H Q E=>∃ (v:V) (ps:List Str) (e:Str×Int) (es:Es) (p:Str),vs=[v,.str p]/\Hv H v ps (e::es)/\RO ps /\
 ((p∉ps/\∀ H',Same H H'->E (.ref C) none H')\/(p∈ps/\¬ JN e es/\∀ H',Same H H'->E (.ref C2) none H')\/(p∈ps/\JN e es/\∃ (L:Nat) (z:List Nat),Tx ps L z/\∀ v' H',Same H H'->TupR H' v' ((sb (ps.map rv) (rv p)).map fun r=>(r.1,rv r.2))->Q v' H'))
theorem ZcE (D:HasDef K mg "ahead_of" JW ["H","piece"]) (B:Blt mg) (g24_:FOkX P w K mg base 7 "check_piece" ["H","piece"] (ZeG C C2)) (g37_:FOk P w K mg base 7 "signs_behind" ["H","piece"] Znv) (g20_:FOk P w K mg base 7 "backwards" ["H"] Zj0):FOkX P w K mg base 8 "ahead_of" ["H","piece"] (Zbp C C2):=by
 refine D.okX ZgI (fun vs H Q E h=>?_) (fun f cdv A outer s vs H Q E Lv hr h=>?_)
 ·obtain⟨v,ps,e0,es0,p,rfl,_⟩:=h;rfl
 ·obtain⟨v,ps,e0,es0,p,rfl,hV,hR,h⟩:=h;refine⟨_,(Ze (Z8 (Zhe g24_ Lv hr (Za (pv 0) (Za (pv 1) Zc))))
   (Zi (Zq (ZJ ZH rfl B.tuple Yo (Za (ZK (Zg JW) Ze4 ["sign","text"] [] rfl (Yy (Zv g37_ hr (Za (Zv g20_ hr (Za (pv 0) Zc)) (Za (ZdN (pv 1) (YV Yg Zf)) Zc)))) (fun _ _ _ _ _=>Yc 2 K rfl (Zw (Z6 0) (Zw (Z6 1) Yb))) (fun _ _ _ _ _=>Yd) (fun _ _ _ _ _=>(Yt (Za (pv 0) (Za (ZdN (pv 1) (YV Yg Zf)) Zc))))) Zc))))),?_⟩
  refine⟨_,rfl,_,rfl,v,ps,e0,es0,p,rfl,hV,hR,?_⟩;rcases h with ⟨hm,kE⟩ | ⟨hm,hn,kE⟩ | ⟨hm,ht,L,z,hT,k⟩
  ·exact .inl ⟨hm,kE⟩
  ·exact .inr (.inl ⟨hm,hn,kE⟩)
  refine .inr (.inr ⟨hm,ht,fun H1 s1=>?_⟩);have l2:=(hR.one p hm).2.1;refine⟨_,rfl,v,ps,e0::es0,rfl,hV.same s1,hR,fun v2 H2 hp2 s2 hV2=>?_⟩;have hm2:rv p∈ps.map rv:=Qi.mpr ⟨p,hm,rfl⟩;refine⟨_,rfl,_,rfl,p,rfl,ZQ (by omega),rfl,v2,ps.map rv,hp2,rv p,rfl,hV2,hT.rev.ro,hm2,fun v3 H3 s3 hrr=>?_⟩;obtain⟨q,us,rfl,hq,hrs⟩:=hrr;have hbl:=Zl6 hT.rev.ro hm2;have hsl:(sb (ps.map rv) (rv p)).length<=1000:=by
   have h1:(sb (ps.map rv) (rv p)).length<=(YC (ps.map rv) (rv p)).length:=Rl _ _;obtain⟨hp1,hO1⟩:=Yj ((ps.map rv).erase (rv p));have h2:(YC (ps.map rv) (rv p)).length<=hp1.length+1:=by
    unfold YC nxt;rw[Yl hO1,QG,Qc,Qc];have:=Q7 (fun e:Str×Int=>decide (bg e.1=en (rv p))) hp1;omega
   have:=Z3 hO1;have:=(hT.rev.ro.erase (rv p)).len;omega
  generalize sb (ps.map rv) (rv p)=rs at *;refine⟨q,rfl,⟨_,SqT.of hq⟩,YD us.length (fun i=>us.getD i .non) (fun i v H'=>∃ b,v= .ref b/\H' b=some (.tup [.str (rs.getD i ("","")).1,.str (rv (rs.getD i ("","")).2)])) (Zh (by rw[hrs.1];omega)) (fun i v H' H'' s' ⟨b,e,r⟩=>⟨b,e,s' _ _ r⟩) (Xz (SqT.of hq)) ?_ ?_⟩
  ·intro i H5 Qe hi hs kq;have hie:i<rs.length:=by rw[←hrs.1];exact hi
   obtain⟨b,e1,e2⟩:=hrs.2 i rs[i] (Qa hie);have eu:us.getD i .non= .ref b:=by rw[Qb,e1];rfl
   have eh:rs.getD i ("","")=rs[i]:=by rw[Qb,Qa hie];rfl
   have hb:=hbl rs[i] (QB hie);rw[eh]at kq;rw[eu];refine⟨b,_,rfl,SqT.of (hs _ _ e2),rfl,_,_,rfl,_,_,rfl,rfl,?_⟩;refine⟨_,rfl,_,rfl,_,rfl,rs[i].2,rfl,ZQ hb,rfl,Zh (show 2<=1000 by decide),fun t ht=>?_⟩;exact kq _ _ (Zb ht) ⟨t,rfl,Zd⟩
  intro D1 vs1 H5 hl1 hr1 hs1 hD1 hDl1;refine⟨D1,_,rfl,.inl ⟨SqL.of hDl1,fun d hd=>?_⟩⟩;have s6:=Zb (o:=.tup vs1) hd;refine k _ _ ((((s1.trans s2).trans s3).trans hs1).trans s6) ⟨d,vs1,rfl,Zd,by rw[hl1,hrs.1,Qc],fun i r he=>?_⟩;rw[Qg]at he;obtain⟨x,hx,rfl⟩:=QS.mp he;have hie:i<rs.length:=(Qp.mp hx).1;have hiv:i<vs1.length:=by rw[hl1,hrs.1];exact hie
  obtain⟨b,e1,e2⟩:=hr1 i vs1[i] (Qa hiv);rw[Qb,hx,WL]at e2;exact⟨b,by rw[Qa hiv,e1],s6 _ _ e2⟩
end
theorem Zjv (hO:Zu ps hp) (hs:∀ y∈qs,y∈ps):Zu qs (((hp.map (·.1)).filter fun x=>decide (0<(qs.count x:Int))).map fun x=>(x,(qs.count x:Int))) where
 srt:=by
  have h2:((hp.map (·.1)).map fun x=>x.cps.toList).Pairwise (· < ·):=by rw[QA];exact hO.srt
  rw[QA];exact QY.mpr ((QY.mp h2).sublist List.filter_sublist)
 mem:=fun x=>by
  rw[QA];constructor
  ·intro h;obtain⟨y,hy,e⟩:=Qi.mp h;have e':y=x:=e;subst e';have:=of_decide_eq_true (QD.mp hy).2;exact Wp.mp (by omega)
  ·intro h;refine Qi.mpr ⟨x,QD.mpr ⟨(hO.mem x).mpr (hs x h),decide_eq_true ?_⟩,rfl⟩;have:=Wp.mpr h;omega
 cnt:=fun p hp=>by
  obtain⟨y,_,rfl⟩:=Qi.mp hp;rfl
theorem Zkv (ks:List Str) (g:Str->Int) (q:Str):wb (tiesN ks g) q=mo ((ks.filter fun x=>decide (0<g x)).map fun x=>(x,g x)) q:=by
 unfold wb tiesN mo;rw[QA,QA];congr 1;refine Q3 fun x _=>?_;show g x*(dl (bg x) q-dl (en x) q)=mo1 (x,g x) q;unfold mo1;rw[Int.mul_sub];rfl
theorem ZgX {ts us:Ts} (h:∀ t∈ts,t∈us) {a b:Str} (r:RchT ts a b):RchT us a b:=by
 induction r with
 | here=>exact .here
 | step _ k ih =>
  refine .step ih ?_;obtain⟨i,hi,q⟩:=k;obtain⟨j,hj,e⟩:=WZ (h ts[i] (QB hi));have e1:frm us j=frm ts i/\tow us j=tow ts i:=by
   unfold frm tow;rw[Qb,Qa hj,Qb,Qa hi,e];exact⟨rfl,rfl⟩
  exact⟨j,hj,by rw[e1.1,e1.2];exact q⟩
theorem Zof {us:Ts} (hm:∀ u,u∈us↔u∈tsN l) (h:PtN l ks):Kp us ks where
 nd:=h.nd
 mem:=fun q=>by
  rw[h.mem];constructor
  ·rintro⟨t,ht,e⟩;obtain⟨i,hi,ei⟩:=WZ ((hm (t.1,t.2.1)).mpr (Qi.mpr ⟨t,ht,rfl⟩));refine⟨i,hi,?_⟩;unfold frm tow;rw[Qb,Qa hi,ei];exact e
  ·rintro⟨i,hi,e⟩;obtain⟨t,ht,et⟩:=Qi.mp ((hm us[i]).mp (QB hi));refine⟨t,ht,?_⟩;unfold frm tow at e;rw[Qb,Qa hi,←et]at e;exact e
theorem Zeu {hp2:Es} (hO:Zu ps hp) (hs:∀ y∈qs,y∈ps) (hO2:Zu qs hp2) (u:Str×Str):u∈(ZA hp2).map be↔u∈tsN (tiesN (hp.map (·.1)) fun x=>(qs.count x:Int)):=by
 unfold tsN tiesN;rw[QA];constructor
 ·intro h;obtain⟨x,hx,e⟩:=Qi.mp h;have hq:=(ZP hO2).mem_iff.mp hx;refine Qi.mpr ⟨x,QD.mpr ⟨(hO.mem x).mpr (hs x hq),decide_eq_true ?_⟩,e⟩;have:=Wp.mpr hq;show(0:Int)<(qs.count x:Int);omega
 ·intro h;obtain⟨x,hx,e⟩:=Qi.mp h;have:(0:Int)<(qs.count x:Int):=of_decide_eq_true (QD.mp hx).2;exact Qi.mpr ⟨x,(ZP hO2).mem_iff.mpr (Wp.mp (by omega)),e⟩
theorem Zgc {hp2:Es} (hO:Zu ps hp) (hs:∀ y∈qs,y∈ps) (hO2:Zu qs hp2) (q:Str):wb (tiesN (hp.map (·.1)) fun x=>(qs.count x:Int)) q=moT ((ZA hp2).map be) q:=by
 rw[Zkv];have e:=X3 (Zjv hO hs) hO2;rw[e];exact(Zle (fun e he=>by have:=ZbV hO2 e he;omega) q).symm
theorem Zgd (hO:Zu ps hp) (hs:∀ y∈qs,y∈ps) (h:(tiesN (hp.map (·.1)) fun x=>(qs.count x:Int))=[]):qs=[]:=by
 cases qs with
 | nil=>rfl
 | cons x qs =>
  exfalso;have:x∈(hp.map (·.1)).filter fun y=>decide (0<((x::qs).count y:Int)):=QD.mpr ⟨(hO.mem x).mpr (hs x Qj),decide_eq_true (by have:0<(x::qs).count x:=Wp.mpr Qj;omega)⟩;unfold tiesN at h;rw[WC]at h;rw[h]at this;cases this
theorem Zlu {y s:Str} (h:s.length=1):bg (y++s)=y/\lc (y++s)=s:=by
 obtain⟨a,rfl⟩:∃ a,y=tx a:=⟨_,(tx_eta y).symm⟩
 obtain⟨b,rfl⟩:∃ b,s=tx b:=⟨_,(tx_eta s).symm⟩
 rw[Zn]at h;obtain⟨c,rfl⟩:=Ru.mp h;rw[Z7];constructor
 ·unfold bg;rw[Zs,Uk]
 ·rw[ZcO (by rw[Zn,Qd];show 1<=a.length+1;omega)];unfold lst;rw[Zs,List.getLastD_concat]
section
variable {ps:List Str} {L:Nat} {z:List Nat} {p a:Str} {hp:Es} {ks:List Str}
theorem Zf0 (h:Tx ps L z) (hO:Zu ps hp) (hm:p∈ps) {s:Str} (hs:s.length=1) (ho:en p++s∈ps.erase p) (el:l=(tiesN (hp.map (·.1)) fun x=>(((ps.erase p).erase (en p++s)).count x:Int))++[(bg p,en (en p++s),1)])
  (hP:PtN l ks) (h1:sumZ ks (fun q=>Yk (wb l q))<=1) (h2:∀ t∈l,RchT (tsN l) a t.1):s∈(sb ps p).map Prod.fst:=by
 obtain⟨ss,hS⟩:=JZ hp;obtain⟨hp1,hO1⟩:=Yj (ps.erase p);obtain⟨hb,hlc⟩:=Zlu (y:=en p) hs;generalize ho':en p++s=o at *;obtain⟨hp2,hO2⟩:=Yj ((ps.erase p).erase o);have hsub:∀ y∈(ps.erase p).erase o,y∈ps:=fun y hy=>We (We hy);have hmem:∀ u,u∈(ZA hp2).map be++[(bg p,en o)]↔u∈tsN l:=fun u=>by
  rw[el];unfold tsN;rw[Qz,QF,QF,Zeu hO hsub hO2 u];rfl
 have hwb:∀ q,wb l q=moT ((ZA hp2).map be++[(bg p,en o)]) q:=fun q=>by
  rw[el,Zf5,Zgc hO hsub hO2,YY,YY,Qz,Zbg];congr 1;show(1:Int)*(dl (bg p) q-dl (en o) q)=bl (bg p,en o) q+0;unfold bl;simp only;omega
 have hlast:(bg p,en o,(1:Int))∈l:=by rw[el];exact QH _ (Qm.mpr rfl)
 have hr:∀ q∈ks,RchT ((ZA hp2).map be++[(bg p,en o)]) (bg p) q:=fun q hq=>by
  refine ZgX (fun t ht=>(hmem t).mpr ht) ?_;have hb0:=(h2 _ hlast).symm';obtain⟨t,ht,e⟩:=(hP.mem q).mp hq;rcases e with e | e
  ·rw[←e];exact hb0.trans' (h2 t ht)
  ·rw[←e];exact .step (hb0.trans' (h2 t ht)) (Zlw ht).1
 have g:ZaG ((ZA hp2).map be++[(bg p,en o)]) (stF ps (bg p)):=by
  refine Zf3 hO hS hO2 hm ho hb (Zof hmem hP) ?_ hr ((hP.mem _).mpr ⟨_,hlast,.inl rfl⟩) fun q _ hq0=>?_
  ·have:(fun q=>Yk (moT ((ZA hp2).map be++[(bg p,en o)]) q))=fun q=>Yk (wb l q):=funext fun q=>by rw[hwb]
   rw[this];exact h1
  ·refine Classical.byContradiction fun n=>?_;have:=hP.out n;rw[hwb,Zf1 hO hO2 hm ho hb]at this;omega
 obtain⟨x,hx,ex⟩:=Qi.mp ((hO1.mem o).mpr ho);have gw:ZaG (tsT (Je ps p s)) (stF ps (bg p)):=by
  unfold Je;rw[ho',Yl hO2,Jh];exact g
 refine ZiV (Ql _ (Qi.mpr ⟨(s,x.2),?_,rfl⟩)) (show ZaH ps p s=_ from Xc gw);unfold nxt;rw[Yl hO1];refine Qi.mpr ⟨x,QD.mpr ⟨hx,decide_eq_true ?_⟩,by rw[ex,hlc]⟩;rw[ex,hb]
theorem ZjB (h:Tx ps L z) (hO:Zu ps hp) (hm:p∈ps) (el:l=tiesN (hp.map (·.1)) fun x=>((ps.erase p).count x:Int)) (ha:a∈ks)
  (hP:PtN l ks) (h1:sumZ ks (fun q=>Yk (wb l q))<=1) (h2:∀ t∈l,RchT (tsN l) a t.1) (h3:bg p∈ks/\wb l (bg p)=0-sumZ ks (fun q=>Yk (wb l q))):("" : Str)∈(sb ps p).map Prod.fst:=by
 obtain⟨ss,hS⟩:=JZ hp;obtain⟨hp1,hO1⟩:=Yj (ps.erase p);have hsub:∀ y∈ps.erase p,y∈ps:=fun y hy=>We hy;have hmem:∀ u,u∈(ZA hp1).map be↔u∈tsN l:=fun u=>by rw[el];exact Zeu hO hsub hO1 u
 have hwb:∀ q,wb l q=moT ((ZA hp1).map be) q:=fun q=>by rw[el];exact Zgc hO hsub hO1 q
 have ef:(fun q=>Yk (moT ((ZA hp1).map be) q))=fun q=>Yk (wb l q):=funext fun q=>by rw[hwb]
 have g:ZaG ((ZA hp1).map be++[(bg p,p)]) (stF ps (en p)):=by
  refine ZjD hO hS hO1 hm (Zof hmem hP) (by rw[ef];exact h1) h3.1 (by rw[ef,←hwb];exact h3.2) ha fun q hq=>?_;refine ZgX (fun t ht=>(hmem t).mpr ht) ?_;obtain⟨t,ht,e⟩:=(hP.mem q).mp hq;rcases e with e | e
  ·rw[←e];exact h2 t ht
  ·rw[←e];exact .step (h2 t ht) (Zlw ht).1
 have gw:ZaG (tsT (ZfT ps p)) (stF ps (en p)):=by
  unfold ZfT;rw[Yl hO1,Jh];exact g
 exact ZiV Qj (show ZjE ps p=_ from Xc gw)
theorem Zi6 (h:Tx ps L z) (hm:p∈ps) (he:ps.erase p=[]):("" : Str)∈(sb ps p).map Prod.fst:=by
 have hl:=h.pm.length_eq;rw[ZM]at hl;have:=Wh hm;rw[he,Uu]at this;have hp0:0<ps.length:=Wo hm;obtain⟨i,hi,e⟩:=h.at hm;have:=Zet h hi e;have es:sg z L i = "":=by
  unfold sg;rw[Ux (by omega)];rfl
 rw[es]at this;exact this
end
theorem Zlp {x:Str} {g:TG} {tb:TS} {D:Zdo} {σ:L2.St} (Pv:Nat->L2.St->Hp->Prop) (h0:Pv 0 σ H)
  (hs:∀ i σ H,i<x.cps.size->Pv i σ H->g (.str ⟨#[x.cps.getD i 0]⟩) σ H fun σ2 H2=>tb {D with nx:=Pv (i+1),ct:=Pv (i+1),bk:=D.nx} σ2 H2) (hd:∀ σ H,Pv x.cps.size σ H->D.nx σ H) :
  ∃ W:Nat->Nat->L2.St->Hp->Prop,(∃ m,W 0 m σ H)/\∀ i m σ H,W i m σ H ->
   ((Its x).stop i H/\D.nx σ H)\/((Its x).go i H/\∃ N:L2.St->Hp->Prop,(∀ σ' H',N σ' H'->∃ m',m'<m/\W (i+1) m' σ' H')/\∀ y H',(Its x).yld i H y H'->g y σ H' fun σ2 H2=>tb {D with nx:=N,ct:=N,bk:=D.nx} σ2 H2):=by
 refine⟨fun i m σ H=>m=x.cps.size-i/\i<=x.cps.size/\Pv i σ H,⟨x.cps.size,by simp,QV _,h0⟩,?_⟩;rintro i m σ H ⟨rfl,hi,p⟩;by_cases hlt:i<x.cps.size
 ·refine .inr ⟨hlt,Pv (i+1),fun σ' H' p'=>⟨x.cps.size-(i+1),by omega,rfl,hlt,p'⟩,fun y H' q=>?_⟩;obtain⟨e,q⟩:=q;subst e q;exact hs i σ _ hlt p
 ·have e:i=x.cps.size:=by omega
  subst e;exact .inl ⟨Qk _,hd σ H p⟩
theorem ZfM (y:Str) (ps:List Str):inV (.str y) (ps.map V.str)=decide (y∈ps):=by
 unfold inV;rw[WX,UU,decide_eq_true_eq];constructor
 ·rintro⟨v,hv,e⟩;obtain⟨p,hp,rfl⟩:=Qi.mp hv;have:p=y:=by first | exact of_decide_eq_true e | exact(of_decide_eq_true e).symm
  rw[←this];exact hp
 ·intro h;exact⟨.str y,U3 h,decide_eq_true rfl⟩
theorem Znt {o:Str} (h:Zdx ps [p,o]=some qs):o∈ps.erase p/\qs=(ps.erase p).erase o:=by
 have h':(if p∈ps then (if o∈ps.erase p then some ((ps.erase p).erase o)else none)else none)=some qs:=h;by_cases c:p∈ps
 ·rw[if_pos c]at h';by_cases d:o∈ps.erase p
  ·rw[if_pos d]at h';exact⟨d,(Option.some.inj h').symm⟩
  ·rw[if_neg d]at h';cases h'
 ·rw[if_neg c]at h';cases h'
theorem ZlT (h:p∈ps):Zdx ps [p]=some (ps.erase p):=by
 show(if p∈ps then some (ps.erase p)else none)=_;rw[if_pos h]
theorem TyN.same {H':Hp} {us:List V} (h:TyN H us l) (s:Same H H'):TyN H' us l:=⟨h.1,fun i t e=>by
 obtain⟨b,e1,e2⟩:=h.2 i t e;exact⟨b,e1,s _ _ e2⟩⟩
theorem TyN.snoc {us:List V} (h:TyN H us l) {b:Addr} {t:Str×Str×Int} (hb:H b=some (.tup [.str t.1,.str t.2.1,.int t.2.2])):TyN H (us++[.ref b]) (l++[t]):=by
 obtain⟨h1,h2⟩:=ZdM (R:=fun u t=>∃ b,u= .ref b/\H b=some (.tup [.str t.1,.str t.2.1,.int t.2.2])) (us:=us) (rs:=l) ⟨h.1,fun i r e=>by
  obtain⟨b,e1,e2⟩:=h.2 i r e;exact⟨_,e1,b,rfl,e2⟩⟩ (u:=.ref b) (r:=t) ⟨b,rfl,hb⟩
 exact⟨h1,fun i t e=>by
  obtain⟨u,e1,b,e2,e3⟩:=h2 i t e;exact⟨b,by rw[e1,e2],e3⟩⟩
abbrev ZdK:Stmt:=top 63
abbrev Zla:List Str:=["_law_heap","_law_piece","_law_told_here","_law_sign","_law_other","_law_left_here","_law_ties_here"]
theorem scLLacks:Zp Zla ["_law_heap","_law_piece","_law_told_here"] (Zg ZdK):=⟨rfl,rfl,rfl,by decide +kernel,rfl,by decide +kernel,by decide +kernel⟩
def Zgp:Sp:=fun vs H Q _=>∃ (v:V) (ps:List Str) (hp:Es) (p:Str) (c:Addr) (L:Nat) (z:List Nat),vs=[v,.str p,.ref c]/\Hv H v ps hp/\Tx ps L z/\p∈ps/\H c=some (.lst (((sb ps p).map Prod.fst).map V.str))/\∀ H',Same H H'->Q (.bl true) H'
theorem ZfD (D:HasDef K mg "_law_none_lacks" ZdK ["_law_heap","_law_piece","_law_told_here"]) (B:Blt mg) (g7_:FOk P w K mg base 2 "_law_left" ["_law_heap","_law_some"] ZjW) (g16_:FOk P w K mg base 2 "_law_ties" ["_law_left_here"] Zgq) (g4_:FOk P w K mg base 2 "_law_goes" ["_law_ties_here","_law_end"] ZjY):FOk P w K mg base 3 "_law_none_lacks" ["_law_heap","_law_piece","_law_told_here"] Zgp:=by
 refine D.ok scLLacks (fun vs H Q E h=>?_) (fun f cdv A outer s H vs Q E hr h=>?_)
 ·obtain⟨v,ps,hp,p,c,L,z,rfl,_⟩:=h;rfl
 ·obtain⟨v,ps,hp,p,c,L,z,rfl,hV,hT,hm,hc,k⟩:=h;refine⟨_,(Ze (Yi PassesOwn.never rfl (Zme ZY) (ZI (i:=3) scLLacks.nd rfl (.inl rfl))
    (Ze (Zm (i:=4) scLLacks.nd rfl (.inl rfl) (Zk ZD (ZC Z4 (pv 1) (ZE Zf) Z0) (pv 3)))
   (Ze (Zm (i:=5) scLLacks.nd rfl (.inl rfl) (Zv g7_ hr (Za (pv 0) (Za (ZT (Za (pv 1) (Za (pv 4) Zc))) Zc))))
   (Zi (Z2 (PW.pt (Zco (Zt Xg (pv 3) (pv 2) rfl) (ZbA (Zt Zhj (pv 5) JE (Zy _))))) (Zi (Z2 (YG (Zv g4_ hr (Za (Zk Zcu (Zv g16_ hr (Za (pv 5) Zc)) (ZT (Za (Yt (Za (ZC Z4 (pv 1) Z0 (ZE (YV Yg Zf))) (Za (ZC Z4 (pv 4) (ZE Zf) Z0) (Za Zf Zc)))) Zc))) (Za JE Zc)))) (Zi (Zq Yf)) Zx)) Zx)))))
   (Ze (Z2 (Zt Zhk ZY (pv 2) rfl) (Zi (Zq Yf)) Zx)
   (Ze (Zm (i:=6) scLLacks.nd rfl (.inl rfl) (Zv g16_ hr (Za (Zv g7_ hr (Za (pv 0) (Za (ZT (Za (pv 1) Zc)) Zc))) Zc)))
   (Zi (Zq (ZeT (XG (ZeW hr.units) (pv 6) (ZT Zc) (Zy _)) (ZeS (Zhd (Zv g4_ hr (Za (pv 6) (Za (ZC Z4 (pv 1) Z0 (ZE (YV Yg Zf))) Zc))))))))))),?_⟩
  have hR:=hT.ro;have hO:=hV.of;obtain⟨pl1,pl2,_⟩:=hR.one p hm;have hkl:(hp.map (·.1)).length<=63:=by
   have:=Z3 hO;have:=hR.len;rw[Qc];omega
  have hkx:∀ x∈hp.map (·.1),1<=x.length/\x.length<=63:=fun x hx=>by
   obtain⟨q1,q2,_⟩:=hR.one x ((hO.mem x).mp hx);exact⟨q1,q2⟩
  have tl:∀ g:Str->Int,(tiesN (hp.map (·.1)) g).length<=63:=fun g=>by
   unfold tiesN;rw[Qc];exact Wg (Q7 _ _) hkl
  obtain⟨told,et⟩:∃ told,told=(sb ps p).map Prod.fst:=⟨_,rfl⟩
  rw[←et]at hc;refine⟨_,rfl,?_⟩;refine Zlp (fun i σ H'=>∃ z3 z4 z5:Option V,σ=[some v,some (.str p),some (.ref c),z3,z4,z5,none]/\Same H H')
   ⟨none,none,none,rfl,Same.refl _⟩ ?_ ?_
  ·rintro i σ H1 hi ⟨z3,z4,z5,rfl,s1⟩;obtain⟨sn,es⟩:∃ sn:Str,sn=⟨#[("abcdefghijklmnopqrstuvwxyz" : Str).cps.getD i 0]⟩:=⟨_,rfl⟩
   have hsl:sn.length=1:=by rw[es];rfl
   rw[←es];clear es;refine⟨_,rfl,_,rfl,p,rfl,ZQ (by omega),?_⟩;rw[XQ pl1];refine⟨_,rfl,_,_,rfl,rfl,Zh (by rw[Za9,hsl];omega),?_⟩;refine⟨_,rfl,_,rfl,_,rfl,Zh (show 2<=1000 by decide),fun a ha=>?_⟩;have s2:=Zb (o:=.lst [.str p,.str (en p++sn)]) ha;refine⟨v,ps,hp,a,[p,en p++sn],rfl,hV.same (s1.trans s2),hR,Zd,fun qs hq d H3 s3 hd=>?_,fun hq H3 s3=>?_⟩
   ·have sA:=(s1.trans s2).trans s3;refine⟨_,rfl,_,rfl,c,_,rfl,.inl (SqL.of (sA _ _ hc)),rfl,by simp[X6],_,rfl,?_⟩;rw[ZfM];by_cases c1:sn∈told
    ·refine Yu (by simp[c1]) (Yu rfl ?_);exact⟨_,_,_,rfl,sA⟩
    refine Y3 (by simp[c1]) ?_;refine⟨_,rfl,rfl,_,rfl,Y3 rfl ?_⟩;obtain⟨ho,rfl⟩:=Znt hq;refine⟨_,rfl,d,_,_,rfl,hd,hkl,hkx,fun q us H4 s4 hq4 hty=>?_⟩;have sB:=sA.trans s4;refine⟨_,rfl,_,rfl,_,rfl,p,rfl,ZQ (by omega),?_⟩;rw[show(-(1:Int)) = -1 from rfl,JR pl1];have ol:(en p++sn).length<=63/\1<=(en p++sn).length:=by
     obtain⟨q1,q2,_⟩:=hR.one _ (We ho);exact⟨q2,q1⟩
    refine⟨_,rfl,_,rfl,en p++sn,rfl,ZQ (by omega),?_⟩;rw[XQ ol.2];refine⟨Zh (show 3<=1000 by decide),fun b hb=>?_⟩;have s5:=Zb (o:=.tup [.str (bg p),.str (en (en p++sn)),.int 1]) hb;refine⟨Zh (show 1<=1000 by decide),fun b2 hb2=>?_⟩;have s6:=Zb (o:=.lst [.ref b]) hb2;have hul:us.length<=63:=by rw[hty.1];exact tl _
    refine⟨q,b2,us,[.ref b],rfl,rfl,s6 _ _ (s5 _ _ hq4),Zd,Zh (by show us.length+1<=1000;omega),fun b3 hb3=>?_⟩;have s7:=Zb (o:=.lst (us++[.ref b])) hb3;have s567:=(s5.trans s6).trans s7;have hty2:=(hty.same s567).snoc (b:=b) (t:=(bg p,en (en p++sn),1)) (s7 _ _ (s6 _ _ Zd));obtain⟨t0,l,el⟩:∃ t0 l,(tiesN (hp.map (·.1)) fun x=>(((ps.erase p).erase (en p++sn)).count x:Int))++[(bg p,en (en p++sn),(1:Int))]=t0::l:=by
     cases tiesN (hp.map (·.1)) fun x=>(((ps.erase p).erase (en p++sn)).count x:Int)with
     | nil=>exact⟨_,_,rfl⟩
     | cons x y=>exact⟨_,_,rfl⟩
    have hll:l.length<=63:=by
     have:=congrArg UP el;rw[Qd,QG,QG,Uu]at this;have:=tl fun x=>(((ps.erase p).erase (en p++sn)).count x:Int)
     omega
    rw[el]at hty2;refine⟨b3,_,t0,l,none,rfl,Zd,hty2,by omega,fun r H8 ks s8 hP hr8=>⟨_,rfl,?_⟩⟩;have hrf:r=false:=by
     cases r with
     | false=>rfl
     | true =>
      obtain⟨q1,q2,_⟩:=hr8.mp rfl;exact absurd (Zf0 hT hO hm hsl ho el.symm hP q1 q2) (by rw[←et];exact c1)
    subst hrf;refine Yu rfl ?_;exact⟨_,_,_,rfl,(sB.trans s567).trans s8⟩
   ·have sA:=(s1.trans s2).trans s3;refine⟨_,rfl,_,rfl,c,_,rfl,.inl (SqL.of (sA _ _ hc)),rfl,by simp[X6],_,rfl,?_⟩;rw[ZfM];by_cases c1:sn∈told
    ·refine Yu (by simp[c1]) (Yu rfl ?_);exact⟨_,_,_,rfl,sA⟩
    refine Y3 (by simp[c1]) ?_;refine⟨_,rfl,rfl,_,rfl,Yu rfl ?_⟩;exact⟨_,_,_,rfl,sA⟩
  ·rintro σ H1 ⟨z3,z4,z5,rfl,s1⟩;refine⟨_,rfl,c,_,rfl,.inl (SqL.of (s1 _ _ hc)),rfl,by simp[X6],_,rfl,?_⟩;rw[ZfM];by_cases c1:("" : Str)∈told
   ·exact Y3 (by simp[c1]) (k _ s1)
   refine Yu (by simp[c1]) ?_;refine⟨_,rfl,_,rfl,Zh (show 1<=1000 by decide),fun a ha=>?_⟩;have s2:=Zb (o:=.lst [.str p]) ha;refine⟨v,ps,hp,a,[p],rfl,hV.same (s1.trans s2),hR,Zd,fun qs hq d H3 s3 hd=>?_,fun hq=>by rw[ZlT hm]at hq;cases hq⟩;rw[ZlT hm]at hq;cases hq;refine⟨d,_,_,rfl,hd,hkl,hkx,fun q us H4 s4 hq4 hty=>?_⟩;have sB:=((s1.trans s2).trans s3).trans s4;refine⟨_,rfl,Zh (show 0<=1000 by decide),fun b0 hb0=>?_⟩;have s5:=Zb (o:=.lst []) hb0;refine⟨q,b0,us,rfl,rfl,s5 _ _ hq4,Zd,_,rfl,?_⟩;have hsub:∀ y∈ps.erase p,y∈ps:=fun y hy=>We hy;cases el:tiesN (hp.map (·.1)) fun x=>((ps.erase p).count x:Int)with
   | nil=>exact absurd (Zi6 hT hm (Zgd hO hsub el)) (by rw[←et];exact c1)
   | cons t0 l =>
    rw[el]at hty;have hue:(!us.isEmpty)=true:=by
     cases us with
     | nil=>have:=hty.1;rw[Uu,QG]at this;omega
     | cons x y=>rfl
    refine Y3 hue ?_;have hll:l.length<=63:=by
     have:=tl fun x=>((ps.erase p).count x:Int)
     rw[el,QG]at this;omega
    refine⟨_,rfl,_,rfl,_,rfl,_,rfl,p,rfl,ZQ (by omega),?_⟩;rw[show(-(1:Int)) = -1 from rfl,JR pl1];refine⟨q,us,t0,l,some (bg p),rfl,s5 _ _ hq4,hty.same s5,by omega,fun r H8 ks s8 hP hr8=>⟨_,rfl,?_⟩⟩;have hrf:r=false:=by
     cases r with
     | false=>rfl
     | true =>
      obtain⟨q1,q2,q3⟩:=hr8.mp rfl;exact absurd (ZjB hT hO hm el.symm ((hP.mem _).mpr ⟨t0,Qj,.inl rfl⟩) hP q1 q2 (q3 _ rfl)) (by rw[←et];exact c1)
    subst hrf;exact k _ ((sB.trans s5).trans s8)
abbrev tV (t:List Nat):V:=V.str (tx t)
theorem Zbk {z:Str} (h:Cd z.cps.toList):PyData.strOk z=true:=by
 unfold PyData.strOk;rw[←Array.all_toList,RW];intro c hc;have:=h c hc;exact decide_eq_true (by omega)
theorem ZeN {H:Hp}:∀ ps:List Str,RepA H (ps.map PyData.str) (ps.map V.str)
 | []=>by rw[WH,RepA];rfl
 | p::ps=>by
  rw[Qs,RepA];exact⟨.str p,ps.map V.str,rfl,by rw[RepD],ZeN ps⟩
theorem Zck {a:Addr} (h:H a=some (.lst (ps.map V.str))):RepD H (.list (ps.map PyData.str)) (.ref a):=by
 rw[RepD];exact⟨a,_,rfl,h,ZeN ps⟩
theorem Ze9:∀ ps:List Str,(∀ p∈ps,PyData.strOk p=true)->PyData.canLayAll0 (ps.map PyData.str)=true/\PyData.depthAll (ps.map PyData.str)=0
 | [],_=>by simp[PyData.canLayAll0,PyData.depthAll]
 | p::ps,h=>by
  obtain⟨h1,h2⟩:=Ze9 ps fun q hq=>h q (Ql _ hq);rw[Qs,PyData.canLayAll0,PyData.depthAll,h1,h2];simp[PyData.canLay0,PyData.depth,h p Qj]
theorem ZdD (h:∀ p∈ps,PyData.strOk p=true):SeqAt.shaped (.list (ps.map PyData.str))=true:=by
 obtain⟨h1,h2⟩:=Ze9 ps h;unfold SeqAt.shaped;rw[QQ];constructor
 ·rw[PyData.canLay0];exact h1
 ·refine decide_eq_true ?_;rw[PyData.depth,h2];decide
def pD (l:List (Str×PyData)):PyData:=.tuple (l.map fun e=>.tuple [.str e.1,e.2])
def FlD (e:Str×PyData):Prop:=PyData.strOk e.1=true/\PyData.canLay0 e.2=true/\PyData.depth e.2=0
theorem Zkj:∀ {l:List (Str×PyData)},(∀ e∈l,FlD e)->PyData.canLayAll0 (l.map fun e=>PyData.tuple [.str e.1,e.2])=true/\PyData.depthAll (l.map fun e=>PyData.tuple [.str e.1,e.2])<=1
 | [],_=>by simp[PyData.canLayAll0,PyData.depthAll]
 | e::r,h=>by
  obtain⟨h1,h2⟩:=Zkj (l:=r) fun y hy=>h y (Ql _ hy);obtain⟨k1,k2,k3⟩:=h e Qj;rw[Qs,PyData.canLayAll0,PyData.depthAll,h1];refine⟨by simp[PyData.canLay0,PyData.canLayAll0,k1,k2],?_⟩;simp[PyData.depth,PyData.depthAll,k3];omega
theorem Zcg {l:List (Str×PyData)} (h:∀ e∈l,FlD e):SeqAt.shaped (pD l)=true:=by
 obtain⟨h1,h2⟩:=Zkj h;unfold SeqAt.shaped pD;rw[QQ];constructor
 ·rw[PyData.canLay0];exact h1
 ·refine decide_eq_true ?_;rw[PyData.depth];omega
theorem ZgV {H:Hp}:∀ {l:List (Str×PyData)} {vs:List V},vs.length=l.length->(∀ (i:Nat) e,l[i]?=some e->∃ b y,vs[i]?=some (.ref b)/\H b=some (.tup [.str e.1,y])/\RepD H e.2 y)->RepA H (l.map fun e=>PyData.tuple [.str e.1,e.2]) vs
 | [],vs,hl,_=>by
  rw[WH,RepA];exact WP.mp hl
 | x::r,[],hl,_=>by simp at hl
 | x::r,v::vs,hl,h=>by
  rw[Qs,RepA];obtain⟨b,y,e,hb,hy⟩:=h 0 x rfl;have ev:v= .ref b:=by simpa using e
  refine⟨v,vs,rfl,?_,ZgV (by simpa using hl) fun i y hy=>?_⟩
  ·rw[RepD];refine⟨b,_,ev,hb,?_⟩;rw[RepA];refine⟨_,_,rfl,by rw[RepD],?_⟩;rw[RepA];exact⟨_,_,rfl,hy,by rw[RepA]⟩
  ·obtain⟨b',y',e',hb'⟩:=h (i+1) y (by simpa using hy);exact⟨b',y',by simpa using e',hb'⟩
def ZhX (hp:Es):PyData:=pD (hp.map fun e=>(e.1,PyData.int e.2))
def ZkB (rs:List (Str×Str)):PyData:=pD (rs.map fun r=>(r.1,PyData.str r.2))
theorem Zj5 (h:HpAt H v hp):RepD H (ZhX hp) v:=by
 obtain⟨a,xs,rfl,ha,hl,hx⟩:=Y4 h;unfold ZhX pD;rw[RepD];refine⟨a,xs,rfl,ha,ZgV (by rw[Qc];exact hl) fun i e he=>?_⟩;rw[Qg]at he;obtain⟨x,hx',rfl⟩:=QS.mp he;obtain⟨b,e1,e2⟩:=hx i x hx';exact⟨b,_,e1,e2,by rw[RepD]⟩
theorem ZeM {rs:List (Str×Str)} (h:TupR H v rs):RepD H (ZkB rs) v:=by
 obtain⟨a,us,rfl,ha,hl,hx⟩:=h;unfold ZkB pD;rw[RepD];refine⟨a,us,rfl,ha,ZgV (by rw[Qc];exact hl) fun i e he=>?_⟩;rw[Qg]at he;obtain⟨x,hx',rfl⟩:=QS.mp he;obtain⟨b,e1,e2⟩:=hx i x hx';exact⟨b,_,e1,e2,by rw[RepD]⟩
theorem Zgz (hR:RO ps) (hO:Zu ps hp):SeqAt.shaped (ZhX hp)=true:=by
 refine Zcg fun e he=>?_;obtain⟨x,hx,rfl⟩:=Qi.mp he;obtain⟨_,_,cd⟩:=hR.one x.1 ((hO.mem _).mp (Qi.mpr ⟨x,hx,rfl⟩));exact⟨Zbk cd,by simp[PyData.canLay0],by simp[PyData.depth]⟩
theorem Zl7 (hR:RO ps) (hm:p∈ps):(sb ps p).length<=63:=by
 have h1:(sb ps p).length<=(YC ps p).length:=Rl _ _;obtain⟨hp1,hO1⟩:=Yj (ps.erase p);have h2:(YC ps p).length<=hp1.length+1:=by
  unfold YC nxt;rw[Yl hO1,QG,Qc,Qc];have:=Q7 (fun e:Str×Int=>decide (bg e.1=en p)) hp1;omega
 have:=Z3 hO1;have:=hR.len;have:=Wh hm;have:=Wo hm;omega
section
variable {ps:List Str} {L:Nat} {z pd:List Nat}
theorem XO (h:Tx ps L z) (hm:tx pd∈ps) {r:Str×Str} (hr:r∈sb ps (tx pd)):∃ w,r.2=tx w/\Tx ps L w/\r.1.length<=1/\PyData.strOk r.1=true/\r.1∈beh w pd (w.length-L+1):=by
 obtain⟨s,t⟩:=r;obtain⟨y,i,e1,e2,_,hi,e3,e4⟩:=ZiI h hm hr;have hl:=h.len hm;rw[Zn]at hl;refine⟨y,e1,e2,?_,?_,?_⟩
 ·show s.length<=1;rw[←e4];unfold sg;rw[Zn,QP];omega
 ·show PyData.strOk s=true;rw[←e4];refine Zbk fun c hc=>?_;unfold sg at hc;rw[Zs]at hc;exact e2.cd c (U1 (Wm hc))
 ·refine beh_mem.mpr ⟨i,hi,?_,by rw[hl];exact e4⟩;rw[Yv hi]at e3;rw[hl];exact Zeq (Option.some.inj e3)
theorem ZjG (h:Tx ps L z) (hl:pd.length=L) {s:Str} (hs:s∈beh z pd (z.length-L+1)):s∈(sb ps (tx pd)).map Prod.fst:=by
 obtain⟨i,hi,e1,e2⟩:=beh_mem.mp hs;rw[hl]at e1 e2;rw[←e2];exact Zet h hi (by rw[Yv hi,e1])
theorem ZmG (ps:List Str):(ps.map rv).map rv=ps:=by
 rw[QA];have:rv ∘ rv=id:=funext fun x=>ZkT x;rw[this,U5]
end
theorem Zis {H1:Hp} (hV:Hv H v ps hp) (hR:RO ps) {vs1:List V} (hl1:vs1.length=hp.length)
  (hr1:∀ i v,vs1[i]?=some v->∃ b,v= .ref b/\H1 b=some (.tup [.str (rv (hp.getD i ("",0)).1),.int (hp.getD i ("",0)).2])) :
  ∃ rs:List (Addr×Str),vs1=rs.map (fun r=>V.ref r.1)/\(∀ r∈rs,H1 r.1=some (.tup [.str r.2,.int ((ps.map rv).count r.2:Int)]))/\(rs.map (·.2)).Nodup/\rs.length<64 /\
   ∀ (rs':List (Addr×Str)) H3 d,Same H1 H3->rs'.Perm rs->(rs'.map fun r=>r.2.cps.toList).Pairwise (· < ·)->H3 d=some (.tup (rs'.map fun r=>V.ref r.1))->∃ hp',Hv H3 (.ref d) (ps.map rv) hp':=by
 have hlen:=Z3 hV.of;have hpl:=hR.len;have hPA:PA H1 vs1 ((hp.map fun e=>rv e.1).map fun x=>(x,((ps.map rv).count x:Int))):=by
  refine⟨by rw[hl1,Qc,Qc],fun i e he=>?_⟩;rw[QA,Qg]at he;obtain⟨x,hx,rfl⟩:=QS.mp he;have hie:i<hp.length:=(Qp.mp hx).1;have hiv:i<vs1.length:=by rw[hl1];exact hie
  obtain⟨b,e1,e2⟩:=hr1 i vs1[i] (Qa hiv);rw[Qb,hx,WL]at e2;refine⟨b,by rw[Qa hiv,e1],?_⟩;rw[e2,hV.of.cnt x (QX hx)];show _=some (HO.tup [V.str (rv x.1),V.int ((ps.map rv).count (rv x.1):Int)]);rw[Zkp]
 obtain⟨rs,e1,e2,e3⟩:=ZeU hPA;refine⟨rs,e1,e3,?_,?_,fun rs' H3 d s3 hperm hsrt hd=>?_⟩
 ·show(rs.map Prod.snd).Nodup;rw[e2];have:=XJ hV.of;rw[Ug,QY]at this ⊢;exact this.imp fun {a b} q e=>q (ZgT e)
 ·have:=congrArg UP e2;rw[Qc,Qc]at this;omega
 refine⟨rs'.map fun r=>(r.2,((ps.map rv).count r.2:Int)),⟨d,_,rfl,hd,by rw[Qc,Qc],fun i e he=>?_⟩,?_⟩
 ·rw[Qg]at he;obtain⟨r,hr,rfl⟩:=QS.mp he;refine⟨r.1,?_,s3 _ _ (e3 r (hperm.mem_iff.mp (QX hr)))⟩;rw[Qb,Qg,hr];rfl
 ·have:=Xj (ss:=rs'.map (·.2)) (ks:=rs.map (·.2)) (ps:=ps.map rv) (g:=fun x=>((ps.map rv).count x:Int)) (hperm.map _) (by rw[QA];exact hsrt) (fun x=>?_) fun x _=>rfl
  ·rw[QA]at this;exact this
  ·show x∈rs.map Prod.snd↔_;rw[e2,Qi,Qi];constructor
   ·rintro⟨e,he,rfl⟩;exact⟨e.1,(hV.of.mem _).mp (Qi.mpr ⟨e,he,rfl⟩),rfl⟩
   ·rintro⟨y,hy,rfl⟩;obtain⟨e,he,rfl⟩:=Qi.mp ((hV.of.mem y).mpr hy);exact⟨e,he,rfl⟩
end Sh
namespace L2
open PySem PyProof.Rows
theorem XX {X:Cx} (K:PySem.W.Frag) (h:X.K=K:=by rfl):OpR X (compareOp .NotIn) (rIn K true):=by subst h;exact Xg
end L2
namespace Sh
open PySem L2 PyProof.Rows
seal L2.PE L2.PS L2.PSs L2.PT L2.PW L2.PA L2.PI L2.PG L2.PGs L2.PO L2.PC L2.PCs L2.OpR L2.UnR L2.CallR L2.MtR L2.IxR L2.SlR
variable {P:Program} {w:World} {K:PySem.W.Frag} {mg:Str->Option Value} {base:Heap}
variable {ps:List Str}
def bkP (b:Bool) (ps:List Str):List Str:=if b then ps.map rv else ps
def bkD (b:Bool) (y:List Nat):List Nat:=if b then y.reverse else y
theorem Zm3 (b:Bool) (y:List Nat):(bkD b y).length=y.length:=by
 cases b
 ·rfl
 ·exact QW
theorem Zm2 {L:Nat} {z:List Nat} (b:Bool) (h:Tx ps L z):Tx (bkP b ps) L (bkD b z):=by
 cases b
 ·exact h
 ·exact h.rev
theorem Zl8 (y:List Nat):rv (tx y)=tx y.reverse:=by
 unfold rv;rw[Zs]
theorem Zkr {pd:List Nat} (b:Bool) (h:tx pd∈ps):tx (bkD b pd)∈bkP b ps:=by
 cases b
 ·exact h
 ·exact Qi.mpr ⟨_,h,Zl8 pd⟩
structure TR (ps:List Str) (L:Nat) (pd:List Nat) (told:List Str) (ws:List (List Nat)):Prop where
 tld:told=(sb ps (tx pd)).map Prod.fst
 len:ws.length=told.length
 txs:∀ w∈ws,Tx ps L w
 beh:∀ (k:Nat) w s,ws[k]?=some w->told[k]?=some s->s∈beh w pd (w.length-L+1)
theorem TR.of {L:Nat} {z pd:List Nat} (h:Tx ps L z) (hm:tx pd∈ps):TR ps L pd ((sb ps (tx pd)).map Prod.fst) ((sb ps (tx pd)).map fun r=>r.2.cps.toList) where
 tld:=rfl
 len:=by rw[Qc,Qc]
 txs:=fun w hw=>by
  obtain⟨r,hr,rfl⟩:=Qi.mp hw;obtain⟨y,e,hy,_⟩:=XO h hm hr;rw[e,Zs];exact hy
 beh:=fun k w s hw hs=>by
  rw[Qg]at hw hs;obtain⟨r,hr,rfl⟩:=QS.mp hw;rw[hr]at hs;cases hs;obtain⟨y,e,hy,_,_,hb⟩:=XO h hm (QX hr);rw[e,Zs];exact hb
abbrev Zaa:Stmt:=top 64
abbrev ZcH:List Str:=["_law_pairs","_law_heap","_law_piece","_law_texts","_law_back_here","_law_told_here","_law_pair","_law_made","_law_k","_law_behind_here"]
theorem scLTold:Zp ZcH ["_law_pairs","_law_heap","_law_piece","_law_texts","_law_back_here"] (Zg Zaa):=⟨rfl,rfl,rfl,by decide +kernel,rfl,by decide +kernel,by decide +kernel⟩
def ZjP:Sp:=fun vs H Q _=>∃ (v' v:V) (ps:List Str) (hp:Es) (pd:List Nat) (L:Nat) (z:List Nat) (rs:List (Str×Str)) (ws ys:List (List Nat)) (ta:Addr) (bk:Bool),vs=[v',v,.str (tx pd),.ref ta,.bl bk]/\TupR H v' rs/\Hv H v ps hp/\Tx ps L z/\tx pd∈ps/\rs.map Prod.snd=ws.map tx/\(∀ w∈ws++ys,Tx ps L w) /\
 TR (bkP bk ps) L (bkD bk pd) (rs.map Prod.fst) (ws.map (bkD bk))/\H ta=some (.lst (ys.map tV))/\ys.length<=10/\∀ H',Same H H'->Q (.bl true) H'
theorem Zho (D:HasDef K mg "_law_told" Zaa ["_law_pairs","_law_heap","_law_piece","_law_texts","_law_back_here"]) (B:Blt mg) (g18_:FOk P w K mg base 3 "_law_torn" ["_law_signs","_law_long"] Zgm) (g0_:FOk P w K mg base 3 "_law_back" ["_law_signs"] Zgr) (g1_:FOk P w K mg base 3 "_law_behind" ["_law_signs","_law_piece"] Zcd) (g9_:FOk P w K mg base 3 "_law_none_lacks" ["_law_heap","_law_piece","_law_told_here"] Zgp) :
  FOk P w K mg base 4 "_law_told" ["_law_pairs","_law_heap","_law_piece","_law_texts","_law_back_here"] ZjP:=by
 refine D.ok scLTold (fun vs H Q E h=>?_) (fun f cdv A outer s H vs Q E hr h=>?_)
 ·obtain⟨v',v,ps,hp,pd,L,z,rs,ws,ys,ta,bk,rfl,_⟩:=h;rfl
 ·obtain⟨v',v,ps,hp,pd,L,z,rs,ws,ys,ta,bk,rfl,hU,hV,hT,hm,ews,hws,hTR,hta,hyl,k⟩:=h;refine⟨_,(Ze (Z2 (Xe (YG (Zj Jb rfl B.isi Zdg (Za (pv 0) (Za (Zhc rfl B.tuple Yo) Zc))))) (Zi (Zq Yf)) Zx)
   (Ze (Zm (i:=5) scLTold.nd rfl (.inr rfl) (ZT Zc))
   (Ze (Yi PassesOwn.never rfl (Yy (pv 0)) (ZI (i:=6) scLTold.nd rfl (.inl rfl))
    (Ze (Z2 (PW.pt (Zbz (Xe (YG (Zj Jb rfl B.isi Zdg (Za (pv 6) (Za (Zhc rfl B.tuple Yo) Zc))))) (Zbz (Zt Zi4 (Zj Zr rfl B.len ZX (Za (pv 6) Zc)) Zf (Zy _)) (Zad (Xe (YG (Zj Jb rfl B.isi Zdg (Za (ZB ix_tup (pv 6) Zf (fun _ _=>rfl)) (Za (Zhc rfl B.str Zm6) Zc))))))))) (Zi (Zq Yf)) Zx)
   (Ze (Z2 (PW.pt (Zbz (Xe (YG (Zj Jb rfl B.isi Zdg (Za (ZB ix_tup (pv 6) Zf (fun _ _=>rfl)) (Za (Zhc rfl B.str Zm6) Zc))))) (Zbz (Zt (Zka hr.units) (Zv g18_ hr (Za (ZB ix_tup (pv 6) Zf (fun _ _=>rfl)) (Za (Zj Zr rfl B.len ZX (Za (pv 2) Zc)) Zc))) (pv 1) (Zy _)) (Zad (Zt ZbE (Zj Zr rfl B.len ZX (Za (ZB ix_tup (pv 6) Zf (fun _ _=>rfl)) Zc)) Zf (Zy _)))))) (Zi (Zq Yf)) Zx)
   (Zi (Z8 (Xf F.plainAttrs_list F.slot_list_append F.type_list_append Z1 (pv 5) (Za (ZB ix_tup (pv 6) Zf (fun _ _=>rfl)) Zc)))))))
   (Ze (Zm (i:=7) scLTold.nd rfl (.inl rfl) (Zk Zcu (ZK (Zg Zaa) ZcH ["_law_pair"] [] rfl (Yy (pv 0)) (fun _ _ _ _ _=>Z6 0) (fun _ _ _ _ _=>Yd) (fun _ _ _ _ _=>(ZB (ZbU K) (pv 0) Zf (fun _ _=>rfl)))) (pv 3)))
   (Ze (Z2 (YG (pv 4)) (Ze (XU (i:=7) (Zg Zaa) ZcH ["_law_signs"] [] scLTold.nd rfl (.inl rfl) rfl (Ym (pv 7)) (fun _ _ _ _ _=>Z6 0) (fun _ _ _ _ _=>Yd) (fun _ _ _ _ _=>(Zv g0_ hr (Za (pv 0) Zc))))
   (Ze (Zm (i:=1) scLTold.nd rfl (.inl rfl) (ZJ ZH rfl B.tuple Yo (Za (Zj XA rfl B.sorted YJ (Za (ZK (Zg Zaa) ZcH ["_law_one","_law_many"] [] rfl (Yy (pv 1)) (fun _ _ _ _ _=>Yc 2 K rfl (Zw (Z6 0) (Zw (Z6 1) Yb))) (fun _ _ _ _ _=>Yd) (fun _ _ _ _ _=>(Yt (Za (Zv g0_ hr (Za (pv 0) Zc)) (Za (pv 1) Zc))))) Zc)) Zc)))
   (Zi (Zm (i:=2) scLTold.nd rfl (.inl rfl) (Zv g0_ hr (Za (pv 2) Zc)))))) Zx)
   (Ze (Yi PassesOwn.never rfl (Ys rfl B.range (Za (Zj Zr rfl B.len ZX (Za (pv 7) Zc)) Zc)) (ZI (i:=8) scLTold.nd rfl (.inl rfl))
    (Ze (Zm (i:=9) scLTold.nd rfl (.inl rfl) (Zv g1_ hr (Za (ZB ix_list (pv 7) (pv 8) (fun _ _=>rfl)) (Za (pv 2) Zc))))
   (Zi (Z2 (PW.pt (Zbz (PW.pt (Zco (Zt Zk1 (pv 8) (Zj Zr rfl B.len ZX (Za (pv 5) Zc)) (Zy _)) (ZbA (Zt Xg (ZB ix_list (pv 5) (pv 8) (fun _ _=>rfl)) (pv 9) rfl)))) (Zad (Zt (ZeW hr.units) (ZK (Zg Zaa) ZcH ["_law_sign"] [5] rfl (Ym (pv 9)) (fun _ _ _ _ _=>Z6 0) (fun _ _ _ _ _=>YL (Zt (XX K) (pv 0) (pv 1) rfl)) (fun _ _ _ _ _=>(pv 0))) (ZT Zc) (Zy _))))) (Zi (Zq Yf)) Zx))))
   (Zi (Zq (ZeT (XG (Zhl hr.units) (pv 5) (Zj (Xm rfl) rfl B.sorted YJ (Za (ZJ (Zc7 rfl) rfl B.set Zm7 (Za (pv 5) Zc)) Zc)) (Zy _)) (ZeS (Zv g9_ hr (Za (pv 1) (Za (pv 2) (Za (pv 5) Zc)))))))))))))),?_⟩
  have hR:=hT.ro;have hO:=hV.of;have hpl:pd.length=L:=by have:=hT.len hm;rw[Zn]at this;exact this
  have one:=hT.fit.one;have hTb:=Zm2 bk hT;have hmb:=Zkr bk hm;have hplb:(bkD bk pd).length=L:=by rw[Zm3];exact hpl
  have hfew:=Zl7 hTb.ro hmb;have htl:(rs.map Prod.fst).length<=63:=by rw[hTR.tld,Qc];exact hfew
  have hrl:rs.length<=63:=by rw[Qc]at htl;exact htl
  have hwl:ws.length=rs.length:=by have:=congrArg UP ews;rw[Qc,Qc]at this;exact this.symm
  have hr2:∀ (i:Nat) r,rs[i]?=some r->∃ w∈ws,r.2=tx w:=fun i r hi=>by
   have h1:r.2∈rs.map Prod.snd:=Qi.mpr ⟨r,QX hi,rfl⟩;rw[ews]at h1;obtain⟨w,hw,e⟩:=Qi.mp h1;exact⟨w,hw,e.symm⟩
  have hr1:∀ (i:Nat) r,rs[i]?=some r->r.1.length<=1:=fun i r hi=>by
   have h1:r.1∈rs.map Prod.fst:=Qi.mpr ⟨r,QX hi,rfl⟩;rw[hTR.tld]at h1;obtain⟨r',hr',e⟩:=Qi.mp h1;obtain⟨_,_,_,hl,_⟩:=XO hTb hmb hr';rw[e]at hl;exact hl
  have hshp:=Zgz hR hO;obtain⟨q,us,rfl,hq,hus⟩:=hU;refine⟨_,rfl,.ref q,"tuple","tuple",rfl,by decide,.tup hq,_,rfl,Yu (by decide) ?_⟩;refine⟨Zh (show 0<=1000 by decide),fun l hl0=>?_⟩;have s1:=Zb (o:=.lst []) hl0;refine⟨_,rfl,q,rfl,⟨_,SqT.of (s1 _ _ hq)⟩,?_⟩;refine Jw (K:=K) (a:=q) (xs:=us) (fun i σ H2=>∃ z6:Option V,σ=[some (.ref q),some v,some (.str (tx pd)),some (.ref ta),some (.bl bk),some (.ref l),z6,none,none,none]/\Same H H2/\H2 l=some (.lst (((rs.map Prod.fst).take i).map V.str)))
   ⟨none,rfl,s1,Zd⟩ (fun i σ H2 _ ⟨_,_,s',_⟩=>SqT.of (s' _ _ hq)) ?_ ?_
  ·rintro i x σ H2 hi ⟨z6,rfl,s2,hl2⟩;have hiv:i<us.length:=(Qp.mp hi).1;have hie:i<rs.length:=by rw[←hus.1];exact hiv
   obtain⟨b,e1,e2⟩:=hus.2 i rs[i] (Qa hie);rw[hi]at e1;cases e1;obtain⟨y,hy,ey⟩:=hr2 i rs[i] (Qa hie);have hs1:=hr1 i rs[i] (Qa hie);have etk:(rs.map Prod.fst).take (i+1)=(rs.map Prod.fst).take i++[rs[i].1]:=by
    rw[QR (by rw[Qc];exact hie),List.getElem_map]
   rw[etk];rw[ey]at e2;generalize rs[i].1=sn at *;have hTy:=hws y (QM _ hy);have hb:=s2 _ _ e2;refine⟨_,rfl,.ref b,"tuple","tuple",rfl,by decide,.tup hb,_,rfl,Yu (by decide) ?_⟩;refine⟨_,rfl,.ref b,2,rfl,.inr ⟨_,SqT.of hb,rfl⟩,rfl,_,rfl,Yu (by decide) ?_⟩;refine⟨_,rfl,b,_,0,.str sn,rfl,rfl,SqT.of hb,rfl,.str sn,"str","str",rfl,by decide,.str _,_,rfl,Yu (by decide) ?_⟩;refine⟨_,rfl,b,_,1,.str (tx y),rfl,rfl,SqT.of hb,rfl,.str (tx y),"str","str",rfl,by decide,.str _,_,rfl,Yu (by decide) ?_⟩;refine⟨_,rfl,b,_,1,.str (tx y),rfl,rfl,SqT.of hb,rfl,_,rfl,.str (tx pd),pd.length,rfl,⟨ZG (by have:=hT.few;have:=hT.fit.le;omega),(Zn pd).symm⟩,y,pd.length,rfl,by rw[hpl];exact hTy.fit,hTy.few,fun v1 H3 hp1 s3 hO1 hA1=>?_⟩;have ehp:hp1=hp:=by
    rw[hpl]at hO1;exact X3 (ZhW hO1 hTy.pm.symm) hO
   subst ehp;refine⟨_,rfl,ZhX hp1,ZhX hp1,Zj5 hA1,Zj5 (hV.same (s2.trans s3)).at_,hshp,hshp,_,rfl,Yu (by rw[Zfh hshp];rfl) ?_⟩;have hb3:=s3 _ _ hb;refine⟨_,rfl,b,_,0,.str sn,rfl,rfl,SqT.of hb3,rfl,.str sn,sn.length,rfl,⟨ZQ (by omega),rfl⟩,_,_,rfl,rfl,_,rfl,Yu (decide_eq_false (by omega)) ?_⟩;have hl3:=s3 _ _ hl2;refine⟨_,rfl,.inl ⟨rfl,_,SqL.of hl3⟩,_,rfl,b,_,0,.str sn,rfl,rfl,SqT.of hb3,rfl,l,_,_,rfl,rfl,hl3,Zh (by rw[Qc,QP];omega),?_⟩;refine⟨_,rfl,Yr (s2.trans s3) hl0,?_⟩;rw[Zd,Qz];rfl
  rintro σ H2 ⟨z6,rfl,s2,hl2⟩;rw[hus.1,Q0 (by rw[Qc];exact Qk _)]at hl2;refine⟨_,rfl,q,rfl,⟨_,SqT.of (s2 _ _ hq)⟩,YD us.length (fun i=>us.getD i .non) (fun i v _=>v= .str (rs.getD i ("","")).2) (Zh (by rw[hus.1];omega)) (fun _ _ _ _ _ r=>r) (Xz (SqT.of (s2 _ _ hq))) ?_ ?_⟩
  ·intro i H3 Qe hi hs kq;have hie:i<rs.length:=by rw[←hus.1];exact hi
   obtain⟨b,e1,e2⟩:=hus.2 i rs[i] (Qa hie);have eu:us.getD i .non= .ref b:=by rw[Qb,e1];rfl
   have eh:rs.getD i ("","")=rs[i]:=by rw[Qb,Qa hie];rfl
   rw[eh]at kq;rw[eu];exact⟨_,rfl,b,_,1,.str rs[i].2,rfl,rfl,SqT.of (hs _ _ (s2 _ _ e2)),rfl,kq _ _ (Same.refl _) rfl⟩
  intro D1 vs1 H3 hl1 hq1 hs3 hD1 hDl1;have ev:vs1=ws.map tV:=by
   have:ws.map tV=(rs.map Prod.snd).map V.str:=by rw[ews,QA];rfl
   rw[this,QA];apply QU;intro i;rw[Qg];by_cases hi:i<rs.length
   ·have hiv:i<vs1.length:=by rw[hl1,hus.1];exact hi
    rw[Qa hiv,Qa hi,hq1 i _ (Qa hiv),Qb,Qa hi];rfl
   ·rw[Qo (by rw[hl1,hus.1];omega),Qo (by omega)];rfl
  subst ev;have s23:=s2.trans hs3;refine⟨_,rfl,D1,ta,_,_,rfl,rfl,hDl1,s23 _ _ hta,Zh (by rw[Qc,Qc];omega),fun mA hmA=>?_⟩;have s4:=Zb (o:=.lst (ws.map tV++ys.map tV)) hmA;have hml:(upd H3 mA (.lst (ws.map tV++ys.map tV))) mA=some (.lst ((ws++ys).map tV)):=by rw[Zd,Qz]
  have sA:=s23.trans s4;have hlA:=s4 _ _ (hs3 _ _ hl2);generalize upd H3 mA (.lst (ws.map tV++ys.map tV))=H4 at hml sA hlA;clear s4 hmA hDl1 hD1 hq1 hl1
  try dsimp only[XL]
  show Zdm (Zgf _ _ _) _ _ _ _;refine ZdF (fun σ H'=>∃ (v2:V) (hp2:Es) (m2:Addr),σ=[some (.ref q),some v2,some (.str (tx (bkD bk pd))),some (.ref ta),some (.bl bk),some (.ref l),z6,some (.ref m2),none,none]/\Same H4 H'/\Hv H' v2 (bkP bk ps) hp2/\H' m2=some (.lst (((ws++ys).map (bkD bk)).map tV))) (fun R hRR=>?_) ?_
  ·refine⟨_,rfl,_,rfl,?_⟩;cases bk with
   | false=>exact Yu rfl (hRR _ _ ⟨v,hp,mA,rfl,Same.refl _,hV.same sA,by rw[hml];congr 2;congr 1;exact(U5 _).symm⟩)
   | true =>
    refine Y3 rfl ?_;refine⟨_,rfl,mA,rfl,⟨_,SqL.of hml⟩,YD ((ws++ys).map tV).length (fun i=>((ws++ys).map tV).getD i .non) (fun i v _=>v=tV ((ws++ys).getD i []).reverse) (Zh (by rw[Qc,Qd];omega)) (fun _ _ _ _ _ r=>r) (Xi (SqL.of hml)) ?_ ?_⟩
    ·intro i H5 Qe hi hs kq;rw[Qc]at hi;have e0:(ws++ys).getD i []=(ws++ys)[i]:=by rw[Qb,Qa hi];rfl
     have eu:((ws++ys).map tV).getD i .non=tV (ws++ys)[i]:=by rw[Qb,Qg,Qa hi];rfl
     rw[e0]at kq;rw[eu];have hf:=(hws _ (QB hi)).few;exact⟨_,rfl,(ws++ys)[i],rfl,by omega,fun H6 s6=>kq _ _ s6 rfl⟩
    intro D2 vs2 H5 hl5 hr5 hs5 hD2 hDl2;have ev2:vs2=((ws++ys).map List.reverse).map tV:=by
     rw[QA];rw[Qc]at hl5;apply QU;intro i;rw[Qg];by_cases hi:i<(ws++ys).length
     ·have hiv:i<vs2.length:=by rw[hl5];exact hi
      rw[Qa hiv,Qa hi,hr5 i _ (Qa hiv),Qb,Qa hi];rfl
     ·rw[Qo (by omega),Qo (by omega)];rfl
    subst ev2;have hV5:=(hV.same sA).same hs5;obtain⟨qh,uh,rfl,hqh,hpa⟩:=ZiA hV5.at_;have hlen:=Z3 hO;have hpsl:=hR.len;refine⟨_,rfl,qh,rfl,⟨_,SqT.of hqh⟩,YD uh.length (fun i=>uh.getD i .non) (fun i v H'=>∃ b,v= .ref b/\H' b=some (.tup [.str (rv (hp.getD i ("",0)).1),.int (hp.getD i ("",0)).2])) (Zh (by rw[hpa.1];omega)) (fun i v H' H'' s' ⟨b,e,r⟩=>⟨b,e,s' _ _ r⟩) (Xz (SqT.of hqh)) ?_ ?_⟩
    ·intro i H6 Qe hi hs kq;have hie:i<hp.length:=by rw[←hpa.1];exact hi
     obtain⟨b,e1,e2⟩:=hpa.2 i hp[i] (Qa hie);have eu:uh.getD i .non= .ref b:=by rw[Qb,e1];rfl
     have eh:hp.getD i ("",0)=hp[i]:=by rw[Qb,Qa hie];rfl
     rw[eh]at kq;rw[eu];have hm1:=hR.one _ ((hO.mem _).mp (Qi.mpr ⟨hp[i],QB hie,rfl⟩));refine⟨b,_,rfl,SqT.of (hs _ _ e2),rfl,_,_,rfl,_,_,rfl,rfl,?_⟩;refine⟨_,rfl,hp[i].1.cps.toList,by rw[tx_eta];rfl,by rw[←Zn,tx_eta];omega,fun H7 s7=>?_⟩;refine⟨_,rfl,Zh (show 2<=1000 by decide),fun t ht=>?_⟩;exact kq _ _ (s7.trans (Zb ht)) ⟨t,rfl,Zd⟩
    intro D3 vs3 H6 hl6 hr6 hs6 hD3 hDl3;obtain⟨rr,er1,er2,er3,er4,er5⟩:=Zis (H1:=H6) hV hR (by rw[hl6,hpa.1]) hr6;rw[er1]at hDl3;refine⟨D3,rr,rfl,SqL.of hDl3,fun r hr=>⟨_,er2 r hr⟩,er3,er4,fun p7 rs' hp7 hperm hsrt=>?_⟩;refine⟨p7,_,rfl,.inl ⟨SqL.of Zd,fun d hd=>?_⟩⟩;have s7:=Zb (o:=.lst (rs'.map fun r=>V.ref r.1)) hp7;have s8:=Zb (o:=.tup (rs'.map fun r=>V.ref r.1)) hd;obtain⟨hp2,hV2⟩:=er5 rs' _ d (s7.trans s8) hperm hsrt Zd;refine⟨_,rfl,pd,rfl,by have:=hT.few;have:=hT.fit.le;omega,fun H9 s9=>?_⟩;refine hRR _ _ ⟨.ref d,hp2,D2,rfl,(hs5.trans hs6).trans ((s7.trans s8).trans s9),hV2.same s9,s9 _ _ (s8 _ _ (s7 _ _ (hs6 _ _ hDl2)))⟩
  rintro σ H5 ⟨v2,hp2,m2,rfl,s5,hV2,hm2⟩;have hl5:=s5 _ _ hlA;have sB:=sA.trans s5;have hM:∀ m∈(ws++ys).map (bkD bk),Tx (bkP bk ps) L m:=fun m hm=>by
   obtain⟨y,hy,rfl⟩:=Qi.mp hm;exact Zm2 bk (hws y hy)
  have hC:∀ (i:Nat) m s,((ws++ys).map (bkD bk))[i]?=some m->(rs.map Prod.fst)[i]?=some s->s∈beh m (bkD bk pd) (m.length-L+1):=fun i m s h1 h2=>by
   refine hTR.beh i m s ?_ h2;have hi:i<(ws.map (bkD bk)).length:=by rw[hTR.len];exact(Qp.mp h2).1
   rw[Qz,QO hi]at h1;exact h1
  have hMl:((ws++ys).map (bkD bk)).length<=73:=by rw[Qc,Qd];omega
  have htld:=hTR.tld;generalize (ws++ys).map (bkD bk)=M at *;generalize rs.map Prod.fst=told at *;generalize bkP bk ps=ps2 at *;generalize bkD bk pd=pd2 at *;refine⟨_,rfl,.ref m2,M.length,rfl,.inl ⟨_,SqL.of hm2,by rw[Qc]⟩,_,rfl,by omega,by omega,?_⟩;rw[Wl];refine YS (n:=M.length) (fun i σ H'=>∃ z8 z9:Option V,σ=[some (.ref q),some v2,some (.str (tx pd2)),some (.ref ta),some (.bl bk),some (.ref l),z6,some (.ref m2),z8,z9]/\Same H5 H')
   ⟨none,none,rfl,Same.refl _⟩ ?_ ?_
  ·rintro i σ H6 hi ⟨z8,z9,rfl,s6⟩;rw[UL];have hTm:=hM _ (QB hi);have hmi:(M.map tV)[((i:Nat):Int).toNat]?=some (tV M[i]):=by rw[Wl,Qg,Qa hi];rfl
   have hCi:=fun s h2=>hC i M[i] s (Qa hi) h2;generalize M[i]=m at *;have hmf:=hTm.few;have hml:=hTm.fit.le;refine⟨_,rfl,_,rfl,m2,_,(i:Int),tV m,rfl,rfl,SqL.of (s6 _ _ hm2),ZS (by omega) hmi,_,rfl,m,pd2,rfl,by omega,by omega,fun bA H7 s7 hbA=>?_⟩;rw[hplb]at hbA;have hl7:=s7 _ _ (s6 _ _ hl5);have hbn:=Ziq m pd2 (m.length-L+1);have hall:∀ s∈beh m pd2 (m.length-L+1),s∈told:=fun s hs=>by
    rw[htld];exact ZjG hTm hplb hs
   refine⟨_,rfl,_,rfl,.ref l,told.length,rfl,.inl ⟨_,SqL.of hl7,by rw[Qc]⟩,_,_,rfl,rfl,_,rfl,?_⟩;obtain⟨bs,ebs⟩:∃ bs,beh m pd2 (m.length-L+1)=bs:=⟨_,rfl⟩
   rw[ebs]at hbA hbn hall hCi;by_cases c:i<told.length
   case' pos =>
    have hin:=hCi told[i] (Qa c);have hat:(told.map V.str)[((i:Nat):Int).toNat]?=some (.str told[i]):=by rw[Wl,Qg,Qa c];rfl
    refine Y3 (decide_eq_true (by omega)) ?_;refine⟨_,rfl,_,rfl,l,_,(i:Int),.str told[i],rfl,rfl,SqL.of hl7,ZS (by omega) hat,_,rfl,bA,_,rfl,.inl (SqL.of hbA),rfl,by simp[X6],_,rfl,?_⟩;rw[ZfM];refine Yu (by simp[hin]) ?_
   case' neg=>refine Yu (decide_eq_false (by omega)) (Yu rfl ?_)
   all_goals
    refine⟨_,rfl,bA,rfl,⟨_,SqL.of hbA⟩,ZbQ (bs.map V.str).length (fun i=>(bs.map V.str).getD i .non) (fun _=>false) (Zh (by rw[Qc];omega)) (Xi (SqL.of hbA)) ?_ ?_⟩
    ·intro j H8 Qt Qf hj hs ht hf;rw[Qc]at hj;have eu:(bs.map V.str).getD j .non= .str bs[j]:=by rw[Qb,Qg,Qa hj];rfl
     have hin:=hall bs[j] (QB hj);rw[eu];refine⟨_,rfl,_,rfl,l,_,rfl,.inl (SqL.of (hs _ _ hl7)),rfl,by simp[X6],_,rfl,?_⟩;rw[ZfM];exact Yu (by simp[hin]) (hf rfl)
    ·intro D2 H8 hs hD2 hDl;refine⟨Zh (show 0<=1000 by decide),fun p0 hp0=>?_⟩;have s0:=Zb (o:=.lst []) hp0;refine⟨D2,p0,_,rfl,rfl,s0 _ _ hDl,Zd,_,rfl,Yu (by simp) ?_⟩;exact⟨_,_,rfl,((s6.trans s7).trans hs).trans s0⟩
  rintro σ H6 ⟨z8,z9,rfl,s6⟩;have hl6:=s6 _ _ hl5;have hso:∀ s∈told,PyData.strOk s=true:=fun s hs=>by
   rw[htld]at hs;obtain⟨r,hr,rfl⟩:=Qi.mp hs;obtain⟨_,_,_,_,h5,_⟩:=XO hTb hmb hr;exact h5
  refine⟨_,rfl,_,rfl,l,told,rfl,SqL.of hl6,by omega,fun p2 ks2 hp2' nd2 hmm2 hkl2=>?_⟩;refine⟨p2,ks2,rfl,Zd,by omega,fun q2 ss hq2 hpm2 hsr2=>?_⟩;generalize stO _ p2 ks2=so at hq2 ⊢;have w1:=(Zb (o:=so) hp2').trans (Zb (o:=.lst (ss.map V.str)) hq2);have ess:ss=told:=Zgk hsr2 (by rw[htld];exact Zl5 hTb.ro) fun x=>by rw[hpm2.mem_iff,hmm2]
  have hsh:=ZdD hso;subst ess;refine⟨_,_,Zck (w1 _ _ hl6),Zck Zd,hsh,hsh,?_⟩;rw[Zfh hsh];refine⟨_,rfl,Zkk ?_⟩;have s66:=s6.trans w1;exact⟨_,rfl,_,rfl,_,rfl,v2,ps2,hp2,tx pd2,l,L,_,rfl,hV2.same s66,hTb,hmb,by rw[w1 _ _ hl6,←htld],fun H' s'=>k _ ((sB.trans s66).trans s')⟩
end Sh
namespace L2
open PySem PySem.Spec PyProof.Rows
variable {X:Cx}
abbrev TB:=(Hp->Prop)->XK->St->Hp->Prop
def PB (X:Cx) (body:List Stmt) (tb:TB):Prop:=∀ (pins:List (Addr×Obj)) (s:Shared) (σ:St) (H:Hp) (nx:Hp->Prop) (E:XK) (Qn:Shared->Prop) (QE:Value->Shared->Prop),Inv X pins σ H s->(∀ s' H',Inv X pins σ H' s'->nx H'->Qn s') ->
 (∀ e s1 s2 H1,Inv X pins σ H1 s1->CXx X.prog X.w X.stack H1 s1 E e s2->QE e s2)->tb nx E σ H->wpAny (model X.prog X.w) X.A (execs body X.env) (fun f s'=>match f with | .next=>Qn s' | _=>False) QE s
def ZnZ (sp:Sp) (t:TA):TB:=fun nx E σ H=>t σ H fun vs H1=>sp vs H1 (fun _ H2=>nx H2) E
theorem ZdQ {k:Nat} {name:Str} {ps:List Str} {sp:Sp} {p cpos spos:Pos} {e:Expr} {es:List Expr} {t:TA} (G:FOkX X.prog X.w X.K X.mg X.base k name ps sp) (hr:Room k X.A) (ha:∀ E,PA (X.wish E) (e::es) t) (hg:Gl X name:=by rfl)
  (hdb:(name==("__debug__" : Str))=false:=by decide) (he:starEach (e::es) X.env=(false,eval e X.env)::starEach es X.env:=by rfl) (hpl:(backTo cpos (starEach es X.env)).any (·.1)=false:=by rfl)
  (hsw:swapsWith (.Call (.Name name p) (e::es) [] cpos) none spos.line X.env=pure false:=by rfl):PB X [.Expr (.Call (.Name name p) (e::es) [] cpos) spos] (ZnZ sp t):=by
 intro pins s σ H nx E Qn QE I hn hE h;obtain⟨f,fd,F,b,hm,hkp⟩:=G.ex;refine wpAny_execs_cons (wpAny_Expr_any ?_ I.quiet hsw);refine wpAny_Call_Name_kw (Zan I hg hm ?_ hdb);refine PySem.W.callWith_K (h₀:=X.base) I.ok.mod.kin hkp (thn (ha QE cpos pins s σ H _ (I.wish QE) h) fun us s1 ⟨vs,H1,I1',r,q⟩=>⟨I1'.unwish.kIn,?_⟩) he hpl;have I1:=I1'.unwish;have hl:us.length=ps.length:=by rw[←r.length];exact F.len _ _ _ _ q
 have hb1:=b s1 us I1.kIn (by simpa using hl);rw[Ud]at hb1;refine wpAny_call (codeAny_mono (F.run X.A X.stack s1 H1 ⟨us,[]⟩ us vs _ _ hr I1.env0 hb1 r q) fun rs s2 hq=>?_);cases rs with
 | ok fl =>
  cases fl with
  | ret u =>
   obtain⟨v,H2,I2,rv,q2⟩:=I1.after hq;exact wpAny_execs_nil (hn _ _ I2 q2)
  | next=>exact False.elim hq
  | brk=>exact False.elim hq
  | cont=>exact False.elim hq
 | error ev=>exact hE ev s1 s2 H1 I1 hq
def bIf (tc:TT) (a b:TB):TB:=fun nx E σ H=>tc σ H fun d H1=>if d=true then a nx E σ H1 else b nx E σ H1
theorem Zmk {c:Expr} {a b:List Stmt} {pos:Pos} {tc:TT} {ta tb:TB} (hc:∀ E,PT (X.wish E) c tc) (ha:PB X a ta) (hb:PB X b tb):PB X [.If c a b pos] (bIf tc ta tb):=by
 intro pins s σ H nx E Qn QE I hn hE h;refine wpAny_execs_cons (wpAny_If (thn (hc QE pins s σ H _ (I.wish QE) h) fun d s1 ⟨H1,I1,q1⟩=>?_));cases d with
 | true=>exact wpAny_mono (ha pins s1 σ H1 nx E (fun s'=>Qn s') QE I1.unwish hn hE q1) (fun f s' q=>by cases f <;> first | exact wpAny_execs_nil q | exact q.elim) fun _ _ z=>z
 | false=>exact wpAny_mono (hb pins s1 σ H1 nx E (fun s'=>Qn s') QE I1.unwish hn hE q1) (fun f s' q=>by cases f <;> first | exact wpAny_execs_nil q | exact q.elim) fun _ _ z=>z
def ZlL (K:PySem.W.Frag) (mg:Str->Option Value) (C2:Addr) (tb:TB) (i:Nat) (hs:Addr->Obj->TS):TS:=fun D σ H=>tb (fun H2=>D.nx σ H2)
 (fun cls _ H2=>(∃ y C bm,cls= .ref C/\XCls K mg y C bm/\bm.contains (.ref C2)=true)/\∀ ea oe,oe.cls=cls->H2 ea=none->hs ea oe (Zll D i) (σ.set i (some (.ref ea))) H2) σ H
theorem ZkX {x n:Str} {np hpos pos:Pos} {body:List Stmt} {tb:TB} {C2:Addr} {bm2:List Value} {b₀:Stmt} {suite:List Stmt} {hs:Addr->Obj->TS} (i:Nat)
  (hcalm:X.calm=true) (hstk:X.stack=X.env::X.outer) (hfr:X.env.frame=some X.env.locals) (hB:PB X body tb) (c:XCls X.K X.mg x C2 bm2)
  (hsuite:∀ ea oe pn,(ea,oe)∈pn->PSs (X.caught ea pn) (b₀::suite) (hs ea oe)) (hN:X.N.Nodup) (hi:X.N[i]?=some n:=by rfl) (hk:X.env.scope.names.lookup n=some .local:=by rfl) (hgx:Gl X x:=by rfl)
  (hdx:(x==("__debug__" : Str))=false:=by decide) :
  PS X (.Try body [.ExceptHandler (some (.Name x np)) (some n) (b₀::suite) hpos] [] [] pos) (ZlL X.K X.mg C2 tb i hs):=by
 intro pins s σ H D I h;refine wpAny_Try_except (wpAny_mono (hB pins s σ H _ _ (fun s'=>wpAny (model X.prog X.w) X.A (execs [] X.env) (SP X pins D) X.xe s') _ I (fun s' H2 I2 q2=>wpAny_execs_nil ⟨σ,H2,I2,q2⟩) ?_ h) (fun f s' q=>by cases f <;> first | exact q | exact q.elim) fun _ _ z=>z);intro ev s1 s2 H1 I1 hq;obtain⟨ea,cls,a0,H',B,rfl,os,bare,un,hok,fl,c1,c2,c3,⟨y,C,bm,rfl,cy,hsub⟩,hE⟩:=hq;have fl0:Heap.FlyingW B (X.env::X.outer) ea (.ref C) a0 s2.heap:=by rw[←hstk];exact fl
 have nfr:ea∉L2.frs X.stack:=fun hm=>by
  obtain⟨_,o,ho,hd⟩:=fl.2.2.1.mem hm;obtain⟨_,_,_,oe,vs',_,_,_,he',_,hd',_⟩:=fl;rw[he']at ho;cases ho;exact hd _ hd'
 have hfrs:L2.frs X.stack=X.env.locals::X.fs:=by rw[hstk];exact Zff hfr
 have nloc:ea≠X.env.locals:=fun z=>nfr (by rw[hfrs,z];exact Qj);have nfs:ea∉X.fs:=fun z=>nfr (by rw[hfrs];exact Ql _ z);have nH:H' ea=none:=by
  cases q3:H' ea with
  | none=>rfl
  | some u =>
   obtain⟨o,ho⟩:=c1 ea u q3;rw[fl.2.1]at ho;cases ho
 have key:∀ (h9:Heap) (tk:Nat),B.StaysIn h9->s2.heap.UpToSlots h9->Inv X pins σ H' {s2 with heap:=h9,toks:=tk}:=fun h9 tk hB up=>by
  refine I1.call' (ch:=[]) os ⟨fun b o q n hb _=>hB b o (c2 b o q n hb),fun b o q n hb _=>?_,un.free,fun b o q _=>?_,un.tups,un.frzs,un.tbls⟩ (hok.stays c1 fl.1 hB) bare (fun b z=>nomatch z)
  ·obtain⟨sl,q2⟩:=un.slot b o q n hb (by simp);obtain⟨_,o',ho,hd⟩:=fl.2.2.1.mem (b:=b) hb;rw[q2]at ho;cases ho;obtain⟨sl2,q3⟩:=up b _ q2 hd;exact⟨sl2,q3⟩
  ·by_cases hb:b∈L2.frs X.stack
   ·obtain⟨_,o',ho,hd⟩:=fl.2.2.1.mem (b:=b) hb;obtain⟨sl2,q3⟩:=up b _ ho hd;exact⟨_,q3⟩
   ·obtain⟨o',q3⟩:=c3 b o q hb;exact⟨o',hB b o' q3⟩
 refine wpAny_looks_onW (by rw[←hstk];exact I1.ok.frames) hfr fl0 fun h2 held up2=>wpAny_landsW held fun h3 fl3 up3=>?_;have up23:=up2.trans up3;obtain⟨oe3,ws3,he3,hcls3,hd3,_⟩:=fl3.first;have I3:=key h3 s2.toks fl3.1 up23;have J3:=I3.caught (oe:=oe3) he3 nH nloc nfs (fun v z=>by rw[hd3]at z;cases z);obtain⟨N1,nm1,qn1,bs1,hdct1,sn1,sub1,ab1,col1,dd1,k01,k11,k21,k31,k51,mN1,hC1,_,_,T1⟩:=cy.at I3.kIn;obtain⟨N2,nm2,qn2,bs2,hdct2,sn2,sub2,ab2,col2,dd2,k02,k12,k22,k32,k52,mN2,hC2,_,_,T2⟩:=c.at I3.kIn;refine wpAny_handleBy_cons (codeAny_handlers_test (Zan J3 hgx c.bound ?_ hdx)) (by intro z;cases z);refine ZaP hC1 hC2 he3 hcls3 (T2.hasType PySem.F.excBase_ValueError.hasBase) hsub ?_;refine codeAny_handlers_suite_as (lands_againW fl3 fun h4 fl4 up4=>?_);obtain⟨oe4,ws4,he4,hcls4,hd4,_⟩:=fl4.first;have I4:=key h4 s2.toks fl4.1 (up23.trans up4);have J4:=I4.caught (oe:=oe4) he4 nH nloc nfs (fun v z=>by rw[hd4]at z;cases z);refine Zbl (X:=X.caught ea (X.pn++pins++[(ea,oe4)])) J4 hN hi (.inl hk) (v:=.ref ea) rfl (fun s5 J5=>?_) (.inr hk);refine wpAny_mono (hsuite ea oe4 _ (QH _ (Qm.mpr rfl)) [] s5 _ H' (Zll D i) J5 (hE ea oe4 hcls4 nH)) (fun fl6 s6 q6=>?_) (fun _ _ z=>z.elim);cases fl6 with
 | next =>
  obtain⟨σ6,H6,I6,q7⟩:=q6;exact XY (I6.uncaught I.ok) hN hi hk fun s7 I7=>⟨_,H6,I7,q7⟩
 | brk =>
  obtain⟨σ6,H6,I6,q7⟩:=q6;exact XY (I6.uncaught I.ok) hN hi hk fun s7 I7=>⟨_,H6,I7,q7⟩
 | cont =>
  obtain⟨σ6,H6,I6,q7⟩:=q6;exact XY (I6.uncaught I.ok) hN hi hk fun s7 I7=>⟨_,H6,I7,q7⟩
 | ret u =>
  obtain⟨v6,σ6,H6,I6,r6,q7⟩:=q6;exact XY (I6.uncaught I.ok) hN hi hk fun s7 I7=>⟨v6,_,H6,I7,r6,q7⟩
end L2
namespace Sh
open PySem L2 PyProof.Rows
seal L2.PE L2.PS L2.PSs L2.PT L2.PW L2.PA L2.PI L2.PG L2.PGs L2.PO L2.PC L2.PCs L2.OpR L2.UnR L2.CallR L2.MtR L2.IxR L2.SlR L2.PB
variable {P:Program} {w:World} {K:PySem.W.Frag} {mg:Str->Option Value} {base:Heap}
structure Zn4 (K:PySem.W.Frag) (mg:Str->Option Value) (S C C2 A1 A2 A3 A4 A5 A6 A7:Addr):Prop where
 sh:XCls K mg "ShredError" S (ZfX K S)
 np:XCls K mg "NoPiece" C (ZfX K C)
 nt:XCls K mg "NoTexts" C2 (ZfX K C2)
 up1:(ZfX K C).contains (.ref S)=true
 up2:(ZfX K C2).contains (.ref S)=true
 at1:JM K C
 at2:JM K C2
 v1:PySem.W.kitOne K (.ref C) (.type "ValueError")=some true
 v2:PySem.W.kitOne K (.ref C2) (.type "ValueError")=some true
 x1:PySem.W.kitOne K (.ref C) (.ref C2)=some false
 x2:PySem.W.kitOne K (.ref C2) (.ref C)=some false
 o1:PySem.W.kitAny K (.ref C) [.ref A1,.ref A2,.ref A3,.ref A4,.ref A5,.ref A6,.ref A7]=some false
 o2:PySem.W.kitAny K (.ref C2) [.ref A1,.ref A2,.ref A3,.ref A4,.ref A5,.ref A6,.ref A7]=some false
 g1:mg "NoText" = some (.ref A1)
 g2:mg "NoHeap" = some (.ref A2)
 g3:mg "NoLine" = some (.ref A3)
 g4:mg "NoNumber" = some (.ref A4)
 g5:mg "NoDeed" = some (.ref A5)
 g6:mg "Unlike" = some (.ref A6)
 g7:mg "Apart" = some (.ref A7)
 vn:mg "ValueError" = none
theorem ZlI {K:PySem.W.Frag} {mg:Str->Option Value} {C2:Addr} {tb:TB} {i:Nat} {hs:Addr->Obj->TS} {D:Zdo} {σ:L2.St} {H:Hp} (cls:Value) (R:Hp->Prop) (key:∀ (nx:Hp->Prop) (E:XK),(∀ H1,R H1->E cls none H1)->tb nx E σ H)
  (fin:∀ H2,R H2->(∃ y C bm,cls= .ref C/\XCls K mg y C bm/\bm.contains (.ref C2)=true)/\∀ ea oe,oe.cls=cls->H2 ea=none->hs ea oe (Zll D i) (σ.set i (some (.ref ea))) H2):ZlL K mg C2 tb i hs D σ H:=key _ _ fin
def Zol (ps:List Str) (e:Str×Int) (es:Es) (p:Str) (b:Bool):Prop:=(b=true/\p∉ps)\/(b=false/\p∈ps/\¬ JN e es)
section
variable {P:Program} {w:World} {K:PySem.W.Frag} {mg:Str->Option Value} {base:Heap} {S C C2 A1 A2 A3 A4 A5 A6 A7:Addr}
abbrev Jp:Stmt:=top 46
abbrev ZfG:List Str:=["H","piece","stretch"]
theorem ZdH:Zp ZfG ["H","piece"] (Zg Jp):=⟨rfl,rfl,rfl,by decide +kernel,rfl,by decide +kernel,by decide +kernel⟩
def ZjU (C C2:Addr):Sp:=fun vs H Q E=>∃ (v:V) (ps:List Str) (e:Str×Int) (es:Es) (p:Str) (b:Bool),vs=[v,.str p]/\Hv H v ps (e::es)/\RO ps/\Zol ps e es p b/\∀ H',Same H H'->E (.ref (if b then C else C2)) none H'
theorem ZaM (D:HasDef K mg "stretch_of" Jp ["H","piece"]) (g24_:FOkX P w K mg base 7 "check_piece" ["H","piece"] (ZeG C C2)):FOkX P w K mg base 8 "stretch_of" ["H","piece"] (ZjU C C2):=by
 refine D.okX ZdH (fun vs H Q E h=>?_) (fun f cdv A outer s vs H Q E L hr h=>?_)
 ·obtain⟨v,ps,e,es,p,b,rfl,_⟩:=h;rfl
 ·obtain⟨v,ps,e,es,p,b,rfl,hV,hR,h,k⟩:=h;refine⟨_,(Ze (Z8 (Zhe g24_ L hr (Za (pv 0) (Za (pv 1) Zc)))) Zg4),?_⟩;refine⟨_,rfl,_,rfl,v,ps,e,es,p,rfl,hV,hR,?_⟩;rcases h with ⟨rfl,hm⟩ | ⟨rfl,hm,hn⟩
  ·exact .inl ⟨hm,k⟩
  ·exact .inr (.inl ⟨hm,hn,k⟩)
abbrev Zab:Stmt:=top 65
abbrev ZhD:List Str:=["_law_heap","_law_piece","_law_way","_law_none","_law_own","error"]
theorem scLRefused:Zp ZhD ["_law_heap","_law_piece","_law_way","_law_none"] (Zg Zab):=⟨rfl,rfl,rfl,by decide +kernel,rfl,by decide +kernel,by decide +kernel⟩
def ZjX:Sp:=fun vs H Q _=>∃ (v:V) (ps:List Str) (e:Str×Int) (es:Es) (p:Str) (n:Int) (b:Bool),vs=[v,.str p,.int n,.bl b]/\Hv H v ps (e::es)/\RO ps/\Zol ps e es p b/\∀ H',Same H H'->Q (.bl true) H'
theorem Zcy (D:HasDef K mg "_law_refused" Zab ["_law_heap","_law_piece","_law_way","_law_none"]) (B:Blt mg) (Er:Zn4 K mg S C C2 A1 A2 A3 A4 A5 A6 A7) (G1:FOkX P w K mg base 9 "behind_of" ["H","piece"] (J0 C C2)) (G2:FOkX P w K mg base 9 "ahead_of" ["H","piece"] (Zbp C C2)) (G3:FOkX P w K mg base 9 "stretch_of" ["H","piece"] (ZjU C C2)) :
  FOk P w K mg base 10 "_law_refused" ["_law_heap","_law_piece","_law_way","_law_none"] ZjX:=by
 refine D.ok scLRefused (fun vs H Q E h=>?_) (fun f cdv A outer s H vs Q E hr h=>?_)
 ·obtain⟨v,ps,e,es,p,n,b,rfl,_⟩:=h;rfl
 ·obtain⟨v,ps,e,es,p,n,b,rfl,hV,hR,hP,k⟩:=h;refine⟨_,(Ze (Zm (i:=4) scLRefused.nd rfl (.inl rfl) (ZT Zc))
   (Zg5 (ZkX 5 rfl rfl rfl (Zmk (fun _=>Zt YE (pv 2) Zf (Zy _)) (ZdQ G1 hr (fun _=>Za (pv 0) (Za (pv 1) Zc))) (Zmk (fun _=>Zt YE (pv 2) Zf (Zy _)) (ZdQ G2 hr (fun _=>Za (pv 0) (Za (pv 1) Zc))) (ZdQ G3 hr (fun _=>Za (pv 0) (Za (pv 1) Zc))))) Er.sh (fun ea oe pn hm =>
    (Ze (Zm (i:=4) scLRefused.nd rfl (.inl rfl) (ZT (Za (Zj (ZaB hm) rfl B.isi Zdg (Za (pv 5) (Za (YW (v:=.ref C) rfl Er.np.bound rfl) Zc))) (Za (Zj (ZaB hm) rfl B.isi Zdg (Za (pv 5) (Za (YW (v:=.ref C2) rfl Er.nt.bound rfl) Zc))) (Za (Zj (ZaB hm) rfl B.isi Zdg (Za (pv 5) (Za (Zhc rfl Er.vn ZoI) Zc))) Zc)))))
    (Zi (Z8 (Zmj K F.plainAttrs_list F.slot_list_append F.type_list_append Z1 (pv 4) (Za (Zj (Zip hm) rfl B.isi Zdg (Za (pv 5) (Za (Yt (Za (YW (v:=.ref A1) rfl Er.g1 rfl) (Za (YW (v:=.ref A2) rfl Er.g2 rfl) (Za (YW (v:=.ref A3) rfl Er.g3 rfl) (Za (YW (v:=.ref A4) rfl Er.g4 rfl) (Za (YW (v:=.ref A5) rfl Er.g5 rfl) (Za (YW (v:=.ref A6) rfl Er.g6 rfl) (Za (YW (v:=.ref A7) rfl Er.g7 rfl) Zc)))))))) Zc))) Zc)))))) scLRefused.nd)
   (Zi (Zq (XG (Zhl hr.units) (pv 4) (ZT (Za (pv 3) (Za (Zhd (pv 3)) (Za Yf (Za Yf Zc))))) (Zy _)))))),?_⟩
  refine⟨QV _,fun p0 hp0=>?_⟩;have s0:=Zb (o:=.lst []) hp0;generalize upd H p0 (.lst [])=H00 at s0;have hV0:=hV.same s0;refine⟨fun σ H'=>∃ p a0 a1 a2 a5,σ=[a0,a1,a2,some (.bl b),some (.ref p),a5]/\Same H H'/\H' p=some (.lst ([b,!b,true,false].map V.bl)),?_,?_⟩
  ·obtain⟨Cx,eCx⟩:∃ Cx,Cx=if b then C else C2:=⟨_,rfl⟩
   have hX:∃ y,XCls K mg y Cx (ZfX K Cx):=by
    cases b
    ·exact⟨_,by rw[eCx];exact Er.nt⟩
    ·exact⟨_,by rw[eCx];exact Er.np⟩
   have hup:(ZfX K Cx).contains (.ref S)=true:=by
    cases b
    ·rw[eCx];exact Er.up2
    ·rw[eCx];exact Er.up1
   have hat:JM K Cx:=by
    cases b
    ·rw[eCx];exact Er.at2
    ·rw[eCx];exact Er.at1
   have k1:PySem.W.kitOne K (.ref Cx) (.ref C)=some b:=by
    cases b
    ·rw[eCx];exact Er.x2
    ·rw[eCx];exact Zfc
   have k2:PySem.W.kitOne K (.ref Cx) (.ref C2)=some (!b):=by
    cases b
    ·rw[eCx];exact Zfc
    ·rw[eCx];exact Er.x1
   have k3:PySem.W.kitOne K (.ref Cx) (.type "ValueError")=some true:=by
    cases b
    ·rw[eCx];exact Er.v2
    ·rw[eCx];exact Er.v1
   have k4:PySem.W.kitAny K (.ref Cx) [.ref A1,.ref A2,.ref A3,.ref A4,.ref A5,.ref A6,.ref A7]=some false:=by
    cases b
    ·rw[eCx];exact Er.o2
    ·rw[eCx];exact Er.o1
   obtain⟨y,hX⟩:=hX;refine ZlI (.ref Cx) (Same H00) (fun nx E hE=>?_) (fun H1 hs1=>?_)
   ·rw[eCx]at hE;have hE1:∀ {X:Prop},(b=true->p∉ps->(∀ H1,Same H00 H1->E (.ref C) none H1)->X)->(b=false->p∈ps->¬ JN e es->(∀ H1,Same H00 H1->E (.ref C2) none H1)->X)->X:=fun h1 h2=>by
     rcases hP with ⟨rfl,hm⟩ | ⟨rfl,hm,hn⟩
     ·exact h1 rfl hm hE
     ·exact h2 rfl hm hn hE
    refine⟨_,rfl,rfl,_,rfl,?_⟩;by_cases c1:n=0
    ·refine Y3 (Za6 c1) ?_;exact⟨_,rfl,_,rfl,v,ps,e,es,p,rfl,hV0,hR,hE1 (fun _ hm q=>.inl ⟨hm,q⟩) fun _ hm hn q=>.inr (.inl ⟨hm,hn,q⟩)⟩
    refine Yu (Zau c1) ?_;refine⟨_,rfl,rfl,_,rfl,?_⟩;by_cases c2:n=1
    ·refine Y3 (Za6 c2) ?_;exact⟨_,rfl,_,rfl,v,ps,e,es,p,rfl,hV0,hR,hE1 (fun _ hm q=>.inl ⟨hm,q⟩) fun _ hm hn q=>.inr (.inl ⟨hm,hn,q⟩)⟩
    refine Yu (Zau c2) ?_;exact⟨_,rfl,_,rfl,v,ps,e,es,p,b,rfl,hV0,hR,hP,hE⟩
   refine⟨⟨_,_,_,rfl,hX,hup⟩,fun ea oe hoe hne=>?_⟩;refine⟨_,rfl,.ref C,Cx,.ref C,b,rfl,hoe,hat,rfl,k1,_,rfl,.ref C2,Cx,.ref C2,!b,rfl,hoe,hat,rfl,k2,_,rfl,.ty "ValueError",Cx,_,true,rfl,hoe,hat,rfl,k3,(show 3<=sizeLine by rw[sizeLine_eq];decide),fun p hp=>?_⟩;have s1:=Zb (o:=.lst [.bl b,.bl (!b),.bl true]) hp;refine⟨_,rfl,.inl ⟨rfl,_,SqL.of Zd⟩,_,rfl,(show 7<=sizeLine by rw[sizeLine_eq];decide),fun t ht=>?_⟩;have s2:=Zb (o:=.tup [.ref A1,.ref A2,.ref A3,.ref A4,.ref A5,.ref A6,.ref A7]) ht;refine⟨t,Cx,[A1,A2,A3,A4,A5,A6,A7],false,rfl,hoe,hat,Zd,k4,p,_,_,rfl,rfl,s2 _ _ Zd,(show 3<sizeLine by rw[sizeLine_eq];decide),?_⟩;refine⟨p,_,_,_,_,rfl,fun b o e=>?_,?_⟩
   ·have e1:=hs1 b o (s0 b o e);rw[Zl (Zo e1 hp)];exact s2 b o (s1 b o e1)
   ·rw[Zd];rfl
  ·rintro σ H' ⟨p,a0,a1,a2,a5,rfl,sH,hp⟩;refine⟨_,rfl,_,rfl,_,rfl,_,rfl,(show 4<=sizeLine by rw[sizeLine_eq];decide),fun q hq=>?_⟩;have s1:=Zb (o:=.lst ([b,!b,true,false].map V.bl)) hq;have hsh:SeqAt.shaped (.list ([b,!b,true,false].map PyData.bool))=true:=by cases b <;> decide +kernel
   refine⟨_,_,Zcn (bs:=[b,!b,true,false]) (s1 _ _ hp),Zcn (bs:=[b,!b,true,false]) Zd,hsh,hsh,?_⟩;rw[Zfh hsh];exact k _ (sH.trans s1)
end
end Sh
namespace L2
open PySem PyProof.Rows
theorem ZkY {X:Cx} {tg l:Expr} {tl:TE} (K:PySem.W.Frag) (hl:PE X l tl) (h:X.K=K:=by rfl):PI X tg l (Zoh K tl):=by
 subst h;exact Yy hl
end L2
namespace Sh
open PySem L2 PyProof.Rows
seal L2.PE L2.PS L2.PSs L2.PT L2.PW L2.PA L2.PI L2.PG L2.PGs L2.PO L2.PC L2.PCs L2.OpR L2.UnR L2.CallR L2.MtR L2.IxR L2.SlR L2.PB
variable {P:Program} {w:World} {K:PySem.W.Frag} {mg:Str->Option Value} {base:Heap}
variable {L:Nat} {h:Heap} {pd z:List Nat} {ps:List Str}
theorem Za0 {c k:Nat} (h:1<=k):Txt.mul (tx [c]) (k:Int)=tx (QJ k c):=by
 rw[←tx_eta (Txt.mul _ _),ZcK (by omega) (by rw[Zn];exact Nat.one_ne_zero),Zs,Wl];congr 1;clear h;induction k with
 | zero=>rfl
 | succ k ih=>rw[Wf,WQ,ih];rfl
theorem ch1 (c:Nat) (s:Str) (h:s=tx [c]:=by rfl):s=tx [c]:=h
def Znw:Scope:={kind:=.function,names:=[(".0",.local),("_law_one",.local),("len",.globalImplicit),("_law_heap",.cell)],isGenerator:=false,isCoroutine:=false,more:=[]}
theorem Zj1 {hp:Es} (hne:hp≠[]) (sd:Int):0<=sd % (hp.length:Int)/\0<(hp.length:Int)/\∃ x∈hp,hp[(sd % (hp.length:Int)).toNat]?=some x:=by
 have h0:0<hp.length:=UJ.mpr hne;have m:=ZW sd (show(0:Int)<hp.length by omega);have hl:(sd % (hp.length:Int)).toNat<hp.length:=by omega
 exact⟨m.1,by omega,hp[(sd % (hp.length:Int)).toNat],QB hl,Qa hl⟩
abbrev ZiW:Stmt:=top 66
abbrev Zmy:List Str:=["_law_heap","_law_seed_here","_law_long","_law_piece","_law_some"]
theorem scLOdd:Zp Zmy ["_law_heap","_law_seed_here"] (Zg ZiW):=⟨rfl,rfl,rfl,by decide +kernel,rfl,by decide +kernel,by decide +kernel⟩
def Zl0:Sp:=fun vs H Q _=>∃ (v:V) (ps:List Str) (hp:Es) (L:Nat) (z:List Nat) (sd:Int),vs=[v,.int sd]/\Hv H v ps hp/\Tx ps L z/\∀ q os H',Same H H'->H' q=some (.lst (os.map V.str))->os≠[]->os.length<=6->(∀ o∈os,o∉ps)->Q (.ref q) H'
theorem Zi8 (D:HasDef K mg "_law_odd" ZiW ["_law_heap","_law_seed_here"]) (B:Blt mg):FOk P w K mg base 1 "_law_odd" ["_law_heap","_law_seed_here"] Zl0:=by
 refine D.ok scLOdd (fun vs H Q E h=>?_) (fun f cdv A outer s H vs Q E hr h=>?_)
 ·obtain⟨v,ps,hp,L,z,sd,rfl,_⟩:=h;rfl
 ·obtain⟨v,ps,hp,L,z,sd,rfl,hV,hT,k⟩:=h;refine⟨_,(Ze (Zm (i:=2) scLOdd.nd rfl (.inl rfl) (Zj Zr rfl B.len ZX (Za (ZB ix_tup (ZB ix_tup (pv 0) Zf (fun _ _=>rfl)) Zf (fun _ _=>rfl)) Zc)))
   (Ze (Zm (i:=3) scLOdd.nd rfl (.inl rfl) (ZB ix_tup (ZB ix_tup (pv 0) (Zk ZR (pv 1) (Zj Zr rfl B.len ZX (Za (pv 0) Zc))) (fun _ _=>rfl)) Zf (fun _ _=>rfl)))
   (Ze (Zm (i:=4) scLOdd.nd rfl (.inl rfl) (ZT (Za (Zk ZD (pv 3) ZY) (Za (ZC Z4 (pv 3) (ZE Zf) Z0) (Za (Zk ZD (pv 3) (pv 3)) (Za (Zk ZD (ZC Z4 (pv 3) Z0 (ZE (Zk Ye (pv 2) Zf))) ZY) (Za (Zk ZD (ZC Z4 (pv 3) Z0 (ZE (Zk Ye (pv 2) Zf))) ZY) (Za (Zk XH ZY (pv 2)) Zc))))))))
   (Zi (Zq (ZK (Zg ZiW) Zmy ["_law_one"] [0] rfl (Ym (pv 4)) (fun _ _ _ _ _=>Z6 0) (fun _ _ _ _ _=>YL (PW.pt (Zco (Zt Zi4 (pv 0) ZY (Zy _)) (Zco (Zt Zk1 (Zj (Zda K) rfl B.len ZX (Za (pv 0) Zc)) Zf (Zy _)) (ZbA (Zt (XX K) (pv 0) (ZK Znw ["_law_one","_law_heap"] ["_law_two","_law_many"] [] rfl (ZkY K (pv 1)) (fun _ _ _ _ _=>Yc 2 K rfl (Zw (Z6 0) (Zw (Z6 1) Yb))) (fun _ _ _ _ _=>Yd) (fun _ _ _ _ _=>(pv 0))) rfl)))))) (fun _ _ _ _ _=>(pv 0)))))))),?_⟩
  have hO:=hV.of;have hR:=hT.ro;have hlen:=Z3 hO;have hpsl:=hR.len;obtain⟨e0,es0,rfl⟩:=ZcS hO hT.ne;have hlenp:∀ x∈e0::es0,x.1.length=L/\x.1∈ps:=fun x hx=>by
   have:=(hO.mem x.1).mp (Qi.mpr ⟨x,hx,rfl⟩);exact⟨hT.len this,this⟩
  have one:=hT.fit.one;have hLz:=hT.fit.le;have hzf:=hT.few;obtain⟨qh,uh,rfl,hqh,hpa⟩:=ZiA hV.at_;obtain⟨b0,eb0,hb0⟩:=hpa.2 0 e0 rfl;refine⟨_,rfl,qh,uh,0,.ref b0,rfl,rfl,SqT.of hqh,ZS (by decide) eb0,b0,_,0,.str e0.1,rfl,rfl,SqT.of hb0,rfl,.str e0.1,L,rfl,⟨ZQ (by rw[(hlenp e0 Qj).1];omega),(hlenp e0 Qj).1.symm⟩,?_⟩;obtain⟨r0,r1,x,hx,ex⟩:=Zj1 (UG e0 es0) sd;obtain⟨b1,eb1,hb1⟩:=hpa.2 _ x ex;refine⟨_,rfl,_,rfl,_,rfl,.ref qh,(e0::es0).length,rfl,.inr ⟨_,SqT.of hqh,hpa.1.symm⟩,_,_,rfl,rfl,r1,qh,uh,_,.ref b1,rfl,rfl,SqT.of hqh,ZS r0 eb1,b1,_,0,.str x.1,rfl,rfl,SqT.of hb1,rfl,?_⟩;obtain⟨hxl,hxm⟩:=hlenp x hx;generalize x.1=p at hxl hxm;obtain⟨pd,rfl⟩:∃ pd,p=tx pd:=⟨_,(tx_eta p).symm⟩
  rw[Zn]at hxl;have htk:(pd.take ((L:Int)-1).toNat).length<=63:=by rw[QP];omega
  refine⟨_,rfl,_,_,rfl,rfl,Zh (by rw[Zn,hxl,ch1 97 "a",Zn];show L+1<=1000;omega),?_⟩;refine⟨_,rfl,_,rfl,tx pd,rfl,ZG (by omega),?_⟩;rw[XQ (by rw[Zn];omega)];refine⟨_,rfl,_,rfl,_,_,rfl,rfl,Zh (by rw[Zn];omega),?_⟩;refine⟨_,rfl,_,rfl,_,_,rfl,rfl,_,rfl,tx pd,rfl,ZG (by omega),?_⟩;rw[Z5 (by omega)];refine⟨_,_,rfl,rfl,Zh (by rw[Zn,ch1 113 "q",Zn];show _+1<=1000;omega),?_⟩;refine⟨_,rfl,_,rfl,_,_,rfl,rfl,_,rfl,tx pd,rfl,ZG (by omega),?_⟩;rw[Z5 (by omega)];refine⟨_,_,rfl,rfl,Zh (by rw[Zn,ch1 120 "x",Zn];show _+1<=1000;omega),?_⟩;refine⟨_,rfl,_,_,rfl,rfl,YR (by omega) (by omega) (by decide),?_⟩;rw[ch1 106 "j",Za0 one];refine⟨Zh (show 6<=1000 by decide),fun l hl=>?_⟩;obtain⟨ys,eys⟩:∃ ys:List Str,ys=[tx pd ++ "a",en (tx pd),tx pd++tx pd,tx (pd.take ((L:Int)-1).toNat) ++ "q",tx (pd.take ((L:Int)-1).toNat) ++ "x",tx (QJ L 106)]:=⟨_,rfl⟩
  have hyl:∀ y∈ys,y.length<=1000:=fun y hy=>by
   rw[eys,ch1 97 "a",ch1 113 "q",ch1 120 "x",Z7,Z7,Z7,Z7]at hy;simp only[Qy,WU,or_false]at hy;rcases hy with rfl | rfl | rfl | rfl | rfl | rfl
   ·rw[Zn,Qd];show _+1<=1000;omega
   ·rw[Za9,Zn];omega
   ·rw[Zn,Qd];omega
   ·rw[Zn,Qd];show _+1<=1000;omega
   ·rw[Zn,Qd];show _+1<=1000;omega
   ·rw[Zn,Q4];omega
  have hy6:ys.length=6:=by rw[eys];rfl
  have hy0:∃ (h0:0<ys.length),ys[0]≠""/\ys[0].length<301/\ys[0]∉ps:=by
   refine⟨by omega,?_⟩;have e0:ys[0]'(by omega)=tx (pd++[97]):=by
    simp only[eys,List.getElem_cons_zero];rw[ch1 97 "a",Z7]
   rw[e0];have hl1:(tx (pd++[97])).length=L+1:=by rw[Zn,Qd,hxl];rfl
   refine⟨fun e=>?_,by rw[hl1];omega,fun q=>?_⟩
   ·rw[e]at hl1;have:("" : Str).length=0:=rfl;omega
   ·have:=hT.len q;omega
  have s1:=Zb (o:=(HO.lst [V.str (tx pd ++ "a"),V.str (en (tx pd)),V.str (tx pd++tx pd),V.str (tx (pd.take ((L:Int)-1).toNat) ++ "q"),V.str (tx (pd.take ((L:Int)-1).toNat) ++ "x"),V.str (tx (QJ L 106))])) hl;have hl1:(upd H l (HO.lst [V.str (tx pd ++ "a"),V.str (en (tx pd)),V.str (tx pd++tx pd),V.str (tx (pd.take ((L:Int)-1).toNat) ++ "q"),V.str (tx (pd.take ((L:Int)-1).toNat) ++ "x"),V.str (tx (QJ L 106))])) l=some (.lst (ys.map V.str)):=by
   rw[Zd,eys];rfl
  generalize upd H l (HO.lst [V.str (tx pd ++ "a"),V.str (en (tx pd)),V.str (tx pd++tx pd),V.str (tx (pd.take ((L:Int)-1).toNat) ++ "q"),V.str (tx (pd.take ((L:Int)-1).toNat) ++ "x"),V.str (tx (QJ L 106))])=H1 at s1 hl1 ⊢;clear eys;refine⟨_,rfl,l,rfl,⟨_,SqL.of hl1⟩,ZbP (ys.map V.str).length (fun i=>(ys.map V.str).getD i .non) (fun i=>decide (ys.getD i ""≠""/\(ys.getD i "").length<301/\ys.getD i ""∉ps)) (fun i v _=>v= .str (ys.getD i "")) (Zh (by rw[Qc];omega)) (fun _ _ _ _ _ r=>r) (Xi (SqL.of hl1)) ?_ ?_⟩
  ·intro i H2 Qt Qf hi hs ht hf;rw[Qc]at hi;have eu:(ys.map V.str).getD i .non= .str ys[i]:=by rw[Qb,Qg,Qa hi];rfl
   have eg:ys.getD i "" = ys[i]:=by rw[Qb,Qa hi];rfl
   have hyi:=hyl _ (QB hi);rw[eg]at ht hf;rw[eu];generalize ys[i]=y at *;refine⟨_,rfl,rfl,_,rfl,?_⟩;rw[ZlU];by_cases c1:y = ""
   ·refine Yu (by rw[decide_eq_true c1];rfl) (Yu rfl ?_);exact hf (decide_eq_false fun q=>q.1 c1) _ (Same.refl _)
   refine Y3 (by rw[decide_eq_false c1];rfl) ?_;refine⟨_,rfl,.str y,y.length,rfl,⟨ZQ (by omega),rfl⟩,_,_,rfl,rfl,_,rfl,?_⟩;by_cases c2:¬ y.length<301
   ·refine Yu (decide_eq_false (by omega)) (Yu rfl ?_);exact hf (decide_eq_false fun q=>c2 q.2.1) _ (Same.refl _)
   have c2:=Classical.not_not.mp c2;refine Y3 (decide_eq_true (by omega)) ?_;have hqh2:=hs _ _ (s1 _ _ hqh);refine⟨_,rfl,_,rfl,qh,rfl,⟨_,SqT.of hqh2⟩,YD uh.length (fun i=>uh.getD i .non) (fun i v _=>v= .str ((e0::es0).getD i ("",0)).1) (Zh (by rw[hpa.1];omega)) (fun _ _ _ _ _ r=>r) (Xz (SqT.of hqh2)) ?_ ?_⟩
   ·intro j H3 Qe hj hs3 kq;have hje:j<(e0::es0).length:=by rw[←hpa.1];exact hj
    obtain⟨b,e1,e2⟩:=hpa.2 j (e0::es0)[j] (Qa hje);have ev:uh.getD j .non= .ref b:=by rw[Qb,e1];rfl
    have ee:(e0::es0).getD j ("",0)=(e0::es0)[j]:=by rw[Qb,Qa hje];rfl
    rw[ee]at kq;rw[ev];exact⟨b,_,rfl,SqT.of (hs3 _ _ (hs _ _ (s1 _ _ e2))),rfl,_,_,rfl,_,_,rfl,rfl,_,rfl,kq _ _ (Same.refl _) rfl⟩
   intro D3 vs3 H3 hl3 hr3 hs3 hD3 hDl3;have ev3:vs3=((e0::es0).map (·.1)).map V.str:=by
    rw[QA];apply QU;intro j;rw[Qg];by_cases hj:j<(e0::es0).length
    ·have hjv:j<vs3.length:=by rw[hl3,hpa.1];exact hj
     rw[Qa hjv,Qa hj,hr3 j _ (Qa hjv),Qb,Qa hj];rfl
    ·rw[Qo (by rw[hl3,hpa.1];omega),Qo (by omega)];rfl
   rw[ev3]at hDl3;refine⟨D3,_,rfl,.inl (SqL.of hDl3),rfl,by simp[X6],_,rfl,?_⟩;rw[ZfM];by_cases c3:y∈ps
   ·refine Yu (by rw[decide_eq_true ((hO.mem y).mpr c3)];rfl) ?_;exact hf (decide_eq_false fun q=>q.2.2 c3) _ hs3
   ·refine Y3 (by rw[decide_eq_false fun q=>c3 ((hO.mem y).mp q)];rfl) ?_;exact⟨_,rfl,ht (decide_eq_true ⟨c1,c2,c3⟩) _ _ hs3 rfl⟩
  ·intro D2 vs2 H2 hl2 hR2 hs2 hD2 hDl2;obtain⟨ix,eix⟩:∃ ix,(Qq (ys.map V.str).length).filter (fun i=>decide (ys.getD i ""≠""/\(ys.getD i "").length<301/\ys.getD i ""∉ps))=ix:=⟨_,rfl⟩
   have hixl:ix.length<=6:=by
    rw[←eix];refine Wg (Q7 _ _) ?_;rw[Q5,Qc];omega
   have hixm:∀ i∈ix,ys.getD i ""∉ps:=fun i hi=>by
    rw[←eix]at hi;exact(of_decide_eq_true (QD.mp hi).2).2.2
   have hix0:ix≠[]:=fun e=>by
    have:0∈ix:=by
     rw[←eix];obtain⟨h0,q1,q2,q3⟩:=hy0;have eg:ys.getD 0 "" = ys[0]:=by rw[Qb,Qa h0];rfl
     refine QD.mpr ⟨QN.mpr (by rw[Qc];exact h0),decide_eq_true ?_⟩;rw[eg];exact⟨q1,q2,q3⟩
    rw[e]at this;cases this
   rw[eix]at hl2 hR2;have ev2:vs2=(ix.map fun i=>ys.getD i "").map V.str:=by
    rw[QA];apply QU;intro j;rw[Qg];by_cases hj:j<ix.length
    ·have hjv:j<vs2.length:=by rw[hl2];exact hj
     rw[Qa hjv,Qa hj,hR2 j _ _ (Qa hj) (Qa hjv)];rfl
    ·rw[Qo (by omega),Qo (by omega)];rfl
   rw[ev2]at hDl2;refine k D2 _ H2 (s1.trans hs2) hDl2 (fun e=>hix0 (WC.mp e)) (by rw[Qc];exact hixl) fun o ho=>?_;obtain⟨i,hi,rfl⟩:=Qi.mp ho;exact hixm i hi
theorem ZlH {t r:List Nat} {o:Option (List V)} (h:Tx ps L t) (e:X7 t L o=some r):Tx ps L r/\r.length=t.length:=by
 obtain⟨h1,h2,h3⟩:=Zlq h.fit h.cd e;have hF:Fit r L:=⟨h.fit.one,by rw[h2];exact h.fit.le⟩
 refine⟨⟨hF,?_,h3,by rw[h2];exact h.few⟩,h2⟩;refine List.Perm.trans ?_ h.pm;rw[Zah hF,Zah h.fit];exact h1.map tx
abbrev rp (n c:Nat):List Nat:=QJ n c
theorem Zm4 (n c:Nat):bg (tx (rp n c))=tx (rp (n-1) c)/\en (tx (rp n c))=tx (rp (n-1) c):=by
 unfold bg en;rw[Zs,List.dropLast_replicate,List.drop_replicate];exact⟨rfl,rfl⟩
theorem Zj8 {c:Nat} (h:1<=L):pcs (rp L c) L=[tx (rp L c)]:=by
 have hl:=ZM (rp L c) L;rw[Q4,Wq]at hl;obtain⟨x,e⟩:=Ru.mp hl;have g:=Yv (z:=rp L c) (L:=L) (i:=0) (by omega);rw[e]at g ⊢;rw[UD,Q0 (by rw[Q4];exact Qk _)]at g;rw[show x=_ from Option.some.inj g]
theorem Zkl (x:Str):Zu [x] [(x,1)] where
 srt:=UN _ _
 mem:=fun y=>by simp
 cnt:=fun p hp=>by
  rw[Qm.mp hp];simp
theorem ZmT (x:Str):Zu [x,x] [(x,2)] where
 srt:=UN _ _
 mem:=fun y=>by simp
 cnt:=fun p hp=>by
  rw[Qm.mp hp];simp
theorem Zfz {a b:Nat} (h:1<=L) (n:a≠b):tx (rp L a)≠tx (rp L b):=fun e=>by
 have:=Zeq e;have h1:a∈rp L a:=Wi.mpr ⟨by omega,rfl⟩;rw[this]at h1;exact n (Wi.mp h1).2
theorem Zlk (h:1<=L):Zu [tx (rp L 98),tx (rp L 100)] ([(tx (rp L 98),1)]++[(tx (rp L 100),1)]) where
 srt:=by
  simp only[UB,Qs,WH,Zs];refine Wx.mpr ⟨fun y hy=>?_,UN _ _⟩;rw[Qm.mp hy];obtain⟨k,rfl⟩:∃ k,L=k+1:=⟨L-1,by omega⟩
  show QJ (k+1) 98<QJ (k+1) 100;rw[Wf,Wf];exact UE.mpr (.inl (by decide))
 mem:=fun y=>by simp
 cnt:=fun p hp=>by
  have n:=Zfz h (show(98:Nat)≠100 by decide);simp only[UB,Qy,WU,or_false]at hp;rcases hp with rfl | rfl
  ·simp[U2,n.symm]
  ·simp[U2,n]
theorem Zj2 {qs:List Str} (hl:qs.length<=2) (h:∀ x∈qs,1<=x.length/\x.length<=63/\Cd x.cps.toList):RO qs where
 len:=by omega
 one:=h
 pts:=fun l nd hp=>by
  have:=YI nd (B:=qs.map bg++qs.map en) fun y hy=>by
   obtain⟨x,hx,q⟩:=hp y hy;rcases q with q | q
   ·exact QM _ (Qi.mpr ⟨x,hx,q⟩)
   ·exact QH _ (Qi.mpr ⟨x,hx,q⟩)
  rw[Qd,Qc,Qc]at this;omega
theorem Zny (h:1<=L) (h2:L<=63):RO [tx (rp L 98),tx (rp L 100)]:=by
 refine Zj2 (Qk 2) fun x hx=>?_;simp only[Qy,WU,or_false]at hx;rcases hx with rfl | rfl
 ·rw[Zn,Zs,Q4];exact⟨h,h2,fun c hc=>by rw[(Wi.mp hc).2];decide⟩
 ·rw[Zn,Zs,Q4];exact⟨h,h2,fun c hc=>by rw[(Wi.mp hc).2];decide⟩
theorem ZnV (h:2<=L):¬ JN (tx (rp L 98),1) [(tx (rp L 100),1)]:=fun q=>by
 have r:=q.1 (tx (rp L 100),1) (by simp);have hb:=Zm4 L 98;have hd:=Zm4 L 100;have e:bg (tx (rp L 100))=bg (tx (rp L 98)):=by
  refine Rch.closed (F:=fun y=>y=bg (tx (rp L 98))) rfl (fun P hP y ⟨e,he,k⟩=>?_) r;simp only[Qy,WU,or_false]at he;rcases he with rfl | rfl
  ·rcases k with ⟨_,k⟩ | ⟨_,k⟩
   ·rw[←k];exact hb.2.trans hb.1.symm
   ·exact k.symm
  ·exfalso;rw[hP]at k;rcases k with ⟨k,_⟩ | ⟨k,_⟩
   ·rw[hd.1,hb.1]at k;exact Zfz (by omega) (by decide) k
   ·have k':en (tx (rp L 100))=bg (tx (rp L 98)):=k;rw[hd.2,hb.1]at k';exact Zfz (by omega) (by decide) k'
 rw[hd.1,hb.1]at e;exact Zfz (by omega) (by decide) e
theorem ZnX (h:2<=L):¬ JN (tx (rp (L-1) 98++[99]),2) []:=fun q=>by
 obtain⟨ss,hS⟩:=JZ [(tx (rp (L-1) 98++[99]),2)];have k:=q.2 ss hS;have eb:bg (tx (rp (L-1) 98++[99]))=tx (rp (L-1) 98):=by
  unfold bg;rw[Zs,Uk]
 have ee:en (tx (rp (L-1) 98++[99]))≠tx (rp (L-1) 98):=fun e=>by
  unfold en at e;have e':=Zeq e;rw[Zs,List.drop_append_of_le_length (by rw[Q4];omega)]at e';have h1:99∈(rp (L-1) 98).drop 1++[99]:=by simp
  rw[e']at h1;exact absurd (Wi.mp h1).2 (by decide)
 have hm:tx (rp (L-1) 98)∈ss:=(hS.pts.mem _).mpr ⟨_,Qm.mpr rfl,.inl eb⟩;rw[Zgx]at k;have h2:Yk (mo [(tx (rp (L-1) 98++[99]),2)] (tx (rp (L-1) 98)))<=sumZ ss (fun p=>Yk (mo [(tx (rp (L-1) 98++[99]),2)] p)):=Yp (f:=fun p=>Yk (mo [(tx (rp (L-1) 98++[99]),2)] p)) (fun p _=>by unfold Yk;split <;> omega) hm;have h3:mo [(tx (rp (L-1) 98++[99]),2)] (tx (rp (L-1) 98))=2:=by
  unfold mo mo1 ind;simp only[Qs,WH,Q8,Vc,eb];rw[if_pos trivial,if_neg ee];rfl
 rw[h3]at h2;have:Yk 2=2:=rfl;omega
theorem ZkA (h:Tx ps L z) (hm:tx pd∈ps):∃ ws:List (List Nat),((sb (ps.map rv) (rv (tx pd))).map fun r=>((r.1,rv r.2):Str×Str)).map Prod.snd=ws.map tx/\(∀ w∈ws,Tx ps L w) /\
  TR (bkP true ps) L (bkD true pd) (((sb (ps.map rv) (rv (tx pd))).map fun r=>((r.1,rv r.2):Str×Str)).map Prod.fst) (ws.map (bkD true)):=by
 have t:=TR.of h.rev (Zkr true hm);have er:rv (tx pd)=tx (bkD true pd):=Zl8 pd;rw[er];refine⟨(sb (ps.map rv) (tx (bkD true pd))).map fun r=>r.2.cps.toList.reverse,?_,fun w hw=>?_,?_⟩
 ·rw[QA,QA];rfl
 ·obtain⟨r,hr,rfl⟩:=Qi.mp hw;have:=(t.txs _ (Qi.mpr ⟨r,hr,rfl⟩)).rev;rw[ZmG]at this;exact this
 ·have e1:((sb (ps.map rv) (tx (bkD true pd))).map fun r=>((r.1,rv r.2):Str×Str)).map Prod.fst=(sb (ps.map rv) (tx (bkD true pd))).map Prod.fst:=by
   rw[QA];rfl
  have e2:((sb (ps.map rv) (tx (bkD true pd))).map fun r=>r.2.cps.toList.reverse).map (bkD true)=(sb (ps.map rv) (tx (bkD true pd))).map fun r=>r.2.cps.toList:=by
   rw[QA];exact Q3 fun r _=>RD _
  rw[e1,e2];exact t
theorem Zkz (h:Tx ps L z) (hm:tx pd∈ps):∃ ws:List (List Nat),(sb ps (tx pd)).map Prod.snd=ws.map tx/\(∀ w∈ws,Tx ps L w)/\TR (bkP false ps) L (bkD false pd) ((sb ps (tx pd)).map Prod.fst) (ws.map (bkD false)):=by
 have t:=TR.of h hm;refine⟨(sb ps (tx pd)).map fun r=>r.2.cps.toList,?_,t.txs,?_⟩
 ·rw[QA];exact Q3 fun r _=>(tx_eta r.2).symm
 ·have e2:((sb ps (tx pd)).map fun r=>r.2.cps.toList).map (bkD false)=(sb ps (tx pd)).map fun r=>r.2.cps.toList:=U5 _;rw[e2];exact t
theorem ZdC (h:Tx ps L z) (hm:tx pd∈ps):SeqAt.shaped (ZkB (sb ps (tx pd)))=true:=by
 refine Zcg fun e he=>?_;obtain⟨r,hr,rfl⟩:=Qi.mp he;obtain⟨w,e2,hw,_,h4,_⟩:=XO h hm hr;refine⟨h4,?_,by simp[PyData.depth]⟩;have:PyData.strOk r.2=true:=Zbk (by rw[e2,Zs];exact hw.cd);simp[PyData.canLay0,this]
theorem ZmS {H H':Hp} {xs ys:List V} {hp hq:Es} {d:Addr} (s:Same H H') (hl:xs.length=hp.length) (hx:∀ (i:Nat) p,hp[i]?=some p->∃ b,xs[i]?=some (.ref b)/\H b=some (.tup [.str p.1,.int p.2])) (hl2:ys.length=hq.length)
  (hy:∀ (i:Nat) p,hq[i]?=some p->∃ b,ys[i]?=some (.ref b)/\H b=some (.tup [.str p.1,.int p.2])) (hd:H' d=some (.tup (xs++ys))):HpAt H' (.ref d) (hp++hq):=by
 refine⟨d,_,rfl,hd,by rw[Qd,Qd,hl,hl2],fun i p he=>?_⟩;by_cases c:i<hp.length
 ·rw[QO c]at he;obtain⟨b,e1,e2⟩:=hx i p he;exact⟨b,by rw[Qb,QO (by omega),e1];rfl,s _ _ e2⟩
 ·rw[QI (by omega)]at he;obtain⟨b,e1,e2⟩:=hy _ p he;exact⟨b,by rw[Qb,QI (by omega),hl,e1];rfl,s _ _ e2⟩
theorem ZnW (sd:Int):∃ c:Nat,(c=98\/c=100)/\atI [V.str (tx [98]),V.str (tx [100])] (sd % 2)=some (V.str (tx [c])):=by
 have m:=ZW sd (show(0:Int)<2 by decide);have:sd % 2=0\/sd % 2=1:=by omega
 rcases this with e | e
 ·rw[e];exact⟨98,.inl rfl,rfl⟩
 ·rw[e];exact⟨100,.inr rfl,rfl⟩
section
variable {P:Program} {w:World} {K:PySem.W.Frag} {mg:Str->Option Value} {base:Heap} {C C2:Addr}
abbrev Ziy:Stmt:=top 67
abbrev Zod:List Str:=["_law_script","_law_cells","_law_seed_here","_law_signs","_law_long","_law_heap","_law_texts","_law_k","_law_cell","_law_piece","_law_behind_here","_law_apart","_law_odd_here","_law_twice","_law_way"]
theorem scLaw:Zp Zod ["_law_script"] (Zg Ziy):=⟨rfl,rfl,rfl,by decide +kernel,rfl,by decide +kernel,by decide +kernel⟩
def ZiN (K:PySem.W.Frag):Sp:=fun vs H Q _=>∃ (a:Addr) (ns:List Int),vs=[.ref a]/\SqL K H a (ns.map V.int)/\ns.length<=63/\∀ H',Q (.bl true) H'
theorem Zmp {fa:Addr} {fd:FuncData} (Fl:Fun K "law" "law" Ziy fa fd) (B:Blt mg) (g14_:FOk P w K mg base 10 "_law_seed" ["_law_cells"] (ZjS K)) (g15_:FOk P w K mg base 10 "_law_text" ["_law_cells","_law_seed_here"] (ZjR K)) (g2_:FOk P w K mg base 10 "_law_cut" ["_law_signs","_law_seed_here"] Zl2)
  (g18_:FOk P w K mg base 10 "_law_torn" ["_law_signs","_law_long"] Zgm) (g3_:FOk P w K mg base 10 "_law_drawn" ["_law_signs","_law_long","_law_cell"] Zgv) (g6_:FOk P w K mg base 10 "_law_led" ["_law_signs","_law_long","_law_deed"] Zl1)
  (g23_:FOkX P w K mg base 10 "behind_of" ["H","piece"] (J0 C C2)) (g19_:FOkX P w K mg base 10 "ahead_of" ["H","piece"] (Zbp C C2)) (g17_:FOk P w K mg base 10 "_law_told" ["_law_pairs","_law_heap","_law_piece","_law_texts","_law_back_here"] ZjP)
  (g10_:FOk P w K mg base 10 "_law_odd" ["_law_heap","_law_seed_here"] Zl0) (g13_:FOk P w K mg base 10 "_law_refused" ["_law_heap","_law_piece","_law_way","_law_none"] ZjX) :
  FnOk P w K mg base CX0 11 fa fd ["_law_script"] (ZiN K):=by
 refine Fl.ok scLaw (fun vs H Q E h=>?_) (fun cdv A outer s H vs Q E hr h=>?_)
 ·obtain⟨a,ns,rfl,_⟩:=h;rfl
 ·obtain⟨a,ns,rfl,ha,hl,k⟩:=h;refine⟨_,(Ze (XU (i:=1) (Zg Ziy) Zod ["_law_cell"] [] scLaw.nd rfl (.inl rfl) rfl (Ym (ZC ZkH (pv 0) Z0 (ZE Zf))) (fun _ _ _ _ _=>Z6 0) (fun _ _ _ _ _=>Yd) (fun _ _ _ _ _=>(Zk ZR (pv 0) (Zk Zmn Zf Zf))))
   (Ze (Zm (i:=2) scLaw.nd rfl (.inl rfl) (Zv g14_ hr (Za (pv 1) Zc)))
   (Ze (Zm (i:=3) scLaw.nd rfl (.inl rfl) (Zv g2_ hr (Za (Zv g15_ hr (Za (pv 1) (Za (pv 2) Zc))) (Za (pv 2) Zc))))
   (Ze (Zm (i:=4) scLaw.nd rfl (.inl rfl) (Zk ZU Zf (Zk ZR (Zk ZV (pv 2) Zf) (Zj (Zc8 rfl) rfl B.min Zm8 (Za Zf (Za (Zj Zr rfl B.len ZX (Za (pv 3) Zc)) Zc))))))
   (Ze (Z2 (Zt YE (Zk ZR (Zk ZV (pv 2) Zf) Zf) Zf (Zy _)) (Zi (Zm (i:=4) scLaw.nd rfl (.inl rfl) (Zk Ye (Zj Zr rfl B.len ZX (Za (pv 3) Zc)) (Zk ZR (Zk ZV (pv 2) Zf) (Zj (Zc8 rfl) rfl B.min Zm8 (Za Zf (Za (Zj Zr rfl B.len ZX (Za (pv 3) Zc)) Zc))))))) Zx)
   (Ze (Zm (i:=5) scLaw.nd rfl (.inl rfl) (Zv g18_ hr (Za (pv 3) (Za (pv 4) Zc))))
   (Ze (Zm (i:=6) scLaw.nd rfl (.inl rfl) (ZT (Za (pv 3) Zc)))
   (Ze (Yi PassesOwn.never rfl (Ys rfl B.range (Za (Zk ZR (Zk ZV (pv 2) Zf) Zf) Zc)) (ZI (i:=7) scLaw.nd rfl (.inl rfl))
    (Ze (Zm (i:=8) scLaw.nd rfl (.inl rfl) (Zk ZR (Zk Zct (Zk ZU (pv 2) (Zk Zct (pv 7) (pv 7))) Zf) Zf))
   (Zi (Z8 (Xf F.plainAttrs_list F.slot_list_append F.type_list_append Z1 (pv 6) (Za (Zv g6_ hr (Za (ZB ix_list (pv 6) (YV Yg Zf) (fun _ _=>rfl)) (Za (pv 4) (Za (Zv g3_ hr (Za (ZB ix_list (pv 6) (YV Yg Zf) (fun _ _=>rfl)) (Za (pv 4) (Za (pv 8) Zc)))) Zc)))) Zc))))))
   (Ze (Yi PassesOwn.never rfl (Ys rfl B.range (Za Zf Zc)) (ZI (i:=7) scLaw.nd rfl (.inl rfl))
    (Ze (Zm (i:=9) scLaw.nd rfl (.inl rfl) (ZB ix_tup (ZB ix_tup (pv 5) (Zk ZR (Zk ZV (pv 2) (Zk ZU Zf (Zk Zct Zf (pv 7)))) (Zj Zr rfl B.len ZX (Za (pv 5) Zc))) (fun _ _=>rfl)) Zf (fun _ _=>rfl)))
   (Ze (Zm (i:=10) scLaw.nd rfl (.inl rfl) (Zag g23_ hr (Za (pv 5) (Za (pv 9) Zc))))
   (Ze (Z2 (Xe (YG (Zv g17_ hr (Za (pv 10) (Za (pv 5) (Za (pv 9) (Za (pv 6) (Za Yf Zc)))))))) (Zi (Zq Yf)) Zx)
   (Zi (Z2 (PW.pt (Zbz (Xe (YG (Zv g17_ hr (Za (Zag g19_ hr (Za (pv 5) (Za (pv 9) Zc))) (Za (pv 5) (Za (pv 9) (Za (pv 6) (Za Yf Zc)))))))) (Zad (Zt (Zka hr.units) (Zag g23_ hr (Za (pv 5) (Za (pv 9) Zc))) (pv 10) (Zy _))))) (Zi (Zq Yf)) Zx))))))
   (Ze (Zm (i:=11) scLaw.nd rfl (.inl rfl) (Zk Zk2 (Zv g18_ hr (Za (Zk XH ZY (pv 4)) (Za (pv 4) Zc))) (Zv g18_ hr (Za (Zk XH ZY (pv 4)) (Za (pv 4) Zc)))))
   (Ze (Zm (i:=12) scLaw.nd rfl (.inl rfl) (Zv g10_ hr (Za (pv 5) (Za (pv 2) Zc))))
   (Ze (Z2 (Xe (YG (Zv g13_ hr (Za (pv 5) (Za (ZB ix_list (pv 12) (Zk ZR (Zk ZV (pv 2) Zf) (Zj Zr rfl B.len ZX (Za (pv 12) Zc))) (fun _ _=>rfl)) (Za (Zk ZR (pv 2) Zf) (Za Yf Zc))))))) (Zi (Zq Yf)) Zx)
   (Ze (Z2 (Zt YE (pv 4) Zf (Zy _)) (Zi (Zq Yf)) Zx)
   (Ze (Z2 (Xe (YG (Zv g13_ hr (Za (pv 11) (Za (Zk XH ZY (pv 4)) (Za (Zk ZR (pv 2) Zf) (Za Yf Zc))))))) (Zi (Zq Yf)) Zx)
   (Ze (Zm (i:=13) scLaw.nd rfl (.inl rfl) (Yt (Za (Yt (Za (Zk ZD (Zk XH ZY (Zk Ye (pv 4) Zf)) ZY) (Za Zf Zc))) Zc)))
   (Ze (Yi PassesOwn.never rfl (Ys rfl B.range (Za Zf Zc)) (ZI (i:=14) scLaw.nd rfl (.inl rfl))
    (Zi (Z2 (Xe (YG (Zv g13_ hr (Za (pv 13) (Za (ZB ix_tup (ZB ix_tup (pv 13) Zf (fun _ _=>rfl)) Zf (fun _ _=>rfl)) (Za (pv 14) (Za Yf Zc))))))) (Zi (Zq Yf)) Zx)))
   (Zi (Zq (Zv g13_ hr (Za (pv 11) (Za (Zk XH (ZB ix_list (ZT (Za ZY (Za ZY Zc))) (Zk ZR (Zk ZV (pv 2) Zf) Zf) (fun _ _=>rfl)) (pv 4)) (Za (Zk ZR (Zk ZV (pv 2) Zf) Zf) (Za Yf Zc))))))))))))))))))))))),?_⟩
  refine⟨_,rfl,_,rfl,a,_,rfl,ha,fun p1 hp1=>?_⟩;rw[ZnT (ns.map V.int) (by rw[Qc];exact hl)];have s1:=Zb (o:=.lst (ns.map V.int)) hp1;refine⟨p1,rfl,⟨_,SqL.of Zd⟩,YD (ns.map V.int).length (fun i=>(ns.map V.int).getD i .non) (fun i v _=>∀ c,ns[i]?=some c->v= .int (c % 10 ^ 18)) (by rw[Qc];exact Zh (by omega)) (fun _ _ _ _ _ r=>r) (Xi (K:=K) (SqL.of Zd)) ?_ ?_⟩
  ·intro i H4 Qe hi hs kq;have hi':i<ns.length:=by rw[Qc]at hi;exact hi
   rw[Zaw hi'];refine⟨_,rfl,_,_,rfl,rfl,⟨by decide,by decide,by decide⟩,_,_,rfl,rfl,(by show(0:Int)<10 ^ 18;decide),kq _ _ (Same.refl _) fun c hc=>?_⟩;rw[Qa hi']at hc;cases hc;rfl
  intro pc vs1 H3 hl1 hr1 hs3 hD1 hDl1;rw[Qc]at hl1;have evs:=Zf6 (f:=fun c=>V.int (c % 10 ^ 18)) hl1 hr1;have evs2:vs1=(ns.map fun c=>c % 10 ^ 18).map V.int:=by rw[evs,QA];rfl
  rw[evs2]at hDl1;have hcl:(ns.map fun c=>c % 10 ^ 18).length<=63:=by rw[Qc];exact hl
  generalize ns.map (fun c=>c % 10 ^ 18)=cs at hDl1 hcl;refine⟨_,rfl,pc,cs,rfl,SqL.of hDl1,hcl,fun sd sd0 sd1=>?_⟩;refine⟨_,rfl,_,rfl,pc,cs,sd,rfl,SqL.of hDl1,hcl,sd0,sd1,fun z0 H5 s5 z01 z063 z0c=>?_⟩;refine⟨_,rfl,z0,sd,rfl,z01,z063,sd0,z0c,fun z z1 z63 zc=>?_⟩;have hlen:∀ (u:List Nat) H',u.length<=1000->ZlC K (.str (tx u)) H' u.length:=fun u H' hu=>⟨ZG hu,(Zn u).symm⟩
  obtain⟨mn,emn⟩:∃ mn:Int,mn=if (z.length:Int)<6 then (z.length:Int)else 6:=⟨_,rfl⟩
  have mnb:1<=mn/\mn<=6/\mn<=z.length:=by
   rw[emn];split <;> omega
  refine⟨_,rfl,_,_,rfl,rfl,⟨by decide,by decide⟩,_,rfl,.str (tx z),z.length,rfl,hlen z _ (by omega),?_⟩;refine⟨_,_,rfl,?_⟩;rw[←emn];have m17:=ZW (sd / 17) (show 0<mn by omega);refine⟨_,_,rfl,rfl,by omega,_,_,rfl,rfl,?_⟩
  try dsimp only[XL]
  show Zdm (Zgf _ _ _) _ _ _ _;refine ZdF (fun σ H'=>H'=H5/\∃ L:Nat,σ=[some (.ref a),some (.ref pc),some (.int sd),some (.str (tx z)),some (.int L),none,none,none,none,none,none,none,none,none,none]/\1<=L/\L<=z.length) (fun R hR=>?_) ?_
  ·refine⟨_,rfl,_,_,rfl,rfl,⟨by decide,by decide⟩,_,_,rfl,rfl,(by show(0:Int)<7;decide),rfl,_,rfl,Ziz (fun e=>?_) (fun e=>?_)⟩
   ·obtain⟨mn3,emn3⟩:∃ mn:Int,mn=if (z.length:Int)<3 then (z.length:Int)else 3:=⟨_,rfl⟩
    have mnb3:1<=mn3/\mn3<=z.length:=by
     rw[emn3];split <;> omega
    refine⟨_,rfl,.str (tx z),z.length,rfl,hlen z _ (by omega),_,rfl,_,_,rfl,rfl,⟨by decide,by decide⟩,_,rfl,.str (tx z),z.length,rfl,hlen z _ (by omega),?_⟩;refine⟨_,_,rfl,?_⟩;rw[←emn3];have m3:=ZW (sd / 17) (show 0<mn3 by omega);refine⟨_,_,rfl,rfl,by omega,_,_,rfl,rfl,?_⟩;obtain⟨L,eL⟩:∃ L:Nat,(z.length:Int)-sd / 17 % mn3=L:=⟨((z.length:Int)-sd / 17 % mn3).toNat,by omega⟩
    refine hR _ _ ⟨rfl,L,?_,by omega,by omega⟩;show _=[some (V.ref a),some (.ref pc),some (.int sd),some (.str (tx z)),some (.int L),none,none,none,none,none,none,none,none,none,none];rw[←eL];rfl
   ·obtain⟨L,eL⟩:∃ L:Nat,1+sd / 17 % mn=L:=⟨(1+sd / 17 % mn).toNat,by omega⟩
    refine hR _ _ ⟨rfl,L,?_,by omega,by omega⟩;show _=[some (V.ref a),some (.ref pc),some (.int sd),some (.str (tx z)),some (.int L),none,none,none,none,none,none,none,none,none,none];rw[←eL];rfl
  rintro σ H5' ⟨rfl,L,rfl,hL1,hL2⟩;have hF:Fit z L:=⟨hL1,hL2⟩
  refine⟨_,rfl,_,rfl,z,L,rfl,hF,z63,fun vh H6 hp s6 hO hA=>?_⟩;have hT:Tx (pcs z L) L z:=⟨hF,List.Perm.refl _,zc,z63⟩
  generalize pcs z L=ps at hO hT;obtain⟨e0,es0,rfl⟩:=ZcS hO hT.ne;have hR0:=hT.ro;have hTP:=ZlK hT hO;have hV6:Hv H6 vh ps (e0::es0):=⟨hA,hO⟩
  refine⟨_,rfl,Zh (show 1<=1000 by decide),fun l hl6=>?_⟩;have t6:=Zb (o:=.lst [.str (tx z)]) hl6;have m41:=ZW (sd / 41) (show(0:Int)<7 by decide);refine⟨_,rfl,_,_,rfl,rfl,⟨by decide,by decide⟩,_,_,rfl,rfl,(by show(0:Int)<7;decide),_,rfl,by omega,by omega,?_⟩;generalize sd / 41 % 7=mk at m41;refine YS (n:=mk.toNat) (fun i σ H2=>∃ (ts0:List (List Nat)) (t:List Nat) (z7 z8:Option V),σ=[some (.ref a),some (.ref pc),some (.int sd),some (.str (tx z)),some (.int L),some vh,some (.ref l),z7,z8,none,none,none,none,none,none]/\TSame H6 H2/\H2 l=some (.lst ((ts0++[t]).map tV))/\ts0.length<=i/\∀ u∈ts0++[t],Tx ps L u)
   ⟨[],z,none,none,rfl,t6.tup,Zd,Qk _,fun u hu=>by rw[Uv,Qm]at hu;rw[hu];exact hT⟩ ?_ ?_
  ·rintro i σ H2 hi ⟨ts0,t,z7,z8,rfl,ts2,hl2,hlt,hall⟩;rw[UL];have htT:=hall t (QH _ (Qm.mpr rfl));have htf:=htT.few;have eml:atI ((ts0++[t]).map tV) (-1)=some (tV t):=by
    rw[Qz];exact Zej
   refine⟨_,rfl,_,rfl,_,rfl,_,_,rfl,rfl,.inl (by omega),_,_,rfl,rfl,_,_,rfl,rfl,.inr (by decide),_,_,rfl,rfl,(by show(0:Int)<2147483647;decide),?_⟩;dsimp only;have mc:=ZW ((sd+(i:Int)*(i:Int))*48271) (show(0:Int)<2147483647 by decide);generalize (sd+(i:Int)*(i:Int))*48271 % 2147483647=cell at mc;refine⟨_,rfl,.inl ⟨rfl,_,SqL.of hl2⟩,_,rfl,_,rfl,l,_,-1,_,rfl,rfl,SqL.of hl2,eml,_,rfl,_,rfl,_,rfl,l,_,-1,_,rfl,rfl,SqL.of hl2,eml,_,rfl,_,rfl,t,L,cell,rfl,htT.fit,by omega,mc.1,fun p H3 xs r s3 hpx hdo=>?_⟩;obtain⟨hrT,hrl⟩:=ZlH htT hdo;refine⟨t,L,p,xs,r,rfl,htT.fit,by omega,hpx,hdo,?_⟩;have hl3:=s3 _ _ hl2;refine⟨l,_,_,rfl,rfl,hl3,Zh (by rw[Qc,Qd,Qr];omega),?_⟩;have tu:=Yh (ys:=(ts0++[t]).map tV++[tV r]) hl3;refine⟨ts0++[t],r,_,_,rfl,(ts2.trans s3.tup).trans tu,?_,?_,?_⟩
   ·rw[Zd,Qz (l₂:=[r])];rfl
   ·rw[Qd,Qr];omega
   ·intro u hu;rcases QF.mp hu with q | q
    ·exact hall u q
    ·rw[Qm.mp q];exact hrT
  rintro σ H2 ⟨ts0,t,z7,z8,rfl,ts2,hl2,hlt,hall⟩;have htl:(ts0++[t]).length<=10:=by rw[Qd,Qr];omega
  generalize ts0++[t]=tt at hl2 hall htl;have hV2:Hv H2 vh ps (e0::es0):=⟨hA.same ts2,hO⟩
  refine⟨_,rfl,by decide,by decide,?_⟩;refine YS (n:=2) (fun i σ H3=>∃ z7 z9 z10:Option V,σ=[some (.ref a),some (.ref pc),some (.int sd),some (.str (tx z)),some (.int L),some vh,some (.ref l),z7,z8,z9,z10,none,none,none,none]/\Same H2 H3)
   ⟨z7,none,none,rfl,Same.refl _⟩ ?_ ?_
  ·rintro i σ H3 hi ⟨z7,z9,z10,rfl,s3⟩;rw[UL];have hV3:=hV2.same s3;obtain⟨ah,xs,rfl,hah,hlx,hxs⟩:=Y4 hV3.at_;obtain⟨r0,r1,x,hx,ex⟩:=Zj1 (UG e0 es0) (sd / (43+4*(i:Int)));obtain⟨b,e1,e2⟩:=hxs _ x ex;have hm:x.1∈ps:=(hO.mem _).mp (Qi.mpr ⟨_,hx,rfl⟩);generalize x.1=pe at e2 hm;generalize x.2=ne at e2;obtain⟨pd,rfl⟩:∃ pd,pe=tx pd:=⟨_,(tx_eta pe).symm⟩
   refine⟨_,rfl,_,rfl,_,rfl,_,_,rfl,rfl,.inr (by omega),_,_,rfl,rfl,_,_,rfl,rfl,⟨by omega,by omega⟩,_,rfl,.ref ah,(e0::es0).length,rfl,.inr ⟨_,SqT.of hah,hlx.symm⟩,_,_,rfl,rfl,r1,ah,xs,_,.ref b,rfl,rfl,SqT.of hah,ZS r0 e1,b,_,0,_,rfl,rfl,SqT.of e2,rfl,?_⟩;have hsh:=ZdC hT hm;refine⟨_,rfl,_,rfl,.ref ah,ps,e0,es0,tx pd,rfl,hV3,hR0,.inr (.inr ⟨hm,hTP,fun v1 H4 s4 hU1=>?_⟩)⟩;obtain⟨ws,ew1,ew2,ew3⟩:=Zkz hT hm;have hl4:=s4 _ _ (s3 _ _ hl2);refine⟨_,rfl,_,rfl,_,rfl,_,rfl,v1,.ref ah,ps,e0::es0,pd,L,z,_,ws,tt,l,false,rfl,hU1,hV3.same s4,hT,hm,ew1,fun w hw=>(QF.mp hw).elim (ew2 w) (hall w),ew3,hl4,htl,fun H5 s5=>⟨_,rfl,ZfJ ?_⟩⟩;have s45:=s4.trans s5;refine⟨_,rfl,_,rfl,.ref ah,ps,e0,es0,tx pd,rfl,hV3.same s45,hR0,.inr (.inr ⟨hm,hTP,L,z,hT,fun v2 H6 s6 hU2=>?_⟩)⟩;obtain⟨ws2,ew4,ew5,ew6⟩:=ZkA hT hm;have s456:=s45.trans s6;have hl6:=s456 _ _ (s3 _ _ hl2);refine⟨_,rfl,_,rfl,_,rfl,v2,.ref ah,ps,e0::es0,pd,L,z,_,ws2,tt,l,true,rfl,hU2,hV3.same s456,hT,hm,ew4,fun w hw=>(QF.mp hw).elim (ew5 w) (hall w),ew6,hl6,htl,fun H7 s7=>⟨_,rfl,Yu rfl ?_⟩⟩;have s4567:=s456.trans s7;refine⟨_,rfl,_,rfl,.ref ah,ps,e0,es0,tx pd,rfl,hV3.same s4567,hR0,.inr (.inr ⟨hm,hTP,fun v3 H8 s8 hU3=>?_⟩)⟩;have s58:=((s5.trans s6).trans s7).trans s8;refine⟨_,rfl,_,_,ZeM hU3,ZeM (hU1.same s58),hsh,hsh,_,rfl,Yu (by rw[Zfh hsh];rfl) ?_⟩;exact⟨_,_,_,rfl,s3.trans (s4.trans s58)⟩
  rintro σ H3 ⟨z7,z9,z10,rfl,s3⟩;have hV3:=hV2.same s3;have hLz:L<=63:=by omega
  have hfit:∀ c:Nat,Fit (rp L c) L:=fun c=>⟨hL1,by rw[Q4];exact Qk _⟩
  have hrl:∀ c:Nat,(rp L c).length<=63:=fun c=>by rw[Q4];exact hLz
  refine⟨_,rfl,_,_,rfl,rfl,YR (by omega) (by omega) (by decide),?_⟩;rw[ch1 98 "b",ch1 99 "c",ch1 100 "d",Za0 hL1];refine⟨_,rfl,rp L 98,L,rfl,hfit _,hrl _,fun v1 H4 hp1 s4 hO1 hA1=>?_⟩;rw[Zj8 hL1]at hO1;have eh1:=X3 hO1 (Zkl _);subst eh1;refine⟨_,rfl,_,_,rfl,rfl,YR (by omega) (by omega) (by decide),?_⟩;rw[Za0 hL1];refine⟨_,rfl,rp L 100,L,rfl,hfit _,hrl _,fun v2 H5 hp2 s5 hO2 hA2=>?_⟩;rw[Zj8 hL1]at hO2;have eh2:=X3 hO2 (Zkl _);subst eh2;obtain⟨a1,xs1,rfl,ha1,hlx1,hxs1⟩:=Y4 (hA1.same s5.tup);obtain⟨a2,xs2,rfl,ha2,hlx2,hxs2⟩:=Y4 hA2;have hn1:xs1≠[]:=fun e=>by rw[e]at hlx1;cases hlx1
  have hn2:xs2≠[]:=fun e=>by rw[e]at hlx2;cases hlx2
  refine⟨a1,a2,xs1,xs2,rfl,rfl,SqT.of ha1,SqT.of ha2,hn1,Zh (by rw[hlx1,hlx2];show 2<=1000;decide),fun e=>absurd e hn2,fun _ d hd=>?_⟩;have s6:=Zb (o:=.tup (xs1++xs2)) hd;have hVd:Hv (upd H5 d (.tup (xs1++xs2))) (.ref d) [tx (rp L 98),tx (rp L 100)] ((tx (rp L 98),1)::[(tx (rp L 100),1)]):=⟨ZmS s6 hlx1 hxs1 hlx2 hxs2 Zd,Zlk hL1⟩
  have sD:=(s4.trans s5).trans s6;have hRd:=Zny hL1 hLz;have hV6':=hV3.same sD;generalize upd H5 d (.tup (xs1++xs2))=H6' at hVd sD hV6';refine⟨_,rfl,_,rfl,vh,ps,e0::es0,L,z,sd,rfl,hV6',hT,fun q os H7 s7 hq7 hne hlo hno=>?_⟩;have hop:0<os.length:=UJ.mpr hne;have m59:=ZW (sd / 59) (show(0:Int)<os.length by omega);obtain⟨j,ej⟩:∃ j:Nat,sd / 59 % (os.length:Int)=j:=⟨(sd / 59 % (os.length:Int)).toNat,by omega⟩
  have hj:j<os.length:=by omega
  have hat:atI (os.map V.str) (sd / 59 % (os.length:Int))=some (.str os[j]):=by
   refine ZS m59.1 ?_;rw[ej,Wl,Qg,Qa hj];rfl
  refine⟨_,rfl,_,rfl,_,rfl,_,_,rfl,rfl,⟨by decide,by decide⟩,_,rfl,.ref q,os.length,rfl,.inl ⟨_,SqL.of hq7,by rw[Qc]⟩,_,_,rfl,rfl,(by show(0:Int)<_;omega),q,_,_,_,rfl,rfl,SqL.of hq7,hat,_,rfl,_,_,rfl,rfl,(by show(0:Int)<3;decide),vh,ps,e0,es0,os[j],sd % 3,true,rfl,hV6'.same s7,hR0,.inl ⟨rfl,hno _ (QB hj)⟩,fun H8 s8=>⟨_,rfl,ZfJ ?_⟩⟩;have s78:=s7.trans s8;refine⟨_,rfl,rfl,_,rfl,?_⟩;by_cases cL:L=1
  ·exact Y3 (Za6 (by omega)) (k _)
  refine Yu (Zau (by omega)) ?_;have hL2':2<=L:=by omega
  have hVd8:=hVd.same s78;refine⟨_,rfl,_,rfl,_,_,rfl,rfl,YR (by omega) (by omega) (by decide),?_⟩;rw[Za0 hL1];refine⟨_,rfl,_,_,rfl,rfl,(by show(0:Int)<3;decide),.ref d,_,_,_,tx (rp L 99),sd % 3,true,rfl,hVd8,hRd,.inl ⟨rfl,?_⟩,fun H9 s9=>⟨_,rfl,ZfJ ?_⟩⟩
  ·simp only[Qy,WU,or_false,not_or];exact⟨Zfz hL1 (by decide),Zfz hL1 (by decide)⟩
  have hVd9:=hVd8.same s9;have eL1:(L:Int)-1=((L-1:Nat):Int):=by omega
  refine⟨_,rfl,_,_,rfl,rfl,tx [98],((L-1:Nat):Int),rfl,congrArg V.int eL1,YR (by omega) (by omega) (by decide),?_⟩;rw[Za0 (by omega)];refine⟨_,_,rfl,rfl,Zh (by rw[Zn,Zn,Q4];show _+1<=1000;omega),?_⟩;rw[Z7];refine⟨Zh (show 2<=1000 by decide),fun b1 hb1=>?_⟩;have u1:=Zb (o:=.tup [.str (tx (rp (L-1) 98++[99])),.int 2]) hb1;refine⟨Zh (show 1<=1000 by decide),fun b2 hb2=>?_⟩;have u2:=Zb (o:=.tup [.ref b1]) hb2;have hb1':=u2 _ _ (Zd (H:=H9) (a:=b1) (o:=.tup [.str (tx (rp (L-1) 98++[99])),.int 2]));have hb2':(upd (upd H9 b1 (.tup [.str (tx (rp (L-1) 98++[99])),.int 2])) b2 (.tup [.ref b1])) b2=some (.tup [.ref b1]):=Zd;have hVd10:=(hVd9.same u1).same u2;generalize upd (upd H9 b1 (.tup [.str (tx (rp (L-1) 98++[99])),.int 2])) b2 (.tup [.ref b1])=HA at hb1' hb2' hVd10;clear u1 u2 hb1 hb2;have hVt:Hv HA (.ref b2) [tx (rp (L-1) 98++[99]),tx (rp (L-1) 98++[99])] [(tx (rp (L-1) 98++[99]),2)]:=by
   refine⟨⟨b2,_,rfl,hb2',rfl,fun i p he=>?_⟩,ZmT _⟩;cases i with
   | zero =>
    cases he;exact⟨b1,rfl,hb1'⟩
   | succ i=>cases he
  have hRt:RO [tx (rp (L-1) 98++[99]),tx (rp (L-1) 98++[99])]:=by
   refine Zj2 (Qk 2) fun x hx=>?_;simp only[Qy,WU,or_false,or_self]at hx;rw[hx,Zn,Zs,Qd,Q4];refine⟨by show 1<=_+1;omega,by show _+1<=63;omega,fun c hc=>?_⟩;rcases QF.mp hc with r | r
   ·rw[(Wi.mp r).2];decide
   ·rw[Qm.mp r];decide
  refine⟨_,rfl,by decide,by decide,?_⟩;refine YS (n:=3) (fun i σ H'=>∃ z14:Option V,σ=[some (.ref a),some (.ref pc),some (.int sd),some (.str (tx z)),some (.int L),some vh,some (.ref l),z7,z8,z9,z10,some (.ref d),some (.ref q),some (.ref b2),z14]/\Same HA H')
   ⟨none,rfl,Same.refl _⟩ ?_ ?_
  ·rintro i σ HB hi ⟨z14,rfl,sB⟩;rw[UL];refine⟨_,rfl,_,rfl,b2,_,0,.ref b1,rfl,rfl,SqT.of (sB _ _ hb2'),rfl,b1,_,0,_,rfl,rfl,SqT.of (sB _ _ hb1'),rfl,_,rfl,.ref b2,_,_,_,_,(i:Int),false,rfl,hVt.same sB,hRt,.inr ⟨rfl,by simp,ZnX hL2'⟩,fun HC sC=>⟨_,rfl,ZfJ ?_⟩⟩;exact⟨_,rfl,sB.trans sC⟩
  rintro σ HB ⟨z14,rfl,sB⟩;obtain⟨c,hc,hcat⟩:=ZnW (sd / 61);refine⟨_,rfl,Zh (show 2<=1000 by decide),fun ml hml=>?_⟩;have sM:=Zb (o:=.lst [.str (tx [98]),.str (tx [100])]) hml;refine⟨_,rfl,_,_,rfl,rfl,⟨by decide,by decide⟩,_,_,rfl,rfl,(by show(0:Int)<2;decide),ml,_,_,_,rfl,rfl,SqL.of Zd,hcat,_,rfl,_,_,rfl,rfl,YR (by omega) (by omega) (by rw[Zn];show 1<=1000;decide),?_⟩;rw[Za0 hL1];refine⟨_,rfl,_,_,rfl,rfl,⟨by decide,by decide⟩,_,_,rfl,rfl,(by show(0:Int)<3;decide),.ref d,_,_,_,tx (rp L c),_,false,rfl,(hVd10.same sB).same sM,hRd,.inr ⟨rfl,?_,ZnV hL2'⟩,fun H' _=>k H'⟩;rcases hc with rfl | rfl <;> simp
end
open PySem L2
theorem blt_mk {K:PySem.W.Frag} {mg:Str->Option Value} (X:K.In h) (G:h.Ns mainGlobals mg) (z0:PySem.W.nsIn K mainGlobals "isinstance" = some none) (z1:PySem.W.nsIn K mainGlobals "int" = some none) (z2:PySem.W.nsIn K mainGlobals "bool" = some none) (z3:PySem.W.nsIn K mainGlobals "len" = some none) (z4:PySem.W.nsIn K mainGlobals "range" = some none) (z5:PySem.W.nsIn K mainGlobals "list" = some none) (z6:PySem.W.nsIn K mainGlobals "tuple" = some none) (z7:PySem.W.nsIn K mainGlobals "enumerate" = some none) (z8:PySem.W.nsIn K mainGlobals "sum" = some none) (z9:PySem.W.nsIn K mainGlobals "sorted" = some none) (z10:PySem.W.nsIn K mainGlobals "set" = some none) (z11:PySem.W.nsIn K mainGlobals "max" = some none) (z12:PySem.W.nsIn K mainGlobals "min" = some none) (z13:PySem.W.nsIn K mainGlobals "reversed" = some none) (z14:PySem.W.nsIn K mainGlobals "zip" = some none) (z15:PySem.W.nsIn K mainGlobals "str" = some none) (z16:PySem.W.nsIn K mainGlobals "dict" = some none):Blt mg :=
 ⟨PySem.W.mg_none_of X G z0,PySem.W.mg_none_of X G z1,PySem.W.mg_none_of X G z2,PySem.W.mg_none_of X G z3,PySem.W.mg_none_of X G z4,PySem.W.mg_none_of X G z5,PySem.W.mg_none_of X G z6,PySem.W.mg_none_of X G z7,PySem.W.mg_none_of X G z8,PySem.W.mg_none_of X G z9,PySem.W.mg_none_of X G z10,PySem.W.mg_none_of X G z11,PySem.W.mg_none_of X G z12,PySem.W.mg_none_of X G z13,PySem.W.mg_none_of X G z14,PySem.W.mg_none_of X G z15,PySem.W.mg_none_of X G z16⟩
theorem er_mk {K:PySem.W.Frag} {mg:Str->Option Value} {S C C2 A1 A2 A3 A4 A5 A6 A7:Addr} (X:K.In h) (G:h.Ns mainGlobals mg)
  (s0:PySem.W.nsIn K mainGlobals "ShredError" = some (some (.ref S))) (t1:PySem.W.nsIn K mainGlobals "NoPiece" = some (some (.ref C))) (t2:PySem.W.nsIn K mainGlobals "NoTexts" = some (some (.ref C2))) (g1:PySem.W.nsIn K mainGlobals "NoText" = some (some (.ref A1))) (g2:PySem.W.nsIn K mainGlobals "NoHeap" = some (some (.ref A2))) (g3:PySem.W.nsIn K mainGlobals "NoLine" = some (some (.ref A3))) (g4:PySem.W.nsIn K mainGlobals "NoNumber" = some (some (.ref A4))) (g5:PySem.W.nsIn K mainGlobals "NoDeed" = some (some (.ref A5))) (g6:PySem.W.nsIn K mainGlobals "Unlike" = some (some (.ref A6))) (g7:PySem.W.nsIn K mainGlobals "Apart" = some (some (.ref A7)))
  (vn:PySem.W.nsIn K mainGlobals "ValueError" = some none) (qs:PySem.W.excIn K S Zng "ValueError.__new__" = true) (q1:PySem.W.excIn K C Zng "ValueError.__new__" = true) (q2:PySem.W.excIn K C2 Zng "ValueError.__new__" = true) (u1:PySem.W.mroIn K C (.ref S)=some true) (u2:PySem.W.mroIn K C2 (.ref S)=some true) (n1:(S==C)=false) (n2:(S==C2)=false) (h1:JM K C) (h2:JM K C2)
  (v1:PySem.W.kitOne K (.ref C) (.type "ValueError")=some true) (v2:PySem.W.kitOne K (.ref C2) (.type "ValueError")=some true) (x1:PySem.W.kitOne K (.ref C) (.ref C2)=some false) (x2:PySem.W.kitOne K (.ref C2) (.ref C)=some false) (o1:PySem.W.kitAny K (.ref C) [.ref A1,.ref A2,.ref A3,.ref A4,.ref A5,.ref A6,.ref A7]=some false) (o2:PySem.W.kitAny K (.ref C2) [.ref A1,.ref A2,.ref A3,.ref A4,.ref A5,.ref A6,.ref A7]=some false):Zn4 K mg S C C2 A1 A2 A3 A4 A5 A6 A7 :=
 ⟨Zdp (PySem.W.mg_of X G s0) qs,Zdp (PySem.W.mg_of X G t1) q1,Zdp (PySem.W.mg_of X G t2) q2,ZlG u1 q1 n1,ZlG u2 q2 n2,h1,h2,v1,v2,x1,x2,o1,o2,PySem.W.mg_of X G g1,PySem.W.mg_of X G g2,PySem.W.mg_of X G g3,PySem.W.mg_of X G g4,PySem.W.mg_of X G g5,PySem.W.mg_of X G g6,PySem.W.mg_of X G g7,PySem.W.mg_none_of X G vn⟩
theorem all_mk {l:PySem.W.OpenLaw} {w:World} {K:PySem.W.Frag} {mg:Str->Option Value} {fa f0:Addr} (X:K.In h) (G:h.Ns mainGlobals mg) (hfa:mg "law" = some (.ref fa)) {oc kV dc pm cd ct:Value} {od an:Option Addr} {sl:Array (Option Value)}
  (B:Blt mg) {S C C2 A1 A2 A3 A4 A5 A6 A7:Addr} (Er:Zn4 K mg S C C2 A1 A2 A3 A4 A5 A6 A7)
  (D0:HasDef K mg "in_rows" ZdL ["manys"])
  (D1:HasDef K mg "less_one" Zbv ["H","piece"])
  (D2:HasDef K mg "begin_of" Zby ["piece"])
  (D3:HasDef K mg "end_of" ZgS ["piece"])
  (D4:HasDef K mg "ties_of" ZgK ["H"])
  (D5:HasDef K mg "points_of" Xd ["H"])
  (D6:HasDef K mg "nexts_of" JS ["H","P"])
  (D7:HasDef K mg "more_out" Zbu ["H"])
  (D8:HasDef K mg "begins_of" XT ["H"])
  (D9:HasDef K mg "start_of" Zbt ["H","wish"])
  (D10:HasDef K mg "tied_points" XD ["H"])
  (D11:HasDef K mg "part_of" ZdJ ["H"])
  (D12:HasDef K mg "hangs" ZgR ["H"])
  (D13:HasDef K mg "numbers_out" XE ["ties"])
  (D14:HasDef K mg "is_way" ZgQ ["ties","begin","numbers"])
  (D15:HasDef K mg "way_of" ZgJ ["ties","begin"])
  (D16:HasDef K mg "text_from" XR ["ties","begin"])
  (D17:HasDef K mg "has_many_begins" JV ["H"])
  (D18:HasDef K mg "has_text" Zbx ["H"])
  (D19:HasDef K mg "text_with" J9 ["H","piece","sign"])
  (D20:HasDef K mg "text_that_ends" YT ["H","piece"])
  (D21:HasDef K mg "signs_behind" YF ["H","piece"])
  (D22:HasDef K mg "backwards" Xr ["H"])
  (D23:HasDef K mg "check_piece" XF ["H","piece"])
  (D24:HasDef K mg "behind_of" Zac ["H","piece"])
  (D25:HasDef K mg "ahead_of" JW ["H","piece"])
  (D26:HasDef K mg "stretch_of" Jp ["H","piece"])
  (D27:HasDef K mg "_law_seed" ZgM ["_law_cells"])
  (D28:HasDef K mg "_law_letters" XS ["_law_cell"])
  (D29:HasDef K mg "_law_text" ZeJ ["_law_cells","_law_seed_here"])
  (D30:HasDef K mg "_law_cut" ZkS ["_law_signs","_law_seed_here"])
  (D31:HasDef K mg "_law_points" JT ["_law_signs","_law_long"])
  (D32:HasDef K mg "_law_part" ZgN ["_law_signs","_law_long","_law_one","_law_other"])
  (D33:HasDef K mg "_law_led" ZkR ["_law_signs","_law_long","_law_deed"])
  (D34:HasDef K mg "_law_drawn" Jq ["_law_signs","_law_long","_law_cell"])
  (D35:HasDef K mg "_law_torn" ZgL ["_law_signs","_law_long"])
  (D36:HasDef K mg "_law_behind" Zbw ["_law_signs","_law_piece"])
  (D37:HasDef K mg "_law_back" ZgP ["_law_signs"])
  (D38:HasDef K mg "_law_left" ZgO ["_law_heap","_law_some"])
  (D39:HasDef K mg "_law_ties" ZeI ["_law_left_here"])
  (D40:HasDef K mg "_law_joined" JU ["_law_ties_here"])
  (D41:HasDef K mg "_law_goes" ZeK ["_law_ties_here","_law_end"])
  (D42:HasDef K mg "_law_none_lacks" ZdK ["_law_heap","_law_piece","_law_told_here"])
  (D43:HasDef K mg "_law_told" Zaa ["_law_pairs","_law_heap","_law_piece","_law_texts","_law_back_here"])
  (D44:HasDef K mg "_law_refused" Zab ["_law_heap","_law_piece","_law_way","_law_none"])
  (D45:HasDef K mg "_law_odd" ZiW ["_law_heap","_law_seed_here"])
  (a0:PySem.W.nsIn K mainGlobals "law" = some (some (.ref f0))) (l0:K.lookup f0=some ⟨oc,od,.func (PySem.W.fnOf "law" "law" (Xk Ziy) (Yw Ziy) (Zg Ziy) .none kV dc pm an cd ct),sl⟩) (c0:PySem.W.codeIn K cd "law" = true) (k0:PySem.W.keepIn K (.ref f0)=true) :
  ∃ fd:FuncData,(∀ (s:Shared) (v:Value),BindsTo s fd ⟨[v],[]⟩ [("_law_script",v)])/\∀ base:Heap,K.In base->base.Ns mainGlobals mg->FnOk l.prog w K mg base CX0 11 fa fd ["_law_script"] (ZiN K):=by
 have e:=hfa.symm.trans (PySem.W.mg_of X G a0);cases e;refine⟨PySem.W.fnOf "law" "law" (Xk Ziy) (Yw Ziy) (Zg Ziy) .none kV dc pm an cd ct,fun s v=>.of_eq rfl,fun base _ _=>?_⟩;have W0:=ZfF (P:=l.prog) (w:=w) (base:=base) D0 B;have W1:=ZdV (P:=l.prog) (w:=w) (base:=base) D1 B B.dict Er.np (W0.mono (by decide));have W2:=ZdZ (P:=l.prog) (w:=w) (base:=base) D2;have W3:=Zhx (P:=l.prog) (w:=w) (base:=base) D3;have W4:=Zi7 (P:=l.prog) (w:=w) (base:=base) D4 W2 W3;have W5:=Zcx (P:=l.prog) (w:=w) (base:=base) D5 B W2 W3;have W6:=ZdT (P:=l.prog) (w:=w) (base:=base) D6 B W2;have W7:=ZdU (P:=l.prog) (w:=w) (base:=base) D7 W2 W3;have W8:=ZcC (P:=l.prog) (w:=w) (base:=base) D8 B W7;have W9:=ZdS (P:=l.prog) (w:=w) (base:=base) D9 B W8;have W10:=ZaL (P:=l.prog) (w:=w) (base:=base) D10 W2 W3;have W11:=ZfC (P:=l.prog) (w:=w) (base:=base) D11 B (W2.mono (by decide)) W10;have W12:=Zjb (P:=l.prog) (w:=w) (base:=base) D12 B W11 (W5.mono (by decide));have W13:=ZaN (P:=l.prog) (w:=w) (base:=base) D13 B;have W14:=Zhw (P:=l.prog) (w:=w) (base:=base) D14 B;have W15:=Zhm (P:=l.prog) (w:=w) (base:=base) D15 B W13 W14;have W16:=Zcw (P:=l.prog) (w:=w) (base:=base) D16 B W15;have W17:=ZcB (P:=l.prog) (w:=w) (base:=base) D17 B W8;have W18:=ZcA (P:=l.prog) (w:=w) (base:=base) D18 B W12 W17;have W19:=Zcv (P:=l.prog) (w:=w) (base:=base) D19 W1 (W2.mono (by decide)) (W3.mono (by decide)) (W4.mono (by decide)) (W9.mono (by decide)) (W16.mono (by decide));have W20:=Jt (P:=l.prog) (w:=w) (base:=base) D20 W1 (W2.mono (by decide)) (W3.mono (by decide)) (W4.mono (by decide)) (W9.mono (by decide)) (W16.mono (by decide));have W21:=Zaj (P:=l.prog) (w:=w) (base:=base) D21 B (W1.mono (by decide)) (W3.mono (by decide)) (W6.mono (by decide)) W20 W19;have W22:=ZcD (P:=l.prog) (w:=w) (base:=base) D22 B;have W23:=Zak (P:=l.prog) (w:=w) (base:=base) D23 B Er.np Er.nt W18;have W24:=ZbF (P:=l.prog) (w:=w) (base:=base) D24 (W23.mono (by decide)) W21;have W25:=ZcE (P:=l.prog) (w:=w) (base:=base) D25 B (W23.mono (by decide)) W21 (W22.mono (by decide));have W26:=ZaM (P:=l.prog) (w:=w) (base:=base) D26 (W23.mono (by decide));have W27:=Zhr (P:=l.prog) (w:=w) (base:=base) D27 B;have W28:=Zcz (P:=l.prog) (w:=w) (base:=base) D28 B;have W29:=Zhq (P:=l.prog) (w:=w) (base:=base) D29 B W28;have W30:=Zja (P:=l.prog) (w:=w) (base:=base) D30 B;have W31:=ZdW (P:=l.prog) (w:=w) (base:=base) D31 B;have W32:=Zhs (P:=l.prog) (w:=w) (base:=base) D32 B;have W33:=Zi9 (P:=l.prog) (w:=w) (base:=base) D33 B W32;have W34:=ZfE (P:=l.prog) (w:=w) (base:=base) D34 B W31;have W35:=Zhn (P:=l.prog) (w:=w) (base:=base) D35 B;have W36:=ZdY (P:=l.prog) (w:=w) (base:=base) D36 B;have W37:=Zhv (P:=l.prog) (w:=w) (base:=base) D37 B;have W38:=Zht (P:=l.prog) (w:=w) (base:=base) D38 B;have W39:=Zhp (P:=l.prog) (w:=w) (base:=base) D39 B;have W40:=ZdX (P:=l.prog) (w:=w) (base:=base) D40 B;have W41:=Zhu (P:=l.prog) (w:=w) (base:=base) D41 B W40;have W42:=ZfD (P:=l.prog) (w:=w) (base:=base) D42 B (W38.mono (by decide)) (W39.mono (by decide)) W41;have W43:=Zho (P:=l.prog) (w:=w) (base:=base) D43 B (W35.mono (by decide)) (W37.mono (by decide)) (W36.mono (by decide)) W42;have W44:=Zcy (P:=l.prog) (w:=w) (base:=base) D44 B Er (W24.mono (by decide)) (W25.mono (by decide)) (W26.mono (by decide));have W45:=Zi8 (P:=l.prog) (w:=w) (base:=base) D45 B;exact Zmp (Zh1 (st:=Ziy) l0 c0 k0) B (W27.mono (by decide)) (W29.mono (by decide)) (W30.mono (by decide)) (W35.mono (by decide)) (W34.mono (by decide)) (W33.mono (by decide)) (W24.mono (by decide)) (W25.mono (by decide)) (W43.mono (by decide)) (W45.mono (by decide)) W44
theorem walk {l:PySem.W.OpenLaw} {q:Program} {loose:List Str} {XP:(Str->Option Value)->Heap->Prop} {YP:World->Heap->Prop} {d:DefRec} {K:Params->PySem.W.Frag} (hn:l.most=some 63) (hdf:d.params.defaults=[])
  (hY:∀ (w:World) (h:Heap),YP w h->(K w.params).In h)
  (F:∀ (w:World) (mg:Str->Option Value) (fa:Addr) (h:Heap),(K w.params).In h->h.Ns mainGlobals mg->mg d.name=some (.ref fa) ->
   ∃ fd:FuncData,(∀ (s:Shared) (u:Value),BindsTo s fd ⟨[u],[]⟩ [("_law_script",u)])/\∀ base:Heap,(K w.params).In base->base.Ns mainGlobals mg->FnOk l.prog w (K w.params) mg base CX0 11 fa fd ["_law_script"] (ZiN (K w.params))) :
  PySem.W.WalkO q loose XP YP l.row.toRowW d [] (fun f vs=>PySem.call f vs) :=
 L2.walk_of (n:=63) (k:=11) (x:="_law_script") (CX:=fun _=>CX0) (sp:=fun w=>ZiN (K w.params)) hn (by decide) hdf ⟨rfl,by decide,by decide⟩ hY F (fun _ _ a ns hl _ hS=>⟨a,ns,rfl,hS,hl,fun _=>rfl⟩) fun _ _ _ _ _ z=>z
end Sh
def PySem.W.Fast.tw16377996792052814615:Unit:=()
def PySem.W.Fast.tw17056735304173218697:Unit:=()
def PySem.W.Fast.tw15695111532894455667:Unit:=()
def PySem.W.Fast.tw10764632044408819718:Unit:=()
def PySem.W.Fast.tw16737731327437973042:Unit:=()
def PySem.W.Fast.tw9754885154093245326:Unit:=()
def PySem.W.Fast.tw5928488128836618935:Unit:=()
def PySem.W.Fast.tw4090676671745002677:Unit:=()
def PySem.W.Fast.tw12296870329952223730:Unit:=()
def PySem.W.Fast.tw13261758189705468008:Unit:=()
def PySem.W.Fast.tw4136067178662533352:Unit:=()
def PySem.W.Fast.tw7753088186462962756:Unit:=()
def PySem.W.Fast.tw9696608616540544201:Unit:=()
def PySem.W.Fast.tw16838183602758799318:Unit:=()
def PySem.W.Fast.tw17554063500935472338:Unit:=()
def PySem.W.Fast.tw1069454476072858469:Unit:=()
def PySem.W.Fast.tw12077656356611840021:Unit:=()
def PySem.W.Fast.tw16605502717562511024:Unit:=()
def PySem.W.Fast.tw13508944865857765270:Unit:=()
def PySem.W.Fast.tw10127083990191722085:Unit:=()
def PySem.W.Fast.tw4195027315638143942:Unit:=()
def PySem.W.Fast.tw5529975482221578643:Unit:=()
def PySem.W.Fast.tw8117290994417611774:Unit:=()
def PySem.W.Fast.tw14481646413210115319:Unit:=()
def PySem.W.Fast.tw3980249074682659540:Unit:=()
def PySem.W.Fast.tw16280282788237533629:Unit:=()
def PySem.W.Fast.tw5937040658813315307:Unit:=()
def PySem.W.Fast.tw16775990687301668781:Unit:=()
def PySem.W.Fast.tw2719718282070411919:Unit:=()
def PySem.W.Fast.tw15631870843470554232:Unit:=()
def PySem.W.Fast.tw10866545863548980751:Unit:=()
def PySem.W.Fast.tw13083564089106648208:Unit:=()
def PySem.W.Fast.tw16852592439935348685:Unit:=()
def PySem.W.Fast.tw17486878721343805424:Unit:=()
def PySem.W.Fast.tw16611685371081982408:Unit:=()
def PySem.W.Fast.tw1173424596264773800:Unit:=()
def PySem.W.Fast.tw11269702967227173642:Unit:=()
def PySem.W.Fast.tw4955305375146675672:Unit:=()
def PySem.W.Fast.tw15423710285357335795:Unit:=()
def PySem.W.Fast.tw11287916502947579332:Unit:=()
def PySem.W.Fast.tw3396947091272741551:Unit:=()
def PySem.W.Fast.tw17461014199810600467:Unit:=()
def PySem.W.Fast.tw2566945176878375697:Unit:=()
def PySem.W.Fast.tw14009959346413160454:Unit:=()
def PySem.W.Fast.tw307271178137105039:Unit:=()
def PySem.W.Fast.tw11811076755646065616:Unit:=()
def PySem.W.Fast.tw6206358086211694562:Unit:=()
def PySem.W.Fast.tw4540191822808471969:Unit:=()
def PySem.W.Fast.tw12713913654600257779:Unit:=()
def PySem.W.Fast.tw988739038155307184:Unit:=()
def PySem.W.Fast.tw17719781633428282636:Unit:=()
def PySem.W.Fast.tw15100490580949926986:Unit:=()
def PySem.W.Fast.tw10430529288024036377:Unit:=()
def PySem.W.Fast.tw9960062361958668109:Unit:=()
def PySem.W.Fast.tw10188731432222201047:Unit:=()
def PySem.W.Fast.tw16093469252299520862:Unit:=()
def PySem.W.Fast.tw14002874495579861036:Unit:=()
def PySem.W.Fast.tw12932430246005909460:Unit:=()
def PySem.W.Fast.tw12511940311943310000:Unit:=()
def PySem.W.Fast.tw13269612497021133062:Unit:=()
def PySem.W.Fast.tw3895320126931413681:Unit:=()
def PySem.W.Fast.tw4710854421450256985:Unit:=()
def PySem.W.Fast.tw10129217943248399993:Unit:=()
def PySem.W.Fast.tw7562146636417116345:Unit:=()
def PySem.W.Fast.tw12036015827503052562:Unit:=()
def PySem.W.Fast.tw123908217148817377:Unit:=()
def PySem.W.Fast.tw235510034048575761:Unit:=()
def PySem.W.Fast.tw12271441286312903953:Unit:=()
def PySem.W.Fast.tw17673950789539160367:Unit:=()
def PySem.W.Fast.tw11281717572052652830:Unit:=()
def PySem.W.Fast.tw3552045911794919833:Unit:=()
def PySem.W.Fast.tw8773062635598400214:Unit:=()
def PySem.W.Fast.tw18115567395663906273:Unit:=()
def PySem.W.Fast.tw14382892040928138150:Unit:=()
def PySem.W.Fast.tw5474819704406154390:Unit:=()
def PySem.W.Fast.tw16777068641291702188:Unit:=()
def PySem.W.Fast.tw6258157284595594350:Unit:=()
def PySem.W.Fast.tw10722388534036431615:Unit:=()
def PySem.W.Fast.tw12911843658775012469:Unit:=()
def PySem.W.Fast.tw1324941271866321020:Unit:=()
def PySem.W.Fast.tw15823318203754518417:Unit:=()
def PySem.W.Fast.tw4348065351519658765:Unit:=()
def PySem.W.Fast.tw18245242672777837792:Unit:=()
def PySem.W.Fast.tw18114107556119986771:Unit:=()
def PySem.W.Fast.tw10384783263803562989:Unit:=()
def PySem.W.Fast.tw1910896989486372437:Unit:=()
def PySem.W.Fast.tw16094861550550178658:Unit:=()
def PySem.W.Fast.tw12781358525697557740:Unit:=()
def PySem.W.Fast.tw9320563961741657712:Unit:=()
def PySem.W.Fast.tw10100719230327898090:Unit:=()
def PySem.W.Fast.tw11352261409053683464:Unit:=()
def PySem.W.Fast.tw13203203334029577805:Unit:=()
def PySem.W.Fast.tw10090860619929424831:Unit:=()
def PySem.W.Fast.tw622141720098468687:Unit:=()
def PySem.W.Fast.tw18297183176247477902:Unit:=()
def PySem.W.Fast.tw16149498838707657460:Unit:=()
def PySem.W.Fast.tw18268592531999845104:Unit:=()
def PySem.W.Fast.tw297215734196077729:Unit:=()
def PySem.W.Fast.tw1789518116656411371:Unit:=()
def PySem.W.Fast.tw1478145788744156308:Unit:=()
def PySem.W.Fast.tw11595326215120494113:Unit:=()
def PySem.W.Fast.tw10636722753032369550:Unit:=()
def PySem.W.Fast.tw6107114918966116031:Unit:=()
def PySem.W.Fast.tw2011937520051995226:Unit:=()
def PySem.W.Fast.tw8959698133002349483:Unit:=()
def PySem.W.Fast.tw1443168143068843992:Unit:=()
def PySem.W.Fast.tw14789535650431201000:Unit:=()
def PySem.W.Fast.tw3271790651945126127:Unit:=()
def PySem.W.Fast.tw14601028594432715133:Unit:=()
def PySem.W.Fast.tw11538150071469919567:Unit:=()
def PySem.W.Fast.tw10942315879300823132:Unit:=()
def PySem.W.Fast.tw9315240392770255128:Unit:=()
open PySem PySem.W PyProof.Rows
set_option maxRecDepth 100000 in
theorem PySem.Challenge.cw_shredjoin_k62_behind_and_ahead_holds : PySem.Challenge.rw_shredjoin_k62_behind_and_ahead.Holds := by
 w_on; o_law; k_head; (case hw => w_witness2)
 k_fill
 refine Sh.walk (l := PySem.Challenge.rw_shredjoin_k62_behind_and_ahead) rfl rfl (fun w h Y => PySem.W.kIn_of Y) ?F
 case F =>
  intro w mg fa h KX G hmg
  refine' Sh.all_mk KX G hmg ?B ?Er ?D0 ?D1 ?D2 ?D3 ?D4 ?D5 ?D6 ?D7 ?D8 ?D9 ?D10 ?D11 ?D12 ?D13 ?D14 ?D15 ?D16 ?D17 ?D18 ?D19 ?D20 ?D21 ?D22 ?D23 ?D24 ?D25 ?D26 ?D27 ?D28 ?D29 ?D30 ?D31 ?D32 ?D33 ?D34 ?D35 ?D36 ?D37 ?D38 ?D39 ?D40 ?D41 ?D42 ?D43 ?D44 ?D45 ?a0 ?l0 ?c0 ?k0
  case B =>
   refine' Sh.blt_mk KX G ?z0 ?z1 ?z2 ?z3 ?z4 ?z5 ?z6 ?z7 ?z8 ?z9 ?z10 ?z11 ?z12 ?z13 ?z14 ?z15 ?z16
   (case z0 => k_is); (case z1 => k_is); (case z2 => k_is); (case z3 => k_is); (case z4 => k_is); (case z5 => k_is); (case z6 => k_is); (case z7 => k_is); (case z8 => k_is); (case z9 => k_is); (case z10 => k_is); (case z11 => k_is); (case z12 => k_is); (case z13 => k_is); (case z14 => k_is); (case z15 => k_is); (case z16 => k_is)
  case Er =>
   refine' Sh.er_mk KX G ?s0 ?t1 ?t2 ?g1 ?g2 ?g3 ?g4 ?g5 ?g6 ?g7 ?vn ?qs ?q1 ?q2 ?u1 ?u2 ?n1 ?n2 ?h1 ?h2 ?v1 ?v2 ?x1 ?x2 ?o1 ?o2
   (case s0 => k_is); (case t1 => k_is); (case t2 => k_is)
   (case g1 => k_is); (case g2 => k_is); (case g3 => k_is); (case g4 => k_is); (case g5 => k_is); (case g6 => k_is); (case g7 => k_is)
   (case vn => k_is); (case qs => k_exc); (case q1 => k_exc); (case q2 => k_exc)
   (case u1 => k_is); (case u2 => k_is); (case n1 => decide); (case n2 => decide)
   (case h1 =>
    refine' L2.xattr_mk ?ga ?gx ?gc ?sp ?tk ?mo ?mb ?cl
    (case ga => k_is); (case gx => k_is); (case gc => k_is); (case sp => k_is); (case tk => k_is); (case mo => k_is); (case mb => k_is); (case cl => k_is))
   (case h2 =>
    refine' L2.xattr_mk ?ga ?gx ?gc ?sp ?tk ?mo ?mb ?cl
    (case ga => k_is); (case gx => k_is); (case gc => k_is); (case sp => k_is); (case tk => k_is); (case mo => k_is); (case mb => k_is); (case cl => k_is))
   (case v1 => kit_is); (case v2 => kit_is); (case x1 => kit_is); (case x2 => kit_is); (case o1 => kit_is); (case o2 => kit_is)
  case D0 =>
   refine' L2.hasDef_mk KX G ?a ?l ?c ?k ?b
   (case a => k_is); (case l => k_is); (case c => k_is); (case k => k_is)
   case b => exact fun _ _ _ _ _ _ us hl => match us, hl with | [_], _ => rfl
  case D1 =>
   refine' L2.hasDef_mk KX G ?a ?l ?c ?k ?b
   (case a => k_is); (case l => k_is); (case c => k_is); (case k => k_is)
   case b => exact fun _ _ _ _ _ _ us hl => match us, hl with | [_, _], _ => rfl
  case D2 =>
   refine' L2.hasDef_mk KX G ?a ?l ?c ?k ?b
   (case a => k_is); (case l => k_is); (case c => k_is); (case k => k_is)
   case b => exact fun _ _ _ _ _ _ us hl => match us, hl with | [_], _ => rfl
  case D3 =>
   refine' L2.hasDef_mk KX G ?a ?l ?c ?k ?b
   (case a => k_is); (case l => k_is); (case c => k_is); (case k => k_is)
   case b => exact fun _ _ _ _ _ _ us hl => match us, hl with | [_], _ => rfl
  case D4 =>
   refine' L2.hasDef_mk KX G ?a ?l ?c ?k ?b
   (case a => k_is); (case l => k_is); (case c => k_is); (case k => k_is)
   case b => exact fun _ _ _ _ _ _ us hl => match us, hl with | [_], _ => rfl
  case D5 =>
   refine' L2.hasDef_mk KX G ?a ?l ?c ?k ?b
   (case a => k_is); (case l => k_is); (case c => k_is); (case k => k_is)
   case b => exact fun _ _ _ _ _ _ us hl => match us, hl with | [_], _ => rfl
  case D6 =>
   refine' L2.hasDef_mk KX G ?a ?l ?c ?k ?b
   (case a => k_is); (case l => k_is); (case c => k_is); (case k => k_is)
   case b => exact fun _ _ _ _ _ _ us hl => match us, hl with | [_, _], _ => rfl
  case D7 =>
   refine' L2.hasDef_mk KX G ?a ?l ?c ?k ?b
   (case a => k_is); (case l => k_is); (case c => k_is); (case k => k_is)
   case b => exact fun _ _ _ _ _ _ us hl => match us, hl with | [_], _ => rfl
  case D8 =>
   refine' L2.hasDef_mk KX G ?a ?l ?c ?k ?b
   (case a => k_is); (case l => k_is); (case c => k_is); (case k => k_is)
   case b => exact fun _ _ _ _ _ _ us hl => match us, hl with | [_], _ => rfl
  case D9 =>
   refine' L2.hasDef_mk KX G ?a ?l ?c ?k ?b
   (case a => k_is); (case l => k_is); (case c => k_is); (case k => k_is)
   case b => exact fun _ _ _ _ _ _ us hl => match us, hl with | [_, _], _ => rfl
  case D10 =>
   refine' L2.hasDef_mk KX G ?a ?l ?c ?k ?b
   (case a => k_is); (case l => k_is); (case c => k_is); (case k => k_is)
   case b => exact fun _ _ _ _ _ _ us hl => match us, hl with | [_], _ => rfl
  case D11 =>
   refine' L2.hasDef_mk KX G ?a ?l ?c ?k ?b
   (case a => k_is); (case l => k_is); (case c => k_is); (case k => k_is)
   case b => exact fun _ _ _ _ _ _ us hl => match us, hl with | [_], _ => rfl
  case D12 =>
   refine' L2.hasDef_mk KX G ?a ?l ?c ?k ?b
   (case a => k_is); (case l => k_is); (case c => k_is); (case k => k_is)
   case b => exact fun _ _ _ _ _ _ us hl => match us, hl with | [_], _ => rfl
  case D13 =>
   refine' L2.hasDef_mk KX G ?a ?l ?c ?k ?b
   (case a => k_is); (case l => k_is); (case c => k_is); (case k => k_is)
   case b => exact fun _ _ _ _ _ _ us hl => match us, hl with | [_], _ => rfl
  case D14 =>
   refine' L2.hasDef_mk KX G ?a ?l ?c ?k ?b
   (case a => k_is); (case l => k_is); (case c => k_is); (case k => k_is)
   case b => exact fun _ _ _ _ _ _ us hl => match us, hl with | [_, _, _], _ => rfl
  case D15 =>
   refine' L2.hasDef_mk KX G ?a ?l ?c ?k ?b
   (case a => k_is); (case l => k_is); (case c => k_is); (case k => k_is)
   case b => exact fun _ _ _ _ _ _ us hl => match us, hl with | [_, _], _ => rfl
  case D16 =>
   refine' L2.hasDef_mk KX G ?a ?l ?c ?k ?b
   (case a => k_is); (case l => k_is); (case c => k_is); (case k => k_is)
   case b => exact fun _ _ _ _ _ _ us hl => match us, hl with | [_, _], _ => rfl
  case D17 =>
   refine' L2.hasDef_mk KX G ?a ?l ?c ?k ?b
   (case a => k_is); (case l => k_is); (case c => k_is); (case k => k_is)
   case b => exact fun _ _ _ _ _ _ us hl => match us, hl with | [_], _ => rfl
  case D18 =>
   refine' L2.hasDef_mk KX G ?a ?l ?c ?k ?b
   (case a => k_is); (case l => k_is); (case c => k_is); (case k => k_is)
   case b => exact fun _ _ _ _ _ _ us hl => match us, hl with | [_], _ => rfl
  case D19 =>
   refine' L2.hasDef_mk KX G ?a ?l ?c ?k ?b
   (case a => k_is); (case l => k_is); (case c => k_is); (case k => k_is)
   case b => exact fun _ _ _ _ _ _ us hl => match us, hl with | [_, _, _], _ => rfl
  case D20 =>
   refine' L2.hasDef_mk KX G ?a ?l ?c ?k ?b
   (case a => k_is); (case l => k_is); (case c => k_is); (case k => k_is)
   case b => exact fun _ _ _ _ _ _ us hl => match us, hl with | [_, _], _ => rfl
  case D21 =>
   refine' L2.hasDef_mk KX G ?a ?l ?c ?k ?b
   (case a => k_is); (case l => k_is); (case c => k_is); (case k => k_is)
   case b => exact fun _ _ _ _ _ _ us hl => match us, hl with | [_, _], _ => rfl
  case D22 =>
   refine' L2.hasDef_mk KX G ?a ?l ?c ?k ?b
   (case a => k_is); (case l => k_is); (case c => k_is); (case k => k_is)
   case b => exact fun _ _ _ _ _ _ us hl => match us, hl with | [_], _ => rfl
  case D23 =>
   refine' L2.hasDef_mk KX G ?a ?l ?c ?k ?b
   (case a => k_is); (case l => k_is); (case c => k_is); (case k => k_is)
   case b => exact fun _ _ _ _ _ _ us hl => match us, hl with | [_, _], _ => rfl
  case D24 =>
   refine' L2.hasDef_mk KX G ?a ?l ?c ?k ?b
   (case a => k_is); (case l => k_is); (case c => k_is); (case k => k_is)
   case b => exact fun _ _ _ _ _ _ us hl => match us, hl with | [_, _], _ => rfl
  case D25 =>
   refine' L2.hasDef_mk KX G ?a ?l ?c ?k ?b
   (case a => k_is); (case l => k_is); (case c => k_is); (case k => k_is)
   case b => exact fun _ _ _ _ _ _ us hl => match us, hl with | [_, _], _ => rfl
  case D26 =>
   refine' L2.hasDef_mk KX G ?a ?l ?c ?k ?b
   (case a => k_is); (case l => k_is); (case c => k_is); (case k => k_is)
   case b => exact fun _ _ _ _ _ _ us hl => match us, hl with | [_, _], _ => rfl
  case D27 =>
   refine' L2.hasDef_mk KX G ?a ?l ?c ?k ?b
   (case a => k_is); (case l => k_is); (case c => k_is); (case k => k_is)
   case b => exact fun _ _ _ _ _ _ us hl => match us, hl with | [_], _ => rfl
  case D28 =>
   refine' L2.hasDef_mk KX G ?a ?l ?c ?k ?b
   (case a => k_is); (case l => k_is); (case c => k_is); (case k => k_is)
   case b => exact fun _ _ _ _ _ _ us hl => match us, hl with | [_], _ => rfl
  case D29 =>
   refine' L2.hasDef_mk KX G ?a ?l ?c ?k ?b
   (case a => k_is); (case l => k_is); (case c => k_is); (case k => k_is)
   case b => exact fun _ _ _ _ _ _ us hl => match us, hl with | [_, _], _ => rfl
  case D30 =>
   refine' L2.hasDef_mk KX G ?a ?l ?c ?k ?b
   (case a => k_is); (case l => k_is); (case c => k_is); (case k => k_is)
   case b => exact fun _ _ _ _ _ _ us hl => match us, hl with | [_, _], _ => rfl
  case D31 =>
   refine' L2.hasDef_mk KX G ?a ?l ?c ?k ?b
   (case a => k_is); (case l => k_is); (case c => k_is); (case k => k_is)
   case b => exact fun _ _ _ _ _ _ us hl => match us, hl with | [_, _], _ => rfl
  case D32 =>
   refine' L2.hasDef_mk KX G ?a ?l ?c ?k ?b
   (case a => k_is); (case l => k_is); (case c => k_is); (case k => k_is)
   case b => exact fun _ _ _ _ _ _ us hl => match us, hl with | [_, _, _, _], _ => rfl
  case D33 =>
   refine' L2.hasDef_mk KX G ?a ?l ?c ?k ?b
   (case a => k_is); (case l => k_is); (case c => k_is); (case k => k_is)
   case b => exact fun _ _ _ _ _ _ us hl => match us, hl with | [_, _, _], _ => rfl
  case D34 =>
   refine' L2.hasDef_mk KX G ?a ?l ?c ?k ?b
   (case a => k_is); (case l => k_is); (case c => k_is); (case k => k_is)
   case b => exact fun _ _ _ _ _ _ us hl => match us, hl with | [_, _, _], _ => rfl
  case D35 =>
   refine' L2.hasDef_mk KX G ?a ?l ?c ?k ?b
   (case a => k_is); (case l => k_is); (case c => k_is); (case k => k_is)
   case b => exact fun _ _ _ _ _ _ us hl => match us, hl with | [_, _], _ => rfl
  case D36 =>
   refine' L2.hasDef_mk KX G ?a ?l ?c ?k ?b
   (case a => k_is); (case l => k_is); (case c => k_is); (case k => k_is)
   case b => exact fun _ _ _ _ _ _ us hl => match us, hl with | [_, _], _ => rfl
  case D37 =>
   refine' L2.hasDef_mk KX G ?a ?l ?c ?k ?b
   (case a => k_is); (case l => k_is); (case c => k_is); (case k => k_is)
   case b => exact fun _ _ _ _ _ _ us hl => match us, hl with | [_], _ => rfl
  case D38 =>
   refine' L2.hasDef_mk KX G ?a ?l ?c ?k ?b
   (case a => k_is); (case l => k_is); (case c => k_is); (case k => k_is)
   case b => exact fun _ _ _ _ _ _ us hl => match us, hl with | [_, _], _ => rfl
  case D39 =>
   refine' L2.hasDef_mk KX G ?a ?l ?c ?k ?b
   (case a => k_is); (case l => k_is); (case c => k_is); (case k => k_is)
   case b => exact fun _ _ _ _ _ _ us hl => match us, hl with | [_], _ => rfl
  case D40 =>
   refine' L2.hasDef_mk KX G ?a ?l ?c ?k ?b
   (case a => k_is); (case l => k_is); (case c => k_is); (case k => k_is)
   case b => exact fun _ _ _ _ _ _ us hl => match us, hl with | [_], _ => rfl
  case D41 =>
   refine' L2.hasDef_mk KX G ?a ?l ?c ?k ?b
   (case a => k_is); (case l => k_is); (case c => k_is); (case k => k_is)
   case b => exact fun _ _ _ _ _ _ us hl => match us, hl with | [_, _], _ => rfl
  case D42 =>
   refine' L2.hasDef_mk KX G ?a ?l ?c ?k ?b
   (case a => k_is); (case l => k_is); (case c => k_is); (case k => k_is)
   case b => exact fun _ _ _ _ _ _ us hl => match us, hl with | [_, _, _], _ => rfl
  case D43 =>
   refine' L2.hasDef_mk KX G ?a ?l ?c ?k ?b
   (case a => k_is); (case l => k_is); (case c => k_is); (case k => k_is)
   case b => exact fun _ _ _ _ _ _ us hl => match us, hl with | [_, _, _, _, _], _ => rfl
  case D44 =>
   refine' L2.hasDef_mk KX G ?a ?l ?c ?k ?b
   (case a => k_is); (case l => k_is); (case c => k_is); (case k => k_is)
   case b => exact fun _ _ _ _ _ _ us hl => match us, hl with | [_, _, _, _], _ => rfl
  case D45 =>
   refine' L2.hasDef_mk KX G ?a ?l ?c ?k ?b
   (case a => k_is); (case l => k_is); (case c => k_is); (case k => k_is)
   case b => exact fun _ _ _ _ _ _ us hl => match us, hl with | [_, _], _ => rfl
  (case a0 => k_is); (case l0 => k_is); (case c0 => k_is); (case k0 => k_is)
#print axioms PySem.Challenge.cw_shredjoin_k62_behind_and_ahead_holds
