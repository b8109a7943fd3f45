import PyProof.Rows.All
import Wide.All
import OpenK.AllK
import Wide.FinOn
import Lean
import PyProof.EqAt
import PyProof.EqKinds
import PyProof.TupleCall
import KE.KSortTup
import KE.KItemsList
import KE.KUnpack
import PyProof.EnumMake
import PyProof.EnumFor
import PyProof.EnumStmt
import KE.IntBitsLaws
import KE.KDictSum
import PyProof.SetRoads
import PyProof.Rows.SetFrom
import PyProof.FactsAll.set_1
import PyProof.FactsAll.set_2
import KE.KMinBuiltin
import PyProof.WalkInts
import PyProof.Rows.CallKwBuiltin
import PyProof.DictItemsLoops
import KE.KDictLaws
import KE.KPairComp
import PyProof.Rows.DictUnroll
import PyProof.ZipIter
import KE.KRevIter
import PyProof.ListStr
import PyProof.AttrMissHeap
import KE.KDictOf
import KE.KStateDown
import KE.KRevSl
import PyProof.ListRange
import PyProof.Rows.Range3
import PyProof.SeqI3
import PyProof.TupleOfSeq
import PySem.Challenge.RW_shredjoin_k82_whole_of_a_line
open List renaming getElem?_eq_getElem->Qa,getD_eq_getElem?_getD->Qb,length_map->Qc,mem_cons_self->Qd,mem_cons_of_mem->Qg,getElem?_map->Qh,getElem?_eq_none->Qj,mem_map->Qk,length_append->Qm,getElem?_eq_some_iff->Qo,map_cons->Qp,mem_singleton->Qr,size_toArray->Qu,mem_cons->Qx,sum_cons->Qy,range->Qz,getElem_mem->QA,map_congr_left->QB,length_cons->QC,length_singleton->QD,mem_filter->QF,mem_append->QG,length_take->QH,ext_getElem?->QI,mem_range->QK,map_append->QM,map_map->QN,take_of_length_le->QP,take_succ_eq_append_getElem->QQ,replicate->QR,getElem?_append_left->QS,nodup_cons->QX,getElem?_append_right->QY,mem_append_right->QZ,mem_append_left->Q0,length_range->Q3,all_eq_true->Q4,getElem?_range->Q6,length_filter_le->Q7,mem_of_mem_take->Q9,length_drop->Wa,perm_cons_erase->Wb,length_pos_of_mem->Wc,length_eq_zero_iff->Wf,nodup_append->Wg,count_eq_zero_of_not_mem->Wh,filter_append->Wi,length_erase_of_mem->Wj,pairwise_map->Wl,eraseIdx_eq_take_drop_succ->Wn,findIdx?_eq_some_iff_getElem->Ws,map_singleton->Wt,filter_cons_of_pos->Wu,filter_cons_of_neg->Wv,mem_of_getElem?->Ww,nodup_nil->Wx,getElem?_eq_none_iff->Wy,pairwise_cons->WC,mem_of_mem_drop->WD,getElem_of_mem->WF,length_reverse->WG,range'->WH,all_map->WK,filter_cons->WL,nodup_range->WM,map_nil->WQ,getElem?_replicate->WR,mem_map_of_mem->WS,getElem_inj->WT,take_length->WU,not_lt->WV,getElem?_drop->WY,count_pos_iff->WZ,append_nil->Ua,range_succ->Ub,eq_nil_or_concat->Uc,append_assoc->Ud,pairwise_iff_getElem->Uh,mem_erase_of_ne->Ui,lt_irrefl->Uk,any_cons->Ul,find?_cons->Um,reverse_perm->Us,idxOf_append->Ut,length_replicate->Uu,concat_eq_append->Ux,lookup_cons->UC,not_mem_nil->UD,mem_reverse->UE,erase_cons_head->UF,map_take->UH,nodup_iff_pairwise_ne->UI,map_eq_nil_iff->UJ,filter_eq_self->UK,findIdx?_eq_none_iff->UL,getElem?_take_of_lt->UN,idxOf_lt_length_iff->UP,count_append->UT,filter_congr->UU,filter_eq_nil_iff->UV,map_drop->UW,le_antisymm->UY,ext_getElem->UZ,dropLast_eq_take->U0,length_eraseIdx->U1,mem_iff_getElem->U2,filter_map->U3,idxOf_le_length->U4,count_le_length->U5,eq_nil_iff_forall_not_mem->U6,filterMap_cons->U7,lookup->Ra,map_id->Re,mem_filterMap->Rf,mem_replicate->Rg,perm_ext_iff_of_nodup->Rh,length_eraseIdx_of_lt->Rj,exists_cons_of_ne_nil->Rk,reverse_cons->Rl,drop_eq_getElem_cons->Rm,sum_nil->Rp,idxOf?_eq_some_iff->Ru,of_mem_zip->Rx,foldl_cons->Ry,nil_append->Rz,count_cons->RB,getElem?_set_self->RD,length->RE,take_append_drop->RH,getElem?_set_ne->RJ,length_dropLast->RK,getElem?_append->RM,dropLast_concat->RN,idxOf_eq_length->RO,range_eq_range'->RP,count_cons_self->RQ,lt_trans->RT,perm_nil->RV,replicate_succ->RW,filter_sublist->RX,length_pos_iff->RY,map_replicate->R5,getElem?_take->R6,take_sublist->R7,flatten_cons->R9,take_add_one->Va,isEmpty_cons->Vd,map_snd_zip->Vh,map_reverse->Vi,cons_append->Vj,drop_length->Vk,any_eq_true->Vn,length_set->Vo,foldl->Vp,sum_append->Vq,drop_zero->Vx,drop_drop->Vy,take_take->VA,all_cons->VD,take_nil->VE,drop_nil->VF,map_id'->VI
open Nat renaming le_refl->Ql,ne_of_lt->QJ,le_trans->QO,zero_le->QT,lt_of_lt_of_le->QU,lt_irrefl->Wo,lt_of_le_of_lt->WB,mul_dvd_mul_left->WE,sub_self->WW,lt_trichotomy->Ue,lt_succ_of_lt->Uf,le_succ->Uj,le_succ_of_le->Ur,lt_succ_self->UB,le_of_lt->Rn,ne_of_gt->Ro,not_lt_zero->RA,add_mul->RG,pow_le_pow_right->RL,dvd_trans->RU,mul_comm->R1,mul_left_comm->Vc,le_of_not_lt->Vf,le_add_right->Vm,min_eq_left->Vv,mul_assoc->VG
open Int renaming mul_assoc->Q8,mul_left_comm->Wm,toNat_natCast->Wp,one_mul->Wr,le_refl->WO,mul_comm->WP,neg_mul->Uq,zero_mul->Uw,zero_add->Uy,add_zero->UO,sub_zero->UQ,mul_nonneg->UR,eq_ofNat_of_zero_le->US,toNat_of_nonneg->U8,mul_add->Rb,add_mul->Rc,le_trans->Rq,mul_fdiv_cancel_left->Rr,mul_zero->Rs,natCast_dvd_natCast->Rv,natCast_add->RC,emod_lt_of_pos->R3,pow_succ->R4,emod_nonneg->Vr,pow_ne_zero->Vs,natCast_mul->Vt,mul_dvd_mul->Vu,natAbs_mul->Vz,toNat->VC
open Array renaming length_toList->QL,getD_eq_getD_getElem?->Wd,getElem?_eq_getElem->Wz,getElem?_eq_none->Uo,getElem?_toList->Uv,perm_iff_toList_perm->UG,all_toList->Rt,append_assoc->RZ,toList_push->Vb,toList_inj->Vg
open Option renaming map_some->We,isSome_iff_exists->UM,getD_some->UX,none_or->U9,map_eq_some_iff->RF,isSome_some->R0,isSome_map->R8,getD_none->Ve,bind_some->Vl,some_or->Vw
open PySem.Heap renaming get?_push_of_some->Qi,get?_push_size->Qs,lt_size->Qw,get?_update_other->Q5,get?_update_self->WA,size_push->WN,get?_none_of_le->RI
open Bool renaming false_ne_true->QV,and_eq_true->QW,eq_iff_iff->Wq,false_eq_true->WX,eq_false_iff->Ug,false_and->Uz,and_false->UA,true_and->Ri,or_false->RS,not_false->VB,and_true->VH
open PySem renaming wpAny_bind->Oa,wpAny_pure->Ob,Program->Oc,model->Od,wpAny->Oe,World->Of,starEach->Og,mainGlobals->Oh,bootBuiltins->Oi,sizeLine_eq->Oj,wpAny_mono->Ol,backTo->Om,compareOp->On,wpAny_call_entry->Oo,wpAny_holding->Op,wpAny_setField_rec->Oq,wpAny_askSetting->Os,keywordEach->Ot,wpAny_truthy_bool->Ou,sysModules->Ov,call_meets->Ow,InLong->Ox,codeAny->Oy,wpAny_Call_Name_kw->Oz,call_meetsIn->OA,wpAny_execs_nil->OB,wpAny_passesOwn->OC,attributeBase->OD,backToKw->OE,wpAny_newObj_type->OF,typeIs_str->OG,getMethod->OH,holding->OI,binaryOp->OJ,codeAny_mono->OK,wpAny_getItem_str_slice->OL,behindInMarks->OM,plainId_quiet->ON,tupleKind_room_in1->OO,codeAny_builtin->OQ,wpAny_pyIter_list->OR,assignEach->OU,callWith->OV,cLine->OW,wpAny_isInstance->OX,wpAny_attempt->OZ,standAt->O0,wpAny_updateSeq->O1,FuncData->O2,wpAny_Call_method->O5,rawInt->O7,wpAny_newList->O8,bindArgs->O9,letOwnedTupleGo->Gb,wpAny_specialOf->Gc,post_val_or_str->Gd,relayAll->Ge,sliceBounds->Gf,swapsWith->Gg,getItem->Gh,Keyword->Gi,callerA->Gj,setField->Gk,tupleKind->Gm,scanBound->Gn,subscripted->Go,excClassObj->Gp,pyIter->Gq,BindsTo->Gr,valueAt->Gs,relabel->Gu,wpAny_call->Gv,atKey->Gw,wpAny_rule->Gy,Result->Gz,seqItems?->GA,bindL->GB,bindC->GC,assign->GE,setItem->GF
open PyProof.Rows renaming seqObj->OP,Keyed->OS,envOfC->OT,listUpdate_at->OY,AllBare->O3,StrsAre->O4,seqEpoch_at->O6,SortKind->Ga,Subscript_->Gx,IntsAre->GD
noncomputable section
set_option maxHeartbeats 0
set_option Elab.async false
set_option linter.all false
set_option compiler.extract_closed false
set_option maxRecDepth 100000
section
variable{a b c d e f g h i j k l m:Nat}{x y z w u v t s r q p o n:Int}
def Ka:c<=b->c=a->a<=b:=by omega
def Kb:a<=c->a+b<=c+b:=by omega
def Kc:¬(y<=x)->x<y:=by omega
def Kd:(-(b:Int))<=x->b=a->(-(a:Int))<=x:=by omega
def Ke:a=c->b<c->¬(a<=b):=by omega
def Kf:a=b->a<=b:=by omega
def Kg:a<b->¬(a=b-1)->a<b-1:=by omega
def Kh:1<=a->a-1<a:=by omega
def Ki:a<b+1->¬(a=b)->a<b:=by omega
def Kj:a<=b->a+(b-a)<=b:=by omega
def Kk:1<=a->0<a:=by omega
def Kl:a+c<b->a<b:=by omega
def Km:c<b->a=c->a<b:=by omega
def Kn:a<b->a<=b:=by omega
def Ko:c<b->a<=c+1->a<=b:=by omega
def Kq:a<64->a<=16777216:=by omega
def Kr:x<=x:=by omega
def Ks:w<=y->x=w->z<=w->x-y+z<=w:=by omega
def Kt:x+y+(z+w)=x+z+(y+w):=by omega
def Ku:x-(0:Int)=x:=by omega
def Kv:c<=b->d<c->a<=d->a<=b:=by omega
def Kw:d<=b->a<=d+c->a<=b+c:=by omega
def Kx:a<=63->a<64:=by omega
def Kz:a<c->b=c->a<b:=by omega
def K0:a<=1000->a<=16777216:=by omega
def K1:a<=b+a:=by omega
def K2:a<=b->a<=b+c:=by omega
def K3:a+c<=b->a<=b:=by omega
def K4:a<b->a<b+c:=by omega
def K5:¬(a<b)->¬(a=b)->¬(a<b+1):=by omega
def K6:a+c<=b+c->a<=b:=by omega
def K7:0<=x->x<(a:Int)->x.toNat<a:=by omega
def K8:a<b+1->a+1<b+2:=by omega
def K9:b<=27->a<=b->a<=31:=by omega
def Xo:0<4:=by omega
def V0:(2<=(a:Int)/\(a:Int)<=x)->2<=a:=by omega
def V2:1<=a->0<(a:Int):=by omega
def V3:(2<=(b:Int)/\(b:Int)<=x)->a=b->1<=a:=by omega
def V4:a<=a+b:=by omega
def V5:b<=26->c<=d->e=c->a=e->d<=b->a<=1000:=by omega
def V6:c=b->a<c->a<b:=by omega
def V7:(x<=y/\y<12)->1+y=(b:Int)->a=b->a<=1000:=by omega
def V8:(0<=x/\x<y)->1+x=(b:Int)->a=b->1<=a:=by omega
def V9:c=d->a<d->b=c->a<b:=by omega
def G0:c=d->a=c->¬(b<d)->a<=b:=by omega
def G7:¬(b<a)->a<=b:=by omega
def G8:b<=26->c<=d->a=c->d<=b->a+a<=1000:=by omega
def G9:a-b<=a:=by omega
def Ta:a<=c->a-b<=c:=by omega
def Tc:1<=x->0<=x:=by omega
def Td:(a:Int)=(b:Int)->a=b:=by omega
def Te:a+b<=301->a<=1000:=by omega
def Tf:a<=b->b<a->False:=by omega
def Tg:(b:Int)-1-(c:Int)=(d:Int)->e<=400->a<=c->b=e->a<=1000:=by omega
def Th:¬(y<x)->x<=y:=by omega
def Ti:0<(a:Int)+1:=by omega
def Tj:0<=(a:Int):=by omega
def Tk:a<b->(a:Int)<(b:Int):=by omega
def Tl:a<=b->(a:Int)-(b:Int)<=0:=by omega
def Tm:x<0->(max 0 (min (x+y) y))=(max (x+y) 0):=by omega
def Tn:(max 0 (min x (a:Int)))=(((min x.toNat a):Nat):Int):=by omega
def To:d+e<=c->d=a->e=b->a+b<=c:=by omega
def Tp:c<=b->a<=c->a<=b:=by omega
def Tq:d<c->b<=d->¬(b<=a)->(a+b)/2<c:=by omega
def Tr:c<=a->¬(c<=b)->a≠(b+c)/2:=by omega
def Tt:a=c->¬(b<c)->a<=b:=by omega
def Tu:a<0->False:=by omega
def Tv:x+(-x)=0:=by omega
def Tw:a<b->b<c->a+1+(b-a-1)<c:=by omega
def Tx:a<b->a+1+(b-a-1)=b:=by omega
def Ty:¬(a+1=0):=by omega
def Tz:0<a+2:=by omega
def T0:a<=0->a=0:=by omega
def T3:b<a->a-(b+1)<a-b:=by omega
def T4:b=a->a<=b:=by omega
def T5:a<=b->¬(a<b)->a=b:=by omega
def T6:c<b->a<c->a<b:=by omega
def T7:a<c-b->a+b<c:=by omega
def T8:c=b->a<=c->a<=b:=by omega
def T9:c=b->a=c->a=b:=by omega
def Sa:a+2<=b->a+1<=b:=by omega
def Sb:a=1->0<a:=by omega
def Sc:a<a+1:=by omega
def Sd:b<=2*c->a<=b->c<=31->a<=128:=by omega
def Se:a<=100->a<=1000:=by omega
def Sf:(0<=x/\x<(a:Int))->x.toNat<a:=by omega
def Sg:a<b->a<c->a<(min b c):=by omega
def Si:¬(a<c)->¬(a<(min b c)):=by omega
def Sj:¬(a<b)->¬(a<(min b c)):=by omega
def Sk:x<=y->x-1<=y:=by omega
def Sl:0<=x->(-1000)<=x:=by omega
def Sn:c<=b->a<=(min d c)->a<=b:=by omega
def So:a+c<b+c->a<b:=by omega
def Sr:a+(b+c)=a+b+c:=by omega
def Ss:a+b=b+a:=by omega
def Su:a=0+a:=by omega
def Sw:1<=a->1<=(a:Int):=by omega
def Sx:(b<=a/\a<=122)->a<1114112:=by omega
def Sy:0<=y->x<=z->x<=y+z:=by omega
def Sz:c=d->a<c->d=b->a<b:=by omega
def S0:c=d->d=a->¬(b<c)->a<=b:=by omega
def S1:b<=300->a=b->a<=1000:=by omega
def S2:a<=27->a<=1000:=by omega
def S3:a<=31->a<=1000:=by omega
def S4:b<=c->(min a b)<=c:=by omega
def S5:b<=c->b=a->c=16777216->(a:Int)<9223372036854775808:=by omega
def S6:a+(c+1)=b->a<b:=by omega
def S7:a+(c+b)=d->a+b+c=d:=by omega
def S8:c<a->a<b+1->a-1<b:=by omega
def S9:c<b->c=a->a<=b:=by omega
def Na:¬((a:Int)<0):=by omega
def Nb:a<64->a<=1000:=by omega
def Nc:c<b->a<=b-1->a+1<=b:=by omega
def Nd:a<=c->b=c->a<=b:=by omega
def Nf:e<b->¬(e<a)->a<=b+c+d:=by omega
def Ng:a<=d->¬(c<a)->a+b+(c-(min a d))=c+b:=by omega
def Nh:¬(d<=a)->¬(b<d)->a<=b+c:=by omega
def Ni:a<(min b c)->¬(a<b)->False:=by omega
def Nj:¬(b<=a)->a<=b+c+d:=by omega
def Nk:a<=b->a<b+1:=by omega
def Nl:b<a->1<=(a:Int):=by omega
def Nm:a<c->a+b<c+b:=by omega
def Nn:0<a+1:=by omega
def No:x-x=y-y:=by omega
def Np:c=a->¬(b<c)->a<=b:=by omega
def Nq:a<=100000->a<=16777216:=by omega
def Nr:¬(((a+1:Nat):Int)=0):=by omega
def Nt:x+(y+z)=y+(x+z):=by omega
def Nu:z=y->x=z->x=y:=by omega
def Nv:¬(y<=x)->x<=y:=by omega
def Nw:a+(c+1)<=b->a<b:=by omega
def Nx:1<=a->a+c<=b->a-1<b:=by omega
def Ny:1<=a->a≠a-1:=by omega
def Nz:a+(c+b)<=d->a+b+c<=d:=by omega
def N0:a<=b+d+c->a<=b+(c+d):=by omega
def N3:a<b->a+(b-a)=b:=by omega
def N4:b<a->¬(a=b):=by omega
def N5:a<b+1->a<=b:=by omega
def N6:a<=b-1->c<b->a=b->False:=by omega
def N8:b<=31->a<=2*b->a<64:=by omega
def N9:b<=2*c->a=b->c<=31->a<=1000:=by omega
def Ma:x<=x+(a:Int):=by omega
def Mb:a+b+c=a+c+b:=by omega
def Mc:b<=a->a-b+b=a:=by omega
def Md:a<b-c->a<b:=by omega
def Me:a<=60->a<=1000:=by omega
def Mf:a<=26+1->a<=63:=by omega
def Mg:a<=300->a<=100000:=by omega
def Mh:a<=26+1->a<=60:=by omega
def Mi:y<x->x≠y:=by omega
def Mj:a+3*(c+b)+d<e->a+b+3*c+d<e:=by omega
def Ml:¬(a<a):=by omega
def Mm:c<=b->d<c->a=d->a<b:=by omega
def Mn:¬(a=0)->a-1+1=a:=by omega
def Mo:b<=31->a=b->a<=1000:=by omega
def Mp:a<=31->a+a<=1000:=by omega
def Mq:a<=b+b->a<=2*b:=by omega
def Mr:c<=b->a<c->a<=b:=by omega
def Ms:d<=c->b<d-a->a+b<=c:=by omega
def Mt:a=26-b->a<=1000:=by omega
def Mu:(b:Int)-(c:Int)=x->((a+b:Nat):Int)-((a+c:Nat):Int)=x:=by omega
def Mv:x<y->y<=x->False:=by omega
def Mw:1<=x->x≠0:=by omega
def Mx:¬(a=0)->0<a:=by omega
def My:(-((a+1:Nat):Int))<=(-1):=by omega
def Mz:((-1)+((a+1:Nat):Int)).toNat=a:=by omega
def M0:c<=b->a=c->a<=b:=by omega
def M8:a<b->a≠b:=by omega
def M9:a<b->¬(a=b):=by omega
def Ba:0<=a:=by omega
def Bb:a<=500->a<=1000:=by omega
def Bc:b<=2*(min c d)->a<=b+1->d<=31->a<=500:=by omega
def Be:a<=1000->a<=100000:=by omega
def Bf:b<=300->a=b->a<=100000:=by omega
def Bh:a<=12->a<=300:=by omega
def Bi:x+0=x:=by omega
def Bj:b<=a->a=b+(a-b):=by omega
def Bk:a<c->b+0=c->a<b:=by omega
def Bl:0<2147483629:=by omega
def Bm:a<=128->a<=1000:=by omega
def Bn:0<10:=by omega
def Bo:(1<=(a:Int)/\(a:Int)<=x)->1<=a:=by omega
def Bp:b=c+a->a<=b:=by omega
def Bq:(1<=(c:Int)/\(c:Int)<=x)->d<=b+c-e->a=d-c+e->c<=d->a<=b:=by omega
def Br:(0<=x/\x<y)->x=((x.toNat:Nat):Int):=by omega
def Bu:x=(a:Int)->(y<=x/\x<(b:Int))->a<b:=by omega
def Bv:a<=1->a+1<=64:=by omega
def Bw:c=d->a<c->b=d->a<b:=by omega
def Bx:0+1+1+1+1+1<=16777216+a:=by omega
def By:b<=128->a=b->a<=1000:=by omega
def Bz:b<=350->a=b->a<=1000:=by omega
end
def Lb{p:α->β->γ->Prop}(a b c)(h:p a b c):∃a b c,p a b c:=⟨a,b,c,h⟩
def Ld{p:α->β->γ->δ->Prop}(a b c d)(h:p a b c d):∃a b c d,p a b c d:=⟨a,b,c,d,h⟩
def La{p:α->β->γ->δ->ε->Prop}(a b c d e)(h:p a b c d e):∃a b c d e,p a b c d e:=⟨a,b,c,d,e,h⟩
def Lf{p:α->β->γ->δ->ε->ζ->Prop}(a b c d e i)(h:p a b c d e i):∃a b c d e i,p a b c d e i:=⟨a,b,c,d,e,i,h⟩
def Le{p:α->β->γ->δ->ε->ζ->η->θ->ι->Prop}(a b c d e i j k m)(h:p a b c d e i j k m):∃a b c d e i j k m,p a b c d e i j k m:=⟨a,b,c,d,e,i,j,k,m,h⟩
def Pa{g:Prop}{p q r t a:Prop}:(p/\q/\r/\t/\a)->(p->q->r->t->a->g)->g
 |⟨s0,s1,s2,s3,l⟩,f=>f s0 s1 s2 s3 l
def Pb{g:Prop}{p q:α->β->Prop}:(∃v,∃w,p v w/\q v w)->(∀v,∀w,p v w->q v w->g)->g
 |⟨v,w,s0,l⟩,f=>f v w s0 l
def Pd{g:Prop}{p q r t:α->β->Prop}:(∃v,∃w,p v w/\q v w/\r v w/\t v w)->(∀v,∀w,p v w->q v w->r v w->t v w->g)->g
 |⟨v,w,s0,s1,s2,l⟩,f=>f v w s0 s1 s2 l
def Pe{g:Prop}{p q:α->Prop}:(∃v,p v/\q v)->(∀v,p v->q v->g)->g
 |⟨v,s0,l⟩,f=>f v s0 l
def Pf{g:Prop}{p q r:α->Prop}:(∃v,p v/\q v/\r v)->(∀v,p v->q v->r v->g)->g
 |⟨v,s0,s1,l⟩,f=>f v s0 s1 l
def Pg{g:Prop}{p q r t a b:Prop}:(p/\q/\r/\t/\a/\b)->(p->q->r->t->a->b->g)->g
 |⟨s0,s1,s2,s3,s4,l⟩,f=>f s0 s1 s2 s3 s4 l
def Ph{g:Prop}{p q r t:α->Prop}:(∃v,p v/\q v/\r v/\t v)->(∀v,p v->q v->r v->t v->g)->g
 |⟨v,s0,s1,s2,l⟩,f=>f v s0 s1 s2 l
def Pi{g:Prop}{p q r:α->β->Prop}:(∃v,∃w,p v w/\q v w/\r v w)->(∀v,∀w,p v w->q v w->r v w->g)->g
 |⟨v,w,s0,s1,l⟩,f=>f v w s0 s1 l
def Pk{g:Prop}{p q r:α->β->γ->Prop}:(∃v,∃w,∃x,p v w x/\q v w x/\r v w x)->(∀v,∀w,∀x,p v w x->q v w x->r v w x->g)->g
 |⟨v,w,x,s0,s1,l⟩,f=>f v w x s0 s1 l
def Pl{g:Prop}{p q r t a:α->β->γ->δ->Prop}:(∃v,∃w,∃x,∃y,p v w x y/\q v w x y/\r v w x y/\t v w x y/\a v w x y)->(∀v,∀w,∀x,∀y,p v w x y->q v w x y->r v w x y->t v w x y->a v w x y->g)->g
 |⟨v,w,x,y,s0,s1,s2,s3,l⟩,f=>f v w x y s0 s1 s2 s3 l
def Pn{g:Prop}{p q r t a:α->Prop}:(∃v,p v/\q v/\r v/\t v/\a v)->(∀v,p v->q v->r v->t v->a v->g)->g
 |⟨v,s0,s1,s2,s3,l⟩,f=>f v s0 s1 s2 s3 l
def Po{g:Prop}{p q r t a:α->β->γ->Prop}:(∃v,∃w,∃x,p v w x/\q v w x/\r v w x/\t v w x/\a v w x)->(∀v,∀w,∀x,p v w x->q v w x->r v w x->t v w x->a v w x->g)->g
 |⟨v,w,x,s0,s1,s2,s3,l⟩,f=>f v w x s0 s1 s2 s3 l
def Pp{g:Prop}{p q:α->Prop}{r:α->β->Prop}:(∃v,p v/\q v/\∃w,r v w)->(∀v,p v->q v->∀w,r v w->g)->g
 |⟨v,s0,s1,w,l⟩,f=>f v s0 s1 w l
def Pq{g:Prop}{p:Prop}{q r t:α->β->Prop}:(p/\∃v,∃w,q v w/\r v w/\t v w)->(p->∀v,∀w,q v w->r v w->t v w->g)->g
 |⟨s0,v,w,s1,s2,l⟩,f=>f s0 v w s1 s2 l
def Ps{g:Prop}{p q r t a b:α->β->γ->δ->Prop}:(∃v,∃w,∃x,∃y,p v w x y/\q v w x y/\r v w x y/\t v w x y/\a v w x y/\b v w x y)->(∀v,∀w,∀x,∀y,p v w x y->q v w x y->r v w x y->t v w x y->a v w x y->b v w x y->g)->g
 |⟨v,w,x,y,s0,s1,s2,s3,s4,l⟩,f=>f v w x y s0 s1 s2 s3 s4 l
def Pt{g:Prop}{p q r t a b:α->β->γ->δ->ε->ζ->Prop}:(∃v,∃w,∃x,∃y,∃z,∃u,p v w x y z u/\q v w x y z u/\r v w x y z u/\t v w x y z u/\a v w x y z u/\b v w x y z u)->(∀v,∀w,∀x,∀y,∀z,∀u,p v w x y z u->q v w x y z u->r v w x y z u->t v w x y z u->a v w x y z u->b v w x y z u->g)->g
 |⟨v,w,x,y,z,u,s0,s1,s2,s3,s4,l⟩,f=>f v w x y z u s0 s1 s2 s3 s4 l
namespace L2
open PySem PySem.Spec PyProof.Rows
abbrev Key:=Sum Int Str
noncomputable def Zbm:Key->Value->Bool
 | .inl k,v=>Value.isInt k v
 | .inr x,v=>Value.isStrOf x v
noncomputable def Ztw (w:Of):Key->Int
 | .inl k=>hashInt k
 | .inr x=>hashStr w x
def keyIs_shape:∀ {k} {v},Zbm k v=true->(∃ i t,k=Sum.inl i/\v=Value.int i t)\/(∃ x t,k=Sum.inr x/\v=Value.str x t)
 | .inl i,v,h=>by
  obtain⟨t,e⟩:=Value.isInt_shape h;exact .inl ⟨i,t,rfl,e⟩
 | .inr x,v,h=>by
  obtain⟨t,e⟩:=Value.isStrOf_shape h;exact .inr ⟨x,t,rfl,e⟩
def ZkC (i) (t):Zbm (.inl i) (.int i t)=true:=by simp[Zbm,Value.isInt]
def ZkB (x) (t):Zbm (.inr x) (.str x t)=true:=by simp[Zbm,Value.isStrOf]
def Zrv (a b):decide ((Sum.inl a:Key)=Sum.inl b)=(a==b):=by
 by_cases e:a=b
 subst e;simp;rw[decide_eq_false (fun q=>e (Sum.inl.inj q))];exact(beq_eq_false_iff_ne.mpr e).symm
def Zrs (a b):decide ((Sum.inr a:Key)=Sum.inr b)=decide (a=b):=by
 simp
def Zru (a:Int) (b:Str):decide ((Sum.inl a)=Sum.inr b)=false:=decide_eq_false fun q=>nomatch q
def Zrt (a:Str) (b:Int):decide ((Sum.inr a)=Sum.inl b)=false:=decide_eq_false fun q=>nomatch q
noncomputable def ZA (prog:Oc) (w:Of):PySem.KeyKind prog w Key where
 is:=Zbm
 hash:=Ztw w
 inj:=fun v a b ha hb=>by
  rcases keyIs_shape ha with ⟨i,t,rfl,rfl⟩ | ⟨x,t,rfl,rfl⟩
  ·rcases keyIs_shape hb with ⟨j,u,rfl,e⟩ | ⟨y,u,rfl,e⟩
   ·injection e with e1 _;rw[e1]
   ·exact nomatch e
  ·rcases keyIs_shape hb with ⟨j,u,rfl,e⟩ | ⟨y,u,rfl,e⟩
   ·exact nomatch e
   ·injection e with e1 _;rw[e1]
 byValue:=fun k v h=>by
  rcases keyIs_shape h with ⟨i,t,rfl,rfl⟩ | ⟨x,t,rfl,rfl⟩ <;> rfl
 pyHash:=fun hv h=>by
  rcases keyIs_shape hv with ⟨i,t,rfl,rfl⟩ | ⟨x,t,rfl,rfl⟩
  ·exact wpAny_pyHash_int h
  ·exact wpAny_pyHash_str h
 eqBool:=fun hu hv h=>by
  rcases keyIs_shape hu with ⟨i,t,rfl,rfl⟩ | ⟨x,t,rfl,rfl⟩
  ·rcases keyIs_shape hv with ⟨j,u,rfl,rfl⟩ | ⟨y,u,rfl,rfl⟩
   ·rw[Zrv]at h;exact wpAny_eqBool_int h
   ·rw[Zru]at h;exact SeqAt.EqAt.int_str i t y u _ _ _ _ h
  ·rcases keyIs_shape hv with ⟨j,u,rfl,rfl⟩ | ⟨y,u,rfl,rfl⟩
   ·rw[Zrt]at h;exact SeqAt.EqAt.str_int x t j u _ _ _ _ h
   ·rw[Zrs]at h;exact wpAny_eqBool_str h
 «strs»:=fun k x t v h=>by
  rcases keyIs_shape h with ⟨i,u,rfl,e⟩ | ⟨y,u,rfl,e⟩
  ·exact nomatch e
  ·injection e with e1 _
   subst e1;cases v <;> rfl
def ZfS (prog) (w) (i) (t):(ZA prog w).is (.inl i) (.int i t)=true:=ZkC i t
def Jo (prog) (w) (x) (t):(ZA prog w).is (.inr x) (.str x t)=true:=ZkB x t
inductive V where
 | non | bl (b:Bool) | int (i:Int) | str (x:Str) | byt (b:Array UInt8) | flt (b:UInt64) | ref (a:Addr) | ty (n:String)
 deriving DecidableEq
def RelV:V->Value->Prop
 | .non,u=>u=Value.none
 | .bl b,u=>u=Value.bool b
 | .int i,u=>∃ t,u=Value.int i t
 | .str x,u=>∃ t,u=Value.str x t
 | .byt b,u=>∃ t,u=Value.bytes b t
 | .flt b,u=>∃ t,u=Value.float b t
 | .ref a,u=>u=Value.ref a
 | .ty n,u=>u=Value.type n
abbrev Vals:List V->List Value->Prop:=Paired RelV
def Vals.length (r:Vals xs a):xs.length=a.length:=Paired.length r
def Vals.get:∀ {xs} {a} {i:Nat} {x},Vals xs a->xs[i]?=some x->∃ u,a[i]?=some u/\RelV x u
 | _,_,_,_,.nil,e=>by simp at e
 | _,_,0,_,.cons r _,e=>by simp at e;subst e;exact⟨_,rfl,r⟩
 | _,_,i+1,x,.cons _ t,e=>by
  obtain⟨u,c,b⟩:=Vals.get (i:=i) (x:=x) t (by simp_all);exact⟨u,by simp_all,b⟩
def Vals.set (r:RelV x u):∀ {xs} {a} (i),Vals xs a->Vals (xs.set i x) (a.set i u)
 | _,_,_,.nil=>.nil
 | _,_,0,.cons _ t=>.cons r t
 | _,_,i+1,.cons q t=>.cons q (Vals.set r i t)
def Vals.append:∀ {xs ys} {b a},Vals xs b->Vals ys a->Vals (xs++ys) (b++a)
 | _,_,_,_,.nil,s=>s
 | _,_,_,_,.cons r t,s=>.cons r (Vals.append t s)
def Vals.take:∀ {xs} {a} (n),Vals xs a->Vals (xs.take n) (a.take n)
 | _,_,0,_=>.nil
 | _,_,_+1,.nil=>.nil
 | _,_,n+1,.cons r t=>.cons r (Vals.take n t)
def Vals.drop:∀ {xs} {a} (n),Vals xs a->Vals (xs.drop n) (a.drop n)
 | _,_,0,r=>r
 | _,_,_+1,.nil=>.nil
 | _,_,n+1,.cons _ t=>Vals.drop n t
def RelO:Option V->Option Value->Prop
 | some v,some u=>RelV v u
 | none,none=>True
 | _,_=>False
def KV {κ:Type}:List (κ×V)->List (κ×Value)->Prop:=Paired fun(p:κ×V) (q:κ×Value)=>p.1=q.1/\RelV p.2 q.2
noncomputable def kV:Key->V
 | .inl i=>.int i
 | .inr x=>.str x
inductive HO where
  | lst (xs:List V)
  | tup (xs:List V)
  | dK (kvs:List (Key×V)) | dT (kvs:List (List Key×V))
  | set (S:Int->Bool) (n:Nat)
  | ins (C dx:Addr) (fs:List (Str×V))
  | own (x:Addr)
  | xd (fs:List (Str×V))
  | met (f x:Addr)
  | rng (lo hi:Int)
  | frz (o:Obj) (u:HO)
  | tbl (ps:Array Value)
  | ext (φ:Heap->Prop)
abbrev Hp:=Addr->Option HO
noncomputable def upd (H:Hp) (a:Addr) (o:HO):Hp:=fun b=>if b=a then some o else H b
def Ze:upd H a o a=some o:=by unfold upd;simp
def Zj (h:b≠a):upd H a o b=H b:=by unfold upd;rw[if_neg h]
def ZaP:upd (upd H a o) a u=upd H a u:=by
 unfold upd;simp_all
def Zmq {H:Hp} (h:H a=some o) (h':H b=some u) (d:o≠u):a≠b:=by
 intro e;simp_all
def Zl {H:Hp} (h:H a=some o) (h':H b=none):a≠b:=by
 intro e;simp_all
section
variable (P:Oc) (w:Of)
def NoD (h:Heap) (a:Addr):Prop:=∀ o,h.get? a=some o->o.dict=none
def ZaL {h:Heap} (c:o.dict=none) (a:o.isFreed=false):NoD (h.push o) h.objs.size:=fun b e=>by
 rw[Qs h a]at e
 simp_all
def ObjOk (H:Hp) (h:Heap) (a:Addr):HO->Prop
 | .lst xs=>xs.length<=sizeLine/\∃ (its:List Value) (n:Nat),Vals xs its/\h.get? a=some {cls:=.type "list",data:=.seq its.toArray n}
 | .tup xs=>xs.length<=sizeLine/\∃ its:List Value,Vals xs its/\IsTup h a its.toArray/\NoD h a
 | .dK kvs=>kvs.length<=sizeLine/\(a==Ov)=false/\∃ vs,KV kvs vs/\h.DictOf (ZA P w) a vs
 | .dT kvs=>kvs.length<=sizeLine/\(a==Ov)=false/\∃ xs:List (List Key×Addr×Value),
   Paired (fun(p:List Key×V) (q:List Key×Addr×Value)=>p.1=q.1/\H q.2.1=some (.tup (p.1.map kV))/\RelV p.2 q.2.2) kvs xs /\
   ∃ o es ep,h.get? a=some o/\o.ExactDict/\o.data= .dict es ep/\es.toList=xs.map (entryOfKey (Gm (ZA P w)))/\(xs.map (·.1)).Nodup
 | .set S n=>h.SetOf (intKind P w) a S n
 | .ins C dx fs=>H dx=some (.own a)/\fs.length<=1000/\dx≠a/\h.get? a=some (PySem.W.instObj C dx) /\
   ∃ mA,h.Ns1 dx mA/\(∀ f,RelO (fs.lookup f) (mA f))/\PySem.Within mA (fs.map (·.1))
 | .own _=>∃ o,h.get? a=some o
 | .xd fs=>∃ mA,h.Ns1 a mA/\∀ f,RelO (fs.lookup f) (mA f)
 | .rng lo hi=>∃ t u v,h.get? a=some {cls:=.type "range",data:=.fields #[.int lo t,.int hi u,.int 1 v]}
 | .frz o u=>h.get? a=some o/\ObjOk H h a u
 | .tbl ps=>h.get? a=some {cls:=.none,data:=.fields ps}
 | .met f x=>h.get? a=some (PySem.W.methodObj (.ref f) (.ref x))
 | .ext φ=>φ h/\(∃ o,h.get? a=some o)/\∀ h1 h2:Heap,φ h1->(∀ o,h1.get? a=some o->h2.get? a=some o)->φ h2
def HOk (H:Hp) (h:Heap):Prop:=∀ a o,H a=some o->ObjOk P w H h a o
end
section
variable {P:Oc} {w:Of} {H H':Hp} {h h':Heap} {a:Addr} {o:HO}
def ObjOk.lt (x:ObjOk P w H h a o):a<h.objs.size:=by
 cases o with
 | lst j=>obtain⟨_,_,_,_,e⟩:=x;exact Qw e
 | tup j=>obtain⟨_,_,_,p,_⟩:=x;exact p.lt
 | dK b=>obtain⟨_,_,_,_,o,_,_,e,_⟩:=x;exact Qw e
 | dT b=>obtain⟨_,_,_,_,o,_,_,e,_⟩:=x;exact Qw e
 | set S n=>obtain⟨o,_,_,_,e,_⟩:=x;exact Qw e
 | ins C z d=>obtain⟨_,_,_,e,_⟩:=x;exact Qw e
 | own y=>obtain⟨_,e⟩:=x;exact Qw e
 | xd d=>obtain⟨_,⟨_,_,_,e,_⟩,_⟩:=x;exact Qw e
 | rng lo D=>obtain⟨_,_,_,e⟩:=x;exact Qw e
 | frz A u=>obtain⟨e,_⟩:=x;exact Qw e
 | tbl v=>exact Qw x
 | met f y=>exact Qw x
 | ext φ=>obtain⟨_,⟨_,e⟩,_⟩:=x;exact Qw e
def Paired.mapP {F G}:∀ {d:List α} {c:List β},Paired F d c->(∀ a b,F a b->G a b)->Paired G d c
 | _,_,.nil,_=>.nil
 | _,_,.cons r t,f=>.cons (f _ _ r) (Paired.mapP t f)
def ObjOk.stay (x:ObjOk P w H h a o) (k:∀ b u,(b=a\/H b=some (.own a))->h.get? b=some u->h'.get? b=some u)
  (J:∀ b,H b=some (.own a)->H' b=some (.own a)) (F:∀ b xs,H b=some (.tup xs)->H' b=some (.tup xs)):ObjOk P w H' h' a o:=by
 induction o with
 | lst xs=>obtain⟨z,l,n,r,e⟩:=x;exact⟨z,l,n,r,k _ _ (.inl rfl) e⟩
 | tup xs =>
  obtain⟨z,l,r,⟨g,e,c⟩,I⟩:=x;exact⟨z,l,r,⟨g,k _ _ (.inl rfl) e,c⟩,fun o2 m=>by
   rw[k _ _ (.inl rfl) e]at m;cases m;exact I _ e⟩
 | dK A=>obtain⟨z,y,vs,r,g,i,j,e,c⟩:=x;exact⟨z,y,vs,r,g,i,j,k _ _ (.inl rfl) e,c⟩
 | dT A =>
  obtain⟨z,y,xs,r,g,i,j,e,c⟩:=x;exact⟨z,y,xs,Paired.mapP r fun p q z=>⟨z.1,F _ _ z.2.1,z.2.2⟩,g,i,j,k _ _ (.inl rfl) e,c⟩
 | set S n=>obtain⟨g,i,j,t,e,c⟩:=x;exact⟨g,i,j,t,k _ _ (.inl rfl) e,c⟩
 | ins C dx fs =>
  obtain⟨d,z,K,e,s,⟨B,i,j,m,c⟩,r⟩:=x;exact⟨J _ d,z,K,k _ _ (.inl rfl) e,s,⟨B,i,j,k _ _ (.inr d) m,c⟩,r⟩
 | own y=>obtain⟨g,e⟩:=x;exact⟨g,k _ _ (.inl rfl) e⟩
 | xd fs=>obtain⟨s,⟨B,i,j,e,c⟩,r⟩:=x;exact⟨s,⟨B,i,j,k _ _ (.inl rfl) e,c⟩,r⟩
 | rng lo hi=>obtain⟨t,u,v,e⟩:=x;exact⟨t,u,v,k _ _ (.inl rfl) e⟩
 | frz g u ih=>obtain⟨e,q⟩:=x;exact⟨k _ _ (.inl rfl) e,ih q⟩
 | tbl ps =>
  have e:h.get? a=some _:=x;show h'.get? a=some _
  simp_all
 | met f y =>
  have e:h.get? a=some _:=x;show h'.get? a=some _
  simp_all
 | ext φ=>obtain⟨p,⟨o,e⟩,st⟩:=x;exact⟨st _ _ p fun o q=>k _ _ (.inl rfl) q,⟨o,k _ _ (.inl rfl) e⟩,st⟩
def HOk.lt (x:HOk P w H h) (e:H a=some o):a<h.objs.size:=(x a o e).lt
def HOk.fresh (x:HOk P w H h) (e:h.objs.size<=a):H a=none:=by
 cases q:H a with
 | none=>rfl
 | some u=>exact absurd (QU (x.lt q) e) (Wo _)
def HOk.kept (x:HOk P w H h) (k:∀ b u,h.get? b=some u->h'.get? b=some u):HOk P w H h':=fun a o e =>
 (x a o e).stay (fun b u _ q=>k b u q) (fun _ q=>q) fun _ _ q=>q
def HOk.laid (x:HOk P w H h) (k:∀ b u,h.get? b=some u->h'.get? b=some u) (i:h.objs.size<=a) (j:ObjOk P w (upd H a o) h' a o):HOk P w (upd H a o) h':=fun b u e=>by
 have f:=x.fresh i;by_cases g:b=a
 subst g;rw[Ze]at e;simp_all;rw[Zj g]at e;exact(x b u e).stay (fun c v _ q=>k c v q) fun c q=>by rw[Zj (Zl q f)];omega fun c l q=>by rw[Zj (Zl q f)];omega
end
def Rd (H:Hp) (a:Addr) (u:HO):Prop:=H a=some u\/∃ o,H a=some (.frz o u)
def Rd.ok (r:Rd H a u) (x:HOk P w H h):ObjOk P w H h a u:=by
 rcases r with r | ⟨o,r⟩
 exact x a u r;obtain⟨_⟩:=x a _ r;omega
def Mut:Option HO->Prop
 | some (.lst _)=>True
 | some (.dK _)=>True
 | some (.dT _)=>True
 | some (.set _ _)=>True
 | some (.ins _ _ _)=>True
 | some (.ext _)=>True
 | _=>False
section
variable {P:Oc} {w:Of} {H:Hp} {h h':Heap} {x e:Addr} {o':HO}
def HOk.write (s:HOk P w H h) (l:Mut (H x)) (A:e=x\/H e=some (.own x)) (k:∀ b u,b≠e->h.get? b=some u->h'.get? b=some u) (g:∃ u,h'.get? e=some u)
  (p:ObjOk P w (upd H x o) h' x o):HOk P w (upd H x o) h':=fun b u q=>by
 have a:∀ c y,H c=some (.own y)->c≠x:=fun c y r z=>by subst z;rw[r]at l;trivial
 have d:∀ c f,H c=some (.tup f)->c≠x:=fun c f r z=>by subst z;rw[r]at l;trivial
 by_cases m:b=x
 subst m;rw[Ze]at q;simp_all
 rw[Zj m]at q;by_cases t:b=e
 have j:H b=some (.own x):=by
  simp_all
 rw[q]at j;cases j;obtain⟨v,_⟩:=g;exact⟨v,by simp_all⟩
 refine(s b u q).stay (fun c v i r=>k c v ?_ r) fun c r=>by rw[Zj (a c b r)];omega fun c f r=>by rw[Zj (d c f r)];omega
 rcases i with rfl | i
 omega
 rintro rfl
 simp_all
end
structure Un (fs ex:List Addr) (H H':Hp) (h h':Heap):Prop where
 keep:∀ b o,h.get? b=some o->H b=none->b∉fs->b∉ex->h'.get? b=some o
 slot:∀ b o,h.get? b=some o->H b=none->b∈fs->b∉ex->∃ sl,h'.get? b=some {o with slots:=sl}
 free:∀ b o,h.get? b=some o->H b=none->b∉ex->H' b=none
 there:∀ b o,h.get? b=some o->b∉ex->∃ o',h'.get? b=some o'
 tups:∀ b xs,H b=some (.tup xs)->H' b=some (.tup xs)
 frzs:∀ b o u,H b=some (.frz o u)->H' b=some (.frz o u)
 tbls:∀ b ps,H b=some (.tbl ps)->∃ more,H' b=some (.tbl (ps++more))
section
variable {fs fs' ex ex':List Addr} {H H1 H2:Hp} {h h1 h2 h':Heap} {a x e:Addr} {o:HO}
def Un.any (u:Un fs ex H H1 h i) (q:h.get? b=some ob) (n:H b=none) (d:b∉ex):∃ e,i.get? b=some {ob with slots:=e}:=by
 by_cases c:b∈fs
 exact u.slot b ob q n c d;exact⟨_,u.keep b ob q n c d⟩
def Un.kept (k:∀ b u,h.get? b=some u->h'.get? b=some u):Un fs ex H H h h' :=
 ⟨fun b a q _ _ _=>k b a q,fun b a q _ _ _=>⟨_,k b a q⟩,fun _ _ _ n _=>n,fun b a q _=>⟨a,k b a q⟩,fun _ _ q=>q,fun _ _ _ q=>q,fun _ c q=>⟨#[],by simp_all⟩⟩
def Un.refl:Un fs ex H H h h:=Un.kept fun _ _ q=>q
def Un.laid (k:∀ b u,h.get? b=some u->h'.get? b=some u) (d:h.objs.size<=a) (c:H a=none):Un fs ex H (upd H a o) h h' where
 keep:=fun b u q _ _ _=>k b u q
 slot:=fun b u q _ _ _=>⟨_,k b u q⟩
 free:=fun b u q n _=>by rw[Zj (QJ (QU (Qw q) d))];omega
 there:=fun b u q _=>⟨u,k b u q⟩
 tups:=fun b e q=>by rw[Zj (Zl q c)];omega
 frzs:=fun b u e q=>by rw[Zj (Zl q c)];omega
 tbls:=fun b i q=>⟨#[],by rw[Zj (Zl q c),q];simp⟩
def Un.write (g:Mut (H x)) (m:e=x\/H e=some (.own x)) (k:∀ b u,b≠e->h.get? b=some u->h'.get? b=some u) (i:∃ u,h'.get? e=some u):Un fs ex H (upd H x o) h h':=by
 have f:∀ b,H b=none->b≠x:=fun b n z=>by subst z;rw[n]at g;trivial
 have c:∀ b,H b=none->b≠e:=fun b n z=>by
  simp_all
 have a:∀ b u,H b=some u->¬ Mut (some u)->b≠x:=fun b u q r z=>by simp_all
 refine⟨fun b u q n _ _=>k b u (c b n) q,fun b u q n _ _=>⟨_,k b u (c b n) q⟩,fun b u q n _=>by rw[Zj (f b n)];omega,fun b u q _=>?_,
  fun b j q=>by rw[Zj (a b _ q fun z=>z)];omega,fun b u j q=>by rw[Zj (a b _ q fun z=>z)];omega,fun b p q=>⟨#[],by rw[Zj (a b _ q fun z=>z),q];simp⟩⟩
 by_cases d:b=e
 simp_all
 simp_all
end
noncomputable def trk (h:Heap) (H:Hp):List Addr:=(Qz h.objs.size).filter fun a=>(H a).isSome
def ZmQ (h:Heap) (H:Hp):Heap:=PySem.W.hideAll h (trk h H)
def ZkI (h) (H):(ZmQ h H).objs.size=h.objs.size:=PySem.W.hideAll_size _ _
def ZmP (e:h.get? b=some o) (n:H b=none):(ZmQ h H).get? b=some o :=
 PySem.W.hideAll_get _ e fun c=>by
  have q:=(QF.mp c).2
  simp_all
def Zpm (e:(ZmQ h H).get? b=some o):h.get? b=some o/\H b=none:=by
 have c:=PySem.W.of_hideAll _ e;refine⟨c,?_⟩;cases q:H b with
 | none=>rfl
 | some x =>
  have z:(ZmQ h H).get? b=none:=PySem.W.hideAll_none _ (QF.mpr ⟨QK.mpr (Qw c),by grind⟩);rw[z]at e;cases e
noncomputable def Zqa (g h:Heap) (L:Addr):List (Addr×Obj):=(Qz h.objs.size).filterMap fun a=>if a=L\/(g.get? a).isSome=true then none else (h.get? a).map fun o=>(a,o)
noncomputable def rest (g h:Heap) (L d:Addr):List (Addr×Obj):=(Zqa g h L).filter fun p=>decide (p.1≠d)
structure Mod (K:PySem.W.Frag) (mg:Str->Option Value) (base:Heap):Prop where
 kin:K.In base
 glob:base.Ns Oh mg
 blt:∃ mb,base.Ns builtinsNs mb/\∀ x:Str,x≠"__name__"->mb x=Oi x
 nolimit:base.NoLimit
structure Cx where
 prog:Oc
 w:Of
 K:PySem.W.Frag
 mg:Str->Option Value
 base:Heap
 A:Around
 N:List Str
 s₀:Shared
 H₀:Hp
 env:Env
 outer:List Env
 stack:List Env
 ex:List Addr
 fn:Str->Bool
 calm:Bool
 pn:List (Addr×Obj)
 xe:Value->Shared->Prop
noncomputable def frs (l:List Env):List Addr:=l.filterMap (·.frame)
abbrev Cx.fs (X:Cx):List Addr:=frs X.outer
def Vis (sc:Scope) (x:Str):Prop:=sc.names.lookup x=some .local\/sc.names.lookup x=some .cell\/sc.names.lookup x=some .free
def Loc (sc:Scope) (x:Str):Prop:=sc.names.lookup x=some .local\/sc.names.lookup x=some .cell
def ZtG (env:Env) (h:Heap) (m:Str->Option Value) (x:Str) (u:Value):Prop :=
 (env.kindOf x=some .local/\m x=some u)\/((env.kindOf x=some .cell\/env.kindOf x=some .free)/\∃ c,env.cells.lookup x=some c/\h.IsCell c (some u))
structure Cx.Ok (X:Cx):Prop where
 mod:Mod X.K X.mg X.base
 kind:X.env.scope.kind= .function
 glob:X.env.globals=Oh
 blt:X.env.builtins=builtinsNs
 above:X.s₀.heap.objs.size<=X.env.locals
 inj:∀ x y c,X.env.cells.lookup x=some c->X.env.cells.lookup y=some c->x=y
 has:∀ x,(X.env.kindOf x=some .cell\/X.env.kindOf x=some .free)->∃ c,X.env.cells.lookup x=some c
 cab:∀ x c,X.fn x=true->X.env.cells.lookup x=some c->X.s₀.heap.objs.size<=c
 hd:X.calm=true->X.A.handled=none
 frames:X.A.frames=some X.stack
 stk:X.stack=X.outer\/(X.stack=X.env::X.outer/\X.env.frame=some X.env.locals)
 exf:∀ b∈X.ex,b≠X.env.locals/\∀ x c,X.env.cells.lookup x=some c->c≠b
 bs:∀ b o,X.base.get? b=some o->X.s₀.heap.get? b=some o/\X.H₀ b=none
 bsz:X.base.objs.size<=X.s₀.heap.objs.size
 noex:∀ b o,X.base.get? b=some o->b∉X.ex
 exfs:∀ b∈X.ex,b∉X.fs
 funs:X.s₀.heap.FunFrames X.base X.outer
 frf:∀ b∈X.fs,X.H₀ b=none
structure Inv (X:Cx) (pins:List (Addr×Obj)) (σ:List (Option V)) (H:Hp) (s:Shared):Prop where
 ok:X.Ok
 os:s.os=X.s₀.os
 bare:O3 s.gens
 base:Un X.fs X.ex X.H₀ H X.s₀.heap s.heap
 loc:∃ m,s.heap.Ns X.env.locals m/\∀ (i:Nat) (x:Str) (v:V),X.N[i]?=some x->σ[i]?=some (some v)->Vis X.env.scope x->∃ u,RelV v u/\ZtG X.env s.heap m x u
 cell:∀ x c,X.env.cells.lookup x=some c->∃ v,s.heap.IsCell c v
 free:H X.env.locals=none
 freeC:∀ x c,X.env.cells.lookup x=some c->H c=none
 pin:∀ p∈X.pn++pins,s.heap.get? p.1=some p.2/\H p.1=none/\p.1≠X.env.locals/\p.1∉X.fs/\∀ v,p.2.data≠.cell v
 hok:HOk X.prog X.w H s.heap
 len:σ.length=X.N.length
section
variable {X:Cx} {pins:List (Addr×Obj)} {σ:List (Option V)} {H H':Hp} {s:Shared} {h':Heap}
def Cx.Ok.nofr (c:X.Ok) (e:X.base.get? b=some o):b∉X.fs:=fun a=>by
 have:=(c.funs.mem a).1
 simp_all
def Inv.bs (I:Inv X pins σ H s):∀ b o,X.base.get? b=some o->s.heap.get? b=some o/\H b=none:=fun b o e =>
 ⟨I.base.keep b o (I.ok.bs b o e).1 (I.ok.bs b o e).2 (I.ok.nofr e) (I.ok.noex b o e),I.base.free b o (I.ok.bs b o e).1 (I.ok.bs b o e).2 (I.ok.noex b o e)⟩
def Inv.bk (I:Inv X pins σ H s):∀ b o,X.base.get? b=some o->s.heap.get? b=some o:=fun b o e=>(I.bs b o e).1
def Inv.mod (I:Inv X pins σ H s):Mod X.K X.mg X.base:=I.ok.mod
def Inv.kIn (I:Inv X pins σ H s):X.K.In s.heap:=I.ok.mod.kin.keeps I.bk
def Inv.lt (I:Inv X pins σ H s):X.env.locals<s.heap.objs.size:=let ⟨_,b,_⟩:=I.loc;b.lt
def Inv.sz (I:Inv X pins σ H s):X.s₀.heap.objs.size<=s.heap.objs.size:=QO I.ok.above (Rn I.lt)
def Inv.nofs (I:Inv X pins σ H s) {a:Addr} (h:s.heap.objs.size<=a):a∉X.fs:=fun d=>by
 obtain⟨_,o,c,_⟩:=I.ok.funs.mem d;exact absurd (QU (Qw c) (QO I.sz h)) (Wo _)
def Inv.cne (I:Inv X pins σ H s):∀ x c,X.env.cells.lookup x=some c->c≠X.env.locals:=fun x c e z=>by
 obtain⟨v,o,b,d⟩:=I.cell x c e;obtain⟨m,⟨_⟩,_⟩:=I.loc
 simp_all
def Inv.funs (I:Inv X pins σ H s):s.heap.FunFrames X.base X.outer:=by
 have c:∀ (l:List Env),(∀ b∈frs l,b∈X.fs)->X.s₀.heap.FunFrames X.base l->s.heap.FunFrames X.base l:=by
  intro l;induction l with
  | nil=>intro _ _;trivial
  | cons j r m =>
   intro g t;obtain⟨u,⟨L,o,f,n,v,q⟩,k⟩:=t;have a:=g L (by unfold frs;rw[U7,f];simp);obtain⟨w,e⟩:=I.base.slot L o v (I.ok.frf L a) a fun z=>I.ok.exfs L z a;exact⟨u,⟨L,_,f,n,e,q⟩,m (fun b d=>g b (by unfold frs;rw[U7,f];exact Qg _ d)) k⟩
 exact c X.outer (fun _ d=>d) I.ok.funs
def Inv.stack (I:Inv X pins σ H s):s.heap.FunFrames X.base X.stack:=by
 rcases I.ok.stk with e | ⟨e,b⟩
 exact e▸I.funs;rw[e];obtain⟨m,c,_⟩:=I.loc;exact .cons (by rw[I.ok.kind];decide) b c (RI (QO I.ok.bsz I.ok.above)) I.funs
def Inv.stkSub (I:Inv X pins σ H s):∀ b∈frs X.stack,b∈X.env.locals::X.fs:=fun b a=>by
 rcases I.ok.stk with e | ⟨e,d⟩
 rw[e]at a;exact Qg _ a;rw[e]at a;unfold frs at a;rw[U7,d]at a
 trivial
def Inv.stkFree (I:Inv X pins σ H s):∀ b∈frs X.stack,H b=none:=fun b a=>by
 rcases Qx.mp (I.stkSub b a)with e | a
 exact e▸I.free;obtain⟨_,o,d,_⟩:=I.ok.funs.mem a;exact I.base.free b o d (I.ok.frf b a) fun z=>I.ok.exfs b z a
def Inv.step {ch:List Addr} (I:Inv X pins σ H s)
  (j:∀ b∈ch,(b∈X.ex\/X.s₀.heap.objs.size<=b)/\b≠X.env.locals/\(∀ x c,X.env.cells.lookup x=some c->c≠b)/\∀ p∈X.pn++pins,p.1≠b)
  (t:∀ b o,b≠X.env.locals->b∉X.fs->b∉ch->s.heap.get? b=some o->H b=none->h'.get? b=some o)
  (A:∀ b o,b≠X.env.locals->b∈X.fs->b∉ch->s.heap.get? b=some o->H b=none->∃ sl,h'.get? b=some {o with slots:=sl}) (f:∀ b o,b∉ch->s.heap.get? b=some o->H b=none->H' b=none)
  (C:∀ b o,b∉ch->s.heap.get? b=some o->∃ o',h'.get? b=some o')
  (tups:∀ b xs,H b=some (.tup xs)->H' b=some (.tup xs)) (frzs:∀ b o u,H b=some (.frz o u)->H' b=some (.frz o u)) (tbls:∀ b ps,H b=some (.tbl ps)->∃ more,H' b=some (.tbl (ps++more)))
  (ns:∀ m,s.heap.Ns X.env.locals m->h'.Ns X.env.locals m) (hok:HOk X.prog X.w H' h') (hg:O3 g') :
  Inv X pins σ H' {s with heap:=h',gens:=g',drawn:=d',toks:=t'}:=by
 have neL:∀ b o,X.s₀.heap.get? b=some o->b≠X.env.locals:=fun b o e=>QJ (QU (Qw e) I.ok.above);have w:∀ b o,X.s₀.heap.get? b=some o->b∉X.ex->b∉ch:=fun b o e a hb=>by
  rcases(j b hb).1 with z | z
  simp_all
  exact absurd (QU (Qw e) z) (Wo _)
 have g:∀ x c,X.env.cells.lookup x=some c->∀ v,s.heap.IsCell c v->h'.IsCell c v:=fun x c e v ⟨o,ho,hd⟩=>by
  have h:c∉ch:=fun z=>(j c z).2.2.1 x c e rfl;by_cases hc:c∈X.fs
  obtain⟨sl,q⟩:=A c o (I.cne x c e) hc h ho (I.freeC x c e);exact⟨_,q,hd⟩
  exact⟨o,t c o (I.cne x c e) hc h ho (I.freeC x c e),hd⟩
 refine⟨I.ok,I.os,hg,⟨fun b o e n hb a=>?_,fun b o e n hb a=>?_,fun b o e n a=>?_,fun b o e a=>?_,fun b xs e=>tups b xs (I.base.tups b xs e),fun b o xs e=>frzs b o xs (I.base.frzs b o xs e),fun b ps e=>?_⟩,?_,fun x c e=>?_,?_,fun x c e=>?_,fun p hp=>?_,hok,I.len⟩
 exact t b o (neL b o e) hb (w b o e a) (I.base.keep b o e n hb a) (I.base.free b o e n a)
 obtain⟨sl,y⟩:=I.base.slot b o e n hb a;obtain⟨sl',e2⟩:=A b _ (neL b o e) hb (w b o e a) y (I.base.free b o e n a);exact⟨sl',e2⟩
 obtain⟨o',y⟩:=I.base.there b o e a;exact f b o' (w b o e a) y (I.base.free b o e n a)
 obtain⟨o',y⟩:=I.base.there b o e a;exact C b o' (w b o e a) y
 obtain⟨m1,y⟩:=I.base.tbls b ps e;obtain⟨m2,e2⟩:=tbls b _ y;exact⟨m1++m2,by grind⟩
 obtain⟨m,hn,hl⟩:=I.loc;refine⟨m,ns m hn,fun i x v y e2 e3=>?_⟩;obtain⟨u,r,l⟩:=hl i x v y e2 e3;refine⟨u,r,?_⟩;rcases l with l | ⟨k,c,e,z⟩
 exact .inl l
 exact .inr ⟨k,c,e,g x c e _ z⟩
 obtain⟨v,z⟩:=I.cell x c e;exact⟨v,g x c e v z⟩
 obtain⟨m,⟨o,_,_,ho,_⟩,_⟩:=I.loc;exact f _ o (fun z=>(j _ z).2.1 rfl) ho I.free
 obtain⟨v,o,ho,_⟩:=I.cell x c e;exact f c o (fun z=>(j c z).2.2.1 x c e rfl) ho (I.freeC x c e)
 refine Pa (I.pin p hp) fun e n ne nf d=>?_;have h:p.1∉ch:=fun z=>(j p.1 z).2.2.2 p hp rfl;exact⟨t p.1 p.2 ne nf h e n,f p.1 p.2 h e n,ne,nf,d⟩
def Inv.un (I:Inv X pins σ H s) (u:Un X.fs [] H H' s.heap h') (d:HOk X.prog X.w H' h'):Inv X pins σ H' {s with heap:=h',toks:=t'}:=by
 obtain⟨m,⟨o,t,x,i,r⟩,_⟩:=id I.loc;obtain⟨q,k⟩:=u.any i I.free (by simp);exact I.step (ch:=[]) (fun _ z=>nomatch z) (fun b o _ h _ e n=>u.keep b o e n h (by simp)) (fun b o _ h _ e n=>u.slot b o e n h (by simp)) (fun b o _ e n=>u.free b o e n (by simp)) (fun b o _ e=>u.there b o e (by simp)) u.tups u.frzs u.tbls (fun w l=>by
  obtain⟨v,f,g,c,p⟩:=l;rw[i]at c;cases c;exact⟨_,f,g,k,p⟩) d I.bare
def Inv.call (I:Inv X pins σ H s) (u:Un (frs X.stack) ch H H' s.heap h') (i:HOk X.prog X.w H' h') (y:O3 g')
  (g:∀ b∈ch,(b∈X.ex\/X.s₀.heap.objs.size<=b)/\b≠X.env.locals/\(∀ x c,X.env.cells.lookup x=some c->c≠b)/\∀ p∈X.pn++pins,p.1≠b) :
  Inv X pins σ H' {s with heap:=h',gens:=g',drawn:=d',toks:=t'}:=by
 obtain⟨m,⟨o,C,F,l,r⟩,_⟩:=id I.loc;obtain⟨E,j⟩:=u.any l I.free fun z=>(g _ z).2.1 rfl;exact I.step g (fun b o j A d e n=>u.keep b o e n (fun z=>(Qx.mp (I.stkSub b z)).elim j A) d) (fun b o _ _ d e n=>u.any e n d) (fun b o d e n=>u.free b o e n d) (fun b o d e=>u.there b o e d) u.tups u.frzs u.tbls (fun D w=>by
  obtain⟨B,k,h,f,v⟩:=w;rw[l]at f;cases f;exact⟨_,k,h,j,v⟩) i y
def Inv.turned (I:Inv X pins σ H s) (k:∀ b o,b≠a->s.heap.get? b=some o->h'.get? b=some o) (D:H a=none) (i:a≠X.env.locals)
  (y:a∈X.ex\/X.s₀.heap.objs.size<=a) (t:∀ x c,X.env.cells.lookup x=some c->c≠a) (l:∀ p∈X.pn++pins,p.1≠a):Inv X pins σ H {s with heap:=h',toks:=t'}:=by
 have g:∀ b u,H b=some u->b≠a:=fun b u e z=>by simp_all
 refine I.step (ch:=[a]) (fun b E=>?_) (fun b o _ _ f e _=>k b o (fun z=>f (by simp[z])) e) (fun b o _ _ f e _=>⟨_,k b o (fun z=>f (by simp[z])) e⟩) (fun _ _ _ _ n=>n)
  (fun b o f e=>⟨o,k b o (fun z=>f (by simp[z])) e⟩) (fun _ _ e=>e) (fun _ _ _ e=>e) (fun b C e=>⟨#[],by simp_all⟩) (fun m j=>?_) (fun b u e=>?_) I.bare
 have e:b=a:=by simp_all
 subst e;exact⟨y,i,t,l⟩
 obtain⟨o,A,w,B,r⟩:=j;exact⟨o,A,w,k _ o (Ne.symm i) B,r⟩
 refine(I.hok b u e).stay (fun c v f q=>k c v ?_ q) (fun _ q=>q) fun _ _ q=>q;rcases f with z | z
 exact z▸g b u e
 exact g c _ z
def Inv.tok (I:Inv X pins σ H s) (t):Inv X pins σ H {s with toks:=t}:=I.un Un.refl I.hok
def Inv.kept (I:Inv X pins σ H s) (k:∀ b u,s.heap.get? b=some u->h'.get? b=some u):Inv X pins σ H {s with heap:=h',toks:=t'}:=I.un (Un.kept k) (I.hok.kept k)
def Inv.laid {a:Addr} (I:Inv X pins σ H s) (k:∀ b u,s.heap.get? b=some u->h'.get? b=some u) (d:s.heap.objs.size<=a) (e:ObjOk X.prog X.w (upd H a o) h' a o) :
  Inv X pins σ (upd H a o) {s with heap:=h',toks:=t'}:=I.un (Un.laid k d (I.hok.fresh d)) (I.hok.laid k d e)
def Inv.write (I:Inv X pins σ H s) (f:Mut (H x)) (g:e=x\/H e=some (.own x)) (k:∀ b u,b≠e->s.heap.get? b=some u->h'.get? b=some u) (a:∃ u,h'.get? e=some u)
  (d:ObjOk X.prog X.w (upd H x o) h' x o):Inv X pins σ (upd H x o) {s with heap:=h',toks:=t'}:=I.un (Un.write f g k a) (I.hok.write f g k a d)
def Inv.pins_of (I:Inv X pins σ H s) (h:∀ p∈a,s.heap.get? p.1=some p.2/\H p.1=none/\p.1≠X.env.locals/\p.1∉X.fs/\∀ v,p.2.data≠.cell v):Inv X a σ H s :=
 ⟨I.ok,I.os,I.bare,I.base,I.loc,I.cell,I.free,I.freeC,fun p e=>(QG.mp e).elim (fun z=>I.pin p (Q0 _ z)) (h p),I.hok,I.len⟩
def ZgN {N:List Str} (c:N.Nodup) {i j:Nat} (a:N[i]?=some x) (b:N[j]?=some x):i=j:=by
 obtain⟨g,e⟩:=Qo.mp a;obtain⟨f,d⟩:=Qo.mp b;exact(WT c).mp (e.trans d.symm)
def ZdI (I:Inv X pins σ H s) (hN:X.N.Nodup) (hi:X.N[i]?=some x) (t:Loc X.env.scope x) (r:RelV v u)
  (h:∀ s',Inv X pins (σ.set i (some v)) H s'->(∃ a,Heap.SameBut a s.heap s'.heap/\(a=X.env.locals\/X.env.cells.lookup x=some a))->Q () s') (hf:X.fn x=true\/X.env.scope.names.lookup x=some .local:=by first | exact .inl rfl | exact .inr rfl | assumption):Oe M A (storeName X.env x u) Q E s:=by
 obtain⟨m,hn,hl⟩:=id I.loc;have hcls:(X.env.scope.kind==.class || (X.env.scope.kind==.module&&X.env.locals != X.env.globals))=false:=by rw[I.ok.kind];rfl
 have C:i<σ.length:=by exact I.len▸(Qo.mp hi).1
 have J:=I.cne;have l:∀ {a:Addr} {K:Heap},(∃ o,s.heap.get? a=some o/\H a=none)->Heap.SameBut a s.heap K->HOk X.prog X.w H K:=fun {a K} ha f b ob e=>by
  obtain⟨_⟩:=ha;refine(I.hok b ob e).stay (fun c w' w q=>(f.2 c ?_).trans q) (fun _ q=>q) fun _ _ q=>q;rintro rfl
  simp_all
 rcases t with L | L
 refine wpAny_storeName_local L hn (fun K hn' f=>?_) hcls;obtain⟨oL,_,_,hoL,_⟩:=id hn;refine h _ ⟨I.ok,I.os,I.bare,⟨fun b o e n F t=>?_,fun b o e n F t=>?_,I.base.free,fun b o e t=>?_,I.base.tups,I.base.frzs,I.base.tbls⟩,⟨_,hn',fun j y v' g B e3=>?_⟩,fun y c e=>?_,I.free,I.freeC,fun p hp=>?_,l ⟨oL,hoL,I.free⟩ f,by simpa using I.len⟩ ⟨_,f,.inl rfl⟩
 exact(f.2 b (QJ (QU (Qw e) I.ok.above))).trans (I.base.keep b o e n F t)
 obtain⟨sl,g⟩:=I.base.slot b o e n F t;exact⟨sl,(f.2 b (QJ (QU (Qw e) I.ok.above))).trans g⟩
 obtain⟨o',g⟩:=I.base.there b o e t;exact⟨o',(f.2 b (QJ (QU (Qw e) I.ok.above))).trans g⟩
 by_cases D:j=i
 subst D;rw[hi]at g;cases g;rw[RD C]at B;cases B;exact⟨u,r,.inl ⟨L,by simp⟩⟩
 rw[RJ (Ne.symm D)]at B;obtain⟨u',r',q⟩:=hl j y v' g B e3;refine⟨u',r',?_⟩;rcases q with ⟨k,e⟩ | ⟨k,c,e,z⟩
 refine .inl ⟨k,?_⟩;have:y≠x:=fun e=>D (ZgN hN g (e▸hi));simp[this,e]
 exact .inr ⟨k,c,e,z.sameBut f (J y c e)⟩
 obtain⟨w',z⟩:=I.cell y c e;exact⟨w',z.sameBut f (J y c e)⟩
 obtain⟨e,n,ne,nf,d⟩:=I.pin p hp;exact⟨(f.2 p.1 ne).trans e,n,ne,nf,d⟩
 have G:X.fn x=true:=by
  simp_all
 obtain⟨c,w⟩:=I.ok.has x (.inl L);obtain⟨w',z⟩:=I.cell x c w;refine wpAny_storeName_cell I.ok.kind L w z (fun K hc' f=>?_);obtain⟨oc,hoc,hocd⟩:=id z;refine h {s with heap:=K} ⟨I.ok,I.os,I.bare,⟨fun b o e n F t=>?_,fun b o e n F t=>?_,I.base.free,fun b o e t=>?_,I.base.tups,I.base.frzs,I.base.tbls⟩,⟨m,hn.sameBut f (Ne.symm (J x c w)),fun j y v' g B e3=>?_⟩,fun y c' e=>?_,I.free,I.freeC,fun p hp=>?_,l ⟨oc,hoc,I.freeC x c w⟩ f,by simpa using I.len⟩ ⟨c,f,.inr w⟩
 exact(f.2 b (QJ (QU (Qw e) (I.ok.cab x c G w)))).trans (I.base.keep b o e n F t)
 obtain⟨sl,g⟩:=I.base.slot b o e n F t;exact⟨sl,(f.2 b (QJ (QU (Qw e) (I.ok.cab x c G w)))).trans g⟩
 obtain⟨o',g⟩:=I.base.there b o e t;exact⟨o',(f.2 b (QJ (QU (Qw e) (I.ok.cab x c G w)))).trans g⟩
 by_cases D:j=i
 subst D;rw[hi]at g;cases g;rw[RD C]at B;cases B;exact⟨u,r,.inr ⟨.inl L,c,w,hc'⟩⟩
 rw[RJ (Ne.symm D)]at B;obtain⟨u',r',q⟩:=hl j y v' g B e3;refine⟨u',r',?_⟩;rcases q with q | ⟨k,c',e,z'⟩
 exact .inl q
 refine .inr ⟨k,c',e,z'.sameBut f ?_⟩;rintro rfl;exact D (ZgN hN g (I.ok.inj _ _ _ e w▸hi))
 by_cases hcc:c'=c
 subst hcc;exact⟨_,hc'⟩
 obtain⟨w2,z2⟩:=I.cell y c' e;exact⟨w2,z2.sameBut f hcc⟩
 obtain⟨e,n,ne,nf,d⟩:=I.pin p hp;refine⟨(f.2 p.1 ?_).trans e,n,ne,nf,d⟩;intro q;rw[q,hoc]at e;have q':oc=p.2:=Option.some.inj e;exact d w' (by exact q'▸hocd)
def Zcq (I:Inv X pins σ H s) (c:X.N.Nodup) (hi:X.N[i]?=some x) (f:Loc X.env.scope x) (r:RelV v u)
  (h:∀ b,Inv X pins (σ.set i (some v)) H b->Q () b) (e:X.fn x=true\/X.env.scope.names.lookup x=some .local:=by first | exact .inl rfl | exact .inr rfl | assumption):Oe M A (storeName X.env x u) Q E s :=
 ZdI I c hi f r (fun b d _=>h b d) e
def Inv.call' (I:Inv X pins σ H s) (i:d.os=s.os) (u:Un (frs X.stack) ch H H' s.heap d.heap) (e:HOk X.prog X.w H' d.heap) (h:O3 d.gens)
  (f:∀ b∈ch,(b∈X.ex\/X.s₀.heap.objs.size<=b)/\b≠X.env.locals/\(∀ x c,X.env.cells.lookup x=some c->c≠b)/\∀ p∈X.pn++pins,p.1≠b):Inv X pins σ H' d:=by
 obtain⟨_⟩:=d;subst i;exact I.call u e h f
end
abbrev XK:=Value->Option Addr->Hp->Prop
abbrev St:=List (Option V)
abbrev VK:=V->Hp->Prop
abbrev TE:=St->Hp->VK->Prop
abbrev TT:=St->Hp->(Bool->Hp->Prop)->Prop
abbrev TA:=St->Hp->(List V->Hp->Prop)->Prop
structure Zlw where
 nx:St->Hp->Prop
 rt:VK
 bk:St->Hp->Prop:=fun _ _=>False
 ct:St->Hp->Prop:=fun _ _=>False
abbrev TS:=Zlw->St->Hp->Prop
def EP (X:Cx) (pins:List (Addr×Obj)) (σ:St) (Q:VK) (u:Value) (s':Shared):Prop:=∃ v H',Inv X pins σ H' s'/\RelV v u/\Q v H'
def TP (X:Cx) (pins:List (Addr×Obj)) (σ:St) (Q:Bool->Hp->Prop) (b:Bool) (s':Shared):Prop:=∃ H',Inv X pins σ H' s'/\Q b H'
def AP (X:Cx) (pins:List (Addr×Obj)) (σ:St) (Q:List V->Hp->Prop) (us:List Value) (s':Shared):Prop:=∃ vs H',Inv X pins σ H' s'/\Vals vs us/\Q vs H'
def B6{g:Prop}(f:∀v H,Inv X p σ H s->RelV v u->Q v H->g):EP X p σ Q u s->g|⟨v,H,a,b,c⟩=>f v H a b c
def B8{g:Prop}(f:∀H,Inv X p σ H s->Q b H->g):TP X p σ Q b s->g|⟨H,a,c⟩=>f H a c
def B9{g:Prop}{p q:α->Prop}(f:∀v,p v->q v->g):(∃v,p v/\q v)->g|⟨v,a,c⟩=>f v a c
def Da{g:Prop}{p q r:α->β->Prop}(f:∀v w,p v w->q v w->r v w->g):(∃v w,p v w/\q v w/\r v w)->g|⟨v,w,a,b,c⟩=>f v w a b c
def SP (X:Cx) (pins:List (Addr×Obj)) (D:Zlw) (f:Flow) (s':Shared):Prop :=
 match f with
 | .next=>∃ σ' H',Inv X pins σ' H' s'/\D.nx σ' H'
 | .brk=>∃ σ' H',Inv X pins σ' H' s'/\D.bk σ' H'
 | .cont=>∃ σ' H',Inv X pins σ' H' s'/\D.ct σ' H'
 | .ret u=>∃ v σ' H',Inv X pins σ' H' s'/\RelV v u/\D.rt v H'
def PE (X:Cx) (e:Expr) (t:TE):Prop :=
 ∀ (pins:List (Addr×Obj)) (s:Shared) (σ:St) (H:Hp) (Q:VK),Inv X pins σ H s->t σ H Q->Oe (Od X.prog X.w) X.A (eval e X.env) (EP X pins σ Q) X.xe s
def PT (X:Cx) (e:Expr) (t:TT):Prop :=
 ∀ (pins:List (Addr×Obj)) (s:Shared) (σ:St) (H:Hp) (Q:Bool->Hp->Prop),Inv X pins σ H s->t σ H Q->Oe (Od X.prog X.w) X.A (isTrue e X.env (eval e X.env)) (TP X pins σ Q) X.xe s
def PW (X:Cx) (e:Expr) (t:TT):Prop :=
 ∀ (whole:Sem Value) (pins:List (Addr×Obj)) (s:Shared) (σ:St) (H:Hp) (Q:Bool->Hp->Prop),Inv X pins σ H s->t σ H Q->Oe (Od X.prog X.w) X.A (isTrue e X.env whole) (TP X pins σ Q) X.xe s
def PW.pt (h:PW X e t):PT X e t:=h _
def PA (X:Cx) (es:List Expr) (t:TA):Prop :=
 ∀ (pos:Pos) (pins:List (Addr×Obj)) (s:Shared) (σ:St) (H:Hp) (Q:List V->Hp->Prop),Inv X pins σ H s->t σ H Q->Oe (Od X.prog X.w) X.A (spliced (Om pos (Og es X.env))) (AP X pins σ Q) X.xe s
def PS (X:Cx) (st:Stmt) (t:TS):Prop :=
 ∀ (pins:List (Addr×Obj)) (s:Shared) (σ:St) (H:Hp) (D:Zlw),Inv X pins σ H s->t D σ H->Oe (Od X.prog X.w) X.A (exec st X.env) (SP X pins D) X.xe s
def PSs (X:Cx) (st:List Stmt) (t:TS):Prop :=
 ∀ (pins:List (Addr×Obj)) (s:Shared) (σ:St) (H:Hp) (D:Zlw),Inv X pins σ H s->t D σ H->Oe (Od X.prog X.w) X.A (execs st X.env) (SP X pins D) X.xe s
def thn {t:Sem α} {Q b} (h:Oe M A t Q E s) (c:∀ a s,Q a s->b a s):Oe M A t b E s:=Ol h c fun _ _ x=>x
section
variable {X:Cx}
def bin {a b:Expr} {k l:TE} (A:PE X a k) (o:PE X b l) {c:List (Addr×Obj)} {s:Shared} {σ:St} {H:Hp} {R:V->V->Hp->Prop} (I:Inv X c σ H s) (h:k σ H fun x j=>l σ j fun y d=>R x y d)
  {α:Type} {Q:α->Shared->Prop} {f:Value->Value->Sem α}
  (w:∀ v u i x y d,Inv X c σ d i->RelV x v->RelV y u->R x y d->Oe (Od X.prog X.w) X.A (f v u) Q X.xe i) :
  Oe (Od X.prog X.w) X.A (eval a X.env) (fun v e=>Oe (Od X.prog X.w) X.A (eval b X.env) (fun u g=>Oe (Od X.prog X.w) X.A (f v u) Q X.xe g) X.xe e) X.xe s:=by
 exact thn (A c s σ H _ I h) fun v m ⟨x,j,r,q,t⟩=>thn (o c m σ j _ r t) fun u i ⟨y,d,p,z,n⟩=>w v u i x y d p q z n
def Ze7 (i:Nat):TE:=fun σ H Q=>∃ v,σ[i]?=some (some v)/\Q v H
def tC (v:V):TE:=fun _ H Q=>Q v H
def Zq0 {i:Nat} {x:Str} {k} (o:X.N[i]?=some x) (t:Vis X.env.scope x) (g:(x==("__debug__"))=false:=by decide) (j:(x==("__classdict__"))=false:=by decide):PE X (.Name x k) (Ze7 i):=by
 intro f s σ H Q I h;have⟨v,e,h⟩:=h;have⟨m,q,p⟩:=I.loc;have⟨u,r,l⟩:=p i x v o e t;have d:EP X f σ Q u s:=⟨v,H,I,r,h⟩
 rcases l with ⟨b,w⟩ | ⟨b,c,n,a⟩
 exact wpAny_Name (wpAny_loadName_local I.ok.kind b q w d) g;rcases b with b | b
 exact wpAny_Name (wpAny_loadName_cell I.ok.kind b n a d) g;exact wpAny_Name (wpAny_loadName_free I.ok.kind b n a d j) g
def Zh:PE X (.Constant (.int i) j a) (tC (.int i)):=fun _ _ _ H _ I h=>wpAny_Constant_int ⟨.int i,H,I.tok _,⟨_,rfl⟩,h⟩
def YX:PE X (.Constant (.bool b) j a) (tC (.bl b)):=fun _ _ _ H _ I h=>Constant_bool ⟨.bl b,H,I,rfl,h⟩
def Zbb:PE X (.Constant .none j a) (tC .non):=fun _ _ _ H _ I h=>Constant_none ⟨.non,H,I,rfl,h⟩
def Z1:PE X (.Constant (.str x) j a) (tC (.str x)):=fun _ _ _ H _ I h=>Calls.Constant_str ⟨.str x,H,I.tok _,⟨_,rfl⟩,h⟩
def Gl (X:Cx) (x:Str):Prop:=X.env.kindOf x=some .globalImplicit
def Zah {σ:St} (I:Inv X a σ H s) (c:Gl X x) (b:X.mg x=some u) (h:Q u s)
  (d:(x==("__debug__"))=false:=by decide):Oe (Od X.prog X.w) X.A (eval (.Name x e) X.env) Q E s :=
 Calls.Name_function_global I.ok.kind c (Calls.loadGlobal_global (by exact I.ok.glob▸I.mod.glob.keeps I.bk) b h) d
def JM {E} {σ:St} {a} (I:Inv X b σ H s) (g:Gl X x) (c:X.mg x=none) (d:Oi x=some u) (h:Q u s)
  (i:x≠"__name__":=by decide) (f:(x==("__debug__"))=false:=by decide):Oe (Od X.prog X.w) X.A (eval (.Name x a) X.env) Q E s:=by
 have⟨k,e,j⟩:=I.mod.blt;exact Calls.Name_function_global I.ok.kind g (Calls.loadGlobal_builtin (by exact I.ok.glob▸I.mod.glob.keeps I.bk) c (by exact I.ok.blt▸e.keeps I.bk) ((j x i).trans d) h) f
def Zbc (b:Gl X x) (a:X.mg x=some u) (r:RelV v u) (c:(x==("__debug__"))=false:=by decide):PE X (.Name x d) (tC v) :=
 fun _ _ _ H _ I h=>Zah I b a ⟨v,H,I,r,h⟩ c
def Zpf {a} (e:Gl X x) (b:X.mg x=none) (c:Oi x=some u) (r:RelV v u) (d:x≠"__name__":=by decide) (f:(x==("__debug__"))=false:=by decide):PE X (.Name x a) (tC v) :=
 fun _ _ _ H _ I h=>JM I e b c ⟨v,H,I,r,h⟩ d f
variable {a b:Expr} {ta tb:TE} {pos:Pos}
def PC (X:Cx) (op:CmpOp) (a b:Expr) (t:TE):Prop :=
 ∀ (pins:List (Addr×Obj)) (s:Shared) (σ:St) (H:Hp) (Q:VK),Inv X pins σ H s->t σ H Q ->
  Oe (Od X.prog X.w) X.A (eval a X.env) (fun v s₁=>Oe (Od X.prog X.w) X.A (eval b X.env) (fun u s₂=>Oe (Od X.prog X.w) X.A (On op v u) (EP X pins σ Q) X.xe s₂) X.xe s₁) X.xe s
def Zmn (b:Expr) {a:CmpOp} (h:a≠.In) (c:a≠.NotIn):OM a b=false:=by
 have e:(a==CmpOp.In)=false:=by cases a <;> first | rfl | exact absurd rfl h
 have d:(a==CmpOp.NotIn)=false:=by cases a <;> first | rfl | exact absurd rfl c
 cases b <;> simp[OM,e,d]
def tB (t:TE):TT:=fun σ H Q=>t σ H fun x H1=>∃ c,x= .bl c/\Q c H1
def ZqU (h:PC X g a b t) (f:OM g b=false:=by first | exact Zmn _ (by decide) (by decide) | rfl):PT X (.Compare a [g] [b] pos) (tB t):=by
 intro e s σ H Q I j;refine wpAny_isTrue_Compare1 (thn (h e s σ H _ I j) fun v w f=>thn f fun u r o=>thn o fun c p ⟨x,i,n,l,m⟩=>?_) f;obtain⟨d,rfl,q⟩:=m;cases l;exact Ou ⟨i,n,q⟩
def ZS (h:PE X e t) (k:∀ a,isTrue e X.env a=(do let v ←a;O0 e.pos;OI [v] (truthy v)):=by intro _;rfl):PT X e (tB t):=by
 intro b s σ H Q I j;refine isTrue_plain (thn (h b s σ H _ I j) fun v l ⟨x,c,g,f,i⟩=>?_) (k _);obtain⟨d,rfl,q⟩:=i;cases f;exact Ou ⟨c,g,q⟩
variable {tA tB':TT} {rest:List Expr}
def Zto (t u:TT):TT:=fun σ H Q=>t σ H fun c H1=>if c=true then u σ H1 Q else Q false H1
def tOr (t u:TT):TT:=fun σ H Q=>t σ H fun c H1=>if c=true then Q true H1 else u σ H1 Q
def Zth (t:TT):TT:=fun σ H Q=>t σ H fun c H1=>Q (!c) H1
def Zft (d:PT X a g):PW X (.BoolOp .And [a] pos) g:=by
 intro i b s σ H Q I h;refine isTrue_and (thn (d b s σ H Q I h) fun c j e=>?_);cases c with
 | true=>exact isTrue_and_nil e
 | false=>grind
def Yp (d:PT X a g):PW X (.BoolOp .Or [a] pos) g:=by
 intro i b s σ H Q I h;refine isTrue_or (thn (d b s σ H Q I h) fun c j e=>?_);cases c with
 | false=>exact isTrue_or_nil e
 | true=>grind
def ZjG (k:PT X a tA) (o:PW X (.BoolOp .And (b::rest) pos) tB'):PW X (.BoolOp .And (a::b::rest) pos) (Zto tA tB'):=by
 intro g d s σ H Q I h;refine isTrue_and (thn (k d s σ H _ I h) fun c m ⟨i,l,j⟩=>?_);cases c with
 | true=>exact o g d m σ i Q l j
 | false=>assumption
def YJ (k:PT X a tA) (o:PW X (.BoolOp .Or (b::rest) pos) tB'):PW X (.BoolOp .Or (a::b::rest) pos) (tOr tA tB'):=by
 intro g d s σ H Q I h;refine isTrue_or (thn (k d s σ H _ I h) fun c m ⟨i,l,j⟩=>?_);cases c with
 | true=>assumption
 | false=>exact o g d m σ i Q l j
def ZU (d:PT X a e):PT X (.UnaryOp .Not a pos) (Zth e):=by
 intro b s σ H Q I h;exact isTrue_not (d b s σ H _ I h)
def Zsh (ta tb:TE):TE:=fun σ H Q=>ta σ H fun x H1=>∃ c,x= .bl c/\if c=true then tb σ H1 Q else Q (.bl false) H1
def Zr8 (ta:TE):TE:=fun σ H Q=>ta σ H fun x H1=>∃ c,x= .bl c/\Q (.bl (!c)) H1
def Zas (h:PE X a t):PE X (.BoolOp e [a] pos) t:=fun b s σ H Q I d=>BoolOp_one (h b s σ H Q I d)
def JJ (n:PE X a ta) (j:PE X (.BoolOp .And (b::rest) pos) tb):PE X (.BoolOp .And (a::b::rest) pos) (Zsh ta tb):=by
 intro d s σ H Q I h;refine BoolOp_and (thn (n d s σ H _ I h) fun v k ⟨x,g,i,o,e⟩=>?_);obtain⟨c,rfl,e⟩:=e;cases o;refine Ou ?_;cases c with
 | true=>exact j d k σ g Q i e
 | false=>exact⟨.bl false,g,i,rfl,e⟩
def ZjQ (k:PE X a i):PE X (.UnaryOp .Not a g) (Zr8 i):=by
 intro b s σ H Q I h;refine UnaryOp_ (thn (k b s σ H _ I h) fun v l ⟨x,e,f,j,d⟩=>?_);obtain⟨c,rfl,d⟩:=d;cases j;exact not_of (Ou ⟨.bl _,e,f,rfl,d⟩)
def tIf (t:TT) (ta tb:TE):TE:=fun σ H Q=>t σ H fun c H1=>if c=true then ta σ H1 Q else tb σ H1 Q
def ZgG (n:PT X c tA) (o:PE X a ta) (l:PE X b tb):PE X (.IfExp c a b pos) (tIf tA ta tb):=by
 intro e s σ H Q I h;refine wpAny_IfExp (thn (n e s σ H _ I h) fun d j ⟨g,i,f⟩=>?_);cases d with
 | true=>exact o e j σ g Q i f
 | false=>exact l e j σ g Q i f
end
def SqL (K:PySem.W.Frag) (H:Hp) (a:Addr) (xs:List V):Prop :=
 Rd H a (.lst xs) \/
  ∃ (o:Obj) (its:Array Value) (n:Nat),K.lookup a=some o/\o.cls= .type "list"/\o.dict=none/\o.data= .seq its n/\its.size<=sizeLine/\Vals xs its.toList
def SqT (K:PySem.W.Frag) (H:Hp) (a:Addr) (xs:List V):Prop :=
 Rd H a (.tup xs) \/
  ∃ (o:Obj) (its:Array Value) (n:Nat),K.lookup a=some o/\o.cls= .type "tuple"/\o.data= .seq its n/\its.size<=sizeLine/\Vals xs its.toList
noncomputable def ZtC:Value->Option V
 | .none=>some .non
 | .bool b=>some (.bl b)
 | .int i _=>some (.int i)
 | .str x _=>some (.str x)
 | .bytes b _=>some (.byt b)
 | .float b _=>some (.flt b)
 | .ref a=>some (.ref a)
 | .type n=>some (.ty n)
 | _=>none
def RelV.abs (r:RelV x u):ZtC u=some x:=by
 cases x with
 | non=>cases r;rfl
 | bl _=>cases r;rfl
 | int _=>obtain⟨t,rfl⟩:=r;rfl
 | str _=>obtain⟨t,rfl⟩:=r;rfl
 | byt _=>obtain⟨t,rfl⟩:=r;rfl
 | flt _=>obtain⟨t,rfl⟩:=r;rfl
 | ref _=>cases r;rfl
 | ty _=>cases r;rfl
def RelV.inj (r:RelV x u) (q:RelV y u):x=y:=Option.some.inj (r.abs.symm.trans q.abs)
def Vals.inj:∀ {xs ys} {a},Vals xs a->Vals ys a->xs=ys
 | _,_,_,.nil,.nil=>rfl
 | _,_,_,.cons r t,.cons c b=>by rw[r.inj c,Vals.inj t b]
section
variable {X:Cx} {pins:List (Addr×Obj)} {σ:St} {H:Hp} {s:Shared} {a:Addr} {xs ys:List V}
def SqL.of {K} (h:H a=some (.lst xs)):SqL K H a xs:=.inl (.inl h)
def SqT.of {K} (h:H a=some (.tup xs)):SqT K H a xs:=.inl (.inl h)
def Inv.list (I:Inv X pins σ H s) (h:SqL X.K H a xs):∃ b,Vals xs b/\PlainL s.heap a b.toArray/\xs.length<=sizeLine:=by
 rcases h with h | ⟨o,b,n,d,f,g,j,i,r⟩
 obtain⟨z,b,n,r,e⟩:=h.ok I.hok;exact⟨b,r,⟨_,n,e,rfl,rfl,rfl⟩,z⟩;refine⟨_,r,⟨o,n,I.kIn a o d,f,g,by omega⟩,?_⟩;have e:=r.length;simp[QL]at e;exact M0 i e
def Inv.tuple (I:Inv X pins σ H s) (h:SqT X.K H a xs):∃ b,Vals xs b/\IsTup s.heap a b.toArray/\xs.length<=sizeLine:=by
 rcases h with h | ⟨o,b,n,f,d,i,g,r⟩
 obtain⟨z,b,r,p,_⟩:=h.ok I.hok;exact⟨b,r,p,z⟩;refine⟨_,r,⟨o,I.kIn a o f,d,n,by omega⟩,?_⟩;have e:=r.length;simp[QL]at e;exact M0 g e
def Inv.list_inj (I:Inv X pins σ H s) (h:SqL X.K H a xs) (h':SqL X.K H a ys):xs=ys:=by
 obtain⟨c,r,⟨o,n,e,_⟩,_⟩:=I.list h;obtain⟨b,g,⟨j,i,d,_⟩,_⟩:=I.list h';rw[e]at d;cases d;have:c=b:=by simp_all
 subst this;exact r.inj g
def Inv.tuple_inj (I:Inv X pins σ H s) (h:SqT X.K H a xs) (h':SqT X.K H a ys):xs=ys:=by
 obtain⟨c,r,⟨o,e,_⟩,_⟩:=I.tuple h;obtain⟨b,g,⟨k,f,_,i,j⟩,_⟩:=I.tuple h';rw[e]at f;cases f;have:c=b:=by simp_all
 subst this;exact r.inj g
end
noncomputable abbrev Cx.wish (X:Cx) (E:Value->Shared->Prop):Cx:={X with xe:=E}
noncomputable abbrev Cx.nox (X:Cx):Cx:=X.wish fun _ _=>False
def Cx.Ok.wish {X:Cx} (a:X.Ok) (E):(X.wish E).Ok :=
 ⟨a.mod,a.kind,a.glob,a.blt,a.above,a.inj,a.has,a.cab,a.hd,a.frames,a.stk,a.exf,a.bs,a.bsz,a.noex,a.exfs,a.funs,a.frf⟩
def Cx.Ok.unwish {X:Cx} (a:(X.wish E).Ok):X.Ok :=
 ⟨a.mod,a.kind,a.glob,a.blt,a.above,a.inj,a.has,a.cab,a.hd,a.frames,a.stk,a.exf,a.bs,a.bsz,a.noex,a.exfs,a.funs,a.frf⟩
section
variable {X:Cx} {pins:List (Addr×Obj)} {σ:St} {H:Hp} {s:Shared} {E:Value->Shared->Prop}
def Inv.wish (I:Inv X pins σ H s) (E):Inv (X.wish E) pins σ H s:=⟨I.ok.wish E,I.os,I.bare,I.base,I.loc,I.cell,I.free,I.freeC,I.pin,I.hok,I.len⟩
def Inv.unwish (I:Inv (X.wish E) pins σ H s):Inv X pins σ H s:=⟨I.ok.unwish,I.os,I.bare,I.base,I.loc,I.cell,I.free,I.freeC,I.pin,I.hok,I.len⟩
def SP.unwish (h:SP (X.wish E) pins D f i):SP X pins D f i:=by
 cases f with
 | next=>obtain⟨a,b,I,q⟩:=h;exact⟨a,b,I.unwish,q⟩
 | brk=>obtain⟨a,b,I,q⟩:=h;exact⟨a,b,I.unwish,q⟩
 | cont=>obtain⟨a,b,I,q⟩:=h;exact⟨a,b,I.unwish,q⟩
 | ret u=>obtain⟨v,a,b,I,r,q⟩:=h;exact⟨v,a,b,I.unwish,r,q⟩
def PSs.nox {st} (h:PSs X.nox st t):PSs X st t:=fun a s σ H D I b =>
 Ol (h a s σ H D (I.wish _) b) (fun _ _ q=>q.unwish) fun _ _ z=>False.elim z
end
section
variable {X:Cx} {st:Stmt} {rest:List Stmt} {t u:TS} {e:Expr} {te:TE} {pos:Pos}
def Zqx:TS:=fun D σ H=>D.nx σ H
def Zqh (t u:TS):TS:=fun D σ H=>t {D with nx:=u D} σ H
def B0:(let X:=x;∃ t,PSs X b t/\t D σ H)->∃ t,PSs x b t/\t D σ H:=id
def B3:(let d:=D;let a:=u;Zqh t a d σ H)->Zqh t u D σ H:=id
def B2:(let d:=D;let a:=v;let b:=Zqh u a;Zqh t b d σ H)->Zqh t (Zqh u v) D σ H:=id
def B4:(let d:=D;let a:=w;let b:=Zqh v a;let c:=Zqh u b;Zqh t c d σ H)->Zqh t (Zqh u (Zqh v w)) D σ H:=id
def B5:(let d:=D;let a:=p;let b:=Zqh w a;let c:=Zqh v b;let e:=Zqh u c;Zqh t e d σ H)->Zqh t (Zqh u (Zqh v (Zqh w p))) D σ H:=id
def B1:(let d:=D;let a:=q;let b:=Zqh p a;let c:=Zqh w b;let e:=Zqh v c;let m:=Zqh u e;Zqh t m d σ H)->Zqh t (Zqh u (Zqh v (Zqh w (Zqh p q)))) D σ H:=id
def Zt:PSs X [] Zqx:=fun _ _ σ H _ I h=>OB ⟨σ,H,I,h⟩
def Zd (e:PS X st t) (k:PSs X rest u):PSs X (st::rest) (Zqh t u):=by
 intro a s σ H D I h;refine wpAny_execs_cons (thn (e a s σ H _ I h) fun f g q=>?_);cases f with
 | next =>
  obtain⟨b,l,j,q⟩:=q;exact k a g b l D j q
 | ret v=>exact q
 | brk=>exact q
 | cont=>exact q
def Zg (d:PS X st t):PSs X [st] t:=by
 intro a s σ H D I h;refine wpAny_execs_cons (thn (d a s σ H D I h) fun f g q=>?_);cases f with
 | next=>exact OB q
 | ret v=>omega
 | brk=>omega
 | cont=>omega
def Inv.quiet {σ:St} (I:Inv X a σ H s):interactive X.env=false:=by simp[interactive,I.ok.kind]
def Zsa (te:TE):TS:=fun D σ H=>te σ H fun _ H1=>D.nx σ H1
def ZT (g:PE X e c) (j:Gg e none b.line X.env=pure false:=by rfl):PS X (.Expr e b) (Zsa c):=by
 intro a s σ H D I h;exact wpAny_Expr_any (thn (g a s σ H _ I h) fun v k ⟨x,f,d,l,i⟩=>⟨σ,f,d,i⟩) I.quiet j
def Ztg (te:TE):TS:=fun D σ H=>te σ H D.rt
def Zn (g:PE X e b):PS X (.Return (some e) f) (Ztg b):=by
 intro a s σ H D I h;exact wpAny_Return_some (thn (g a s σ H _ I h) fun v k=>B6 fun x j d c i=>⟨x,σ,j,d,c,i⟩)
def Ztk (c:TT) (t u:TS):TS:=fun D σ H=>c σ H fun b H1=>if b=true then t D σ H1 else u D σ H1
def ZI (l:PT X c o) (m:PSs X a t) (n:PSs X b u):PS X (.If c a b pos) (Ztk o t u):=by
 intro e s σ H D I h;refine wpAny_If (thn (l e s σ H _ I h) fun d j=>B8 fun g i f=>?_);cases d with
 | true=>exact m e j σ g D i f
 | false=>exact n e j σ g D i f
def Zqy:TS:=fun _ _ _=>False
def ZdR:PSs X a Zqy:=fun _ _ _ _ _ _ h=>h.elim
end
abbrev TG:=V->St->Hp->(St->Hp->Prop)->Prop
abbrev TGs:=List V->St->Hp->(St->Hp->Prop)->Prop
def PG (X:Cx) (target:Expr) (t:TG):Prop :=
 ∀ (pins:List (Addr×Obj)) (s:Shared) (σ:St) (H:Hp) (v:V) (u:Value) (Q:St->Hp->Prop),Inv X pins σ H s->RelV v u->t v σ H Q ->
  Oe (Od X.prog X.w) X.A (GE target X.env u) (fun _ s'=>∃ σ' H',Inv X pins σ' H' s'/\Q σ' H') X.xe s
def PGs (X:Cx) (ts:List Expr) (t:TGs):Prop :=
 ∀ (pins:List (Addr×Obj)) (s:Shared) (σ:St) (H:Hp) (vs:List V) (us:List Value) (Q:St->Hp->Prop),Inv X pins σ H s->Vals vs us->t vs σ H Q ->
  Oe (Od X.prog X.w) X.A (assignInOrder ((OU ts X.env).map (·.2)) us) (fun _ s'=>∃ σ' H',Inv X pins σ' H' s'/\Q σ' H') X.xe s
abbrev ZsQ:=V->V->V->Hp->(Hp->Prop)->Prop
def ZsS (X:Cx) (t:ZsQ):Prop :=
 ∀ (pins:List (Addr×Obj)) (s:Shared) (σ:St) (H:Hp) (o i v:V) (ov iv u:Value) (Q:Hp->Prop),Inv X pins σ H s->RelV o ov->RelV i iv->RelV v u->t o i v H Q ->
  Oe (Od X.prog X.w) X.A (GF ov iv u) (fun _ s'=>∃ H',Inv X pins σ H' s'/\Q H') X.xe s
abbrev TIp:=V->V->Hp->VK->Prop
def PIp (X:Cx) (op:Operator) (t:TIp):Prop :=
 ∀ (pins:List (Addr×Obj)) (s:Shared) (σ:St) (H:Hp) (x y:V) (v u:Value) (Q:VK),Inv X pins σ H s->RelV x v->RelV y u->t x y H Q ->
  Oe (Od X.prog X.w) X.A (inplaceOp op v u) (EP X pins σ Q) X.xe s
section
variable {X:Cx} {pos:Pos}
def Jp (i:Nat):TG:=fun v σ H Q=>Q (σ.set i (some v)) H
def ZG (b:X.N.Nodup) (hi:X.N[i]?=some x) (d:Loc X.env.scope x) (e:X.fn x=true\/X.env.scope.names.lookup x=some .local:=by first | exact .inl rfl | exact .inr rfl | assumption):PG X (.Name x pos) (Jp i):=by
 intro a s σ H v u Q I r h;exact wpAny_assign_Name (Zcq I b hi d r (fun g f=>⟨_,H,f,h⟩) e)
def Zs7:TGs:=fun vs σ H Q=>vs=[]/\Q σ H
def ZpW (t:TG) (u:TGs):TGs:=fun vs σ H Q=>∃ v r,vs=v::r/\t v σ H fun σ' H'=>u r σ' H' Q
def Ys:PGs X [] Zs7:=by
 intro a s σ H b c Q I r h;obtain⟨rfl,h⟩:=h;cases r;exact assignInOrder_nil ⟨σ,H,I,h⟩
def Zy (l:PG X e t) (n:PGs X es u)
  (j:(OU (e::es) X.env).map (·.2)=GE e X.env::(OU es X.env).map (·.2):=by rfl):PGs X (e::es) (ZpW t u):=by
 intro a s σ H p q Q I r h;obtain⟨v,o,rfl,h⟩:=h;cases r with
 | cons r g =>
  exact j▸assignInOrder_cons (thn (l a s σ H _ _ _ I r h) fun _ f ⟨b,k,i,m⟩=>(n a f b k _ _ Q i g m))
def ZsI (K:PySem.W.Frag) (n:Nat) (t:TGs):TG:=fun v σ H Q=>∃ a xs,v= .ref a/\SqT K H a xs/\xs.length=n/\t xs σ H Q
def ZqY {k} (y:X.calm=true) (h:PGs X es t)
  (A:(OU es X.env).length=n:=by rfl) (g:(OU es X.env).findIdx? (·.1)=none:=by rfl):PG X (.Tuple es k pos) (ZsI X.K n t):=by
 intro d s σ H v u Q I r i;obtain⟨a,m,rfl,w,x,i⟩:=i;cases r;have⟨z,j,l,_⟩:=I.tuple w;exact assign_Tuple_tuple (I.ok.hd y) l (by simp[A,←x,j.length]) g fun B p=>(h d _ σ H m _ Q (I.kept (t':=s.toks) fun b o e=>p b o (QJ (Qw e)) e) (by omega) i)
def Zty (to ti:TE) (t:ZsQ):TG:=fun v σ H Q=>to σ H fun o H1=>ti σ H1 fun i H2=>t o i v H2 fun H3=>Q σ H3
def ZqZ (g:PE X o B) (hi:PE X i z) (m:ZsS X t)
  (G:∀ v,GE (.Subscript o i pos) X.env v=(do
   let b ←OI [v] (eval o X.env)
   let c ←OI [v,b] (eval i X.env)
   O0 pos
   OI [v,b,c] (GF b c v)
   release [v,b,c] []):=by intro _;rfl):PG X (.Subscript o i pos) (Zty B z t):=by
 intro a s σ H v u Q I r h;exact Oa (Op (thn (g a s σ H _ I h) fun b f ⟨x,j,q,A,k⟩=>(Oa (Op (thn (hi a f σ j _ q k) fun c D ⟨y,e,E,w,p⟩=>(Oa (wpAny_standAt (Oa (Op (thn (m a D σ e x y v b c u _ E A w r p) fun _ F ⟨l,n,C⟩=>(wpAny_release ⟨σ,l,n,C⟩)))))))))))
def Zsg (te:TE) (g:TG):TS:=fun D σ H=>te σ H fun x H1=>g x σ H1 D.nx
def ZqW (o:PE X e d) (p:PG X b g) (r:swapsWithSole [b] e pos.line X.env=pure false:=by rfl) (k:swappedStores [b] e X.env=pure none:=by rfl)
  (i:(OU [b] X.env).map (·.2)=[GE b X.env]:=by rfl):PS X (.Assign [b] e pos) (Zsg d g):=by
 intro a s σ H D I h;exact wpAny_Assign_stores (thn (o a s σ H _ I h) fun v j ⟨x,m,f,t,n⟩=>(i▸thn (p a j σ m x v _ f t n) fun _ u q=>q)) r k
def Zo (d:X.N.Nodup) (hi:X.N[i]?=some x) (g:Loc X.env.scope x) (j:PE X e p) (o:Gg e (some (.Name x b)) pos.line X.env=pure false:=by rfl) (l:X.fn x=true\/X.env.scope.names.lookup x=some .local:=by first | exact .inl rfl | exact .inr rfl | assumption) :
  PS X (.Assign [.Name x b] e pos) (Zsg p (Jp i)):=by
 intro a s σ H D I h;exact wpAny_Assign_Name (thn (j a s σ H _ I h) fun v t ⟨y,m,f,q,n⟩=>(Zcq f d hi g q (fun r k=>⟨_,m,k,n⟩) l)) o
def Zsf (to ti te:TE) (tget:V->V->Hp->VK->Prop) (tip:TIp) (tset:ZsQ):TS:=fun D σ H=>to σ H fun o H1=>ti σ H1 fun i H2=>tget o i H2 fun x H3=>te σ H3 fun y H4=>tip x y H4 fun z H5=>tset o i z H5 fun H6=>D.nx σ H6
def Ztb (X:Cx) (t:V->V->Hp->VK->Prop):Prop :=
 ∀ (pins:List (Addr×Obj)) (s:Shared) (σ:St) (H:Hp) (o i:V) (ov iv:Value) (Q:VK),Inv X pins σ H s->RelV o ov->RelV i iv->t o i H Q ->
  Oe (Od X.prog X.w) X.A (Gh ov iv) (EP X pins σ Q) X.xe s
def ZjH (t:PE X o to) (hi:PE X i M) (hg:Ztb X g) (he:PE X e C) (r:PIp X op j) (y:ZsS X f)
  (B:∀ d c b,augStore i d c b=(do OI [b,d,c] (GF d c b);release [b,d,c] [];pure .next):=by intros;rfl):PS X (.AugAssign (.Subscript o i p) op e pos) (Zsf to M C g j f):=by
 intro a s σ H D I h;exact wpAny_AugAssign_SubscriptAny (thn (t a s σ H _ I h) fun d s1 ⟨q,u,Y,m,w⟩=>(thn (hi a s1 σ u _ Y w) fun c O ⟨l,H2,N,n,E⟩=>(thn (hg a O σ H2 q l d c _ N m n E) fun k F ⟨Q,x,W,r3,q3⟩=>(thn (he a F σ x _ W q3) fun v z ⟨G,T,P,U,S⟩=>(thn (r a z σ T Q G k v _ P r3 U S) fun b Z ⟨J,K,A,r5,V⟩=>(thn (y a Z σ K q l J d c b _ A m n r5 V) fun _ s6 ⟨R,L,q6⟩=>⟨σ,R,L,q6⟩)))))) B
def ipI (f:Int->Int->Int):TIp:=fun x y H Q=>∃ i j,x= .int i/\y= .int j/\Q (.int (f i j)) H
def Zrz:PIp X .Add (ipI fun i j=>i+j):=by
 intro a s σ H x y v u Q I c b h;obtain⟨i,j,rfl,rfl,q⟩:=h;obtain⟨t,rfl⟩:=c;obtain⟨d,rfl⟩:=b;exact iadd_int ⟨.int _,H,I.tok _,⟨_,rfl⟩,q⟩
def Zry:PIp X .Sub (ipI fun i j=>i-j):=by
 intro a s σ H x y v u Q I c b h;obtain⟨i,j,rfl,rfl,q⟩:=h;obtain⟨t,rfl⟩:=c;obtain⟨d,rfl⟩:=b;exact isub_int ⟨.int _,H,I.tok _,⟨_,rfl⟩,q⟩
def ZdD (c:TT) (tb:TS):TS:=fun D σ H=>∃ W:Nat->St->Hp->Prop,(∃ m,W m σ H)/\∀ m σ H,W m σ H ->
 c σ H fun b H1=>if b=true then ∃ N:St->Hp->Prop,(∀ σ' H',N σ' H'->∃ m',m'<m/\W m' σ' H')/\tb {D with nx:=N,ct:=N,bk:=D.nx} σ H1 else D.nx σ H1
def Xj (t:PassesOwn (Od X.prog X.w) X.A X.env X.xe) (K:PT X c R) (P:PSs X i G):PS X (.While c i [] pos) (ZdD R G):=by
 intro a s σ H D I h;obtain⟨W,⟨J,Q⟩,j⟩:=h;refine wpAny_While (codeAny_whileLoop (fun n M=>∃ g w,Inv X a g w M/\W n g w) ?_ J ⟨σ,H,I,Q⟩);rintro n E ⟨e,y,F,O⟩;refine OC t (thn (K a E e y _ F (j n e y O)) fun b L=>B8 fun A u l=>?_);cases b with
 | true =>
  refine Pe l fun N C l=>?_;refine OC t (thn (P a L e A _ u l) fun f U z=>?_);cases f with
  | next =>
   obtain⟨d,k,r,q⟩:=z;obtain⟨p,m,o⟩:=C d k q;exact⟨p,m,d,k,r,o⟩
  | cont =>
   obtain⟨d,k,r,q⟩:=z;obtain⟨p,m,o⟩:=C d k q;exact⟨p,m,d,k,r,o⟩
  | brk=>trivial
  | ret v=>trivial
 | false =>
  exact OB ⟨e,A,u,l⟩
end
structure It where
 go:Nat->Hp->Prop
 yld:Nat->Hp->V->Hp->Prop
 stop:Nat->Hp->Prop
def Zga (X:Cx) (pins:List (Addr×Obj)) (H:Hp) (b:Addr):Prop :=
 H b=none/\b≠X.env.locals/\b∉X.fs/\(b∈X.ex\/X.s₀.heap.objs.size<=b)/\(∀ x c,X.env.cells.lookup x=some c->c≠b)/\∀ p∈X.pn++pins,p.1≠b
def Inv.fpOk {σ:St} {b:Addr} (I:Inv X a σ H s) (d:s.heap.objs.size<=b) (h:g b=none):Zga X a g b:=by
 refine⟨h,Ro (QU I.lt d),I.nofs d,.inr (QO I.sz d),fun x c e z=>?_,fun p f z=>?_⟩;obtain⟨v,q⟩:=I.cell x c e;exact absurd (QU q.lt (by simp_all)) (Wo _);exact absurd (QU (Qw (I.pin p f).1) (by simp_all)) (Wo _)
structure Zng (P:Oc) (w:Of) (K:PySem.W.Frag) (tg:Expr) (J:It) (fp:List Addr) (it:Addr) (tn:Nat->Heap->Prop):Prop where
 mem:it∈fp
 obj:∀ i h,tn i h->∀ b∈fp,∃ o,h.get? b=some o/\∀ v,o.data≠.cell v
 keep:∀ i h h',tn i h->(∀ b∈fp,∀ o,h.get? b=some o->h'.get? b=some o)->tn i h'
 item:∀ (X:Cx),X.prog=P->X.w=w->X.K=K->X.calm=true->∀ (i:Nat) (pins:List (Addr×Obj)) (s:Shared) (σ:St) (H:Hp) (E:Value->Shared->Prop),Inv X pins σ H s->(∀ b∈fp,Zga X pins H b)->tn i s.heap->J.go i H ->
  Oe (Od P w) X.A (pyNext (.ref it)) (fun r s1=>∃ u,r=some u /\
   Oe (Od P w) X.A (Gb tg (.ref it) u) (fun _ s2=>∃ x H',Inv X pins σ H' s2/\RelV x u/\J.yld i H x H'/\tn (i+1) s2.heap/\∀ b∈fp,H' b=none) E s1) E s
 done:∀ (X:Cx),X.prog=P->X.w=w->X.K=K->X.calm=true->∀ (i:Nat) (pins:List (Addr×Obj)) (s:Shared) (σ:St) (H:Hp) (E:Value->Shared->Prop),Inv X pins σ H s->(∀ b∈fp,Zga X pins H b)->tn i s.heap->J.stop i H ->
  Oe (Od P w) X.A (pyNext (.ref it)) (fun r s1=>r=none/\Inv X pins σ H s1) E s
 self:∀ (A:Around) (i:Nat) (s:Shared) (Q:Value->Shared->Prop) (E:Value->Shared->Prop),tn i s.heap->Q (.ref it) s->Oe (Od P w) A (Gq (.ref it)) Q E s
abbrev TI:=St->Hp->(It->Hp->Prop)->Prop
def PIE (X:Cx) (pins:List (Addr×Obj)) (σ:St) (tg:Expr) (R:It->Hp->Prop) (itv:Value) (s2:Shared):Prop :=
 ∃ (it:Addr) (fp:List Addr) (tn:Nat->Heap->Prop) (J:It) (H':Hp),itv= .ref it/\Inv X pins σ H' s2/\Zng X.prog X.w X.K tg J fp it tn/\tn 0 s2.heap/\(∀ b∈fp,Zga X pins H' b)/\R J H'
def PI (X:Cx) (tg iter:Expr) (wi:TI):Prop :=
 ∀ (pins:List (Addr×Obj)) (s:Shared) (σ:St) (H:Hp) (R:It->Hp->Prop),Inv X pins σ H s->wi σ H R ->
  Oe (Od X.prog X.w) X.A (eval iter X.env) (fun v s1=>Oe (Od X.prog X.w) X.A (Gq v) (PIE X pins σ tg R) X.xe s1) X.xe s
def ZkQ (d:s.heap.get? b=some o) (e:o.cls= .type n) (f:o.data= .fields vs)
  (g:["enumerate","zip","dict_itemiterator","dict_reverseitemiterator","odict_iterator","itertools.zip_longest","itertools.pairwise"].contains n=false) (a:Q () s):Oe M A (Gb c (.ref b) u) Q E s:=by
 cases c <;> first
  | exact Ob a
  | (cases u <;> first
    | exact Ob a
    | (refine Oa (wpAny_load d ?_)
       rw[e,f];show Oe M A (if (["enumerate","zip","dict_itemiterator","dict_reverseitemiterator","odict_iterator","itertools.zip_longest","itertools.pairwise"].contains n&&vs[0]? == some _)=true then _ else _) Q E s;rw[if_neg (by intro h;simp_all)];exact Ob a))
def Itl (K:PySem.W.Frag) (a:Addr):It :=
 ⟨fun i H=>∃ xs x,SqL K H a xs/\xs[i]?=some x,fun i H x H'=>H'=H/\∀ xs,SqL K H a xs->xs[i]?=some x,fun i H=>∃ xs,SqL K H a xs/\xs.length<=i⟩
noncomputable def Itt (K:PySem.W.Frag) (a:Addr):It :=
 ⟨fun i H=>∃ xs x,SqT K H a xs/\xs[i]?=some x,fun i H x H'=>H'=H/\∀ xs,SqT K H a xs->xs[i]?=some x,fun i H=>∃ xs,SqT K H a xs/\xs.length<=i⟩
def Itr (lo:Int) (n:Nat):It:=⟨fun i _=>i<n,fun i H x H'=>H'=H/\x= .int (lo+i),fun i _=>n<=i⟩
def Ziw {K} (a f):Zng P w K W (Itl K a) [f] f (fun i h=>h.IsListIter f a i) where
 mem:=by simp
 obj:=fun i h st b g=>by
  have e:b=f:=by simp_all
  subst e;have⟨o,e,c,d⟩:=st;exact⟨o,e,fun v z=>by simp_all⟩
 keep:=fun i h L st k=>st.at fun o e=>k f (by simp) o e
 item:=by
  intro X G r C M i j s σ H E I n st J;subst G r C;have⟨T,x,m,U⟩:=J;have⟨A,B,p,hz⟩:=I.list m;have⟨u,Q,O⟩:=B.get U;have⟨t,D,S,y,q,F⟩:=n f (by simp);refine wpAny_pyNext_list_item st p.isList (by simpa using Q) fun L l N=>?_;have⟨o,e,c,d⟩:=id l;exact⟨u,rfl,ZkQ e c d (by decide) ⟨x,H,(I.turned (t':=s.toks) (fun b o g e=>(N.2 b g).trans e) t D y q F),O,⟨rfl,fun Z V=>by rw[I.list_inj V m];omega⟩,l,fun b g=>(n b g).1⟩⟩
 done:=by
  intro X G r C M i j s σ H E I n st J;subst G r C;have⟨T,m,_⟩:=J;have⟨A,B,p,_⟩:=I.list m;have⟨t,D,S,y,q,F⟩:=n f (by simp);have Y:=B.length;exact wpAny_pyNext_list_end (I.ok.hd M) st p.isList (by simp;exact Ka ‹_› Y) fun L R=>⟨rfl,I.turned (fun b o g e=>R b o g e) t D y q F⟩
 self:=fun _ _ _ _ _ st h=>wpAny_pyIter_listiter st h
def Zht {K} (a f):Zng P w K W (Itt K a) [f] f (fun i h=>h.IsTupleIter f a i) where
 mem:=by simp
 obj:=fun i h st b g=>by
  have e:b=f:=by simp_all
  subst e;obtain⟨o,e,c,d⟩:=st;exact⟨o,e,fun v z=>by simp_all⟩
 keep:=fun i h L st k=>st.at fun o e=>k f (by simp) o e
 item:=by
  intro X G r C M i j s σ H E I n st J;subst G r C;refine Pb J fun T x m U=>?_;refine Pf (I.tuple m) fun A B p hz=>?_;refine Pe (B.get U) fun u Q O=>?_;refine Pg (n f (by simp)) fun t D S y q F=>?_;refine wpAny_pyNext_tuple_item st (p) (x:=u) (by simpa using Q) fun L l N=>?_;refine Pf (id l) fun o e c d=>?_;exact⟨u,rfl,ZkQ e c d (by decide) ⟨x,H,(I.turned (t':=s.toks) (fun b o g e=>(N.2 b g).trans e) t D y q F),O,⟨rfl,fun Z V=>by rw[I.tuple_inj V m];omega⟩,l,fun b g=>(n b g).1⟩⟩
 done:=by
  intro X G r C M i j s σ H E I n st J;subst G r C;obtain⟨T,m,_⟩:=J;obtain⟨A,B,p,_⟩:=I.tuple m;refine Pg (n f (by simp)) fun t D S y q F=>?_;have Y:=B.length;exact wpAny_pyNext_tuple_end (I.ok.hd M) st (p) (by simp;exact Ka ‹_› Y) fun L R=>⟨rfl,I.turned (fun b o g e=>R b o g e) t D y q F⟩
 self:=fun _ _ _ _ _ st h=>wpAny_pyIter_tupleiter st h
def Zhu {K} (c) (lo) (n):Zng P w K N (Itr lo n) [c] c (fun i h=>IsRangeIter h c (lo+i*1) (n-i) 1) where
 mem:=by simp
 obj:=fun i h st b d=>by
  have e:b=c:=by simp_all
  subst e;exact⟨_,st,fun v z=>by
   simp_all⟩
 keep:=fun i h p st k=>k c (by simp) _ st
 item:=by
  intro X C y A r i a s σ H E I g st u;subst C y A;refine Pg (g c (by simp)) fun j q F m x l=>?_;refine (Walks.range (prog:=X.prog) (w:=X.w) (I.ok.hd r) c lo 1 n).item i s _ _ u st fun v p L M f J=>?_;obtain⟨t,rfl⟩:=M;have D:Inv X a σ H {s with heap:=p,toks:=L}:=I.turned (fun b o d e=>J b o (by simpa using d) e) j q m x l;refine⟨_,rfl,ZkQ f rfl rfl (by decide) ⟨.int _,H,D,⟨t,?_⟩,⟨rfl,rfl⟩,f,fun b d=>(g b d).1⟩⟩;simp
 done:=by
  intro X C y A r i a s σ H E I g st u;refine Pg (g c (by simp)) fun j q F m x l=>?_;exact wpAny_pyNext_range_end (I.ok.hd r) st (by have:n<=i:=u;exact Tl this) fun p G=>⟨rfl,I.turned (fun b o d e=>G b o d e) j q m x l⟩
 self:=fun _ _ _ _ _ st h=>wpAny_pyIter_rangeiter st h
section
variable {X:Cx} {tg:Expr}
def ZpP (K:PySem.W.Frag) (tl:TE):TI:=fun σ H R=>tl σ H fun x H1=>∃ a,x= .ref a/\(∃ xs,SqL K H1 a xs)/\R (Itl K a) H1
def ZsC (K:PySem.W.Frag) (tl:TE):TI:=fun σ H R=>tl σ H fun x H1=>∃ a,x= .ref a/\(∃ xs,SqT K H1 a xs)/\R (Itt K a) H1
def ZQ (j:PE X l f):PI X tg l (ZpP X.K f):=by
 intro c s σ H R I h;refine thn (j c s σ H _ I h) fun v r=>B6 fun x m d g k=>?_;obtain⟨a,rfl,⟨w,i⟩,q⟩:=k;cases g;obtain⟨n,u,p,_⟩:=d.list i;refine OR p.isList ⟨_,_,_,_,m,rfl,d.kept fun b o e=>Qi _ e,Ziw a _,⟨_,Qs _ rfl,rfl,rfl⟩,fun b t=>?_,q⟩;have e:b=r.heap.objs.size:=by simp_all
 subst e;exact d.fpOk (Ql _) (d.hok.fresh (Ql _))
def Yb (j:PE X l f):PI X tg l (ZsC X.K f):=by
 intro c s σ H R I h;refine thn (j c s σ H _ I h) fun v r=>B6 fun x m d g k=>?_;obtain⟨a,rfl,⟨w,i⟩,q⟩:=k;cases g;have⟨n,u,p,_⟩:=d.tuple i;refine wpAny_pyIter_tuple p ⟨_,_,_,_,m,rfl,d.kept fun b o e=>Qi _ e,Zht a _,⟨_,Qs _ rfl,rfl,rfl⟩,fun b t=>?_,q⟩;have e:b=r.heap.objs.size:=by simp_all
 subst e;exact d.fpOk (Ql _) (d.hok.fresh (Ql _))
def ZgB {σ:St} {lo hi} (I:Inv X a σ H s) (k : -(2 ^ 62)<=lo) (g:lo<2 ^ 62) (l : -(2 ^ 62)<=hi) (i:hi<2 ^ 62)
  (q:R (Itr lo (hi-lo).toNat) H):Oe (Od X.prog X.w) X.A (Gq (.ref s.heap.objs.size)) (PIE X a σ tg R) E {s with heap:=s.heap.push {cls:=.type "range",data:=.fields #[.int lo t,.int hi u,.int 1 v]},toks:=tk}:=by
 refine wpAny_pyIter_range (IsRange.new ..) (small_one k g l i) ?_;have d:Inv X a σ H {s with heap:=s.heap.push {cls:=.type "range",data:=.fields #[.int lo t,.int hi u,.int 1 v]},toks:=tk}:=I.kept fun b o e=>Qi _ e;refine La _ _ _ _ H ⟨rfl,d.kept fun b o e=>Qi _ e,Zhu _ lo _,?_,fun b m=>?_,q⟩
 have h:lo+((0:Nat))*1=lo:=by simp
 have j:(((hi-lo).toNat:Nat))-((0:Nat))=Builtin.Range.rangeSize lo hi 1:=by rw[rangeSize_one];lia
 rw[h,j];exact Qs _ rfl;have e:b=(s.heap.push {cls:=.type "range",data:=.fields #[.int lo t,.int hi u,.int 1 v]}).objs.size:=by simpa using m
 subst e;exact d.fpOk (Ql _) (d.hok.fresh (Ql _))
def ZsF (ta:TA):TI:=fun σ H R=>ta σ H fun vs H1=>∃ j:Int,vs=[.int j]/\-(2 ^ 62)<=j/\j<2 ^ 62/\R (Itr 0 j.toNat) H1
def ZsE (ta:TA):TI:=fun σ H R=>ta σ H fun vs H1=>∃ i j:Int,vs=[.int i,.int j]/\(-(2 ^ 62)<=i/\i<2 ^ 62/\-(2 ^ 62)<=j/\j<2 ^ 62)/\R (Itr i (j-i).toNat) H1
def YV (o:Gl X "range") (f:X.mg "range" = none) (l:PA X [a] g) (i:Og [a] X.env=[(false,eval a X.env)]:=by rfl):PI X tg (.Call (.Name "range" p) [a] [] c) (ZsF g):=by
 intro b s σ H R I h;refine Call_ (JM I o f boot_range (PyProof.Rows.callWith_type1 (thn (l c b s σ H _ I h) fun v z ⟨y,w,u,m,d⟩=>?_) i rfl));obtain⟨j,rfl,d,n,q⟩:=d;cases m with
 | cons r k =>
  cases k;obtain⟨t,rfl⟩:=r;exact call_range_1 (ZgB u (by omega) (by omega) d n (by simpa using q))
def ZdU {p c} (z:Gl X "range") (l:X.mg "range" = none) (o:PA X [a,b] m) (G:Og [a,b] X.env=[(false,eval a X.env),(false,eval b X.env)]:=by rfl) (f:Og [b] X.env=[(false,eval b X.env)]:=by rfl) :
  PI X tg (.Call (.Name "range" p) [a,b] [] c) (ZsE m):=by
 intro e s σ H R I h;refine Call_ (JM I z l boot_range (PyProof.Rows.callWith_type1 (thn (o c e s σ H _ I h) fun E D ⟨C,F,u,n,g⟩=>?_) (by simp_all) (by rw[f];rfl)));obtain⟨i,j,rfl,⟨g,w,y,x⟩,q⟩:=g;cases n with
 | cons r k =>
  cases k with
  | cons v k =>
   cases k;obtain⟨t,rfl⟩:=r;obtain⟨A,rfl⟩:=v;exact call_range_2 (ZgB u g w y x q)
def Ztl (wi:TI) (g:TG) (tb:TS):TS:=fun D σ H=>wi σ H fun J H1=>∃ W:Nat->Nat->St->Hp->Prop,(∃ m,W 0 m σ H1)/\∀ i m σ H,W i m σ H ->
 (J.stop i H/\D.nx σ H)\/(J.go i H/\∃ N:St->Hp->Prop,(∀ σ' H',N σ' H'->∃ m',m'<m/\W (i+1) m' σ' H')/\∀ x H',J.yld i H x H'->g x σ H' fun σ2 H2=>tb {D with nx:=N,ct:=N,bk:=D.nx} σ2 H2)
noncomputable def ZgE (fp:List Addr) (h:Heap):List (Addr×Obj):=fp.filterMap fun b=>(h.get? b).map fun o=>(b,o)
def X1 (a:b∈c) (e:h.get? b=some o):(b,o)∈ZgE c h:=Rf.mpr ⟨b,a,by rw[e];rfl⟩
def Zka (a:p∈ZgE c h):p.1∈c/\h.get? p.1=some p.2:=by
 obtain⟨b,f,e⟩:=Rf.mp a;cases q:h.get? b with
 | none=>simp_all
 | some o =>
  rw[q]at e;have d:=Option.some.inj e;subst d;exact⟨f,q⟩
def Inv.pinned {σ:St} (I:Inv X a σ H s) (k:∀ b∈f,Zga X a H b) (n:∀ b∈f,∃ o,s.heap.get? b=some o/\∀ v,o.data≠.cell v):Inv X (a++ZgE f s.heap) σ H s :=
 I.pins_of fun p i=>(QG.mp i).elim (fun z=>I.pin p (QZ _ z)) fun z=>by
  obtain⟨h,e⟩:=Zka z;obtain⟨l,m,j,_⟩:=k p.1 h;obtain⟨o,g,d⟩:=n p.1 h;rw[e]at g;cases g;exact⟨e,l,m,j,d⟩
def Inv.unpinned {σ:St} (I:Inv X (a++c) σ H s):Inv X a σ H s:=I.pins_of fun p b=>I.pin p (QZ _ (Q0 _ b))
def Yh (C:PassesOwn (Od X.prog X.w) X.A X.env X.xe) (hc:X.calm=true) (hi:PI X tg z wi) (hg:PG X tg g) (j:PSs X E tb)
  (hs:∀ x,foldedSetIterable z X.env x=pure x:=by intro _;rfl):PS X (.For tg z E [] pos) (Ztl wi g tb):=by
 intro c s σ H D I h;refine wpAny_For (thn (hi c s σ H _ I h) fun v s1 h1=>thn h1 fun itv s2 h2=>?_) hs;obtain⟨it,O,tn,J,H2,rfl,I2,T,S,f2,W,⟨m0,w0⟩,B⟩:=h2;have p:∀ {w:Hp},(∀ b∈O,w b=none)->∀ b∈O,Zga X c w b:=fun hn b j=>⟨hn b j,(f2 b j).2⟩
 refine codeAny_forLoop_any (fun n s'=>∃ i t w,Inv X c t w s'/\tn i s'.heap/\(∀ b∈O,w b=none)/\W i n t w) ?_ m0 ⟨0,σ,H2,I2,S,fun b j=>(f2 b j).1,w0⟩;rintro n s3 ⟨i,q,M,I3,L,G,w3⟩;rcases B i n q M w3 with ⟨K,qn⟩ | ⟨go,N,hN,step⟩
 refine OC C (thn (T.done X rfl rfl rfl hc i c s3 q M X.xe I3 (p G) L K) fun r s4 ⟨R,I4⟩=>?_);subst R;exact OB ⟨q,M,I4,qn⟩
 refine OC C (thn (T.item X rfl rfl rfl hc i c s3 q M X.xe I3 (p G) L go) fun r s4 ⟨u,R,h4⟩=>?_);subst R;refine OC C (thn h4 fun _ s5 ⟨x,H5,I5,r5,y5,A,fr5⟩=>OC C (thn (hg _ s5 q H5 x u _ (I5.pinned (p fr5) (T.obj _ _ A)) r5 (step x H5 y5)) fun _ s6 ⟨P,H6,I6,q6⟩=>OC C (thn (j _ s6 P H6 _ I6 q6) fun f Q y=>?_)));have again:∀ {a:St} {l:Hp},Inv X _ a l Q->N a l->∃ m,m<n/\∃ i t w,Inv X c t w Q/\tn i Q.heap/\(∀ b∈O,w b=none)/\W i m t w:=fun {a l} k F=>by
  obtain⟨m',hm,w7⟩:=hN a l F;refine⟨m',hm,i+1,a,l,k.unpinned,T.keep _ _ _ A fun b j o e=>(k.pin (b,o) (QZ _ (QZ _ (X1 j e)))).1,fun b j=>?_,w7⟩;obtain⟨o,e,d⟩:=T.obj _ _ A b j;exact(k.pin (b,o) (QZ _ (QZ _ (X1 j e)))).2.1
 cases f with
 | next=>obtain⟨a,l,k,F⟩:=y;exact again k F
 | cont=>obtain⟨a,l,k,F⟩:=y;exact again k F
 | brk=>obtain⟨a,l,k,y⟩:=y;exact⟨a,l,k.unpinned,y⟩
 | ret v=>obtain⟨x7,a,l,k,r7,y⟩:=y;exact⟨x7,a,l,k.unpinned,r7,y⟩
end
def JR {K} {g:TG} {l:TS} {D:Zlw} (c:Nat->St->Hp->Prop) (s:c 0 σ H) (u:∀ i σ H,i<=xs.length->c i σ H->SqL K H a xs)
  (z:∀ i x σ H,xs[i]?=some x->c i σ H->g x σ H fun f j=>l {D with nx:=c (i+1),ct:=c (i+1),bk:=D.nx} f j) (r:∀ σ H,c xs.length σ H->D.nx σ H) :
  ∃ W:Nat->Nat->St->Hp->Prop,(∃ m,W 0 m σ H)/\∀ i m σ H,W i m σ H ->
   ((Itl K a).stop i H/\D.nx σ H)\/((Itl K a).go i H/\∃ N,(∀ d b,N d b->∃ n,n<m/\W (i+1) n d b)/\∀ x b,(Itl K a).yld i H x b->g x σ b fun f j=>l {D with nx:=N,ct:=N,bk:=D.nx} f j):=by
 refine⟨fun i m σ H=>m=xs.length-i/\i<=xs.length/\c i σ H,⟨xs.length,by simp,QT _,s⟩,?_⟩;rintro i m σ H ⟨rfl,v,p⟩;have q:=u i σ H v p;by_cases h:i<xs.length
 refine .inr ⟨⟨xs,xs[i],q,by simp⟩,_,fun d b t=>⟨_,T3 h,rfl,h,t⟩,fun x b y=>?_⟩;obtain⟨e,y⟩:=y
 grind
 have e:i=xs.length:=T5 v h
 subst e;exact .inl ⟨⟨xs,q,Ql _⟩,r σ H p⟩
def Y9 {K} {g:TG} {l:TS} {D:Zlw} (c:Nat->St->Hp->Prop) (s:c 0 σ H) (u:∀ i σ H,i<=xs.length->c i σ H->SqT K H a xs)
  (z:∀ i x σ H,xs[i]?=some x->c i σ H->g x σ H fun f j=>l {D with nx:=c (i+1),ct:=c (i+1),bk:=D.nx} f j) (r:∀ σ H,c xs.length σ H->D.nx σ H) :
  ∃ W:Nat->Nat->St->Hp->Prop,(∃ m,W 0 m σ H)/\∀ i m σ H,W i m σ H ->
   ((Itt K a).stop i H/\D.nx σ H)\/((Itt K a).go i H/\∃ N,(∀ d b,N d b->∃ n,n<m/\W (i+1) n d b)/\∀ x b,(Itt K a).yld i H x b->g x σ b fun f j=>l {D with nx:=N,ct:=N,bk:=D.nx} f j):=by
 refine⟨fun i m σ H=>m=xs.length-i/\i<=xs.length/\c i σ H,⟨xs.length,by simp,QT _,s⟩,?_⟩;rintro i m σ H ⟨rfl,v,p⟩;have q:=u i σ H v p;by_cases h:i<xs.length
 refine .inr ⟨⟨xs,xs[i],q,by simp⟩,_,fun d b t=>⟨_,T3 h,rfl,h,t⟩,fun x b y=>?_⟩;obtain⟨e,y⟩:=y
 grind
 have e:i=xs.length:=T5 v h
 subst e;exact .inl ⟨⟨xs,q,Ql _⟩,r σ H p⟩
def JQ {lo} {g:TG} {k:TS} {D:Zlw} (d:Nat->St->Hp->Prop) (q:d 0 σ H)
  (t:∀ i σ H,i<n->d i σ H->g (.int (lo+i)) σ H fun c h=>k {D with nx:=d (i+1),ct:=d (i+1),bk:=D.nx} c h) (r:∀ σ H,d n σ H->D.nx σ H) :
  ∃ W:Nat->Nat->St->Hp->Prop,(∃ m,W 0 m σ H)/\∀ i m σ H,W i m σ H ->
   ((Itr lo n).stop i H/\D.nx σ H)\/((Itr lo n).go i H/\∃ N,(∀ b a,N b a->∃ l,l<m/\W (i+1) l b a)/\∀ x a,(Itr lo n).yld i H x a->g x σ a fun c h=>k {D with nx:=N,ct:=N,bk:=D.nx} c h):=by
 refine⟨fun i m σ H=>m=n-i/\i<=n/\d i σ H,⟨n,by simp,QT _,q⟩,?_⟩;rintro i m σ H ⟨rfl,u,p⟩;by_cases f:i<n
 refine .inr ⟨f,_,fun b a s=>⟨_,T3 f,rfl,f,s⟩,fun x a y=>?_⟩;obtain⟨e,y⟩:=y
 simp_all
 have e:i=n:=T5 u f
 subst e;exact .inl ⟨Ql _,r σ H p⟩
def Zlx (f:St->Hp->Prop) (μ:St->Hp->Nat) (n:f σ H)
  (k:∀ σ H,f σ H->c σ H fun b d=>if b=true then i {D with nx:=fun a e=>f a e/\μ a e<μ σ H,ct:=fun a e=>f a e/\μ a e<μ σ H,bk:=D.nx} σ d else D.nx σ d)
  (g:∀ σ H Q h,(∀ b d,Q b d->h b d)->c σ H Q->c σ H h):ZdD c i D σ H:=by
 refine⟨fun m σ H=>m=μ σ H/\f σ H,⟨_,rfl,n⟩,?_⟩;rintro m σ H ⟨rfl,p⟩;refine g σ H _ _ (fun b d q=>?_) (k σ H p);cases b with
 | true=>exact⟨_,fun a e ⟨j,l⟩=>⟨_,l,rfl,j⟩,q⟩
 | false=>grind
abbrev R2:=V->V->Hp->VK->Prop
def OpR (X:Cx) (f:Value->Value->Sem Value) (r:R2):Prop :=
 ∀ (pins:List (Addr×Obj)) (s:Shared) (σ:St) (H:Hp) (x y:V) (v u:Value) (Q:VK),Inv X pins σ H s->RelV x v->RelV y u->r x y H Q ->
  Oe (Od X.prog X.w) X.A (f v u) (EP X pins σ Q) X.xe s
def UnR (X:Cx) (f:Value->Sem Value) (r:V->Hp->VK->Prop):Prop :=
 ∀ (pins:List (Addr×Obj)) (s:Shared) (σ:St) (H:Hp) (x:V) (v:Value) (Q:VK),Inv X pins σ H s->RelV x v->r x H Q ->
  Oe (Od X.prog X.w) X.A (f v) (EP X pins σ Q) X.xe s
def CallR (X:Cx) (f:Value) (r:List V->Hp->VK->Prop):Prop :=
 ∀ (pins:List (Addr×Obj)) (s:Shared) (σ:St) (H:Hp) (xs:List V) (us:List Value) (Q:VK),Inv X pins σ H s->Vals xs us->r xs H Q ->
  Oe (Od X.prog X.w) X.A (call f us) (EP X pins σ Q) X.xe s
def tOp (r:R2) (ta tb:TE):TE:=fun σ H Q=>ta σ H fun x H1=>tb σ H1 fun y H2=>r x y H2 Q
def tUn (r:V->Hp->VK->Prop) (ta:TE):TE:=fun σ H Q=>ta σ H fun x H1=>r x H1 Q
def rI (C:Int->Int->Prop) (g:Int->Int->V):R2:=fun x y H Q=>∃ i j,x= .int i/\y= .int j/\C i j/\Q (g i j) H
def rI0 (g:Int->Int->V):R2:=fun x y H Q=>∃ i j,x= .int i/\y= .int j/\Q (g i j) H
def rU (g:Int->V):V->Hp->VK->Prop:=fun x H Q=>∃ i,x= .int i/\Q (g i) H
section
variable {X:Cx} {a b c:Expr} {ta tb tc:TE} {pos:Pos}
def ZsM (r:PE X a q) (A:PE X b w) {σ:St} {R:V->V->Hp->Prop} (I:Inv X pins σ H s)
  (h:q σ H fun x j=>w σ j fun y d=>R x y d) {f:Value->Value->Sem Value}
  (p:∀ v u i x y d,Inv X pins σ d i->RelV x v->RelV y u->R x y d->Oe (Od X.prog X.w) X.A (f v u) Q X.xe i) :
  Oe (Od X.prog X.w) X.A (eval a X.env) (fun v g=>Oe (Od X.prog X.w) X.A (eval b X.env) (fun u e=>Oe (Od X.prog X.w) X.A (f v u) Q X.xe e) X.xe g) X.xe s:=by
 exact thn (r pins s σ H _ I h) fun v n=>B6 fun x j l k o=>(thn (A pins n σ j _ l o) fun u i=>B6 fun y d t m z=>(p v u i x y d t k m z))
def Zv (i:OpR X (OJ j) r) (l:PE X a ta) (p:PE X b tb):PE X (.BinOp a j b pos) (tOp r ta tb):=by
 intro c s σ H Q I h;exact wpAny_BinOp (ZsM l p I h fun v u g x y o n m d q=>i c g σ o x y v u Q n m d q)
def Jm (g:UnR X (unaryOp k) r) (m:PE X a ta):PE X (.UnaryOp k a pos) (tUn r ta):=by
 intro b s σ H Q I h;exact UnaryOp_ (thn (m b s σ H _ I h) fun v c=>B6 fun x i e d j=>g b c σ i x v Q e d j)
def opI {g:Int->Int->Int}
  (rule:∀ (i j) (t u) (s) (Q) (E),C i j->Q (.int (g i j) s.toks) {s with toks:=s.toks+1}->Oe (Od X.prog X.w) X.A (f (.int i t) (.int j u)) Q E s) :
  OpR X f (rI C fun i j=>.int (g i j)):=by
 intro a s σ H x y v u Q I d b h;obtain⟨i,j,rfl,rfl,c,q⟩:=h;obtain⟨t,rfl⟩:=d;obtain⟨e,rfl⟩:=b;exact rule i j t e s _ _ c ⟨.int _,H,I.tok _,⟨_,rfl⟩,q⟩
def Zs4 {g:Int->Int->Int}
  (rule:∀ (i j) (t u) (s) (Q) (E),Q (.int (g i j) s.toks) {s with toks:=s.toks+1}->Oe (Od X.prog X.w) X.A (f (.int i t) (.int j u)) Q E s) :
  OpR X f (rI0 fun i j=>.int (g i j)):=by
 intro a s σ H x y v u Q I c b h;obtain⟨i,j,rfl,rfl,q⟩:=h;obtain⟨t,rfl⟩:=c;obtain⟨d,rfl⟩:=b;exact rule i j t d s _ _ ⟨.int _,H,I.tok _,⟨_,rfl⟩,q⟩
def Zr0 {g:Int->Int->Bool}
  (rule:∀ (i j) (t u) (s) (Q) (E),Q (.bool (g i j)) s->Oe (Od X.prog X.w) X.A (f (.int i t) (.int j u)) Q E s) :
  OpR X f (rI0 fun i j=>.bl (g i j)):=by
 intro a s σ H x y v u Q I c b h;obtain⟨i,j,rfl,rfl,q⟩:=h;obtain⟨t,rfl⟩:=c;obtain⟨d,rfl⟩:=b;exact rule i j t d s _ _ ⟨.bl _,H,I,rfl,q⟩
def ZtJ (i j:Int):Prop:=0<j/\j<1073741824
def ZtI (i j:Int):Prop:=0<=j/\j<=1000000/\i.natAbs<2 ^ 64
def CMul (i j:Int):Prop:=(-(2 ^ 64)<i/\i<2 ^ 64)\/(-(2 ^ 64)<j/\j<2 ^ 64)
def CMul.ok (h:CMul i j):IntMulOk i j:=by
 rcases h with ⟨a,b⟩ | ⟨a,b⟩
 exact .of_left (intBits_le_64 a b);exact .of_right (intBits_le_64 a b)
def Z7:OpR X (OJ .Add) (rI0 fun i j=>.int (i+j)):=Zs4 fun _ _ _ _ _ _ _ q=>add_int q
def Xe:OpR X (OJ .Sub) (rI0 fun i j=>.int (i-j)):=Zs4 fun _ _ _ _ _ _ _ q=>sub_int q
def Jc:OpR X (OJ .Mult) (rI CMul fun i j=>.int (i*j)):=opI fun _ _ _ _ _ _ _ a q=>mul_int q a.ok
def XD:OpR X (OJ .FloorDiv) (rI ZtJ fun i j=>.int (i / j)):=opI fun i j _ _ _ _ _ a q=>by
 have b:=a.1;have c:=a.2;exact floordiv_int (Mi b) (by grind) (.inl (PyProof.noPylong_small (by omega)))
def Z6:OpR X (OJ .Mod) (rI (fun _ j=>0<j) fun i j=>.int (i % j)):=opI fun i j _ _ _ _ _ a q=>mod_int' (Mi a) (by rw[Int.fmod_eq_emod_of_nonneg i (by lia)];omega)
def ZnZ:OpR X (OJ .Pow) (rI ZtI fun i j=>.int (i ^ j.toNat)):=opI fun _ _ _ _ _ _ _ a q=>pow_int_small a.1 a.2.1 a.2.2 q
def unI {g:Int->Int}
  (rule:∀ (i) (t) (s) (Q) (E),Q (.int (g i) s.toks) {s with toks:=s.toks+1}->Oe (Od X.prog X.w) X.A (f (.int i t)) Q E s) :
  UnR X f (rU fun i=>.int (g i)):=by
 intro a s σ H x v Q I b h;obtain⟨i,rfl,q⟩:=h;obtain⟨t,rfl⟩:=b;exact rule i t s _ _ ⟨.int _,H,I.tok _,⟨_,rfl⟩,q⟩
def YQ:UnR X (unaryOp .USub) (rU fun i=>.int (-i)):=unI fun _ _ _ _ _ q=>neg_int q
end
noncomputable def Zs0:V->V->Bool
 | .non,.non=>true | .non,.int _=>true | .int _,.non=>true | .non,.bl _=>true | .bl _,.non=>true | .non,.str _=>true | .str _,.non=>true
 | .int _,.int _=>true | .bl _,.bl _=>true | .str _,.str _=>true | .byt _,.byt _=>true
 | .int _,.str _=>true | .str _,.int _=>true | .bl _,.str _=>true | .str _,.bl _=>true
 | _,_=>false
def rEq:R2:=fun x y H Q=>Zs0 x y=true/\Q (.bl (decide (x=y))) H
def rNe:R2:=fun x y H Q=>Zs0 x y=true/\Q (.bl (!decide (x=y))) H
def Zf2:decide (V.int i=V.int j)=(i==j):=by
 rw[Wq];simp
def Zog:decide (V.bl i=V.bl j)=(i==j):=by
 rw[Wq];simp
def dec_str:decide (V.str i=V.str j)=(i==j):=by
 rw[Wq];simp
def Zk8:decide (V.byt i=V.byt j)=(i.toList==j.toList):=by
 rw[Wq];cases i;cases j;simp
section
variable {X:Cx} {a b c:Expr} {ta tb tc:TE} {pos:Pos}
def ZP {σ:St} (I:Inv X pins σ H s) (q:Q (.bl k) H) (e:k=k'):EP X pins σ Q (.bool k') s:=by
 subst e;exact⟨.bl k,H,I,rfl,q⟩
def YF:OpR X (On .Eq) rEq:=by
 intro pins s σ H x y v u Q I rx a h;obtain⟨hs,q⟩:=h;cases x with
 | non =>
  cases rx;cases y with
  | non=>cases a;exact PySem.EqNone.eq_none_none (ZP I q (by simp))
  | bl j=>cases a;exact PySem.EqNone.eq_none_bool (ZP I q (by simp))
  | int j=>obtain⟨e,rfl⟩:=a;exact PySem.EqNone.eq_none_int (ZP I q (by simp))
  | str j=>obtain⟨e,rfl⟩:=a;exact PySem.EqNone.eq_none_str (ZP I q (by simp))
  | _=>exact absurd (show false=true from hs) QV
 | bl i =>
  cases rx;cases y with
  | non=>cases a;exact PySem.EqNone.eq_bool_none (ZP I q (by simp))
  | bl j=>cases a;exact eq_bool (ZP I q Zog)
  | str j=>obtain⟨e,rfl⟩:=a;exact PySem.EqMixed.eq_bool_str (ZP I q (by simp))
  | _=>exact absurd (show false=true from hs) QV
 | int i =>
  obtain⟨t,rfl⟩:=rx;cases y with
  | non=>cases a;exact PySem.EqNone.eq_int_none (ZP I q (by simp))
  | int j=>obtain⟨e,rfl⟩:=a;exact eq_int (ZP I q Zf2)
  | str j=>obtain⟨e,rfl⟩:=a;exact PySem.EqMixed.eq_int_str (ZP I q (by simp))
  | _=>exact absurd (show false=true from hs) QV
 | str i =>
  obtain⟨t,rfl⟩:=rx;cases y with
  | non=>cases a;exact PySem.EqNone.eq_str_none (ZP I q (by simp))
  | bl j=>cases a;exact PySem.EqMixed.eq_str_bool (ZP I q (by simp))
  | int j=>obtain⟨e,rfl⟩:=a;exact PySem.EqMixed.eq_str_int (ZP I q (by simp))
  | str j=>obtain⟨e,rfl⟩:=a;exact eq_str (ZP I q dec_str)
  | _=>exact absurd (show false=true from hs) QV
 | byt i =>
  obtain⟨t,rfl⟩:=rx;cases y with
  | byt j=>obtain⟨e,rfl⟩:=a;exact PySem.W.eq_bytes (ZP I q Zk8)
  | _=>exact absurd (show false=true from hs) QV
 | _=>cases y <;> exact absurd (show false=true from hs) QV
def X7:OpR X (On .NotEq) rNe:=by
 intro pins s σ H x y v u Q I rx a h;obtain⟨hs,q⟩:=h;cases x with
 | non =>
  cases rx;cases y with
  | non=>cases a;exact PySem.EqNone.ne_none_none (ZP I q (by simp))
  | bl j=>cases a;exact PySem.EqNone.ne_none_bool (ZP I q (by simp))
  | int j=>obtain⟨t',rfl⟩:=a;exact PySem.EqNone.ne_none_int (ZP I q (by simp))
  | str j=>obtain⟨t',rfl⟩:=a;exact PySem.EqNone.ne_none_str (ZP I q (by simp))
  | _=>exact absurd (show false=true from hs) QV
 | bl i =>
  cases rx;cases y with
  | non=>cases a;exact PySem.EqNone.ne_bool_none (ZP I q (by simp))
  | bl j=>cases a;exact ne_bool (ZP I q (congrArg not Zog))
  | str j=>obtain⟨t',rfl⟩:=a;exact PySem.EqMixed.ne_bool_str (ZP I q (by simp))
  | _=>exact absurd (show false=true from hs) QV
 | int i =>
  obtain⟨t,rfl⟩:=rx;cases y with
  | non=>cases a;exact PySem.EqNone.ne_int_none (ZP I q (by simp))
  | int j=>obtain⟨t',rfl⟩:=a;exact ne_int (ZP I q (congrArg not Zf2))
  | str j=>obtain⟨t',rfl⟩:=a;exact PySem.EqMixed.ne_int_str (ZP I q (by simp))
  | _=>exact absurd (show false=true from hs) QV
 | str i =>
  obtain⟨t,rfl⟩:=rx;cases y with
  | non=>cases a;exact PySem.EqNone.ne_str_none (ZP I q (by simp))
  | bl j=>cases a;exact PySem.EqMixed.ne_str_bool (ZP I q (by simp))
  | int j=>obtain⟨t',rfl⟩:=a;exact PySem.EqMixed.ne_str_int (ZP I q (by simp))
  | str j=>obtain⟨t',rfl⟩:=a;exact ne_str (ZP I q (congrArg not dec_str))
  | _=>exact absurd (show false=true from hs) QV
 | byt i =>
  obtain⟨t,rfl⟩:=rx;cases y with
  | byt j=>obtain⟨t',rfl⟩:=a;exact PySem.W.ne_bytes (ZP I q (congrArg not Zk8))
  | _=>exact absurd (show false=true from hs) QV
 | _=>cases y <;> exact absurd (show false=true from hs) QV
def ZjZ:OpR X (On .Lt) (rI0 fun i j=>.bl (decide (i<j))):=Zr0 fun _ _ _ _ _ _ _ q=>lt_int q
def Zpi:OpR X (On .LtE) (rI0 fun i j=>.bl (decide (i<=j))):=Zr0 fun _ _ _ _ _ _ _ q=>le_int q
def Xv:OpR X (On .Gt) (rI0 fun i j=>.bl (decide (j<i))):=Zr0 fun _ _ _ _ _ _ _ q=>gt_int q
def Zsw:OpR X (On .GtE) (rI0 fun i j=>.bl (decide (j<=i))):=Zr0 fun _ _ _ _ _ _ _ q=>ge_int q
def ZjY:OpR X (On .Lt) (fun x y H Q=>∃ i j,x= .str i/\y= .str j/\Q (.bl (decide (i.cps.toList<j.cps.toList))) H):=by
 intro a s σ H x y v u Q I c b h;obtain⟨i,j,rfl,rfl,q⟩:=h;obtain⟨t,rfl⟩:=c;obtain⟨d,rfl⟩:=b;exact lt_str (ZP I q rfl)
def ZdZ:OpR X (On .In) (fun x y H Q=>∃ i j,x= .str i/\y= .str j/\Q (.bl (!(Builtin.Str.occurrences j i 0 j.length 1).isEmpty)) H):=by
 intro b s σ H x y v u Q I c d h;obtain⟨i,j,rfl,rfl,q⟩:=h;obtain⟨t,rfl⟩:=c;obtain⟨e,rfl⟩:=d;exact in_str (ZP I q rfl)
def Zn0:OpR X (On .Is) (fun x y H Q=>y= .non/\Q (.bl (decide (x= .non))) H):=by
 intro a s σ H x y v u Q I b c h;obtain⟨rfl,q⟩:=h;cases c;refine is_none_gen (ZP I q ?_);cases x <;> first
  | (cases b;rfl)
  | (obtain⟨t,rfl⟩:=b;rfl)
def ZjX:OpR X (On .IsNot) (fun x y H Q=>y= .non/\Q (.bl (!decide (x= .non))) H):=by
 intro a s σ H x y v u Q I b c h;obtain⟨rfl,q⟩:=h;cases c;refine isnot_none_gen (ZP I q ?_);cases x <;> first
  | (cases b;rfl)
  | (obtain⟨t,rfl⟩:=b;rfl)
def Zr (b) (h:op≠.In:=by decide) (c:op≠.NotIn:=by decide):OM op b=false:=by
 have e:(op==CmpOp.In)=false:=by cases op <;> first | rfl | exact absurd rfl h
 have d:(op==CmpOp.NotIn)=false:=by cases op <;> first | rfl | exact absurd rfl c
 cases b <;> simp[OM,e,d]
def ZY (i:OpR X (On d) r) (l:PE X a ta) (p:PE X b tb) (t:OM d b=false):PE X (.Compare a [d] [b] pos) (tOp r ta tb):=by
 intro c s σ H Q I h;exact wpAny_Compare1 (ZsM l p I h fun v u g x y o j m e q=>i c g σ o x y v u Q j m e q) t
def Zqv (t:TE):TT:=fun σ H Q=>t σ H fun x H'=>∃ k,x= .bl k/\Q k H'
def Zq (m:OpR X (On f) r) (t:PE X a ta) (B:PE X b tb) (C:OM f b=false):PT X (.Compare a [f] [b] pos) (Zqv (tOp r ta tb)):=by
 intro d s σ H Q I h;refine wpAny_isTrue_Compare1 (thn (t d s σ H _ I h) fun v F=>B6 fun x n A D o=>thn (B d F σ n _ A o) fun u G=>B6 fun y L j K w=>
  thn (m d G σ L x y v u _ j D K w) fun c M ⟨z,p,E,g,k,e,J⟩=>?_) C
 subst e;cases g;exact Ou ⟨p,E,J⟩
def ZqF (r r':R2) (ta tb tc:TE):TE:=fun σ H Q=>ta σ H fun x H1=>tb σ H1 fun y H2=>r x y H2 fun z H3=>∃ k,z= .bl k /\
 (if k=true then tc σ H3 fun w' H4=>r' y w' H4 Q else Q (.bl false) H3)
def Zmd (ho:OpR X (On m) r) (i:OpR X (On g) r') (D:PE X a ta) (J:PE X b tb) (C:PE X c tc)
  (K:lastMarks [m,g] [b,c]=false:=by with_unfolding_all rfl):PE X (.Compare a [m,g] [b,c] pos) (ZqF r r' ta tb tc):=by
 intro f s σ H Q I h;refine Compare_chain (thn (D f s σ H _ I h) fun v w ⟨x,q,I1,r1,t⟩=>chain_link (thn (J f w σ q _ I1 t) fun u s2 ⟨y,H2,I2,l,F⟩ =>
  thn (ho f s2 σ H2 x y v u _ I2 r1 l F) fun d G ⟨z,o,j,p,k,e,n⟩=>?_)) K
 subst e;cases p;refine Ou ?_;cases k with
 | false=>exact ite_ff ⟨.bl false,o,j,rfl,n⟩
 | true=>exact ite_tt (chain_last (thn (C f G σ o _ j n) fun w' B ⟨z',O,M,r4,N⟩=>i f B σ O y z' u w' Q M l r4 N))
def Zb7:sizeLine<2 ^ 63:=by decide
def Yf:OpR X (OJ .Add) (fun x y H Q=>∃ i j,x= .str i/\y= .str j/\i.length+j.length<=sizeLine/\Q (.str (i++j)) H):=by
 intro a s σ H x y v u Q I e b h;obtain⟨i,j,rfl,rfl,c,q⟩:=h;obtain⟨t,rfl⟩:=e;obtain⟨d,rfl⟩:=b;exact add_str (fun d f=>⟨.str _,H,I.tok _,⟨_,rfl⟩,q⟩) c
def YL (r:Vals [x] d):∃ u,d=[u]/\RelV x u:=by
 cases r with
 | cons b c=>cases c;exact⟨_,rfl,b⟩
def Zir (r:Vals [x,y] f):∃ u b,f=[u,b]/\RelV x u/\RelV y b:=by
 cases r with
 | cons e c =>
  cases c with
  | cons g d=>cases d;exact⟨_,_,rfl,e,g⟩
def Zle (c:X.calm=true):CallR X (.builtin "max") (fun xs H Q=>∃ i j,xs=[.int i,.int j]/\Q (.int (if j>i then j else i)) H):=by
 intro b s σ H xs g Q I r h;obtain⟨i,j,rfl,q⟩:=h;obtain⟨u,e,rfl,⟨t,rfl⟩,⟨f,rfl⟩⟩:=Zir r;refine max_two_ints (I.ok.hd c) fun l d k=>⟨_,H,I.kept k,?_,q⟩
 by_cases a:j>i
 rw[if_pos a,if_pos a];exact⟨_,rfl⟩;rw[if_neg a,if_neg a];exact⟨_,rfl⟩
def ZeQ (c:X.calm=true):CallR X (.builtin "min") (fun xs H Q=>∃ i j,xs=[.int i,.int j]/\Q (.int (if j<i then j else i)) H):=by
 intro b s σ H xs g Q I r h;obtain⟨i,j,rfl,q⟩:=h;obtain⟨u,e,rfl,⟨t,rfl⟩,⟨f,rfl⟩⟩:=Zir r;refine min_two_ints (I.ok.hd c) fun l d k=>⟨_,H,I.kept k,?_,q⟩
 by_cases a:j<i
 rw[if_pos a,if_pos a];exact⟨_,rfl⟩;rw[if_neg a,if_neg a];exact⟨_,rfl⟩
def Zli:CallR X (.type "int") (fun xs H Q=>(∃ i,xs=[.int i]/\Q (.int i) H)\/∃ k,xs=[.bl k]/\Q (.int (if k then 1 else 0)) H):=by
 intro a s σ H xs b Q I r h;rcases h with ⟨i,rfl,q⟩ | ⟨k,rfl,q⟩
 obtain⟨u,rfl,t,rfl⟩:=YL r;exact call_int_int ⟨.int i,H,I,⟨_,rfl⟩,q⟩;obtain⟨u,rfl,rfl⟩:=YL r;exact call_int_bool ⟨.int _,H,I.tok _,⟨_,rfl⟩,q⟩
def ZeO:CallR X (.type "str") (fun xs H Q=>∃ i,xs=[.int i]/\i.natAbs.log2<1920/\Q (.str (toString i)) H):=by
 intro a s σ H xs c Q I r h;obtain⟨i,rfl,b,q⟩:=h;obtain⟨u,rfl,t,rfl⟩:=YL r;exact PySem.P.str_of_int b ⟨.str _,H,I.tok _,⟨_,rfl⟩,q⟩
def Zqo (K:PySem.W.Frag) (x:V) (H:Hp) (n:Nat):Prop :=
 match x with
 | .str y=>y.length<=sizeLine/\n=y.length
 | .byt y=>y.size<=sizeLine/\n=y.size
 | .ref p=>(∃ xs,SqL K H p xs/\n=xs.length)\/∃ xs,SqT K H p xs/\n=xs.length
 | _=>False
def Zp:CallR X (.builtin "len") (fun xs H Q=>∃ x n,xs=[x]/\Zqo X.K x H n/\Q (.int n) H):=by
 intro j s σ H xs z Q I r h;obtain⟨x,n,rfl,e,q⟩:=h;obtain⟨u,rfl,g⟩:=YL r;have v:=Oj;cases x with
 | str y =>
  obtain⟨t,rfl⟩:=g;obtain⟨l,rfl⟩:y.length<=sizeLine/\n=y.length:=e;exact len_str (by lia) ⟨.int _,H,I.tok _,⟨_,rfl⟩,q⟩
 | byt y =>
  obtain⟨t,rfl⟩:=g;obtain⟨l,rfl⟩:y.size<=sizeLine/\n=y.size:=e;exact PySem.W.len_bytes (by lia) ⟨.int _,H,I.tok _,⟨_,rfl⟩,q⟩
 | ref p =>
  cases g;have b:=e;rcases b with ⟨xs,i,b⟩ | ⟨xs,i,b⟩
  subst b;obtain⟨c,d,f,w⟩:=I.list i;have a:=d.length;exact Calls.call_len_list f.isList (by simp[Qu];exact S5 w a v) ⟨.int xs.length,H,I.tok _,⟨_,by simp only[Qu];rw[a]⟩,q⟩;subst b;obtain⟨c,d,f,_⟩:=I.tuple i;have a:=d.length;exact len_tuple f (by simp[Qu];exact S5 ‹_› a v) ⟨.int xs.length,H,I.tok _,⟨_,by simp only[Qu];rw[a]⟩,q⟩
 | _=>exact e.elim
end
structure ObjM (h:Heap) (x dx C:Addr) (mA:Str->Option Value):Prop where
 obj:h.get? x=some (PySem.W.instObj C dx)
 ns:h.Ns1 dx mA
 ne:dx≠x
def Zkt {h:Heap} (n:h.Ns1 m r):∃ d,h.get? m=some d/\∀ name,PySem.W.lookIn name d=some (r name):=by
 obtain⟨o,f,s,l,p,j,_,g⟩:=n;refine⟨o,l,fun name=>?_⟩;have e:=g name;unfold nsFind findBy at e;rw[←Array.find?_toList]at e;unfold PySem.W.lookIn;rw[p];dsimp only;split
 rename_i y q;rw[q]at e;exact congrArg some e;rename_i q;rw[q]at e;have a:f.toList.any (·.refKey)=false:=by
  rw[List.any_eq_false];intro y i;obtain⟨z,t,c⟩:=j y (Array.mem_toList_iff.mp i);simp[DictEntry.refKey,c]
 have k:¬ f.toList.any (·.refKey)=true:=by rw[a];simp
 exact if_neg k▸congrArg some e
def ObjM.look (I:ObjM h x c C d):∃ a,PySem.W.InstAt h x (PySem.W.instObj C c) C (some a)/\∀ name,PySem.W.lookIn name a=some (d name) :=
 let ⟨a,b,e⟩:=Zkt I.ns
 ⟨a,⟨I.obj,rfl,rfl,b⟩,e⟩
section
variable {prog:Oc} {w:Of} {A:Around} {E:Value->Shared->Prop} {s:Shared} {K:PySem.W.Frag} {x dx C f:Addr} {mA:Str->Option Value} {name:Str} {v:Value}
def ZpT (X:K.In s.heap) (I:ObjM s.heap x dx C mA) (d:PySem.W.plainGet K C name=true) (e:PySem.W.hasDictIn K C=true)
  (f:PySem.W.findIn K (.ref C) name=some none) (g:mA name=some v) (a:PySem.W.handedIn v=true) (h:Q v {s with toks:=s.toks+1}) :
  Oe (Od prog w) A (getAttr (.ref x) name b) Q E s:=by
 obtain⟨i,J,_⟩:=I.look;exact PySem.W.get_value X J (PySem.W.plainGet_of d).1 (PySem.W.findObj_own e f rfl (by simp_all)) a h
def ZmW (X:K.In s.heap) (I:ObjM s.heap x dx C mA) (a:PySem.W.plainGet K C name=true)
  (e:PySem.W.findIn K (.ref C) name=some (some (.ref f))) (d:PySem.W.isFn K (.ref f)=true) (c:mA name=none) (h:Q (.ref f,[.ref x]) s) :
  Oe (Od prog w) A (OH (.ref x) name l) Q E s:=by
 obtain⟨j,J,i⟩:=I.look;exact PySem.W.method_fn X J (PySem.W.plainGet_of a).1 (PySem.W.plainGet_of a).2 e (beq_iff_eq.mp d) (by show(PySem.W.lookIn name j).map _=some false;rw[i,c];rfl) h
def ZoN (X:K.In s.heap) (I:ObjM s.heap x dx C mA)
  (n:PySem.W.findIn K (.ref C) "__setattr__" = some (some (.builtin "object.__setattr__"))) (t:PySem.W.plainOver K C=true) (l:PySem.W.takerIn K C name=some none) (o:PySem.W.hasDictIn K C=true)
  (k:PySem.Within mA ns) (r:ns.length<=sizeLine)
  (h:∀ h',ObjM h' x dx C (fun y=>if y=name then some v else mA y)->Heap.SameBut dx s.heap h'->Q () {s with heap:=h',toks:=s.toks+2}) :
  Oe (Od prog w) A (setAttr (.ref x) name v) Q E s:=by
 obtain⟨B,J,_⟩:=I.look;refine PySem.W.set_plain X J n (PySem.W.osa_open X J t l fun b=>?_);refine Pe (PySem.W.any_some o) fun u p g=>?_;refine Oa (Ob (Oa (Oa (wpAny_loadPart I.obj (Oa (PySem.W.Looks.here (PySem.W.looks_clsIn X p) ?_))))));rw[g];refine Ob (Oa (Ob (Oa (wpAny_nsSet1 I.ns fun h' c a=>?_))));refine Pk (c.count (PySem.Within.cons name v k)) fun z q m e f d=>?_;exact Oa (wpAny_lookBehind e (by exact f▸pastItsLine_dict (QO d (by rw[QC];exact Kb r))) (Ob (h _ ⟨(a.2 _ (Ne.symm I.ne)).trans I.obj,c,I.ne⟩ a)))
def ZmE (X:K.In s.heap) (d:PySem.W.makesIn K C=true)
  (hi:PySem.W.findIn K (.ref C) "__init__" = some (some (.ref f))) (e:PySem.W.typeIn K (.ref f)=some (.type "function"))
  (h:Oy (Od prog w) (A.under (.builtin "type.__call__" ⟨.ref C::vs,b⟩)) (.call (.ref f) ⟨.ref (s.heap.objs.size+1)::vs,b⟩) (PySem.W.InitBack (s.heap.objs.size+1) R)
   {s with heap:=(s.heap.push PySem.W.emptyDict).push (PySem.W.instObj C s.heap.objs.size)}) :
  Oy (Od prog w) A (.call (.ref C) ⟨vs,b⟩) R s:=PySem.W.make_core (PySem.W.makes_of X d) (PySem.W.looks_findIn X hi) (fun a=>PySem.W.bind_fn X a e) (.inl rfl) h
end
noncomputable def ZdQ (f:Str) (v:V):List (Str×V)->List (Str×V)
 | []=>[(f,v)]
 | (g,x)::r=>if g=f then (g,v)::r else (g,x)::ZdQ f v r
def Xm (f g) (v):∀ b,(ZdQ f v b).lookup g=if g=f then some v else b.lookup g
 | []=>by
  show Ra g [(f,v)]=_;by_cases h:g=f
  have c:=beq_iff_eq.mpr h;simp[Ra,c,if_pos h];simp[Ra,(beq_eq_false_iff_ne.mpr h),if_neg h]
 | (k,x)::r=>by
  have d:=Xm f g v r;rw[show ZdQ f v _=if k=f then (k,v)::r else (k,x)::ZdQ f v r from rfl];by_cases a:k=f
  rw[if_pos a];by_cases h:g=k
  simp_all
  simp[Ra,(beq_eq_false_iff_ne.mpr h),if_neg fun e:g=f=>h (e.trans a.symm)]
  grind
def Zbl (f) (v):∀ b,f∈(ZdQ f v b).map (·.1)/\∀ g,g∈b.map (·.1)->g∈(ZdQ f v b).map (·.1)
 | []=>⟨by simp[ZdQ],fun g h=>by simp at h⟩
 | (k,x)::r=>by
  obtain⟨i,d⟩:=Zbl f v r;rw[show ZdQ f v _=if k=f then (k,v)::r else (k,x)::ZdQ f v r from rfl];by_cases c:k=f
  subst c;simp;rw[if_neg c];refine⟨?_,fun g h=>?_⟩;exact Qg _ i;rcases Qx.mp h with e | e
  exact Qx.mpr (.inl e);exact Qg _ (d g e)
def Zbi (f) (v):∀ c,(ZdQ f v c).length<=c.length+1
 | []=>by simp[ZdQ]
 | (k,x)::r=>by
  have d:=Zbi f v r;rw[show ZdQ f v _=if k=f then (k,v)::r else (k,x)::ZdQ f v r from rfl];by_cases b:k=f
  rw[if_pos b,QC,QC];exact V4;rw[if_neg b,QC,QC];exact Kb d
def RelO.some_of (r:RelO (some v) o):∃ u,o=some u/\RelV v u:=by
 cases o with
 | none=>exact r.elim
 | some u=>exact⟨u,rfl,r⟩
def RelO.none_of (r:RelO none o):o=none:=by
 cases o with
 | none=>rfl
 | some u=>exact r.elim
def ZkO (r:RelV v u):PySem.W.handedIn u=true:=by
 cases v with
 | non=>cases r;rfl
 | bl b=>cases r;rfl
 | int i=>obtain⟨t,rfl⟩:=r;rfl
 | str x=>obtain⟨t,rfl⟩:=r;rfl
 | byt b=>obtain⟨t,rfl⟩:=r;rfl
 | flt b=>obtain⟨t,rfl⟩:=r;rfl
 | ref a=>cases r;rfl
 | ty n=>cases r;rfl
section
variable {P:Oc} {w:Of} {H H':Hp} {h h':Heap} {a C dx:Addr} {fs fs':List (Str×V)}
def Zda (g:HOk P w H h) (e:H a=some (.ins C i c)):∃ b,ObjM h a i C b/\(∀ f,RelO (c.lookup f) (b f))/\PySem.Within b (c.map (·.1))/\c.length<=1000/\H i=some (.own a):=by
 obtain⟨d,z,k,j,b,n,r,q⟩:=(g a _ e)
 exact⟨b,⟨j,n,k⟩,r,q,z,d⟩
end
structure Cls (K:PySem.W.Frag) (C:Addr):Prop where
 pg:PySem.W.plainGet K C Str.empty=true
 hd:PySem.W.hasDictIn K C=true
 po:PySem.W.plainOver K C=true
 sa:PySem.W.findIn K (.ref C) "__setattr__" = some (some (.builtin "object.__setattr__"))
def Cls.get {K} (c:Cls K C) (f):PySem.W.plainGet K C f=true:=c.pg
def NoAttr (K:PySem.W.Frag) (C:Addr) (f:Str):Prop:=PySem.W.findIn K (.ref C) f=some none
def NoAttr.taker {K} (n:NoAttr K C f):PySem.W.takerIn K C f=some none:=by
 unfold PySem.W.takerIn;rw[n];rfl
structure Zqd (K:PySem.W.Frag) (C:Addr) (m:Str) (f:Addr):Prop where
 at_:PySem.W.findIn K (.ref C) m=some (some (.ref f))
 fn:PySem.W.isFn K (.ref f)=true
 kp:PySem.W.keepIn K (.ref f)=true
section
variable {X:Cx} {pins:List (Addr×Obj)} {σ:St} {H:Hp} {s:Shared} {a C dx:Addr} {fs:List (Str×V)} {f:Str} {v:V} {A:Around} {E:Value->Shared->Prop}
def Zh8 (I:Inv X pins σ H s) (e:H a=some (.ins C dx fs)) (c:Cls X.K C) (n:NoAttr X.K C f) (l:fs.lookup f=some v)
  (h:∀ u i,Inv X pins σ H i->RelV v u->Q u i):Oe (Od X.prog X.w) A (getAttr (.ref a) f b) Q E s:=by
 obtain⟨j,O,_⟩:=Zda I.hok e;obtain⟨u,m,g⟩:=RelO.some_of (v:=v) (o:=j f) (by grind);exact ZpT I.kIn O (c.get f) c.hd n m (ZkO g) (h u _ (I.tok _) g)
def X4 (I:Inv X pins σ H s) (e:H a=some (.ins C dx fs)) (c:Cls X.K C) (k:Zqd X.K C m g) (l:fs.lookup m=none)
  (h:Q (.ref g,[.ref a]) s):Oe (Od X.prog X.w) A (OH (.ref a) m i) Q E s:=by
 obtain⟨f,O,_⟩:=Zda I.hok e;exact ZmW I.kIn O (c.get m) k.at_ k.fn (RelO.none_of (by rw[←l];simp_all)) h
def Zhy (I:Inv X pins σ H s) (e:H a=some (.ins C dx fs)) (c:Cls X.K C) (n:NoAttr X.K C f) (J:fs.length<1000) (K:RelV y u)
  (h:∀ m,Inv X pins σ (upd H a (.ins C dx (ZdQ f y fs))) m->Q () m):Oe (Od X.prog X.w) A (setAttr (.ref a) f u) Q E s:=by
 obtain⟨F,O,r,l,_,B⟩:=Zda I.hok e;have x:(fs.map (·.1)).length<=sizeLine:=by rw[Qc,Oj];lia
 refine ZoN I.kIn O c.sa c.po n.taker c.hd l x fun G k p=>h _ (I.write (by exact e▸True.intro) (.inr B) (fun b q t z=>(p.2 b t).trans z) (let ⟨o,_,_,D,_⟩:=k.ns;⟨o,D⟩) ⟨by rw[Zj O.ne];omega,?_,O.ne,k.obj,_,k.ns,fun g=>?_,fun g v=>?_⟩);have:=Zbi f y fs;exact Ko J this;rw[Xm];by_cases q:g=f
 rw[if_pos q,if_pos q];trivial
 simp_all
 by_cases q:g=f
 exact q▸(Zbl f y fs).1;exact(Zbl f y fs).2 g (l g fun z=>v (by simp_all))
def Inv.made (I:Inv X pins σ H s):Inv X pins σ (upd (upd H s.heap.objs.size (.own (s.heap.objs.size+1))) (s.heap.objs.size+1) (.ins C s.heap.objs.size []))
  {s with heap:=(s.heap.push PySem.W.emptyDict).push (PySem.W.instObj C s.heap.objs.size)}:=by
 have h:(s.heap.push PySem.W.emptyDict).get? s.heap.objs.size=some PySem.W.emptyDict:=Qs s.heap rfl;have i:((s.heap.push PySem.W.emptyDict).push (PySem.W.instObj C s.heap.objs.size)).get? (s.heap.objs.size+1)=some (PySem.W.instObj C s.heap.objs.size):=by
  have:=Qs (s.heap.push PySem.W.emptyDict) (o:=PySem.W.instObj C s.heap.objs.size) rfl
  simp_all
 refine(I.laid (o:=.own (s.heap.objs.size+1)) (t':=s.toks) (fun b u q=>Qi _ q) (Ql _) ⟨_,h⟩).laid (fun b u q=>Qi _ q) (Nat.le_of_eq (WN _ _)) ?_;have f:s.heap.objs.size≠s.heap.objs.size+1:=QJ (UB _);refine⟨by rw[Zj f,Ze],QT _,f,i,_,(Heap.Ns1.of_empty (⟨_,#[],_,h,rfl,fun e j=>absurd j (by simp),fun _=>rfl⟩)).at fun o q=>Qi _ q,fun _=>True.intro,fun y k=>absurd rfl k⟩
def Zp9 (b:OD e f env (eval e env)=eval e env)
  (h:Oe (Od prog w) A (eval e env) (fun o a=>Oe (Od prog w) A (getAttr o f true) Q E a) E s):Oe (Od prog w) A (eval (.Attribute e f c) env) Q E s :=
 Attribute_any_ h (by rw[arm_eval_Attribute,b])
end
def Ztm (K:PySem.W.Frag) (ta:TE) (f:Str):TE:=fun σ H Q=>ta σ H fun x H1=>∃ a C dx fs v,x= .ref a/\H1 a=some (.ins C dx fs)/\Cls K C/\NoAttr K C f/\fs.lookup f=some v/\Q v H1
def Ztp (K:PySem.W.Frag) (ta tv:TE) (f:Str):TS:=fun D σ H=>tv σ H fun y H1=>ta σ H1 fun x H2=>∃ a C dx fs,x= .ref a/\H2 a=some (.ins C dx fs)/\Cls K C/\NoAttr K C f/\fs.length<1000 /\
 D.nx σ (upd H2 a (.ins C dx (ZdQ f y fs)))
section
variable {X:Cx} {o e value:Expr} {f:Str} {pos pos' tpos:Pos} {ta tv:TE}
def Jb (r:PE X e p) (d:OD e f X.env (eval e X.env)=eval e X.env):PE X (.Attribute e f pos) (Ztm X.K p f):=by
 intro b s σ H Q I h;refine Zp9 d (thn (r b s σ H _ I h) fun u z ⟨x,g,m,t,a,C,y,B,v,i,k,c,n,l,q⟩=>?_);subst i;obtain rfl:u=Value.ref a:=t;exact Zh8 m k c n l fun D A j o=>⟨v,g,j,o,q⟩
def ZnS (t:PE X o p) (G:PE X value j) (r:Gg value (some (.Attribute o f pos')) pos.line X.env=pure false):PS X (.Assign [.Attribute o f pos'] value pos) (Ztp X.K p j f):=by
 intro d s σ H D I h;refine plainObj_wpAny_Assign_Attribute (thn (G d s σ H _ I h) fun u J=>B6 fun y m E A q=>thn (t d J σ m _ E q) fun z M ⟨x,K,k,i,a,C,N,L,B,v,c,n,l,w⟩=>?_) r;subst B;obtain rfl:z=Value.ref a:=i;exact Zhy k v c n l A fun O F=>⟨σ,_,F,w⟩
end
section
variable {X:Cx} {pins:List (Addr×Obj)} {σ:St} {H:Hp} {s:Shared} {A:Around} {E:Value->Shared->Prop} {Q:Value->Shared->Prop} {c:Value} {b:Bool}
inductive Zhr (K:PySem.W.Frag) (H:Hp):V->Value->Prop where
 | non:Zhr K H .non (.type "NoneType")
 | bl (x:Bool):Zhr K H (.bl x) (.type "bool")
 | int (i:Int):Zhr K H (.int i) (.type "int")
 | str (x:Str):Zhr K H (.str x) (.type "str")
 | flt (x:UInt64):Zhr K H (.flt x) (.type "float")
 | lst {a:Addr} {xs:List V} (e:H a=some (.lst xs)):Zhr K H (.ref a) (.type "list")
 | frz {a:Addr} {o:Obj} {xs:List V} (e:H a=some (.frz o (.lst xs))):Zhr K H (.ref a) (.type "list")
 | tup {a:Addr} {xs:List V} (e:H a=some (.tup xs)):Zhr K H (.ref a) (.type "tuple")
 | dK {a:Addr} {kvs:List (Key×V)} (e:H a=some (.dK kvs)):Zhr K H (.ref a) (.type "dict")
 | dT {a:Addr} {kvs:List (List Key×V)} (e:H a=some (.dT kvs)):Zhr K H (.ref a) (.type "dict")
 | ins {a C dx:Addr} {fs:List (Str×V)} (e:H a=some (.ins C dx fs)) (cl:Cls K C) (ha:PySem.W.findIn K (.ref C) "__class__" = some (some (.builtin "object.__class__")))
   (hn:PySem.W.specialIn K (.builtin "object.__class__") "__get__" = some (some (.builtin "getset_descriptor.__get__"))) (htk:PySem.W.takesIn K (.builtin "object.__class__")=some true)
   (hm:PySem.W.mroIn K C (.type "object")=some true):Zhr K H (.ref a) (.ref C)
def ZkF (I:Inv X pins σ H s) (d:RelV x u) (v:Zhr X.K H x t) (e:PySem.W.kitOne X.K t c=some b) (h:∀ tk,Q (.bool b) {s with toks:=tk}) :
  Oe (Od X.prog X.w) A (call (.builtin "isinstance") [u,c]) Q E s:=by
 cases v with
 | non=>cases d;exact PySem.W.kia_one PySem.W.kitx_none I.kIn True.intro e (fun z=>nomatch z) h
 | bl y=>cases d;exact PySem.W.kia_one PySem.W.kitx_bool I.kIn True.intro e (fun z=>nomatch z) h
 | int i=>obtain⟨t,rfl⟩:=d;exact PySem.W.kia_one PySem.W.kitx_int I.kIn True.intro e (fun z=>nomatch z) h
 | str y=>obtain⟨t,rfl⟩:=d;exact PySem.W.kia_one PySem.W.kitx_str I.kIn True.intro e (fun z=>nomatch z) h
 | flt y=>obtain⟨t,rfl⟩:=d;exact PySem.W.kia_one PySem.W.kitx_float I.kIn True.intro e (fun z=>nomatch z) h
 | @lst a k f =>
  cases d;obtain⟨_,_,n,_,g⟩:=(I.hok a _ f)
  exact PySem.W.kia_one PySem.W.kitx_list I.kIn ⟨_,g,rfl⟩ e (fun z=>nomatch z) h
 | @frz a ob k f =>
  cases d;obtain⟨_,_,_,n,_,g⟩:=(I.hok a _ f)
  exact PySem.W.kia_one PySem.W.kitx_list I.kIn ⟨_,g,rfl⟩ e (fun z=>nomatch z) h
 | @tup a k f =>
  cases d;obtain⟨_,_,_,p,_⟩:=(I.hok a _ f)
  obtain⟨o,g,j,_⟩:=p;exact PySem.W.kia_one PySem.W.kitx_tuple I.kIn ⟨o,g,j⟩ e (fun z=>nomatch z) h
 | @dK a m f =>
  cases d;obtain⟨_,_,vs,_,p⟩:=(I.hok a _ f)
  obtain⟨o,F,ep,g,j,_⟩:=p;exact PySem.W.kia_one PySem.W.kitx_dict I.kIn ⟨o,g,j.1⟩ e (fun z=>nomatch z) h
 | @dT a m f =>
  cases d;obtain⟨_,_,k,_,o,F,ep,g,j,_⟩:=(I.hok a _ f)
  exact PySem.W.kia_one PySem.W.kitx_dict I.kIn ⟨o,g,j.1⟩ e (fun z=>nomatch z) h
 | @ins a C dx fs f q w hn l hm =>
  cases d;obtain⟨mA,O,_⟩:=Zda I.hok f;obtain⟨od,J,_⟩:=O.look;exact PySem.W.kia_one (PySem.W.kitx_own (q.get _) q.hd w hn l hm) I.kIn J e (fun z=>nomatch z) h
end
structure Room (k:Nat) (A:Around):Prop where
 hd:A.handled=none
 dp:A.depth+3*k+5<recursionLimit
 un:A.units+16*k+200<OW
def Room.mono (r:Room k A) (h:j<=k):Room j A:=⟨r.hd,by have:=r.dp;lia,by have:=r.un;lia⟩
def Room.deeper (r:Room (k+1) A) (env):Room k (A.deeper env) :=
 ⟨r.hd,by have:=r.dp;show A.depth+1+3*k+5<_;exact Mj this,by have:=r.un;show A.units+3+16*k+200<_;lia⟩
def Zh3 {A:Around}:(A.under (.builtin "type.__call__" ⟨.ref C::b,c⟩)).depth=A.depth+1:=by
 rfl
def Zh2 {A:Around}:(A.under (.builtin "type.__call__" ⟨.ref C::b,c⟩)).units=A.units+1:=by
 rfl
def Room.make (r:Room (k+1) A) (C) (a) (b):Room k (A.under (.builtin "type.__call__" ⟨.ref C::a,b⟩)) :=
 ⟨r.hd,by have:=r.dp;rw[Zh3];exact Mj this,by have:=r.un;rw[Zh2];lia⟩
def Room.depth (r:Room k A):A.depth<recursionLimit:=by have:=r.dp;lia
def Room.units (r:Room k A):A.units+64<OW:=by have:=r.un;lia
def ZrY:TA:=fun _ H Q=>Q [] H
def Zse (ta:TE) (tr:TA):TA:=fun σ H Q=>ta σ H fun x H1=>tr σ H1 fun xs H2=>Q (x::xs) H2
section
variable {X:Cx} {e:Expr} {es:List Expr} {te:TE} {t:TA} {pos:Pos}
def Zc:PA X [] ZrY:=fun _ _ _ _ H Q I h=>Calls.spliced_nil ⟨[],H,I,.nil,h⟩
def Za (j:PE X e te) (m:PA X es t) (i:Og (e::es) X.env=(false,eval e X.env)::Og es X.env:=by rfl):PA X (e::es) (Zse te t):=by
 intro b a s σ H Q I h;exact i▸Calls.spliced_cons (thn (j a s σ H _ I h) fun u k ⟨x,l,g,f,n⟩=>(thn (m b a k σ l _ g n) fun w r ⟨v,o,d,p,c⟩=>⟨_,o,d,.cons f p,c⟩))
def Zte (t:TA):TE:=fun σ H Q=>t σ H fun xs H1=>xs.length<=sizeLine/\∀ p,H1 p=none->Q (.ref p) (upd H1 p (.tup xs))
def Zti (t:TA):TE:=fun σ H Q=>t σ H fun xs H1=>xs.length<=sizeLine/\∀ p,H1 p=none->Q (.ref p) (upd H1 p (.lst xs))
def YW (h:PA X es t):PE X (.Tuple es k pos) (Zte t):=by
 intro a s σ H Q I f;refine wpAny_Tuple_spliced (thn (h pos a s σ H _ I f) fun i g ⟨j,l,d,r,z,q⟩=>⟨by rw[←r.length];exact z,⟨.ref g.heap.objs.size,_,d.laid (fun b u e=>Qi _ e) (Ql _) ?_,rfl,q _ (d.hok.fresh (Ql _))⟩⟩);exact⟨z,i,r,⟨_,Qs _ rfl,rfl,_,rfl⟩,ZaL rfl rfl⟩
def Z2 (h:PA X es t):PE X (.List es c) (Zti t):=by
 intro a s σ H Q I f;refine wpAny_List_spliced (thn (h c a s σ H _ I f) fun g i ⟨j,k,d,r,z,q⟩=>⟨by rw[←r.length];exact z,⟨.ref i.heap.objs.size,_,d.laid (fun b u e=>Qi _ e) (Ql _) ?_,rfl,q _ (d.hok.fresh (Ql _))⟩⟩);exact⟨z,g,0,r,Qs _ rfl⟩
end
abbrev Sp:=List V->Hp->VK->XK->Prop
abbrev CXT:=List Env->Hp->Shared->XK->Value->Shared->Prop
structure Env0 (P:Oc) (w:Of) (K:PySem.W.Frag) (mg:Str->Option Value) (base:Heap) (A:Around) (outer:List Env) (s:Shared) (H:Hp):Prop where
 frames:A.frames=some outer
 mod:Mod K mg base
 bs:∀ b o,base.get? b=some o->s.heap.get? b=some o/\H b=none
 bsz:base.objs.size<=s.heap.objs.size
 funs:s.heap.FunFrames base outer
 frf:∀ b∈frs outer,H b=none
 hok:HOk P w H s.heap
 bare:O3 s.gens
def CE (outer:List Env) (P:Oc) (w:Of) (H:Hp) (s:Shared) (Q:VK) (u:Value) (s':Shared):Prop :=
 ∃ v H',s'.os=s.os/\O3 s'.gens/\Un (frs outer) [] H H' s.heap s'.heap/\HOk P w H' s'.heap/\RelV v u/\Q v H'
def CR (CX:CXT) (outer:List Env) (P:Oc) (w:Of) (H:Hp) (s:Shared) (Q:VK) (E:XK) (r:Gz) (s':Shared):Prop :=
 match r with
 | .ok (.ret u)=>CE outer P w H s Q u s'
 | .ok _=>False
 | .error e=>CX outer H s E e s'
structure FnOk (P:Oc) (w:Of) (K:PySem.W.Frag) (mg:Str->Option Value) (base:Heap) (CX:CXT) (k:Nat) (f:Addr) (fd:O2) (ps:List Str) (sp:Sp):Prop where
 len:∀ vs H Q E,sp vs H Q E->vs.length=ps.length
 run:∀ (A:Around) (outer:List Env) (s:Shared) (H:Hp) (args:Args) (us:List Value) (vs:List V) (Q:VK) (E:XK),Room k A->Env0 P w K mg base A outer s H->Gr s fd args (ps.zip us)->Vals vs us->sp vs H Q E ->
  Oy (Od P w) A (.call (.ref f) args) (CR CX outer P w H s Q E) s
def FnOk.mono {K} (F:FnOk P w K c base CX j f i ps sp) (h:j<=k) :
  FnOk P w K c base CX k f i ps sp:=⟨F.len,fun A a s H b g d Q E e=>F.run A a s H b g d Q E (e.mono h)⟩
def Env0.make {K} (e:Env0 P w K b base A a s H) (C) (d) (c) :
  Env0 P w K b base (A.under (.builtin "type.__call__" ⟨.ref C::d,c⟩)) a s H:=⟨by first | lia | (simpa[Around.under,Code.envs,Code.isFrame,pushEnvs]using e.frames),e.mod,e.bs,e.bsz,e.funs,e.frf,e.hok,e.bare⟩
section
variable {X:Cx} {pins:List (Addr×Obj)} {σ:St} {H:Hp} {s s':Shared}
def Inv.env0 (I:Inv X pins σ H s):Env0 X.prog X.w X.K X.mg X.base X.A X.stack s H :=
 ⟨I.ok.frames,I.ok.mod,I.bs,QO I.ok.bsz I.sz,I.stack,I.stkFree,I.hok,I.bare⟩
def Inv.after (I:Inv X pins σ H s) (h:CE X.stack X.prog X.w H s Q u s'):EP X pins σ Q u s':=by
 obtain⟨v,k,os,c,j,e,r,q⟩:=h;obtain⟨l,g,d,t,f⟩:=s';obtain rfl:f=s.os:=os;exact⟨v,k,I.call j e c fun b z=>absurd z (by simp),r,q⟩
end
def ZoE (sp:Sp) (dvs:List V) (E:XK) (t:TA):TE:=fun σ H Q=>t σ H fun vs H1=>sp (vs++dvs) H1 Q E
def ZdE (C:Addr) (m:Str) (sp:Sp) (dvs:List V) (E:XK) (ta:TE) (t:TA):TE:=fun σ H Q=>ta σ H fun x H1=>∃ a dx fs,x= .ref a/\H1 a=some (.ins C dx fs)/\fs.lookup m=none /\
 t σ H1 fun vs H2=>sp (x::(vs++dvs)) H2 Q E
def Zqz (C:Addr) (sp:Sp) (dvs:List V) (E:XK) (t:TA):TE:=fun σ H Q=>t σ H fun vs H1=>∀ x dx,H1 x=none->H1 dx=none->dx≠x ->
 sp (.ref x::(vs++dvs)) (upd (upd H1 dx (.own x)) x (.ins C dx [])) (fun v H2=>v= .non/\Q (.ref x) H2) E
def Binds (K:PySem.W.Frag) (fd:O2) (ps:List Str) (ds:List Value):Prop :=
 ∀ (s:Shared) (us:List Value),K.In s.heap->(us++ds).length=ps.length->Gr s fd ⟨us,[]⟩ (ps.zip (us++ds))
def Binds.all {K} (h:∀ a,a.length=ps.length->O9 c ⟨a,[]⟩=pure (ps.zip a)):Binds K c ps []:=fun s a _ b=>by
 rw[Ua]at b ⊢;exact .of_eq (h a b)
def Jf (CX:CXT) (X:Cx) (E:XK):Prop:=∀ (pins:List (Addr×Obj)) (σ:St) (H:Hp) (s:Shared) (e:Value) (s':Shared),Inv X pins σ H s->CX X.stack H s E e s'->X.xe e s'
section
variable {X:Cx} {CX:CXT} {k:Nat} {f C:Addr} {fd:O2} {ps:List Str} {sp:Sp} {dvs:List V} {ds:List Value} {E:XK} {x m:Str} {p pos apos:Pos} {e o:Expr} {es:List Expr} {ta:TE} {t:TA}
def Zjx {σ:St} (F:FnOk X.prog X.w X.K X.mg X.base CX k f fd ps sp) (p:Room k X.A) (q:Binds X.K fd ps ds) (o:Vals dvs ds) (v:Jf CX X E)
  (I:Inv X a σ H s) (r:Vals vs c) (h:sp (vs++dvs) H Q E):Oe (Od X.prog X.w) X.A (call (.ref f) c) (EP X a σ Q) X.xe s:=by
 have i:=r.append o;have w:(c++ds).length=ps.length:=by exact i.length▸F.len _ _ _ _ h
 refine Gv (OK (F.run X.A X.stack s H _ _ _ Q E p I.env0 (q s c I.kIn w) i h) fun r y n=>?_);cases r with
 | error e=>exact v a σ H s e y I n
 | ok x =>
  cases x with
  | ret u=>exact I.after n
  | next=>assumption
  | brk=>assumption
  | cont=>assumption
def ZjT (F:FnOk X.prog X.w X.K X.mg X.base CX k f fd ps sp) (l:Room k X.A) (B:Gl X x) (v:X.mg x=some (.ref f)) (A:PySem.W.keepIn X.K (.ref f)=true) (w:Binds X.K fd ps ds) (n:Vals dvs ds) (u:Jf CX X E)
  (o:PA X (e::es) t) (g:(x==("__debug__"))=false:=by decide) (y:Og (e::es) X.env=(false,eval e X.env)::Og es X.env:=by rfl) (d:(Om pos (Og es X.env)).any (·.1)=false:=by rfl) :
  PE X (.Call (.Name x p) (e::es) [] pos) (ZoE sp dvs E t):=by
 intro a s σ H Q I h;exact Oz (Zah I B v (PySem.W.callWith_K I.ok.mod.kin A (thn (o pos a s σ H _ I h) fun C D ⟨G,J,i,r,q⟩=>⟨i.kIn,(Zjx F l w n u i r q)⟩) y d) g)
def ZjR {pl} (he:PE X o ta) (c:Cls X.K C) (v:Zqd X.K C m f) (F:FnOk X.prog X.w X.K X.mg X.base CX k f fd ps sp) (A:Room k X.A) (K:Binds X.K fd ps ds) (hd:Vals dvs ds) (hx:Jf CX X E) (B:PA X (e::es) t)
  (j:Og (e::es) X.env=(false,eval e X.env)::Og es X.env:=by rfl) (n:(Om pos (Og es X.env)).any (·.1)=false:=by rfl)
  (L:eval (.Call (.Attribute o m apos) (e::es) [] pos) X.env=(do
   let w ←eval o X.env
   O0 apos.atName
   let (f,i) ←OI [w] (OH w m pl)
   OV pos f i (Om pos (Og (e::es) X.env)) (OE pos (Ot [] X.env))):=by rfl) :
  PE X (.Call (.Attribute o m apos) (e::es) [] pos) (ZdE C m sp dvs E ta t):=by
 intro g s σ H Q I h;refine PySem.W.methodCall_KW (thn (he g s σ H _ I h) fun u M ⟨x,H1,z,D,a,dx,fs,ex,ea,l,q⟩=>?_) L;subst ex;obtain rfl:u=Value.ref a:=D;exact X4 z ea c v l (PySem.W.callWith_K I.ok.mod.kin v.kp (thn (B pos g M σ H1 _ z q) fun us s2 ⟨vs,H2,y,r,J⟩=>⟨y.kIn,(Zjx (vs:=.ref a::vs) F A K hd hx y (.cons rfl r) J)⟩) j n)
def ZgF (he:PE X o A) (c:Cls X.K C) (n:Zqd X.K C m f) (F:FnOk X.prog X.w X.K X.mg X.base CX k f fd ps sp) (y:Room k X.A) (v:Binds X.K fd ps ds) (hd:Vals dvs ds) (t:Jf CX X E)
  (z:eval (.Call (.Attribute o m apos) [] [] pos) X.env=(do
   let p ←eval o X.env
   O0 apos.atName
   let (f,e) ←OI [p] (OH p m pl)
   OV pos f e (Om pos (Og [] X.env)) (OE pos (Ot [] X.env))):=by rfl) :
  PE X (.Call (.Attribute o m apos) [] [] pos) (ZdE C m sp dvs E A ZrY):=by
 intro g s σ H Q I h;refine PySem.W.methodCall_KW (thn (he g s σ H _ I h) fun u s1 ⟨x,H1,j,rx,a,dx,fs,B,w,l,q⟩=>?_) z;subst B;obtain rfl:u=Value.ref a:=rx;exact X4 j w c n l (PySem.W.callWith_K0 j.kIn n.kp (Zjx (vs:=[.ref a]) F y v hd t j (.cons rfl .nil) q))
structure Mk (K:PySem.W.Frag) (C f:Addr):Prop where
 makes:PySem.W.makesIn K C=true
 init:PySem.W.findIn K (.ref C) "__init__" = some (some (.ref f))
 fn:PySem.W.isFn K (.ref f)=true
 kp:PySem.W.keepIn K (.ref C)=true
def Zl4 {σ:St} (M:Mk X.K C f) (F:FnOk X.prog X.w X.K X.mg X.base CX k f fd ps sp) (hr:Room (k+1) X.A) (t:Binds X.K fd ps ds) (q:Vals dvs ds)
  (B:Jf CX X E) (I:Inv X a σ H s) (r:Vals vs i)
  (h:∀ x d,H x=none->H d=none->d≠x->sp (.ref x::(vs++dvs)) (upd (upd H d (.own x)) x (.ins C d [])) (fun v H2=>v= .non/\Q (.ref x) H2) E) :
  Oe (Od X.prog X.w) X.A (call (.ref C) i) (EP X a σ Q) X.xe s:=by
 have l:=h _ s.heap.objs.size (I.hok.fresh (Uj _)) (I.hok.fresh (Ql _)) (QJ (UB _));have g:=Inv.made (C:=C) I;have n:Vals (V.ref (s.heap.objs.size+1)::(vs++dvs)) _:=.cons rfl (r.append q);have w:=by
  have e:=n.length;rw[F.len _ _ _ _ l]at e;exact e.symm
 refine Gv (ZmE I.kIn M.makes M.init (beq_iff_eq.mp M.fn) (OK (F.run _ X.stack _ _ _ _ _ _ E (hr.make C i [])
  (g.env0.make C i []) (t _ _ g.kIn w) n l) fun r G c=>?_))
 cases r with
 | error e=>exact B a σ _ _ e G g c
 | ok J =>
  cases J with
  | ret u =>
   refine Pd (g.after c) fun v y D A r0 K=>?_;subst r0;exact⟨A,⟨V.ref _,y,D,rfl,K⟩⟩
  | next=>assumption
  | brk=>assumption
  | cont=>assumption
def Zpc (M:Mk X.K C f) (F:FnOk X.prog X.w X.K X.mg X.base CX k f fd ps sp) (l:Room (k+1) X.A) (A:Gl X x) (v:X.mg x=some (.ref C)) (y:Binds X.K fd ps ds) (n:Vals dvs ds) (u:Jf CX X E)
  (o:PA X (e::es) t) (g:(x==("__debug__"))=false:=by decide) (w:Og (e::es) X.env=(false,eval e X.env)::Og es X.env:=by rfl) (d:(Om pos (Og es X.env)).any (·.1)=false:=by rfl) :
  PE X (.Call (.Name x p) (e::es) [] pos) (Zqz C sp dvs E t):=by
 intro a s σ H Q I h;exact Oz (Zah I A v (PySem.W.callWith_K I.ok.mod.kin M.kp (thn (o pos a s σ H _ I h) fun B D ⟨G,J,i,r,q⟩=>⟨i.kIn,(Zl4 M F l y n u i r q)⟩) w d) g)
end
section
variable {X:Cx} {CX:CXT} {k:Nat} {f C:Addr} {fd:O2} {ps ks:List Str} {sp:Sp} {E:XK} {x m:Str} {p pos apos kpos:Pos} {e o:Expr} {es:List Expr} {kws:List Gi} {te ta:TE} {t tk:TA} {nm:Option Str}
variable {g:List Value->List Value->List Value} {gV:List V->List V->List V}
end
structure Zm (N P:List Str) (sc:Scope):Prop where
 kind:sc.kind= .function
 co:sc.isCoroutine=false
 gen:sc.isGenerator=false
 nd:N.Nodup
 pre:N.take P.length=P
 par:∀ x∈P,sc.names.lookup x=some .local\/sc.names.lookup x=some .cell
 nofree:∀ y∈sc.names,y.2≠.free
def ZeU {kindOf}:∀ {a} {m},(∀ v,(x,v)∉a)->GB kindOf a m x=m x
 | [],_,_=>rfl
 | (n,v)::r,m,h=>by
  unfold GB;rw[ZeU fun w b=>h w (Qg _ b)];split
  have:x≠n:=by rintro rfl;exact h v Qd
  simp[this];rfl
def ZeW {kindOf}:∀ {a} {m},(∀ v,(x,v)∉a)->GC kindOf a m x=m x
 | [],_,_=>rfl
 | (n,v)::r,m,h=>by
  unfold GC;rw[ZeW fun w b=>h w (Qg _ b)];split
  rfl;have:x≠n:=by rintro rfl;exact h v Qd
  simp[this]
def ZeV {kindOf} {x} {v}:∀ {P:List Str} {vs} {i:Nat} {m},P.Nodup->P[i]?=some x->vs[i]?=some v->kindOf x=some .local ->
  GB kindOf (P.zip vs) m x=some v
 | [],_,_,_,_,h,_,_=>by simp at h
 | _::_,[],_,_,_,_,h,_=>by simp at h
 | p::P,w::vs,0,m,c,b,a,d=>by
  simp at b a;subst b;subst a;show GB kindOf ((p,w)::P.zip vs) m p=_;unfold GB;rw[ZeU fun v e=>(QX.mp c).1 (Rx e).1,if_pos d];simp
 | p::P,w::vs,i+1,m,c,b,a,d=>by
  unfold GB;exact ZeV (i:=i) (QX.mp c).2 (by simp_all) (by simp_all) d
def ZeX {kindOf} {x} {v}:∀ {P:List Str} {vs} {i:Nat} {m},P.Nodup->P[i]?=some x->vs[i]?=some v->kindOf x≠some .local ->
  GC kindOf (P.zip vs) m x=some v
 | [],_,_,_,_,h,_,_=>by simp at h
 | _::_,[],_,_,_,_,h,_=>by simp at h
 | p::P,w::vs,0,m,c,b,a,d=>by
  simp at b a;subst b;subst a;show GC kindOf ((p,w)::P.zip vs) m p=_;unfold GC;rw[ZeW fun v e=>(QX.mp c).1 (Rx e).1,if_neg d];simp
 | p::P,w::vs,i+1,m,c,b,a,d=>by
  unfold GC;exact ZeX (i:=i) (QX.mp c).2 (by simp_all) (by simp_all) d
noncomputable def start (N:List Str) (vs:List V):St:=vs.map some++QR (N.length-vs.length) none
noncomputable def ZeL (CX:CXT) (P:Oc) (w:Of) (K:PySem.W.Frag) (mg:Str->Option Value) (base:Heap) (N:List Str) (qual:Str) (scope:Scope) (f:Addr) (cd:Value) (A:Around) (outer:List Env) (s:Shared) (H:Hp) (E:XK):Cx where
 prog:=P
 w:=w
 K:=K
 mg:=mg
 base:=base
 A:=A.deeper (OT qual scope s.heap.objs.size f cd)
 N:=N
 s₀:=s
 H₀:=H
 env:=OT qual scope s.heap.objs.size f cd
 outer:=outer
 stack:=OT qual scope s.heap.objs.size f cd::outer
 ex:=[]
 calm:=true
 fn:=fun _=>true
 pn:=[]
 xe:=fun e s'=>Oe (Od P w) (A.deeper (OT qual scope s.heap.objs.size f cd)) (leaving (OT qual scope s.heap.objs.size f cd) e) (fun _ s''=>CX outer H s E e s'') (fun e' s''=>CX outer H s E e' s'') s'
def Zhl {a:Scope} (h:a.names.lookup x=some .cell):∃ c,(cellsFrom n a.names []).lookup x=some c:=by
 exact UM.mp (PySem.W.cellsFrom_some a.names n [] (.inl h))
def ZkG {K}
  (S:Zm N ps a) (R:A.handled=none) (j:Env0 P w K J base A g s H) (T:vs.length=ps.length) (r:Vals vs G)
  (x:InCallC s s.heap.objs.size (GB (OT d a s.heap.objs.size f B).kindOf (ps.zip G) fun _=>none) (cellsFrom (s.heap.objs.size+1) a.names []) (GC (OT d a s.heap.objs.size f B).kindOf (ps.zip G) fun _=>none) L) :
  Inv (ZeL CX P w K J base N d a f B A g s H E) [] (start N vs) H L:=by
 have Q:ps.length<=N.length:=by have:=congrArg RE S.pre;rw[QH]at this;lia
 obtain⟨D,U,rfl,F⟩:=x.done;have m:∀ b:Addr,b∉(ZeL CX P w K J base N d a f B A g s H E).ex:=fun b z=>absurd (show b∈([]:List Addr)from z) (by simp);refine⟨⟨j.mod,S.kind,rfl,rfl,Ql _,fun y z c D n=>?_,fun y l=>?_,fun y c _ h=>?_,fun _=>R,Around.frames_deeper j.frames,.inr ⟨rfl,rfl⟩,fun b z=>absurd z (m b),j.bs,j.bsz,fun b _ _=>m b,fun b z=>absurd z (m b),j.funs,j.frf⟩,
  rfl,j.bare,Un.kept F,⟨_,x.toInCall.ns,fun i y v D n W=>?_⟩,fun y c h=>⟨_,x.cell y c h⟩,j.hok.fresh (Ql _),fun y c h=>?_,fun p o=>absurd (show p∈([]:List (Addr×Obj))from o) (by simp),j.hok.kept F,?_⟩
 exact name_of_addr x.apart (PySem.mem_of_lookup D) (PySem.mem_of_lookup n)
 have l:=l;rcases l with l | l
 exact Zhl l
 exact absurd rfl (S.nofree _ (PySem.mem_of_lookup l))
 exact Rn (x.above y c (PySem.mem_of_lookup h))
 have C:i<vs.length:=by
  unfold start at n;by_cases C:i<vs.length
  exact C
  rw[QY (by simpa using C),WR]at n
  simp_all
 have O:vs[i]?=some v:=by
  unfold start at n;rw[QS (by simpa using C),Qh]at n
  simp_all
 obtain⟨u,I,M⟩:=r.get O;have o:ps[i]?=some y:=by
  rw[←S.pre,UN (V6 T C)];trivial
 have t:ps.Nodup:=by exact S.pre▸S.nd.sublist (R7 _ _)
 refine⟨u,M,?_⟩;rcases S.par y (Ww o)with k | k
 exact .inl ⟨k,ZeV t o I k⟩
 obtain⟨c,e⟩:=Zhl (n:=s.heap.objs.size+1) k;refine .inr ⟨.inl k,c,e,?_⟩;have q:=x.cell y c e;rw[ZeX t o I (by show a.names.lookup y≠_;rw[k];decide)]at q;omega
 exact j.hok.fresh (Rn (x.above y c (PySem.mem_of_lookup h)))
 unfold start;show _=N.length;rw[Qm,Qc,Uu];lia
def ZpY {K} {Y kV G pm g ct oc}
  (lk:K.lookup f=some ⟨oc,od,.func (PySem.W.fnOf name d h j a Y kV G pm an g ct),osl⟩) (R:PySem.W.codeIn K g d=true) (S:Zm N ps a)
  (F:∀ vs H Q E,sp vs H Q E->vs.length=ps.length)
  (m:∀ (A) (c) (s) (H) (vs) (Q) (E),Room k (A.deeper (OT d a s.heap.objs.size f g))->sp vs H Q E ->
   ∃ t,PSs (ZeL CX P w K U base N d a f g A c s H E) j t/\t {nx:=fun _ l=>Q .non l,rt:=Q} (start N vs) H) :
  FnOk P w K U base CX (k+1) f (PySem.W.fnOf name d h j a Y kV G pm an g ct) ps sp:=by
 refine⟨F,fun A c s H args us vs Q E O B hb r D=>?_⟩;have X:=B.mod.kin.keeps fun b o e=>(B.bs b o e).1;have p:∀ y∈ps.zip us,a.names.lookup y.1=some _\/(a.names.lookup y.1=some _/\((cellsFrom (s.heap.objs.size+1) a.names []).lookup y.1).isSome=true):=fun⟨n,v⟩ hy=>by
  rcases S.par n (Rx hy).1 with q | q
  exact .inl q;exact .inr ⟨q,PySem.W.cellsFrom_some _ _ _ (.inl q)⟩
 refine codeAny_call_function O.depth (X _ _ lk) rfl S.co S.gen rfl (PySem.W.codeRec_of X R) (hb _ _ _ _ (wpAny_newFunctionEnv_cells S.kind p fun env he Z x=>?_));subst he;refine⟨(B.mod.nolimit.keeps fun b o e=>(B.bs b o e).1).keeps x.toInCall.keep,codeAny_func ?_⟩;refine Pe (m A c s H vs Q E (O.deeper _) D) fun t ht hq=>?_;have I:Inv (ZeL CX P w K U base N d a f g A c s H E) [] _ H Z:=ZkG S O.hd B (F _ _ _ _ D) r x;refine Ol (ht [] Z _ H _ I hq) (fun fl M z=>?_) fun e M z=>z;have C:∀ {i:St} {l:Hp} {v:V} {u:Value},Inv (ZeL CX P w K U base N d a f g A c s H E) [] i l M->RelV v u->Q v l->CE c P w H s Q u M :=
  fun {i l v u} J W q=>⟨v,l,J.os,J.bare,J.base,J.hok,W,q⟩
 cases fl with
 | ret u =>
  obtain⟨v,i,l,J,W,q⟩:=z;exact C J W q
 | next =>
  obtain⟨i,l,J,q⟩:=z;exact C (v:=V.non) J rfl q
 | brk =>
  obtain⟨_,_,_,q⟩:=z;exact False.elim q
 | cont =>
  obtain⟨_,_,_,q⟩:=z;exact False.elim q
section
variable {X:Cx} {x:Str} {p pos:Pos} {e:Expr} {es:List Expr} {t:TA} {id T:String} {r:List V->Hp->VK->Prop}
def tCB (r:List V->Hp->VK->Prop) (t:TA):TE:=fun σ H Q=>t σ H fun vs H1=>r vs H1 Q
def Zi (k:CallR X (.builtin id) r) (z:Gl X x) (n:X.mg x=none) (o:Oi x=some (.builtin id)) (m:PA X (e::es) t) (q:x≠"__name__":=by decide) (d:(x==("__debug__"))=false:=by decide)
  (y:Og (e::es) X.env=(false,eval e X.env)::Og es X.env:=by rfl) (c:(Om pos (Og es X.env)).any (·.1)=false:=by rfl):PE X (.Call (.Name x p) (e::es) [] pos) (tCB r t):=by
 intro a s σ H Q I h;exact Oz (JM I z n o (PyProof.Rows.callWith_builtin1 (thn (m pos a s σ H _ I h) fun l f ⟨w,i,v,u,j⟩=>k a f σ i w l Q v u j) y c) q d)
def ZB (k:CallR X (.type T) r) (z:Gl X x) (n:X.mg x=none) (o:Oi x=some (.type T)) (m:PA X (e::es) t) (q:x≠"__name__":=by decide) (d:(x==("__debug__"))=false:=by decide)
  (y:Og (e::es) X.env=(false,eval e X.env)::Og es X.env:=by rfl) (c:(Om pos (Og es X.env)).any (·.1)=false:=by rfl):PE X (.Call (.Name x p) (e::es) [] pos) (tCB r t):=by
 intro a s σ H Q I h;exact Oz (JM I z n o (PyProof.Rows.callWith_type1 (thn (m pos a s σ H _ I h) fun l f ⟨w,i,v,u,j⟩=>k a f σ i w l Q v u j) y c) q d)
end
section
variable {κ:Type} [DecidableEq κ]
noncomputable def XR (kvs:List (κ×V)) (k:κ):Option V:=(kvs.find? fun kv=>decide (kv.1=k)).map (·.2)
noncomputable def JH (kvs:List (κ×V)) (k:κ) (v:V):List (κ×V) :=
 if (kvs.any fun kv=>decide (kv.1=k))=true then kvs.map (fun kv=>if kv.1=k then (kv.1,v)else kv)else kvs++[(k,v)]
noncomputable def ZeE (kvs:List (κ×V)) (k:κ):List (κ×V):=kvs.filter fun kv=>decide (kv.1≠k)
def ZaB {k:κ} (e:p.1=k):XR (p::r) k=some p.2:=by simp[XR,Um,e]
def ZaC {k:κ} (e:¬ p.1=k):XR (p::r) k=XR r k:=by simp[XR,Um,e]
def ZaD (k:κ):∀ kvs,(kvs.any fun b=>decide (b.1=k))=(XR kvs k).isSome
 | []=>rfl
 | p::r=>by
  rw[Ul];by_cases e:p.1=k
  simp[ZaB e,decide_eq_true e,Bool.true_or,R0];rw[ZaC e,decide_eq_false e];exact ZaD k r
def Xn (kvs) (k:κ) (v):(JH kvs k v).length<=kvs.length+1:=by
 unfold JH;split
 simp;simp
def ZaK {k:κ} (v) (h:XR kvs k=none):JH kvs k v=kvs++[(k,v)]:=by
 unfold JH;rw[ZaD,h];simp
def RelO.isSome_eq (r:RelO o u):o.isSome=u.isSome:=by
 cases o with
 | none=>cases u with
  | none=>rfl
  | some _=>exact r.elim
 | some _=>cases u with
  | none=>exact r.elim
  | some _=>rfl
def RelO.getD (r:RelO o u) (a:RelV d d'):RelV (o.getD d) (u.getD d'):=by
 cases o with
 | none=>cases u with
  | none=>grind
  | some _=>exact r.elim
 | some _=>cases u with
  | none=>exact r.elim
  | some _=>exact r
def KV.val (r:KV kvs vs) (k:κ):RelO (XR kvs k) (Gs vs k):=by
 induction r with
 | nil=>exact True.intro
 | @cons p q j a h t i =>
  obtain⟨d,_⟩:=h;by_cases e:p.1=k
  have c:=d.symm.trans e;have b:Gs (q::a) k=some q.2:=by simp[Gs,Um,c]
  rw[ZaB e,b];trivial;have c:¬ q.1=k:=fun z=>e (d.trans z);have b:Gs (q::a) k=Gs a k:=by simp[Gs,Um,c]
  rw[ZaC e,b];omega
def KV.any (r:KV kvs vs) (k:κ):(kvs.any fun a=>decide (a.1=k))=vs.any fun a=>decide (a.1=k):=by
 induction r with
 | nil=>rfl
 | cons h t c=>rw[Ul,Ul,c,h.1]
def KV.repl (r:KV kvs vs) (k:κ) (f:RelV y u) :
  KV (kvs.map fun a=>if a.1=k then (a.1,y)else a) (vs.map fun a=>if a.1=k then (a.1,u)else a):=by
 induction r with
 | nil=>exact .nil
 | @cons p q g i h t c =>
  refine .cons ?_ c;by_cases e:p.1=k
  simp_all
  simp_all
def KV.put (r:KV kvs vs) (k:κ) (a:RelV y u):KV (JH kvs k y) (stored vs k u):=by
 unfold JH stored;rw[r.any k];by_cases e:(vs.any fun b=>decide (b.1=k))=true
 rw[if_pos e,if_pos e];exact r.repl k a;rw[if_neg e,if_neg e];exact Paired.snoc r ⟨rfl,a⟩
def KV.drop (r:KV kvs vs) (k:κ):KV (ZeE kvs k) (without vs k):=by
 unfold ZeE without;induction r with
 | nil=>exact .nil
 | @cons p q l m h t i =>
  obtain⟨c,g⟩:=h;rw[WL,WL];by_cases e:p.1=k
  have a:¬ decide (p.1≠k)=true:=by simp[e]
  have b:¬ decide (q.1≠k)=true:=by simp[c.symm.trans e]
  rw[if_neg a,if_neg b];omega;have f:¬ q.1=k:=fun z=>e (c.trans z);have a:decide (p.1≠k)=true:=by simp[e]
  have b:decide (q.1≠k)=true:=by simp[f]
  rw[if_pos a,if_pos b];exact .cons ⟨c,g⟩ i
def KV.keys {kvs:List (κ×V)} (r:KV kvs vs):kvs.map (·.1)=vs.map (·.1):=by
 induction r with
 | nil=>rfl
 | cons h t c=>rw[Qp,Qp,c,h.1]
def KV.length {kvs:List (κ×V)} (r:KV kvs vs):kvs.length=vs.length:=Paired.length r
def Zhc (kvs) (k:κ):(ZeE kvs k).length<=kvs.length:=Q7 _ _
end
def ZbM (r:RelV (kV k) u):(ZA P w).is k u=true:=by
 cases k with
 | inl i=>obtain⟨t,rfl⟩:=r;exact ZfS P w i t
 | inr x=>obtain⟨t,rfl⟩:=r;exact Jo P w x t
def Zeu:∀ {ks} {b},Vals (ks.map kV) b->ItemsAre (ZA P w) ks b
 | [],_,r=>by cases r;exact .nil
 | k::ks,_,r=>by
  cases r with
  | cons h t=>exact .cons (ZbM h) (Zeu t)
abbrev KT (H:Hp):List (List Key×V)->List (List Key×Addr×Value)->Prop:=Paired fun p q=>p.1=q.1/\H q.2.1=some (.tup (p.1.map kV))/\RelV p.2 q.2.2
def KT.val (r:KT H kvs xs) (k):RelO (XR kvs k) ((Gw xs k).map (·.2)):=by
 induction r with
 | nil=>exact True.intro
 | @cons p q j a h t m =>
  obtain⟨d,_,l⟩:=h;by_cases e:p.1=k
  have c:=d.symm.trans e;have b:Gw (q::a) k=some q.2:=by simp[Gw,Um,c]
  rw[ZaB e,b];trivial;have c:¬ q.1=k:=fun z=>e (d.trans z);have b:Gw (q::a) k=Gw a k:=by simp[Gw,Um,c]
  rw[ZaC e,b];omega
def KT.repl (r:KT H kvs xs) (k) (f:RelV y u) :
  KT H (kvs.map fun a=>if a.1=k then (a.1,y)else a) (xs.map (putAt k u)):=by
 induction r with
 | nil=>exact .nil
 | @cons p q g i h t c =>
  refine .cons ?_ c;unfold putAt;by_cases e:p.1=k
  simp_all
  simp_all
def KT.put (r:KT H kvs xs) (k) (g:H b=some (.tup (k.map kV))) (d:RelV y u) :
  KT H (JH kvs k y) (storedH xs k b u):=by
 have e:(kvs.any fun f=>decide (f.1=k))=(Gw xs k).isSome:=by
  rw[ZaD,(r.val k).isSome_eq,R8]
 unfold JH storedH;rw[e];by_cases q:(Gw xs k).isSome=true
 rw[if_pos q,if_pos q];exact r.repl k d;rw[if_neg q,if_neg q];exact Paired.snoc r ⟨rfl,g,d⟩
def KT.keeps (r:KT H kvs xs) (c:∀ b ys,H b=some (.tup ys)->a b=some (.tup ys)):KT a kvs xs :=
 Paired.mapP r fun _ _ z=>⟨z.1,c _ _ z.2.1,z.2.2⟩
section
variable {P:Oc} {w:Of} {H:Hp} {h:Heap} {a:Addr}
def ZqT (b:HOk P w H h) (e:Rd H a u):ObjOk P w H h a u:=e.ok b
def ZeG (b:HOk P w H h) (e:Rd H a (.dK kvs)):kvs.length<=sizeLine/\(a==Ov)=false/\∃ vs,KV kvs vs/\h.DictOf (ZA P w) a vs :=
 ZqT b e
def Zbv (b:HOk P w H h) (e:H a=some (.dK kvs)):kvs.length<=sizeLine/\(a==Ov)=false/\∃ vs,KV kvs vs/\h.DictOf (ZA P w) a vs:=ZeG b (.inl e)
def Zb8 (g:HOk P w H h) (e:H a=some (.tup (ks.map kV))):(Gm (ZA P w)).is h ks a:=by
 obtain⟨_,d,r,⟨o,b,f,n,c⟩,_⟩:=(g a _ e)
 exact⟨o,_,n,b,f,c,by simpa using Zeu r⟩
def ZfZ (d:HOk P w H h) (e:Rd H a (.dT kvs)):kvs.length<=sizeLine/\(a==Ov)=false /\
  ∃ xs,KT H kvs xs/\h.DictOfH (Gm (ZA P w)) a xs:=by
 obtain⟨z,y,xs,r,o,i,n,s,v,A,g,k⟩:=(ZqT d e)
 refine⟨z,y,xs,r,Lb o i n ⟨s,v,A,g,fun x b=>?_,k⟩⟩;have c:∀ {l:List _} {m:List _},KT H l m->∀ x∈m,(Gm (ZA P w)).is h x.1 x.2.1:=by
  intro l m q;induction q with
  | nil=>simp
  | @cons p q D B E t j =>
   intro x b;rcases Qx.mp b with e | b
   exact Zb8 d (by simp_all);exact j x b
 exact c r x b
def ZsJ (b:HOk P w H h) (e:H a=some (.dT kvs)):kvs.length<=sizeLine/\(a==Ov)=false /\
  ∃ xs,KT H kvs xs/\h.DictOfH (Gm (ZA P w)) a xs:=ZfZ b (.inl e)
end
def DGet (H:Hp) (a:Addr) (y:V) (r:Option V):Prop :=
 (∃ kvs k,Rd H a (.dK kvs)/\y=kV k/\r=XR kvs k)\/∃ kvs k b,Rd H a (.dT kvs)/\y= .ref b/\H b=some (.tup (k.map kV))/\r=XR kvs k
def DPut (H:Hp) (a:Addr) (y v:V) (H':Hp):Prop :=
 (∃ kvs k,H a=some (.dK kvs)/\y=kV k/\kvs.length<sizeLine/\H'=upd H a (.dK (JH kvs k v))) \/
 ∃ kvs k b,H a=some (.dT kvs)/\y= .ref b/\H b=some (.tup (k.map kV))/\kvs.length<sizeLine/\H'=upd H a (.dT (JH kvs k v))
def DGet.kk {k} (e:H a=some (.dK kvs)):DGet H a (kV k) (XR kvs k):=.inl ⟨kvs,k,.inl e,rfl,rfl⟩
def DPut.kk {k} (e:H a=some (.dK kvs)) (b:kvs.length<sizeLine):DPut H a (kV k) v (upd H a (.dK (JH kvs k v))):=.inl ⟨kvs,k,e,rfl,b,rfl⟩
section
variable {X:Cx} {pins:List (Addr×Obj)} {σ:St} {H:Hp} {s:Shared} {a:Addr} {y v:V} {u r:Value} {o:Option V} {A:Around} {E:Value->Shared->Prop}
def Inv.big (I:Inv X pins σ H s):Ov<s.heap.objs.size:=by
 exact Nat.lt_trans (by decide) ((I.mod.glob.keeps I.bk).lt)
def Zla (x:A.units+1<OW) (I:Inv X pins σ H s) (g:DGet H a y (some v)) (r:RelV y u) (h:∀ f t,Inv X pins σ H t->RelV v f->Q f t) :
  Oe (Od X.prog X.w) A (Gh (.ref a) u) Q E s:=by
 rcases g with ⟨n,k,e,m,l⟩ | ⟨n,k,b,e,m,B,l⟩
 subst m;obtain⟨z,w,D,c,q⟩:=ZeG I.hok e;obtain⟨f,o,d⟩:=RelO.some_of (by exact l▸c.val k);exact wpAny_getItem_of (ZbM r) q.mapOf o (h f _ (I.tok _) d);subst m;cases r;obtain⟨z,w,F,c,q⟩:=ZfZ I.hok e;obtain⟨f,o,d⟩:=RelO.some_of (by exact l▸c.val k);obtain⟨p,C,j⟩:=RF.mp o;exact wpAny_getItem_heap (OO x) (Zb8 I.hok B) q C (j▸h f _ (I.tok _) d)
def Zp5 (v:A.units+1<OW) (I:Inv X pins σ H s) (g:DGet H a y o) (p:RelV y u) (h:∀ r,Inv X pins σ H r->Q (.bool (!o.isSome)) r) :
  Oe (Od X.prog X.w) A (On .NotIn u (.ref a)) Q E s:=by
 rcases g with ⟨n,k,e,i,l⟩ | ⟨n,k,b,e,i,t,l⟩
 subst i;obtain⟨z,j,x,d,m⟩:=ZeG I.hok e;refine wpAny_notIn_of (ZbM p) j m.mapOf ?_;rw[←(d.val k).isSome_eq,←l];exact h _ (I.tok _);subst i;cases p;obtain⟨z,j,w,d,m⟩:=ZfZ I.hok e;refine wpAny_notIn_heap (OO v) (Zb8 I.hok t) j m ?_;have q:=(d.val k).isSome_eq;rw[R8]at q;rw[←q,←l];exact h _ (I.tok _)
def Zam (I:Inv X pins σ H s) (i:Mut (H a)) (f:Heap.SameBut a s.heap h') (h:∃ q,h'.get? a=some q) (d:ObjOk X.prog X.w (upd H a e) h' a e) :
  Inv X pins σ (upd H a e) {s with heap:=h',toks:=t'} :=
 I.write i (.inl rfl) (fun b q g z=>(f.2 b g).trans z) h d
def ZeH (z:kvs.length<=sizeLine) (c:(a==Ov)=false) (b:KV kvs vs) (dd:h'.DictOf (ZA P w) a vs) :
  ObjOk P w d h' a (.dK kvs):=⟨z,c,vs,b,dd⟩
def Zk9 (hu:A.units+1<OW) (I:Inv X pins σ H s) (g:DPut H a y v H') (ry:RelV y u) (rv:RelV v r) (h:∀ s',Inv X pins σ H' s'->Q () s') :
  Oe (Od X.prog X.w) A (GF (.ref a) u r) Q E s:=by
 rcases g with ⟨d,k,e,ey,l,eH⟩ | ⟨d,k,b,e,ey,eb,l,eH⟩
 subst ey eH;obtain⟨z,o,vs,f,dd⟩:=Zbv I.hok e;have hz:vs.length<=sizeLine:=by rw[←f.length];exact Kn l
 have hl:(JH d k v).length<=sizeLine:=by have:=Xn d k v;exact Ko l this
 refine wpAny_setItem_pairs (ZbM ry) dd fun h' i hs=>h _ ?_;have he:∃ q,h'.get? a=some q:=let ⟨q,_,_,n,_⟩:=i;⟨q,n⟩;exact Zam I (by exact e▸True.intro) hs he (ZeH hl o (f.put k rv) i)
 subst ey eH;cases (ry);obtain⟨z,o,xs,f,dd⟩:=ZsJ I.hok e;have hz:xs.length<=sizeLine:=by rw[←Paired.length f];exact Kn l
 have hl:(JH d k v).length<=sizeLine:=by have:=Xn d k v;exact Ko l this
 refine wpAny_setItem_heap (OO hu) (Zb8 I.hok eb) dd fun h' i hs=>h _ ?_;obtain⟨q,es,ep,n,h2,h3,h4,_,h5⟩:=i;refine Zam I (by exact e▸True.intro) hs ⟨q,n⟩ ⟨hl,o,_,(f.put k eb rv).keeps fun c ys ec=>?_,q,es,ep,n,h2,h3,h4,h5⟩;rw[Zj (Zmq ec e fun z=>nomatch z)];omega
end
section
variable {X:Cx} {pins:List (Addr×Obj)} {σ:St} {H:Hp} {s:Shared} {a:Addr} {kvs:List (Key×V)} {k:Key} {u:Value} {A:Around} {E:Value->Shared->Prop}
def ZsK (I:Inv X pins σ H s) (e:H a=some (.dK kvs)) (m:RelV (kV k) u) (l:XR kvs k=some v) (o:b=[]\/∃ x,b=[x])
  (h:∀ g r,Inv X pins σ (upd H a (.dK (ZeE kvs k))) r->RelV v g->Q g r):Oe (Od X.prog X.w) A (call (.builtin "dict.pop") (.ref a::u::b)) Q E s:=by
 obtain⟨z,D,C,c,p⟩:=Zbv I.hok e;obtain⟨g,G,n⟩:=RelO.some_of (by exact l▸c.val k);have w:(keyPart u).isSome=true:=by
  cases k with
  | inl i=>obtain⟨t,rfl⟩:=m;rfl
  | inr x=>obtain⟨t,rfl⟩:=m;rfl
 have F:argsOk "dict.pop" ⟨.ref a::u::b,[]⟩:=by
  rcases o with q | ⟨x,q⟩
  subst q;exact PySem.F.args_dict_pop_2 _ _;subst q;exact PySem.F.args_dict_pop_3 _ _ _
 exact OA PySem.F.slot_dict_pop p.typeIs PySem.F.entry_dict_pop F (meets_dict_pop_there _ a (ZbM m) b o w)
  ⟨C,g,p,by rw[←c.length];exact z,G,fun J d B=>h g _ (Zam I (by exact e▸True.intro) B (let ⟨q,_,_,y,_⟩:=d;⟨q,y⟩) (ZeH (QO (Zhc kvs k) z) D (c.drop k) d)) n⟩
def ZrI (I:Inv X pins σ H s) (e:Rd H a (.dK kvs)) (h:∀ t d,Inv X pins σ H d->Q (.int kvs.length t) d):Oe (Od X.prog X.w) A (call (.builtin "len") [.ref a]) Q E s:=by
 obtain⟨z,g,i,c,f⟩:=ZeG I.hok e;exact call_len_dict g f (by rw[←c.length];rw[Oj]at z;lia) (c.length▸h _ _ (I.tok _))
end
def Ztc (i:Expr):Prop:=∀ ov iv,Go i false ov iv=operate [ov,iv] (Gh ov iv)
def ZoG {T id}
  (l:typeLookup (.type T) "__getitem__" = pure (some (.builtin id))) (m:Ztc a)
  (h:Oe (Od prog w) A (eval c env) (fun o e=>Oe (Od prog w) A (eval a env) (fun i b=>b.TypeIs o T/\Oe (Od prog w) A (Gh o i) Q E b) E e) E s) :
  Oe (Od prog w) A (eval (.Subscript c a p) env) Q E s:=by
 refine Gx (Ol h (fun o e j=>Ol j (fun i b d=>?_) fun _ _ x=>x) fun _ _ x=>x);obtain⟨n,d⟩:=d;refine Oa (Oa (Gc n l ?_));have k:Oe (Od prog w) A (Go a false o i) (fun r f=>Oe (Od prog w) A (letTemporaryGo c o r >>= fun _=>pure r) Q E f) E b:=by
  exact m o i▸wpAny_operating (Ol d (fun r f g=>Oa (wpAny_letTemporaryGo (Ob g))) fun _ _ x=>x)
 first
  | exact Ob (Oa k)
  | lia
  | lia
def Zf0 {σ:St} (I:Inv X f σ H s) (g:DGet H a y o):s.TypeIs (.ref a) "dict":=by
 rcases g with ⟨c,k,e,_,_⟩ | ⟨c,k,b,e,_,_,_⟩
 obtain⟨_,_,h,_,d⟩:=ZeG I.hok e;exact d.typeIs;obtain⟨_,_,i,_,d⟩:=ZfZ I.hok e;exact d.typeIs
def Zsd (td ty:TE):TE:=fun σ H Q=>td σ H fun x H1=>ty σ H1 fun y H2=>∃ a v,x= .ref a/\DGet H2 a y (some v)/\Q v H2
def ZoD (ty td:TE):TE:=fun σ H Q=>ty σ H fun y H1=>td σ H1 fun x H2=>∃ a o,x= .ref a/\DGet H2 a y o/\Q (.bl (!o.isSome)) H2
def Zsk (td ty tv:TE):TS:=fun D σ H=>tv σ H fun v H1=>td σ H1 fun x H2=>ty σ H2 fun y H3=>∃ a H4,x= .ref a/\DPut H3 a y v H4/\D.nx σ H4
section
variable {X:Cx} {o i e value:Expr} {pos pos' tpos:Pos} {td ty tv:TE}
def Zfw (B:X.A.units+1<OW) (l:PE X o td) (hi:PE X i A) (p:Ztc i):PE X (.Subscript o i pos) (Zsd td A):=by
 intro b s σ H Q I h;refine ZoG PySem.F.slot_dict_getitem.lookup p (thn (l b s σ H _ I h) fun u C=>B6 fun x m w q n=>thn (hi b C σ m _ w n) fun D E ⟨y,e,d,f,a,v,z,g,r⟩=>?_);subst z;obtain rfl:u=Value.ref a:=q;exact⟨Zf0 d g,Zla B d g f fun G F t c=>⟨v,e,t,c,r⟩⟩
def ZjU (t:X.A.units+1<OW) (hi:PE X i f) (p:PE X o td):PC X .NotIn i o (ZoD f td):=by
 intro b s σ H Q I h;refine thn (hi b s σ H _ I h) fun z w=>B6 fun y q m c j=>thn (p b w σ q _ m j) fun u A ⟨x,r,k,n,a,C,d,g,v⟩=>?_;subst d;obtain rfl:u=Value.ref a:=n;exact Zp5 t k g c fun B l=>⟨.bl _,r,l,rfl,v⟩
def XB (N:X.A.units+1<OW) (n:PE X o td) (hi:PE X i G) (j:PE X value l) (w:Gg value (some (.Subscript o i pos')) pos.line X.env=pure false) :
  PS X (.Assign [.Subscript o i pos'] value pos) (Zsk td G l):=by
 intro b s σ H D I h;refine wpAny_Assign_Subscript (thn (j b s σ H _ I h) fun r k=>B6 fun v p M t q=>thn (n b k σ p _ M q) fun u K=>B6 fun x f O A B=>thn (hi b K σ f _ O B) fun S Q ⟨y,R,C,E,a,L,F,g,J⟩=>?_) w;subst F;obtain rfl:u=Value.ref a:=A;exact Zk9 N C g E t fun P z=>⟨σ,L,z,J⟩
end
def Zhd (h:Heap) (a:Ov<h.objs.size):ObjOk P w H (h.push {cls:=.type "dict",data:=.dict #[]}) h.objs.size (.dK []) :=
 ⟨QT _,beq_eq_false_iff_ne.mpr (Ne.symm (QJ a)),[],.nil,Heap.DictOf.new h⟩
def ZqC:TE:=fun _ H Q=>∀ p,H p=none->Q (.ref p) (upd H p (.dK []))
section
variable {X:Cx} {pos:Pos}
def Xl:PE X (.Dict [] [] b) ZqC:=fun a s σ H Q I h =>
 wpAny_Dict_empty ⟨.ref s.heap.objs.size,_,I.laid (fun _ _ q=>Qi _ q) (Ql _) (Zhd s.heap I.big),rfl,h _ (I.hok.fresh (Ql _))⟩
end
def ZiC:List (TE×TE)->St->Hp->(List (V×V)->Hp->Prop)->Prop
 | [],_,H,Q=>Q [] H
 | (tk,tv)::r,σ,H,Q=>tk σ H fun x H1=>tv σ H1 fun y H2=>ZiC r σ H2 fun ps H3=>Q ((x,y)::ps) H3
abbrev VV:List (V×V)->List (Value×Value)->Prop:=Paired fun p q=>RelV p.1 q.1/\RelV p.2 q.2
def PPs (X:Cx) (pos:Pos) (keys:List (Option Expr)) (values:List Expr) (trs:List (TE×TE)):Prop :=
 ∀ (pins:List (Addr×Obj)) (s:Shared) (σ:St) (H:Hp) (Q:List (V×V)->Hp->Prop),Inv X pins σ H s->ZiC trs σ H Q ->
  Oe (Od X.prog X.w) X.A (evalPairs (pairTrees keys values X.env pos)) (fun vs s'=>∃ ps H',Inv X pins σ H' s'/\VV ps vs/\Q ps H') X.xe s
def Zo8:PPs X b [] [] []:=fun a s σ H Q I h=>pairTrees_nil_walk ⟨[],H,I,.nil,h⟩
def Zl9 (l:PE X k tk) (B:PE X v j) (q:PPs X b ks vs d) :
  PPs X b (some k::ks) (v::vs) ((tk,j)::d):=fun a s σ H Q I h =>
 pairTrees_cons_walk (thn (l a s σ H _ I h) fun u i=>B6 fun x p g z r=>thn (B a i σ p _ g r) fun E m=>B6 fun y w n e A=>
  thn (q a m σ w _ n A) fun F D=>Da fun C t f c o=>⟨_,t,f,.cons ⟨z,e⟩ c,o⟩)
def Zau (kvs more:List (Key×V)):List (Key×V):=more.foldl (fun acc kv=>JH acc kv.1 kv.2) kvs
def KV.merge:∀ {a} {b} {kvs} {vs},KV a b->KV kvs vs->KV (Zau kvs a) (merged vs b):=by
 intro a b kvs vs r;induction r generalizing kvs vs with
 | nil=>intro q;exact q
 | @cons p q i j h t f =>
  intro d;have e:KV (JH kvs p.1 p.2) (stored vs q.1 q.2):=by
   have:=d.put p.1 h.2
   simp_all
  exact f e
def JL:∀ (b kvs),(Zau kvs b).length<=kvs.length+b.length
 | [],kvs=>by show kvs.length<=kvs.length+0;exact V4
 | p::r,kvs=>by
  have c:=JL r (JH kvs p.1 p.2);have d:=Xn kvs p.1 p.2;show(Zau (JH kvs p.1 p.2) r).length<=_;rw[QC];lia
def Zcj:∀ {kvs} {f},VV (kvs.map fun e=>(kV e.1,e.2)) f->∃ d,Carries (ZA P w) f d/\KV kvs d
 | [],_,r=>by cases r;exact⟨[],True.intro,.nil⟩
 | p::kvs,_,r=>by
  cases r with
  | @cons a b l k h t =>
   obtain⟨d,c,q⟩:=Zcj t;obtain⟨j,i⟩:=b;exact⟨(p.1,i)::d,⟨ZbM h.1,rfl,c⟩,.cons ⟨rfl,h.2⟩ q⟩
def Zsb (trs:List (TE×TE)):TE:=fun σ H Q=>∀ p,H p=none->ZiC trs σ (upd H p (.dK [])) fun ps H2=>H2 p=some (.dK [])/\∃ kvs:List (Key×V),ps=kvs.map (fun kv=>(kV kv.1,kv.2))/\kvs.length<=15/\Q (.ref p) (upd H2 p (.dK (Zau [] kvs)))
def Zpe (h:PPs X o a b l) (g:a.all (·.isSome)=true) (A:a.length=b.length) (C:a≠[])
  (n:a.length<=15):PE X (.Dict a b o) (Zsb l):=by
 intro i s σ H Q I q;refine wpAny_Dict_walk (knd:=ZA X.prog X.w) g A C n (thn (h i _ σ _ _ (I.laid (t':=s.toks) (fun _ _ q=>Qi _ q) (Ql _) (Zhd s.heap I.big)) (q _ (I.hok.fresh (Ql s.heap.objs.size)))) fun J L ⟨O,N,p,m,e,f,B,K,v⟩=>?_);subst B;obtain⟨G,c,w⟩:=Zcj m;have⟨z,t,u,x,E⟩:=Zbv p.hok e;cases x;refine⟨G,c,E,fun M d F=>⟨.ref s.heap.objs.size,_,?_,rfl,v⟩⟩;have y:(Zau [] f).length<=sizeLine:=by
  have D:=JL f [];rw[List.length_nil]at D;rw[Oj];lia
 exact Zam p (by exact e▸True.intro) F (let ⟨q,_,_,r,_⟩:=d;⟨q,r⟩) (ZeH y t (w.merge .nil) d)
structure M1 (X:Cx) (o:Expr) (m:Str) (apos:Pos) (e:Expr) (cpos:Pos):Prop where
 base:OD o m X.env (eval o X.env)=eval o X.env
 few:((Om cpos (Og [e] X.env)).all (fun x=>!x.1)&&(OE cpos (Ot [] X.env)).all (fun x=>x.1.isSome)
  && decide (([e]:List Expr).length+([]:List Gi).length+(if ([]:List Gi).isEmpty then 0 else 1)<30))=true
 line:(apos.endLine==cpos.line)=true
 trees:Om cpos (Og [e] X.env)=[(false,eval e X.env)]
structure M2 (X:Cx) (o:Expr) (m:Str) (apos:Pos) (e f:Expr) (cpos:Pos):Prop where
 base:OD o m X.env (eval o X.env)=eval o X.env
 few:((Om cpos (Og [e,f] X.env)).all (fun x=>!x.1)&&(OE cpos (Ot [] X.env)).all (fun x=>x.1.isSome)
  && decide (([e,f]:List Expr).length+([]:List Gi).length+(if ([]:List Gi).isEmpty then 0 else 1)<30))=true
 line:(apos.endLine==cpos.line)=true
 trees:Om cpos (Og [e,f] X.env)=[(false,eval e X.env),(false,eval f X.env)]
def IsD (H:Hp) (a:Addr):Prop:=(∃ kvs,Rd H a (.dK kvs))\/∃ kvs,Rd H a (.dT kvs)
def Zcc {σ:St} (I:Inv X k σ H s) (d:IsD H a) :
  s.TypeIs (.ref a) "dict"/\(∀ b,Value.ref a= .ref b->∃ c,s.heap.get? b=some c/\c.dict=none)/\(a==Ov)=false:=by
 rcases d with ⟨h,e⟩ | ⟨h,e⟩
 obtain⟨_,g,l,_,f⟩:=ZeG I.hok e;refine⟨f.typeIs,fun b q=>?_,g⟩;cases q;obtain⟨c,_,_,i,j,_⟩:=f;exact⟨c,i,j.2.1⟩;obtain⟨_,g,m,_,f⟩:=ZfZ I.hok e;refine⟨f.typeIs,fun b q=>?_,g⟩;cases q;obtain⟨c,_,_,i,j,_⟩:=f;exact⟨c,i,j.2.1⟩
section
variable {X:Cx} {pins:List (Addr×Obj)} {σ:St} {H:Hp} {s:Shared} {a:Addr} {y d:V} {u r:Value} {o:Option V} {A:Around} {E:Value->Shared->Prop}
def ZrK (w:A.units+1<OW) (I:Inv X pins σ H s) (g:DGet H a y o) (p:RelV y u) (h:∀ r q,Inv X pins σ H q->RelV (o.getD .non) r->Q r q) :
  Oe (Od X.prog X.w) A (call (.builtin "dict.get") [.ref a,u]) Q E s:=by
 rcases g with ⟨n,k,e,j,l⟩ | ⟨n,k,b,e,j,v,l⟩
 subst j;obtain⟨z,m,x,c,f⟩:=ZeG I.hok e;exact OA PySem.F.slot_dict_get f.typeIs PySem.F.entry_dict_get (PySem.F.args_dict_get_2 _ _) (meets_dict_get _ a (ZbM p) m) ⟨_,f.mapOf,h _ _ (I.tok _) (l▸(c.val k).getD rfl)⟩;subst j;cases p;obtain⟨z,m,t,c,f⟩:=ZfZ I.hok e;exact OA PySem.F.slot_dict_get f.typeIs PySem.F.entry_dict_get (PySem.F.args_dict_get_2 _ _) (meetsH_dict_get _ a b m) ⟨OO w,k,t,Zb8 I.hok v,f,h _ _ (I.tok _) (l▸(c.val k).getD rfl)⟩
def ZrJ (B:A.units+1<OW) (I:Inv X pins σ H s) (g:DGet H a y o) (t:RelV y u) (v:RelV d r) (h:∀ q w,Inv X pins σ H w->RelV (o.getD d) q->Q q w) :
  Oe (Od X.prog X.w) A (call (.builtin "dict.get") [.ref a,u,r]) Q E s:=by
 rcases g with ⟨p,k,e,n,l⟩ | ⟨p,k,b,e,n,C,l⟩
 subst n;obtain⟨z,m,D,c,j⟩:=ZeG I.hok e;exact OA PySem.F.slot_dict_get j.typeIs PySem.F.entry_dict_get (PySem.F.args_dict_get_3 _ _ _) (meets_dict_get_default _ a (ZbM t) m r) ⟨_,j.mapOf,h _ _ (I.tok _) (l▸(c.val k).getD v)⟩;subst n;cases t;obtain⟨z,m,x,c,j⟩:=ZfZ I.hok e;exact OA PySem.F.slot_dict_get j.typeIs PySem.F.entry_dict_get (PySem.F.args_dict_get_3 _ _ _) (meetsH_dict_get_default _ a b m r) ⟨OO B,k,x,Zb8 I.hok C,j,h _ _ (I.tok _) (l▸(c.val k).getD v)⟩
end
def ZqE (td ty:TE):TE:=fun σ H Q=>td σ H fun x H1=>∃ a,x= .ref a/\IsD H1 a/\ty σ H1 fun y H2=>∃ o,DGet H2 a y o/\Q (o.getD .non) H2
def ZqD (td ty tx:TE):TE:=fun σ H Q=>td σ H fun x H1=>∃ a,x= .ref a/\IsD H1 a/\ty σ H1 fun y H2=>tx σ H2 fun z H3=>∃ o,DGet H3 a y o/\Q (o.getD z) H3
def ZqB (td ty:TE):TE:=fun σ H Q=>td σ H fun x H1=>∃ a,x= .ref a/\IsD H1 a/\ty σ H1 fun y H2=>∃ kvs k v,H2 a=some (.dK kvs)/\y=kV k/\XR kvs k=some v/\Q v (upd H2 a (.dK (ZeE kvs k)))
section
variable {X:Cx} {o e f:Expr} {apos cpos:Pos} {td ty tx:TE}
def ZgH (F:X.A.units+1<OW) (l:PE X o A) (D:PE X e E) (m:M1 X o "get" apos e cpos):PE X (.Call (.Attribute o "get" apos) [e] [] cpos) (ZqE A E):=by
 intro b s σ H Q I h;refine O5 m.base m.few m.line PySem.F.plainAttrs_dict PySem.F.slot_dict_get PySem.F.type_dict_get (thn (l b s σ H _ I h) fun u C ⟨x,n,j,t,a,w,d,p⟩=>?_);subst w;obtain rfl:u=Value.ref a:=t;obtain⟨r,q,_⟩:=Zcc j d;exact ⟨r,q,m.trees▸Calls.callWith_builtin rfl (Calls.evalArgs_plain (Calls.spliced_cons (thn (D b C σ n _ j p) fun M K ⟨y,k,G,B,J,g,v⟩=>Calls.spliced_nil (ZrK F G g B fun N L z i=>⟨_,k,z,i,v⟩))))⟩
def Y4 (hu:X.A.units+1<OW) (n:PE X o td) (he:PE X e ty) (hf:PE X f tx) (m:M2 X o "get" apos e f cpos):PE X (.Call (.Attribute o "get" apos) [e,f] [] cpos) (ZqD td ty tx):=by
 intro b s σ H Q I h;refine O5 m.base m.few m.line PySem.F.plainAttrs_dict PySem.F.slot_dict_get PySem.F.type_dict_get (thn (n b s σ H _ I h) fun u D ⟨x,p,k,B,a,J,d,q⟩=>?_);subst J;obtain rfl:u=Value.ref a:=B;obtain⟨A,r,_⟩:=Zcc k d;refine⟨A,r,?_⟩;exact m.trees▸Calls.callWith_builtin rfl (Calls.evalArgs_plain (Calls.spliced_cons (thn (he b D σ p _ k q) fun iv s2=>B6 fun y l I2 F C=>
  Calls.spliced_cons (thn (hf b s2 σ l _ I2 C) fun fv s3 ⟨z,t,I3,E,ov,g,q3⟩=>Calls.spliced_nil (ZrJ hu I3 g F E fun w' s4 v j=>⟨_,t,v,j,q3⟩)))))
def Zmc (n:PE X o B) (K:PE X e z) (m:M1 X o "pop" apos e cpos):PE X (.Call (.Attribute o "pop" apos) [e] [] cpos) (ZqB B z):=by
 intro b s σ H Q I h;refine O5 m.base m.few m.line PySem.F.plainAttrs_dict PySem.F.slot_dict_pop PySem.F.type_dict_pop (thn (n b s σ H _ I h) fun u D ⟨x,p,i,w,a,E,d,q⟩=>?_);subst E;obtain rfl:u=Value.ref a:=w;obtain⟨t,r,_⟩:=Zcc i d;refine⟨t,r,?_⟩;rw[m.trees];refine Calls.callWith_builtin rfl (Calls.evalArgs_plain (Calls.spliced_cons (thn (K b D σ p _ i q) fun R O ⟨y,M,L,C,A,k,v,G,F,l,j⟩=>Calls.spliced_nil ?_)));subst F;exact ZsK L G C l (.inl rfl) fun N P J g=>⟨v,_,J,g,j⟩
end
section
variable {X:Cx} {pins:List (Addr×Obj)} {σ:St} {H:Hp} {s:Shared} {a:Addr} {kvs:List (Key×V)} {A:Around} {E:Value->Shared->Prop}
end
section
variable {X:Cx} {pins:List (Addr×Obj)} {σ:St} {H:Hp} {s:Shared} {a:Addr} {y:V} {u:Value} {A:Around} {E:Value->Shared->Prop}
end
end L2
namespace HT
open PySem PyProof.Rows
section
open PySem.SeqAt
open PySem.AutoSeq1 (wpAny_loadPart')
open PySem.MeetsSeq PySem.MeetsSeq2 PySem.MeetsSeq3
end
section
variable {prog:Oc} {w:Of} {A:Around} {E:Value->Shared->Prop} {s:Shared}
noncomputable def sIx (n d:Nat):Option Int->Nat
 | none=>d
 | some v=>if v<0 then (v+(n:Int)).toNat else min v.toNat n
def sIx_none (n d:Nat):sIx n d none=d:=rfl
def sIx_nat (n d k:Nat):sIx n d (some (k:Int))=min k n:=by
 show(if (k:Int)<0 then ((k:Int)+(n:Int)).toNat else min (k:Int).toNat n)=min k n;rw[if_neg Na,Wp]
end
end HT
namespace L2
open PySem PySem.Spec PyProof.Rows
abbrev TO:=St->Hp->(Option Int->Hp->Prop)->Prop
def PO (X:Cx) (e:Option Expr) (t:TO):Prop :=
 ∀ (pins:List (Addr×Obj)) (s:Shared) (σ:St) (H:Hp) (Q:Option Int->Hp->Prop),Inv X pins σ H s->t σ H Q ->
  Oe (Od X.prog X.w) X.A (evalPart e X.env) (fun u s'=>∃ o H',Inv X pins σ H' s'/\IsPart u o/\Q o H') X.xe s
def ZoC:TO:=fun _ H Q=>Q none H
def ZoB (t:TE):TO:=fun σ H Q=>t σ H fun x H1=>∃ i,x= .int i/\Q (some i) H1
section
variable {X:Cx} {e:Expr} {te:TE} {lo hi:Option Expr} {tl th:TO} {pos p2:Pos}
def Z4:PO X none ZoC:=by
 intro a s σ H Q I h;exact Ob ⟨_,H,I,.none,h⟩
def ZV (h:PE X e b):PO X (some e) (ZoB b):=by
 intro a s σ H Q I j;refine thn (h a s σ H _ I j) fun u k=>B6 fun x c f d g=>?_;obtain⟨i,rfl,q⟩:=g;obtain⟨t,rfl⟩:=d;exact⟨_,c,f,.int i t,q⟩
def SlR (X:Cx) (r:V->Option Int->Option Int->Hp->VK->Prop):Prop :=
 ∀ (pins:List (Addr×Obj)) (s:Shared) (σ:St) (H:Hp) (x:V) (v vl vu:Value) (lo hi:Option Int) (sl:Addr) (Q:VK),Inv X pins σ H s->RelV x v->s.heap.IsSliceOf sl vl vu .none->IsPart vl lo->IsPart vu hi->r x lo hi H Q ->
  ∃ T id,typeLookup (.type T) "__getitem__" = pure (some (.builtin id))/\s.TypeIs v T/\Oe (Od X.prog X.w) X.A (Gh v (.ref sl)) (EP X pins σ Q) X.xe s
def tSl (r:V->Option Int->Option Int->Hp->VK->Prop) (te:TE) (tl th:TO):TE:=fun σ H Q=>te σ H fun x H1=>tl σ H1 fun l H2=>th σ H2 fun u H3=>r x l u H3 Q
def ZM (j:SlR X r) (O:PE X e te) (G:PO X lo tl) (N:PO X hi th):PE X (.Subscript e (.Slice lo hi none p2) pos) (tSl r te tl th):=by
 intro a s σ H Q I h;refine Gx (thn (O a s σ H _ I h) fun v m=>B6 fun x P D A k=>(wpAny_Slice (thn (G a m σ P _ D k) fun g F=>Da fun l i t n p=>thn (N a F σ i _ t p) fun d c=>Da fun u f C w L=>(Ob ?_))));have y:Inv X a σ f {c with heap:=c.heap.push {cls:=.type "slice",data:=.fields #[g,d,.none]}}:=C.kept fun b S q=>Qi _ q;refine Pi (j a _ σ f x v g d l u c.heap.objs.size Q y A (Heap.IsSliceOf.new ..) n w L) fun T id K B M=>?_;exact tail_any B K M (by rfl)
noncomputable def Zhh (xs:List V) (lo hi:Option Int):List V:=(xs.drop (HT.sIx xs.length 0 lo)).take (HT.sIx xs.length xs.length hi-HT.sIx xs.length 0 lo)
def Zf3 (xs) (lo hi):(Zhh xs lo hi).length<=xs.length:=by
 unfold Zhh;rw[QH,Wa];lia
end
noncomputable def ixN (n:Nat) (i:Int):Option Nat:=if 0<=i then (if i<n then some i.toNat else none)else if -(n:Int)<=i then some (i+n).toNat else none
noncomputable def atI {α:Type} (xs:List α) (i:Int):Option α:=(ixN xs.length i).bind fun j=>xs[j]?
def ZfX (h:ixN n i=some j):seqIndex? i n=some j/\j<n/\-n<=i/\i<n:=by
 unfold ixN at h;by_cases b:0<=i
 rw[if_pos b]at h;by_cases a:i<n
 rw[if_pos a]at h;have e:=Option.some.inj h;exact⟨by rw[seqIndex_of b a,e],by omega,by omega,a⟩
 simp_all
 rw[if_neg b]at h;by_cases a : -n<=i
 rw[if_pos a]at h;have e:=Option.some.inj h;exact⟨by rw[seqIndex_neg (Kc b) a,e],by omega,a,by omega⟩
 simp_all
def Zf8 {xs} {v:α} (h:atI xs i=some v):∃ j,seqIndex? i xs.length=some j/\xs[j]?=some v/\j<xs.length/\-xs.length<=i/\i<xs.length:=by
 unfold atI at h;cases e:ixN xs.length i with
 | none=>simp_all
 | some j =>
  obtain⟨_⟩:=ZfX e
  simp_all
def Jq {xs} {j:Nat} {v:α} (h:xs[j]?=some v):atI xs j=some v:=by
 have a:=(Qo.mp h).1;have e:ixN xs.length j=some j:=by
  unfold ixN;rw[if_pos Tj,if_pos (Tk a)];simp
 unfold atI;simp_all
def Zqc (b:Expr):Prop:=∀ o i,Go b false o i=operate [o,i] (Gh o i)
def IxR (X:Cx) (r:R2):Prop :=
 ∀ (value slice:Expr) (pins:List (Addr×Obj)) (s:Shared) (σ:St) (H:Hp) (x y:V) (v u:Value) (Q:VK),Inv X pins σ H s->RelV x v->RelV y u->r x y H Q ->
  Go slice false v u=operate [v,u] (Gh v u)->Oe (Od X.prog X.w) X.A (subscriptTail value slice v u) (EP X pins σ Q) X.xe s
def MtR (X:Cx) (id:String) (r:V->List V->Hp->VK->Prop):Prop :=
 ∀ (pins:List (Addr×Obj)) (s:Shared) (σ:St) (H:Hp) (x:V) (xs:List V) (v:Value) (us:List Value) (Q:VK),Inv X pins σ H s->RelV x v->Vals xs us->r x xs H Q ->
  Oe (Od X.prog X.w) X.A (call (.builtin id) (v::us)) (EP X pins σ Q) X.xe s
section
variable {X:Cx} {a b:Expr} {ta tb:TE} {pos:Pos}
def IxR.or (h:IxR X r) (h':IxR X g):IxR X (fun x y H Q=>r x y H Q\/g x y H Q):=by
 intro b a c s σ H x y v u Q I f d q e;rcases q with q | q
 exact h b a c s σ H x y v u Q I f d q e;exact h' b a c s σ H x y v u Q I f d q e
def Zw (i:IxR X r) (l:PE X a ta) (p:PE X b tb) (j:Zqc b):PE X (.Subscript a b pos) (tOp r ta tb):=by
 intro c s σ H Q I h;exact Gx (ZsM l p I h fun v u g x y o n m d q=>i a b c g σ o x y v u Q n m d q (j _ _))
def Zso (K:PySem.W.Frag):R2:=fun x y H Q=>∃ p xs i v,x= .ref p/\y= .int i/\SqL K H p xs/\atI xs i=some v/\Q v H
def ZrZ (K:PySem.W.Frag):R2:=fun x y H Q=>∃ p xs i v,x= .ref p/\y= .int i/\SqT K H p xs/\atI xs i=some v/\Q v H
def Zs3:R2:=fun x y H Q=>∃ z i c,x= .str z/\y= .int i/\z.length<=sizeLine/\atI z.cps.toList i=some c/\Q (.str ⟨#[c]⟩) H
def ix_list:IxR X (Zso X.K):=by
 intro k f a s σ H x y v u Q I F E h A;refine Pl h fun p N i z r0 r1 C G q=>?_;subst r0;subst r1;cases F;obtain⟨t,rfl⟩:=E;obtain⟨d,r,g,_⟩:=I.list C;refine Pn (Zf8 G) fun j n B L D J=>?_;obtain⟨w,m,l⟩:=r.get B;have M:=r.length;have K:=Zb7;have b:EP X a σ Q w s:=⟨z,H,I,l,q⟩
 by_cases o:0<=i
 have c:i.toNat=j:=by
  rw[seqIndex_of o J]at n
  simp_all
 exact item_listR g.isList o (by omega) (by rw[c];simpa using m) b A;have c:(i+d.toArray.size).toNat=j:=by
  rw[seqIndex_neg (Kc o) D]at n
  simp_all
 exact subscriptTail_builtinR g.isList.typeIs slot_list_getitem.lookup
  (wpAny_getItem_list_neg g.isList (Kc o) (by rw[Qu] <;> exact Kd D M) (by lia) (by rw[c];simpa using m) ⟨rfl,b⟩) A
def ix_tup:IxR X (ZrZ X.K):=by
 intro c b e s σ H x y v u Q I n f h l;refine Pl h fun p B i z r0 r1 m o q=>?_;subst r0;subst r1;cases n;obtain⟨t,rfl⟩:=f;obtain⟨k,r,d,_⟩:=I.tuple m;obtain⟨j,C,A,_⟩:=Zf8 o;obtain⟨w,g,a⟩:=r.get A;have D:=Zb7;exact subscriptTail_builtinR d.typeIs slot_tuple_getitem.lookup
  (getItem_tuple d (by omega) (by omega) (by rw[Qu,←r.length];omega) (by simpa using g) ⟨rfl,(⟨z,H,I,a,q⟩)⟩) l
def Zg0:IxR X Zs3:=by
 intro a b d s σ H x y v u Q I f e h m;refine Po h fun z i c r0 r1 D l q=>?_;subst r0;subst r1;obtain⟨t,rfl⟩:=f;obtain⟨A,rfl⟩:=e;refine Pn (Zf8 l) fun j r n B p C=>?_;have w:z.cps.toList.length=z.length:=by rfl
 have o:=Zb7;exact tail_any (OG s z t) slot_str_getitem.lookup (getItem_str (by
  have k:decide (i < -(2 ^ 63))=false:=decide_eq_false (by omega);have g:decide (i≥2 ^ 63)=false:=decide_eq_false (by omega);rw[k,g,RS]) (by simp_all) ⟨.str _,H,I.tok _,⟨_,rfl⟩,q⟩) m
def rIx (K:PySem.W.Frag):R2:=fun x y H Q=>Zso K x y H Q\/ZrZ K x y H Q\/Zs3 x y H Q
def Zn8:IxR X (rIx X.K):=ix_list.or (ix_tup.or Zg0)
def Zh1 (b:List Value) (n j) (u):Obj.mapSeq (·.setIfInBounds j u) {cls:=.type "list",data:=.seq b.toArray n}={cls:=.type "list",data:=.seq (b.set j u).toArray n}:=by
 simp[Obj.mapSeq]
def Inv.lst {σ:St} {H} {s} {p} {xs} (I:Inv X pins σ H s) (h:H p=some (.lst xs)) :
  ∃ (a:List Value) (n:Nat),Vals xs a/\s.heap.get? p=some {cls:=.type "list",data:=.seq a.toArray n}/\xs.length<=sizeLine:=by
 obtain⟨z,a,n,r,e⟩:=I.hok p _ h;exact⟨a,n,r,e,z⟩
def Inv.lstUpd {σ:St} {c its':List Value} (I:Inv X pins σ H s) (h:H p=some (.lst xs))
  (k:s.heap.get? p=some {cls:=.type "list",data:=.seq c.toArray n}) (i:f {cls:=.type "list",data:=.seq c.toArray n}={cls:=.type "list",data:=.seq its'.toArray g}) (r:Vals ys its') (hz:ys.length<=sizeLine) (t) :
  Inv X pins σ (upd H p (.lst ys)) {s with heap:=s.heap.update p f,toks:=t}:=by
 have e:(s.heap.update p f).get? p=some {cls:=.type "list",data:=.seq its'.toArray g}:=by
  rw[WA f k (by rw[i] <;> rfl),i]
 exact I.write (by rw[h];trivial) (.inl rfl) (fun b u j q=>(Q5 _ _ (Ne.symm j)).trans q) ⟨_,e⟩ ⟨hz,_,g,r,e⟩
def Zsm:V->V->V->Hp->(Hp->Prop)->Prop:=fun o i v H Q=>∃ p xs k j,o= .ref p/\i= .int k/\H p=some (.lst xs)/\ixN xs.length k=some j/\Q (upd H p (.lst (xs.set j v)))
def Zcw:ZsS X Zsm:=by
 intro l s σ H o i v C F u Q I z w B h;refine Pl h fun p E k j r0 r1 e x q=>?_;subst r0;subst r1;cases z;obtain⟨t,rfl⟩:=w;refine Pi (I.lst e) fun a n r c _=>?_;obtain⟨m,J,A,y⟩:=ZfX x;have D:=r.length;have G:=Zb7;have f :=
  I.lstUpd e c (Zh1 a n j u) (r.set B j) (by rw[Vo];omega) s.toks
 by_cases g:0<=k
 have d:k.toNat=j:=by
  rw[seqIndex_of g y]at m
  simp_all
 exact PySem.W.ki_setAt c g (by omega) (by rw[Qu];omega) (by exact d▸⟨_,f,q⟩)
 have d:(k+a.toArray.size).toNat=j:=by
  rw[seqIndex_neg (Kc g) A]at m
  simp_all
 exact PySem.W.ki_setBack c (Kc g) (by rw[Qu];exact Kd A D) (by lia) (by exact d▸⟨_,f,q⟩)
def ZdL (lo hi) (n):(Gf lo hi none n).1=((HT.sIx n 0 lo:Nat))/\(Gf lo hi none n).2.1=((HT.sIx n n hi):Int)/\(Gf lo hi none n).2.2=1:=by
 refine⟨?_,?_,rfl⟩;cases lo with
 | none=>rfl
 | some i =>
  simp[Gf,HT.sIx,Ve,show 1>0 by decide,if_true];by_cases h:i<0
  simp[h,if_true] <;> exact Tm h;simp[h,if_false] <;> exact Tn
 cases hi with
 | none=>rfl
 | some i =>
  simp[Gf,HT.sIx,Ve,show 1>0 by decide,if_true];by_cases h:i<0
  simp[h,if_true] <;> exact Tm h;simp[h,if_false] <;> exact Tn
def Zcu (a:List Value) (lo hi):slicePick a.toArray lo hi none=((a.drop (HT.sIx a.length 0 lo)).take (HT.sIx a.length a.length hi-HT.sIx a.length 0 lo)).toArray:=by
 obtain⟨d,f,e⟩:=ZdL lo hi a.toArray.size;unfold slicePick;rw[d,f,e];simp only[sliceRange_one,pick_run,Qu] <;> rfl
def Ztq (K:PySem.W.Frag):V->Option Int->Option Int->Hp->VK->Prop:=fun x lo hi H Q=>∃ a xs,x= .ref a/\SqL K H a xs/\∀ p,H p=none->Q (.ref p) (upd H p (.lst (Zhh xs lo hi)))
def Zcv:SlR X (Ztq X.K):=by
 intro d s σ H x v u y lo j t Q I n m p o h;refine Pi h fun a i r0 g q=>?_;subst r0;cases n;refine Pf (I.list g) fun l r f k=>?_;have c:=r.length;refine⟨_,_,slot_list_getitem.lookup,f.isList.typeIs,(wpAny_getItem_list_slice f.isList m p o .none (by simp) ?_ (by rw[Qu] <;> exact Ka k c))⟩;rw[Zcu,←c];refine⟨.ref s.heap.objs.size,_,I.laid (fun b w q=>Qi _ q) (Ql _) ?_,rfl,q _ (I.hok.fresh (Ql _))⟩;exact⟨QO (Zf3 i lo j) k,_,0,(r.drop _).take _,Qs _ rfl⟩
noncomputable def ZbN:V->Bool
 | .non=>true
 | .bl _=>true
 | .int _=>true
 | .str _=>true
 | _=>false
noncomputable def eqV:V->V->Bool
 | .non,.non=>true
 | .bl a,.bl b=>a==b
 | .bl a,.int b=>(if a then 1 else 0)==b
 | .int a,.bl b=>a==(if b then 1 else 0)
 | .int a,.int b=>a==b
 | .str a,.str b=>a==b
 | _,_=>false
def ZrE (j:RelV y u) (c:RelV x v) (k:ZbN y=true) (i:ZbN x=true):SeqAt.EqAt A s u v (eqV y x):=by
 cases y with
 | non =>
  cases j;cases x with
  | non=>cases c;exact SeqAt.EqAt.same _
  | bl b=>cases c;exact SeqAt.EqAt.none_bool b
  | int b=>obtain⟨t,rfl⟩:=c;exact SeqAt.EqAt.none_int b t
  | str b=>obtain⟨t,rfl⟩:=c;exact SeqAt.EqAt.none_str b t
  | _=>exact absurd (show false=true from i) QV
 | bl a =>
  cases j;cases x with
  | non=>cases c;exact SeqAt.EqAt.bool_none a
  | bl b=>cases c;exact SeqAt.EqAt.bool_bool a b
  | int b=>obtain⟨t,rfl⟩:=c;exact SeqAt.EqAt.bool_int a b t
  | str b=>obtain⟨t,rfl⟩:=c;exact SeqAt.EqAt.bool_str a b t
  | _=>exact absurd (show false=true from i) QV
 | int a =>
  obtain⟨g,rfl⟩:=j;cases x with
  | non=>cases c;exact SeqAt.EqAt.int_none a g
  | bl b=>cases c;exact SeqAt.EqAt.int_bool a g b
  | int b=>obtain⟨t,rfl⟩:=c;exact SeqAt.EqAt.int_int a g b t
  | str b=>obtain⟨t,rfl⟩:=c;exact SeqAt.EqAt.int_str a g b t
  | _=>exact absurd (show false=true from i) QV
 | str a =>
  obtain⟨g,rfl⟩:=j;cases x with
  | non=>cases c;exact SeqAt.EqAt.str_none a g
  | bl b=>cases c;exact SeqAt.EqAt.str_bool a g b
  | int b=>obtain⟨t,rfl⟩:=c;exact SeqAt.EqAt.str_int a g b t
  | str b=>obtain⟨t,rfl⟩:=c;exact SeqAt.EqAt.str_str a g b t
  | _=>exact absurd (show false=true from i) QV
 | _=>exact absurd (show false=true from k) QV
noncomputable def eqU (x:V) (u:Value):Bool:=match u with
 | .none=>eqV .non x
 | .bool b=>eqV (.bl b) x
 | .int i _=>eqV (.int i) x
 | .str z _=>eqV (.str z) x
 | _=>false
def Zoe (r:RelV y u) (f:ZbN y=true):eqU x u=eqV y x:=by
 cases y with
 | non=>cases r;rfl
 | bl b=>cases r;rfl
 | int i=>obtain⟨t,rfl⟩:=r;rfl
 | str z=>obtain⟨t,rfl⟩:=r;rfl
 | _=>exact absurd f QV
def ZbB:∀ {xs} {a},Vals xs a->xs.all ZbN=true->a.any (eqU x)=xs.any fun y=>eqV y x
 | _,_,.nil,_=>rfl
 | y::xs,u::a,.cons r t,f=>by
  rw[VD,QW]at f;rw[Ul,Ul,Zoe r f.1,ZbB t f.2]
def JK {x} {v} (c:RelV x v) (d:ZbN x=true):∀ {xs} {b},Vals xs b->xs.all ZbN=true->∀ u∈b,SeqAt.EqAt A s u v (eqU x u)
 | _,_,.nil,_=>fun u a=>by grind
 | y::xs,u::b,.cons r t,f=>fun e a=>by
  rw[VD,QW]at f;rcases Qx.mp a with rfl | a
  exact Zoe r f.1▸ZrE r c f.1 d;exact JK c d t f.2 e a
def inV (x:V) (xs:List V):Bool:=xs.any fun y=>eqV y x
def rIn (K:PySem.W.Frag) (neg:Bool):R2:=fun x y H Q=>∃ p xs,y= .ref p/\(SqL K H p xs\/SqT K H p xs)/\ZbN x=true/\xs.all ZbN=true/\Q (.bl (if neg then !inV x xs else inV x xs)) H
def Zbe:OpR X (On .In) (rIn X.K false):=by
 intro g s σ H x y v u Q I f i h;obtain⟨p,k,rfl,b,e,c,q⟩:=h;cases i;rcases b with b | b
 obtain⟨a,r,d,l⟩:=I.list b;refine SeqAt.in_listAt _ d.isList (fun w j=>JK f e r c w (by simp_all)) ⟨.bl _,H,I,rfl,?_⟩;rw[show a.toArray.any _=a.any (eqU x)by simp,ZbB r c];exact q;obtain⟨a,r,d,_⟩:=I.tuple b;refine SeqAt.in_tupleAt _ d (fun w j=>JK f e r c w (by simp_all)) ⟨.bl _,H,I,rfl,?_⟩;rw[show a.toArray.any _=a.any (eqU x)by simp,ZbB r c];exact q
def Zat:OpR X (On .NotIn) (rIn X.K true):=by
 intro g s σ H x y v u Q I f i h;obtain⟨p,k,rfl,b,e,c,q⟩:=h;cases i;rcases b with b | b
 obtain⟨a,r,d,l⟩:=I.list b;refine SeqAt.notIn_listAt _ d.isList (fun w j=>JK f e r c w (by simp_all)) ⟨.bl _,H,I,rfl,?_⟩;rw[show a.toArray.any _=a.any (eqU x)by simp,ZbB r c];exact q;obtain⟨a,r,d,_⟩:=I.tuple b;refine SeqAt.notIn_tupleAt _ d (fun w j=>JK f e r c w (by simp_all)) ⟨.bl _,H,I,rfl,?_⟩;rw[show a.toArray.any _=a.any (eqU x)by simp,ZbB r c];exact q
def Y8:CallR X (.type "list") (fun xs H Q=>∃ p ys,xs=[.ref p]/\(SqL X.K H p ys\/SqT X.K H p ys)/\∀ l,H l=none->Q (.ref l) (upd H l (.lst ys))):=by
 intro t s σ H xs A Q I r h;obtain⟨p,ys,rfl,m,q⟩:=h;obtain⟨u,rfl,rfl⟩:=YL r;have i:∀ (a:List Value),Vals ys a->ys.length<=sizeLine->∀ (c:Heap) (f:Nat),(∀ b z,s.heap.get? b=some z->c.get? b=some z) ->
   c.get? s.heap.objs.size=some _->EP X t σ Q _ _:=fun a d j c f k e =>
  ⟨.ref s.heap.objs.size,_,I.laid (t':=s.toks) k (Ql _) (show ObjOk X.prog X.w _ c _ (.lst ys)from⟨j,a,f,d,e⟩),rfl,q _ (I.hok.fresh (Ql _))⟩
 rcases m with m | m
 obtain⟨a,d,w,j⟩:=I.list m;have g:=d.length;obtain⟨o,y,v,n,x⟩:=w.isList;exact call_list_seq p (.inl rfl) y v x (fun c f k e=>i a d j c f k e) (by simp[Qu] <;> exact Ka j g);obtain⟨a,d,w,j⟩:=I.tuple m;have g:=d.length;obtain⟨o,y,v,n,x⟩:=w;exact call_list_seq p (.inr rfl) y v x (fun c f k e=>i a d j c f k e) (by simp[Qu] <;> exact Ka j g)
def ZJ:CallR X (.type "tuple") (fun xs H Q=>∃ p ys,xs=[.ref p]/\((SqL X.K H p ys/\∀ l,H l=none->Q (.ref l) (upd H l (.tup ys)))\/(SqT X.K H p ys/\Q (.ref p) H))):=by
 intro i s σ H xs t Q I r h;obtain⟨p,ys,rfl,h⟩:=h;obtain⟨u,rfl,rfl⟩:=YL r;rcases h with ⟨f,q⟩ | ⟨f,q⟩
 obtain⟨a,c,d,m⟩:=I.list f;have g:=c.length;refine call_tuple_list d.isList (fun k n=>?_) (by simp[Qu] <;> exact Ka m g);have j:=I.kept (t':=s.toks) n;exact⟨.ref k.objs.size,_,(j.laid (t':=s.toks) (fun b o e=>Qi _ e) (Ql _) (show ObjOk X.prog X.w _ _ _ (.tup ys)from⟨m,a,c,IsTup.new _ _,ZaL rfl rfl⟩)),rfl,q _ (j.hok.fresh (Ql _))⟩;obtain⟨a,c,d,_⟩:=I.tuple f;exact call_tuple_same d ⟨.ref p,H,I,rfl,q⟩
def tyV (K:PySem.W.Frag) (T:String) (x:V) (H:Hp):Prop:=match x with
 | .str _=>T = "str"
 | .int _=>T = "int"
 | .ref p=>(T = "list"/\∃ xs,SqL K H p xs)\/(T = "tuple"/\∃ o,K.lookup p=some o/\o.cls= .type "tuple"/\o.dict=none) \/
   (T = "dict"/\((∃ kvs,H p=some (.dK kvs))\/∃ kvs,H p=some (.dT kvs)))\/(T = "set"/\∃ S n,H p=some (.set S n))
 | _=>False
def Zni {σ:St} (I:Inv X m σ H s) (r:RelV x v) (f:tyV X.K T x H) :
  s.TypeIs v T/\∀ a,v= .ref a->∃ j,s.heap.get? a=some j/\j.dict=none:=by
 cases x with
 | str z =>
  obtain⟨t,rfl⟩:=r;cases f;exact⟨OG s z t,fun _ e=>nomatch e⟩
 | int i =>
  obtain⟨t,rfl⟩:=r;cases f;exact⟨typeIs_int s i t,fun _ e=>nomatch e⟩
 | ref p =>
  cases r;rcases f with ⟨rfl,C,A⟩ | ⟨rfl,o,b,y,l⟩ | ⟨rfl,b⟩ | ⟨rfl,S,n,b⟩
  obtain⟨w,_,k,_⟩:=I.list A;refine⟨k.isList.typeIs,fun a e=>?_⟩;cases e;obtain⟨o,n,e,c,l,_⟩:=k
  simp_all
  refine⟨⟨o,I.kIn p o b,y⟩,fun a e=>?_⟩;cases e;exact⟨o,I.kIn _ o b,l⟩;have z:∃ o,s.heap.get? p=some o/\o.ExactDict:=by
   rcases b with ⟨g,b⟩ | ⟨g,b⟩
   obtain⟨_,_,_,_,o,_,_,e,d,_⟩:=I.hok p _ b
   simp_all
   obtain⟨_,_,_,_,o,_,_,e,d,_⟩:=I.hok p _ b
   simp_all
  obtain⟨o,e,d⟩:=z;refine⟨⟨o,e,d.1⟩,fun a h=>?_⟩;cases h;exact⟨o,e,d.2.1⟩;obtain⟨o,_,_,_,e,d,_⟩:=I.hok p _ b;refine⟨⟨o,e,d.1⟩,fun a h=>?_⟩;cases h;exact⟨o,e,d.2.1⟩
 | _=>exact False.elim f
def Ztn (K:PySem.W.Frag) (T:String) (r:V->List V->Hp->VK->Prop) (to:TE):TE:=fun σ H Q=>to σ H fun x H1=>tyV K T x H1/\r x [] H1 Q
def tBM (K:PySem.W.Frag) (T:String) (r:V->List V->Hp->VK->Prop) (to:TE) (t:TA):TE:=fun σ H Q=>to σ H fun x H1=>tyV K T x H1/\t σ H1 fun xs H2=>r x xs H2 Q
variable {o e:Expr} {es:List Expr} {to:TE} {t:TA} {name:Str} {apos cpos:Pos} {T id:String} {r:V->List V->Hp->VK->Prop}
def Xs (y:PlainAttrs T) (f:Slot T name id) (g:typeOf (.builtin id)=pure (.type "method_descriptor")) (u:MtR X id r) (m:PE X o to)
  (b:OD o name X.env (eval o X.env)=eval o X.env:=by rfl) (c:(apos.endLine==cpos.line)=true:=by rfl):PE X (.Call (.Attribute o name apos) [] [] cpos) (Ztn X.K T r to):=by
 intro a s σ H Q I h;refine wpAny_Call_method0_late b c (thn (m a s σ H _ I h) fun v l ⟨x,p,i,j,n,q⟩=>?_);have⟨t,k⟩:=Zni i j n;exact⟨T,id,y,f,g,t,k,Calls.callWith_builtin rfl (PySem.evalArgs_none (u a l σ p x [] v [] Q i j .nil q))⟩
def Y2 (pa:PlainAttrs T) (j:Slot T name id) (hty:typeOf (.builtin id)=pure (.type "method_descriptor")) (hm:MtR X id r) (ho:PE X o to) (ha:PA X (e::es) t)
  (f:OD o name X.env (eval o X.env)=eval o X.env:=by rfl)
  (i:((Om cpos (Og (e::es) X.env)).all (fun x=>!x.1)&&(OE cpos (Ot [] X.env)).all (fun x=>x.1.isSome)
   && decide ((e::es).length+([]:List Gi).length+(if ([]:List Gi).isEmpty then 0 else 1)<30))=true:=by rfl)
  (d:(apos.endLine==cpos.line)=true:=by rfl) (hs:Og (e::es) X.env=(false,eval e X.env)::Og es X.env:=by rfl) (l:(Om cpos (Og es X.env)).any (·.1)=false:=by rfl) :
  PE X (.Call (.Attribute o name apos) (e::es) [] cpos) (tBM X.K T r to t):=by
 intro b s σ H Q I h;refine wpAny_Call_method_late f i d rfl (thn (ho b s σ H _ I h) fun v s1 ⟨x,H1,I1,r1,ty,q1⟩=>?_);have⟨h1,h2⟩:=Zni I1 r1 ty;refine⟨T,id,pa,j,hty,h1,h2,?_⟩;have hA:=ha cpos b s1 σ H1 _ I1 q1;rw[hs]at hA ⊢;exact Calls.callWith_builtin (by simp_all) (Calls.evalArgs_plain (thn hA fun us s2 ⟨vs,H2,I2,r2,q2⟩=>hm b s2 σ H2 x vs v us Q I2 r1 r2 q2))
end
def MtM (X:Cx) (id:String) (r:V->List V->Hp->VK->Prop):Prop :=
 ∀ (pins:List (Addr×Obj)) (s:Shared) (σ:St) (H:Hp) (x:V) (xs:List V) (v:Value) (us:List Value) (Q:VK),Inv X pins σ H s->RelV x v->Vals xs us->r x xs H Q ->
  Oe (Od X.prog X.w) X.A (call (.builtin id) (v::us)) (EP X pins σ Q) X.xe s
def Vals.one:∀ {x} {a},Vals [x] a->∃ u,a=[u]/\RelV x u
 | _,_,.cons r .nil=>⟨_,rfl,r⟩
def Vals.zero:∀ {a},Vals [] a->a=[]
 | _,.nil=>rfl
def Vals.dropLast (h:Vals xs c):Vals xs.dropLast c.dropLast:=by
 induction h with
 | nil=>exact .nil
 | cons r t d =>
  cases t with
  | nil=>simp_all
  | cons q e=>exact .cons r d
def Vals.eraseIdx:∀ {xs} {a} (i),Vals xs a->Vals (xs.eraseIdx i) (a.eraseIdx i)
 | _,_,_,.nil=>.nil
 | _,_,0,.cons _ t=>t
 | _,_,i+1,.cons r t=>.cons r (Vals.eraseIdx i t)
def Vals.rep (h:Vals xs b):∀ k,Vals (QR k xs).flatten (QR k b).flatten
 | 0=>.nil
 | k+1=>Vals.append h (Vals.rep h k)
def Zqn {α:Type} (l:List α):l.eraseIdx (l.length-1)=l.dropLast:=by
 simp
def Zbk {α:Type}:∀ (l:List α) (i),(l.eraseIdx i).length<=l.length
 | [],_=>Ql _
 | _::_,0=>Uj _
 | _::r,i+1=>Nat.succ_le_succ (Zbk r i)
def ZeA (b):∀ (k) (c:List Value),
  Vp (fun x1 f=>x1++f) c.toArray (QR k b.toArray)=(c++(QR k b).flatten).toArray
 | 0,c=>by simp
 | k+1,c=>by
  have e:c.toArray++b.toArray=(c++b).toArray:=by simp
  have e2:c++b++(QR k b).flatten=c++(QR (k+1) b).flatten:=by
   rw[RW,R9,Ud]
  rw[←e2,←ZeA b k _,←e,RW,Ry]
section
variable {X:Cx} {pins:List (Addr×Obj)} {σ:St} {H:Hp} {s:Shared} {l b:Addr} {xs ys zs:List V}
def Inv.lset {b its':List Value} (I:Inv X pins σ H s) (d:H l=some (.lst xs))
  (e:s.heap.get? l=some {cls:=.type "list",data:=.seq b.toArray n}) (g:f b.toArray=its'.toArray) (i:Vals ys its') (hz:ys.length<=sizeLine) :
  Inv X pins σ (upd H l (.lst ys)) {s with heap:=s.heap.update l (Obj.mapSeq f),toks:=t'}:=by
 have q:=PySem.IsL.update e f;rw[g]at q;exact I.write (by exact d▸trivial) (.inl rfl) (fun j u c h=>(Q5 s.heap _ (Ne.symm c)).trans h) ⟨_,q⟩ ⟨hz,_,_,i,q⟩
def Inv.lnew (I:Inv X pins σ H s) (c:Vals ys its) (hz:ys.length<=sizeLine) :
  Inv X pins σ (upd H s.heap.objs.size (.lst ys)) {s with heap:=s.heap.push {cls:=.type "list",data:=.seq its.toArray},toks:=t'} :=
 I.laid (fun _ _ q=>Qi _ q) (Ql _) ⟨hz,its,0,c,Qs _ rfl⟩
def Inv.fresh (I:Inv X pins σ H s):H s.heap.objs.size=none:=I.hok.fresh (Ql _)
def Inv.lstM (I:Inv X pins σ H s) (c:H l=some (.lst xs)):xs.length<=sizeLine/\∃ (a:List Value) (n:Nat),Vals xs a/\xs.length=a.length/\s.heap.get? l=some {cls:=.type "list",data:=.seq a.toArray n}:=by
 obtain⟨z,a,n,r,e⟩:=I.hok l _ c;exact⟨z,a,n,r,r.length,e⟩
def ZgM (h:n<=sizeLine):Builtin.List.listTooLong n=false:=decide_eq_false (by lia)
end
section
variable {X:Cx}
def ZjF:V->List V->Hp->VK->Prop:=fun x vs H Q=>∃ l xs y,x= .ref l/\vs=[y]/\H l=some (.lst xs)/\xs.length<sizeLine/\Q .non (upd H l (.lst (xs++[y])))
def Zep:MtM X "list.append" ZjF:=by
 intro c s σ H x o v m Q I d f h;refine Po h fun l i y r0 r1 b k q=>?_;subst r0;subst r1;cases d;obtain⟨u,rfl,g⟩:=f.one;refine Pq (I.lstM b) fun z a n r j e=>?_;refine Ow F.slot_list_append ⟨_,e,rfl⟩ F.entry_list_append (F.args_list_append_2 _ _) (PySem.list_append l a.toArray n u (by rw[Qu];exact S9 k j)) ⟨e,⟨.non,_,I.lset b e (by simp) (r.append (.cons g .nil)) ?_,rfl,q⟩⟩;rw[Qm,QD];exact k
def ZjD:V->List V->Hp->VK->Prop:=fun x vs H Q=>∃ l b xs zs,x= .ref l/\vs=[.ref b]/\H l=some (.lst xs)/\H b=some (.lst zs)/\xs.length+zs.length<=sizeLine/\Q .non (upd H l (.lst (xs++zs)))
def Zkp:MtM X "list.extend" ZjD:=by
 intro i s σ H x D v A Q I p t h;refine Ps h fun l b E y r0 r1 g k C q=>?_;subst r0;subst r1;cases p;obtain⟨u,rfl,rfl⟩:=t.one;have⟨z,c,n,r,B,e⟩:=I.lstM g;have⟨G,a,j,w,o,m⟩:=I.lstM k;have f:c.toArray.size+a.toArray.size<=sizeLine:=by rw[Qu,Qu];exact To C B o
 have d:¬ (!c.toArray.isEmpty&&Builtin.List.listTooLong (c.toArray.size+a.toArray.size))=true:=by
  rw[ZgM f];simp
 refine Ow F.slot_list_extend ⟨_,e,rfl⟩ F.entry_list_extend (F.args_list_extend_2 _ _)
  (AutoSeq1.list_extend_list_list_0 l c.toArray n b a.toArray j d (K3 f) (K2 f)) ⟨e,m,⟨.non,_,I.lset g e (by simp) (r.append w) ?_,rfl,q⟩⟩
 rw[Qm];exact C
def Zs2:V->List V->Hp->VK->Prop:=fun x vs H Q=>∃ l xs y,x= .ref l/\vs=[]/\H l=some (.lst xs)/\xs[xs.length-1]?=some y/\Q y (upd H l (.lst xs.dropLast))
def Zrk:MtM X "list.pop" Zs2:=by
 intro f s σ H x o v t Q I g i h;refine Po h fun l p y r0 r1 d j q=>?_;subst r0;subst r1;cases g;have b:=i.zero;subst b;refine Pq (I.lstM d) fun z a n r m e=>?_;obtain⟨u,w,k⟩:=r.get j;have c:=by
  show a.toArray[a.length-1]?=some u;rw[←Uv,←m];omega
 refine Ow F.slot_list_pop ⟨_,e,rfl⟩ F.entry_list_pop (F.args_list_pop_1 _) (MeetsSeq.list_pop_last l a.toArray n u c (by rw[Qu];exact Ka z m)) ⟨e,⟨y,_,I.lset d e ?_ r.dropLast ?_,k,q⟩⟩;simp;rw[RK];exact Ta z
def ZnQ:V->List V->Hp->VK->Prop:=fun x vs H Q=>∃ l xs i k y,x= .ref l/\vs=[.int i]/\H l=some (.lst xs)/\-(2 ^ 63)<=i/\i<2 ^ 63/\seqIndex? i xs.length=some k/\xs[k]?=some y/\Q y (upd H l (.lst (xs.eraseIdx k)))
def ZmC:MtM X "list.pop" ZnQ:=by
 intro d s σ H x E v D Q I o p h;obtain⟨l,B,i,k,y,rfl,rfl,c,m,f,G,g,q⟩:=h;cases o;obtain⟨u,rfl,j⟩:=p.one;obtain⟨t,rfl⟩:=j;refine Pq (I.lstM c) fun z b n r A e=>?_;obtain⟨w,C,a⟩:=r.get g;refine Ow F.slot_list_pop ⟨_,e,rfl⟩ F.entry_list_pop (F.args_list_pop_2 _ _)
  (MeetsSeq.list_pop_at l b.toArray n i t k w (fitsIndex_both m f) (by rw[Qu,←A];omega) (by rw[←Uv];omega) (by rw[Qu];exact Ka z A)) ⟨e,⟨y,_,I.lset c e ?_ (r.eraseIdx k) ?_,a,q⟩⟩;simp;have:=Zbk B k;exact Tp z this
def Zts:R2:=fun x y H Q=>∃ l b xs zs,x= .ref l/\y= .ref b/\H l=some (.lst xs)/\H b=some (.lst zs)/\xs.length+zs.length<=sizeLine/\∀ p,H p=none->Q (.ref p) (upd H p (.lst (xs++zs)))
def Zd0:OpR X (OJ .Add) Zts:=by
 intro f s σ H x y v u Q I t g h;obtain⟨l,b,w,E,rfl,rfl,o,i,B,q⟩:=h;cases t;cases g;have⟨z,c,n,r,A,e⟩:=I.lstM o;have⟨C,a,D,p,k,m⟩:=I.lstM i;refine PySem.P.add_list e m ?_ (by rw[Qu,Qu];exact To B A k);have j:c.toArray++a.toArray=(c++a).toArray:=by simp
 exact j▸⟨.ref _,_,I.lnew (r.append p) (by rw[Qm];exact B),rfl,q _ I.fresh⟩
def Ztr:R2:=fun x y H Q=>∃ l k xs,x= .ref l/\y= .int k/\H l=some (.lst xs)/\-(2 ^ 63)<=k/\k<2 ^ 63/\xs.length*k.toNat<=sizeLine /\
 ∀ p,H p=none->Q (.ref p) (upd H p (.lst (QR k.toNat xs).flatten))
def ZpC {α:Type} (xs:List α) (k):(QR k xs).flatten.length=k*xs.length:=by
 simp
def ZnY:OpR X (OJ .Mult) Ztr:=by
 intro A s σ H x y v u Q I B K h;obtain⟨l,k,N,rfl,rfl,C,J,M,P,q⟩:=h;cases B;obtain⟨t,rfl⟩:=K;refine Pq (I.lstM C) fun z b n r D e=>?_;have f:b.toArray.size*k.toNat<=sizeLine:=by rw[Qu,←D];exact P
 have i:¬ b.toArray.size*k.toNat>(2 ^ 63-1) / 8:=by
  have:(sizeLine:Nat)<=(2 ^ 63-1) / 8:=by decide
  lia
 have g:¬ (!Builtin.List.listFitsIndex k)=true:=by
  rw[fitsIndex_both J M];simp
 have d:¬ Builtin.List.listTooLong (b.toArray.size*k.toNat)=true:=by
  rw[ZgM f];simp
 have j:Vp (fun p o=>p++o) #[] (QR (if b.toArray.isEmpty=true then 0 else k.toNat) b.toArray)=(QR k.toNat b).flatten.toArray:=by
  have E:∀ m:Nat,Vp (fun p o=>p++o) #[] (QR m b.toArray)=(QR m b).flatten.toArray:=fun m=>by
   have:=ZeA b m []
   simp_all
  rw[E];cases b with
  | nil=>simp
  | cons a O=>simp
 exact wpAny_binaryOp_repeat_ref (T:="list") (U:="int") (by decide) ⟨_,e,rfl⟩ (fun L=>typeIs_int L k t) noFill_list_mul F.fills_int_mul F.slot_int_rmul repeat_list F.slot_int_index.lookup
  (Ow F.slot_int_rmul (typeIs_int s k t) F.entry_int_rmul (F.args_int_rmul_2 _ _) (int___rmul___int_list k t l b.toArray n)
   ⟨e,rfl,⟨_,e,rfl⟩,Ow F.slot_list_mul ⟨_,e,rfl⟩ F.entry_list_mul (F.args_list_mul_2 _ _) (AutoListH.list___mul___list_int_3 l b.toArray n k t g i d) ⟨e,j▸⟨.ref _,_,I.lnew (t':=s.toks) (r.rep k.toNat) (by rw[ZpC,R1];exact P),rfl,q _ I.fresh⟩⟩⟩)
end
section
variable {prog:Oc} {w:Of} {A:Around} {E:Value->Shared->Prop} {s:Shared}
end
section
variable {X:Cx}
end
end L2
namespace Att
open PySem PySem.W PySem.Calls PyProof.Rows
def Zbo:∀ (ns) (vs),WellAll P h vs (ns.map WData.int)->GD vs ns:=by
 intro ns;induction ns with
 | nil =>
  intro vs w;cases w;exact .nil
 | cons n ns d =>
  intro vs w;cases w with
  | cons a b =>
   cases a;exact .cons _ _ (d _ b)
def Zji {l:OpenLaw} (y:l.most=some n)
  (c:l.row.toRowW.claim.pre b=true) (j:WellAll P h g b) :
  ∃ a vs ns,g=[Value.ref a]/\b=[WData.list (ns.map WData.int)]/\h.get? a=some {cls:=.type "list",data:=.seq vs.toArray}/\GD vs ns/\ns.length<=n:=by
 have p:l.pre.holds [] _=true:=(pre_splitW c).2;refine Pi (hasAllW_cons ((pre_splitW c).1)) fun d r r0 v w=>?_;subst r0;obtain rfl:=hasAllW_nil w;obtain⟨z,rfl,t⟩:=hasW_list v;obtain⟨ns,rfl⟩:=items_int t;have e:ns.length<=n:=by
  have o:(WTm.not (.lt (.lit (.int n)) (.len (.arg 0)))).holds [] {args:=[.list (ns.map .int)]}=true:=by
   have o:=(holds_andW p).1
   simp_all
  have A:=condW_of o (w_not (w_lt w_lit (w_len_list (w_arg rfl))));exact Vf fun q=>(by simp_all)
 cases j with
 | cons s x =>
  cases x;cases s with
  | list u f=>exact⟨_,_,ns,rfl,rfl,u,Zbo ns _ f,e⟩
def ZjL (l:OpenLaw) (a):l.row.toRowW.claim.post a (.bool true) a=true :=
 postW_of
  (by rfl)
  (w_eq_bool (w_res rfl) w_lit) rfl
def attach_call {l:OpenLaw}
  (U:l.most=some n) (z:d.params.defaults=[])
  (call:∀ (w) (c b) (s v) (i) (o) (A p h) (a) (vs) (ns),
   Ground q e [] F w c s v b.heap->J w b.heap ->
   b.heap.get? i=some o->o.data= .func (docDef d.name d.params d.body d.scope A p h)->b.heap.CodeRec p d.name->s d.name=some (.ref i) ->
   b.heap.get? a=some {cls:=.type "list",data:=.seq vs.toArray}->GD vs ns->ns.length<=n->b.gens= #[] ->
   Oy (Od l.prog w) Gj (.call (.ref i) ⟨[.ref a],[]⟩) (fun r t=>r= .ok (.ret (.bool true))/\OldK b.heap t.heap/\t.os=b.os/\O3 t.gens) b) :
  WalkO q e F J l.row.toRowW d [] (fun f vs=>PySem.call f vs):=by
 intro w c b s v G Y i o A p h O K M T u E y N C D V k B S x R;obtain rfl:O= .none:=Dflts.none E z;obtain rfl:K= .none:=Dflts.noKw E;refine Po (Zji U k x) fun a vs ns r0 r1 j g m=>?_;subst r0;subst r1;refine enter_call (OK (call w c b s v i o A p h a vs ns G Y M (fd_plain T) u y j g m N) fun r t Q=>?_);obtain⟨rfl,P,L,I⟩:=Q;exact⟨.inl ⟨_,_,[],rfl,fun _=>rfl,.bool true,ZjL l _,fun _=>⟨List.Pairwise.nil,fun _ H=>nomatch H⟩⟩,P,L,I⟩
section
variable {prog:Oc} {w:Of} {A:Around} {E:Value->Shared->Prop} {s:Shared} {K:Frag}
end
end Att
namespace L2
open PySem PySem.Spec PyProof.Rows
def ZdA:∀ {vs} {ns},GD vs ns->Vals (ns.map V.int) vs
 | _,_,.nil=>.nil
 | _,_,.cons n t h=>.cons ⟨t,rfl⟩ (ZdA h)
def ZsT (H:Hp):Prop:=∀ b,H b=none\/∃ o xs,H b=some (.frz o (.lst xs))
def ZmK {K}
  (KX:K.In c.heap) (hns:c.heap.Ns Oh mg) (g:c.heap.Ns builtinsNs mb) (hbb:∀ x:Str,x≠"__name__"->mb x=Oi x) (hlim:c.heap.NoLimit) (hg:c.gens= #[])
  (ha:c.heap.get? a=some {cls:=.type "list",data:=.seq vs.toArray}) (hi:GD vs ns) (hl:ns.length<=sizeLine) (hr:Room k Gj)
  (F:∀ base,K.In base->base.Ns Oh mg->FnOk P w K mg base CX k fa fd [x] sp) (p:∀ (s) (u),Gr s fd ⟨[u],[]⟩ [(x,u)])
  (hsp:∀ H,ZsT H->SqL K H a (ns.map V.int)->sp [.ref a] H (fun v _=>v= .bl true) fun _ _ _=>False)
  (hCX:∀ H e i,CX [] H c (fun _ _ _=>False) e i->False) :
  Oy (Od P w) Gj (.call (.ref fa) ⟨[.ref a],[]⟩) (fun r i=>r= .ok (.ret (.bool true))/\OldK c.heap i.heap/\i.os=c.os/\O3 i.gens) c:=by
 have rv:=ZdA hi;have l:∀ H:Hp,ZsT H->SqL K H a (ns.map V.int)->HOk P w H c.heap->(∀ b,H b≠none->b=a)->(H a≠none->K.lookup a=none) ->
   Oy (Od P w) Gj (.call (.ref fa) ⟨[.ref a],[]⟩) (fun r i=>r= .ok (.ret (.bool true))/\OldK c.heap i.heap/\i.os=c.os/\O3 i.gens) c:=by
  intro H hO hS hok hA hK;have f:∀ {b:Addr} {o:Obj},c.heap.get? b=some o->H b=none->(ZmQ c.heap H).get? b=some o:=fun e n=>ZmP e n;have noA:∀ {b:Addr} {o:Obj} {es:Array DictEntry} {ep:Nat},c.heap.get? b=some o->o.data= .dict es ep->H b=none:=fun {b o es ep} e d=>by
   cases q:H b with
   | none=>rfl
   | some u =>
    have e':b=a:=hA b (by rw[q];simp);subst e';rw[ha]at e;cases e;have d':Data.seq vs.toArray _=Data.dict es ep:=d;cases d'
  have j:∀ {b:Addr} {m:Str->Option Value},c.heap.Ns b m->(ZmQ c.heap H).Ns b m:=fun {b m} ⟨o,es,ep,e,d,r⟩=>⟨o,es,ep,f e (noA e d),d,r⟩
  have hKb:K.In (ZmQ c.heap H):=fun b o e=>f (KX b o e) (by
   cases q:H b with
   | none=>rfl
   | some u =>
    have e':b=a:=hA b (by rw[q];simp);subst e';rw[hK (by rw[q];simp)]at e;cases e)
  have hM:Mod K mg (ZmQ c.heap H):=⟨hKb,j hns,⟨mb,j g,hbb⟩,let ⟨mc,h1,h2⟩:=hlim;⟨mc,j h1,h2⟩⟩
  have e0:Env0 P w K mg (ZmQ c.heap H) Gj [] c H:=⟨rfl,hM,fun b o e=>Zpm e,Nat.le_of_eq (ZkI _ _),trivial,fun b g=>absurd (show b∈([]:List Addr)from g) (by simp),hok,.of_eq hg⟩
  refine OK ((F _ hKb (j hns)).run Gj [] c H ⟨[.ref a],[]⟩ [.ref a] [.ref a] _ _ hr e0 (p c (.ref a)) (.cons rfl .nil) (hsp H hO hS)) fun r i h=>?_;cases r with
  | error e=>exact(hCX H e i h).elim
  | ok fl =>
   cases fl with
   | next=>exact False.elim h
   | brk=>exact False.elim h
   | cont=>exact False.elim h
   | ret u =>
    obtain⟨v,H',os,bare,un,hok',r',q⟩:=h;have q':v= .bl true:=q;subst q';obtain rfl:u=Value.bool true:=r';refine⟨rfl,OldK.of_keep fun b o e=>?_,os,bare⟩;cases q:H b with
    | none=>exact un.keep b o e q (by intro z;exact absurd (show b∈([]:List Addr)from z) (by simp)) (by simp)
    | some u =>
     rcases hO b with z | ⟨ob,xs,z⟩
     simp_all
     obtain⟨e1,_⟩:=hok b _ z;obtain⟨e2,_⟩:=hok' b _ (un.frzs b ob _ z);rw[e]at e1;cases e1;exact e2
 cases hk:K.lookup a with
 | some o =>
  -- the script is one of the module's own objects
  have e:=KX a o hk;rw[ha]at e;cases e;refine l (fun _=>none) (fun _=>.inl rfl) (.inr ⟨_,vs.toArray,_,hk,rfl,rfl,rfl,by rw[Qu,hi.length];exact hl,by simpa using rv⟩) (fun b u z=>by have z':(none:Option HO)=some u:=z;cases z') (fun b z=>absurd rfl z) fun z=>absurd rfl z
 | none =>
  refine l (fun b=>if b=a then some (.frz {cls:=.type "list",data:=.seq vs.toArray} (.lst (ns.map V.int)))else none) (fun b=>?_) (.inl (.inr ⟨{cls:=.type "list",data:=.seq vs.toArray},if_pos rfl⟩)) (fun b u z=>?_) (fun b z=>?_) fun _=>hk
  by_cases g:b=a
  exact .inr ⟨_,_,if_pos g⟩
  exact .inl (if_neg g)
  by_cases g:b=a
  have z':=(if_pos g).symm.trans z;cases z';subst g;exact⟨ha,by rw[Qc];exact hl,vs,_,rv,ha⟩
  cases ((if_neg g).symm.trans z)
  by_cases g:b=a
  exact g
  exact absurd (if_neg g) z
def walk_of {l:PySem.W.OpenLaw} {K:Params->PySem.W.Frag} {CX:Of->CXT} {sp:Of->Sp}
  (J:l.most=some n) (r:n<=sizeLine) (z:d.params.defaults=[]) (T:Room k Gj)
  (O:∀ (w) (h),N w h->(K w.params).In h)
  (F:∀ (w) (g) (m) (h),(K w.params).In h->h.Ns Oh g->g d.name=some (.ref m) ->
   ∃ t,(∀ (s) (u),Gr s t ⟨[u],[]⟩ [(x,u)]) /\
    ∀ base,(K w.params).In base->base.Ns Oh g->FnOk l.prog w (K w.params) g base (CX w) k m t [x] (sp w))
  (p:∀ (w) (H) (a) (ns:List Int),ns.length<=n->ZsT H->SqL (K w.params) H a (ns.map V.int)->sp w [.ref a] H (fun v _=>v= .bl true) fun _ _ _=>False)
  (A:∀ (w) (H) (s) (e) (y),CX w [] H s (fun _ _ _=>False) e y->False) :
  PySem.W.WalkO q C W N l.row.toRowW d [] (fun f vs=>PySem.call f vs):=by
 refine Att.attach_call J z fun w D i g mb m o pm X L a vs ns G Y U Z R B j c b Q=>?_;have E:=O w _ Y;obtain⟨t,S,M⟩:=F w g m _ E G.T.g B;exact ZmK E G.T.g G.T.b G.T.builtins G.T.nolimit Q j c (QO b r) T M S (fun H I P=>p w H a ns b I P) fun H e y=>A w H i e y
noncomputable def ZpN (s:Stmt) (j:Nat):Stmt:=match s with
 | .ClassDef _ _ _ body _ _ _ _ _ _ _=>body.getD j (.Pass ⟨0,0,0,0⟩)
 | _=>.Pass ⟨0,0,0,0⟩
noncomputable def Ya (s:Stmt):Arguments:=match s with
 | .FunctionDef _ a _ _ _ _ _ _ _ _=>a
 | _=>{posonlyargs:=[],args:=[],vararg:=none,kwonlyargs:=[],kw_defaults:=[],kwarg:=none,defaults:=[]}
noncomputable def ZR (s:Stmt):List Stmt:=match s with
 | .FunctionDef _ _ b _ _ _ _ _ _ _=>b
 | _=>[]
noncomputable def Zf (s:Stmt):Scope:=match s with
 | .FunctionDef _ _ _ _ _ _ sc _ _ _=>sc
 | _=>{kind:=.function,names:=[],isGenerator:=false,isCoroutine:=false}
abbrev CX0:CXT:=fun _ _ _ _ _ _=>False
abbrev E0:XK:=fun _ _ _=>False
def Zsu:Jf CX0 X E0:=fun _ _ _ _ _ _ _ h=>h.elim
structure Fun (K:PySem.W.Frag) (x qual:Str) (st:Stmt) (f:Addr) (fd:O2):Prop where
 ex:∃ (oc:Value) (od:Option Addr) (kV doc pm:Value) (an:Option Addr) (cdv ct:Value) (osl:Array (Option Value)),
  fd=PySem.W.fnOf x qual (Ya st) (ZR st) (Zf st) .none kV doc pm an cdv ct/\K.lookup f=some ⟨oc,od,.func fd,osl⟩/\PySem.W.codeIn K cdv qual=true
 kp:PySem.W.keepIn K (.ref f)=true
section
variable {P:Oc} {w:Of} {K:PySem.W.Frag} {mg:Str->Option Value} {base:Heap}
def Fun.ok {st} (F:Fun K x c st f u) (S:Zm N ps (Zf st)) (g:∀ vs H Q E,sp vs H Q E->vs.length=ps.length)
  (d:∀ (b) (A) (a) (s) (H) (vs) (Q) (E),Room k (A.deeper (OT c (Zf st) s.heap.objs.size f b))->sp vs H Q E ->
   ∃ t,PSs (ZeL CX0 P w K mg base N c (Zf st) f b A a s H E).nox (ZR st) t/\t {nx:=fun _ j=>Q .non j,rt:=Q} (start N vs) H):FnOk P w K mg base CX0 (k+1) f u ps sp:=by
 obtain⟨B,v,kV,m,C,z,b,y,r,rfl,l,i⟩:=F.ex;refine ZpY l i S g fun A a s H vs Q E p e=>?_;obtain⟨t,h,q⟩:=d b A a s H vs Q E p e;exact⟨t,h.nox,q⟩
def Fun.binds {st} (F:Fun K x c st f k)
  (h:∀ (kV b d) (i) (a g) (e),e.length=ps.length->O9 (PySem.W.fnOf x c (Ya st) (ZR st) (Zf st) .none kV b d i a g) ⟨e,[]⟩=pure (ps.zip e)):Binds K k ps []:=by
 obtain⟨l,m,kV,b,d,i,a,g,j,rfl,_⟩:=F.ex;exact .all (h kV b d i a g)
def ZkT {st} {kV d e b h} (l:K.lookup f=some ⟨m,j,.func (PySem.W.fnOf x a (Ya st) (ZR st) (Zf st) .none kV d e i b h),g⟩)
  (c:PySem.W.codeIn K b a=true) (k:PySem.W.keepIn K (.ref f)=true):Fun K x a st f (PySem.W.fnOf x a (Ya st) (ZR st) (Zf st) .none kV d e i b h):=⟨⟨m,j,kV,d,e,i,b,h,g,rfl,l,c⟩,k⟩
end
def Zdd (a:Room k A):A.units+1<OW:=WB (Nat.add_le_add_left (by decide) _) a.units
def ZC (h:n<=1000):n<sizeLine:=WB h (by decide)
section
variable {X:Cx}
def pv (i) {a} (c:X.N[i]?=some x:=by rfl) (d:Vis X.env.scope x:=by first | exact Or.inl rfl | exact Or.inr (.inl rfl) | exact Or.inr (.inr rfl)) (e:(x==("__debug__"))=false:=by decide)
  (b:(x==("__classdict__"))=false:=by decide):PE X (.Name x a) (Ze7 i):=Zq0 c d e b
def ZeR:CallR X (.builtin "len") (fun xs H Q=>∃ a kvs,xs=[V.ref a]/\H a=some (.dK kvs)/\Q (.int kvs.length) H):=by
 intro b s σ H xs f Q I r h;obtain⟨a,kvs,rfl,d,q⟩:=h;obtain⟨u,rfl,rfl⟩:=YL r;exact ZrI I (.inl d) fun t e c=>⟨.int kvs.length,H,c,⟨t,rfl⟩,q⟩
end
def Xw {A B:Prop} (h:B):if false=true then A else B:=by
 simp_all
def Zca {A B:Prop} (h:A):if true=true then A else B:=by
 simp_all
def Zdx {c A B:Prop} [Decidable c] (a:c->A) (b:¬ c->B):if c then A else B:=by
 simp_all
def Zrx {c A B:Prop} [Decidable c] (a:c) (h:B):if (!decide c)=true then A else B:=by
 simp_all
def Same (H H':Hp):Prop:=∀ b o,H b=some o->H' b=some o
def Same.refl (H):Same H H:=fun _ _ h=>h
def Same.trans (a:Same H d) (b:Same d e):Same H e:=fun c o h=>b c o (a c o h)
def Same.free (e:Same H a) (h:a l=Option.none):H l=Option.none:=by
 cases q:H l with
 | none=>rfl
 | some o =>
  rw[e l o q]at h;omega
def Same.seq {K} (e:Same H b) (h:SqL K H a xs):SqL K b a xs:=by
 rcases h with (h | ⟨o,h⟩) | h
 exact .inl (.inl (e _ _ h));exact .inl (.inr ⟨o,e _ _ h⟩);exact .inr h
section
variable {κ:Type} [DecidableEq κ]
def Zkf:∀ {l} {k:κ},l.Nodup->¬ k∈l->(l++[k]).Nodup
 | [],k,_,_=>by simp
 | a::r,k,h,c=>by
  obtain⟨e,d⟩:=QX.mp h;exact QX.mpr ⟨fun m=>(by simp_all),Zkf d fun m=>c (Qx.mpr (Or.inr m))⟩
end
noncomputable def XJ (env:Env):List (Str×NameKind)->List (Str×Addr)->List (Str×Addr)
 | [],cs=>cs
 | y::r,cs=>XJ env r (if y.2==NameKind.free then (y.1,(env.cells.lookup y.1).getD 0)::cs else cs)
def Zbr (f:Str×NameKind->List _->Sem _) :
  ∀ (ns) (a),(∀ y∈ns,∀ c,f y c=pure (.yield (if y.2==NameKind.free then (y.1,(env.cells.lookup y.1).getD 0)::c else c))) ->
   forIn ns a f=pure (XJ env ns a)
 | [],a,_=>rfl
 | y::r,a,h=>by
  rw[List.forIn_cons,h y Qd];exact Zbr f r _ fun z d=>h z (Qg _ d)
def JT (h:∀ y∈b.names,y.2= .free->∃ c,env.cells.lookup y.1=some c) :
  closureFor b env=pure (XJ env b.names []):=by
 simp only[closureFor];rw[Zbr _ _ _ fun y f c=>?_];rfl;obtain⟨n,k⟩:=y;cases e:k==NameKind.free with
 | true =>
  obtain⟨a,d⟩:=h _ f (by simpa using e);simp[if_true,cellOf,d,UX,pure_bind]
 | false=>simp
def ZeN:∀ (ns) (b),(∀ y∈ns,y.2= .free->∃ c,env.cells.lookup y.1=some c) ->
  (∀ n c,b.lookup n=some c->env.cells.lookup n=some c)->∀ n c,(XJ env ns b).lookup n=some c->env.cells.lookup n=some c
 | [],b,_,h,n,c,e=>h n c e
 | y::r,b,d,h,n,c,e=>by
  refine ZeN r _ (fun z f=>d z (Qg _ f)) (fun n c e=>?_) n c e;split at e
  obtain⟨a,i⟩:=d y Qd (by simp_all);cases g:n==y.1 with
  | true =>
   simp_all
  | false =>
   simp[UC,g]at e
   simp_all
  simp_all
def Zbx:∀ (ns) (b) (n),((n,NameKind.free)∈ns\/(b.lookup n).isSome=true) ->
  ((XJ env ns b).lookup n).isSome=true
 | [],b,n,h=>by
  rcases h with h | h
  cases h
  trivial
 | y::r,b,n,h=>by
  refine Zbx r _ n ?_;rcases h with h | h
  rcases Qx.mp h with h | h
  subst h;simp;exact .inl h
  right
  split
  cases c:n==y.1 with
  | true=>simp only[UC,c];rfl
  | false=>simp only[UC,c];omega
  omega
noncomputable def Zqj (env:Env) (n:Str) (k:NameKind):NameKind:=if (k==NameKind.free&&env.scope.kind==.function&&env.kindOf n==some .cell)=true then .cell else k
def Zb1 (env) (x):∀ a:List _,
  (a.map fun(n,k)=>if (k==NameKind.free&&env.scope.kind==.function&&env.kindOf n==some .cell)then (n,NameKind.cell)else (n,k)).lookup x=(a.lookup x).map (Zqj env x)
 | []=>rfl
 | (n,k)::r=>by
  have e:=Zb1 env x r;have d:(if (k==NameKind.free&&env.scope.kind==.function&&env.kindOf n==some .cell)=true then (n,NameKind.cell)else (n,k))=(n,Zqj env n k):=by
   unfold Zqj;split <;> rfl
  show Ra x ((if (k==NameKind.free&&env.scope.kind==.function&&env.kindOf n==some _)=true then (n,NameKind.cell)else (n,k))::_)=_;rw[d];cases b:x==n with
  | true =>
   simp only[UC,b];rw[eq_of_beq b];rfl
  | false =>
   simp only[UC,b];omega
def Zaq (a) (env) (x):(Gu a env).names.lookup x=(a.names.lookup x).map (Zqj env x):=Zb1 env x a.names
noncomputable def lcN (N xs:List Str) (mp:List Nat):List Str:=xs++mp.map fun j=>N.getD j ""
noncomputable def lcS (k:Nat) (mp:List Nat) (σ:St):St:=QR k none++mp.map fun j=>(σ[j]?).getD none
structure Zqp (sc scope:Scope) (N xs:List Str) (mp:List Nat):Prop where
 kind:scope.kind= .function
 nocell:∀ y∈scope.names,y.2≠.cell
 names:∀ y∈scope.names,y.2= .local->scope.names.lookup y.1=some .local
 tg:∀ x∈xs,scope.names.lookup x=some .local
 fr:∀ y∈scope.names,y.2= .free->sc.names.lookup y.1=some .cell\/sc.names.lookup y.1=some .free
 out:∀ j∈mp,scope.names.lookup (N.getD j "")=some .free
 nd:(lcN N xs mp).Nodup
noncomputable def ZmJ (sc scope:Scope) (N xs:List Str) (mp:List Nat):Bool :=
 decide (scope.kind= .function)&&scope.names.all (fun y=>decide (y.2≠.cell))&&scope.names.all (fun y=>decide (y.2= .local->scope.names.lookup y.1=some .local)) &&
  xs.all (fun x=>decide (scope.names.lookup x=some .local))&&scope.names.all (fun y=>decide (y.2= .free->sc.names.lookup y.1=some .cell\/sc.names.lookup y.1=some .free)) &&
  mp.all (fun j=>decide (scope.names.lookup (N.getD j "")=some .free))&&decide (lcN N xs mp).Nodup
def ZgW (h:ZmJ d a N xs k=true):Zqp d a N xs k:=by
 simp only[ZmJ,QW,Q4,decide_eq_true_eq]at h;obtain⟨⟨⟨⟨⟨⟨j,g⟩,c⟩,f⟩,b⟩,e⟩,i⟩:=h;exact⟨j,g,c,f,b,e,i⟩
noncomputable abbrev lcx (X:Cx) (M:List Str) (scope:Scope) (cl:List (Str×Addr)) (C:Addr) (s₀:Shared) (H₀:Hp) (fp:List Addr):Cx where
 prog:=X.prog
 w:=X.w
 K:=X.K
 mg:=X.mg
 base:=X.base
 A:=X.A
 N:=M
 s₀:=s₀
 H₀:=H₀
 env:=compEnvC scope cl C X.env
 outer:=X.stack
 stack:=X.stack
 ex:=fp
 fn:=fun _=>false
 calm:=X.calm
 pn:=[]
 xe:=fun _ _=>False
section
variable {X:Cx} {pins:List (Addr×Obj)} {σ:St} {H₀:Hp} {s₀:Shared} {scope sc:Scope} {N xs:List Str} {mp:List Nat} {fp:List Addr}
def Zc4 (I:Inv X pins σ H₀ s₀) (b:X.env.scope=sc) (S:Zqp sc scope N xs j):∀ y∈scope.names,y.2= .free->∃ c,X.env.cells.lookup y.1=some c:=fun y i e=>by
 refine I.ok.has y.1 ?_;have q:=S.fr y i e;rw[←b]at q;exact q
def Zn4 (I:Inv X pins σ H₀ s₀) (b:X.env.scope=sc) (S:Zqp sc scope N xs i) {n} {c} (e:(XJ X.env scope.names []).lookup n=some c):X.env.cells.lookup n=some c :=
 ZeN scope.names [] (Zc4 I b S) (fun _ _ z=>nomatch z) n c e
def Zrp (I:Inv X pins σ H₀ s₀) (A:X.env.scope=sc) (S:Zqp sc scope N xs mp) (w:∀ b∈fp,Zga X pins H₀ b)
  (hx:∀ b∈fp,∃ r,s₀.heap.get? b=some r) (B:h₁.Ns s₀.heap.objs.size m) (D:Heap.SameBut s₀.heap.objs.size (s₀.heap.push o) h₁) :
  Inv (lcx X (lcN N xs mp) scope (XJ X.env scope.names []) s₀.heap.objs.size s₀ H₀ fp) [] (QR (xs.length+mp.length) none) H₀ {s₀ with heap:=h₁,toks:=tk}:=by
 have E:=fun b u e=>D.extBut b u (QJ (Qw e)) (Qi _ e);have j:=@Zn4 X pins σ H₀ s₀ scope sc N xs mp I A S;refine⟨⟨I.ok.mod,S.kind,I.ok.glob,I.ok.blt,Ql _,fun x y c e1 s=>I.ok.inj x y c (j e1) (j s),fun x hk=>?_,fun x c h _=>(QV h).elim,I.ok.hd,I.ok.frames,.inl rfl,
  fun b n=>⟨?_,fun x c e=>(w b n).2.2.2.2.1 x c (j e)⟩,fun b o e=>I.bs b o e,QO I.ok.bsz I.sz,fun b o e n=>?_,fun b n z=>?_,I.stack,I.stkFree⟩,
  rfl,I.bare,Un.kept E,⟨m,B,fun i x v _ s _=>?_⟩,fun x c e=>?_,I.hok.fresh (Ql _),fun x c e=>I.freeC x c (j e),fun p hp=>absurd hp (by simp),I.hok.kept E,?_⟩
 have f:(Gu scope X.env).names.lookup x=some _\/(Gu scope X.env).names.lookup x=some _:=hk;rw[Zaq]at f;cases e:scope.names.lookup x with
 | none=>rw[e]at f;rcases f with z | z <;> cases z
 | some k =>
  have t:=PySem.mem_of_lookup e;have F:k= .free:=by
   rw[e]at f;have n1:=S.nocell _ t;simp[We,Option.some.injEq]at f;unfold Zqj at f;split at f
   simp_all
   simp_all
  subst F;exact UM.mp (Zbx scope.names [] x (.inl t))
 obtain⟨r,e⟩:=hx b n;exact QJ (Qw e)
 rcases(w b n).2.2.2.1 with z | z
 exact I.ok.noex b o e z
 exact absurd (QU (Qw (I.ok.bs b o e).1) z) (Wo _)
 rcases Qx.mp (I.stkSub b z)with e | e
 exact(w b n).2.1 e
 exact(w b n).2.2.1 e
 rw[WR]at s;split at s <;> cases s
 obtain⟨v,r,ho,hd⟩:=I.cell x c (j e);exact⟨v,r,E c r ho,hd⟩
 simp[lcN]
def ZgU {σ':St} (I:Inv X pins σ H₀ s₀) (hsc:X.env.scope=sc) (hN:X.N=N) (S:Zqp sc scope N xs mp) (hf:∀ b∈fp,Zga X pins H₀ b)
  (J:Inv (lcx X (lcN N xs mp) scope (XJ X.env scope.names []) C s₀ H₀ fp) pY σ' H s'):Inv (lcx X (lcN N xs mp) scope (XJ X.env scope.names []) C s₀ H₀ fp) pY (lcS xs.length mp σ) H s':=by
 obtain⟨m,hn,_⟩:=J.loc;refine⟨J.ok,J.os,J.bare,J.base,⟨m,hn,fun i x v e1 e2 e3=>?_⟩,J.cell,J.free,J.freeC,J.pin,J.hok,?_⟩
 have e1':(lcN N xs mp)[i]?=some x:=e1;unfold lcN at e1';unfold lcS at e2;by_cases hi:i<xs.length
 rw[QS (by simpa using hi),WR,if_pos hi]at e2;cases e2
 rw[QY (by simpa using hi),Uu,Qh]at e2;rw[QY (G7 hi),Qh]at e1';cases ej:mp[i-xs.length]? with
 | none=>rw[ej]at e2;cases e2
 | some j =>
  rw[ej]at e1' e2;have e1'':N.getD j "" = x:=Option.some.inj e1';have e2':(σ[j]?).getD none=some v:=Option.some.inj e2;have e2'':σ[j]?=some (some v):=by
   cases q:σ[j]? with
   | none=>rw[q]at e2';cases e2'
   | some z=>rw[q]at e2';exact congrArg some e2'
  have hj:j<N.length:=by
   have h1:=(Qo.mp e2'').1;rw[I.len,hN]at h1;exact h1
  have fr:scope.names.lookup x=some .free:=by exact e1''▸S.out j (Ww ej)
  have mem:(x,NameKind.free)∈scope.names:=PySem.mem_of_lookup fr;have kX:X.env.scope.names.lookup x=some .cell\/X.env.scope.names.lookup x=some .free:=by
   exact hsc▸S.fr _ mem rfl
  obtain⟨mX,hnX,hl⟩:=I.loc;obtain⟨u,r,lk⟩:=hl j x v (by simp_all) e2'' (.inr kX);rcases lk with ⟨k,_⟩ | ⟨k,c,hc,hcell⟩
  have k':X.env.scope.names.lookup x=some .local:=k;rw[k']at kX;rcases kX with z | z <;> cases z
  refine⟨u,r,.inr ⟨?_,c,?_,?_⟩⟩
  show(Gu scope X.env).names.lookup x=some .cell\/(Gu scope X.env).names.lookup x=some .free;rw[Zaq,fr];simp only[We];unfold Zqj;split
  ·simp
  simp
  obtain⟨c',e'⟩:=UM.mp (Zbx (env:=X.env) scope.names [] x (.inl mem));have e'':=Zn4 I hsc S e';rw[hc]at e'';cases e''
  trivial
  obtain⟨ob,ho,hd⟩:=hcell;obtain⟨sl,q⟩:=J.base.any ho (I.freeC x c hc) fun z=>(hf c z).2.2.2.2.1 x c hc rfl;exact⟨_,q,hd⟩
 simp[lcS,lcN]
def ZpF {h:St} (I:Inv X pins σ H₀ s₀) (f:∀ b∈j,Zga X pins H₀ b)
  (J:Inv (lcx X M scope l C s₀ H₀ j) k h H i):Inv X pins σ H i :=
 I.call' J.os J.base J.hok J.bare fun b e=>⟨(f b e).2.2.2.1,(f b e).2.1,(f b e).2.2.2.2.1,(f b e).2.2.2.2.2⟩
end
def Zf4 (I:Nat->Shared->Prop)
  (d:∀ n s,I n s->Oe (Od prog w) A (pyNext q) (fun r f=>match r with
   | none=>R (.ok .next) f
   | some v=>Oe (Od prog w) A (Gb a q v) (fun _ e=>Oe (Od prog w) A (GE a env v) (fun _ y =>
     Oe (Od prog w) A (forIn o true fun c r=>if r=true then do let b ←isTrue c env (eval c env);pure (ForInStep.yield b)else pure (ForInStep.yield r)) (fun b i =>
      if b=true then Oe (Od prog w) A (eval g env) (fun x B=>Oe (Od prog w) A (call (.builtin "list.append") [k,x]) (fun _ p=>∃ m,m<n/\I m p) (fun _ _=>False) B) (fun _ _=>False) i
      else ∃ m,m<n/\I m i) (fun _ _=>False) y) (fun _ _=>False) e) (fun _ _=>False) f) (fun _ _=>False) s)
  (n) (h:I n s):Oy (Od prog w) A (.compLoop (.ListComp g [⟨a,C,o,0⟩] j D) 0 q k env) R s:=by
 refine codeAny_loop rfl I (fun n s E=>wpAny_noted (Oa (wpAny_standAt (Oa (Ol (d n s E) (fun r f u=>?_) fun _ _ z=>z.elim))))) n h;cases r with
 | none=>exact Ob u
 | some v =>
  refine Oa (Ol u (fun _ e l=>Oa (Ol l (fun _ y G=>Oa (Ol G (fun b i t=>?_) fun _ _ z=>z.elim)) fun _ _ z=>z.elim)) fun _ _ z=>z.elim);cases b with
  | false=>exact Ob ⟨rfl,t⟩
  | true=>exact Oa (Oa (Ol t (fun x B H=>Oa (Ol H (fun _ p F=>Ob (Ob ⟨rfl,F⟩)) fun _ _ z=>z.elim)) fun _ _ z=>z.elim))
def PCs (X:Cx) (ifs:List Expr) (t:TT):Prop :=
 ∀ (pins:List (Addr×Obj)) (s:Shared) (σ:St) (H:Hp) (Q:Bool->Hp->Prop),Inv X pins σ H s->t σ H Q ->
  Oe (Od X.prog X.w) X.A (forIn ifs true fun c r=>if r=true then do let ok ←isTrue c X.env (eval c X.env);pure (ForInStep.yield ok)else pure (ForInStep.yield r)) (TP X pins σ Q) X.xe s
def Znk:TT:=fun _ H Q=>Q true H
def ZD:PCs X [] Znk:=fun _ _ _ H _ I h=>wpAny_tests_nil ⟨H,I,h⟩
def Zac (h:PT X c t):PCs X [c] t:=fun a s σ H Q I b=>wpAny_tests_one (h a s σ H Q I b)
def Xt (k:Nat) (mp:List Nat) (σ:St) (g:TG) (tc:TT) (te:TE) (J:It) (H1:Hp) (Q:VK):Prop :=
 ∀ D,H1 D=none->∃ W:Nat->Nat->List V->Hp->Prop,(∃ m,W 0 m [] (upd H1 D (.lst [])))/\∀ i m acc H2,W i m acc H2 ->
  (J.stop i H2/\Q (.ref D) H2)\/(J.go i H2/\∀ x H3,J.yld i H2 x H3->g x (lcS k mp σ) H3 fun σ4 H4=>tc σ4 H4 fun b H5 =>
   if b=true then te σ4 H5 fun v H6=>H6 D=some (.lst acc)/\acc.length<sizeLine/\∃ m',m'<m/\W (i+1) m' (acc++[v]) (upd H6 D (.lst (acc++[v])))
   else ∃ m',m'<m/\W (i+1) m' acc H5)
def tLc (k:Nat) (mp:List Nat) (wi:TI) (g:TG) (tc:TT) (te:TE):TE:=fun σ H Q=>wi σ H fun J H1=>Xt k mp σ g tc te J H1 Q
section
variable {X:Cx} {pins:List (Addr×Obj)} {σ:St} {elt tgt iter:Expr} {ifs:List Expr} {scope sc:Scope} {pos:Pos} {N xs:List Str} {mp:List Nat} {wi:TI} {g:TG} {tc:TT} {te:TE}
def Zn5 {RR:Value->Addr->Gz->Shared->Prop}
  (hsc:X.env.scope=sc) (hN:X.N=N) (S:Zqp sc scope N xs mp) (hcalm:X.calm=true)
  (hg:∀ cl C s₀ H₀ fp,PG (lcx X (lcN N xs mp) scope cl C s₀ H₀ fp) tgt g) (hc:∀ cl C s₀ H₀ fp,PCs (lcx X (lcN N xs mp) scope cl C s₀ H₀ fp) ifs tc) (he:∀ cl C s₀ H₀ fp,PE (lcx X (lcN N xs mp) scope cl C s₀ H₀ fp) elt te)
  (I2:Inv X pins σ H2 s2) (T:Zng X.prog X.w X.K tgt J fp it tn) (st2:tn 0 s2.heap) (f2:∀ b∈fp,Zga X pins H2 b) (h:Xt xs.length mp σ g tc te J H2 Qv)
  (hRR:∀ (D C) (s') (H') (m),s'.heap.Ns C m->Inv X pins σ H' s'->Zga X pins H' C->Qv (.ref D) H'->RR (.ref D) C (.ok .next) s') :
  Oe (Od X.prog X.w) X.A (newList []) (fun acc s3=>Oe (Od X.prog X.w) X.A (newFunctionEnv scope X.env.globals (XJ X.env scope.names []) [] X.env.qual none .none (some X.env)) (fun cenv s4 =>
   Oy (Od X.prog X.w) X.A (.compStart (.ListComp elt [⟨tgt,iter,ifs,0⟩] scope pos) 0 (.ref it) acc {cenv with scope:=Gu scope X.env}) (RR acc cenv.locals) s4) E s3) E s2:=by
 have hD:H2 s2.heap.objs.size=none:=I2.hok.fresh (Ql _);refine Pe (h s2.heap.objs.size hD) fun W r0 turn=>?_;obtain⟨m0,w0⟩:=r0;refine OF (wpAny_newFunctionEnv S.nocell (by simp) (fun h1 hns1 hsb1=>?_) S.kind);dsimp only at hns1 hsb1 ⊢;have fpD:∀ b∈fp,b≠s2.heap.objs.size:=fun b hb=>by
  obtain⟨o,e,_⟩:=T.obj _ _ st2 b hb;exact QJ (Qw e)
 have I3:Inv X pins σ (upd H2 s2.heap.objs.size (.lst [])) {s2 with heap:=s2.heap.push {cls:=.type "list",dict:=none,data:=.seq ([]:List Value).toArray}} :=
  I2.laid (t':=s2.toks) (fun b u e=>Qi _ e) (Ql _) ⟨QT _,[],0,.nil,Qs _ rfl⟩
 have f3:∀ b∈fp,Zga X pins (upd H2 s2.heap.objs.size (.lst [])) b:=fun b hb=>⟨by exact Zj (fpD b hb)▸(f2 b hb).1,(f2 b hb).2⟩
 generalize hs3:({s2 with heap:=s2.heap.push {cls:=.type "list",dict:=none,data:=.seq ([]:List Value).toArray}}:Shared)=s3 at I3;have hh3:s2.heap.push {cls:=.type "list",dict:=none,data:=.seq ([]:List Value).toArray}=s3.heap:=by rw[←hs3]
 have kp3:∀ b o,s2.heap.get? b=some o->s3.heap.get? b=some o:=fun b o e=>by exact hh3▸Qi _ e
 rw[hh3]at hns1 hsb1 ⊢;have st3:tn 0 s3.heap:=T.keep _ _ _ st2 fun b _ o e=>kp3 b o e;have x3:∀ b∈fp,∃ o,s3.heap.get? b=some o:=fun b hb=>by
  obtain⟨o,e,_⟩:=T.obj _ _ st3 b hb
  simp_all
 have st4:tn 0 h1:=T.keep _ _ _ st3 fun b _ o e=>hsb1.extBut b o (QJ (Qw e)) (Qi _ e);have I4:=fun tk=>ZgU I3 hsc hN S f3 (Zrp (tk:=tk) I3 hsc S f3 x3 hns1 hsb1);have key:∀ s4:Shared,s4={s3 with heap:=h1,toks:=s4.toks}->Oy (Od X.prog X.w) X.A (.compLoop (.ListComp elt [⟨tgt,iter,ifs,0⟩] scope pos) 0 (.ref it) (.ref s2.heap.objs.size) (compEnvC scope (XJ X.env scope.names []) s3.heap.objs.size X.env))
   (RR (.ref s2.heap.objs.size) s3.heap.objs.size) s4:=by
  intro s4 hs4;have stat:∀ {H':Hp},(∀ b∈fp,H' b=none)->∀ b∈fp,Zga (lcx X (lcN N xs mp) scope (XJ X.env scope.names []) s3.heap.objs.size s3 (upd H2 s2.heap.objs.size (.lst [])) fp) [] H' b:=fun hn b hb =>
   ⟨hn b hb,((I4 0).ok.exf b hb).1,(I4 0).ok.exfs b hb,.inl hb,((I4 0).ok.exf b hb).2,fun p hp=>absurd (show p∈([]:List (Addr×Obj))from hp) (by simp)⟩
  refine Zf4 (fun n s'=>∃ i acc H',Inv (lcx X (lcN N xs mp) scope (XJ X.env scope.names []) s3.heap.objs.size s3 (upd H2 s2.heap.objs.size (.lst [])) fp) [] (lcS xs.length mp σ) H' s'/\tn i s'.heap/\(∀ b∈fp,H' b=none)/\W i n acc H') ?_ m0
   ⟨0,[],_,(by exact hs4▸I4 _),(by rw[hs4];omega),fun b hb=>(f3 b hb).1,w0⟩
  rintro n s6 ⟨i,acc,H6,I6,st6,fr6,w6⟩;rcases turn i n acc H6 w6 with ⟨stop,q⟩ | ⟨go,step⟩
  refine thn (T.done (lcx X (lcN N xs mp) scope (XJ X.env scope.names []) s3.heap.objs.size s3 (upd H2 s2.heap.objs.size (.lst [])) fp) rfl rfl rfl hcalm i [] s6 _ H6 _ I6 (stat fr6) st6 stop) fun r s7 ⟨hr,I7⟩=>?_;subst hr;refine Pe I7.loc fun m7 hn7 _=>?_;exact hRR _ _ s7 H6 m7 hn7 (ZpF I3 f3 I7) (I3.fpOk (Ql _) I7.free) q
  refine thn (T.item (lcx X (lcN N xs mp) scope (XJ X.env scope.names []) s3.heap.objs.size s3 (upd H2 s2.heap.objs.size (.lst [])) fp) rfl rfl rfl hcalm i [] s6 _ H6 _ I6 (stat fr6) st6 go) fun r s7=>B9 fun u hr h7=>?_;subst hr;refine thn h7 fun _ s8 ⟨x,H8,I8,r8,y8,st8,fr8⟩=>?_;have again:∀ {σ':St} {H':Hp} {s':Shared},Inv (lcx X (lcN N xs mp) scope (XJ X.env scope.names []) s3.heap.objs.size s3 (upd H2 s2.heap.objs.size (.lst [])) fp) ([]++ZgE fp s8.heap) σ' H' s'->(∃ m acc',m<n/\W (i+1) m acc' H') ->
    ∃ m,m<n/\∃ i acc H',Inv (lcx X (lcN N xs mp) scope (XJ X.env scope.names []) s3.heap.objs.size s3 (upd H2 s2.heap.objs.size (.lst [])) fp) [] (lcS xs.length mp σ) H' s'/\tn i s'.heap/\(∀ b∈fp,H' b=none)/\W i m acc H':=by
   intro σ' H' s' J ⟨m,acc',hm,w'⟩;refine⟨m,hm,i+1,acc',H',ZgU I3 hsc hN S f3 J.unpinned,T.keep _ _ _ st8 fun b hb o e=>(J.pin (b,o) (QZ _ (QZ _ (X1 hb e)))).1,fun b hb=>?_,w'⟩;obtain⟨o,e,_⟩:=T.obj _ _ st8 b hb;exact(J.pin (b,o) (QZ _ (QZ _ (X1 hb e)))).2.1
  refine thn (hg _ _ _ _ _ _ s8 _ H8 x u _ (I8.pinned (stat fr8) (T.obj _ _ st8)) r8 (step x H8 y8)) fun _ s9 ⟨σ9,H9,I9,q9⟩=>thn (hc _ _ _ _ _ _ s9 σ9 H9 _ I9 q9) fun b s10=>B8 fun H10 I10 q10=>?_;cases b with
  | false =>
   refine Pe q10 fun m' hm w'=>?_;exact again I10 ⟨m',acc,hm,w'⟩
  | true =>
   refine thn (he _ _ _ _ _ _ s10 σ9 H10 _ I10 q10) fun yv s11 ⟨v,H11,I11,r11,hDa,hz,m',hm,w'⟩=>thn (Zep _ s11 σ9 H11 (.ref s2.heap.objs.size) [v] (.ref s2.heap.objs.size) [yv] (fun _ H12=>H12=upd H11 s2.heap.objs.size (.lst (acc++[v]))) I11 rfl (.cons r11 .nil) ⟨_,acc,v,rfl,rfl,hDa,hz,rfl⟩) fun _ s12=>B6 fun _ H12 I12 _ e12=>?_;subst e12;exact again I12 ⟨m',_,hm,w'⟩
 subst hs3;exact codeAny_compStart_list (key _ rfl) (T.self X.A 0 _ _ _ st4 (key _ rfl))
def Zx (sc) (N xs) (l) (i:X.calm=true) (hi:PI X tgt iter wi) (hg:∀ n C d c j,PG (lcx X (lcN N xs l) scope n C d c j) tgt g)
  (hc:∀ n C d c j,PCs (lcx X (lcN N xs l) scope n C d c j) ifs tc) (he:∀ n C d c j,PE (lcx X (lcN N xs l) scope n C d c j) elt te)
  (S:ZmJ sc scope N xs l=true:=by decide +kernel) (p:X.env.scope=sc:=by rfl) (hN:X.N=N:=by rfl) (hs:∀ x,foldedSetIterable iter X.env x=pure x:=by intro _;rfl) :
  PE X (.ListComp elt [⟨tgt,iter,ifs,0⟩] scope pos) (tLc xs.length l wi g tc te):=by
 intro t s σ H Q I h;have u:=ZgW S;refine wpAny_comprehension_free rfl hs (JT (Zc4 I p u)) u.kind u.names (thn (hi t s σ H _ I h) fun v s1 h1=>thn h1 fun itv s2 h2=>?_);have⟨it,j,tn,J,H2,e,I2,T,w,f2,h3⟩:=h2;subst e;refine Zn5 p hN u i hg hc he I2 T w f2 h3 ?_;intro D C s' H' m hn I' k q;exact⟨m,hn,fun h' y=>⟨.ref D,H',I'.turned (fun b o hb e=>y.extBut b o hb e) k.1 k.2.1 k.2.2.2.1 k.2.2.2.2.1 k.2.2.2.2.2,rfl,q⟩⟩
def Xk {k l} (sc) (N xs) (mp) (hNd:X.N.Nodup) (hix:X.N[i]?=some x) (hx:Loc X.env.scope x) (n:X.calm=true) (hi:PI X tgt iter wi) (hg:∀ cl C f d fp,PG (lcx X (lcN N xs mp) scope cl C f d fp) tgt g)
  (hc:∀ cl C f d fp,PCs (lcx X (lcN N xs mp) scope cl C f d fp) ifs tc) (he:∀ cl C f d fp,PE (lcx X (lcN N xs mp) scope cl C f d fp) elt te)
  (S:ZmJ sc scope N xs mp=true:=by decide +kernel) (hsw:Gg (.ListComp elt [⟨tgt,iter,ifs,0⟩] scope pos) (some (.Name x k)) l.line X.env=pure true:=by rfl)
  (hsc:X.env.scope=sc:=by rfl) (hN:X.N=N:=by rfl) (hs:∀ x,foldedSetIterable iter X.env x=pure x:=by intro _;rfl) (hf:X.fn x=true\/X.env.scope.names.lookup x=some .local:=by first | exact .inl rfl | exact .inr rfl | assumption) :
  PS X (.Assign [.Name x k] (.ListComp elt [⟨tgt,iter,ifs,0⟩] scope pos) l) (Zsg (tLc xs.length mp wi g tc te) (Jp i)):=by
 intro pins s σ H D I h;have S':=ZgW S;rw[exec_Assign_Name_used _ _ _ _ hsw];refine Oa (wpAny_standAt (Oa ?_));refine Oa (Ol (wpAny_comprehension_free rfl hs (JT (Zc4 I hsc S')) S'.kind S'.names
  (thn (hi pins s σ H _ I h) fun v s1 h1=>thn h1 fun itv s2 h2=>?_)) (fun _ s' hq=>Ob (Ob hq)) fun _ _ e=>e)
 have⟨it,fp,tn,J,H2,e,I2,T,st2,f2,h3⟩:=h2;subst e;refine Zn5 hsc hN S' n hg hc he I2 T st2 f2 h3 ?_;intro D' C s' H' m hn I' p q;refine wpAny_assign_Name (ZdI I' hNd hix hx (v:=.ref D') rfl (fun s'' I'' ⟨a,sb,ha⟩=>?_) hf);have nC:C≠a:=by
  rcases ha with z | z
  exact z▸p.2.1;exact fun e=>p.2.2.2.2.1 x a z e.symm
 refine⟨m,hn.sameBut sb nC,fun h' hs'=>⟨_,H',I''.turned (fun b o hb e=>hs'.extBut b o hb e) p.1 p.2.1 p.2.2.2.1 p.2.2.2.2.1 p.2.2.2.2.2,q⟩⟩
end
def TSame (H H':Hp):Prop:=∀ b xs,H b=some (.tup xs)->H' b=some (.tup xs)
def Same.tup (h:Same H a):TSame H a:=fun b c e=>h b _ e
def TSame.trans (a:TSame H g) (b:TSame g f):TSame H f:=fun c d e=>b c d (a c d e)
def Xi (h:H D=some (.lst xs)):TSame H (upd H D (.lst ys)):=fun b a e=>by
 rw[Zj fun z=>by simp_all];omega
def Zb (h:H D=none):Same H (upd H D o):=fun b u e=>by
 rw[Zj (Zl e h)];omega
def Z3 (n) (xs:Nat->V) (R:Nat->V->Hp->Prop) (T:n<=sizeLine)
  (A:∀ i v H c,TSame H c->R i v H->R i v c)
  (O:∀ H,Same p H->(∀ i,i<n->J.go i H/\∀ x c,J.yld i H x c->c=H/\x=xs i)/\J.stop n H)
  (step:∀ i H (C),i<n->Same p H->(∀ v l,Same H l->R i v l->C v l)->g (xs i) (lcS k L σ) H fun w N=>te w N C)
  (q:∀ D vs c,vs.length=n->(∀ i v,vs[i]?=some v->R i v c)->Same p c->p D=none->c D=some (.lst vs)->Q (.ref D) c):Xt k L σ g Znk te J p Q:=by
 intro D t;refine⟨fun i m a H=>m=n-i/\i<=n/\a.length=i/\Same p H/\H D=some (.lst a)/\∀ j v,a[j]?=some v->R j v H,⟨n,by simp,QT _,rfl,Zb t,Ze,fun j v e=>by simp_all⟩,?_⟩;rintro i m a H ⟨rfl,U,z,r,f,G⟩;obtain⟨F,I⟩:=O H r;by_cases d:i<n
 refine .inr ⟨(F i d).1,fun x B y=>?_⟩;obtain⟨P,M⟩:=(F i d).2 x B y;subst P M;refine step i B _ d r fun v l s S=>⟨s _ _ f,Mm T d z,n-(i+1),T3 d,rfl,d,by rw[Qm,z];rfl,fun b o e=>?_,Ze,fun j u e=>?_⟩
 exact Zj (Zl e t)▸s _ _ (r b o e)
 have E:TSame l (upd l D (.lst (a++[v]))):=Xi (s _ _ f);rcases Ue j a.length with h | h | h
 rw[QS h]at e;exact A _ _ _ _ (s.tup.trans E) (G j u e)
 subst h;rw[QY (Ql _),WW]at e;cases e;exact z▸A _ _ _ _ E S
 rw[Qj (by rw[Qm,QD];exact h)]at e;cases e
 have e:i=n:=T5 U d
 subst e;exact .inl ⟨I,q D a H z G r t f⟩
def Yi {K} (h:SqL K e a ys):∀ H,Same e H->(∀ i,i<ys.length->(Itl K a).go i H/\∀ x b,(Itl K a).yld i H x b->b=H/\x=ys.getD i .non)/\(Itl K a).stop ys.length H:=fun H s=>by
 have q:=s.seq h;refine⟨fun i f=>⟨⟨ys,ys[i],q,by simp⟩,fun x b y=>⟨y.1,?_⟩⟩,⟨ys,q,Ql _⟩⟩;rw[Qb,(y.2 ys q)];rfl
def Same.tupS {K} (e:Same H b) (h:SqT K H a xs):SqT K b a xs:=by
 rcases h with (h | ⟨o,h⟩) | h
 exact .inl (.inl (e _ _ h));exact .inl (.inr ⟨o,e _ _ h⟩);exact .inr h
def Xg {K} (h:SqT K e a ys):∀ H,Same e H->(∀ i,i<ys.length->(Itt K a).go i H/\∀ x b,(Itt K a).yld i H x b->b=H/\x=ys.getD i .non)/\(Itt K a).stop ys.length H:=fun H s=>by
 have q:=s.tupS h;refine⟨fun i f=>⟨⟨ys,ys[i],q,by simp⟩,fun x b y=>⟨y.1,?_⟩⟩,⟨ys,q,Ql _⟩⟩;rw[Qb,(y.2 ys q)];rfl
def Zc6 {lo}:∀ H,Same e H->(∀ i,i<n->(Itr lo n).go i H/\∀ x a,(Itr lo n).yld i H x a->a=H/\x= .int (lo+i))/\(Itr lo n).stop n H:=fun H _ =>
 ⟨fun i c=>⟨c,fun x a y=>y⟩,Ql _⟩
def Its (x:Str):It:=⟨fun i _=>i<x.cps.size,fun i H v H'=>H'=H/\v= .str ⟨#[x.cps.getD i 0]⟩,fun i _=>x.cps.size<=i⟩
def Zn6:∀ H,Same e H->(∀ i,i<x.cps.size->(Its x).go i H/\∀ v a,(Its x).yld i H v a->a=H/\v= .str ⟨#[x.cps.getD i 0]⟩)/\(Its x).stop x.cps.size H:=fun H _ =>
 ⟨fun i c=>⟨c,fun v a y=>y⟩,Ql _⟩
def Zge {K} (a) (x) (t) (T) (D:T = "str_ascii_iterator"\/T = "str_iterator"):Zng P w K tg (Its x) [a] a (fun i h=>h.IsStrIter a T x t i) where
 mem:=by simp
 obj:=fun i h st b m=>by
  have e:b=a:=by simp_all
  subst e;obtain⟨o,e,c,d⟩:=st;exact⟨o,e,fun v z=>by simp_all⟩
 keep:=fun i h f st k=>by
  obtain⟨o,e,c,d⟩:=st;exact⟨o,k a (by simp) o e,c,d⟩
 item:=by
  intro X W U Y Q i j s σ H E I C st L;subst W U Y;refine Pg (C a (by simp)) fun F B f2 J M G=>?_;have q:=I.ok.hd Q;have A:∀ (v:Value) (f:Heap) (l:Nat),SignAt x i v->f.IsStrIter a T x t (i+1)->(∀ b o,b∉[a]->s.heap.get? b=some o->f.get? b=some o) ->
    ∃ u,some v=some u/\Oe (Od X.prog X.w) X.A (Gb tg (.ref a) u) (fun _ Z=>∃ y N,Inv X j σ N Z/\RelV y u/\(Its x).yld i H y N/\Z.heap.IsStrIter a T x t (i+1)/\∀ b∈[a],N b=none) E {s with heap:=f,toks:=l}:=by
   intro v f l p g n;refine Pb p fun c u R r0=>?_;subst r0;have I1:Inv X j σ H {s with heap:=f,toks:=l}:=I.turned (fun b o m e=>n b o (by simpa using m) e) F B J M G;refine Pf (id g) fun o e c1 d1=>?_;refine⟨_,rfl,ZkQ (s:={s with heap:=f,toks:=l}) e c1 d1 (by rcases D with z | z <;> rw[z] <;> decide) ⟨.str ⟨#[x.cps.getD i 0]⟩,H,I1,⟨u,?_⟩,⟨rfl,rfl⟩,g,fun b m=>(C b m).1⟩⟩;rw[Wd,R];rfl
  rcases D with z | z
  subst z;exact(Walks.strAscii (prog:=X.prog) (w:=X.w) q a x t).item i s _ _ L st fun v f l p g n=>A v f l p g n
  subst z;exact(Walks.strWide (prog:=X.prog) (w:=X.w) q a x t).item i s _ _ L st fun v f l p g n=>A v f l p g n
 done:=by
  intro X W U Y Q i j s σ H E I C st L;refine Pg (C a (by simp)) fun F B f2 J M G=>?_;have q:=I.ok.hd Q;have S:x.cps.size<=i:=L;have V:x.cps[i]?=none:=Uo S;rcases D with z | z
  subst z;exact wpAny_pyNext_ascii_end q st V fun f O=>⟨rfl,I.turned (t':=s.toks) (fun b o m e=>O b o m e) F B J M G⟩
  subst z;exact wpAny_pyNext_wide_end q st V fun f O=>⟨rfl,I.turned (t':=s.toks) (fun b o m e=>O b o m e) F B J M G⟩
 self:=fun _ _ _ _ _ st h=>by
  rcases D with z | z
  subst z;exact wpAny_pyIter_striter_ascii st h
  subst z;exact wpAny_pyIter_striter_wide st h
def Ztx (tl:TE):TI:=fun σ H R=>tl σ H fun v H1=>∃ x,v= .str x/\R (Its x) H1
def ZnU (n:PE X l j):PI X p l (Ztx j):=by
 intro d s σ H R I h;refine thn (n d s σ H _ I h) fun v a=>B6 fun y f c k m=>?_;obtain⟨x,rfl,q⟩:=m;obtain⟨t,rfl⟩:=k;cases g:x.cps.all (· < 128)with
 | true =>
  refine wpAny_pyIter_ascii g ⟨a.heap.objs.size,[a.heap.objs.size],_,_,f,rfl,c.kept (t':=a.toks) fun b o e=>Qi _ e,Zge _ x t _ (.inl rfl),⟨_,Qs _ rfl,rfl,rfl⟩,fun b i=>?_,q⟩;have e:b=a.heap.objs.size:=by simp_all
  subst e;exact c.fpOk (Ql _) (c.hok.fresh (Ql _))
 | false =>
  refine wpAny_pyIter_wide g ⟨a.heap.objs.size,[a.heap.objs.size],_,_,f,rfl,c.kept (t':=a.toks) fun b o e=>Qi _ e,Zge _ x t _ (.inr rfl),⟨_,Qs _ rfl,rfl,rfl⟩,fun b i=>?_,q⟩;have e:b=a.heap.objs.size:=by simp_all
  subst e;exact c.fpOk (Ql _) (c.hok.fresh (Ql _))
section
variable {X:Cx}
def Zs1:V->Option Int->Option Int->Hp->VK->Prop:=fun x lo hi H Q=>∃ z:Str,x= .str z/\z.length<=sizeLine/\Q (.str (Txt.slice z lo hi)) H
def YE:SlR X Zs1:=by
 intro d s σ H x v y w lo o A Q I r f n g h;obtain⟨z,rfl,p,q⟩:=h;obtain⟨t,rfl⟩:=r;have b:∀ l k,EP X d σ Q (.str _ l) {s with toks:=k}:=fun l k=>⟨.str _,H,I.tok _,⟨_,rfl⟩,q⟩
 have a:(Txt.slice z lo o).length<=sizeLine:=QO (Txt.slice_le z _ _) p;cases n with
 | none =>
  cases g with
  | none=>exact⟨"str",_,F.slot_str_getitem.lookup,OG _ _ _,OL (l:=none) (u:=none) (st:=none) f rfl (Gd ⟨a,b⟩)⟩
  | int j u=>exact⟨"str",_,F.slot_str_getitem.lookup,OG _ _ _,OL (l:=none) (u:=some (j,u)) (st:=none) f rfl (Gd ⟨a,b⟩)⟩
 | int i m =>
  cases g with
  | none=>exact⟨"str",_,F.slot_str_getitem.lookup,OG _ _ _,OL (l:=some (i,m)) (u:=none) (st:=none) f rfl (Gd ⟨a,b⟩)⟩
  | int j u=>exact⟨"str",_,F.slot_str_getitem.lookup,OG _ _ _,OL (l:=some (i,m)) (u:=some (j,u)) (st:=none) f rfl (Gd ⟨a,b⟩)⟩
def XV:∀ {ss} {b},Vals (ss.map V.str) b->O4 b ss
 | [],_,r=>by
  cases r;exact .nil
 | x::ss,_,r=>by
  cases r with
  | cons d c =>
   obtain⟨t,e⟩:=d;subst e;exact .cons x t (XV c)
def Zdz:∀ {a:List Value} {ss:List Str},O4 a ss->Vals (ss.map V.str) a
 | _,_,.nil=>.nil
 | _,_,.cons x t h=>.cons ⟨t,rfl⟩ (Zdz h)
def Zsn (K:PySem.W.Frag):V->List V->Hp->VK->Prop:=fun x vs H Q=>∃ (z:Str) (a:Addr) (ys:List Str),x= .str z/\vs=[.ref a]/\SqL K H a (ys.map V.str)/\(ys.map (·.length)).sum+ys.length*z.length<=16777216/\Q (.str (Txt.join z ys)) H
def ZfQ:MtR X "str.join" (Zsn X.K):=by
 intro b s σ H x n v l Q I i e h;refine Po h fun z a m r0 r1 d c q=>?_;subst r0;subst r1;obtain⟨t,rfl⟩:=i;obtain⟨u,rfl,rfl⟩:=YL e;obtain⟨f,r,g,_⟩:=I.list d;exact join_list g.isList (XV (by omega)) c fun j k=>⟨.str _,H,I.tok _,⟨_,rfl⟩,q⟩
def YI (B:X.calm=true):CallR X (.builtin "all") (fun xs H Q=>∃ (a:Addr) (bs:List Bool),xs=[.ref a]/\SqL X.K H a (bs.map V.bl)/\Q (.bl (bs.all id)) H):=by
 intro w s σ H xs L Q I r h;obtain⟨a,bs,rfl,D,q⟩:=h;obtain⟨u,rfl,rfl⟩:=YL r;obtain⟨c,l,g,_⟩:=I.list D;have p:=l.length;rw[Qc]at p;have j:a<s.heap.objs.size:=by
  obtain⟨o,n,e,_⟩:=g;exact Qw e
 refine call_all_walk (OR g.isList ⟨s.heap.objs.size,[s.heap.objs.size,a],[s.heap.objs.size],c.toArray.size,_,_,fun i=>bs.getD i false,rfl,Walks.list (A:=X.A.in1) (I.ok.hd B) _ _ (QJ j) c.toArray,
  ⟨⟨_,Qs _ rfl,rfl,rfl⟩,g.isList.push _⟩,?_,?_⟩)
 intro i v G K J m E;have d:i<c.length:=by
  have:=(Array.getElem?_eq_some_iff.mp m).1;simpa using this
 have y:c[i]?=some v:=by simpa using m
 have k:(bs.map V.bl)[i]?=some (.bl (bs.getD i false)):=by
  rw[Qh,Qb];cases e:bs[i]? with
  | none=>exact absurd (Wy.mp e) (Ke p d)
  | some b=>rfl
 obtain⟨F,t,A⟩:=l.get k;rw[y]at t;cases t;have C:v=Value.bool (bs.getD i false):=A;exact C▸Ou E
 intro M N x;have e:((Qz c.toArray.size).all fun i=>bs.getD i false)=bs.all id:=by
  rw[Qu,←p,Wq,Q4,Q4];constructor
  intro h b k;obtain⟨i,d,e⟩:=WF k;have:=h i (QK.mpr d);rw[Qb,Qa d,e]at this;exact this
  intro h i d;have f:=QK.mp d;rw[Qb,Qa f];exact h _ (QA f)
 exact e▸⟨.bl _,H,I.kept fun b o e=>x b o (by simpa using QJ (Qw e)) (Qi _ e),rfl,q⟩
def YU:∀ (ns:List Int) (k),preSum (fun i=>ns.getD i 0) k=(ns.take k).sum
 | ns,0=>by rfl
 | ns,k+1=>by
  rw[preSum,YU ns k];by_cases h:k<ns.length
  rw[Va,Qb,Qa h];simp only[Vq,Option.toList_some,Qy,Rp,UX];lia;have a:=Vf h;rw[QP a,QP (Ur a),Qb,Qj a];simp
def XL (E:X.calm=true):CallR X (.builtin "sum") (fun xs H Q=>∃ (a:Addr) (ns:List Int),xs=[.ref a]/\SqL X.K H a (ns.map V.int)/\(∀ n∈ns,Ox n)/\(∀ k,Ox (ns.take k).sum)/\Q (.int ns.sum) H):=by
 intro w s σ H xs M Q I r h;obtain⟨a,ns,rfl,A,C,O,q⟩:=h;obtain⟨u,rfl,rfl⟩:=YL r;obtain⟨d,p,g,_⟩:=I.list A;have D:=p.length;rw[Qc]at D;have f:a<s.heap.objs.size:=by
  obtain⟨o,n,e,_⟩:=g;exact Qw e
 refine call_sum_walk (OR g.isList ⟨_,_,_,_,_,_,fun i=>ns.getD i 0,rfl,Walks.list (A:=X.A.in1) (I.ok.hd E) _ _ (QJ f) d.toArray,
  ⟨⟨_,Qs _ rfl,rfl,rfl⟩,g.isList.push _⟩,?_,?_,?_,?_⟩)
 intro b t;rw[WN];have:b=s.heap.objs.size\/b=a:=by simp_all
 rcases this with z | z
 rw[z];simp
 exact z▸Uf f
 intro i v F;have l:d[i]?=some v:=by simp_all
 have G:=(Qo.mp l).1;have t:(ns.map V.int)[i]?=some (.int (ns.getD i 0)):=by
  rw[Qh,Qb];cases e:ns[i]? with
  | none=>exact absurd (Wy.mp e) (Ke D G)
  | some b=>rfl
 obtain⟨L,m,_⟩:=p.get t;rw[l]at m;cases m
 trivial
 intro j K;have c:j<ns.length:=by simp_all
 refine⟨?_,?_⟩
 show Ox (ns.getD j 0);rw[Qb,Qa c];exact C _ (QA c)
 rw[YU]
 simp_all
 intro N J y x;refine⟨.int ns.sum,H,I.kept fun b o e=>x b o (by simpa using QJ (Qw e)) (Qi _ e),⟨y,?_⟩,q⟩;rw[YU,QP (by rw[Qu];exact Kf D)]
def ZeP:CallR X (.builtin "sorted") (fun xs H Q=>∃ (a:Addr) (ss:List Str),xs=[.ref a]/\SqL X.K H a (ss.map V.str)/\ss.length<64 /\
  ∀ p c,H p=none->c.Perm ss->sortedS c=true->Q (.ref p) (upd H p (.lst (c.map V.str)))):=by
 intro k s σ H xs z Q I r h;obtain⟨a,ss,rfl,m,l,q⟩:=h;obtain⟨u,rfl,rfl⟩:=YL r;obtain⟨f,j,v,_⟩:=I.list m;have w:=j.length;rw[Qc]at w;refine sorted_strs v.isList (XV j) (by lia) fun d c y i t=>?_;obtain⟨e,x⟩:=sortedAll_at s.heap f d;have n:H (s.heap.objs.size+1)=none:=I.hok.fresh (Uj _);refine⟨.ref (s.heap.objs.size+1),_,I.laid (t':=s.toks) (o:=.lst (c.map V.str)) (fun b o e=>sortedAll_old e) (Uj _) ?_,rfl,q _ _ n i t⟩;have g:c.length=ss.length:=i.length_eq;refine⟨by rw[Qc,g,Oj];exact Kq l,d.toList,e,Zdz y,?_⟩;rw[x]
noncomputable def ZtA:V->Option Value
 | .ty n=>some (.type n)
 | .ref a=>some (.ref a)
 | _=>none
def Zm7:CallR X (.builtin "isinstance") (fun xs H Q=>∃ (x c:V) (t f:Value) (b:Bool),xs=[x,c]/\Zhr X.K H x t/\ZtA c=some f/\PySem.W.kitOne X.K t f=some b/\Q (.bl b) H):=by
 intro i s σ H xs o Q I r h;obtain⟨x,c,t,f,b,rfl,ty,d,e,q⟩:=h;obtain⟨u,p,rfl,k,a⟩:=Zir r;have l:=by
  cases c with
  | ty n=>exact a.trans (Option.some.inj d)
  | ref n=>exact a.trans (Option.some.inj d)
  | _=>cases d
 subst l;exact ZkF I k ty e fun m=>⟨.bl b,H,I.tok _,rfl,q⟩
end
mutual
def RepD (H:Hp):PyData->V->Prop
 | .none,v=>v= .non
 | .bool b,v=>v= .bl b
 | .int i,v=>v= .int i
 | .str x,v=>v= .str x
 | .tuple ds,v=>∃ a xs,v= .ref a/\H a=some (.tup xs)/\RepA H ds xs
 | .list ds,v=>∃ a xs,v= .ref a/\H a=some (.lst xs)/\RepA H ds xs
 | .dict _,_=>False
def RepA (H:Hp):List PyData->List V->Prop
 | [],xs=>xs=[]
 | d::ds,xs=>∃ v vs,xs=v::vs/\RepD H d v/\RepA H ds vs
end
mutual
def RepD.same {H g:Hp} (h:Same H g):∀ (d:PyData) (v:V),RepD H d v->RepD g d v
 | .none,_,r=>r
 | .bool _,_,r=>r
 | .int _,_,r=>r
 | .str _,_,r=>r
 | .tuple c,v,r=>by
  rw[RepD]at r ⊢;obtain⟨a,b,e,f,q⟩:=r;exact⟨a,b,e,h _ _ f,RepA.same h c b q⟩
 | .list c,v,r=>by
  rw[RepD]at r ⊢;obtain⟨a,b,e,f,q⟩:=r;exact⟨a,b,e,h _ _ f,RepA.same h c b q⟩
 | .dict _,v,r=>by
  rw[RepD]at r;exact r.elim
def RepA.same {H H':Hp} (h:Same H H'):∀ (ds:List PyData) (vs:List V),RepA H ds vs->RepA H' ds vs
 | [],_,r=>r
 | d::ds,vs,r=>by
  rw[RepA]at r ⊢;obtain⟨v,us,e,q1,q2⟩:=r;exact⟨v,us,e,RepD.same h d v q1,RepA.same h ds us q2⟩
end
section
variable {X:Cx} {pins:List (Addr×Obj)} {σ:St} {H:Hp} {s:Shared}
mutual
def RepD.reads (I:Inv X pins σ H s):∀ (d:PyData) (v:V) (u:Value),RepD H d v->RelV v u->∃ j,Reads s.heap u d j
 | .none,v,u,r,q=>by
  subst r;cases q;exact⟨_,.none⟩
 | .bool b,v,u,r,q=>by
  subst r;cases q;exact⟨_,.bool b⟩
 | .int i,v,u,r,q=>by
  subst r;obtain⟨t,rfl⟩:=q;exact⟨_,.int i t⟩
 | .str x,v,u,r,q=>by
  subst r;obtain⟨t,rfl⟩:=q;exact⟨_,.str x t⟩
 | .tuple m,v,u,r,q=>by
  obtain⟨a,h,e,p,f⟩:=r;subst e;cases q;obtain⟨c,g,⟨o,k,w,n,l⟩,_⟩:=I.tuple (SqT.of p);obtain⟨j,z⟩:=RepA.reads I m h c f g;exact⟨_,.tuple k w l (by omega)⟩
 | .list m,v,u,r,q=>by
  obtain⟨a,h,e,p,f⟩:=r;subst e;cases q;obtain⟨c,g,⟨o,n,k,w,_,l⟩,_⟩:=I.list (SqL.of p);obtain⟨j,z⟩:=RepA.reads I m h c f g;exact⟨_,.list k w l (by omega)⟩
 | .dict _,v,u,r,q=>by
  rw[RepD]at r
  simp_all
def RepA.reads (I:Inv X pins σ H s):∀ (ds:List PyData) (vs:List V) (us:List Value),RepA H ds vs->Vals vs us->∃ as,ReadsAll s.heap us ds as
 | [],vs,us,r,q=>by
  rw[RepA]at r;subst r;cases q;exact⟨_,.nil⟩
 | d::ds,vs,us,r,q=>by
  rw[RepA]at r;obtain⟨v,vs',e,q1,q2⟩:=r;subst e;cases q with
  | cons p1 p2 =>
   obtain⟨as,r1⟩:=RepD.reads I d v _ q1 p1;obtain⟨bs,r2⟩:=RepA.reads I ds vs' _ q2 p2;exact⟨_,.cons r1 r2⟩
end
end
section
variable {X:Cx}
def ZgK (e:X.A.units+64<OW):OpR X (On .Eq) (fun x y H Q=>∃ b a,RepD H b x/\RepD H a y/\SeqAt.shaped b=true/\SeqAt.shaped a=true/\Q (.bl (PyData.eqv b a)) H):=by
 intro c s σ H x y v u Q I m d h;obtain⟨b,a,k,g,f,i,q⟩:=h;obtain⟨n,j⟩:=RepD.reads I b x v k m;obtain⟨o,l⟩:=RepD.reads I a y u g d;exact eq_dataH j l f i e ⟨.bl _,H,I,rfl,q⟩
end
structure HasDef (K:PySem.W.Frag) (mg:Str->Option Value) (name:Str) (st:Stmt) (ps:List Str):Prop where
 ex:∃ f fd,Fun K name name st f fd/\Binds K fd ps []/\mg name=some (.ref f)
structure FOk (P:Oc) (w:Of) (K:PySem.W.Frag) (mg:Str->Option Value) (base:Heap) (k:Nat) (name:Str) (ps:List Str) (sp:Sp):Prop where
 ex:∃ f fd,FnOk P w K mg base CX0 k f fd ps sp/\Binds K fd ps []/\mg name=some (.ref f)/\PySem.W.keepIn K (.ref f)=true
section
variable {P:Oc} {w:Of} {K:PySem.W.Frag} {mg:Str->Option Value} {base:Heap}
def HasDef.ok {st} (D:HasDef K mg name st ps) (S:Zm N ps (Zf st)) (e:∀ vs H Q E,sp vs H Q E->vs.length=ps.length)
  (d:∀ (f) (c) (A) (a) (s) (H) (vs) (Q) (E),Room k (A.deeper (OT name (Zf st) s.heap.objs.size f c))->sp vs H Q E ->
   ∃ t,PSs (ZeL CX0 P w K mg base N name (Zf st) f c A a s H E).nox (ZR st) t/\t {nx:=fun _ j=>Q .non j,rt:=Q} (start N vs) H):FOk P w K mg base (k+1) name ps sp:=by
 obtain⟨f,i,F,b,m⟩:=D.ex;exact⟨f,i,F.ok S e fun c A a s H vs Q E=>d f c A a s H vs Q E,b,m,F.kp⟩
def FOk.mono (G:FOk P w K mg base j name ps sp) (h:j<=k):FOk P w K mg base k name ps sp:=by
 obtain⟨f,b,F,r⟩:=G.ex;exact⟨f,b,F.mono h,r⟩
end
def Zu {p a} (G:FOk X.prog X.w X.K X.mg X.base k name ps sp) (i:Room k X.A) (n:PA X (e::es) t) (l:Gl X name:=by rfl)
  (c:(name==("__debug__"))=false:=by decide) (j:Og (e::es) X.env=(false,eval e X.env)::Og es X.env:=by rfl) (d:(Om a (Og es X.env)).any (·.1)=false:=by rfl) :
  PE X (.Call (.Name name p) (e::es) [] a) (ZoE sp [] E0 t):=by
 have⟨f,o,F,b,m,h⟩:=G.ex;exact ZjT F i l m h b .nil Zsu n c j d
inductive TyB (H:Hp):V->String->Prop where
 | non:TyB H .non "NoneType"
 | bl (b:Bool):TyB H (.bl b) "bool"
 | int (i:Int):TyB H (.int i) "int"
 | str (x:Str):TyB H (.str x) "str"
 | lst {a:Addr} {xs:List V} (e:H a=some (.lst xs)):TyB H (.ref a) "list"
 | tup {a:Addr} {xs:List V} (e:H a=some (.tup xs)):TyB H (.ref a) "tuple"
 | dK {a:Addr} {kvs:List (Key×V)} (e:H a=some (.dK kvs)):TyB H (.ref a) "dict"
def TyB.of {K} (h:TyB H x n):Zhr K H x (.type n):=by
 cases h with
 | non=>exact .non
 | bl b=>exact .bl b
 | int i=>exact .int i
 | str x=>exact .str x
 | lst e=>exact .lst e
 | tup e=>exact .tup e
 | dK e=>exact .dK e
def TyB.same {H a:Hp} (s:Same H a) {x:V} {n:String} (h:TyB H x n):TyB a x n:=by
 cases h with
 | non=>exact .non
 | bl b=>exact .bl b
 | int i=>exact .int i
 | str x=>exact .str x
 | lst e=>exact .lst (s _ _ e)
 | tup e=>exact .tup (s _ _ e)
 | dK e=>exact .dK (s _ _ e)
noncomputable def ZaQ:List String:=["NoneType","bool","int","str","list","tuple","dict"]
def TyB.mem (h:TyB H x n):n∈ZaQ:=by
 cases h <;> simp[ZaQ]
noncomputable def isiB (n c:String):Bool:=n==c || (n == "bool" && c == "int")
noncomputable def Zdn:List String:=["int","bool","str","tuple","list"]
noncomputable def Ztv (a b:String):Option Bool:=if (Value.type a==Value.type b)=true then some true else if PySem.W.kitMeta b=true then (fastBuiltinMro a).map (·.contains (Value.type b))else none
def ZkA:∀ n∈ZaQ,∀ c∈Zdn,Ztv n c=some (isiB n c):=by decide +kernel
def Z8:CallR X (.builtin "isinstance") (fun xs H Q=>∃ (x:V) (c n:String),xs=[x,.ty c]/\c∈Zdn/\TyB H x n/\Q (.bl (isiB n c)) H):=by
 intro a s σ H xs d Q I r h;obtain⟨x,c,n,rfl,e,b,q⟩:=h;exact Zm7 a s σ H _ d Q I r ⟨x,_,_,_,_,rfl,b.of,rfl,ZkA n b.mem c e,q⟩
def Zc9:∀ n∈ZaQ,(isiB n "int" = true->(!isiB n "bool")=(n == "int"))/\(¬ isiB n "int" = true->(n == "int")=false):=by decide
def Zao:Oi "isinstance" = some (.builtin "isinstance"):=by rfl
def ZE:Oi "len" = some (.builtin "len"):=by rfl
def ZeY:Oi "all" = some (.builtin "all"):=by decide +kernel
def Zf7:Oi "sum" = some (.builtin "sum"):=by rfl
def ZrO:Oi "min" = some (.builtin "min"):=by rfl
def ZsN:Oi "max" = some (.builtin "max"):=by rfl
def Xq:Oi "sorted" = some (.builtin "sorted"):=by rfl
def Zm9:Oi "int" = some (.type "int"):=by rfl
def Zok:Oi "bool" = some (.type "bool"):=by rfl
def Zm8:Oi "str" = some (.type "str"):=by rfl
def Yc:Oi "tuple" = some (.type "tuple"):=by rfl
def ZbA:Oi "list" = some (.type "list"):=by rfl
def JI {a} (d:Gl X x) (b:X.mg x=none) (f:Oi x=some (.type c)) (e:x≠"__name__":=by decide) (g:(x==("__debug__"))=false:=by decide):PE X (.Name x a) (tC (.ty c)) :=
 Zpf d b f rfl e g
def ZW {X} {a} {h} {C} {b} {c} {g} (i) {x} {e} (k:(lcN N xs f).Nodup:=by decide +kernel) (hi:(lcN N xs f)[i]?=some x:=by rfl)
  (j:(lcx X (lcN N xs f) a h C b c g).env.scope.names.lookup x=some .local:=by rfl):PG (lcx X (lcN N xs f) a h C b c g) (.Name x e) (Jp i):=ZG k hi (.inl j) (.inr j)
def tx (l:List Nat):Str:=⟨l.toArray⟩
def Yn (l):(tx l).cps.toList=l:=by rfl
def ZZ (l):(tx l).length=l.length:=by rfl
def tx_eta (x):tx x.cps.toList=x:=by rfl
def Zcd (l:List Nat):(Qz l.length).map (fun i=>l.getD i 0)=l:=by
 apply QI;intro i;rw[Qh];by_cases h:i<l.length
 rw[Q6 h,We,Qb,Qa h];rfl
 rw[Qj (by simpa using h),Qj (by simpa using h)];rfl
def Js {vs:List V} {n:Nat} {f:Nat->V} (c:vs.length=n) (b:∀ i v,vs[i]?=some v->v=f i):vs=(Qz n).map f:=by
 apply QI;intro i;rw[Qh];by_cases h:i<n
 rw[Q6 h,We,Qa (Kz h c)];exact congrArg some (b i _ (Qa (Kz h c)))
 rw[Qj (Tt c h),Qj (by simpa using h)];rfl
def ZsY (l) (c):(!(Builtin.Str.occurrences l ⟨#[c]⟩ 0 l.length 1).isEmpty)=decide (c∈l.cps.toList):=PySem.StrLaws.found_one l c
def Zrw {c A B:Prop} [Decidable c] (a:¬ c) (h:B):if decide c=true then A else B:=by
 exact decide_eq_false a▸Xw h
def Zbn (K) (h:X.K=K:=by rfl):IxR X (ZrZ K):=by subst h;exact ix_tup
def Y6 (K) (h:X.K=K:=by rfl):IxR X (Zso K):=by subst h;exact ix_list
def JU {X:Cx} (K:PySem.W.Frag) (h:X.K=K:=by rfl):CallR X (.builtin "len") (fun xs H Q=>∃ x n,xs=[x]/\Zqo K x H n/\Q (.int n) H):=by subst h;exact Zp
def Zs (h:n<=16777216):n<=sizeLine:=by assumption
open PySem PySem.Spec PyProof.Rows PySem.Builtin.Str
section
variable {X:Cx}
def ZbR:∀ (l:List (Str×Tok)),Vals ((l.map (·.1)).map V.str) (strValues l)
 | []=>.nil
 | (x,t)::r=>.cons ⟨t,rfl⟩ (ZbR r)
def ZiQ (z y:Str) (b:1<=y.length):(Txt.split z y).length<=z.length+1:=by
 have h:=split_weight z y b;lia
def ZmB:MtR X "str.split" (fun x vs H Q=>∃ z y:Str,x= .str z/\vs=[.str y]/\(y.length==0)=false/\z.length+2<=sizeLine/\∀ p,H p=none->Q (.ref p) (upd H p (.lst ((Txt.split z y).map V.str)))):=by
 intro j s σ H x vs v us Q I rx rv h;obtain⟨z,y,rfl,rfl,hy,hz,q⟩:=h;obtain⟨t,rfl⟩:=rx;obtain⟨u0,rfl,u,rfl⟩:=YL rv;have n:1<=y.length:=by
  have:y.length≠0:=by simpa using hy
  lia
 have d:∀ (l:List (Str×Tok)) (k:Nat),l.map (·.1)=Txt.split z y->EP X j σ Q (.ref s.heap.objs.size) {s with heap:=s.heap.push {cls:=.type "list",data:=.seq (strValues l).toArray},toks:=k}:=fun l k e=>by
  have hf:H s.heap.objs.size=none:=I.hok.fresh (Ql _);refine ⟨.ref s.heap.objs.size,_,I.laid (t':=k) (o:=.lst ((Txt.split z y).map V.str)) (fun b o e=>Qi _ e) (Ql _) ⟨?_,strValues l,0,by exact e▸ZbR l,Qs _ rfl⟩,rfl,q _ hf⟩;rw[Qc];exact QO (ZiQ z y n) (Sa hz)
 have hn:(partsBetween z (occurrences z y 0 z.length (z.length+1)) y.length).length<=sizeLine:=by
  have e1:=StrLaws.occ_length_le z y 0 z.length (z.length+1);rw[length_partsBetween];lia
 cases f:(decide (z.length<y.length) || decide (strKind z<strKind y))with
 | true=>exact Ow F.slot_str_split (OG _ _ _) F.entry_str_split (F.args_str_split_2 _ _) (meets_str_split_cannot_occur z y t u f) (d [(z,t)] s.toks (if_pos f).symm)
 | false =>
  cases m:(occurrences z y 0 z.length (z.length+1)).isEmpty with
  | true=>exact Ow F.slot_str_split (OG _ _ _) F.entry_str_split (F.args_str_split_2 _ _) (meets_str_split_not_found z y t u f hy m) (d [(z,t)] s.toks ((if_neg (by rw[f];decide)).trans (if_pos m)).symm)
  | false =>
   refine Ow F.slot_str_split (OG _ _ _) F.entry_str_split (F.args_str_split_2 _ _) (meets_str_split_sep z y t u f hy m (K3 hz) hn) ?_;have:=d (numbered s.toks (partsBetween z (occurrences z y 0 z.length (z.length+1)) y.length)) (s.toks+(partsBetween z (occurrences z y 0 z.length (z.length+1)) y.length).length)
    ((numbered_texts _ _).trans ((if_neg (by rw[f];decide)).trans (if_neg (by rw[m];decide))).symm)
   rw[←(strsFrom_eq s.toks (partsBetween z (occurrences z y 0 z.length (z.length+1)) y.length))]at this;exact this
def Zpw:MtR X "str.partition" (fun x vs H Q=>∃ z y:Str,x= .str z/\vs=[.str y]/\(y.length==0)=false/\z.length<=sizeLine /\
  ∀ p,H p=none->Q (.ref p) (upd H p (.tup [.str (Txt.partition z y).1,.str (Txt.partition z y).2.1,.str (Txt.partition z y).2.2]))):=by
 intro d s σ H x vs v n Q I l k h;obtain⟨z,y,rfl,rfl,f,g,q⟩:=h;obtain⟨t,rfl⟩:=l;obtain⟨w,rfl,u,rfl⟩:=YL k;have m:H s.heap.objs.size=none:=I.hok.fresh (Ql _);have a:=q _ m;refine Ow F.slot_str_partition (OG _ _ _) F.entry_str_partition (F.args_str_partition_2 _ _) (meets_str_partition z y t u f g) ?_;unfold Txt.partition at a;revert a;cases occurrences z y 0 z.length 1 with
 | nil =>
  intro a;exact⟨.ref s.heap.objs.size,_,I.laid (o:=.tup [.str z,.str Str.empty,.str Str.empty]) (fun b o e=>Qi _ e) (Ql _) ⟨(show 3<=sizeLine by rw[Oj];decide),_,.cons ⟨_,rfl⟩ (.cons ⟨_,rfl⟩ (.cons ⟨_,rfl⟩ .nil)),⟨⟨_,Qs _ rfl,rfl,_,rfl⟩,ZaL rfl rfl⟩⟩,rfl,a⟩
 | cons i r =>
  intro a;exact⟨.ref s.heap.objs.size,_,I.laid (o:=.tup [.str (strSub z 0 i),.str y,.str (strSub z (i+y.length) z.length)]) (fun b o e=>Qi _ e) (Ql _) ⟨(show 3<=sizeLine by rw[Oj];decide),_,.cons ⟨_,rfl⟩ (.cons ⟨_,rfl⟩ (.cons ⟨_,rfl⟩ .nil)),⟨⟨_,Qs _ rfl,rfl,_,rfl⟩,ZaL rfl rfl⟩⟩,rfl,a⟩
def Zlh:CallR X (.type "int") (fun xs H Q=>∃ (z:Str) (n:Int),xs=[.str z]/\PySem.intText? z=some n/\z.length<=640/\Q (.int n) H):=by
 intro a s σ H xs d Q I r h;obtain⟨z,n,rfl,b,c,q⟩:=h;obtain⟨u,rfl,t,rfl⟩:=YL r;exact PySem.W.KIN.call_text b c ⟨.int n,H,I.tok _,⟨_,rfl⟩,q⟩
def tF3 (c:Str) (ta tb:TE):TE:=fun σ H Q=>ta σ H fun x H1=>∃ z:Str,x= .str z/\z.length<=100000/\z.length+c.length<=sizeLine/\tb σ H1 fun y H2=>∃ n:Int,y= .int n/\n.natAbs.log2<1920/\z.length+c.length+(Str.ofString (toString n)).length<=sizeLine/\Q (.str (z++c++Str.ofString (toString n))) H2
def Zsr {a b:Expr} {ta tb:TE} {c:Str} {j:Nat} {p1 p2 p3 pos:Pos} (ha:PE X a ta) (hb:PE X b tb):PE X (.JoinedStr [.FormattedValue a (-1) none p1,.Constant (.str c) j p2,.FormattedValue b (-1) none p3] pos) (tF3 c ta tb):=by
 intro pins s σ H Q I h;refine wpAny_JoinedStr (wpAny_FormattedValue_plain (thn (ha pins s σ H _ I h) fun v s1 ⟨x,H1,I1,r1,z,ex,hz,hzc,q1⟩=>?_));subst ex;obtain⟨t,rfl⟩:=r1;have hz':z.length<=sizeLine:=Zs (QO hz (by decide));have go:∀ (t':Tok) (s2:Shared),Inv X pins σ H1 s2->∃ y t'',Value.str z t'= .str y t''/\(Str.empty++y).length<=sizeLine /\
   Joins (Od X.prog X.w) X.A X.xe (evalEach [.Constant (.str c) j p2,.FormattedValue b (-1) none p3] X.env) (Str.empty++y) (fun out s₁=>out.length<=sizeLine/\EP X pins σ Q (.str out s₁.toks) {s₁ with toks:=s₁.toks+1}) s2:=by
  intro t' s2 I2;refine ⟨z,t',rfl,by rw[Str.empty_append];exact hz',Calls.Constant_str ⟨c,_,rfl,?_,?_⟩⟩
  rw[Str.empty_append,Str.length_append];exact hzc
  refine wpAny_FormattedValue_plain (thn (hb pins _ σ H1 _ (I2.tok _) q1) fun v s3 ⟨y,H2,I3,r3,n,ey,hn,hlen,q3⟩=>?_);subst ey;obtain⟨t3,rfl⟩:=r3;refine wpAny_formatField_int hn ⟨_,_,rfl,?_,?_⟩
  rw[Str.empty_append,Str.length_append,Str.length_append];exact hlen
  refine⟨?_,?_⟩
  rw[Str.empty_append,Str.length_append,Str.length_append];exact hlen
  rw[Str.empty_append];exact⟨.str (z++c++Str.ofString (toString n)),H2,I3.tok _,⟨_,rfl⟩,q3⟩
 exact wpAny_formatField_str (go t s1 I1) (go s1.toks _ (I1.tok _)) hz'
def Yt {k} {d} (n) (K) (g:X.calm=true) (h:PGs X es t) (f:X.K=K:=by rfl)
  (e:(OU es X.env).length=n:=by rfl) (c:(OU es X.env).findIdx? (·.1)=none:=by rfl):PG X (.Tuple es k d) (ZsI K n t):=by
 subst f;exact ZqY g h e c
end
def Yv (x:Str):x.cps.toList.length=x.length:=by rfl
def ZbD (h:0<=n):(Txt.slice x none (some n)).cps.toList=x.cps.toList.take n.toNat:=by
 by_cases c:n<=x.length
 rw[(eq_of_beq (slice_closes_toL h c))];simp;rw[(slice_to_beyond (x:=x) (j:=n) (Nv c)),(eq_of_beq (slice_closes_toL (x:=x) Tj (WO _))),QP (i:=n.toNat) (by rw[Yv];lia)];simp[Str.length];exact QP (by simp)
def ZaX {i j} (d:0<=i) (c:i<=j) (f:j<=x.length):(Txt.slice x (some i) (some j)).cps.toList=(x.cps.toList.drop i.toNat).take (j-i).toNat:=by
 rw[(eq_of_beq (slice_closesL d c f))]
def ZfU {ns:List Int} {i:Int} (b:0<=i) (c:i<ns.length):atI (ns.map V.int) i=some (.int (ns.getD i.toNat 0)):=by
 obtain⟨j,rfl⟩:=US b;refine Jq ?_;have a:j<ns.length:=by lia
 rw[Qh,Wp,Qb,Qa a];rfl
def ZL {l} {c:α} (a:0<=i) (h:l[i.toNat]?=some c):atI l i=some c:=by
 obtain⟨j,rfl⟩:=US a;exact Jq h
def ZnM (h:i<=n):HT.sIx n d (some i)=i:=by
 unfold HT.sIx;simp;rw[if_neg Na];lia
def cut_to {i:Nat} (h:i<=xs.length):Zhh xs none (some i)=xs.take i:=by
 have a:HT.sIx xs.length 0 none=0:=rfl;unfold Zhh;rw[a,ZnM h];simp
def cut_from {i:Nat} (h:i<=xs.length):Zhh xs (some i) none=xs.drop i:=by
 have a:HT.sIx xs.length xs.length none=xs.length:=rfl;unfold Zhh;rw[a,ZnM h];exact QP (by simp)
end L2
namespace Srt
open PySem PySem.W PyProof.Rows
section
variable {n:Nat} {lt:Nat->Nat->Bool} {cmp:Nat->Nat->(Bool->Shared->Prop)->Shared->Prop} {G:Shared->Prop}
structure Ord (n:Nat) (lt:Nat->Nat->Bool):Prop where
 tr:∀ i j k,lt i j=true->lt j k=true->lt i k=true
 asy:∀ i j,lt i j=true->lt j i=false
 tot:∀ i j,i<n->j<n->i≠j->lt i j=true\/lt j i=true
structure Pm (n:Nat) (p:Array Nat):Prop where
 size:p.size=n
 perm:p.Perm (Qz n).toArray
def Pm.below (h:Pm n p) (c:a<n):p.getD a 0<n:=by
 have b:a<p.size:=by rw[h.size];exact c
 have:=h.perm.mem_iff.mp (Array.getElem_mem b);rw[Wd,Wz b];simpa using this
def Pm.ne (h:Pm n p) (i:a<n) (k:b<n) (g:a≠b):p.getD a 0≠p.getD b 0:=by
 have f:a<p.size:=by rw[h.size];exact i
 have c:b<p.size:=by rw[h.size];exact k
 have d:=by
  have:=UG.mp h.perm;exact this.nodup_iff.mpr (by simpa using WM)
 intro e;have:=(WT (h₀:=by simpa using f) (h₁:=by omega) d).mp (by simp_all);lia
def Up (lt:Nat->Nat->Bool) (p:Array Nat) (m:Nat):Prop:=∀ a b,a<b->b<m->lt (p.getD a 0) (p.getD b 0)=true
def Dn (lt:Nat->Nat->Bool) (p:Array Nat) (m:Nat):Prop:=∀ a b,a<b->b<m->lt (p.getD b 0) (p.getD a 0)=true
def Up.more (o:Ord n lt) {p:Array Nat} {m:Nat} (h:Up lt p m) (i:1<=m) (d:lt (p.getD (m-1) 0) (p.getD m 0)=true):Up lt p (m+1):=fun a b c g=>by
 by_cases e:b=m
 subst e;by_cases f:a=b-1
 exact f▸d
 exact o.tr _ _ _ (h a (b-1) (Kg c f) (Kh i)) d
 exact h a b c (Ki g e)
def Dn.more (o:Ord n lt) {p:Array Nat} {m:Nat} (h:Dn lt p m) (i:1<=m) (d:lt (p.getD m 0) (p.getD (m-1) 0)=true):Dn lt p (m+1):=fun a b c g=>by
 by_cases e:b=m
 subst e;by_cases f:a=b-1
 exact f▸d
 exact o.tr _ _ _ d (h a (b-1) (Kg c f) (Kh i))
 exact h a b c (Ki g e)
def Zpg (o:Ord n lt) {p:Array Nat} (d:Pm n p) {a b:Nat} (e:a<n) (f:b<n) (c:a≠b) (h:¬ lt (p.getD a 0) (p.getD b 0)=true):lt (p.getD b 0) (p.getD a 0)=true:=by
 rcases o.tot _ _ (d.below e) (d.below f) (d.ne e f c)with z | z
 exact absurd z h
 exact z
variable (o:Ord n lt) (hc:∀ i j C s,i<n->j<n->i≠j->G s->(∀ s',G s'->C (lt i j) s')->cmp i j C s)
include o hc
def asc {p:Array Nat} (b:Pm n p) {Q:Nat->Shared->Prop}:∀ (f m:Nat) (s:Shared),1<=m->m+f<=n->Up lt p m->G s ->
  (∀ k a,m<=k->k<=m+f->Up lt p k->(k=m+f\/lt (p.getD k 0) (p.getD (k-1) 0)=true)->G a->Q k a)->(kas_asc p f m).kasWp cmp Q s
 | 0,m,s,i,q,d,g,k=>k m s (Ql _) (Ql _) d (.inl rfl) g
 | f+1,m,s,i,q,d,g,k=>by
  refine hc _ _ _ s (b.below (Nw q)) (b.below (Nx i q)) (b.ne (Nw q) (Nx i q) (Ny i)) g fun a l=>?_;by_cases c:lt (p.getD m 0) (p.getD (m-1) 0)=true
  dsimp only;exact if_pos c▸k m a (Ql _) V4 d (.inr c) l
  dsimp only;exact if_neg c▸asc b f (m+1) a K1 (Nz q) (d.more o i (Zpg o b (Nw q) (Nx i q) (Ny i) c)) l fun j e y w r v t=>k j e (K3 y) (N0 w) r (by rcases v with z | z;exact .inl (by lia);exact .inr z) t
def Zs9 {p:Array Nat} (a:Pm n p) {Q:Array Nat×Nat×Nat->Shared->Prop}:∀ (f m:Nat) (s:Shared),1<=m->m+f<=n->Dn lt p m->G s ->
  (∀ k d,m<=k->k<=m+f->Dn lt p k->G d->Q (p,k,0) d)->(kas_desc f p m 0).kasWp cmp Q s
 | 0,m,s,l,u,e,g,k=>k m s (Ql _) (Ql _) e g
 | f+1,m,s,l,u,e,g,k=>by
  refine hc _ _ _ s (a.below (Nw u)) (a.below (Nx l u)) (a.ne (Nw u) (Nx l u) (Ny l)) g fun d q=>?_;by_cases c:lt (p.getD m 0) (p.getD (m-1) 0)=true
  dsimp only;rw[if_pos c,if_neg Ml];exact Zs9 a f (m+1) d K1 (Nz u) (e.more o l c) q fun j b x y r v=>k j b (K3 x) (N0 y) r v
  dsimp only;rw[if_neg c];refine hc _ _ _ d (a.below (Nx l u)) (a.below (Nw u)) (a.ne (Nx l u) (Nw u) (by omega)) q fun b h=>?_;dsimp only;exact if_pos (Zpg o a (Nw u) (Nx l u) (Ny l) c)▸k m b (Ql _) V4 e h
omit o hc in
def ZnP {p:Array Nat} {m k:Nat} (b:m<=p.size) (c:k<m):(kas_rev p 0 m).getD k 0=p.getD (m-1-k) 0:=by
 unfold kas_rev;rw[Wd,getElem?_mirror_all b,if_pos (by omega),Wd];congr 2;lia
omit o hc in
def ZnO {p:Array Nat} (a:Pm n p) (m:Nat):Pm n (kas_rev p 0 m):=⟨by unfold kas_rev;rw[mirror_size,a.size],(mirror_perm _ _ _ _).trans a.perm⟩
def Zr5 {p:Array Nat} (d:Pm n p) {Q:Nat×Array Nat->Shared->Prop} {m:Nat} {s:Shared} (i:1<=m) (h:m<=n) (r:Dn lt p m) (g:G s)
  (k:∀ j f c,1<=j->j<=n->Pm n f->Up lt f j->G c->Q (j,f) c):(kas_tail3 m n p).kasWp cmp Q s:=by
 unfold kas_tail3;rw[KasT.kasWp_bind];have l:Up lt (kas_rev p 0 m) m:=fun a b w u=>by
  rw[ZnP (by exact d.size▸h) (T6 u w),ZnP (by exact d.size▸h) u];exact r _ _ (by omega) (by omega)
 exact asc o hc (ZnO d m) _ m s i (Kj h) l g fun j c y x q _ t=>k j _ c (Tp y i) (by lia) (ZnO d m) q t
def count {p:Array Nat} (c:Pm n p) {Q:Nat×Array Nat->Shared->Prop} {s:Shared} (h1:1<=n) (g:G s)
  (k:∀ j t d,1<=j->j<=n->Pm n t->Up lt t j->G d->Q (j,t) d):(kas_count n p).kasWp cmp Q s:=by
 unfold kas_count;rw[KasT.kasWp_bind];refine asc o hc c (n-1) 1 s (Ql _) (Kj h1) (fun a b _ _=>by omega) g fun m d v a2 h a4 l=>?_;by_cases e:m=n
 rw[if_pos (by simp[e])];exact k m p d v (Kf e) c h l
 rw[if_neg (by simp[e])];by_cases u:m>1
 rw[if_pos u];refine hc _ _ _ d (c.below (Kk h1)) (c.below (by omega)) (c.ne (Kk h1) (by omega) (by omega)) l fun f q=>?_;dsimp only;exact if_pos (h 0 (m-1) (by omega) (by omega))▸k m p f v (by omega) c h q
 rw[if_neg u];have B:m=1:=by omega
 subst B;have y:lt (p.getD 1 0) (p.getD 0 0)=true:=by
  rcases a4 with z | z
  omega
  exact z
 unfold kas_descPart;rw[KasT.kasWp_bind];refine Zs9 o hc c (n-2) 2 d (by omega) (by omega) (fun a b hab hb=>?_) l fun j f b1 b2 b3 w=>?_
 have A:a=0:=by lia
 have x:b=1:=by lia
 rw[A,x];exact y
 exact if_neg (show ¬ ((p,j,0):Array Nat×Nat×Nat).2.2>0 from by simp)▸Zr5 o hc c (by show 1<=j;lia) (by show j<=n;lia) b3 w k
def place {p:Array Nat} (b:Pm n p) {k:Nat} (x:k<n) {Q:Nat->Shared->Prop}:∀ (f l r:Nat) (s:Shared),l<=r->r<=k->r-l<=f->G s ->
  (∀ a,a<l->lt (p.getD a 0) (p.getD k 0)=true)->(∀ a,r<=a->a<k->lt (p.getD k 0) (p.getD a 0)=true)->Up lt p k ->
  (∀ l d,l<=k->(∀ a,a<l->lt (p.getD a 0) (p.getD k 0)=true)->(∀ a,l<=a->a<k->lt (p.getD k 0) (p.getD a 0)=true)->G d->Q l d)->(kas_place p k f l r).kasWp cmp Q s
 | 0,l,r,s,u,w,A,g,m,j,i,q=>q l s (Tp w u) m (fun a h=>j a (by omega)) g
 | f+1,l,r,s,u,w,A,g,m,j,i,q=>by
  unfold kas_place;by_cases e:l≥r
  exact if_pos e▸q l s (Tp w u) m (fun a h=>j a (Tp h e)) g
  rw[if_neg e];refine hc _ _ _ s (b.below x) (b.below (Tq x w e)) (b.ne x (Tq x w e) (Tr w e)) g fun d y=>?_;by_cases c:lt (p.getD k 0) (p.getD ((l+r) / 2) 0)=true
  dsimp only;rw[if_pos c];refine place b x f l ((l+r) / 2) d (by omega) (by omega) (by omega) y m (fun a u w=>?_) i q;by_cases t:a=(l+r) / 2
  exact t▸c
  exact o.tr _ _ _ c (i _ _ (by lia) w)
  dsimp only;rw[if_neg c];have z:=Zpg o b x (Tq x w e) (Tr w e) c;refine place b x f ((l+r) / 2+1) r d (by omega) w (by omega) y (fun a u=>?_) j i q;by_cases t:a=(l+r) / 2
  exact t▸z
  exact o.tr _ _ _ (i _ _ (Ki u t) (by lia)) z
def bin {Q:Array Nat->Shared->Prop} (z:∀ p i,Pm n p->Up lt p n->G i->Q p i):∀ (f:Nat) (p:Array Nat) (k:Nat) (s:Shared),k+f=n->Pm n p->Up lt p k->G s->(kas_bin f p k).kasWp cmp Q s
 | 0,p,k,s,h,c,d,g=>z p s c ((show k=n from h)▸d) g
 | f+1,p,k,s,h,c,d,g=>by
  unfold kas_bin;rw[KasT.kasWp_bind];refine place o hc c (S6 h) k 0 k s (QT _) (Ql _) G9 g (fun a h=>(Tu h).elim) (fun a h1 h2=>(Tf h1 h2).elim) d fun l i hl A b2 g'=>?_;have hs:k<p.size:=by rw[c.size];exact S6 h
  have e:∀ j,(bubble p k (k-l)).getD j 0=if j=l then p.getD k 0 else if l<j/\j<=k then p.getD (j-1) 0 else p.getD j 0:=fun j=>by
   simp only[Wd];rw[getElem?_bubble hs (k-l) G9 j,show k-(k-l)=l by omega];by_cases q:j=l
   rw[if_pos q,if_pos q]
   rw[if_neg q,if_neg q];by_cases m:l<j/\j<=k
   rw[if_pos m,if_pos m]
   rw[if_neg m,if_neg m]
  refine bin z f _ (k+1) i (S7 h) ⟨by rw[bubble_size,c.size],(bubble_perm _ _ _).trans c.perm⟩ (fun a b t hb=>?_) g';rw[e,e];by_cases y:a=l
  rw[if_pos y,if_neg (by omega),if_pos (by omega)];exact b2 _ (by omega) (S8 t hb)
  rw[if_neg y];by_cases x:l<a/\a<=k
  rw[if_pos x,if_neg (by omega),if_pos (by omega)];exact d _ _ (by omega) (S8 t hb)
  rw[if_neg x];by_cases w:b=l
  exact if_pos w▸A _ (V6 w t)
  rw[if_neg w];by_cases u:l<b/\b<=k
  rw[if_pos u];by_cases e5:a=b-1
  ·exact absurd e5 (by lia)
  ·exact d _ _ (Kg t e5) (S8 t hb)
  exact if_neg u▸d _ _ t (by lia)
def sort {Q:Array Nat->Shared->Prop} {s:Shared} (k:1<=n) (g:G s) (f:∀ p a,Pm n p->Up lt p n->G a->Q p a):(kas_sort n).kasWp cmp Q s:=by
 unfold kas_sort;rw[KasT.kasWp_bind];refine count o hc ⟨by simp,Array.Perm.refl _⟩ k g fun j c a m r i d h=>?_;by_cases e:j<n
 dsimp only;rw[if_pos e,Nat.max_eq_left m];exact bin o hc f _ c j a (N3 e) i d h
 dsimp only;exact if_neg e▸f c a i ((show j=n by exact T5 r e)▸d) h
end
end Srt
namespace L2
open PySem PySem.Spec PyProof.Rows PySem.W
def ZsR (h:Heap) (v:Value) (x:Str):Prop:=∃ a t y,v= .ref a/\h.get? a=some {cls:=.type "tuple",data:=.seq #[.str x t,y]}
noncomputable def ltX (xs:List Str) (i j:Nat):Bool:=decide ((xs.getD i "").cps.toList<(xs.getD j "").cps.toList)
def Xp {xs:List Str} (h):xs.getD i "" = xs[i]:=by
 rw[Qb,Qa h];rfl
def ZfV {xs:List Str} (f:xs.Nodup):Srt.Ord xs.length (ltX xs) where
 tr:=fun i j k b l=>by
  unfold ltX at *;rw[decide_eq_true_eq]at *;exact RT b l
 asy:=fun i j b=>by
  unfold ltX at *;rw[decide_eq_true_eq]at b;exact decide_eq_false (List.lt_asymm b)
 tot:=fun i j g e c=>by
  unfold ltX;rw[Xp g,Xp e,decide_eq_true_eq,decide_eq_true_eq];by_cases q:xs[i].cps.toList<xs[j].cps.toList
  exact .inl q
  by_cases d:xs[j].cps.toList<xs[i].cps.toList
  exact .inr d
  have h:xs[i]=xs[j]:=by rw[←tx_eta xs[i],←tx_eta xs[j],(UY (WV.mp d) (WV.mp q))]
  exact absurd ((WT f).mp h) c
def Zb9 {h:Heap}:∀ {vs:List Value} {xs:List Str},xs.length=vs.length->(∀ (i:Nat) (v:Value) (x:Str),vs[i]?=some v->xs[i]?=some x->ZsR h v x)->∃ b,KatTups h vs b/\b.length=vs.length/\∀ f∈b,∃ x t,f= .str x t
 | [],[],_,_=>⟨[],trivial,rfl,fun f c=>nomatch c⟩
 | [],_::_,h,_=>by cases h
 | _::_,[],h,_=>by cases h
 | v::vs,x::xs,g,d=>by
  obtain⟨a,t,y,rfl,e⟩:=d 0 v x rfl rfl;obtain⟨b,k,l,q⟩:=Zb9 (vs:=vs) (xs:=xs) (by simpa using g) fun i v x m j=>d (i+1) v x m j;refine⟨.str x t::b,KatTups.cons e rfl rfl rfl k,by simp[l],fun f c=>?_⟩;rcases Qx.mp c with z | z
  exact⟨x,t,z⟩
  exact q f z
section
variable {prog:Oc} {w:Of} {A:Around} {E:Value->Shared->Prop} {s:Shared}
def Zh4 {a:Addr} {vs:List Value} {xs:List Str} {n:Nat} {P:PySem.Fin->Shared->Prop} (ho:s.heap.get? a=some (OP "list" vs.toArray n)) (h64:vs.length<64) (hl:xs.length=vs.length) (nd:xs.Nodup)
  (hv:∀ (i:Nat) (v:Value) (x:Str),vs[i]?=some v->xs[i]?=some x->ZsR s.heap v x)
  (h:∀ (h1:Heap) (tk c:Nat) (p:Array Nat),Srt.Pm xs.length p->Srt.Up (ltX xs) p xs.length->(∀ b o,b≠a->s.heap.get? b=some o->h1.get? b=some o) ->
   h1.get? a=some (OP "list" (p.toList.map fun i=>vs.getD i Value.none).toArray c)->P (.done (.ret .none)) {s with heap:=h1,toks:=tk}) :
  Oe (Od prog w) A (Builtin.«list.sort» ⟨[.ref a],[]⟩) P E s:=by
 have ha:a<s.heap.objs.size:=Qw ho;have hz:vs.length<=sizeLine:=by rw[Oj];exact Kq h64
 rw[list_sort_plain];refine Oa (listItems_at ho rfl (Oa (OY ho rfl ?_ (by exact Qu▸hz) (QT _))));obtain⟨e1,ho1⟩:∃ e1,(s.heap.update a (Obj.mapSeq fun _=>(#[]:Array Value))).get? a=some (OP "list" #[] e1):=⟨_,get?_update_seq ho fun _=>#[]⟩
 have k1:∀ b o,b≠a->s.heap.get? b=some o->(s.heap.update a (Obj.mapSeq fun _=>(#[]:Array Value))).get? b=some o:=fun b o hb q=>(Q5 _ _ (Ne.symm hb)).trans q;refine Oa (O6 ho1 rfl (Oa (wpAny_newTuple (Oa (O8 (Op ?_) (QT _))) (by show vs.length<=_;exact hz))));generalize hg:((s.heap.update a (Obj.mapSeq fun _=>(#[]:Array Value))).push {cls:=.type "tuple",data:=.seq vs.toArray.toList.toArray}).push {cls:=.type "list",data:=.seq ([]:List Value).toArray}=h6;have k6:∀ b o,b≠a->s.heap.get? b=some o->h6.get? b=some o:=fun b o hb q=>by
  exact hg▸Qi _ (Qi _ (k1 b o hb q))
 have ho6:h6.get? a=some (OP "list" #[] e1):=by
  exact hg▸Qi _ (Qi _ ho1)
 have hv6:∀ (i:Nat) (v:Value) (x:Str),vs[i]?=some v->xs[i]?=some x->ZsR h6 v x:=fun i v x q1 q2=>by
  obtain⟨b,t,y,rfl,hb⟩:=hv i v x q1 q2;exact⟨b,t,y,rfl,k6 b _ (fun z=>by rw[z,ho]at hb;injection hb with hb;exact absurd (congrArg Obj.cls hb) (by unfold OP;simp)) hb⟩
 show Oe (Od prog w) A _ P E {s with heap:=h6};dsimp only
 -- the end: the items are put back
 have fin:∀ (tk:Nat) (p:Array Nat) (out:Array Value),Srt.Pm xs.length p->Srt.Up (ltX xs) p xs.length->out=(p.toList.map fun i=>vs.getD i Value.none).toArray ->
   ∃ c,(h6.update a (Obj.mapSeq fun _=>out)).get? a=some (OP "list" out c)/\out.size<=sizeLine/\P (.done (.ret .none)) {s with heap:=h6.update a (Obj.mapSeq fun _=>out),toks:=tk}:=fun tk p out hp hu ho'=>by
  have hc:=get?_update_seq ho6 fun _=>out;refine⟨_,hc,?_,h _ tk _ p hp hu (fun b o hb q=>(Q5 _ _ (Ne.symm hb)).trans (k6 b o hb q)) (by rw[←ho'];exact hc)⟩;rw[ho',Qu,Qc,QL,hp.size,hl];exact hz
 by_cases h2:vs.toArray.size<2
 rw[if_pos h2,if_pos h2];rw[Qu]at h2;have hr:vs.toArray=((Qz xs.length).toArray.toList.map fun i=>vs.getD i Value.none).toArray:=by
  congr 1;apply QI;intro i;simp only[Qh];by_cases hi:i<vs.length
  ·rw[Qa hi,Q6 (Kz hi hl),We,Qb,Qa hi];rfl
  ·rw[Qj (G7 hi),Qj (by simp;exact Tt hl hi)];rfl
 refine Pf (fin s.toks (Qz xs.length).toArray vs.toArray ⟨by simp,Array.Perm.refl _⟩ (fun a b hab hb=>by omega) hr) fun c f1 f2 f3=>?_;refine Oa (Ob ?_);rw[StateT.run_pure];refine Oa (Ob ?_);have eo:(arrOf (SortSt.mk' general' (vs.toArray.zip vs.toArray) #[] 7 none)).map (·.2)=vs.toArray:=by
  show(vs.toArray.zip vs.toArray).map (·.2)=vs.toArray;apply Vg.mp;simp;exact Vh (Ql _)
 dsimp only;rw[eo];refine Oa (O6 ho6 rfl (Oa (OY ho6 rfl ?_ (QT _) (Ur f2))));simp only[bne_self_eq_false,WX,if_false];exact Ob f3
 rw[if_neg h2,if_neg h2];rw[Qu]at h2;refine Pf (Zb9 hl hv6) fun fs kt lf hf=>?_;refine Oa (kat_kind (T:=.type "str") kt (by omega) (fun f m=>?_) (by decide) ?_)
 ·obtain⟨x,t,rfl⟩:=hf f m;exact Looks.of_pure rfl
 refine Oa (Ol (kat_run (κ:=tuples' ((Value.type "str") != Value.type "tuple")) (ks:=vs) (vs:=vs) (G:=fun p s'=>(∃ tk,s'={s with heap:=h6,toks:=tk})/\Srt.Pm xs.length p/\Srt.Up (ltX xs) p xs.length)
  (Q:=fun st' s'=>∃ p:Array Nat,arrOf st'=p.map (kas_item (vs.toArray.zip vs.toArray))/\failedOf st'=none/\(∃ tk,s'={s with heap:=h6,toks:=tk})/\Srt.Pm xs.length p/\Srt.Up (ltX xs) p xs.length)
  rfl (G7 h2) h64 (fun p st' s' _ a2 a3 a4=>⟨p,a2,a3,a4⟩) ?_) ?_ fun _ _ e=>e)
 ·rw[←hl];refine Srt.sort (G:=fun s'=>∃ tk,s'={s with heap:=h6,toks:=tk}) (ZfV nd) (fun i j C s' hi hj hij g k=>?_) (by omega) ⟨s.toks,rfl⟩ fun p s' hp hu g=>⟨g,hp,hu⟩
  obtain⟨tk,rfl⟩:=g;have hi':i<vs.length:=V6 hl hi
  have hj':j<vs.length:=V6 hl hj
  obtain⟨b1,t1,y1,e1,g1⟩:=hv6 i vs[i] xs[i] (Qa hi') (Qa hi);obtain⟨b2,t2,y2,e2,g2⟩:=hv6 j vs[j] xs[j] (Qa hj') (Qa hj);have n1:vs.getD i Value.none= .ref b1:=by rw[Qb,Qa hi'];exact e1
  have n2:vs.getD j Value.none= .ref b2:=by rw[Qb,Qa hj'];exact e2
  have hne:¬ xs[i]=xs[j]:=fun z=>hij ((WT nd).mp z);show Oe (Od prog w) A (keyLt' _ (vs.getD i Value.none) (vs.getD j Value.none)) C (fun _ _=>False) {s with heap:=h6,toks:=tk};rw[n1,n2];refine kat_lt (s:={s with heap:=h6,toks:=tk}) g1 rfl g2 rfl (kat_cons (wpAny_eqBool_str ?_));rw[decide_eq_false hne];refine kat_no (kas_lt_str ?_);have el:decide (xs[i].cps.toList<xs[j].cps.toList)=ltX xs i j:=by
   unfold ltX;rw[Xp hi,Xp hj]
  exact el▸k _ ⟨tk,rfl⟩
 ·rintro⟨⟨⟩,st'⟩ s' ⟨p,har,hf',⟨tk,rfl⟩,hp,hu⟩;refine Pf (fin tk p _ hp hu rfl) fun c f1 f2 f3=>?_;dsimp only;rw[kat_snds rfl har];refine Oa (O6 (s:={s with heap:=h6,toks:=tk}) ho6 rfl (Oa (OY (s:={s with heap:=h6,toks:=tk}) ho6 rfl ?_ (QT _) (Ur f2))));rw[hf'];simp only[bne_self_eq_false,WX,if_false];exact Ob f3
end
def ObjOk.there' (x:ObjOk P w H h a o):∃ u,h.get? a=some u:=by
 cases o with
 | lst j=>obtain⟨_,_,_,_,e⟩:=x;simp_all
 | tup j=>obtain⟨_,_,_,⟨_,e,_⟩,_⟩:=x;simp_all
 | dK b=>obtain⟨_,_,_,_,o,_,_,e,_⟩:=x;simp_all
 | dT b=>obtain⟨_,_,_,_,o,_,_,e,_⟩:=x;simp_all
 | set S n=>obtain⟨o,_,_,_,e,_⟩:=x;simp_all
 | ins C dx d=>obtain⟨_,_,_,e,_⟩:=x;simp_all
 | own y=>exact x
 | xd d=>obtain⟨_,⟨_,_,_,e,_⟩,_⟩:=x;simp_all
 | rng lo hi=>obtain⟨_,_,_,e⟩:=x;simp_all
 | frz ob u=>obtain⟨e,_⟩:=x;simp_all
 | tbl ps=>exact⟨_,x⟩
 | met f y=>exact⟨_,x⟩
 | ext φ=>obtain⟨_,e,_⟩:=x;omega
section
variable {X:Cx} {pins:List (Addr×Obj)} {σ:St} {H:Hp} {s:Shared}
def Inv.laidN {N:Addr->Option HO} (I:Inv X pins σ H s) (k:∀ b u,s.heap.get? b=some u->j.get? b=some u) (l:∀ a o,N a=some o->s.heap.get? a=none/\∀ m,ObjOk X.prog X.w m j a o) :
  Inv X pins σ (fun b=>(N b).or (H b)) {s with heap:=j,toks:=tk}:=by
 have d:∀ b u,s.heap.get? b=some u->N b=none:=fun b u h=>by
  cases q:N b with
  | none=>rfl
  | some o=>rw[(l b o q).1]at h;cases h
 have c:∀ b u,H b=some u->(N b).or (H b)=some u:=fun b u q=>by
  obtain⟨v,p⟩:=(I.hok b u q).there';rw[d b v p,U9];omega
 refine I.un ⟨fun b o q _ _ _=>k b o q,fun b o q _ _ _=>⟨_,k b o q⟩,fun b o q n _=>?_,fun b o q _=>⟨o,k b o q⟩,fun b r q=>c b _ q,fun b o u q=>c b _ q,fun b t q=>⟨#[],by rw[c b _ q];simp⟩⟩ fun a o q=>?_;rw[d b o q,U9];omega;cases e:N a with
 | some u =>
  simp_all
 | none =>
  rw[e]at q;exact(I.hok a o q).stay (fun b u _ z=>k b u z) (fun b z=>c b _ z) fun b r z=>c b _ z
end
def ivO (p d:Addr):HO:=.ext fun h=>h.IsItemsView p d
def ZmD:MtR X "dict.items" (fun x vs H Q=>∃ d kvs,x= .ref d/\vs=[]/\H d=some (.dK kvs)/\∀ p,H p=none->Q (.ref p) (upd H p (ivO p d))):=by
 intro a s σ H x vs v m Q I j i h;refine Pd h fun d kvs r0 r1 g q=>?_;subst r0;subst r1;cases j;cases i;obtain⟨t,lo,f,n,c⟩:=Zbv I.hok g;refine OA PySem.F.slot_dict_items c.typeIs PySem.F.entry_dict_items (PySem.F.args_dict_items_1 _) (meets_dict_items _ d lo) ⟨⟨_,c⟩,⟨.ref s.heap.objs.size,_,I.laid (fun b u e=>Qi _ e) (Ql _) ?_,rfl,q _ (I.hok.fresh (Ql _))⟩⟩;refine⟨⟨_,Qs _ rfl,rfl,rfl⟩,⟨_,Qs _ rfl⟩,fun l w ⟨o,e,r⟩ k=>⟨o,k o e,r⟩⟩
def ZjO (ks:List Str) (p) (e:Srt.Pm ks.length p):(p.toList.map fun i=>ks.getD i "").Perm ks:=by
 have f:=(UG.mp e.perm).map fun i=>ks.getD i "";have g:((Qz ks.length).toArray.toList.map fun i=>ks.getD i "")=ks:=by
  apply QI;intro i;simp only[Qh];by_cases b:i<ks.length
  rw[Q6 b,Qa b,We,Xp b];rw[Qj (by simp;exact G7 b),Qj (G7 b)];rfl
 rw[g]at f;omega
def XN {X:Cx} (hc:X.calm=true):CallR X (.builtin "sorted") (fun xs H Q=>∃ (p d:Addr) (ks:List Str) (g:Str->V),xs=[.ref p]/\H p=some (ivO p d)/\H d=some (.dK (ks.map fun x=>((Sum.inr x:Key),g x)))/\ks.Nodup/\ks.length<64 /\
  ∀ (D:Addr) (H1:Hp) (vs:List V) (ss:List Str),Same H H1->ss.Perm ks->(ss.map fun x=>x.cps.toList).Pairwise (· < ·)->H1 D=some (.lst vs)->vs.length=ss.length ->
   (∀ (i:Nat) (x:Str),ss[i]?=some x->∃ b,vs[i]?=some (.ref b)/\H1 b=some (.tup [.str x,g x]))->Q (.ref D) H1):=by
 intro pins s σ H xs us Q I r h;obtain⟨p,d,ks,g,rfl,hp,hd,nd,h64,q⟩:=h;obtain⟨u,rfl,rfl⟩:=YL r;have hview:s.heap.IsItemsView p d:=(I.hok p _ hp).1;obtain⟨hz,lo,vs',kv,dd⟩:=Zbv I.hok hd;obtain⟨ep,hat⟩:=dd.dictAt;have hlen:ks.length=vs'.length:=by have:=kv.length;simpa using this
 have hsz:vs'.length<=sizeLine:=by rw[Oj];lia
 refine Calls.call_function_entry kind_sorted plain_sorted entry_sorted (args_sorted1 _) ?_;unfold Builtin.«sorted»;refine Oa (m:=checkCount "sorted" 1 1 _) (Ob (Oa (kdx_collect (A:=X.A.in1) (knd:=ZA X.prog X.w) (kvs:=vs') (ep:=ep) (I.ok.hd hc) hview hat hsz fun h1 tk as hk hl hG=>Oa (O8 ?_ (by rw[Qc,hl];exact hsz)))));have pr:∀ (i:Nat),i<ks.length->∃ a t y,as[i]?=some a/\RelV (g (ks.getD i "")) y/\h1.get? a=some {cls:=.type "tuple",data:=.seq #[.str (ks.getD i "") t,y]}:=fun i hi=>by
  have hi2:i<as.length:=Bw hlen hi hl
  refine Pk (hG.pairs i as[i] (Qa hi2)) fun key k x e1 e2 e3=>?_;have ek:=congrArg (fun l:List Key=>l[i]?) kv.keys;simp only[Qh]at ek;rw[e1,Qa hi]at ek;have ek':(Sum.inr ks[i]:Key)=k:=Option.some.inj ek;have ev:RelV (g ks[i]) x:=by
   have key:∀ {l1:List (Key×V)} {l2:List (Key×Value)} (i:Nat) (p:Key×V) (q:Key×Value),Paired (fun(p:Key×V) (q:Key×Value)=>p.1=q.1/\RelV p.2 q.2) l1 l2->l1[i]?=some p->l2[i]?=some q->RelV p.2 q.2:=by
    intro l1 l2 i p q hP;induction hP generalizing i with
    | nil=>intro e;simp at e
    | cons r t ih =>
     intro e1 e2;cases i with
     | zero =>
      simp at e1 e2;subst e1 e2;exact r.2
     | succ i=>exact ih i (by simpa using e1) (by simpa using e2)
   exact key i (Sum.inr ks[i],g ks[i]) (k,x) kv (by rw[Qh,Qa hi];rfl) e1
  subst ek';rcases keyIs_shape (show Zbm (Sum.inr ks[i]) key=true from e2)with ⟨j,t,e4,_⟩ | ⟨z,t,e4,e5⟩
  cases e4
  injection e4 with e4
  subst e4;refine Lb (as[i]) t x ⟨Qa hi2,by exact Xp hi▸ev,?_⟩;rw[e3,e5,Xp hi]
 have hB:(h1.push {cls:=.type "list",data:=.seq (as.map Value.ref).toArray}).get? h1.objs.size=some (OP "list" (as.map Value.ref).toArray 0):=Qs _ rfl;refine Oa (Op (Oo slot_list_sort ⟨_,hB,rfl⟩ entry_list_sort ?body (args_list_sort _)));refine Zh4 (s:={s with heap:=h1.push {cls:=.type "list",data:=.seq (as.map Value.ref).toArray},toks:=tk}) (xs:=ks) hB (by rw[Qc];lia) (by rw[Qc];lia) nd (fun i v x e1 e2=>?_) fun h3 tk3 c pm hpm hup hkeep hD=>⟨_,rfl,Ob ⟨_,rfl,?_⟩⟩
 have hi:i<ks.length:=(Qo.mp e2).1;refine Pk (pr i hi) fun a t y f1 _ f3=>?_;rw[Qh,f1]at e1;cases e1;have ex:ks.getD i "" = x:=by rw[Qb,e2];rfl
 rw[ex]at f3;exact⟨a,t,y,rfl,Qi _ f3⟩
 have hold:∀ b u,s.heap.get? b=some u->h3.get? b=some u:=fun b u e=>hkeep b u (QJ (Qw (hk b u e))) (Qi _ (hk b u e));have hDn:s.heap.get? h1.objs.size=none:=by
  cases z:s.heap.get? h1.objs.size with
  | none=>rfl
  | some u=>exact absurd (Qw (hk _ u z)) (Wo _)
 have tup3:∀ (i:Nat),i<ks.length->∃ a t y,as[i]?=some a/\RelV (g (ks.getD i "")) y/\s.heap.get? a=none/\a≠h1.objs.size/\h3.get? a=some {cls:=.type "tuple",data:=.seq #[.str (ks.getD i "") t,y]}:=fun i hi=>by
  refine Pk (pr i hi) fun a t y f1 f2 f3=>?_;have ne:a≠h1.objs.size:=QJ (Qw f3);exact Lb a t y ⟨f1,f2,RI (Rn (hG.above a (Ww f1))),ne,hkeep a _ ne (Qi _ f3)⟩
 have asnd:as.Nodup:=hG.rise.imp fun {a b} z e=>by subst e;exact Wo _ z
 let N:Addr->Option HO:=fun b=>if b=h1.objs.size then some (.lst (pm.toList.map fun i=>V.ref (as.getD i 0)))else (as.idxOf? b).map fun i=>.tup [.str (ks.getD i ""),g (ks.getD i "")]
 have hND:N h1.objs.size=some (.lst (pm.toList.map fun i=>V.ref (as.getD i 0))):=if_pos rfl;have hNt:∀ (i:Nat),i<ks.length->∃ a,as[i]?=some a/\N a=some (.tup [.str (ks.getD i ""),g (ks.getD i "")]):=fun i hi=>by
  refine Po (tup3 i hi) fun a t y f1 f2 f3 f4 f5=>?_;refine⟨a,f1,?_⟩;show(if a=h1.objs.size then _ else _)=_;rw[if_neg f4];have hi2:i<as.length:=(Qo.mp f1).1;have e:as.idxOf? a=some i:=by
   rw[Ru];refine⟨hi2,by rw[Qa hi2]at f1;simpa using Option.some.inj f1,fun j hj=>?_⟩;intro z;have e1:as[j]'(by lia)=as[i]:=by rw[Qa hi2]at f1;rw[Option.some.inj f1];simpa using z
   exact absurd ((WT asnd).mp e1) (M9 hj)
  rw[e];rfl
 have hNall:∀ a o,N a=some o->s.heap.get? a=none/\∀ H2,ObjOk X.prog X.w H2 h3 a o:=fun a o e=>by
  by_cases ha:a=h1.objs.size
  subst ha;rw[hND]at e;cases e;refine⟨hDn,fun H2=>⟨?_,pm.toList.map (fun i=>Value.ref (as.getD i 0)),c,?_,?_⟩⟩
  rw[Qc,QL,hpm.size,Oj];exact Kq h64
  have gen:∀ l:List Nat,Vals (l.map fun i=>V.ref (as.getD i 0)) (l.map fun i=>Value.ref (as.getD i 0)):=by
   intro l;induction l with
   | nil=>exact .nil
   | cons i l ih=>exact .cons rfl ih
  exact gen _
  rw[hD];have el:(List.map (fun i=>(List.map Value.ref as).getD i Value.none) pm.toList)=pm.toList.map fun i=>Value.ref (as.getD i 0):=by
   refine QB fun i hi=>?_;have hi':i<as.length:=by
    have:i∈pm:=by simpa using hi
    have:=hpm.perm.mem_iff.mp this;have:i<ks.length:=by simpa using this
    exact Bw hlen this hl
   rw[Qb,Qh,Qa hi',Qb,Qa hi'];rfl
  rw[el]
  have e':(as.idxOf? a).map (fun i=>HO.tup [.str (ks.getD i ""),g (ks.getD i "")])=some o:=by
   have:(if a=h1.objs.size then some (HO.lst (pm.toList.map fun i=>V.ref (as.getD i 0)))else (as.idxOf? a).map fun i=>HO.tup [.str (ks.getD i ""),g (ks.getD i "")])=some o:=e;rw[if_neg ha]at this;exact this
  cases hx:as.idxOf? a with
  | none=>rw[hx]at e';cases e'
  | some i =>
   rw[hx]at e';cases e';obtain⟨hi,hai,_⟩:=Ru.mp hx;have hi':i<ks.length:=Bw hl hi hlen
   refine Po (tup3 i hi') fun a' t y f1 f2 f3 f4 f5=>?_;rw[Qa hi]at f1;have ea:a=a':=by rw[←Option.some.inj f1];simpa using hai.symm
   subst ea;refine⟨f3,fun H2=>⟨by show 2<=sizeLine;rw[Oj];decide,[.str (ks.getD i "") t,y],.cons ⟨t,rfl⟩ (.cons f2 .nil),⟨⟨_,f5,rfl,_,rfl⟩,fun o e=>by rw[f5]at e;cases e;rfl⟩⟩⟩
 refine⟨.ref h1.objs.size,_,I.laidN (N:=N) (tk:=tk3) hold hNall,rfl,?_⟩;have hsame:Same H fun b=>(N b).or (H b):=fun b u e=>by
  obtain⟨v,hv⟩:=(I.hok b u e).there';have:N b=none:=by
   cases z:N b with
   | none=>rfl
   | some o=>rw[(hNall b o z).1]at hv;cases hv
  show(N b).or (H b)=some u;rw[this,U9];exact e
 refine q _ _ (pm.toList.map fun i=>V.ref (as.getD i 0)) (pm.toList.map fun i=>ks.getD i "") hsame (ZjO ks pm hpm) ?_ (by rw[hND];rfl) (by rw[Qc,Qc]) fun i x e=>?_
 rw[QN,Wl,Uh];intro i j hi hj hij;have hz2:pm.toList.length=ks.length:=by rw[QL,hpm.size]
 have hu:=hup i j hij (V6 hz2 hj);unfold ltX at hu;rw[decide_eq_true_eq]at hu;have g1:pm.getD i 0=pm.toList[i]:=by rw[Wd,Wz (by simpa using hi)];simp
 have g2:pm.getD j 0=pm.toList[j]:=by rw[Wd,Wz (by simpa using hj)];simp
 rw[g1,g2]at hu;exact hu
 rw[Qh]at e;cases ep:pm.toList[i]? with
 | none=>rw[ep]at e;cases e
 | some k =>
  rw[ep]at e;have ex:ks.getD k "" = x:=Option.some.inj e;have hkm:k∈pm:=by simpa using Ww ep
  have hkl:k<ks.length:=by simpa using hpm.perm.mem_iff.mp hkm
  obtain⟨a,f1,f2⟩:=hNt k hkl;refine⟨a,?_,?_⟩
  rw[Qh,ep,We,Qb,f1];rfl
  show(N a).or (H a)=_;rw[f2,Vw,ex]
def ZqA (td:TE):TE:=fun σ H Q=>td σ H fun x H1=>∃ d kvs,x= .ref d/\H1 d=some (.dK kvs)/\∀ p,H1 p=none->Q (.ref p) (upd H1 p (ivO p d))
def ZcO {c a} (l:PE X o t) (e:OD o "items" X.env (eval o X.env)=eval o X.env:=by rfl) (f:(c.endLine==a.line)=true:=by rfl) :
  PE X (.Call (.Attribute o "items" c) [] [] a) (ZqA t):=by
 intro b s σ H Q I h;refine wpAny_Call_method0_late e f (thn (l b s σ H _ I h) fun v k ⟨x,m,i,u,d,g,q,j,n⟩=>?_);subst q;obtain rfl:v=Value.ref d:=u;have⟨r,p,_⟩:=Zcc i (.inl ⟨g,.inl j⟩);exact⟨_,_,PySem.F.plainAttrs_dict,PySem.F.slot_dict_items,PySem.F.type_dict_items,r,p,Calls.callWith_builtin rfl (PySem.evalArgs_none (ZmD b k σ m (.ref d) [] _ [] Q i rfl .nil ⟨d,g,rfl,rfl,j,n⟩))⟩
open PySem PySem.Spec PyProof.Rows
structure XCls (K:PySem.W.Frag) (mg:Str->Option Value) (x:Str) (C:Addr) (bm:List Value):Prop where
 bound:mg x=some (.ref C)
 look:∃ nm q N bs hdct sn sub ab col dd k0 k1 k2 k3 k5,K.lookup C=some (Gp nm q C N bs bm hdct sn sub ab col dd k0 k1 k2 k3 k5 "ValueError.__new__") /\
  PySem.W.nsOkIn K N=true/\PySem.W.nsIn K N "__init__" = some none
 tail:PySem.W.tailIn K [.type "ValueError",.type "Exception",.type "BaseException",.type "object"] bm=true
noncomputable def Zrl (K:PySem.W.Frag) (C:Addr):List Value:=match K.lookup C with
 | some ⟨_,_,.cls cd,_⟩=>cd.mro.tail
 | _=>[]
def xcls_mk {K} (A:D x=some (.ref C)) (a:PySem.W.excIn K C [.type "ValueError",.type "Exception",.type "BaseException",.type "object"] "ValueError.__new__" = true):XCls K D x C (Zrl K C):=by
 unfold PySem.W.excIn at a;cases f:K.lookup C with
 | none=>simp_all
 | some o =>
  rw[f]at a;split at a
  rename_i J j F q;injection q with m
  subst m;split at a
  rename_i i h y v E k n N g u;rw[QW,QW,QW,QW,QW]at a;obtain⟨⟨⟨⟨⟨s,z⟩,T⟩,G⟩,M⟩,S⟩:=a;have H:=beq_iff_eq.mp s;have R:=beq_iff_eq.mp z;subst H;subst R;obtain⟨p,O,t,P,w,r,L,B,Q,b,d⟩:=j;have I:Zrl K i=h:=by
   unfold Zrl;rw[f];have e:t=Value.ref i::h:=g;rw[e];rfl
  rw[I];have c:d=false:=by simp_all
  subst g;subst c;obtain⟨l⟩:=F;subst u;exact⟨A,⟨p,w,P,O,r,L,B,Q,b,J,y,v,E,k,N,f,M,(beq_iff_eq.mp S)⟩,G⟩
  simp_all
  simp_all
def XCls.at {K} (c:XCls K g x C d) (X:K.In h):∃ N nm q bs hdct sn sub ab col dd k0 k1 k2 k3 k5 b,
  h.get? C=some (Gp nm q C N bs d hdct sn sub ab col dd k0 k1 k2 k3 k5 "ValueError.__new__")/\h.Ns N b/\b "__init__" = none/\OwnTail h [.type "ValueError",.type "Exception",.type "BaseException",.type "object"] d:=by
 obtain⟨nm,q,N,bs,hdct,sn,sub,ab,col,dd,k0,k1,k2,k3,k5,e,a,f⟩:=c.look;exact⟨N,nm,q,bs,_,sn,sub,ab,col,dd,k0,k1,k2,k3,k5,_,X _ _ e,.of_isNs (PySem.W.isNs_of_in X a),PySem.W.nsMap_none_of_in X a f,PySem.W.tail_of_in X c.tail⟩
def CXx (P:Oc) (w:Of):CXT:=fun outer H s E e s'=>∃ (ea:Addr) (cls a0:Value) (H':Hp) (B:Heap),e= .ref ea/\s'.os=s.os/\O3 s'.gens/\Un (frs outer) [] H H' s.heap s'.heap/\HOk P w H' s'.heap /\
 Heap.FlyingW B outer ea cls a0 s'.heap/\(∀ b u,H' b=some u->∃ o,B.get? b=some o)/\(∀ b o,s.heap.get? b=some o->H b=none->b∉frs outer->B.get? b=some o) /\
 (∀ b o,s.heap.get? b=some o->b∉frs outer->∃ o',B.get? b=some o')/\E cls none H'
def HOk.stays {h h' B:Heap} (x:HOk P w H h) (g:∀ b u,H b=some u->∃ o,B.get? b=some o) (i:B.StaysIn h) (j:B.StaysIn h'):HOk P w H h':=fun a o e=>by
 have k:∀ b u,H b=some u->∀ v,h.get? b=some v->h'.get? b=some v:=fun b u q v l=>by
  obtain⟨m,d⟩:=g b u q;have c:=i b m d;rw[l]at c;cases c;exact j b v d
 exact (x a o e).stay (fun b v n q=>by grind) (fun _ q=>q) fun _ _ q=>q
def Zdg (h:env.frame=some L):frs (env::l)=L::frs l:=by
 unfold frs
 simp_all
def ObjOk.there (x:ObjOk P w H h a o):∃ u,h.get? a=some u:=by
 cases o with
 | lst j=>obtain⟨_,_,_,_,e⟩:=x;simp_all
 | tup j=>obtain⟨_,_,_,⟨_,e,_⟩,_⟩:=x;simp_all
 | dK b=>obtain⟨_,_,_,_,o,_,_,e,_⟩:=x;simp_all
 | dT b=>obtain⟨_,_,_,_,o,_,_,e,_⟩:=x;simp_all
 | set S n=>obtain⟨o,_,_,_,e,_⟩:=x;simp_all
 | ins C dx d=>obtain⟨_,_,_,e,_⟩:=x;simp_all
 | own y=>exact x
 | xd d=>obtain⟨_,⟨_,_,_,e,_⟩,_⟩:=x;simp_all
 | rng lo hi=>obtain⟨_,_,_,e⟩:=x;simp_all
 | frz ob u=>obtain⟨e,_⟩:=x;simp_all
 | tbl ps=>exact⟨_,x⟩
 | met f y=>exact⟨_,x⟩
 | ext φ=>obtain⟨_,e,_⟩:=x;omega
structure Lv (X:Cx) (E:XK):Prop where
 ex:X.ex=[]
 stk:X.stack=X.env::X.outer
 fr:X.env.frame=some X.env.locals
 xe:∀ e s',Oe (Od X.prog X.w) X.A (leaving X.env e) (fun _ s''=>CXx X.prog X.w X.outer X.H₀ X.s₀ E e s'') (fun e' s''=>CXx X.prog X.w X.outer X.H₀ X.s₀ E e' s'') s'->X.xe e s'
section
variable {X:Cx} {E:XK} {pins:List (Addr×Obj)} {σ:St} {H:Hp} {s:Shared}
def Lv.frs (L:Lv X E):frs X.stack=X.env.locals::X.fs:=by exact L.stk▸Zdg L.fr
def Lv.old (L:Lv X E) (I:Inv X pins σ H s) (q:X.s₀.heap.get? b=some o) (c:b∉X.fs):b∉L2.frs X.stack:=by
 rw[L.frs,Qx];rintro(z | z);exact absurd (QU (Qw q) (z▸I.ok.above)) (Wo _)
 simp_all
def Lv.noex (L:Lv X E) (b):b∉X.ex:=by rw[L.ex];simp
def Lv.raised (L:Lv X E) (I:Inv X pins σ H s) (r:Heap.MadeExcOf s.heap h1 e (.ref C) w) (hE:E (.ref C) none H):X.xe (.ref e) {s with heap:=h1}:=by
 have l:∀ f∈X.stack,∀ b,f.frame=some b->b∈L2.frs X.stack:=fun f he b a=>Rf.mpr ⟨f,he,a⟩;have fB:=PySem.W.funFrames_hide I.stack l;have m:∀ b o,s.heap.get? b=some o->b∉L2.frs X.stack->(PySem.W.hideAll s.heap _).get? b=some o:=fun b o q n=>PySem.W.hideAll_get _ q n;rw[L.stk]at fB;refine L.xe _ _ (wpAny_leaves_madeW (base:=PySem.W.hideAll s.heap (L2.frs X.stack)) (by exact L.stk▸I.ok.frames) L.fr (fun b o q=>PySem.W.of_hideAll _ q) (by rw[L.stk];omega) r fun h2 t j tup bt up=>?_);have v:∀ b u,H b=some u->∃ o,(PySem.W.hideAll s.heap _).get? b=some o:=fun b u q=>by
  obtain⟨o,i⟩:=(I.hok b u q).there;exact⟨o,m b o i fun z=>by rw[I.stkFree b z]at q;grind⟩
 have c2:=fun b o q n a=>m b o (I.base.keep b o q n a (L.noex b)) (L.old I q a);have y:∀ b o,X.s₀.heap.get? b=some o->b∉L2.frs X.outer->∃ c,(PySem.W.hideAll s.heap _).get? b=some c:=fun b o q a=>by
  obtain⟨c,g⟩:=I.base.there b o q (L.noex b);exact⟨c,m b c g (L.old I q a)⟩
 have x:∀ b∈L2.frs X.outer,∀ o,s.heap.get? b=some o->∃ sl,h2.get? b=some _:=fun b a o q=>by
  obtain⟨_,c,i,hd⟩:=I.stack.mem (by show b∈L2.frs X.stack;exact L.frs▸Qg _ a);rw[q]at i;cases i;exact up b o (r.keeps b o q) hd
 refine La e _ _ H _ ⟨rfl,I.os,I.bare,⟨fun b o q n a _=>j.1 b o (c2 b o q n a),fun b o q n a _=>?_,fun b o q n _=>I.base.free b o q n (L.noex b),fun b o q _=>?_,I.base.tups,I.base.frzs,I.base.tbls⟩,I.hok.stays v (fun b o q=>PySem.W.of_hideAll _ q) j.1,j,v,c2,y,hE⟩
 obtain⟨sl,g⟩:=I.base.slot b o q n a (L.noex b);obtain⟨h,p⟩:=x b a _ g;exact⟨h,p⟩;by_cases a:b∈L2.frs X.outer
 obtain⟨c,g⟩:=I.base.there b o q (L.noex b);obtain⟨h,p⟩:=x b a _ g;exact⟨_,p⟩;obtain⟨c,g⟩:=y b o q a;exact⟨c,j.1 b c g⟩
def Lv.pass (L:Lv X E):Jf (CXx X.prog X.w) X E:=by
 intro G σ H s e C I S;obtain⟨J,h,F,O,B,rfl,os,i,g,k,m,y,c2,U,hE⟩:=S;have l:Heap.FlyingW B (X.env::X.outer) J h F C.heap:=by exact L.stk▸m
 refine L.xe _ _ (wpAny_leaves_onW (by exact L.stk▸I.ok.frames) L.fr l fun V d W=>?_);have D:∀ b o,X.s₀.heap.get? b=some o->X.H₀ b=none->b∉L2.frs X.outer->B.get? b=some o:=fun b o q n a =>
  c2 b o (I.base.keep b o q n a (L.noex b)) (I.base.free b o q n (L.noex b)) (L.old I q a)
 have z:∀ b o,X.s₀.heap.get? b=some o->b∉L2.frs X.outer->∃ c,B.get? b=some c:=fun b o q a=>by
  obtain⟨c,f⟩:=I.base.there b o q (L.noex b);exact U b c f (L.old I q a)
 have A:∀ b∈L2.frs X.outer,∀ o,C.heap.get? b=some o->∃ v,V.get? b=some {o with slots:=v}:=fun b a o q=>by
  obtain⟨_,c,w,M⟩:=m.2.2.1.mem (b:=b) (by show b∈L2.frs X.stack;exact L.frs▸Qg _ a);rw[q]at w;cases w;exact W b o q M
 have t:∀ b∈L2.frs X.outer,b∈L2.frs X.stack:=fun b a=>by exact L.frs▸Qg _ a
 refine⟨J,h,F,O,B,rfl,os.trans I.os,i,⟨fun b o q n a _=>d.1 b o (D b o q n a),fun b o q n a _=>?_,fun b o q n _=>?_,fun b o q _=>?_,fun b x q=>g.tups b x (I.base.tups b x q),fun b o u q=>g.frzs b o u (I.base.frzs b o u q),fun b N q=>?_⟩,
  k.stays y m.1 d.1,d,y,D,z,hE⟩
 obtain⟨v,f⟩:=I.base.slot b o q n a (L.noex b);obtain⟨K,r⟩:=g.slot b _ f (I.base.free b o q n (L.noex b)) (t b a) (by simp);obtain⟨j,p⟩:=A b a _ r;exact⟨j,p⟩
 obtain⟨c,f⟩:=I.base.there b o q (L.noex b);exact g.free b c f (I.base.free b o q n (L.noex b)) (by simp)
 by_cases a:b∈L2.frs X.outer
 obtain⟨c,f⟩:=I.base.there b o q (L.noex b);obtain⟨P,r⟩:=g.there b c f (by simp);obtain⟨j,p⟩:=A b a _ r;exact⟨_,p⟩
 obtain⟨c,f⟩:=z b o q a;exact⟨c,d.1 b c f⟩
 obtain⟨Z,R⟩:=I.base.tbls b N q;obtain⟨T,Q⟩:=g.tbls b _ R;exact⟨Z++T,by rw[Q,RZ]⟩
def Zqw (E:XK) (C:Addr) (t:TA):TS:=fun D σ H=>t σ H fun vs H1=>vs.length<=sizeLine/\E (.ref C) none H1
def Y3 {S a m} (L:Lv X E) (c:XCls X.K X.mg x C bm) (d:X.calm=true) (B:PA X (b::es) t) (U:Gl X x:=by rfl) (A:(x==("__debug__"))=false:=by decide)
  (p:Og (b::es) X.env=(false,eval b X.env)::Og es X.env:=by rfl) (z:(Om a (Og es X.env)).any (·.1)=false:=by rfl) :
  PS X (.Raise (some (.Call (.Name x S) (b::es) [] a)) none m) (Zqw E C t):=by
 intro g s σ H D I h;have⟨N,v,q,V,i,K,sub,O,n,w,G,F,M,P,Q,mN,R,u,l,T⟩:=c.at I.mod.kin;have f:(Om a (Og (b::es) X.env)).any (·.1)=false:=by
  rw[p]
  trivial
 refine wpAny_Raise_call_subU (nm:=v) (q:=q) (N:=N) (bs:=V) (hdct:=i) (sn:=K) (sub:=sub) (ab:=O) (col:=n) (dd:=w) (k0:=G) (k1:=F) (k2:=M) (k3:=P) (k5:=Q)
  PySem.F.excBase_ValueError (by decide) PySem.F.excBase_ValueError (T.hasType PySem.F.excBase_ValueError.hasBase) (I.ok.hd d) f l (Zah I U c.bound ⟨rfl,?_⟩ A)
 have o:=B a g s σ H _ I h;rw[p]at o ⊢;refine Calls.evalArgs_plain (Ol o (fun Y s2 ⟨vs,H2,j,r,Z,W⟩=>⟨rfl,?_,?_⟩) fun _ _ y=>y);rw[←r.length];omega;exact⟨j.bk _ _ R,u.keeps j.bk,T.keeps j.bk,fun h1 e J=>L.raised j J W⟩
end
def Fun.okX {K} {st} (F:Fun K x c st f q) (S:Zm N ps (Zf st)) (g:∀ vs H Q E,sp vs H Q E->vs.length=ps.length)
  (d:∀ (X) (vs) (H) (Q) (E) (b) (A) (a) (s),X=ZeL (CXx P w) P w K j base N c (Zf st) f b A a s H E->Lv X E->Room k X.A->sp vs H Q E ->
   ∃ t,PSs (ZeL (CXx P w) P w K j base N c (Zf st) f b A a s H E) (ZR st) t/\t {nx:=fun _ m=>Q .non m,rt:=Q} (start N vs) H):FnOk P w K j base (CXx P w) (k+1) f q ps sp:=by
 obtain⟨y,u,kV,o,z,v,b,r,p,rfl,l,i⟩:=F.ex;exact ZpY l i S g fun A a s H vs Q E n e=>d _ vs H Q E b A a s rfl ⟨rfl,rfl,rfl,fun _ _ h=>h⟩ n e
structure FOkX (P:Oc) (w:Of) (K:PySem.W.Frag) (mg:Str->Option Value) (base:Heap) (k:Nat) (name:Str) (ps:List Str) (sp:Sp):Prop where
 ex:∃ f fd,FnOk P w K mg base (CXx P w) k f fd ps sp/\Binds K fd ps []/\mg name=some (.ref f)/\PySem.W.keepIn K (.ref f)=true
def FOkX.mono {P:Oc} {w:Of} {K:PySem.W.Frag} {a:Str->Option Value} {base:Heap} {name:Str} {ps:List Str} {j k:Nat} {sp:Sp} (G:FOkX P w K a base j name ps sp) (h:j<=k):FOkX P w K a base k name ps sp:=by
 obtain⟨f,b,F,r⟩:=G.ex;exact⟨f,b,F.mono h,r⟩
def HasDef.okX {K} {st} (D:HasDef K i name st ps) (S:Zm N ps (Zf st)) (g:∀ vs H Q E,sp vs H Q E->vs.length=ps.length)
  (d:∀ (f) (c) (A) (a) (s) (vs) (H) (Q) (E),Lv (ZeL (CXx P w) P w K i base N name (Zf st) f c A a s H E) E->Room k (A.deeper (OT name (Zf st) s.heap.objs.size f c))->sp vs H Q E ->
   ∃ t,PSs (ZeL (CXx P w) P w K i base N name (Zf st) f c A a s H E) (ZR st) t/\t {nx:=fun _ n=>Q .non n,rt:=Q} (start N vs) H):FOkX P w K i base (k+1) name ps sp:=by
 obtain⟨f,j,F,b,m⟩:=D.ex;refine⟨f,j,F.okX S g fun X vs H Q E c A a s e l r h=>?_,b,m,F.kp⟩;subst e;exact d f c A a s vs H Q E l r h
section
variable {X:Cx} {pins:List (Addr×Obj)} {σ:St} {H:Hp} {s:Shared}
noncomputable abbrev Cx.caught (X:Cx) (ea:Addr) (pn:List (Addr×Obj)):Cx:={X with A:=X.A.mark (some (.ref ea)),calm:=false,pn:=pn,xe:=fun _ _=>False}
def Inv.caught (I:Inv X pins σ H s) (h:s.heap.get? b=some oe) (i:H b=none) (f:b≠X.env.locals) (g:b∉X.fs) (j:∀ v,oe.data≠.cell v):Inv (X.caught b (X.pn++pins++[(b,oe)])) [] σ H s :=
 ⟨⟨I.ok.mod,I.ok.kind,I.ok.glob,I.ok.blt,I.ok.above,I.ok.inj,I.ok.has,I.ok.cab,fun z=>(QV z).elim,I.ok.frames,I.ok.stk,I.ok.exf,I.ok.bs,I.ok.bsz,I.ok.noex,I.ok.exfs,I.ok.funs,I.ok.frf⟩,I.os,I.bare,I.base,I.loc,I.cell,I.free,I.freeC,fun p e=>by
  have c:p∈X.pn++pins++[(b,oe)]:=by simpa using e
  rcases QG.mp c with z | z
  exact I.pin p z;rw[Qr.mp z];exact⟨h,i,f,g,j⟩,I.hok,I.len⟩
def Inv.uncaught (d:X.Ok) (I:Inv (X.caught e (X.pn++pins++q)) b σ H s):Inv X pins σ H s :=
 ⟨d,I.os,I.bare,I.base,I.loc,I.cell,I.free,I.freeC,fun p c=>I.pin p (Q0 _ (Q0 _ c)),I.hok,I.len⟩
end
section
variable {prog:Oc} {w:Of} {A:Around} {E:Value->Shared->Prop} {s:Shared} {K:Frag} {a C:Addr} {o:Obj}
end
def Zst:Jf (CXx X.prog X.w) X E0:=fun _ _ _ _ _ _ _ h=>by
 obtain⟨_,_,_,_,_,_,_,_,_,_,_,_,_,_,z⟩:=h;exact z.elim
def Zq4 {p a} (G:FOkX X.prog X.w X.K X.mg X.base k name ps sp) (i:Room k X.A) (n:PA X (e::es) t) (l:Gl X name:=by rfl)
  (c:(name==("__debug__"))=false:=by decide) (j:Og (e::es) X.env=(false,eval e X.env)::Og es X.env:=by rfl) (d:(Om a (Og es X.env)).any (·.1)=false:=by rfl) :
  PE X (.Call (.Name name p) (e::es) [] a) (ZoE sp [] E0 t):=by
 have⟨f,o,F,b,m,h⟩:=G.ex;exact ZjT F i l m h b .nil Zst n c j d
def Z9:MtR X "list.append" ZjF:=Zep
def hasDef_mk {K} {st} {kV o j m b} (X:K.In h) (G:h.Ns Oh p)
  (a:PySem.W.nsIn K Oh name=some (some (.ref f))) (l:K.lookup f=some ⟨s,r,.func (PySem.W.fnOf name name (Ya st) (ZR st) (Zf st) .none kV o j n m b),t⟩) (c:PySem.W.codeIn K m name=true) (k:PySem.W.keepIn K (.ref f)=true)
  (q:∀ (kV g j) (n) (d b) (i),i.length=ps.length->O9 (PySem.W.fnOf name name (Ya st) (ZR st) (Zf st) .none kV g j n d b) ⟨i,[]⟩=pure (ps.zip i)):HasDef K p name st ps :=
 ⟨_,_,ZkT l c k,(ZkT l c k).binds q,PySem.W.mg_of X G a⟩
def YG {A B:Prop} (h:c=true) (a:A):if c=true then A else B:=by simp_all
def Yw {A B:Prop} (h:c=false) (b:B):if c=true then A else B:=by simp_all
def JO (h:¬ a=b):decide (V.int a=V.int b)=false:=decide_eq_false fun q=>h (by simp_all)
def Zg1 (h:a=b):decide (V.int a=V.int b)=true:=decide_eq_true (congrArg V.int h)
open PySem PySem.Spec PyProof.Rows PySem.Builtin.Str
def Xr {i} (c:0<=i) (a:i<=x.length):(Txt.slice x (some i) none).cps.toList=x.cps.toList.drop i.toNat:=by
 rw[eq_of_beq (slice_closes_fromL c a rfl)];simp[Str.length];exact QP (by simp;omega)
def iOr (w1 w2:TI):TI:=fun σ H R=>w1 σ H R\/w2 σ H R
def Zo9 (d:PI X b l c) (e:PI X b l f):PI X b l (iOr c f):=by
 intro a s σ H R I h;rcases h with h | h
 exact d a s σ H R I h;exact e a s σ H R I h
def ZgZ {K} (b:n∈ZaQ):∀ a:List String,(∀ c∈a,c∈Zdn)->PySem.W.kitAny K (.type n) (a.map Value.type)=some (a.any (isiB n))
 | [],_=>rfl
 | c::a,h=>by
  have e:PySem.W.kitOne K _ _=some _:=ZkA n b c (h c Qd);have f:=ZgZ (K:=K) b a fun d m=>h d (Qg _ m);rw[Qp,PySem.W.kitAny,e,Ul];cases isiB n c with
  | true=>rfl
  | false=>grind
def Zio:∀ (b:List String) (a),Vals (b.map V.ty) a->a=b.map Value.type
 | [],a,r=>by cases r;rfl
 | c::b,a,r=>by
  cases r with
  | cons f e =>
   rw[Zio b _ e,f];rfl
def Zlg:CallR X (.builtin "isinstance") (fun xs H Q=>∃ (x:V) (t:Addr) (g:List String) (n:String),xs=[x,.ref t]/\H t=some (.tup (g.map V.ty))/\(∀ c∈g,c∈Zdn)/\TyB H x n/\Q (.bl (g.any (isiB n))) H):=by
 intro k s σ H xs us Q I r h;obtain⟨x,t,g,n,rfl,J,hc,w,q⟩:=h;obtain⟨u,w',rfl,d,rfl⟩:=Zir r;obtain⟨_,p,F,⟨o,f,h2,m,h3⟩,_⟩:=I.hok t _ J;have C:=Zio g p F;subst C;obtain⟨_⟩:=o;subst h2 h3;have e:=ZgZ (K:=X.K) w.mem g hc;have b:∀ A,EP X k σ Q _ {s with toks:=A}:=fun A=>⟨.bl _,H,I.tok _,rfl,q⟩
 cases w with
 | non=>cases d;exact PySem.W.kia_tup PySem.W.kitx_none I.kIn True.intro f e (fun z=>nomatch z) b
 | bl y=>cases d;exact PySem.W.kia_tup PySem.W.kitx_bool I.kIn True.intro f e (fun z=>nomatch z) b
 | int i=>obtain⟨t,rfl⟩:=d;exact PySem.W.kia_tup PySem.W.kitx_int I.kIn True.intro f e (fun z=>nomatch z) b
 | str y=>obtain⟨t,rfl⟩:=d;exact PySem.W.kia_tup PySem.W.kitx_str I.kIn True.intro f e (fun z=>nomatch z) b
 | @lst a xs l =>
  cases d;obtain⟨_,_,_,_,j⟩:=I.hok a _ l;exact PySem.W.kia_tup PySem.W.kitx_list I.kIn ⟨_,j,rfl⟩ f e (fun z=>nomatch z) b
 | @tup a xs l =>
  cases d;obtain⟨_,_,_,⟨o,j,v,_⟩,_⟩:=I.hok a _ l;exact PySem.W.kia_tup PySem.W.kitx_tuple I.kIn ⟨o,j,v⟩ f e (fun z=>nomatch z) b
 | @dK a D l =>
  cases d;obtain⟨_,_,vs,_,o,es,ep,j,v,_⟩:=I.hok a _ l;exact PySem.W.kia_tup PySem.W.kitx_dict I.kIn ⟨o,j,v.1⟩ f e (fun z=>nomatch z) b
def Inv.laid2 {σ:St} {a x y:Addr} (I:Inv X d σ H s) (k:∀ b u,b≠x->b≠y->s.heap.get? b=some u->h'.get? b=some u) (hx:Zga X d H x) (hy:Zga X d H y)
  (hxt:∃ u,h'.get? x=some u) (hyt:∃ u,h'.get? y=some u) (l:s.heap.objs.size<=a) (new:ObjOk X.prog X.w (upd H a o) h' a o):Inv X d σ (upd H a o) {s with heap:=h',toks:=t'}:=by
 obtain⟨f0,f1,f2,f3,f4,f5⟩:=hx;obtain⟨g0,g1,g2,g3,g4,g5⟩:=hy;have j:H a=none:=I.hok.fresh l;have g:∀ b u,H b=some u->b≠x/\b≠y:=fun b u e=>⟨(fun z=>by simp_all),(fun z=>by simp_all)⟩
 have i:∀ b:Addr,b∉[x,y]->b≠x/\b≠y:=fun b h=>⟨fun z=>h (by simp[z]),fun z=>h (by simp[z])⟩
 refine I.step (g':=s.gens) (d':=s.drawn) (ch:=[x,y]) (fun b h=>?_) (fun b u _ _ f e _=>k b u (i b f).1 (i b f).2 e) (fun b u _ _ f e _=>⟨u.slots,k b u (i b f).1 (i b f).2 e⟩) (fun b u _ e n=>?_)
  (fun b u f e=>⟨u,k b u (i b f).1 (i b f).2 e⟩) (fun b xs e=>?_) (fun b u xs e=>?_) (fun b ps e=>⟨#[],?_⟩) (fun m hm=>?_) (fun b u e=>?_) I.bare
 rcases Qx.mp h with z | z
 subst z;exact⟨f3,f1,f4,f5⟩
 have z:=Qr.mp z;subst z;exact⟨g3,g1,g4,g5⟩
 rw[Zj (QJ (QU (Qw e) l))];omega
 rw[Zj (Zl e j)];omega
 rw[Zj (Zl e j)];omega
 rw[Zj (Zl e j),e];simp
 obtain⟨o,es,ep,ho,r⟩:=hm;exact⟨o,es,ep,k _ o (Ne.symm f1) (Ne.symm g1) ho,r⟩
 by_cases h:b=a
 subst h;rw[Ze]at e;cases e;omega
 rw[Zj h]at e;refine(I.hok b u e).stay (fun c v f q=>k c v ?_ ?_ q) (fun c q=>by exact Zj (Zl q j)▸q) fun c xs q=>by exact Zj (Zl q j)▸q
 rcases f with z | z
 exact z▸(g b u e).1
 exact(g c _ z).1
 rcases f with z | z
 exact z▸(g b u e).2
 exact(g c _ z).2
def Ite (K:PySem.W.Frag) (a:Addr):It :=
 ⟨fun i H=>∃ xs x,SqL K H a xs/\xs[i]?=some x,fun i H x H'=>∃ t y,H t=none/\x= .ref t/\H'=upd H t (.tup [.int i,y])/\∀ xs,SqL K H a xs->xs[i]?=some y,fun i H=>∃ xs,SqL K H a xs/\xs.length<=i⟩
def Ziy {K} (a e f) (j:e≠f):Zng P w K (.Tuple elts k pos) (Ite K a) [e,f] e (fun i h=>(∃ c,IsEnum h e f i c)/\h.IsListIter f a i) where
 mem:=by simp
 obj:=fun i h st b g=>by
  obtain⟨⟨c,d⟩,o,A,_⟩:=st;rcases Qx.mp g with z | z
  subst z;exact⟨_,d,fun v z=>by
   simp_all⟩
  have z:=Qr.mp z;subst z;exact⟨o,A,fun v z=>by simp_all⟩
 keep:=fun i h h' ⟨⟨c,d⟩,st⟩ t=>⟨⟨c,t e (by simp) _ d⟩,st.at fun o A=>t f (by simp) o A⟩
 item:=by
  intro X hP hw hK hc i l s σ H E I n ⟨⟨c,d⟩,st⟩ hg;subst hP hw hK;refine Pb hg fun xs x y hx=>?_;refine Pf (I.list y) fun C rv p hz=>?_;refine Pe (rv.get hx) fun u hu ru=>?_;refine wpAny_pyNext_enum_item d st p.isList (x:=u) (by simpa using hu) j fun h1 heo st1 ht1 hz1 t=>⟨_,rfl,wpAny_letOwnedTupleGo_enum heo fun h2 D sb=>?_⟩;have hk2:∀ b o,b≠e->b≠f->s.heap.get? b=some o->h2.get? b=some o:=fun b o q1 q2 q=>(sb.2 b q1).trans (t b o q1 q2 q);have r:s.heap.objs.size≠e:=Ro (Qw d);have B:h2.get? s.heap.objs.size=some {cls:=.type "tuple",data:=.seq #[.int i s.toks,u]}:=(sb.2 _ r).trans ht1;have m:h2.IsListIter f a (i+1):=st1.extBut sb.extBut (Ne.symm j);refine⟨.ref s.heap.objs.size,_,Inv.laid2 (s:=s) (a:=s.heap.objs.size) (t':=s.toks+1) (o:=.tup [.int i,x]) I hk2 (n e (by simp)) (n f (by simp)) ⟨_,D⟩ (let ⟨o,q,_⟩:=m;⟨o,q⟩) (Ql _) ?_,rfl,⟨_,x,I.hok.fresh (Ql _),rfl,rfl,fun ys hy=>by rw[I.list_inj hy y];omega⟩,⟨⟨u,?_⟩,m⟩,fun b g=>?_⟩
  refine⟨(show 2<=sizeLine by rw[Oj];decide),[.int i s.toks,u],.cons ⟨_,rfl⟩ (.cons ru .nil),⟨_,B,rfl,_,rfl⟩,fun o q=>by simp_all⟩
  grind
  rw[Zj]
  exact(n b g).1
  rcases Qx.mp g with z | z
  exact z▸Ne.symm r
  rw[Qr.mp z];obtain⟨o,q,_⟩:=st;exact QJ (Qw q)
 done:=by
  intro X hP hw hK hc i l s σ H E I n ⟨⟨c,d⟩,st⟩ hg;subst hP hw hK;obtain⟨xs,y,_⟩:=hg;obtain⟨C,rv,p,_⟩:=I.list y;refine Pg (n f (by simp)) fun g0 g1 g2 g3 g4 g5=>?_;have hl:=rv.length;exact wpAny_pyNext_enum_end (I.ok.hd hc) d st p.isList (by simp;exact Ka ‹_› hl) fun h' eb=>⟨rfl,I.turned (t':=s.toks) (fun b o g e=>eb b o g e) g0 g1 g3 g4 g5⟩
 self:=fun _ _ _ _ _ ⟨⟨c,d⟩,_⟩ h=>wpAny_pyIter_enum d h
def ZrP:Oi "enumerate" = some (.type "enumerate"):=by rfl
def ZsH (K:PySem.W.Frag) (ta:TA):TI:=fun σ H R=>ta σ H fun vs H1=>∃ a,vs=[.ref a]/\(∃ xs,SqL K H1 a xs)/\R (Ite K a) H1
def Zpb (K:Gl X "enumerate") (B:X.mg "enumerate" = none) (y:PA X [l] u) (v:Og [l] X.env=[(false,eval l X.env)]:=by rfl):PI X (.Tuple n M k) (.Call (.Name "enumerate" p) [l] [] g) (ZsH X.K u):=by
 intro c s σ H R I h;refine Call_ (JM I K B ZrP (PyProof.Rows.callWith_type1 (thn (y g c s σ H _ I h) fun P E ⟨O,G,f,D,J⟩=>?_) v rfl));have⟨a,e,⟨S,x⟩,q⟩:=J;subst e;cases D with
 | cons r C =>
  cases C;cases r;have⟨L,N,w,Q⟩:=f.list x;refine call_enumerate_list w.isList fun T m i F t=>wpAny_pyIter_enum m ⟨_,_,_,_,G,rfl,f.kept fun b o e=>t b o e,Ziy a _ _ (Nat.succ_ne_self _),⟨⟨_,m⟩,i⟩,fun b A=>?_,q⟩;have d:E.heap.objs.size<=b:=by
   rcases Qx.mp A with z | z
   simp_all
   simp_all
  exact f.fpOk d (f.hok.fresh d)
def ZmZ {K} {g:TG} {k:TS} {D:Zlw} (b:Nat->St->Hp->Prop) (s:b 0 σ H) (r:∀ i σ H,i<=xs.length->b i σ H->SqL K H a xs)
  (A:∀ i x σ H t,xs[i]?=some x->H t=none->b i σ H->g (.ref t) σ (upd H t (.tup [.int i,x])) fun c h=>k {D with nx:=b (i+1),ct:=b (i+1),bk:=D.nx} c h) (o:∀ σ H,b xs.length σ H->D.nx σ H) :
  ∃ W:Nat->Nat->St->Hp->Prop,(∃ m,W 0 m σ H)/\∀ i m σ H,W i m σ H ->
   ((Ite K a).stop i H/\D.nx σ H)\/((Ite K a).go i H/\∃ N,(∀ f d,N f d->∃ l,l<m/\W (i+1) l f d)/\∀ x d,(Ite K a).yld i H x d->g x σ d fun c h=>k {D with nx:=N,ct:=N,bk:=D.nx} c h):=by
 refine⟨fun i m σ H=>m=xs.length-i/\i<=xs.length/\b i σ H,⟨xs.length,by simp,QT _,s⟩,?_⟩;rintro i m σ H ⟨rfl,u,p⟩;have q:=r i σ H u p;by_cases j:i<xs.length
 refine .inr ⟨⟨xs,xs[i],q,by simp⟩,_,fun f d w=>⟨_,T3 j,rfl,j,w⟩,fun x d y=>?_⟩;refine Pd y fun t y B r0 r1 _=>?_;subst r0;subst r1
 grind
 have e:i=xs.length:=T5 u j
 subst e;exact .inl ⟨⟨xs,q,Ql _⟩,o σ H p⟩
end L2
namespace Sh
open PySem L2 PyProof.Rows
def Yo (a:Int) (h:0<n):0<=a % n/\a % n<n:=⟨Vr _ (Mi h),R3 _ h⟩
def Yd (a b:Str):(a++b).cps.toList=a.cps.toList++b.cps.toList:=by simp[Str.cps_append]
def ZX {a b:Str} (h:a.cps.toList=b.cps.toList):a=b:=by rw[←tx_eta a,←tx_eta b,h]
def ZbS (a b):tx a++tx b=tx (a++b):=by
 apply ZX;rw[Yd,Yn,Yn,Yn]
def ZkE:∀ l:List _,(Txt.join "" (l.map tx))=tx l.flatten:=by
 have f:∀ l:List _,(Str.join "" (l.map tx)).cps.toList=l.flatten:=by
  intro l;induction l with
  | nil=>rfl
  | cons c r h =>
   cases r with
   | nil=>simp[Str.join,tx]
   | cons d q =>
    have e:Str.join "" ((c::d::q).map tx)=tx c ++ "" ++ Str.join "" _:=rfl;have j:("" : Str).cps.toList=[]:=rfl;rw[e,Yd,Yd,h,j,Ua];rfl
 intro l;apply ZX;have:Txt.join "" _=Str.join "" (l.map tx):=StrLaws.glued_eq_join _ _;rw[this,f,Yn]
def ZeC:∀ l:List Nat,(l.map fun c=>[c]).flatten=l
 | []=>rfl
 | a::l=>by rw[Qp,R9,ZeC l];rfl
def ZkD (l):Txt.join "" (l.map fun c=>tx [c])=tx l:=by
 have h:=ZkE (l.map fun c=>[c]);rw[QN,ZeC]at h;exact h
def Zeq:(("abcdefghijklmnopqrstuvwxyz" : Str)).cps.toList=(Qz 26).map (· + 97):=by decide +kernel
def ZsL (xs) (h:xs.length<=63):Zhh xs none (some 63)=xs:=by
 have a:HT.sIx xs.length 0 none=0:=rfl;have b:HT.sIx xs.length xs.length (some 63)=xs.length:=by
  unfold HT.sIx;simp;lia
 unfold Zhh;rw[a,b];simp
def JX:∀ (ys:List Str) (m),(∀ y∈ys,y.length<=m)->(ys.map (·.length)).sum<=ys.length*m
 | [],m,_=>by simp
 | y::ys,m,h=>by
  have d:=JX ys m fun z b=>h z (Qg _ b);have e:=h y Qd;rw[Qp,Qy,QC,Nat.succ_mul];lia
def Z5 {i:Nat} {v:V} (h:xs[i]?=some v):atI xs i=some v:=Jq h
def Zlp (a:0<=i) (c:i<z.length):atI (tx z).cps.toList i=some (z.getD i.toNat 0):=by
 refine ZL a ?_;rw[Yn,Qb,Qa (K7 a c)];rfl
def Zmg:1<=sizeLine:=by decide
def Zk (h:n<=1000):n<=sizeLine:=Zs (K0 h)
def Zoq {α:Type} {ns:List α} {f} (e:vs.length=ns.length) (d:∀ (i:Nat) (v:V),vs[i]?=some v->∀ c,ns[i]?=some c->v=f c):vs=ns.map f:=by
 apply QI;intro i;by_cases b:i<vs.length
 have a:i<ns.length:=V6 e b
 rw[Qa b,d i _ (Qa b) _ (Qa a),Qh,Qa a];rfl;rw[Qj (G7 b),Qj (by rw[Qc];exact Np e b)]
def Y0 {α:Type} {ns:List α} {f:α->V} (hi):(ns.map f).getD i .non=f ns[i]:=by
 rw[Qb,Qh,Qa hi];rfl
def Xb {α:Type} {ns:List α} {f} {i:Nat} {x:V} (hi:(ns.map f)[i]?=some x):∃ h,x=f ns[i]:=by
 have h:=by
  have:=(Qo.mp hi).1;rw[Qc]at this;omega
 simp_all
end Sh
namespace L2
open PySem PySem.Spec PyProof.Rows
def Zlk {a:Nat} {i:Int} (h:i.natAbs<2 ^ a):Builtin.Int.intBits i<=a:=intBits_le_iff.mpr h
def ZtK (i j:Int):Prop:=i.natAbs<2 ^ 4000/\j.natAbs<2 ^ 4000
def Zbd {X:Cx}:OpR X (OJ .Mult) (rI ZtK fun i j=>.int (i*j)):=opI fun _ _ _ _ _ _ _ a q=>mul_int q (IntMulOk.of_le (m:=4000) (n:=4000) (Zlk a.1) (Zlk a.2) (by decide))
def ZsV (_ j:Int):Prop:=j≠0/\j.natAbs<2 ^ 4000
def ZcQ:OpR X (OJ .FloorDiv) (rI ZsV fun i j=>.int (i.fdiv j)):=opI fun _ j _ _ _ _ _ a q=>floordiv_int a.1 q (.inl (PyProof.noPylong_of_log2 (by
 have:=(Nat.log2_lt (fun z=>a.1 (by lia))).mpr a.2;lia)))
def ZgV (n) (xs:Nat->V) (f:Nat->List V) (hn:n<=sizeLine)
  (S:∀ H,Same q H->(∀ i,i<n->J.go i H/\∀ x l,J.yld i H x l->l=H/\x=xs i)/\J.stop n H)
  (step:∀ i H (L),i<n->Same q H->(∀ a A,Same H A->H a=none->A a=some (.lst (f i))->L (.ref a) A)->g (xs i) (lcS k P σ) H fun E T=>U E T L)
  (t:∀ D (c:List Addr) l,c.length=n->(∀ i a,c[i]?=some a->a≠D/\q a=none/\l a=some (.lst (f i)))->Same q l->q D=none->l D=some (.lst (c.map V.ref))->Q (.ref D) l):Xt k P σ g Znk U J q Q:=by
 intro D B;refine⟨fun i m p H=>m=n-i/\i<=n/\Same q H/\H D=some (.lst p)/\∃ c:List Addr,p=c.map V.ref/\c.length=i/\∀ j a,c[j]?=some a->a≠D/\q a=none/\H a=some (.lst (f j)),⟨n,by simp,QT _,Zb B,Ze,[],rfl,rfl,fun j v e=>by simp at e⟩,?_⟩;rintro i m p H ⟨rfl,hi,w,r,c,rfl,C,M⟩;obtain⟨I,N⟩:=S H w;by_cases d:i<n
 refine .inr ⟨(I i d).1,fun x K y=>?_⟩;obtain⟨X,O⟩:=(I i d).2 x K y;subst X O;refine step i K _ d w fun a A F R Z=>⟨F _ _ r,by rw[Qc];exact Mm hn d C,n-(i+1),T3 d,rfl,d,fun b o e=>?_,Ze,c++[a],by simp,by rw[Qm,C];rfl,fun j u e=>?_⟩
 exact Zj (Zl e B)▸F _ _ (w b o e)
 have s:a≠D:=fun z=>by simp_all
 rcases Ue j c.length with h | h | h
 rw[QS h]at e;obtain⟨G,W,Y⟩:=M j u e;exact⟨G,W,by exact Zj G▸F _ _ Y⟩
 subst h;rw[QY (Ql _),WW]at e;cases e;exact⟨s,w.free R,by rw[Zj s,C];omega⟩
 rw[Qj (by rw[Qm,QD];exact h)]at e;cases e
 have e:i=n:=T5 hi d
 subst e;exact .inl ⟨N,t D c H C M w B r⟩
section
variable {X:Cx} {pins:List (Addr×Obj)} {σ:St} {H₀:Hp} {s₀:Shared} {scope sc:Scope} {N xs:List Str} {mp:List Nat} {fp:List Addr} {z:Str}
end
section
variable {X:Cx} {pins:List (Addr×Obj)} {σ:St} {elt tgt iter:Expr} {ifs:List Expr} {scope sc:Scope} {pos:Pos} {N xs:List Str} {mp:List Nat} {wi:TI} {g:TG} {tc:TT} {te:TE} {z:Str}
end
end L2
namespace Sh
abbrev ZbQ:=Nat->Nat->Int
noncomputable def Xu:Nat->(Nat->Int)->Int
 | 0,_=>0
 | n+1,g=>Xu n g+g n
noncomputable def ZaH (i:Nat):Int:=if i % 2=0 then 1 else -1
noncomputable def rmv (i r:Nat):Nat:=if r<i then r else r+1
noncomputable def det:Nat->ZbQ->Int
 | 0,_=>1
 | n+1,f=>Xu (n+1) fun i=>ZaH i*f i 0*det n fun r c=>f (rmv i r) (c+1)
def Xa:∀ {n},(∀ i,i<n->g i=h i)->Xu n g=Xu n h
 | 0,_=>rfl
 | n+1,e=>by
  rw[Xu,Xu,Xa fun i a=>e i (K4 a),e n Sc]
def ZaF (a b) (g h):∀ n,Xu n (fun i=>a*g i+b*h i)=a*Xu n g+b*Xu n h
 | 0=>by simp[Xu]
 | n+1=>by
  rw[Xu,Xu,Xu,ZaF a b g h n,Rb,Rb];exact Kt
def Ju:∀ {n},(∀ i,i<n->g i=0)->Xu n g=0
 | 0,_=>rfl
 | n+1,e=>by
  rw[Xu,Ju fun i a=>e i (K4 a),e n Sc];rfl
def ZdH (b:g p+g (p+1)=0):∀ {n},p+1<n->(∀ i,i<n->i≠p->i≠p+1->g i=0)->Xu n g=0
 | 0,h,_=>(Tu h).elim
 | n+1,h,e=>by
  by_cases c:n=p+1
  subst c;rw[Xu,Xu,Ju fun i a=>e i (by omega) (M8 a) (by omega)];lia;rw[Xu,ZdH b (by lia) fun i a=>e i (K4 a),e n Sc (by lia) c];rfl
def ZbU:∀ {n},(∀ i,0<i->i<n+1->g i=0)->Xu (n+1) g=g 0
 | 0,_=>by simp[Xu]
 | n+1,e=>by
  rw[Xu,ZbU fun i a b=>e i a (K4 b),e (n+1) Nn Sc];exact Bi
def YH:∀ {n} {f g},(∀ r,r<n->∀ c,c<n->f r c=g r c)->det n f=det n g
 | 0,_,_,_=>rfl
 | n+1,f,g,e=>by
  refine Xa fun i a=>?_;rw[e i a 0 Nn,YH fun r b c d=>e _ (by unfold rmv;grind) _ (Nm d)]
noncomputable def ZO (f:ZbQ) (p:Nat) (u:Nat->Int):ZbQ:=fun r=>if r=p then u else f r
def YB:ZO f p u p=u:=by unfold ZO;simp
def YT (h:r≠p):ZO f p u r=f r:=by unfold ZO;rw[if_neg h]
def YS (f) (p):ZO f p (f p)=f:=by
 funext r
 unfold ZO;split
 simp_all
 rfl
def Zb0 (i r):rmv i r≠i:=by unfold rmv;split <;> lia
def Zc1 (f) (p) (u):(fun r c=>ZO f p u (rmv p r) (c+1))=fun r c=>f (rmv p r) (c+1):=by
 funext r c
 rw[YT (Zb0 p r)]
def Zc0 (f) (u) (h:i≠p):(fun r c=>ZO f p u (rmv i r) (c+1))=ZO (fun r c=>f (rmv i r) (c+1)) (if p<i then p else p-1) (fun c=>u (c+1)):=by
 funext r c
 have a:rmv i r=p↔r=if p<i then p else p-1:=by
  unfold rmv;split <;> split <;> lia
 by_cases q:r=if p<i then p else p-1
 rw[a.mpr q,YB,q,YB];rw[YT fun z=>q (a.mp z),YT q]
def XI:∀ {n} (f) {p} (a b) (u v),p<n->det n (ZO f p fun c=>a*u c+b*v c)=a*det n (ZO f p u)+b*det n (ZO f p v)
 | 0,_,_,_,_,_,_,h=>(Tu h).elim
 | n+1,f,p,a,b,u,v,h=>by
  rw[det,det,det,←ZaF];refine Xa fun i d=>?_;by_cases c:i=p
  subst c;rw[Zc1,Zc1,Zc1,YB,YB,YB];simp[Rb,Rc];congr 1 <;> simp[Q8,Wm,WP];rw[Zc0 f _ c,Zc0 f _ c,Zc0 f _ c,YT c,YT c,YT c];have e:=XI (n:=n) (fun r c=>f (rmv i r) (c+1)) (p:=if p<i then p else p-1) a b (fun c=>u (c+1)) (fun c=>v (c+1)) (by grind)
  grind
def ZaG (i):ZaH (i+1) = - ZaH i:=by
 unfold ZaH;lia
def Zdi:∀ {n} {f} {p},p+1<n->f p=f (p+1)->det n f=0
 | 0,_,_,h,_=>(Tu h).elim
 | n+1,f,p,h,e=>by
  refine ZdH ?_ h fun i g a b=>?_;have d:(fun r c=>f (rmv p r) (c+1))=fun r c=>f (rmv (p+1) r) (c+1):=by
   funext r c
   unfold rmv;by_cases a:r<p
   rw[if_pos a,if_pos (K4 a)];rw[if_neg a];by_cases b:r=p
   simp_all
   rw[if_neg (K5 a b)]
  rw[d,ZaG,←e];simp[Uq];exact Tv;have:det n (fun r c=>f (rmv i r) (c+1))=0:=by
   by_cases c:p+1<i
   refine Zdi (p:=p) (by omega) ?_;unfold rmv;rw[if_pos (Kl c),if_pos c,e];refine Zdi (p:=p-1) (by omega) ?_;unfold rmv;rw[if_neg (by omega),if_neg (by omega),show p-1+1=p by lia,e]
  simp_all
noncomputable def ZiD (f:ZbQ) (p q:Nat):ZbQ:=fun r=>if r=p then f q else if r=q then f p else f r
def ZlP (f) (h:p≠q):ZiD f p q=ZO (ZO f p (f q)) q (f p):=by
 funext r
 unfold ZiD ZO;by_cases a:r=p
 simp_all
 simp_all
def Jy (f) (u v) (h:p≠q):ZO (ZO f p u) q v=ZO (ZO f q v) p u:=by
 funext r
 unfold ZO;by_cases a:r=p
 simp_all
 simp_all
def Zjg (f) (p) (u v):ZO (ZO f p u) p v=ZO f p v:=by
 unfold ZO
 simp_all
def Zm3 (h:p≠q) (b:p<n) (d:q<n) (z:∀ g,g p=g q->det n g=0):det n (ZiD f p q) = - det n f:=by
 have a:∀ (u v:Nat->Int),det n (ZO (ZO f p u) q v)+det n (ZO _ q u)=0:=fun u v=>by
  have e:=z (ZO (ZO f p _) q fun c=>1*u c+1*v c) (by rw[YB,YT h,YB]);rw[XI _ 1 1 u v d,Jy _ _ _ h,Jy _ _ _ h,XI _ 1 1 u v b,XI _ 1 1 u v b]at e;have i:=z (ZO (ZO f q u) p u) (by rw[YB,YT (Ne.symm h),YB]);have j:=z (ZO (ZO f q v) p v) (by rw[YB,YT (Ne.symm h),YB]);rw[Jy _ _ _ h,Jy (f:=f) v u h];lia
 have i:=a (f p) (f q);have j:det n (ZO (ZO f p (f p)) q (f q))=det n f:=by rw[YS,YS]
 rw[ZlP f h];lia
def ZeJ (h:p+1<n):det n (ZiD f p (p+1)) = - det n f:=Zm3 (by lia) (Kl h) h fun g e=>Zdi h e
def Zdk:∀ (k) {f} {p},p+1+k<n->f p=f (p+1+k)->det n f=0
 | 0,f,p,h,e=>Zdi (by omega) (by omega)
 | k+1,f,p,h,e=>by
  have c:=ZeJ (f:=f) (p:=p+1+k) (by omega);have d:=Zdk (n:=n) k (f:=ZiD f _ _) (p:=p) (by lia) (by
   have a:ZiD f (p+1+k) (p+1+k+1) p=f p:=by
    unfold ZiD;rw[if_neg (by lia),if_neg (by lia)]
   have b:ZiD f (p+1+k) (p+1+k+1) (p+1+k)=f (p+1+k+1):=by
    unfold ZiD;simp
   rw[a,b,e];rfl)
  lia
def Zp4 (h:p≠q) (a:p<n) (b:q<n) (e:f p=f q):det n f=0:=by
 rcases Nat.lt_or_gt_of_ne h with c | c
 exact Zdk (q-p-1) (p:=p) (Tw c b) (by rw[show p+1+(q-p-1)=q by exact Tx c];omega);exact Zdk (p-q-1) (p:=q) (Tw c a) (by rw[show q+1+(p-q-1)=p by exact Tx c];simp_all)
def Zk7 (a b) (h:p≠q) (d:p<n) (e:q<n):det n (ZO f p fun c=>a*f p c+b*f q c)=a*det n f:=by
 rw[XI f a b _ _ d,YS,Zp4 (f:=ZO f p _) h d e (by rw[YB,YT (Ne.symm h)])];lia
def Zk3 (a) (b:p<n):det n (ZO f p fun c=>a*f p c)=a*det n f:=by
 have h:=XI f a 0 (f p) (f p) b;rw[YS]at h;have e:(fun c=>a*f p c+0*f p c)=fun c=>a*f p c:=by
  simp
 rw[e]at h;lia
noncomputable def Zik (f:ZbQ) (p:Nat):ZbQ:=fun r=>if r=0 then f p else f (rmv p (r-1))
def Zf1:∀ {p} {f},p<n->det n (Zik f p)=ZaH p*det n f
 | 0,f,h=>by
  have e:Zik f 0=f:=by
   funext r
   unfold Zik rmv;split
   simp_all
   rw[if_neg (by lia),show r-1+1=r by exact Mn ‹_›]
  rw[e];simp[ZaH]
 | p+1,f,h=>by
  have e:Zik f (p+1)=Zik (ZiD f p (p+1)) p:=by
   funext r
   unfold Zik rmv ZiD;by_cases c:r=0
   rw[if_pos c,if_pos c,if_pos rfl];rw[if_neg c,if_neg c];by_cases a:r-1<p
   rw[if_pos a,if_pos (K4 a),if_neg (M9 a),if_neg (by omega)];rw[if_neg a];by_cases b:r-1=p
   rw[if_pos (by omega),if_neg (by omega),if_pos (by lia),b];rw[if_neg (K5 a b),if_neg (by omega),if_neg (by lia)]
  rw[e,Zf1 (Kl h),ZeJ h,ZaG]
  grind
def ZeK (a):∀ (n) (f),det n (fun i j=>a*f i j)=a ^ n*det n f
 | 0,_=>by simp[det]
 | n+1,f=>by
  rw[det,det];have e:∀ g,a ^ (n+1)*Xu (n+1) g=Xu (n+1) fun i=>a ^ (n+1)*g i+0*g i:=fun g=>by
   rw[ZaF];lia
  rw[e];refine Xa fun i b=>?_;rw[ZeK a n _,R4];simp[Uw,UO,Q8,Wm,WP]
def Zdl (h:∀ i,0<i->i<n+1->f i 0=0):det (n+1) f=f 0 0*det n fun r c=>f (r+1) (c+1):=by
 rw[det,ZbU fun i a b=>by simp_all];have e:(fun r c=>f (rmv 0 r) (c+1))=fun r c=>f (r+1) (c+1):=by
  rfl
 rw[e];simp[ZaH]
noncomputable def clr (f:ZbQ) (m:Nat):ZbQ:=fun r=>if r=0 then f 0 else if r<=m then fun c=>f 0 0*f r c + -(f r 0)*f 0 c else f r
def Zk6:∀ m,m<=k+1->det (k+2) (clr f m)=f 0 0 ^ m*det (k+2) f
 | 0,_=>by
  have e:clr f 0=f:=by
   funext r
   unfold clr;split
   simp_all
   rw[if_neg (by lia)]
  rw[e];simp
 | m+1,h=>by
  have e:clr f (m+1)=ZO (clr f m) (m+1) fun c=>f 0 0*clr f m (m+1) c + -f (m+1) 0*clr f m 0 c:=by
   funext r
   unfold ZO clr;by_cases c:r=m+1
   subst c;rw[if_neg Ty,if_pos (Ql _),if_pos rfl,if_neg Ty,if_neg (by lia),if_pos rfl];rw[if_neg c];by_cases a:r=0
   simp_all
   rw[if_neg a,if_neg a];by_cases b:r<=m
   rw[if_pos (K2 b),if_pos b];rw[if_neg (by lia),if_neg b]
  rw[e,Zk7 _ _ (by lia) (by lia) Tz,Zk6 m (K3 h),R4];simp[Q8,Wm,WP]
noncomputable def Zm6 (f:ZbQ):ZbQ:=fun i j=>f 0 0*f (i+1) (j+1)-f (i+1) 0*f 0 (j+1)
def ZtB (k) (f):f 0 0*det (k+1) (Zm6 f)=f 0 0 ^ (k+1)*det (k+2) f:=by
 rw[←Zk6 _ (Ql _),Zdl (f:=clr f _) fun i a g=>by
  unfold clr;rw[if_neg (N4 a),if_pos (N5 g),Uq,WP _];exact Tv]
 have e:clr f (k+1) 0 0=f 0 0:=by
  rfl
 congr 1;refine YH fun r b c d=>?_;unfold clr Zm6;rw[if_neg Ty,if_pos (by lia),Uq];rfl
def Zdv (M:ZbQ) (t:Nat) (d:Int) (R:ZbQ):Prop:=∀ (k:Nat) (ρ γ:Nat->Nat),∃ ρ' γ':Nat->Nat,det (k+1) (fun i j=>R (ρ i) (γ j))=d ^ k*det (k+1+t) fun i j=>M (ρ' i) (γ' j)
def Zh6 (M):Zdv M 0 1 M:=fun k ρ γ=>⟨ρ,γ,by rw[Int.one_pow,Wr]⟩
def Zm1 (f):det 2 f=f 0 0*f 1 1-f 1 0*f 0 1:=by
 simp[det,Xu,ZaH,rmv];rw[Uq];rfl
def ZmV (h:Zdv M t d R) (p i j):d ∣ R p 0*R i (j+1)-R i 0*R p (j+1):=by
 obtain⟨f,c,e⟩:=h 1 (fun a=>if a=0 then p else i) fun b=>if b=0 then 0 else j+1
 rw[Zm1,Int.pow_one]at e
 simp_all
noncomputable def Zej (R:ZbQ) (d:Int) (p:Nat):ZbQ:=fun i j=>(R p 0*R (rmv p i) (j+1)-R (rmv p i) 0*R p (j+1)) / d
def ZgO (h:Zdv M t d R) (p i j):d*Zej R d p i j=R p 0*R (rmv p i) (j+1)-R (rmv p i) 0*R p (j+1):=Int.mul_ediv_cancel' (ZmV h p _ j)
def ZgP (h:Zdv M t d R) (g:d≠0) (b:R p 0≠0) (k) (ρ γ:Nat->Nat)
  (e:det (k+2) (fun i j=>R (if i=0 then p else rmv p (ρ (i-1))) (if j=0 then 0 else γ (j-1)+1))=d ^ (k+1)*q):det (k+1) (fun i j=>Zej R d p (ρ i) (γ j))=R p 0 ^ k*q:=by
 have c:=ZtB k fun i j=>R (if i=0 then p else rmv p (ρ (i-1))) (if j=0 then 0 else γ (j-1)+1);rw[e]at c;have f:Zm6 (fun i j=>R (if i=0 then p else rmv p (ρ (i-1))) (if j=0 then 0 else γ (j-1)+1))=fun i j=>d*Zej R d p (ρ i) (γ j):=by
  funext i j
  rw[ZgO h];unfold Zm6;simp
 rw[f,ZeK]at c;have a:R p 0*(d ^ (k+1)*det _ _)=R p 0 ^ (k+1)*(d ^ (k+1)*q):=c;rw[R4 (R p 0)]at a;apply Int.eq_of_mul_eq_mul_left (Int.mul_ne_zero b (Vs g))
 calc R p 0*d ^ (k+1)*(det _ _)=R p 0*(d ^ (k+1)*det _ _):=by rw[Q8]
  _=R p 0 ^ k*R p 0*(d ^ (k+1)*q):=a
  _=R p 0*d ^ (k+1)*(R p 0 ^ k*q):=by simp[Q8,Wm,WP]
def ZkP (h:Zdv M t d R) (f:d≠0) (c:R p 0≠0):Zdv M (t+1) (R p 0) (Zej R d p):=fun k ρ γ=>by
 obtain⟨a,b,e⟩:=h _ _ _;refine⟨a,b,?_⟩;rw[ZgP h f c k ρ γ e];congr 2;lia
def Zke (h:Zdv M t d R) (k:d≠0) (f:R p 0≠0) (a:p<m+2) (e:det (m+2) R=d ^ (m+1)*X):det (m+1) (Zej R d p)=R p 0 ^ m*(ZaH p*X):=by
 refine ZgP h k f m id id ?_;have b:det _ _=ZaH p*det _ R:=Zf1 a;rw[e]at b;have g:det (m+2) (fun i j=>R (if i=0 then p else rmv p (id (i-1))) (if j=0 then 0 else id (j-1)+1))=det (m+2) (Zik R p):=by
  refine YH fun r _ c _=>?_;unfold Zik;have l:(if c=0 then 0 else id (c-1)+1)=c:=by
   split
   lia;show c-1+1=c;exact Mn ‹_›
  rw[l];by_cases q:r=0
  rw[if_pos q,if_pos q];rw[if_neg q,if_neg q];rfl
 rw[g,b];simp[Q8,Wm,WP]
def Zhg (h:∀ i,i<n+1->f i 0=0):det (n+1) f=0:=Ju fun i a=>by simp_all
open PySem L2 PyProof.Rows
noncomputable def bg (x:Str):Str:=tx x.cps.toList.dropLast
noncomputable def en (x:Str):Str:=tx (x.cps.toList.drop 1)
abbrev Es:=List (Str×Int)
noncomputable def ind (p:Prop) [Decidable p]:Int:=if p then 1 else 0
noncomputable def mo1 (e:Str×Int) (P:Str):Int:=e.2*ind (bg e.1=P)-e.2*ind (en e.1=P)
noncomputable def mo (es:Es) (P:Str):Int:=(es.map fun e=>mo1 e P).sum
def Zpx (es) (e) (P):mo (es++[e]) P=mo es P+mo1 e P:=by
 unfold mo;simp
def ZcZ (e) (es:Es) (P):mo (e::es) P=mo1 e P+mo es P:=by
 rfl
def ZfR:∀ {es} {P},(∀ e∈es,bg e.1≠P/\en e.1≠P)->mo es P=0
 | [],_,_=>rfl
 | e::es,P,h=>by
  rw[ZcZ,ZfR fun x b=>h x (Qg _ b)];obtain⟨a,c⟩:=h e Qd ..;unfold mo1 ind;rw[if_neg a,if_neg c];simp
noncomputable def tot (f:Str->Int) (ks:List Str):Int:=(ks.map f).sum
def XS (f) (x) (ks):tot f (x::ks)=f x+tot f ks:=by
 rfl
def Ze5 (f g):∀ ks,tot (fun x=>f x+g x) ks=tot f ks+tot g ks
 | []=>rfl
 | x::ks=>by
  rw[XS,XS,XS,Ze5 f g ks];exact Kt
def Ze4 (c) (y):∀ ks,ks.Nodup->tot (fun P=>c*ind (y=P)) ks=if y∈ks then c else 0
 | [],_=>rfl
 | x::ks,b=>by
  have a:=QX.mp b;rw[XS,Ze4 c y ks a.2];unfold ind;by_cases e:y=x
  subst e;rw[if_pos rfl,if_neg a.1,if_pos Qd ..];lia;rw[if_neg e];have:y∈x::ks↔y∈ks:=by simp[e]
  simp only[this];lia
def Zgg:∀ ks,tot (fun _=>0) ks=0
 | []=>rfl
 | x::ks=>by rw[XS,Zgg ks];rfl
def Znj (a:ks.Nodup):∀ {es},(∀ e∈es,bg e.1∈ks/\en e.1∈ks)->tot (mo es) ks=0
 | [],_=>Zgg ks
 | e::es,h=>by
  have c:tot (mo (e::es)) ks=tot (fun P=>mo1 e P+mo es P) ks:=by
   rfl
  rw[c,Ze5,Znj a fun x f=>h x (Qg _ f)];obtain⟨d,b⟩:=h e Qd ..;have g:tot (mo1 e) ks=tot (fun P=>e.2*ind (bg e.1=P) + -e.2*ind (en e.1=P)) ks:=by
   unfold tot;congr 1;refine QB fun P _=>?_;unfold mo1;rw[Uq];lia
  rw[g,Ze5,Ze4 _ _ _ a,Ze4 _ _ _ a,if_pos d,if_pos b];lia
noncomputable def ups (f:Str->Int) (ss:List Str):Es:=(ss.filter fun x=>decide (0<f x)).map fun x=>(x,f x)
noncomputable def sm (es:Es):Int:=(es.map fun e=>e.2).sum
def Zck (f) (x) (ss):sm (ups f (x::ss))=(if 0<f x then f x else 0)+sm (ups f ss):=by
 unfold sm ups;rw[WL];by_cases c:0<f x
 rw[if_pos c,if_pos (by simpa using c)];simp;rw[if_neg c,if_neg (by simpa using c)];simp
def Zit (f):∀ ss,sm (ups f ss)-sm (ups (fun x=>-f x) ss)=tot f ss
 | []=>rfl
 | x::ss=>by
  have a:=Zit f ss;rw[Zck,Zck,XS];lia
def Zqs {f:Str->Int} {b:Nat} (h:∀ x,(f x).natAbs<=b) (ss:List Str):∀ e∈ups f ss,0<e.2/\e.2<=b:=fun e c=>by
 unfold ups at c;obtain⟨x,g,rfl⟩:=Qk.mp c;have d:=(QF.mp g).2;have i:=h x;simp at d;constructor
 exact d
 show f x<=b;lia
def Zrm:∀ {es:Es} {b:Nat} (P:Str),(∀ e∈es,0<=e.2/\e.2<=b)->(mo es P).natAbs<=b*es.length
 | [],_,_,_=>by simp[mo]
 | e::es,b,P,h=>by
  have d:=Zrm (es:=es) P fun x c=>h x (Qg _ c);obtain⟨_⟩:=h e (Qd ..);rw[ZcZ,QC,Nat.mul_add];have:(mo1 e P).natAbs<=b:=by
   unfold mo1 ind;split <;> split <;> lia
  omega
def pcs (z:List Nat) (L:Nat):List Str:=(Qz (z.length-L+1)).map fun i=>tx ((z.drop i).take L)
def Adj (es:Es) (P y:Str):Prop:=∃ e∈es,(bg e.1=P/\en e.1=y)\/(en e.1=P/\bg e.1=y)
inductive Rch (es:Es) (a:Str):Str->Prop where
 | here:Rch es a a
 | step {P y:Str} (h:Rch es a P) (k:Adj es P y):Rch es a y
def Rch.closed {F:Str->Prop} (d:F a) (c:∀ P,F P->∀ y,Adj es P y->F y) (h:Rch es a y):F y:=by
 induction h with
 | here=>omega
 | step _ k e=>grind
def Znc:Adj (es++[e]) P y↔Adj es P y\/(bg e.1=P/\en e.1=y)\/(en e.1=P/\bg e.1=y):=by
 unfold Adj;simp
end Sh
namespace Tim
open PySem PySem.W PyProof.Rows
section
variable {M:Model} {A:Around} {E:Value->Shared->Prop} {σ:Type}
end
section
variable {prog:Oc} {w:Of} {A:Around} {E:Value->Shared->Prop}
variable {κ:Ga} {ϕ:OS->Nat} {U:OS->Prop} {G:Shared->Prop}
end
section
variable {ϕ:OS->Nat} {T o X Y x y:List OS}
end
section
variable {prog:Oc} {w:Of} {A:Around} {E:Value->Shared->Prop} {κ:Ga} {ϕ:OS->Nat} {U:OS->Prop} {G:Shared->Prop}
end
section
variable {ϕ:OS->Nat} {T O X Y x y:List OS}
end
section
variable {prog:Oc} {w:Of} {A:Around} {E:Value->Shared->Prop} {κ:Ga} {ϕ:OS->Nat} {U:OS->Prop} {G:Shared->Prop}
end
section
variable {prog:Oc} {w:Of} {A:Around} {E:Value->Shared->Prop} {κ:Ga} {ϕ:OS->Nat} {U:OS->Prop} {G:Shared->Prop}
end
section
variable {ϕ:OS->Nat}
end
section
variable {prog:Oc} {w:Of} {A:Around} {E:Value->Shared->Prop} {κ:Ga} {ϕ:OS->Nat} {U:OS->Prop} {G:Shared->Prop}
end
section
variable {prog:Oc} {w:Of} {A:Around} {E:Value->Shared->Prop} {κ:Ga} {ϕ:OS->Nat} {U:OS->Prop} {G:Shared->Prop}
end
section
variable {prog:Oc} {w:Of} {A:Around} {E:Value->Shared->Prop} {s:Shared}
end
section
variable {prog:Oc} {w:Of} {A:Around} {E:Value->Shared->Prop} {s:Shared}
def ltS (xs:List Str) (i j:Nat):Bool:=decide ((xs.getD i "").cps.toList<(xs.getD j "").cps.toList)
def strs_at:∀ {vs} {xs},O4 vs xs->∀ (i) (v),vs[i]?=some v->∃ t,v= .str (xs.getD i "") t/\xs[i]?=some (xs.getD i "")
 | _,_,.nil,i,v,h=>by simp at h
 | _,_,.cons y t r,0,v,h=>by
  simp at h;exact⟨t,by rw[←h];rfl,rfl⟩
 | _,_,.cons y t r,i+1,v,h=>by
  obtain⟨a,b,c⟩:=strs_at r i v (by simp_all);exact⟨a,by grind,by grind⟩
def strs_len:∀ {vs} {xs},O4 vs xs->vs.length=xs.length
 | _,_,.nil=>rfl
 | _,_,.cons y t r=>by simp[strs_len r]
def lt_ne {x y:Str} (h:¬ x.cps.toList<y.cps.toList) (a:¬ x=y):y.cps.toList<x.cps.toList:=by
 by_cases c:y.cps.toList<x.cps.toList
 omega;exact absurd (by rw[←L2.tx_eta x,←L2.tx_eta y,(UY (WV.mp c) (WV.mp h))]) a
end
end Tim
namespace L2
open PySem PySem.Spec PyProof.Rows PySem.W
section
variable {prog:Oc} {w:Of} {A:Around} {E:Value->Shared->Prop} {s:Shared}
def ZbY (h:n<=1000):n<=sizeLine:=by rw[Oj];exact K0 h
def Zsq (m:xs.length=n) (f:xs.Nodup) (a:Srt.Pm n p) (h:∀ i j,i<j->j<n->Tim.ltS xs (p.getD j 0) (p.getD i 0)=false):Srt.Up (ltX xs) p n:=fun i j c b=>by
 have d:=h i j c b;have g:=a.below (show i<n by exact T6 b c);have k:=a.below b;unfold Tim.ltS at d;unfold ltX;rw[decide_eq_false_iff_not]at d;rw[decide_eq_true_eq];refine Tim.lt_ne d fun e=>(a.ne (show i<n by exact T6 b c) b (M8 c)) ?_;rw[Xp (Kz k m),Xp (Kz g m)]at e;exact(WT f).mp e.symm
end
def Zj0 {σ:St} (I:Inv X d σ H s) (k:∀ b u,s.heap.get? b=some u->h.get? b=some u) (j:s.heap.get? D=none) (hz:vs.length<=sizeLine)
  (l:∃ (f:List Value) (n:Nat),Vals vs f/\h.get? D=some {cls:=.type "list",data:=.seq f.toArray n}):H D=none/\Inv X d σ (upd H D (.lst vs)) {s with heap:=h,toks:=tk}:=by
 have m:H D=none:=by
  cases e:H D with
  | none=>rfl
  | some u =>
   obtain⟨v,i⟩:=(I.hok D u e).there';rw[j]at i;cases i
 refine⟨m,?_⟩;have:=I.laidN (N:=fun b=>if b=D then some (.lst vs)else none) (tk:=tk) k fun a o e=>by
  by_cases c:a=D
  subst c;rw[if_pos rfl]at e;cases e;exact⟨j,fun p=>⟨hz,l⟩⟩
  simp_all
 have e:(fun b=>(if b=D then some (HO.lst vs)else none).or (H b))=upd H D (.lst vs):=by
  funext b
  by_cases c:b=D
  subst c;rw[if_pos rfl,Vw,Ze];rw[if_neg c,U9,Zj c]
 simp_all
def Zb4 {α:Type} {d:α} (ks) (p) (f:Srt.Pm ks.length p):(p.toList.map fun i=>ks.getD i d).Perm ks:=by
 have g:=(UG.mp f.perm).map fun i=>ks.getD i d;have h:((Qz ks.length).toArray.toList.map fun i=>ks.getD i d)=ks:=by
  apply QI;intro i;simp only[Qh];by_cases b:i<ks.length
  rw[Q6 b,We,Qb,Qa b];rfl;rw[Qj (by simp;exact G7 b),Qj (G7 b)];rfl
 rw[h]at g;omega
def Zma (a:Srt.Pm n p) (hi):p.getD i 0=p.toList[i]:=by
 rw[Wd,Wz (by omega)];simp
def ZqG (b:Srt.Pm xs.length p) (h:∀ i j,i<j->j<xs.length->Tim.ltS xs (p.getD j 0) (p.getD i 0)=false):((p.toList.map fun i=>xs.getD i "").map fun x=>x.cps.toList).Pairwise (·<=·):=by
 rw[QN,Wl,Uh];intro i j f e c;have k:p.toList.length=xs.length:=by rw[QL,b.size]
 have d:=h i j c (V6 k e);unfold Tim.ltS at d;rw[Zma b f,Zma b e]at d
 simp_all
def ZjW:∀ {ks:List Str} {g:Str->V} {vs:List (Key×Value)},KV (ks.map fun x=>((Sum.inr x),g x)) vs->∀ (i:Nat) (k) (x),vs[i]?=some (k,x)->k=Sum.inr (ks.getD i "")/\i<ks.length:=by
 intro ks g vs b i k x e;have a:=congrArg (fun l=>l[i]?) b.keys;simp[Qh]at a;rw[e]at a;cases z:ks[i]? with
 | none=>rw[z]at a;cases a
 | some y =>
  rw[z]at a;refine⟨?_,(Qo.mp z).1⟩;rw[Qb,z];exact Option.some.inj a.symm
open PySem PySem.Spec PyProof.Rows
def ZjA {t t':SetTable} (h:t.relaid b n=some (t',d)):t'.led=t.led/\t'.plain=t.plain:=by
 unfold SetTable.relaid SetTable.laid at h;cases e:SetTable.layClean (SetTable.sizeAbove n-1) b with
 | none=>simp_all
 | some c =>
  rw[e]at h;obtain⟨a,_⟩:=Prod.mk.inj (Option.some.inj h);rw[←a];simp
def Zl7 (t) (es) (n):(Ge t es n).2.1.led=t.led/\(t.plain=false->(Ge t es n).2.1.plain=false):=by
 unfold Ge;split
 rename_i f d e;obtain⟨b,a⟩:=ZjA e;dsimp only;split
 exact⟨b,fun h=>by rw[a];omega⟩;exact⟨rfl,fun _=>rfl⟩;exact⟨rfl,fun _=>rfl⟩
def Zrq (t) (es) (a) (x):(layNew t es a x).2.1.led=t.led/\(t.plain=false->(layNew t es a x).2.1.plain=false):=by
 unfold layNew;split
 dsimp only;unfold SetTable.orStandIn;split
 exact⟨rfl,fun h=>h⟩;exact⟨rfl,fun _=>rfl⟩;exact⟨rfl,fun _=>rfl⟩
noncomputable def byT (w:Of):Bool:=w.params.followText "set-order"
structure StT (prog:Oc) (w:Of) (h:Heap) (a:Addr) (ks:List Str) (o:Obj) (es:Array (Int×Value)) (ep:Nat) (t:SetTable):Prop where
 ob:h.get? a=some o
 ex:o.ExactSet
 dt:o.data= .set es ep t
 el:ElemsOf (ZA prog w) es.toList
 mem:∀ k:Key,(∃ x,k=Sum.inr x/\x∈ks)↔∃ e∈es.toList,(ZA prog w).is k e.2=true
 len:es.size=ks.length
 nd:ks.Nodup
 fits:t.fits es.size=true
 led:t.led= !byT w
 plain:ks≠[]->t.plain=false
def SetT (prog:Oc) (w:Of) (h:Heap) (a:Addr) (ks:List Str):Prop:=∃ o es ep t,StT prog w h a ks o es ep t
section
variable {prog:Oc} {w:Of} {A:Around} {E:Value->Shared->Prop} {s:Shared}
def SetT.keep (x:SetT prog w h a ks) (k:∀ o,h.get? a=some o->h'.get? a=some o):SetT prog w h' a ks:=by
 obtain⟨o,b,c,t,q⟩:=x;exact⟨o,b,c,t,{q with ob:=k o q.ob}⟩
noncomputable def Zij (ks:List Str) (x:Str):List Str:=if x∈ks then ks else ks++[x]
def addS_mem:y∈Zij ks x↔y∈ks\/y=x:=by
 unfold Zij
 grind
def Zqb (h:ks.Nodup):(Zij ks x).Nodup:=by
 unfold Zij
 grind
def Zne (ks) (x):(Zij ks x).length<=ks.length+1:=by
 unfold Zij
 grind
def Zgk {h:Heap} (d:h.get? a=some o) (b:o.data= .set es ep t):(h.update a (Obj.putSet es' t')).get? a=some {o with data:=.set es' (ep+1) t'}:=by
 have:=WA (Obj.putSet es' t') d (by rw[putSet_of es' t' b];rfl);rw[putSet_of es' t' b]at this;omega
def Zgh {r:Bool->Sem Unit} (k:∀ (b) (d) (u),u () d->Oe (Od prog w) A (r b) u E d) (n:s.heap.get? a=some o) (v:o.data= .set es ep t)
  (S:∀ (h) (j) (i) (e) (g),h.get? a=some j->j.ExactSet->j.data= .set e i g->List.Perm e.toList c.toList->g.fits e.size=true->g.led=t2.led->(t2.plain=false->g.plain=false)->SetT prog w h a ks) (x:o.ExactSet) (H:c.size<Gn) (G:t2.fits c.size=true)
  (q:∀ l,Heap.SameBut a s.heap l->SetT prog w l a ks->R (some true) {s with heap:=l}) :
  Oe (Od prog w) A (do
    storeSet a c t2
    if (!J&&t2.tooFull)=true then do
      r (Ge t2 c (SetTable.grown c.size)).2.2
      storeSet a (Ge t2 c (SetTable.grown c.size)).1 (Ge t2 c (SetTable.grown c.size)).2.1
      pure (some true)
     else pure (some true)) R E s:=by
 refine Oa (wpAny_storeSet_of n v ?_ (fits_of_scanBound H));have m:=Zgk (es':=c) (t':=t2) n v;have B:=Heap.SameBut.update s.heap a (Obj.putSet c t2);split
 have p:=relayAll_perm t2 c (SetTable.grown c.size);have f:=relayAll_fits t2 c (SetTable.grown c.size);obtain⟨y,D⟩:=Zl7 t2 c _;generalize Ge t2 c _=F at p f y D ⊢;have I:F.1.size=c.size:=by rw[←QL,p.length_eq,QL]
 exact Oa (k _ _ _ (Oa (wpAny_storeSet_of m rfl (Ob (q _ (B.trans (Heap.SameBut.update _ a _)) (S _ _ _ _ _ (Zgk m rfl) x rfl p f y D))) (fits_of_scanBound (Km H I)))));exact Ob (q _ B (S _ _ _ c t2 m x rfl (List.Perm.refl _) G rfl fun z=>z))
def ZoO (hS:SetT prog w s.heap a ks) (hroom:ks.length+1<Gn)
  (q:∀ (r) (h1),Heap.SameBut a s.heap h1->SetT prog w h1 a (Zij ks x)->Q r {s with heap:=h1}):Oe (Od prog w) A (setAddHashed a (.str x tk) ((ZA prog w).hash (Sum.inr x))) Q E s:=by
 obtain⟨o,es,ep,t,T⟩:=hS;have hkey:(ZA prog w).is (Sum.inr x:Key) (.str x tk)=true:=Jo prog w x tk;have hb:es.size<Gn:=by rw[T.len];exact Kl hroom
 unfold setAddHashed setAddHashedIn;refine Op (Oa (wpAny_setState_of T.ob T.dt T.fits ?_));dsimp only;rw[byScan_of (knd:=ZA prog w) rfl hb T.el];simp only[↓reduceIte];unfold setAddByScan;refine Oa (Oa (Gy (Oa (wpAny_setScan_of hkey T.ob T.dt T.fits T.el ?_))));cases hr:List.findIdx? (fun e=>(ZA prog w).is (Sum.inr x:Key) e.2) es.toList with
 | some j =>
  dsimp only;obtain⟨hj,hpj,_⟩:=Ws.mp hr;obtain⟨y,ey,hy⟩:=(T.mem (Sum.inr x)).mpr ⟨es.toList[j],QA hj,hpj⟩;cases ey;refine Ob (Ob ?_);have es0:s={s with heap:=s.heap}:=by simp
  rw[es0];refine q _ s.heap (Heap.SameBut.refl a s.heap) ?_;unfold Zij;exact if_pos hy▸⟨o,es,ep,t,T⟩
 | none =>
  dsimp only;have hx:x∉ks:=fun hx=>by
   obtain⟨e,he,hp⟩:=(T.mem (Sum.inr x)).mp ⟨x,rfl,hx⟩;have:=UL.mp hr e he
   simp_all
  have perm:=layNew_perm t es ((ZA prog w).hash (Sum.inr x)) (.str x tk);have fit:=layNew_fits t es ((ZA prog w).hash (Sum.inr x)) (.str x tk);obtain⟨l1,l2⟩:=Zrq t es ((ZA prog w).hash (Sum.inr x)) (.str x tk);generalize layNew t es ((ZA prog w).hash (Sum.inr x)) (.str x tk)=L at perm fit l1 l2 ⊢;obtain⟨es1,t1,wd,gave⟩:=L;dsimp only at perm fit l1 l2 ⊢;rw[Vb]at perm;have sz1:es1.size=ks.length+1:=by rw[←QL,perm.length_eq,Qm,QL,T.len];rfl
  refine Oa ?_;have hgw:∀ (b:Bool) (s₁:Shared) (Q':Unit->Shared->Prop),Q' () s₁->Oe (Od prog w) A (match b with | true=>rule "set.scan.the-table-gave-way" | false=>pure ()) Q' E s₁:=fun b s₁ Q' hq=>by cases b <;> first | exact Ob hq | exact Gy hq
  refine hgw gave _ _ ?_;have mk:∀ (t2:SetTable),t2.led=t1.led->t2.plain=false->∀ (h:Heap) (ob:Obj) (ep1:Nat) (es2:Array (Int×Value)) (t3:SetTable),h.get? a=some ob->ob.ExactSet->ob.data= .set es2 ep1 t3->List.Perm es2.toList es1.toList->t3.fits es2.size=true->t3.led=t2.led->(t2.plain=false->t3.plain=false)->SetT prog w h a (Zij ks x):=by
   intro t2 e1 e2 h ob ep1 es2 t3 c1 c2 c3 c4 c5 c6 c7;have pp:=c4.trans perm;refine⟨ob,es2,ep1,t3,c1,c2,c3,(T.el.push hkey rfl).perm pp,fun k=>?_,?_,Zqb T.nd,c5,by rw[c6,e1,l1,T.led],fun _=>c7 e2⟩
   constructor
   rintro⟨y,rfl,hy⟩;rcases addS_mem.mp hy with z | z
   obtain⟨e,he,hp⟩:=(T.mem (Sum.inr y)).mp ⟨y,rfl,z⟩;exact⟨e,pp.mem_iff.mpr (Q0 _ he),hp⟩
   subst z;exact⟨_,pp.mem_iff.mpr (QZ _ (Qr.mpr rfl)),hkey⟩
   rintro⟨e,he,hp⟩;rcases QG.mp (pp.mem_iff.mp he)with z | z
   obtain⟨y,ey,hy⟩:=(T.mem k).mpr ⟨e,z,hp⟩;exact⟨y,ey,addS_mem.mpr (.inl hy)⟩
   rw[Qr.mp z]at hp;exact⟨x,(ZA prog w).inj _ _ _ hp hkey,addS_mem.mpr (.inr rfl)⟩
   rw[←QL,c4.length_eq,QL,sz1];unfold Zij;rw[if_neg hx,Qm];rfl
  split
  refine Oa ?_;rw[hashByValue_scannable 8 (x:=.str x tk) rfl];exact Ob (Zgh (t2:=if plainKind (.str x tk)=true then t1 else {t1 with plain:=false}) hgw T.ob T.dt (mk _ rfl rfl) T.ex (Km hroom sz1) (SetTable.fits_plain_off fit) fun h1 m hS'=>Ob (q _ h1 m hS'))
  rename_i hpl;refine Oa (Ob ?_);simp only[↓reduceIte];exact Zgh hgw T.ob T.dt (mk t1 rfl (by simp_all)) T.ex (Km hroom sz1) fit fun h1 m hS'=>Ob (q _ h1 m hS')
end
noncomputable def met (val:Nat->Str):Nat->List Str
 | 0=>[]
 | i+1=>Zij (met val i) (val i)
def ZfT (a):∀ i,(met a i).length<=i
 | 0=>Ql _
 | i+1=>by
  have:=Zne (met a i) (a i);have:=ZfT a i;show(Zij _ _).length<=_;exact Kw this ‹_›
def Zkr (a):∀ i x,x∈met a i↔∃ j,j<i/\a j=x
 | 0,x=>by simp[met]
 | i+1,x=>by
  show x∈Zij _ _↔_;rw[addS_mem,Zkr a i x];constructor
  grind
  rintro⟨j,b,e⟩
  grind
section
variable {prog:Oc} {w:Of} {A:Around} {R:Gz->Shared->Prop} {J:Addr} {fp wr:List Addr} {G:Array GenState->Array GenState->Prop} {n:Nat} {P:Nat->Value->Prop} {St:Nat->Shared->Prop}
def Ziu (W:WalksS prog w A.in1 J fp wr G n P St) (S) (hSf:S∉fp) (val) (hval:∀ i v,P i v->∃ t,v= .str (val i) t) (hb:n+1<Gn) :
  ∀ (k i) (s),n-i=k->i<=n->St i s->SetT prog w s.heap S (met val i)->(∀ s',Moved (S::wr) G s s'->SetT prog w s'.heap S (met val n)->R (.ok (.ret .none)) s') ->
   Oy (Od prog w) A (.builtin "set.update.loop" ⟨[.ref S,.ref J],[]⟩) R s:=by
 have hSw:S∉wr:=fun h=>hSf (W.sub _ h);have hsub:∀ b∈wr,b∈S::wr:=fun b hb=>Qg _ hb;intro k;induction k with
 | zero =>
  intro i s hk hi hst hS hR;have hin:i=n:=by lia
  subst hin;exact OQ PyProof.Rows.F.entry_set_update_loop ((Oa (W.done s _ _ hst fun s1 mv=>(Ob (hR s1 (mv.mono hsub) (hS.keep fun o e=>mv.heap S o hSw e))))))
 | succ k ih =>
  intro i s hk hi hst hS hR;have hlt:i<n:=by omega
  refine OQ PyProof.Rows.F.entry_set_update_loop ((Oa (W.item i s _ _ hlt hst fun v s1 hP hst1 mv=>?_)));obtain⟨t,rfl⟩:=hval i v hP;refine (Oa (Op (Op (Oa ((ZA prog w).pyHash (Jo prog w (val i) t) (ZoO (hS.keep fun o e=>mv.heap S o hSw e) (by have:=ZfT val i;lia) fun r h1 sb hS2=>Ob ⟨ON PyProof.Rows.F.plain_set_update_loop _,ih (i+1) _ (by omega) hlt (W.frame _ s1 _ _ hst1 (Uj _) fun b hb o e=>?_) hS2 fun s2 mv2 hS3=>?_⟩))))))
  rw[sb.2 b (fun h:b=S=>hSf (by simp_all))];omega
  refine hR s2 (Moved.trans W.gtrans ((mv.mono hsub).then_heap (Uj _) fun b o hb e=>?_) mv2) hS3;rw[sb.2 b (fun h:b=S=>hb (by rw[h];simp))];omega
end
section
variable {prog:Oc} {w:Of} {A:Around} {E:Value->Shared->Prop} {s:Shared}
def Zpn (a)
  (q:Q1 (.ref s.heap.objs.size) {s with heap:=s.heap.push {cls:=.type "set",dict:=none,data:=.set #[] 0 (.fresh 0 0 (!byT w))}}) :
  Oy (Od prog w) A (.call (.builtin "set.__new__") ⟨[.type "set",a],[]⟩) (wants Q1 E) s:=by
 refine codeAny_of_tree ((Oa (wpAny_of_eq (PySem.F.newCall_set_1 a) (Ob ⟨ON PySem.F.plain_set_new _,OQ PySem.F.entry_set_new ?_⟩))));unfold Builtin.«set.__new__» Builtin.Frozenset.newClass;have b:=sub_set_self
 wp_walk
 exact Os (Ob (Oa (wpAny_alloc (Ob (Ob q)))))
def ZkU (e:h.get? a=some {cls:=.type "set",dict:=none,data:=.set #[] 0 (.fresh 0 0 (!byT w))}):SetT prog w h a [] :=
 ⟨_,#[],0,_,e,⟨rfl,rfl,rfl⟩,rfl,fun e b=>by simp_all,fun k=>by simp,rfl,Wx,by rfl,rfl,fun z=>absurd rfl z⟩
def Zld {l:Addr} {items:Array Value} {ss:List Str} {Q:Value->Shared->Prop} (hh:A.handled=none) (hl:s.heap.IsList l items) (hi:O4 items.toList ss) (hb:items.size+1<Gn)
  (q:∀ (h1:Heap) (tk:Nat),SetT prog w h1 s.heap.objs.size (met (fun i=>ss.getD i "") items.size)->(∀ b o,s.heap.get? b=some o->h1.get? b=some o)->Q (.ref s.heap.objs.size) {s with heap:=h1,toks:=tk}) :
  Oe (Od prog w) A (call (.type "set") [.ref l]) Q E s:=by
 obtain⟨c,tl,hmro⟩:=PySem.F.called_set.mro;have hmade:=PySem.F.called_set.made;have hsub:=PySem.F.called_set.sub;refine Gv (codeAny_of_tree ?_);refine(show Oe _ _ (callAny (.type "set") _) _ _ _ from Ob ⟨Code.quiet_builtin _ (by decide +kernel),OQ PySem.F.entry_type_call ?_⟩);rw[Around.under_plain (weight_type_call_type "set" [.ref l] []) rfl];have h1:=PySem.F.called_set.notType;have h2:=PySem.F.called_set.canCreate;have hct:=PySem.F.typeCall_set_1 (.ref l)
 repeat (any_goals (first | assumption | wp_step))
 refine OK (Zpn (.ref l) (E:=E) (Q1:=fun obj s1=>obj= .ref s.heap.objs.size/\s1={s with heap:=s.heap.push {cls:=.type "set",dict:=none,data:=.set #[] 0 (.fresh 0 0 (!byT w))}}) ⟨rfl,rfl⟩) fun r s1 hr=>?_;cases r with
 | error e=>exact hr
 | ok fl =>
  cases fl with
  | ret obj =>
   obtain⟨rfl,rfl⟩:=hr;have gS:(s.heap.push {cls:=.type "set",dict:=none,data:=.set #[] 0 (.fresh 0 0 (!byT w))}).get? s.heap.objs.size=some {cls:=.type "set",dict:=none,data:=.set #[] 0 (.fresh 0 0 (!byT w))}:=Qs _ rfl;have hT:Shared.TypeIs {s with heap:=s.heap.push {cls:=.type "set",dict:=none,data:=.set #[] 0 (.fresh 0 0 (!byT w))}} (.ref s.heap.objs.size) "set":=⟨_,gS,rfl⟩
   have hli:=PySem.F.called_set.init.lookup;have hbi:=PySem.F.called_set.init.bind (.ref s.heap.objs.size)
   repeat (any_goals (first | assumption | wp_step))
   refine OK (codeAny_call_builtin (R:=wants (fun r s2=>r= .none/\∃ g tk,s2={s with heap:=g,toks:=tk}/\SetT prog w g s.heap.objs.size (met (fun i=>ss.getD i "") items.size)/\(∀ b o,s.heap.get? b=some o->g.get? b=some o)) E) PySem.F.called_set.init.plain PySem.F.entry_set_init (check_set_init_1 hT ?_)) fun r2 s2 hr2=>?_
   ·refine Pp hl fun ol hol hcl nl hdl=>?_;obtain⟨ocls,odict,odata,oslots⟩:=ol;simp only at hcl hdl;subst hcl;subst hdl;have hol':(s.heap.push {cls:=.type "set",dict:=none,data:=.set #[] 0 (.fresh 0 0 (!byT w))}).get? l=some {cls:=.type "list",dict:=odict,data:=.seq items nl,slots:=oslots}:=Qi _ hol;have hsls:=PySem.F.sub_list_set;have hslf:=PySem.F.sub_list_frozenset;have hne:(Value.type "list" == Value.type "dict")=false:=by decide
    have hl1:(s.heap.push {cls:=.type "set",dict:=none,data:=.set #[] 0 (.fresh 0 0 (!byT w))}).IsList l items:=⟨_,hol',rfl,nl,rfl⟩
    unfold Builtin.«set.__init__» noKeywords Builtin.Frozenset.updateFrom;generalize hPI:Gq=PI
    wp_walk
    subst hPI;refine OR hl1 (Oa (wpAny_runValue ?_));have hlS:l<s.heap.objs.size:=Qw hol;have hh3:A.in1.in1.in1.handled=none:=by simp[hh]
    have hneI:l≠(s.heap.push {cls:=.type "set",dict:=none,data:=.set #[] 0 (.fresh 0 0 (!byT w))}).objs.size:=by
     rw[WN];exact QJ (Uf hlS)
    have hSf:s.heap.objs.size∉[(s.heap.push {cls:=.type "set",dict:=none,data:=.set #[] 0 (.fresh 0 0 (!byT w))}).objs.size,l]:=by
     rw[WN];simp only[Qx,UD,or_false,not_or];exact⟨QJ (UB _),Ro hlS⟩
    have hval:∀ (i:Nat) (v:Value),items[i]?=some v->∃ t,v= .str ((fun i=>ss.getD i "") i) t:=fun i v hv=>by
     obtain⟨t,e,_⟩:=Tim.strs_at hi i v (by rw[Uv];exact hv);exact⟨t,e⟩
    refine Ziu ((Walks.list hh3 _ l hneI items).toS) s.heap.objs.size hSf (fun i=>ss.getD i "") hval hb (items.size-0) 0 _ (by lia) (QT _)
     ⟨⟨_,Qs _ rfl,rfl,rfl⟩,(hl1.push _)⟩ (ZkU (Qi _ gS)) ?_
    intro s3 mv hS3;obtain⟨h3,g3,d3,t3,o3⟩:=s3;have eg:g3=s.gens:=mv.gens;have ed:d3=s.drawn:=mv.drawn;have eo:o3=s.os:=mv.os;subst eg;subst ed;subst eo;refine Ob (show Oe _ _ (ret Value.none) _ _ _ from Ob ⟨rfl,h3,t3,rfl,hS3,fun b o e=>?_⟩);have hb0:b<s.heap.objs.size:=Qw e;have hb2:b≠(s.heap.push {cls:=.type "set",dict:=none,data:=.set #[] 0 (.fresh 0 0 (!byT w))}).objs.size:=by
     rw[WN];exact QJ (Uf hb0)
    exact mv.heap b o (by simp only[Qx,UD,or_false,not_or];exact⟨QJ hb0,hb2⟩) (Qi _ (Qi _ e))
   ·cases r2 with
    | error e=>exact hr2
    | ok fl2 =>
     cases fl2 with
     | ret r =>
      refine Pq hr2 fun r0 g tk r1 hS' hk'=>?_;subst r0;subst r1
      repeat (any_goals (first | assumption | wp_step))
      exact q _ _ hS' hk'
     | _=>exact hr2
  | _=>exact hr
end
def si_slot:Slot "set_iterator" "__next__" "set_iterator.__next__" :=
 .of (by rfl) (by rfl) (by rfl) (by rfl) (by first | exact .inl (by rfl) | lia) (by rfl)
def XX:entryFor table "set_iterator.__next__" = some Builtin.«set_iterator.__next__»:=entryFor_of_fast (by rfl)
def J1 (a):argsOk "set_iterator.__next__" ⟨[a],[]⟩:=by rfl
def ZlH:entryFor table "set.__iter__" = some Builtin.«frozenset.__iter__» :=
 entryFor_alias (id':="frozenset.__iter__") (by rfl) (by rfl) (by decide +kernel) (by rfl)
def Zan {α:Type} {l:List α} (h):(l[i]::l.eraseIdx i).Perm l:=by
 rw[Wn];have e:l=l.take i++l[i]::l.drop (i+1):=by simp
 conv=>rhs;rw[e]
 exact List.perm_middle.symm
def ZjM (next):∀ (f k) (a:List α) (b),a.length<=f->(pickOrder.go next f k a b).toList.Perm (b.toList++a)
 | 0,k,a,b,h=>by
  have:a=[]:=Wf.mp (T0 h);subst this;unfold pickOrder.go;simp
 | f+1,k,[],b,h=>by
  unfold pickOrder.go;simp
 | f+1,k,x::a,b,h=>by
  unfold pickOrder.go;have e:next k % (x::a).length<(x::a).length:=Nat.mod_lt _ (by simp);rw[Qa e];refine(ZjM next f _ _ _ ?_).trans ?_;rw[U1,if_pos e];lia;rw[Vb,Ud];exact List.Perm.append_left _ (Zan e)
def Zba (next) (xs:Array α):(pickOrder next xs).toList.Perm xs.toList:=by
 unfold pickOrder;have:=ZjM next xs.size 0 xs.toList #[] (by simp)
 simp_all
abbrev ZeZ (h:Heap) (J:Addr) (f:Value) (i:Nat) (a:Addr) (n ep:Nat):Prop:=h.get? J=some {cls:=.type "set_iterator",dict:=none,data:=.fields #[f,.int i 0,.ref a,.int n 0,.int ep 0],slots:=#[]}
section
variable {prog:Oc} {w:Of} {A:Around} {E:Value->Shared->Prop} {s:Shared}
def Zdy (a:n≠0) (h:∀ i d,i<n->Q i {s with drawn:=d}):Oe (Od prog w) A (choose b n) Q E s :=
 fun _ _ _=>⟨a,h _ _ (Nat.mod_lt _ (Nat.pos_of_ne_zero a))⟩
def ZeF:∀ (n) (xs:List α) (s) {Q},xs.length<=n->(∀ ys d,ys.Perm xs->Q ys {s with drawn:=d})->Oe (Od prog w) A (drawOrder n xs) Q E s
 | 0,xs,s,Q,a,h=>by
  have:xs=[]:=Wf.mp (T0 a);subst this;exact Ob (h [] s.drawn (List.Perm.refl _))
 | n+1,[],s,Q,a,h=>Ob (h [] s.drawn (List.Perm.refl _))
 | n+1,x::xs,s,Q,a,h=>by
  refine Oa (Zdy (by simp) fun i d b=>?_);rw[Qa b];refine Oa (ZeF n _ _ ?_ fun ys e c=>Ob (h _ e ?_));rw[U1];split <;> simp at * <;> omega
  exact(c.cons _).trans (Zan b)
structure SeesS (h:Heap) (a:Addr) (o:Obj) (es:Array (Int×Value)) (ep:Nat) (t:SetTable) (n:Nat):Prop where
 ob:h.get? a=some o
 dt:o.data= .set es ep t
 fits:t.fits es.size=true
 len:es.size=n
def YM (V:SeesS s.heap a o es ep t n) (q:Q (es,ep,t) s):Oe (Od prog w) A (setState a) Q E s:=wpAny_setState_of V.ob V.dt V.fits q
def Xf {Q} (g:ZeZ s.heap J f i a n ep) (V:SeesS s.heap a o es ep t n)
  (q:Oe (Od prog w) A (if let .int e _:=f then (do
    match ←setNext a e.toNat (i:Int).toNat (ep:Int).toNat with
    | some (x,next) =>
     Gk (.ref J) 0 (O7 next)
     Gk (.ref J) 1 (O7 (i+1))
     ret x
    | none=>Gk (.ref J) 2 .none;raiseNew (←newExc (.type "StopIteration") []))
   else (do
    let some c ←GA f | unsupported "internal:set_iterator"
    match c[(i:Int).toNat]? with
    | some (.int d _) =>
     let x ←setNextDrawn a d.toNat (ep:Int).toNat
     Gk (.ref J) 1 (O7 (i+1))
     ret x
    | some _=>unsupported "internal:set_iterator"
    | none=>Gk (.ref J) 0 (O7 0);Gk (.ref J) 2 .none;raiseNew (←newExc (.type "StopIteration") []))) Q E s) :
  Oe (Od prog w) A (Builtin.«set_iterator.__next__» ⟨[.ref J],[]⟩) Q E s:=by
 refine (show Oe _ _ (fieldsOf _ >>= _) _ _ s from Oa (wpAny_fieldsOf g rfl (Oa (wpAny_setEntries_of V.ob V.dt V.fits ?_))));rw[if_neg (by rw[V.len];simp)];omega
def JY {J:Addr} {Q:PySem.Fin->Shared->Prop} (b:A.handled=none)
  (q:∀ g e,(∀ c o,a.get? c=some o->g.get? c=some o)->(∃ o,g.get? e=some o/\o.cls= .type "StopIteration")->E (.ref e) {s with heap:=g}) :
  Oe (Od prog w) A (do raiseNew (←newExc (.type "StopIteration") [])) Q E {s with heap:=a}:=by
 refine Oa (Oa (OF (Oa (wpAny_of_eq (by rfl) (OF (Oa (wpAny_handled ?_)) (by size_fits)))) (by exact Ba)));first | rw[b] | lia
 exact Oa (Ob (wpAny_throw (q _ _ (fun c o e=>Qi _ (Qi _ e)) ⟨_,Qs _ rfl,rfl⟩)))
def ZlO {i n ep p m:Nat} {o e} {es} {t} {f} {c} {x} {Q:Value->Shared->Prop} (d:ZeZ s.heap J (.ref T) i a n ep) (V:SeesS s.heap a o es ep t n)
  (l:s.heap.get? T=some e) (j:e.data= .seq f m) (h:f[i]?=some (.int p 0)) (c:es[p]?=some (c,x)) (q:∀ g,ZeZ g J (.ref T) (i+1) a n ep->Heap.SameBut J s.heap g->Q x {s with heap:=g}) :
  Oe (Od prog w) A (Builtin.«set_iterator.__next__» ⟨[.ref J],[]⟩) (fun b r=>∃ v,b= .done (.ret v)/\Q v r) E s:=by
 refine Xf d V (Oa (wpAny_seqItems l j ?_));simp[Wp,h];refine Oa (Oa (YM V ?_));dsimp only;rw[if_neg (by simp),c];refine Ob (Oa (Oq d (by simp) fun g u k=>Ob ⟨x,rfl,q g ?_ k⟩))
 assumption
def ZoM (hh:A.handled=none) (hJ:ZeZ s.heap J (.ref T) i a n ep) (V:SeesS s.heap a o es ep t n)
  (gT:s.heap.get? T=some oT) (dT:oT.data= .seq pl m) (hp:pl[i]?=none) (q:∀ g e,(∀ c o,c≠J->s.heap.get? c=some o->g.get? c=some o)->(∃ o,g.get? e=some o/\o.cls= .type "StopIteration")->E (.ref e) {s with heap:=g}) :
  Oe (Od prog w) A (Builtin.«set_iterator.__next__» ⟨[.ref J],[]⟩) Q E s:=by
 refine Xf hJ V ?_;refine Oa (wpAny_seqItems gT dT ?_);simp[Wp,hp];refine Oa (Oq hJ (by simp) fun g1 hg1 sb1=>Oa (Oq hg1 (by simp) fun g2 hg2 sb2=>?_));exact JY (J:=J) hh fun g e k he=>q g e (fun c o hc z=>k c o (sb2.extBut _ _ hc (sb1.extBut _ _ hc z))) he
def ZlM {Q:Value->Shared->Prop} (j:byT w=true) (h:ZeZ s.heap J (.int 0 0) i a n ep) (V:SeesS s.heap a o es ep t n)
  (k:(pickOrder (w.params.setOrder a ep) es)[i]?=some (r,x)) (q:∀ g,ZeZ g J (.int 0 0) (i+1) a n ep->Heap.SameBut J s.heap g->Q x {s with heap:=g}) :
  Oe (Od prog w) A (Builtin.«set_iterator.__next__» ⟨[.ref J],[]⟩) (fun e p=>∃ v,e= .done (.ret v)/\Q v p) E s:=by
 refine Xf h V (Oa (Oa (YM V (Oa (Oa (Os (Ob ?_)))))));rw[if_pos (show(Od prog w).w.params.followText _=true from j),if_neg (by simp)];refine Oa (Oa (YM V (Oa (Oa (Os (Ob ?_))))));rw[if_pos (show(Od prog w).w.params.followText _=true from j)];refine Oa (Os (Ob (Ob ?_)));have d:(pickOrder ((Od prog w).w.params.setOrder a ep) es)[i]?=some _:=k;simp[Wp,d,We];refine Oa (Oq h (by simp) fun u b f=>Oa (Oq b (by simp) fun l m c=>Ob ⟨x,rfl,q l ?_ (f.trans c)⟩))
 assumption
def ZoK (m:A.handled=none) (h:byT w=true) (f:ZeZ s.heap J (.int 0 0) i a n ep) (V:SeesS s.heap a o es ep t n)
  (j:(pickOrder (w.params.setOrder a ep) es)[i]?=none) (q:∀ g e,(∀ c o,c≠J->s.heap.get? c=some o->g.get? c=some o)->(∃ o,g.get? e=some o/\o.cls= .type "StopIteration")->E (.ref e) {s with heap:=g}) :
  Oe (Od prog w) A (Builtin.«set_iterator.__next__» ⟨[.ref J],[]⟩) Q E s:=by
 refine Xf f V (Oa (Oa (YM V (Oa (Oa (Os (Ob ?_)))))));rw[if_pos (show(Od prog w).w.params.followText _=true from h),if_neg (by simp)];refine Oa (Oa (YM V (Oa (Oa (Os (Ob ?_))))));rw[if_pos (show(Od prog w).w.params.followText _=true from h)];refine Oa (Os (Ob (Ob ?_)));have d:(pickOrder ((Od prog w).w.params.setOrder a ep) es)[i]?=none:=j;simp[Wp,d,Option.map_none];exact Oa (Oq f (by simp) fun u r b=>JY (J:=J) m fun g e k p=>q g e (fun c o l z=>k c o (b.extBut _ _ l z)) p)
def Zb3 (d:byT w=false) (V:SeesS s.heap a o es ep t n) (e:n<=1) (b:t.led=true)
  (q:Q (match es[SetTable.below t.place c]?,t.place[SetTable.below t.place c]? with
   | some (_,x),some j=>some (x,j+1)
   | _,_=>none) s):Oe (Od prog w) A (setNext a c i ep) Q E s:=by
 refine Oa (YM V (Oa (Oa (Os (Ob ?_)))));rw[if_neg (by rw[show(Od prog w).w.params.followText _=false from d];decide)];refine(show Oe _ A (if (!t.plain&&decide _)=true then _ else _) Q E s from ?_);rw[if_neg (by rw[V.len];simp;omega)];refine(show Oe _ A ((if (!t.led&&!es.isEmpty)=true then unsupported _ else pure ()) >>= fun _=>_) Q E s from ?_);rw[b];exact Oa (Ob (Ob q))
def ZlN {Q:Value->Shared->Prop} (u:byT w=false) (k:t.led=true) (m:ZeZ s.heap J (.int 0 0) 0 a 1 ep) (V:SeesS s.heap a o es ep t 1)
  (l:t.place= #[j]) (r:es[0]?=some (y,x)) (q:∀ g,ZeZ g J (.int ((j+1:Nat)) 0) 1 a 1 ep->Heap.SameBut J s.heap g->Q x {s with heap:=g}) :
  Oe (Od prog w) A (Builtin.«set_iterator.__next__» ⟨[.ref J],[]⟩) (fun i p=>∃ v,i= .done (.ret v)/\Q v p) E s:=by
 refine Xf m V (Oa (Zb3 u V (Ql _) k ?_));have c:SetTable.below t.place (0:Int).toNat=0:=by rw[l];rfl
 rw[c,r,l];refine Oa (Oq m (by simp) fun z e h=>Oa (Oq e (by simp) fun n f d=>Ob ⟨x,rfl,q n f (h.trans d)⟩))
def ZoL {f i n ep:Nat} (l:A.handled=none) (v:byT w=false) (d:t.led=true) (h:ZeZ s.heap J (.int f 0) i a n ep) (V:SeesS s.heap a o es ep t n) (p:n<=1)
  (j:es[SetTable.below t.place f]?=none) (q:∀ g e,(∀ c o,c≠J->s.heap.get? c=some o->g.get? c=some o)->(∃ o,g.get? e=some o/\o.cls= .type "StopIteration")->E (.ref e) {s with heap:=g}) :
  Oe (Od prog w) A (Builtin.«set_iterator.__next__» ⟨[.ref J],[]⟩) Q E s:=by
 refine Xf h V (Oa (Zb3 v V p d ?_));rw[Wp,j];exact Oa (Oq h (by simp) fun x u b=>JY (J:=J) l fun g e k r=>q g e (fun c o m z=>k c o (b.extBut _ _ m z)) r)
end
def SeesS.keep (V:SeesS h a o es ep t n) (k:∀ o,h.get? a=some o->h'.get? a=some o):SeesS h' a o es ep t n:={V with ob:=k o V.ob}
def Zja:Slot "set_iterator" "__iter__" "set_iterator.__iter__" :=
 .of (owner:="set_iterator") (n:="__iter__") (by rfl) (by decide +kernel) (by decide +kernel) (by decide +kernel) (by first | exact .inl (by rfl) | lia) (by rfl)
def ZlK:entryFor table "set_iterator.__iter__" = some Builtin.«dict_keyiterator.__iter__» :=
 entryFor_alias (id':="dict_keyiterator.__iter__") (by rfl) (by rfl) (by decide +kernel) (by rfl)
def ZlL (a):argsOk "set_iterator.__iter__" ⟨[a],[]⟩:=by rfl
def Zfg (b:ZeZ s.heap J f i a n ep) (h:Q (.ref J) s):Oe (Od prog w) A (Gq (.ref J)) Q E s:=by
 exact wpAny_pyIter_slot ⟨_,b,rfl⟩ Zja (Oo Zja ⟨_,b,rfl⟩ ZlK ((Ob ⟨_,rfl,"set_iterator",_,⟨_,b,rfl⟩,si_slot.lookup,h⟩)) (ZlL _))
section
variable {prog:Oc} {w:Of} {A:Around} {E:Value->Shared->Prop} {s:Shared}
abbrev ZnX (ord:Array (Int×Value)) (i:Nat) (v:Value):Prop:=∃ e,ord[i]?=some e/\v=e.2
def Zr4 (L:A.handled=none) {ps:List Nat} (B:T≠J) (x:a≠J) (G:ps.length=n) (v:∀ p∈ps,p<es.size) :
  Walks prog w A J [J,T,a] [J] n (ZnX (ps.map fun p=>es.getD p (0,.none)).toArray) (fun i h=>ZeZ h J (.ref T) i a n ep/\(∃ j m,h.get? T=some j/\j.data= .seq (ps.map fun p:Nat=>Value.int p 0).toArray m)/\SeesS h a o es ep t n) where
 sub:=fun b u=>by rw[Qr.mp u];simp
 frame:=fun i h R ⟨f,⟨j,m,g,d⟩,r⟩ k=>⟨k J (by simp) _ f,⟨j,m,k T (by simp) _ g,d⟩,r.keep fun o e=>k a (by simp) o e⟩
 item:=fun i s Q E P ⟨f,⟨j,m,g,d⟩,r⟩ q=>by
  have l:i<ps.length:=Kz P G
  have H:(ps.map fun p:Nat=>Value.int (p:Int) 0).toArray[i]?=some (.int (ps[i]:Nat) 0):=by simp[l]
  have F:ps[i]<es.size:=v _ (QA l);have I:es[ps[i]]?=some (es[ps[i]].1,es[ps[i]].2):=by simp_all
  refine Oa (OZ (wpAny_callSpecial?_slot ⟨_,f,rfl⟩ si_slot (Oo si_slot ⟨_,f,rfl⟩ XX (ZlO f r g d H I fun D K C=>Ob (q _ D s.toks ?_ ?_ ?_)) (J1 _))))
  refine⟨es[ps[i]],?_,rfl⟩;simp[l,F]
  exact⟨K,⟨j,m,C.extBut _ _ B g,d⟩,r.keep fun o e=>C.extBut _ _ x e⟩
  exact fun b o u e=>C.extBut _ _ (fun z=>u (by simp[z])) e
 done:=fun s Q E ⟨f,⟨j,m,g,d⟩,r⟩ q=>by
  refine Oa (OZ (wpAny_callSpecial?_slot (name:=Str.ofString "__next__") ⟨_,f,rfl⟩ si_slot (Oo si_slot ⟨_,f,rfl⟩ XX (ZoM L f r g d (by simp[G]) fun D e k=>B9 fun N M O=>?_) (J1 _))));exact Oa (OX (T:="StopIteration") (b:=true) ⟨N,M,O⟩ isSubtype_stop (Ob (q D s.toks fun b o u z=>k b o (fun y=>u (by simp[y])) z)))
 self:=fun i s Q E ⟨f,_⟩ q=>Zfg f q
def Zr2 (x:A.handled=none) (f:byT w=true) (m:a≠J) (r:es.size=n) :
  Walks prog w A J [J,a] [J] n (ZnX (pickOrder (w.params.setOrder a ep) es)) (fun i h=>ZeZ h J (.int 0 0) i a n ep/\SeesS h a o es ep t n) where
 sub:=fun b f=>by rw[Qr.mp f];simp
 frame:=fun i h G ⟨d,g⟩ k=>⟨k J (by simp) _ d,g.keep fun o e=>k a (by simp) o e⟩
 item:=fun i s Q E H ⟨d,g⟩ q=>by
  have p:(pickOrder (w.params.setOrder a ep) es).size=n:=by rw[←QL,(Zba _ es).length_eq,QL,r]
  have u:(pickOrder (w.params.setOrder a ep) es)[i]?=some _:=Wz (Kz H p);refine Oa (OZ (wpAny_callSpecial?_slot ⟨_,d,rfl⟩ si_slot (Oo si_slot ⟨_,d,rfl⟩ XX (ZlM f d g u fun l C v=>Ob (q _ l s.toks ⟨_,u,rfl⟩ ⟨C,g.keep fun o e=>v.extBut _ _ m e⟩ fun b o f e=>v.extBut _ _ (fun z=>f (by simp[z])) e)) (J1 _))))
 done:=fun s Q E ⟨d,g⟩ q=>by
  have p:(pickOrder (w.params.setOrder a ep) es).size=n:=by rw[←QL,(Zba _ es).length_eq,QL,r]
  refine Oa (OZ (wpAny_callSpecial?_slot ⟨_,d,rfl⟩ si_slot (Oo si_slot ⟨_,d,rfl⟩ XX (ZoK x f d g (Uo (Kf p)) fun l e k=>B9 fun B D F=>?_) (J1 _))));exact Oa (OX ⟨B,D,F⟩ isSubtype_stop (Ob (q l s.toks fun b o f z=>k b o (fun y=>f (by simp[y])) z)))
 self:=fun i s Q E ⟨d,_⟩ q=>Zfg d q
def Zr3 (S:A.handled=none) (d:byT w=false) (v:a≠J) (T:es.size=n) (N:n<=1) (p:t.led=true) (M:t.fits es.size=true) :
  Walks prog w A J [J,a] [J] n (ZnX es) (fun i h=>(∃ f:Nat,ZeZ h J (.int f 0) i a n ep/\(i<n->f=0)/\(i=n->es[SetTable.below t.place f]?=none))/\SeesS h a o es ep t n) where
 sub:=fun b d=>by rw[Qr.mp d];simp
 frame:=fun i h U ⟨⟨f,c,r⟩,g⟩ k=>⟨⟨f,k J (by simp) _ c,r⟩,g.keep fun o e=>k a (by simp) o e⟩
 item:=fun i s Q E O ⟨⟨f,c,r,_⟩,g⟩ q=>by
  have B:n=1:=by lia
  have C:i=0:=by lia
  subst C;have x:=r O;subst x;subst B;have m:t.place.size=1:=by
   simp only[SetTable.fits,QW,beq_iff_eq]at M;lia
  obtain⟨j,F⟩:∃ j,t.place= #[j]:=by
   generalize t.place=L at m;obtain⟨l⟩:=L;match l,m with
   | [j],_=>simp
  have G:es[0]?=some es[0]:=Wz (Sb T);refine Oa (OZ (wpAny_callSpecial?_slot ⟨_,c,rfl⟩ si_slot (Oo si_slot ⟨_,c,rfl⟩ XX (ZlN d p c g F G fun D u H=>Ob (q _ D s.toks ⟨_,G,rfl⟩ ⟨⟨j+1,u,fun z=>absurd z (by lia),fun _=>?_⟩,g.keep fun o e=>H.extBut _ _ v e⟩ fun b o d e=>H.extBut _ _ (fun z=>d (by simp[z])) e)) (J1 _))));have I:SetTable.below t.place (j+1)=1:=by
   rw[F];show SetTable.below.go #[j] (j+1) 1 0 1=1;unfold SetTable.below.go;rw[if_pos (by omega),if_pos (by simp)];rfl
  exact Uo (by lia)
 done:=fun s Q E ⟨⟨f,c,_,r⟩,g⟩ q=>by
  refine Oa (OZ (wpAny_callSpecial?_slot ⟨_,c,rfl⟩ si_slot (Oo si_slot ⟨_,c,rfl⟩ XX (ZoL S d p c g N (r rfl) fun D e k=>B9 fun K P R=>?_) (J1 _))));exact Oa (OX (b:=true) ⟨K,P,R⟩ isSubtype_stop (Ob (q D s.toks fun b o d z=>k b o (fun y=>d (by simp[y])) z)))
 self:=fun i s Q E ⟨⟨f,c,_⟩,_⟩ q=>Zfg c q
end
section
variable {prog:Oc} {w:Of} {A:Around} {E:Value->Shared->Prop} {s:Shared}
def range_getD {es:Array (Int×Value)} {ps:List Nat} (h:ps.Perm (Qz es.size)):(ps.map fun p=>es.getD p (0,.none)).Perm es.toList:=by
 have e:=h.map fun p=>es.getD p (0,.none);have c:((Qz es.size).map fun p=>es.getD p (0,.none))=es.toList:=by
  apply QI;intro i;rw[Qh];by_cases d:i<es.size
  simp[d];rw[Qj (by simp;exact G7 d),Qj (by simp;exact G7 d)];rfl
 rw[c]at e;omega
def ZmM (hh:A'.handled=none) (S:StT prog w s.heap a ks o es ep t) (hz:ks.length<=1000)
  (q:∀ (J) (h1) (d) (ord) (fp) (St),ord.toList.Perm es.toList->Walks prog w A' J fp [J] ks.length (ZnX ord) St->St 0 h1->(∀ b∈fp,b=a\/s.heap.objs.size<=b)->s.heap.objs.size<=J ->
   (∀ b u,s.heap.get? b=some u->h1.get? b=some u)->Q (.ref J) {s with heap:=h1,drawn:=d}):Oe (Od prog w) A (Gq (.ref a)) Q E s:=by
 have hT:s.TypeIs (.ref a) "set":=⟨o,S.ob,S.ex.1⟩
 have V:SeesS s.heap a o es ep t ks.length:=⟨S.ob,S.dt,S.fits,S.len⟩
 have ha:a<s.heap.objs.size:=Qw S.ob;have es0:s={s with heap:=s.heap,drawn:=s.drawn}:=by simp
 refine wpAny_pyIter_slot hT PySem.F.slot_set_iter (Oo PySem.F.slot_set_iter hT ZlH ?_ (PySem.F.args_set_iter_1 _));unfold Builtin.«frozenset.__iter__»;refine(show Oe _ _ (Builtin.Frozenset.sizeOf a >>= _) _ _ s from Oa ?_);unfold Builtin.Frozenset.sizeOf;refine Oa (wpAny_setEntries_of V.ob V.dt V.fits (Ob ?_));dsimp only;unfold setDrawn setsByText;refine Oa (Oa (YM V ?_));dsimp only;refine Oa (Oa (Os (Ob (Ob ?_))));have lift1:∀ (x:Bool) (h:x=(!byT w&&(!t.plain&&decide (es.size>1)))),x=(!(Od prog w).w.params.followText "set-order" && (!t.plain&&decide (es.size>1))):=fun x h=>h;by_cases c:(!byT w&&(!t.plain&&decide (es.size>1)))=true
 ·refine(show Oe (Od prog w) _ (if (!byT w&&(!t.plain&&decide (es.size>1)))=true then _ else _) _ _ s from ?_);rw[if_pos c];refine Oa (ZeF es.size (Qz es.size) s (by simp) fun ps d hp=>?_);have hpl:ps.length=ks.length:=by rw[hp.length_eq,Q3,S.len]
  refine Oa (wpAny_newTuple ?_ (by rw[Qc];exact ZbY (M0 hz hpl)));have V1:SeesS (s.heap.push {cls:=.type "tuple",data:=.seq (ps.map fun i:Nat=>O7 i).toArray}) a o es ep t ks.length:=V.keep fun o e=>Qi _ e;refine Oa ?_;unfold setEpoch;refine Oa (YM (s:={s with heap:=s.heap.push {cls:=.type "tuple",data:=.seq (ps.map fun i:Nat=>O7 i).toArray},drawn:=d}) V1 (Ob ?_));refine Oa (OF (Ob ⟨_,rfl,"set_iterator",_,⟨_,Qs _ rfl,rfl⟩,si_slot.lookup,?_⟩));have hsz:(s.heap.push {cls:=.type "tuple",data:=.seq (ps.map fun i:Nat=>O7 i).toArray}).objs.size=s.heap.objs.size+1:=WN ..;refine q _ _ d (ps.map fun p=>es.getD p (0,.none)).toArray [_,s.heap.objs.size,a] _ (range_getD hp) (Zr4 hh (T:=s.heap.objs.size) (a:=a) (ep:=ep) (o:=o) (es:=es) (t:=t) (by simp) (by rw[hsz];exact QJ (Uf ha)) hpl fun p hpm=>QK.mp (hp.mem_iff.mp hpm)) ⟨?_,⟨_,_,Qi _ (Qs _ rfl),rfl⟩,V1.keep fun o e=>Qi _ e⟩ ?_ (by simp) fun b u e=>Qi _ (Qi _ e)
  ·unfold ZeZ;rw[Qs _ rfl,S.len];rfl
  simp
 ·refine(show Oe (Od prog w) _ (if (!byT w&&(!t.plain&&decide (es.size>1)))=true then _ else _) _ _ s from ?_);rw[if_neg c];refine Oa (Ob (Oa ?_));unfold setEpoch;refine Oa (YM V (Ob ?_));refine Oa (OF (Ob ⟨_,rfl,"set_iterator",_,⟨_,Qs _ rfl,rfl⟩,si_slot.lookup,?_⟩));have fpk:∀ b∈[s.heap.objs.size,a],b=a\/s.heap.objs.size<=b:=fun b hb=>by
   rcases Qx.mp hb with z | z
   ·lia
   simp_all
  have gJ:ZeZ (s.heap.push {cls:=.type "set_iterator",data:=.fields #[O7 0,O7 0,.ref a,O7 es.size,O7 ep]}) s.heap.objs.size (.int 0 0) 0 a ks.length ep:=by
   unfold ZeZ;rw[Qs _ rfl,S.len];rfl
  by_cases hb:byT w=true
  ·exact q _ _ s.drawn _ [s.heap.objs.size,a] _ (Zba _ es) (Zr2 hh hb (o:=o) (t:=t) (QJ ha) S.len) ⟨gJ,V.keep fun o e=>Qi _ e⟩ fpk (Ql _) fun b u e=>Qi _ e
  ·have hb':byT w=false:=by simp_all
   have led:t.led=true:=by rw[S.led,hb'];rfl
   have h1:ks.length<=1:=by
    rcases Nat.lt_or_ge 1 ks.length with z | z
    ·have hpf:=S.plain (fun e=>by rw[e]at z;simp at z);exact absurd (by rw[hb',hpf,S.len];simp;exact z) c
    exact z
   refine q _ _ s.drawn es [s.heap.objs.size,a] _ (List.Perm.refl _) (Zr3 hh hb' (o:=o) (t:=t) (ep:=ep) (QJ ha) S.len h1 led S.fits) ⟨⟨0,gJ,fun _=>rfl,fun z=>?_⟩,V.keep fun o e=>Qi _ e⟩ fpk (Ql _) fun b u e=>Qi _ e;have:es.size=0:=by rw[S.len];exact z.symm
   exact Uo (by lia)
end
def Zkg:∀ {ks xs:List Str},ks.Nodup->(∀ x∈ks,x∈xs)->xs.length=ks.length->xs.Perm ks
 | [],xs,_,_,b=>by rw[Wf.mp b]
 | k::ks,xs,f,g,b=>by
  have a:=QX.mp f;refine (Wb (g k Qd ..)).trans (List.Perm.cons k (Zkg a.2 (fun x c=>?_) ?_));have d:x≠k:=fun e=>a.1 (e▸c)
  simp_all
  simp_all
section
variable {prog:Oc} {w:Of} {A:Around} {E:Value->Shared->Prop} {s:Shared}
def ZmO (a:s.TypeIs (.ref r) "set") (q:Q false s):Oe (Od prog w) A (Builtin.List.listLengthHint (.ref r)) Q E s:=by
 refine Oa (Gc a PySem.F.slot_set_len.lookup ?_);generalize b:("set.__len__")=c;subst b;exact Oa (OX a (by rfl) (wpAny_ite_split (fun z=>absurd z (by decide)) fun _=>wpAny_ite_split (fun _=>Oa (wpAny_typeOf a (Ob q))) fun z=>absurd (by rfl) z))
def Zid (hh:A.handled=none) (T:StT prog w s.heap a ks o es ep t) (hz:ks.length<=1000) (hSa:S≠a) (hS:s.heap.get? S=some {cls:=.type "list",data:=.seq #[] c₀})
  (q:∀ h1 tk d acc c (ord),ord.toList.Perm es.toList->(∀ b u,b≠S->s.heap.get? b=some u->h1.get? b=some u)->h1.get? S=some {cls:=.type "list",dict:=none,data:=.seq acc c,slots:=#[]}->ItemsOf (ZnX ord) acc ks.length->R (.ok (.ret res)) {s with heap:=h1,toks:=tk,drawn:=d}) :
  Oe (Od prog w) A.in1 (Builtin.List.listExtendWith (.ref S) (.ref a) res) (fun fin s'=>match fin with | .done f=>R (.ok f) s' | .again c'=>c'.quiet=true/\Oy (Od prog w) A c' R s') (fun e s'=>R (.error e) s') s:=by
 have hT:s.TypeIs (.ref a) "set":=⟨o,T.ob,T.ex.1⟩
 refine Oa (wpAny_typeOf hT ?_);have h1:Builtin.List.listSameRef (.ref S) (.ref a)=false:=by simp[Builtin.List.listSameRef,hSa]
 have n1:(Value.type "set" == Value.type "list")=false:=by decide
 have n2:(Value.type "set" == Value.type "tuple")=false:=by decide
 simp only[h1,n1,n2,RS,WX,if_false];refine Oa (ZmM (A':=A.in1) hh T hz fun J g d ord fp St hp W st hfp hJ kk=>?_);have gS:=kk _ _ hS;have nf:S∉fp:=fun z=>by
  rcases hfp S z with y | y
  simp_all
  exact absurd (Qw hS) (Nat.not_lt.mpr y)
 have key:∀ (h:Heap) (c₁ tk:Nat),St 0 h->(∀ b u,b≠S->s.heap.get? b=some u->h.get? b=some u)->h.get? S=some {cls:=.type "list",data:=.seq #[] c₁}->Oy (Od prog w) A (.builtin "list.extend.loop" ⟨[.ref S,.ref J,res],[]⟩) R {s with heap:=h,toks:=tk,drawn:=d}:=by
  intro h c₁ tk hst hk hS₁;refine codeAny_extend_loopS W.toS (ZbY hz) S nf res ks.length 0 _ #[] c₁ rfl (QT _) hst hS₁ (ItemsOf.nil _) fun s2 acc c mv hS2 hacc=>?_;rw[Moved.eq_with mv];refine q s2.heap s2.toks d acc c ord hp (fun b u hb e=>mv.heap b u (fun z=>?_) (hk b u hb e)) hS2 hacc;rcases Qx.mp z with y | y
  simp_all
  exact absurd (Qw e) (by exact Qr.mp y▸Nat.not_lt.mpr hJ)
 refine Oa (Op (ZmO ⟨o,kk _ _ T.ob,T.ex.1⟩ (wpAny_ite_split (fun _=>Oa (Gy (Oa ((Oa (O1 gS rfl ?_)))))) (fun _=>Ob ⟨ON PySem.F.plain_extend_loop _,key _ c₀ _ st (fun b u _ e=>kk b u e) gS⟩))));have g2:=WA (Obj.mapSeq (·.push Value.none)) gS rfl;refine O1 g2 rfl (Ob ⟨ON PySem.F.plain_extend_loop _,key _ _ _ (W.frame 0 _ _ st fun b hb u e=>?_) (fun b u hb e=>?_) (WA (Obj.mapSeq (·.pop)) g2 rfl)⟩)
 have ne:b≠S:=fun z=>nf (z▸hb);exact(Q5 _ _ (Ne.symm ne)).trans ((Q5 _ _ (Ne.symm ne)).trans e)
 exact(Q5 _ _ (Ne.symm hb)).trans ((Q5 _ _ (Ne.symm hb)).trans (kk _ _ e))
def Zf5 (hh:A.handled=none) (T:StT prog w s.heap a ks o es ep t) (hz:ks.length<=1000)
  (q:∀ h1 tk d (i) (h),h.toList.Perm es.toList->(∀ b u,s.heap.get? b=some u->h1.get? b=some u)->ItemsOf (ZnX h) i ks.length->R i.toList {s with heap:=h1,toks:=tk,drawn:=d}) :
  Oe (Od prog w) A (collect (.ref a)) R E s:=by
 unfold collect;refine Oa (wpAny_runValue (OQ entry_proto_collect' ((Oa (OF (Ob ⟨ON PySem.F.plain_list_iadd _,OQ entry_list_iadd' ?_⟩))))));have gS:(s.heap.push _).get? s.heap.objs.size=some {cls:=.type "list",data:=.seq #[]}:=Qs _ rfl;have T1:StT prog w (s.heap.push {cls:=.type "list",data:=.seq ([]).toArray}) a ks o es ep t:={T with ob:=Qi _ T.ob}
 have v:=Zid (s:={s with heap:=s.heap.push _})
  (R:=fun z r=>∃ (g:Heap) (tk:Nat) (d:Drawn) (i:Array Value) (c:Nat) (h:Array _),z= .ok (.ret (.ref s.heap.objs.size))/\r={s with heap:=g,toks:=tk,drawn:=d}/\h.toList.Perm es.toList /\
   (∀ b u,s.heap.get? b=some u->g.get? b=some u)/\g.get? s.heap.objs.size=some {cls:=.type _,dict:=none,data:=.seq i c,slots:=#[]}/\ItemsOf (ZnX h) i ks.length)
  hh T1 hz (Ro (Qw T.ob)) gS (fun g tk d i c h m n k j=>⟨g,tk,d,i,c,h,rfl,rfl,m,fun b u e=>n b u (QJ (Qw e)) (Qi _ e),k,j⟩)
 refine Ol v (fun p r x=>?_) fun e r x=>?_
 cases p with
 | done f =>
  refine Pt x fun g tk d i c h e r0 m n k j=>?_;subst r0;cases e;exact(Oa (wpAny_load k (Ob (q g tk d i h m n j))))
 | again c1 =>
  refine⟨x.1,OK x.2 fun z s2 y=>?_⟩;refine Pt y fun g tk d i c h r0 r1 m n k j=>?_;subst r0;subst r1;exact(Oa (wpAny_load k (Ob (q g tk d i h m n j))))
 obtain⟨_,_,_,_,_,_,z,_⟩:=x;cases z
def Zjf (T:StT prog w h a ks o es ep t) (u:b.toList.Perm es.toList) (f:ItemsOf (ZnX b) d ks.length) :
  ∃ xs,xs.Perm ks/\O4 d.toList xs:=by
 have J:b.toList.length=ks.length:=by rw[u.length_eq,QL,T.len]
 have K:∀ e∈b.toList,∃ x q,e.2= .str x q/\x∈ks:=fun e m=>by
  have G:=u.mem_iff.mp m;obtain⟨⟨k,g,_⟩,_⟩:=T.el e G;obtain⟨x,rfl,n⟩:=(T.mem k).mpr ⟨e,G,g⟩;rcases keyIs_shape (show Zbm (Sum.inr x) e.2=true from g)with ⟨j,t,c,_⟩ | ⟨z,t,c,r⟩
  cases c
  injection c with c
  exact⟨x,t,by simp_all,n⟩
 have B:∀ (l:List (Int×Value)),(∀ e∈l,∃ x q,e.2= .str x q/\x∈ks)->∃ xs:List Str,O4 (l.map (·.2)) xs/\(∀ x∈xs,x∈ks)/\xs.length=l.length/\∀ x,(∃ e∈l,Zbm (Sum.inr x) e.2=true)->x∈xs:=by
  intro l;induction l with
  | nil=>exact fun _=>⟨[],.nil,(fun x n=>by grind),rfl,(fun x ⟨e,m,_⟩=>by cases m)⟩
  | cons e l ih =>
   intro s;refine Ph (ih fun e m=>s e (Qg _ m)) fun xs C H D v=>?_;refine Pb (s e (Qd ..)) fun x q E n=>?_;refine⟨x::xs,?_,fun y L=>?_,by simp[D],fun y=>B9 fun e' A g=>?_⟩
   rw[Qp,E];exact .cons x q C
   rcases Qx.mp L with z | z
   rw[z];omega
   exact H y z
   rcases Qx.mp A with z | z
   subst z;rw[E]at g;rcases keyIs_shape g with ⟨j,t,c,_⟩ | ⟨z,t,c,r⟩
   cases c
   injection c with c
   injection r with r _
   rw[c,←r];simp
   exact Qg _ (v y ⟨e',z,g⟩)
 obtain⟨xs,C,H,D,v⟩:=B b.toList K;have p:∀ x∈ks,x∈xs:=fun x n=>by
  obtain⟨e,m,g⟩:=(T.mem (Sum.inr x)).mp ⟨x,rfl,n⟩;exact v x ⟨e,u.mem_iff.mpr m,g⟩
 refine⟨xs,?_,?_⟩
 exact Zkg T.nd p (T9 J D)
 have:d.toList=b.toList.map (·.2):=by
  apply QI;intro i;by_cases hi:i<d.toList.length
  obtain⟨e,I,M⟩:=f.2 i d.toList[i] (by simp);rw[Qa hi,Qh,Uv,I,M];rfl
  have s:=f.1;rw[←QL]at s;rw[Qj (G7 hi),Qj (by rw[Qc];lia)]
 rw[this];omega
end
section
variable {X:Cx} {pins:List (Addr×Obj)} {σ:St} {H:Hp} {s:Shared}
def Inv.drw (I:Inv X pins σ H s) (d):Inv X pins σ H {s with drawn:=d}:=by
 refine I.step (ch:=[]) (fun b g=>by cases g) (fun b u _ _ _ e _=>e) (fun b u _ _ _ e _=>⟨_,e⟩) (fun b u _ e n=>n) (fun b u _ e=>⟨u,e⟩) (fun b f e=>e) (fun b u f e=>e) (fun b h e=>⟨#[],by simp_all⟩) (fun m c=>c) I.hok I.bare
end
noncomputable def stO (X:Cx) (p:Addr) (ks:List Str):HO:=.ext fun h=>SetT X.prog X.w h p ks
def Zby (hc:X.calm=true):CallR X (.type "set") (fun xs H Q=>∃ (a:Addr) (ss:List Str),xs=[.ref a]/\SqL X.K H a (ss.map V.str)/\ss.length<=1000 /\
  ∀ (p) (ks),H p=none->ks.Nodup->(∀ x,x∈ks↔x∈ss)->ks.length<=ss.length->Q (.ref p) (upd H p (stO X p ks))):=by
 intro pins s σ H xs us Q I r h;obtain⟨a,ss,rfl,hq,h1k,q⟩:=h;obtain⟨u,rfl,ru⟩:=YL r;cases ru;obtain⟨its,rv,pl,hz⟩:=I.list hq;have hl:=rv.length;rw[Qc]at hl;refine Zld (I.ok.hd hc) pl.isList (by simpa using XV rv) (by show its.length+1<4096;lia) fun h1 tk hS kk=>?_;have ez:its.toArray.size=ss.length:=by rw[Qu,hl]
 rw[ez]at hS;obtain⟨o,es,ep,t,T⟩:=id hS;refine⟨.ref s.heap.objs.size,_,I.laid (o:=stO X s.heap.objs.size _) kk (Ql _) ⟨hS,⟨o,T.ob⟩,fun g1 g2 z k=>z.keep k⟩,rfl,q _ _ (I.hok.fresh (Ql _)) T.nd (fun x=>?_) (ZfT _ _)⟩;rw[Zkr];constructor;rintro⟨j,hj,e⟩;rw[←e,Qb,Qa hj];simp;intro hx;obtain⟨j,hj,e⟩:=WF hx;exact⟨j,hj,by grind⟩
end L2
namespace Sh
open PySem L2 PyProof.Rows
seal L2.PE L2.PS L2.PSs L2.PT L2.PW L2.PA L2.PI L2.PG L2.PGs L2.PO L2.PC L2.PCs L2.OpR L2.UnR L2.CallR L2.MtR L2.IxR L2.SlR
def Xh (g:Str->V) (y):∀ ks:List Str,XR (ks.map fun x=>((Sum.inr x:Key),g x)) (Sum.inr y)=if y∈ks then some (g y)else none
 | []=>rfl
 | x::ks=>by
  by_cases e:x=y
  subst e;rw[Qp,ZaB rfl,if_pos Qd];rw[Qp,ZaC fun q=>e (Sum.inr.inj q),(Xh g y ks)];have:y∈x::ks↔y∈ks:=by
   rw[Qx];exact⟨fun h=>h.elim (fun q=>absurd q.symm e) id,.inr⟩
  simp[this]
def Zab (g:Str->V) (y) (v) (ks:List Str) (h:y∈ks):JH (ks.map fun x=>((Sum.inr x:Key),g x)) (Sum.inr y) v=ks.map fun x=>((Sum.inr x),if x=y then v else g x):=by
 unfold JH;rw[ZaD,Xh,if_pos h];simp only[R0,if_true,QN];apply QB;intro x _;by_cases e:x=y
 subst e;simp;have:¬ (Sum.inr x:Key)=Sum.inr y:=fun q=>e (Sum.inr.inj q);simp[this,e]
def JZ:∀ {l m:List (List Nat)},l.Pairwise (· < ·)->m.Pairwise (· < ·)->(∀ x,x∈l↔x∈m)->l=m
 | [],[],_,_,_=>rfl
 | [],y::m,_,_,h=>absurd ((h y).mpr Qd) (by simp)
 | x::l,[],_,_,h=>absurd ((h x).mp Qd) (by simp)
 | x::l,y::m,j,i,h=>by
  have c:=WC.mp j;have d:=WC.mp i;have e:x=y:=by
   rcases Qx.mp ((h x).mp Qd)with z | z
   omega;rcases Qx.mp ((h y).mpr Qd)with g | g
   simp_all
   exact absurd (RT (c.1 y g) (d.1 x z)) (Uk _)
  subst e;have k:=JZ c.2 d.2 fun z=>by
   constructor;intro b;rcases Qx.mp ((h z).mp (Qg _ b))with q | q
   subst q;exact absurd (c.1 z b) (Uk _);omega;intro b;rcases Qx.mp ((h z).mpr (Qg _ b))with q | q
   subst q;exact absurd (d.1 z b) (Uk _);omega
  rw[k]
noncomputable def gD (ks:List Str) (g:Str->Int):List (Key×V):=ks.map fun x=>((Sum.inr x:Key),V.int (g x))
def Zav (ks) (g):(gD ks g).length=ks.length:=by unfold gD;simp
def Zey (ks) (g) (y):XR (gD ks g) (Sum.inr y)=if y∈ks then some (.int (g y))else none:=Xh _ y ks
def Zg8 (h:∀ x∈ks,g x=g' x):gD ks g=gD ks g':=QB fun x m=>by rw[h x m]
def Zez (ks) (g) (y) (n):JH (gD ks g) (Sum.inr y) (.int n)=gD (if y∈ks then ks else ks++[y]) fun x=>if x=y then n else g x:=by
 by_cases m:y∈ks
 rw[if_pos m];unfold gD;rw[Zab _ _ _ _ m];apply QB;intro x _;dsimp only;by_cases e:x=y
 rw[if_pos e,if_pos e];rw[if_neg e,if_neg e];rw[if_neg m,ZaK _ (by rw[Zey,if_neg m])];unfold gD;rw[QM,Wt];dsimp only;rw[if_pos rfl];congr 1;apply QB;intro x hx;have ne:¬ x=y:=by
  grind
 rw[if_neg ne]
def ZpV (ks:List Str) (g:Str->Int) (y:Str):ZeE (gD ks g) (Sum.inr y)=gD (ks.filter fun x=>decide (x≠y)) g:=by
 unfold ZeE gD;induction ks with
 | nil=>rfl
 | cons x ks c =>
  rw[Qp,WL,WL,c];by_cases e:x=y
  subst e;simp
  have d:decide ((Sum.inr x:Key)≠Sum.inr y)=true:=decide_eq_true fun q=>e (by injection q);have f:decide (x≠y)=true:=decide_eq_true e;rw[if_pos d,if_pos f,Qp]
end Sh
namespace L2
open PySem PySem.Spec PyProof.Rows
section
variable {prog:Oc} {w:Of} {A:Around} {R:Gz->Shared->Prop} {it:Addr} {fp wr:List Addr} {n:Nat} {Pv:Nat->Value->Prop} {Sv:Nat->Heap->Prop}
end
def Zo2 {k:Key} {u:Value} (h:Zbm k u=true):RelV (kV k) u:=by
 rcases keyIs_shape h with ⟨i,t,rfl,rfl⟩ | ⟨x,t,rfl,rfl⟩
 exact⟨t,rfl⟩
 exact⟨t,rfl⟩
def Zrr {kvs:List (Key×V)} {vs:List (Key×Value)} (r:KV kvs vs):∀ {i:Nat} {p:Key×V},kvs[i]?=some p->∃ q,vs[i]?=some q/\p.1=q.1/\RelV p.2 q.2:=by
 unfold KV at r;induction r with
 | nil=>intro i p e;simp at e
 | @cons a b l m h t k =>
  intro i p e;cases i with
  | zero =>
   simp at e;subst e;exact⟨b,rfl,h⟩
  | succ i =>
   obtain⟨q,j,r⟩:=k (i:=i) (p:=p) (by simpa using e);exact⟨q,by simpa using j,r⟩
section
variable {X:Cx} {pins:List (Addr×Obj)} {σ:St} {H H':Hp} {s s':Shared} {d:Addr} {o:Obj} {kvs kvs':List (Key×V)}
def Inv.frozen (I:Inv X pins σ H s) (b:H d=some (.dK kvs)):∃ o,Inv X pins σ (upd H d (.frz o (.dK kvs))) s:=by
 obtain⟨z,lo,f,g,c⟩:=id (I.hok d _ b);obtain⟨o,h,i,e,r⟩:=id c;refine⟨o,I.write (h':=s.heap) (t':=s.toks) (x:=d) (e:=d) (by exact b▸True.intro) (.inl rfl) (fun _ _ _ z=>z) ⟨o,e⟩ ⟨e,z,lo,f,g,c⟩⟩
end
def Zob {X:Cx} {a:List (Addr×Obj)} {σ:St} {H:Hp} {s:Shared} {d:Addr} {o:Obj} {kvs:List (Key×V)} {es:Array DictEntry} {ep:Nat} (I:Inv X a σ H s) (j:H d=some (.frz o (.dK kvs))) (e:o.data= .dict es ep) :
  ∃ vs,KV kvs vs/\s.heap.DictAt (ZA X.prog X.w) d vs ep/\(d==Ov)=false:=by
 obtain⟨b,z,lo,vs,l,m,k,h,f,i,c,g⟩:=I.hok d _ j;rw[b]at f;cases f;rw[e]at c;cases c;exact⟨vs,l,⟨o,es,b,i,e,g⟩,lo⟩
def ZdY (e:X.A.units+64<OW):OpR X (On .NotEq) (fun x y H Q=>∃ b a,RepD H b x/\RepD H a y/\SeqAt.shaped b=true/\SeqAt.shaped a=true/\Q (.bl (!PyData.eqv b a)) H):=by
 intro c s σ H x y v u Q I m d h;obtain⟨b,a,k,g,f,i,q⟩:=h;obtain⟨n,j⟩:=RepD.reads I b x v k m;obtain⟨o,l⟩:=RepD.reads I a y u g d;exact ne_dataH j l f i e ⟨.bl _,H,I,rfl,q⟩
def Yr (I:L2.St->Hp->Prop) (h:∀ R,(∀ a b,I a b->R a b)->t {D with nx:=R} σ H) (c:∀ a b,I a b->u D a b):Zqh t u D σ H:=h _ c
def YK:MtR X "list.pop" Zs2:=Zrk
section
variable {X:Cx} {pins:List (Addr×Obj)} {σ:St} {H:Hp} {s:Shared} {a:Addr} {kvs:List (Key×V)} {k:Key} {u:Value} {A:Around} {E:Value->Shared->Prop}
def ZrH (I:Inv X pins σ H s) (e:H a=some (.dK kvs)) (p:RelV (kV k) u) (C:RelV z r) (J:kvs.length<sizeLine) (y:∀ v m d,XR kvs k=some v->RelV v m->Inv X pins σ H d->Q m d)
  (o:XR kvs k=none->∀ d,Inv X pins σ (upd H a (.dK (JH kvs k z))) d->Q r d):Oe (Od X.prog X.w) A (call (.builtin "dict.setdefault") [.ref a,u,r]) Q E s:=by
 obtain⟨G,i,x,b,j⟩:=Zbv I.hok e;refine OA PySem.F.slot_dict_setdefault j.typeIs PySem.F.entry_dict_setdefault (PySem.F.args_dict_setdefault_3 _ _ _) (kt_meets_setdefault _ a (ZbM p) i r) ⟨x,j,by rw[←b.length];exact Kn J,fun v w=>?_,fun t F f B=>?_⟩;have q:=b.val k;rw[w]at q;cases l:XR kvs k with
 | none=>rw[l]at q;exact q.elim
 | some n=>rw[l]at q;exact y n v _ l q (I.tok _)
 have q:=b.val k;rw[t]at q;have h:(JH kvs k z).length<=sizeLine:=by have:=Xn kvs k z;exact Ko J this
 cases l:XR kvs k with
 | none=>exact o l _ (Zam I (by exact e▸True.intro) B (let ⟨q,_,_,D,_⟩:=f;⟨q,D⟩) (ZeH h i (b.put k C) f))
 | some n=>rw[l]at q;exact q.elim
end
def Zsc (td ty tx:TE):TE:=fun σ H Q=>td σ H fun x H1=>∃ a,x= .ref a/\IsD H1 a/\ty σ H1 fun y H2=>tx σ H2 fun z H3=>∃ kvs k,H3 a=some (.dK kvs)/\y=kV k/\kvs.length<sizeLine /\
 (∀ v,XR kvs k=some v->Q v H3)/\(XR kvs k=none->Q z (upd H3 a (.dK (JH kvs k z))))
def Zfv {n p tx} (C:PE X o n) (Y:PE X e p) (V:PE X f tx) (m:M2 X o "setdefault" c e f g):PE X (.Call (.Attribute o "setdefault" c) [e,f] [] g) (Zsc n p tx):=by
 intro b s σ H Q I h;refine O5 m.base m.few m.line PySem.F.plainAttrs_dict PySem.F.slot_dict_setdefault PySem.F.type_dict_setdefault (thn (C b s σ H _ I h) fun u K ⟨x,N,r,E,a,O,d,Z⟩=>?_);subst O;obtain rfl:u=Value.ref a:=E;have⟨D,w,_⟩:=Zcc r d;refine⟨D,w,?_⟩;rw[m.trees];refine Calls.callWith_builtin rfl (Calls.evalArgs_plain (Calls.spliced_cons (thn (Y b K σ N _ r Z) fun iv R=>B6 fun y t P M F=>
  Calls.spliced_cons (thn (V b R σ t _ P F) fun fv s3 ⟨z,A,U,q,G,k,J,L,T,W,S⟩=>Calls.spliced_nil ?_))))
 subst L;exact ZrH U J M q T (fun v w' B l j i=>⟨v,A,i,j,W v l⟩) fun l B i=>⟨z,_,i,q,S l⟩
open PySem PySem.Spec PyProof.Rows PySem.Builtin.Str
def Zos {a} (r:Vals xs a):∀ {i:Nat} {x} {u},xs[i]?=some x->a[i]?=some u->RelV x u:=by
 induction r with
 | nil=>simp
 | cons f d e =>
  grind
end L2
namespace Sh
open PySem L2 PyProof.Rows PySem.Builtin.Str
end Sh
namespace L2
open PySem PySem.Spec PyProof.Rows
noncomputable def Itk (d:Addr) (o:Obj) (kvs:List (Key×V)):It :=
 ⟨fun i H=>H d=some (.frz o (.dK kvs))/\i<kvs.length,fun i H x H'=>H'=H/\∃ p,kvs[i]?=some p/\x=kV p.1,fun i H=>H d=some (.frz o (.dK kvs))/\kvs.length<=i⟩
def Zix {P:Oc} {w:Of} {K:PySem.W.Frag} {tg:Expr} (d f:Addr) (o:Obj) (kvs:List (Key×V)) {es:Array DictEntry} {ep:Nat} (t:o.data= .dict es ep) :
  Zng P w K tg (Itk d o kvs) [f] f (fun i h=>h.IsKeyIter f d i kvs.length ep) where
 mem:=by simp
 obj:=fun i h a c l=>by
  have l:=Qr.mp l;subst l;obtain⟨J,g1,g2,g3⟩:=a;exact⟨J,g1,fun v z=>by rw[g3]at z;cases z⟩
 keep:=fun i h h' a Y=>a.at fun J e=>Y f (by simp) J e
 item:=by
  intro X S R F l i g s σ H E I x a B;subst S R F;obtain⟨U,O⟩:=B;refine Pf (Zob I U t) fun N m y lo=>?_;obtain⟨p,W⟩:∃ p,kvs[i]?=some p:=⟨_,Qa O⟩
  refine Pf (Zrr m W) fun q Z e1 _=>?_;refine Pg (x f (by simp)) fun T G f2 M C L=>?_;have k:s.heap.IsKeyIter f d i N.length ep:=by exact m.length▸a
  refine wpAny_pyNext_dict_item (k:=q.1) k y Z fun D h1 r j sb=>?_;have I1:Inv X g σ H {s with heap:=h1}:=I.turned (t':=s.toks) (fun b u n e=>(sb.2 b n).trans e) T G M C L;refine⟨D,rfl,letGo_keyiter j ⟨kV p.1,H,I1,by exact e1▸Zo2 r,⟨rfl,p,W,rfl⟩,by exact m.length▸j,fun b n=>(x b n).1⟩⟩
 done:=by
  intro X S R F l i g s σ H E I x a B;subst S R F;obtain⟨U,O⟩:=B;obtain⟨N,m,y,_⟩:=Zob I U t;refine Pg (x f (by simp)) fun T G f2 M C L=>?_;have k:s.heap.IsKeyIter f d i N.length ep:=by exact m.length▸a
  exact wpAny_pyNext_dict_end (I.ok.hd l) k y (Qj (by exact m.length▸O)) fun h' eb=>⟨rfl,I.turned (t':=s.toks) (fun b u n e=>eb b u n e) T G M C L⟩
 self:=fun A i s Q E a h=>wpAny_pyIter_keyiter a h
def ZsG (td:TE):TI:=fun σ H R=>td σ H fun x H1=>∃ d o kvs,x= .ref d/\H1 d=some (.frz o (.dK kvs))/\R (Itk d o kvs) H1
def Zpa {X:Cx} {tg ob:Expr} {td:TE} (ho:PE X ob td):PI X tg ob (ZsG td):=by
 intro pins s σ H R I h;refine thn (ho pins s σ H _ I h) fun v s1 ⟨x,H1,I1,r1,d,o,kvs,ex,hd,q1⟩=>?_;subst ex;obtain rfl:v=Value.ref d:=r1;obtain⟨g1,z,lo,vs,kv,dd⟩:=I1.hok d _ hd;obtain⟨ep,da⟩:=dd.dictAt;refine wpAny_pyIter_dict lo da ?_;refine Pd (id da) fun o' es g2 _ g3 _=>?_;rw[g1]at g2;cases g2;refine La _ ([_]) _ (Itk d o kvs) H1 ⟨rfl,I1.kept (t':=s1.toks) fun b u e=>Qi _ e,Zix d s1.heap.objs.size o kvs g3,?_,fun b hb=>?_,q1⟩
 ·rw[kv.length];exact⟨_,Qs _ rfl,rfl,rfl⟩
 ·rw[Qr.mp hb];exact I1.fpOk (Ql _) (I1.hok.fresh (Ql _))
def ZpI {d:Addr} {o:Obj} {kvs:List (Key×V)} {b:Hp} (f:b d=some (.frz o (.dK kvs))):∀ H,Same b H->(∀ i,i<kvs.length->(Itk d o kvs).go i H/\∀ x a,(Itk d o kvs).yld i H x a->a=H/\x=(kvs.map fun p=>kV p.1).getD i .non)/\(Itk d o kvs).stop kvs.length H:=fun H s=>by
 refine⟨fun i l=>⟨⟨s _ _ f,l⟩,fun x a y=>?_⟩,⟨s _ _ f,Ql _⟩⟩;obtain⟨e,p,h,j⟩:=y;refine⟨e,?_⟩;rw[j,Qb,Qh,h];rfl
def ZfW (n) (xs:Nat->V) (t) (R:Nat->V->Hp->Prop) (hn:n<=sizeLine)
  (hR:∀ i v H H',TSame H H'->R i v H->R i v H')
  (hJ:∀ H,Same H1 H->(∀ i,i<n->J.go i H/\∀ x H',J.yld i H x H'->H'=H/\x=xs i)/\J.stop n H)
  (step:∀ i H (Qt) (Qf:Hp->Prop),i<n->Same H1 H->(t i=true->∀ v H6,Same H H6->R i v H6->Qt v H6)->(t i=false->∀ H6,Same H H6->Qf H6)->g (xs i) (lcS k mp σ) H fun σ4 H4=>tc σ4 H4 fun b H5=>if b=true then te σ4 H5 Qt else Qf H5)
  (done:∀ D vs H',vs.length=((Qz n).filter t).length->(∀ (j i:Nat) (v),((Qz n).filter t)[j]?=some i->vs[j]?=some v->R i v H')->Same H1 H'->H1 D=none->H' D=some (.lst vs)->Q (.ref D) H'):Xt k mp σ g tc te J H1 Q:=by
 intro D hD;refine⟨fun i m acc H=>m=n-i/\i<=n/\acc.length=((Qz i).filter t).length/\Same H1 H/\H D=some (.lst acc)/\∀ (j q:Nat) (v:V),((Qz i).filter t)[j]?=some q->acc[j]?=some v->R q v H,
  ⟨n,by simp,QT _,rfl,Zb hD,Ze,fun j q v e _=>by simp_all⟩,?_⟩
 rintro i m acc H ⟨rfl,hi,hl,hs,hDa,hr⟩;obtain⟨j1,j2⟩:=hJ H hs;by_cases hlt:i<n
 refine .inr ⟨(j1 i hlt).1,fun x H3 y=>?_⟩;obtain⟨e1,e2⟩:=(j1 i hlt).2 x H3 y;subst e1 e2;refine step i H3 _ _ hlt hs (fun ht v H6 s6 r6=>⟨s6 _ _ hDa,?_,n-(i+1),T3 hlt,rfl,hlt,?_,fun b o e=>?_,Ze,fun j q u e1 e2=>?_⟩) (fun ht H6 s6=>⟨n-(i+1),T3 hlt,rfl,hlt,?_,hs.trans s6,s6 _ _ hDa,fun j q u e1 e2=>?_⟩)
 have:=Q7 t (Qz i);rw[Q3]at this;lia
 rw[Ub,Wi,Qm,Qm,hl];simp[ht]
 exact Zj (Zl e hD)▸s6 _ _ (hs b o e)
 have ts:TSame H6 (upd H6 D (.lst (acc++[v]))):=Xi (s6 _ _ hDa);rw[Ub,Wi]at e1;rcases Ue j acc.length with h | h | h
 rw[QS h]at e2;rw[QS (V6 hl h)]at e1;exact hR _ _ _ _ (s6.tup.trans ts) (hr j q u e1 e2)
 subst h;rw[QY (Ql _),WW]at e2;rw[QY (T4 hl),hl,WW]at e1;simp[ht]at e1 e2;subst e1 e2;exact hR _ _ _ _ ts r6
 rw[Qj (by rw[Qm,QD];exact h)]at e2
 grind
 rw[Ub,Wi,Qm,hl];simp[ht]
 rw[Ub,Wi]at e1;have hj:j<acc.length:=(Qo.mp e2).1;rw[QS (V6 hl hj)]at e1;exact hR _ _ _ _ s6.tup (hr j q u e1 e2)
 have e:i=n:=T5 hi hlt
 subst e;exact .inl ⟨j2,done D acc H hl hr hs hD hDa⟩
section
variable {prog:Oc} {w:Of} {A:Around} {E:Value->Shared->Prop} {s:Shared}
end
section
variable {X:Cx} {pins:List (Addr×Obj)} {σ:St} {H H':Hp} {s s':Shared} {d:Addr} {o:Obj} {kvs kvs':List (Key×V)}
def Inv.thaw2 {k:St} (I:Inv X pins σ H s) (K:H d=some (.dK kvs)) (J:Inv X pins k H' s') (e:H' d=some (.frz o (.dK f))):Inv X pins k (upd H' d (.dK f)) s':=by
 have n:∀ b,H' b=none->upd H' d (.dK f) b=none:=fun b z=>by
  rw[Zj];omega;intro w;simp_all
 refine {J with base:=⟨J.base.keep,J.base.slot,fun b q g r v=>n b (J.base.free b q g r v),J.base.there,fun b m g=>?_,fun b q u g=>?_,fun b C g=>?_⟩,free:=n _ J.free,freeC:=fun x c h=>n _ (J.freeC x c h),pin:=fun p G=>?_,hok:=fun b u g=>?_};have r:=J.base.tups b m g;rw[Zj];omega;intro w;simp_all;by_cases w:b=d
 have r:=I.base.frzs b q u g
 simp_all
 exact Zj w▸J.base.frzs b q u g;obtain⟨l,_⟩:=J.base.tbls b C g;refine⟨l,?_⟩;rw[Zj];omega;intro w;simp_all;obtain⟨E,F,D⟩:=J.pin p G;exact⟨E,n _ F,D⟩;have A:∀ (a:Addr) (b:Addr),H' b=some _->upd H' d (.dK f) b=some (.own a):=fun a b z=>by
  rw[Zj];omega;intro w;simp_all
 have y:∀ (b:Addr) m,H' b=some _->upd H' d (.dK f) b=some (.tup m):=fun b m z=>by
  rw[Zj];omega;intro w;simp_all
 by_cases w:b=d
 subst w;rw[Ze]at g;cases g;obtain⟨_⟩:=J.hok b _ e
 assumption
 rw[Zj w]at g;exact(J.hok b u g).stay (fun _ _ _ z=>z) (A b) y
end
def Zr9 (t:TS):TS:=fun D σ H=>∃ d kvs,H d=some (.dK kvs)/\∀ o,t ⟨fun σ' H'=>H' d=some (.frz o (.dK kvs))/\D.nx σ' (upd H' d (.dK kvs)),fun _ _=>False,fun _ _=>False,fun _ _=>False⟩ σ (upd H d (.frz o (.dK kvs)))
def ZqV {st} (h:PS X st t):PS X st (Zr9 t):=by
 intro a s σ H D I q;obtain⟨d,j,c,q⟩:=q;obtain⟨o,m⟩:=I.frozen c;refine Ol (h a s σ _ _ m (q o)) (fun f u z=>?_) fun _ _ e=>e;cases f with
 | next =>
  obtain⟨b,r,p,k,n⟩:=z;exact⟨b,_,I.thaw2 c p k,n⟩
 | brk =>
  obtain⟨_,_,_,z⟩:=z
  simp_all
 | cont =>
  obtain⟨_,_,_,z⟩:=z
  simp_all
 | ret v =>
  obtain⟨_⟩:=z
  simp_all
def Zkz (n) (xs:Nat->V) (f:Nat->List V) (hn:n<=sizeLine)
  (Z:∀ H,Same q H->(∀ i,i<n->J.go i H/\∀ x l,J.yld i H x l->l=H/\x=xs i)/\J.stop n H)
  (step:∀ i H (N),i<n->Same q H->(∀ a B,Same H B->H a=none->B a=some (.lst (f i))->N (.ref a) B)->g (xs i) (lcS k W σ) H fun F Y=>te F Y N)
  (A:∀ D (c:List Addr) l,c.length=n->c.Nodup->(∀ i a,c[i]?=some a->a≠D/\q a=none/\l a=some (.lst (f i)))->Same q l->q D=none->l D=some (.lst (c.map V.ref))->Q (.ref D) l):Xt k W σ g Znk te J q Q:=by
 intro D E;refine⟨fun i m p H=>m=n-i/\i<=n/\Same q H/\H D=some (.lst p)/\∃ c:List Addr,p=c.map V.ref/\c.length=i/\c.Nodup/\∀ j a,c[j]?=some a->a≠D/\q a=none/\H a=some (.lst (f j)),⟨n,by simp,QT _,Zb E,Ze,[],rfl,rfl,Wx,fun j v e=>by simp at e⟩,?_⟩;rintro i m p H ⟨rfl,hi,w,r,c,rfl,G,s,C⟩;obtain⟨L,P⟩:=Z H w;by_cases d:i<n
 refine .inr ⟨(L i d).1,fun x K y=>?_⟩;obtain⟨X,e2⟩:=(L i d).2 x K y;subst X e2;refine step i K _ d w fun a B I M U=>⟨I _ _ r,by rw[Qc];exact Mm hn d G,n-(i+1),T3 d,rfl,d,fun b o e=>?_,Ze,c++[a],by simp,by rw[Qm,G];rfl,?_,fun j u e=>?_⟩
 exact Zj (Zl e E)▸I _ _ (w b o e)
 rw[Wg];refine⟨s,by simp,fun x S y R e=>?_⟩;rw[Qr.mp R]at e;subst e;obtain⟨j,T⟩:=List.mem_iff_getElem?.mp S;rw[(C j x T).2.2]at M
 grind
 have t:a≠D:=fun z=>by simp_all
 rcases Ue j c.length with h | h | h
 rw[QS h]at e;obtain⟨O,q2,q3⟩:=C j u e;exact⟨O,q2,by exact Zj O▸I _ _ q3⟩
 subst h;rw[QY (Ql _),WW]at e;cases e;exact⟨t,w.free M,by rw[Zj t,G];exact U⟩
 rw[Qj (by rw[Qm,QD];exact h)]at e;cases e
 have e:i=n:=T5 hi d
 subst e;exact .inl ⟨P,A D c H G s C w E r⟩
end L2
set_option maxRecDepth 4000
namespace L2
open PySem PySem.Spec PyProof.Rows
def Zo4:V->List V->Hp->VK->Prop:=fun x vs H Q=>∃ l xs,∃ i:Nat,∃ y,x= .ref l/\vs=[.int i,y]/\H l=some (.lst xs)/\i<=xs.length/\xs.length<sizeLine/\Q .non (upd H l (.lst (xs.take i++[y]++xs.drop i)))
def Zip (r:Vals xs us):∀ i,Vals (xs.take i) (us.take i):=by
 induction r with
 | nil=>intro i;rw[VE,VE];exact .nil
 | cons h t ih =>
  intro i;cases i with
  | zero=>exact .nil
  | succ i=>exact .cons h (ih i)
def Ziq (r:Vals xs d):∀ i,Vals (xs.drop i) (d.drop i):=by
 induction r with
 | nil=>intro i;rw[VF,VF];exact .nil
 | cons h t e =>
  intro i;cases i with
  | zero=>exact .cons h t
  | succ i=>exact e i
def ZkH {a:List Value} (e:s.heap.get? l=some {cls:=.type "list",dict:=none,data:=.seq a.toArray n,slots:=#[]})
  (b:¬ (!Builtin.List.listFitsIndex x)=true) (c:a.toArray.size<=sizeLine) (h:Q .none {s with heap:=s.heap.update l (Obj.mapSeq fun xs=>have k:=if x<0 then (x+xs.size).toNat else min x.toNat xs.size;(xs.extract 0 k).push y++xs.extract k),toks:=s.toks}) :
  Oe (Od prog w) A (call (.builtin "list.insert") [.ref l,.int x t,y]) Q E s :=
 Ow F.slot_list_insert ⟨_,e,rfl⟩ F.entry_list_insert (F.args_list_insert_3 _ _ _) (AutoSeq1.list_insert_list_int_val_1 l a.toArray n x t y b c) ⟨e,h⟩
def Zko:MtR X "list.insert" Zo4:=by
 intro pins s σ H x vs v us Q I rx rv h;refine Ps h fun l b i y r0 r1 hH hi hz q=>?_;subst r0;subst r1;cases rx;refine Pi (Zir rv) fun u w' r0 ru rw'=>?_;subst r0;obtain⟨t,rfl⟩:=ru;refine Pq (I.lstM hH) fun z c n r hl e=>?_;have hs:=Oj;have hfit:Builtin.List.listFitsIndex i=true:=fitsIndex_both (by lia) (by lia);have hfit2:¬ (!Builtin.List.listFitsIndex i)=true:=by
  rw[hfit];simp
 have hsz:c.toArray.size<=sizeLine:=by rw[Qu];exact S9 hz hl
 have e1:∀ m:Nat,i<=m->(if (i:Int)<0 then (i+((m:Nat):Int)).toNat else min (i:Int).toNat m)=i:=fun m hm=>by
  rw[if_neg Na];lia
 have hf:(fun b=>(b.extract 0 (if (i:Int)<0 then (i+(b.size:Int)).toNat else min (i:Int).toNat b.size)).push w'++b.extract (if (i:Int)<0 then ((i:Int)+((b.size:Nat):Int)).toNat else min (i:Int).toNat b.size)) c.toArray=(c.take i++[w']++c.drop i).toArray:=by
  show(c.toArray.extract 0 _).push w'++c.toArray.extract _=_;rw[e1 _ (by rw[Qu];exact T8 hl hi)];simp;exact QP (by simp)
 have J:=I.lset (f:=fun b=>(b.extract 0 (if i<0 then (i+(b.size:Int)).toNat else min _ b.size)).push w'++b.extract (if i<0 then (i+((b.size:Nat):Int)).toNat else min _ b.size)) (t':=s.toks) hH e hf (((Zip r i).append (.cons rw' .nil)).append (Ziq r i)) (by
  simp only[Qm,QH,Wa,QD];lia)
 have fin:EP X pins σ Q .none _:=⟨.non,_,J,rfl,q⟩
 exact ZkH e hfit2 hsz fin
def Zeo:MtR X "list.pop" ZnQ:=ZmC
end L2
namespace PySem
namespace F
end F
end PySem
namespace PySem
section
variable {prog:Oc} {w:Of} {A:Around} {E:Value->Shared->Prop} {s:Shared}
end
section
variable {prog:Oc} {w:Of} {A:Around} {E:Value->Shared->Prop} {s:Shared}
section
variable {R:Gz->Shared->Prop}
end
end
end PySem
namespace L2
open PySem PySem.Spec PyProof.Rows
def Zii:Oi "reversed" = some (.type "reversed"):=by rfl
def Zor:∀ (b) (a),b.length=a.length->(∀ (i:Nat) (w) (u),b[i]?=some w->a[i]?=some u->RelV w u)->Vals b a:=by
 intro b;induction b with
 | nil =>
  intro a e _;have:=Wf.mp e.symm;subst this;exact .nil
 | cons w b g =>
  intro a e h;cases a with
  | nil=>grind
  | cons u a=>exact .cons (h 0 w u rfl rfl) (g a (by simp_all) fun i l k j f=>h (i+1) l k j f)
end L2
namespace PySem
namespace F
def lri_no_len:typeLookup (.type "list_reverseiterator") "__len__" = pure none:=by rw[typeLookup_type,builtinLookup_eq_fast];rfl
def slot_lri_hint:Slot "list_reverseiterator" "__length_hint__" "list_reverseiterator.__length_hint__" :=
 .of (by rfl) (by rfl) (by rfl) (by rfl)
  (by first | omega | exact .inr (by rfl)) (by rfl)
def sub_lri_lri:isSubtype (.type "list_reverseiterator") (.type "list_reverseiterator")=pure true:=by rw[isSubtype_type];rfl
end F
section
variable {prog:Oc} {w:Of} {A:Around} {E:Value->Shared->Prop} {s:Shared}
def ZmG (a:s.heap.IsRevIter d l (items.size-1)) (f:s.heap.IsList l items) (e:items.size<=sizeLine)
  (h:∀ b tk,Q b {s with toks:=tk}):Oe (Od prog w) A (Builtin.List.listLengthHint (.ref d)) Q E s:=by
 have g:=Oj;refine Oa (Gc a.typeIs F.lri_no_len (Oa (Gc a.typeIs F.slot_lri_hint.lookup ?_)));have c:splitId "list_reverseiterator.__length_hint__" = some ("list_reverseiterator","__length_hint__"):=by rfl
 try dsimp only
 refine Oa (OX a.typeIs F.sub_lri_lri ?_);rw[if_neg (by decide)];exact Ob (h _ s.toks)
section
variable {R:Gz->Shared->Prop}
def Zie (hh:A.handled=none) (hx:items.size<=sizeLine) (S) (c₀) (hit:s.heap.IsRevIter I l (items.size-1)) (hl:s.heap.IsList l items) (hlI:l≠I) (hSI:S≠I) (hSl:S≠l)
  (hS:s.heap.get? S=some {cls:=.type "list",data:=.seq #[] c₀})
  (hR:∀ h' tk acc' c',(∀ b o,b≠S->b≠I->s.heap.get? b=some o->h'.get? b=some o)->h'.get? S=some {cls:=.type "list",dict:=none,data:=.seq acc' c',slots:=#[]} ->
   ItemsOf (fun i v=>items[items.size-1-i]?=some v) acc' items.size->R (.ok (.ret .none)) {s with heap:=h',toks:=tk}) :
  Oe (Od prog w) A.in1 (Builtin.List.listExtendWith (.ref S) (.ref I) .none)
   (fun fin s'=>match fin with | .done f=>R (.ok f) s' | .again c'=>c'.quiet=true/\Oy (Od prog w) A c' R s') (fun e s'=>R (.error e) s') s:=by
 have hSf:S∉[I,l]:=fun hm=>by
  simp_all
 refine Oa (wpAny_typeOf hit.typeIs ?_);have h1:Builtin.List.listSameRef (.ref S) (.ref I)=false:=by simp[Builtin.List.listSameRef,hSI]
 have h2:(Value.type "list_reverseiterator" == Value.type "list")=false:=by decide
 have h3:(Value.type "list_reverseiterator" == Value.type "tuple")=false:=by decide
 simp only[h1,h2,h3,RS,WX,if_false];refine Oa (wpAny_pyIter_revIter hit (Oa (Op (ZmG hit hl hx fun b tk=>?_))));have st0:∀ h':Heap,(∀ b o,b≠S->s.heap.get? b=some o->h'.get? b=some o)->(0<=items.size/\h'.IsRevIter I l ((items.size:Int)-1-((0:Nat):Int))/\h'.IsList l items):=fun h' hk=>⟨QT _,by
  have:=hit.at (h':=h') fun o e=>hk I o (Ne.symm hSI) e;have e:(items.size:Int)-1-((0:Nat):Int)=(items.size:Int)-1:=Ku
  rw[e];omega,hl.at fun o e=>hk l o (Ne.symm hSl) e⟩
 have fin:∀ (h₁:Heap) (c₁:Nat),(∀ b o,b≠S->s.heap.get? b=some o->h₁.get? b=some o)->h₁.get? S=some {cls:=.type "list",data:=.seq #[] c₁} ->
   Oy (Od prog w) A (.builtin "list.extend.loop" ⟨[.ref S,.ref I,.none],[]⟩) R {s with heap:=h₁,toks:=tk}:=fun h₁ c₁ hk hS₁=>by
  refine codeAny_extend_loopS ((Walks.listRev (prog:=prog) (w:=w) (A:=A.in1) hh I l hlI items).toS) hx _ hSf _ items.size 0 _ _ _ rfl (QT _) (st0 h₁ hk) hS₁ (ItemsOf.nil _) fun s' acc' c' hm hS' hacc=>?_;rw[Moved.eq_with hm];exact hR s'.heap s'.toks acc' c' (fun b ob hb hbI e=>hm.heap b ob (fun hmem=>by simp_all) (hk b ob hb e)) hS' hacc
 split
 refine Oa (Gy (Oa (Oa (O1 hS rfl ?_))));have hS₂:=WA (Obj.mapSeq (·.push Value.none)) hS rfl;refine O1 (hz:=by seq_fits) hS₂ rfl ?_;have hS₃:=WA (Obj.mapSeq (·.pop)) hS₂ rfl;exact Ob ⟨ON F.plain_extend_loop _,fin _ _ (fun b o hb e=>(Q5 _ _ (Ne.symm hb)).trans ((Q5 _ _ (Ne.symm hb)).trans e)) hS₃⟩
 exact Ob ⟨ON F.plain_extend_loop _,fin _ _ (fun b o hb e=>e) hS⟩
def Zc2 (hh:A.handled=none) (z:items.size<=sizeLine) (S) (x:s.heap.IsRevIter I l (items.size-1)) (hl:s.heap.IsList l items) (p:l≠I) (h:S≠I) (k:S≠l)
  (q:s.heap.get? S=some {cls:=.type "list",data:=.seq #[]})
  (hR:∀ h' tk a g,(∀ b o,b≠S->b≠I->s.heap.get? b=some o->h'.get? b=some o)->h'.get? S=some {cls:=.type "list",dict:=none,data:=.seq a g,slots:=#[]} ->
   ItemsOf (fun i v=>items[items.size-1-i]?=some v) a items.size->R (.ok (.ret .none)) {s with heap:=h',toks:=tk}) :
  Oe (Od prog w) A.in1 (Builtin.«list.__init__» ⟨[.ref S,.ref I],[]⟩)
   (fun u n=>match u with | .done f=>R (.ok f) n | .again g=>g.quiet=true/\Oy (Od prog w) A g R n) (fun e n=>R (.error e) n) s:=by
 refine Oa (Oa (wpAny_seqItems q rfl (Ob (Oa (O1 q rfl ?_)))));have c:=WA (Obj.mapSeq (fun _=>(#[]))) q rfl;have d:∀ b o,b≠S->s.heap.get? b=some o->(s.heap.update S (Obj.mapSeq (fun _=>(#[])))).get? b=some o :=
  fun b o m e=>(Q5 _ _ (Ne.symm m)).trans e
 exact Oa (wpAny_letGo (Zie hh z S _ (x.at fun o e=>d I o (Ne.symm h) e) (hl.at fun o e=>d l o (Ne.symm k) e) p h k c fun h' tk a g B t j=>hR h' tk a g (fun b o m r e=>B b o m r (d b o m e)) t j))
end
def Zdq (y:A.handled=none) (B:items.size<=sizeLine) (f:s.heap.IsRevIter I l (items.size-1)) (u:s.heap.IsList l items) (k:l≠I)
  (C:∀ h' tk a q,(∀ b o,b≠I->s.heap.get? b=some o->h'.get? b=some o)->h'.get? s.heap.objs.size=some {cls:=.type "list",dict:=none,data:=.seq a q,slots:=#[]} ->
   ItemsOf (fun i v=>items[items.size-1-i]?=some v) a items.size->Q (.ref s.heap.objs.size) {s with heap:=h',toks:=tk}) :
  Oe (Od prog w) A (call (.type "list") [.ref I]) Q E s:=by
 have p:s.heap.objs.size≠I:=fun e=>by
  obtain⟨o,m,_⟩:=f;exact Wo _ (e▸Qw m)
 have r:s.heap.objs.size≠l:=fun e=>by
  obtain⟨o,m,_⟩:=u;exact Wo _ (e▸Qw m)
 refine callType_codes (Q₁:=fun g c=>g= .ref s.heap.objs.size/\c={s with heap:=s.heap.push _}) F.called_list (F.typeCall_list_1 _) F.entry_list_init
  (code_list_new _ ⟨rfl,rfl⟩) fun g c d=>?_
 obtain⟨rfl,rfl⟩:=d;have x:(s.heap.push {cls:=.type "list",data:=.seq #[]}).get? s.heap.objs.size=some _:=Qs _ rfl;exact ⟨⟨_,x,rfl⟩,F.args_list_init_2 _ _,Zc2 (A:=A.in1) y B _ (f.at fun o e=>Qi _ e) (u.at fun o e=>Qi _ e) k p r x fun h' tk a q z n h=>⟨rfl,C h' tk a q (fun b o j e=>z b o (QJ (Qw e)) j (Qi _ e)) n h⟩⟩
end
end PySem
namespace L2
open PySem PySem.Spec PyProof.Rows
def Ztj (K:PySem.W.Frag) (te:TE):TE:=fun σ H Q=>te σ H fun x H1=>∃ a xs,x= .ref a/\SqL K H1 a xs/\∀ p,H1 p=none->Q (.ref p) (upd H1 p (.lst xs.reverse))
def Zfu {p1 p2 pos1 pos2} (hc:X.calm=true) (hgl:Gl X "list") (hml:X.mg "list" = none) (hgr:Gl X "reversed") (hmr:X.mg "reversed" = none) (he:PE X e te)
  (hs1:Og [.Call (.Name "reversed" p2) [e] [] pos2] X.env=[(false,eval (.Call (.Name "reversed" p2) [e] [] pos2) X.env)]:=by rfl) (hs2:Og [e] X.env=[(false,eval e X.env)]:=by rfl) :
  PE X (.Call (.Name "list" p1) [.Call (.Name "reversed" p2) [e] [] pos2] [] pos1) (Ztj X.K te):=by
 intro pins s σ H Q I h;refine Oz (JM I hgl hml ZbA (PyProof.Rows.callWith_type1 (Calls.spliced_cons (Oz (JM I hgr hmr Zii ?_ (by decide) (by decide)))) hs1 rfl) (by decide) (by decide));refine PyProof.Rows.callWith_type1 ?_ hs2 rfl;rw[hs2];refine Calls.spliced_cons (thn (he pins s σ H _ I h) fun u s1 ⟨x,H1,I1,r1,q1⟩=>Calls.spliced_nil ?_);obtain⟨a,xs,rfl,hx,q⟩:=q1;cases r1;obtain⟨its,rv,pl,_⟩:=I1.list hx;have hl:=rv.length;have hlt:a<s1.heap.objs.size:=by
  obtain⟨o,n,e,_⟩:=pl;exact Qw e
 refine call_reversed_list pl.isList (Calls.spliced_nil (Zdq (items:=its.toArray) (l:=a) (I:=s1.heap.objs.size) (I.ok.hd hc) (by rw[Qu];omega) ⟨_,Qs _ rfl,rfl,rfl⟩ (pl.isList.push _) (QJ hlt) fun h' tk acc c hk hS hacc=>?_));have hsz:(s1.heap.push (revObj a ((its.toArray.size:Int)-1))).objs.size=s1.heap.objs.size+1:=WN ..;rw[hsz]at hS ⊢;refine ⟨.ref (s1.heap.objs.size+1),_,I1.laid (h':=h') (t':=tk) (o:=.lst xs.reverse) (fun b u e=>hk b u (QJ (Qw e)) (Qi _ e)) (Uj _) ⟨by rw[WG];omega,acc.toList,c,?_,by omega⟩,rfl,q _ (I1.hok.fresh (Uj _))⟩;have es:its.toArray.size=its.length:=Qu ..;have hal:acc.toList.length=xs.length:=by exact hacc.1.trans (es.trans hl.symm)
 refine Zor _ _ (by rw[WG,hal]) fun i w u e1 e2=>?_;have hi:i<xs.length:=by
  have:=(Qo.mp e1).1;rw[WG]at this;omega
 have h3:=hacc.2 i u (by simp_all);rw[List.getElem?_reverse hi]at e1;obtain⟨_⟩:=rv.get e1
 simp_all
end L2
set_option maxRecDepth 4000
namespace L2
open PySem PySem.Spec PyProof.Rows
noncomputable def eqS (y:Str):Value->Bool
 | .str z _=>z==y
 | _=>false
def Zjz {a:List Value} (e:s.heap.get? l=some {cls:=.type "list",dict:=none,data:=.seq a.toArray n,slots:=#[]})
  (c:∀ u∈a.toArray,MeetsSeq.EqGives u (.str y t) (eqS y u)) (f) (d:eqS y a.toArray[j]=true) (g:∀ (m) (i),m<j->eqS y a.toArray[m]=false) (b:a.toArray.size<=sizeLine)
  (h:Q .none {s with heap:=s.heap.update l (Obj.mapSeq fun xs=>xs.eraseIdxIfInBounds j),toks:=s.toks}) :
  Oe (Od prog w) A (call (.builtin "list.remove") [.ref l,.str y t]) Q E s :=
 Ow F.slot_list_remove ⟨_,e,rfl⟩ F.entry_list_remove (F.args_list_remove_2 _ _) (MeetsSeq.list_remove l a.toArray n _ _ c j f d g b) ⟨e,h⟩
def Zo3:V->List V->Hp->VK->Prop:=fun x vs H Q=>∃ (l:Addr) (xs:List Str) (y:Str) (j:Nat),x= .ref l/\vs=[.str y]/\H l=some (.lst (xs.map V.str))/\xs[j]?=some y/\(∀ i,i<j->xs[i]?≠some y)/\Q .non (upd H l (.lst ((xs.eraseIdx j).map V.str)))
def Zbh:MtR X "list.remove" Zo3:=by
 intro k s σ H x W v S Q I G L h;refine Ps h fun l b y j r0 r1 E D p q=>?_;subst r0;subst r1;cases G;obtain⟨T,rfl,K⟩:=YL L;obtain⟨t,rfl⟩:=K;refine Pq (I.lstM E) fun z a n r P e=>?_;have i:=r.length;rw[Qc]at i P z;have d:∀ (m:Nat) (o:m<a.length),∃ g,a[m]= .str (b.getD m "") g:=fun m o=>by
  have M:m<b.length:=Kz o P
  have R:(b.map V.str)[m]?=some (V.str b[m]):=by simp
  obtain⟨g,f⟩:=Zos r R (Qa o);exact⟨g,by rw[f,Qb,Qa M];rfl⟩
 have N:j<b.length:=(Qo.mp D).1;have B:j<a.toArray.size:=by rw[Qu];exact V6 P N
 have J:=I.lset (its':=a.eraseIdx j) (f:=fun b:Array Value=>b.eraseIdxIfInBounds j) (t':=s.toks) (ys:=(b.eraseIdx j).map V.str) E e (by
  simp) (by have:=r.eraseIdx j;rw[Wn]at this;rw[Wn b,QM,UH,UW];omega) (by rw[Qc];have:=Zbk b j;exact Tp z this)
 have C:EP X k σ Q .none _:=⟨.non,_,J,rfl,q⟩
 refine Zjz (y:=y) (t:=t) (j:=j) e ?_ B ?_ ?_ (by rw[Qu];exact Ka z P) C
 intro u U;obtain⟨m,o,F⟩:=U2.mp (by simp_all:u∈a);obtain⟨g,f⟩:=d m o;rw[←F,f];exact eqGives_str _ _ _ _
 show eqS y a[j]=true;obtain⟨g,f⟩:=d j (V6 P N);rw[f];show(b.getD j "" == y)=true;rw[Qb,D];simp
 intro m o A;have w:m<a.length:=by omega
 show eqS y a[m]=false;obtain⟨g,f⟩:=d m w;rw[f];show(b.getD m "" == y)=false;have:=p m A;rw[Ug];intro c
 simp_all
def Zlc (t:X.calm=true):CallR X (.builtin "sum") (fun xs H Q=>∃ (a:Addr) (ns:List Int),xs=[.ref a]/\SqL X.K H a (ns.map V.int)/\Q (.int ns.sum) H):=by
 intro m s σ H xs F Q I r h;obtain⟨a,ns,rfl,y,q⟩:=h;obtain⟨u,rfl,rfl⟩:=YL r;obtain⟨c,g,f,_⟩:=I.list y;have w:=g.length;rw[Qc]at w;have d:a<s.heap.objs.size:=by
  obtain⟨o,n,e,_⟩:=f;exact Qw e
 refine call_sum_walkG (OR f.isList ⟨_,_,_,_,_,_,fun i=>ns.getD i 0,rfl,Walks.list (A:=X.A.in1) (I.ok.hd t) _ _ (QJ d) c.toArray,
  ⟨⟨_,Qs _ rfl,rfl,rfl⟩,f.isList.push _⟩,?_,?_,?_⟩)
 intro b j;rw[WN];have:b=s.heap.objs.size\/b=a:=by simp_all
 rcases this with z | z
 rw[z];simp;exact z▸Uf d;intro i v E;have l:c[i]?=some v:=by simp_all
 have C:=(Qo.mp l).1;have j:(ns.map V.int)[i]?=some (.int (ns.getD i 0)):=by
  rw[Qh,Qb];cases e:ns[i]? with
  | none=>exact absurd (Wy.mp e) (Ke w C)
  | some b=>rfl
 obtain⟨D,k,_⟩:=g.get j;rw[l]at k;cases k
 trivial
 intro B A x p;refine⟨.int ns.sum,H,I.kept fun b o e=>p b o (by simpa using QJ (Qw e)) (Qi _ e),⟨x,?_⟩,q⟩;rw[YU,QP (by rw[Qu];exact Kf w)]
def ZpE {lo} (n) (d) (R:Nat->V->Prop) (I:Nat->Hp->Prop) (Y:n<=sizeLine) (N:l d≠none) (M:I 0 l) (F:∀ i H D o,D≠d->I i H->I i (upd H D o))
  (step:∀ i H (G),i<n->(∀ b u,b≠d->l b=some u->H b=some u)->I i H->(∀ v s,(∀ b u,b≠d->H b=some u->s b=some u)->I (i+1) s->R i v->G v s)->g (.int (lo+i)) (lcS k U σ) H fun w P=>O w P G)
  (q:∀ D vs r,vs.length=n->(∀ (i) (v),vs[i]?=some v->R i v)->(∀ b u,b≠d->l b=some u->r b=some u)->I n r->l D=none->r D=some (.lst vs)->Q (.ref D) r):Xt k U σ g Znk O (Itr lo n) l Q:=by
 intro D t;have c:D≠d:=fun z=>N (z▸t);refine⟨fun i m a H=>m=n-i/\i<=n/\a.length=i/\(∀ b u,b≠d->l b=some u->H b=some u)/\I i H/\H D=some (.lst a)/\∀ (j:Nat) (v:V),a[j]?=some v->R j v,⟨n,by simp,QT _,rfl,fun b u _ e=>by rw[Zj (Zl e t)];omega,F _ _ _ _ c M,Ze,fun j v e=>by simp_all⟩,?_⟩;rintro i m a H ⟨rfl,Z,B,A,E,p,C⟩;by_cases f:i<n
 refine .inr ⟨f,fun x S y=>?_⟩;obtain⟨T,W⟩:=y;subst T W;refine step i S _ f A E fun v s K L X=>⟨K _ _ c p,Mm Y f B,n-(i+1),T3 f,rfl,f,by rw[Qm,B];rfl,fun b u J e=>?_,F _ _ _ _ c L,Ze,fun j u e=>?_⟩
 exact Zj (Zl e t)▸K _ _ J (A b u J e)
 rcases Ue j a.length with h | h | h
 rw[QS h]at e;exact C j u e
 subst h;rw[QY (Ql _),WW]at e;cases e;rw[B]
 grind
 rw[Qj (by rw[Qm,QD];exact h)]at e;cases e
 have:i=n:=T5 Z f
 subst this;exact .inl ⟨Ql _,q D a H B C A E t p⟩
def Zih:CallR X (.builtin "len") (fun xs H Q=>∃ (p:Addr) (ks:List Str),xs=[.ref p]/\H p=some (stO X p ks)/\ks.length<=1000/\Q (.int ks.length) H):=by
 intro a s σ H xs f Q I r h;obtain⟨p,ks,rfl,d,c,q⟩:=h;obtain⟨u,rfl,rfl⟩:=YL r;obtain⟨⟨o,g,e,t,T⟩,_⟩:=(I.hok p _ d)
 have b:=T.len;refine call_len_set T.ob T.ex T.dt T.fits (by lia) ⟨.int ks.length,H,I.tok _,⟨s.toks+1,?_⟩,q⟩;rw[b]
end L2
namespace Tim
open PySem PySem.W PyProof.Rows
structure SortA (prog:Oc) (w:Of) (h1:Heap) (vs:List Value) (lt:Nat->Nat->Bool) (κ:Ga):Prop where
 kd:∀ (A:Around) (E:Value->Shared->Prop) (s:Shared) (Q:Ga->Shared->Prop),(∀ b o,h1.get? b=some o->s.heap.get? b=some o)->2<=vs.length->Q κ s->Oe (Od prog w) A (keyKind' vs.toArray) Q E s
 ask:∀ (A:Around) (s:Shared) (i j:Nat) (x y:Value) (C:Bool->Shared->Prop),(∀ b o,h1.get? b=some o->s.heap.get? b=some o)->vs[i]?=some x->vs[j]?=some y->(∀ tk,C (lt i j) {s with toks:=tk})->Oe (Od prog w) A (keyLt' κ x y) C (fun _ _=>False) s
section
variable {prog:Oc} {w:Of} {A:Around} {E:Value->Shared->Prop} {s:Shared}
def list_sortS {vs:List Value} (ho:s.heap.get? a=some (OP "list" vs.toArray n)) (h64:vs.length<64) (o:Srt.Ord vs.length lt)
  (kd:∀ (h6) (Q),(∀ b o,b≠a->s.heap.get? b=some o->h6.get? b=some o)->2<=vs.length->Q κ {s with heap:=h6}->Oe (Od prog w) A (keyKind' vs.toArray) Q E {s with heap:=h6})
  (ask:∀ (h6) (tk i j) (x y) (C),(∀ b o,b≠a->s.heap.get? b=some o->h6.get? b=some o)->vs[i]?=some x->vs[j]?=some y->(∀ tk,C (lt i j) {s with heap:=h6,toks:=tk})->Oe (Od prog w) A (keyLt' κ x y) C (fun _ _=>False) {s with heap:=h6,toks:=tk})
  (h:∀ (h1) (tk c) (p),Srt.Pm vs.length p->(∀ i j,i<j->j<vs.length->lt (p.getD j 0) (p.getD i 0)=false)->(∀ b o,b≠a->s.heap.get? b=some o->h1.get? b=some o) ->
   h1.get? a=some (OP "list" (p.toList.map fun i=>vs.getD i Value.none).toArray c)->P (.done (.ret .none)) {s with heap:=h1,toks:=tk}) :
  Oe (Od prog w) A (Builtin.«list.sort» ⟨[.ref a],[]⟩) P E s:=by
 have ha:a<s.heap.objs.size:=Qw ho;have hz:vs.length<=sizeLine:=by rw[Oj];exact Kq h64
 rw[list_sort_plain];refine Oa (listItems_at ho rfl (Oa (OY ho rfl ?_ (by omega) (QT _))));obtain⟨e1,ho1⟩:∃ e1,(s.heap.update a (Obj.mapSeq fun _=>(#[]:Array Value))).get? a=some (OP "list" #[] e1):=⟨_,get?_update_seq ho fun _=>#[]⟩
 have k1:∀ b o,b≠a->s.heap.get? b=some o->(s.heap.update a (Obj.mapSeq fun _=>(#[]:Array Value))).get? b=some o:=fun b o hb q=>(Q5 _ _ (Ne.symm hb)).trans q;refine Oa (O6 ho1 rfl (Oa (wpAny_newTuple ?_ (by omega))));refine Oa (O8 ?_ (QT _));refine Op ?_;generalize hg:((s.heap.update a (Obj.mapSeq fun _=>(#[]:Array Value))).push {cls:=.type "tuple",data:=.seq vs.toArray.toList.toArray}).push {cls:=.type "list",data:=.seq ([]:List Value).toArray}=h6;have k6:∀ b o,b≠a->s.heap.get? b=some o->h6.get? b=some o:=fun b o hb q=>by
  rw[←hg];exact Qi _ (Qi _ (k1 b o hb q))
 have ho6:h6.get? a=some (OP "list" #[] e1):=by
  rw[←hg];exact Qi _ (Qi _ ho1)
 show Oe (Od prog w) A _ P E {s with heap:=h6};dsimp only;have fin:∀ (tk:Nat) (p:Array Nat) (out:Array Value),Srt.Pm vs.length p->(∀ i j,i<j->j<vs.length->lt (p.getD j 0) (p.getD i 0)=false)->out=(p.toList.map fun i=>vs.getD i Value.none).toArray ->
   ∃ c,(h6.update a (Obj.mapSeq fun _=>out)).get? a=some (OP "list" out c)/\out.size<=sizeLine/\P (.done (.ret .none)) {s with heap:=h6.update a (Obj.mapSeq fun _=>out),toks:=tk}:=fun tk p out hp hu ho'=>by
  have hc:=get?_update_seq ho6 fun _=>out;refine⟨_,hc,?_,h _ tk _ p hp hu (fun b o hb q=>(Q5 _ _ (Ne.symm hb)).trans (k6 b o hb q)) (by rw[←ho'];omega)⟩;rw[ho',Qu,Qc,QL,hp.size];exact hz
 have hr:vs=(Qz vs.length).map fun i=>vs.getD i Value.none:=by
  apply QI;intro i;simp only[Qh];by_cases hi:i<vs.length
  ·rw[Qa hi,Q6 hi,We,Qb,Qa hi];rfl
  ·rw[Qj (G7 hi),Qj (by simp;exact G7 hi)];rfl
 by_cases h2:vs.toArray.size<2
 ·rw[if_pos h2,if_pos h2];rw[Qu]at h2;refine Pf (fin s.toks (Qz vs.length).toArray vs.toArray ⟨by simp,Array.Perm.refl _⟩ (fun a b hab hb=>by omega) (congrArg List.toArray hr)) fun c f1 f2 f3=>?_;refine Oa (Ob ?_);rw[StateT.run_pure];refine Oa (Ob ?_);have eo:(arrOf (SortSt.mk' general' (vs.toArray.zip vs.toArray) #[] 7 none)).map (·.2)=vs.toArray:=by
   show(vs.toArray.zip vs.toArray).map (·.2)=vs.toArray;apply Vg.mp;simp;exact Vh (Ql _)
  dsimp only;rw[eo];refine Oa (O6 ho6 rfl (Oa (OY ho6 rfl ?_ (QT _) (Ur f2))));simp only[bne_self_eq_false,WX,if_false];exact Ob f3
 ·rw[if_neg h2,if_neg h2];rw[Qu]at h2;refine Oa (kd h6 _ k6 (G7 h2) ?_);refine Oa (Ol (kat_run (κ:=κ) (ks:=vs) (vs:=vs) (G:=fun p s'=>(∃ tk,s'={s with heap:=h6,toks:=tk})/\Srt.Pm vs.length p/\Srt.Up lt p vs.length)
   (Q:=fun st' s'=>∃ p:Array Nat,arrOf st'=p.map (kas_item (vs.toArray.zip vs.toArray))/\failedOf st'=none/\(∃ tk,s'={s with heap:=h6,toks:=tk})/\Srt.Pm vs.length p/\Srt.Up lt p vs.length)
   rfl (G7 h2) h64 (fun p st' s' _ a2 a3 a4=>⟨p,a2,a3,a4⟩) ?_) ?_ fun _ _ e=>e)
  ·refine Srt.sort (G:=fun s'=>∃ tk,s'={s with heap:=h6,toks:=tk}) o (fun i j C s' hi hj hij g k=>?_) (by lia) ⟨s.toks,rfl⟩ fun p s' hp hu g=>⟨g,hp,hu⟩
   obtain⟨tk,rfl⟩:=g;show Oe (Od prog w) A (keyLt' κ (vs.getD i Value.none) (vs.getD j Value.none)) C (fun _ _=>False) {s with heap:=h6,toks:=tk};refine ask h6 tk i j _ _ C k6 ?_ ?_ fun tk2=>k _ ⟨tk2,rfl⟩
   ·rw[Qb,Qa hi];rfl
   ·rw[Qb,Qa hj];rfl
  ·rintro⟨⟨⟩,st'⟩ s' ⟨p,har,hf',⟨tk,rfl⟩,hp,hu⟩;refine Pf (fin tk p _ hp (fun i j hij hj=>o.asy _ _ (hu i j hij hj)) rfl) fun c f1 f2 f3=>?_;dsimp only;rw[kat_snds rfl har];refine Oa (O6 (s:={s with heap:=h6,toks:=tk}) ho6 rfl (Oa (OY (s:={s with heap:=h6,toks:=tk}) ho6 rfl ?_ (QT _) (Ur f2))));rw[hf'];simp only[bne_self_eq_false,WX,if_false];exact Ob f3
def sorted_allS {Pc:Heap->List Value->Prop}
  (col:∀ (R),(∀ a tk vs,(∀ b o,s.heap.get? b=some o->a.get? b=some o)->Pc a vs->R vs {s with heap:=a,toks:=tk})->Oe (Od prog w) A.in1 (collect (.ref r)) R E s)
  (v:∀ a vs,(∀ b o,s.heap.get? b=some o->a.get? b=some o)->Pc a vs->vs.length<64/\Srt.Ord vs.length lt/\SortA prog w a vs lt κ)
  (B:∀ a vs f tk c p,Pc a vs->(∀ b o,s.heap.get? b=some o->f.get? b=some o)->(∀ b o,a.get? b=some o->f.get? b=some o)->(∀ b o,s.heap.get? b=some o->a.get? b=some o)->Srt.Pm vs.length p->(∀ i j,i<j->j<vs.length->lt (p.getD j 0) (p.getD i 0)=false) ->
   f.get? a.objs.size=some (OP "list" (p.toList.map fun i=>vs.getD i Value.none).toArray c)->s.heap.get? a.objs.size=none->Q (.ref a.objs.size) {s with heap:=f,toks:=tk}) :
  Oe (Od prog w) A (call (.builtin "sorted") [.ref r]) Q E s:=by
 refine Calls.call_function_entry kind_sorted plain_sorted entry_sorted (args_sorted1 _) (Oa (Ob (Oa (col _ fun a tk vs m G=>?_))));obtain⟨t,O,S⟩:=v a vs m G;have L:vs.length<=sizeLine:=by rw[Oj];exact Kq t
 refine Oa (O8 ?_ L);have F:(a.push _).get? a.objs.size=some (OP "list" vs.toArray 0):=Qs _ rfl;refine Oa (Op (Oo slot_list_sort ⟨_,F,rfl⟩ entry_list_sort ?H (args_list_sort _)));have l:∀ {n:Heap},(∀ b o,b≠a.objs.size->(a.push {cls:=.type "list",data:=.seq vs.toArray}).get? b=some o->n.get? b=some o)->∀ b o,a.get? b=some o->n.get? b=some o:=fun k b o e=>k b o (QJ (Qw e)) (Qi _ e);refine list_sortS F t O (fun n Q k P q=>S.kd _ _ _ _ (l k) P q) (fun n N i j x y C k I K q=>S.ask _ _ i j x y C (l k) I K fun z=>q z)
  fun f D c p T J d M=>⟨_,rfl,Ob ⟨_,rfl,B a vs f D c p G (fun b o e=>l d b o (m b o e)) (l d) m T J M ?_⟩⟩;cases e:s.heap.get? a.objs.size with
 | none=>rfl
 | some u=>exact absurd (Qw (m _ _ e)) (Wo _)
def sa_strsS (a:O4 vs xs):SortA prog w e vs (ltS xs) oneType' where
 kd:=fun A E s Q _ c q=>by
  match vs,a,c with
  | f::k::vs,a,_ =>
   exact keyKind_strs a▸Ob q
 ask:=fun A s i j x y C _ d b q=>by
  obtain⟨h,rfl,_⟩:=strs_at a i _ d;obtain⟨g,rfl,_⟩:=strs_at a j _ b;exact kas_lt_str (q s.toks)
end
end Tim
namespace L2
open PySem PySem.Spec PyProof.Rows PySem.W
def XM (hc:X.calm=true):CallR X (.builtin "sorted") (fun xs H Q=>∃ (p:Addr) (ks:List Str),xs=[.ref p]/\H p=some (stO X p ks)/\ks.length<64 /\
  ∀ (q) (ss:List Str),H q=none->ss.Perm ks->(ss.map fun x=>x.cps.toList).Pairwise (· < ·)->Q (.ref q) (upd H q (.lst (ss.map V.str)))):=by
 intro pins s σ H xs us Q I r h;obtain⟨p,ks,rfl,hp,h64,q⟩:=h;have h1k:ks.length<=1000:=Nb h64
 obtain⟨u,rfl,rfl⟩:=YL r;obtain⟨⟨o,es,ep,t,T⟩,_⟩:=(show SetT X.prog X.w s.heap p ks/\_ from I.hok p _ hp)
 refine Calls.call_function_entry kind_sorted plain_sorted entry_sorted (args_sorted1 _) ?_;unfold Builtin.«sorted»;refine Oa (m:=checkCount "sorted" 1 1 _) (Ob (Oa (Zf5 (A:=X.A.in1) (I.ok.hd hc) T h1k fun g tk d acc ord hpm kk hacc=>?_)));obtain⟨f,n,hS⟩:=Zjf T hpm hacc;have hl:=Tim.strs_len hS;have hyl:=n.length_eq;generalize acc.toList=m at hS hl;have SA:Tim.SortA X.prog X.w g m (Tim.ltS f) oneType':=Tim.sa_strsS hS;have O:Srt.Ord m.length (Tim.ltS f):=by exact hl▸ZfV (n.nodup_iff.mpr T.nd)
 refine Oa (O8 ?_ (ZbY (by omega)));have hB:(g.push {cls:=.type "list",data:=.seq m.toArray}).get? g.objs.size=some (OP "list" m.toArray 0):=Qs _ rfl;have k1:∀ {h6:Heap},(∀ b o,b≠g.objs.size->(g.push {cls:=.type "list",data:=.seq m.toArray}).get? b=some o->h6.get? b=some o)->∀ b o,g.get? b=some o->h6.get? b=some o:=fun k b o e=>k b o (QJ (Qw e)) (Qi _ e);refine Oa (Op (Oo slot_list_sort ⟨_,hB,rfl⟩ entry_list_sort ?_ (args_list_sort _)));refine Tim.list_sortS (s:={s with heap:=g.push {cls:=.type "list",data:=.seq m.toArray},toks:=tk,drawn:=d}) hB (by omega) O (fun h6 Q k h2 q=>SA.kd _ _ _ _ (k1 k) h2 q) (fun h6 tk' i j x y C k e1 e2 q=>SA.ask _ _ i j x y C (k1 k) e1 e2 fun tk2=>q tk2)
  fun h3 tk3 c v hpm3 hs3 w hD=>⟨_,rfl,Ob ⟨_,rfl,?_⟩⟩
 have a:Srt.Pm f.length v:=by rw[←hl];omega
 have hN:s.heap.get? g.objs.size=none:=by
  cases e:s.heap.get? g.objs.size with
  | none=>rfl
  | some u=>exact absurd (Qw (kk _ _ e)) (Wo _)
 have hmem:∀ i∈v.toList,i<f.length:=fun i A=>by
  have:i∈v:=by simpa using A
  have:=a.perm.mem_iff.mp this;simpa using this
 have vv:∀ l:List Nat,(∀ i∈l,i<f.length)->Vals ((l.map fun i=>f.getD i "").map V.str) (l.map fun i=>m.getD i Value.none):=by
  intro l;induction l with
  | nil=>intro _;exact .nil
  | cons i l ih =>
   intro hh;have A:i<m.length:=by have:=hh i (Qd ..);exact Kz this hl
   obtain⟨t,e,_⟩:=Tim.strs_at hS i _ (Qa A);refine .cons ?_ (ih fun j hj=>hh j (Qg _ hj));show RelV (V.str (f.getD i "")) (m.getD i Value.none);rw[Qb (l:=m),Qa A];exact⟨t,e⟩
 obtain⟨hn,I2⟩:=Zj0 (tk:=tk3) (vs:=(v.toList.map fun i=>f.getD i "").map V.str) (I.drw d) (fun b u e=>k1 w b u (kk b u e)) hN (by rw[Qc,Qc,QL,a.size];exact ZbY (by omega)) ⟨_,c,vv v.toList hmem,hD⟩;refine⟨.ref g.objs.size,_,I2,rfl,q _ _ hn ((Zb4 f v a).trans n) ?_⟩;have nd:f.Nodup:=n.nodup_iff.mpr T.nd;rw[QN,Wl,Uh];intro i j A hj hij;have hz2:v.toList.length=f.length:=by rw[QL,a.size]
 have hu:=(Zsq (n:=f.length) rfl nd a (by rw[←hl];omega)) i j hij (V6 hz2 hj);unfold ltX at hu;rw[decide_eq_true_eq,Zma a A,Zma a hj]at hu
 grind
def ZbP (hc:X.calm=true):CallR X (.builtin "sorted") (fun xs H Q=>∃ (d:Addr) (ks:List Str) (g:Str->V),xs=[.ref d]/\H d=some (.dK (ks.map fun x=>((Sum.inr x),g x)))/\ks.Nodup/\ks.length<64 /\
  ∀ (p) (ss':List Str),H p=none->ss'.Perm ks->(ss'.map fun x=>x.cps.toList).Pairwise (·<=·)->Q (.ref p) (upd H p (.lst (ss'.map V.str)))):=by
 intro pins s σ H xs us Q I r h;obtain⟨d,ks,g,rfl,hd,nd,h64,q⟩:=h;have h1k:ks.length<=1000:=Nb h64
 obtain⟨u,rfl,rfl⟩:=YL r;obtain⟨hz,lo,vs',kv,dd⟩:=Zbv I.hok hd;obtain⟨ep,hat⟩:=dd.dictAt;have hlen:ks.length=vs'.length:=by have:=kv.length;simp_all
 have toS:∀ (n:Nat) (a:List Value) (xs:List Str),a.length=xs.length->(∀ (i:Nat) (v:Value),a[i]?=some v->∃ t,v= .str (xs.getD i "") t)->O4 a xs:=by
  intro n a;induction a with
  | nil =>
   intro xs e _;match xs,e with
   | [],_=>exact .nil
  | cons v a ih =>
   intro xs e hh;match xs,e with
   | x::xs,e =>
    obtain⟨t,rfl⟩:=hh 0 v rfl;exact .cons x t (ih xs (by simp_all) fun i u z=>by
     obtain⟨t,e⟩:=hh (i+1) u (by simp_all);exact⟨t,e⟩)
 refine Tim.sorted_allS (lt:=Tim.ltS ks) (κ:=oneType') (Pc:=fun h1 a=>O4 a ks) (fun R hR=>?_) (fun h1 a hk hP=>?_) fun h1 a h3 tk c p hP hk k1 hk1 hp hs hD hN=>?_
 refine kdu_collect (A:=X.A.in1) (kdl_dict lo) (I.ok.hd hc) hat (ZbY (by lia)) fun h' tk acc hk f=>hR h' tk acc.toList hk (toS 0 _ _ (by rw[QL,f.1,hlen]) fun i v e=>?_);obtain⟨k,x,e1,e2⟩:=f.2 i v (by simp_all);obtain⟨rfl,hi⟩:=ZjW kv i k x e1;rcases keyIs_shape (show Zbm (Sum.inr (ks.getD i "")) v=true from e2)with ⟨j,t,e4,_⟩ | ⟨z,t,e4,e5⟩
 cases e4
 injection e4 with e4
 exact⟨t,by rw[e5,e4]⟩
 have:=Tim.strs_len hP;exact⟨Km h64 this,by exact this▸ZfV nd,Tim.sa_strsS hP⟩
 have hl:=Tim.strs_len hP;have b:Srt.Pm ks.length p:=by exact hl▸hp
 have vv:∀ l:List Nat,(∀ i∈l,i<ks.length)->Vals ((l.map fun i=>ks.getD i "").map V.str) (l.map fun i=>a.getD i Value.none):=by
  intro l;induction l with
  | nil=>intro _;exact .nil
  | cons i l ih =>
   intro hh;have hi:i<a.length:=by have:=hh i (Qd ..);exact Kz this hl
   obtain⟨t,e,_⟩:=Tim.strs_at hP i _ (Qa hi);refine .cons ?_ (ih fun j hj=>hh j (Qg _ hj));show RelV (V.str (ks.getD i "")) (a.getD i Value.none);rw[Qb (l:=a),Qa hi];exact⟨t,e⟩
 have hmem:∀ i∈p.toList,i<ks.length:=fun i hi=>by
  have:i∈p:=by simpa using hi
  have:=b.perm.mem_iff.mp this;simpa using this
 obtain⟨hn,I2⟩:=Zj0 (tk:=tk) (vs:=(p.toList.map fun i=>ks.getD i "").map V.str) I hk hN (by rw[Qc,Qc,QL,b.size];exact ZbY h1k) ⟨_,c,vv p.toList hmem,hD⟩;exact⟨.ref h1.objs.size,_,I2,rfl,q _ _ hn (Zb4 ks p b) (ZqG b (by exact hl▸hs))⟩
open PySem PySem.Spec PyProof.Rows
section
variable {prog:Oc} {w:Of} {A:Around} {E:Value->Shared->Prop} {s:Shared} {a:Addr} {o:Obj} {xs:Array Value} {k:Nat}
end
section
variable {prog:Oc} {w:Of} {Ky:Type} [DecidableEq Ky] {knd:KeyKind prog w Ky} {A:Around} {R:Except Value Flow->Shared->Prop}
end
end L2
namespace Sh
open PySem L2 PyProof.Rows
abbrev Ts:=List (Str×Str)
noncomputable def dl (a b:Str):Int:=if a=b then 1 else 0
def Zdh (a):dl a a=1:=if_pos rfl
def ZrG (a b):0<=dl a b:=by unfold dl;lia
noncomputable def frm (ts:Ts) (i:Nat):Str:=(ts.getD i ("","")).1
noncomputable def tow (ts:Ts) (i:Nat):Str:=(ts.getD i ("","")).2
noncomputable def bal (ts:Ts) (X:List Nat) (p:Str):Int:=(X.map fun i=>dl (frm ts i) p-dl (tow ts i) p).sum
def Zdr (ts) (p):bal ts [] p=0:=rfl
def Ym (ts) (i) (X) (p):bal ts (i::X) p=dl (frm ts i) p-dl (tow ts i) p+bal ts X p:=by
 rfl
def X5 (ts) (X Y) (p):bal ts (X++Y) p=bal ts X p+bal ts Y p:=by
 unfold bal;simp
def ZaO (h:X.Perm Y) (p):bal ts X p=bal ts Y p:=by
 induction h with
 | nil=>rfl
 | cons x _ f=>rw[Ym,Ym,f]
 | swap x y l=>rw[Ym,Ym,Ym,Ym];exact Nt
 | trans _ _ a b=>exact Nu b a
inductive Ch (ts:Ts):Str->List Nat->Str->Prop where
 | nil (u:Str):Ch ts u [] u
 | cons {i:Nat} {X:List Nat} {u v:Str} (e:frm ts i=u) (h:Ch ts (tow ts i) X v):Ch ts u (i::X) v
def Ch.bal (h:Ch ts u X v) (p):bal ts X p=dl u p-dl v p:=by
 induction h with
 | nil u=>rw[Zdr];lia
 | cons e h c=>rw[Ym,e];lia
def Ch.snoc (h:Ch ts u X v) (e:frm ts i=v):Ch ts u (X++[i]) (tow ts i):=by
 induction h with
 | nil u=>exact .cons e (.nil _)
 | cons b h d=>exact .cons b (d e)
def Ch.pop:∀ {X},Ch ts u (X++[i]) v->Ch ts u X (frm ts i)/\v=tow ts i
 | [],h=>by
  cases h with
  | cons e h =>
   cases h;exact⟨e▸.nil _,rfl⟩
 | j::X,h=>by
  cases h with
  | cons e h =>
   obtain⟨a,b⟩:=Ch.pop h;exact⟨.cons e a,b⟩
def Zr1 (ts:Ts) (P y:Str):Prop:=∃ i,i<ts.length/\((frm ts i=P/\tow ts i=y)\/(tow ts i=P/\frm ts i=y))
inductive RchT (ts:Ts) (a:Str):Str->Prop where
 | here:RchT ts a a
 | step {P y:Str} (h:RchT ts a P) (k:Zr1 ts P y):RchT ts a y
def RchT.closed {F:Str->Prop} (d:F a) (c:∀ P,F P->∀ y,Zr1 ts P y->F y) (h:RchT ts a y):F y:=by
 induction h with
 | here=>omega
 | step _ k e=>grind
def Deg (ts:Ts) (b f:Str):Prop:=∀ p,bal ts (Qz ts.length) p=dl b p-dl f p
def Zqf (ts:Ts) (b:Str):Prop:=(∃ f,Deg ts b f)/\∀ i,i<ts.length->RchT ts b (frm ts i)
def Eul (ts:Ts) (b:Str) (X:List Nat):Prop:=X.Perm (Qz ts.length)/\∃ v,Ch ts b X v
def X0 {X Y:List Nat} (a:X.Nodup) (b:Y.Nodup) (h:∀ x,x∈X↔x∈Y):X.Perm Y:=by
 grind
def Zkh {F:List Nat}:∀ {ks:List Nat},F.Nodup->(∀ x∈F,x∈ks)->F.length<=ks.length:=by
 induction F with
 | nil=>simp
 | cons x F i =>
  intro ks h e;have a:=QX.mp h;have d:=e x Qd ..;have:=i a.2 fun y f=>(Ui fun(q:y=x)=>a.1 (q▸f)).mpr (e y (Qg _ f));rw[Wj d]at this;have b:=Wc d;rw[QC];exact Nc b this
def Zpp {F ks:List Nat} (g:F.Nodup) (e:∀ x∈F,x∈ks) (h:F.length=ks.length):∀ x∈ks,x∈F:=by
 intro x c;apply Classical.byContradiction;intro f;have:=Zkh g fun y b=>(Ui fun(q:y=x)=>f (q▸b)).mpr (e y b);rw[Wj c]at this;have a:=Wc c;exact (N6 this a h).elim
structure WI (ts:Ts) (b pt:Str) (r:Str->List Nat) (G B:List Nat):Prop where
 nd:(G++B).Nodup
 lt:∀ i∈G++B,i<ts.length
 rnd:∀ p,(r p).Nodup
 row:∀ p i,i∈r p↔i<ts.length/\frm ts i=p/\i∉G++B
 chG:Ch ts b G pt
 chB:∀ f,Deg ts b f->∃ w,Ch ts w B.reverse f
 stk:∀ i∈B,r (tow ts i)=[]
def WI.start (e:∀ p,(r p).Nodup) (d:∀ p i,i∈r p↔i<ts.length/\frm ts i=p):WI ts b b r [] [] where
 nd:=Wx
 lt:=fun i c=>by grind
 rnd:=e
 row:=fun p i=>by rw[d];simp
 chG:=.nil _
 chB:=fun f _=>⟨f,.nil _⟩
 stk:=fun i c=>by grind
noncomputable def Zlv (r:Str->List Nat) (p:Str) (X:List Nat):Str->List Nat:=fun q=>if q=p then X else r q
def WI.push (h:WI ts b pt r G B) (e:r pt=X++[i]):WI ts b (tow ts i) (Zlv r pt X) (G++[i]) B:=by
 have hi:=(h.row pt i).mp (by simp_all);have hrn:=h.rnd pt;rw[e]at hrn;have hiX:=fun z=>(Wg.mp hrn).2.2 i z i (by simp) rfl;have mm:∀ j,j∈(G++[i])++B↔j∈G++B\/j=i:=fun j=>by
  simp only[QG,Qr];constructor
  ·rintro((z | z) | z)
   ·simp_all
   ·omega
   simp_all
  ·rintro((z | z) | z)
   ·simp_all
   ·simp_all
   omega
 refine⟨?_,fun j hj=>?_,fun p=>?_,fun p j=>?_,h.chG.snoc hi.2.1,h.chB,fun j hj=>?_⟩
 ·have pp:((G++[i])++B).Perm (i::(G++B)):=by
   simp
  exact pp.nodup_iff.mpr (QX.mpr ⟨hi.2.2,h.nd⟩)
 ·rcases(mm j).mp hj with z | z
  ·exact h.lt j z
  omega
 ·unfold Zlv;split
  ·exact(Wg.mp hrn).1
  ·exact h.rnd p
 ·rw[mm];unfold Zlv;by_cases c:p=pt
  ·rw[if_pos c];have hr:=h.row pt j;rw[e,QG]at hr;subst c;constructor
   ·intro z;obtain⟨a1,a2,a3⟩:=hr.mp (.inl z);exact⟨a1,a2,fun q=>q.elim a3 fun w=>hiX (w▸z)⟩
   ·rintro⟨a1,a2,a3⟩
    simp_all
  ·rw[if_neg c,h.row];constructor
   ·rintro⟨a1,a2,a3⟩;refine⟨a1,a2,fun q=>q.elim a3 fun w=>c ?_⟩
    simp_all
   ·rintro⟨a1,a2,a3⟩;exact⟨a1,a2,fun q=>a3 (.inl q)⟩
 ·unfold Zlv;have hs:=h.stk j hj;rw[if_neg fun c=>by simp_all];omega
def WI.stuck (h:WI ts b g r G B) (e:r g=[]) (d:Deg ts b f) (c:Ch ts w B.reverse f):g=w:=by
 have q:(Qz ts.length).Perm (G++B++(Qz ts.length).filter fun i=>decide (i∉G++B)):=by
  refine X0 WM (Wg.mpr ⟨h.nd,WM.filter _,fun a M E N z=>?_⟩) fun x=>?_
  simp_all
  rw[QG,QF,QK];constructor;intro s;by_cases l:x∈G++B
  exact .inl l;exact .inr ⟨s,decide_eq_true l⟩;rintro(z | z);exact h.lt x z;omega
 have o:=d g;rw[ZaO q,X5,X5,h.chG.bal,←ZaO (Us B),c.bal]at o;have F:∀ L,(∀ i∈L,frm ts i≠g)->bal ts L g<=0:=by
  intro L;induction L with
  | nil=>intro _;rw[Zdr];exact Kr
  | cons i L A =>
   intro n;have a:=A fun j u=>n j (Qg _ u);have E:dl _ g=0:=if_neg (n i (Qd ..));have I:=ZrG (tow ts i) g;rw[Ym];exact Ks I E a
 have J:=F ((Qz ts.length).filter fun i=>decide (i∉G++B)) fun i C z=>by
  obtain⟨H,t⟩:=QF.mp C;have:=(h.row g i).mpr ⟨QK.mp H,z,by simpa using t⟩
  simp_all
 rw[Zdh]at o;apply Classical.byContradiction;intro v;have K:dl w g=0:=if_neg fun z=>v z.symm;lia
def WI.pop (h:WI ts b m r (X++[i]) B) (e:r m=[]):WI ts b (frm ts i) r X (B++[i]):=by
 obtain⟨l,n⟩:=h.chG.pop;have a:(X++(B++[i])).Perm (X++[i]++B):=by
  rw[Ud];exact List.perm_append_comm.append_left _ |>.trans (List.Perm.refl _)
 refine⟨a.nodup_iff.mpr h.nd,fun j g=>h.lt j (a.mem_iff.mp g),h.rnd,fun p j=>by rw[h.row,a.mem_iff],l,fun f d=>?_,fun j g=>?_⟩;obtain⟨w,c⟩:=h.chB f d;have:=h.stuck e d c;rw[List.reverse_append,List.reverse_singleton];refine⟨_,.cons rfl ?_⟩
 simp_all
 rcases QG.mp g with z | z
 exact h.stk j z
 simp_all
def WI.done (h:WI ts b pt r [] B) (e:r pt=[]) (g:Zqf ts b):Eul ts b B.reverse:=by
 obtain⟨⟨f,d⟩,hr⟩:=g;have hpt:b=pt:=by cases h.chG;rfl
 subst hpt;obtain⟨w,c⟩:=h.chB f d;have ew:=h.stuck e d c;subst ew;have hnd:=h.nd;have hlt:=h.lt;rw[Rz]at hnd hlt;refine⟨?_,f,c⟩
 -- whoever is met has nothing left
 let M:Str->Prop:=fun p=>p=b\/∃ i∈B,tow ts i=p
 have hM:∀ p,M p->r p=[]:=fun p hp=>by
  rcases hp with z | ⟨i,hi,z⟩
  simp_all
  exact z▸h.stk i hi
 have hp:(Qz ts.length).Perm (B++(Qz ts.length).filter fun i=>decide (i∉B)):=by
  refine X0 WM (Wg.mpr ⟨hnd,WM.filter _,fun a ha b' hb z=>?_⟩) fun x=>?_
  simp_all
  rw[QG,QF,QK];constructor
  intro hx;by_cases cc:x∈B
  exact .inl cc
  exact .inr ⟨hx,decide_eq_true cc⟩
  rintro(z | z)
  simp_all
  omega
 have hz:∀ p,bal ts ((Qz ts.length).filter fun i=>decide (i∉B)) p=0:=fun p=>by
  have h1:=d p;rw[ZaO hp,X5,←ZaO (Us B),c.bal]at h1;lia
 have key:∀ p,M p->∀ i,i<ts.length->(frm ts i=p\/tow ts i=p)->i∈B:=fun p hp i hi ht=>by
  apply Classical.byContradiction;intro hn;have hne:∀ j,j<ts.length->j∉B->frm ts j≠p:=fun j hj hjn z=>by
   have:=(h.row p j).mpr ⟨hj,z,by simp_all⟩
   simp_all
  rcases ht with z | z
  simp_all
  have h2:∀ L:List Nat,(∀ j∈L,frm ts j≠p)->bal ts L p<=0/\(i∈L->bal ts L p<0):=by
   intro L;induction L with
   | nil=>intro _;exact⟨by rw[Zdr];exact Kr,fun q=>by grind⟩
   | cons j L ih =>
    intro hL;obtain⟨a1,a2⟩:=ih fun k hk=>hL k (Qg _ hk);have b':dl (frm ts j) p=0:=if_neg (hL j (Qd ..));have c':=ZrG (tow ts j) p;rw[Ym];refine⟨Ks c' b' a1,fun q=>?_⟩;rcases Qx.mp q with q | q
    subst q;have:dl (tow ts i) p=1:=if_pos z;lia
    have:=a2 q;lia
  have h3:=(h2 ((Qz ts.length).filter fun i=>decide (i∉B)) fun j hj=>by
   obtain⟨a1,_⟩:=QF.mp hj;exact hne j (QK.mp a1) (by simp_all)).2 (QF.mpr ⟨QK.mpr hi,decide_eq_true hn⟩)
  rw[hz]at h3;lia
 have hfr:∀ u X v,Ch ts u X v->M u->(∀ j∈X,j∈B)->∀ j∈X,M (frm ts j):=by
  intro u X v hc;induction hc with
  | nil u=>intro _ _ j hj;cases hj
  | @cons k X u v e' _ ih =>
   intro hu hX j hj;rcases Qx.mp hj with z | z
   rw[z,e'];exact hu
   exact ih (.inr ⟨k,hX k (Qd ..),rfl⟩) (fun l hl=>hX l (Qg _ hl)) j z
 have hcl:∀ P,M P->∀ y,Zr1 ts P y->M y:=fun P hP y=>B9 fun i hi q=>by
  rcases q with ⟨q1,q2⟩ | ⟨q1,q2⟩
  exact .inr ⟨i,key P hP i hi (.inl q1),q2⟩
  have:=key P hP i hi (.inr q1);exact q2▸hfr _ _ _ c (.inl rfl) (fun j hj=>UE.mp hj) i (UE.mpr this)
 refine X0 ((Us B).nodup_iff.mpr hnd) WM fun x=>?_;rw[UE,QK];exact ⟨hlt x,fun hx=>key _ (RchT.closed (F:=M) (.inl rfl) hcl (hr x hx)) x hx (.inl rfl)⟩
def WI.eul (h:WI ts b i r [] B) (f:B.length=ts.length) (c:Ch ts b B.reverse v):Eul ts b B.reverse:=by
 have d:=h.nd;have e:=h.lt;rw[Rz]at d e;refine⟨?_,v,c⟩;have a:=fun x g=>QK.mpr (e x g);refine(Us B).trans (X0 d WM fun x=>⟨a x,Zpp d a (by rw[Q3,f]) x⟩)
noncomputable def rows (ts:Ts) (p:Str):List Nat:=((Qz ts.length).filter fun i=>decide (frm ts i=p)).reverse
def ZoY (ts) (p):(rows ts p).Nodup:=(Us _).nodup_iff.mpr (WM.filter _)
def Zl5 (ts) (p) (i):i∈rows ts p↔i<ts.length/\frm ts i=p:=by
 unfold rows;simp
noncomputable def wlk (ts:Ts):Nat->(Str->List Nat)->Str->List Nat->List Nat->List Nat
 | 0,_,_,_,B=>B
 | n+1,r,pt,G,B=>match (r pt).getLast? with
  | some i=>wlk ts n (Zlv r pt (r pt).dropLast) (tow ts i) (G++[i]) B
  | none=>match G.getLast? with
   | some i=>wlk ts n r (frm ts i) G.dropLast (B++[i])
   | none=>B
def Zin (e:r a=X++[i]):wlk ts (n+1) r a G B=wlk ts n (Zlv r a X) (tow ts i) (G++[i]) B:=by
 rw[wlk,e];simp
def Zlz (e:r a=[]):wlk ts (n+1) r a (X++[i]) B=wlk ts n r (frm ts i) X (B++[i]):=by
 rw[wlk,e];simp
def ZlA (e:r c=[]):wlk ts n r c [] B=B:=by
 cases n with
 | zero=>rfl
 | succ n=>rw[wlk,e];rfl
noncomputable def wayX (ts:Ts) (b:Str):List Nat:=(wlk ts (2*ts.length) (rows ts) b [] []).reverse
def WI.len {b a} {r} {G B} (h:WI ts b a r G B):G.length+B.length<=ts.length:=by
 have:=Zkh h.nd fun x c=>QK.mpr (h.lt x c);rw[Qm,Q3]at this;exact this
def WI.in_len (h:WI ts b e r G B) (p):(r p).length<=ts.length:=by
 have:=Zkh (h.rnd p) fun x c=>QK.mpr ((h.row p x).mp c).1;rw[Q3]at this;exact this
def ZaR (ks:List Str) (f:Str->Int):Int:=(ks.map f).sum
def Z0 (k:Str) (ks:List Str) (f:Str->Int):ZaR (k::ks) f=f k+ZaR ks f:=by
 unfold ZaR;rw[Qp,Qy]
def ZlG (ks:List Str) (f g:Str->Int):ZaR ks (fun p=>f p+g p)=ZaR ks f+ZaR ks g:=by
 induction ks with
 | nil=>rfl
 | cons k ks b=>rw[Z0,Z0,Z0,b];exact Kt
def Zcn (ks:List Str) (f g:Str->Int):ZaR ks (fun p=>f p-g p)=ZaR ks f-ZaR ks g:=by
 induction ks with
 | nil=>rfl
 | cons k ks b=>rw[Z0,Z0,Z0,b];lia
def Zco {ks:List Str} {f g:Str->Int} (h:∀ p∈ks,f p<=g p):ZaR ks f<=ZaR ks g:=by
 induction ks with
 | nil=>exact WO _
 | cons k ks c =>
  rw[Z0,Z0];have i:=h k (Qd ..);have e:=c fun p b=>h p (Qg _ b);lia
def Xy (ks:List Str):ZaR ks (fun _=>0)=0:=by
 induction ks with
 | nil=>rfl
 | cons k ks b=>rw[Z0,b];lia
def XT {ks:List Str} {f:Str->Int} (h:∀ p∈ks,0<=f p) {p:Str} (a:p∈ks):f p<=ZaR ks f:=by
 induction ks with
 | nil=>cases a
 | cons k ks d =>
  rw[Z0];have g:=h k (Qd ..);have e:0<=ZaR ks f:=by
   have:=Zco (ks:=ks) (f:=fun _=>0) (g:=f) fun p a=>h p (Qg _ a);rw[Xy]at this;exact this
  rcases Qx.mp a with z | z
  rw[z];lia
  have:=d (fun p a=>h p (Qg _ a)) z;exact Sy g this
def ZdG {ks:List Str} {f:Str->Int} (h:∀ p∈ks,0<=f p) {p q:Str} (a:p∈ks) (d:q∈ks) (b:p≠q):f p+f q<=ZaR ks f:=by
 induction ks with
 | nil=>cases a
 | cons k ks g =>
  rw[Z0];have c:∀ p∈ks,0<=f p:=fun p a=>h p (Qg _ a);have j:=h k (Qd ..);rcases Qx.mp a with z | z
  rcases Qx.mp d with y | y
  exact absurd (z.trans y.symm) b
  have:=XT c y;rw[z];omega
  rcases Qx.mp d with y | y
  have:=XT c z;rw[y];omega
  have:=g c z y;exact Sy j this
def Zcg {a p:Str} (h:p≠a):dl a p=0:=if_neg fun e=>h e.symm
def Ze9 {ks:List Str} (nd:ks.Nodup) {a:Str} (h:a∈ks):ZaR ks (dl a)=1:=by
 induction ks with
 | nil=>cases h
 | cons k ks ih =>
  have nd':=QX.mp nd;rw[Z0];rcases Qx.mp h with z | z
  ·subst z;have:ZaR ks (dl a)=0:=by
    have e:∀ p∈ks,dl a p=0:=fun p hp=>Zcg fun e=>nd'.1 (e▸hp);have h1:=Zco (f:=dl a) (g:=fun _=>0) fun p hp=>by rw[e p hp];exact WO _
    have h2:=Zco (f:=fun _=>0) (g:=dl a) fun p hp=>by rw[e p hp];exact WO _
    rw[Xy]at h1 h2;lia
   rw[this,Zdh];exact Bi
  ·rw[ih nd'.2 z,Zcg (fun e:k=a=>nd'.1 (e▸z))];lia
noncomputable abbrev moT (ts:Ts) (p:Str):Int:=bal ts (Qz ts.length) p
def ZiL {ts:Ts} {ks:List Str} (a:ks.Nodup):∀ X:List Nat,(∀ i∈X,frm ts i∈ks/\tow ts i∈ks)->ZaR ks (bal ts X)=0
 | [],_=>Xy ks
 | i::X,h=>by
  obtain⟨d,b⟩:=h i (Qd ..);have e:bal ts (i::X)=fun p=>(dl (frm ts i) p-dl (tow ts i) p)+bal ts X p:=funext fun p=>Ym ts i X p;rw[e,ZlG,Zcn,Ze9 a d,Ze9 a b,(ZiL a X fun j c=>h j (Qg _ c))];rfl
def Zlm {ts:Ts} {p:Str}:∀ X:List Nat,(∀ i∈X,frm ts i≠p/\tow ts i≠p)->bal ts X p=0
 | [],_=>rfl
 | i::X,h=>by
  obtain⟨a,c⟩:=h i (Qd ..);rw[Ym,Zlm X fun j b=>h j (Qg _ b)];unfold dl;rw[if_neg a,if_neg c];rfl
noncomputable def ZcN (x:Int):Int:=if x>0 then x else 0
def Zq9 {ks:List Str} (j:ks.Nodup) {g:Str->Int} (b:∀ p∈ks,0<=g p) (i:ZaR ks g=1):∃ f∈ks,∀ p∈ks,g p=dl f p:=by
 have:∃ f∈ks,1<=g f:=by
  apply Classical.byContradiction;intro h;have e:∀ p∈ks,g p<=0:=fun p a=>by
   apply Classical.byContradiction;intro c;exact h ⟨p,a,by lia⟩
  have:=Zco (f:=g) (g:=fun _=>0) e;rw[Xy]at this;lia
 obtain⟨f,d,_⟩:=this;refine⟨f,d,fun p a=>?_⟩;by_cases c:p=f
 subst c;have:=XT b a;rw[Zdh];lia
 have:=ZdG b a d c;have:=b p a;rw[Zcg c];lia
structure Kp (ts:Ts) (ks:List Str):Prop where
 nd:ks.Nodup
 mem:∀ p,p∈ks↔∃ i,i<ts.length/\(frm ts i=p\/tow ts i=p)
def Kp.out {ts:Ts} {ks:List Str} (h:Kp ts ks) {p:Str} (b:p∉ks):moT ts p=0 :=
 Zlm _ fun i c=>⟨fun e=>b ((h.mem p).mpr ⟨i,QK.mp c,.inl e⟩),fun e=>b ((h.mem p).mpr ⟨i,QK.mp c,.inr e⟩)⟩
def Kp.total {ts:Ts} {ks:List Str} (h:Kp ts ks):ZaR ks (moT ts)=0 :=
 ZiL h.nd _ fun i hi=>⟨(h.mem _).mpr ⟨i,QK.mp hi,.inl rfl⟩,(h.mem _).mpr ⟨i,QK.mp hi,.inr rfl⟩⟩
def ZpR {ts:Ts} {b:Str} {ks:List Str} {M:Int} (h:Kp ts ks) (n:b∈ks) (v:ZaR ks (fun p=>ZcN (moT ts p))<=1) (z:M∈ks.map (moT ts)) (m:∀ x∈ks.map (moT ts),x<=M) (A:M=1->moT ts b=1) (F:∀ p∈ks,RchT ts b p):Zqf ts b:=by
 have d:∀ p∈ks,0<=ZcN (moT ts p):=fun p _=>by unfold ZcN;split <;> lia
 have g:∀ p∈ks,moT ts p<=M:=fun p a=>m _ (WS a);have tot:=h.total;refine⟨?_,fun i B=>F _ ((h.mem _).mpr ⟨i,B,.inl rfl⟩)⟩;by_cases c:M<=0
 refine⟨b,fun p=>?_⟩;show moT ts p=_;rw[Int.sub_self];by_cases a:p∈ks
 have H:∀ q∈ks,0<=(fun q=>0-moT ts q) q:=fun q w=>by have:=g q w;show 0<=0-moT ts q;lia
 have:=XT H a;rw[Zcn,Xy,tot]at this;have J:=g p a;have I:0-moT ts p<=0-0:=this;lia
 exact h.out a
 obtain⟨u,r,y⟩:=Qk.mp z;have t:M=1:=by
  have:=XT d r;have e:ZcN (moT ts u)=M:=by rw[y];unfold ZcN;rw[if_pos (Kc c)]
  have s:ZcN (moT ts u)<=1:=Rq this v;rw[e]at s;lia
 have j:=A t;have D:ZcN (moT ts b)=1:=by rw[j];rfl
 have k:∀ p∈ks,p≠b->moT ts p<=0:=fun p a o=>by
  have:=ZdG d a n o;have s:ZcN (moT ts p)+ZcN (moT ts b)<=1:=Rq this v;rw[D]at s;apply Classical.byContradiction;intro l;have:ZcN (moT ts p)=moT ts p:=by unfold ZcN;rw[if_pos (Kc l)]
  omega
 obtain⟨f,G,C⟩:=Zq9 h.nd (g:=fun p=>dl b p-moT ts p) (fun p a=>by
  show 0<=dl b p-moT ts p;by_cases l:p=b
  subst l;rw[Zdh,j];decide
  have:=k p a l;rw[Zcg l];lia) (by rw[Zcn,Ze9 h.nd n,tot];rfl)
 refine⟨f,fun p=>?_⟩;show moT ts p=_;by_cases a:p∈ks
 have:dl b p-moT ts p=dl f p:=C p a;lia
 rw[h.out a,Zcg (fun e:p=b=>a (e▸n)),Zcg (fun e:p=f=>a (e▸G))];rfl
def ZH (es:Es):List Str:=es.flatMap fun e=>QR e.2.toNat e.1
noncomputable def tsE (es:Es):Ts:=(ZH es).map fun x=>(bg x,en x)
def Zcf (e) (es:Es):ZH (e::es)=QR e.2.toNat e.1++ZH es:=by
 rfl
def Zic (es) (e):ZH (es++[e])=ZH es++QR e.2.toNat e.1:=by
 unfold ZH;simp
def JS (c:∀ e∈es,1<=e.2) (x):x∈ZH es↔∃ e∈es,e.1=x:=by
 unfold ZH;rw[List.mem_flatMap];constructor;rintro⟨e,a,h⟩;exact⟨e,a,(Rg.mp h).2.symm⟩;rintro⟨e,a,h⟩;have:=c e a;exact⟨e,a,Rg.mpr ⟨by lia,h.symm⟩⟩
def Yz (es):(tsE es).length=(ZH es).length:=by unfold tsE;simp
def Zh9 (h:i<(ZH es).length):frm (tsE es) i=bg ((ZH es).getD i ""):=by
 unfold frm tsE;rw[Qb,Qh,Qb,Qa h];rfl
def ZiA (h:i<(ZH es).length):tow (tsE es) i=en ((ZH es).getD i ""):=by
 unfold tow tsE;rw[Qb,Qh,Qb,Qa h];rfl
def Zdf {l:List Str} (h:i<l.length):l.getD i ""∈l:=by
 rw[Qb,Qa h];simp
def ZgS {l:List Str} (h:x∈l):∃ i,i<l.length/\l.getD i "" = x:=by
 obtain⟨i,a,e⟩:=WF h;exact ⟨i,a,by grind⟩
def Zho (ts) (p):∀ n,n<=ts.length->bal ts (Qz n) p=((ts.take n).map fun t=>dl t.1 p-dl t.2 p).sum
 | 0,_=>by rfl
 | n+1,h=>by
  rw[Ub,X5,Zho ts p n (K3 h),Ym,Zdr,QQ h,QM];unfold frm tow;rw[Qb,Qa h];simp
def ZoF (n) (c:Int):(QR n c).sum=n*c:=by
 simp
def ZsB (b:∀ e∈es,0<=e.2) (p):moT (tsE es) p=mo es p:=by
 unfold moT;rw[Zho _ _ _ (Ql _),WU];induction es with
 | nil=>rfl
 | cons e es c =>
  unfold tsE;rw[Zcf,QM,QM,Vq,R5,R5,ZoF,ZcZ];have:=c fun e f=>b e (Qg _ f);unfold tsE at this;rw[this];unfold mo1 dl ind;rw[U8 (b e Qd ..),Int.mul_sub]
def ZsO (c:∀ e∈es,1<=e.2) (P y):Zr1 (tsE es) P y↔Adj es P y:=by
 constructor;rintro⟨i,a,q⟩;rw[Yz]at a;rw[Zh9 a,ZiA a]at q;obtain⟨e,b,h⟩:=(JS c _).mp (Zdf a);rw[←h]at q;exact⟨e,b,q⟩;rintro⟨e,b,q⟩;obtain⟨i,a,h⟩:=ZgS ((JS c e.1).mpr ⟨e,b,rfl⟩);refine⟨i,by rw[Yz];exact a,?_⟩;rw[Zh9 a,ZiA a,h];omega
def Zsl (hp:∀ e∈es,1<=e.2) (h:Rch es a y):RchT (tsE es) a y:=by
 induction h with
 | here=>exact .here
 | step _ k ih=>exact .step ih ((ZsO hp _ _).mpr k)
def Adj.symm (h:Adj es P y):Adj es y P:=by
 obtain⟨e,a,q⟩:=h;exact⟨e,a,q.symm.imp (fun z=>⟨z.2,z.1⟩) fun z=>⟨z.2,z.1⟩⟩
def Rch.trans (h:Rch es a b) (k:Rch es b c):Rch es a c:=by
 induction k with
 | here=>omega
 | step _ j e=>exact .step e j
def Rch.symm (h:Rch es a b):Rch es b a:=by
 induction h with
 | here=>exact .here
 | step _ k d=>exact Rch.trans (.step .here k.symm) d
def ZnK (f:Str->Int):∀ ss:List Str,sm (ups f ss)=ZaR ss fun p=>ZcN (f p)
 | []=>rfl
 | x::ss=>by
  rw[Zck,Z0,ZnK f ss];rfl
def ZkN:∀ l:List Int,l≠[]->∃ M∈l,∀ x∈l,x<=M
 | [],h=>absurd rfl h
 | [x],_=>⟨x,by simp,fun y f=>by exact Qr.mp f▸WO _⟩
 | x::y::l,_=>by
  obtain⟨M,d,b⟩:=ZkN (y::l) (by simp);by_cases c:M<=x
  refine⟨x,by simp,fun z a=>?_⟩;rcases Qx.mp a with e | e
  exact e▸WO _
  exact Rq (b z e) c
  refine⟨M,Qg _ d,fun z a=>?_⟩;rcases Qx.mp a with e | e
  rw[e];exact Nv c
  exact b z e
noncomputable def X9 (e0:Str×Int) (us:Es):Str:=match us with | []=>bg e0.1 | u::_=>u.1
def ZrA {b:Str×Int} {a:Es} {ss:List Str} (r:∀ e∈b::a,1<=e.2) (nd:ss.Nodup) (n:∀ p,p∈ss↔∃ e∈b::a,bg e.1=p\/en e.1=p)
  (hs:sm (ups (mo (b::a)) ss)<=1) (x:∀ e∈b::a,Rch (b::a) (bg b.1) (bg e.1)):Zqf (tsE (b::a)) (X9 b (ups (mo (b::a)) ss)):=by
 have h0:∀ e∈b::a,0<=e.2:=fun e g=>by have:=r e g;exact Tc this
 have f:moT (tsE (b::a))=mo (b::a):=funext fun p=>ZsB h0 p;have t:b∈b::a:=Qd ..;generalize b::a=d at *;have hK:Kp (tsE d) ss:=⟨nd,fun p=>by
  rw[n];constructor
  rintro⟨e,g,q⟩;obtain⟨i,j,h⟩:=ZgS ((JS r e.1).mpr ⟨e,g,rfl⟩);refine⟨i,by rw[Yz];exact j,?_⟩;rw[Zh9 j,ZiA j,h];exact q
  rintro⟨i,j,q⟩;rw[Yz]at j;rw[Zh9 j,ZiA j]at q;obtain⟨e,g,h⟩:=(JS r _).mp (Zdf j);rw[←h]at q;exact⟨e,g,q⟩⟩
 have l:bg b.1∈ss:=(n _).mpr ⟨b,t,.inl rfl⟩;have k:∀ p∈ss,Rch d (bg b.1) p:=fun p c=>by
  obtain⟨e,g,q⟩:=(n p).mp c;rcases q with q | q
  exact q▸x e g
  exact .step (x e g) ⟨e,g,.inl ⟨rfl,q⟩⟩
 obtain⟨M,hM,v⟩:=ZkN (ss.map (mo d)) (fun z=>by rw[UJ]at z;rw[z]at l;cases l);have o:ZaR ss (fun p=>ZcN (moT (tsE d) p))<=1:=by rw[f,←ZnK];exact hs
 have m:X9 b (ups (mo d) ss)∈ss/\(M=1->mo d (X9 b (ups (mo d) ss))=1):=by
  cases hu:ups (mo d) ss with
  | nil =>
   refine⟨l,fun e=>?_⟩;obtain⟨p,c,ep⟩:=Qk.mp hM;have:(p,mo d p)∈ups (mo d) ss:=Qk.mpr ⟨p,QF.mpr ⟨c,decide_eq_true (by lia)⟩,rfl⟩;rw[hu]at this;cases this
  | cons u us =>
   have hm:u∈ups (mo d) ss:=by exact hu▸Qd ..
   obtain⟨p,c,ep⟩:=Qk.mp hm;obtain⟨w,h2⟩:=QF.mp c;have h3:=of_decide_eq_true h2;have e1:X9 b (u::us)=p:=by rw[←ep];rfl
   rw[e1];refine⟨w,fun _=>?_⟩;have:=XT (f:=fun p=>ZcN (moT (tsE d) p)) (fun p _=>by show 0<=ZcN _;unfold ZcN;split <;> lia) w;have h5:ZcN (moT (tsE d) p)=mo d p:=by rw[f];unfold ZcN;rw[if_pos h3]
   have h6:ZcN (moT (tsE d) p)<=1:=Rq this o;lia
 exact ZpR hK m.1 o (M:=M) (by exact f▸hM) (by exact f▸v) (fun e=>by exact f▸m.2 e) fun p c=>Zsl r ((k _ m.1).symm.trans (k p c))
noncomputable def lst (x:Str):Nat:=x.cps.toList.getLastD 0
def Zoi (h:1<=x.length):x.cps.toList=(bg x).cps.toList++[lst x]:=by
 unfold bg lst;rw[Yn];rcases Uc x.cps.toList with e | ⟨l,c,e⟩
 rw[←Yv,e]at h;simp at h;rw[e];simp
noncomputable def spell (es:Es) (b:Str) (X:List Nat):List Nat:=b.cps.toList++X.map fun i=>lst ((ZH es).getD i "")
def ZlI {es:Es} {L:Nat} (hL:1<=L) (g:∀ x∈ZH es,x.length=L) {u v:Str} {X:List Nat} (c:Ch (tsE es) u X v):(∀ i∈X,i<(ZH es).length)->u.length=L-1->∀ i x,(X.map fun j=>(ZH es).getD j "")[i]?=some x->tx (((spell es u X).drop i).take L)=x:=by
 induction c with
 | nil u=>intro _ _ i x e;simp at e
 | @cons j X u v e c ih =>
  intro s hu i x o;have p:=s j (Qd ..);have hT:=g _ (Zdf p);rw[Zh9 p]at e;have m:=Zoi (x:=(ZH es).getD j "") (Nd hL hT);rw[e]at m;have l:spell es u (j::X)=((ZH es).getD j "").cps.toList++X.map fun i=>lst ((ZH es).getD i ""):=by
   unfold spell;rw[Qp,m];simp
  have h:((ZH es).getD j "").cps.toList.length=L:=by rw[Yv];exact hT
  cases i with
  | zero =>
   simp at o;rw[l,Vx,List.take_left' h,tx_eta,←o,Qb]
  | succ i =>
   rw[Qp]at o;have q:(X.map fun j=>(ZH es).getD j "")[i]?=some x:=by simpa using o
   have n:(tow (tsE es) j).cps.toList=((ZH es).getD j "").cps.toList.drop 1:=by
    rw[ZiA p];unfold en;rw[Yn]
   have r:(tow (tsE es) j).length=L-1:=by rw[←Yv,n,Wa,h]
   have:=ih (fun k hk=>s k (Qg _ hk)) r i x q;have hd:(spell es u (j::X)).drop (i+1)=(spell es (tow (tsE es) j) X).drop i:=by
    rw[l,Nat.add_comm,←Vy];congr 1;unfold spell;rw[n,List.drop_append_of_le_length (Nd hL h)]
   exact hd▸this
def ZiR {es:Es} {L:Nat} (n:1<=L) (d:∀ x∈ZH es,x.length=L) {u:Str} {X:List Nat} (p:Eul (tsE es) u X) (h:u.length=L-1) (l:0<(ZH es).length):pcs (spell es u X) L=X.map fun j=>(ZH es).getD j "":=by
 obtain⟨g,v,c⟩:=p;have o:X.length=(ZH es).length:=by rw[g.length_eq,Q3,Yz]
 have m:∀ i∈X,i<(ZH es).length:=fun i f=>by
  have:=QK.mp (g.mem_iff.mp f);rw[Yz]at this;exact this
 have e:(spell es u X).length=L-1+X.length:=by
  unfold spell;rw[Qm,Qc,Yv,h]
 apply QI;intro i;unfold pcs;rw[Qh,e];by_cases f:i<X.length
 rw[Q6 (by omega),We];have k:(X.map fun j=>(ZH es).getD j "")[i]?=some ((ZH es).getD X[i] ""):=by rw[Qh,Qa f];rfl
 rw[k,ZlI n d c m h i _ k]
 rw[Qj (by rw[Q3];omega),Qj (by rw[Qc];exact G7 f)];rfl
def ZbL (l:List Str):(Qz l.length).map (fun i=>l.getD i "")=l:=by
 apply QI;intro i;rw[Qh];by_cases a:i<l.length
 rw[Q6 a,We,Qb,Qa a];rfl;rw[Qj (by rw[Q3];exact G7 a),Qj (G7 a)];rfl
def Zhv {es:Es} {L:Nat} (i:1<=L) (a:∀ x∈ZH es,x.length=L) {u:Str} {X:List Nat} (d:Eul (tsE es) u X) (h:u.length=L-1) (c:0<(ZH es).length):(pcs (spell es u X) L).Perm (ZH es):=by
 rw[ZiR i a d h c];have:=d.1.map fun j=>(ZH es).getD j "";rw[Yz,ZbL]at this;exact this
end Sh
namespace L2
open PySem PySem.Spec PyProof.Rows PySem.W
def Zqq (hi:Int) (n:Nat):It:=⟨fun i _=>i<n,fun i H x H'=>H'=H/\x= .int (hi-i),fun i _=>n<=i⟩
def Ze3 {K} (it) (hi) (n):Zng P w K tg (Zqq hi n) [it] it (fun i h=>IsRangeIter h it (hi+i*(-1)) (n-i) (-1)) where
 mem:=by simp
 obj:=fun i h st b hb=>by
  have e:b=it:=by simp_all
  subst e;exact⟨_,st,fun v z=>by
   simp_all⟩
 keep:=fun i h h' st k=>k it (by simp) _ st
 item:=by
  intro X hP hw hK hc i pins s σ H E I hf st hg;subst hP hw hK;have⟨f0,f1,f2,f3,f4,f5⟩:=hf it (by simp);refine(Walks.range (prog:=X.prog) (w:=X.w) (I.ok.hd hc) it hi (-1) n).item i s _ _ hg st fun v h' tk hv st' kk=>?_;obtain⟨t,rfl⟩:=hv;have I1:Inv X pins σ H {s with heap:=h',toks:=tk}:=I.turned (fun b o hb e=>kk b o (by simpa using hb) e) f0 f1 f3 f4 f5;refine⟨_,rfl,ZkQ st' rfl rfl (by decide) ⟨.int _,H,I1,⟨t,?_⟩,⟨rfl,rfl⟩,st',fun b hb=>(hf b hb).1⟩⟩;rw[show hi+i * -1=hi-i by lia]
 done:=by
  intro X hP hw hK hc i pins s σ H E I hf st hg;have⟨f0,f1,f2,f3,f4,f5⟩:=hf it (by simp);exact wpAny_pyNext_range_end (I.ok.hd hc) st (by have:n<=i:=hg;exact Tl this) fun h' eb=>⟨rfl,I.turned (fun b o hb e=>eb b o hb e) f0 f1 f3 f4 f5⟩
 self:=fun _ _ _ _ _ st h=>wpAny_pyIter_rangeiter st h
section
variable {X:Cx} {tg:Expr}
def ZjC {σ:St} {lo hi} (I:Inv X a σ H s) (k : -(2 ^ 62)<=lo) (g:lo<2 ^ 62) (l : -(2 ^ 62)<=hi) (i:hi<2 ^ 62)
  (q:R (Zqq lo (lo-hi).toNat) H):Oe (Od X.prog X.w) X.A (Gq (.ref s.heap.objs.size)) (PIE X a σ tg R) E {s with heap:=s.heap.push {cls:=.type "range",data:=.fields #[.int lo t,.int hi u,.int (-1) v]},toks:=tk}:=by
 refine wpAny_pyIter_range (IsRange.new ..) (small_down k g l i) ?_;have d:Inv X a σ H {s with heap:=s.heap.push {cls:=.type "range",data:=.fields #[.int lo t,.int hi u,.int (-1) v]},toks:=tk}:=I.kept fun b o e=>Qi _ e;refine La _ _ _ _ H ⟨rfl,d.kept fun b o e=>Qi _ e,Ze3 _ lo _,?_,fun b m=>?_,q⟩
 have h:lo+((0:Nat)) * -1=lo:=by simp
 have j:(((lo-hi).toNat:Nat))-((0:Nat))=Builtin.Range.rangeSize lo hi (-1):=by rw[rangeSize_downNat];exact Ku
 rw[h,j];exact Qs _ rfl;have e:b=(s.heap.push {cls:=.type "range",data:=.fields #[.int lo t,.int hi u,.int (-1) v]}).objs.size:=by simpa using m
 subst e;exact d.fpOk (Ql _) (d.hok.fresh (Ql _))
def ZsD (ta:TA):TI:=fun σ H R=>ta σ H fun vs H1=>∃ i j:Int,vs=[.int i,.int j,.int (-1)]/\(-(2 ^ 62)<=i/\i<2 ^ 62/\-(2 ^ 62)<=j/\j<2 ^ 62)/\R (Zqq i (i-j).toNat) H1
def ZjN {p c} (D:Gl X "range") (A:X.mg "range" = none) (w:PA X (a::f) u) (o:Og (a::f) X.env=(false,eval a X.env)::Og f X.env:=by rfl) (l:(Om c (Og f X.env)).any (·.1)=false:=by rfl):PI X tg (.Call (.Name "range" p) (a::f) [] c) (ZsD u):=by
 intro e s σ H R I h;refine Call_ (JM I D A boot_range (PyProof.Rows.callWith_type1 (thn (w c e s σ H _ I h) fun G E ⟨F,H1,x,v,k⟩=>?_) o l));obtain⟨i,j,rfl,⟨k,y,C,B⟩,q⟩:=k;cases v with
 | cons r d =>
  cases d with
  | cons z d =>
   cases d with
   | cons g d =>
    cases d;obtain⟨t,rfl⟩:=r;obtain⟨J,rfl⟩:=z;obtain⟨m,rfl⟩:=g;exact call_range_3 (by decide) (ZjC x k y C B q) (.inl (PyProof.noPylong_of_log2 (by decide +kernel)))
def Zia {lo} {g:TG} {k:TS} {D:Zlw} (d:Nat->St->Hp->Prop) (q:d 0 σ H)
  (t:∀ i σ H,i<n->d i σ H->g (.int (lo-i)) σ H fun c h=>k {D with nx:=d (i+1),ct:=d (i+1),bk:=D.nx} c h) (r:∀ σ H,d n σ H->D.nx σ H) :
  ∃ W:Nat->Nat->St->Hp->Prop,(∃ m,W 0 m σ H)/\∀ i m σ H,W i m σ H ->
   ((Zqq lo n).stop i H/\D.nx σ H)\/((Zqq lo n).go i H/\∃ N,(∀ b a,N b a->∃ l,l<m/\W (i+1) l b a)/\∀ x a,(Zqq lo n).yld i H x a->g x σ a fun c h=>k {D with nx:=N,ct:=N,bk:=D.nx} c h):=by
 refine⟨fun i m σ H=>m=n-i/\i<=n/\d i σ H,⟨n,by simp,QT _,q⟩,?_⟩;rintro i m σ H ⟨rfl,u,p⟩;by_cases f:i<n
 refine .inr ⟨f,_,fun b a s=>⟨_,T3 f,rfl,f,s⟩,fun x a y=>?_⟩;obtain⟨e,y⟩:=y
 simp_all
 have e:i=n:=T5 u f
 subst e;exact .inl ⟨Ql _,r σ H p⟩
def Vals.rev (r:Vals xs b):Vals xs.reverse b.reverse:=by
 induction r with
 | nil=>exact .nil
 | cons h t d =>
  rw[Rl,Rl];exact Vals.append d (.cons h .nil)
def Ztf (K:PySem.W.Frag) (te ts:TE):TE:=fun σ H Q=>te σ H fun x H1=>ts σ H1 fun y H2=>∃ a xs,x= .ref a/\SqL K H2 a xs/\y= .int (-1)/\∀ p,H2 p=none->Q (.ref p) (upd H2 p (.lst xs.reverse))
def Zq1 {e st} (E:PE X e u) (o:PE X st ts):PE X (.Subscript e (.Slice none none (some st) L) B) (Ztf X.K u ts):=by
 intro c s σ H Q I h;refine Gx (thn (E c s σ H _ I h) fun v w=>B6 fun x k A C l=>wpAny_Slice (Ob (Ob (thn (o c w σ k _ A l) fun K i=>B6 fun y m z j F=>?_))));refine Pd F fun a J r0 D r1 q=>?_;subst r0;subst r1;obtain⟨t,rfl⟩:=j;cases C;have d:Inv X c σ m {i with heap:=i.heap.push {cls:=.type "slice",data:=.fields #[.none,.none,.int (-1) t]}}:=z.kept fun b p q=>Qi _ q;refine Pf (d.list D) fun n r g G=>?_;have f:=r.length;refine tail_any g.isList.typeIs slot_list_getitem.lookup (wpAny_getItem_list_slice g.isList (Heap.IsSliceOf.new ..) .none .none (.int _ t) (by decide) ?_ (by rw[Qu] <;> exact Ka G f)) (by rfl);rw[krv_pick];refine⟨.ref _,_,d.laid (fun b p q=>Qi _ q) (Ql _) ?_,rfl,q _ (d.hok.fresh (Ql _))⟩;exact⟨by rw[WG];exact G,_,0,r.rev,Qs _ rfl⟩
end
end L2
namespace Tim
open PySem PySem.W PyProof.Rows
section
variable {prog:Oc} {w:Of} {A:Around} {E:Value->Shared->Prop} {s:Shared}
end
end Tim
namespace L2
open PySem PySem.Spec PyProof.Rows PySem.W
open PySem PySem.Spec PyProof.Rows
def SeqAt' (H:Hp) (a:Addr) (ys:List V):Prop:=H a=some (.lst ys)\/H a=some (.tup ys)
def SeqAt'.same (s:Same H b) (h:SeqAt' H a ys):SeqAt' b a ys:=h.imp (s _ _) (s _ _)
def Ztd (J:It) (a:Addr) (o:HO) (ys:List V):Prop:=∀ H',H' a=some o->(∀ i,i<ys.length->J.go i H'/\∀ x H'',J.yld i H' x H''->H''=H'/\x=ys.getD i .non)/\J.stop ys.length H'
def ZtH (J:It) (ys:List V) (H:Hp):Prop:=∀ H',Same H H'->(∀ i,i<ys.length->J.go i H'/\∀ x H'',J.yld i H' x H''->H''=H'/\x=ys.getD i .non)/\J.stop ys.length H'
def Zg2 {K:PySem.W.Frag} {i:Nat} {a:Addr} {ys:List V} {σ:St} {H:Hp} {R:It->Hp->Prop} (c:σ[i]?=some (some (.ref a))) (b:SeqAt' H a ys) (h:∀ J,ZtH J ys H->R J H):iOr (ZpP K (Ze7 i)) (ZsC K (Ze7 i)) σ H R:=by
 rcases b with b | b
 exact .inl ⟨_,c,a,rfl,⟨_,SqL.of b⟩,h _ (Yi (SqL.of b))⟩
 exact .inr ⟨_,c,a,rfl,⟨_,SqT.of b⟩,h _ (Xg (SqT.of b))⟩
def ZpO {K:PySem.W.Frag} {i:Nat} {a:Addr} {ys:List V} {σ:St} {H:Hp} {R:It->Hp->Prop} (c:σ[i]?=some (some (.ref a))) (b:SeqAt' H a ys) (h:∀ J o,H a=some o->Ztd J a o ys->R J H):iOr (ZpP K (Ze7 i)) (ZsC K (Ze7 i)) σ H R:=by
 rcases b with b | b
 exact .inl ⟨_,c,a,rfl,⟨_,SqL.of b⟩,h _ _ b fun d e=>Yi (K:=K) (SqL.of e) d (Same.refl _)⟩
 exact .inr ⟨_,c,a,rfl,⟨_,SqT.of b⟩,h _ _ b fun d e=>Xg (K:=K) (SqT.of e) d (Same.refl _)⟩
def ZpX {J:It} {ys:List V} {a:Addr} {o:HO} {g:TG} {l:TS} {D:Zlw} {σ:St} {H:Hp} (w:Ztd J a o ys) (d:Nat->St->Hp->Prop) (v:d 0 σ H) (k:∀ i σ H,d i σ H->H a=some o)
  (s:∀ i x σ H,ys[i]?=some x->d i σ H->g x σ H fun f j=>l {D with nx:=d (i+1),ct:=d (i+1),bk:=D.nx} f j) (t:∀ σ H,d ys.length σ H->D.nx σ H) :
  ∃ W:Nat->Nat->St->Hp->Prop,(∃ m,W 0 m σ H)/\∀ i m σ H,W i m σ H ->
   (J.stop i H/\D.nx σ H)\/(J.go i H/\∃ N:St->Hp->Prop,(∀ h c,N h c->∃ n,n<m/\W (i+1) n h c)/\∀ x c,J.yld i H x c->g x σ c fun f j=>l {D with nx:=N,ct:=N,bk:=D.nx} f j):=by
 refine⟨fun i m σ H=>m=ys.length-i/\i<=ys.length/\d i σ H,⟨ys.length,by simp,QT _,v⟩,?_⟩;rintro i m σ H ⟨rfl,A,p⟩;obtain⟨q,r⟩:=w H (k i σ H p);by_cases b:i<ys.length
 refine .inr ⟨(q i b).1,d (i+1),fun h c z=>⟨ys.length-(i+1),T3 b,rfl,b,z⟩,fun x c y=>?_⟩;obtain⟨e,u⟩:=(q i b).2 x c y;subst e u;refine s i _ σ _ ?_ p;rw[Qb,Qa b];rfl
 have e:i=ys.length:=T5 A b
 subst e;exact .inl ⟨r,t σ H p⟩
def Zbj {K} (h:SeqAt' H a ys):Zqo K (.ref a) H ys.length:=h.elim (fun h=>.inl ⟨_,SqL.of h,rfl⟩) fun h=>.inr ⟨_,SqT.of h,rfl⟩
def Zai (K) (h:X.K=K:=by rfl):IxR X (rIx K):=by subst h;exact Zn8
def Zap {K} (h:SeqAt' H a ys) (e:atI ys i=some v) (q:Q v H):rIx K (.ref a) (.int i) H Q :=
 h.elim (fun h=>.inl ⟨a,ys,i,v,rfl,rfl,SqL.of h,e,q⟩) fun h=>.inr (.inl ⟨a,ys,i,v,rfl,rfl,SqT.of h,e,q⟩)
end L2
namespace Sh
abbrev Mat:=List (List Int)
def Sm (n:Nat) (x:Int):Prop:=x.natAbs<2 ^ n
def YZ (M:Mat):Option Nat:=M.findIdx? fun r=>decide (r.headD 0≠0)
noncomputable def Zer (r h:List Int) (d:Int):List Int:=(Qz (r.length-1)).map fun j=>(h.headD 0*r.getD (j+1) 0-r.headD 0*h.getD (j+1) 0).fdiv d
noncomputable def Zbf (M:Mat) (p:Nat) (d:Int):Mat:=(M.take p++M.drop (p+1)).map fun r=>Zer r (M.getD p []) d
def Sq (n:Nat) (M:Mat):Prop:=M.length=n/\∀ r∈M,r.length=n
def SmM (k:Nat) (M:Mat):Prop:=∀ r∈M,∀ x∈r,Sm k x
def FineM:Nat->Mat->Int->Int->Int->Prop
 | 0,M,_,_,W=>M=[]/\W=1
 | 1,M,s,_,W=>∃ x,M=[[x]]/\W=s*x/\(s=1\/s = -1)
 | n+2,M,s,d,W=>Sq (n+2) M/\SmM 3900 M/\Sm 3900 d/\d≠0/\(s=1\/s = -1)/\match YZ M with
  | none=>W=0
  | some p=>FineM (n+1) (Zbf M p d) (if p % 2=0 then s else -s) ((M.getD p []).headD 0) W
def Sm.mul (h:Sm a x) (k:Sm b y):Sm (a+b) (x*y):=by
 unfold Sm at *;rw[Vz,Nat.pow_add];exact Nat.mul_lt_mul'' h k
def Sm.up (h:Sm a x) (c:a<=b):Sm b x:=QU h (RL (by decide) c)
def Sm.one (a) (h:1<=a):Sm a 1:=by
 have:Sm 1 1:=by unfold Sm;decide
 exact this.up h
open PySem L2 PyProof.Rows
seal L2.PE L2.PS L2.PSs L2.PT L2.PW L2.PA L2.PI L2.PG L2.PGs L2.PO L2.PC L2.PCs L2.OpR L2.UnR L2.CallR L2.MtR L2.IxR L2.SlR
noncomputable def top (i:Nat):Stmt:=PySem.Challenge.pw_shredjoin_k82_whole_of_a_line.main.body.getD i (.Pass ⟨0,0,0,0⟩)
structure Blt (mg:Str->Option Value):Prop where
 isi:mg "isinstance" = none
 int:mg "int" = none
 bool:mg "bool" = none
 len:mg "len" = none
 range:mg "range" = none
 list:mg "list" = none
 tuple:mg "tuple" = none
 enum:mg "enumerate" = none
 sum:mg "sum" = none
 sorted:mg "sorted" = none
 set:mg "set" = none
 max:mg "max" = none
 min:mg "min" = none
 rev:mg "reversed" = none
 zip:mg "zip" = none
 str:mg "str" = none
 dict:mg "dict" = none
 all:mg "all" = none
 letters:∃ t,mg "LETTERS" = some (.str "abcdefghijklmnopqrstuvwxyz" t)
 most:∃ t,mg "MOST_SIGNS" = some (.int 300 t)
section
variable {P:Oc} {w:Of} {K:PySem.W.Frag} {mg:Str->Option Value} {base:Heap}
structure RowsL (H:Hp) (as:List Addr) (M:Mat):Prop where
 len:as.length=M.length
 row:∀ i a,as[i]?=some a->H a=some (.lst ((M.getD i []).map V.int))
def RowsL.same (s:Same H H') (h:RowsL H as M):RowsL H' as M:=⟨h.len,fun i a e=>s _ _ (h.row i a e)⟩
def X3 (m) (h:m≠[]):atI (m.map V.int) 0=some (V.int (m.headD 0)):=by
 cases m with
 | nil=>exact absurd rfl h
 | cons a r=>exact ZL (by decide) rfl
def ZkL (hi:i<M.length) (h:(M.getD i []).headD 0≠0) (d:∀ j,j<i->(M.getD j []).headD 0=0):YZ M=some i:=by
 unfold YZ;rw[Ws];refine⟨hi,?_,fun j c=>?_⟩;have e:M.getD i []=M[i]:=by rw[Qb,Qa hi];rfl
 rw[e]at h;exact decide_eq_true h;have b:j<M.length:=T6 hi c
 have e:M.getD j []=M[j]:=by rw[Qb,Qa b];rfl
 have:=d j c;rw[e]at this;rw[this];decide
def ZkM (b:∀ j,j<M.length->(M.getD j []).headD 0=0):YZ M=none:=by
 unfold YZ;rw[UL];intro r c;obtain⟨j,d,e⟩:=U2.mp c;have:=b j d;have:r.headD 0=0:=by simp_all
 rw[this];decide
noncomputable def ZmU (M:Mat):V:=match YZ M with
 | none=>.non
 | some p=>.int p
abbrev XA:Stmt:=top 11
abbrev Zel:List Str:=["rows","place","row"]
def scPlaceOfHead:Zm Zel ["rows"] (Zf XA):=⟨rfl,rfl,rfl,by decide +kernel,rfl,by decide +kernel,by decide +kernel⟩
def ZnD:Sp:=fun vs H Q _=>∃ (r:Addr) (as:List Addr) (M:Mat),vs=[.ref r]/\H r=some (.lst (as.map V.ref))/\RowsL H as M/\(∀ m∈M,m≠[])/\∀ H',Same H H'->Q (ZmU M) H'
def Zax (D:HasDef K mg "place_of_head" XA ["rows"]) (B:Blt mg):FOk P w K mg base 1 "place_of_head" ["rows"] ZnD:=by
 refine D.ok scPlaceOfHead (fun vs H Q E h=>?_) (fun f cdv A outer s H vs Q E hr h=>?_)
 obtain⟨r,as,M,rfl,_⟩:=h;rfl
 refine B0 ?_;intros;obtain⟨r,as,M,rfl,hr1,hR,hM,k⟩:=h;refine ⟨_,(Zd (Yh PassesOwn.never rfl (Zpb rfl B.enum (Za (pv 0) Zc)) (Yt 2 K rfl (Zy (ZG (i:=1) scPlaceOfHead.nd rfl (.inl rfl)) (Zy (ZG (i:=2) scPlaceOfHead.nd rfl (.inl rfl)) Ys)))
   (Zg (ZI (Zq X7 (Zw ix_list (pv 2) Zh (fun _ _=>rfl)) Zh (Zr _)) (Zg (Zn (pv 1))) Zt)))
  (Zg (Zn Zbb))),⟨_,rfl,r,rfl,⟨_,SqL.of hr1⟩,ZmZ (K:=K) (a:=r) (xs:=as.map V.ref) (fun i σ H2=>Same H H2/\(∃ z1 z2:Option V,σ=[some (.ref r),z1,z2])/\∀ j,j<i->(M.getD j []).headD 0=0) ⟨Same.refl _,⟨none,none,rfl⟩,fun j hj=>absurd hj (RA _)⟩ (fun i σ H2 _ ⟨b,_,_⟩=>SqL.of (b _ _ hr1)) ?_ ?_⟩⟩
 rintro i x σ H2 t hx ht ⟨b,⟨z1,z2,rfl⟩,hp⟩;obtain⟨hi,rfl⟩:=Xb hx;have s3:Same H2 (upd H2 t (.tup [.int i,.ref as[i]])):=Zb ht;have d:i<M.length:=by rw[←hR.len];exact hi
 have hne:M.getD i []≠[]:=by
  rw[Qb,Qa d];exact hM _ (QA d)
 refine ⟨t,[.int i,.ref as[i]],rfl,SqT.of Ze,rfl,⟨_,_,rfl,_,_,rfl,rfl,_,rfl,as[i],_,0,_,rfl,rfl,SqL.of (s3 _ _ (b _ _ (hR.row i as[i] (Qa hi)))),X3 _ hne,rfl,_,rfl,Zdx (fun e=>?_) (fun e=>?_)⟩⟩
 refine⟨_,rfl,?_⟩;have h0:(M.getD i []).headD 0≠0:=by
  intro z
  simp_all
 have:=k _ (b.trans s3);unfold ZmU at this;rw[ZkL d h0 hp]at this;omega
 refine⟨b.trans s3,⟨_,_,rfl⟩,fun j hj=>?_⟩;by_cases c:j<i
 exact hp j c
 have:j=i:=by lia
 subst this;apply Classical.byContradiction;intro z;apply e;have ne:V.int ((M.getD j []).headD 0)≠V.int 0:=fun q=>z (by injection q);rw[decide_eq_false ne];rfl
 rintro σ H2 ⟨b,⟨z1,z2,rfl⟩,hp⟩;have:=k _ b;unfold ZmU at this;rw[ZkM (fun j hj=>hp j (by rw[Qc,hR.len];exact hj))]at this
 trivial
abbrev JE:Stmt:=top 12
abbrev Zem:List Str:=["row","head","divisor"]
def ZhA:Zm Zem ["row","head","divisor"] (Zf JE):=⟨rfl,rfl,rfl,by decide +kernel,rfl,by decide +kernel,by decide +kernel⟩
def ZnA (K:PySem.W.Frag):Sp:=fun vs H Q _=>∃ (a b:Addr) (m h:List Int) (d:Int),vs=[.ref a,.ref b,.int d]/\H a=some (.lst (m.map V.int))/\H b=some (.lst (h.map V.int))/\m.length=h.length/\1<=m.length/\m.length<=31 /\
 (∀ x∈m,Sm 3900 x)/\(∀ x∈h,Sm 3900 x)/\Sm 3900 d/\d≠0/\∀ p H',Same H H'->H p=none->H' p=some (.lst ((Zer m h d).map V.int))->Q (.ref p) H'
def Zi9 {m:List Int} (h:∀ x∈m,Sm k x) (a:j<m.length):Sm k (m.getD j 0):=by
 rw[Qb,Qa a];exact h _ (QA a)
def Zgv {m:List Int} (h:∀ x∈m,Sm k x) (c:1<=m.length):Sm k (m.headD 0):=by
 cases m with
 | nil=>simp at c
 | cons a r=>exact h _ (by simp)
def Zom {m:List Int} {j:Nat} {i:Int} (e:i=j) (hj:j<m.length):atI (m.map V.int) i=some (V.int (m.getD j 0)):=by
 subst e;refine ZL Tj ?_;rw[Wp,Qh,Qb,Qa hj];rfl
def Sm.big (h:Sm k x) (a:k<=4000):x.natAbs<2 ^ 4000:=h.up a
def ZfE (D:HasDef K mg "lessened" JE ["row","head","divisor"]) (B:Blt mg):FOk P w K mg base 1 "lessened" ["row","head","divisor"] (ZnA K):=by
 refine D.ok ZhA (fun vs H Q E h=>?_) (fun f cdv A outer s H vs Q E hr h=>?_)
 obtain⟨a,b,m,h,d,rfl,_⟩:=h;rfl
 refine B0 ?_;intros;obtain⟨a,b,m,h,d,rfl,ha,hb,hl,h1,h4,hm,hh,hd,hd0,k⟩:=h;refine⟨_,(Zg (Zn (Zx (Zf JE) Zem ["place"] [0,1,2] rfl (ZdU rfl B.range (Za Zh (Za (Zi Zp rfl B.len ZE (Za (pv 0) Zc)) Zc))) (fun _ _ _ _ _=>ZW 0) (fun _ _ _ _ _=>ZD) (fun _ _ _ _ _=>(Zv ZcQ (Zv Xe (Zv Zbd (Zw (Y6 K) (pv 2) Zh (fun _ _=>rfl)) (Zw (Y6 K) (pv 1) (pv 0) (fun _ _=>rfl))) (Zv Zbd (Zw (Y6 K) (pv 1) Zh (fun _ _=>rfl)) (Zw (Y6 K) (pv 2) (pv 0) (fun _ _=>rfl)))) (pv 3)))))),?_⟩;have hne:m≠[]:=fun z=>by rw[z]at h1;simp at h1
 have hne2:h≠[]:=fun z=>by simp_all
 refine⟨_,rfl,.ref a,_,rfl,.inl ⟨_,SqL.of ha,rfl⟩,1,_,rfl,?_,?_⟩
 rw[Qc];lia
 have en:(((m.map V.int).length:Nat)-(1:Int)).toNat=m.length-1:=by simp
 rw[en];refine Z3 (m.length-1) _ (fun i v _=>v= .int ((h.headD 0*m.getD (i+1) 0-m.headD 0*h.getD (i+1) 0).fdiv d)) (Zs (by omega)) (fun _ _ _ _ _ r=>r) Zc6 ?_ ?_
 intro i H1 Qe hi hs kq;have e1:(1+(i:Int))=((i+1:Nat):Int):=by lia
 have a1:i+1<m.length:=T7 hi
 have a2:i+1<h.length:=V6 hl a1
 exact ⟨_,rfl,Ld b _ 0 _ ⟨rfl,rfl,SqL.of (hs _ _ hb),X3 _ hne2,_,rfl,_,rfl,Ld a _ _ _ ⟨rfl,rfl,SqL.of (hs _ _ ha),Zom e1 a1,_,_,rfl,rfl,⟨(Zgv hh (T8 hl h1)).big (by decide),(Zi9 hm a1).big (by decide)⟩,⟨_,rfl,a,_,0,_,rfl,rfl,SqL.of (hs _ _ ha),X3 _ hne,_,rfl,_,rfl,b,_,_,_,rfl,rfl,SqL.of (hs _ _ hb),Zom e1 a2,_,_,rfl,rfl,⟨(Zgv hm h1).big (by decide),(Zi9 hh a2).big (by decide)⟩,⟨_,_,rfl,rfl,_,rfl,_,_,rfl,rfl,⟨hd0,hd.big (by decide)⟩,kq _ _ (Same.refl _) rfl⟩⟩⟩⟩⟩
 intro D1 vs1 H1 hlv hrv hs1 hD1 hDl;refine k D1 H1 hs1 hD1 ?_;rw[hDl,Js hlv hrv];unfold Zer;rw[QN];rfl
def Zdp (K) (h:X.K=K:=by rfl):CallR X (.type "list") (fun xs H Q=>∃ p ys,xs=[.ref p]/\(SqL K H p ys\/SqT K H p ys)/\∀ l,H l=none->Q (.ref l) (upd H l (.lst ys))):=by subst h;exact Y8
def ZmY {α:Type} (l:List α) (p i) (d):(l.take p++l.drop (p+1)).getD i d=if i<p then l.getD i d else l.getD (i+1) d:=by
 rw[Qb,RM];by_cases b:i<p
 rw[if_pos b];by_cases f:i<l.length
 rw[if_pos (by rw[QH];exact Sg b f),UN b,Qb];rw[if_neg (by rw[QH];exact Si f),WY,Qj (Nf b f),Qb,Qj (G7 f)];rw[if_neg b,Qb];by_cases f:p<=l.length
 rw[if_neg (by rw[QH];exact Sj b),WY,QH];congr 2;exact Ng f b;rw[Qj ((Nh f b):l.length<=i+1)];by_cases c:i<(l.take p).length
 rw[QH]at c;exact (Ni c b).elim;rw[if_neg c,WY,Qj (Nj f)]
def ZpU {l:List Addr} (h:(l.take p++l.drop (p+1))[i]?=some a) (b:p<l.length):l[if i<p then i else i+1]?=some a:=by
 grind
def RowsL.cut (h:RowsL H b M) (c:p<b.length):RowsL H (b.take p++b.drop (p+1)) (M.take p++M.drop (p+1)):=by
 refine⟨?_,fun i a e=>?_⟩;have:=h.len;simp[Qm,QH,Wa];lia;rw[ZmY];have:=h.row _ _ (ZpU e c);split at this
 rw[if_pos (by omega)];omega;rw[if_neg (by omega)];omega
def FineM.len:∀ {n} {M} {s d W},FineM n M s d W->M.length=n
 | 0,_,_,_,_,h=>by rw[h.1];rfl
 | 1,_,_,_,_,⟨x,e,_⟩=>by simp_all
 | _+2,_,_,_,_,h=>h.1.1
def ZpQ (h:YZ M=some p):p<M.length:=by
 unfold YZ at h;rw[Ws]at h;exact h.1
def FineM.go (h:FineM (n+2) M s d W) (e:YZ M=some p):FineM (n+1) (Zbf M p d) (if p % 2=0 then s else -s) ((M.getD p []).headD 0) W:=by
 have:=h.2.2.2.2.2;rw[e]at this;omega
def FineM.stop (h:FineM (n+2) M s d W) (e:YZ M=none):W=0:=by
 have:=h.2.2.2.2.2
 simp_all
abbrev Jz:Stmt:=top 13
noncomputable abbrev ZcX:List Str:=["table","rows","sign","divisor","place","head"]
def scWorthOf:Zm ZcX ["table"] (Zf Jz):=⟨rfl,rfl,rfl,by decide +kernel,rfl,by decide +kernel,by decide +kernel⟩
structure RowsT (H:Hp) (as:List Addr) (M:Mat):Prop where
 len:as.length=M.length
 row:∀ i a,as[i]?=some a->H a=some (.tup ((M.getD i []).map V.int))
def ZdK:Sp:=fun vs H Q _=>∃ (t:Addr) (ts:List Addr) (M:Mat) (n:Nat) (W:Int),vs=[.ref t]/\H t=some (.tup (ts.map V.ref))/\RowsT H ts M/\FineM n M 1 1 W/\n<=31/\∀ H',Same H H'->Q (.int W) H'
noncomputable def Zgy (σ:List (Option L2.V)) (H:Hp):Nat:=match σ.getD 1 none with
 | some (L2.V.ref r)=>match H r with
  | some (HO.lst xs)=>xs.length
  | _=>0
 | _=>0
def ZdN (h:H r=some (.lst xs)):Zgy (a::some (L2.V.ref r)::l) H=xs.length:=by
 unfold Zgy;simp[h]
def ZfA (D:HasDef K mg "worth_of" Jz ["table"]) (B:Blt mg) (g45_:FOk P w K mg base 1 "place_of_head" ["rows"] ZnD) (g37_:FOk P w K mg base 1 "lessened" ["row","head","divisor"] (ZnA K)):FOk P w K mg base 2 "worth_of" ["table"] ZdK:=by
 refine D.ok scWorthOf (fun vs H Q E h=>?_) (fun f cdv A outer s H vs Q E hr h=>?_)
 ·obtain⟨t,ts,M,n,W,rfl,_⟩:=h;rfl
 ·refine B0 ?_;intros;obtain⟨t,ts,M,n,W,rfl,ht,hT,hF,hn,k⟩:=h;refine⟨_,(Zd (Xk (i:=1) (Zf Jz) ZcX ["row"] [] scWorthOf.nd rfl (.inl rfl) rfl (Yb (pv 0)) (fun _ _ _ _ _=>ZW 0) (fun _ _ _ _ _=>ZD) (fun _ _ _ _ _=>(ZB (Zdp K) rfl B.list ZbA (Za (pv 0) Zc))))
   (Zd (Zo (i:=2) scWorthOf.nd rfl (.inl rfl) Zh)
   (Zd (Zo (i:=3) scWorthOf.nd rfl (.inr rfl) Zh)
   (Zd (Xj PassesOwn.never (Zq Xv (Zi Zp rfl B.len ZE (Za (pv 1) Zc)) Zh (Zr _))
    (Zd (Zo (i:=4) scWorthOf.nd rfl (.inl rfl) (Zu g45_ hr (Za (pv 1) Zc)))
   (Zd (ZI (Zq Zn0 (pv 4) Zbb (Zr _)) (Zg (Zn Zh)) Zt)
   (Zd (Zo (i:=2) scWorthOf.nd rfl (.inl rfl) (ZgG (Zq YF (Zv Z6 (pv 4) Zh) Zh (Zr _)) (pv 2) (Jm YQ (pv 2))))
   (Zd (Zo (i:=5) scWorthOf.nd rfl (.inr rfl) (Zw ix_list (pv 1) (pv 4) (fun _ _=>rfl)))
   (Zd (Xk (i:=1) (Zf Jz) ZcX ["row"] [3,5] scWorthOf.nd rfl (.inl rfl) rfl (ZQ (Zv Zd0 (ZM Zcv (pv 1) Z4 (ZV (pv 4))) (ZM Zcv (pv 1) (ZV (Zv Z7 (pv 4) Zh)) Z4))) (fun _ _ _ _ _=>ZW 0) (fun _ _ _ _ _=>ZD) (fun _ _ _ _ _=>(Zu g37_ hr (Za (pv 0) (Za (pv 2) (Za (pv 1) Zc))))))
   (Zg (Zo (i:=3) scWorthOf.nd rfl (.inr rfl) (Zw ix_list (pv 5) Zh (fun _ _=>rfl))))))))))
   (Zd (ZI (Zq YF (Zi Zp rfl B.len ZE (Za (pv 1) Zc)) Zh (Zr _)) (Zg (Zn Zh)) Zt)
   (Zg (Zn (Zv Jc (pv 2) (Zw ix_list (Zw ix_list (pv 1) Zh (fun _ _=>rfl)) Zh (fun _ _=>rfl)))))))))),?_⟩
  apply B1;intros;have hlM:=hF.len;have hlt:=hT.len;refine⟨_,rfl,t,rfl,⟨_,SqT.of ht⟩,ZgV ts.length (fun i=>(ts.map V.ref).getD i .non) (fun i=>(M.getD i []).map V.int) (Zs (by lia)) (by have:=Xg (K:=K) (SqT.of ht);rw[Qc]at this;trivial) ?_ ?_⟩
  ·intro i H1 Qe hi hs kq;rw[Y0 hi];refine⟨_,rfl,ts[i],_,rfl,.inr (SqT.of (hs _ _ (hT.row i _ (Qa hi)))),fun l hl=>kq l _ (Zb hl) hl Ze⟩
  intro D1 as H1 hla hra hs1 hD1 hDl1;refine Zlx (fun σ H2=>∃ (n:Nat) (M:Mat) (s d:Int) (r:Addr) (as:List Addr) (z4 z5:Option V),σ=[some (.ref t),some (.ref r),some (.int s),some (.int d),z4,z5]/\Same H H2/\H2 r=some (.lst (as.map V.ref))/\RowsL H2 as M/\FineM n M s d W/\n<=31) Zgy
   ⟨n,M,1,1,D1,as,none,none,rfl,hs1,hDl1,⟨T9 hlt hla,fun i a e=>(hra i a e).2.2⟩,hF,hn⟩ ?_ ?_
  ·rintro σ H2 ⟨n,M,sg,d,r,as,z4,z5,rfl,s2,hr2,hR,hF,hn⟩;have hlM:=hF.len;have hla:=hR.len;refine⟨_,rfl,.ref r,_,rfl,.inl ⟨_,SqL.of hr2,rfl⟩,_,_,rfl,rfl,_,rfl,?_⟩;rw[Qc];refine Zdx (fun e=>?_) (fun e=>?_)
   ·apply B1;intros;have e':1<as.length:=by
     have:=of_decide_eq_true e;omega
    obtain⟨m,rfl⟩:∃ m,n=m+2:=⟨n-2,by lia⟩
    refine Pa (id hF) fun sq sm smd d0 _=>?_;refine⟨_,rfl,Lb r as M ⟨rfl,hr2,hR,fun q mq z=>?_,fun H3 s3=>?_⟩⟩
    ·have:=sq.2 q mq
     simp_all
    have hr3:=s3 _ _ hr2;have hR3:=hR.same s3;have s13:=s2.trans s3;unfold ZmU;cases hh:YZ M with
    | none =>
     refine⟨_,rfl,rfl,_,rfl,Zca ?_⟩;have:=k _ s13;rw[hF.stop hh]at this;exact this
    | some p =>
     have hp:=ZpQ hh;have hp':p<as.length:=Kz hp hla
     have hF2:=hF.go hh;refine⟨_,rfl,rfl,_,rfl,Xw ?_⟩;have hrow:=hR3.row p as[p] (Qa hp');have mrow:M.getD p []∈M:=by
      rw[Qb,Qa hp];exact QA hp
     have sgn2:∀ (Qq:VK),Qq (.int (if p % 2=0 then sg else -sg)) H3->(tIf (Zqv (tOp rEq (tOp (rI (fun _ j=>0<j) fun i j=>.int (i % j)) (Ze7 4) (tC (.int 2))) (tC (.int 0)))) (Ze7 2) (tUn (rU fun i=>.int (-i)) (Ze7 2))) [some (.ref t),some (.ref r),some (.int sg),some (.int d),some (.int p),z5] H3 Qq:=fun Qq q=>by
      refine⟨_,rfl,_,_,rfl,rfl,(by show(0:Int)<2;decide),rfl,_,rfl,Zdx (fun e=>?_) (fun e=>?_)⟩
      ·have:p % 2=0:=by
        have:=of_decide_eq_true e;injection this with this
        omega
       rw[if_pos this]at q;exact⟨_,rfl,q⟩
      ·have:¬ p % 2=0:=fun z=>e (decide_eq_true (by show V.int ((p:Int) % 2)=V.int 0;rw[show((p:Int) % 2)=0 by omega]));rw[if_neg this]at q;exact⟨_,rfl,_,rfl,q⟩
     refine sgn2 _ ?_;refine⟨_,rfl,_,rfl,Ld r _ _ _ ⟨rfl,rfl,SqL.of hr3,Jq (by rw[Qh,Qa hp'];rfl),?_⟩⟩;refine⟨_,rfl,_,rfl,_,rfl,r,_,rfl,SqL.of hr3,fun p1 hp1=>?_⟩;rw[cut_to (by rw[Qc];omega)];have s4:=Zb (o:=.lst ((as.map V.ref).take p)) hp1;refine⟨_,rfl,_,rfl,_,_,rfl,rfl,_,rfl,r,_,rfl,SqL.of (s4 _ _ hr3),fun p2 hp2=>?_⟩;have e5:((p:Int)+1)=((p+1:Nat):Int):=by lia
     rw[e5,cut_from (by rw[Qc];omega)];have s5:=Zb (o:=.lst ((as.map V.ref).drop (p+1))) hp2;have ecut:(as.map V.ref).take p++(as.map V.ref).drop (p+1)=(as.take p++as.drop (p+1)).map V.ref:=by
      rw[QM,UH,UW]
     refine Ld p1 p2 _ _ ⟨rfl,rfl,s5 _ _ Ze,Ze,?_,fun p3 hp3=>?_⟩
     ·simp only[QH,Wa,Qc];exact Zs (by omega)
     rw[ecut];have s36:=(s4.trans s5).trans (Zb (o:=.lst ((as.take p++as.drop (p+1)).map V.ref)) hp3);have hRc:=(hR3.same s36).cut hp';have hlc:(as.take p++as.drop (p+1)).length=as.length-1:=by
      simp only[Qm,QH,Wa];lia
     refine⟨p3,rfl,⟨_,SqL.of Ze⟩,ZgV (as.take p++as.drop (p+1)).length (fun i=>((as.take p++as.drop (p+1)).map V.ref).getD i .non) (fun i=>(Zer ((M.take p++M.drop (p+1)).getD i []) (M.getD p []) d).map V.int) (Zs (by omega)) (by have:=Yi (K:=K) (SqL.of (Ze (H:=upd (upd H3 p1 (.lst ((as.map V.ref).take p))) p2 (.lst ((as.map V.ref).drop (p+1)))) (a:=p3) (o:=.lst ((as.take p++as.drop (p+1)).map V.ref))));rw[Qc]at this;exact this) ?_ ?_⟩
     ·intro i H4 Qe hi hs kq;rw[Y0 hi];have hi':i<(M.take p++M.drop (p+1)).length:=by exact hRc.len▸hi
      have mi:(M.take p++M.drop (p+1)).getD i []∈M:=by
       rw[Qb,Qa hi'];rcases QG.mp (QA hi')with q | q
       ·exact Q9 q
       ·exact WD q
      have l1:=sq.2 _ mi;refine⟨_,rfl,_,rfl,_,rfl,La _ (as[p]) _ _ d ⟨rfl,hs _ _ (hRc.row i _ (Qa hi)),hs _ _ (s36 _ _ hrow),?_,?_,?_,sm _ mi,sm _ mrow,smd,d0,fun q H5 s5 hq hl=>kq q H5 s5 hq hl⟩⟩
      ·rw[l1,(sq.2 _ mrow)]
      ·rw[l1];lia
      ·rw[l1];exact hn
     intro D2 as2 H4 hla2 hra2 hs4 hD2 hDl2;refine⟨_,rfl,Ld (as[p]) _ 0 _ ⟨rfl,rfl,SqL.of (hs4 _ _ (s36 _ _ hrow)),X3 _ (fun z=>?_),?_⟩⟩
     ·have:=sq.2 _ mrow;rw[z]at this;simp at this
     refine⟨⟨m+1,Zbf M p d,_,_,D2,as2,_,_,rfl,(s13.trans s36).trans hs4,hDl2,⟨?_,fun i a e=>?_⟩,hF2,Sa hn⟩,?_⟩
     ·rw[hF2.len,hla2,hlc];lia
     ·have hi2:i<as2.length:=(Qo.mp e).1;rw[(hra2 i a e).2.2];have hi':i<(M.take p++M.drop (p+1)).length:=by rw[←hRc.len];exact V6 hla2 hi2
      have:(Zbf M p d).getD i []=Zer ((M.take p++M.drop (p+1)).getD i []) (M.getD p []) d:=by
       unfold Zbf;rw[Qb,Qh,Qa hi',Qb (l:=M.take p++M.drop (p+1)),Qa hi'];rfl
      rw[this]
     ·rw[ZdN hr2];show Zgy (some (.ref t)::some (.ref D2)::_) H4<_;rw[ZdN hDl2,Qc,Qc];lia
   ·have e':¬ 1<as.length:=fun z=>e (decide_eq_true (by omega));refine⟨_,rfl,.ref r,_,rfl,.inl ⟨_,SqL.of hr2,rfl⟩,rfl,_,rfl,?_⟩;rw[Qc];have n2:n=0\/n=1:=by lia
    rcases n2 with rfl | rfl
    ·have:as.length=0:=T9 hlM hla
     rw[this];refine Zca ?_;have:=k _ s2;rw[hF.2]at this;exact this
    ·have l1:as.length=1:=T9 hlM hla
     refine Yw (JO (by lia)) ?_;obtain⟨x,rfl,e2,_⟩:=hF;refine⟨_,rfl,_,rfl,Ld r _ 0 (.ref as[0]) ⟨rfl,rfl,SqL.of hr2,ZL (by decide) (by rw[Qh];exact congrArg (Option.map V.ref) (Qa (by lia))),Ld (as[0]) _ 0 (.int x) ⟨rfl,rfl,SqL.of (hR.row 0 as[0] (Qa (Sb l1))),ZL (by decide) rfl,_,_,rfl,rfl,.inl (by lia),?_⟩⟩⟩;show Q (.int (sg*x)) H2;exact e2▸k _ s2
  ·rintro σ H2 Q1 Q2 himp ⟨v,e,x,n,e2,hl,i,j,e3,e4,b,e5,q⟩;exact⟨v,e,x,n,e2,hl,i,j,e3,e4,b,e5,himp _ _ q⟩
abbrev Zfl:Stmt:=top 74
def ZlT:Zm ["_law_found"] ["_law_found"] (Zf Zfl):=⟨rfl,rfl,rfl,by simp,rfl,by decide +kernel,by decide +kernel⟩
def Jh:Sp:=fun vs H Q _=>∃ (x:V) (n:String),vs=[x]/\TyB H x n/\Q (.bl (n == "int")) H
def ZhL (D:HasDef K mg "_law_whole" Zfl ["_law_found"]) (B:Blt mg):FOk P w K mg base 1 "_law_whole" ["_law_found"] Jh:=by
 refine D.ok ZlT (fun d H Q E h=>?_) fun f g A b s H d Q E i h=>?_;obtain⟨x,n,rfl,_⟩:=h;rfl;refine Pi h fun x n r0 a k=>?_;subst r0;refine⟨_,Zg (Zn (JJ (Zi Z8 rfl B.isi Zao (Za (pv 0) (Za (JI rfl B.int Zm9) Zc)))
  (Zas (ZjQ (Zi Z8 rfl B.isi Zao (Za (pv 0) (Za (JI rfl B.bool Zok) Zc))))))),⟨_,rfl,x,_,n,rfl,by decide,a,_,rfl,(Zdx (fun e=>?_) fun e=>?_)⟩⟩
 refine⟨_,rfl,x,_,n,rfl,by decide,a,_,rfl,?_⟩;rw[(Zc9 n a.mem).1 e];omega;rw[(Zc9 n a.mem).2 e]at k;omega
end
def ZiM:∀ {n},(∀ i,i<n->Sm k (g i))->(Xu n g).natAbs<=n*2 ^ k
 | 0,_=>by simp[Xu]
 | n+1,h=>by
  have c:=ZiM (n:=n) fun i d=>h i (K4 d);have b:=h n Sc;unfold Sm at b;rw[Xu,RG];omega
def Zof:∀ {n} {f},n<=31->(∀ i j,Sm b (f i j))->Sm (n*(b+5)+1) (det n f)
 | 0,f,_,h=>by
  show(1:Int).natAbs<2 ^ (0*(b+5)+1);rw[Nat.zero_mul];decide
 | n+1,f,hn,h=>by
  rw[det];have h1:∀ i,i<n+1->Sm _ (ZaH i*f i 0*det n fun r c=>f (rmv i r) (c+1)):=fun i _=>by
   have hs:Sm b (ZaH i*f i 0):=by
    have:=h i 0;unfold Sm ZaH at *;split
    lia;omega
   exact hs.mul (Zof (K3 hn) fun r c=>h _ _)
  have h2:=ZiM h1;unfold Sm;have e:(n+1)*(b+5)+1=b+(n*(b+5)+1)+5:=by
   rw[RG];lia
  rw[e,Nat.pow_add];have h3:(n+1)*2 ^ (b+(n*(b+5)+1))<2 ^ (b+(n*(b+5)+1))*2 ^ 5:=by
   rw[R1];exact Nat.mul_lt_mul_of_pos_left (by lia) (Nat.pow_pos (by decide))
  omega
structure Rel (n:Nat) (R:Mat) (F:ZbQ):Prop where
 sq:Sq n R
 at_:∀ i j,i<n->j<n->(R.getD i []).getD j 0=F i j
def Zal {m:List Int}:m.headD 0=m.getD 0 0:=by cases m <;> rfl
def ZkR (l:Mat) (p i):(l.take p++l.drop (p+1)).getD i []=l.getD (rmv p i) []:=by
 unfold rmv;rw[Qb,RM];by_cases b:i<p
 rw[if_pos b];by_cases e:i<l.length
 rw[if_pos (by rw[QH];exact Sg b e),UN b,Qb];rw[if_neg (by rw[QH];exact Si e),WY,Qj (Nf b e),Qb,Qj (G7 e)];rw[if_neg b,Qb];by_cases e:p<=l.length
 rw[if_neg (by rw[QH];exact Sj b),WY,QH];congr 2;exact Ng e b;rw[Qj ((Nh e b):l.length<=i+1)];by_cases c:i<(l.take p).length
 rw[QH]at c;exact (Ni c b).elim;rw[if_neg c,WY,Qj (Nj e)]
def Zjy (h:Sq n R) (hi:i<n):R.getD i []∈R:=by
 rw[Qb,Qa (by rw[h.1];exact hi)];simp
def Rel.next (h:Rel (n+2) R F) (g:Zdv M t d F) (v:d≠0) (o:p<n+2):Rel (n+1) (Zbf R p d) (Zej F d p):=by
 have w:(R.take p++R.drop (p+1)).length=n+1:=by
  rw[Qm,QH,Wa,h.sq.1];lia
 have k:∀ i,i<n+1->(Zbf R p d).getD i []=Zer _ _ d:=fun i c=>by
  unfold Zbf;rw[Qb,Qh,Qa (Kz c w)];have:(R.take p++R.drop (p+1))[i]'(Kz c w)=R.getD (rmv p i) []:=by
   rw[←ZkR,Qb,Qa _];rfl
  rw[this];rfl
 have m:∀ i,i<n+1->rmv p i<n+2:=fun i c=>by unfold rmv;split <;> lia
 have f:∀ i,i<n+2->(R.getD i []).length=n+2:=fun i c=>h.sq.2 _ (Zjy h.sq c);refine⟨⟨by unfold Zbf;rw[Qc,w],fun r l=>?_⟩,fun i j c x=>?_⟩
 obtain⟨q,u,rfl⟩:=Qk.mp l;unfold Zer;rw[Qc,Q3];have:q∈R:=by
  rcases QG.mp u with z | z
  exact Q9 z
  exact WD z
 rw[h.sq.2 q this];rfl
 rw[k i c];unfold Zer;rw[Qb,Qh,Q6 (by rw[f _ (m i c)];lia)];show((R.getD p []).headD 0*(R.getD _ []).getD _ 0-(R.getD _ []).headD 0*(R.getD p []).getD _ 0).fdiv d=Zej F d p i j;rw[Zal,Zal,h.at_ p 0 o Tz,h.at_ _ _ (m i c) (K8 x),h.at_ _ 0 (m i c) Tz,h.at_ p _ o (K8 x),←ZgO g,Rr _ v]
def Zha (hB:∀ (k) (ρ γ:Nat->Nat),k<=31->Sm 3900 (det k fun i j=>M (ρ i) (γ j))):∀ (m t) {R} {F} {d s X},m+1+t<=31->Rel (m+1) R F->Zdv M t d F->d≠0->Sm 3900 d->(s=1\/s = -1)->det (m+1) F=d ^ m*X->FineM (m+1) R s d (s*X)
 | 0,t,R,F,d,s,X,hm,c,hG,hd,hds,hs,e=>by
  match R,c.sq.1,c with
  | [r],_,c =>
   match r,(c.sq.2 r (by simp)),c with
   | [x],_,c =>
    have ex:x=F 0 0:=c.at_ 0 0 Sc Sc;have eX:X=F 0 0:=by
     have:det 1 F=F 0 0:=by simp[det,Xu,ZaH]
     simp_all
    exact⟨x,rfl,by simp_all,hs⟩
 | m+1,t,R,F,d,s,X,hm,c,hG,hd,hds,hs,e=>by
  have ent:∀ i j,Sm 3900 (F i j):=fun i j=>by
   obtain⟨ρ',γ',e1⟩:=hG 0 (fun _=>i) (fun _=>j);have e2:det 1 (fun _ _=>F i j)=F i j:=by simp[det,Xu,ZaH]
   have e3:F i j=det (0+1+t) fun a b=>M (ρ' a) (γ' b):=by
    rw[←e2];simpa using e1
   exact e3▸hB _ _ _ (by lia)
  have inR:∀ r∈R,∀ x∈r,Sm 3900 x:=fun r hr x hx=>by
   obtain⟨i,hi,rfl⟩:=WF hr;obtain⟨j,hj,rfl⟩:=WF hx;have hi':i<m+2:=by rw[←c.sq.1];exact hi
   have hj':j<m+2:=by rw[←c.sq.2 _ hr];exact hj
   have:=c.at_ i j hi' hj'
   simp_all
  have hd0:∀ i,i<m+2->(R.getD i []).headD 0=F i 0:=fun i hi=>by exact Zal▸c.at_ i 0 hi Nn
  refine⟨c.sq,inR,hds,hd,hs,?_⟩;cases f:YZ R with
  | none =>
   have z:∀ i,i<m+2->F i 0=0:=fun i hi=>by
    rw[←hd0 i hi];unfold YZ at f;rw[UL]at f;have:=f _ (Zjy c.sq hi);exact Classical.byContradiction fun q=>by simp_all
   have e0:det (m+2) F=0:=Zhg z;rw[e0]at e;have:X=0:=by
    rcases Int.mul_eq_zero.mp e.symm with q | q
    exact(Vs hd q).elim
    exact q
   show s*X=0;rw[this,Rs]
  | some p =>
   have hp:p<m+2:=by
    unfold YZ at f;rw[Ws]at f;exact c.sq.1▸f.1
   have hne:F p 0≠0:=by
    rw[←hd0 p hp];unfold YZ at f;rw[Ws]at f;obtain⟨h1,h2,_⟩:=f;have e1:R.getD p []=R[p]:=by rw[Qb,Qa h1];rfl
    exact e1▸of_decide_eq_true h2
   have ih:=Zha hB m (t+1) (R:=Zbf R p d) (F:=Zej F d p) (d:=F p 0) (s:=if p % 2=0 then s else -s) (X:=ZaH p*X) (by lia) (c.next hG hd hp) (ZkP hG hd hne) hne (ent p 0) (by split <;> lia) (Zke hG hd hne hp e);have ew:(if p % 2=0 then s else -s)*(ZaH p*X)=s*X:=by
    unfold ZaH;split
    rw[Wr]
    rw[Uq,Uq,Wr,Int.mul_neg,Int.neg_neg]
   rw[ew]at ih;show FineM (m+1) (Zbf R p d) (if p % 2=0 then s else -s) ((R.getD p []).headD 0) (s*X);exact hd0 p hp▸ih
noncomputable def Zqm (R:Mat):ZbQ:=fun i j=>(R.getD i []).getD j 0
def ZpZ (hn:n<=31) (hq:Sq n R) (hb:SmM 120 R):FineM n R 1 1 (det n (Zqm R)):=by
 have ent:∀ i j,Sm 120 (Zqm R i j):=fun i j=>by
  unfold Zqm;by_cases hi:i<R.length
  rw[Qb (l:=R),Qa hi];show Sm 120 (R[i].getD j 0);by_cases hj:j<R[i].length
  rw[Qb,Qa hj];exact hb _ (QA hi) _ (QA hj);rw[Qb,Qj (G7 hj)];show(0:Int).natAbs<2 ^ 120;decide;rw[Qb (l:=R),Qj (G7 hi)];show(0:Int).natAbs<2 ^ 120;decide
 cases n with
 | zero =>
  refine⟨Wf.mp hq.1,rfl⟩
 | succ m =>
  have h:=Zha (fun k ρ γ hk=>(Zof hk fun i j=>ent _ _).up (by lia)) m 0 (F:=Zqm R) (by omega) ⟨hq,fun i j _ _=>rfl⟩ (Zh6 _) (by decide) (Sm.one _ (by decide)) (.inl rfl) (by rw[Int.one_pow,Wr])
  simp_all
noncomputable def Jl:Nat->(Nat->Int)->Int
 | 0,_=>1
 | n+1,g=>Jl n g*g n
def Za8:∀ {n},(∀ i,i<n->g i=h i)->Jl n g=Jl n h
 | 0,_=>rfl
 | n+1,e=>by
  rw[Jl,Jl,Za8 fun i a=>e i (K4 a),e n Sc]
def Zb2 (g):∀ n,Jl (n+1) g=g 0*Jl n fun i=>g (i+1)
 | 0=>by simp[Jl]
 | n+1=>by
  rw[Jl,Zb2 g n,Jl,Q8]
def ZdT:∀ n,Jl n (fun _=>1)=1
 | 0=>rfl
 | n+1=>by rw[Jl,ZdT n];rfl
def ZeI:∀ {n} {B},(∀ k j,j<k->B k j=0)->det n B=Jl n fun i=>B i i
 | 0,_,_=>rfl
 | n+1,B,h=>by
  rw[Zdl fun i a _=>h i 0 a,ZeI fun k j b=>h _ _ (Nm b),Zb2]
section
variable {P:Oc} {w:Of} {K:PySem.W.Frag} {mg:Str->Option Value} {base:Heap}
def ZbO (K) (h:X.K=K:=by rfl):CallR X (.type "tuple") (fun xs H Q=>∃ p ys,xs=[.ref p]/\((SqL K H p ys/\∀ l,H l=none->Q (.ref l) (upd H l (.tup ys)))\/(SqT K H p ys/\Q (.ref p) H))):=by subst h;exact ZJ
def ZjB {c:Hp}:∀ (vs) (f:Nat->List V),(∀ (i) v,vs[i]?=some v->∃ a,v=V.ref a/\c a=some (.tup (f i)))->∃ ts:List Addr,vs=ts.map V.ref/\∀ (i) a,ts[i]?=some a->c a=some (.tup (f i))
 | [],_,_=>⟨[],rfl,fun i a e=>by simp_all⟩
 | v::vs,f,h=>by
  obtain⟨ts,e,j⟩:=ZjB vs _ fun i u m=>h (i+1) u (by simp_all);obtain⟨a,k,_⟩:=h 0 v rfl;refine⟨a::ts,by rw[e,k];rfl,fun i b l=>?_⟩;cases i with
  | zero=>simp_all
  | succ i=>exact j i b (by simp_all)
end
abbrev Pr:=Str×Int
def PairAt (H:Hp) (v:V) (p:Pr):Prop:=∃ b,v= .ref b/\H b=some (.tup [.str p.1,.int p.2])
def HpAt (H:Hp) (v:V) (hp:List Pr):Prop:=∃ a xs,v= .ref a/\H a=some (.tup xs)/\xs.length=hp.length/\∀ i p,hp[i]?=some p->PairAt H (xs.getD i .non) p
def PairAt.same (s:TSame H a) (h:PairAt H v p):PairAt a v p:=by
 obtain⟨b,e,q⟩:=h;exact⟨b,e,s _ _ q⟩
def HpAt.same (s:TSame H d) (h:HpAt H v c):HpAt d v c:=by
 obtain⟨a,f,e,q,l,r⟩:=h;exact⟨a,f,e,s _ _ q,l,fun i p z=>(r i p z).same s⟩
section
variable {P:Oc} {w:Of} {K:PySem.W.Frag} {mg:Str->Option Value} {base:Heap}
def XU {ss:List Str} (h):(ss.map V.str).getD i .non= .str ss[i]:=by
 rw[Qb,Qh,Qa h];rfl
end
end Sh
namespace L2
open PySem PySem.Spec PyProof.Rows
def Zig (hc:X.calm=true):CallR X (.type "list") (fun xs H Q=>∃ (a:Addr) (kvs:List _),xs=[.ref a]/\H a=some (.dK kvs)/\∀ p,H p=none->Q (.ref p) (upd H p (.lst (kvs.map fun f=>kV f.1)))):=by
 intro pins s σ H xs b Q I r h;obtain⟨a,kvs,rfl,ha,q⟩:=h;obtain⟨u,rfl,rfl⟩:=YL r;obtain⟨hz,lo,vs,f,dd⟩:=Zbv I.hok ha;obtain⟨ep,hat⟩:=dd.dictAt;have g:kvs.length=vs.length:=f.length;refine PySem.W.kdl_call (PySem.W.kdl_dict (knd:=ZA X.prog X.w) (kvs:=vs) (ep:=ep) lo) (I.ok.hd hc) hat (Ka hz g) fun h' tk d c' hk hS c=>?_;have hf:H s.heap.objs.size=none:=I.hok.fresh (Ql _);refine ⟨.ref s.heap.objs.size,_,I.laid (t':=tk) (o:=.lst (kvs.map fun f=>kV f.1)) hk (Ql _) ⟨by rw[Qc];exact hz,d.toList,c',?_,by omega⟩,rfl,q _ hf⟩;have hsz:d.toList.length=kvs.length:=by rw[QL,g];exact c.1
 have key:∀ (e:List V) (b:List Value),e.length=b.length->(∀ (i:Nat) (w:V) (u:Value),e[i]?=some w->b[i]?=some u->RelV w u)->Vals e b:=by
  intro e;induction e with
  | nil =>
   intro b hl _;have:b=[]:=Wf.mp hl.symm;subst this;exact .nil
  | cons w e ih =>
   intro b hl h;cases b with
   | nil=>grind
   | cons u b=>exact .cons (h 0 w u rfl rfl) (ih b (by simp_all) fun i w' u' n e2=>h (i+1) w' u' n e2)
 refine key _ _ (by rw[Qc,hsz]) fun i w u n e2=>?_;obtain⟨k,x,hx,hk⟩:=c.2 i u (by simp_all);have ek:=congrArg (fun l:List Key=>l[i]?) f.keys;simp only[Qh]at ek;rw[hx]at ek;rw[Qh]at n;cases ev:kvs[i]? with
 | none=>simp_all
 | some p =>
  rw[ev]at ek n;have ek':p.1=k:=Option.some.inj ek;have e1':kV p.1=w:=Option.some.inj n;subst e1';subst ek';rcases keyIs_shape hk with ⟨j,t,e3,e4⟩ | ⟨y,t,e3,e4⟩
  rw[e3,e4];exact⟨t,rfl⟩
  rw[e3,e4];exact⟨t,rfl⟩
end L2
namespace Sh
open PySem L2 PyProof.Rows
seal L2.PE L2.PS L2.PSs L2.PT L2.PW L2.PA L2.PI L2.PG L2.PGs L2.PO L2.PC L2.PCs L2.OpR L2.UnR L2.CallR L2.MtR L2.IxR L2.SlR
abbrev Zgw:Stmt:=top 75
noncomputable def cD (ks ps:List Str):List (Key×V):=ks.map fun x=>((Sum.inr x:Key),V.int (ps.count x))
structure Cnt (ks ps:List Str):Prop where
 nd:ks.Nodup
 mem:∀ x,x∈ks↔x∈ps
def Zhk (h:Cnt ks ps) (y):∃ a,Cnt a (ps++[y])/\JH (cD ks ps) (Sum.inr y) (.int ((ps.count y)+1))=cD a (ps++[y])/\a.length<=ks.length+1:=by
 have g:∀ x,(ps++[y]).count x=ps.count x+if y=x then 1 else 0:=fun x=>by
  rw[UT,List.count_singleton];simp
 by_cases m:y∈ks
 refine⟨ks,⟨h.nd,fun x=>?_⟩,?_,Uj _⟩;rw[h.mem x,QG,Qr];exact⟨.inl,fun q=>q.elim id fun e=>by exact e▸(h.mem y).mp m⟩;unfold cD;rw[Zab _ _ _ _ m];apply QB;intro x _;by_cases e:x=y
 subst e;simp;have c:¬ y=x:=fun q=>e q.symm;simp[e,c];refine⟨_,⟨Zkf h.nd m,fun x=>?_⟩,?_,by simp⟩;rw[QG,QG,h.mem x];unfold cD;rw[ZaK _ (by rw[Xh,if_neg m]),QM];congr 1;apply QB;intro x d;have c:¬ y=x:=fun q=>m (q▸d);simp[c];simp
def YN {α:Type} [DecidableEq α]:∀ {l B:List α},l.Nodup->(∀ x∈l,x∈B)->l.length<=B.length
 | [],B,_,_=>QT _
 | x::l,B,b,h=>by
  have a:=QX.mp b;have f:=YN (B:=B.erase x) a.2 fun y c=>by
   have e:y≠x:=fun q=>a.1 (q▸c)
   simp_all
  have d:=Wj (h x Qd);have g:=Wc (h x Qd);rw[QC];lia
def ZdO:∀ (r) (p),risingS p r=true->∀ x∈r,¬ x.cps.toList<p.cps.toList
 | [],_,_,x,b=>by cases b
 | y::r,p,h,x,b=>by
  have a:(!Spec.ltCps y.cps.toList p.cps.toList&&risingS y r)=true:=h;rw[QW,ltCps_eq]at a;have c:=by
   have:=a.1;simpa using this
  rcases Qx.mp b with e | e
  rw[e];omega;intro q;exact c (List.lt_of_le_of_lt (WV.mp (ZdO r y a.2 x e)) q)
def ZaW:∀ (l:List Str),sortedS l=true->l.Nodup->(l.map fun x=>x.cps.toList).Pairwise (· < ·)
 | [],_,_=>List.Pairwise.nil
 | p::r,h,f=>by
  have b:=QX.mp f;rw[Qp,WC];refine⟨fun z e=>?_,?_⟩;obtain⟨x,c,rfl⟩:=Qk.mp e;by_cases q:p.cps.toList<x.cps.toList
  omega;have:=ZX (UY (WV.mp ((ZdO r p h) x c)) (WV.mp q));exact absurd (this▸c) b.1;refine ZaW r ?_ b.2;cases r with
  | nil=>rfl
  | cons y q =>
   exact(Bool.and_eq_true_iff.mp h).2
structure ZN (ps:List Str) (hp:List Pr):Prop where
 srt:(hp.map fun p=>p.1.cps.toList).Pairwise (· < ·)
 mem:∀ x,x∈hp.map (·.1)↔x∈ps
 cnt:∀ p∈hp,p.2=ps.count p.1
section
variable {P:Oc} {w:Of} {K:PySem.W.Frag} {mg:Str->Option Value} {base:Heap}
def Zi6 (K:PySem.W.Frag):Sp:=fun vs H Q _=>∃ (a:Addr) (ps B:List Str),vs=[.ref a]/\SqL K H a (ps.map V.str)/\ps.length<=1000/\B.length<=63/\(∀ x∈ps,x∈B)/\∀ v H' hp,Same H H'->HpAt H' v hp->ZN ps hp->Q v H'
def scHeap:Zm ["_law_pieces","_law_found","_law_piece"] ["_law_pieces"] (Zf Zgw):=⟨rfl,rfl,rfl,by decide +kernel,rfl,by decide +kernel,by decide +kernel⟩
def Zj5 (D:HasDef K mg "_law_heap" Zgw ["_law_pieces"]) (B:Blt mg):FOk P w K mg base 1 "_law_heap" ["_law_pieces"] (Zi6 K):=by
 refine D.ok scHeap (fun vs H Q E h=>?_) (fun f cdv A outer s H vs Q E hr h=>?_)
 obtain⟨a,ps,Bd,rfl,_⟩:=h;rfl
 refine B0 ?_;intros;obtain⟨a,ps,Bd,rfl,ha,hl,hB,hsub,k⟩:=h;have hu:=Zdd hr;refine⟨_,Zd (Zo (i:=1) scHeap.nd rfl (.inr rfl) Xl)
  (Zd (Yh PassesOwn.never rfl (ZQ (pv 0)) (ZG (i:=2) scHeap.nd rfl (.inl rfl))
   (Zg (XB hu (pv 1) (pv 2) (Zv Z7 (Y4 hu (pv 1) (pv 2) Zh ⟨rfl,rfl,rfl,rfl⟩) Zh) rfl)))
  (Zg (Zn (ZB ZJ rfl B.tuple Yc (Za (Zx (Zf Zgw) ["_law_pieces","_law_found","_law_piece"] ["_law_piece"] [1] rfl
   (ZQ (Zi ZeP rfl B.sorted Xq (Za (ZB (Zig rfl) rfl B.list ZbA (Za (pv 1) Zc)) Zc))) (fun _ _ _ _ _=>ZW 0) (fun _ _ _ _ _=>ZD)
   (fun _ _ _ _ _=>YW (Za (pv 0) (Za (Zfw hu (pv 1) (pv 0) (fun _ _=>rfl)) Zc)))) Zc))))),?_⟩
 apply B2;intros;intro d hd;have hs0:Same H (upd H d (.dK [])):=Zb hd;refine⟨_,rfl,a,rfl,⟨_,hs0.seq ha⟩,JR (K:=K) (a:=a) (xs:=ps.map V.str) (fun i σ H2=>(∃ z:Option V,σ=[some (.ref a),some (.ref d),z])/\Same H H2/\∃ ks,Cnt ks (ps.take i)/\ks.length<=i/\H2 d=some (.dK (cD ks (ps.take i))))
  ⟨⟨none,rfl⟩,hs0,[],⟨Wx,fun x=>Iff.rfl⟩,Ql _,Ze⟩ (fun i σ H2 _ ⟨_,s2,_⟩=>s2.seq ha) ?_ ?_⟩
 ·rintro i x σ H2 hi ⟨⟨z,rfl⟩,s2,ks,hk,hkl,hdd⟩;have hi':i<ps.length:=by
   have:=(Qo.mp hi).1;rw[Qc]at this;exact this
  rw[Qh,Qa hi']at hi;have ex:x=V.str ps[i]:=(Option.some.inj hi).symm;subst ex;have hg:(XR (cD ks (ps.take i)) (Sum.inr ps[i]:Key)).getD (.int 0)= .int ((ps.take i).count ps[i]):=by
   unfold cD;rw[Xh];split
   ·rfl
   ·rename_i m;have:ps[i]∉ps.take i:=fun q=>m ((hk.mem _).mpr q);rw[Wh this];rfl
  refine Pf (Zhk hk ps[i]) fun ks' hk' ep _=>?_;rw[←QQ hi']at hk' ep;refine⟨_,rfl,d,rfl,.inl ⟨_,.inl hdd⟩,_,rfl,_,DGet.kk (k:=Sum.inr ps[i]) hdd,_,_,hg,rfl,_,rfl,_,rfl,d,_,rfl,DPut.kk (k:=Sum.inr ps[i]) hdd ?_,?_⟩
  ·unfold cD;rw[Qc];exact ZC (Kv hl hi' hkl)
  ·refine⟨⟨_,rfl⟩,fun b o e=>?_,ks',hk',Kw hkl ‹_›,?_⟩
   ·exact Zj (Zl e hd)▸s2 b o e
   ·rw[Ze];exact congrArg (fun l=>some (HO.dK l)) ep
 ·rintro σ H2 ⟨⟨z,rfl⟩,s2,ks,hk,hkl,hdd⟩;rw[QP (by simp)]at hk hdd;have hk63:ks.length<=63:=QO (YN hk.nd fun x hx=>hsub x ((hk.mem x).mp hx)) hB;refine⟨_,rfl,d,_,rfl,hdd,fun p1 hp1=>?_⟩;have e1:(cD ks ps).map (fun kv=>kV kv.1)=ks.map V.str:=by
   unfold cD;rw[QN];rfl
  refine⟨p1,ks,rfl,SqL.of (by rw[Ze,e1]),Kx hk63,fun p2 ss hp2 hperm hsort=>?_⟩;have hsA:Same H2 (upd (upd H2 p1 (.lst ((cD ks ps).map fun kv=>kV kv.1))) p2 (.lst (ss.map V.str))):=(Zb hp1).trans (Zb hp2);have hsl:ss.length=ks.length:=hperm.length_eq;refine⟨p2,rfl,⟨_,SqL.of Ze⟩,Z3 _ (fun i=>(ss.map V.str).getD i .non) (fun i v H=>∀ x,ss[i]?=some x->PairAt H v (x,(ps.count x:Int))) (by rw[Qc];exact Zs (by lia)) (fun i v H H' ts r x e=>(r x e).same ts) (Yi (SqL.of Ze)) ?_ ?_⟩
  ·intro i H3 Qe hi hs kq;have hi':i<ss.length:=by simp_all
   have hd3:H3 d=some (.dK (cD ks ps)):=hs _ _ (hsA _ _ hdd);have hmem:ss[i]∈ks:=hperm.mem_iff.mp (QA hi');rw[XU hi'];have hg:DGet H3 d (.str ss[i]) (some (.int (ps.count ss[i]))):=by
    have:=DGet.kk (k:=Sum.inr ss[i]) hd3;unfold cD at this;rw[Xh,if_pos hmem]at this
    trivial
   refine⟨_,rfl,_,rfl,_,rfl,d,_,rfl,hg,(show 2<=sizeLine by rw[Oj];decide),fun t ht=>kq _ _ (Zb ht) ?_⟩;intro x e;rw[Qa hi']at e;cases e;exact⟨t,rfl,Ze⟩
  ·intro D1 vs1 H3 hlv1 hr1 hs3 hD1 hDl1;rw[Qc]at hlv1;refine ⟨D1,vs1,rfl,.inl ⟨SqL.of hDl1,fun l hl0=>k (.ref l) _ (ss.map fun x=>(x,(ps.count x:Int))) (((s2.trans hsA).trans hs3).trans (Zb hl0)) ?_ ⟨?_,?_,?_⟩⟩⟩
   ·refine⟨l,vs1,rfl,Ze,by rw[Qc];exact hlv1,fun i p e=>?_⟩;rw[Qh]at e;cases ex:ss[i]? with
    | none=>rw[ex]at e;cases e
    | some x =>
     rw[ex]at e;cases e;have hi:i<vs1.length:=by
      have:=(Qo.mp ex).1;exact Kz this hlv1
     rw[Qb,Qa hi];exact(hr1 i _ (Qa hi) x ex).same (Zb hl0).tup
   ·rw[QN];exact ZaW ss hsort (hperm.nodup_iff.mpr hk.nd)
   ·intro x;rw[QN];have:ss.map ((·.1) ∘ fun x=>(x,(ps.count x:Int)))=ss:=by
     conv=>rhs;rw[←Re ss]
     exact QB fun _ _=>rfl
    rw[this,hperm.mem_iff,hk.mem]
   simp
def Yy (h:z.length<=1000):(tx z).length<=sizeLine:=by rw[ZZ];exact Zs (K0 h)
end
section
variable {P:Oc} {w:Of} {K:PySem.W.Frag} {mg:Str->Option Value} {base:Heap} {S C A1 A2 A3 A4 A5 A6 A7 A8:Addr}
def Cd (z:List Nat):Prop:=∀ c∈z,97<=c/\c<=122
end
def XW (h:1<=x.length):Txt.slice x none (some (-1))=bg x:=by
 apply ZX;rw[eq_of_beq (slice_closes_to_neg (by decide) (by lia) rfl)];unfold bg;rw[Yn,U0,Yv];simp;omega
def Jx (h:1<=x.length):Txt.slice x (some 1) none=en x:=by
 apply ZX;rw[Xr (by decide) (Sw h)];rfl
def PA (H:Hp) (vs:List V) (es:Es):Prop:=vs.length=es.length/\∀ (i:Nat) (e:Str×Int),es[i]?=some e->∃ b,vs[i]?=some (.ref b)/\H b=some (.tup [.str e.1,.int e.2])
def PA.same (h:PA H vs es) (s:TSame H a):PA a vs es:=⟨h.1,fun i e q=>by
 obtain⟨b,d,c⟩:=h.2 i e q;exact⟨b,d,s _ _ c⟩⟩
def HeapV (H:Hp) (v:V) (es:Es):Prop:=∃ q vs,v= .ref q/\H q=some (.tup vs)/\PA H vs es
def HeapV.same (h:HeapV H v es) (s:Same H d):HeapV d v es:=by
 obtain⟨q,a,e,c,b⟩:=h;exact⟨q,a,e,s _ _ c,b.same s.tup⟩
structure JW (es:Es):Prop where
 few:es.length<=31
 many:∀ e∈es,0<=e.2/\e.2<=1000
 long:∀ e∈es,1<=e.1.length/\e.1.length<=1000
structure Pts (es:Es) (ks:List Str):Prop where
 nd:ks.Nodup
 mem:∀ P,P∈ks↔∃ e∈es,bg e.1=P\/en e.1=P
 len:ks.length<=2*es.length
def Pts.nil:Pts [] []:=⟨Wx,fun P=>by simp,Ql _⟩
def XQ (ks:List Str) (x:Str):List Str:=if x∈ks then ks else ks++[x]
def Zlq (h:ks.Nodup):(XQ ks x).Nodup:=by
 unfold XQ
 grind
def Zdu:y∈XQ ks x↔y∈ks\/y=x:=by
 unfold XQ
 grind
def JV (ks) (x):(XQ ks x).length<=ks.length+1:=by
 unfold XQ
 grind
def Pts.step {ks} (h:Pts es ks) (e):Pts (es++[e]) (XQ (XQ ks (bg e.1)) (en e.1)) where
 nd:=Zlq (Zlq h.nd)
 mem:=fun P=>by
  rw[Zdu,Zdu,h.mem];constructor;rintro((⟨x,a,q⟩ | q) | q);exact⟨x,Q0 _ a,q⟩;exact⟨e,by simp,.inl q.symm⟩;exact⟨e,by simp,.inr q.symm⟩;rintro⟨x,a,q⟩;rcases QG.mp a with z | z
  exact .inl (.inl ⟨x,z,q⟩);rw[Qr.mp z]at q;rcases q with q | q
  exact .inl (.inr q.symm);exact .inr q.symm
 len:=by
  have b:=JV (XQ ks (bg e.1)) (en e.1);have c:=JV ks (bg e.1);have:=h.len;rw[Qm,QD];lia
def Pts.zero (h:Pts es ks) (b:P∉ks):mo es P=0:=ZfR fun e c=>⟨fun q=>b ((h.mem P).mpr ⟨e,c,.inl q⟩),fun q=>b ((h.mem P).mpr ⟨e,c,.inr q⟩)⟩
def Zoa (b:y∉ks->g y=0):(XR (gD ks g) (Sum.inr y)).getD (.int 0)= .int (g y):=by
 rw[Zey];split
 rfl;rename_i c;rw[b c];rfl
def Zp0 {ss:List Str}:ss.filter p=((Qz ss.length).filter fun i=>p (ss.getD i "")).map fun i=>ss.getD i "":=by
 have e:ss=(Qz ss.length).map fun i=>ss.getD i "":=by
  apply QI;intro i;rw[Qh];by_cases c:i<ss.length
  rw[Q6 c,We,Qb,Qa c];rfl;rw[Qj (G7 c),Qj (by simp;exact G7 c)];rfl
 conv=>lhs;rw[e]
 rw[U3];rfl
def Zo0 (x:Str) (n:Int) (v:V) (H:Hp):Prop:=∃ b,v= .ref b/\H b=some (.tup [.str x,.int n])
def Zq5 {ss:List Str} {f:Str->Int} (k:vs.length=((Qz ss.length).filter fun i=>p (ss.getD i "")).length)
  (n:∀ (j i:Nat) (v),((Qz ss.length).filter fun i=>p (ss.getD i ""))[j]?=some i->vs[j]?=some v->Zo0 (ss.getD i "") (f (ss.getD i "")) v H):PA H vs ((ss.filter p).map fun x=>(x,f x)):=by
 rw[Zp0];refine⟨by rw[Qc,Qc,k],fun j e h=>?_⟩;rw[Qh,Qh]at h;cases g:((Qz ss.length).filter fun i=>p (ss.getD i ""))[j]? with
 | none=>simp_all
 | some i =>
  rw[g]at h;cases h;have c:j<vs.length:=by exact k▸(Qo.mp g).1
  obtain⟨b,m,l⟩:=n j i _ g (Qa c);exact⟨b,by rw[Qa c,m],l⟩
structure SPts (es:Es) (ss:List Str):Prop where
 srt:(ss.map fun x=>x.cps.toList).Pairwise (· < ·)
 pts:Pts es ss
def SPts.of (h:Pts es ks) (p:ss.Perm ks) (s:(ss.map fun x=>x.cps.toList).Pairwise (· < ·)):SPts es ss :=
 ⟨s,p.nodup_iff.mpr h.nd,fun P=>by rw[p.mem_iff,h.mem],by exact p.length_eq▸h.len⟩
section
variable {P:Oc} {w:Of} {K:PySem.W.Frag} {mg:Str->Option Value} {base:Heap}
def Yl {x:Str} (h:x.length<=1000):x.length<=sizeLine:=Zs (K0 h)
abbrev ZcJ:Stmt:=top 1
abbrev ZmA:List Str:=["piece"]
def Zjp:Zm ZmA ["piece"] (Zf ZcJ):=⟨rfl,rfl,rfl,by simp,rfl,by decide +kernel,by decide +kernel⟩
def Zcs:Sp:=fun vs H Q _=>∃ x:Str,vs=[.str x]/\1<=x.length/\x.length<=1000/\Q (.str (bg x)) H
def ZfL (D:HasDef K mg "begin_of" ZcJ ["piece"]):FOk P w K mg base 1 "begin_of" ["piece"] Zcs:=by
 refine D.ok Zjp (fun d H Q E h=>?_) fun f e A a s H d Q E i h=>?_;obtain⟨x,rfl,_⟩:=h;rfl;refine Ph h fun x r0 c g k=>?_;subst r0;refine⟨_,Zg (Zn (ZM YE (pv 0) Z4 (ZV (Jm YQ Zh)))),⟨_,rfl,_,rfl,_,rfl,_,rfl,Yl g,?_⟩⟩;rw[←XW c]at k;omega
abbrev Zjw:Stmt:=top 2
abbrev Zrj:List Str:=["piece"]
def ZoT:Zm Zrj ["piece"] (Zf Zjw):=⟨rfl,rfl,rfl,by simp,rfl,by decide +kernel,by decide +kernel⟩
def Zhw:Sp:=fun vs H Q _=>∃ x:Str,vs=[.str x]/\1<=x.length/\x.length<=1000/\Q (.str (en x)) H
def Zj9 (D:HasDef K mg "end_of" Zjw ["piece"]):FOk P w K mg base 1 "end_of" ["piece"] Zhw:=by
 refine D.ok ZoT (fun d H Q E h=>?_) fun f e A a s H d Q E i h=>?_;obtain⟨x,rfl,_⟩:=h;rfl;refine Ph h fun x r0 c g k=>?_;subst r0;refine⟨_,Zg (Zn (ZM YE (pv 0) (ZV Zh) Z4)),⟨_,rfl,_,rfl,_,rfl,Yl g,?_⟩⟩;rw[←Jx c]at k;omega
end
def Zcr {l m:List Str} (n:(l.map fun x=>x.cps.toList).Pairwise (· < ·)) (g:(m.map fun x=>x.cps.toList).Pairwise (· < ·)) (h:∀ x,x∈l↔x∈m):l=m:=by
 have e:=JZ n g fun c=>by
  simp_all
 have f:∀ (l m:List Str),(l.map fun x=>x.cps.toList)=(m.map fun x=>x.cps.toList)->l=m:=by
  intro l;induction l with
  | nil =>
   simp
  | cons x l i =>
   intro m e;cases m with
   | nil=>cases e
   | cons y m =>
    injection e with j k
    rw[ZX j,i m k]
 exact f l m e
def SPts.one (h:SPts es l) (k:SPts es m):l=m:=Zcr h.srt k.srt fun x=>by rw[h.pts.mem,k.pts.mem]
section
variable {P:Oc} {w:Of} {K:PySem.W.Frag} {mg:Str->Option Value} {base:Heap}
abbrev ZcC:Stmt:=top 6
abbrev Zmv:List Str:=["H","more","piece","many"]
def scMoreOut:Zm Zmv ["H"] (Zf ZcC):=⟨rfl,rfl,rfl,by decide +kernel,rfl,by decide +kernel,by decide +kernel⟩
def ZaU:Sp:=fun vs H Q _=>∃ (v:V) (es:Es),vs=[v]/\HeapV H v es/\JW es/\∀ d H' ks,Same H H'->H' d=some (.dK (gD ks (mo es)))->Pts es ks->Q (.ref d) H'
def ZfD (D:HasDef K mg "more_out" ZcC ["H"]) (g17_:FOk P w K mg base 1 "begin_of" ["piece"] Zcs) (g23_:FOk P w K mg base 1 "end_of" ["piece"] Zhw):FOk P w K mg base 2 "more_out" ["H"] ZaU:=by
 refine D.ok scMoreOut (fun vs H Q E h=>?_) (fun f cdv A outer s H vs Q E hr h=>?_)
 obtain⟨v,es,rfl,_⟩:=h;rfl
 refine B0 ?_;intros;obtain⟨v,es,rfl,⟨q,vs,rfl,hq,hpa⟩,hF,k⟩:=h;have hu:=Zdd hr;refine⟨_,(Zd (Zo (i:=1) scMoreOut.nd rfl (.inl rfl) Xl)
  (Zd (Yh PassesOwn.never rfl (Yb (pv 0)) (Yt 2 K rfl (Zy (ZG (i:=2) scMoreOut.nd rfl (.inl rfl)) (Zy (ZG (i:=3) scMoreOut.nd rfl (.inl rfl)) Ys)))
   (Zd (XB hu (pv 1) (Zu g17_ hr (Za (pv 2) Zc)) (Zv Z7 (Y4 hu (pv 1) (Zu g17_ hr (Za (pv 2) Zc)) Zh ⟨rfl,rfl,rfl,rfl⟩) (pv 3)) rfl)
  (Zg (XB hu (pv 1) (Zu g23_ hr (Za (pv 2) Zc)) (Zv Xe (Y4 hu (pv 1) (Zu g23_ hr (Za (pv 2) Zc)) Zh ⟨rfl,rfl,rfl,rfl⟩) (pv 3)) rfl))))
  (Zg (Zn (pv 1))))),?_⟩
 apply B2;intros;intro d hd;have s1:=Zb (o:=.dK []) hd;refine⟨_,rfl,q,rfl,⟨_,SqT.of (s1 _ _ hq)⟩,?_⟩;refine Y9 (K:=K) (a:=q) (xs:=vs) (fun i σ H2=>(∃ z2 z3:Option V,σ=[some (.ref q),some (.ref d),z2,z3])/\Same H H2/\∃ ks,Pts (es.take i) ks/\H2 d=some (.dK (gD ks (mo (es.take i)))))
  ⟨⟨none,none,rfl⟩,s1,[],Pts.nil,Ze⟩ (fun i σ H2 _ ⟨_,s2,_⟩=>SqT.of (s2 _ _ hq)) ?_ ?_
 rintro i x σ H2 hi ⟨⟨z2,z3,rfl⟩,s2,ks,hk,hdd⟩;have hiv:i<vs.length:=(Qo.mp hi).1;have hie:i<es.length:=by rw[←hpa.1];exact hiv
 refine Pe (hpa.2 i es[i] (Qa hie)) fun b e1 e2=>?_;rw[hi]at e1;cases e1;obtain⟨l1,l2⟩:=hF.long es[i] (QA hie);have hkl:=hk.len;have hfew:=hF.few;rw[QH]at hkl;refine⟨b,_,rfl,SqT.of (s2 _ _ e2),rfl,_,_,rfl,_,_,rfl,rfl,?_⟩;apply B3;intros;have het:es.take (i+1)=es.take i++[es[i]]:=QQ hie;generalize es[i]=e at *;have hg:=Zoa (ks:=ks) (g:=mo (es.take i)) (fun(hP:bg e.1∉ks)=>hk.zero hP);refine⟨_,rfl,d,rfl,.inl ⟨_,.inl hdd⟩,_,rfl,e.1,rfl,l1,l2,_,DGet.kk (k:=Sum.inr (bg e.1)) hdd,_,rfl,_,_,hg,rfl,_,rfl,_,rfl,e.1,rfl,l1,l2,d,_,rfl,DPut.kk (k:=Sum.inr (bg e.1)) hdd (by rw[Zav];exact ZC (by omega)),?_⟩;rw[Zez];have hdd2:(upd H2 d (.dK (gD (XQ ks (bg e.1)) fun x=>if x=bg e.1 then mo (es.take i) (bg e.1)+e.2 else mo (es.take i) x))) d=some (.dK (gD (XQ ks (bg e.1)) fun x=>if x=bg e.1 then mo (es.take i) (bg e.1)+e.2 else mo (es.take i) x)):=Ze;have hg2:=Zoa (ks:=XQ ks (bg e.1)) (g:=fun x=>if x=bg e.1 then mo (es.take i) (bg e.1)+e.2 else mo (es.take i) x) (y:=en e.1) fun hP=>by
  rw[Zdu,not_or]at hP;rw[if_neg hP.2,hk.zero hP.1]
 have hal:=JV ks (bg e.1);refine ⟨_,rfl,d,rfl,.inl ⟨_,.inl hdd2⟩,_,rfl,e.1,rfl,l1,l2,_,DGet.kk (k:=Sum.inr (en e.1)) hdd2,_,rfl,_,_,hg2,rfl,_,rfl,_,rfl,e.1,rfl,l1,l2,d,_,rfl,DPut.kk (k:=Sum.inr (en e.1)) hdd2 (by rw[Zav];exact ZC (by lia)),⟨⟨_,_,rfl⟩,fun c u hc=>?_,XQ (XQ ks (bg e.1)) (en e.1),by exact het▸hk.step e,?_⟩⟩
 rw[ZaP,Zj (Zl hc hd)];exact s2 c u hc
 rw[Ze,Zez,het];refine congrArg (fun l=>some (HO.dK l)) (Zg8 fun x _=>?_);rw[Zpx];unfold mo1 ind;by_cases c1:x=en e.1
 ·subst c1;rw[if_pos rfl,if_pos rfl];by_cases c2:en e.1=bg e.1
  ·rw[if_pos c2,if_pos c2.symm,c2];lia
  ·rw[if_neg c2,if_neg (Ne.symm c2)];lia
 ·rw[if_neg c1,if_neg (Ne.symm c1)];by_cases c2:x=bg e.1
  ·subst c2;rw[if_pos rfl,if_pos rfl];lia
  ·rw[if_neg c2,if_neg (Ne.symm c2)];lia
 rintro σ H2 ⟨⟨z2,z3,rfl⟩,s2,ks,hk,hdd⟩;rw[hpa.1,WU]at hk hdd;exact⟨_,rfl,k d H2 ks s2 hdd hk⟩
abbrev JG:Stmt:=top 7
abbrev Zen:List Str:=["H"]
def ZhB:Zm Zen ["H"] (Zf JG):=⟨rfl,rfl,rfl,by simp,rfl,by decide +kernel,by decide +kernel⟩
def Jw:Sp:=fun vs H Q _=>∃ (v:V) (es:Es),vs=[v]/\HeapV H v es/\JW es/\∀ v' H' ss,Same H H'->HeapV H' v' (ups (mo es) ss)->SPts es ss->Q v' H'
def Zeh (D:HasDef K mg "begins_of" JG ["H"]) (B:Blt mg) (l:FOk P w K mg base 2 "more_out" ["H"] ZaU):FOk P w K mg base 3 "begins_of" ["H"] Jw:=by
 refine D.ok ZhB (fun vs H Q E h=>?_) (fun f cdv A outer s H vs Q E hr h=>?_)
 obtain⟨v,e,rfl,_⟩:=h;rfl
 refine B0 ?_;intros;obtain⟨v,e,rfl,hV,hF,k⟩:=h;refine ⟨_,(Zg (Zn (ZB ZJ rfl B.tuple Yc (Za (Zx (Zf JG) Zen ["point","more"] [] rfl (ZQ (Zi (XN rfl) rfl B.sorted Xq (Za (ZcO (Zu l hr (Za (pv 0) Zc))) Zc))) (fun _ _ _ _ _=>Yt 2 K rfl (Zy (ZW 0) (Zy (ZW 1) Ys))) (fun _ _ _ _ _=>Zac (Zq Xv (pv 1) Zh (Zr _))) (fun _ _ _ _ _=>(YW (Za (pv 0) (Za (pv 1) Zc))))) Zc)))),⟨_,rfl,v,e,rfl,hV,hF,fun d H1 ks s1 hd hP=>⟨d,_,rfl,hd,fun p hp=>?_⟩⟩⟩;have hkl:=hP.len;have hfew:=hF.few;refine Ld p d ks (fun x=>.int (mo e x)) ⟨rfl,Ze,Zb hp _ _ hd,hP.nd,N8 hfew hkl,fun D1 H2 vs a s2 m n j hl hv=>?_⟩;have hss:=m.length_eq;refine⟨D1,rfl,⟨_,SqL.of j⟩,ZfW a.length (fun i=>vs.getD i .non) (fun i=>decide (0<(mo e) (a.getD i ""))) (fun i v H=>Zo0 (a.getD i "") ((mo e) (a.getD i "")) v H) (Zk (N9 hkl hss hfew)) (fun i v H H' hs=>B9 fun b e1 e2=>⟨b,e1,hs _ _ e2⟩) (by have:=Yi (K:=K) (SqL.of j);rw[hl]at this;trivial) ?_ ?_⟩
 intro i H3 Qt Qf hi hs ht hf;obtain⟨b,e1,e2⟩:=hv i a[i] (Qa hi);have ev:vs.getD i .non= .ref b:=by rw[Qb,e1];rfl
 have es1:a.getD i "" = a[i]:=by rw[Qb,Qa hi];rfl
 rw[es1]at ht hf;rw[ev];refine ⟨b,_,rfl,SqT.of (hs _ _ e2),rfl,_,_,rfl,_,_,rfl,rfl,⟨_,rfl,_,_,rfl,rfl,_,rfl,?_⟩⟩;by_cases c:0<(mo e) a[i]
 refine YG (decide_eq_true c) (⟨_,rfl,_,rfl,Zk (show 2<=1000 by decide),fun r hr=>ht (decide_eq_true c) _ _ (Zb hr) ⟨r,rfl,Ze⟩⟩)
 exact Yw (decide_eq_false c) (hf (decide_eq_false c) _ (Same.refl _))
 intro D2 g H3 hl2 hR hs3 hD2 hDl;refine⟨D2,g,rfl,.inl ⟨SqL.of hDl,fun q hq=>?_⟩⟩;have sq:=Zb (o:=.tup g) hq;exact k (.ref q) _ a (((s1.trans (Zb hp)).trans s2).trans (hs3.trans sq)) ⟨q,g,rfl,Ze,(Zq5 (f:=fun x=>(mo e) x) hl2 hR).same sq.tup⟩ (SPts.of hP m n)
abbrev ZcH:Stmt:=top 8
abbrev Zkm:List Str:=["H"]
def ZlZ:Zm Zkm ["H"] (Zf ZcH):=⟨rfl,rfl,rfl,by simp,rfl,by decide +kernel,by decide +kernel⟩
def ZnF:Sp:=fun vs H Q _=>∃ (v:V) (es:Es),vs=[v]/\HeapV H v es/\JW es/\∀ v' H' ss,Same H H'->HeapV H' v' (ups (fun y=>-mo es y) ss)->SPts es ss->Q v' H'
def ZhV (D:HasDef K mg "ends_of" ZcH ["H"]) (B:Blt mg) (l:FOk P w K mg base 2 "more_out" ["H"] ZaU):FOk P w K mg base 3 "ends_of" ["H"] ZnF:=by
 refine D.ok ZlZ (fun o H Q E h=>?_) (fun f cdv A outer s H o Q E hr h=>?_)
 obtain⟨v,e,rfl,_⟩:=h;rfl
 refine B0 ?_;intros;obtain⟨v,e,rfl,hV,hF,k⟩:=h;refine ⟨_,(Zg (Zn (ZB ZJ rfl B.tuple Yc (Za (Zx (Zf ZcH) Zkm ["point","more"] [] rfl (ZQ (Zi (XN rfl) rfl B.sorted Xq (Za (ZcO (Zu l hr (Za (pv 0) Zc))) Zc))) (fun _ _ _ _ _=>Yt 2 K rfl (Zy (ZW 0) (Zy (ZW 1) Ys))) (fun _ _ _ _ _=>Zac (Zq ZjZ (pv 1) Zh (Zr _))) (fun _ _ _ _ _=>(YW (Za (pv 0) (Za (Jm YQ (pv 1)) Zc))))) Zc)))),⟨_,rfl,v,e,rfl,hV,hF,fun d H1 ks s1 hd hP=>⟨d,_,rfl,hd,fun p hp=>?_⟩⟩⟩;have hkl:=hP.len;have hfew:=hF.few;refine Ld p d ks (fun x=>.int (mo e x)) ⟨rfl,Ze,Zb hp _ _ hd,hP.nd,N8 hfew hkl,fun D1 H2 o a s2 m n j hl hv=>?_⟩;have hss:=m.length_eq;refine⟨D1,rfl,⟨_,SqL.of j⟩,ZfW a.length (fun i=>o.getD i .non) (fun i=>decide (0<(fun y=>-mo e y) (a.getD i ""))) (fun i v H=>Zo0 (a.getD i "") ((fun y=>-mo e y) (a.getD i "")) v H) (Zk (N9 hkl hss hfew)) (fun i v H H' hs=>B9 fun b e1 e2=>⟨b,e1,hs _ _ e2⟩) (by have:=Yi (K:=K) (SqL.of j);rw[hl]at this;trivial) ?_ ?_⟩
 intro i H3 Qt Qf hi hs ht hf;obtain⟨b,e1,e2⟩:=hv i a[i] (Qa hi);have ev:o.getD i .non= .ref b:=by rw[Qb,e1];rfl
 have es1:a.getD i "" = a[i]:=by rw[Qb,Qa hi];rfl
 rw[es1]at ht hf;rw[ev];refine ⟨b,_,rfl,SqT.of (hs _ _ e2),rfl,_,_,rfl,_,_,rfl,rfl,⟨_,rfl,_,_,rfl,rfl,_,rfl,?_⟩⟩;by_cases c:0<(fun y=>-mo e y) a[i]
 refine YG (decide_eq_true (by simp_all)) (⟨_,rfl,_,rfl,_,rfl,Zk (show 2<=1000 by decide),fun r hr=>ht (decide_eq_true c) _ _ (Zb hr) ⟨r,rfl,Ze⟩⟩)
 exact Yw (decide_eq_false (by have c:=c;dsimp only at c;lia)) (hf (decide_eq_false c) _ (Same.refl _))
 intro D2 g H3 hl2 hR hs3 hD2 hDl;refine⟨D2,g,rfl,.inl ⟨SqL.of hDl,fun q hq=>?_⟩⟩;have sq:=Zb (o:=.tup g) hq;exact k (.ref q) _ a (((s1.trans (Zb hp)).trans s2).trans (hs3.trans sq)) ⟨q,g,rfl,Ze,(Zq5 (f:=fun x=>(fun y=>-mo e y) x) hl2 hR).same sq.tup⟩ (SPts.of hP m n)
end
end Sh
namespace L2
open PySem PySem.Spec PyProof.Rows
def Zp8:Oi "set" = some (.type "set"):=by rfl
end L2
namespace Sh
open PySem L2 PyProof.Rows
seal L2.PE L2.PS L2.PSs L2.PT L2.PW L2.PA L2.PI L2.PG L2.PGs L2.PO L2.PC L2.PCs L2.OpR L2.UnR L2.CallR L2.MtR L2.IxR L2.SlR
def Zcp {es:Es} {f:Str->Str} (g:vs.length=es.length) (c:∀ (i) (v:V),vs[i]?=some v->v= .str (f (es.getD i ("",0)).1)):vs=(es.map fun e=>f e.1).map V.str:=by
 apply QI;intro i;by_cases b:i<vs.length
 have a:i<es.length:=V6 g b
 rw[Qa b,c i _ (Qa b),Qh,Qh,Qb,Qa a];rfl;rw[Qj (G7 b),Qj (by rw[Qc,Qc];exact Np g b)]
section
variable {P:Oc} {w:Of} {K:PySem.W.Frag} {mg:Str->Option Value} {base:Heap}
def TupS (H:Hp) (v:V) (ss:List Str):Prop:=∃ q,v= .ref q/\H q=some (.tup (ss.map V.str))
def TupS.same (h:TupS H v ss) (s:Same H H'):TupS H' v ss:=by
 obtain⟨q,e,e2⟩:=h;exact⟨q,e,s _ _ e2⟩
abbrev Xz:Stmt:=top 4
noncomputable abbrev Zbg:List Str:=["H"]
def Zhz:Zm Zbg ["H"] (Zf Xz):=⟨rfl,rfl,rfl,by simp,rfl,by decide +kernel,by decide +kernel⟩
def Jv:Sp:=fun vs H Q _=>∃ (v:V) (es:Es),vs=[v]/\HeapV H v es/\JW es/\∀ v' H' ss,Same H H'->TupS H' v' ss->SPts es ss->Q v' H'
def Zd8 (D:HasDef K mg "points_of" Xz ["H"]) (B:Blt mg) (t:FOk P w K mg base 1 "begin_of" ["piece"] Zcs) (C:FOk P w K mg base 1 "end_of" ["piece"] Zhw):FOk P w K mg base 2 "points_of" ["H"] Jv:=by
 refine D.ok Zhz (fun m H Q E h=>?_) (fun f cdv A outer s H m Q E hr h=>?_)
 obtain⟨v,a,rfl,_⟩:=h;rfl
 refine B0 ?_;intros;obtain⟨v,a,rfl,⟨q,m,rfl,hq,n⟩,hF,k⟩:=h;refine⟨_,(Zg (Zn (ZB ZJ rfl B.tuple Yc (Za (Zi (XM rfl) rfl B.sorted Xq (Za (ZB (Zby rfl) rfl B.set Zp8 (Za (Zv Zd0 (Zx (Zf Xz) Zbg ["piece","many"] [] rfl (Yb (pv 0)) (fun _ _ _ _ _=>Yt 2 K rfl (Zy (ZW 0) (Zy (ZW 1) Ys))) (fun _ _ _ _ _=>ZD) (fun _ _ _ _ _=>(Zu t hr (Za (pv 0) Zc))))
  (Zx (Zf Xz) Zbg ["piece","many"] [] rfl (Yb (pv 0)) (fun _ _ _ _ _=>Yt 2 K rfl (Zy (ZW 0) (Zy (ZW 1) Ys))) (fun _ _ _ _ _=>ZD) (fun _ _ _ _ _=>(Zu C hr (Za (pv 0) Zc))))) Zc)) Zc)) Zc)))),?_⟩
 have hfew:=hF.few;have hvl:=n.1;refine⟨_,rfl,q,rfl,⟨_,SqT.of hq⟩,Z3 m.length (fun i=>m.getD i .non) (fun i v _=>v= .str (bg (a.getD i ("",0)).1)) (Zk (Mo hfew hvl)) (fun _ _ _ _ _ r=>r) (Xg (SqT.of hq)) ?_ ?_⟩
 intro i H3 Qe hi hs kq;have c:i<a.length:=V6 hvl hi
 obtain⟨b,e1,e2⟩:=n.2 i a[i] (Qa c);have ev:m.getD i .non= .ref b:=by rw[Qb,e1];rfl
 have ee:a.getD i ("",0)=a[i]:=by rw[Qb,Qa c];rfl
 obtain⟨l1,l2⟩:=hF.long a[i] (QA c);rw[ev];refine⟨b,_,rfl,SqT.of (hs _ _ e2),rfl,_,_,rfl,_,_,rfl,rfl,_,rfl,a[i].1,rfl,l1,l2,kq _ _ (Same.refl _) ?_⟩;rw[ee]
 intro D1 vs1 H3 hl1 hr1 d hD1 j;rw[Zcp (f:=bg) (T9 hvl hl1) hr1]at j;refine⟨_,rfl,q,rfl,⟨_,SqT.of (d _ _ hq)⟩,Z3 m.length (fun i=>m.getD i .non) (fun i v _=>v= .str (en (a.getD i ("",0)).1)) (Zk (Mo hfew hvl)) (fun _ _ _ _ _ r=>r) (Xg (SqT.of (d _ _ hq))) ?_ ?_⟩
 intro i H4 Qe hi hs kq;have c:i<a.length:=V6 hvl hi
 obtain⟨b,e1,e2⟩:=n.2 i a[i] (Qa c);have ev:m.getD i .non= .ref b:=by rw[Qb,e1];rfl
 have ee:a.getD i ("",0)=a[i]:=by rw[Qb,Qa c];rfl
 obtain⟨l1,l2⟩:=hF.long a[i] (QA c);rw[ev];refine⟨b,_,rfl,SqT.of (hs _ _ (d _ _ e2)),rfl,_,_,rfl,_,_,rfl,rfl,_,rfl,a[i].1,rfl,l1,l2,kq _ _ (Same.refl _) ?_⟩;rw[ee]
 intro D2 vs2 H4 hl2 hr2 u hD2 g;rw[Zcp (f:=en) (T9 hvl hl2) hr2]at g;refine Ld D1 D2 _ _ ⟨rfl,rfl,u _ _ j,g,Zk (by simp only[Qc];exact Mp hfew),fun p hp=>⟨p,_,rfl,SqL.of (by rw[Ze,QM]),by simp only[Qm,Qc];exact Mp hfew,fun p2 ks hp2 hnd G hkl=>?_⟩⟩;have F:ks.length<=2*a.length:=by simp only[Qm,Qc]at hkl;exact Mq hkl
 refine ⟨p2,ks,rfl,Ze,N8 hfew F,fun q2 ss hq2 hpm y=>⟨q2,_,rfl,.inl ⟨SqL.of Ze,fun l hl=>k (.ref l) _ ss (((((d.trans u).trans (Zb (o:=.lst ((a.map fun e=>bg e.1).map V.str++(a.map fun e=>en e.1).map V.str)) hp)).trans (Zb hp2)).trans (Zb hq2)).trans (Zb hl)) ⟨l,rfl,Ze⟩ (SPts.of (ks:=ks) ⟨hnd,fun x=>?_,F⟩ hpm y)⟩⟩⟩;rw[G,QG,Qk,Qk];constructor
 rintro(⟨e,o,z⟩ | ⟨e,o,z⟩)
 exact⟨e,o,.inl z⟩
 exact⟨e,o,.inr z⟩
 rintro⟨e,o,z | z⟩
 exact .inl ⟨e,o,z⟩
 exact .inr ⟨e,o,z⟩
end
noncomputable def rD (ks:List Str) (adr:Str->Addr):List (Key×V):=ks.map fun x=>((Sum.inr x:Key),V.ref (adr x))
def ZjE (ks) (b):(rD ks b).length=ks.length:=by unfold rD;simp
def Zar (ks) (adr) (y):XR (rD ks adr) (Sum.inr y)=if y∈ks then some (.ref (adr y))else none:=Xh _ y ks
def ZnR (h:y∉ks):JH (rD ks a) (Sum.inr y) (.ref p)=rD (ks++[y]) fun x=>if x=y then p else a x:=by
 rw[ZaK _ (by rw[Zar,if_neg h])];unfold rD;rw[QM,Wt];dsimp only;rw[if_pos rfl];congr 1;refine QB fun x b=>?_;rw[if_neg fun e:x=y=>h (e▸b)]
structure TJ (H H2:Hp) (d:Addr) (ks:List Str) (adr:Str->Addr) (r:Str->List Str):Prop where
 sm:Same H H2
 dn:H d=none
 dd:H2 d=some (.dK (rD ks adr))
 nd:ks.Nodup
 row:∀ P∈ks,H2 (adr P)=some (.lst ((r P).map V.str))
 fresh:∀ P∈ks,H (adr P)=none
 inj:∀ P∈ks,∀ P'∈ks,adr P=adr P'->P=P'
 out:∀ P,P∉ks->r P=[]
noncomputable def Zf9 (r:Str->List Str) (P y:Str):Str->List Str:=fun x=>if x=P then r P++[y]else r x
def Zhq:z∈Zf9 r P y x↔z∈r x\/(x=P/\z=y):=by
 unfold Zf9
 grind
def Zdt (h:∀ x,(r x).length<=n) (x):(Zf9 r P y x).length<=n+1:=by
 unfold Zf9
 grind
def TJ.ne (J:TJ H c d ks a r) (b:P∈ks):a P≠d:=fun e=>by
 have:=J.row P b;rw[e,J.dd]at this
 simp_all
def TJ.old (J:TJ H i d ks g r) (a:P∈ks) (k:i p=none) :
  TJ H (upd (upd i p (.lst [])) (g P) (.lst ((r P).map V.str++[.str y]))) d (XQ ks P) g (Zf9 r P y):=by
 have m:XQ ks P=ks:=by unfold XQ;rw[if_pos a]
 rw[m];have h:=Zb (o:=.lst []) k;refine⟨fun b u j=>?_,J.dn,?_,J.nd,fun Q f=>?_,J.fresh,J.inj,fun Q f=>?_⟩;rw[Zj fun e=>by rw[e,J.fresh P a]at j;grind];exact h _ _ (J.sm b u j);exact Zj (Ne.symm (J.ne a))▸h _ _ J.dd;unfold Zf9;by_cases c:Q=P
 subst c;rw[Ze,if_pos rfl,QM];rfl;rw[if_neg c,Zj fun e=>c (J.inj Q f P a e)];exact h _ _ (J.row Q f);unfold Zf9;rw[if_neg fun e:Q=P=>f (e▸a)];exact J.out Q f
def TJ.new (J:TJ H H2 d ks adr r) (hP:P∉ks) (hp:H2 p=none) :
  TJ H (upd (upd (upd H2 p (.lst [])) d (.dK (rD (ks++[P]) fun x=>if x=P then p else adr x))) p (.lst ([]++[.str y]))) d (XQ ks P) (fun x=>if x=P then p else adr x) (Zf9 r P y):=by
 have ek:XQ ks P=ks++[P]:=by unfold XQ;rw[if_neg hP]
 rw[ek];have hpd:d≠p:=fun e=>by rw[←e,J.dd]at hp;grind
 have hpa:∀ Q∈ks,adr Q≠p:=fun Q hQ e=>by have:=J.row Q hQ;simp_all
 have mm:∀ Q,Q∈ks++[P]->Q∈ks\/Q=P:=fun Q h=>by simp_all
 refine⟨fun b u hb=>?_,J.dn,?_,?_,fun Q hQ=>?_,fun Q hQ=>?_,fun Q hQ Q' hQ' e=>?_,fun Q hQ=>?_⟩
 ·have h2:=J.sm b u hb;rw[Zj (Zl h2 hp),Zj (Zl hb J.dn),Zj (Zl h2 hp)];omega
 ·rw[Zj hpd,Ze]
 ·exact Wg.mpr ⟨J.nd,by simp,fun a ha b hb e=>by simp_all⟩
 ·unfold Zf9;by_cases c:Q=P
  ·subst c;rw[if_pos rfl,if_pos rfl,Ze,J.out Q hP];rfl
  ·rw[if_neg c,if_neg c];have hQ':Q∈ks:=(mm Q hQ).resolve_right c;rw[Zj (hpa Q hQ'),Zj (J.ne hQ'),Zj (hpa Q hQ')];exact J.row Q hQ'
 ·skip
  by_cases c:Q=P
  ·rw[if_pos c];cases hh:H p with
   | none=>rfl
   | some u=>have:=J.sm p u hh;rw[hp]at this;cases this
  ·rw[if_neg c];exact J.fresh Q ((mm Q hQ).resolve_right c)
 ·skip
  by_cases c:Q=P
  ·by_cases c':Q'=P
   ·simp_all
   ·rw[if_pos c,if_neg c']at e;exact absurd e.symm (hpa Q' ((mm Q' hQ').resolve_right c'))
  ·by_cases c':Q'=P
   ·rw[if_neg c,if_pos c']at e;exact absurd e (hpa Q ((mm Q hQ).resolve_right c))
   ·rw[if_neg c,if_neg c']at e;exact J.inj Q ((mm Q hQ).resolve_right c) Q' ((mm Q' hQ').resolve_right c') e
 ·have h1:Q∉ks:=fun z=>hQ (Q0 _ z);have h2:¬ Q=P:=fun z=>hQ (by simp[z]);unfold Zf9;rw[if_neg h2];exact J.out Q h1
def TiR (H:Hp) (q d:Addr) (es:Es) (i:Nat):L2.St->Hp->Prop:=fun σ H2=>(∃ z2 z3:Option V,σ=[some (.ref q),some (.ref d),z2,z3])/\∃ ks adr r,TJ H H2 d ks adr r/\Pts (es.take i) ks/\(∀ P y,y∈r P↔Adj (es.take i) P y)/\∀ P,(r P).length<=2*i
section
variable {P:Oc} {w:Of} {K:PySem.W.Frag} {mg:Str->Option Value} {base:Heap}
abbrev Ji:Stmt:=top 15
noncomputable abbrev ZfN:List Str:=["H","tied","piece","many"]
def scTiedPoints:Zm ZfN ["H"] (Zf Ji):=⟨rfl,rfl,rfl,by decide +kernel,rfl,by decide +kernel,by decide +kernel⟩
def Znq:Sp:=fun vs H Q _=>∃ (v:V) (es:Es),vs=[v]/\HeapV H v es/\JW es/\∀ d H' ks adr r,TJ H H' d ks adr r->Pts es ks->(∀ P y,y∈r P↔Adj es P y)->(∀ P,(r P).length<=128)->Q (.ref d) H'
def ZbG (D:HasDef K mg "tied_points" Ji ["H"]) (g17_:FOk P w K mg base 1 "begin_of" ["piece"] Zcs) (g23_:FOk P w K mg base 1 "end_of" ["piece"] Zhw):FOk P w K mg base 2 "tied_points" ["H"] Znq:=by
 refine D.ok scTiedPoints (fun vs H Q E h=>?_) (fun f cdv A outer s H vs Q E hr h=>?_)
 ·obtain⟨v,es,rfl,_⟩:=h;rfl
 ·refine B0 ?_;intros;obtain⟨v,es,rfl,⟨q,vs,rfl,hq,hpa⟩,hF,k⟩:=h;refine⟨_,(Zd (Zo (i:=1) scTiedPoints.nd rfl (.inl rfl) Xl)
   (Zd (Yh PassesOwn.never rfl (Yb (pv 0)) (Yt 2 K rfl (Zy (ZG (i:=2) scTiedPoints.nd rfl (.inl rfl)) (Zy (ZG (i:=3) scTiedPoints.nd rfl (.inl rfl)) Ys)))
    (Zd (ZT (Y2 F.plainAttrs_list F.slot_list_append F.type_list_append Z9 (Zfv (pv 1) (Zu g17_ hr (Za (pv 2) Zc)) (Z2 Zc) ⟨rfl,rfl,rfl,rfl⟩) (Za (Zu g23_ hr (Za (pv 2) Zc)) Zc)))
   (Zg (ZT (Y2 F.plainAttrs_list F.slot_list_append F.type_list_append Z9 (Zfv (pv 1) (Zu g23_ hr (Za (pv 2) Zc)) (Z2 Zc) ⟨rfl,rfl,rfl,rfl⟩) (Za (Zu g17_ hr (Za (pv 2) Zc)) Zc))))))
   (Zg (Zn (pv 1))))),?_⟩
  apply B2;intros;intro d hd;have s1:=Zb (o:=.dK []) hd;refine⟨_,rfl,q,rfl,⟨_,SqT.of (s1 _ _ hq)⟩,?_⟩;refine Y9 (K:=K) (a:=q) (xs:=vs) (fun i σ H2=>(∃ z2 z3:Option V,σ=[some (.ref q),some (.ref d),z2,z3])/\∃ ks adr r,TJ H H2 d ks adr r/\Pts (es.take i) ks/\(∀ P y,y∈r P↔Adj (es.take i) P y)/\∀ P,(r P).length<=2*i)
   ⟨⟨none,none,rfl⟩,[],fun _=>d,fun _=>[],⟨s1,hd,Ze,Wx,(fun P h=>by cases h),(fun P h=>by omega),(fun P h=>by simp),fun _ _=>rfl⟩,Pts.nil,(fun P y=>by simp[Adj]),fun P=>Ql _⟩ (fun i σ H2 _ ⟨_,_,_,_,J,_⟩=>SqT.of (J.sm _ _ hq)) ?_ ?_
  ·rintro i x σ H2 hi ⟨⟨z2,z3,rfl⟩,ks,adr,r,J,hk,hadj,hlen⟩;have hiv:i<vs.length:=(Qo.mp hi).1;have hie:i<es.length:=by rw[←hpa.1];exact hiv
   refine Pe (hpa.2 i es[i] (Qa hie)) fun b e1 e2=>?_;rw[hi]at e1;cases e1;obtain⟨l1,l2⟩:=hF.long es[i] (QA hie);have hkl:=hk.len;have hfew:=hF.few;rw[QH]at hkl;refine⟨b,_,rfl,SqT.of (J.sm _ _ e2),rfl,_,_,rfl,_,_,rfl,rfl,?_⟩;apply B3;intros;have het:es.take (i+1)=es.take i++[es[i]]:=QQ hie;generalize es[i]=e at *;have one:∀ (H3:Hp) (ks3:List Str) (adr3:Str->Addr) (r3:Str->List Str) (P y:Str) (R:L2.St->Hp->Prop) (σ3:L2.St),TJ H H3 d ks3 adr3 r3->ks3.length<=500->(∀ x,(r3 x).length<=500)->(∀ H4 adr4,TJ H H4 d (XQ ks3 P) adr4 (Zf9 r3 P y)->R σ3 H4)->∀ p,H3 p=none ->
     (∀ v,XR (rD ks3 adr3) (Sum.inr P:Key)=some v->∃ l xs,v= .ref l/\(upd H3 p (.lst [])) l=some (.lst xs)/\xs.length<sizeLine/\R σ3 (upd (upd H3 p (.lst [])) l (.lst (xs++[.str y])))) /\
     (XR (rD ks3 adr3) (Sum.inr P:Key)=none->∃ xs,(upd (upd H3 p (.lst [])) d (.dK (JH (rD ks3 adr3) (Sum.inr P) (.ref p)))) p=some (.lst xs)/\xs.length<sizeLine/\R σ3 (upd (upd (upd H3 p (.lst [])) d (.dK (JH (rD ks3 adr3) (Sum.inr P) (.ref p)))) p (.lst (xs++[.str y])))):=by
    intro H3 ks3 adr3 r3 P y R σ3 J3 hks hr3 hR p hp;constructor
    ·intro v hv;rw[Zar]at hv;by_cases c:P∈ks3
     ·rw[if_pos c]at hv;cases hv;refine⟨adr3 P,(r3 P).map V.str,rfl,Zb hp _ _ (J3.row P c),?_,hR _ _ (J3.old c hp)⟩;rw[Qc];have:=hr3 P;exact ZC (Bb this)
     ·rw[if_neg c]at hv;cases hv
    ·intro hv;rw[Zar]at hv;by_cases c:P∈ks3
     ·simp_all
     ·have hpd:p≠d:=fun e=>by rw[e,J3.dd]at hp;grind
      exact ⟨[],by rw[Zj hpd,Ze],ZC (by decide),ZnR c▸hR _ _ (J3.new c hp)⟩
   have hkz:ks.length<=500:=by lia
   have hrz:∀ x,(r x).length<=500:=fun x=>by have:=hlen x;lia
   show Zqh _ _ _ _ _;refine Yr (fun σ H'=>σ=[some (.ref q),some (.ref d),some (.str e.1),some (.int e.2)]/\∃ adr',TJ H H' d (XQ ks (bg e.1)) adr' (Zf9 r (bg e.1) (en e.1))) (fun R hR=>?_) ?_
   ·refine⟨_,rfl,d,rfl,.inl ⟨_,.inl J.dd⟩,_,rfl,e.1,rfl,l1,l2,Zk (show 0<=1000 by decide),fun p hp=>?_⟩;refine⟨_,Sum.inr (bg e.1),Zb hp _ _ J.dd,rfl,by rw[ZjE];exact ZC (Bb hkz),fun v hv=>?_,fun hv=>?_⟩
    ·refine Pd ((one H2 ks adr r (bg e.1) (en e.1) R [some (.ref q),some (.ref d),some (.str e.1),some (.int e.2)] J hkz hrz (fun H4 adr4 J4=>hR _ _ ⟨rfl,adr4,J4⟩) p hp).1 v hv) fun l xs r0 hl hz hr'=>?_;subst r0;exact⟨.inl ⟨rfl,_,SqL.of hl⟩,_,rfl,e.1,rfl,l1,l2,l,xs,.str (en e.1),rfl,rfl,hl,hz,hr'⟩
    ·refine Pf ((one H2 ks adr r (bg e.1) (en e.1) R [some (.ref q),some (.ref d),some (.str e.1),some (.int e.2)] J hkz hrz (fun H4 adr4 J4=>hR _ _ ⟨rfl,adr4,J4⟩) p hp).2 hv) fun xs hl hz hr'=>?_;exact⟨.inl ⟨rfl,_,SqL.of hl⟩,_,rfl,e.1,rfl,l1,l2,p,xs,.str (en e.1),rfl,rfl,hl,hz,hr'⟩
   rintro σ H3 ⟨rfl,adr3,J3⟩;have hal:=JV ks (bg e.1);have hrz3:∀ x,(Zf9 r (bg e.1) (en e.1) x).length<=500:=fun x=>by have:=Zdt (P:=bg e.1) (y:=en e.1) hlen x;lia
   have fin:∀ H4 adr4,TJ H H4 d (XQ (XQ ks (bg e.1)) (en e.1)) adr4 (Zf9 (Zf9 r (bg e.1) (en e.1)) (en e.1) (bg e.1))->TiR H q d es (i+1) [some (.ref q),some (.ref d),some (.str e.1),some (.int e.2)] H4:=fun H4 adr4 J4=>by
    refine⟨⟨_,_,rfl⟩,Lb _ adr4 _ ⟨J4,by exact het▸hk.step e,fun P y=>?_,fun P=>?_⟩⟩
    ·rw[Zhq,Zhq,hadj,het,Znc];constructor
     ·rintro((z | ⟨z1,z2⟩) | ⟨z1,z2⟩)
      ·exact .inl z
      ·exact .inr (.inl ⟨z1.symm,z2.symm⟩)
      ·exact .inr (.inr ⟨z1.symm,z2.symm⟩)
     ·rintro(z | ⟨z1,z2⟩ | ⟨z1,z2⟩)
      ·exact .inl (.inl z)
      ·exact .inl (.inr ⟨z1.symm,z2.symm⟩)
      ·exact .inr ⟨z1.symm,z2.symm⟩
    ·have:=Zdt (P:=en e.1) (y:=bg e.1) (fun x=>Zdt (P:=bg e.1) (y:=en e.1) hlen x) P;omega
   refine ⟨_,rfl,d,rfl,.inl ⟨_,.inl J3.dd⟩,_,rfl,e.1,rfl,l1,l2,Zk (show 0<=1000 by decide),fun p hp=>⟨_,Sum.inr (en e.1),Zb hp _ _ J3.dd,rfl,by rw[ZjE];exact ZC (by lia),fun v hv=>?_,fun hv=>?_⟩⟩
   ·refine Pd ((one H3 _ adr3 _ (en e.1) (bg e.1) (TiR H q d es (i+1)) [some (.ref q),some (.ref d),some (.str e.1),some (.int e.2)] J3 (Bc hkl hal hfew) hrz3 fin p hp).1 v hv) fun l xs r0 hl hz hr'=>?_;subst r0;exact⟨.inl ⟨rfl,_,SqL.of hl⟩,_,rfl,e.1,rfl,l1,l2,l,xs,.str (bg e.1),rfl,rfl,hl,hz,hr'⟩
   ·refine Pf ((one H3 _ adr3 _ (en e.1) (bg e.1) (TiR H q d es (i+1)) [some (.ref q),some (.ref d),some (.str e.1),some (.int e.2)] J3 (Bc hkl hal hfew) hrz3 fin p hp).2 hv) fun xs hl hz hr'=>?_;exact⟨.inl ⟨rfl,_,SqL.of hl⟩,_,rfl,e.1,rfl,l1,l2,p,xs,.str (bg e.1),rfl,rfl,hl,hz,hr'⟩
  ·rintro σ H2 ⟨⟨z2,z3,rfl⟩,ks,adr,r,J,hk,hadj,hlen⟩;rw[hpa.1,WU]at hk hadj;have:=hF.few;exact⟨_,rfl,k d H2 ks adr r J hk hadj fun P=>by have:=hlen P;rw[hpa.1]at this;lia⟩
end
def bD (ks:List Str):List (Key×V):=ks.map fun x=>((Sum.inr x:Key),V.bl true)
def ZrR (ks):(bD ks).length=ks.length:=by unfold bD;simp
def Zol (ks) (y):XR (bD ks) (Sum.inr y)=if y∈ks then some (.bl true)else none:=Xh _ y ks
def ZrQ (ks) (y):JH (bD ks) (Sum.inr y) (.bl true)=bD (XQ ks y):=by
 unfold XQ;by_cases m:y∈ks
 rw[if_pos m];unfold bD;exact Zab _ _ _ _ m▸QB fun x _=>(by simp)
 rw[if_neg m,ZaK _ (by rw[Zol,if_neg m])];unfold bD;simp
def ZmF {ss:List Str} (d:ss.Nodup) (h:(ss.map fun x=>x.cps.toList).Pairwise (·<=·)):(ss.map fun x=>x.cps.toList).Pairwise (· < ·):=by
 rw[Wl]at h ⊢;have:=List.Pairwise.and d h;exact this.imp fun {a b} q=>(Tim.lt_ne (fun z=>(absurd z (WV.mpr q.2))) (Ne.symm q.1))
structure Wk (es:Es) (a:Str) (ks F W:List Str):Prop where
 nd:F.Nodup
 fst:a∈F
 rch:∀ x∈F,Rch es a x
 sub:∀ x∈W,x∈F
 inn:∀ x∈F,x∈ks
def Wk.le (h:Wk es a ks F W):F.length<=ks.length:=by
 have j:=h.nd;have f:=h.inn;clear h;induction F generalizing ks with
 | nil=>simp
 | cons x F k =>
  have b:=QX.mp j;have e:=f x Qd ..;have:=k b.2 fun y g=>(Ui fun(q:y=x)=>b.1 (q▸g)).mpr (f y (Qg _ g));rw[Wj e]at this;have c:=Wc e;rw[QC];exact Nc c this
section
variable {P:Oc} {w:Of} {K:PySem.W.Frag} {mg:Str->Option Value} {base:Heap}
abbrev Zfj:Stmt:=top 16
noncomputable abbrev Zpr:List Str:=["H","tied","first","found","waiting","here","point"]
def scPartOf:Zm Zpr ["H"] (Zf Zfj):=⟨rfl,rfl,rfl,by decide +kernel,rfl,by decide +kernel,by decide +kernel⟩
def Zi1:Sp:=fun vs H Q _=>∃ (v:V) (e:Str×Int) (es:Es),vs=[v]/\HeapV H v (e::es)/\JW (e::es)/\∀ v' H' ss,Same H H'->TupS H' v' ss->(ss.map fun x=>x.cps.toList).Pairwise (· < ·)->ss.length<=128->(∀ x,x∈ss↔Rch (e::es) (bg e.1) x)->Q v' H'
def ZhI (D:HasDef K mg "part_of" Zfj ["H"]) (B:Blt mg) (g17_:FOk P w K mg base 2 "begin_of" ["piece"] Zcs) (g56_:FOk P w K mg base 2 "tied_points" ["H"] Znq):FOk P w K mg base 3 "part_of" ["H"] Zi1:=by
 refine D.ok scPartOf (fun vs H Q E h=>?_) (fun f cdv A outer s H vs Q E hr h=>?_)
 ·obtain⟨v,e,es,rfl,_⟩:=h;rfl
 ·refine B0 ?_;intros;obtain⟨v,e,es0,rfl,hV,hF,k⟩:=h;have hu:=Zdd hr;refine Pi (id hV) fun q vs r1 hq hpa=>?_;subst r1;refine⟨_,(Zd (Zo (i:=1) scPartOf.nd rfl (.inl rfl) (Zu g56_ hr (Za (pv 0) Zc)))
   (Zd (Zo (i:=2) scPartOf.nd rfl (.inl rfl) (Zu g17_ hr (Za (Zw ix_tup (Zw ix_tup (pv 0) Zh (fun _ _=>rfl)) Zh (fun _ _=>rfl)) Zc)))
   (Zd (Zo (i:=3) scPartOf.nd rfl (.inl rfl) (Zpe (Zl9 (pv 2) YX Zo8) rfl rfl (List.cons_ne_nil _ _) (by decide)))
   (Zd (Zo (i:=4) scPartOf.nd rfl (.inl rfl) (Z2 (Za (pv 2) Zc)))
   (Zd (Xj PassesOwn.never (Zq Xv (Zi Zp rfl B.len ZE (Za (pv 4) Zc)) Zh (Zr _))
    (Zd (Zo (i:=5) scPartOf.nd rfl (.inl rfl) (Xs F.plainAttrs_list F.slot_list_pop F.type_list_pop YK (pv 4)))
   (Zg (Yh PassesOwn.never rfl (ZQ (Zfw hu (pv 1) (pv 5) (fun _ _=>rfl))) (ZG (i:=6) scPartOf.nd rfl (.inl rfl))
    (Zg (ZI (ZqU (ZjU hu (pv 6) (pv 3))) (Zd (XB hu (pv 3) (pv 6) YX rfl)
   (Zg (ZT (Y2 F.plainAttrs_list F.slot_list_append F.type_list_append Z9 (pv 4) (Za (pv 6) Zc))))) Zt))))))
   (Zg (Zn (ZB ZJ rfl B.tuple Yc (Za (Zi (ZbP rfl) rfl B.sorted Xq (Za (pv 3) Zc)) Zc))))))))),?_⟩
  apply B1;intros;obtain⟨b0,eb0,hb0⟩:=hpa.2 0 e rfl;obtain⟨l1,l2⟩:=hF.long e (Qd ..);refine⟨_,rfl,.ref q,e::es0,rfl,hV,hF,fun d H1 ks adr r J hk hadj hlen=>?_⟩;have hf1:=hk.len;have hf2:=hF.few;have haK:bg e.1∈ks:=(hk.mem _).mpr ⟨e,Qd ..,.inl rfl⟩;generalize hes:e::es0=es at *;refine⟨_,rfl,Ld q vs 0 (.ref b0) ⟨rfl,rfl,SqT.of (J.sm _ _ hq),ZL (by decide) eb0,Ld b0 _ 0 (.str e.1) ⟨rfl,rfl,SqT.of (J.sm _ _ hb0),rfl,e.1,rfl,l1,l2,fun fd hfd=>?_⟩⟩⟩;refine⟨_,rfl,Ze,[((Sum.inr (bg e.1):Key),V.bl true)],rfl,by simp,?_⟩;rw[ZaP];have s2:Same H1 (upd H1 fd (.dK (Zau [] [((Sum.inr (bg e.1):Key),V.bl true)]))):=Zb hfd;have hfd2:(upd H1 fd (.dK (Zau [] [((Sum.inr (bg e.1):Key),V.bl true)]))) fd=some (.dK (bD [bg e.1])):=Ze;generalize upd H1 fd (.dK (Zau [] [((Sum.inr (bg e.1):Key),V.bl true)]))=H2 at s2 hfd2;refine⟨_,rfl,Zk (show 1<=1000 by decide),fun wl hwl=>?_⟩;have hwl1:H1 wl=none:=s2.free hwl;have hne:wl≠fd:=fun z=>by simp_all
  have s3:=s2.trans (Zb (o:=.lst [.str (bg e.1)]) hwl);have hfd3:=Zb (o:=.lst [.str (bg e.1)]) hwl _ _ hfd2;have hwl3:(upd H2 wl (.lst [.str (bg e.1)])) wl=some (.lst ([bg e.1].map V.str)):=Ze;generalize upd H2 wl (.lst [.str (bg e.1)])=H3 at s3 hfd3 hwl3;have shift:∀ {H4:Hp} (F W:List Str),Same H1 H4->Same H1 (upd (upd H4 fd (.dK (bD F))) wl (.lst (W.map V.str))):=fun F W s b u hb=>by
   rw[Zj (Zl hb hwl1),Zj (Zl hb hfd)];exact s b u hb
  have shW:∀ {H4:Hp} (o:HO),Same H1 H4->Same H1 (upd H4 wl o):=fun o s b u hb=>by
   exact Zj (Zl hb hwl1)▸s b u hb
  have shF:∀ {H4:Hp} (o:HO),Same H1 H4->Same H1 (upd H4 fd o):=fun o s b u hb=>by
   exact Zj (Zl hb hfd)▸s b u hb
  try dsimp only[Jp]
  show Zqh (ZdD _ _) _ _ _ _;refine Yr (fun σ H4=>∃ (F:List Str) (z5 z6:Option V),σ=[some (.ref q),some (.ref d),some (.str (bg e.1)),some (.ref fd),some (.ref wl),z5,z6]/\Same H1 H4/\H4 fd=some (.dK (bD F))/\Wk es (bg e.1) ks F []/\∀ x∈F,∀ y,Adj es x y->y∈F) (fun R hR=>?_) ?_
  ·refine⟨fun m σ H4=>∃ (F W:List Str) (z5 z6:Option V),σ=[some (.ref q),some (.ref d),some (.str (bg e.1)),some (.ref fd),some (.ref wl),z5,z6]/\Same H1 H4/\H4 fd=some (.dK (bD F))/\H4 wl=some (.lst (W.map V.str))/\Wk es (bg e.1) ks F W/\(∀ x∈F,x∉W->∀ y,Adj es x y->y∈F)/\m=2*(ks.length-F.length)+W.length/\m<=2*ks.length,
    ⟨_,[bg e.1],[bg e.1],none,none,rfl,s3,hfd3,hwl3,⟨by simp,by simp,(fun x hx=>by exact Qr.mp hx▸.here),fun x hx=>hx,fun x hx=>by simp_all⟩,(fun x hx hw=>absurd hx hw),rfl,by have:=Wc haK;simp only[QD];omega⟩,?_⟩
   rintro m σ H4 ⟨F,W,z5,z6,rfl,s4,hfd4,hwl4,hW,hcl,hm,hw5⟩;refine⟨_,rfl,.ref wl,_,rfl,.inl ⟨_,SqL.of hwl4,rfl⟩,_,_,rfl,rfl,_,rfl,?_⟩;rcases Uc W with rfl | ⟨r0,here,rfl⟩
   ·exact Yw (by decide) (hR _ _ ⟨F,z5,z6,rfl,s4,hfd4,hW,fun x hx=>hcl x hx (fun z=>by grind)⟩)
   rw[Ux]at *;refine YG (decide_eq_true (by simp)) ?_;have hhF:here∈F:=hW.sub here (by simp);have hhK:=hW.inn here hhF;rw[Qm,QD]at hm;refine⟨fun σ' H'=>∃ m',m'<m/\∃ (F W:List Str) (z5 z6:Option V),σ'=[some (.ref q),some (.ref d),some (.str (bg e.1)),some (.ref fd),some (.ref wl),z5,z6]/\Same H1 H'/\H' fd=some (.dK (bD F))/\H' wl=some (.lst (W.map V.str))/\Wk es (bg e.1) ks F W/\(∀ x∈F,x∉W->∀ y,Adj es x y->y∈F)/\m'=2*(ks.length-F.length)+W.length/\m'<=2*ks.length,fun _ _ z=>z,?_⟩;apply B3;intros;refine⟨_,rfl,.inl ⟨rfl,_,SqL.of hwl4⟩,wl,_,V.str here,rfl,rfl,hwl4,by simp,?_⟩;rw[show((r0++[here]).map V.str).dropLast=r0.map V.str by rw[QM,Wt,RN]];have s5:Same H1 (upd H4 wl (.lst (r0.map V.str))):=shW _ s4;have hwl5:(upd H4 wl (.lst (r0.map V.str))) wl=some (.lst (r0.map V.str)):=Ze;have hfd5:(upd H4 wl (.lst (r0.map V.str))) fd=some (.dK (bD F)):=by exact Zj (Ne.symm hne)▸hfd4
   generalize upd H4 wl (.lst (r0.map V.str))=H5 at s5 hwl5 hfd5;refine⟨_,rfl,_,rfl,d,.ref (adr here),rfl,.inl ⟨_,Sum.inr here,.inl (s5 _ _ J.dd),rfl,by rw[Zar,if_pos hhK]⟩,adr here,rfl,⟨_,SqL.of (s5 _ _ (J.row here hhK))⟩,?_⟩;refine JR (K:=K) (a:=adr here) (xs:=(r here).map V.str) (fun j σ' H'=>∃ (F W:List Str) (z6:Option V),σ'=[some (.ref q),some (.ref d),some (.str (bg e.1)),some (.ref fd),some (.ref wl),some (.str here),z6]/\Same H1 H'/\H' fd=some (.dK (bD F))/\H' wl=some (.lst (W.map V.str))/\Wk es (bg e.1) ks F W/\(∀ x∈F,x∉W->x≠here->∀ y,Adj es x y->y∈F)/\(∀ y∈(r here).take j,y∈F)/\2*(ks.length-F.length)+W.length+1<=m)
    ⟨F,r0,z6,rfl,s5,hfd5,hwl5,⟨hW.nd,hW.fst,hW.rch,fun x hx=>hW.sub x (Q0 _ hx),hW.inn⟩,fun x hx h1 h2=>hcl x hx (fun z=>by rcases QG.mp z with z | z;exact h1 z;exact h2 (Qr.mp z)),(fun y hy=>by rw[List.take_zero]at hy;cases hy),by lia⟩
    (fun i σ' H' _ ⟨_,_,_,_,s6,_⟩=>SqL.of (s6 _ _ (J.row here hhK))) ?_ ?_
   ·rintro j x σ' H6 hj ⟨F6,W6,z6',rfl,s6,hfd6,hwl6,hW6,hcl6,hin6,hm6⟩;rw[Qh]at hj;refine Pe (RF.mp hj) fun y hy r1=>?_;subst r1;have hya:Adj es here y:=(hadj here y).mp (Ww hy);have hyK:y∈ks:=by
     obtain⟨e',he',q'⟩:=hya;rcases q' with ⟨_,q'⟩ | ⟨_,q'⟩
     ·exact(hk.mem y).mpr ⟨e',he',.inr q'⟩
     ·exact(hk.mem y).mpr ⟨e',he',.inl q'⟩
    have htk:(r here).take (j+1)=(r here).take j++[y]:=by
     rw[Va,hy];rfl
    have hle6:=hW6.le;refine⟨_,rfl,_,rfl,fd,XR (bD F6) (Sum.inr y),rfl,.inl ⟨_,Sum.inr y,.inl hfd6,rfl,rfl⟩,?_⟩;rw[Zol];by_cases c:y∈F6
    ·rw[if_pos c];refine⟨_,rfl,Yw rfl ⟨F6,W6,_,rfl,s6,hfd6,hwl6,hW6,hcl6,fun y' hy'=>?_,hm6⟩⟩;rw[htk]at hy';rcases QG.mp hy' with z | z
     ·exact hin6 y' z
     ·exact Qr.mp z▸c
    ·rw[if_neg c];have hW7:Wk es (bg e.1) ks (F6++[y]) (W6++[y]):=⟨Wg.mpr ⟨hW6.nd,by simp,fun a ha b hb e=>by rw[Qr.mp hb]at e;subst e;exact c ha⟩,Q0 _ hW6.fst,(fun x hx=>by
       rcases QG.mp hx with z | z
       ·exact hW6.rch x z
       ·exact Qr.mp z▸.step (hW.rch here hhF) hya),(fun x hx=>by
       rcases QG.mp hx with z | z
       ·exact Q0 _ (hW6.sub x z)
       ·rw[Qr.mp z];simp),fun x hx=>by
       rcases QG.mp hx with z | z
       ·exact hW6.inn x z
       ·exact Qr.mp z▸hyK⟩
     have hlt:F6.length+1<=ks.length:=by
      have:=hW7.le;rw[Qm,QD]at this;exact this
     refine⟨_,rfl,YG rfl ⟨_,rfl,_,rfl,fd,_,rfl,DPut.kk (k:=Sum.inr y) hfd6 (by rw[ZrR];exact ZC (by lia)),?_⟩⟩;rw[ZrQ,show XQ F6 y=F6++[y]by unfold XQ;rw[if_neg c]];have s7:Same H1 (upd H6 fd (.dK (bD (F6++[y])))):=shF _ s6;have hfd7:(upd H6 fd (.dK (bD (F6++[y])))) fd=some (.dK (bD (F6++[y]))):=Ze;have hwl7:(upd H6 fd (.dK (bD (F6++[y])))) wl=some (.lst (W6.map V.str)):=by rw[Zj hne];exact hwl6
     generalize upd H6 fd (.dK (bD (F6++[y])))=H7 at s7 hfd7 hwl7;refine⟨_,rfl,.inl ⟨rfl,_,SqL.of hwl7⟩,_,rfl,wl,_,.str y,rfl,rfl,hwl7,by rw[Qc];exact ZC (by lia),?_⟩;refine Lb (F6++[y]) (W6++[y]) _ ⟨rfl,shW _ s7,by rw[Zj (Ne.symm hne)];exact hfd7,by rw[Ze,QM,Wt],hW7,fun x hx hxw hxh y' hy'=>?_,fun y' hy'=>?_,by rw[Qm,Qm,QD];lia⟩
     ·rcases QG.mp hx with z | z
      ·exact Q0 _ (hcl6 x z (fun q=>hxw (Q0 _ q)) hxh y' hy')
      ·exact absurd (QZ _ z) hxw
     ·rw[htk]at hy';rcases QG.mp hy' with z | z
      ·exact Q0 _ (hin6 y' z)
      ·exact QZ _ z
   ·rintro σ' H6 ⟨F6,W6,z6',rfl,s6,hfd6,hwl6,hW6,hcl6,hin6,hm6⟩;rw[Qc,WU]at hin6;refine⟨_,?_,Ld F6 W6 _ _ ⟨rfl,s6,hfd6,hwl6,hW6,fun x hx hxw y hxy=>?_,rfl,?_⟩⟩
    ·exact hm6
    ·by_cases c:x=here
     ·subst c;exact hin6 y ((hadj x y).mpr hxy)
     ·exact hcl6 x hx hxw c y hxy
    ·lia
  ·rintro σ H4 ⟨F,z5,z6,rfl,s4,hfd4,hW,hcl⟩;have hle:=hW.le;refine⟨_,rfl,Lb fd F (fun _=>.bl true) ⟨rfl,hfd4,hW.nd,by lia,fun p ss hp hpm hsrt=>?_⟩⟩;refine⟨p,_,rfl,.inl ⟨SqL.of Ze,fun l hl=>?_⟩⟩;refine k (.ref l) _ ss (((J.sm.trans s4).trans (Zb hp)).trans (Zb hl)) ⟨l,rfl,Ze⟩ (ZmF (hpm.nodup_iff.mpr hW.nd) hsrt) (by rw[hpm.length_eq];exact Sd hf1 hle hf2) fun x=>?_;rw[hpm.mem_iff];exact⟨hW.rch x,fun z=>Rch.closed hW.fst hcl z⟩
end
def Zpo {F:List Str}:∀ {ks:List Str},F.Nodup->(∀ x∈F,x∈ks)->F.length<=ks.length:=by
 induction F with
 | nil=>simp
 | cons x F i =>
  intro ks h e;have a:=QX.mp h;have d:=e x Qd ..;have:=i a.2 fun y f=>(Ui fun(q:y=x)=>a.1 (q▸f)).mpr (e y (Qg _ f));rw[Wj d]at this;have b:=Wc d;rw[QC];exact Nc b this
def Zrc {F ks:List Str} (g:F.Nodup) (e:∀ x∈F,x∈ks) (h:F.length=ks.length):∀ x∈ks,x∈F:=by
 intro x c;apply Classical.byContradiction;intro f;have:=Zpo g fun y b=>(Ui fun(q:y=x)=>f (q▸b)).mpr (e y b);rw[Wj c]at this;have a:=Wc c;exact (N6 this a h).elim
def Zmr {ss:List Str} (h:(ss.map fun x=>x.cps.toList).Pairwise (· < ·)):ss.Nodup:=by
 rw[Wl]at h;refine h.imp fun {a b} q e=>?_;subst e;exact Uk _ q
def Rch.pt {es:Es} (h:Rch (e::es) (bg e.1) x):∃ a∈e::es,bg a.1=x\/en a.1=x:=by
 cases h with
 | here=>simp
 | step _ k =>
  obtain⟨a,c,⟨_,q⟩ | ⟨_,q⟩⟩:=k;exact⟨a,c,.inr q⟩;exact⟨a,c,.inl q⟩
def Zg5 {es:Es} {ss j:List Str} (n:ss.Nodup) (i:∀ x,x∈ss↔Rch (e::es) (bg e.1) x) (p:j.Nodup) (k:∀ x,x∈j↔∃ d∈e::es,bg d.1=x\/en d.1=x) :
  ss.length=j.length↔∀ d∈e::es,Rch (e::es) (bg e.1) (bg d.1):=by
 have g:=fun x l=>(k x).mpr ((i x).mp l).pt;constructor;intro o d c;exact(i _).mp (Zrc n g o _ ((k _).mpr ⟨d,c,.inl rfl⟩));intro h;have:∀ x∈j,x∈ss:=fun x l=>by
  obtain⟨d,c,q | q⟩:=(k x).mp l;exact q▸(i _).mpr (h d c);exact(i _).mpr (.step (h d c) ⟨d,c,.inl ⟨rfl,q⟩⟩)
 have a:=Zpo n g;have b:=Zpo p this;lia
section
variable {P:Oc} {w:Of} {K:PySem.W.Frag} {mg:Str->Option Value} {base:Heap}
abbrev Zjv:Stmt:=top 17
abbrev Zri:List Str:=["H"]
def ZoS:Zm Zri ["H"] (Zf Zjv):=⟨rfl,rfl,rfl,by simp,rfl,by decide +kernel,by decide +kernel⟩
def Zfd:Sp:=fun vs H Q _=>∃ (v:V) (e:Str×Int) (es:Es),vs=[v]/\HeapV H v (e::es)/\JW (e::es)/\∀ H' (b:Bool),Same H H'->(b=true↔∀ e'∈e::es,Rch (e::es) (bg e.1) (bg e'.1))->Q (.bl b) H'
def Zmk (D:HasDef K mg "hangs" Zjv ["H"]) (B:Blt mg) (c:FOk P w K mg base 3 "part_of" ["H"] Zi1) (b:FOk P w K mg base 3 "points_of" ["H"] Jv):FOk P w K mg base 4 "hangs" ["H"] Zfd:=by
 refine D.ok ZoS (fun y H Q E h=>?_) fun f z A j s H y Q E p h=>?_;obtain⟨v,e,r,rfl,_⟩:=h;rfl;refine B0 ?_;intros;obtain⟨v,e,r,rfl,q,t,k⟩:=h;refine⟨_,Zg (Zn (ZY YF (Zi Zp rfl B.len ZE (Za (Zu c p (Za (pv 0) Zc)) Zc)) (Zi Zp rfl B.len ZE (Za (Zu b p (Za (pv 0) Zc)) Zc)) (Zr _))),⟨_,rfl,v,e,r,rfl,q,t,fun L I F u m o G l=>?_⟩⟩;obtain⟨O,rfl,g⟩:=id m;refine⟨_,F.length,rfl,.inr ⟨_,SqT.of g,by simp⟩,_,rfl,v,_,rfl,q.same u,t,fun M N x C n a=>?_⟩;obtain⟨J,rfl,i⟩:=id n;refine⟨_,x.length,rfl,.inr ⟨_,SqT.of i,by simp⟩,⟨rfl,k _ _ (u.trans C) ?_⟩⟩;rw[Zf2,←Zg5 (Zmr o) l a.pts.nd a.pts.mem,beq_iff_eq];lia
end
def Ztz {es:Es}:es.filter p=((Qz es.length).filter fun i=>p (es.getD i ("",0))).map fun i=>es.getD i ("",0):=by
 have e:es=(Qz es.length).map fun i=>es.getD i ("",0):=by
  apply QI;intro i;rw[Qh];by_cases c:i<es.length
  rw[Q6 c,We,Qb,Qa c];rfl;rw[Qj (G7 c),Qj (by simp;exact G7 c)];rfl
 conv=>lhs;rw[e]
 rw[U3];rfl
def ZmN {es:Es} (hn:n=es.length) (hl:vs.length=((Qz n).filter fun i=>p (es.getD i ("",0))).length)
  (hR:∀ (j i:Nat) (v),((Qz n).filter fun i=>p (es.getD i ("",0)))[j]?=some i->vs[j]?=some v->v= .int (es.getD i ("",0)).2):vs=((es.filter p).map fun e=>e.2).map V.int:=by
 subst hn;rw[Ztz];apply QI;intro j;rw[Qh,Qh,Qh];cases hj:((Qz es.length).filter _)[j]? with
 | none =>
  rw[Qj (by simp_all)];rfl
 | some i =>
  have b:j<vs.length:=by exact hl▸(Qo.mp hj).1
  rw[Qa b,hR j i _ hj (Qa b)];rfl
def ZiK:∀ l:List Int,(∀ x∈l,0<=x/\x<=1000)->0<=l.sum/\l.sum<=1000*l.length
 | [],_=>⟨WO _,WO _⟩
 | x::l,h=>by
  have b:=ZiK l fun y a=>h y (Qg _ a);have c:=h x Qd ..;rw[Qy,QC];lia
def ZmH (hF:JW es) (p):(∀ x∈(es.filter p).map fun e=>e.2,Ox x)/\∀ k,Ox (((es.filter p).map fun e=>e.2).take k).sum:=by
 have hb:∀ x∈(es.filter p).map fun e=>e.2,0<=x/\x<=1000:=fun x hx=>by
  obtain⟨e,he,rfl⟩:=Qk.mp hx;exact hF.many e (QF.mp he).1
 refine⟨fun x hx=>?_,fun k=>?_⟩;have:=hb x hx;unfold Ox;omega;have h1:=ZiK _ fun x hx=>hb x (Q9 hx (i:=k));have h2:(((es.filter p).map fun e=>e.2).take k).length<=64:=by
  rw[QH,Qc];have:=Q7 p es;have:=hF.few;lia
 unfold Ox;lia
noncomputable def Zb6 (es:Es) (y:Str):Int:=((es.filter fun e=>decide (bg e.1=y)).map fun e=>e.2).sum
def dec_str:decide (V.str x=V.str y)=decide (x=y):=by
 simp
section
variable {P:Oc} {w:Of} {K:PySem.W.Frag} {mg:Str->Option Value} {base:Heap}
abbrev ZcB:Stmt:=top 5
abbrev Zkj:List Str:=["H","P"]
def ZlR:Zm Zkj ["H","P"] (Zf ZcB):=⟨rfl,rfl,rfl,by decide +kernel,rfl,by decide +kernel,by decide +kernel⟩
def Znx:Sp:=fun vs H Q _=>∃ (v:V) (es:Es) (y:Str),vs=[v,.str y]/\HeapV H v es/\JW es/\∀ H',Same H H'->Q (.int (Zb6 es y)) H'
def ZhJ (D:HasDef K mg "outs_of" ZcB ["H","P"]) (B:Blt mg) (l:FOk P w K mg base 1 "begin_of" ["piece"] Zcs):FOk P w K mg base 2 "outs_of" ["H","P"] Znx:=by
 refine D.ok ZlR (fun m H Q E h=>?_) (fun f cdv A n s H m Q E hr h=>?_)
 obtain⟨v,a,y,rfl,_⟩:=h;rfl
 refine B0 ?_;intros;obtain⟨v,a,y,rfl,⟨q,m,rfl,hq,j⟩,hF,k⟩:=h;refine⟨_,(Zg (Zn (Zi (XL rfl) rfl B.sum Zf7 (Za (Zx (Zf ZcB) Zkj ["piece","many"] [1] rfl (Yb (pv 0)) (fun _ _ _ _ _=>Yt 2 K rfl (Zy (ZW 0) (Zy (ZW 1) Ys))) (fun _ _ _ _ _=>Zac (Zq YF (Zu l hr (Za (pv 0) Zc)) (pv 2) (Zr _))) (fun _ _ _ _ _=>(pv 1))) Zc)))),?_⟩;have hfew:=hF.few;have hvl:=j.1;refine⟨_,rfl,q,rfl,⟨_,SqT.of hq⟩,ZfW m.length _ (fun i=>(fun e=>decide (bg e.1=y)) (a.getD i ("",0))) (fun i v _=>v= .int (a.getD i ("",0)).2) (Zk (Mo hfew hvl)) (fun _ _ _ _ _ r=>r) (Xg (SqT.of hq)) ?_ ?_⟩
 intro i H3 Qt Qf hi hs ht hf;have g:i<a.length:=V6 hvl hi
 obtain⟨b,e1,e2⟩:=j.2 i a[i] (Qa g);have ev:m.getD i .non= .ref b:=by rw[Qb,e1];rfl
 have ee:a.getD i ("",0)=a[i]:=by rw[Qb,Qa g];rfl
 obtain⟨l1,l2⟩:=hF.long a[i] (QA g);rw[ee]at ht hf;rw[ev];refine⟨b,_,rfl,SqT.of (hs _ _ e2),rfl,_,_,rfl,_,_,rfl,rfl,_,rfl,a[i].1,rfl,l1,l2,_,rfl,rfl,_,rfl,?_⟩;rw[dec_str];by_cases c:bg a[i].1=y
 exact YG (decide_eq_true c) ⟨_,rfl,ht (decide_eq_true c) _ _ (Same.refl _) rfl⟩
 exact Yw (decide_eq_false c) (hf (decide_eq_false c) _ (Same.refl _))
 intro D2 vs2 H16 hl2 p o hD2 d;rw[ZmN (p:=fun e=>decide (bg e.1=y)) hvl hl2 p]at d;obtain⟨o1,o2⟩:=ZmH hF _;exact⟨D2,_,rfl,SqL.of d,o1,o2,k _ o⟩
end
noncomputable def Yx (f:Nat->Nat):ZbQ:=fun r c=>(if c=r then 1 else 0)-(if c=f r then 1 else 0)
noncomputable def Ze0 (f:Nat->Nat) (p v:Nat):Nat->Nat:=fun r=>if r=p then v else f r
def Za0 (f) (p v):Ze0 f p v p=v:=by unfold Ze0;simp
def Zje (h:r≠p):Ze0 f p v r=f r:=by unfold Ze0;rw[if_neg h]
def Zjc (f) (p v u):Ze0 (Ze0 f p v) p u=Ze0 f p u:=by
 unfold Ze0
 simp_all
def Zjd (f) (p):Ze0 f p (f p)=f:=by
 funext r
 unfold Ze0;split
 simp_all
 rfl
def Zjb (b:p<n) (d:f p<n) (a:f p≠p):det n (Yx (Ze0 f p (f (f p))))=det n (Yx f):=by
 have h:=Zk7 (f:=Yx f) 1 1 (fun e=>a e.symm) b d;rw[Wr]at h;rw[←h];congr 1
 funext r c
 unfold ZO;by_cases e:r=p
 subst e;rw[if_pos rfl];unfold Yx;rw[Za0];lia;rw[if_neg e];unfold Yx;rw[Zje e]
noncomputable def itr (f:Nat->Nat):Nat->Nat->Nat
 | 0,x=>x
 | k+1,x=>f (itr f k x)
def XG (f) (a):∀ (b x),itr f (a+b) x=itr f b (itr f a x)
 | 0,x=>rfl
 | b+1,x=>by
  show f (itr f (a+b) x)=f _;rw[XG f a b x]
def J2 (a:p<n):∀ k,(∀ j,1<=j->j<=k->itr f j p<n/\itr f j p≠p)->det n (Yx (Ze0 f p (itr f (k+1) p)))=det n (Yx f)
 | 0,_=>by
  show det n (Yx (Ze0 f p (f p)))=_;rw[Zjd]
 | k+1,h=>by
  obtain⟨c,b⟩:=h _ K1 (Ql _);rw[←(J2 a k fun j c b=>h j c (K2 b))];have:=Zjb (f:=Ze0 f p _) a (by rw[Za0];omega) (by rw[Za0];exact b);rw[Za0,Zje b,Zjc]at this
  trivial
def Ziv (a:p<n) (e:f p=p):det n (Yx f)=0:=by
 have h:=Zk3 (f:=Yx f) 0 a;rw[Uw]at h;rw[←h];congr 1
 funext r c
 unfold ZO;by_cases q:r=p
 subst q;rw[if_pos rfl];unfold Yx;lia;rw[if_neg q]
noncomputable def gof (n:Nat) (f:Nat->Nat) (x:Nat):Nat:=if x<n then f x else x
def Zg7 (h:x<n):gof n f x=f x:=if_pos h
def ZpS (h:¬ x<n):gof n f x=x:=if_neg h
def Zc7 (h:¬ x<n):∀ k,itr (gof n f) k x=x
 | 0=>rfl
 | k+1=>by
  show gof n f _=x;rw[Zc7 h k,ZpS h]
def ZmL (d:a<=b) (h:itr (gof n f) b x<n):itr (gof n f) a x<n:=by
 false_or_by_contra;rename_i q;obtain⟨c,rfl⟩:∃ c,b=a+c:=⟨b-a,Bj d⟩
 rw[XG,Zc7 q]at h;lia
def Zc8:∀ {k},(∀ j,j<k->itr (gof n f) j x<n)->itr (gof n f) k x=itr f k x
 | 0,_=>rfl
 | k+1,h=>by
  show gof n f _=f _;rw[Zg7 (h k Sc),(Zc8 (k:=k) fun j hj=>h j (K4 hj))]
def ZgT (n:Nat) (f:Nat->Nat):Prop:=∀ i,i<n->¬ itr (gof n f) n i<n
def Zn2 {P:Nat->Prop}:∀ n,P n->∃ m,m<=n/\P m/\∀ k,k<m->¬ P k:=by
 intro n;induction n using Nat.strongRecOn with
 | ind n a =>
  grind
def Zk5 (g:1<=t) (a:∀ k,k<t->itr f k j<n) (e:itr f t j=j):det n (Yx f)=0:=by
 obtain⟨m,p,⟨l,h⟩,d⟩:=Zn2 (P:=fun k=>1<=k/\itr f k j=j) t ⟨g,e⟩;have b:j<n:=a 0 (Kk g);obtain⟨k,rfl⟩:∃ k,m=k+1:=⟨m-1,by lia⟩
 exact(J2 b k fun i c o=>⟨a i (by lia),fun q=>d i (Nk o) ⟨c,q⟩⟩)▸Ziv b (by rw[Za0,h])
def ZqX (g:Nat->Nat) (h:∀ i,i<=n->g i<n):∃ a b,a<b/\b<=n/\g a=g b:=by
 false_or_by_contra;rename_i o;have l:((Qz (n+1)).map g).Nodup:=by
  rw[UI,Wl];refine List.Pairwise.imp_of_mem ?_ List.pairwise_lt_range;intro a b q p c e;have:=QK.mp p;exact o ⟨a,b,c,N5 this,e⟩
 have k:=YN l fun x j=>by
  obtain⟨i,f,rfl⟩:=Qk.mp j;exact QK.mpr (h i (by have:=QK.mp f;exact N5 this))
 rw[Qc,Q3,Q3]at k;lia
def Zif (h:¬ ZgT n f):det n (Yx f)=0:=by
 obtain⟨i,g,l⟩:∃ i,i<n/\itr _ n i<n:=by
  false_or_by_contra;rename_i o;exact h fun i g q=>o ⟨i,g,q⟩
 have c:∀ k,k<=n->itr _ k i<n:=fun k d=>ZmL d l;obtain⟨a,b,m,p,e⟩:=ZqX _ c;have sm:∀ k,k<=n->itr _ k i=itr f k i:=fun k d=>Zc8 fun j r=>c j (Mr d r);rw[sm a (Mr p m),sm b p]at e;refine Zk5 (j:=itr f a i) (t:=b-a) (by lia) (fun k d=>?_) ?_;rw[←XG,←sm _ (Ms p d)];exact c _ (Ms p d);rw[←XG,show a+(b-a)=b by exact N3 m,e]
noncomputable def Zm4 (n p:Nat) (f:Nat->Nat):Nat->Nat:=fun i=>if i<p then n else f i
def ZeM:∀ (m x),¬ itr (gof n f) m x<n->∃ a,¬ itr (gof n (Zm4 n p f)) a x<n
 | 0,x,h=>⟨0,h⟩
 | m+1,x,h=>by
  by_cases c:x<n
  by_cases q:x<p
  refine⟨1,?_⟩;show ¬ gof n _ x<n;rw[Zg7 c];unfold Zm4;rw[if_pos q];exact Ml;rw[show m+1=1+m by exact Ss,XG]at h;obtain⟨a,_⟩:=ZeM m _ h;refine⟨1+a,?_⟩;rw[XG];have e:itr (gof n (Zm4 n p f)) 1 x=itr (gof n f) 1 x:=by
   show gof n _ x=gof n f x;rw[Zg7 c,Zg7 c];unfold Zm4;rw[if_neg q]
  rw[e];omega;exact⟨0,c⟩
def Zk2 (hp:p<n) (hm:¬ itr (gof n f) m p<n) (hr:∀ i,i<n->f i<=n):det n (Yx (Ze0 f p n))=det n (Yx f):=by
 obtain⟨t,_,t2,t3⟩:=Zn2 (P:=fun k=>¬ itr (gof n f) k p<n) m hm;have t0:t≠0:=fun q=>t2 (by rw[q];trivial);obtain⟨k,rfl⟩:∃ k,t=k+1:=⟨t-1,by lia⟩
 have hin:∀ j,j<k+1->itr (gof n f) j p<n:=fun j hj=>by
  simp_all
 have sm:∀ j,j<=k+1->itr (gof n f) j p=itr f j p:=fun j hj=>Zc8 fun i hi=>hin i (by lia);have h:=J2 (n:=n) (p:=p) (f:=f) hp k fun j h1 h2=>⟨by rw[←sm j (K2 h2)];exact hin j (Nk h2),fun q=>?_⟩
 ·have hout:itr f (k+1) p=n:=by
   have h1:¬ itr f (k+1) p<n:=by rw[←sm (k+1) (Ql _)];exact t2
   have h2:itr f (k+1) p<=n:=hr _ (by rw[←sm k V4];exact hin k Sc);exact T5 h2 h1
  simp_all
 ·have q':itr (gof n f) j p=p:=by rw[sm j (K2 h2)];exact q
  have:∀ c,itr (gof n f) (c*j) p=p:=fun c=>by
   induction c with
   | zero=>rw[Nat.zero_mul];rfl
   | succ c ih=>rw[Nat.succ_mul,XG,ih,q']
  have h3:=this (k+1);have h4:itr (gof n f) ((k+1)*j) p=itr (gof n f) (k+1) p:=by
   have hle:k+1<=(k+1)*j:=Nat.le_mul_of_pos_right _ (Kk h1);rw[show(k+1)*j=(k+1)+((k+1)*j-(k+1))by exact Bj hle,XG,Zc7 t2]
  lia
def Zk4 (l:∀ i,i<n->f i<=n) (h:ZgT n f):det n (Yx f)=1:=by
 have b:∀ p,p<=n->det n (Yx (Zm4 n p f))=det n (Yx f):=by
  intro p;induction p with
  | zero =>
   intro _;rfl
  | succ p s =>
   intro x;rw[←s (K3 x)];obtain⟨m,o⟩:=ZeM (p:=p) n p (h p x);have:=Zk2 x o fun i u=>by
    unfold Zm4;split
    lia
    simp_all
   rw[←this];congr 2
   funext i
   unfold Zm4 Ze0;by_cases e:i=p
   subst e;simp;rw[if_neg e];by_cases q:i<p
   rw[if_pos (K4 q)];exact(if_pos q).symm;rw[if_neg (K5 q e)];exact(if_neg q).symm
 rw[←b n (Ql n)];have t:det n (Yx (Zm4 n n f))=det n fun r c=>if c=r then 1 else 0:=YH fun r l c v=>by
  unfold Yx Zm4;rw[if_pos l];lia
 rw[t,ZeI fun k j w=>by lia];have:(Jl n fun i=>if i=i then 1 else 0)=Jl n _:=Za8 fun i _=>if_pos rfl;rw[this,ZdT]
abbrev Tie:=Nat×Int
noncomputable def Zqi (n r:Nat) (ts:List Tie):Nat->Int:=fun c=>(ts.map fun t=>t.2*((if c=r then 1 else 0)-(if c=t.1 then 1 else 0))).sum
noncomputable def X6 (n:Nat) (T:Nat->List Tie) (ch:List Nat):ZbQ:=fun r=>if r<ch.length then Yx (fun i=>ch.getD i n) r else Zqi n r (T r)
noncomputable def Yg (n:Nat) (T:Nat->List Tie):Nat->List Nat->Int
 | 0,ch=>by
  classical
  exact if ZgT n (fun i=>ch.getD i n)then 1 else 0
 | k+1,ch=>((T ch.length).map fun t=>t.2*Yg n T k (ch++[t.1])).sum
def Zdj (F) (b:p<n) (u:Nat->Nat->Int):∀ ts:List Tie,det n (ZO F p fun c=>(ts.map fun t=>t.2*u t.1 c).sum)=(ts.map fun t=>t.2*det n (ZO F p (u t.1))).sum
 | []=>by
  rw[WQ,Rp];have h:=Zk3 (f:=ZO F p fun _=>0) 0 b;rw[Uw]at h;rw[←h,Zjg];congr 1;congr 1
  funext c
  rw[Uw];rfl
 | t::ts=>by
  rw[Qp,Qy,←Zdj F b u ts];have h:=XI F t.2 1 (u t.1) (fun c=>(ts.map fun t=>t.2*u t.1 c).sum) b;rw[Wr]at h;rw[←h];simp
def Jt {T} (hT:∀ r t,t∈T r->t.1<=n):∀ (k) (ch),ch.length+k=n->(∀ x∈ch,x<=n)->Yg n T k ch=det n (X6 n T ch)
 | 0,ch,hl,hc=>by
  have e:det n (X6 n T ch)=det n (Yx fun i=>ch.getD i n):=YH fun r hr c _=>by
   unfold X6;rw[if_pos (Bk hr hl)]
  rw[e];have hle:∀ i,i<n->ch.getD i n<=n:=fun i hi=>by
   rw[Qb,Qa (Bk hi hl)];exact hc _ (QA _)
  unfold Yg;by_cases q:ZgT n fun i=>ch.getD i n
  rw[if_pos q,Zk4 hle q]
  rw[if_neg q,Zif q]
 | k+1,ch,hl,hc=>by
  have hp:ch.length<n:=S6 hl
  unfold Yg;have ih:∀ t∈T ch.length,Yg n T k (ch++[t.1])=det n (X6 n T (ch++[t.1])):=fun t ht=>Jt hT k _ (by rw[Qm,QD];exact S7 hl) fun x hx=>by
   rcases QG.mp hx with q | q
   simp_all
   exact Qr.mp q▸hT _ _ ht
  have e1:((T ch.length).map fun t=>t.2*Yg n T k (ch++[t.1])).sum=((T ch.length).map fun t=>t.2*det n (ZO (X6 n T ch) ch.length fun c=>(if c=ch.length then 1 else 0)-(if c=t.1 then 1 else 0))).sum:=by
   congr 1;refine QB fun t ht=>?_;rw[ih t ht];congr 2
   funext r c
   have hlen:(ch++[t.1]).length=ch.length+1:=by simp
   have d:(ch++[t.1]).getD ch.length n=t.1:=by
    simp
   have a:∀ {f g:Nat->Nat} {r:Nat},f r=g r->Yx f r c=Yx g r c:=fun {f g r} e=>by
    unfold Yx;rw[e]
   by_cases e:r=ch.length
   subst e;have h1:X6 n T (ch++[t.1]) ch.length=Yx (fun i=>(ch++[t.1]).getD i n) ch.length:=if_pos (by lia);have h2:ZO (X6 n T ch) ch.length (fun c=>(if c=ch.length then 1 else 0)-(if c=t.1 then 1 else 0)) ch.length=fun c=>(if c=ch.length then 1 else 0)-(if c=t.1 then 1 else 0):=YB;rw[h1,h2];exact a (g:=fun _=>t.1) d
   have h2:ZO (X6 n T ch) ch.length (fun c=>(if c=ch.length then 1 else 0)-(if c=t.1 then 1 else 0)) r=X6 n T ch r:=YT e;rw[h2];by_cases q:r<ch.length
   have h1:X6 n T (ch++[t.1]) r=Yx (fun i=>(ch++[t.1]).getD i n) r:=if_pos (by lia);have h3:X6 n T ch r=Yx (fun i=>ch.getD i n) r:=if_pos q;rw[h1,h3];refine a ?_;rw[Qb,Qb,QS q]
   have h1:X6 n T (ch++[t.1]) r=Zqi n r (T r):=if_neg (by lia);have h3:X6 n T ch r=Zqi n r (T r):=if_neg q
   simp_all
  rw[e1,←Zdj (X6 n T ch) hp (fun v c=>(if c=ch.length then 1 else 0)-(if c=v then 1 else 0))];congr 1;have:(fun c=>((T ch.length).map fun t=>t.2*((if c=ch.length then (1:Int)else 0)-(if c=t.1 then 1 else 0))).sum)=X6 n T ch ch.length:=by
   unfold X6;rw[if_neg (Wo _)];rfl
  rw[this,YS]
end Sh
namespace L2
open PySem PySem.Spec PyProof.Rows
def Zew:Ztb X (fun o i H Q=>∃ p xs,∃ k:Nat,∃ z,o= .ref p/\i= .int k/\H p=some (.lst xs)/\xs[k]?=some z/\Q z H):=by
 intro pins s σ H o i ov iv Q I ro ri h;obtain⟨p,xs,k,z,rfl,rfl,hp,hz,q⟩:=h;cases ro;obtain⟨t,rfl⟩:=ri;refine Pi (I.lst hp) fun its n r ho _=>?_;obtain⟨w,ew,rw'⟩:=r.get hz;have hn:=Zb7;have hk:=(Qo.mp hz).1;exact wpAny_getItem_list ⟨_,ho,rfl,n,rfl⟩ Tj (by lia) (by simpa using ew) ⟨z,H,I,rw',q⟩
end L2
namespace Sh
open PySem L2 PyProof.Rows
seal L2.PE L2.PS L2.PSs L2.PT L2.PW L2.PA L2.PI L2.PG L2.PGs L2.PO L2.PC L2.PCs L2.OpR L2.UnR L2.CallR L2.MtR L2.IxR L2.SlR
noncomputable def othL (ss:List Str) (r:Str):List Str:=ss.filter fun x=>decide (x≠r)
noncomputable def ixD (os:List Str):List (Key×V):=gD os fun x=>(os.idxOf x:Int)
def ZpK {os} (h:x∉os):JH (ixD os) (Sum.inr x) (.int os.length)=ixD (os++[x]):=by
 unfold ixD;rw[Zez,if_neg h];refine Zg8 fun y a=>?_;by_cases e:y=x
 rw[e,Ut,if_neg h];simp;rw[if_neg e];rcases QG.mp a with q | q
 rw[Ut,if_pos q]
 simp_all
def Zn7 (os) (x):XR (ixD os) (Sum.inr x)=if x∈os then some (.int (os.idxOf x))else none:=Zey _ _ _
noncomputable def Jg (os:List Str) (es:Es) (r:Nat):List Tie:=(es.filter fun e=>decide (os.idxOf (bg e.1)=r)).map fun e=>(os.idxOf (en e.1),e.2)
noncomputable def Zaw (os:List Str) (es:Es):ZbQ:=fun r=>Zqi os.length r (Jg os es r)
noncomputable def ZbZ (n:Nat) (f:Nat->Int):List Int:=(Qz n).map f
def XY (n) (f):(ZbZ n f).length=n:=by unfold ZbZ;simp
def XZ (h:j<n):((ZbZ n f).map V.int)[j]?=some (V.int (f j)):=by
 unfold ZbZ;rw[Qh,Qh,Q6 h];rfl
def Zgz (m):((ZbZ n f).map V.int).set j (V.int (f j+m))=(ZbZ n fun c=>f c+if c=j then m else 0).map V.int:=by
 apply QI;intro i;rw[List.getElem?_set];by_cases h:i<n
 by_cases e:j=i
 subst e;rw[if_pos rfl,if_pos (by rw[Qc,XY];exact h),XZ h,if_pos rfl];rw[if_neg e,XZ h,XZ h,if_neg (Ne.symm e),UO];have b:∀ g,((ZbZ n g).map V.int)[i]?=none:=fun g=>Qj (by rw[Qc,XY];exact G7 h);rw[b,b];split
 rw[if_neg (by rw[Qc,XY];lia)];rfl
def ZaE (os) (es) (e) (r c):Zaw os (es++[e]) r c=Zaw os es r c+if r=os.idxOf (bg e.1)then e.2*((if c=r then 1 else 0)-(if c=os.idxOf (en e.1)then 1 else 0))else 0:=by
 unfold Zaw Zqi Jg;by_cases h:os.idxOf (bg e.1)=r
 simp[h];rw[if_neg (Ne.symm h)];simp[h]
section
variable {P:Oc} {w:Of} {K:PySem.W.Frag} {mg:Str->Option Value} {base:Heap}
abbrev Jj:Stmt:=top 28
abbrev ZfO:List Str:=["H","root","numbers","point"]
def scRowNumbers:Zm ZfO ["H","root"] (Zf Jj):=⟨rfl,rfl,rfl,by decide +kernel,rfl,by decide +kernel,by decide +kernel⟩
def Znu:Sp:=fun vs H Q _=>∃ (v:V) (es:Es) (r:Str),vs=[v,.str r]/\HeapV H v es/\JW es/\∀ d H' ss,Same H H'->SPts es ss->H' d=some (.dK (ixD (othL ss r)))->Q (.ref d) H'
def ZbH (D:HasDef K mg "row_numbers" Jj ["H","root"]) (B:Blt mg) (g46_:FOk P w K mg base 2 "points_of" ["H"] Jv):FOk P w K mg base 3 "row_numbers" ["H","root"] Znu:=by
 refine D.ok scRowNumbers (fun vs H Q E h=>?_) (fun f cdv A outer s H vs Q E hr h=>?_)
 ·obtain⟨v,es,r,rfl,_⟩:=h;rfl
 ·refine B0 ?_;intros;obtain⟨v,es,r,rfl,hV,hF,k⟩:=h;have hu:=Zdd hr;refine⟨_,(Zd (Zo (i:=2) scRowNumbers.nd rfl (.inl rfl) Xl)
   (Zd (Yh PassesOwn.never rfl (Yb (Zu g46_ hr (Za (pv 0) Zc))) (ZG (i:=3) scRowNumbers.nd rfl (.inl rfl))
    (Zg (ZI (Zq X7 (pv 3) (pv 1) (Zr _)) (Zg (XB hu (pv 2) (pv 3) (Zi ZeR rfl B.len ZE (Za (pv 2) Zc)) rfl)) Zt)))
   (Zg (Zn (pv 2))))),?_⟩
  apply B2;intros;intro d hd;have s0:=Zb (o:=.dK []) hd;have hd0:(upd H d (.dK [])) d=some (.dK []):=Ze;refine⟨_,rfl,v,es,rfl,hV.same s0,hF,fun v' H1 ss s1 hT hS=>?_⟩;refine Pe hT fun q r0 hq=>?_;subst r0;have hd1:=s1 _ _ hd0;have hnd:=hS.pts.nd;have hsl:=hS.pts.len;have hfew:=hF.few;refine⟨q,rfl,⟨_,SqT.of hq⟩,Y9 (K:=K) (a:=q) (xs:=ss.map V.str) (fun i σ H2=>(∃ z3:Option V,σ=[some v,some (.str r),some (.ref d),z3])/\Same H H2/\H2 q=some (.tup (ss.map V.str))/\H2 d=some (.dK (ixD (othL (ss.take i) r))))
   ⟨⟨none,rfl⟩,s0.trans s1,hq,hd1⟩ (fun i σ H2 _ ⟨_,_,hq2,_⟩=>SqT.of hq2) ?_ ?_⟩
  ·rintro i x σ H2 hi ⟨⟨z3,rfl⟩,s2,hq2,hd2⟩;have hi':i<ss.length:=by
    have:=(Qo.mp hi).1;rw[Qc]at this;exact this
   have ex:x=V.str ss[i]:=by
    simp_all
   subst ex;have etk:ss.take (i+1)=ss.take i++[ss[i]]:=QQ hi';refine⟨_,rfl,_,rfl,rfl,_,rfl,?_⟩;by_cases c:ss[i]=r
   ·refine Yw (by rw[c];simp) ⟨⟨_,rfl⟩,s2,hq2,?_⟩;rw[hd2,etk];unfold othL;rw[Wi];simp[c]
   ·refine YG (by simp[c]) ?_;have hnin:ss[i]∉othL (ss.take i) r:=fun q=>by
     unfold othL at q;have h1:=(QF.mp q).1;have h2:(ss.take (i+1)).Nodup:=hnd.sublist (R7 _ _);rw[etk,Wg]at h2;exact h2.2.2 _ h1 _ (Qr.mpr rfl) rfl
    refine⟨_,rfl,d,_,rfl,hd2,_,rfl,_,rfl,d,_,rfl,DPut.kk (k:=Sum.inr ss[i]) hd2 ?_,?_⟩
    ·unfold ixD;rw[Zav];have:(othL (ss.take i) r).length<=(ss.take i).length:=Q7 _ _;rw[QH]at this;exact QU (show(othL (ss.take i) r).length<1002 by lia) (Zs (by decide))
    refine⟨⟨_,rfl⟩,fun b o e=>?_,?_,?_⟩
    ·rw[Zj (Zl e hd)];exact s2 b o e
    ·rw[Zj fun z=>by simp_all];omega
    ·rw[Ze];unfold ixD;rw[Zav];have:=ZpK hnin;unfold ixD at this;rw[this,etk];unfold othL;rw[Wi];simp[c]
  ·rintro σ H2 ⟨⟨z3,rfl⟩,s2,hq2,hd2⟩;rw[Qc,QP (Ql _)]at hd2;exact⟨_,rfl,k d H2 ss s2 hS hd2⟩
end
end Sh
namespace L2
open PySem PySem.Spec PyProof.Rows
def Zlf:CallR X (.builtin "len") (fun xs H Q=>∃ a kvs,xs=[V.ref a]/\Rd H a (.dK kvs)/\Q (.int kvs.length) H):=by
 intro b s σ H xs f Q I r h;obtain⟨a,kvs,rfl,d,q⟩:=h;obtain⟨u,rfl,rfl⟩:=YL r;exact ZrI I d fun t e c=>⟨.int kvs.length,H,c,⟨t,rfl⟩,q⟩
end L2
namespace Sh
open PySem L2 PyProof.Rows
seal L2.PE L2.PS L2.PSs L2.PT L2.PW L2.PA L2.PI L2.PG L2.PGs L2.PO L2.PC L2.PCs L2.OpR L2.UnR L2.CallR L2.MtR L2.IxR L2.SlR
noncomputable def ZlF (os:List Str) (es:Es):Mat:=(Qz os.length).map fun r=>ZbZ os.length (Zaw os es r)
def Zgi {os} (h:r<os.length):(ZlF os es).getD r []=ZbZ os.length (Zaw os es r):=by
 unfold ZlF;rw[Qb,Qh,Q6 h];rfl
structure RowsI (H:Hp) (pr:Addr) (as:List Addr) (os:List Str) (es:Es):Prop where
 tab:H pr=some (.lst (as.map V.ref))
 len:as.length=os.length
 nd:as.Nodup
 row:∀ r a,as[r]?=some a->a≠pr/\H a=some (.lst ((ZbZ os.length (Zaw os es r)).map V.int))
def Zg9 (n) (x:V):(QR n [x]).flatten=QR n x:=by
 simp
def Zim (os) (r):QR os.length (V.int 0)=(ZbZ os.length (Zaw os [] r)).map V.int:=by
 apply QI;intro i;rw[WR];by_cases h:i<os.length
 rw[if_pos h,XZ h];rfl;rw[if_neg h,Qj (by rw[Qc,XY];exact G7 h)]
def ZrS (x m) (p q) [Decidable p] [Decidable q]:x+(if p then m else 0)+(if q then -m else 0)=x+m*((if p then 1 else 0)-(if q then 1 else 0)):=by
 grind
def Zet (h:j<n):ixN n j=some j:=by
 unfold ixN;rw[if_pos Tj,if_pos (Tk h)];rfl
def Zfs (h:∀ c,c<n->f c=g c):ZbZ n f=ZbZ n g:=QB fun c a=>h c (QK.mp a)
def RowsI.upd {os} (h:RowsI H l k os es) (d:k[g]?=some a) (m:∀ c,c<os.length->f c=Zaw os es' g c) (o:∀ r,r<os.length->r≠g->∀ c,c<os.length->Zaw os es r c=Zaw os es' r c) :
  RowsI (upd H a (.lst ((ZbZ os.length f).map V.int))) l k os es':=by
 refine⟨?_,h.len,h.nd,fun r b e=>?_⟩;exact Zj (Ne.symm (h.row g a d).1)▸h.tab;obtain⟨s,p⟩:=h.row r b e;refine⟨s,?_⟩;have t:=(Qo.mp e).1;by_cases c:r=g
 subst c;rw[e]at d;cases d;rw[Ze,Zfs m];have i:b≠a:=fun q=>by
  subst q;exact c ((WT h.nd).mp (((Qo.mp e).2).trans ((Qo.mp d).2).symm))
 rw[Zj i,p,Zfs (o r (by rw[←h.len];exact t) c)]
def RowsI.on {os} (h:RowsI H d i os es) (s:Same H j) (b:∀ r,r<os.length->∀ c,c<os.length->Zaw os es r c=Zaw os es' r c):RowsI j d i os es' :=
 ⟨s _ _ h.tab,h.len,h.nd,fun r a e=>by
  obtain⟨f,g⟩:=h.row r a e;have k:=(Qo.mp e).1;refine⟨f,s _ _ ?_⟩;rw[g,Zfs (b r (by rw[←h.len];exact k))]⟩
section
variable {P:Oc} {w:Of} {K:PySem.W.Frag} {mg:Str->Option Value} {base:Heap}
abbrev Xc:Stmt:=top 29
noncomputable abbrev Zae:List Str:=["H","root","numbers","rows","piece","many","here","there"]
def scTreeTable:Zm Zae ["H","root"] (Zf Xc):=⟨rfl,rfl,rfl,by decide +kernel,rfl,by decide +kernel,by decide +kernel⟩
def ZiT:Sp:=fun vs H Q _=>∃ (v:V) (es:Es) (r:Str),vs=[v,.str r]/\HeapV H v es/\JW es/\∀ t H' ts ss,Same H H'->SPts es ss->H' t=some (.tup (ts.map V.ref))->RowsT H' ts (ZlF (othL ss r) es)->Q (.ref t) H'
def ZcS (D:HasDef K mg "tree_table" Xc ["H","root"]) (B:Blt mg) (g49_:FOk P w K mg base 3 "row_numbers" ["H","root"] Znu) (g17_:FOk P w K mg base 3 "begin_of" ["piece"] Zcs) (g23_:FOk P w K mg base 3 "end_of" ["piece"] Zhw):FOk P w K mg base 4 "tree_table" ["H","root"] ZiT:=by
 refine D.ok scTreeTable (fun vs H Q E h=>?_) (fun f cdv A outer s H vs Q E hr h=>?_)
 ·obtain⟨v,es,r,rfl,_⟩:=h;rfl
 ·refine B0 ?_;intros;obtain⟨v,es,r,rfl,hV,hF,k⟩:=h;have hu:=Zdd hr;refine⟨_,(Zd (Zo (i:=2) scTreeTable.nd rfl (.inr rfl) (Zu g49_ hr (Za (pv 0) (Za (pv 1) Zc))))
   (Zd (ZqV (Xk (i:=3) (Zf Xc) Zae ["point"] [2] scTreeTable.nd rfl (.inl rfl) rfl (Zpa (pv 2)) (fun _ _ _ _ _=>ZW 0) (fun _ _ _ _ _=>ZD) (fun _ _ _ _ _=>(Zv ZnY (Z2 (Za Zh Zc)) (Zi Zlf rfl B.len ZE (Za (pv 1) Zc))))))
   (Zd (Yh PassesOwn.never rfl (Yb (pv 0)) (Yt 2 K rfl (Zy (ZG (i:=4) scTreeTable.nd rfl (.inl rfl)) (Zy (ZG (i:=5) scTreeTable.nd rfl (.inl rfl)) Ys)))
    (Zd (Zo (i:=6) scTreeTable.nd rfl (.inl rfl) (ZgH hu (pv 2) (Zu g17_ hr (Za (pv 4) Zc)) ⟨rfl,rfl,rfl,rfl⟩))
   (Zd (Zo (i:=7) scTreeTable.nd rfl (.inl rfl) (ZgH hu (pv 2) (Zu g23_ hr (Za (pv 4) Zc)) ⟨rfl,rfl,rfl,rfl⟩))
   (Zg (ZI (Zq ZjX (pv 6) Zbb (Zr _)) (Zd (ZjH (Zw ix_list (pv 3) (pv 6) (fun _ _=>rfl)) (pv 6) Zew (pv 5) Zrz Zcw)
   (Zg (ZI (Zq ZjX (pv 7) Zbb (Zr _)) (Zg (ZjH (Zw ix_list (pv 3) (pv 6) (fun _ _=>rfl)) (pv 7) Zew (pv 5) Zry Zcw)) Zt))) Zt)))))
   (Zg (Zn (ZB ZJ rfl B.tuple Yc (Za (Zx (Zf Xc) Zae ["row"] [] rfl (ZQ (pv 3)) (fun _ _ _ _ _=>ZW 0) (fun _ _ _ _ _=>ZD) (fun _ _ _ _ _=>(ZB (ZbO K) rfl B.tuple Yc (Za (pv 0) Zc)))) Zc))))))),?_⟩
  apply B4;intros;obtain⟨q,vs,rfl,hq,hpa⟩:=hV;have hvl:=hpa.1;have hfew:=hF.few;refine⟨_,rfl,_,rfl,.ref q,es,r,rfl,⟨q,vs,rfl,hq,hpa⟩,hF,fun d H1 ss s1 hS hd1=>?_⟩;have hol:(othL ss r).length<=128:=by
   have h1:(othL ss r).length<=ss.length:=Q7 _ _;have h2:=hS.pts.len;exact Sd h2 h1 hfew
  generalize hos:othL ss r=os at *;have hkl:(ixD os).length=os.length:=Zav _ _;refine⟨d,_,hd1,fun o=>⟨_,rfl,d,o,_,rfl,Ze,Zkz (ixD os).length (fun i=>((ixD os).map fun p=>kV p.1).getD i .non) (fun _=>QR os.length (V.int 0)) (Zk (By hol hkl)) (ZpI Ze) ?_ ?_⟩⟩
  ·intro i H3 Qe hi hs kq;refine⟨Zmg,fun p1 hp1=>?_⟩;have s2:=Zb (o:=.lst [V.int 0]) hp1;refine⟨_,rfl,d,ixD os,rfl,.inr ⟨o,s2 _ _ (hs _ _ Ze)⟩,Lb p1 _ _ ⟨rfl,rfl,Ze,by lia,by lia,?_,fun p2 hp2=>?_⟩⟩
   ·rw[hkl];exact Zk (by simp;exact Bm hol)
   refine kq p2 _ (s2.trans (Zb hp2)) (s2.free hp2) ?_;rw[Ze,hkl,show((os.length:Int)).toNat=os.length from rfl,Zg9]
  intro pr as H2 hal hnd hrow hs2 hpr hprl;rw[hkl]at hal;have hdf:H2 d=some (.frz o (.dK (ixD os))):=hs2 _ _ Ze;refine⟨hdf,?_⟩;have npd:pr≠d:=fun z=>by simp_all
  have nad:∀ (r:Nat) (a:Addr),as[r]?=some a->a≠d:=fun r a e z=>by
   have:=(hrow r a e).2.1;rw[z,Ze]at this
   simp_all
  have n1:∀ b,(upd H1 d (.frz o (.dK (ixD os)))) b=none->H1 b=none:=fun b z=>by
   by_cases e:b=d
   ·rw[e,Ze]at z
    grind
   ·rw[Zj e]at z;omega
  have s3:Same H (upd H2 d (.dK (ixD os))):=fun b u e=>by
   by_cases z:b=d
   ·rw[z]at e ⊢;rw[Ze,←hd1];exact s1 _ _ e
   ·rw[Zj z];refine hs2 _ _ ?_;rw[Zj z];exact s1 _ _ e
  have hd3:(upd H2 d (.dK (ixD os))) d=some (.dK (ixD os)):=Ze;have hR3:RowsI (upd H2 d (.dK (ixD os))) pr as os []:=by
   refine⟨by rw[Zj npd];exact hprl,hal,hnd,fun r a e=>⟨(hrow r a e).1,?_⟩⟩;rw[Zj (nad r a e),(hrow r a e).2.2,Zim os r]
  have Npr:H pr=none:=s1.free (n1 _ hpr);have Nas:∀ (r:Nat) (a:Addr),as[r]?=some a->H a=none:=fun r a e=>s1.free (n1 _ (hrow r a e).2.1);generalize upd H2 d (.dK (ixD os))=H3 at s3 hd3 hR3;clear hdf hrow hprl hpr hs2 n1;refine⟨_,rfl,q,rfl,⟨_,SqT.of (s3 _ _ hq)⟩,Y9 (K:=K) (a:=q) (xs:=vs) (fun i σ H4=>(∃ z4 z5 z6 z7:Option V,σ=[some (.ref q),some (.str r),some (.ref d),some (.ref pr),z4,z5,z6,z7])/\Same H H4/\H4 d=some (.dK (ixD os))/\RowsI H4 pr as os (es.take i))
   ⟨⟨none,none,none,none,rfl⟩,s3,hd3,hR3⟩ (fun i σ H4 _ ⟨_,s4,_⟩=>SqT.of (s4 _ _ hq)) ?_ ?_⟩
  ·rintro i x σ H4 hi ⟨⟨z4,z5,z6,z7,rfl⟩,s4,hd4,hR4⟩;have hiv:i<vs.length:=(Qo.mp hi).1;have hie:i<es.length:=by rw[←hpa.1];exact hiv
   refine Pe (hpa.2 i es[i] (Qa hie)) fun b e1 e2=>?_;rw[hi]at e1;cases e1;obtain⟨l1,l2⟩:=hF.long es[i] (QA hie);have het:es.take (i+1)=es.take i++[es[i]]:=QQ hie;have e2':=s4 _ _ e2;rw[het];generalize es[i]=e at *;generalize es.take i=et at *;refine⟨b,_,rfl,SqT.of e2',rfl,_,_,rfl,_,_,rfl,rfl,?_⟩;apply B2;intros;refine⟨_,rfl,d,rfl,.inl ⟨_,.inl hd4⟩,_,rfl,e.1,rfl,l1,l2,_,DGet.kk (k:=Sum.inr (bg e.1)) hd4,?_⟩;refine⟨_,rfl,d,rfl,.inl ⟨_,.inl hd4⟩,_,rfl,e.1,rfl,l1,l2,_,DGet.kk (k:=Sum.inr (en e.1)) hd4,?_⟩;rw[Zn7,Zn7];refine⟨_,rfl,rfl,_,rfl,?_⟩;by_cases hb:bg e.1∈os
   rotate_left
   ·rw[if_neg hb];refine Yw (by simp) ⟨⟨_,_,_,_,rfl⟩,s4,hd4,hR4.on (Same.refl _) fun r hr c hc=>?_⟩;rw[ZaE,if_neg (by rw[RO hb];exact M9 hr),UO]
   rw[if_pos hb];refine YG (by simp) ?_;have hb0:os.idxOf (bg e.1)<os.length:=UP.mpr hb;obtain⟨hb1,hidx⟩:∃ n,os.idxOf (bg e.1)=n:=⟨_,rfl⟩
   rw[hidx]at hb0 ⊢;apply B3;intros;have hba:hb1<as.length:=by rw[hal];exact hb0
   have ha:=Qa hba;generalize as[hb1]=a at ha;obtain⟨nap,hrow4⟩:=hR4.row hb1 a ha;have hatr:atI (as.map V.ref) (hb1:Int)=some (.ref a):=by
    unfold atI;rw[Qc,Zet hba];show(as.map V.ref)[hb1]?=_;rw[Qh,ha];rfl
   have hlenr:∀ f:Nat->Int,((ZbZ os.length f).map V.int).length=os.length:=fun f=>by rw[Qc,XY]
   refine⟨_,rfl,_,rfl,Ld pr _ _ _ ⟨rfl,rfl,SqL.of hR4.tab,hatr,_,rfl,Ld a _ hb1 _ ⟨rfl,rfl,hrow4,XZ hb0,_,rfl,_,_,rfl,rfl,Ld a _ _ hb1 ⟨rfl,rfl,hrow4,by rw[hlenr];exact Zet hb0,?_⟩⟩⟩⟩;rw[Zgz];have s5:Same H (upd H4 a (.lst ((ZbZ os.length fun c=>Zaw os et hb1 c+if c=hb1 then e.2 else 0).map V.int))):=fun c u q=>by
    rw[Zj (Zl q (Nas hb1 a ha))];exact s4 _ _ q
   have nda:d≠a:=fun z=>by rw[z,hrow4]at hd4;cases hd4
   have hd5:(upd H4 a (.lst ((ZbZ os.length fun c=>Zaw os et hb1 c+if c=hb1 then e.2 else 0).map V.int))) d=some (.dK (ixD os)):=by rw[Zj nda];exact hd4
   have hpr5:(upd H4 a (.lst ((ZbZ os.length fun c=>Zaw os et hb1 c+if c=hb1 then e.2 else 0).map V.int))) pr=some (.lst (as.map V.ref)):=by rw[Zj (Ne.symm nap)];exact hR4.tab
   have hoth:∀ r,r<os.length->r≠hb1->∀ c,c<os.length->Zaw os et r c=Zaw os (et++[e]) r c:=fun r _ hr c _=>by
    rw[ZaE,if_neg (by rw[hidx];exact hr),UO]
   refine⟨_,rfl,rfl,_,rfl,?_⟩;by_cases ht:en e.1∈os
   rotate_left
   ·rw[if_neg ht];refine Yw (by simp) ⟨⟨_,_,_,_,rfl⟩,s5,hd5,hR4.upd ha (fun c hc=>?_) hoth⟩;rw[ZaE,hidx,if_pos (rfl:hb1=hb1),RO ht,if_neg (show ¬ c=os.length by exact M9 hc)];by_cases z:c=hb1 <;> simp[z]
   rw[if_pos ht];refine YG (by simp) ?_;have ht0:os.idxOf (en e.1)<os.length:=UP.mpr ht;obtain⟨ht1,hidt⟩:∃ n,os.idxOf (en e.1)=n:=⟨_,rfl⟩
   rw[hidt]at ht0 ⊢;have hrow5:(upd H4 a (.lst ((ZbZ os.length fun c=>Zaw os et hb1 c+if c=hb1 then e.2 else 0).map V.int))) a=_:=Ze;refine⟨_,rfl,_,rfl,Ld pr _ _ _ ⟨rfl,rfl,SqL.of hpr5,hatr,_,rfl,Ld a _ ht1 _ ⟨rfl,rfl,hrow5,XZ ht0,_,rfl,_,_,rfl,rfl,Ld a _ _ ht1 ⟨rfl,rfl,hrow5,by rw[hlenr];exact Zet ht0,?_⟩⟩⟩⟩;dsimp only;rw[Int.sub_eq_add_neg,Zgz,ZaP];refine⟨⟨_,_,_,_,rfl⟩,fun c u q=>?_,?_,hR4.upd ha (fun c hc=>?_) hoth⟩
   ·rw[Zj (Zl q (Nas hb1 a ha))];exact s4 _ _ q
   ·rw[Zj nda];exact hd4
   ·rw[ZaE,hidx,if_pos (rfl:hb1=hb1),hidt];exact ZrS _ _ _ _
  ·rintro σ H4 ⟨⟨z4,z5,z6,z7,rfl⟩,s4,hd4,hR4⟩;rw[hpa.1,QP (Ql _)]at hR4;refine⟨_,rfl,pr,rfl,⟨_,SqL.of hR4.tab⟩,Z3 as.length (fun i=>(as.map V.ref).getD i .non) (fun i v H=>∃ a,v=V.ref a/\H a=some (.tup (((ZlF os es).getD i []).map V.int))) (Zk (By hol hal)) (fun i v H H' ts=>B9 fun b e q=>⟨b,e,ts _ _ q⟩) (by have:=Yi (K:=K) (SqL.of hR4.tab);rw[Qc]at this;exact this) ?_ ?_⟩
   ·intro i H5 Qe hi hs kq;rw[Y0 hi];have hrw:=(hR4.row i _ (Qa hi)).2;rw[←Zgi (by rw[←hal];exact hi)]at hrw;exact⟨_,rfl,_,_,rfl,.inl ⟨SqL.of (hs _ _ hrw),fun l hl=>kq _ _ (Zb hl) ⟨l,rfl,Ze⟩⟩⟩
   intro D1 vs1 H5 hl1 hr3 hs3 hD1 hDl1;refine Pe (ZjB vs1 _ hr3) fun ts ets hts=>?_;refine⟨D1,vs1,rfl,.inl ⟨SqL.of hDl1,fun t ht=>?_⟩⟩;have s6:=Zb (o:=.tup vs1) ht;have htt:(upd H5 t (.tup vs1)) t=some (.tup (ts.map V.ref)):=by rw[Ze,ets]
   subst hos;refine k t _ ts ss ((s4.trans hs3).trans s6) hS htt ⟨?_,fun i b e=>s6 _ _ (hts i b e)⟩;have h1:ts.length=vs1.length:=by rw[ets,Qc]
   rw[h1,hl1,hal];unfold ZlF;simp
end
def Znl {g:Tie->Int}:∀ ts:List Tie,(∀ t∈ts,(g t).natAbs<=2000)->((ts.map g).sum).natAbs<=2000*ts.length
 | [],_=>by simp
 | t::ts,h=>by
  have d:=Znl ts fun u c=>h u (Qg _ c);have e:=h t Qd;rw[Qp,Qy,QC];omega
def Zqu {os} (d:JW es) (r c):Sm 120 (Zaw os es r c):=by
 have h:(Zaw os es r c).natAbs<=2000*(Jg os es r).length:=by
  refine Znl _ fun t f=>?_;obtain⟨e,g,rfl⟩:=Qk.mp f;have k:=d.many e (QF.mp g).1;split <;> split <;> simp <;> lia
 have i:(Jg os es r).length<=es.length:=by
  unfold Jg
  grind
 have j:=d.few;have:(Zaw os es r c).natAbs<=128000:=by lia
 exact WB this (by decide)
def Zoz (os) (es):det os.length (Zqm (ZlF os es))=Yg os.length (Jg os es) os.length []:=by
 rw[Jt (fun r t b=>?_) os.length [] (by simp) fun x f=>by grind];refine YH fun r d c a=>?_;unfold Zqm;rw[Zgi d];unfold ZbZ;rw[Qb,Qh,Q6 a];rfl;obtain⟨e,_,rfl⟩:=Qk.mp b;exact U4
section
variable {P:Oc} {w:Of} {K:PySem.W.Frag} {mg:Str->Option Value} {base:Heap}
abbrev Zcy:Stmt:=top 30
noncomputable abbrev Zmt:List Str:=["H","root"]
def Zjk:Zm Zmt ["H","root"] (Zf Zcy):=⟨rfl,rfl,rfl,by decide +kernel,rfl,by decide +kernel,by decide +kernel⟩
noncomputable def X8 (os:List Str) (es:Es):Int:=Yg os.length (Jg os es) os.length []
def ZiS:Sp:=fun vs H Q _=>∃ (v:V) (es:Es) (r:Str),vs=[v,.str r]/\HeapV H v es/\JW es/\(∀ ss,SPts es ss->(othL ss r).length<=31)/\∀ H' ss,Same H H'->SPts es ss->Q (.int (X8 (othL ss r) es)) H'
def ZfB (D:HasDef K mg "trees_of" Zcy ["H","root"]) (B:Blt mg) (e:FOk P w K mg base 4 "tree_table" ["H","root"] ZiT) (d:FOk P w K mg base 4 "worth_of" ["table"] ZdK):FOk P w K mg base 5 "trees_of" ["H","root"] ZiS:=by
 refine D.ok Zjk (fun O H Q E h=>?_) fun f R A o s H O Q E q h=>?_;obtain⟨v,g,r,rfl,_⟩:=h;rfl;obtain⟨v,g,r,rfl,I,u,p,k⟩:=h;refine⟨_,Zg (Zn (Zu d q (Za (Zu e q (Za (pv 0) (Za (pv 1) Zc))) Zc))),⟨_,rfl,_,rfl,v,g,r,rfl,I,u,fun t S z b G n M J=>?_⟩⟩;have y:Sq (othL b r).length (ZlF (othL b r) g):=by
  refine⟨by unfold ZlF;simp,fun m a=>?_⟩;obtain⟨i,_,rfl⟩:=Qk.mp a;exact XY _ _
 have F:SmM 120 (ZlF (othL b r) g):=fun m a x C=>by
  obtain⟨i,_,rfl⟩:=Qk.mp a;obtain⟨c,_,rfl⟩:=Qk.mp C;exact Zqu u i c
 refine⟨t,z,_,_,_,rfl,M,J,ZpZ (p b n) y F,p b n,fun N L=>?_⟩;rw[Zoz];exact k N b (G.trans L) n
end
def range_getD {α:Type} (l) (d:α):(Qz l.length).map (fun i=>l.getD i d)=l:=by
 apply QI;intro i;rw[Qh];by_cases h:i<l.length
 rw[Q6 h];show some (l.getD i d)=_;rw[Qb,Qa h];rfl;rw[Qj (by rw[Q3];exact G7 h),Qj (G7 h)];rfl
section
variable {P:Oc} {w:Of} {K:PySem.W.Frag} {mg:Str->Option Value} {base:Heap}
abbrev JF:Stmt:=top 77
abbrev ZcY:List Str:=["_law_row_here"]
def Zjl:Zm ZcY ["_law_row_here"] (Zf JF):=⟨rfl,rfl,rfl,by simp,rfl,by decide +kernel,by decide +kernel⟩
def ZnB (K:PySem.W.Frag):Sp:=fun vs H Q _=>∃ (a:Addr) (es:Es),vs=[.ref a]/\SqL K H a ((es.map (·.1)).map V.str)/\JW es/\∀ p H' ss,Same H H'->SPts es ss->H' p=some (.lst (ss.map V.str))->Q (.ref p) H'
def ZfG (D:HasDef K mg "_law_points" JF ["_law_row_here"]) (B:Blt mg):FOk P w K mg base 1 "_law_points" ["_law_row_here"] (ZnB K):=by
 refine D.ok Zjl (fun vs H Q E h=>?_) (fun f cdv A outer s H vs Q E hr h=>?_)
 obtain⟨a,es,rfl,_⟩:=h;rfl
 refine B0 ?_;intros;obtain⟨a,es,rfl,ha,hF,k⟩:=h;refine⟨_,(Zg (Zn (Zi (XM rfl) rfl B.sorted Xq (Za (ZB (Zby rfl) rfl B.set Zp8 (Za (Zv Zd0 (Zx (Zf JF) ZcY ["_law_piece"] [] rfl (ZQ (pv 0)) (fun _ _ _ _ _=>ZW 0) (fun _ _ _ _ _=>ZD) (fun _ _ _ _ _=>(ZM YE (pv 0) Z4 (ZV (Jm YQ Zh)))))
  (Zx (Zf JF) ZcY ["_law_piece"] [] rfl (ZQ (pv 0)) (fun _ _ _ _ _=>ZW 0) (fun _ _ _ _ _=>ZD) (fun _ _ _ _ _=>(ZM YE (pv 0) (ZV Zh) Z4)))) Zc)) Zc)))),?_⟩
 have hfew:=hF.few;have hlen:((es.map (·.1)).map V.str).length=es.length:=by simp
 have hit:∀ i,i<es.length->((es.map (·.1)).map V.str).getD i .non= .str (es.getD i ("",0)).1:=fun i hi=>by
  rw[Qb,Qh,Qh,Qa hi,Qb,Qa hi];rfl
 have hmem:∀ i,i<es.length->es.getD i ("",0)∈es:=fun i hi=>by
  rw[Qb,Qa hi];simp
 refine⟨_,rfl,a,rfl,⟨_,ha⟩,Z3 ((es.map (·.1)).map V.str).length (fun i=>((es.map (·.1)).map V.str).getD i .non) (fun i v _=>v= .str (bg (es.getD i ("",0)).1)) (Zk (Mo hfew hlen)) (fun _ _ _ _ _ r=>r) (Yi ha) ?_ ?_⟩
 intro i H3 Qe hi hs kq;rw[hlen]at hi;rw[hit i hi];obtain⟨l1,l2⟩:=hF.long _ (hmem i hi);exact ⟨_,rfl,_,rfl,_,rfl,_,rfl,Yl l2,XW l1▸kq _ _ (Same.refl _) rfl⟩
 intro D1 vs1 H3 hl1 hr1 hs3 hD1 hDl1;rw[Zcp (f:=bg) (T9 hlen hl1) hr1]at hDl1;refine⟨_,rfl,a,rfl,⟨_,hs3.seq ha⟩,Z3 ((es.map (·.1)).map V.str).length (fun i=>((es.map (·.1)).map V.str).getD i .non) (fun i v _=>v= .str (en (es.getD i ("",0)).1)) (Zk (Mo hfew hlen)) (fun _ _ _ _ _ r=>r) (Yi (hs3.seq ha)) ?_ ?_⟩
 intro i H4 Qe hi hs kq;rw[hlen]at hi;rw[hit i hi];obtain⟨l1,l2⟩:=hF.long _ (hmem i hi);exact ⟨_,rfl,_,rfl,_,rfl,Yl l2,Jx l1▸kq _ _ (Same.refl _) rfl⟩
 intro D2 vs2 H4 hl2 hr2 hs4 hD2 hDl2;rw[Zcp (f:=en) (T9 hlen hl2) hr2]at hDl2;refine Ld D1 D2 _ _ ⟨rfl,rfl,hs4 _ _ hDl1,hDl2,Zk (by simp only[Qc];exact Mp hfew),fun p hp=>⟨p,(es.map fun e=>bg e.1)++(es.map fun e=>en e.1),rfl,SqL.of (by rw[Ze,QM]),by simp only[Qm,Qc];exact Mp hfew,fun p2 ks hp2 hnd hmem2 hkl=>?_⟩⟩;have hkl':ks.length<=2*es.length:=by simp only[Qm,Qc]at hkl;exact Mq hkl
 refine ⟨p2,ks,rfl,Ze,N8 hfew hkl',fun q2 ss hq2 hpm hsrt=>k q2 _ ss ((((hs3.trans hs4).trans (Zb (o:=.lst ((es.map fun e=>bg e.1).map V.str++(es.map fun e=>en e.1).map V.str)) hp)).trans (Zb hp2)).trans (Zb hq2)) (SPts.of (ks:=ks) ⟨hnd,fun x=>?_,hkl'⟩ hpm hsrt) Ze⟩;rw[hmem2,QG,Qk,Qk];constructor
 rintro(⟨e,he,z⟩ | ⟨e,he,z⟩)
 exact⟨e,he,.inl z⟩
 exact⟨e,he,.inr z⟩
 rintro⟨e,he,z | z⟩
 exact .inl ⟨e,he,z⟩
 exact .inr ⟨e,he,z⟩
end
def ZrT {l:List Str} {i:Nat} (h):atI (l.map V.str) i=some (.str l[i]):=by
 unfold atI;rw[Qc,Zet h];show(l.map V.str)[i]?=_;rw[Qh,Qa h];rfl
section
variable {P:Oc} {w:Of} {K:PySem.W.Frag} {mg:Str->Option Value} {base:Heap}
end
section
variable {P:Oc} {w:Of} {K:PySem.W.Frag} {mg:Str->Option Value} {base:Heap} {S C A1 A2 A3 A4 A5 A6 A7 A8:Addr}
end
def J0 (h:0<=n):Txt.slice (tx z) none (some n)=tx (z.take n.toNat):=by
 apply ZX;rw[ZbD h,Yn,Yn]
section
variable {P:Oc} {w:Of} {K:PySem.W.Frag} {mg:Str->Option Value} {base:Heap}
end
def SB (D:Addr) (H H':Hp):Prop:=∀ b u,b≠D->H b=some u->H' b=some u
def SB.refl (D) (H):SB D H H:=fun _ _ _ e=>e
def SB.trans (a:SB D H g) (b:SB D g f):SB D H f:=fun c u d e=>b c u d (a c u d e)
def SB.upd:SB D H (upd H D o):=fun b u a e=>by rw[Zj a];omega
def DK (H:Hp) (D:Addr) (n:Nat):Prop:=∃ ns:List Int,H D=some (.lst (ns.map V.int))/\n<=ns.length/\∀ x∈ns,0<=x/\x<10 ^ 18
def DK.same (h:DK H D n) (s:Same H a):DK a D n:=by
 obtain⟨b,e,r⟩:=h;exact⟨b,s _ _ e,r⟩
def DK.less (h:DK H D n) (hm:m<=n):DK H D m:=by
 obtain⟨ns,e,r,t⟩:=h;exact⟨ns,e,Tp r hm,t⟩
def DK.pop (h:DK H D (n+1)):∃ (ns:List Int) (c:Int),H D=some (.lst ((ns++[c]).map V.int))/\0<=c/\c<10 ^ 18/\DK (upd H D (.lst (ns.map V.int))) D n:=by
 obtain⟨ns,e,l,b⟩:=h;rcases Uc ns with z | ⟨r,c,z⟩
 rw[z]at l;simp at l;rw[Ux]at z;subst z;have a:=b c (by simp);rw[Qm,QD]at l;exact⟨r,c,e,a.1,a.2,r,Ze,K6 l,fun x d=>b x (Q0 _ d)⟩
def Y5 (ns) (c):((ns++[c]).map V.int)[((ns++[c]).map V.int).length-1]?=some (V.int c):=by
 simp
def Y7 (ns) (c):((ns++[c]).map V.int).dropLast=ns.map V.int:=by
 simp
def ZgA:∀ ns:List Int,RepA H (ns.map PyData.int) (ns.map V.int)
 | []=>by rfl
 | p::a=>⟨.int p,a.map V.int,rfl,by rfl,ZgA a⟩
def Xd {ns:List Int} (h:H a=some (.lst (ns.map V.int))):RepD H (.list (ns.map PyData.int)) (.ref a):=⟨a,_,rfl,h,ZgA ns⟩
def ZgX:∀ ns:List Int,PyData.canLayAll0 (ns.map PyData.int)=true
 | []=>by rfl
 | p::a=>by
  rw[Qp,PyData.canLayAll0,ZgX a];rfl
def Zch:∀ ns:List Int,PyData.depthAll (ns.map PyData.int)<=1
 | []=>by simp[PyData.depthAll]
 | p::a=>by
  have:=Zch a
  assumption
def YA (ns:List Int):SeqAt.shaped (.list (ns.map PyData.int))=true:=by
 unfold SeqAt.shaped;rw[QW];constructor;exact ZgX ns;refine decide_eq_true ?_;have:=Zch ns;rw[PyData.depth];exact Bv this
def Zhb (ns:List Int):PyData.eqv (.list (ns.map PyData.int)) (.list (([]).map PyData.int))=ns.isEmpty:=by
 cases ns with
 | nil=>rfl
 | cons n r=>rfl
def Zhx (a:0<=i) (b:i<=z.length):Txt.slice (tx z) (some i) none=tx (z.drop i.toNat):=by
 apply ZX;rw[Xr a (by assumption),Yn,Yn]
section
variable {P:Oc} {w:Of} {K:PySem.W.Frag} {mg:Str->Option Value} {base:Heap}
abbrev Zfn:Stmt:=top 68
abbrev Zpt:List Str:=["_law_row_here","_law_k","_law_cell"]
def scLMixed:Zm Zpt ["_law_row_here","_law_k"] (Zf Zfn):=⟨rfl,rfl,rfl,by decide +kernel,rfl,by decide +kernel,by decide +kernel⟩
def Zi2:Sp:=fun vs H Q _=>∃ (r:Addr) (ns:List Int) (k:Int),vs=[.ref r,.int k]/\H r=some (.lst (ns.map V.int))/\ns.length<=63/\0<=k/\k<1000/\∀ n H',0<=n->n<2147483629->Same H H'->Q (.int n) H'
def ZhO (D:HasDef K mg "_law_mixed" Zfn ["_law_row_here","_law_k"]) (B:Blt mg):FOk P w K mg base 1 "_law_mixed" ["_law_row_here","_law_k"] Zi2:=by
 refine D.ok scLMixed (fun vs H Q E h=>?_) (fun f cdv A outer s H vs Q E hr h=>?_)
 obtain⟨r,ns,k,rfl,_⟩:=h;rfl
 refine B0 ?_;intros;obtain⟨r,ns,k,rfl,hr0,hn,k0,k1,kk⟩:=h;refine ⟨_,(Zd (Zo (i:=2) scLMixed.nd rfl (.inl rfl) (Zv Z7 (Zv Jc Zh (pv 1)) Zh))
  (Zd (ZI (Zq (ZdY hr.units) (pv 0) (Z2 Zc) (Zr _)) (Zg (Zo (i:=2) scLMixed.nd rfl (.inl rfl) (Zv Z7 (Zv Z7 (Zv Z6 (Zw ix_list (pv 0) (Zv Z6 (pv 1) (Zi Zp rfl B.len ZE (Za (pv 0) Zc))) (fun _ _=>rfl)) Zh) (Zv Jc (Zv XD (pv 1) (Zi Zp rfl B.len ZE (Za (pv 0) Zc))) Zh)) Zh))) Zt)
  (Zd (Zo (i:=2) scLMixed.nd rfl (.inl rfl) (Zv Z6 (Zv Z7 (Zv Z7 (Zv Jc (pv 2) Zh) (Zv Jc (Zv Jc (pv 1) (pv 1)) Zh)) Zh) Zh))
  (Zg (Zn (Zv Z6 (Zv Z7 (Zv Z7 (Zv Jc (pv 2) (pv 2)) (Zv Jc (Zv Jc (Zv Jc (pv 1) (pv 1)) (pv 1)) Zh)) Zh) Zh)))))),⟨_,rfl,_,_,rfl,rfl,.inl ⟨by decide,by decide⟩,_,_,rfl,rfl,?_⟩⟩;dsimp only;refine Yr (fun σ H2=>Same H H2/\∃ c:Int,σ=[some (.ref r),some (.int k),some (.int c)]) (fun R hR=>?_) ?_
 refine⟨_,rfl,Zk (show 0<=1000 by decide),fun p0 hp0=>?_⟩;have s0:=Zb (o:=.lst []) hp0;have hr1:=s0 _ _ hr0;refine⟨.list (ns.map PyData.int),_,Xd hr1,Xd (ns:=[]) Ze,YA ns,YA [],_,rfl,?_⟩;cases ns with
 | nil=>exact Yw rfl (hR _ _ ⟨s0,_,rfl⟩)
 | cons x xs =>
  refine YG rfl ?_;have hms:(x::xs).length≠0:=by simp
  generalize x::xs=ms at *;have hlp:(0:Int)<((ms.map V.int).length:Int):=by rw[Qc];lia
  have mb:=Yo k hlp;exact ⟨_,rfl,_,rfl,_,rfl,.ref r,_,rfl,.inl ⟨_,SqL.of hr1,rfl⟩,_,_,rfl,rfl,hlp,Ld r _ _ _ ⟨rfl,rfl,SqL.of hr1,(ZfU (ns:=ms) mb.1 (by have:=mb.2;rw[Qc]at this ⊢;exact this)),_,_,rfl,rfl,(by lia),_,rfl,_,rfl,.ref r,_,rfl,.inl ⟨_,SqL.of hr1,rfl⟩,_,_,rfl,rfl,⟨hlp,by rw[Qc];lia⟩,_,_,rfl,rfl,.inr ⟨by decide,by decide⟩,_,_,rfl,rfl,_,_,rfl,rfl,hR _ _ ⟨s0,_,rfl⟩⟩⟩
 rintro σ H2 ⟨s2,c,rfl⟩;refine⟨_,rfl,_,_,rfl,rfl,.inr ⟨by decide,by decide⟩,_,rfl,_,rfl,_,_,rfl,rfl,.inl ⟨by omega,by omega⟩,_,_,rfl,rfl,.inr ⟨by decide,by decide⟩,_,_,rfl,rfl,_,_,rfl,rfl,_,_,rfl,rfl,(by lia),?_⟩;have m1:=Yo (c*48271+k*k*16807+3) (show(0:Int)<2147483647 by decide);dsimp only;generalize (c*48271+k*k*16807+3) % 2147483647=c2 at m1;have m2:=Yo (c2*c2+k*k*k*69621+5) (show(0:Int)<2147483629 by decide);exact ⟨_,rfl,_,rfl,_,_,rfl,rfl,.inl ⟨by omega,by omega⟩,_,rfl,_,rfl,_,_,rfl,rfl,.inl ⟨by omega,by omega⟩,_,rfl,_,_,rfl,rfl,.inr ⟨by omega,by omega⟩,_,_,rfl,rfl,.inr ⟨by decide,by decide⟩,_,_,rfl,rfl,_,_,rfl,rfl,_,_,rfl,rfl,(by lia),kk _ _ m2.1 m2.2 s2⟩
abbrev Za6:Stmt:=top 70
noncomputable abbrev Zkl:List Str:=["_law_deck_here","_law_few_here","_law_some","_law_number","_law_found","_law_k","_law_at"]
def scLLetters:Zm Zkl ["_law_deck_here","_law_few_here"] (Zf Za6):=⟨rfl,rfl,rfl,by decide +kernel,rfl,by decide +kernel,by decide +kernel⟩
def Zi4:Sp:=fun vs H Q _=>∃ (D:Addr) (few n:Nat),vs=[.ref D,.int few]/\2<=few/\few<=26/\DK H D (n+1)/\∀ (z:List Nat) H',SB D H H'->DK H' D n->z.length=few->Cd z->Q (.str (tx z)) H'
def ZrU:("abcdefghijklmnopqrstuvwxyz")=tx ((Qz 26).map (· + 97)):=by rfl
def Zec (D:HasDef K mg "_law_letters" Za6 ["_law_deck_here","_law_few_here"]) (B:Blt mg):FOk P w K mg base 1 "_law_letters" ["_law_deck_here","_law_few_here"] Zi4:=by
 refine D.ok scLLetters (fun vs H Q E h=>?_) (fun f cdv A outer s H vs Q E hr h=>?_)
 obtain⟨D,few,n,rfl,_⟩:=h;rfl
 refine B0 ?_;intros;obtain⟨Dk,few,n,rfl,f2,f26,hD,k⟩:=h;refine⟨_,(Zd (Zo (i:=2) scLLetters.nd rfl (.inl rfl) Z1)
  (Zd (Zo (i:=3) scLLetters.nd rfl (.inl rfl) (Xs F.plainAttrs_list F.slot_list_pop F.type_list_pop YK (pv 0)))
  (Zd (Zo (i:=4) scLLetters.nd rfl (.inl rfl) Z1)
  (Zd (Yh PassesOwn.never rfl (YV rfl B.range (Za (Zi (ZeQ rfl) rfl B.min ZrO (Za (pv 1) (Za Zh Zc))) Zc)) (ZG (i:=5) scLLetters.nd rfl (.inl rfl))
   (Zd (Zo (i:=6) scLLetters.nd rfl (.inl rfl) (Zv Z6 (pv 3) (Zi Zp rfl B.len ZE (Za (pv 2) Zc))))
  (Zd (Zo (i:=4) scLLetters.nd rfl (.inl rfl) (Zv Yf (pv 4) (Zw Zg0 (pv 2) (pv 6) (fun _ _=>rfl))))
  (Zd (Zo (i:=3) scLLetters.nd rfl (.inl rfl) (Zv XD (pv 3) (Zi Zp rfl B.len ZE (Za (pv 2) Zc))))
  (Zg (Zo (i:=2) scLLetters.nd rfl (.inl rfl) (Zv Yf (ZM YE (pv 2) Z4 (ZV (pv 6))) (ZM YE (pv 2) (ZV (Zv Z7 (pv 6) Zh)) Z4))))))))
  (Zg (Zn (Zv Yf (pv 4) (ZM YE (pv 2) Z4 (ZV (Zv Xe (pv 1) (Zi Zp rfl B.len ZE (Za (pv 4) Zc)))))))))))),?_⟩
 apply B5;intros;obtain⟨ns,c,hDn,c0,c1,hD2⟩:=hD.pop;refine⟨_,rfl,.inl ⟨rfl,_,SqL.of hDn⟩,Dk,_,.int c,rfl,rfl,hDn,Y5 ns c,?_⟩;rw[Y7];have sb:SB Dk H (upd H Dk (.lst (ns.map V.int))):=SB.upd;generalize upd H Dk (.lst (ns.map V.int))=H1 at sb hD2;rw[ZrU];have hmn:(if (6:Int)<(few:Int)then (6:Int)else (few:Int)).toNat=min few 6:=by lia
 refine⟨_,rfl,_,6,rfl,_,rfl,by omega,by omega,?_⟩;rw[hmn];refine JQ (n:=min few 6) (fun i σ H2=>H2=H1/\∃ (y x:List Nat) (nb:Int) (z5 z6:Option V),σ=[some (.ref Dk),some (.int few),some (.str (tx y)),some (.int nb),some (.str (tx x)),z5,z6]/\y.length=26-i/\x.length=i/\Cd y/\Cd x)
  ⟨rfl,(Qz 26).map (· + 97),[],c,none,none,rfl,by simp,rfl,fun c hc=>by obtain⟨j,hj,rfl⟩:=Qk.mp hc;have:=QK.mp hj;lia,fun c hc=>by grind⟩ ?_ ?_
 rintro i σ H2 hi ⟨rfl,y,x,nb,z5,z6,rfl,hy,hx,yc,xc⟩;have hlp:(0:Int)<((tx y).length:Int):=by rw[ZZ];omega
 have hlen:∀ H',Zqo K (.str (tx y)) H' (tx y).length:=fun H'=>⟨Yy (Mt hy),rfl⟩
 have mb:=Yo nb hlp;refine⟨_,rfl,_,rfl,.str (tx y),_,rfl,hlen _,_,_,rfl,rfl,hlp,?_⟩;dsimp only;generalize nb % ((tx y).length:Int)=a_ at mb;rw[ZZ]at mb;refine⟨_,rfl,_,rfl,_,rfl,Lb (tx y) _ _ ⟨rfl,rfl,Yy (Mt hy),Zlp mb.1 (by omega),_,_,rfl,rfl,?_,?_⟩⟩
 rw[ZZ];exact Zk (by show x.length+1<=1000;omega)
 rw[show({cps:=#[y.getD a_.toNat 0]}:Str)=tx [y.getD a_.toNat 0]from rfl,ZbS];refine ⟨_,rfl,_,rfl,.str (tx y),_,rfl,hlen _,_,_,rfl,rfl,⟨hlp,by rw[ZZ];omega⟩,⟨_,rfl,_,rfl,_,rfl,_,rfl,Yy (Mt hy),_,rfl,_,rfl,_,_,rfl,rfl,_,rfl,_,rfl,Yy (Mt hy),?_⟩⟩;rw[J0 mb.1,Zhx (by lia) (by omega)];refine⟨_,_,rfl,rfl,?_,?_⟩
 rw[ZZ,ZZ,QH,Wa];exact Zk (by omega)
 rw[ZbS];refine⟨rfl,La _ _ _ _ _ ⟨rfl,?_,by rw[Qm,hx];rfl,fun c hc=>?_,fun c hc=>?_⟩⟩
 rw[Qm,QH,Wa];lia
 rcases QG.mp hc with q | q
 exact yc c (Q9 q)
 exact yc c (WD q)
 rcases QG.mp hc with q | q
 exact xc c q
 rw[Qr.mp q];refine yc _ ?_;rw[Qb,Qa (Sf mb)];simp
 rintro σ H2 ⟨rfl,y,x,nb,z5,z6,rfl,hy,hx,yc,xc⟩;refine⟨_,rfl,_,rfl,_,rfl,_,rfl,.str (tx x),_,rfl,⟨Yy (by omega),rfl⟩,_,_,rfl,rfl,_,rfl,_,rfl,Yy (Mt hy),?_⟩;rw[J0 (by rw[ZZ];omega)];refine⟨_,_,rfl,rfl,?_,?_⟩
 rw[ZZ,ZZ,QH];exact Zk (by omega)
 rw[ZbS];refine k _ _ sb hD2 ?_ fun c hc=>?_
 rw[Qm,QH,ZZ];omega
 rcases QG.mp hc with q | q
 exact xc c q
 exact yc c (Q9 q)
abbrev Zfm:Stmt:=top 71
noncomputable abbrev Zps:List Str:=["_law_deck_here","_law_some","_law_long","_law_made","_law_number","_law_k"]
def scLSigns:Zm Zps ["_law_deck_here","_law_some","_law_long"] (Zf Zfm):=⟨rfl,rfl,rfl,by decide +kernel,rfl,by decide +kernel,by decide +kernel⟩
def Zfa:Sp:=fun vs H Q _=>∃ (D:Addr) (y:List Nat) (L n:Nat),vs=[.ref D,.str (tx y),.int L]/\1<=y.length/\y.length<=100/\Cd y/\L<=300/\DK H D (n+(L+11) / 12)/\∀ (z:List Nat) H',SB D H H'->DK H' D n->z.length=L->Cd z->Q (.str (tx z)) H'
def ZhM (D:HasDef K mg "_law_signs" Zfm ["_law_deck_here","_law_some","_law_long"]) (B:Blt mg):FOk P w K mg base 1 "_law_signs" ["_law_deck_here","_law_some","_law_long"] Zfa:=by
 refine D.ok scLSigns (fun vs H Q E h=>?_) (fun f cdv A outer s H vs Q E hr h=>?_)
 obtain⟨D,y,L,n,rfl,_⟩:=h;rfl
 obtain⟨Dk,y,L,n,rfl,y1,y2,yc,hL,hD,k⟩:=h;refine⟨_,(Zd (Zo (i:=3) scLSigns.nd rfl (.inl rfl) Z1)
  (Zd (Xj PassesOwn.never (Zq ZjZ (Zi Zp rfl B.len ZE (Za (pv 3) Zc)) (pv 2) (Zr _))
   (Zd (Zo (i:=4) scLSigns.nd rfl (.inl rfl) (Xs F.plainAttrs_list F.slot_list_pop F.type_list_pop YK (pv 0)))
  (Zg (Yh PassesOwn.never rfl (YV rfl B.range (Za (Zi (ZeQ rfl) rfl B.min ZrO (Za Zh (Za (Zv Xe (pv 2) (Zi Zp rfl B.len ZE (Za (pv 3) Zc))) Zc))) Zc)) (ZG (i:=5) scLSigns.nd rfl (.inl rfl))
   (Zd (Zo (i:=3) scLSigns.nd rfl (.inl rfl) (Zv Yf (pv 3) (Zw Zg0 (pv 1) (Zv Z6 (pv 4) (Zi Zp rfl B.len ZE (Za (pv 1) Zc))) (fun _ _=>rfl))))
  (Zg (Zo (i:=4) scLSigns.nd rfl (.inl rfl) (Zv XD (pv 4) (Zi Zp rfl B.len ZE (Za (pv 1) Zc))))))))))
  (Zg (Zn (pv 3))))),?_⟩
 have hlp:(0:Int)<((tx y).length:Int):=by rw[ZZ];exact V2 y1
 have hleny:∀ H',Zqo K (.str (tx y)) H' (tx y).length:=fun H'=>⟨Yy (Se y2),rfl⟩
 dsimp only[Jp];apply B2;intros;rw[show("" : Str)=tx []from rfl];show Zqh (ZdD _ _) _ _ _ _;refine Yr (fun σ H4=>∃ (z:List Nat) (z4 z5:Option V),σ=[some (.ref Dk),some (.str (tx y)),some (.int L),some (.str (tx z)),z4,z5]/\SB Dk H H4/\DK H4 Dk n/\z.length=L/\Cd z) (fun R hR=>?_) ?_
 ·refine⟨fun m σ H4=>∃ (z:List Nat) (z4 z5:Option V),σ=[some (.ref Dk),some (.str (tx y)),some (.int L),some (.str (tx z)),z4,z5]/\SB Dk H H4/\DK H4 Dk (n+(L-z.length+11) / 12)/\z.length<=L/\Cd z/\m=L-z.length,
   ⟨_,[],none,none,rfl,SB.refl _ _,hD,QT _,(fun c hc=>by grind),rfl⟩,?_⟩
  rintro m σ H4 ⟨z,z4,z5,rfl,sb4,hD4,hz,zc,hm⟩;have hlenz:∀ H',Zqo K (.str (tx z)) H' (tx z).length:=fun H'=>⟨Yy (by lia),rfl⟩
  refine⟨_,rfl,.str (tx z),_,rfl,hlenz _,_,rfl,_,_,rfl,rfl,_,rfl,?_⟩;rw[ZZ];by_cases c:z.length<L
  rotate_left
  have e:z.length=L:=T5 hz c
  refine Yw (decide_eq_false (by omega)) (hR _ _ ⟨z,z4,z5,rfl,sb4,hD4.less V4,e,zc⟩)
  refine YG (decide_eq_true (Tk c)) ⟨fun σ' H'=>∃ m',m'<m/\∃ (z:List Nat) (z4 z5:Option V),σ'=[some (.ref Dk),some (.str (tx y)),some (.int L),some (.str (tx z)),z4,z5]/\SB Dk H H'/\DK H' Dk (n+(L-z.length+11) / 12)/\z.length<=L/\Cd z/\m'=L-z.length,fun _ _ z=>z,?_⟩;apply B3;intros;have hD5:DK H4 Dk (n+(L-z.length+11) / 12-1+1):=hD4.less (by omega);refine Pd hD5.pop fun ns cc hDn c0 c1 hD6=>?_;refine⟨_,rfl,.inl ⟨rfl,_,SqL.of hDn⟩,Lb Dk _ (.int cc) ⟨rfl,rfl,hDn,Y5 ns cc,?_⟩⟩;rw[Y7];have sb6:SB Dk H (upd H4 Dk (.lst (ns.map V.int))):=sb4.trans SB.upd;generalize upd H4 Dk (.lst (ns.map V.int))=H6 at sb6 hD6;have hmn:(if (L:Int)-((tx z).length:Int)<12 then (L:Int)-((tx z).length:Int)else 12).toNat=min (L-z.length) 12:=by rw[ZZ];lia
  refine⟨_,rfl,_,rfl,.str (tx z),_,rfl,hlenz _,_,_,rfl,rfl,12,_,rfl,_,rfl,by omega,by omega,?_⟩;rw[hmn];refine JQ (n:=min (L-z.length) 12) (fun i σ H7=>H7=H6/\∃ (u:List Nat) (nb:Int) (z5:Option V),σ=[some (.ref Dk),some (.str (tx y)),some (.int L),some (.str (tx u)),some (.int nb),z5]/\u.length=z.length+i/\Cd u)
   ⟨rfl,z,cc,z5,rfl,rfl,zc⟩ ?_ ?_
  rintro i σ H7 hi ⟨rfl,u,nb,z5',rfl,hul,uc⟩;have mb:=Yo nb hlp;have hmy:(nb % ((tx y).length:Int)).toNat<y.length:=by rw[ZZ]at mb ⊢;exact Sf mb
  refine⟨_,rfl,_,rfl,_,rfl,_,rfl,.str (tx y),_,rfl,hleny _,_,_,rfl,rfl,hlp,Lb (tx y) _ _ ⟨rfl,rfl,Yy (Se y2),(Zlp (z:=y) (i:=nb % ((tx y).length:Int)) mb.1 (by lia)),_,_,rfl,rfl,?_,?_⟩⟩
  ·rw[ZZ];exact Zk (by show u.length+1<=1000;omega)
  generalize nb % ((tx y).length:Int)=ix at hmy;rw[show({cps:=#[y.getD ix.toNat 0]}:Str)=tx [y.getD ix.toNat 0]from rfl,ZbS];refine ⟨_,rfl,_,rfl,.str (tx y),_,rfl,hleny _,_,_,rfl,rfl,⟨hlp,by rw[ZZ];lia⟩,⟨rfl,_,_,_,rfl,by rw[Qm,hul];rfl,fun c hc=>?_⟩⟩;rcases QG.mp hc with q | q
  ·exact uc c q
  ·rw[Qr.mp q];refine yc _ ?_;rw[Qb,Qa hmy];simp
  rintro σ H7 ⟨rfl,u,nb,z5',rfl,hul,uc⟩;refine⟨_,?_,Lb u _ _ ⟨rfl,sb6,hD6.less (by omega),by omega,uc,rfl⟩⟩;omega
 ·rintro σ H4 ⟨z,z4,z5,rfl,sb4,hD4,hz,zc⟩;exact⟨_,rfl,k z H4 sb4 hD4 hz zc⟩
abbrev Zjt:Stmt:=top 69
noncomputable abbrev Zrg:List Str:=["_law_script","_law_many","_law_row_here","_law_left","_law_found","_law_k","_law_number"]
def scLDeck:Zm Zrg ["_law_script","_law_many"] (Zf Zjt):=⟨rfl,rfl,rfl,by decide +kernel,rfl,by decide +kernel,by decide +kernel⟩
def ZnG (K:PySem.W.Frag):Sp:=fun vs H Q _=>∃ (a:Addr) (ns:List Int) (m:Nat),vs=[.ref a,.int m]/\SqL K H a (ns.map V.int)/\ns.length<=63/\m<=600/\∀ D H',Same H H'->DK H' D m->Q (.ref D) H'
def Zj7 (D:HasDef K mg "_law_deck" Zjt ["_law_script","_law_many"]) (B:Blt mg) (g6_:FOk P w K mg base 1 "_law_mixed" ["_law_row_here","_law_k"] Zi2):FOk P w K mg base 2 "_law_deck" ["_law_script","_law_many"] (ZnG K):=by
 refine D.ok scLDeck (fun vs H Q E h=>?_) (fun f cdv A outer s H vs Q E hr h=>?_)
 ·obtain⟨a,ns,m,rfl,_⟩:=h;rfl
 ·refine B0 ?_;intros;obtain⟨a,ns,m,rfl,ha,hn,hm,k⟩:=h;refine⟨_,(Zd (Zo (i:=2) scLDeck.nd rfl (.inl rfl) (ZB Y8 rfl B.list ZbA (Za (ZM Zcv (pv 0) Z4 (ZV Zh)) Zc)))
   (Zd (Zo (i:=3) scLDeck.nd rfl (.inl rfl) (Z2 Zc))
   (Zd (ZI (PW.pt (ZjG (Zq (ZdY hr.units) (pv 2) (Z2 Zc) (Zr _)) (Zft (Zq YF (Zv Z6 (Zw ix_list (pv 2) Zh (fun _ _=>rfl)) Zh) Zh (Zr _))))) (Zg (Zo (i:=3) scLDeck.nd rfl (.inl rfl) (Zv Zd0 (Z2 (Za (Zv XD (Zw ix_list (pv 2) Zh (fun _ _=>rfl)) Zh) Zc)) (ZM Zcv (pv 2) (ZV Zh) Z4)))) Zt)
   (Zd (Zo (i:=4) scLDeck.nd rfl (.inl rfl) (Z2 Zc))
   (Zd (Yh PassesOwn.never rfl (YV rfl B.range (Za (pv 1) Zc)) (ZG (i:=5) scLDeck.nd rfl (.inl rfl))
    (Zd (Zo (i:=6) scLDeck.nd rfl (.inl rfl) (Zu g6_ hr (Za (pv 2) (Za (pv 5) Zc))))
   (Zd (ZI (PW.pt (ZjG (Zq (ZdY hr.units) (pv 3) (Z2 Zc) (Zr _)) (Zft (Zq Zat (Zw ix_list (pv 3) (Zv Z6 (pv 5) (Zi Zp rfl B.len ZE (Za (pv 3) Zc))) (fun _ _=>rfl)) (YW (Za Zh (Za (Jm YQ Zh) Zc))) rfl)))) (Zd (Zo (i:=6) scLDeck.nd rfl (.inl rfl) (Zv Z6 (Zw ix_list (pv 3) (Zv Z6 (pv 5) (Zi Zp rfl B.len ZE (Za (pv 3) Zc))) (fun _ _=>rfl)) (Zv ZnZ Zh Zh)))
   (Zg (ZqW (Zv ZcQ (Zw ix_list (pv 3) (Zv Z6 (pv 5) (Zi Zp rfl B.len ZE (Za (pv 3) Zc))) (fun _ _=>rfl)) (Zv ZnZ Zh Zh)) (ZqZ (pv 3) (Zv Z6 (pv 5) (Zi Zp rfl B.len ZE (Za (pv 3) Zc))) Zcw)))) Zt)
   (Zg (ZT (Y2 F.plainAttrs_list F.slot_list_append F.type_list_append Z9 (pv 4) (Za (pv 6) Zc)))))))
   (Zg (Zn (Zfu rfl rfl B.list rfl B.rev (pv 4))))))))),?_⟩
  refine⟨_,rfl,_,rfl,a,_,rfl,ha,fun p1 hp1=>?_⟩;rw[ZsL (ns.map V.int) (by rw[Qc];exact hn)];refine⟨p1,_,rfl,.inl (SqL.of Ze),fun r hr1=>?_⟩;have s1:=(Zb (o:=.lst (ns.map V.int)) hp1).trans (Zb (o:=.lst (ns.map V.int)) hr1);have hrow:(upd (upd H p1 (.lst (ns.map V.int))) r (.lst (ns.map V.int))) r=some (.lst (ns.map V.int)):=Ze;generalize upd (upd H p1 (.lst (ns.map V.int))) r (.lst (ns.map V.int))=H1 at s1 hrow;refine⟨Zk (show 0<=1000 by decide),fun lf hlf=>?_⟩;have s2:=Zb (o:=.lst []) hlf;have hlr:lf≠r:=fun e=>by simp_all
  have hlfn:H lf=none:=s1.free hlf;have hrow2:=s2 _ _ hrow;have hlf2:(upd H1 lf (.lst [])) lf=some (.lst (([]:List Int).map V.int)):=Ze;have s12:=s1.trans s2;generalize upd H1 lf (.lst [])=H2 at s12 hrow2 hlf2;clear s2 hlf s1 hrow hr1 hp1;dsimp only;refine Yr (fun σ H3=>∃ (lf:Addr) (ls:List Int),σ=[some (.ref a),some (.int m),some (.ref r),some (.ref lf),none,none,none]/\Same H H3/\H3 r=some (.lst (ns.map V.int))/\H3 lf=some (.lst (ls.map V.int))/\ls.length<=64/\H lf=none/\lf≠r) (fun R hR=>?_) ?_
  ·refine⟨_,rfl,Zk (show 0<=1000 by decide),fun p0 hp0=>?_⟩;have s3:=Zb (o:=.lst []) hp0;have hrow3:=s3 _ _ hrow2;have hlf3:=s3 _ _ hlf2;refine⟨.list (ns.map PyData.int),.list (([]:List Int).map PyData.int),Xd hrow3,Xd (ns:=[]) Ze,YA ns,YA [],_,rfl,?_⟩;rw[Zhb];have s13:=s12.trans s3;generalize upd H2 p0 (.lst [])=H3 at s13 hrow3 hlf3;cases ns with
   | nil=>exact Yw rfl (Yw rfl (hR _ _ ⟨lf,[],rfl,s13,hrow3,hlf3,by decide,hlfn,hlr⟩))
   | cons x xs =>
    refine YG rfl ?_;have h0:atI ((x::xs).map V.int) 0=some (.int x):=ZL (by decide) rfl;refine⟨_,rfl,Ld r _ 0 (.int x) ⟨rfl,rfl,SqL.of hrow3,h0,_,_,rfl,rfl,(by lia),rfl,_,rfl,?_⟩⟩;by_cases c:x % 2=1
    rotate_left
    ·exact Yw (JO c) (hR _ _ ⟨lf,[],rfl,s13,hrow3,hlf3,by decide,hlfn,hlr⟩)
    refine YG (Zg1 c) ?_;refine⟨_,rfl,Ld r _ 0 (.int x) ⟨rfl,rfl,SqL.of hrow3,h0,_,_,rfl,rfl,⟨by decide,by decide⟩,Zk (show 1<=1000 by decide),fun q1 hq1=>?_⟩⟩;have t1:=Zb (o:=.lst [.int (x / 2)]) hq1;refine⟨_,rfl,_,rfl,r,_,rfl,SqL.of (t1 _ _ hrow3),fun q2 hq2=>?_⟩;rw[show Zhh ((x::xs).map V.int) (some 1) none=xs.map V.int from cut_from (i:=1) (by simp)];have t2:=Zb (o:=.lst (xs.map V.int)) hq2;refine Ld q1 q2 _ _ ⟨rfl,rfl,t2 _ _ Ze,Ze,Zk (by rw[Qc,QD];rw[QC]at hn;omega),fun q3 hq3=>?_⟩;have t3:=Zb (o:=.lst ([.int (x / 2)]++xs.map V.int)) hq3;have hrow6:=t3 _ _ (t2 _ _ (t1 _ _ hrow3));refine hR _ _ ⟨q3,x / 2::xs,rfl,s13.trans ((t1.trans t2).trans t3),hrow6,Ze,by rw[QC]at hn ⊢;omega,s13.free ((t1.trans t2).free hq3),fun e=>?_⟩;rw[e,(t1.trans t2) _ _ hrow3]at hq3
    simp_all
  clear hlf2 hrow2 s12 hlr hlfn;clear lf H2;rintro σ H3 ⟨lf,ls,rfl,s3,hrow,hlf,hls,hlfn,hlr⟩;apply B2;intros;refine⟨Zk (show 0<=1000 by decide),fun fd hfd=>?_⟩;have t4:=Zb (o:=.lst []) hfd;have hfr:fd≠r:=fun e=>by simp_all
  have hfl:fd≠lf:=fun e=>by simp_all
  have hfn:H fd=none:=s3.free hfd;refine⟨_,rfl,_,rfl,by lia,by lia,?_⟩;rw[Wp];refine JQ (n:=m) (fun i σ H5=>∃ (ls fs:List Int) (z5 z6:Option V),σ=[some (.ref a),some (.int m),some (.ref r),some (.ref lf),some (.ref fd),z5,z6]/\Same H H5/\H5 r=some (.lst (ns.map V.int))/\H5 lf=some (.lst (ls.map V.int))/\ls.length<=64/\H5 fd=some (.lst (fs.map V.int))/\fs.length=i/\∀ x∈fs,0<=x/\x<10 ^ 18)
   ⟨ls,[],none,none,rfl,s3.trans t4,t4 _ _ hrow,t4 _ _ hlf,hls,Ze,rfl,fun x hx=>by cases hx⟩ ?_ ?_
  ·clear t4 hfd hlf hrow s3 hls;clear ls H3;rintro i σ H5 hi ⟨ls,fs,z5,z6,rfl,s5,hrow,hlf,hls,hfd,hfs,hfb⟩;refine⟨_,rfl,_,rfl,Lb r ns (0+(i:Int)) ⟨rfl,hrow,hn,Ma,by lia,fun n0 H6 b0 b1 s6=>?_⟩⟩;have s56:=s5.trans s6;have hrow6:=s6 _ _ hrow;have hlf6:=s6 _ _ hlf;have hfd6:=s6 _ _ hfd;dsimp only;refine Yr (fun σ H7=>∃ (ls:List Int) (n:Int),σ=[some (.ref a),some (.int m),some (.ref r),some (.ref lf),some (.ref fd),some (.int (0+(i:Int))),some (.int n)]/\Same H H7/\H7 r=some (.lst (ns.map V.int))/\H7 lf=some (.lst (ls.map V.int))/\ls.length<=64/\H7 fd=some (.lst (fs.map V.int))/\0<=n/\n<10 ^ 18) (fun R hR=>?_) ?_
   ·refine⟨_,rfl,Zk (show 0<=1000 by decide),fun p0 hp0=>?_⟩;have t7:=Zb (o:=.lst []) hp0;have hlf7:=t7 _ _ hlf6;have hrow7:=t7 _ _ hrow6;have hfd7:=t7 _ _ hfd6;refine⟨.list (ls.map PyData.int),.list (([]:List Int).map PyData.int),Xd hlf7,Xd (ns:=[]) Ze,YA ls,YA [],_,rfl,?_⟩;rw[Zhb];have s57:=s56.trans t7;generalize upd H6 p0 (.lst [])=H7 at s57 hlf7 hrow7 hfd7;by_cases hne:ls.length=0
    ·rw[Wf.mp hne]at hlf7 ⊢;exact Yw rfl (Yw rfl (hR _ _ ⟨[],n0,rfl,s57,hrow7,hlf7,by decide,hfd7,b0,by omega⟩))
    refine YG (by cases ls with | nil=>exact absurd rfl hne | cons _ _=>rfl) ?_;have hlp:(0:Int)<((ls.map V.int).length:Int):=by rw[Qc];lia
    have mb:=Yo (0+(i:Int)) hlp;have hat:=ZfU (ns:=ls) (i:=(0+(i:Int)) % ((ls.map V.int).length:Int)) mb.1 (by have:=mb.2;rw[Qc]at this ⊢;exact this);refine⟨_,rfl,_,rfl,_,rfl,.ref lf,_,rfl,.inl ⟨_,SqL.of hlf7,rfl⟩,_,_,rfl,rfl,hlp,Ld lf _ _ _ ⟨rfl,rfl,SqL.of hlf7,hat,_,rfl,Zk (show 2<=1000 by decide),fun t ht=>?_⟩⟩;have t8:=Zb (o:=.tup [.int 0,.int (-1)]) ht;have hlf8:=t8 _ _ hlf7;have hrow8:=t8 _ _ hrow7;have hfd8:=t8 _ _ hfd7;have s58:=s57.trans t8;refine⟨t,_,rfl,.inr (SqT.of Ze),rfl,rfl,_,rfl,?_⟩;generalize upd H7 t (.tup [.int 0,.int (-1)])=H8 at s58 hlf8 hrow8 hfd8;refine Zdx (fun _=>?_) (fun _=>hR _ _ ⟨ls,n0,rfl,s58,hrow8,hlf8,hls,hfd8,b0,by omega⟩);apply B3;intros;refine⟨_,rfl,_,rfl,_,rfl,.ref lf,_,rfl,.inl ⟨_,SqL.of hlf8,rfl⟩,_,_,rfl,rfl,hlp,Ld lf _ _ _ ⟨rfl,rfl,SqL.of hlf8,hat,_,_,rfl,rfl,⟨by decide,by decide,by decide⟩,_,_,rfl,rfl,(by show(0:Int)<10 ^ 18;decide),?_⟩⟩;have md:=Yo (ls.getD ((0+(i:Int)) % ((ls.map V.int).length:Int)).toNat 0) (show(0:Int)<10 ^ 18 by decide);refine⟨_,rfl,_,rfl,_,rfl,.ref lf,_,rfl,.inl ⟨_,SqL.of hlf8,rfl⟩,_,_,rfl,rfl,hlp,Ld lf _ _ _ ⟨rfl,rfl,SqL.of hlf8,hat,_,_,rfl,rfl,⟨by decide,by decide,by decide⟩,_,_,rfl,rfl,⟨by decide,by decide +kernel⟩,?_⟩⟩;refine⟨_,rfl,_,rfl,_,rfl,.ref lf,_,rfl,.inl ⟨_,SqL.of hlf8,rfl⟩,_,_,rfl,rfl,hlp,Ld lf _ _ (((0+(i:Int)) % ((ls.map V.int).length:Int)).toNat) ⟨rfl,rfl,hlf8,?_,?_⟩⟩
    ·unfold ixN;rw[if_pos mb.1,if_pos mb.2]
    refine hR _ _ ⟨ls.set ((0+(i:Int)) % ((ls.map V.int).length:Int)).toNat ((ls.getD ((0+(i:Int)) % ((ls.map V.int).length:Int)).toNat 0).fdiv (10 ^ 18)),_,rfl,fun b u hb=>?_,?_,?_,?_,?_,md.1,md.2⟩
    ·exact Zj (Zl hb hlfn)▸s58 b u hb
    ·exact Zj (Ne.symm hlr)▸hrow8
    ·rw[Ze,List.map_set];rfl
    ·rw[Vo];exact hls
    ·exact Zj hfl▸hfd8
   clear hlf6 hrow6 hfd6 s56 s6 hlf hls hfd s5 hrow b0 b1;clear ls H6 n0;rintro σ H7 ⟨ls,n,rfl,s7,hrow,hlf,hls,hfd,n0,n1⟩;refine⟨_,rfl,.inl ⟨rfl,_,SqL.of hfd⟩,_,rfl,Lb fd _ (.int n) ⟨rfl,rfl,hfd,by rw[Qc];exact ZC (by lia),?_⟩⟩;refine Ld ls (fs++[n]) _ _ ⟨rfl,fun b u hb=>?_,?_,?_,hls,?_,by rw[Qm,hfs];rfl,fun x hx=>?_⟩
   ·exact Zj (Zl hb hfn)▸s7 b u hb
   ·exact Zj (Ne.symm hfr)▸hrow
   ·exact Zj (Ne.symm hfl)▸hlf
   ·rw[Ze,QM];rfl
   ·rcases QG.mp hx with z | z
    ·exact hfb x z
    ·rw[Qr.mp z];exact⟨n0,n1⟩
  ·rintro σ H5 ⟨ls,fs,z5,z6,rfl,s5,hrow,hlf,hls,hfd,hfs,hfb⟩;refine⟨_,rfl,fd,_,rfl,SqL.of hfd,fun Dk hDk=>?_⟩;exact k Dk _ (s5.trans (Zb hDk)) ⟨fs.reverse,by rw[Ze,Vi],by rw[WG];exact T4 hfs,fun x hx=>hfb x (UE.mp hx)⟩
end
def ZmX {ns:List Int} (h:j<ns.length):ns.getD j 0∈ns:=by
 rw[Qb,Qa h];simp
def Zpz {ns:List Int} {i:Int} {lo hi} (c:0<=i) (b:i<ns.length) (d:∀ x∈ns,lo<=x/\x<=hi) (e:0<=lo):∃ v:Nat,atI (ns.map V.int) i=some (.int v)/\lo<=v/\v<=hi:=by
 have:=d _ (ZmX (ns:=ns) (j:=i.toNat) (K7 c b));refine⟨(ns.getD i.toNat 0).toNat,?_,by omega,by omega⟩;rw[ZfU c b,U8 (by omega)]
section
variable {P:Oc} {w:Of} {K:PySem.W.Frag} {mg:Str->Option Value} {base:Heap}
end
def cut_to {ns:List Int} {m:Nat}:Zhh (ns.map V.int) none (some (m:Int))=(ns.take m).map V.int:=by
 unfold Zhh;rw[HT.sIx_none,HT.sIx_nat,Vx,Nat.sub_zero,UH,Qc];apply QI;intro i;rw[R6,R6];by_cases h:i<m
 rw[if_pos h];by_cases b:i<ns.length
 rw[if_pos (Sg h b)]
 rw[if_neg (Si b),Qj (by rw[Qc];exact G7 b)]
 rw[if_neg h,if_neg (Sj h)]
noncomputable def ZaA (z:List Nat) (L:Nat):List Str:=(Qz (z.length-L+1)).map fun i=>tx ((z.drop i).take L)
def Zkx {L:Nat} (o:1<=L) (l:L<=z.length) (hz:z.length<=100) (u:lcS 1 s σ=[none,some (.int L),some (.str (tx z))]) (c:∀ D e,Same m e->m D=none->e D=some (.lst ((ZaA z L).map V.str))->Q (.ref D) e) :
  Xt 1 s σ (Jp 0) Znk (tSl Zs1 (Ze7 2) (ZoB (Ze7 0)) (ZoB (tOp (rI0 fun i j=>V.int (i+j)) (Ze7 0) (Ze7 1)))) (Itr 0 (z.length-L+1)) m Q:=by
 refine Z3 _ _ (fun i v _=>v= .str (tx ((z.drop i).take L))) (Zk (by omega)) (fun _ _ _ _ _ r=>r) Zc6 ?_ ?_;intro i k w y x n;rw[u];refine⟨_,rfl,_,rfl,_,rfl,_,rfl,_,rfl,_,_,rfl,rfl,_,rfl,_,rfl,Yy (Se hz),n _ _ (Same.refl _) (congrArg V.str (ZX ?_))⟩;rw[ZaX Ma Ma (by rw[ZZ];omega),Yn];congr 1;lia;simp;intro q t k a g f d b;refine c q k f d ?_;rw[b,(Js a g)];unfold ZaA;rw[QN];rfl
section
variable {P:Oc} {w:Of} {K:PySem.W.Frag} {mg:Str->Option Value} {base:Heap}
end
def ZmT (h:HpAt H v j):HeapV H v j:=by
 obtain⟨a,d,e,k,g,r⟩:=h;refine⟨a,d,e,k,g,fun i p q=>?_⟩;obtain⟨b,c,l⟩:=r i p q;have f:i<d.length:=by exact g▸(Qo.mp q).1
 rw[Qb,Qa f]at c;exact⟨b,by exact Qa f▸congrArg some c,l⟩
def Zg3 (h:ZN ps c):c.length<=ps.length:=by
 have f:(c.map (·.1)).Nodup:=by
  rw[UI,Wl];refine List.Pairwise.imp ?_ (Wl.mp h.srt);intro x y a e;rw[e]at a;exact Uk _ a
 have:=YN f fun x d=>(h.mem x).mp d;rw[Qc]at this;exact this
noncomputable def pnt (z:List Nat) (L i:Nat):Str:=tx ((z.drop i).take (L-1))
def Zgc (l:L<=z.length) (h:x∈ZaA z L):x.length=L:=by
 obtain⟨i,hi,rfl⟩:=Qk.mp h;have:=QK.mp hi;rw[ZZ,QH,Wa];lia
def Zqr (o:1<=L) (l:L<=z.length) (h:x∈ZaA z L):bg x∈(Qz (z.length-L+2)).map (pnt z L)/\en x∈(Qz (z.length-L+2)).map (pnt z L):=by
 obtain⟨i,b,rfl⟩:=Qk.mp h;have:=QK.mp b;constructor;refine Qk.mpr ⟨i,QK.mpr (by omega),?_⟩;unfold bg pnt;rw[Yn,U0,QH,Wa,VA];congr 2;omega;refine Qk.mpr ⟨i+1,QK.mpr (K8 this),?_⟩;unfold en pnt;rw[Yn,List.drop_take,Vy]
noncomputable def fc:Nat->Nat
 | 0=>1
 | n+1=>(n+1)*fc n
def Zod:∀ n,0<fc n
 | 0=>Nat.one_pos
 | n+1=>Nat.mul_pos (Nat.succ_pos n) (Zod n)
def ZeD:∀ s a b,a+b=s->fc a*fc b ∣ fc (a+b)
 | 0,a,b,h=>by
  have:a=0/\b=0:=by lia
  obtain⟨rfl,rfl⟩:=this;exact⟨1,rfl⟩
 | s+1,0,b,h=>by rw[Nat.zero_add];exact⟨1,by show fc b=1*fc b*1;lia⟩
 | s+1,a+1,0,h=>⟨1,by show fc (a+1)=fc _*1*1;lia⟩
 | s+1,a+1,b+1,h=>by
  have e:fc (a+1+(b+1))=(a+1)*fc (a+(b+1))+(b+1)*fc (a+1+b):=by
   have c:a+1+(b+1)=a+b+1+1:=by omega
   have d:a+(b+1)=a+b+1:=Sr
   have f:a+1+b=a+b+1:=Mb
   rw[c,d,f];show(a+b+1+1)*fc _=_;rw[←RG];congr 1;omega
  rw[e];refine Nat.dvd_add ?_ ?_;show(a+1)*fc a*fc _ ∣ _;rw[VG];exact WE _ (ZeD s a (b+1) (by omega));show fc _*((b+1)*fc b) ∣ _;rw[Vc];exact WE _ (ZeD s (a+1) b (by omega))
def ZjI (ms:List Nat):Nat:=ms.foldr (fun m p=>fc m*p) 1
def Zqk (m) (a):ZjI (m::a)=fc m*ZjI a:=rfl
def ZcK:∀ a,ZjI a ∣ fc a.sum
 | []=>⟨1,rfl⟩
 | m::a=>RU (WE _ (ZcK a)) (ZeD _ _ _ rfl)
def Zkv:∀ (ms:List Nat) (m),m∈ms->m<=ms.sum
 | [],m,h=>by cases h
 | n::ms,m,h=>by
  rw[Qy];rcases Qx.mp h with e | e
  lia;have:=Zkv ms m e;lia
def ZdS:∀ (a) (m),m∈a->ZjI a ∣ m*fc (a.sum-1)
 | [],m,h=>by cases h
 | n::a,m,h=>by
  rw[Qy];cases m with
  | zero=>simp
  | succ k =>
  rcases Qx.mp h with e | e
  subst e;show(k+1)*fc k*_ ∣ _;rw[VG,show k+1+a.sum-1=k+a.sum by lia];exact WE _ (RU (WE _ (ZcK a)) (ZeD _ _ _ rfl));have d:=Zkv a _ e;rw[show n+a.sum-1=n+(a.sum-1)by lia];refine RU (WE _ (ZdS a _ e)) ?_;rw[Vc];exact WE _ (ZeD _ _ _ rfl)
def fI (x:Int):Int:=(fc x.toNat:Int)
def Zbt (x):1<=fI x:=by
 have:=Zod x.toNat;unfold fI;exact Nl this
noncomputable def prI (l:List Int):Int:=l.foldr (fun a b=>a*b) 1
def ZcL:prI []=1:=rfl
def ZF (a) (l):prI (a::l)=a*prI l:=rfl
def ZcM:∀ a b,prI (a++b)=prI a*prI b
 | [],b=>by rw[Rz,ZcL,Wr]
 | x::a,b=>by rw[Vj,ZF,ZF,ZcM a b,Q8]
def ZjK:∀ l:List Int,(ZjI (l.map VC))=prI (l.map fI)
 | []=>rfl
 | x::l=>by
  rw[Qp,Qp,ZF,←ZjK l];rfl
def YR:∀ l:List Int,(∀ x∈l,0<=x)->(l.map VC).sum=l.sum.toNat/\0<=l.sum
 | [],_=>⟨rfl,WO _⟩
 | x::l,h=>by
  obtain⟨_⟩:=YR l fun y b=>h y (Qg _ b);have c:=h x Qd;rw[Qp,Qy,Qy];lia
def Zp3 {l:List Int} (h:∀ x∈l,0<=x):prI (l.map fI) ∣ fI l.sum:=by
 have:=ZcK (l.map VC);rw[(YR l h).1]at this;rw[←ZjK];exact Rv.mpr this
def Zp2 {l:List Int} (h:∀ x∈l,0<=x) (a:m∈l):prI (l.map fI) ∣ m*fI (l.sum-1):=by
 have:=ZdS _ m.toNat (Qk.mpr ⟨m,a,rfl⟩);rw[(YR l h).1]at this;rw[←ZjK];have b:=Rv.mpr this;rw[Vt,U8 (h m a)]at b;have e:fI (l.sum-1)=(fc (l.sum.toNat-1)):=by
  unfold fI;congr 2;lia
 simp_all
def ZiH:∀ l:List Int,(∀ x∈l,d ∣ x)->d ∣ l.sum
 | [],_=>Int.dvd_zero _
 | x::l,h=>Int.dvd_add (h x Qd) (ZiH l fun y a=>h y (Qg _ a))
def Zcm (c):∀ l:List Int,l.sum*c=(l.map fun x=>x*c).sum
 | []=>by simp
 | x::l=>by rw[Qy,Qp,Qy,Rc,Zcm c l]
def ZdB (G A) (h:∀ i,i<n->∀ t∈T i,G i ∣ t.2*A i):∀ (k) (ch),ch.length+k=n->prI ((WH ch.length k).map G) ∣ Yg n T k ch*prI ((WH ch.length k).map A)
 | 0,ch,_=>⟨Yg n T 0 ch,by show _*1=1*_;lia⟩
 | k+1,ch,d=>by
  unfold Yg;rw[show WH ch.length _=ch.length::WH _ k from rfl,Qp,Qp,ZF,ZF,Zcm,QN];refine ZiH _ fun x c=>?_;obtain⟨t,b,rfl⟩:=Qk.mp c;have:=Vu (h ch.length (S6 d) t b) (ZdB G A h k (ch++[t.1]) (by rw[Qm,QD];exact S7 d));have e:t.2*Yg n T k (ch++[t.1])*(A ch.length*prI ((WH (ch.length+1) k).map A))=t.2*A ch.length*(Yg n T k (ch++[t.1])*prI ((WH (ch.length+1) k).map A)):=by
   rw[Q8,Q8,Wm (Yg n T k _)]
  simp_all
def Xx (h:∀ i,∀ t∈T i,0<=t.2):∀ (k) (ch),0<=Yg n T k ch
 | 0,ch=>by
  unfold Yg;lia
 | k+1,ch=>by
  have:=fun l a=>(YR l a).2;refine this _ fun x b=>?_;obtain⟨t,c,rfl⟩:=Qk.mp b;exact UR (h _ t c) (Xx h k _)
noncomputable def gS (es:Es) (x:Str):Int:=prI ((es.filter fun e=>decide (bg e.1=x)).map fun e=>fI e.2)
def ZgD:∀ l:List Str,(∀ x∈l,g x=1)->prI (l.map g)=1
 | [],_=>rfl
 | x::l,h=>by
  rw[Qp,ZF,h x Qd,ZgD l fun y a=>h y (Qg _ a)];rfl
def XC {g f} {y} {c}:∀ l:List Str,l.Nodup->y∈l->f y=c*g y->(∀ x∈l,x≠y->f x=g x)->prI (l.map f)=c*prI (l.map g)
 | [],_,h,_,_=>by cases h
 | x::l,j,h,i,d=>by
  obtain⟨m,k⟩:=QX.mp j;rw[Qp,Qp,ZF,ZF];by_cases e:x=y
  subst e;have:=QB fun z b=>d z (Qg _ b) fun q=>m (q▸b);rw[i,this,Q8];rw[d x Qd e,XC l k ((Qx.mp h).resolve_left fun q=>e q.symm) i fun z b=>d z (Qg _ b),Wm]
def ZdV {a:List Str} (c:a.Nodup):∀ es,(∀ e∈es,bg e.1∈a)->prI (es.map fun e=>fI e.2)=prI (a.map (gS es))
 | [],_=>(ZgD a fun x _=>rfl).symm
 | e::es,h=>by
  rw[Qp,ZF,ZdV c es fun z d=>h z (Qg _ d)];refine(XC a c (h e Qd) ?_ fun x _ f=>?_).symm;unfold gS;rw[Wu (by simp),Qp,ZF];unfold gS;rw[Wv (by simp;exact fun q=>f q.symm)]
def Zfz (a:JW es) (y):∀ x∈(es.filter fun e=>decide (bg e.1=y)).map fun e=>e.2,0<=x:=fun x b=>by
 obtain⟨e,d,rfl⟩:=Qk.mp b;exact(a.many e (QF.mp d).1).1
def Zn9 (es) (y):gS es y=prI (((es.filter fun e=>decide (bg e.1=y)).map fun e=>e.2).map fI):=by
 rw[QN];rfl
noncomputable def Zql (ss:List Str) (es:Es) (r:Str):Int:=X8 (othL ss r) es*fI (Zb6 es r)*prI ((othL ss r).map fun x=>fI (Zb6 es x-1))
def Zph (n:JW es) (p:SPts es ss):prI (es.map fun e=>fI e.2) ∣ Zql ss es r:=by
 have d:(othL ss r).Nodup:=p.pts.nd.filter _;have q:r∉othL ss r:=by
  unfold othL;simp
 have y:∀ e∈es,bg e.1∈r::othL ss r:=fun e l=>by
  have:=(p.pts.mem _).mpr ⟨e,l,.inl rfl⟩;by_cases c:bg e.1=r
  rw[c];simp
  exact Qg _ (QF.mpr ⟨this,by simp[c]⟩)
 rw[ZdV (QX.mpr ⟨q,d⟩) es y,Qp,ZF];unfold Zql;have s:gS es r ∣ fI (Zb6 es r):=by
  rw[Zn9];exact Zp3 (Zfz n r)
 generalize othL ss r=os at *;have o:=ZdB (T:=Jg os es) (fun i=>gS es (os.getD i "")) (fun i=>fI (Zb6 es (os.getD i "")-1)) (fun i v t w=>by
  obtain⟨e,l,rfl⟩:=Qk.mp w;obtain⟨h,f⟩:=QF.mp l;have b:=of_decide_eq_true f;have m:os.getD i "" = bg e.1:=by
   rw[Qb,Qa v];subst b;simp
  rw[m,Zn9];exact Zp2 (Zfz n _) (Qk.mpr ⟨e,QF.mpr ⟨h,by simp⟩,rfl⟩)) os.length [] (by simp)
 have z:∀ g:Str->Int,(WH ([]:List Nat).length os.length).map (fun i=>g _)=os.map g:=fun g=>by
  show(WH 0 os.length).map _=_;rw[←RP]
  conv=>rhs;rw[←range_getD os ""]
  rw[QN];rfl
 rw[z fun x=>fI (Zb6 es x-1)]at o;have A:=Vu s o;have B:X8 os es*fI (Zb6 es r)*prI (os.map fun x=>fI (Zb6 es x-1))=fI (Zb6 es r)*(Yg os.length (Jg os es) os.length []*prI (os.map fun x=>fI (Zb6 es x-1))):=by
  unfold X8;rw[WP (Yg os.length _ os.length []),Q8]
 simp_all
def Za9:∀ l,(∀ x∈l,1<=x)->1<=prI l
 | [],_=>WO _
 | x::l,h=>by
  rw[ZF];have h2:=h x Qd;have:=Int.mul_le_mul h2 (Za9 l fun y hy=>h y (Qg _ hy)) (by decide) (Tc h2);lia
def ZlD (a:JW es) (os):0<=X8 os es:=Xx (fun i t c=>by
 obtain⟨e,b,rfl⟩:=Qk.mp c;exact(a.many e (QF.mp b).1).1) _ _
def Zq7 (a:JW es) (ss) (r):0<=Zql ss es r:=by
 refine UR (UR (ZlD a _) (by have:=Zbt (Zb6 es r);exact Tc this)) ?_;have:=Za9 ((othL ss r).map fun x=>fI (Zb6 es x-1)) fun y b=>by
  obtain⟨x,_,rfl⟩:=Qk.mp b;exact Zbt _
 exact Tc this
def Zro {K} (z:lcS 2 x σ=[none,none]) (w:k q=some (.tup vs)) (a:PA k vs es) (A:es.length<=1000)
  (f:∀ D d,Same k d->d D=some (.lst ((es.map fun e=>e.2).map V.int))->Q (.ref D) d):Xt 2 x σ (ZsI K 2 (ZpW (Jp 0) (ZpW (Jp 1) Zs7))) Znk (Ze7 1) (Itt K q) k Q:=by
 refine Z3 vs.length _ (fun i v _=>v= .int (es.getD i ("",0)).2) (Zk (by rw[a.1];exact A)) (fun _ _ _ _ _ r=>r) (Xg (SqT.of w)) ?_ ?_;intro i H B g h s;have c:i<es.length:=by rw[←a.1];exact g
 obtain⟨b,n,y⟩:=a.2 i _ (Qa c);have u:vs.getD i .non= .ref b:=by rw[Qb,n];rfl
 have l:es.getD i ("",0)=es[i]:=by rw[Qb,Qa c];rfl
 rw[u];refine⟨b,_,rfl,SqT.of (h _ _ y),rfl,_,_,rfl,_,_,rfl,rfl,_,rfl,s _ _ (Same.refl _) ?_⟩;rw[l];intro D o d t p h C j;refine f D d h ?_;rw[j];congr 2;apply QI;intro i;by_cases g:i<o.length
 have c:i<es.length:=by rw[←a.1];exact V6 t g
 rw[Qa g,p i _ (Qa g),Qh,Qh,Qb,Qa c];rfl;rw[Qj (G7 g),Qj (by rw[Qc,Qc];have:=a.1;exact S0 t this g)]
def ZiJ:∀ {l:List Int} {b:Nat},(∀ x∈l,0<=x/\x<=b)->0<=l.sum/\l.sum<=b*l.length
 | [],b,_=>by simp
 | x::l,b,h=>by
  have c:=ZiJ fun y a=>h y (Qg _ a);have d:=h x Qd ..;rw[Qy,QC];push_cast;rw[Rb];omega
def ZpA {l:List Int} (h:∀ x∈l,0<=x/\x<=(64000:Nat)) (d:l.length<=128):(∀ x∈l,Ox x)/\∀ k,Ox (l.take k).sum:=by
 constructor;intro x b;have:=h x b;unfold Ox;omega;intro k;have f:=ZiJ (l:=l.take k) fun x b=>h x (Q9 b);have e:(l.take k).length<=128:=by rw[QH];exact S4 d
 unfold Ox;omega
def Zot (f) (ss):(ups f ss).length<=ss.length:=by
 unfold ups
 grind
def ZlC (d:JW es) (j:∀ x,(f x).natAbs=(mo es x).natAbs) (p:SPts es ss):(∀ x∈(ups f ss).map fun e=>e.2,Ox x)/\(∀ k,Ox (((ups f ss).map fun e=>e.2).take k).sum)/\(ups f ss).length<=1000:=by
 have o:∀ x,(f x).natAbs<=64000:=fun x=>by
  rw[j];have:=Zrm (b:=1000) x d.many;have:=d.few;lia
 have q:(ups f ss).length<=128:=by
  have:=Zot f ss;have:=p.pts.len;have:=d.few;lia
 obtain⟨l,n⟩:=ZpA (l:=(ups f ss).map fun e=>e.2) fun x h=>by
  obtain⟨e,i,rfl⟩:=Qk.mp h;have:=Zqs o ss e i;lia (by rw[Qc];exact q)
 exact⟨l,n,Bm q⟩
def ZdC (hT:∀ r,((T r).map fun t=>t.2.natAbs).sum<=b) (hb:1<=b):∀ (k) (ch),(Yg n T k ch).natAbs<=b ^ k
 | 0,ch=>by
  unfold Yg;split <;> simp
 | k+1,ch=>by
  have key:∀ ts:List Tie,(ts.map fun t=>t.2*Yg n T k (ch++[t.1])).sum.natAbs<=(ts.map fun t=>t.2.natAbs).sum*b ^ k:=fun ts=>by
   induction ts with
   | nil=>simp
   | cons t ts ih =>
    rw[Qp,Qy,Qp,Qy,RG];refine QO (Int.natAbs_add_le _ _) (Nat.add_le_add ?_ ih);rw[Vz];exact Nat.mul_le_mul_left _ (ZdC hT hb k _)
  refine QO (key _) ?_;rw[Nat.pow_succ,R1 (b ^ k)];exact Nat.mul_le_mul_right _ (hT _)
def Zow (f:JW es) (os) (r):((Jg os es r).map fun t=>t.2.natAbs).sum<=64000:=by
 have c:∀ l:List Tie,(∀ t∈l,t.2.natAbs<=1000)->(l.map fun t=>t.2.natAbs).sum<=1000*l.length:=fun l=>by
  induction l with
  | nil=>simp
  | cons t l n =>
   intro h;have:=n fun u o=>h u (Qg _ o);have:=h t Qd;rw[Qp,Qy,QC];lia
 have p:=c (Jg os es r) fun t i=>by
  obtain⟨e,j,rfl⟩:=Qk.mp i;have:=f.many e (QF.mp j).1;lia
 have q:(Jg os es r).length<=es.length:=by
  unfold Jg;rw[Qc];exact Q7 _ _
 have:=f.few;lia
def ZkZ:∀ {a b},a<=b->fc a<=fc b
 | a,0,h=>by simp_all
 | a,b+1,h=>by
  by_cases e:a=b+1
  simp_all
  refine QO (ZkZ (b:=b) (by lia)) ?_;show fc b<=(b+1)*fc b
  grind
def ZrD (h:n<=27):fc n<2 ^ 94:=WB (ZkZ h) (by decide)
def Zk1 (h:x<=27):Sm 94 (fI x):=by
 show(fI x).natAbs<2 ^ 94;exact ZrD (by lia)
def Zgf (a:JW es) {os} (h:os.length<=31):Sm 500 (X8 os es):=by
 exact WB (ZdC (Zow a os) (by decide) os.length []) (WB (RL (by decide) h) (by omega))
def ZnT (b:∀ x,Sm 94 (g x)):∀ l:List Str,Sm (94*l.length+1) (prI (l.map g))
 | []=>by show(1:Int).natAbs<2 ^ 1;decide
 | x::l=>by
  have:=(b x).mul (ZnT b l);rw[Qp,ZF,QC,show 94*(l.length+1)+1=94+94*l.length+1 by lia];omega
def Zl8 (l) (x):prI (l++[x])=prI l*x:=by
 rw[ZcM,ZF,ZcL,Int.mul_one]
section
variable {P:Oc} {w:Of} {K:PySem.W.Frag} {mg:Str->Option Value} {base:Heap}
abbrev J9:Stmt:=top 31
abbrev ZhY:List Str:=["number","product","factor"]
def scFactorial:Zm ZhY ["number"] (Zf J9):=⟨rfl,rfl,rfl,by decide +kernel,rfl,by decide +kernel,by decide +kernel⟩
def ZoJ:Sp:=fun vs H Q _=>∃ n:Int,vs=[.int n]/\-1000<=n/\n<=27/\Q (.int (fI n)) H
def Zeg (D:HasDef K mg "factorial" J9 ["number"]) (B:Blt mg):FOk P w K mg base 1 "factorial" ["number"] ZoJ:=by
 refine D.ok scFactorial (fun o H Q E h=>?_) (fun f q A g s H o Q E u h=>?_)
 obtain⟨n,rfl,_⟩:=h;rfl
 refine Ph h fun n r0 v t k=>?_;subst r0;refine ⟨_,(Zd (Zo (i:=1) scFactorial.nd rfl (.inl rfl) Zh)
  (Zd (Yh PassesOwn.never rfl (ZdU rfl B.range (Za Zh (Za (Zv Z7 (pv 0) Zh) Zc))) (ZG (i:=2) scFactorial.nd rfl (.inl rfl))
   (Zg (Zo (i:=1) scFactorial.nd rfl (.inl rfl) (Zv Zbd (pv 1) (pv 2)))))
  (Zg (Zn (pv 1))))),⟨_,rfl,_,_,rfl,rfl,2,n+1,rfl,⟨by decide,by decide,by lia,by lia⟩,JQ (fun i σ d=>∃ j:Option V,σ=[some _,some (.int (fc (i+1))),j]/\d=H) ⟨none,rfl,rfl⟩ ?_ ?_⟩⟩
 rintro i σ d r ⟨j,rfl,rfl⟩;have x:fc (i+1)<2 ^ 94:=ZrD (by omega);refine⟨_,rfl,_,rfl,_,_,rfl,rfl,⟨Sm.big (by assumption) (by decide),Sm.big (by show(2+(i:Int)).natAbs<2 ^ 5;omega) (by decide)⟩,some (.int (2+i)),?_,rfl⟩;have e:((fc (i+1):Nat):Int)*(2+i)=((fc (i+1+1):Nat):Int):=by
  show _=(((i+1+1)*fc (i+1):Nat):Int);rw[Vt,WP];congr 1;lia
 dsimp only;rw[e];rfl
 rintro σ d ⟨j,rfl,rfl⟩;refine⟨_,rfl,?_⟩;have e:((fc ((n+1-2).toNat+1):Nat):Int)=fI n:=by
  unfold fI;by_cases c:1<=n
  grind
  have p:(n+1-2).toNat=0:=by lia
  have m:n.toNat=0:=by lia
  rw[p,m];rfl
 rw[e];omega
abbrev YD:Stmt:=top 24
abbrev Jd:List Str:=["H"]
def Za1:Zm Jd ["H"] (Zf YD):=⟨rfl,rfl,rfl,by simp,rfl,by decide +kernel,by decide +kernel⟩
end
structure Few (es:Es):Prop where
 out:∀ x,Zb6 es x<=27
 one:∀ e∈es,e.2<=27
def ZnV (a:JW es) (x):0<=Zb6 es x:=(YR _ (Zfz a x)).2
def Zq6 (c:JW es) (b:Few es) {os} (h:os.length<=31) (ys:List Str) (e:ys.length<=32):Sm 3900 (X8 os es*fI (Zb6 es r)*prI (ys.map fun x=>fI (Zb6 es x-1))):=by
 exact(((Zgf c h).mul (Zk1 (b.out r))).mul (ZnT (g:=fun x=>fI (Zb6 es x-1)) (fun x=>Zk1 (by have:=b.out x;exact Sk this)) ys)).up (by lia)
noncomputable def Zno (wsh:Str) (us:Es):Str:=match us with | []=>wsh | u::_=>u.1
def ZnW (ss) (r):(othL ss r).length<=ss.length:=Q7 _ _
def Zme:othL (ss++[x]) r=if x=r then othL ss r else othL ss r++[x]:=by
 unfold othL;by_cases c:x=r <;> simp[c]
section
variable {P:Oc} {w:Of} {K:PySem.W.Frag} {mg:Str->Option Value} {base:Heap}
abbrev Za5:Stmt:=top 32
noncomputable abbrev Zkk:List Str:=["H","end","orders","point"]
def scOrdersTo:Zm Zkk ["H","end"] (Zf Za5):=⟨rfl,rfl,rfl,by decide +kernel,rfl,by decide +kernel,by decide +kernel⟩
def ZqK:Sp:=fun vs H Q _=>∃ (v:V) (es:Es) (r:Str),vs=[v,.str r]/\HeapV H v es/\JW es/\Few es/\(∀ ss,SPts es ss->ss.length<=31)/\∀ H' ss,Same H H'->SPts es ss->Q (.int (Zql ss es r)) H'
def Zd9 (D:HasDef K mg "orders_to" Za5 ["H","end"]) (B:Blt mg) (g59_:FOk P w K mg base 5 "trees_of" ["H","root"] ZiS) (g43_:FOk P w K mg base 5 "outs_of" ["H","P"] Znx) (g25_:FOk P w K mg base 5 "factorial" ["number"] ZoJ) (g46_:FOk P w K mg base 5 "points_of" ["H"] Jv):FOk P w K mg base 6 "orders_to" ["H","end"] ZqK:=by
 refine D.ok scOrdersTo (fun vs H Q E h=>?_) (fun f cdv A outer s H vs Q E hr h=>?_)
 obtain⟨v,es,r,rfl,_⟩:=h;rfl
 refine B0 ?_;intros;obtain⟨v,es,r,rfl,hV,hF,hW,hn,k⟩:=h;refine⟨_,(Zd (Zo (i:=2) scOrdersTo.nd rfl (.inl rfl) (Zv Zbd (Zu g59_ hr (Za (pv 0) (Za (pv 1) Zc))) (Zu g25_ hr (Za (Zu g43_ hr (Za (pv 0) (Za (pv 1) Zc))) Zc))))
  (Zd (Yh PassesOwn.never rfl (Yb (Zu g46_ hr (Za (pv 0) Zc))) (ZG (i:=3) scOrdersTo.nd rfl (.inl rfl))
   (Zg (ZI (Zq X7 (pv 3) (pv 1) (Zr _)) (Zg (Zo (i:=2) scOrdersTo.nd rfl (.inl rfl) (Zv Zbd (pv 2) (Zu g25_ hr (Za (Zv Xe (Zu g43_ hr (Za (pv 0) (Za (pv 3) Zc))) Zh) Zc))))) Zt)))
  (Zg (Zn (pv 2))))),?_⟩
 apply B2;intros;have ho:=fun ss hS=>QO (ZnW ss r) (hn ss hS);refine ⟨_,rfl,_,rfl,v,es,r,rfl,hV,hF,ho,fun H1 ss s1 hS=>⟨_,rfl,_,rfl,v,es,r,rfl,hV.same s1,hF,fun H2 s2=>?_⟩⟩;have o1:=ZnV hF r;have o2:=hW.out r;have s12:=s1.trans s2;refine ⟨_,rfl,Sl o1,o2,_,_,rfl,rfl,⟨(Zgf hF (ho ss hS)).big (by decide),(Zk1 o2).big (by decide)⟩,⟨_,rfl,v,es,rfl,hV.same s12,hF,fun v' H3 ss' s3 hT hS'=>?_⟩⟩;have ess:=SPts.one hS' hS;subst ess;obtain⟨q,rfl,hq⟩:=hT;have s13:=s12.trans s3;refine⟨q,rfl,⟨_,SqT.of hq⟩,Y9 (K:=K) (a:=q) (xs:=ss'.map V.str) (fun i σ H4=>(∃ z3:Option V,σ=[some v,some (.str r),some (.int (X8 (othL ss' r) es*fI (Zb6 es r)*prI ((othL (ss'.take i) r).map fun x=>fI (Zb6 es x-1)))),z3])/\Same H3 H4)
  ⟨⟨none,?_⟩,Same.refl _⟩ (fun i σ H4 _ ⟨_,s4⟩=>SqT.of (s4 _ _ hq)) ?_ ?_⟩
 ·rw[show othL (ss'.take 0) r=[]from rfl,WQ,ZcL,Int.mul_one];rfl
 ·rintro i x σ H4 hi ⟨⟨z3,rfl⟩,s4⟩;obtain⟨hi',rfl⟩:=Xb hi;rw[(QQ hi'),Zme];have hlt:(othL (ss'.take i) r).length<=31:=by
   have h1:=ZnW (ss'.take i) r;have h2:=hn _ hS;rw[QH]at h1;exact Sn h2 h1
  generalize ss'[i]=x at *;refine⟨_,rfl,_,rfl,rfl,_,rfl,?_⟩;by_cases c:x=r
  ·exact if_pos c▸Yw (by rw[c];simp) ⟨⟨_,rfl⟩,s4⟩
  ·rw[if_neg c];refine YG (by simp[c]) ⟨_,rfl,_,rfl,_,rfl,v,es,x,rfl,hV.same (s13.trans s4),hF,fun H5 s5=>?_⟩;have p1:=ZnV hF x;have p2:=hW.out x;refine⟨_,_,rfl,rfl,_,rfl,by lia,Sk p2,_,_,rfl,rfl,⟨(Zq6 hF hW (ho _ hS) _ (by lia)).big (by decide),(Zk1 (Sk p2)).big (by decide)⟩,⟨some (.str x),?_⟩,s4.trans s5⟩;rw[QM,Qp,WQ,Zl8,←Q8];rfl
 ·rintro σ H4 ⟨⟨z3,rfl⟩,s4⟩;rw[Qc,QP (Ql _)];exact⟨_,rfl,k H4 ss' (s13.trans s4) hS⟩
end
def Ze8 {α:Type} (f g:α->Int):∀ l:List α,(l.map fun x=>f x+g x).sum=(l.map f).sum+(l.map g).sum
 | []=>rfl
 | x::l=>by
  rw[Qp,Qp,Qp,Qy,Qy,Qy,Ze8 f g l];exact Kt
def ZiG (y):∀ l:List Str,l.Nodup->(l.map fun x=>if x=y then (1:Int)else 0).sum=if y∈l then 1 else 0
 | [],_=>rfl
 | x::l,c=>by
  obtain⟨d,b⟩:=QX.mp c;rw[Qp,Qy,ZiG y l b];by_cases e:x=y
  subst e;rw[if_pos rfl,if_neg d,if_pos Qd];rfl;rw[if_neg e,Uy];by_cases h:y∈l
  rw[if_pos h,if_pos (Qg _ h)];rw[if_neg h,if_neg fun q=>(Qx.mp q).elim (fun z=>e z.symm) h]
def Zdm {ks:List Str} (i:ks.Nodup) (p):∀ ps:List Str,(∀ x∈ps,x∈ks)->((ks.filter p).map fun x=>(ps.count x:Int)).sum=((ps.filter p).length)
 | [],_=>by
  have:∀ l:List Str,(l.map fun x=>((([]).count x:Nat):Int)).sum=0:=fun l=>by
   induction l with
   | nil=>rfl
   | cons x l g=>rw[Qp,Qy,g];rfl
  rw[this];rfl
 | y::ps,h=>by
  have g:=Zdm i p ps fun x k=>h x (Qg _ k);have e:∀ x,(((y::ps).count x:Nat))=(ps.count x:Int)+if x=y then 1 else 0:=fun x=>by
   rw[RB];by_cases c:x=y
   subst c;simp;rw[if_neg (by simpa using fun q=>c q.symm),if_neg c];rfl
  rw[(QB fun x _=>e x),Ze8,ZiG y _ (i.filter _)];by_cases c:p y=true
  rw[if_pos (QF.mpr ⟨h y Qd,c⟩),Wu c,QC];omega;rw[if_neg fun q=>c (QF.mp q).2,Wv c];omega
def Zbq {c:Es} (h:ZN ps c):(c.map (·.1)).Nodup:=by
 rw[UI,Wl];refine List.Pairwise.imp ?_ (Wl.mp h.srt);intro x y a e;rw[e]at a;exact Uk _ a
def Zde {b:Es} (h:ZN ps b) (p):((b.filter fun e=>p e.1).map fun e=>e.2).sum=((ps.filter p).length):=by
 rw[←Zdm (Zbq h) p ps fun x c=>(h.mem x).mpr c];congr 1;rw[U3,QN];exact QB fun e f=>(h.cnt e (QF.mp f).1)
noncomputable def oR (ps:List Str) (y:Str):Nat:=(ps.filter fun x=>decide (bg x=y)).length
def iR (ps:List Str) (y:Str):Nat:=(ps.filter fun x=>decide (en x=y)).length
def ZcP {a:Es} (h:ZN ps a) (y):Zb6 a y=(oR ps y):=Zde h fun x=>decide (bg x=y)
def ZgR {f:Es} (h:ZN ps f) (y):mo f y=(oR ps y)-(iR ps y):=by
 have b:∀ a,mo a y=((a.filter fun e=>decide (bg e.1=y)).map fun e=>e.2).sum-((a.filter fun e=>decide (en e.1=y)).map fun e=>e.2).sum:=fun a=>by
  induction a with
  | nil=>rfl
  | cons e a j =>
   rw[ZcZ];unfold mo1 ind
   grind
 rw[b,Zde h fun x=>decide (bg x=y),Zde h fun x=>decide (en x=y)];rfl
def ZrC {a:Es} (h:ZN ps a) (f:ps.length<=27):Few a:=by
 refine⟨fun x=>?_,fun e b=>?_⟩;rw[ZcP h];have:oR ps x<=ps.length:=Q7 _ _;lia;have d:=h.cnt e b;have c:=U5 (a:=e.1) (l:=ps);lia
def Ze1 (ps:List Str):Es:=ps.map fun x=>(x,1)
def Zmi (ps):(Ze1 ps).map (·.1)=ps:=by
 unfold Ze1;rw[QN];exact VI ps
def Zj1 (d:ps.length<=31) (c:∀ x∈ps,1<=x.length/\x.length<=1000):JW (Ze1 ps):=by
 unfold Ze1;refine⟨by rw[Qc];exact d,fun e a=>?_,fun e a=>?_⟩;obtain⟨x,_,rfl⟩:=Qk.mp a;lia;obtain⟨x,b,rfl⟩:=Qk.mp a;exact c x b
section
variable {P:Oc} {w:Of} {K:PySem.W.Frag} {mg:Str->Option Value} {base:Heap}
end
noncomputable def hD (ps:List Str) (r x:Str):Int:=fI ((oR ps x:Int)-if x=r then 0 else 1)
section
variable {P:Oc} {w:Of} {K:PySem.W.Frag} {mg:Str->Option Value} {base:Heap}
end
def ZbT (g):∀ n,Xu (n+1) g=g 0+Xu n fun i=>g (i+1)
 | 0=>by simp[Xu]
 | n+1=>by
  rw[Xu,ZbT g n,Xu];lia
def Zhe:∀ {q n} {f},q<n->(∀ r,r<n->f r q=0)->det n f=0
 | 0,0,f,h,_=>by omega
 | 0,n+1,f,h,e=>Zhg e
 | q+1,0,f,h,_=>(Tu h).elim
 | q+1,n+1,f,h,e=>by
  refine Ju fun i a=>?_;rw[Zhe (q:=q) (So h) fun r b=>e _ (by unfold rmv;split <;> omega),Rs]
def Zhf:∀ {q n} {f},q<=n->(∀ r,0<r->r<n+1->f r q=0)->det (n+1) f=ZaH q*f 0 q*det n fun r c=>f (r+1) (rmv q c)
 | 0,n,f,h,e=>by
  rw[Zdl e];have t:(fun r c=>f (r+1) (rmv 0 c))=fun r c=>f (r+1) (c+1):=by
   rfl
  rw[t];simp[ZaH]
 | q+1,0,f,h,_=>by lia
 | q+1,m+1,f,h,e=>by
  have s:∀ j r,rmv (j+1) (r+1)=rmv j r+1:=fun j r=>by
   unfold rmv;by_cases c:r<j
   rw[if_pos (Nm c),if_pos c]
   rw[if_neg (by lia),if_neg c]
  have k:∀ j,rmv (j+1) 0=0:=fun j=>by rfl
  rw[det,ZbT];have l:det (m+1) (fun r c=>f (rmv 0 r) (c+1))=0:=Zhe (q:=q) h fun r v=>by
   have:rmv 0 r=r+1:=by rfl
   simp_all
  rw[l,Rs,Uy,det];have b:∀ (a:Int) (n:Nat) (g:Nat->Int),a*Xu n g=Xu n fun i=>a*g i:=fun a n g=>by
   have:=ZaF a 0 g g n
   simp_all
  rw[b];refine Xa fun j w=>?_;have p:=Zhf (q:=q) (n:=m) (f:=fun r c=>f (rmv (j+1) r) (c+1)) (K6 h) fun r u x=>by
   obtain⟨d,rfl⟩:∃ d,r=d+1:=⟨r-1,by lia⟩
   rw[s];refine e _ Nn ?_;unfold rmv;split <;> lia
  rw[p,k,k];have o:(fun r c=>f (rmv (j+1) (r+1)) (rmv q c+1))=fun r c=>f (rmv j r+1) (rmv (q+1) (c+1)):=by
   simp_all
  rw[o,ZaG,ZaG];simp only[Uq,Int.mul_neg];simp only[Q8,Wm,WP]
def ZnL (q):ZaH q*ZaH q=1:=by
 unfold ZaH
 grind
def Zm2 (h:q<n+1) (e:∀ r,r<n+1->r≠q->f r q=0):det (n+1) f=f q q*det n fun r c=>f (rmv q r) (rmv q c):=by
 have a:=Zhf (q:=q) (n:=n) (f:=Zik f q) (N5 h) fun r j i=>by
  unfold Zik;rw[if_neg (N4 j)];refine e _ ?_ (Zb0 q _);unfold rmv;split <;> lia
 have d:(fun r c=>Zik f q (r+1) (rmv q c))=fun r c=>f (rmv q r) (rmv q c):=by
  rfl
 have g:Zik f q 0 q=f q q:=by rfl
 rw[d,g,(Zf1 (f:=f) h)]at a;have b:=congrArg (fun x=>ZaH q*x) a;rw[←Q8,ZnL,Wr,←Q8,←Q8,ZnL,Wr]at b;exact b
noncomputable def Zcl (os:List Str) (x:Str) (r c:Nat):Int:=if os.idxOf (bg x)=r then (if c=r then 1 else 0)-(if c=os.idxOf (en x)then 1 else 0)else 0
def Ze6 (os) (r c):∀ es,Zaw os es r c=(es.map fun e=>e.2*Zcl os e.1 r c).sum
 | []=>rfl
 | e::es=>by
  rw[Qp,Qy,←Ze6 os r c es];unfold Zaw Zqi Jg Zcl;by_cases h:os.idxOf (bg e.1)=r
  rw[if_pos h,Wu (by simpa using h),Qp,Qp,Qy];rw[if_neg h,Wv (by simpa using h),Rs,Uy]
def Zgj (φ:Str->Int) (y):∀ l:List Str,l.Nodup->y∈l->(l.map fun x=>(if x=y then 1 else 0)*φ x).sum=φ y
 | [],_,h=>by cases h
 | x::l,nd,h=>by
  obtain⟨n1,n2⟩:=QX.mp nd;rw[Qp,Qy];by_cases e:x=y
  subst e;have:∀ m:List Str,x∉m->(m.map fun z=>(if z=x then 1 else 0)*φ z).sum=0:=fun m hm=>by
   induction m with
   | nil=>rfl
   | cons z m ih =>
    rw[Qp,Qy,ih fun q=>hm (Qg _ q),if_neg fun q=>hm (by rw[q];simp),Uw];rfl
  rw[this l n1,if_pos rfl,Wr,UO];rw[if_neg e,Uw,Uy];exact Zgj φ y l n2 ((Qx.mp h).resolve_left fun q=>e q.symm)
def Zhj {ks:List Str} (g:ks.Nodup) (φ):∀ ps:List Str,(∀ x∈ps,x∈ks)->(ks.map fun x=>(ps.count x:Int)*φ x).sum=(ps.map φ).sum
 | [],_=>by
  have:∀ l:List Str,(l.map fun x=>((([]).count x:Nat):Int)*φ x).sum=0:=fun l=>by
   induction l with
   | nil=>rfl
   | cons x l f =>
    rw[Qp,Qy,f];simp
  rw[this];rfl
 | y::ps,h=>by
  have f:=Zhj g φ ps fun x i=>h x (Qg _ i);have e:∀ x,(((y::ps).count x:Nat))*φ x=(ps.count x)*φ x+(if x=y then 1 else 0)*φ x:=fun x=>by
   rw[RB,←Rc];by_cases c:x=y
   subst c;simp;rw[if_neg (by simpa using fun q=>c q.symm),if_neg c];rfl
  rw[(QB fun x _=>e x),Ze8,Zgj φ y _ g (h y Qd),Qp,Qy];lia
def ZkJ {b:Es} (h:ZN ps b) (φ):(b.map fun e=>e.2*φ e.1).sum=(ps.map φ).sum:=by
 rw[←Zhj (Zbq h) φ ps fun x c=>(h.mem x).mpr c,QN];congr 1;refine QB fun e d=>?_;show e.2*φ e.1=(ps.count e.1)*φ e.1;rw[h.cnt e d]
noncomputable def ZbC (os ps:List Str):ZbQ:=fun r c=>(ps.map fun x=>Zcl os x r c).sum
def ZlE {a:Es} (h:ZN ps a) (os):Zaw os a=ZbC os ps:=by
 funext r c
 rw[Ze6];exact ZkJ h fun x=>Zcl os x r c
def Zmb {l m:List Int} (h:l.Perm m):l.sum=m.sum:=by
 induction h with
 | nil=>rfl
 | cons x _ f=>rw[Qy,Qy,f]
 | swap x y l=>rw[Qy,Qy,Qy,Qy];exact Nt
 | trans _ _ a b=>exact Nu b a
def Zc5 {os ps a} (h:ps.Perm a):ZbC os ps=ZbC os a:=by
 funext r c
 exact Zmb (h.map _)
def JN (os) (x) (ps) (r c):ZbC os (x::ps) r c=Zcl os x r c+ZbC os ps r c:=by
 rfl
def trR (os ps:List Str):Int:=det os.length (ZbC os ps)
def Ziz {a:Es} (h:ZN ps a) (os):X8 os a=trR os ps:=by
 unfold X8 trR;rw[←ZlE h,Jt (fun r t b=>?_) os.length [] (by simp) fun x c=>by grind];rfl;obtain⟨e,_,rfl⟩:=Qk.mp b;exact U4
def ZpG {os ps} (i:os.Nodup) (f) (c):ZbC os ps q c=((ps.filter fun x=>decide (bg x=os[q])).map fun x=>(if c=q then 1 else 0)-(if c=os.idxOf (en x)then 1 else 0)).sum:=by
 induction ps with
 | nil=>rfl
 | cons x ps g =>
  rw[JN];unfold Zcl;by_cases h:bg x=os[q]
  simp_all
  grind
def ZiE {α:Type} (a:Int) (g):∀ l:List α,(l.map fun x=>a-g x).sum=l.length*a-(l.map g).sum
 | []=>by simp
 | x::l=>by
  rw[Qp,Qp,Qy,Qy,ZiE a g l,QC];have:((l.length+1:Nat))*a=l.length*a+a:=by
   rw[RC,Rc];lia
  lia
def ZgY {os ps} (h:x∈ps) (r c):ZbC os (ps.erase x) r c=ZbC os ps r c-Zcl os x r c:=by
 rw[Zc5 (Wb h),JN];lia
def ZmI {os ps} (i:os.Nodup) {q:Nat} (d):((ps.filter fun x=>decide (bg x=os[q])).map fun x=>trR os (ps.erase x)).sum=((oR ps os[q])-1)*trR os ps:=by
 have h:((ps.filter fun x=>decide (bg x=os[q])).map fun x=>trR os (ps.erase x))=(ps.filter fun x=>decide (bg x=os[q])).map fun x=>trR os ps-det os.length (ZO (ZbC os ps) q fun c=>(if c=q then 1 else 0)-(if c=os.idxOf (en x)then 1 else 0)):=by
  refine QB fun x j=>?_;obtain⟨f,_⟩:=QF.mp j;have k:os.idxOf (bg x)=q:=by simp_all
  have e:ZbC os (ps.erase x)=ZO (ZbC os ps) q fun c=>1*ZbC os ps q c+(-1)*((if c=q then 1 else 0)-if c=os.idxOf (en x)then 1 else 0):=by
   funext r c
   rw[ZgY f];unfold Zcl ZO;rw[k];by_cases z:r=q
   subst z;rw[if_pos rfl,if_pos rfl];lia
   rw[if_neg (Ne.symm z),if_neg z,UQ]
  unfold trR;rw[e,XI _ 1 _ _ _ d,YS];lia
 have g:=Zdj (ZbC os ps) d (fun v c=>(if c=q then 1 else 0)-(if c=v then 1 else 0)) ((ps.filter fun x=>decide (bg x=os[q])).map fun x=>(os.idxOf (en x),1));have l:(fun c=>(((ps.filter fun x=>decide (bg x=os[q])).map fun x=>((os.idxOf (en x),1))).map fun t=>t.2*((if c=q then 1 else 0)-(if c=t.1 then 1 else 0))).sum)=ZbC os ps q:=by
  funext c
  rw[ZpG i d];congr 1;simp
 rw[l,YS]at g;rw[h,ZiE];have m:((ps.filter fun x=>decide (bg x=os[q])).map fun x=>det os.length (ZO (ZbC os ps) q fun c=>(if c=q then 1 else 0)-(if c=os.idxOf (en x)then 1 else 0))).sum=trR os ps:=by
  unfold trR;rw[g];congr 1;simp
 rw[m,Int.sub_mul,Wr];rfl
def Zku {os ps} (h:x∈ps) (a:bg x∉os):trR os (ps.erase x)=trR os ps:=by
 refine YH fun r b c _=>?_;rw[ZgY h];unfold Zcl
 grind
def Zbp {p y:Str} (c:p∉A++B) (b:y≠p):(A++p::B).idxOf y=rmv A.length ((A++B).idxOf y):=by
 unfold rmv;rw[Ut,Ut];by_cases h:y∈A
 have:=UP.mpr h
 simp_all
 rw[if_neg h,if_neg h,if_neg (by lia),List.idxOf_cons,show(p==y)=false from by simpa using fun q=>b q.symm];show _+1+_=_;exact Mb
def Zo1:rmv q a=rmv q b↔a=b:=by
 unfold rmv
 grind
def Zox (a:p∉A++B) (d:bg x≠p) (b:en x≠p) (r c):Zcl (A++p::B) x (rmv A.length r) (rmv A.length c)=Zcl (A++B) x r c:=by
 unfold Zcl;rw[Zbp a d,Zbp a b];simp[Zo1]
def Zh7 (e:p∉A++B) (s:bg x=p) (o:en x≠p) (j:∀ y∈ps,bg y≠p/\en y≠p):trR (A++p::B) (x::ps)=trR (A++B) ps:=by
 have i:(A++p::B).idxOf p=A.length:=by
  rw[Ut,if_neg (fun q=>e (QG.mpr (.inl q))),List.idxOf_cons_self];lia
 have hl:(A++p::B).length=(A++B).length+1:=by simp;exact Sr
 have m:A.length<(A++B).length+1:=by simp;lia
 have f:∀ (y:Str) (r:Nat),en y≠p->r≠A.length->Zcl _ y r A.length=0:=fun y r h1 k=>by
  unfold Zcl;split
  rw[if_neg (Ne.symm k),if_neg]
  rfl
  rw[Zbp e h1];exact fun q=>Zb0 _ _ q.symm
  rfl
 have b:∀ (l:List Str) (g:Str->Int),(∀ y∈l,g y=0)->(l.map g).sum=0:=fun l g h=>by
  induction l with
  | nil=>rfl
  | cons y l ih =>
   rw[Qp,Qy,h y Qd,ih fun z hz=>h z (Qg _ hz)];rfl
 unfold trR;rw[hl,Zm2 m fun r _ k=>by
  rw[JN,f x r o k];unfold ZbC;rw[b _ _ fun y d=>f y r (j y d).2 k];rfl]
 have e1:ZbC (A++p::B) (x::ps) A.length A.length=1:=by
  rw[JN];have e2:Zcl (A++p::B) x A.length A.length=1:=by
   unfold Zcl;rw[s,i,if_pos rfl,if_pos rfl,if_neg]
   rfl
   exact Zbp e o▸fun q=>Zb0 _ _ q.symm
  have e3:ZbC (A++p::B) ps A.length A.length=0:=by
   refine b _ _ fun y d=>?_;unfold Zcl;rw[if_neg];exact Zbp e (j y d).1▸Zb0 _ _
  rw[e2,e3];rfl
 rw[e1,Wr];refine YH fun r _ c _=>?_;rw[JN];have u:Zcl (A++p::B) x (rmv A.length r) (rmv A.length c)=0:=by
  unfold Zcl;rw[s,i,if_neg fun q=>Zb0 _ _ q.symm]
 rw[u,Uy];unfold ZbC;congr 1;exact QB fun y d=>Zox e (j y d).1 (j y d).2 r c
noncomputable def inP (ps:List Str) (y:Str):Bool:=ps.any fun x=>decide (bg x=y) || decide (en x=y)
noncomputable def osL (ss ps:List Str) (e:Str):List Str:=ss.filter fun y=>decide (y≠e)&&inP ps y
def prO (ps os:List Str):Int:=prI (os.map fun y=>fI ((oR ps y:Int)-1))
noncomputable def BR (ss ps:List Str) (e:Str):Int:=trR (osL ss ps e) ps*fI (oR ps e)*prO ps (osL ss ps e)
def Bal (ps:List Str) (P e:Str):Prop:=∀ y,(oR ps y:Int)-(iR ps y:Int)=(if y=P then 1 else 0)-(if y=e then 1 else 0)
def XF (h:ps.Perm qs) (y):oR ps y=oR qs y:=(h.filter _).length_eq
def Zaj (h:ps.Perm b) (y):iR ps y=iR b y:=(h.filter _).length_eq
def Jn (x) (a) (y):oR (x::a) y=(if bg x=y then 1 else 0)+oR a y:=by
 unfold oR;rw[WL];by_cases c:bg x=y
 rw[if_pos c,if_pos (by simpa using c),QC];exact Ss;rw[if_neg c,if_neg (by simpa using c)];exact Su
def Zak (x) (a) (y):iR (x::a) y=(if en x=y then 1 else 0)+iR a y:=by
 unfold iR;rw[WL];by_cases c:en x=y
 rw[if_pos c,if_pos (by simpa using c),QC];exact Ss;rw[if_neg c,if_neg (by simpa using c)];exact Su
def inP_iff:inP ps y=true↔∃ x∈ps,bg x=y\/en x=y:=by
 unfold inP;simp
def Zsz (h:1<=oR ps y):inP ps y=true:=by
 obtain⟨x,b⟩:=List.exists_mem_of_length_pos h;obtain⟨a,c⟩:=QF.mp b;exact inP_iff.mpr ⟨x,a,.inl (of_decide_eq_true c)⟩
def ZgC (l:Bal ps P e) (d:ps.Perm (x::m)) (k:bg x=P) (n:y≠e) (i:y=P->2<=oR ps P):inP ps y=inP m y:=by
 rw[Wq];constructor;intro h;obtain⟨z,b,a⟩:=inP_iff.mp h;rcases Qx.mp (d.mem_iff.mp b)with g | g
 subst g;refine Zsz ?_;have f:=XF d y;rw[Jn,k]at f;by_cases c:y=P
 have:=i c;rw[if_pos c.symm]at f;rw[←c]at this;omega;rw[if_neg (Ne.symm c)]at f;have p:=l y;rw[if_neg n]at p;rcases a with q | q
 exact absurd (k.symm.trans q).symm c;have o:=Zaj d y;rw[Zak,if_pos q]at o;lia;exact inP_iff.mpr ⟨z,g,a⟩;intro h;obtain⟨z,b,a⟩:=inP_iff.mp h;exact inP_iff.mpr ⟨z,(fun z b=>d.mem_iff.mpr (Qg _ b)) z b,a⟩
def ZgI (f:Bal ps P e) (b:ps.Perm (x::d)) (g:bg x=P) (a:P=e\/2<=oR ps P):osL ss d e=osL ss ps e:=by
 refine UU fun y _=>?_;by_cases c:y=e
 simp[c];rw[ZgC f b g c fun q=>a.resolve_left fun z=>c (q.trans z)]
def Zk0 (h:1<=n):fI n=n*fI (n-1):=by
 unfold fI;obtain⟨m,rfl⟩:∃ m:Nat,n=m+1:=⟨(n-1).toNat,by omega⟩
 rw[show((m:Int)+1-1).toNat=m by lia];rfl
def Zad (h:x∈ps) (y):(oR (ps.erase x) y:Int)=(oR ps y)-if bg x=y then 1 else 0:=by
 have:=XF (Wb h) y;rw[Jn]at this;by_cases c:bg x=y
 rw[if_pos c]at this ⊢;lia
 simp_all
def Zll (nd:ss.Nodup) (hss:∀ y,inP ps y=true->y∈ss) (hB:Bal ps P e) (hP:inP ps P=true) :
  BR ss ps e=((ps.filter fun x=>decide (bg x=P)).map fun x=>BR ss (ps.erase x) e).sum:=by
 have ndo:(osL ss ps e).Nodup:=nd.filter _;have hfil:∀ x∈ps.filter (fun x=>decide (bg x=P)),x∈ps/\bg x=P:=fun x hx=>⟨(QF.mp hx).1,of_decide_eq_true (QF.mp hx).2⟩
 have hBP:=hB P;rw[if_pos rfl]at hBP;by_cases hPe:P=e
 subst hPe;have ho1:1<=oR ps P:=by
  rw[if_pos rfl]at hBP;obtain⟨x,hx,q⟩:=inP_iff.mp hP;rcases q with q | q
  have:=XF (Wb hx) P;rw[Jn,if_pos q]at this;omega
  have:=Zaj (Wb hx) P;rw[Zak,if_pos q]at this;omega
 have key:((ps.filter fun x=>decide (bg x=P)).map fun x=>BR ss (ps.erase x) P)=(ps.filter fun x=>decide (bg x=P)).map fun _=>trR (osL ss ps P) ps*fI ((oR ps P:Int)-1)*prO ps (osL ss ps P):=by
  refine QB fun x hx=>?_;obtain⟨h1,h2⟩:=hfil x hx;have hp:=Wb h1;have hno:P∉osL ss ps P:=fun q=>by
   have:=(QF.mp q).2
   simp_all
  unfold BR;rw[ZgI hB hp h2 (.inl rfl),Zku h1 (by simp_all),Zad h1,if_pos h2];congr 1;unfold prO;congr 1;refine QB fun y hy=>?_;rw[Zad h1,if_neg fun q=>hno (by simp_all),UQ]
 rw[key];have rep:∀ (l:List Str) (a:Int),(l.map fun _=>a).sum=(l.length:Int)*a:=fun l a=>by
  induction l with
  | nil=>simp
  | cons x l ih =>
   rw[Qp,Qy,ih,QC,RC,Rc];lia
 rw[rep];unfold BR;rw[Zk0 (n:=(oR ps P:Int)) (Sw ho1)];show _=(oR ps P:Int)*_;simp only[Q8,Wm]
 rw[if_neg hPe]at hBP;have hmem:P∈osL ss ps e:=QF.mpr ⟨hss P hP,by simp[hPe,hP]⟩;by_cases h2:2<=oR ps P
 obtain⟨q,hq,eq⟩:∃ q,∃ h:q<(osL ss ps e).length,(osL ss ps e)[q]=P:=U2.mp hmem;have hls:=ZmI (ps:=ps) ndo hq;rw[eq]at hls;have hG:prO ps (osL ss ps e)=((oR ps P:Int)-1)*prI ((osL ss ps e).map fun y=>fI ((oR ps y:Int)-1-if P=y then 1 else 0)):=by
  unfold prO;refine XC (y:=P) _ ndo hmem ?_ fun y _ hy=>?_
  exact if_pos rfl▸Zk0 (by lia)
  rw[if_neg (Ne.symm hy),UQ]
 have key:((ps.filter fun x=>decide (bg x=P)).map fun x=>BR ss (ps.erase x) e)=(ps.filter fun x=>decide (bg x=P)).map fun x=>trR (osL ss ps e) (ps.erase x)*(fI (oR ps e)*prI ((osL ss ps e).map fun y=>fI ((oR ps y:Int)-1-if P=y then 1 else 0))):=by
  refine QB fun x hx=>?_;obtain⟨h3,h4⟩:=hfil x hx;have hp:=Wb h3;unfold BR;rw[ZgI hB hp h4 (.inr h2),Zad h3,if_neg (by simp_all),UQ,Q8];congr 2;unfold prO;congr 1;refine QB fun y hy=>?_;rw[Zad h3,h4];congr 1;lia
 have e5:=Zcm (fI (oR ps e)*prI ((osL ss ps e).map fun y=>fI ((oR ps y:Int)-1-if P=y then 1 else 0))) ((ps.filter fun x=>decide (bg x=P)).map fun x=>trR (osL ss ps e) (ps.erase x));rw[QN]at e5;rw[key];show _=(List.map ((fun x=>x*(fI (oR ps e)*prI ((osL ss ps e).map fun y=>fI ((oR ps y:Int)-1-if P=y then 1 else 0)))) ∘ fun x=>trR (osL ss ps e) (ps.erase x)) _).sum;rw[←e5,hls];unfold BR;rw[hG];simp only[Q8,Wm]
 have ho:oR ps P=1:=by omega
 have hi:iR ps P=0:=by lia
 obtain⟨x,hx⟩:∃ x,ps.filter (fun x=>decide (bg x=P))=[x]:=List.length_eq_one_iff.mp ho;obtain⟨h3,h4⟩:=hfil x (by exact hx▸Qr.mpr rfl);have hp:=Wb h3;rw[hx,Qp,WQ,Qy,Rp,UO];have ho':=XF hp P;rw[Jn,if_pos h4]at ho';have hi':=Zaj hp P;rw[Zak]at hi';have hen:en x≠P:=fun z=>by rw[if_pos z]at hi';lia
 have hout:inP (ps.erase x) P=false:=by
  rw[Ug];intro z;obtain⟨w,hw,q⟩:=inP_iff.mp z;rcases q with q | q
  have:=XF (Wb hw) P;rw[Jn,if_pos q]at this;lia
  have:=Zaj (Wb hw) P;rw[Zak,if_pos q]at this;lia
 obtain⟨A,B,hAB⟩:=List.append_of_mem (hss P hP);have ndAB:=nd;rw[hAB]at ndAB;have hPA:P∉A:=fun z=>(Wg.mp ndAB).2.2 P z P Qd rfl;have hPB:P∉B:=(QX.mp (Wg.mp ndAB).2.1).1;have same:∀ l:List Str,P∉l->l.filter (fun y=>decide (y≠e)&&inP (ps.erase x) y)=l.filter (fun y=>decide (y≠e)&&inP ps y):=fun l hl=>UU fun y hy=>by
  by_cases c:y=e
  simp[c]
  rw[ZgC (y:=y) hB hp h4 c fun z=>absurd hy (z▸hl)]
 have o1:osL ss ps e=A.filter (fun y=>decide (y≠e)&&inP ps y)++P::B.filter (fun y=>decide (y≠e)&&inP ps y):=by
  unfold osL;rw[hAB,Wi,Wu (by simp[hPe,hP])]
 have o2:osL ss (ps.erase x) e=A.filter (fun y=>decide (y≠e)&&inP ps y)++B.filter (fun y=>decide (y≠e)&&inP ps y):=by
  unfold osL;rw[hAB,Wi,Wv (by simp[hout]),same A hPA,same B hPB]
 have hnot:P∉A.filter (fun y=>decide (y≠e)&&inP ps y)++B.filter (fun y=>decide (y≠e)&&inP ps y):=fun z=>by
  rcases QG.mp z with z | z
  exact hPA (QF.mp z).1
  exact hPB (QF.mp z).1
 have ht:trR (osL ss ps e) ps=trR (osL ss (ps.erase x) e) (ps.erase x):=by
  have hg:=Zh7 (ps:=ps.erase x) hnot h4 hen fun y hy=>by
   constructor
   intro z;exact Ug.mp hout (inP_iff.mpr ⟨y,hy,.inl z⟩)
   intro z;exact Ug.mp hout (inP_iff.mpr ⟨y,hy,.inr z⟩)
  rw[o1,o2,←hg];unfold trR;rw[Zc5 hp]
 unfold BR;rw[ht,Zad h3,if_neg (by exact h4▸hPe),UQ];congr 1;unfold prO;have hf:∀ y,y≠P->fI ((oR (ps.erase x) y:Int)-1)=fI ((oR ps y:Int)-1):=fun y hy=>by
  rw[Zad h3,if_neg (by exact h4▸Ne.symm hy),UQ]
 have m1:∀ l:List Str,P∉l->l.map (fun y=>fI ((oR (ps.erase x) y:Int)-1))=l.map fun y=>fI ((oR ps y:Int)-1):=fun l hl=>QB fun y hy=>hf y fun z=>hl (z▸hy);rw[o1,o2,m1 _ hnot,QM,QM,Qp,ZcM,ZcM,ZF,ho];have:fI (((1:Nat):Int)-1)=1:=rfl;rw[this,Wr]
def Zoy (os ps):Zaw os (Ze1 ps)=ZbC os ps:=by
 funext r c
 rw[Ze6];unfold Ze1 ZbC;congr 1;simp
def ZsU (ps:List Str):Prop:=∀ a∈ps,∀ b∈ps,Rch (Ze1 ps) (bg a) (bg b)
def Znd (h:∀ e∈es,∃ f∈d,f.1=e.1) (k:Adj es a b):Adj d a b:=by
 obtain⟨e,g,q⟩:=k;obtain⟨f,c,_⟩:=h e g;exact⟨f,c,by simp_all⟩
def Rch.mono (h:∀ e∈es,∃ f∈d,f.1=e.1) (k:Rch es a b):Rch d a b:=by
 induction k with
 | here=>exact .here
 | step _ q g=>exact .step g (Znd h q)
def ZcR (h:x∈ps):(x,1)∈Ze1 ps:=Qk.mpr ⟨x,h,rfl⟩
def Zmh (h:∀ x∈ps,x∈qs):∀ e∈Ze1 ps,∃ f∈Ze1 qs,f.1=e.1:=fun e he=>by
 obtain⟨x,hx,rfl⟩:=Qk.mp he;exact⟨_,ZcR (h x hx),rfl⟩
def ZiB (h:x∈ps):Rch (Ze1 ps) (bg x) (en x):=.step .here ⟨_,ZcR h,.inl ⟨rfl,rfl⟩⟩
def Ze2 (ps:List Str) (P:Str):Prop:=ZsU ps/\inP ps P=true/\∃ e,Bal ps P e
def Zf6 (x):Bal [x] (bg x) (en x):=fun y=>by
 rw[Jn,Zak,show oR [] y=0 from rfl,show iR [] y=0 from rfl];by_cases a:bg x=y
 rw[if_pos a,if_pos a.symm];by_cases b:en x=y
 rw[if_pos b,if_pos b.symm];exact No;rw[if_neg b,if_neg (Ne.symm b)];lia;rw[if_neg a,if_neg (Ne.symm a)];by_cases b:en x=y
 rw[if_pos b,if_pos b.symm];lia;rw[if_neg b,if_neg (Ne.symm b)];exact No
def Znn (x):Ze2 [x] (bg x):=⟨fun a d b c=>by
 rw[Qr.mp d,Qr.mp c];exact .here,inP_iff.mpr ⟨x,Qr.mpr rfl,.inl rfl⟩,_,Zf6 x⟩
def Zhn (f:Bal g (en x) e) (b:ps.Perm (x::g)):Bal ps (bg x) e:=fun y=>by
 have a:=f y;rw[XF b,Zaj b,Jn,Zak];by_cases c:bg x=y
 rw[if_pos c,if_pos c.symm];by_cases d:en x=y
 rw[if_pos d];rw[if_pos d.symm]at a;exact Mu a;rw[if_neg d];rw[if_neg (Ne.symm d)]at a;lia;rw[if_neg c,if_neg (Ne.symm c)];by_cases d:en x=y
 rw[if_pos d];rw[if_pos d.symm]at a;lia;rw[if_neg d];rw[if_neg (Ne.symm d)]at a;exact Mu a
def ZiO (i:ps.Perm (x::k)) (h:k=[]\/Ze2 k (en x)):Ze2 ps (bg x):=by
 have d:=i.mem_iff.mpr Qd;have c:∀ y∈k,y∈ps:=fun y j=>i.mem_iff.mpr (Qg _ j);rcases h with h | ⟨p,r,e,o⟩
 subst h;have:=List.perm_singleton.mp i;exact this▸Znn x;refine⟨?_,inP_iff.mpr ⟨x,d,.inl rfl⟩,e,Zhn o i⟩;obtain⟨y,j,l⟩:=inP_iff.mp r;have g:∀ a∈ps,Rch _ _ _:=fun a m=>by
  rcases Qx.mp (i.mem_iff.mp m)with z | z
  subst z;have t:Rch (Ze1 ps) (bg y) (en a):=by
   rcases l with q | q
   exact q▸.here;exact q▸ZiB (c y j)
  exact t.trans (ZiB d).symm;exact(p y j a z).mono (Zmh c)
 exact fun a m b s=>(g a m).symm.trans (g b s)
noncomputable def prK (ks ps:List Str):Int:=prI (ks.map fun k=>fI (ps.count k:Int))
def ZjJ (ks ps):1<=prK ks ps:=Za9 _ fun y hy=>by
 obtain⟨x,_,rfl⟩:=Qk.mp hy;exact Zbt _
def IsC (ss ks ps:List Str) (P:Str) (n:Int):Prop:=(ps=[]->n=1)/\(ps≠[]->¬ Ze2 ps P->n=0)/\(ps≠[]->Ze2 ps P->∀ e,Bal ps P e->n*prK ks ps=BR ss ps e)
def ZrX (ss) (e):BR ss [] e=1:=by
 have:osL ss [] e=[]:=by
  exact UV.mpr fun y _=>(by simp[inP])
 unfold BR;rw[this];rfl
def ZkX:∀ ss:List Str,ss.Nodup->P∈ss->(ss.filter fun y=>decide (y=P))=[P]
 | [],_,h=>by cases h
 | x::ss,f,h=>by
  obtain⟨d,b⟩:=QX.mp f;by_cases e:x=P
  subst e;rw[Wu (by simp)];congr 1;exact UV.mpr fun y c=>by simp;exact fun z=>d (z▸c)
  rw[Wv (by simpa using e)];exact ZkX ss b ((Qx.mp h).resolve_left fun z=>e z.symm)
def Zis (h:∀ y∈ss,g y<=0):ups g ss=[]:=by
 unfold ups;rw[UV.mpr fun y a=>by have:=h y a;simp;exact this];rfl
def Zgd (d:ss.Nodup) (c:P∈ss) (a:g P=1) (h:∀ y∈ss,y≠P->g y<=0):ups g ss=[(P,1)]:=by
 unfold ups;have:(ss.filter fun x=>decide (0<g x))=ss.filter fun y=>decide _:=UU fun y b=>decide_eq_decide.mpr ⟨fun z=>by
  false_or_by_contra;rename_i w;have:=h y b w;exact (Mv z this).elim,fun z=>by simp_all⟩
 rw[this,ZkX ss d c,Qp,WQ,a]
def sm_one (h:sm (ups g ss)<=1):(ups g ss=[]/\∀ y∈ss,g y<=0)\/∃ u∈ss,ups g ss=[(u,1)]/\g u=1/\∀ y∈ss,y≠u->g y<=0:=by
 have c:∀ y,y∈(ss.filter fun x=>decide (0<g x))↔y∈ss/\0<g y:=fun y=>by
  simp
 unfold ups at h ⊢;generalize (ss.filter _)=a at *;cases a with
 | nil =>
  exact .inl ⟨rfl,fun y f=>(by simp_all)⟩
 | cons u a =>
  have m:=(c u).mp Qd;cases a with
  | nil =>
   unfold sm at h;rw[Qp,WQ,Qp,WQ,Qy,Rp]at h;have k:g u=1:=by
    lia
   exact .inr ⟨u,m.1,by rw[Qp,WQ,k],k,fun y f n=>(by simp_all)⟩
  | cons v a =>
   have p:=(c v).mp (Qg _ Qd);unfold sm at h;rw[QN,Qp,Qy]at h;have o:0<=(a.map ((fun e=>e.2) ∘ fun x=>(x,g x))).sum:=(YR _ fun y f=>by
    obtain⟨z,l,rfl⟩:=Qk.mp f;have:=(c z).mp (Qg _ (Qg _ l));show 0<=g z;lia).2
   have h:g u+(g v+(a.map _).sum)<=1:=h;omega
def Zkq (b:SPts d ss) (h:y∉ss):mo d y=0:=ZfR fun e c=>⟨fun z=>h ((b.pts.mem y).mpr ⟨e,c,.inl z⟩),fun z=>h ((b.pts.mem y).mpr ⟨e,c,.inr z⟩)⟩
def YY {hp:Es} (hO:ZN ps hp) (hS:SPts hp ss):inP ps y=true↔y∈ss:=by
 rw[inP_iff,hS.pts.mem];constructor;rintro⟨x,hx,q⟩;obtain⟨e,he,rfl⟩:=Qk.mp ((hO.mem x).mpr hx);exact⟨e,he,q⟩;rintro⟨e,he,q⟩;exact⟨e.1,(hO.mem _).mp (Qk.mpr ⟨e,he,rfl⟩),q⟩
def Zds {a:Es} (b:ZN ps a):Bal ps P e↔∀ y,mo a y=(if y=P then 1 else 0)-(if y=e then 1 else 0):=by
 unfold Bal;constructor;intro h y;rw[ZgR b]
 simp_all
 intro h y;rw[←ZgR b]
 simp_all
def Zou {a:Es} (i:ZN ps a) (f:SPts a ss) (g:Bal ps P e):Zno P (ups (fun y=>-mo a y) ss)=e:=by
 have d:=(Zds i).mp g;by_cases c:P=e
 subst c;rw[Zis fun y _=>by rw[d y];lia];rfl;have j:mo a e = -1:=by
  rw[d e,if_neg (Ne.symm c),if_pos rfl];lia
 have b:e∈ss:=by
  false_or_by_contra;rename_i z;rw[Zkq f z]at j;lia
 rw[Zgd f.pts.nd b (by lia) fun y _ h=>by
  rw[d y,if_neg h];lia]
 rfl
def ups_begin {a:Es} (h:ZN ps a) (g:SPts a ss) (b:Bal ps P e) (d:P∈ss):(P=e/\ups (mo a) ss=[])\/(P≠e/\ups (mo a) ss=[(P,1)]):=by
 have i:=(Zds h).mp b;by_cases c:P=e
 subst c;refine .inl ⟨rfl,Zis fun y _=>by simp_all⟩;refine .inr ⟨c,Zgd g.pts.nd d (by simp_all) fun y _ f=>by
  rw[i y,if_neg f];lia⟩
def ZrN {b:Es} (q:ZN ps b) (g:SPts b ss) (h:¬ 1<sm (ups (mo b) ss)):(ups (mo b) ss=[]/\∀ P,Bal ps P P)\/∃ u∈ss,ups (mo b) ss=[(u,1)]/\∃ e,Bal ps u e:=by
 have E:=Znj g.pts.nd fun e o=>⟨(g.pts.mem _).mpr ⟨e,o,.inl rfl⟩,(g.pts.mem _).mpr ⟨e,o,.inr rfl⟩⟩
 have a:=Zit (mo b) ss;rcases sm_one (g:=mo b) (ss:=ss) (Th h)with ⟨i,l⟩ | ⟨u,r,i,l,B⟩
 refine .inl ⟨i,fun P=>(Zds q).mpr fun y=>?_⟩;rw[i]at a;have C:sm ([]:Es)=0:=rfl;have:∀ z∈ss,-mo b z<=0:=by
  rcases sm_one (g:=fun x=>-mo b x) (ss:=ss) (by omega)with ⟨f,m⟩ | ⟨v,n,f,m,p⟩
  omega
  rw[f]at a;have A:sm [(v,(1:Int))]=1:=rfl;omega
 have F:mo b y=0:=by
  by_cases c:y∈ss
  have D:=l y c;have w:=this y c;lia
  exact Zkq g c
 lia
 refine .inr ⟨u,r,i,?_⟩;rw[i]at a;have A:sm [(u,(1:Int))]=1:=rfl;rcases sm_one (g:=fun x=>-mo b x) (ss:=ss) (by omega)with ⟨f,m⟩ | ⟨v,n,f,m,p⟩
 rw[f]at a;have C:sm ([]:Es)=0:=rfl;omega
 refine⟨v,(Zds q).mpr fun y=>?_⟩;by_cases c:y∈ss
 by_cases j:y=u
 subst j;have:y≠v:=fun z=>by
  simp_all
 rw[if_pos rfl,if_neg this,l];rfl
 rw[if_neg j];by_cases k:y=v
 ·subst k;rw[if_pos rfl];lia
 ·rw[if_neg k];have D:=B y c j;have w:=p y c k;lia
 have t:y≠u:=fun z=>c (z▸r);have s:y≠v:=fun z=>c (z▸n);rw[Zkq g c,if_neg t,if_neg s];rfl
def Zhi {e:Str×Int} {es:Es} (c:ZN ps (e::es)):ZsU ps↔∀ n∈e::es,Rch (e::es) (bg e.1) (bg n.1):=by
 have d:∀ f∈Ze1 ps,∃ g∈e::es,g.1=f.1:=fun f k=>by
  obtain⟨x,r,rfl⟩:=Qk.mp k;obtain⟨g,m,q⟩:=Qk.mp ((c.mem x).mpr r);exact⟨g,m,q⟩
 constructor;intro h n l;exact(h e.1 ((c.mem _).mp (Qk.mpr ⟨e,Qd,rfl⟩)) _ ((c.mem _).mp (Qk.mpr ⟨n,l,rfl⟩))).mono d;intro h a t b s;obtain⟨f,k,rfl⟩:=Qk.mp ((c.mem a).mpr t);obtain⟨g,m,rfl⟩:=Qk.mp ((c.mem b).mpr s);exact((h f k).symm.trans (h g m)).mono (fun f k=>⟨_,ZcR ((c.mem f.1).mp (Qk.mpr ⟨f,k,rfl⟩)),rfl⟩)
def ZmS {g:Es} (q:ZN ps g) (i:ks.Nodup) (o:∀ x∈ps,x∈ks):prI (g.map fun e=>fI e.2)=prK ks ps:=by
 have v:(g.map fun e=>fI e.2)=(g.map (·.1)).map fun k=>fI (ps.count k):=by
  rw[QN];refine QB fun e A=>?_;show fI e.2=fI _;rw[q.cnt e A]
 have j:=Zbq q;have B:=q.mem;rw[v];generalize g.map (·.1)=w at *;have d:∀ {l m:List Int},l.Perm m->prI l=prI m:=fun {l m} h=>by
  induction h with
  | nil=>rfl
  | cons x _ n=>rw[ZF,ZF,n]
  | swap x y l=>rw[ZF,ZF,ZF,ZF,Wm]
  | trans _ _ a b=>exact Nu b a
 have t:w.Perm (ks.filter fun x=>decide (x∈ps)):=(Rh j (i.filter _)).mpr fun x=>by
  simp_all
 rw[d (t.map _)];unfold prK;clear t i o;induction ks with
 | nil=>rfl
 | cons k ks n =>
  rw[Qp,ZF,←n];by_cases c:k∈ps
  rw[Wu (by simpa using c),Qp,ZF];rw[Wv (by simpa using c),Wh c];exact(Wr _).symm
def Zq8 {f:Es} (c:ZN ps f) (g:SPts f ss) (h:(a.map fun x=>x.cps.toList).Pairwise (· < ·)) (k:∀ y,inP ps y=true->y∈a) (e):Zql ss f e=BR a ps e:=by
 have l:othL ss e=osL a ps e:=by
  refine Zcr ?_ ?_ fun x=>?_;exact g.srt.sublist (List.Sublist.map _ RX);exact h.sublist (List.Sublist.map _ RX);unfold othL osL;rw[QF,QF];constructor;rintro⟨i,d⟩;have:=(YY c g).mpr i;exact⟨k x this,by simp[d,this]⟩;rintro⟨i,d⟩;simp at d;exact⟨(YY c g).mp d.2,by simp[d.1]⟩
 unfold Zql BR prO;rw[Ziz c,l,ZcP c];congr 2;refine QB fun y _=>?_;rw[ZcP c]
structure Rw (H:Hp) (v:V) (ps:List Str) (e:Str×Int) (es:Es):Prop where
 hV:HeapV H v (e::es)
 hO:ZN ps (e::es)
 hF:JW (e::es)
 hW:Few (e::es)
 hn:∀ ss,SPts (e::es) ss->ss.length<=31
def Rw.same (h:Rw H v ps e es) (s:Same H a):Rw a v ps e es:=⟨h.hV.same s,h.hO,h.hF,h.hW,h.hn⟩
def IsN (ps:List Str) (P:Str) (n:Int):Prop:=0<=n/\∀ ss0 ks:List Str,(ss0.map fun x=>x.cps.toList).Pairwise (· < ·)->(∀ y,inP ps y=true->y∈ss0)->ks.Nodup->(∀ x∈ps,x∈ks)->IsC ss0 ks ps P n
section
variable {P:Oc} {w:Of} {K:PySem.W.Frag} {mg:Str->Option Value} {base:Heap}
def Zfc:Sp:=fun vs H Q _=>∃ (v:V) (es:Es),vs=[v]/\HeapV H v es/\JW es/\∀ H' ss,Same H H'->SPts es ss->Q (.bl (decide (1<sm (ups (mo es) ss)))) H'
def Zee (D:HasDef K mg "has_many_begins" YD ["H"]) (B:Blt mg) (b:FOk P w K mg base 3 "begins_of" ["H"] Jw):FOk P w K mg base 4 "has_many_begins" ["H"] Zfc:=by
 refine D.ok Za1 (fun x H Q E h=>?_) fun f C A d s H x Q E m h=>?_;obtain⟨v,l,rfl,_⟩:=h;rfl;refine B0 ?_;intros;obtain⟨v,l,rfl,y,j,k⟩:=h;refine⟨_,(Zg (Zn (ZY Xv (Zi (XL rfl) rfl B.sum Zf7 (Za (Zx (Zf YD) Jd ["point","more"] [] rfl (Yb (Zu b m (Za (pv 0) Zc))) (fun _ _ _ _ _=>Yt 2 K rfl (Zy (ZW 0) (Zy (ZW 1) Ys))) (fun _ _ _ _ _=>ZD) fun _ _ _ _ _=>(pv 1)) Zc)) Zh (Zr _)))),⟨_,rfl,v,l,rfl,y,j,fun G J n o c a=>?_⟩⟩;obtain⟨t,r,F⟩:=ZlC j (fun _=>rfl) a;refine Pi c fun q I r0 i e=>?_;subst r0;exact⟨q,rfl,⟨_,SqT.of i⟩,Zro rfl i e F fun u p z hD=>⟨u,_,rfl,SqL.of hD,t,r,_,_,rfl,rfl,k p n (o.trans z) a⟩⟩
abbrev ZcG:Stmt:=top 25
abbrev Zmy:List Str:=["H"]
def Zjn:Zm Zmy ["H"] (Zf ZcG):=⟨rfl,rfl,rfl,by simp,rfl,by decide +kernel,by decide +kernel⟩
def Zi7:Sp:=fun vs H Q _=>∃ (v:V) (ps:List Str) (e:Str×Int) (es:Es),vs=[v]/\Rw H v ps e es/\∀ H' (b:Bool),Same H H'->(b=true->ZsU ps/\∀ ss,SPts (e::es) ss->¬ 1<sm (ups (mo (e::es)) ss))->(b=false->∀ p,¬ Ze2 ps p)->Q (.bl b) H'
def Zed (D:HasDef K mg "has_text" ZcG ["H"]) (B:Blt mg) (d:FOk P w K mg base 4 "hangs" ["H"] Zfd) (g:FOk P w K mg base 4 "has_many_begins" ["H"] Zfc):FOk P w K mg base 5 "has_text" ["H"] Zi7:=by
 refine D.ok Zjn (fun I H Q E h=>?_) fun f cdv A l s H I Q E u h=>?_
 obtain⟨v,x,e,o,rfl,_⟩:=h;rfl
 obtain⟨v,x,e,o,rfl,a,k⟩:=h;refine ⟨_,Zg (Zn (JJ (Zu d u (Za (pv 0) Zc)) (Zas (ZjQ (Zu g u (Za (pv 0) Zc)))))),⟨_,rfl,v,e,o,rfl,a.hV,a.hF,fun H1 b r m=>⟨b,rfl,?_⟩⟩⟩;rw[←Zhi a.hO]at m;refine Zdx (fun c=>⟨_,rfl,v,_,rfl,(a.same r).hV,a.hF,fun H2 G F t=>⟨_,rfl,k _ _ (r.trans F) (fun z=>⟨m.mp c,fun C n=>?_⟩) fun z p y=>?_⟩⟩) fun c=>k _ _ r (fun z=>by cases z) fun _ p z=>absurd (m.mpr z.1) c
 rw[SPts.one n t];simpa using z
 have j:1<sm (ups (mo (e::o)) G):=by simp_all
 obtain⟨_,z2,e',J⟩:=y;rcases ups_begin a.hO t J ((YY a.hO t).mp z2)with q | q
 rw[q.2]at j;exact absurd j (by decide)
 rw[q.2]at j;exact absurd j (by show ¬ 1<1;decide)
abbrev Za2:Stmt:=top 33
abbrev Zki:List Str:=["H","begins"]
def scStartsOf:Zm Zki ["H"] (Zf Za2):=⟨rfl,rfl,rfl,by decide +kernel,rfl,by decide +kernel,by decide +kernel⟩
def ZaT:Sp:=fun vs H Q _=>∃ (v:V) (ps:List Str) (e:Str×Int) (es:Es),vs=[v]/\Rw H v ps e es/\∀ H' v' rs,Same H H'->TupS H' v' rs->(∀ p,p∈rs↔Ze2 ps p)->rs.Nodup->rs.length<=31->Q v' H'
def ZcT (D:HasDef K mg "starts_of" Za2 ["H"]) (B:Blt mg) (g29_:FOk P w K mg base 5 "has_text" ["H"] Zi7) (g18_:FOk P w K mg base 5 "begins_of" ["H"] Jw) (g46_:FOk P w K mg base 5 "points_of" ["H"] Jv):FOk P w K mg base 6 "starts_of" ["H"] ZaT:=by
 refine D.ok scStartsOf (fun vs H Q E h=>?_) (fun f cdv A outer s H vs Q E hr h=>?_)
 obtain⟨v,ps,e,es,rfl,_⟩:=h;rfl
 refine B0 ?_;intros;obtain⟨v,ps,e,es,rfl,hR,k⟩:=h;refine⟨_,(Zd (ZI (ZU (ZS (Zu g29_ hr (Za (pv 0) Zc)))) (Zg (Zn (YW Zc))) Zt)
  (Zd (Zo (i:=1) scStartsOf.nd rfl (.inl rfl) (Zu g18_ hr (Za (pv 0) Zc)))
  (Zd (ZI (Zq YF (Zi Zp rfl B.len ZE (Za (pv 1) Zc)) Zh (Zr _)) (Zg (Zn (Zu g46_ hr (Za (pv 0) Zc)))) Zt)
  (Zg (Zn (YW (Za (Zw ix_tup (Zw ix_tup (pv 1) Zh (fun _ _=>rfl)) Zh (fun _ _=>rfl)) Zc))))))),?_⟩
 apply B4;intros;have hO:=hR.hO;refine⟨_,rfl,v,ps,e,es,rfl,hR,fun H1 b s1 hb hb0=>⟨_,rfl,?_⟩⟩;cases b with
 | false =>
  exact YG rfl ⟨Zk (QT _),fun q hq=>k _ (.ref q) [] (s1.trans (Zb hq)) ⟨q,rfl,Ze⟩ (fun p=>Iff.intro (fun z=>(UD z).elim) (fun z=>absurd z (hb0 rfl p))) Wx (QT _)⟩
 | true =>
 refine Yw rfl ⟨_,rfl,v,e::es,rfl,(hR.same s1).hV,hR.hF,fun v' H2 ss s2 hv' hss=>?_⟩;have s12:=s1.trans s2;refine Pi hv' fun q us r0 hq hpa=>?_;subst r0;obtain⟨hc,hm⟩:=hb rfl;have hbal:=ZrN hO hss (hm ss hss);refine⟨_,rfl,.ref q,_,rfl,.inr ⟨_,SqT.of hq,rfl⟩,rfl,_,rfl,?_⟩;rw[hpa.1];have hbg:∀ p,Ze2 ps p->(ups (mo (e::es)) ss=[])\/ups (mo (e::es)) ss=[(p,1)]:=fun p hp=>by
  obtain⟨z1,z2,e',z3⟩:=hp;rcases ups_begin hO hss z3 ((YY hO hss).mp z2)with q | q
  simp_all
  simp_all
 rcases hbal with ⟨a1,a2⟩ | ⟨u,hu,a1,e',a2⟩
 rw[a1];refine YG (by decide) ⟨_,rfl,v,e::es,rfl,(hR.same s12).hV,hR.hF,fun v3 H3 rs s3 ht hS3=>k _ _ rs (s12.trans s3) ht (fun p=>⟨fun z=>⟨hc,(YY hO hS3).mpr z,p,a2 p⟩,fun z=>(YY hO hS3).mp z.2.1⟩) hS3.pts.nd (hR.hn _ hS3)⟩
 rw[a1]at hpa ⊢;refine Yw (JO (by simp)) ?_;obtain⟨b,e1,e2⟩:=hpa.2 0 (u,1) rfl;refine ⟨_,rfl,q,us,0,.ref b,rfl,rfl,SqT.of hq,ZL (by decide) e1,b,_,0,.str u,rfl,rfl,SqT.of e2,rfl,Zk (show 1<=1000 by decide),fun r hr=>k _ (.ref r) [u] (s12.trans (Zb hr)) ⟨r,rfl,Ze⟩ (fun p=>⟨fun z=>?_,fun z=>?_⟩) (QX.mpr ⟨by simp,Wx⟩) (by simp)⟩
 exact Qr.mp z▸⟨hc,(YY hO hss).mpr hu,e',a2⟩
 rcases hbg p z with q | q
 ·rw[a1]at q;cases q
 ·rw[a1]at q;injection q with q1 q2
  injection q1 with q3 q4
  rw[q3];simp
end
def JP:∀ a:List Str,inV (.str p) (a.map V.str)=decide (p∈a)
 | []=>rfl
 | r::a=>by
  have b:=JP (p:=p) a;unfold inV at b ⊢;rw[Qp,Ul,b];have e:eqV (.str r) (.str p)=decide (r=p):=by
   rfl
  rw[e,Wq,Bool.or_eq_true,decide_eq_true_iff,decide_eq_true_iff,decide_eq_true_iff,Qx];exact⟨fun h=>h.elim (fun z=>.inl z.symm) .inr,fun h=>h.elim (fun z=>.inl z.symm) .inr⟩
def ZkK {e:Str×Int} {es:Es} (hO:ZN ps (e::es)):ps≠[]:=fun z=>by
 have:=(hO.mem e.1).mp (Qk.mpr ⟨e,Qd,rfl⟩)
 simp_all
section
variable {P:Oc} {w:Of} {K:PySem.W.Frag} {mg:Str->Option Value} {base:Heap}
abbrev Zaa:Stmt:=top 34
noncomputable abbrev ZhZ:List Str:=["H","P","ends","end","orders","piece","many"]
def scCountFrom:Zm ZhZ ["H","P"] (Zf Zaa):=⟨rfl,rfl,rfl,by decide +kernel,rfl,by decide +kernel,by decide +kernel⟩
def Zgt:Sp:=fun vs H Q _=>∃ (v:V) (ps:List Str) (e:Str×Int) (es:Es) (p:Str),vs=[v,.str p]/\Rw H v ps e es/\∀ H' (n:Int),Same H H'->IsN ps p n->Q (.int n) H'
def ZbJ (D:HasDef K mg "count_from" Zaa ["H","P"]) (B:Blt mg) (g52_:FOk P w K mg base 6 "starts_of" ["H"] ZaT) (g24_:FOk P w K mg base 6 "ends_of" ["H"] ZnF) (g42_:FOk P w K mg base 6 "orders_to" ["H","end"] ZqK) (g25_:FOk P w K mg base 6 "factorial" ["number"] ZoJ):FOk P w K mg base 7 "count_from" ["H","P"] Zgt:=by
 refine D.ok scCountFrom (fun vs H Q E h=>?_) (fun f cdv A outer s H vs Q E hr h=>?_)
 ·obtain⟨v,ps,e,es,p,rfl,_⟩:=h;rfl
 ·refine B0 ?_;intros;obtain⟨v,ps,e,es,p,rfl,hR,k⟩:=h;have hO:=hR.hO;have hV:=hR.hV;have hF:=hR.hF;have hW:=hR.hW;have hn:=hR.hn;refine⟨_,(Zd (ZI (Zq Zat (pv 1) (Zu g52_ hr (Za (pv 0) Zc)) rfl) (Zg (Zn Zh)) Zt)
   (Zd (Zo (i:=2) scCountFrom.nd rfl (.inl rfl) (Zu g24_ hr (Za (pv 0) Zc)))
   (Zd (Zo (i:=3) scCountFrom.nd rfl (.inl rfl) (ZgG (Zq YF (Zi Zp rfl B.len ZE (Za (pv 2) Zc)) Zh (Zr _)) (pv 1) (Zw ix_tup (Zw ix_tup (pv 2) Zh (fun _ _=>rfl)) Zh (fun _ _=>rfl))))
   (Zd (Zo (i:=4) scCountFrom.nd rfl (.inl rfl) (Zu g42_ hr (Za (pv 0) (Za (pv 3) Zc))))
   (Zd (Yh PassesOwn.never rfl (Yb (pv 0)) (Yt 2 K rfl (Zy (ZG (i:=5) scCountFrom.nd rfl (.inl rfl)) (Zy (ZG (i:=6) scCountFrom.nd rfl (.inl rfl)) Ys)))
    (Zg (Zo (i:=4) scCountFrom.nd rfl (.inl rfl) (Zv ZcQ (pv 4) (Zu g25_ hr (Za (pv 6) Zc))))))
   (Zg (Zn (pv 4)))))))),?_⟩
  refine⟨_,rfl,_,rfl,Ld v ps e es ⟨rfl,hR,fun H1 v1 rs s1 hT hrs _ _=>?_⟩⟩;obtain⟨q1,rfl,hq1⟩:=hT;refine⟨q1,_,rfl,.inr (SqT.of hq1),rfl,by simp[ZbN],_,rfl,?_⟩;rw[JP];by_cases hst:p∈rs
  rotate_left
  ·refine YG (by simp[hst]) ?_;refine k _ 0 s1 ⟨WO _,fun ss0 ks _ _ _ _=>⟨fun z=>absurd z (ZkK hO),fun _ _=>rfl,fun _ z=>absurd ((hrs p).mpr z) hst⟩⟩
  refine Yw (by simp[hst]) ?_;refine⟨_,rfl,v,e::es,rfl,hV.same s1,hF,fun v' H2 ss s2 hv' hss=>?_⟩;have s12:=s1.trans s2;refine Pi hv' fun q2 us r0 hq2 hpa2=>?_;subst r0;obtain⟨ue,hue⟩:∃ ue,ups (fun y=>-mo (e::es) y) ss=ue:=⟨_,rfl⟩
  dsimp only;refine Yr (fun σ H'=>H'=H2/\σ=[some v,some (.str p),some (.ref q2),some (.str (Zno p ue)),none,none,none]) (fun R hR=>?_) ?_
  ·refine⟨_,rfl,.ref q2,_,rfl,.inr ⟨_,SqT.of hq2,rfl⟩,rfl,_,rfl,?_⟩;rw[hpa2.1,hue];rw[hue]at hpa2;cases ue with
   | nil=>exact YG (by decide) ⟨_,rfl,hR _ _ ⟨rfl,rfl⟩⟩
   | cons u ue =>
    refine Yw (JO (by rw[QC];exact Nr)) ?_;obtain⟨b,e1,e2⟩:=hpa2.2 0 u rfl;exact⟨_,rfl,Ld q2 us 0 (.ref b) ⟨rfl,rfl,SqT.of hq2,ZL (by decide) e1,Ld b _ 0 (.str u.1) ⟨rfl,rfl,SqT.of e2,rfl,hR _ _ ⟨rfl,rfl⟩⟩⟩⟩
  rintro σ H2' ⟨rfl,rfl⟩;apply B2;intros;refine⟨_,rfl,_,rfl,v,e::es,_,rfl,hV.same s12,hF,hW,hn,fun H3 ss' s3 hS'=>?_⟩;have ess:=SPts.one hS' hss;subst ess;have s13:=s12.trans s3;obtain⟨n,hdv⟩:=Zph (r:=Zno p ue) hF hS';have hnn:=Zq7 hF ss' (Zno p ue);have kk:∀ H',Same H H'->Q (.int n) H':=fun H' s'=>by
   refine k H' n s' ⟨?_,fun ss0 ks h1 h2 h3 h4=>⟨fun z=>absurd z (ZkK hO),fun _ z=>absurd ((hrs p).mp hst) z,fun _ _ e' hB=>?_⟩⟩
   ·rw[hdv]at hnn;have hp:=Za9 ((e::es).map fun e=>fI e.2) fun y hy=>by
     obtain⟨x,_,rfl⟩:=Qk.mp hy;exact Zbt _
    false_or_by_contra;rename_i c;have:=Int.mul_neg_of_pos_of_neg (show 0<prI ((e::es).map fun e=>fI e.2)by lia) (show n<0 by exact Kc c);exact (Mv this hnn).elim
   ·have he:Zno p ue=e':=by exact hue▸Zou hO hS' hB
    rw[he]at hdv;rw[←ZmS hO h3 h4,←Zq8 hO hS' h1 h2 e',hdv,WP]
  rw[hdv];have hW1:=hW.one;have hF1:=hF.many;refine Pi (hV.same s13) fun q vs r0 hq hpa=>?_;subst r0;clear k hW hF hn hV hR;generalize e::es=fs at *;refine⟨_,rfl,q,rfl,⟨_,SqT.of hq⟩,Y9 (K:=K) (a:=q) (xs:=vs) (fun i σ H4=>(∃ z5 z6:Option V,σ=[some (.ref q),some (.str p),some (.ref q2),some (.str (Zno p ue)),some (.int (prI ((fs.drop i).map fun e=>fI e.2)*n)),z5,z6])/\Same H3 H4)
   ⟨⟨none,none,rfl⟩,Same.refl _⟩ (fun i σ H4 _ ⟨_,s4⟩=>SqT.of (s4 _ _ hq)) ?_ ?_⟩
  ·rintro i x σ H4 hi ⟨⟨z5,z6,rfl⟩,s4⟩;have hiv:i<vs.length:=(Qo.mp hi).1;have hie:i<fs.length:=by rw[←hpa.1];exact hiv
   refine Pe (hpa.2 i fs[i] (Qa hie)) fun b e1 e2=>?_;rw[hi]at e1;cases e1;have m1:=hW1 _ (QA hie);have m2:=(hF1 _ (QA hie)).1;rw[Rm hie];generalize fs[i]=g at *;have hp:=Zbt g.2;refine⟨b,_,rfl,SqT.of (s4 _ _ e2),rfl,_,_,rfl,_,_,rfl,rfl,_,rfl,_,rfl,_,rfl,Sl m2,m1,_,_,rfl,rfl,⟨Mw hp,(Zk1 m1).big (by decide)⟩,⟨some (.str g.1),some (.int g.2),?_⟩,s4⟩;rw[Qp,ZF,Q8];dsimp only;rw[Rr _ (Mw hp)];rfl
  ·rintro σ H4 ⟨⟨z5,z6,rfl⟩,s4⟩;rw[hpa.1,Vk];refine⟨_,rfl,?_⟩;rw[WQ,ZcL,Wr];exact kk _ (s13.trans s4)
end
def ZpM {Pr:Nat->Int->Prop}:∀ (vs),(∀ (i) (v),vs[i]?=some v->∃ n,v= .int n/\Pr i n)->∃ ns:List Int,vs=ns.map V.int/\∀ (i) (n),ns[i]?=some n->Pr i n:=by
 intro vs;induction vs generalizing Pr with
 | nil=>simp
 | cons v vs j =>
  intro h;obtain⟨n,e,_⟩:=h 0 v rfl;obtain⟨ns,g,_⟩:=j (Pr:=fun i=>Pr (i+1)) fun i u f=>h _ u f;refine⟨n::ns,by rw[e,g];rfl,fun i m k=>?_⟩;cases i with
  | zero=>simp_all
  | succ i=>simp_all
section
variable {P:Oc} {w:Of} {K:PySem.W.Frag} {mg:Str->Option Value} {base:Heap}
abbrev ZaJ:Stmt:=top 35
abbrev ZgQ:List Str:=["H"]
def Zjo:Zm ZgQ ["H"] (Zf ZaJ):=⟨rfl,rfl,rfl,by simp,rfl,by decide +kernel,by decide +kernel⟩
def ZaV:Sp:=fun vs H Q _=>∃ (v:V) (ps:List Str) (e:Str×Int) (es:Es),vs=[v]/\Rw H v ps e es/\∀ H' (rs:List Str) (ns:List Int),Same H H'->(∀ p,p∈rs↔Ze2 ps p)->rs.Nodup->ns.length=rs.length->(∀ (i:Nat) (n:Int),ns[i]?=some n->IsN ps (rs.getD i "") n)->Q (.int ns.sum) H'
def ZfK (D:HasDef K mg "count_of" ZaJ ["H"]) (B:Blt mg) (b:FOk P w K mg base 7 "starts_of" ["H"] ZaT) (a:FOk P w K mg base 7 "count_from" ["H","P"] Zgt):FOk P w K mg base 8 "count_of" ["H"] ZaV:=by
 refine D.ok Zjo (fun vs H Q E h=>?_) (fun f cdv A outer s H vs Q E hr h=>?_)
 obtain⟨v,ps,e,es,rfl,_⟩:=h;rfl
 refine B0 ?_;intros;obtain⟨v,ps,e,es,rfl,hR,k⟩:=h;refine ⟨_,(Zg (Zn (Zi (Zlc rfl) rfl B.sum Zf7 (Za (Zx (Zf ZaJ) ZgQ ["point"] [0] rfl (Yb (Zu b hr (Za (pv 0) Zc))) (fun _ _ _ _ _=>ZW 0) (fun _ _ _ _ _=>ZD) (fun _ _ _ _ _=>(Zu a hr (Za (pv 1) (Za (pv 0) Zc))))) Zc)))),⟨_,rfl,v,ps,e,es,rfl,hR,fun H1 v1 rs s1 hT hrs hnd hrl=>?_⟩⟩;obtain⟨q,rfl,hq⟩:=hT;refine⟨q,rfl,⟨_,SqT.of hq⟩,Z3 _ _ (fun i v _=>∃ n:Int,v= .int n/\IsN ps (rs.getD i "") n) (Zk (by rw[Qc];exact S3 hrl)) (fun _ _ _ _ _ r=>r) (Xg (SqT.of hq)) ?_ ?_⟩
 intro i H3 Qe hi hs kq;have hi':i<rs.length:=by simp_all
 rw[Y0 hi'];exact ⟨_,rfl,_,rfl,v,ps,e,es,rs[i],rfl,hR.same (s1.trans hs),fun H4 n s4 hn=>kq _ _ s4 ⟨n,rfl,by grind⟩⟩
 intro D1 vs1 H3 d hr1 hs3 hD1 c;obtain⟨ns,rfl,hns⟩:=ZpM vs1 hr1;rw[Qc,Qc]at d;exact⟨D1,ns,rfl,SqL.of c,k _ rs ns (s1.trans hs3) hrs hnd d hns⟩
end
def Zgu (x):∀ ss:List Str,(ss.map fun x=>x.cps.toList).Pairwise (· < ·)->∃ e:List Str,(e.map fun x=>x.cps.toList).Pairwise (· < ·)/\∀ y,y∈e↔y=x\/y∈ss
 | [],_=>⟨[x],by simp,fun y=>by simp⟩
 | z::ss,h=>by
  rw[Qp,WC]at h;obtain⟨f,g⟩:=h;by_cases a:x.cps.toList<z.cps.toList
  refine⟨x::z::ss,?_,fun y=>by simp⟩;rw[Qp,WC,Qp,WC];refine⟨fun c i=>?_,f,g⟩;rcases Qx.mp i with q | q
  simp_all
  exact RT a (f c q);by_cases b:z.cps.toList<x.cps.toList
  obtain⟨e,l,k⟩:=Zgu x ss g;refine⟨z::e,?_,fun y=>?_⟩;rw[Qp,WC];refine⟨fun c i=>?_,l⟩;obtain⟨y,j,rfl⟩:=Qk.mp i;rcases(k y).mp j with q | q
  rw[q];omega;exact(fun y j=>f _ (Qk.mpr ⟨y,j,rfl⟩)) y q;rw[Qx,k,Qx];exact⟨fun q=>q.elim (fun q=>.inr (.inl q)) fun q=>q.elim .inl (fun q=>.inr (.inr q)),fun q=>q.elim (fun q=>.inr (.inl q)) (fun q=>q.elim .inl fun q=>.inr (.inr q))⟩;refine⟨z::ss,?_,fun y=>?_⟩;rw[Qp,WC];exact⟨f,g⟩;rw[(ZX (UY (WV.mp b) (WV.mp a)))];simp
def Zff:∀ l:List Str,∃ b:List Str,(b.map fun x=>x.cps.toList).Pairwise (· < ·)/\∀ y,y∈b↔y∈l
 | []=>⟨[],by simp,fun y=>by simp⟩
 | x::l=>by
  obtain⟨f,c,g⟩:=Zff l;obtain⟨b,e,d⟩:=Zgu x f c;exact⟨b,e,fun y=>by rw[d,g,Qx]⟩
def ZbW {c:List Str} (h:(c.map fun x=>x.cps.toList).Pairwise (· < ·)):c.Nodup:=by
 refine List.Pairwise.imp ?_ (Wl.mp h);intro x y b e;rw[e]at b;exact Uk _ b
structure RowOk (ps:List Str):Prop where
 len:ps.length<=27
 one:∀ x∈ps,(1<=x.length/\x.length<=1000)/\PyData.strOk x=true
 pts:∀ l:List Str,l.Nodup->(∀ y∈l,inP ps y=true)->l.length<=31
 same:∃ L:Nat,1<=L/\L<=12/\∀ x∈ps,x.length=L
 sg:∀ x∈ps,Cd x.cps.toList
def Zdc (h:∀ x∈qs,x∈ps) (k:inP qs y=true):inP ps y=true:=by
 obtain⟨x,hx,q⟩:=inP_iff.mp k;exact inP_iff.mpr ⟨x,h x hx,q⟩
def ZqS {c:Es} (i:RowOk ps) (j:ps≠[]) (o:HpAt H v c) (a:ZN ps c):∃ e es,c=e::es/\Rw H v ps e es:=by
 have l:=Zg3 a;have n:=i.len;cases c with
 | nil =>
  cases ps with
  | nil=>exact absurd rfl j
  | cons x ps=>exact absurd ((a.mem x).mpr Qd) (by simp)
 | cons e es =>
  refine⟨e,es,rfl,ZmT o,a,⟨K9 n l,fun g f=>?_,fun g f=>?_⟩,ZrC a n,fun m k=>i.pts m k.pts.nd fun y p=>(YY a k).mpr p⟩;have q:=a.cnt g f;have r:=U5 (a:=g.1) (l:=ps);lia;exact(i.one _ ((a.mem g.1).mp (Qk.mpr ⟨g,f,rfl⟩))).1
section
variable {P:Oc} {w:Of} {K:PySem.W.Frag} {mg:Str->Option Value} {base:Heap}
end
def Zov (c) (g:b e=none) (f:(upd b e o1) d=none):∃ a,upd (upd b e o1) d c=a/\Same b a/\a d=some c:=⟨_,rfl,(Zb g).trans (Zb f),Ze⟩
section
variable {P:Oc} {w:Of} {K:PySem.W.Frag} {mg:Str->Option Value} {base:Heap}
end
def Zl1 (s:Same H a):SB D H a:=fun b u _ e=>s b u e
def ZoH:∀ vs,(∀ (i:Nat) (v),vs[i]?=some v->∃ z,v= .str (tx z)/\z.length=L/\Cd z)->∃ ps:List Str,vs=ps.map V.str/\∀ x∈ps,x.length=L/\PyData.strOk x=true/\Cd x.cps.toList:=by
 intro vs;induction vs with
 | nil=>simp
 | cons v vs d =>
  intro h;obtain⟨z,e,m,l⟩:=h 0 v rfl;obtain⟨ps,j,_⟩:=d fun i u k=>h (i+1) u k;refine⟨tx z::ps,by rw[e,j];rfl,fun x g=>?_⟩;rcases Qx.mp g with q | q
  rw[q];refine⟨by assumption,?_,by assumption⟩;unfold PyData.strOk;rw[←Rt,Q4];intro c f;have:=by assumption
  have:=l c this;exact decide_eq_true (Sx this)
  simp_all
section
variable {P:Oc} {w:Of} {K:PySem.W.Frag} {mg:Str->Option Value} {base:Heap}
abbrev ZhC:Stmt:=top 72
noncomputable abbrev Zmx:List Str:=["_law_deck_here","_law_most","_law_cell","_law_some","_law_long","_law_row_here"]
def scLFew:Zm Zmx ["_law_deck_here","_law_most"] (Zf ZhC):=⟨rfl,rfl,rfl,by decide +kernel,rfl,by decide +kernel,by decide +kernel⟩
def ZqL:Sp:=fun vs H Q _=>∃ (D:Addr) (n M:Nat),vs=[.ref D,.int M]/\1<=M/\M<=26/\DK H D (n+M+3)/\∀ p H' ps,SB D H H'->DK H' D n->H' p=some (.lst (ps.map V.str))->RowOk ps->ps≠[]->p≠D->ps.length<=M->Q (.ref p) H'
def Zmj (D:HasDef K mg "_law_few" ZhC ["_law_deck_here","_law_most"]) (B:Blt mg) (g4_:FOk P w K mg base 1 "_law_letters" ["_law_deck_here","_law_few_here"] Zi4) (g11_:FOk P w K mg base 1 "_law_signs" ["_law_deck_here","_law_some","_law_long"] Zfa):FOk P w K mg base 2 "_law_few" ["_law_deck_here","_law_most"] ZqL:=by
 refine D.ok scLFew (fun vs H Q E h=>?_) (fun f cdv A outer s H vs Q E hr h=>?_)
 obtain⟨D,n,M,rfl,_⟩:=h;rfl
 refine B0 ?_;intros;obtain⟨Dk,n,M,rfl,M1,M24,hD,k⟩:=h;refine⟨_,(Zd (Zo (i:=2) scLFew.nd rfl (.inl rfl) (Xs F.plainAttrs_list F.slot_list_pop F.type_list_pop YK (pv 0)))
  (Zd (Zo (i:=3) scLFew.nd rfl (.inr rfl) (Zu g4_ hr (Za (pv 0) (Za (Zw ix_list (Z2 (Za Zh (Za Zh (Za Zh (Za Zh Zc))))) (Zv Z6 (pv 2) Zh) (fun _ _=>rfl)) Zc))))
  (Zd (Zo (i:=4) scLFew.nd rfl (.inr rfl) (Zv Z7 Zh (Zv Z6 (Zv XD (pv 2) Zh) Zh)))
  (Zd (Xk (i:=5) (Zf ZhC) Zmx ["_law_k"] [0,3,4] scLFew.nd rfl (.inl rfl) rfl (YV rfl B.range (Za (Zv Z7 Zh (Zv Z6 (Xs F.plainAttrs_list F.slot_list_pop F.type_list_pop YK (pv 0)) (pv 1))) Zc)) (fun _ _ _ _ _=>ZW 0) (fun _ _ _ _ _=>ZD) (fun _ _ _ _ _=>(Zu g11_ hr (Za (pv 1) (Za (pv 2) (Za (pv 3) Zc))))))
  (Zd (Xj PassesOwn.never (Zq Xv (Zi Zih rfl B.len ZE (Za (ZB (Zby rfl) rfl B.set Zp8 (Za (Zv Zd0 (Zx (Zf ZhC) Zmx ["_law_piece"] [] rfl (ZQ (pv 5)) (fun _ _ _ _ _=>ZW 0) (fun _ _ _ _ _=>ZD) (fun _ _ _ _ _=>(ZM YE (pv 0) Z4 (ZV (Jm YQ Zh)))))
  (Zx (Zf ZhC) Zmx ["_law_piece"] [] rfl (ZQ (pv 5)) (fun _ _ _ _ _=>ZW 0) (fun _ _ _ _ _=>ZD) (fun _ _ _ _ _=>(ZM YE (pv 0) (ZV Zh) Z4)))) Zc)) Zc)) Zh (Zr _))
   (Zg (ZT (Xs F.plainAttrs_list F.slot_list_pop F.type_list_pop YK (pv 5)))))
  (Zg (Zn (pv 5)))))))),?_⟩
 apply B1;intros;obtain⟨ns,c,hDn,c0,c1,hD2⟩:=hD.pop;refine⟨_,rfl,.inl ⟨rfl,_,SqL.of hDn⟩,Dk,_,.int c,rfl,rfl,hDn,Y5 ns c,?_⟩;rw[Y7];have sb:SB Dk H (upd H Dk (.lst (ns.map V.int))):=SB.upd;generalize upd H Dk (.lst (ns.map V.int))=H1 at sb hD2;have m4:=Yo c (show(0:Int)<4 by decide);obtain⟨few,hfat,_⟩:=Zpz (ns:=[2,3,5,26]) (lo:=2) (hi:=26) m4.1 m4.2 (by decide) (by decide);refine⟨_,rfl,Zk (show 4<=1000 by decide),fun p1 hp1=>?_⟩;have s1:=Zb (o:=.lst (([2,3,5,26]:List Int).map V.int)) hp1;refine⟨_,rfl,_,_,rfl,rfl,(by lia),Ld p1 _ _ _ ⟨rfl,rfl,SqL.of Ze,hfat,?_⟩⟩;generalize hH2:upd H1 p1 (.lst (([2,3,5,26]:List Int).map V.int))=H2 at s1;have hH2':upd H1 p1 (.lst [V.int 2,V.int 3,V.int 5,V.int 26])=H2:=hH2;rw[hH2'];refine Lb Dk few (n+M+1) ⟨rfl,V0 ‹_›,by lia,hD2.same s1,fun y H3 sb3 hD3 yl yc=>⟨_,rfl,_,_,rfl,rfl,⟨by decide,by decide⟩,_,_,rfl,rfl,(by lia),_,_,rfl,rfl,?_⟩⟩;dsimp only;have m12:=Yo (c / 4) (show(0:Int)<12 by decide);obtain⟨L,eL⟩:∃ L:Nat,(1+c / 4 % 12:Int)=(L:Int):=⟨(1+c / 4 % 12).toNat,by omega⟩
 rw[eL];have L1:1<=L:=by omega
 have L12:L<=12:=by omega
 refine Pd hD3.pop fun ns4 c4 hDn4 c40 c41 hD4=>?_;refine⟨_,rfl,.inl ⟨rfl,_,SqL.of hDn4⟩,Lb Dk _ (.int c4) ⟨rfl,rfl,hDn4,Y5 ns4 c4,?_⟩⟩;rw[Y7];have sb4:SB Dk H3 (upd H3 Dk (.lst (ns4.map V.int))):=SB.upd;generalize upd H3 Dk (.lst (ns4.map V.int))=H4 at sb4 hD4;have sb04:=((sb.trans (Zl1 s1)).trans sb3).trans sb4;have m24:=Yo c4 (show(0:Int)<(M:Int)by exact V2 M1);refine⟨_,rfl,_,_,rfl,rfl,(V2 M1),_,_,rfl,rfl,_,rfl,by lia,by lia,?_⟩;obtain⟨N,eN⟩:∃ N:Nat,(1+c4 % (M:Int):Int).toNat=N:=⟨_,rfl⟩
 rw[eN];have N1:1<=N:=by omega
 have N24:N<=M:=by omega
 have hdk:H4 Dk≠none:=by
  obtain⟨xs,hx,_⟩:=hD4;rw[hx];simp
 refine ZpE N Dk (fun _ v=>∃ z:List Nat,v= .str (tx z)/\z.length=L/\Cd z) (fun i H=>DK H Dk (n+(M-i))) (Zk (by lia)) hdk hD4 (fun i H D o hne hI=>?_) (fun i H5 Qe hi sb5 hI kq=>?_) (fun D5 vs5 H5 hl5 hR5 sb5 hI5 hn5 hD5=>?_)
 ·obtain⟨xs,hx,h2⟩:=hI;exact⟨xs,by rw[Zj (Ne.symm hne)];omega,h2⟩
 ·refine⟨_,rfl,_,rfl,_,rfl,Ld Dk y L (n+(M-(i+1))) ⟨rfl,V3 ‹_› yl,by lia,yc,by lia,hI.less (by lia),fun z H6 sb6 hD6 zl zc=>kq _ _ sb6 hD6 ⟨z,rfl,zl,zc⟩⟩⟩
 obtain⟨ps,rfl,hps⟩:=ZoH (L:=L) vs5 hR5;rw[Qc]at hl5;have hDD:D5≠Dk:=fun z=>hdk (z▸hn5);have hDn5:DK H5 Dk n:=hI5.less V4;have sb05:SB Dk H H5:=sb04.trans sb5;refine⟨fun m σ H6=>m<=N/\1<=m/\(σ=[some (.ref Dk),some (.int M),some (.int c),some (.str (tx y)),some (.int L),some (.ref D5)])/\SB Dk H H6/\DK H6 Dk n/\H6 D5=some (.lst ((ps.take m).map V.str)),⟨N,Ql _,N1,rfl,sb05,hDn5,by rw[QP (Kf hl5)];omega⟩,?_⟩;rintro m σ H6 ⟨mN,m1,rfl,sb6,hD6,hr6⟩;have hsub:∀ x∈ps.take m,x∈ps:=fun x hx=>Q9 hx;have hlm:(ps.take m).length=m:=by rw[QH];lia
 generalize hqs:ps.take m=qs at *;have hq:∀ x∈qs,x.length=L:=fun x hx=>(hps x (hsub x hx)).1;have hlen:(qs.map V.str).length=qs.length:=by simp
 refine⟨_,rfl,D5,rfl,⟨_,SqL.of hr6⟩,Z3 (qs.map V.str).length (fun i=>(qs.map V.str).getD i .non) (fun i v _=>v= .str (bg (qs.getD i ""))) (Zk (V5 M24 mN hlm hlen N24)) (fun _ _ _ _ _ r=>r) (Yi (SqL.of hr6)) ?_ ?_⟩
 ·intro i H7 Qe hi hs kq;have hi':i<qs.length:=V6 hlen hi
  rw[Y0 hi'];have hx:=hq _ (QA hi');refine⟨_,rfl,_,rfl,_,rfl,_,rfl,Yl (V7 m12 eL hx),?_⟩;rw[XW (V8 m12 eL hx)];refine kq _ _ (Same.refl _) ?_;rw[Qb,Qa hi'];rfl
 intro D7 vs7 H7 hl7 hr7 hs7 _ hDl7;refine⟨_,rfl,D5,rfl,⟨_,SqL.of (hs7 _ _ hr6)⟩,Z3 (qs.map V.str).length (fun i=>(qs.map V.str).getD i .non) (fun i v _=>v= .str (en (qs.getD i ""))) (Zk (V5 M24 mN hlm hlen N24)) (fun _ _ _ _ _ r=>r) (Yi (SqL.of (hs7 _ _ hr6))) ?_ ?_⟩
 ·intro i H8 Qe hi hs kq;have hi':i<qs.length:=V6 hlen hi
  rw[Y0 hi'];have hx:=hq _ (QA hi');refine⟨_,rfl,_,rfl,_,rfl,Yl (V7 m12 eL hx),?_⟩;rw[Jx (V8 m12 eL hx)];refine kq _ _ (Same.refl _) ?_;rw[Qb,Qa hi'];rfl
 intro D8 vs8 H8 hl8 hr8 hs8 _ hDl8;have e7:vs7=(qs.map bg).map V.str:=by
  apply QI;intro i;by_cases h:i<qs.length
  ·rw[Qa (show i<vs7.length by exact V9 hlen h hl7),hr7 i _ (Qa (show i<vs7.length by exact V9 hlen h hl7)),Qh,Qh,Qa h,Qb,Qa h];rfl
  ·rw[Qj (G0 hlen hl7 h),Qj (by rw[Qc,Qc];exact G7 h)]
 have e8:vs8=(qs.map en).map V.str:=by
  apply QI;intro i;by_cases h:i<qs.length
  ·rw[Qa (show i<vs8.length by exact V9 hlen h hl8),hr8 i _ (Qa (show i<vs8.length by exact V9 hlen h hl8)),Qh,Qh,Qa h,Qb,Qa h];rfl
  ·rw[Qj (G0 hlen hl8 h),Qj (by rw[Qc,Qc];exact G7 h)]
 subst e7 e8;refine Ld D7 D8 _ _ ⟨rfl,rfl,hs8 _ _ hDl7,hDl8,Zk (by simp only[Qc];exact G8 M24 mN hlm N24),fun p9 hp9=>?_⟩;have s9:=Zb (o:=.lst ((qs.map bg).map V.str++(qs.map en).map V.str)) hp9;refine⟨p9,qs.map bg++qs.map en,rfl,SqL.of (by rw[Ze,QM]),by simp only[Qm,Qc];exact G8 M24 mN hlm N24,fun p10 ks hp10 hnd hmem hkl=>?_⟩;have hkl2:ks.length<=2*m:=by simp only[Qm,Qc]at hkl;lia
 refine⟨p10,ks,rfl,Ze,by lia,_,_,rfl,rfl,_,rfl,?_⟩;obtain⟨H11,eH,s11,_⟩:=Zov (o1:=.lst ((qs.map bg).map V.str++(qs.map en).map V.str)) (stO _ p10 ks) hp9 hp10;rw[eH];have s611:=(hs7.trans hs8).trans s11;have hr11:=s611 _ _ hr6;have sb11:SB Dk H H11:=sb6.trans (Zl1 s611);refine Zdx (fun cc=>?_) (fun cc=>?_)
 ·have cc':=of_decide_eq_true cc;have m2:2<=m:=by lia
  have hdl:(qs.map V.str).dropLast=(ps.take (m-1)).map V.str:=by
   rw[U0,hlen,hlm,←UH,←hqs,VA,Vv G9]
  refine ⟨fun σ' H'=>m-1<=N/\1<=m-1/\(σ'=[some (.ref Dk),some (.int M),some (.int c),some (.str (tx y)),some (.int L),some (.ref D5)])/\SB Dk H H'/\DK H' Dk n/\H' D5=some (.lst ((ps.take (m-1)).map V.str)),fun σ' H' h=>⟨m-1,by omega,h⟩,⟨_,rfl,.inl ⟨rfl,_,SqL.of hr11⟩,D5,_,.str (qs.getD (m-1) ""),rfl,rfl,hr11,?_,?_⟩⟩
  ·rw[hlen,hlm,Qh,Qb,Qa (show m-1<qs.length by omega)];rfl
  rw[hdl];refine⟨Ta mN,by omega,rfl,fun b u hb e=>?_,?_,Ze⟩
  ·rw[Zj (fun z=>?_)]
   ·exact sb11 b u hb e
   ·have:=sb04 b u hb e;rw[z,hn5]at this;cases this
  ·obtain⟨xs,hx,h2⟩:=hD6.same s611;exact⟨xs,by exact Zj (Ne.symm hDD)▸hx,h2⟩
 ·have cc':=of_decide_eq_false (Ug.mpr cc);refine⟨_,rfl,k D5 H11 qs sb11 (hD6.same s611) hr11 ⟨by lia,fun x hx=>⟨by rw[hq x hx];lia,(hps x (hsub x hx)).2.1⟩,fun l nd hi=>?_,⟨L,L1,L12,hq⟩,fun x hx=>(hps x (hsub x hx)).2.2⟩ (fun z=>by rw[z]at hlm;simp at hlm;lia) hDD (by lia)⟩;have:=YN (B:=ks) nd fun y hy=>by
   obtain⟨x,hx,q⟩:=inP_iff.mp (hi y hy);rw[hmem,QG,Qk,Qk];exact q.elim (fun q=>.inl ⟨x,hx,q⟩) (fun q=>.inr ⟨x,hx,q⟩)
  lia
end
def Zl6 (o:1<=L) (p:L<=4) (l:L<=z.length) (hz:z.length<=26+L-1) (g:Cd z) (h:ps.length<=27) (b:∀ x∈ps,x∈ZaA z L):RowOk ps:=by
 refine⟨h,fun x a=>⟨by rw[Zgc l (b x a)];lia,?_⟩,fun m k n=>?_,⟨L,o,by lia,fun x a=>Zgc l (b x a)⟩,fun x a c e=>?_⟩;have d:=b x a;obtain⟨i,_,rfl⟩:=Qk.mp d;unfold PyData.strOk;rw[←Rt,Q4];intro c e;have:=by assumption
 have:=g c (WD (Q9 this));exact decide_eq_true (Sx this);have:=YN k fun y j=>by
  obtain⟨x,a,q⟩:=inP_iff.mp (n y j);have d:=Zqr o l (b x a);rcases q with q | q
  exact q▸d.1;exact q▸d.2
 rw[Qc,Q3]at this;lia;obtain⟨i,_,rfl⟩:=Qk.mp (b x a);have:c∈(z.drop i).take L:=by assumption
 exact g c (WD (Q9 this))
section
variable {P:Oc} {w:Of} {K:PySem.W.Frag} {mg:Str->Option Value} {base:Heap}
abbrev Zl3:Stmt:=top 73
noncomputable abbrev Zre:List Str:=["_law_deck_here","_law_most","_law_cell","_law_few_here","_law_long","_law_some","_law_made","_law_way","_law_row_here"]
def scLRow:Zm Zre ["_law_deck_here","_law_most"] (Zf Zl3):=⟨rfl,rfl,rfl,by decide +kernel,rfl,by decide +kernel,by decide +kernel⟩
def ZiX:Sp:=fun vs H Q _=>∃ (D:Addr) (n M:Nat),vs=[.ref D,.int M]/\4<=M/\M<=26/\DK H D (n+M+5)/\∀ p H' ps,SB D H H'->DK H' D n->H' p=some (.lst (ps.map V.str))->RowOk ps->ps≠[]->p≠D->ps.length<=M+1->Q (.ref p) H'
def ZhN (D:HasDef K mg "_law_row" Zl3 ["_law_deck_here","_law_most"]) (B:Blt mg) (g4_:FOk P w K mg base 2 "_law_letters" ["_law_deck_here","_law_few_here"] Zi4) (g11_:FOk P w K mg base 2 "_law_signs" ["_law_deck_here","_law_some","_law_long"] Zfa) (g1_:FOk P w K mg base 2 "_law_few" ["_law_deck_here","_law_most"] ZqL):FOk P w K mg base 3 "_law_row" ["_law_deck_here","_law_most"] ZiX:=by
 refine D.ok scLRow (fun vs H Q E h=>?_) (fun f cdv A outer s H vs Q E hr h=>?_)
 ·obtain⟨D,n,M,rfl,_⟩:=h;rfl
 ·refine B0 ?_;intros;obtain⟨Dk,n,M,rfl,M4,M24,hD,k⟩:=h;refine⟨_,(Zd (Zo (i:=2) scLRow.nd rfl (.inl rfl) (Xs F.plainAttrs_list F.slot_list_pop F.type_list_pop YK (pv 0)))
   (Zd (Zo (i:=3) scLRow.nd rfl (.inl rfl) (Zw ix_list (Z2 (Za Zh (Za Zh (Za Zh (Za Zh (Za Zh (Za Zh (Za Zh (Za Zh (Za Zh (Za Zh Zc))))))))))) (Zv Z6 (pv 2) Zh) (fun _ _=>rfl)))
   (Zd (Zo (i:=4) scLRow.nd rfl (.inr rfl) (Zw ix_list (Z2 (Za Zh (Za Zh (Za Zh (Za Zh (Za Zh (Za Zh (Za Zh (Za Zh (Za Zh (Za Zh Zc))))))))))) (Zv Z6 (pv 2) Zh) (fun _ _=>rfl)))
   (Zd (Zo (i:=5) scLRow.nd rfl (.inl rfl) (Zu g4_ hr (Za (pv 0) (Za (pv 3) Zc))))
   (Zd (ZI (Zq YF (Zv Z6 (Zv XD (pv 2) Zh) Zh) Zh (Zr _)) (Zg (Zn (Zu g1_ hr (Za (pv 0) (Za (pv 1) Zc))))) Zt)
   (Zd (Zo (i:=6) scLRow.nd rfl (.inr rfl) (Zu g11_ hr (Za (pv 0) (Za (pv 5) (Za (Zi (Zle rfl) rfl B.max ZsN (Za (pv 4) (Za (Zv Z6 (Xs F.plainAttrs_list F.slot_list_pop F.type_list_pop YK (pv 0)) (Zv Z7 (pv 1) Zh)) Zc))) Zc)))))
   (Zd (Zo (i:=7) scLRow.nd rfl (.inl rfl) (Zv Z6 (Zv XD (pv 2) Zh) Zh))
   (Zd (ZI (Zq YF (pv 7) Zh (Zr _)) (Zg (Zo (i:=6) scLRow.nd rfl (.inr rfl) (Zv Yf (pv 6) (ZM YE (pv 6) Z4 (ZV (Zv Xe (pv 4) Zh)))))) Zt)
   (Zd (Xk (i:=8) (Zf Zl3) Zre ["_law_at"] [4,6] scLRow.nd rfl (.inl rfl) rfl (YV rfl B.range (Za (Zv Z7 (Zv Xe (Zi Zp rfl B.len ZE (Za (pv 6) Zc)) (pv 4)) Zh) Zc)) (fun _ _ _ _ _=>ZW 0) (fun _ _ _ _ _=>ZD) (fun _ _ _ _ _=>(ZM YE (pv 2) (ZV (pv 0)) (ZV (Zv Z7 (pv 0) (pv 1))))))
   (Zd (Zo (i:=2) scLRow.nd rfl (.inl rfl) (Xs F.plainAttrs_list F.slot_list_pop F.type_list_pop YK (pv 0)))
   (Zd (ZI (PW.pt (ZjG (Zq YF (pv 7) Zh (Zr _)) (Zft (Zq Xv (Zi Zp rfl B.len ZE (Za (pv 8) Zc)) Zh (Zr _))))) (Zg (ZT (Y2 F.plainAttrs_list F.slot_list_pop F.type_list_pop Zeo (pv 8) (Za (Zv Z6 (pv 2) (Zi Zp rfl B.len ZE (Za (pv 8) Zc))) Zc)))) Zt)
   (Zd (ZI (Zq YF (pv 7) Zh (Zr _)) (Zg (ZT (Y2 F.plainAttrs_list F.slot_list_insert F.type_list_insert Zko (pv 8) (Za (Zv Z6 (pv 2) (Zv Z7 (Zi Zp rfl B.len ZE (Za (pv 8) Zc)) Zh)) (Za (Zw ix_list (pv 8) (Zv Z6 (Zv XD (pv 2) Zh) (Zi Zp rfl B.len ZE (Za (pv 8) Zc))) (fun _ _=>rfl)) Zc))))) Zt)
   (Zg (Zn (pv 8))))))))))))))),?_⟩
  refine Pd hD.pop fun ns c hDn c0 c1 hD2=>?_;refine⟨_,rfl,.inl ⟨rfl,_,SqL.of hDn⟩,Lb Dk _ (.int c) ⟨rfl,rfl,hDn,Y5 ns c,?_⟩⟩;rw[Y7];have sb:SB Dk H (upd H Dk (.lst (ns.map V.int))):=SB.upd;generalize upd H Dk (.lst (ns.map V.int))=H0 at sb hD2;have m10:=Yo c (show(0:Int)<10 by decide);refine Pe (Zpz (ns:=[2,2,2,2,3,3,3,4,5,4]) (lo:=2) (hi:=5) m10.1 m10.2 (by decide) (by decide)) fun few hfat _=>?_;refine Pe (Zpz (ns:=[2,3,4,1,2,3,2,2,2,1]) (lo:=1) (hi:=4) m10.1 m10.2 (by decide) (by decide)) fun L hLat _=>?_;refine⟨Zk (show 10<=1000 by decide),fun p1 hp1=>?_⟩;have s1:=Zb (o:=.lst (([2,2,2,2,3,3,3,4,5,4]:List Int).map V.int)) hp1;refine⟨_,rfl,_,_,rfl,rfl,(by omega),Ld p1 _ _ _ ⟨rfl,rfl,SqL.of Ze,hfat,?_⟩⟩;generalize hH1:upd H0 p1 (.lst (([2,2,2,2,3,3,3,4,5,4]:List Int).map V.int))=H1 at s1;have hH1':upd H0 p1 (.lst [V.int 2,V.int 2,V.int 2,V.int 2,V.int 3,V.int 3,V.int 3,V.int 4,V.int 5,V.int 4])=H1:=hH1;rw[hH1'];refine⟨Zk (show 10<=1000 by decide),fun p2 hp2=>?_⟩;have s2:=s1.trans (Zb (o:=.lst (([2,3,4,1,2,3,2,2,2,1]:List Int).map V.int)) hp2);refine⟨_,rfl,_,_,rfl,rfl,(by omega),Ld p2 _ _ _ ⟨rfl,rfl,SqL.of Ze,hLat,?_⟩⟩;generalize hH2:upd H1 p2 (.lst (([2,3,4,1,2,3,2,2,2,1]:List Int).map V.int))=H2 at s2;have hH2':upd H1 p2 (.lst [V.int 2,V.int 3,V.int 4,V.int 1,V.int 2,V.int 3,V.int 2,V.int 2,V.int 2,V.int 1])=H2:=hH2;rw[hH2'];clear hH1 hH1' hH2 hH2' hfat hLat;refine⟨_,rfl,_,rfl,Lb Dk few (n+M+3) ⟨rfl,by omega,by omega,hD2.same s2,fun y H3 sb3 hD3 yl yc=>?_⟩⟩;have sb03:SB Dk H H3:=(sb.trans (Zl1 s2)).trans sb3;refine⟨_,rfl,_,_,rfl,rfl,⟨by decide,by decide⟩,_,_,rfl,rfl,(by omega),rfl,_,rfl,Zdx (fun cc=>?_) (fun cc=>?_)⟩
  ·exact⟨_,rfl,_,rfl,Lb Dk n M ⟨rfl,by omega,M24,hD3,fun p H4 ps sb4 hD4 hp4 hR hne hpd hpl=>k p H4 ps (sb03.trans sb4) hD4 hp4 hR hne hpd (by omega)⟩⟩
  refine Pd ((hD3.less (show n+4+1<=n+M+3 by omega)).pop) fun ns4 c4 hDn4 c40 c41 hD4=>?_;refine⟨_,rfl,_,rfl,_,rfl,_,rfl,.inl ⟨rfl,_,SqL.of hDn4⟩,Lb Dk _ (.int c4) ⟨rfl,rfl,hDn4,Y5 ns4 c4,?_⟩⟩;rw[Y7];have sb4:SB Dk H3 (upd H3 Dk (.lst (ns4.map V.int))):=SB.upd;generalize upd H3 Dk (.lst (ns4.map V.int))=H4 at sb4 hD4;have m25:=Yo c4 (show(0:Int)<(M:Int)+1 by omega);refine⟨_,rfl,_,_,rfl,rfl,_,_,rfl,rfl,(by omega),_,_,rfl,?_⟩;obtain⟨LL,eLL⟩:∃ LL:Nat,(if c4 % ((M:Int)+1)>(L:Int)then c4 % ((M:Int)+1)else (L:Int))=(LL:Int):=⟨(if c4 % ((M:Int)+1)>(L:Int)then c4 % ((M:Int)+1)else (L:Int)).toNat,by omega⟩
  dsimp only;rw[eLL];have LL1:L<=LL/\LL<=M:=by
   omega
  refine Ld Dk y LL (n+1) ⟨rfl,by omega,by omega,yc,by omega,hD4.less (by omega),fun z0 H5 sb5 hD5 zl0 zc0=>?_⟩;have sb05:=(sb03.trans sb4).trans sb5;refine⟨_,rfl,_,_,rfl,rfl,⟨by decide,by decide⟩,_,_,rfl,rfl,(by omega),?_⟩;dsimp only[Jp];generalize c / 40 % 4=wy;refine Yr (fun σ H'=>∃ z:List Nat,H'=H5/\σ=[some (.ref Dk),some (.int M),some (.int c),some (.int few),some (.int L),some (.str (tx y)),some (.str (tx z)),some (.int wy),none]/\L<=z.length/\z.length<=M+L-1/\Cd z) (fun R hR=>?_) ?_
  ·refine⟨_,rfl,rfl,_,rfl,Zdx (fun e=>?_) (fun e=>hR _ _ ⟨z0,rfl,rfl,by omega,by omega,zc0⟩)⟩;refine⟨_,rfl,_,rfl,_,rfl,_,_,rfl,rfl,_,rfl,_,rfl,Yy (by omega),?_⟩;dsimp only;rw[J0 (by omega)];have htl:(z0.take ((L:Int)-1).toNat).length<=L-1:=by rw[QH];omega
   refine⟨_,_,rfl,rfl,?_,?_⟩
   ·rw[ZZ,ZZ];exact Zk (by omega)
   rw[ZbS];exact hR _ _ ⟨z0++z0.take ((L:Int)-1).toNat,rfl,rfl,by rw[Qm];omega,by rw[Qm];omega,fun c q=>(QG.mp q).elim (zc0 c) fun q=>zc0 c (Q9 q)⟩
  rintro σ H5' ⟨z,rfl,rfl,z1,z2,zc⟩;have en:((z.length:Int)-(L:Int)+1).toNat=z.length-L+1:=by omega
  refine⟨_,rfl,.str (tx z),z.length,rfl,⟨Yy (by omega),(ZZ z).symm⟩,_,rfl,_,_,rfl,rfl,_,_,rfl,rfl,_,rfl,by omega,by omega,?_⟩;rw[en];refine Zkx (z:=z) (L:=L) (by omega) z1 (by omega) rfl fun p7 H6 s6 n7 hp7=>?_;have hpd:p7≠Dk:=fun e=>by
   obtain⟨xs,hx,_⟩:=hD5
   simp_all
  refine Pd ((hD5.same s6).pop) fun ns7 c7 hDn7 c70 c71 hD7=>?_;refine⟨_,rfl,.inl ⟨rfl,_,SqL.of hDn7⟩,Lb Dk _ (.int c7) ⟨rfl,rfl,hDn7,Y5 ns7 c7,?_⟩⟩;rw[Y7];have sb7:SB Dk H6 (upd H6 Dk (.lst (ns7.map V.int))):=SB.upd;have hp77:(upd H6 Dk (.lst (ns7.map V.int))) p7=some (.lst ((ZaA z L).map V.str)):=by exact Zj hpd▸hp7
  generalize upd H6 Dk (.lst (ns7.map V.int))=H7 at sb7 hD7 hp77;have sb07:SB Dk H H7:=(sb05.trans (Zl1 s6)).trans sb7;have N7:∀ b u,b≠Dk->H b=some u->b≠p7:=fun b u hb e q=>by
   have:=sb05 b u hb e;rw[q,n7]at this;cases this
  have hwl:(ZaA z L).length=z.length-L+1:=by unfold ZaA;simp
  have updOk:∀ (H':Hp) (o:HO),SB Dk H H'->DK H' Dk n->SB Dk H (upd H' p7 o)/\DK (upd H' p7 o) Dk n:=fun H' o a b=>by
   refine⟨fun c u hc e=>by exact Zj (N7 c u hc e)▸a c u hc e,?_⟩;obtain⟨xs,hx,h2⟩:=b;exact⟨xs,by rw[Zj (Ne.symm hpd)];exact hx,h2⟩
  dsimp only;refine Yr (fun σ H'=>∃ ps:List Str,σ=[some (.ref Dk),some (.int M),some (.int c7),some (.int few),some (.int L),some (.str (tx y)),some (.str (tx z)),some (.int wy),some (.ref p7)]/\SB Dk H H'/\DK H' Dk n/\H' p7=some (.lst (ps.map V.str))/\1<=ps.length/\ps.length<=M/\∀ x∈ps,x∈ZaA z L) (fun R hR=>?_) ?_
  ·refine⟨_,rfl,rfl,_,rfl,Zdx (fun e=>?_) (fun e=>Xw (hR _ _ ⟨ZaA z L,rfl,sb07,hD7,hp77,by omega,by omega,fun x hx=>hx⟩))⟩;refine⟨_,rfl,.ref p7,_,rfl,.inl ⟨_,SqL.of hp77,rfl⟩,_,_,rfl,rfl,_,rfl,Zdx (fun e2=>?_) (fun e2=>hR _ _ ⟨ZaA z L,rfl,sb07,hD7,hp77,by omega,by omega,fun x hx=>hx⟩)⟩;have e2':=of_decide_eq_true e2;rw[Qc]at e2';have wpos:(0:Int)<((ZaA z L).length:Int):=by omega
   have mw:=Yo c7 wpos;obtain⟨j,ej⟩:∃ j:Nat,c7 % ((ZaA z L).length:Int)=(j:Int):=⟨(c7 % ((ZaA z L).length:Int)).toNat,by omega⟩
   have hj:j<(ZaA z L).length:=by omega
   refine⟨_,rfl,.inl ⟨rfl,_,SqL.of hp77⟩,_,rfl,_,rfl,.ref p7,_,rfl,.inl ⟨_,SqL.of hp77,rfl⟩,_,_,rfl,rfl,by rw[Qc];exact wpos,?_⟩;dsimp only;rw[Qc,ej];refine La p7 _ _ j (V.str (ZaA z L)[j]) ⟨rfl,rfl,hp77,by omega,by omega,?_,?_,?_⟩
   ·rw[Qc];exact(ZfX (Zet hj)).1
   ·rw[Qh,Qa hj];rfl
   have hel:((ZaA z L).eraseIdx j).length=(ZaA z L).length-1:=by rw[U1,if_pos hj]
   obtain⟨u1,u2⟩:=updOk H7 (.lst (((ZaA z L).map V.str).eraseIdx j)) sb07 hD7;refine hR _ _ ⟨(ZaA z L).eraseIdx j,rfl,u1,u2,?_,by omega,by omega,fun x hx=>List.mem_of_mem_eraseIdx hx⟩;rw[Ze,Wn,Wn,QM,UH,UW]
  rintro σ H8 ⟨ps,rfl,sb8,hD8,hp8,l1,l2,hsub⟩;apply B3;intros;refine Yr (fun σ H'=>∃ ps:List Str,σ=[some (.ref Dk),some (.int M),some (.int c7),some (.int few),some (.int L),some (.str (tx y)),some (.str (tx z)),some (.int wy),some (.ref p7)]/\SB Dk H H'/\DK H' Dk n/\H' p7=some (.lst (ps.map V.str))/\1<=ps.length/\ps.length<=M+1/\∀ x∈ps,x∈ZaA z L) (fun R hR=>?_) ?_
  ·refine⟨_,rfl,rfl,_,rfl,Zdx (fun e=>?_) (fun e=>hR _ _ ⟨ps,rfl,sb8,hD8,hp8,l1,by omega,hsub⟩)⟩;have wpos:(0:Int)<(ps.length:Int):=by omega
   have wpos1:(0:Int)<(ps.length:Int)+1:=by omega
   have m1:=Yo c7 wpos1;have m2:=Yo (c7 / 1000) wpos;obtain⟨i,ei⟩:∃ j:Nat,c7 % ((ps.length:Int)+1)=(j:Int):=⟨(c7 % ((ps.length:Int)+1)).toNat,by omega⟩
   obtain⟨j,ej⟩:∃ j:Nat,c7 / 1000 % (ps.length:Int)=(j:Int):=⟨(c7 / 1000 % (ps.length:Int)).toNat,by omega⟩
   have hi:i<=ps.length:=by omega
   have hj:j<ps.length:=by omega
   refine⟨_,rfl,.inl ⟨rfl,_,SqL.of hp8⟩,_,rfl,_,rfl,.ref p7,_,rfl,.inl ⟨_,SqL.of hp8,rfl⟩,_,_,rfl,rfl,_,_,rfl,rfl,by rw[Qc];exact wpos1,?_⟩;dsimp only;rw[Qc,ei];refine⟨_,rfl,_,rfl,_,_,rfl,rfl,⟨by decide,by decide⟩,_,rfl,.ref p7,_,rfl,.inl ⟨_,SqL.of hp8,rfl⟩,_,_,rfl,rfl,by rw[Qc];exact wpos,Ld p7 _ _ _ ⟨rfl,rfl,SqL.of hp8,by rw[Qc,ej];exact ZrT hj,?_⟩⟩;refine Ld p7 _ i _ ⟨rfl,rfl,hp8,by rw[Qc];exact hi,?_,?_⟩
   ·rw[Qc];exact QU (show ps.length<1002 by omega) (Zs (by decide))
   obtain⟨u1,u2⟩:=updOk H8 (.lst ((ps.map V.str).take i++[V.str ps[j]]++(ps.map V.str).drop i)) sb8 hD8;refine hR _ _ ⟨ps.take i++[ps[j]]++ps.drop i,rfl,u1,u2,?_,by simp;omega,by simp;omega,fun x hx=>?_⟩
   ·rw[Ze,QM,QM,UH,UW];rfl
   ·rcases QG.mp hx with hx | hx
    ·rcases QG.mp hx with hx | hx
     ·exact hsub x (Q9 hx)
     ·rw[Qr.mp hx];exact hsub _ (QA hj)
    ·exact hsub x (WD hx)
  rintro σ H9 ⟨ps,rfl,sb9,hD9,hp9,l1,l2,hsub⟩;exact⟨_,rfl,k p7 H9 ps sb9 hD9 hp9 (Zl6 (by omega) (by omega) z1 (by omega) zc (by omega) hsub) (fun q=>by rw[q]at l1;simp at l1) hpd l2⟩
end
def Zqt (os qs):0<=trR os qs:=by
 have h1:trR os qs=Yg os.length (Jg os (Ze1 qs)) os.length []:=by
  unfold trR;rw[←Zoy,Jt (fun r t ht=>?_) os.length [] (by simp) fun x hx=>by grind];rfl;obtain⟨e,_,rfl⟩:=Qk.mp ht;exact U4
 rw[h1];refine Xx (fun i t ht=>?_) _ _;obtain⟨e,he,rfl⟩:=Qk.mp ht;obtain⟨x,_,rfl⟩:=Qk.mp ((QF.mp he).1);lia
def ZsW (ss ps) (e):0<=BR ss ps e:=by
 have b:=Zbt (oR ps e);have c:1<=prO ps (osL ss ps e):=by
  refine Za9 _ fun y a=>?_;obtain⟨x,_,rfl⟩:=Qk.mp a;exact Zbt _
 exact UR (UR (Zqt (osL ss ps e) ps) (Tc b)) (Tc c)
def Zkw:∀ (l:List Int) (y),(∀ x∈l,0<=x)->y∈l->y<=l.sum
 | [],_,_,h=>by cases h
 | x::l,y,b,h=>by
  rw[Qy];have c:=b x Qd;have d:=(YR l fun z a=>b z (Qg _ a)).2;rcases Qx.mp h with z | z
  lia;have:=Zkw l y (fun z a=>b z (Qg _ a)) z;exact Sy c this
def Zlu (g:ss.Nodup) (a:∀ y,inP ps y=true->y∈ss) (d:Bal ps P e) (b:x∈ps) (c:bg x=P):BR ss (ps.erase x) e<=BR ss ps e:=by
 rw[Zll g a d (inP_iff.mpr ⟨x,b,.inl c⟩)];refine Zkw _ _ (fun z f=>?_) (Qk.mpr ⟨x,QF.mpr ⟨b,decide_eq_true c⟩,rfl⟩);obtain⟨y,_,rfl⟩:=Qk.mp f;exact ZsW _ _ _
def Chn (ps:List Str):Prop:=∀ (j:Nat) (x y:Str),ps[j]?=some x->ps[j+1]?=some y->en x=bg y
def Zdo (d:ss.Nodup):∀ (rest) (x),Chn (x::rest)->(∀ y,inP (x::rest) y=true->y∈ss)->Ze2 (x::rest) (bg x)/\∃ e,Bal (x::rest) (bg x) e/\1<=BR ss (x::rest) e
 | [],x,_,c=>by
  refine⟨Znn x,_,Zf6 x,?_⟩;have h:=Zlu d c (Zf6 x) Qd rfl;rw[UF,ZrX]at h;exact h
 | r::rest,x,f,c=>by
  have⟨k,e,i,_⟩:=Zdo d rest r (fun j a b m l=>f (j+1) a b m l) fun y o=>c y (Zdc (fun z n=>Qg _ n) o);rw[←(f 0 x r rfl rfl)]at k i;have g:=Zhn i (List.Perm.refl _);refine⟨ZiO (List.Perm.refl _) (.inr k),e,g,?_⟩;have h:=Zlu d c g Qd rfl;rw[UF]at h;lia
def ZiP (ps):∃ a ks:List Str,(a.map fun x=>x.cps.toList).Pairwise (· < ·)/\(∀ y,inP ps y=true->y∈a)/\ks.Nodup/\∀ x∈ps,x∈ks:=by
 obtain⟨a,d,f⟩:=Zff (ps.map bg++ps.map en);obtain⟨ks,g,i⟩:=Zff ps;refine⟨a,ks,d,fun y e=>?_,ZbW g,fun x c=>(i x).mpr c⟩;obtain⟨x,c,q⟩:=inP_iff.mp e;rw[f,QG,Qk,Qk];exact q.elim (fun q=>.inl ⟨x,c,q⟩) fun q=>.inr ⟨x,c,q⟩
def ZpL (h:IsN ps P n) (k:IsN ps P m):n=m:=by
 obtain⟨a,b,o,f,l,i⟩:=ZiP ps;obtain⟨t,v,q⟩:=h.2 a b o f l i;obtain⟨u,s,p⟩:=k.2 a b o f l i;by_cases c:ps=[]
 simp_all
 by_cases d:Ze2 ps P
 obtain⟨_,_,e,j⟩:=id d;have r:=ZjJ b ps;exact Int.eq_of_mul_eq_mul_right (Mw r) ((q c d e j).trans (p c d e j).symm)
 simp_all
def cut_from {ps:List Str} {j:Nat} (h:j<=ps.length):Zhh (ps.map V.str) (some (j:Int)) none=(ps.drop j).map V.str:=by
 unfold Zhh;have h1:HT.sIx (ps.map V.str).length 0 (some (j:Int))=j:=by
  rw[HT.sIx_nat,Qc];exact Vv h
 have h2:HT.sIx (ps.map V.str).length (ps.map V.str).length none=(ps.map V.str).length:=rfl;rw[h1,h2,QP (by rw[Wa];exact Ql _),UW]
section
variable {P:Oc} {w:Of} {K:PySem.W.Frag} {mg:Str->Option Value} {base:Heap}
end
end Sh
namespace L2
open PySem PySem.Spec PyProof.Rows
end L2
namespace Sh
open PySem L2 PyProof.Rows
seal L2.PE L2.PS L2.PSs L2.PT L2.PW L2.PA L2.PI L2.PG L2.PGs L2.PO L2.PC L2.PCs L2.OpR L2.UnR L2.CallR L2.MtR L2.IxR L2.SlR
section
variable {P:Oc} {w:Of} {K:PySem.W.Frag} {mg:Str->Option Value} {base:Heap}
end
section
variable {P:Oc} {w:Of} {K:PySem.W.Frag} {mg:Str->Option Value} {base:Heap} {S C A1 A2 A3 A4 A5 A6 A7 A8:Addr}
end
section
variable {P:Oc} {w:Of} {K:PySem.W.Frag} {mg:Str->Option Value} {base:Heap}
end
end Sh
namespace L2
open PySem PySem.Spec PyProof.Rows
end L2
namespace Sh
open PySem L2 PyProof.Rows
seal L2.PE L2.PS L2.PSs L2.PT L2.PW L2.PA L2.PI L2.PG L2.PGs L2.PO L2.PC L2.PCs L2.OpR L2.UnR L2.CallR L2.MtR L2.IxR L2.SlR
section
variable {P:Oc} {w:Of} {K:PySem.W.Frag} {mg:Str->Option Value} {base:Heap}
end
abbrev ZcE:Stmt:=top 44
abbrev Zfp:Stmt:=top 45
abbrev ZcF:Stmt:=top 46
section
variable {P:Oc} {w:Of} {K:PySem.W.Frag} {mg:Str->Option Value} {base:Heap}
def Zjm:Zm ["thing"] ["thing"] (Zf ZcE):=⟨rfl,rfl,rfl,by simp,rfl,by decide +kernel,by decide +kernel⟩
def ZfH (D:HasDef K mg "is_whole" ZcE ["thing"]) (B:Blt mg):FOk P w K mg base 1 "is_whole" ["thing"] Jh:=by
 refine D.ok Zjm (fun d H Q E h=>?_) fun f g A b s H d Q E i h=>?_;obtain⟨x,n,rfl,_⟩:=h;rfl;obtain⟨x,n,rfl,a,k⟩:=h;refine⟨_,Zg (Zn (JJ (Zi Z8 rfl B.isi Zao (Za (pv 0) (Za (JI rfl B.int Zm9) Zc)))
  (Zas (ZjQ (Zi Z8 rfl B.isi Zao (Za (pv 0) (Za (JI rfl B.bool Zok) Zc))))))),⟨_,rfl,x,_,n,rfl,by decide,a,_,rfl,(Zdx (fun e=>?_) fun e=>?_)⟩⟩
 refine⟨_,rfl,x,_,n,rfl,by decide,a,_,rfl,?_⟩;rw[(Zc9 n a.mem).1 e];omega;rw[(Zc9 n a.mem).2 e]at k;omega
noncomputable def YC:V->Bool
 | .int i=>decide (1<=i)&&decide (i<=300)
 | _=>false
def Zi3:Sp:=fun vs H Q _=>∃ (x:V) (n:String),vs=[x]/\TyB H x n/\Q (.bl (YC x)) H
def ZlW:Zm ["thing"] ["thing"] (Zf Zfp):=⟨rfl,rfl,rfl,by simp,rfl,by decide +kernel,by decide +kernel⟩
def ZhR (D:HasDef K mg "is_long" Zfp ["thing"]) (B:Blt mg) (m:FOk P w K mg base 1 "is_whole" ["thing"] Jh):FOk P w K mg base 2 "is_long" ["thing"] Zi3:=by
 refine D.ok ZlW (fun p H Q E h=>?_) fun f l A a s H p Q E o h=>?_;obtain⟨x,n,rfl,_⟩:=h;rfl;obtain⟨x,n,rfl,b,k⟩:=h;obtain⟨q,j⟩:=B.most;refine⟨_,Zg (Zn (JJ (Zu m o (Za (pv 0) Zc))
  (Zas (Zmd Zpi Zpi Zh (pv 0) (Zbc (v:=.int 300) rfl j ⟨_,rfl⟩))))),⟨_,rfl,x,n,rfl,b,_,rfl,(Zdx (fun e=>?_) fun e=>?_)⟩⟩
 cases b with
 | int i =>
  refine⟨_,rfl,_,_,rfl,rfl,_,rfl,(Zdx (fun c=>?_) fun c=>?_)⟩;refine⟨_,_,rfl,rfl,?_⟩;have:YC (.int i)=decide (i<=300):=by simp only[YC];rw[c];rfl
  simp_all
  have:YC (.int i)=false:=by simp only[YC];rw[Ug.mpr c];rfl
  rw[this]at k;omega
 | _=>exact absurd e (by decide)
 have:YC x=false:=by
  cases b with
  | int i=>simp_all
  | _=>rfl
 rw[this]at k;omega
noncomputable def Yu (c:Nat):Bool:=decide (97<=c)&&decide (c<=122)
noncomputable def ZK:V->Bool
 | .str z=>YC (.int z.length)&&z.cps.toList.all Yu
 | _=>false
def ZfM (c):decide (c∈(("abcdefghijklmnopqrstuvwxyz" : Str)).cps.toList)=Yu c:=by
 rw[Zeq,Wq];simp[decide_eq_true_eq,Qk,QK,Yu,QW];constructor;lia;rintro⟨b,d⟩;exact⟨c-97,by omega,Mc b⟩
def Zgn:Sp:=fun vs H Q _=>∃ (x:V) (n:String),vs=[x]/\TyB H x n/\(∀ z,x= .str z->z.length<=sizeLine)/\∀ H',Same H H'->Q (.bl (ZK x)) H'
def ZlU:Zm ["thing"] ["thing"] (Zf ZcF):=⟨rfl,rfl,rfl,by simp,rfl,by decide +kernel,by decide +kernel⟩
def ZhP (D:HasDef K mg "is_text" ZcF ["thing"]) (B:Blt mg) (G1:FOk P w K mg base 2 "is_long" ["thing"] Zi3):FOk P w K mg base 3 "is_text" ["thing"] Zgn:=by
 refine D.ok ZlU (fun vs H Q E h=>?_) (fun f cdv A outer s H vs Q E hr h=>?_)
 obtain⟨x,n,rfl,_⟩:=h;rfl
 refine B0 ?_;intros;obtain⟨x,n,rfl,ty,hz,k⟩:=h;obtain⟨t3,m3⟩:=B.letters;refine ⟨_,Zd (ZI (PW.pt (YJ (ZU (ZS (Zi Z8 rfl B.isi Zao (Za (pv 0) (Za (JI rfl B.str Zm8) Zc)))))
   (Yp (ZU (ZS (Zu G1 hr (Za (Zi Zp rfl B.len ZE (Za (pv 0) Zc)) Zc))))))) (Zg (Zn YX)) Zt)
  (Zg (Zn (Zi (YI rfl) rfl B.all ZeY (Za (Zx (Zf ZcF) ["thing"] ["sign"] [] rfl (ZnU (pv 0)) (fun _ _ _ _ _=>ZW 0) (fun _ _ _ _ _=>ZD)
   (fun _ _ _ _ _=>ZY ZdZ (pv 0) (Zbc (v:=.str _) rfl m3 ⟨_,rfl⟩) rfl)) Zc)))),⟨_,rfl,x,"str",n,rfl,by decide,ty,_,rfl,?_⟩⟩;cases hb:isiB n "str" with
 | false =>
  have e:ZK x=false:=by
   cases ty with
   | str z=>exact absurd hb (by decide)
   | _=>rfl
  exact Zca (Zca (e▸k H (Same.refl H)))
 | true =>
  cases ty with
  | str z =>
   have hz':=hz z rfl;refine Xw ⟨_,rfl,.str z,z.length,rfl,⟨hz',rfl⟩,.int z.length,"int",rfl,.int _,_,rfl,?_⟩;cases hl:YC (.int z.length)with
   | false =>
    refine Zca ?_;have e:ZK (.str z)=false:=by simp only[ZK,hl,Uz]
    exact e▸k H (Same.refl H)
   | true =>
    refine Xw ⟨.str z,rfl,z,rfl,Z3 z.cps.size _ (fun i v _=>v= .bl (Yu (z.cps.getD i 0))) hz' (fun _ _ _ _ _ r=>r) Zn6 ?_ ?_⟩
    ·intro i H1 Qe hi hs kq;exact ⟨_,rfl,_,_,rfl,rfl,kq _ _ (Same.refl _) (congrArg V.bl ((ZsY _ _).trans (ZfM _)))⟩
    ·intro D vs H' hlv hr hs hD hDl;have e2:(Qz z.cps.size).map (fun i=>Yu (z.cps.getD i 0))=z.cps.toList.map Yu:=by
      rw[←(congrArg (List.map Yu) (Zcd z.cps.toList))];simp
     refine⟨D,z.cps.toList.map Yu,rfl,SqL.of ?_,?_⟩
     ·rw[hDl,(Js hlv hr),←e2,QN];rfl
     ·have e3:ZK (.str z)=(z.cps.toList.map Yu).all id:=by
       simp only[ZK,hl,Ri,WK];rfl
      exact e3▸k H' hs
  | _=>exact absurd hb (by decide)
end
abbrev ZoV:Stmt:=top 47
abbrev Zfk:Stmt:=top 52
abbrev ZcA:Stmt:=top 53
structure ZrW (hp:List Pr):Prop where
 few:hp.length<=100000
 len:∀ p∈hp,p.1.length<=100000
 lo:∀ p∈hp,-1000<=p.2
 hi:∀ p∈hp,p.2<=1000
section
variable {P:Oc} {w:Of} {K:PySem.W.Frag} {mg:Str->Option Value} {base:Heap}
def Zgp:Sp:=fun vs H Q _=>∃ l:Int,vs=[.int l]/\Q (.int (300+1-l)) H
def ZqO:Zm ["long"] ["long"] (Zf ZoV):=⟨rfl,rfl,rfl,by simp,rfl,by decide +kernel,by decide +kernel⟩
def Zpk (D:HasDef K mg "most_pieces" ZoV ["long"]) (B:Blt mg):FOk P w K mg base 1 "most_pieces" ["long"] Zgp:=by
 refine D.ok ZqO (fun d H Q E h=>?_) fun f e A a s H d Q E g h=>?_;obtain⟨l,rfl,_⟩:=h;rfl;obtain⟨l,rfl,k⟩:=h;obtain⟨i,c⟩:=B.most;exact⟨_,Zg (Zn (Zv Xe (Zv Z7 (Zbc (v:=.int 300) rfl c ⟨_,rfl⟩) Zh) (pv 0))),⟨_,_,rfl,rfl,_,rfl,_,_,rfl,rfl,k⟩⟩
def Zgq:Sp:=fun vs H Q _=>∃ (v:V) (p:Pr) (hp:List Pr),vs=[v]/\HpAt H v (p::hp)/\ZrW (p::hp)/\Q (.int p.1.length) H
def ZlS:Zm ["H"] ["H"] (Zf Zfk):=⟨rfl,rfl,rfl,by simp,rfl,by decide +kernel,by decide +kernel⟩
def ZhK (D:HasDef K mg "long_of" Zfk ["H"]) (B:Blt mg):FOk P w K mg base 1 "long_of" ["H"] Zgq:=by
 refine D.ok ZlS (fun r H Q E h=>?_) fun f o A c s H r Q E t h=>?_;obtain⟨v,p,n,rfl,_⟩:=h;rfl;refine B0 ?_;intros;obtain⟨v,p,n,rfl,m,q,k⟩:=h;refine Pd m fun a e r0 i x d=>?_;subst r0;obtain⟨b,u,j⟩:=d 0 p rfl;have l:e[0]?=some (.ref b):=by
  simp_all
 exact⟨_,Zg (Zn (Zi Zp rfl B.len ZE (Za (Zw ix_tup (Zw ix_tup (pv 0) Zh fun _ _=>rfl) Zh fun _ _=>rfl) Zc))),⟨_,rfl,a,e,0,_,rfl,rfl,SqT.of i,Z5 l,b,_,0,_,rfl,rfl,SqT.of j,Z5 rfl,_,_,rfl,⟨Zs (QO (q.len p Qd) (by decide)),rfl⟩,k⟩⟩
def ZdF:∀ (ns:List Int) (m),ns.length<=m->(∀ n∈ns,-1000<=n/\n<=1000)->-(1000*m)<=ns.sum/\ns.sum<=1000*m
 | [],m,_,_=>by simp;lia
 | n::ns,0,h,_=>by simp at h
 | n::ns,m+1,h,a=>by
  have d:=ZdF ns m (by simp_all) fun x b=>a x (Qg _ b);have c:=a n Qd;rw[Qy];lia
def ZfY {ns:List Int} (h:ns.length<=100000) (a:∀ n∈ns,-1000<=n/\n<=1000) (k):Ox (ns.take k).sum:=by
 have d:=ZdF (ns.take k) 100000 (by rw[QH];exact S4 h) fun x b=>a x (Q9 b);unfold Ox;lia
def Zgo:Sp:=fun vs H Q _=>∃ (v:V) (hp:List Pr),vs=[v]/\HpAt H v hp/\ZrW hp/\∀ H',Same H H'->Q (.int (hp.map (·.2)).sum) H'
def ZlQ:Zm ["H"] ["H"] (Zf ZcA):=⟨rfl,rfl,rfl,by simp,rfl,by decide +kernel,by decide +kernel⟩
def ZhH (D:HasDef K mg "size_of" ZcA ["H"]) (B:Blt mg):FOk P w K mg base 1 "size_of" ["H"] Zgo:=by
 refine D.ok ZlQ (fun j H Q E h=>?_) (fun f cdv A outer s H j Q E hr h=>?_)
 obtain⟨v,d,rfl,_⟩:=h;rfl
 refine B0 ?_;intros;obtain⟨v,d,rfl,hA,hf,k⟩:=h;refine Pd hA fun a xs r0 ha hl hr'=>?_;subst r0;refine ⟨_,Zg (Zn (Zi (XL rfl) rfl B.sum Zf7 (Za (Zx (Zf ZcA) ["H"] ["pair"] [] rfl (Yb (pv 0)) (fun _ _ _ _ _=>ZW 0) (fun _ _ _ _ _=>ZD)
  (fun _ _ _ _ _=>Zw (Zbn K) (pv 0) Zh (fun _ _=>rfl))) Zc))),⟨_,rfl,a,rfl,⟨_,SqT.of ha⟩,Z3 xs.length _ (fun i v _=>v= .int ((d.map (·.2)).getD i 0)) (by exact hl▸Zs (QO hf.few (by decide))) (fun _ _ _ _ _ r=>r) (Xg (SqT.of ha)) ?_ ?_⟩⟩
 intro i H1 Qe hi hs kq;have c:i<d.length:=V6 hl hi
 obtain⟨b,eb,hb⟩:=hr' i d[i] (Qa c);refine⟨_,rfl,Ld b _ 1 (.int d[i].2) ⟨?_,rfl,SqT.of (hs _ _ hb),Z5 (i:=1) rfl,kq _ _ (Same.refl _) ?_⟩⟩
 omega
 rw[Qb,Qh,Qa c];rfl
 intro D j H' hlv hr hs hD hDl;have e2:j=(d.map (·.2)).map V.int:=by
  apply QI;intro i;by_cases hi:i<j.length
  rw[Qa hi,(hr i _ (Qa hi)),Qh,Qb];have c:i<(d.map (·.2)).length:=by rw[Qc];exact Sz hlv hi hl
  rw[Qa c];rfl
  rw[Qj (G7 hi),Qj (by rw[Qc,Qc];exact S0 hlv hl hi)]
 have hb:∀ n∈d.map (·.2),-1000<=n/\n<=1000:=fun n hn=>by
  obtain⟨p,e,rfl⟩:=Qk.mp hn;exact⟨hf.lo p e,hf.hi p e⟩
 refine⟨D,d.map (·.2),rfl,SqL.of (by rw[hDl,e2]),fun n hn=>?_,ZfY (by rw[Qc];exact hf.few) hb,k H' hs⟩;have:=hb n hn;unfold Ox;lia
end
abbrev Zjr:Stmt:=top 76
section
variable {P:Oc} {w:Of} {K:PySem.W.Frag} {mg:Str->Option Value} {base:Heap}
noncomputable def Zfy (p:Pr):PyData:=.tuple [.str p.1,.int p.2]
noncomputable def YO (hp:List Pr):PyData:=.tuple (hp.map Zfy)
def ZdP:∀ (a:List Pr) (xs),xs.length=a.length->(∀ i p,a[i]?=some p->PairAt H (xs.getD i .non) p)->RepA H (a.map Zfy) xs
 | [],xs,c,_=>by
  rw[WQ,RepA]
  simp_all
 | p::a,[],c,_=>by cases c
 | p::a,x::xs,c,h=>by
  obtain⟨b,d,f⟩:=h 0 p rfl;refine⟨x,xs,rfl,?_,ZdP a xs (by simp_all) fun i q e=>h (i+1) q e⟩;unfold Zfy;exact⟨b,_,d,f,⟨_,_,rfl,by rfl,⟨_,_,rfl,by rfl,by rfl⟩⟩⟩
def Yk (h:HpAt H v b):RepD H (YO b) v:=by
 have⟨a,c,e,d,f,r⟩:=h;unfold YO;exact⟨a,c,e,d,ZdP b c f r⟩
def Jr (hp:List Pr):Prop:=∀ p∈hp,PyData.strOk p.1=true
def Zes:∀ a,Jr a->PyData.canLayAll0 (a.map Zfy)=true
 | [],_=>by rfl
 | p::a,h=>by
  rw[Qp,PyData.canLayAll0,Zes a fun q b=>h q (Qg _ b)];simp[Zfy,PyData.canLay0,PyData.canLayAll0,h p Qd]
def Zbw:∀ a:List Pr,PyData.depthAll (a.map Zfy)<=1
 | []=>by simp[PyData.depthAll]
 | p::a=>by
  have h:=Zbw a;rw[Qp,PyData.depthAll];have b:PyData.depth (Zfy p)=1:=by rfl
  lia
def Zz (h:Jr a):SeqAt.shaped (YO a)=true:=by
 unfold SeqAt.shaped;rw[QW];constructor;exact Zes a h;refine decide_eq_true ?_;have h:=Zbw a;unfold YO;rw[PyData.depth];exact Bv h
def Znt:Sp:=fun vs H Q _=>∃ (v u:V) (hp:List Pr),vs=[v,u]/\HpAt H v hp/\HpAt H u hp/\hp.length<=100000/\Jr hp/\Q (.bl true) H
def scSame:Zm ["_law_found","_law_due","_law_pair"] ["_law_found","_law_due"] (Zf Zjr):=⟨rfl,rfl,rfl,by decide +kernel,rfl,by decide +kernel,by decide +kernel⟩
def Zj3 (D:HasDef K mg "_law_same_heap" Zjr ["_law_found","_law_due"]) (B:Blt mg) (G1:FOk P w K mg base 1 "_law_whole" ["_law_found"] Jh):FOk P w K mg base 2 "_law_same_heap" ["_law_found","_law_due"] Znt:=by
 refine D.ok scSame (fun vs H Q E h=>?_) (fun f cdv A outer s H vs Q E hr h=>?_)
 obtain⟨v,u,hp,rfl,_⟩:=h;rfl
 refine B0 ?_;intros;obtain⟨v,u,hp,rfl,hA,hB,hfew,hc,k⟩:=h;refine B0 ?_;intros;refine Pd (id hA) fun a xs r0 ha hl hr'=>?_;subst r0;refine B0 ?_;intros;refine Pd (id hB) fun b ys r0 hb hl2 _=>?_;subst r0;refine ⟨_,Zd (ZI (PW.pt (YJ (ZU (ZS (Zi Z8 rfl B.isi Zao (Za (pv 0) (Za (JI rfl B.tuple Yc) Zc)))))
   (Yp (Zq X7 (Zi Zp rfl B.len ZE (Za (pv 0) Zc)) (Zi Zp rfl B.len ZE (Za (pv 1) Zc)) (Zr _))))) (Zg (Zn YX)) Zt)
  (Zd (Yh PassesOwn.never rfl (Yb (pv 0)) (ZG (i:=2) scSame.nd rfl (.inl rfl))
   (Zg (ZI (PW.pt (YJ (ZU (ZS (Zi Z8 rfl B.isi Zao (Za (pv 2) (Za (JI rfl B.tuple Yc) Zc)))))
    (YJ (Zq X7 (Zi Zp rfl B.len ZE (Za (pv 2) Zc)) Zh (Zr _))
    (YJ (ZU (ZS (Zi Z8 rfl B.isi Zao (Za (Zw ix_tup (pv 2) Zh (fun _ _=>rfl)) (Za (JI rfl B.str Zm8) Zc)))))
    (Yp (ZU (ZS (Zu G1 hr (Za (Zw ix_tup (pv 2) Zh (fun _ _=>rfl)) Zc))))))))) (Zg (Zn YX)) Zt)))
  (Zg (Zn (ZY (ZgK hr.units) (pv 0) (pv 1) (Zr _))))),⟨_,rfl,.ref a,"tuple","tuple",rfl,by decide,.tup ha,_,rfl,Xw ⟨_,rfl,.ref a,_,rfl,.inr ⟨_,SqT.of ha,rfl⟩,_,rfl,.ref b,_,rfl,.inr ⟨_,SqT.of hb,rfl⟩,rfl,_,rfl,Zrx ?_ ?_⟩⟩⟩
 rw[hl,hl2]
 refine⟨_,rfl,a,rfl,⟨_,SqT.of ha⟩,Y9 (K:=K) (a:=a) (xs:=xs) (fun i σ H2=>(∃ z:Option V,σ=[some (.ref a),some (.ref b),z])/\H2=H) ⟨⟨none,rfl⟩,rfl⟩ (fun i σ H2 _ ⟨_,e⟩=>by exact e▸SqT.of ha) ?_ ?_⟩
 rintro i x σ H2 hi ⟨⟨z,rfl⟩,rfl⟩;have hi':i<hp.length:=by
  have:=(Qo.mp hi).1;exact V6 hl this
 refine Pe (hr' i _ (Qa hi')) fun c ec hcc=>?_;have ex:x= .ref c:=by
  simp_all
 subst ex;exact ⟨_,rfl,Lb (.ref c) ("tuple") ("tuple") ⟨rfl,by decide,.tup hcc,_,rfl,Xw ⟨_,rfl,.ref c,2,rfl,.inr ⟨_,SqT.of hcc,rfl⟩,rfl,_,rfl,Xw ⟨_,rfl,c,_,0,_,rfl,rfl,SqT.of hcc,Z5 (i:=0) rfl,_,"str","str",rfl,by decide,.str _,_,rfl,Xw ⟨_,rfl,c,_,1,_,rfl,rfl,SqT.of hcc,Z5 (i:=1) rfl,_,"int",rfl,.int _,_,rfl,Xw ⟨⟨_,rfl⟩,rfl⟩⟩⟩⟩⟩⟩
 rintro σ H2 ⟨⟨z,rfl⟩,rfl⟩;refine⟨_,rfl,_,rfl,YO hp,YO hp,Yk hA,Yk hB,Zz hc,Zz hc,?_⟩;have e:PyData.eqv (YO hp) (YO hp)=true:=SeqAt.eqv_refl _ (SeqAt.canLay_of_shaped (Zz hc));rw[e];omega
end
structure IsHp (hp:List Pr) (L:Nat):Prop where
 ne:hp≠[]
 lo:1<=L
 hi:L<=300
 len:∀ p∈hp,p.1.length=L
 sg:∀ p∈hp,p.1.cps.toList.all Yu=true
 pos:∀ p∈hp,1<=p.2
 srt:(hp.map fun p=>p.1.cps.toList).Pairwise (· < ·)
 sum:(hp.map (·.2)).sum+L<=301
def Zag:∀ a:List Pr,(∀ p∈a,1<=p.2)->a.length<=(a.map (·.2)).sum
 | [],_=>by simp
 | p::r,h=>by
  have e:=Zag r fun q b=>h q (Qg _ b);have d:=h p Qd;rw[Qp,Qy,QC];lia
def Zn3:∀ a:List Pr,(∀ p∈a,1<=p.2)->∀ p∈a,p.2<=(a.map (·.2)).sum
 | [],_,p,a=>by cases a
 | q::r,h,p,a=>by
  have g:=h q Qd;have f:=Zag r fun z b=>h z (Qg _ b);rw[Qp,Qy];rcases Qx.mp a with e | e
  subst e;lia;have d:=Zn3 r (fun z b=>h z (Qg _ b)) p e;lia
section
variable {hp:List Pr} {L:Nat}
def IsHp.few (h:IsHp hp L):hp.length<=300:=by
 have d:=Zag hp h.pos;have c:=h.sum;have b:=h.lo;lia
def IsHp.many (h:IsHp hp L):∀ p∈hp,p.2<=300:=fun p m=>by
 have d:=Zn3 hp h.pos p m;have c:=h.sum;have b:=h.lo;lia
def IsHp.fits (h:IsHp hp L):ZrW hp:=by
 have h1:=h.few;have h3:=h.hi;refine⟨by omega,fun p m=>?_,fun p m=>?_,fun p m=>?_⟩;have:=h.len p m;omega;have:=h.pos p m;omega;have:=h.many p m;omega
def Zei (h:Yu c=true):97<=c/\c<=122:=by
 simp[Yu,QW,decide_eq_true_eq]at h;exact h
end
section
variable {P:Oc} {w:Of} {K:PySem.W.Frag} {mg:Str->Option Value} {base:Heap}
end
end Sh
namespace L2
open PySem PySem.Spec PyProof.Rows
end L2
namespace Sh
open PySem L2 PyProof.Rows
seal L2.PE L2.PS L2.PSs L2.PT L2.PW L2.PA L2.PI L2.PG L2.PGs L2.PO L2.PC L2.PCs L2.OpR L2.UnR L2.CallR L2.MtR L2.IxR L2.SlR
section
variable {P:Oc} {w:Of} {K:PySem.W.Frag} {mg:Str->Option Value} {base:Heap}
end
end Sh
namespace L2
open PySem PySem.Spec PyProof.Rows
end L2
namespace Sh
open PySem L2 PyProof.Rows
seal L2.PE L2.PS L2.PSs L2.PT L2.PW L2.PA L2.PI L2.PG L2.PGs L2.PO L2.PC L2.PCs L2.OpR L2.UnR L2.CallR L2.MtR L2.IxR L2.SlR
section
variable {P:Oc} {w:Of} {K:PySem.W.Frag} {mg:Str->Option Value} {base:Heap}
end
end Sh
namespace L2
open PySem PySem.Spec PyProof.Rows
end L2
namespace Sh
open PySem L2 PyProof.Rows
seal L2.PE L2.PS L2.PSs L2.PT L2.PW L2.PA L2.PI L2.PG L2.PGs L2.PO L2.PC L2.PCs L2.OpR L2.UnR L2.CallR L2.MtR L2.IxR L2.SlR
abbrev Zfq:Stmt:=top 54
abbrev ZcI:Stmt:=top 55
section
variable {P:Oc} {w:Of} {K:PySem.W.Frag} {mg:Str->Option Value} {base:Heap}
abbrev Zpu:List Str:=["manys"]
def ZlX:Zm Zpu ["manys"] (Zf Zfq):=⟨rfl,rfl,rfl,by simp,rfl,by decide +kernel,by decide +kernel⟩
def ZiW:Sp:=fun vs H Q _=>∃ (d:Addr) (ks:List Str) (g:Str->Int),vs=[.ref d]/\H d=some (.dK (ks.map fun x=>((Sum.inr x:Key),V.int (g x))))/\ks.Nodup/\ks.length<64 /\
 ∀ v H' (ss:List Str),Same H H'->ss.Perm ks->(ss.map fun x=>x.cps.toList).Pairwise (· < ·)->HpAt H' v (ss.map fun x=>(x,g x))->Q v H'
def ZhT (D:HasDef K mg "in_rows" Zfq ["manys"]) (B:Blt mg):FOk P w K mg base 1 "in_rows" ["manys"] ZiW:=by
 refine D.ok ZlX (fun m H Q E h=>?_) fun f M A n s H m Q E S h=>?_;obtain⟨d,y,g,rfl,_⟩:=h;rfl;refine B0 ?_;intros;obtain⟨d,y,g,rfl,F,N,u,k⟩:=h;refine⟨_,Zg (Zn (ZB ZJ rfl B.tuple Yc (Za (Zi (XN rfl) rfl B.sorted Xq (Za (ZcO (pv 0)) Zc)) Zc))),⟨_,rfl,d,_,rfl,F,fun p v=>⟨p,d,y,_,rfl,Ze,Zb v _ _ F,N,u,fun I R m C t a j r O G=>⟨I,m,rfl,.inl ⟨SqL.of r,fun l c=>(k _ _ C (((Zb v).trans t).trans (Zb c)) a j ⟨l,m,rfl,Ze,by rw[Qc];exact O,fun i q e=>?_⟩)⟩⟩⟩⟩⟩;rw[Qh]at e;cases o:C[i]? with
 | none=>rw[o]at e;cases e
 | some x =>
  rw[o]at e;cases e;obtain⟨b,L,J⟩:=G i x o;rw[Qb,L];exact⟨b,rfl,Zb c _ _ J⟩
abbrev Zmz:List Str:=["pieces","manys","piece"]
def scCounted:Zm Zmz ["pieces"] (Zf ZcI):=⟨rfl,rfl,rfl,by decide +kernel,rfl,by decide +kernel,by decide +kernel⟩
end
def ZaM (a:ZN ps g) (b:ZN ps j):g=j:=by
 have f:∀ (h:List Pr),ZN ps h->∀ x,x∈(h.map _)↔∃ z∈ps,z.cps.toList=x:=fun h o x=>by
  constructor;intro q;obtain⟨p,k,e⟩:=Qk.mp q;exact⟨p.1,(o.mem p.1).mp (Qk.mpr ⟨p,k,rfl⟩),e⟩;rintro⟨z,w,e⟩;obtain⟨p,k,m⟩:=Qk.mp ((o.mem z).mpr w);exact Qk.mpr ⟨p,k,by simp_all⟩
 have e:=JZ a.srt b.srt fun x=>(f g a x).trans (f j b x).symm;have s:=by have:=congrArg RE e;simpa using this
 apply UZ s;intro i d c;have t:g[i].1.cps.toList=j[i].1.cps.toList:=by
  have:=congrArg (fun l=>l[i]?) e;simpa[d,c]using this
 have m:=ZX t;have u:g[i].2=j[i].2:=by rw[a.cnt _ (QA d),b.cnt _ (QA c),m]
 exact Prod.ext m u
section
variable {P:Oc} {w:Of} {K:PySem.W.Frag} {mg:Str->Option Value} {base:Heap}
def Zhm {vs ys:List V} (e:vs.length=ys.length) (c:∀ (i) (v),vs[i]?=some v->v=V.bl (g (ys.getD i .non))):vs=(ys.map g).map V.bl:=by
 apply QI;intro i;by_cases b:i<vs.length
 have a:i<ys.length:=V6 e b
 rw[Qa b,c i _ (Qa b),Qh,Qh,Qb,Qa a];rfl;rw[Qj (G7 b),Qj (by rw[Qc,Qc];exact Np e b)]
inductive DeedV (H:Hp):V->Option (List V)->Prop where
 | no {x:V} {n:String} (t:TyB H x n) (h:n≠"tuple"):DeedV H x none
 | tup {a:Addr} {xs:List V} (e:H a=some (.tup xs)) (ht:∀ y∈xs,∃ n,TyB H y n):DeedV H (.ref a) (some xs)
end
end Sh
namespace L2
end L2
namespace Sh
open PySem L2 PyProof.Rows
seal L2.PE L2.PS L2.PSs L2.PT L2.PW L2.PA L2.PI L2.PG L2.PGs L2.PO L2.PC L2.PCs L2.OpR L2.UnR L2.CallR L2.MtR L2.IxR L2.SlR
section
variable {P:Oc} {w:Of} {K:PySem.W.Frag} {mg:Str->Option Value} {base:Heap}
end
section
variable {hp:List Pr} {L:Nat}
end
section
variable {P:Oc} {w:Of} {K:PySem.W.Frag} {mg:Str->Option Value} {base:Heap}
end
section
variable {P:Oc} {w:Of} {K:PySem.W.Frag} {mg:Str->Option Value} {base:Heap}
end
section
variable {P:Oc} {w:Of} {K:PySem.W.Frag} {mg:Str->Option Value} {base:Heap}
end
def Zmf (b:List Nat) (h:b.length<=1000):(((b.map fun c=>tx [c]).map fun x=>x.length).sum)+(b.map fun c=>tx [c]).length*("" : Str).length<=16777216:=by
 have g:("" : Str).length=0:=rfl;have f:((b.map _).map _).sum<=(b.map fun c=>tx [c]).length*1:=JX _ 1 fun y i=>by
  obtain⟨c,_,rfl⟩:=Qk.mp i;rw[ZZ];simp
 rw[g];rw[Qc]at f;lia
section
variable {P:Oc} {w:Of} {K:PySem.W.Frag} {mg:Str->Option Value} {base:Heap}
end
abbrev Ye:Stmt:=top 48
abbrev ZaI:Stmt:=top 49
abbrev Zfo:Stmt:=top 50
abbrev Za7:Stmt:=top 51
section
variable {P:Oc} {w:Of} {K:PySem.W.Frag} {mg:Str->Option Value} {base:Heap}
def Znw:Sp:=fun vs H Q _=>∃ (v:V) (p:Pr),vs=[v]/\PairAt H v p/\Q (.bl (decide (1<=p.2))) H
def ZlV:Zm ["thing"] ["thing"] (Zf Zfo):=⟨rfl,rfl,rfl,by simp,rfl,by decide +kernel,by decide +kernel⟩
def ZhQ (D:HasDef K mg "is_pair" Zfo ["thing"]) (B:Blt mg) (i:FOk P w K mg base 1 "is_whole" ["thing"] Jh):FOk P w K mg base 2 "is_pair" ["thing"] Znw:=by
 refine D.ok ZlV (fun j H Q E h=>?_) fun f e A c s H j Q E g h=>?_
 obtain⟨v,p,rfl,_⟩:=h;rfl
 refine B0 ?_;intros;obtain⟨v,p,rfl,⟨b,rfl,a⟩,k⟩:=h;exact⟨_,Zd (ZI (PW.pt (YJ (ZU (ZS (Zi Z8 rfl B.isi Zao (Za (pv 0) (Za (JI rfl B.tuple Yc) Zc)))))
   (Yp (Zq X7 (Zi Zp rfl B.len ZE (Za (pv 0) Zc)) Zh (Zr _))))) (Zg (Zn YX)) Zt)
  (Zg (Zn (JJ (Zu i g (Za (Zw ix_tup (pv 0) Zh fun _ _=>rfl) Zc)) (Zas (ZY Zsw (Zw ix_tup (pv 0) Zh fun _ _=>rfl) Zh (Zr _)))))),⟨_,rfl,_,_,_,rfl,by decide,.tup a,_,rfl,(Xw ⟨_,rfl,_,2,rfl,.inr ⟨_,SqT.of a,rfl⟩,rfl,_,rfl,(Xw ⟨_,rfl,b,_,1,_,rfl,rfl,SqT.of a,Z5 rfl,_,_,rfl,.int _,_,rfl,(Zca ⟨_,rfl,b,_,1,_,rfl,rfl,SqT.of a,Z5 rfl,_,_,rfl,rfl,k⟩)⟩)⟩)⟩⟩
noncomputable def Zon (ss:List Str):Bool:=!ss.isEmpty&&ss.all (fun x=>ZK (.str x))&&ss.all (fun x=>decide (x.length=(ss.headD ("" : Str)).length))
def ZnI (K:PySem.W.Frag):Sp:=fun vs H Q _=>∃ (a:Addr) (ss:List Str),vs=[.ref a]/\SqL K H a (ss.map V.str)/\ss.length<=100000/\(∀ x∈ss,x.length<=100000)/\∀ H',Same H H'->Q (.bl (Zon ss)) H'
def ZqR:Zm ["things"] ["things"] (Zf Ye):=⟨rfl,rfl,rfl,by simp,rfl,by decide +kernel,by decide +kernel⟩
def ZeS {ss:List Str} (hl:vs.length=(ss.map V.str).length) (hr:∀ (i:Nat) (v),vs[i]?=some v->∀ x,ss[i]?=some x->v=V.bl (g x)):vs=(ss.map g).map V.bl:=by
 rw[Qc]at hl;apply QI;intro i;by_cases hi:i<vs.length
 have hi':i<ss.length:=V6 hl hi
 rw[Qa hi,(hr i _ (Qa hi) _ (Qa hi')),Qh,Qh,Qa hi'];rfl;rw[Qj (G7 hi),Qj (by rw[Qc,Qc];exact Np hl hi)]
def ZcU (D:HasDef K mg "are_pieces" Ye ["things"]) (B:Blt mg) (G1:FOk P w K mg base 3 "is_text" ["thing"] Zgn):FOk P w K mg base 4 "are_pieces" ["things"] (ZnI K):=by
 refine D.ok ZqR (fun vs H Q E h=>?_) (fun f cdv A outer s H vs Q E hr h=>?_)
 obtain⟨a,ss,rfl,_⟩:=h;rfl
 refine B0 ?_;intros;obtain⟨a,ss,rfl,ha,hfew,hlen,k⟩:=h;have hz:(ss.map V.str).length<=sizeLine:=by rw[Qc];exact Zs (QO hfew (by decide))
 refine ⟨_,Zd (ZI (PW.pt (YJ (Zq YF (Zi Zp rfl B.len ZE (Za (pv 0) Zc)) Zh (Zr _))
   (Yp (ZU (ZS (Zi (YI rfl) rfl B.all ZeY (Za (Zx (Zf Ye) ["things"] ["thing"] [] rfl (ZQ (pv 0)) (fun _ _ _ _ _=>ZW 0) (fun _ _ _ _ _=>ZD)
    (fun _ _ _ _ _=>Zu G1 hr (Za (pv 0) Zc))) Zc))))))) (Zg (Zn YX)) Zt)
  (Zg (Zn (Zi (YI rfl) rfl B.all ZeY (Za (Zx (Zf Ye) ["things"] ["piece"] [0] rfl (ZQ (pv 0)) (fun _ _ _ _ _=>ZW 0) (fun _ _ _ _ _=>ZD)
   (fun _ _ _ _ _=>ZY YF (Zi (JU K) rfl B.len ZE (Za (pv 0) Zc)) (Zi (JU K) rfl B.len ZE (Za (Zw (Y6 K) (pv 1) Zh (fun _ _=>rfl)) Zc)) (Zr _))) Zc)))),⟨_,rfl,.ref a,_,rfl,.inl ⟨_,ha,rfl⟩,rfl,_,rfl,?_⟩⟩;cases ss with
 | nil=>exact Zca (Zca (k H (Same.refl H)))
 | cons s0 sr =>
  refine Zrw ?_ ?_
  rw[Qc];intro q;cases q
  refine⟨_,rfl,a,rfl,⟨_,ha⟩,Z3 _ (fun i=>((s0::sr).map V.str).getD i .non) (fun i v _=>∀ x,(s0::sr)[i]?=some x->v= .bl (ZK (.str x))) hz (fun _ _ _ _ _ r=>r) (Yi ha) ?_ ?_⟩
  intro i H1 Qe hi hs kq;have hi':i<(s0::sr).length:=by rw[Qc]at hi;exact hi
  refine⟨_,rfl,_,"str",rfl,?_,?_,fun H6 hs6=>kq _ _ hs6 ?_⟩
  exact XU hi'▸.str _
  intro z e;rw[XU hi']at e;cases e;exact Zs (QO (hlen _ (QA hi')) (by decide))
  intro x e;rw[XU hi'];rw[Qa hi']at e;cases e;rfl
  intro D1 vs H1 hlv hr1 hs1 hD1 hDl1;refine⟨D1,(s0::sr).map fun x=>ZK (.str x),rfl,SqL.of (by rw[hDl1,ZeS (g:=fun x=>ZK (.str x)) hlv hr1]),_,rfl,?_⟩;cases ht:((s0::sr).map fun x=>ZK (.str x)).all id with
  | false =>
   refine Zca ?_;have e:Zon (s0::sr)=false:=by
    rw[WK]at ht;have ht':(s0::sr).all (fun x=>ZK (.str x))=false:=ht;simp only[Zon,ht',UA,Uz]
   exact e▸k H1 hs1
  | true =>
   refine Xw ?_;have ha1:=hs1.seq ha;refine⟨_,rfl,a,rfl,⟨_,ha1⟩,Z3 _ (fun i=>((s0::sr).map V.str).getD i .non) (fun i v _=>∀ x,(s0::sr)[i]?=some x->v= .bl (decide (x.length=s0.length))) hz (fun _ _ _ _ _ r=>r) (Yi ha1) ?_ ?_⟩
   intro i H2 Qe hi hs kq;have hi':i<(s0::sr).length:=by rw[Qc]at hi;exact hi
   have s1:((s0::sr)[i]).length<=sizeLine:=Zs (QO (hlen _ (QA hi')) (by decide));have s2:s0.length<=sizeLine:=Zs (QO (hlen _ Qd) (by decide));refine⟨_,rfl,.str (s0::sr)[i],_,?_,⟨s1,rfl⟩,_,rfl,Ld a _ 0 (.str s0) ⟨rfl,rfl,hs.seq ha1,Z5 (i:=0) rfl,.str s0,_,rfl,⟨s2,rfl⟩,rfl,kq _ _ (Same.refl _) ?_⟩⟩
   rw[XU hi']
   intro x e;rw[Qa hi']at e;cases e;refine congrArg V.bl ?_;rw[decide_eq_decide];constructor
   ·intro q;injection q with q
    exact Td q
   ·intro q;rw[q]
   intro D2 vs2 H2 hlv2 hr2 hs2 hD2 hDl2;refine⟨D2,(s0::sr).map fun x=>decide (x.length=s0.length),rfl,SqL.of (by rw[hDl2,ZeS (g:=fun x=>decide (x.length=s0.length)) hlv2 hr2]),?_⟩;have e:Zon (s0::sr)=((s0::sr).map fun x=>decide (x.length=s0.length)).all id:=by
    rw[WK]at ht;have ht':(s0::sr).all (fun x=>ZK (.str x))=true:=ht;simp only[Zon,ht',Vd,VB,Ri,WK];rfl
   exact e▸k H2 (hs1.trans hs2)
noncomputable def Zsv (ss:List Str):Bool:=(Qz (ss.length-1)).all fun i=>decide ((ss.getD i "").cps.toList<(ss.getD (i+1) "").cps.toList)
def Zny (K:PySem.W.Frag):Sp:=fun vs H Q _=>∃ (a:Addr) (ss:List Str),vs=[.ref a]/\SqL K H a (ss.map V.str)/\ss.length<=100000/\∀ H',Same H H'->Q (.bl (Zsv ss)) H'
def Zsj:Zm ["pieces"] ["pieces"] (Zf ZaI):=⟨rfl,rfl,rfl,by simp,rfl,by decide +kernel,by decide +kernel⟩
def strs_at {ss:List Str} (h:i<ss.length):(ss.map V.str)[i]?=some (.str (ss.getD i "")):=by
 rw[Qh,Qb,Qa h];rfl
def ZfI (D:HasDef K mg "are_in_order" ZaI ["pieces"]) (B:Blt mg):FOk P w K mg base 1 "are_in_order" ["pieces"] (Zny K):=by
 refine D.ok Zsj (fun vs H Q E h=>?_) (fun f cdv A outer s H vs Q E hr h=>?_)
 obtain⟨a,ss,rfl,_⟩:=h;rfl
 refine B0 ?_;intros;obtain⟨a,ss,rfl,ha,hfew,k⟩:=h;refine ⟨_,Zg (Zn (Zi (YI rfl) rfl B.all ZeY (Za (Zx (Zf ZaI) ["pieces"] ["place"] [0] rfl
  (YV rfl B.range (Za (Zv Xe (Zi Zp rfl B.len ZE (Za (pv 0) Zc)) Zh) Zc)) (fun _ _ _ _ _=>ZW 0) (fun _ _ _ _ _=>ZD)
  (fun _ _ _ _ _=>ZY ZjY (Zw (Y6 K) (pv 1) (pv 0) (fun _ _=>rfl)) (Zw (Y6 K) (pv 1) (Zv Z7 (pv 0) Zh) (fun _ _=>rfl)) (Zr _))) Zc))),⟨_,rfl,.ref a,ss.length,rfl,.inl ⟨_,ha,by simp⟩,_,_,rfl,rfl,_,rfl,by omega,by omega,Z3 (ss.length-1) (fun i=>.int (0+i)) (fun i v _=>v= .bl (decide ((ss.getD i "").cps.toList<(ss.getD (i+1) "").cps.toList))) (Zs (by omega)) (fun _ _ _ _ _ r=>r) ?_ ?_ ?_⟩⟩
 exact show((ss.length:Int)-1).toNat=ss.length-1 by omega▸Zc6
 intro i H1 Qe hi hs kq;have ha1:=hs.seq ha;refine⟨_,rfl,_,rfl,Ld a _ (0+(i:Int)) (.str (ss.getD i "")) ⟨rfl,rfl,ha1,?_,_,rfl,_,rfl,_,_,rfl,rfl,Ld a _ _ _ ⟨rfl,rfl,ha1,?_,_,_,rfl,rfl,kq _ _ (Same.refl _) rfl⟩⟩⟩
 ·rw[Uy];exact Z5 (strs_at (by omega))
 ·rw[Uy];exact Z5 (i:=i+1) (strs_at (by omega))
 intro D1 vs H1 hlv hr1 hs1 hD1 hDl1;refine⟨D1,_,rfl,SqL.of (by rw[hDl1,(Js hlv hr1),QN];rfl),?_⟩;exact WK▸k H1 hs1
noncomputable def Zaz (hp:List Pr):Bool:=hp.all (fun p=>decide (1<=p.2))&&Zon (hp.map (·.1))&&Zsv (hp.map (·.1))&&decide ((hp.map (·.2)).sum<=300+1-((hp.map (·.1)).headD ("" : Str)).length)
def Zgr:Sp:=fun vs H Q _=>∃ (v:V) (hp:List Pr),vs=[v]/\HpAt H v hp/\ZrW hp/\∀ H',Same H H'->Q (.bl (Zaz hp)) H'
def scIsHeap:Zm ["thing","pieces"] ["thing"] (Zf Za7):=⟨rfl,rfl,rfl,by decide +kernel,rfl,by decide +kernel,by decide +kernel⟩
def ZhS (D:HasDef K mg "is_heap" Za7 ["thing"]) (B:Blt mg) (G1:FOk P w K mg base 4 "is_pair" ["thing"] Znw) (G2:FOk P w K mg base 4 "are_pieces" ["things"] (ZnI K)) (G3:FOk P w K mg base 4 "are_in_order" ["pieces"] (Zny K))
  (G4:FOk P w K mg base 4 "size_of" ["H"] Zgo) (G5:FOk P w K mg base 4 "most_pieces" ["long"] Zgp) (G6:FOk P w K mg base 4 "long_of" ["H"] Zgq):FOk P w K mg base 5 "is_heap" ["thing"] Zgr:=by
 refine D.ok scIsHeap (fun vs H Q E h=>?_) (fun f cdv A outer s H vs Q E hr h=>?_)
 ·obtain⟨v,hp,rfl,_⟩:=h;rfl
 ·refine B0 ?_;intros;obtain⟨v,hp,rfl,hA,hf,k⟩:=h;obtain⟨a,xs,rfl,ha,hl,hr'⟩:=id hA;have hz:xs.length<=sizeLine:=by exact hl▸Zs (QO hf.few (by decide))
  refine⟨_,Zd (ZI (PW.pt (YJ (ZU (ZS (Zi Z8 rfl B.isi Zao (Za (pv 0) (Za (JI rfl B.tuple Yc) Zc)))))
    (Yp (ZU (ZS (Zi (YI rfl) rfl B.all ZeY (Za (Zx (Zf Za7) ["thing","pieces"] ["pair"] [] rfl (Yb (pv 0)) (fun _ _ _ _ _=>ZW 0) (fun _ _ _ _ _=>ZD)
     (fun _ _ _ _ _=>Zu G1 hr (Za (pv 0) Zc))) Zc))))))) (Zg (Zn YX)) Zt)
   (Zd (Xk (i:=1) (Zf Za7) ["thing","pieces"] ["pair"] [] scIsHeap.nd rfl (.inl rfl) rfl (Yb (pv 0)) (fun _ _ _ _ _=>ZW 0) (fun _ _ _ _ _=>ZD)
    (fun _ _ _ _ _=>Zw (Zbn K) (pv 0) Zh (fun _ _=>rfl)))
   (Zd (ZI (PW.pt (YJ (ZU (ZS (Zu G2 hr (Za (pv 1) Zc)))) (Yp (ZU (ZS (Zu G3 hr (Za (pv 1) Zc))))))) (Zg (Zn YX)) Zt)
   (Zg (Zn (ZY Zpi (Zu G4 hr (Za (pv 0) Zc)) (Zu G5 hr (Za (Zu G6 hr (Za (pv 0) Zc)) Zc)) (Zr _)))))),?_⟩
  apply B4;intros;refine⟨_,rfl,.ref a,"tuple","tuple",rfl,by decide,.tup ha,_,rfl,?_⟩;refine Xw ?_;refine⟨_,rfl,a,rfl,⟨_,SqT.of ha⟩,Z3 xs.length (fun i=>xs.getD i .non) (fun i v _=>∀ p,hp[i]?=some p->v= .bl (decide (1<=p.2))) hz (fun _ _ _ _ _ r=>r) (Xg (SqT.of ha)) ?_ ?_⟩
  ·intro i H1 Qe hi hs kq;have hi':i<hp.length:=V6 hl hi
   refine⟨_,rfl,_,hp[i],rfl,(hr' i _ (Qa hi')).same hs.tup,kq _ _ (Same.refl _) ?_⟩;intro p e;rw[Qa hi']at e;cases e;rfl
  ·intro D1 vs1 H1 hlv1 hr1 hs1 hD1 hDl1;have e1:vs1=(hp.map fun p=>decide (1<=p.2)).map V.bl:=by
    apply QI;intro i;by_cases hi:i<vs1.length
    ·have hi':i<hp.length:=Sz hlv1 hi hl
     have h1:=hr1 i _ (Qa hi) _ (Qa hi');rw[Qa hi,h1,Qh,Qh,Qa hi'];rfl
    ·rw[Qj (G7 hi),Qj (by rw[Qc,Qc];exact S0 hlv1 hl hi)]
   refine⟨D1,hp.map fun p=>decide (1<=p.2),rfl,SqL.of (by rw[hDl1,e1]),_,rfl,?_⟩;cases h1:(hp.map fun p=>decide (1<=p.2)).all id with
   | false =>
    refine Zca ?_;have e:Zaz hp=false:=by
     rw[WK]at h1;have h1':hp.all (fun p=>decide (1<=p.2))=false:=h1;simp only[Zaz,h1',Uz]
    exact e▸k H1 hs1
   | true =>
    have h1':hp.all (fun p=>decide (1<=p.2))=true:=by
     rw[WK]at h1
     grind
    refine Xw ?_;have ha1:=hs1 _ _ ha;refine⟨_,rfl,a,rfl,⟨_,SqT.of ha1⟩,Z3 xs.length (fun i=>xs.getD i .non) (fun i v _=>∀ p,hp[i]?=some p->v= .str p.1) hz (fun _ _ _ _ _ r=>r) (Xg (SqT.of ha1)) ?_ ?_⟩
    ·intro i H2 Qe hi hs kq;have hi':i<hp.length:=V6 hl hi
     obtain⟨b,eb,hb⟩:=hr' i _ (Qa hi');refine⟨_,rfl,b,_,0,.str hp[i].1,eb,rfl,SqT.of (hs _ _ (hs1 _ _ hb)),Z5 (i:=0) rfl,kq _ _ (Same.refl _) ?_⟩;intro p e;rw[Qa hi']at e;cases e;rfl
    ·intro D2 vs2 H2 hlv2 hr2 hs2 hD2 hDl2;have e2:vs2=(hp.map (·.1)).map V.str:=by
      apply QI;intro i;by_cases hi:i<vs2.length
      ·have hi':i<hp.length:=Sz hlv2 hi hl
       rw[Qa hi,(hr2 i _ (Qa hi) _ (Qa hi')),Qh,Qh,Qa hi'];rfl
      ·rw[Qj (G7 hi),Qj (by rw[Qc,Qc];exact S0 hlv2 hl hi)]
     have hDl:H2 D2=some (.lst ((hp.map (·.1)).map V.str)):=by rw[hDl2,e2]
     have hs12:=hs1.trans hs2;refine⟨_,rfl,D2,hp.map (·.1),rfl,SqL.of hDl,by rw[Qc];exact hf.few,fun x hx=>?_,fun H3 hs3=>⟨_,rfl,?_⟩⟩
     ·obtain⟨p,hp',rfl⟩:=Qk.mp hx;exact hf.len p hp'
     cases h2:Zon (hp.map (·.1))with
     | false =>
      refine Zca (Zca ?_);have e:Zaz hp=false:=by simp only[Zaz,h1',h2,UA,Uz]
      exact e▸k H3 (hs12.trans hs3)
     | true =>
      refine Xw ?_;refine⟨_,rfl,D2,hp.map (·.1),rfl,SqL.of (hs3 _ _ hDl),by rw[Qc];exact hf.few,fun H4 hs4=>⟨_,rfl,?_⟩⟩;have hs14:=(hs12.trans hs3).trans hs4;cases h3:Zsv (hp.map (·.1))with
      | false =>
       refine Zca ?_;have e:Zaz hp=false:=by simp only[Zaz,h1',h2,h3,UA,Uz]
       exact e▸k H4 hs14
      | true =>
       refine Xw ?_;cases hp with
       | nil=>exact absurd h2 (by decide)
       | cons p0 pr =>
        refine⟨_,rfl,_,_,rfl,hA.same hs14.tup,hf,fun H5 hs5=>⟨_,rfl,_,p0,pr,rfl,hA.same (hs14.trans hs5).tup,hf,_,rfl,_,_,rfl,rfl,?_⟩⟩;have e:Zaz (p0::pr)=decide (((p0::pr).map (·.2)).sum<=300+1-(p0.1.length:Int)):=by
         simp only[Zaz,h1',h2,h3,Ri];rfl
        show Q (.bl (decide (((p0::pr).map (·.2)).sum<=300+1-(p0.1.length:Int)))) H5;exact e▸k H5 (hs14.trans hs5)
end
section
variable {hp:List Pr} {L:Nat}
def IsHp.text (h:IsHp hp L):∀ p∈hp,ZK (.str p.1)=true:=fun p m=>by
 have d:=h.len p m;have c:=h.lo;have b:=h.hi;simp[ZK,YC,h.sg p m,VH,QW,decide_eq_true_eq];lia
def IsHp.isB (h:IsHp hp L):Zaz hp=true:=by
 have hd:((hp.map (·.1)).headD ("" : Str)).length=L:=by
  cases hp with
  | nil=>exact absurd rfl h.ne
  | cons p r=>exact h.len p Qd
 simp only[Zaz,QW,decide_eq_true_eq];refine⟨⟨⟨?_,?_⟩,?_⟩,?_⟩;exact Q4.mpr fun p m=>decide_eq_true (h.pos p m);simp only[Zon,QW];refine⟨⟨?_,?_⟩,?_⟩;cases hp with
 | nil=>exact absurd rfl h.ne
 | cons p r=>rfl
 refine Q4.mpr fun x e=>?_;obtain⟨p,m,rfl⟩:=Qk.mp e;exact h.text p m;refine Q4.mpr fun x e=>?_;obtain⟨p,m,rfl⟩:=Qk.mp e;exact hd▸decide_eq_true (h.len p m);refine Q4.mpr fun i hi=>decide_eq_true ?_;have f:=QK.mp hi;rw[Qc]at f;have h1:i<hp.length:=Md f
 have h2:i+1<hp.length:=T7 f
 have q:=Uh.mp h.srt i _ (by simpa using h1) (by simpa using h2) (UB i);rw[Qb,Qb,Qh,Qh,Qa h1,Qa h2];simpa using q;have:=h.sum;lia
end
section
variable {P:Oc} {w:Of} {K:PySem.W.Frag} {mg:Str->Option Value} {base:Heap}
end
end Sh
namespace L2
open PySem PySem.Spec PyProof.Rows
end L2
namespace Sh
open PySem L2 PyProof.Rows
seal L2.PE L2.PS L2.PSs L2.PT L2.PW L2.PA L2.PI L2.PG L2.PGs L2.PO L2.PC L2.PCs L2.OpR L2.UnR L2.CallR L2.MtR L2.IxR L2.SlR
section
variable {P:Oc} {w:Of} {K:PySem.W.Frag} {mg:Str->Option Value} {base:Heap}
end
end Sh
namespace L2
open PySem PySem.Spec PyProof.Rows
end L2
namespace Sh
open PySem L2 PyProof.Rows
seal L2.PE L2.PS L2.PSs L2.PT L2.PW L2.PA L2.PI L2.PG L2.PGs L2.PO L2.PC L2.PCs L2.OpR L2.UnR L2.CallR L2.MtR L2.IxR L2.SlR
section
variable {P:Oc} {w:Of} {K:PySem.W.Frag} {mg:Str->Option Value} {base:Heap}
noncomputable def lenV:V->Nat
 | .str z=>z.length
 | _=>0
noncomputable def Znb (ys:List V):Bool:=!ys.isEmpty&&ys.all ZK&&ys.all fun y=>decide (lenV y=lenV (ys.headD .non))
structure RowIs (H:Hp) (ys:List V):Prop where
 few:ys.length<=100000
 ty:∀ y∈ys,∃ n,TyB H y n
 len:∀ y∈ys,∀ z,y= .str z->z.length<=100000
def RowIs.same (s:Same H H') (h:RowIs H ys):RowIs H' ys:=⟨h.few,fun y m=>(h.ty y m).imp fun n t=>t.same s,h.len⟩
abbrev Zaf:List Str:=["things"]
def Zfh:Zm Zaf ["things"] (Zf Ye):=⟨rfl,rfl,rfl,by simp,rfl,by decide +kernel,by decide +kernel⟩
def ZnJ:Sp:=fun vs H Q _=>∃ (a:Addr) (ys:List V),vs=[.ref a]/\SeqAt' H a ys/\RowIs H ys/\∀ H',Same H H'->Q (.bl (Znb ys)) H'
def Zex {ys:List V} (h:i<ys.length):ys.getD i .non∈ys:=by
 rw[Qb,Qa h];simp
def ZbK (D:HasDef K mg "are_pieces" Ye ["things"]) (B:Blt mg) (g34_:FOk P w K mg base 3 "is_text" ["thing"] Zgn):FOk P w K mg base 4 "are_pieces" ["things"] ZnJ:=by
 refine D.ok Zfh (fun vs H Q E h=>?_) (fun f cdv A outer s H vs Q E hr h=>?_)
 obtain⟨a,ys,rfl,_⟩:=h;rfl
 refine B0 ?_;intros;obtain⟨a,ys,rfl,ha,hR,k⟩:=h;have hfew:=hR.few;refine ⟨_,(Zd (ZI (PW.pt (YJ (Zq YF (Zi Zp rfl B.len ZE (Za (pv 0) Zc)) Zh (Zr _)) (Yp (ZU (ZS (Zi (YI rfl) rfl B.all ZeY (Za (Zx (Zf Ye) Zaf ["thing"] [] rfl (Zo9 (ZQ (pv 0)) (Yb (pv 0))) (fun _ _ _ _ _=>ZW 0) (fun _ _ _ _ _=>ZD) (fun _ _ _ _ _=>(Zu g34_ hr (Za (pv 0) Zc)))) Zc))))))) (Zg (Zn YX)) Zt)
  (Zg (Zn (Zi (YI rfl) rfl B.all ZeY (Za (Zx (Zf Ye) Zaf ["piece"] [0] rfl (Zo9 (ZQ (pv 0)) (Yb (pv 0))) (fun _ _ _ _ _=>ZW 0) (fun _ _ _ _ _=>ZD) (fun _ _ _ _ _=>(ZY YF (Zi (JU K) rfl B.len ZE (Za (pv 0) Zc)) (Zi (JU K) rfl B.len ZE (Za (Zw (Zai K) (pv 1) Zh (fun _ _=>rfl)) Zc)) (Zr _)))) Zc))))),⟨_,rfl,.ref a,_,rfl,Zbj ha,rfl,_,rfl,?_⟩⟩;by_cases h0:ys.length=0
 have e:ys=[]:=Wf.mp h0;subst e;exact YG rfl (Zca (k H (Same.refl H)))
 refine Yw (JO (by lia)) (Zg2 rfl ha fun J hJ=>Z3 ys.length (fun i=>ys.getD i .non) (fun i v _=>v= .bl (ZK (ys.getD i .non))) (Zs (QO hfew (by decide))) (fun _ _ _ _ _ r=>r) hJ ?_ ?_)
 intro i H1 Qe hi hs kq;have hm:=Zex hi;obtain⟨n,ty⟩:=hR.ty _ hm;exact⟨_,rfl,_,n,rfl,ty.same hs,fun z e=>Zs (QO (hR.len _ hm z e) (by decide)),fun H6 hs6=>kq _ _ hs6 rfl⟩
 intro D1 vs1 H1 hlv1 hr1 hs1 hD1 hDl1;refine⟨D1,ys.map ZK,rfl,SqL.of (by rw[hDl1,(Zhm (g:=ZK) hlv1 hr1)]),_,rfl,?_⟩;have ne:ys.isEmpty=false:=by
  cases ys with
  | nil=>exact absurd rfl h0
  | cons y r=>rfl
 cases eb:ys.all ZK with
 | false =>
  have:(ys.map ZK).all id=false:=by rw[WK];grind
  rw[this];refine Zca ?_;have e:Znb ys=false:=by unfold Znb;rw[eb,UA,Uz]
  exact e▸k H1 hs1
 | true =>
  have:(ys.map ZK).all id=true:=by rw[WK];grind
  rw[this];refine Xw ?_;have ha1:=ha.same hs1;have hstr:∀ i,i<ys.length->∃ z,ys.getD i .non= .str z/\z.length<=sizeLine:=fun i hi=>by
   have hm:=Zex hi;have ht:=Q4.mp eb _ hm;cases ec:ys.getD i .non with
   | str z=>exact⟨z,rfl,Zs (QO (hR.len _ hm z ec) (by decide))⟩
   | _=>rw[ec]at ht;cases ht
  obtain⟨z0,ez0,lz0⟩:=hstr 0 (Mx h0);have hd0:ys.headD .non= .str z0:=by
   cases ys with
   | nil=>simp_all
   | cons y r=>simp_all
  have at0:atI ys 0=some (.str z0):=by
   exact ez0▸Jq (j:=0) (by rw[Qb,Qa (show 0<ys.length by exact Mx h0)];rfl)
  refine Zg2 rfl ha1 fun J hJ=>Z3 ys.length (fun i=>ys.getD i .non) (fun i v _=>v= .bl (decide (lenV (ys.getD i .non)=lenV (ys.headD .non)))) (Zs (QO hfew (by decide))) (fun _ _ _ _ _ r=>r) hJ ?_ ?_
  intro i H2 Qe hi hs kq;obtain⟨z,ez,lz⟩:=hstr i hi;rw[ez];refine⟨_,rfl,.str z,_,rfl,⟨lz,rfl⟩,_,rfl,Zap (ha1.same hs) at0 ⟨.str z0,_,rfl,⟨lz0,rfl⟩,rfl,kq _ _ (Same.refl _) ?_⟩⟩;rw[hd0,ez];show V.bl (decide (V.int (z.length:Int)=V.int (z0.length:Int)))=V.bl (decide (z.length=z0.length));congr 1;rw[Wq,decide_eq_true_eq,decide_eq_true_eq];constructor
  intro q;injection q with q
  exact Td q
  intro q;rw[q]
  intro D2 vs2 H2 hlv2 hr2 hs2 hD2 hDl2;refine⟨D2,_,rfl,SqL.of (by rw[hDl2,(Zhm (g:=fun y=>decide (lenV y=lenV (ys.headD .non))) hlv2 hr2)]),?_⟩;have e:Znb ys=(ys.map fun y=>decide (lenV y=lenV (ys.headD .non))).all id:=by
   unfold Znb;rw[eb,ne,WK];rfl
  exact e▸k H2 (hs1.trans hs2)
def ZnH:Sp:=fun vs H Q _=>∃ (a:Addr) (ps B:List Str),vs=[.ref a]/\SeqAt' H a (ps.map V.str)/\ps.length<=1000/\B.length<=63/\(∀ x∈ps,x∈B)/\∀ v H' hp,Same H H'->HpAt H' v hp->ZN ps hp->Q v H'
def ZfJ (D:HasDef K mg "counted" ZcI ["pieces"]) (B:Blt mg) (G1:FOk P w K mg base 1 "in_rows" ["manys"] ZiW):FOk P w K mg base 2 "counted" ["pieces"] ZnH:=by
 refine D.ok scCounted (fun vs H Q E h=>?_) (fun f cdv A outer s H vs Q E hr h=>?_)
 obtain⟨a,c,Bd,rfl,_⟩:=h;rfl
 refine B0 ?_;intros;obtain⟨a,c,Bd,rfl,ha,hl,hB,r,k⟩:=h;have hu:=Zdd hr;refine⟨_,(Zd (Zo (i:=1) scCounted.nd rfl (.inl rfl) Xl)
  (Zd (Yh PassesOwn.never rfl (Zo9 (ZQ (pv 0)) (Yb (pv 0))) (ZG (i:=2) scCounted.nd rfl (.inl rfl))
   (Zg (XB hu (pv 1) (pv 2) (Zv Z7 (Y4 hu (pv 1) (pv 2) Zh ⟨rfl,rfl,rfl,rfl⟩) Zh) rfl)))
  (Zg (Zn (Zu G1 hr (Za (pv 1) Zc)))))),?_⟩
 apply B2;intros;intro d hd;have G:Same H (upd H d (.dK [])):=Zb hd;refine ZpO rfl (ha.same G) fun J o ho hJ=>ZpX hJ (fun i σ F=>(∃ z:Option V,σ=[some (.ref a),some (.ref d),z])/\Same H F/\∃ j,Cnt j (c.take i)/\j.length<=i/\F d=some (.dK (cD j (c.take i))))
  ⟨⟨none,rfl⟩,G,[],⟨Wx,fun x=>Iff.rfl⟩,Ql _,Ze⟩ ?_ ?_ ?_
 rintro i σ F ⟨_,y,_⟩;have C:a≠d:=by
  rintro rfl;rcases ha with q | q <;> rw[hd]at q <;> cases q
 rw[Zj C]at ho;exact y _ _ ho
 rintro i x σ F hi ⟨⟨z,rfl⟩,y,j,n,hkl,g⟩;have t:i<c.length:=by
  have:=(Qo.mp hi).1;rw[Qc]at this;exact this
 rw[Qh,Qa t]at hi;have ex:x=V.str c[i]:=(Option.some.inj hi).symm;subst ex;have hg:(XR (cD j (c.take i)) (Sum.inr c[i]:Key)).getD (.int 0)= .int ((c.take i).count c[i]):=by
  unfold cD;rw[Xh];split
  rfl
  rename_i m;have:c[i]∉c.take i:=fun q=>m ((n.mem _).mpr q);rw[Wh this];rfl
 refine Pf (Zhk n c[i]) fun ks' u ep _=>?_;rw[←QQ t]at u ep;refine⟨_,rfl,d,rfl,.inl ⟨_,.inl g⟩,_,rfl,_,DGet.kk (k:=Sum.inr c[i]) g,_,_,hg,rfl,_,rfl,_,rfl,d,_,rfl,DPut.kk (k:=Sum.inr c[i]) g ?_,?_⟩
 unfold cD;rw[Qc];exact ZC (Kv hl t hkl)
 refine⟨⟨_,rfl⟩,fun b o e=>?_,ks',u,Kw hkl ‹_›,?_⟩
 exact Zj (Zl e hd)▸y b o e
 rw[Ze];exact congrArg (fun l=>some (HO.dK l)) ep
 rintro σ F ⟨⟨z,rfl⟩,y,j,n,hkl,g⟩;rw[QP (by simp)]at n g;have hk63:j.length<=63:=QO (YN n.nd fun x hx=>r x ((n.mem x).mp hx)) hB;refine ⟨_,rfl,d,j,fun x=>(c.count x:Int),rfl,g,n.nd,Kx hk63,fun v H3 ss hs3 p hsrt hA=>k v H3 _ (y.trans hs3) hA ⟨?_,?_,?_⟩⟩
 rw[QN]
 grind
 intro x;rw[QN];have:ss.map ((·.1) ∘ fun x=>(x,(c.count x:Int)))=ss:=by
  conv=>rhs;rw[←Re ss]
  rfl
 rw[this,p.mem_iff,n.mem]
 simp
abbrev Zfr:Stmt:=top 56
abbrev Zpv:List Str:=["pieces"]
def ZlY:Zm Zpv ["pieces"] (Zf Zfr):=⟨rfl,rfl,rfl,by simp,rfl,by decide +kernel,by decide +kernel⟩
structure RowOkH (ps:List Str) (L:Nat):Prop where
 ne:ps≠[]
 lo:1<=L
 len:∀ p∈ps,p.length=L
 sg:∀ p∈ps,p.cps.toList.all Yu=true
 few:ps.length+L<=301
inductive Znh (H:Hp):V->Prop
 | kind {x:V} {n:String} (h:TyB H x n) (h1:isiB n "tuple" = false) (h2:isiB n "list" = false):Znh H x
 | bad {a:Addr} {ys:List V} (h:SeqAt' H a ys) (hR:RowIs H ys) (hb:Znb ys=false):Znh H (.ref a)
 | many {a:Addr} {ps:List Str} {L:Nat} (h:SeqAt' H a (ps.map V.str)) (hl:ps.length<=1000) (hA:Znb (ps.map V.str)=true) (hL:∀ p∈ps,p.length=L) (hz:L<=300) (hb:301<ps.length+L):Znh H (.ref a)
def Zgs (C:Addr):Sp:=fun vs H Q E=>∃ x:V,vs=[x]/\((Znh H x/\∀ H',Same H H'->E (.ref C) none H') \/
 ∃ (a:Addr) (ps B:List Str) (L:Nat),x= .ref a/\SeqAt' H a (ps.map V.str)/\RowOkH ps L/\B.length<=63/\(∀ p∈ps,p∈B)/\∀ v H' hp,Same H H'->HpAt H' v hp->ZN ps hp->Q v H')
def ZnN {ps:List Str} (c:ps.length<=1000) (b:∀ p∈ps,p.length=L) (hz:L<=300):RowIs H (ps.map V.str):=by
 refine⟨by rw[Qc];exact Be c,fun y m=>?_,fun y m z e=>?_⟩;obtain⟨p,_,rfl⟩:=Qk.mp m;exact⟨_,.str p⟩;obtain⟨p,a,rfl⟩:=Qk.mp m;cases e;have:=b _ a;exact Bf hz this
def RowOkH.are (h:RowOkH ps L):Znb (ps.map V.str)=true:=by
 have g:=h.lo;have e:=h.few;unfold Znb;cases ps with
 | nil=>exact absurd rfl h.ne
 | cons p r =>
  simp only[Qp,Vd,VB,Ri,List.headD_cons,QW,Q4];constructor;intro y m;rw[←Qp]at m;obtain⟨q,a,rfl⟩:=Qk.mp m;have f:=h.len q a;rw[QC]at e;simp[ZK,YC,h.sg q a,VH,QW,decide_eq_true_eq];lia;intro y m;rw[←Qp]at m;obtain⟨q,a,rfl⟩:=Qk.mp m;exact decide_eq_true ((h.len q a).trans (h.len p Qd).symm)
def Zjh (h:SeqAt' H a ys):∃ n,TyB H (.ref a) n/\(["tuple","list"].any (isiB n))=true:=h.elim (fun h=>⟨_,.lst h,by decide⟩) fun h=>⟨_,.tup h,by decide⟩
def ZhU (D:HasDef K mg "heap_of" Zfr ["pieces"]) (B:Blt mg) (c:XCls K mg "NoHeap" C bm) (g15_:FOk P w K mg base 4 "are_pieces" ["things"] ZnJ) (g40_:FOk P w K mg base 4 "most_pieces" ["long"] Zgp)
  (g22_:FOk P w K mg base 4 "counted" ["pieces"] ZnH):FOkX P w K mg base 5 "heap_of" ["pieces"] (Zgs C):=by
 refine D.okX ZlY (fun vs H Q E h=>?_) (fun f cdv A outer s vs H Q E L hr h=>?_)
 obtain⟨x,rfl,_⟩:=h;rfl
 refine B0 ?_;intros;obtain⟨x,rfl,h⟩:=h;refine⟨_,(Zd (ZI (PW.pt (YJ (ZU (ZS (Zi Zlg rfl B.isi Zao (Za (pv 0) (Za (YW (Za (JI rfl B.tuple Yc) (Za (JI rfl B.list ZbA) Zc))) Zc))))) (Yp (ZU (ZS (Zu g15_ hr (Za (pv 0) Zc))))))) (Zg (Y3 L c rfl (Za Z1 Zc))) Zt)
  (Zd (ZI (Zq Xv (Zi Zp rfl B.len ZE (Za (pv 0) Zc)) (Zu g40_ hr (Za (Zi Zp rfl B.len ZE (Za (Zw Zn8 (pv 0) Zh (fun _ _=>rfl)) Zc)) Zc)) (Zr _)) (Zg (Y3 L c rfl (Za Z1 Zc))) Zt)
  (Zg (Zn (Zu g22_ hr (Za (pv 0) Zc)))))),?_⟩
 apply B2;intros;have one:(1:Nat)<=sizeLine:=by decide
 refine⟨_,rfl,(show 2<=sizeLine by decide),fun t ht=>?_⟩;have s1:Same H (upd H t (.tup [.ty "tuple",.ty "list"])):=Zb ht;rcases h with ⟨hN,kE⟩ | ⟨a,ps,Bs,L0,rfl,ha,hO,hB,hBs,k⟩
 cases hN with
 | @kind x n ty h1 h2 =>
  refine Ld x t (["tuple","list"]) n ⟨rfl,Ze,by decide,ty.same s1,_,rfl,?_⟩;have:(["tuple","list"].any (isiB n))=false:=by simp[h1,h2]
  exact this▸Zca (Zca ⟨one,kE _ s1⟩)
 | @bad a ys ha hR hb =>
  obtain⟨n,ty,e⟩:=Zjh (ha.same s1);refine Ld (.ref a) t (["tuple","list"]) n ⟨rfl,Ze,by decide,ty,_,rfl,?_⟩;rw[e];exact Xw ⟨_,rfl,a,ys,rfl,ha.same s1,hR.same s1,fun H2 s2=>⟨_,rfl,hb▸Zca ⟨one,kE _ (s1.trans s2)⟩⟩⟩
 | @many a ps L1 ha hl hA hL hz hb =>
  obtain⟨n,ty,e⟩:=Zjh (ha.same s1);refine Ld (.ref a) t (["tuple","list"]) n ⟨rfl,Ze,by decide,ty,_,rfl,?_⟩;rw[e];refine Xw ⟨_,rfl,a,_,rfl,ha.same s1,ZnN hl hL hz,fun H2 s2=>⟨_,rfl,?_⟩⟩;rw[hA];refine Xw ?_;have ha2:=ha.same (s1.trans s2);have hp0:0<ps.length:=by omega
  have l0:=hL _ (QA hp0);have at0:atI (ps.map V.str) 0=some (.str ps[0]):=Jq (j:=0) (by simp);refine⟨_,rfl,.ref a,_,rfl,Zbj ha2,_,rfl,Zap ha2 at0 ⟨.str ps[0],_,rfl,⟨Zs (by omega),rfl⟩,_,rfl,_,_,rfl,rfl,_,rfl,YG (decide_eq_true ?_) ⟨one,kE _ (s1.trans s2)⟩⟩⟩;rw[Qc,l0];omega
 refine Pe (Zjh (ha.same s1)) fun n ty e=>?_;have hfew:=hO.few;have hp0:0<ps.length:=RY.mpr hO.ne;refine Ld (.ref a) t (["tuple","list"]) n ⟨rfl,Ze,by decide,ty,_,rfl,?_⟩;rw[e];refine Xw ⟨_,rfl,a,_,rfl,ha.same s1,ZnN (L:=L0) (by omega) hO.len (by omega),fun H2 s2=>⟨_,rfl,?_⟩⟩;rw[hO.are];refine Xw ?_;have ha2:=ha.same (s1.trans s2);have l0:=hO.len _ (QA hp0);have at0:atI (ps.map V.str) 0=some (.str ps[0]):=Jq (j:=0) (by simp);refine⟨_,rfl,.ref a,_,rfl,Zbj ha2,_,rfl,Zap ha2 at0 ⟨.str ps[0],_,rfl,⟨Zs (by omega),rfl⟩,_,rfl,_,_,rfl,rfl,_,rfl,Yw (decide_eq_false ?_) ?_⟩⟩
 ·rw[Qc,l0];omega
 exact⟨_,rfl,a,ps,Bs,rfl,ha2,by omega,hB,hBs,fun v H3 hp s3 hA hO'=>k v H3 hp ((s1.trans s2).trans s3) hA hO'⟩
end
abbrev Za3:Stmt:=top 62
abbrev JB:Stmt:=top 63
abbrev JC:Stmt:=top 64
abbrev Za4:Stmt:=top 65
abbrev JD:Stmt:=top 66
structure Ln (mg:Str->Option Value):Prop where
 figs:∃ t,mg "FIGURES" = some (.str "0123456789" t)
 mostF:∃ t,mg "MOST_FIGURES" = some (.int 3 t)
noncomputable def Yj (p:Pr):Str:=if p.2=1 then p.1 else p.1 ++ "*" ++ Str.ofString (toString p.2)
noncomputable def ZbE (hp:List Pr):Str:=Txt.join " " (hp.map Yj)
structure Zlt (hp:List Pr):Prop where
 few:hp.length<=1000
 len:∀ p∈hp,p.1.length<=1000
 lo:∀ p∈hp,0<=p.2
 hi:∀ p∈hp,p.2<=999
def ZcV {n:Int} (b:0<=n) (c:n<=999):(Str.ofString (toString n)).length<=11:=QO (PySem.W.KT.len_num b (by lia)) (by decide)
def Zkb {n:Int} (c:0<=n) (b:n<=999):n.natAbs.log2<1920:=by
 have:=Nat.log2_lt (n:=n.natAbs) (k:=10);by_cases a:n.natAbs=0
 rw[a];decide;lia
def ZaZ (f:p.1.length<=1000) (c:0<=p.2) (b:p.2<=999):(Yj p).length<=1020:=by
 unfold Yj;split
 lia;rw[Str.length_append,Str.length_append];have e:=ZcV c b;have d:("*" : Str).length=1:=rfl;lia
section
variable {P:Oc} {w:Of} {K:PySem.W.Frag} {mg:Str->Option Value} {base:Heap}
def ZiV:Sp:=fun vs H Q _=>∃ p:Pr,vs=[.str p.1,.int p.2]/\p.1.length<=1000/\0<=p.2/\p.2<=999/\Q (.str (Yj p)) H
def ZoP:Zm ["piece","many"] ["piece","many"] (Zf Za3):=⟨rfl,rfl,rfl,by decide +kernel,rfl,by decide +kernel,by decide +kernel⟩
def Zd3 (D:HasDef K mg "show_pair" Za3 ["piece","many"]):FOk P w K mg base 1 "show_pair" ["piece","many"] ZiV:=by
 refine D.ok ZoP (fun vs H Q E h=>?_) fun f cdv A outer s H vs Q E hr h=>?_;obtain⟨p,rfl,_⟩:=h;rfl;refine Pn h fun p r0 h1 h2 h3 k=>?_;subst r0;refine⟨_,Zd (ZI (Zq YF (pv 1) Zh (Zr _)) (Zg (Zn (pv 0))) Zt) (Zg (Zn (Zsr (pv 0) (pv 1)))),⟨_,rfl,rfl,_,rfl,(Zdx (fun e=>?_) fun e=>?_)⟩⟩;have e1:p.2=1:=by
  simp_all
 refine⟨_,rfl,?_⟩;have:Yj p=p.1:=if_pos e1;rw[this]at k;omega;have h4:=ZcV h2 h3;have h5:("*" : Str).length=1:=rfl;refine⟨_,rfl,p.1,rfl,Be h1,Zs (by lia),_,rfl,p.2,rfl,Zkb h2 h3,Zs (by lia),?_⟩;have:Yj p=p.1 ++ "*" ++ Str.ofString _:=if_neg (fun q=>e (by rw[q];rfl));rw[this]at k;omega
def Zfb:Sp:=fun vs H Q _=>∃ (v:V) (hp:List Pr),vs=[v]/\HpAt H v hp/\Zlt hp/\∀ H',Same H H'->Q (.str (ZbE hp)) H'
def ZoQ:Zm ["H"] ["H"] (Zf JB):=⟨rfl,rfl,rfl,by simp,rfl,by decide +kernel,by decide +kernel⟩
def ZaY (h:Zlt c):((c.map Yj).map (·.length)).sum+(c.map Yj).length*(" " : Str).length<=16777216:=by
 have i:=JX (c.map Yj) _ fun y d=>by
  obtain⟨p,b,rfl⟩:=Qk.mp d;exact ZaZ (h.len p b) (h.lo p b) (h.hi p b)
 have g:(" " : Str).length=1:=rfl;have j:=h.few;rw[g];rw[Qc]at i ⊢;lia
def Zd4 (D:HasDef K mg "show_heap" JB ["H"]) (G1:FOk P w K mg base 1 "show_pair" ["piece","many"] ZiV):FOk P w K mg base 2 "show_heap" ["H"] Zfb:=by
 refine D.ok ZoQ (fun vs H Q E h=>?_) (fun f cdv A n s H vs Q E hr h=>?_)
 obtain⟨v,d,rfl,_⟩:=h;rfl
 refine B0 ?_;intros;obtain⟨v,d,rfl,hA,l,k⟩:=h;refine Pd (id hA) fun a xs r0 ha hl hr'=>?_;subst r0;have hz:xs.length<=sizeLine:=by exact hl▸Zs (QO l.few (by decide))
 refine ⟨_,Zg (Zn (Y2 F.plainAttrs_str F.slot_str_join F.type_str_join ZfQ Z1 (Za (Zx (Zf JB) ["H"] ["piece","many"] [] rfl (Yb (pv 0))
  (fun _ _ _ _ _=>Yt 2 K rfl (Zy (ZW 0) (Zy (ZW 1) Ys))) (fun _ _ _ _ _=>ZD) fun _ _ _ _ _=>Zu G1 hr (Za (pv 0) (Za (pv 1) Zc))) Zc))),⟨rfl,_,rfl,a,rfl,⟨_,SqT.of ha⟩,Z3 xs.length _ (fun i v _=>∀ p,d[i]?=some p->v= .str (Yj p)) hz (fun _ _ _ _ _ r=>r) (Xg (SqT.of ha)) ?_ ?_⟩⟩
 intro i H1 Qe hi hs kq;have c:i<d.length:=V6 hl hi
 have hm:=QA c;obtain⟨b,eb,hb⟩:=hr' i _ (Qa c);refine⟨b,_,eb,SqT.of (hs _ _ hb),rfl,_,_,rfl,_,_,rfl,rfl,_,rfl,_,rfl,_,rfl,l.len _ hm,l.lo _ hm,l.hi _ hm,kq _ _ (Same.refl _) ?_⟩;intro p e;rw[Qa c]at e;cases e;rfl
 intro D1 j H1 hlv1 hr1 m hD1 g;have e1:j=(d.map Yj).map V.str:=by
  apply QI;intro i;by_cases hi:i<j.length
  have c:i<d.length:=Sz hlv1 hi hl
  rw[Qa hi,(hr1 i _ (Qa hi) _ (Qa c)),Qh,Qh,Qa c];rfl
  rw[Qj (G7 hi),Qj (by rw[Qc,Qc];exact S0 hlv1 hl hi)]
 exact Lb (" ") D1 _ ⟨rfl,rfl,SqL.of (by rw[g,e1]),ZaY l,k H1 m⟩
noncomputable def XE (c:Nat):Bool:=decide (48<=c)&&decide (c<=57)
def ZkY:(("0123456789" : Str)).cps.toList=(Qz 10).map (· + 48):=by rfl
def Zmm (c):decide (c∈(("0123456789" : Str)).cps.toList)=XE c:=by
 rw[ZkY,Wq];simp[decide_eq_true_eq,Qk,QK,XE,QW];constructor;lia;rintro⟨b,d⟩;exact⟨c-48,by omega,Mc b⟩
noncomputable def Zay (z:Str):Int:=if z = "" then 1 else if 3<z.length\/z.cps.toList.all XE=false then 0 else (PySem.intText? z).getD 0
def ZiZ:Sp:=fun vs H Q _=>∃ z:Str,vs=[.str z]/\z.length<=100000/\(z.cps.toList.all XE=true->z.cps.toList≠[]->z.length<=3->∃ n,PySem.intText? z=some n)/\∀ H',Same H H'->Q (.int (Zay z)) H'
def ZoR:Zm ["figures"] ["figures"] (Zf JC):=⟨rfl,rfl,rfl,by simp,rfl,by decide +kernel,by decide +kernel⟩
def Zd6 (D:HasDef K mg "read_many" JC ["figures"]) (B:Blt mg) (L:Ln mg):FOk P w K mg base 1 "read_many" ["figures"] ZiZ:=by
 refine D.ok ZoR (fun vs H Q E h=>?_) (fun f cdv A outer s H vs Q E hr h=>?_)
 obtain⟨z,rfl,_⟩:=h;rfl
 refine B0 ?_;intros;obtain⟨z,rfl,hzl,hn,k⟩:=h;obtain⟨t1,m1⟩:=L.figs;obtain⟨t2,m2⟩:=L.mostF;have hz:z.length<=sizeLine:=Zs (by omega);refine ⟨_,Zd (ZI (Zq YF (pv 0) Z1 (Zr _)) (Zg (Zn Zh)) Zt)
  (Zd (ZI (PW.pt (YJ (Zq Xv (Zi Zp rfl B.len ZE (Za (pv 0) Zc)) (Zbc (v:=.int 3) rfl m2 ⟨_,rfl⟩) (Zr _))
   (Yp (ZU (ZS (Zi (YI rfl) rfl B.all ZeY (Za (Zx (Zf JC) ["figures"] ["sign"] [] rfl (ZnU (pv 0)) (fun _ _ _ _ _=>ZW 0) (fun _ _ _ _ _=>ZD)
    (fun _ _ _ _ _=>ZY ZdZ (pv 0) (Zbc (v:=.str "0123456789") rfl m1 ⟨_,rfl⟩) rfl)) Zc))))))) (Zg (Zn Zh)) Zt)
  (Zg (Zn (ZB Zlh rfl B.int Zm9 (Za (pv 0) Zc))))),⟨_,rfl,rfl,_,rfl,Zdx (fun e=>?_) (fun e=>?_)⟩⟩
 have e1:z = "":=by
  simp_all
 have e2:Zay z=1:=if_pos e1;have:=k H (Same.refl H);rw[e2]at this
 trivial
 have e1:¬ z = "":=fun q=>e (by rw[q];rfl);refine ⟨_,rfl,.str z,z.length,rfl,⟨hz,rfl⟩,_,_,rfl,rfl,_,rfl,Zdx (fun e2=>?_) (fun e2=>?_)⟩
 have e3:3<z.length:=by
  have:=of_decide_eq_true e2;omega
 have e4:Zay z=0:=by rw[Zay,if_neg e1,if_pos (.inl e3)]
 have:=k H (Same.refl H);rw[e4]at this
 assumption
 have e3:¬ 3<z.length:=fun q=>e2 (decide_eq_true (by omega));refine⟨.str z,rfl,z,rfl,Z3 z.cps.size (fun i=>.str ⟨#[z.cps.getD i 0]⟩) (fun i v _=>v= .bl (XE (z.cps.getD i 0))) hz (fun _ _ _ _ _ r=>r) Zn6 ?_ ?_⟩
 intro i H1 Qe hi hs kq;exact ⟨_,rfl,_,_,rfl,rfl,kq _ _ (Same.refl _) (congrArg V.bl ((ZsY _ _).trans (Zmm _)))⟩
 intro D vs H' hlv hr hs hD hDl;have q2:(Qz z.cps.size).map (fun i=>XE (z.cps.getD i 0))=z.cps.toList.map XE:=by
  have q:=congrArg (List.map XE) (Zcd z.cps.toList);rw[QN]at q;rw[←q];simp
 refine⟨D,z.cps.toList.map XE,rfl,SqL.of ?_,_,rfl,?_⟩
 ·rw[hDl,(Js (f:=fun i=>V.bl (XE (z.cps.getD i 0))) hlv hr),←q2,QN];rfl
 have q3:(z.cps.toList.map XE).all id=z.cps.toList.all XE:=by rw[WK];rfl
 rw[q3];cases q4:z.cps.toList.all XE with
 | false =>
  have e4:Zay z=0:=by rw[Zay,if_neg e1,if_pos (.inr q4)]
  have:=k H' hs;rw[e4]at this;exact Zca this
 | true =>
  refine Xw ?_;have ne:z.cps.toList≠[]:=fun q=>e1 (by rw[←tx_eta z,q];rfl);obtain⟨n,en⟩:=hn q4 ne (by omega);have e4:Zay z=n:=by
   rw[Zay,if_neg e1,if_neg,en]
   ·rfl
   ·rintro(q | q)
    ·exact e3 q
    ·rw[q4]at q;cases q
  have:=k H' hs;rw[e4]at this;exact⟨_,rfl,z,n,rfl,en,by omega,this⟩
noncomputable def ZhE (z:Str):Pr:=((Txt.partition z "*").1,Zay (Txt.partition z "*").2.2)
def Zls (z:Str):Prop:=z.length<=100000/\(Txt.partition z "*").2.2.length<=100000/\((Txt.partition z "*").2.2.cps.toList.all XE=true->(Txt.partition z "*").2.2.cps.toList≠[]->(Txt.partition z "*").2.2.length<=3->∃ n,PySem.intText? (Txt.partition z "*").2.2=some n)
def ZiY:Sp:=fun vs H Q _=>∃ z:Str,vs=[.str z]/\Zls z/\∀ v H',Same H H'->PairAt H' v (ZhE z)->Q v H'
def scReadP:Zm ["word","parts"] ["word"] (Zf Za4):=⟨rfl,rfl,rfl,by decide +kernel,rfl,by decide +kernel,by decide +kernel⟩
def Zd5 (D:HasDef K mg "read_pair" Za4 ["word"]) (G1:FOk P w K mg base 1 "read_many" ["figures"] ZiZ):FOk P w K mg base 2 "read_pair" ["word"] ZiY:=by
 refine D.ok scReadP (fun vs H Q E h=>?_) fun f cdv A outer s H vs Q E hr h=>?_;obtain⟨z,rfl,_⟩:=h;rfl;refine B0 ?_;intros;obtain⟨z,rfl,⟨hw1,hw2,hw3⟩,k⟩:=h;refine⟨_,Zd (Zo (i:=1) scReadP.nd rfl (.inl rfl) (Y2 F.plainAttrs_str F.slot_str_partition F.type_str_partition Zpw (pv 0) (Za Z1 Zc)))
  (Zg (Zn (YW (Za (Zw ix_tup (pv 1) Zh fun _ _=>rfl) (Za (Zu G1 hr (Za (Zw ix_tup (pv 1) Zh fun _ _=>rfl) Zc)) Zc))))),⟨_,rfl,rfl,z,"*",rfl,rfl,by decide,Zs (Nq hw1),fun p hp=>⟨_,rfl,p,_,0,_,rfl,rfl,SqT.of Ze,Z5 rfl,_,rfl,p,_,2,_,rfl,rfl,SqT.of Ze,Z5 rfl,_,rfl,hw2,hw3,fun H1 hs1=>⟨show 2<=sizeLine by decide,fun t ht=>(k _ _ (((Zb hp).trans hs1).trans (Zb ht)) ⟨t,rfl,Ze⟩)⟩⟩⟩⟩
end
structure Zhs (line:Str) (hp:List Pr):Prop where
 len:line.length<=10000000
 words:(Txt.split line " ").map ZhE=hp
 ok:∀ z∈Txt.split line " ",Zls z
 heap:Zaz hp=true
 fits:ZrW hp
 shows:Zlt hp
 same:ZbE hp=line
section
variable {P:Oc} {w:Of} {K:PySem.W.Frag} {mg:Str->Option Value} {base:Heap}
def Zi0:Sp:=fun vs H Q _=>∃ (line:Str) (hp:List Pr),vs=[.str line]/\Zhs line hp/\∀ v H',Same H H'->HpAt H' v hp->Q v H'
def scReadH:Zm ["line","heap"] ["line"] (Zf JD):=⟨rfl,rfl,rfl,by decide +kernel,rfl,by decide +kernel,by decide +kernel⟩
def Zd7 (D:HasDef K mg "read_heap" JD ["line"]) (B:Blt mg) (G1:FOk P w K mg base 5 "read_pair" ["word"] ZiY) (G2:FOk P w K mg base 5 "is_heap" ["thing"] Zgr) (G3:FOk P w K mg base 5 "show_heap" ["H"] Zfb) :
  FOk P w K mg base 6 "read_heap" ["line"] Zi0:=by
 refine D.ok scReadH (fun vs H Q E h=>?_) (fun f cdv A outer s H vs Q E hr h=>?_)
 obtain⟨line,hp,rfl,_⟩:=h;rfl
 refine B0 ?_;intros;obtain⟨line,hp,rfl,g,k⟩:=h;refine ⟨_,Zd (ZI (ZU (ZS (Zi Z8 rfl B.isi Zao (Za (pv 0) (Za (JI rfl B.str Zm8) Zc))))) ZdR Zt)
  (Zd (Zo (i:=1) scReadH.nd rfl (.inl rfl) (ZB ZJ rfl B.tuple Yc (Za (Zx (Zf JD) ["line","heap"] ["word"] [] rfl
   (ZQ (Y2 F.plainAttrs_str F.slot_str_split F.type_str_split ZmB (pv 0) (Za Z1 Zc))) (fun _ _ _ _ _=>ZW 0) (fun _ _ _ _ _=>ZD)
   (fun _ _ _ _ _=>Zu G1 hr (Za (pv 0) Zc))) Zc)))
  (Zd (ZI (PW.pt (YJ (ZU (ZS (Zu G2 hr (Za (pv 1) Zc)))) (Yp (Zq X7 (Zu G3 hr (Za (pv 1) Zc)) (pv 0) (Zr _))))) ZdR Zt)
  (Zg (Zn (pv 1))))),⟨_,rfl,.str line,"str","str",rfl,by decide,.str _,_,rfl,Xw ⟨_,rfl,rfl,line," ",rfl,rfl,by decide,?_,fun p hp0=>?_⟩⟩⟩
 rw[Oj];have:=g.len;lia
 have hw:(Txt.split line " ").length=hp.length:=by rw[←g.words,Qc]
 have hz:((Txt.split line " ").map V.str).length<=sizeLine:=by rw[Qc,hw];exact Zs (QO g.fits.few (by decide))
 refine⟨p,rfl,⟨_,SqL.of Ze⟩,Z3 _ (fun i=>((Txt.split line " ").map V.str).getD i .non) (fun i v H=>∀ q,hp[i]?=some q->PairAt H v q) hz (fun i v H H' ts r q e=>(r q e).same ts) (Yi (SqL.of Ze)) ?_ ?_⟩
 intro i H1 Qe hi hs kq;have hi':i<(Txt.split line " ").length:=by simp_all
 have hi'':i<hp.length:=V6 hw hi'
 refine⟨_,rfl,(Txt.split line " ")[i],?_,g.ok _ (QA hi'),fun v H6 hs6 hv=>kq _ _ hs6 ?_⟩
 rw[XU hi'];rfl
 intro q e;have:hp[i]?=some (ZhE (Txt.split line " ")[i]):=by rw[←g.words,Qh,Qa hi'];rfl
 simp_all
 intro D1 vs1 H1 hlv1 hr1 hs1 hD1 hDl1;refine⟨D1,vs1,rfl,.inl ⟨SqL.of hDl1,fun l hl=>?_⟩⟩;have hs0:Same H (upd H1 l (.tup vs1)):=((Zb hp0).trans hs1).trans (Zb hl);have hA:HpAt (upd H1 l (.tup vs1)) (.ref l) hp:=by
  refine⟨l,vs1,rfl,Ze,by simp_all,fun i q e=>?_⟩;have hi:i<vs1.length:=by
   have:=(Qo.mp e).1;rw[hlv1,Qc,hw];exact this
  rw[Qb,Qa hi];exact (hr1 i _ (Qa hi) q e).same (Zb hl).tup
 refine⟨_,rfl,_,hp,rfl,hA,g.fits,fun H2 hs2=>⟨_,rfl,?_⟩⟩;rw[g.heap];refine Xw ⟨_,rfl,_,hp,rfl,hA.same hs2.tup,g.shows,fun H3 hs3=>⟨_,rfl,rfl,_,rfl,Zrx ?_ ?_⟩⟩
 rw[g.same]
 exact⟨_,rfl,k _ _ ((hs0.trans hs2).trans hs3) (hA.same (hs2.trans hs3).tup)⟩
def Zil (hp:List Pr):Str:=hp.foldl (fun l p=>l ++ " " ++ Yj p) ""
def Znf (b):∀ (n),(∀ p∈b,(Yj p).length<=1020)->b.length<=n->(Zil b).length<=n*1021:=by
 have c:∀ (b:List Pr) (l:Str),(∀ p∈b,(Yj p).length<=1020)->(b.foldl (fun l p=>l ++ " " ++ Yj p) l).length<=l.length+b.length*1021:=by
  intro b;induction b with
  | nil=>simp
  | cons p r j =>
   intro l h;have d:=j (l ++ " " ++ Yj p) fun q f=>h q (Qg _ f);have g:=h p Qd;have m:(" " : Str).length=1:=rfl;rw[Ry,QC];rw[Str.length_append,Str.length_append]at d;lia
 intro n h k;have d:=c b "" h;have g:("" : Str).length=0:=rfl;unfold Zil;lia
end
noncomputable def XO:List (List Nat)->List Nat
 | []=>[]
 | w::r=>32::(w++XO r)
noncomputable def Je:List (List Nat)->List Nat
 | []=>[]
 | w::r=>w++XO r
def Zbz:(" " : Str).cps.toList=[32]:=by rfl
def ZbV:("*" : Str).cps.toList=[42]:=by rfl
def X2:∀ a,(Str.join " " a).cps.toList=Je (a.map fun x=>x.cps.toList)
 | []=>rfl
 | [x]=>by simp[Str.join,Je,XO]
 | x::y::r=>by
  have e:Str.join " " (x::y::r)=x ++ " " ++ Str.join " " _:=rfl;rw[e,Yd,Yd,(X2 (y::r)),Zbz];simp[Je,XO]
def Zlr (a):(Zil a).cps.toList=XO (a.map fun p=>(Yj p).cps.toList):=by
 have c:∀ (a:List Pr) (l:Str),(a.foldl (fun l p=>l ++ " " ++ Yj p) l).cps.toList=l.cps.toList++XO (a.map fun p=>(Yj p).cps.toList):=by
  intro a;induction a with
  | nil=>intro l;simp[XO]
  | cons p r e =>
   intro l;rw[Ry,e,Yd,Yd,Zbz];simp[XO]
 have:=c a ""
 assumption
def ZpB (k:d≠[]):Txt.slice (Zil d) (some 1) none=ZbE d:=by
 have g:=Zlr d;cases d with
 | nil=>rfl
 | cons p r =>
  have m:1<=(Zil (p::r)).length:=by
   have e:=congrArg RE g;simp[QL]at e;show 1<=(Zil _).cps.size;rw[e];simp[XO]
  rw[slice_from_eq (by decide) (Sw m) rfl];apply ZX;have j:ZbE (p::r)=Str.join " " _:=StrLaws.glued_eq_join _ _;rw[j,X2,QN];have i:((Zil (p::r)).cps.toList.drop (1:Int).toNat).take (((Zil (p::r)).length:Int)-1).toNat=(Zil (p::r)).cps.toList.drop 1:=by
   apply QP;rw[Wa];have:(Zil (p::r)).cps.toList.length=(Zil (p::r)).length:=by rfl
   lia
  rw[i,g];rfl
def Zci:∀ {a b} {x y},32∉a->32∉b->a++32::x=b++32::y->a=b/\x=y
 | [],[],x,y,_,_,h=>⟨rfl,by simp_all⟩
 | [],d::b,x,y,_,e,h=>by
  simp at h;exact absurd (by simp[h.1]) e
 | c::a,[],x,y,f,_,h=>by
  simp at h;exact absurd (by simp[h.1]) f
 | c::a,d::b,x,y,f,e,h=>by
  simp[Vj,List.cons.injEq]at h;obtain⟨i,g⟩:=Zci (fun q=>f (Qg _ q)) (fun q=>e (Qg _ q)) h.2;exact⟨by rw[h.1,i],g⟩
def Zkc (c:32∉a) (h:a=b++32::y):False:=c (by simp_all)
def Zev:∀ {us vs},us≠[]->vs≠[]->(∀ u∈us,32∉u)->(∀ v∈vs,32∉v)->Je us=Je vs->us=vs
 | [],_,h,_,_,_,_=>absurd rfl h
 | _::_,[],_,h,_,_,_=>absurd rfl h
 | [u],[v],_,_,_,_,h=>by simpa[Je]using h
 | [u],v::v'::r,_,_,hu,_,h=>by
  simp[Je,XO,Ua]at h;exact(Zkc (hu u Qd) h).elim
 | u::u'::r,[v],_,_,_,hv,h=>by
  simp[Je,XO,Ua]at h;exact(Zkc (hv v Qd) h.symm).elim
 | u::u'::r,v::v'::q,_,_,hu,hv,h=>by
  obtain⟨h1,_⟩:=Zci (hu u Qd) (hv v Qd) h;rw[h1,(Zev (by simp) (by simp) (fun z hz=>hu z (Qg _ hz)) (fun z hz=>hv z (Qg _ hz)) (by assumption))]
def ZpJ (a) (h:Txt.split (Str.join " " a) " " = []):False:=by
 have b:=split_len (Str.join " " a) 32;have e:(" " : Str)=⟨#[32]⟩:=by rfl
 rw[e]at h;rw[e,h]at b;have d:0<=cnt 32 (Str.join ⟨#[32]⟩ a).cps.toList:=countIn_nonneg _ _;simp at b;lia
def ZdJ (d:a≠[]) (h:∀ x∈a,32∉x.cps.toList):Txt.split (Str.join " " a) " " = a:=by
 have e:(" " : Str)=⟨#[32]⟩:=by rfl
 have f:Je ((Txt.split (Str.join " " a) " ").map fun x=>x.cps.toList)=Je (a.map fun x=>x.cps.toList):=by rw[←X2,←X2,(StrLaws.join_split (Str.join " " a) " ")]
 have j:=Zev (fun z=>ZpJ a (UJ.mp z)) (fun z=>d (UJ.mp z))
  (fun u c=>by obtain⟨x,b,rfl⟩:=Qk.mp c;exact(StrLaws.split_free (Str.join " " a) 32) x b) (fun u c=>by obtain⟨x,b,rfl⟩:=Qk.mp c;exact h x b) f
 have g:=congrArg (List.map tx) j;rw[QN]at g;have k:∀ l:List Str,l.map (tx ∘ fun x=>x.cps.toList)=l:=fun l=>by
  conv=>rhs;rw[←Re l]
  rfl
 simp_all
def Znm (h:StrLaws.At z ⟨#[c]⟩ z.length i):z.cps.toList[i]?=some c:=(StrLaws.subAt_one z c i).mp ⟨h.1,h.2⟩
def ZdX (h:42∉z.cps.toList):Txt.partition z "*" = (z,Str.empty,Str.empty):=by
 have e:("*" : Str)=⟨#[42]⟩:=by rfl
 rw[e];rcases partition_whole z _ with ⟨q,_⟩ | ⟨i,q,a,_⟩
 omega;exact absurd (Ww (Znm a)) h
def ZdW (h:42∉a.cps.toList):Txt.partition (a ++ "*" ++ b) "*" = (a,("*" : Str),b):=by
 have e:("*" : Str)=⟨#[42]⟩:=by rfl
 have j:(a ++ "*" ++ b).cps.toList=a.cps.toList++42::b.cps.toList:=by rw[Yd,Yd,ZbV];simp
 have d:(a ++ "*" ++ b).cps.toList[a.length]?=some 42:=by
  rw[j];simp[Str.length]
 have g:(a ++ "*" ++ b).length=a.length+1+b.length:=by
  rw[Str.length_append,Str.length_append];rfl
 rcases partition_whole _ "*" with ⟨_,q⟩ | ⟨i,q,m,r⟩
 exfalso;exact q a.length ((StrLaws.subAt_one _ 42 a.length).mpr d);have o:i=a.length:=by
  rcases Ue i a.length with f | f | f
  exfalso;rw[e]at m;have n:=Znm m;rw[←e,j,QS (by assumption)]at n;exact h (Ww n);exact f;exfalso;exact r a.length f ((StrLaws.subAt_one _ 42 a.length).mpr d)
 subst o;rw[q];have f:("*" : Str).length=1:=rfl;have p:Builtin.Str.strSub (a ++ "*" ++ b) 0 a.length=a:=by
  apply ZX;rw[StrLaws.strSub_toList,j];simp[Str.length]
 have s:Builtin.Str.strSub (a ++ "*" ++ b) (a.length+("*" : Str).length) (a ++ "*" ++ b).length=b:=by
  apply ZX;rw[StrLaws.strSub_toList,j,g,f,QP (by simp[Str.length];lia)];have:a.length=a.cps.toList.length:=by rfl
  rw[this,List.drop_append];simp
 rw[p,s]
section
variable {hp:List Pr} {L:Nat}
def IsHp.shows (h:IsHp hp L):Zlt hp:=by
 have c:=h.few;have b:=h.hi;refine⟨by lia,fun p m=>?_,fun p m=>?_,fun p m=>?_⟩;have:=h.len p m;exact S1 b this;have:=h.pos p m;exact Tc this;have:=h.many p m;lia
end
def Zm0:((Qz 1000).all fun n=>decide ((Str.ofString (toString (n:Int))).length<=3)&&(Str.ofString (toString (n:Int))).cps.toList.all XE&&decide ((Str.ofString (toString (n:Int))).cps.toList≠[]))=true:=by
 rfl
def Zs8 {n:Int} (h0:0<=n) (h1:n<=999):(Str.ofString (toString n)).length<=3/\(Str.ofString (toString n)).cps.toList.all XE=true/\(Str.ofString (toString n)).cps.toList≠[]:=by
 obtain⟨m,rfl⟩:=US h0;have h:=Q4.mp Zm0 m (QK.mpr (by lia));simp only[QW,decide_eq_true_eq]at h;exact⟨h.1.1,h.1.2,h.2⟩
def Zks (a:0<=n) (c:n<=999):Zay (Str.ofString (toString n))=n:=by
 obtain⟨e,d,b⟩:=Zs8 a c;unfold Zay;rw[if_neg,if_neg,PySem.W.KIN.num_reads a (by lia)];rfl;rintro(q | q);exact (Tf e q).elim
 simp_all
 intro q;rw[q]at b;exact b rfl
def ZcW {p:Str} (h:p.cps.toList.all Yu=true):42∉p.cps.toList:=fun m=>by
 have:=Zei (Q4.mp h 42 m);lia
def ZjV (a:p.1.cps.toList.all Yu=true) (d:0<=p.2) (b:p.2<=999):ZhE (Yj p)=p:=by
 unfold Yj;split
 rename_i e;unfold ZhE;rw[ZdX (ZcW a)];have f:Zay Str.empty=1:=if_pos rfl;rw[f,←e];unfold ZhE;rw[ZdW (ZcW a),Zks d b]
def Zop (d:p.1.cps.toList.all Yu=true) (f:p.1.length<=1000) (b:0<=p.2) (c:p.2<=999):Zls (Yj p):=by
 have g:=ZaZ f b c;refine⟨by lia,?_⟩;unfold Yj;split
 exact ZdX (ZcW d)▸⟨by show Str.empty.length<=100000;decide,fun _ q=>absurd rfl q⟩;rw[ZdW (ZcW d)];have:=ZcV b c;exact⟨by show(Str.ofString _).length<=100000;lia,fun _ _ _=>⟨p.2,PySem.W.KIN.num_reads b (by lia)⟩⟩
def Zmo (d:p.1.cps.toList.all Yu=true) (c:0<=p.2) (b:p.2<=999):32∉(Yj p).cps.toList:=by
 have e:32∉p.1.cps.toList:=fun m=>by
  have:=Zei (Q4.mp d 32 m);lia
 unfold Yj;split
 omega;rw[Yd,Yd,ZbV];intro m;simp only[QG,Qx,UD,or_false]at m;rcases m with (m | m) | m
 simp_all
 lia;have:=Q4.mp (Zs8 c b).2.1 32 m;simp[XE]at this
def IsHp.line (h:IsHp b L):Zhs (ZbE b) b:=by
 have a:=h.shows;have f:ZbE b=Str.join " " _:=StrLaws.glued_eq_join _ _;have c:Txt.split (ZbE b) " " = b.map Yj:=by
  rw[f];refine ZdJ (fun z=>h.ne (UJ.mp z)) fun x e=>?_;obtain⟨p,m,rfl⟩:=Qk.mp e;exact Zmo (h.sg p m) (a.lo p m) (a.hi p m)
 refine⟨?_,?_,?_,h.isB,h.fits,a,rfl⟩;have i:=Znf b _ (fun p m=>ZaZ (a.len p m) (a.lo p m) (a.hi p m)) a.few;have g:=Txt.slice_le (Zil b) (some 1) none;rw[ZpB h.ne]at g;omega;rw[c,QN]
 conv=>rhs;rw[←Re b]
 exact QB fun p m=>ZjV (h.sg p m) (a.lo p m) (a.hi p m);rw[c];intro z d;obtain⟨p,m,rfl⟩:=Qk.mp d;exact Zop (h.sg p m) (a.len p m) (a.lo p m) (a.hi p m)
section
variable {P:Oc} {w:Of} {K:PySem.W.Frag} {mg:Str->Option Value} {base:Heap}
end
noncomputable abbrev nV (i:Nat):V:=V.int (i:Int)
def ZsP (H:Hp) (b:Addr) (t:Str×Str):Prop:=∃ s:Str,H b=some (.tup [.str t.1,.str s,.str t.2])
def TyA (H:Hp) (vs:List V) (ts:Ts):Prop:=vs.length=ts.length/\∀ (i:Nat) (t:Str×Str),ts[i]?=some t->∃ b,vs[i]?=some (.ref b)/\ZsP H b t
def TiesV (H:Hp) (v:V) (ts:Ts):Prop:=∃ a vs,v= .ref a/\SeqAt' H a vs/\TyA H vs ts
def TyA.same (h:TyA H vs ts) (s:Same H a):TyA a vs ts:=⟨h.1,fun i t e=>by
 obtain⟨b,d,m,c⟩:=h.2 i t e;exact⟨b,d,m,s _ _ c⟩⟩
def TiesV.same (h:TiesV H v ts) (s:Same H d):TiesV d v ts:=by
 obtain⟨a,b,e,f,c⟩:=h;exact⟨a,b,e,f.same s,c.same s⟩
def TyA.at (h:TyA H vs ts) (hi:i<ts.length):∃ b s,atI vs i=some (.ref b)/\H b=some (.tup [.str (frm ts i),.str s,.str (tow ts i)]):=by
 obtain⟨b,a,s,_⟩:=h.2 i _ (Qa hi);refine⟨b,s,Z5 a,?_⟩;unfold frm tow
 grind
def Zlo {v:V}:atI (xs++[v]) (-1)=some v:=by
 unfold atI ixN;rw[if_neg (by decide),if_pos (by rw[Qm,QD];exact My)];simp only[Vl,Qm,QD];rw[show((-1)+((xs.length+1:Nat):Int)).toNat=xs.length by exact Mz];simp
structure NJ (H H2:Hp) (d:Addr) (ks:List Str) (adr:Str->Addr) (r:Str->List Nat):Prop where
 sm:Same H H2
 dn:H d=none
 dd:H2 d=some (.dK (rD ks adr))
 nd:ks.Nodup
 row:∀ P∈ks,H2 (adr P)=some (.lst ((r P).map nV))
 fresh:∀ P∈ks,H (adr P)=none
 inj:∀ P∈ks,∀ P'∈ks,adr P=adr P'->P=P'
 out:∀ P,P∉ks->r P=[]
noncomputable def Zoo (r:Str->List Nat) (P:Str) (y:Nat):Str->List Nat:=fun x=>if x=P then r P++[y]else r x
def NJ.ne (J:NJ H c d ks a r) (b:P∈ks):a P≠d:=fun e=>by
 have:=J.row P b;rw[e,J.dd]at this
 simp_all
def NJ.old (J:NJ H i d ks g r) (a:P∈ks) (k:i p=none) :
  NJ H (upd (upd i p (.lst [])) (g P) (.lst ((r P).map nV++[nV y]))) d (XQ ks P) g (Zoo r P y):=by
 have m:XQ ks P=ks:=by unfold XQ;rw[if_pos a]
 rw[m];have h:=Zb (o:=.lst []) k;refine⟨fun b u j=>?_,J.dn,?_,J.nd,fun Q f=>?_,J.fresh,J.inj,fun Q f=>?_⟩;rw[Zj fun e=>by rw[e,J.fresh P a]at j;grind];exact h _ _ (J.sm b u j);exact Zj (Ne.symm (J.ne a))▸h _ _ J.dd;unfold Zoo;by_cases c:Q=P
 subst c;rw[Ze,if_pos rfl,QM];rfl;rw[if_neg c,Zj fun e=>c (J.inj Q f P a e)];exact h _ _ (J.row Q f);unfold Zoo;rw[if_neg fun e:Q=P=>f (e▸a)];exact J.out Q f
def NJ.new (J:NJ H w d ks k r) (v:P∉ks) (o:w p=none) :
  NJ H (upd (upd (upd w p (.lst [])) d (.dK (rD (ks++[P]) fun x=>if x=P then p else k x))) p (.lst ([]++[nV y]))) d (XQ ks P) (fun x=>if x=P then p else k x) (Zoo r P y):=by
 have B:XQ ks P=ks++[P]:=by unfold XQ;rw[if_neg v]
 rw[B];have s:d≠p:=fun e=>by rw[←e,J.dd]at o;grind
 have j:∀ Q∈ks,k Q≠p:=fun Q i e=>by have:=J.row Q i;simp_all
 have m:∀ Q,Q∈ks++[P]->Q∈ks\/Q=P:=fun Q h=>by simp_all
 refine⟨fun b u t=>?_,J.dn,?_,?_,fun Q i=>?_,fun Q i=>?_,fun Q i l g e=>?_,fun Q i=>?_⟩
 have q:=J.sm b u t;rw[Zj (Zl q o),Zj (Zl t J.dn),Zj (Zl q o)];omega
 rw[Zj s,Ze]
 exact Wg.mpr ⟨J.nd,by simp,fun a D b t e=>by simp_all⟩
 unfold Zoo;by_cases c:Q=P
 subst c;rw[if_pos rfl,if_pos rfl,Ze,J.out Q v];rfl
 rw[if_neg c,if_neg c];have g:Q∈ks:=(m Q i).resolve_right c;rw[Zj (j Q g),Zj (J.ne g),Zj (j Q g)];exact J.row Q g
 by_cases c:Q=P
 rw[if_pos c];cases A:H p with
 | none=>rfl
 | some u=>have:=J.sm p u A;rw[o]at this;cases this
 exact if_neg c▸J.fresh Q ((m Q i).resolve_right c)
 by_cases c:Q=P
 by_cases n:l=P
 simp_all
 rw[if_pos c,if_neg n]at e;exact absurd e.symm (j l ((m l g).resolve_right n))
 by_cases n:l=P
 simp_all
 rw[if_neg c,if_neg n]at e;exact J.inj Q ((m Q i).resolve_right c) l ((m l g).resolve_right n) e
 have C:Q∉ks:=fun z=>i (Q0 _ z);have q:¬ Q=P:=fun z=>i (by simp[z]);unfold Zoo;exact if_neg q▸J.out Q C
def NoR (H:Hp) (v:V) (d:Addr) (ts:Ts) (j:Nat):L2.St->Hp->Prop:=fun σ H2=>(∃ z2:Option V,σ=[some v,some (.ref d),z2])/\∃ ks adr r,NJ H H2 d ks adr r/\ks.length<=j/\∀ P,r P=((WH (ts.length-j) j).filter fun i=>decide (frm ts i=P)).reverse
section
variable {P:Oc} {w:Of} {K:PySem.W.Frag} {mg:Str->Option Value} {base:Heap}
abbrev Jk:Stmt:=top 19
abbrev ZfP:List Str:=["ties","numbers","number"]
def scNumbersOut:Zm ZfP ["ties"] (Zf Jk):=⟨rfl,rfl,rfl,by decide +kernel,rfl,by decide +kernel,by decide +kernel⟩
def ZqJ:Sp:=fun vs H Q _=>∃ (v:V) (ts:Ts),vs=[v]/\TiesV H v ts/\ts.length<=400/\∀ d H' ks adr,NJ H H' d ks adr (rows ts)->Q (.ref d) H'
def ZbI (D:HasDef K mg "numbers_out" Jk ["ties"]) (B:Blt mg):FOk P w K mg base 1 "numbers_out" ["ties"] ZqJ:=by
 refine D.ok scNumbersOut (fun t H Q E h=>?_) (fun f cdv A outer s H t Q E hr h=>?_)
 obtain⟨v,g,rfl,_⟩:=h;rfl
 refine B0 ?_;intros;obtain⟨v,g,rfl,hV,hlen,k⟩:=h;refine Pi (id hV) fun a t r0 hs C=>?_;subst r0;refine⟨_,(Zd (Zo (i:=1) scNumbersOut.nd rfl (.inl rfl) Xl)
  (Zd (Yh PassesOwn.never rfl (ZjN rfl B.range (Za (Zv Xe (Zi Zp rfl B.len ZE (Za (pv 0) Zc)) Zh) (Za (Jm YQ Zh) (Za (Jm YQ Zh) Zc)))) (ZG (i:=2) scNumbersOut.nd rfl (.inl rfl))
   (Zg (ZT (Y2 F.plainAttrs_list F.slot_list_append F.type_list_append Z9 (Zfv (pv 1) (Zw ix_tup (Zw (Zai K) (pv 0) (pv 2) (fun _ _=>rfl)) Zh (fun _ _=>rfl)) (Z2 Zc) ⟨rfl,rfl,rfl,rfl⟩) (Za (pv 2) Zc)))))
  (Zg (Zn (pv 1))))),?_⟩
 apply B2;intros;intro d hd;have s1:=Zb (o:=.dK []) hd;have hvl:=C.1;refine⟨_,rfl,.ref a,_,rfl,Zbj (hs.same s1),_,_,rfl,rfl,_,rfl,_,rfl,_,_,rfl,⟨by lia,by lia,by decide,by decide⟩,?_⟩;rw[show((t.length:Int)-1-(-1)).toNat=g.length by lia];refine Zia (fun j σ G=>NoR H (.ref a) d g j σ G) ⟨⟨none,rfl⟩,[],fun _=>d,fun _=>[],⟨s1,hd,Ze,Wx,(fun P h=>by cases h),(fun P h=>by omega),(fun P h=>by simp),fun _ _=>rfl⟩,Ql _,fun P=>by simp⟩ ?_ ?_
 rintro j σ G hj ⟨⟨z2,rfl⟩,u,n,r,J,hkl,m⟩;have hi:g.length-1-j<g.length:=by omega
 refine Pb (C.at hi) fun b sg e1 e2=>?_;have ej:((t.length:Int)-1-(j:Int))=((g.length-1-j:Nat):Int):=by omega
 have hrl:∀ P,(r P).length<=j:=fun P=>by
  rw[m,WG];have:=Q7 (fun i=>decide (frm g i=P)) (WH (g.length-j) j);rw[List.length_range']at this;exact this
 have eR:WH (g.length-(j+1)) (j+1)=(g.length-1-j)::WH (g.length-j) j:=by
  rw[List.range'_succ,show g.length-(j+1)=g.length-1-j by lia,show g.length-1-j+1=g.length-j by lia]
 have I:∀ H4 l,NJ H H4 d (XQ u (frm g (g.length-1-j))) l (Zoo r (frm g (g.length-1-j)) (g.length-1-j))->NoR H (.ref a) d g (j+1) [some (.ref a),some (.ref d),some (.int ((t.length:Int)-1-(j:Int)))] H4:=fun H4 l J4=>by
  refine⟨⟨_,rfl⟩,Lb _ l _ ⟨J4,?_,fun P=>?_⟩⟩
  have:=JV u (frm g (g.length-1-j));exact Kw hkl this
  rw[eR,WL];unfold Zoo;by_cases c:P=frm g (g.length-1-j)
  rw[if_pos c,if_pos (decide_eq_true c.symm),Rl,←c,m]
  rw[if_neg c,if_neg (fun z=>c (of_decide_eq_true z).symm),m]
 refine⟨_,rfl,d,rfl,.inl ⟨_,.inl J.dd⟩,_,rfl,_,rfl,?_⟩;rw[ej];refine Zap ((hs.same J.sm)) e1 ⟨b,_,0,.str (frm g (g.length-1-j)),rfl,rfl,SqT.of (J.sm _ _ e2),rfl,Zk (show 0<=1000 by decide),fun p y=>?_⟩;rw[←ej];refine⟨_,Sum.inr (frm g (g.length-1-j)),Zb y _ _ J.dd,rfl,by rw[ZjE];exact ZC (Tg ej hlen hkl hvl),fun v o=>?_,fun o=>?_⟩
 rw[Zar]at o;by_cases c:frm g (g.length-1-j)∈u
 rw[if_pos c]at o;cases o;have q:=Zb (o:=.lst []) y _ _ (J.row _ c);refine⟨.inl ⟨rfl,_,SqL.of q⟩,_,rfl,Lb (n _) _ (.int ((t.length:Int)-1-(j:Int))) ⟨rfl,rfl,q,?_,?_⟩⟩
 ·rw[Qc];have:=hrl (frm g (g.length-1-j));exact ZC (Tg ej hlen this hvl)
 ·have:=I _ _ (J.old (y:=g.length-1-j) c y);rw[ej]at this ⊢
  simp_all
 rw[if_neg c]at o;cases o
 rw[Zar]at o;by_cases c:frm g (g.length-1-j)∈u
 rw[if_pos c]at o;cases o
 have hpd:p≠d:=fun e=>by rw[e,J.dd]at y;cases y
 rw[ZnR c];have hl:(upd (upd G p (.lst [])) d (.dK (rD (u++[frm g (g.length-1-j)]) fun x=>if x=frm g (g.length-1-j)then p else n x))) p=some (.lst []):=by rw[Zj hpd,Ze]
 refine⟨.inl ⟨rfl,_,SqL.of hl⟩,_,rfl,p,[],.int ((t.length:Int)-1-(j:Int)),rfl,rfl,hl,ZC (by decide),?_⟩;have:=I _ _ (J.new (y:=g.length-1-j) c y);rw[ej]at this ⊢
 simp_all
 rintro σ G ⟨⟨z2,rfl⟩,u,n,r,J,hkl,m⟩;have er:r=rows g:=funext fun P=>by
  rw[m,WW];unfold rows;rw[RP]
 rw[er]at J;exact⟨_,rfl,k d G u n J⟩
def ZrV (H:Hp) (v:V) (X:List Nat):Prop:=∃ q,v= .ref q/\H q=some (.tup (X.map nV))
def Zoh:∀ {Y X},(∃ v,Ch ts u (X++Y) v)->∃ v,Ch ts u X v
 | [],X,h=>by simp_all
 | y::Y,X,h=>by
  rw[show X++y::Y=X++[y]++Y by simp]at h;obtain⟨v,h⟩:=Zoh h;exact⟨_,h.pop.1⟩
def Ch.det {u v w} (h:Ch ts u X v) (h':Ch ts u X w):v=w:=by
 induction h with
 | nil u=>cases h';rfl
 | cons e h d=>cases h' with | cons c h'=>simp_all
abbrev Zju:Stmt:=top 20
noncomputable abbrev Zrh:List Str:=["ties","begin","numbers","point","number"]
def scIsWay:Zm Zrh ["ties","begin","numbers"] (Zf Zju):=⟨rfl,rfl,rfl,by decide +kernel,rfl,by decide +kernel,by decide +kernel⟩
def Zi5:Sp:=fun vs H Q _=>∃ (v x:V) (b:Str) (ts:Ts) (X:List Nat),vs=[v,.str b,x]/\TiesV H v ts/\ZrV H x X/\(∀ i∈X,i<ts.length)/\∀ c:Bool,(c=true↔X.length=ts.length/\∃ f,Ch ts b X f)->Q (.bl c) H
def Zj8 (D:HasDef K mg "is_way" Zju ["ties","begin","numbers"]) (B:Blt mg):FOk P w K mg base 1 "is_way" ["ties","begin","numbers"] Zi5:=by
 refine D.ok scIsWay (fun vs H Q E h=>?_) (fun f cdv A outer s H vs Q E hr h=>?_)
 obtain⟨v,x,b,ts,X,rfl,_⟩:=h;rfl
 refine B0 ?_;intros;obtain⟨v,x,b,ts,X,rfl,⟨a,vs,rfl,hs,hty⟩,⟨q,rfl,hq⟩,hX,k⟩:=h;refine ⟨_,(Zd (ZI (Zq X7 (Zi Zp rfl B.len ZE (Za (pv 2) Zc)) (Zi Zp rfl B.len ZE (Za (pv 0) Zc)) (Zr _)) (Zg (Zn YX)) Zt)
  (Zd (Zo (i:=3) scIsWay.nd rfl (.inl rfl) (pv 1))
  (Zd (Yh PassesOwn.never rfl (Yb (pv 2)) (ZG (i:=4) scIsWay.nd rfl (.inl rfl))
   (Zd (ZI (Zq X7 (Zw ix_tup (Zw (Zai K) (pv 0) (pv 4) (fun _ _=>rfl)) Zh (fun _ _=>rfl)) (pv 3) (Zr _)) (Zg (Zn YX)) Zt)
  (Zg (Zo (i:=3) scIsWay.nd rfl (.inl rfl) (Zw ix_tup (Zw (Zai K) (pv 0) (pv 4) (fun _ _=>rfl)) Zh (fun _ _=>rfl))))))
  (Zg (Zn YX))))),⟨_,rfl,.ref q,_,rfl,.inr ⟨_,SqT.of hq,rfl⟩,_,rfl,.ref a,_,rfl,Zbj hs,rfl,_,rfl,?_⟩⟩;rw[Qc,hty.1];by_cases cl:X.length=ts.length
 refine Yw (by rw[Zg1 (by omega)];rfl) ?_;refine⟨_,rfl,_,rfl,q,rfl,⟨_,SqT.of hq⟩,Y9 (K:=K) (a:=q) (xs:=X.map nV) (fun i σ H2=>(∃ (pt:Str) (z:Option V),σ=[some (.ref a),some (.str b),some (.ref q),some (.str pt),z]/\Ch ts b (X.take i) pt)/\H2=H)
  ⟨⟨b,none,rfl,.nil _⟩,rfl⟩ (fun i σ H2 _ ⟨_,e⟩=>by exact e▸SqT.of hq) ?_ ?_⟩
 rintro i x σ H2 hi ⟨⟨pt,z,rfl,hc⟩,rfl⟩;obtain⟨hi',rfl⟩:=Xb hi;obtain⟨b0,sg,e1,e2⟩:=hty.at (hX X[i] (QA hi'));have etk:X.take (i+1)=X.take i++[X[i]]:=QQ hi';refine⟨_,rfl,_,rfl,Zap hs e1 ⟨b0,_,0,.str (frm ts X[i]),rfl,rfl,SqT.of e2,rfl,_,rfl,rfl,_,rfl,?_⟩⟩;by_cases cf:frm ts X[i]=pt
 exact Yw (by rw[cf];simp) ⟨_,rfl,_,rfl,Zap hs e1 ⟨b0,_,2,.str (tow ts X[i]),rfl,rfl,SqT.of e2,rfl,⟨⟨tow ts X[i],_,rfl,by exact etk▸hc.snoc cf⟩,rfl⟩⟩⟩
 refine YG (by simp[cf]) (k false ⟨fun z=>(by grind),fun z=>?_⟩);obtain⟨_,f,_⟩:=z;have:=Zoh (ts:=ts) (u:=b) (X:=X.take (i+1)) (Y:=X.drop (i+1)) ⟨f,by rw[RH];omega⟩;obtain⟨f',hf'⟩:=this;rw[etk]at hf';exact absurd (hf'.pop.1.det hc) cf
 rintro σ H2 ⟨⟨pt,z,rfl,hc⟩,rfl⟩;rw[Qc,WU]at hc;exact k true ⟨fun _=>⟨cl,pt,hc⟩,fun _=>rfl⟩
 refine YG (by rw[JO (by omega)];rfl) (k false ⟨fun z=>(by grind),fun z=>absurd z.1 cl⟩)
end
structure WJ (H:Hp) (d g bk:Addr) (ks:List Str) (adr:Str->Addr) (H4:Hp) (r:Str->List Nat) (G B:List Nat):Prop where
 sm:Same H H4
 dd:H4 d=some (.dK (rD ks adr))
 row:∀ P∈ks,H4 (adr P)=some (.lst ((r P).map nV))
 gg:H4 g=some (.lst (G.map nV))
 bb:H4 bk=some (.lst (B.map nV))
 gn:H g=none
 bn:H bk=none
 fresh:∀ P∈ks,H (adr P)=none
 inj:∀ P∈ks,∀ P'∈ks,adr P=adr P'->P=P'
 ag:∀ P∈ks,adr P≠g
 ab:∀ P∈ks,adr P≠bk
 gb:g≠bk
 out:∀ P,P∉ks->r P=[]
def WJ.same (J:WJ H d g e ks a b r G B) (s:Same b f):WJ H d g e ks a f r G B where
 sm:=J.sm.trans s
 dd:=s _ _ J.dd
 row:=fun P c=>s _ _ (J.row P c)
 gg:=s _ _ J.gg
 bb:=s _ _ J.bb
 gn:=J.gn
 bn:=J.bn
 fresh:=J.fresh
 inj:=J.inj
 ag:=J.ag
 ab:=J.ab
 gb:=J.gb
 out:=J.out
def WJ.setRow (J:WJ H d g l ks h k r G B) (f:a∈ks):WJ H d g l ks h (upd k (h a) (.lst (X.map nV))) (Zlv r a X) G B where
 sm:=fun b u j=>by
  exact Zj (Zl j (J.fresh a f))▸J.sm b u j
 dd:=by
  exact Zj (Zmq J.dd (J.row a f) (by simp))▸J.dd
 row:=fun P i=>by
  unfold Zlv;by_cases c:P=a
  subst c;rw[if_pos rfl,Ze];rw[if_neg c,Zj fun e=>c (J.inj P i a f e)];exact J.row P i
 gg:=by
  exact Zj (Ne.symm (J.ag a f))▸J.gg
 bb:=by
  exact Zj (Ne.symm (J.ab a f))▸J.bb
 gn:=J.gn
 bn:=J.bn
 fresh:=J.fresh
 inj:=J.inj
 ag:=J.ag
 ab:=J.ab
 gb:=J.gb
 out:=fun P i=>by
  unfold Zlv;rw[if_neg fun e:P=a=>i (e▸f)];exact J.out P i
def WJ.setG (J:WJ H d g h ks a f r G B):WJ H d g h ks a (upd f g (.lst (X.map nV))) r X B where
 sm:=fun b u e=>by
  exact Zj (Zl e J.gn)▸J.sm b u e
 dd:=by
  exact Zj (Zmq J.dd J.gg (by simp))▸J.dd
 row:=fun P c=>by
  exact Zj (J.ag P c)▸J.row P c
 gg:=Ze
 bb:=by
  exact Zj (Ne.symm J.gb)▸J.bb
 gn:=J.gn
 bn:=J.bn
 fresh:=J.fresh
 inj:=J.inj
 ag:=J.ag
 ab:=J.ab
 gb:=J.gb
 out:=J.out
def WJ.setB (J:WJ H d g c ks a h r G B):WJ H d g c ks a (upd h c (.lst (X.map nV))) r G X where
 sm:=fun b u f=>by
  exact Zj (Zl f J.bn)▸J.sm b u f
 dd:=by
  exact Zj (Zmq J.dd J.bb (by simp))▸J.dd
 row:=fun P e=>by
  exact Zj (J.ab P e)▸J.row P e
 gg:=by
  exact Zj J.gb▸J.gg
 bb:=Ze
 gn:=J.gn
 bn:=J.bn
 fresh:=J.fresh
 inj:=J.inj
 ag:=J.ag
 ab:=J.ab
 gb:=J.gb
 out:=J.out
def WJ.got (J:WJ H d g j ks b f r G B) (a) (h:f p=none):∃ l,(XR (rD ks b) (Sum.inr a)).getD (.ref p)= .ref l/\(upd f p (.lst [])) l=some (.lst ((r a).map nV)):=by
 rw[Zar];by_cases c:a∈ks
 exact if_pos c▸⟨_,rfl,Zb h _ _ (J.row a c)⟩;exact if_neg c▸⟨p,rfl,by rw[Ze,J.out a c];rfl⟩
section
variable {P:Oc} {w:Of} {K:PySem.W.Frag} {mg:Str->Option Value} {base:Heap}
abbrev Zjq:Stmt:=top 21
noncomputable abbrev Zrd:List Str:=["ties","begin","left","gone","backwards","point","numbers"]
def scWayOf:Zm Zrd ["ties","begin"] (Zf Zjq):=⟨rfl,rfl,rfl,by decide +kernel,rfl,by decide +kernel,by decide +kernel⟩
def ZqH:Sp:=fun vs H Q _=>∃ (v:V) (b:Str) (ts:Ts),vs=[v,.str b]/\TiesV H v ts/\ts.length<=400/\(Eul ts b (wayX ts b)->∀ x H',Same H H'->ZrV H' x (wayX ts b)->Q x H')/\(¬ Zqf ts b->∀ H',Same H H'->Q .non H')
def Zj2 (D:HasDef K mg "way_of" Zjq ["ties","begin"]) (B:Blt mg) (g41_:FOk P w K mg base 1 "numbers_out" ["ties"] ZqJ) (g35_:FOk P w K mg base 1 "is_way" ["ties","begin","numbers"] Zi5):FOk P w K mg base 2 "way_of" ["ties","begin"] ZqH:=by
 refine D.ok scWayOf (fun vs H Q E h=>?_) (fun f cdv A outer s H vs Q E hr h=>?_)
 ·obtain⟨v,b,ts,rfl,_⟩:=h;rfl
 ·refine B0 ?_;intros;obtain⟨v,b,ts,rfl,hV,hlen,k1,k2⟩:=h;have hu:=Zdd hr;refine Pi (id hV) fun a vs r0 hs hty=>?_;subst r0;refine ⟨_,(Zd (Zo (i:=2) scWayOf.nd rfl (.inl rfl) (Zu g41_ hr (Za (pv 0) Zc)))
   (Zd (Zo (i:=3) scWayOf.nd rfl (.inl rfl) (Z2 Zc))
   (Zd (Zo (i:=4) scWayOf.nd rfl (.inl rfl) (Z2 Zc))
   (Zd (Zo (i:=5) scWayOf.nd rfl (.inl rfl) (pv 1))
   (Zd (Xj PassesOwn.never (PW.pt (YJ (Zq Xv (Zi Zp rfl B.len ZE (Za (Y4 hu (pv 2) (pv 5) (Z2 Zc) ⟨rfl,rfl,rfl,rfl⟩) Zc)) Zh (Zr _)) (Yp (Zq Xv (Zi Zp rfl B.len ZE (Za (pv 3) Zc)) Zh (Zr _)))))
    (Zg (ZI (Zq Xv (Zi Zp rfl B.len ZE (Za (Y4 hu (pv 2) (pv 5) (Z2 Zc) ⟨rfl,rfl,rfl,rfl⟩) Zc)) Zh (Zr _)) (Zd (ZT (Y2 F.plainAttrs_list F.slot_list_append F.type_list_append Z9 (pv 3) (Za (Xs F.plainAttrs_list F.slot_list_pop F.type_list_pop YK (Zfw hu (pv 2) (pv 5) (fun _ _=>rfl))) Zc)))
   (Zg (Zo (i:=5) scWayOf.nd rfl (.inl rfl) (Zw ix_tup (Zw (Zai K) (pv 0) (Zw ix_list (pv 3) (Jm YQ Zh) (fun _ _=>rfl)) (fun _ _=>rfl)) Zh (fun _ _=>rfl))))) (Zd (ZT (Y2 F.plainAttrs_list F.slot_list_append F.type_list_append Z9 (pv 4) (Za (Xs F.plainAttrs_list F.slot_list_pop F.type_list_pop YK (pv 3)) Zc)))
   (Zg (Zo (i:=5) scWayOf.nd rfl (.inl rfl) (Zw ix_tup (Zw (Zai K) (pv 0) (Zw ix_list (pv 4) (Jm YQ Zh) (fun _ _=>rfl)) (fun _ _=>rfl)) Zh (fun _ _=>rfl))))))))
   (Zd (Zo (i:=6) scWayOf.nd rfl (.inl rfl) (ZB ZJ rfl B.tuple Yc (Za (Zq1 (pv 4) (Jm YQ Zh)) Zc)))
   (Zd (ZI (ZS (Zu g35_ hr (Za (pv 0) (Za (pv 1) (Za (pv 6) Zc))))) (Zg (Zn (pv 6))) Zt)
   (Zg (Zn Zbb))))))))),⟨_,rfl,.ref a,ts,rfl,hV,hlen,fun d H1 ks adr J=>?_⟩⟩;refine ⟨Zk (show 0<=1000 by decide),fun g hg=>⟨Zk (show 0<=1000 by decide),fun bk hbk=>?_⟩⟩;have hgb:g≠bk:=fun e=>by rw[←e,Ze]at hbk;simp_all
  have hbk1:H1 bk=none:=by rw[Zj (Ne.symm hgb)]at hbk;omega
  have W0:WJ H d g bk ks adr (upd (upd H1 g (.lst [])) bk (.lst [])) (rows ts) [] []:=by
   have ss:=(Zb (o:=.lst []) hg).trans (Zb (o:=.lst []) hbk);exact⟨J.sm.trans ss,ss _ _ J.dd,fun P hP=>ss _ _ (J.row P hP),by rw[Zj hgb,Ze];rfl,Ze,J.sm.free hg,J.sm.free hbk1,J.fresh,J.inj,(fun P hP e=>by have:=J.row P hP;simp_all),(fun P hP e=>by have:=J.row P hP;simp_all),hgb,J.out⟩
  generalize upd (upd H1 g (.lst [])) bk (.lst [])=H3 at W0;refine⟨_,rfl,?_⟩
  try dsimp only[Jp]
  apply B4;intros;show Zqh (ZdD _ _) _ _ _ _;refine Yr (fun σ H4=>∃ (pt:Str) (r:Str->List Nat) (BB:List Nat),σ=[some (.ref a),some (.str b),some (.ref d),some (.ref g),some (.ref bk),some (.str pt),none]/\WJ H d g bk ks adr H4 r [] BB/\WI ts b pt r [] BB/\r pt=[]/\BB.reverse=wayX ts b) (fun R hR=>?_) ?_
  ·refine⟨fun m σ H4=>∃ (pt:Str) (r:Str->List Nat) (G BB:List Nat),σ=[some (.ref a),some (.str b),some (.ref d),some (.ref g),some (.ref bk),some (.str pt),none]/\WJ H d g bk ks adr H4 r G BB/\WI ts b pt r G BB/\m=2*(ts.length-(G.length+BB.length))+G.length/\wlk ts m r pt G BB=wlk ts (2*ts.length) (rows ts) b [] [],
    ⟨_,b,rows ts,[],[],rfl,W0,WI.start (ZoY ts) (Zl5 ts),rfl,by simp⟩,?_⟩
   rintro m σ H4 ⟨pt,r,G,BB,rfl,J4,hW,hm,hw⟩;have hl4:=hW.len;have hrl:=hW.in_len pt;refine⟨_,rfl,d,rfl,.inl ⟨_,.inl J4.dd⟩,_,rfl,Zk (show 0<=1000 by decide),fun p hp=>?_⟩;have s5:=Zb (o:=.lst []) hp;refine Pe (J4.got pt hp) fun l el hl=>?_;have J5:=J4.same s5;refine⟨_,.inl ⟨_,Sum.inr pt,.inl J5.dd,rfl,rfl⟩,?_⟩;rw[el];generalize upd H4 p (.lst [])=H5 at J5 hl;clear hp s5 el J4 H4;refine⟨.ref l,_,rfl,.inl ⟨_,SqL.of hl,rfl⟩,_,_,rfl,rfl,_,rfl,?_⟩;rw[Qc];rcases Uc (r pt)with e0 | ⟨X,i,e0⟩
   ·refine Yw (by rw[e0];simp) ⟨_,rfl,.ref g,_,rfl,.inl ⟨_,SqL.of J5.gg,rfl⟩,_,_,rfl,rfl,_,rfl,?_⟩;rw[Qc];rcases Uc G with rfl | ⟨X,i,rfl⟩
    ·refine Yw (by simp) (hR _ _ ⟨pt,r,BB,rfl,J5,hW,e0,?_⟩);rw[ZlA e0]at hw;unfold wayX;rw[←hw]
    ·rw[Ux]at *;refine YG (by simp) ?_;have hi:i<ts.length:=hW.lt i (by simp);refine Pb (hty.at hi) fun b0 sg f1 f2=>?_;rw[Qm,QD]at hm hl4;refine ⟨fun σ' H'=>∃ m',m'<m/\∃ (pt:Str) (r:Str->List Nat) (G BB:List Nat),σ'=[some (.ref a),some (.str b),some (.ref d),some (.ref g),some (.ref bk),some (.str pt),none]/\WJ H d g bk ks adr H' r G BB/\WI ts b pt r G BB/\m'=2*(ts.length-(G.length+BB.length))+G.length/\wlk ts m' r pt G BB=wlk ts (2*ts.length) (rows ts) b [] [],fun _ _ z=>z,⟨_,rfl,d,rfl,.inl ⟨_,.inl J5.dd⟩,_,rfl,Zk (show 0<=1000 by decide),fun p hp=>?_⟩⟩;have s5:=Zb (o:=.lst []) hp;obtain⟨l',el,hl'⟩:=J5.got pt hp;have J6:=J5.same s5;refine⟨_,.inl ⟨_,Sum.inr pt,.inl J6.dd,rfl,rfl⟩,?_⟩;rw[el];generalize upd H5 p (.lst [])=H6 at J6 hl';refine⟨.ref l',_,rfl,.inl ⟨_,SqL.of hl',rfl⟩,_,_,rfl,rfl,_,rfl,?_⟩;rw[Qc];refine Yw (by rw[e0];simp) ⟨_,rfl,.inl ⟨rfl,_,SqL.of J6.bb⟩,_,rfl,.inl ⟨rfl,_,SqL.of J6.gg⟩,g,_,nV i,rfl,rfl,J6.gg,by simp,?_⟩;rw[show((X++[i]).map nV).dropLast=X.map nV by simp];have J7:=J6.setG (X:=X);refine Lb bk _ (nV i) ⟨rfl,rfl,J7.bb,by rw[Qc];exact ZC (by omega),?_⟩;rw[show BB.map nV++[nV i]=(BB++[i]).map nV by rw[QM,Wt]];have J8:=J7.setB (X:=BB++[i]);refine ⟨_,rfl,_,rfl,_,rfl,Ld bk _ (-1) (nV i) ⟨rfl,rfl,SqL.of J8.bb,by rw[QM,Wt];exact Zlo,Zap (hs.same J8.sm) f1 ⟨b0,_,0,.str (frm ts i),rfl,rfl,SqT.of (J8.sm _ _ f2),rfl,?_⟩⟩⟩;refine⟨2*(ts.length-(X.length+(BB++[i]).length))+X.length,?_,Ld (frm ts i) r X (BB++[i]) ⟨rfl,J8,hW.pop e0,rfl,?_⟩⟩
     ·rw[Qm,QD];lia
     ·rw[←hw,show m=2*(ts.length-(X.length+(BB++[i]).length))+X.length+1 by rw[Qm,QD];lia,Zlz e0]
   ·rw[Ux]at e0;refine YG (by rw[e0];simp) ?_;refine YG rfl ?_;have hik:i∈r pt:=by rw[e0];simp
    have hpk:pt∈ks:=Classical.byContradiction fun c=>by rw[J5.out pt c]at hik;cases hik
    have hi:i<ts.length:=((hW.row pt i).mp hik).1;obtain⟨b0,sg,f1,f2⟩:=hty.at hi;have hW2:=hW.push e0;have hl5:=hW2.len;rw[Qm,QD]at hl5;refine⟨fun σ' H'=>∃ m',m'<m/\∃ (pt:Str) (r:Str->List Nat) (G BB:List Nat),σ'=[some (.ref a),some (.str b),some (.ref d),some (.ref g),some (.ref bk),some (.str pt),none]/\WJ H d g bk ks adr H' r G BB/\WI ts b pt r G BB/\m'=2*(ts.length-(G.length+BB.length))+G.length/\wlk ts m' r pt G BB=wlk ts (2*ts.length) (rows ts) b [] [],fun _ _ z=>z,?_⟩;refine⟨_,rfl,d,rfl,.inl ⟨_,.inl J5.dd⟩,_,rfl,Zk (show 0<=1000 by decide),fun p hp=>?_⟩;have s5:=Zb (o:=.lst []) hp;obtain⟨l',el,hl'⟩:=J5.got pt hp;have J6:=J5.same s5;refine⟨_,.inl ⟨_,Sum.inr pt,.inl J6.dd,rfl,rfl⟩,?_⟩;rw[el];generalize upd H5 p (.lst [])=H6 at J6 hl';refine⟨.ref l',_,rfl,.inl ⟨_,SqL.of hl',rfl⟩,_,_,rfl,rfl,_,rfl,?_⟩;rw[Qc];refine YG (by rw[e0];simp) ?_;have hrow:=J6.row pt hpk;rw[e0]at hrow;refine⟨_,rfl,.inl ⟨rfl,_,SqL.of J6.gg⟩,_,rfl,_,rfl,d,.ref (adr pt),rfl,.inl ⟨_,Sum.inr pt,.inl J6.dd,rfl,by rw[Zar,if_pos hpk]⟩,.inl ⟨rfl,_,SqL.of hrow⟩,Lb (adr pt) _ (nV i) ⟨rfl,rfl,hrow,by simp,?_⟩⟩;rw[show((X++[i]).map nV).dropLast=X.map nV by rw[QM,Wt,RN]];have J7:=J6.setRow (X:=X) hpk;refine Lb g _ (nV i) ⟨rfl,rfl,J7.gg,by rw[Qc];exact ZC (by lia),?_⟩;rw[show G.map nV++[nV i]=(G++[i]).map nV by rw[QM,Wt]];have J8:=J7.setG (X:=G++[i]);refine⟨_,rfl,_,rfl,_,rfl,Ld g _ (-1) (nV i) ⟨rfl,rfl,SqL.of J8.gg,by rw[QM,Wt];exact Zlo,?_⟩⟩;refine Zap (hs.same J8.sm) f1 ⟨b0,_,2,.str (tow ts i),rfl,rfl,SqT.of (J8.sm _ _ f2),rfl,?_⟩;refine⟨2*(ts.length-((G++[i]).length+BB.length))+(G++[i]).length,?_,Ld (tow ts i) (Zlv r pt X) (G++[i]) BB ⟨rfl,J8,hW2,rfl,?_⟩⟩
    ·rw[Qm,QD];omega
    ·rw[←hw,show m=2*(ts.length-((G++[i]).length+BB.length))+(G++[i]).length+1 by rw[Qm,QD];omega,Zin e0]
  ·rintro σ H4 ⟨pt,r,BB,rfl,J4,hW,e0,ew⟩;refine⟨_,rfl,_,rfl,bk,_,rfl,SqL.of J4.bb,rfl,fun p hp=>?_⟩;refine⟨p,_,rfl,.inl ⟨SqL.of Ze,fun l hl=>?_⟩⟩;have s5:=(J4.sm.trans (Zb (o:=.lst (BB.map nV).reverse) hp)).trans (Zb (o:=.tup (BB.map nV).reverse) hl);have hT:ZrV (upd (upd H4 p (.lst (BB.map nV).reverse)) l (.tup (BB.map nV).reverse)) (.ref l) (wayX ts b):=⟨l,rfl,by rw[Ze,←ew,Vi]⟩
   refine⟨_,rfl,_,rfl,_,rfl,La (.ref a) (.ref l) b ts (wayX ts b) ⟨rfl,hV.same s5,hT,fun i hi=>?_,fun c hc=>?_⟩⟩
   ·rw[←ew,UE]at hi;exact hW.lt i (by simpa using hi)
   ·refine⟨_,rfl,?_⟩;cases c with
    | true =>
     obtain⟨h1,f,h2⟩:=hc.mp rfl;rw[←ew]at h1 h2;rw[WG]at h1;have hE:=hW.eul h1 h2;rw[ew]at hE;exact YG rfl ⟨_,rfl,k1 hE _ _ s5 hT⟩
    | false =>
     refine Yw rfl (k2 (fun hg=>?_) _ s5);have hE:=hW.done e0 hg;rw[ew]at hE;have:=hc.mpr ⟨by rw[hE.1.length_eq,Q3],hE.2⟩;cases this
end
end Sh
namespace L2
def Zh0:MtR X "list.extend" ZjD:=Zkp
end L2
namespace Sh
open PySem L2 PyProof.Rows
seal L2.PE L2.PS L2.PSs L2.PT L2.PW L2.PA L2.PI L2.PG L2.PGs L2.PO L2.PC L2.PCs L2.OpR L2.UnR L2.CallR L2.MtR L2.IxR L2.SlR
structure Hpy (es:Es) (L:Nat):Prop where
 fine:JW es
 ne:es≠[]
 len:∀ e∈es,e.1.length=L
 l1:1<=L
 l3:L<=300
 pos:∀ e∈es,1<=e.2
 tot:(ZH es).length<=350
 srt:((es.map (·.1)).map fun x=>x.cps.toList).Pairwise (· < ·)
 cd:∀ e∈es,Cd e.1.cps.toList
def Zoj (x):(bg x).length=x.length-1:=by
 unfold bg;rw[ZZ,RK,Yv]
def ZrF (x):(en x).length=x.length-1:=by
 unfold en;rw[ZZ,Wa,Yv]
def TyS (H:Hp) (us:List V) (T:List Str):Prop:=us.length=T.length/\∀ (i:Nat) (x:Str),T[i]?=some x->∃ b,us[i]?=some (.ref b)/\H b=some (.tup [.str (bg x),.str (tx [lst x]),.str (en x)])
def TyS.same (h:TyS H d T) (s:TSame H a):TyS a d T:=⟨h.1,fun i x e=>by
 obtain⟨b,f,c⟩:=h.2 i x e;exact⟨b,f,s _ _ c⟩⟩
def TyS.rep (h:TyS H j T) (d:H b=some (.tup [.str (bg x),.str (tx [lst x]),.str (en x)])) (n):TyS H (j++QR n (.ref b)) (T++QR n x):=by
 refine⟨by simp[h.1],fun i y e=>?_⟩;by_cases f:i<T.length
 rw[QS f]at e;obtain⟨c,k,g⟩:=h.2 i y e;exact⟨c,by rw[QS (by rw[h.1];exact f)];omega,g⟩;rw[QY (G7 f)]at e;have a:=(Qo.mp e).1;rw[Uu]at a;rw[(Rg.mp (Ww e)).2];refine⟨b,?_,d⟩;rw[QY (by rw[h.1];exact G7 f),h.1,WR,if_pos a]
def TyS.tyA (h:TyS H c (ZH es)):TyA H c (tsE es):=⟨by rw[h.1,Yz],fun i t e=>by
 unfold tsE at e;rw[Qh]at e;cases a:(ZH es)[i]? with
 | none=>simp_all
 | some x =>
  rw[a]at e;cases e;obtain⟨b,f,d⟩:=h.2 i x a;exact⟨b,f,_,d⟩⟩
def Zna {l} {c:α}:atI (l++[c]) (-1)=some c:=by
 unfold atI ixN;rw[if_neg (by decide),if_pos (by rw[Qm,QD];exact My)];simp only[Vl,Qm,QD];rw[show((-1)+((l.length+1:Nat):Int)).toNat=l.length by exact Mz];simp
def Zrn (h:1<=x.length):atI x.cps.toList (-1)=some (lst x):=by
 exact Zoi h▸Zna
def Zib:(ZH (es.take n)).length<=(ZH es).length:=by
 have:ZH es=ZH (es.take n)++ZH (es.drop n):=by
  unfold ZH;rw[←List.flatMap_append,RH]
 rw[this,Qm];exact V4
def ZtD (H:Hp) (x:V) (ts:Ts) (b:Str):Prop:=(Eul ts b (wayX ts b)/\ZrV H x (wayX ts b))\/(¬ Zqf ts b/\x= .non)
def Zly {Q:V->Hp->Prop} (h:∀ x a,Same H a->ZtD a x ts b->Q x a):(Eul ts b (wayX ts b)->∀ x a,Same H a->ZrV a x (wayX ts b)->Q x a)/\(¬ Zqf ts b->∀ a,Same H a->Q .non a) :=
 ⟨fun e x a s t=>h x a s (.inl ⟨e,t⟩),fun g a s=>h _ a s (.inr ⟨g,rfl⟩)⟩
section
variable {P:Oc} {w:Of} {K:PySem.W.Frag} {mg:Str->Option Value} {base:Heap}
abbrev Zfi:Stmt:=top 3
abbrev Zpq:List Str:=["H","ties","piece","many"]
def scTiesOf:Zm Zpq ["H"] (Zf Zfi):=⟨rfl,rfl,rfl,by decide +kernel,rfl,by decide +kernel,by decide +kernel⟩
def Zgm:Sp:=fun vs H Q _=>∃ (v:V) (es:Es) (L:Nat),vs=[v]/\HeapV H v es/\Hpy es L/\∀ q us H',Same H H'->H' q=some (.lst us)->TyS H' us (ZH es)->Q (.ref q) H'
def ZhG (D:HasDef K mg "ties_of" Zfi ["H"]) (g17_:FOk P w K mg base 1 "begin_of" ["piece"] Zcs) (g23_:FOk P w K mg base 1 "end_of" ["piece"] Zhw):FOk P w K mg base 2 "ties_of" ["H"] Zgm:=by
 refine D.ok scTiesOf (fun vs H Q E h=>?_) (fun f cdv A outer s H vs Q E hr h=>?_)
 obtain⟨v,es,L,rfl,_⟩:=h;rfl
 refine B0 ?_;intros;obtain⟨v,es,L,rfl,⟨q,vs,rfl,hq,hpa⟩,hF,k⟩:=h;refine ⟨_,(Zd (Zo (i:=1) scTiesOf.nd rfl (.inl rfl) (Z2 Zc))
  (Zd (Yh PassesOwn.never rfl (Yb (pv 0)) (Yt 2 K rfl (Zy (ZG (i:=2) scTiesOf.nd rfl (.inl rfl)) (Zy (ZG (i:=3) scTiesOf.nd rfl (.inl rfl)) Ys)))
   (Zg (ZT (Y2 F.plainAttrs_list F.slot_list_extend F.type_list_extend Zh0 (pv 1) (Za (Zv ZnY (Z2 (Za (YW (Za (Zu g17_ hr (Za (pv 2) Zc)) (Za (Zw Zg0 (pv 2) (Jm YQ Zh) (fun _ _=>rfl)) (Za (Zu g23_ hr (Za (pv 2) Zc)) Zc)))) Zc)) (pv 3)) Zc)))))
  (Zg (Zn (pv 1))))),⟨Zk (show 0<=1000 by decide),fun l hl=>?_⟩⟩;have s1:=Zb (o:=.lst []) hl;refine⟨_,rfl,q,rfl,⟨_,SqT.of (s1 _ _ hq)⟩,?_⟩;refine Y9 (K:=K) (a:=q) (xs:=vs) (fun i σ H2=>∃ (z2 z3:Option V) (us:List V),σ=[some (.ref q),some (.ref l),z2,z3]/\Same H H2/\H2 l=some (.lst us)/\TyS H2 us (ZH (es.take i)))
  ⟨none,none,[],rfl,s1,Ze,⟨rfl,fun i x e=>by cases e⟩⟩ (fun i σ H2 _ ⟨_,_,_,_,s2,_⟩=>SqT.of (s2 _ _ hq)) ?_ ?_
 rintro i x σ H2 hi ⟨z2,z3,us,rfl,s2,hl2,hty⟩;have hiv:i<vs.length:=(Qo.mp hi).1;have hie:i<es.length:=by rw[←hpa.1];exact hiv
 refine Pe (hpa.2 i es[i] (Qa hie)) fun b e1 e2=>?_;rw[hi]at e1;cases e1;obtain⟨l1,l2⟩:=hF.fine.long es[i] (QA hie);have hm:=hF.fine.many es[i] (QA hie);have htot:=hF.tot;have ht1:=Zib (es:=es) (n:=i);have hul:=hty.1;refine⟨b,_,rfl,SqT.of (s2 _ _ e2),rfl,_,_,rfl,_,_,rfl,rfl,?_⟩;rw[(QQ hie),Zic];generalize es[i]=e at *;refine⟨_,rfl,.inl ⟨rfl,_,SqL.of hl2⟩,_,rfl,e.1,rfl,l1,l2,_,rfl,_,rfl,Lb e.1 _ _ ⟨rfl,rfl,Yl l2,Zrn l1,_,rfl,e.1,rfl,l1,l2,Zk (show 3<=1000 by decide),fun t ht=>?_⟩⟩;have t1:=Zb (o:=.tup [.str (bg e.1),.str (tx [lst e.1]),.str (en e.1)]) ht;refine⟨Zk (show 1<=1000 by decide),fun p hp=>?_⟩;have t2:=Zb (o:=.lst [.ref t]) hp;refine⟨_,rfl,Lb p e.2 _ ⟨rfl,rfl,Ze,by omega,by omega,Zk (by simp only[QD];lia),fun p2 hp2=>?_⟩⟩;rw[Zg9];have t3:=Zb (o:=.lst (QR e.2.toNat (V.ref t))) hp2;have hl5:=t3 _ _ (t2 _ _ (t1 _ _ hl2));refine Ld l p2 _ _ ⟨rfl,rfl,hl5,Ze,?_,?_⟩
 rw[Uu];refine Zs ?_;lia
 have ts:=Xi (ys:=us++QR e.2.toNat (V.ref t)) hl5;exact Lb _ _ _ ⟨rfl,fun b u hb=>by exact Zj (Zl hb hl)▸t3 _ _ (t2 _ _ (t1 _ _ (s2 b u hb))),Ze,((hty.same (((t1.trans t2).trans t3).tup.trans ts)).rep (ts _ _ (t3 _ _ (t2 _ _ Ze))) _)⟩
 rintro σ H2 ⟨z2,z3,us,rfl,s2,hl2,hty⟩;rw[hpa.1,WU]at hty;exact⟨_,rfl,k l us H2 s2 hl2 hty⟩
abbrev Zcz:Stmt:=top 9
abbrev Zmu:List Str:=["H","wish","begins"]
def scStartOf:Zm Zmu ["H","wish"] (Zf Zcz):=⟨rfl,rfl,rfl,by decide +kernel,rfl,by decide +kernel,by decide +kernel⟩
def ZiU:Sp:=fun vs H Q _=>∃ (v:V) (wsh:Str) (es:Es),vs=[v,.str wsh]/\HeapV H v es/\JW es/\∀ H' ss,Same H H'->SPts es ss->Q (.str (Zno wsh (ups (mo es) ss))) H'
def ZfC (D:HasDef K mg "start_of" Zcz ["H","wish"]) (B:Blt mg) (c:FOk P w K mg base 3 "begins_of" ["H"] Jw):FOk P w K mg base 4 "start_of" ["H","wish"] ZiU:=by
 refine D.ok scStartOf (fun vs H Q E h=>?_) fun f cdv A e s H vs Q E hr h=>?_;obtain⟨v,i,o,rfl,_⟩:=h;rfl;refine B0 ?_;intros;obtain⟨v,i,o,rfl,y,hF,k⟩:=h;refine⟨_,(Zd (Zo (i:=2) scStartOf.nd rfl (.inl rfl) (Zu c hr (Za (pv 0) Zc)))
  (Zd (ZI (Zq YF (Zi Zp rfl B.len ZE (Za (pv 2) Zc)) Zh (Zr _)) (Zg (Zn (pv 1))) Zt)
  (Zg (Zn (Zw ix_tup (Zw ix_tup (pv 2) Zh fun _ _=>rfl) Zh fun _ _=>rfl))))),⟨_,rfl,v,o,rfl,y,hF,fun v' H1 p x d j=>?_⟩⟩
 have r:=k H1 p x j;refine Pi d fun q us r0 m a=>?_;subst r0;refine⟨_,rfl,_,_,rfl,.inr ⟨_,SqT.of m,rfl⟩,rfl,_,rfl,?_⟩;rw[a.1];generalize ups _ p=l at *;cases l with
 | nil=>exact YG (by decide) ⟨_,rfl,r⟩
 | cons u l =>
  refine Yw (JO (by rw[QC];omega)) ?_;have⟨b,e1,t⟩:=a.2 0 u rfl;exact⟨_,rfl,Ld q us 0 _ ⟨rfl,rfl,SqT.of m,ZL (by decide) e1,Ld b _ 0 _ ⟨rfl,rfl,SqT.of t,rfl,r⟩⟩⟩
abbrev JA:Stmt:=top 22
noncomputable abbrev Zek:List Str:=["ties","begin","numbers"]
def scTextFrom:Zm Zek ["ties","begin"] (Zf JA):=⟨rfl,rfl,rfl,by decide +kernel,rfl,by decide +kernel,by decide +kernel⟩
def ZbX:Sp:=fun vs H Q _=>∃ (q:Addr) (b:Str) (us:List V) (es:Es) (L:Nat),vs=[.ref q,.str b]/\H q=some (.lst us)/\TyS H us (ZH es)/\Hpy es L/\b.length=L-1/\Zqf (tsE es) b/\∀ H',Same H H'->Eul (tsE es) b (wayX (tsE es) b)->Q (.str (tx (spell es b (wayX (tsE es) b)))) H'
def Zd2 (D:HasDef K mg "text_from" JA ["ties","begin"]) (B:Blt mg) (g62_:FOk P w K mg base 2 "way_of" ["ties","begin"] ZqH):FOk P w K mg base 3 "text_from" ["ties","begin"] ZbX:=by
 refine D.ok scTextFrom (fun vs H Q E h=>?_) (fun f cdv A outer s H vs Q E hr h=>?_)
 ·obtain⟨q,b,us,es,L,rfl,_⟩:=h;rfl
 ·refine B0 ?_;intros;obtain⟨q,b,us,es,L,rfl,hq,hty,hF,hb,hg,k⟩:=h;refine⟨_,(Zd (Zo (i:=2) scTextFrom.nd rfl (.inl rfl) (Zu g62_ hr (Za (pv 0) (Za (pv 1) Zc))))
   (Zd (ZI (Zq Zn0 (pv 2) Zbb (Zr _)) (Zg (Zn Zbb)) Zt)
   (Zg (Zn (Zv Yf (pv 1) (Y2 F.plainAttrs_str F.slot_str_join F.type_str_join ZfQ Z1 (Za (Zx (Zf JA) Zek ["number"] [0] rfl (Yb (pv 2)) (fun _ _ _ _ _=>ZW 0) (fun _ _ _ _ _=>ZD) (fun _ _ _ _ _=>(Zw (Zbn K) (Zw (Y6 K) (pv 1) (pv 0) (fun _ _=>rfl)) Zh (fun _ _=>rfl)))) Zc))))))),?_⟩
  apply B2;intros;have htot:=hF.tot;have hl3:=hF.l3;refine⟨_,rfl,_,rfl,.ref q,b,tsE es,rfl,⟨q,us,rfl,.inl hq,hty.tyA⟩,by rw[Yz];lia,Zly fun x H1 s1 hx=>?_⟩;rcases hx with ⟨hE,qn,rfl,hqn⟩ | ⟨hn,_⟩
  rotate_left
  ·exact absurd hg hn
  have kE:=fun H' s'=>k H' s' hE;have hXl:(wayX (tsE es) b).length=(ZH es).length:=by rw[hE.1.length_eq,Q3,Yz]
  have hX:∀ i∈wayX (tsE es) b,i<(ZH es).length:=fun i hi=>by
   have:=QK.mp (hE.1.mem_iff.mp hi);rw[Yz]at this;exact this
  generalize wayX (tsE es) b=X at *;refine⟨_,rfl,rfl,_,rfl,Yw (by simp) ?_⟩;refine⟨_,rfl,rfl,_,rfl,qn,rfl,⟨_,SqT.of hqn⟩,Z3 X.length (fun i=>(X.map nV).getD i .non) (fun i v _=>v= .str (tx [lst ((ZH es).getD (X.getD i 0) "")])) (Zk (Bz htot hXl)) (fun _ _ _ _ _ r=>r) (by have:=Xg (SqT.of (K:=K) hqn);rw[Qc]at this;trivial) ?_ ?_⟩
  ·intro i H3 Qe hi hs kq;rw[Y0 hi];have hin:=hX X[i] (QA hi);obtain⟨b0,e1,e2⟩:=hty.2 X[i] (ZH es)[X[i]] (Qa hin);refine⟨_,rfl,_,rfl,Ld q us (X[i]) (.ref b0) ⟨rfl,rfl,SqL.of (hs _ _ (s1 _ _ hq)),Z5 e1,Ld b0 _ 1 _ ⟨rfl,rfl,SqT.of (hs _ _ (s1 _ _ e2)),rfl,kq _ _ (Same.refl _) ?_⟩⟩⟩;rw[Qb (l:=X),Qa hi,UX,Qb,Qa hin];rfl
  intro D1 vs1 H3 hl1 hr1 hs3 hD1 hDl1;have ev:vs1=((X.map fun i=>lst ((ZH es).getD i "")).map fun c=>tx [c]).map V.str:=by
   rw[QN,QN];refine Zoq hl1 fun i v hv c hc=>?_;rw[hr1 i v hv,Qb (l:=X),hc];rfl
  rw[ev]at hDl1;have hos:=Zmf (X.map fun i=>lst ((ZH es).getD i "")) (by rw[Qc];exact Bz htot hXl);refine Lb ("") D1 _ ⟨rfl,rfl,SqL.of hDl1,hos,?_⟩;rw[ZkD];refine⟨_,_,rfl,rfl,?_,?_⟩
  ·rw[ZZ,Qc];refine Zk ?_;lia
  rw[show b++tx (X.map fun i=>lst ((ZH es).getD i ""))=tx (spell es b X)by unfold spell;rw[←ZbS,tx_eta]];exact kE H3 (s1.trans hs3)
end
def Zqe (e0:Str×Int) (es0:Es):Prop:=∀ e∈e0::es0,Rch (e0::es0) (bg e0.1) (bg e.1)
def VerV (H:Hp) (v:V) (e0:Str×Int) (es0:Es) (L:Nat):Prop:=∃ q wd x ss,v= .ref q/\H q=some (.tup [.str wd,x])/\SPts (e0::es0) ss /\
 ((wd = "begins"/\1<sm (ups (mo (e0::es0)) ss)/\HeapV H x (ups (mo (e0::es0)) ss)) \/
  (wd = "apart"/\¬ 1<sm (ups (mo (e0::es0)) ss)/\¬ Zqe e0 es0/\∃ ps,TupS H x ps/\(ps.map fun x=>x.cps.toList).Pairwise (· < ·)/\ps.length<=602/\∀ x,x∈ps↔Rch (e0::es0) (bg e0.1) x) \/
  (wd = "text"/\¬ 1<sm (ups (mo (e0::es0)) ss)/\Zqe e0 es0/\∃ b X,x= .str (tx (spell (e0::es0) b X))/\b=X9 e0 (ups (mo (e0::es0)) ss)/\X=wayX (tsE (e0::es0)) b/\Eul (tsE (e0::es0)) b X/\b.length=L-1))
def ZiN {a:Es} (d:Hpy (c::a) L) (h:SPts (c::a) ss):(X9 c (ups (mo (c::a)) ss)).length=L-1:=by
 cases r:ups _ ss with
 | nil =>
  show(bg _).length=L-1;rw[Zoj,d.len c Qd ..]
 | cons u o =>
  have j:u∈ups (mo (c::a)) ss:=by simp_all
  obtain⟨p,m,l⟩:=Qk.mp j;obtain⟨k,_⟩:=QF.mp m;obtain⟨e,f,q⟩:=(h.pts.mem p).mp k;rw[←l];show p.length=L-1;rcases q with q | q
  rw[←q,Zoj,d.len e f];rw[←q,ZrF,d.len e f]
def ZsZ (b) (a):Zno (bg b.1) a=X9 b a:=by
 rfl
section
variable {P:Oc} {w:Of} {K:PySem.W.Frag} {mg:Str->Option Value} {base:Heap}
abbrev Zcx:Stmt:=top 26
abbrev Zms:List Str:=["H"]
def Zjj:Zm Zms ["H"] (Zf Zcx):=⟨rfl,rfl,rfl,by simp,rfl,by decide +kernel,by decide +kernel⟩
def ZaS:Sp:=fun vs H Q _=>∃ (v:V) (e0:Str×Int) (es0:Es) (L:Nat),vs=[v]/\HeapV H v (e0::es0)/\Hpy (e0::es0) L/\∀ v' H',Same H H'->VerV H' v' e0 es0 L->Q v' H'
def ZhF (D:HasDef K mg "verdict" Zcx ["H"]) (B:Blt mg) (g28_:FOk P w K mg base 4 "has_many_begins" ["H"] Zfc) (g18_:FOk P w K mg base 4 "begins_of" ["H"] Jw) (g27_:FOk P w K mg base 4 "hangs" ["H"] Zfd) (g44_:FOk P w K mg base 4 "part_of" ["H"] Zi1) (g57_:FOk P w K mg base 4 "ties_of" ["H"] Zgm) (g17_:FOk P w K mg base 4 "begin_of" ["piece"] Zcs) (g51_:FOk P w K mg base 4 "start_of" ["H","wish"] ZiU) (g54_:FOk P w K mg base 4 "text_from" ["ties","begin"] ZbX):FOk P w K mg base 5 "verdict" ["H"] ZaS:=by
 refine D.ok Zjj (fun vs H Q E h=>?_) (fun f cdv A outer s H vs Q E hr h=>?_)
 obtain⟨v,e0,es0,L,rfl,_⟩:=h;rfl
 refine B0 ?_;intros;obtain⟨v,e0,es0,L,rfl,hV,hF,k⟩:=h;refine ⟨_,(Zd (ZI (ZS (Zu g28_ hr (Za (pv 0) Zc))) (Zg (Zn (YW (Za Z1 (Za (Zu g18_ hr (Za (pv 0) Zc)) Zc))))) Zt)
  (Zd (ZI (ZU (ZS (Zu g27_ hr (Za (pv 0) Zc)))) (Zg (Zn (YW (Za Z1 (Za (Zu g44_ hr (Za (pv 0) Zc)) Zc))))) Zt)
  (Zg (Zn (YW (Za Z1 (Za (Zu g54_ hr (Za (Zu g57_ hr (Za (pv 0) Zc)) (Za (Zu g51_ hr (Za (pv 0) (Za (Zu g17_ hr (Za (Zw ix_tup (Zw ix_tup (pv 0) Zh (fun _ _=>rfl)) Zh (fun _ _=>rfl)) Zc)) Zc))) Zc))) Zc))))))),⟨_,rfl,v,_,rfl,hV,hF.fine,fun H1 ss s1 hss=>⟨_,rfl,?_⟩⟩⟩;by_cases c1:1<sm (ups (mo (e0::es0)) ss)
 refine YG (decide_eq_true c1) ⟨_,rfl,v,_,rfl,hV.same s1,hF.fine,fun v' H2 ss2 s2 hv' hss2=>⟨Zk (show 2<=1000 by decide),fun p hp=>?_⟩⟩;have es:=hss.one hss2;subst es;have s3:=Zb (o:=.tup [.str "begins",v']) hp;exact k _ _ ((s1.trans s2).trans s3) ⟨p,"begins",v',ss,rfl,Ze,hss,.inl ⟨rfl,c1,hv'.same s3⟩⟩
 refine Yw (decide_eq_false c1) ⟨_,rfl,v,e0,es0,rfl,hV.same s1,hF.fine,fun H2 c s2 hc=>⟨_,rfl,?_⟩⟩;have hV2:=(hV.same s1).same s2;cases c with
 | false =>
  have hn:¬ Zqe e0 es0:=fun h=>by have:=hc.mpr h;simp_all
  refine YG rfl ⟨_,rfl,v,e0,es0,rfl,hV2,hF.fine,fun v' H3 ps s3 hps hsr hpl hpm=>⟨Zk (show 2<=1000 by decide),fun p hp=>?_⟩⟩;have s4:=Zb (o:=.tup [.str "apart",v']) hp;exact k _ _ (((s1.trans s2).trans s3).trans s4) ⟨p,"apart",v',ss,rfl,Ze,hss,.inr (.inl ⟨rfl,c1,hn,ps,hps.same s4,hsr,QO hpl (by decide),hpm⟩)⟩
 | true =>
  have hh:Zqe e0 es0:=hc.mp rfl;refine Yw rfl ⟨_,rfl,v,_,L,rfl,hV2,hF,fun q us H3 s3 hq hty=>?_⟩;have hV3:=hV2.same s3;refine Pi (id hV3) fun qv vs r0 hqv hpa=>?_;subst r0;refine Pe (hpa.2 0 e0 rfl) fun b0 f1 f2=>?_;obtain⟨l1,l2⟩:=hF.fine.long e0 (Qd ..);refine⟨_,rfl,_,rfl,Ld qv vs 0 (.ref b0) ⟨rfl,rfl,SqT.of hqv,ZL (by decide) f1,Ld b0 _ 0 (.str e0.1) ⟨rfl,rfl,SqT.of f2,rfl,e0.1,rfl,l1,l2,Lb (.ref qv) (bg e0.1) _ ⟨rfl,hV3,hF.fine,fun H4 ss4 s4 hss4=>?_⟩⟩⟩⟩;have es:=hss.one hss4;subst es;have hbl:=ZiN hF hss;exact La q _ us (e0::es0) L ⟨rfl,s4 _ _ hq,hty.same s4.tup,hF,hbl,(ZrA hF.pos hss.pts.nd hss.pts.mem (Th c1) hh),fun H5 s5 hE=>⟨Zk (show 2<=1000 by decide),fun p hp=>k _ _ (((((s1.trans s2).trans s3).trans s4).trans s5).trans (Zb (o:=.tup [.str "text",.str (tx (spell (e0::es0) (X9 e0 (ups (mo (e0::es0)) ss)) (wayX (tsE (e0::es0)) (X9 e0 (ups (mo (e0::es0)) ss)))))]) hp)) ⟨p,"text",_,ss,rfl,Ze,hss,.inr (.inr ⟨rfl,c1,hh,_,_,rfl,rfl,rfl,hE,hbl⟩)⟩⟩⟩
end
end Sh
namespace L2
open PySem PySem.Spec PyProof.Rows
def Zbu
  {os} (hC:h.get? C=some (Gp nm q C N bs bm hdct sn sub ab col dd k0 k1 k2 k3 k5 nw)) (hC2:h.get? C2=some (Gp nm2 q2 C2 N2 bs2 bm2 hdct2 sn2 sub2 ab2 col2 dd2 j0 j1 j2 j3 j5 nw2))
  (he:h.get? e=some oe) (hcls:oe.cls= .ref C) (hb:bm2.contains (.type "BaseException")=true) (g2:(Value.ref C::bm).contains (.ref C2)=true) (hq:Q true ⟨h,g,d,t,os⟩):Oe M A (excMatches (.ref e) (.ref C2)) Q E ⟨h,g,d,t,os⟩:=by
 have g1:(Value.ref C2::bm2).contains (.type "BaseException")=true:=by simp_all
 have g3:=tc_notTuple
 repeat (first
  | (with_reducible refine wpAny_loadPart_at he ?_;rw[hcls])
  | with_reducible refine wpAny_loadPart_at hC2 ?_
  | (with_reducible refine wpAny_isSubtype_exc hC2 ?_;rw[g1])
  | (with_reducible refine wpAny_isSubtype_exc hC ?_;rw[g2])
  | wp_step)
 omega
abbrev TXx:=VK->XK->St->Hp->Prop
def PX (X:Cx) (e:Expr) (tx:TXx):Prop:=∀ (pins:List (Addr×Obj)) (s:Shared) (σ:St) (H:Hp) (Q:VK) (E:XK) (QE:Value->Shared->Prop),Inv X pins σ H s ->
 (∀ ev s1 s2 H1,Inv X pins σ H1 s1->CXx X.prog X.w X.stack H1 s1 E ev s2->QE ev s2)->tx Q E σ H->Oe (Od X.prog X.w) X.A (eval e X.env) (EP X pins σ Q) QE s
section
variable {X:Cx} {k:Nat} {f C:Addr} {fd:O2} {ps:List Str} {sp:Sp} {dvs:List V} {ds:List Value} {x m:Str} {p pos apos spos:Pos} {e o:Expr} {es:List Expr} {ta:TE} {t:TA}
def ZoX {σ:St} (F:FnOk X.prog X.w X.K X.mg X.base (CXx X.prog X.w) k f fd ps sp) (q:Room k X.A) (A:Binds X.K fd ps ds) (t:Vals dvs ds)
  (z:∀ l b,CXx X.prog X.w X.stack H s E l b->v l b) (I:Inv X a σ H s) (r:Vals vs g) (h:sp (vs++dvs) H Q E):Oe (Od X.prog X.w) X.A (call (.ref f) g) (EP X a σ Q) v s:=by
 have m:=r.append t;have x:(g++ds).length=ps.length:=by exact m.length▸F.len _ _ _ _ h
 refine Gv (OK (F.run X.A X.stack s H _ _ _ Q E q I.env0 (A s g I.kIn x) m h) fun r b n=>?_);cases r with
 | error e=>exact z e b n
 | ok y =>
  cases y with
  | ret u=>exact I.after n
  | next=>assumption
  | brk=>assumption
  | cont=>assumption
def Zo5 {pl} (ho:∀ E,PE (X.wish E) o ta) (c:Cls X.K C) (y:Zqd X.K C m f) (F:FnOk X.prog X.w X.K X.mg X.base (CXx X.prog X.w) k f fd ps sp) (hr:Room k X.A) (hb:Binds X.K fd ps ds) (hd:Vals dvs ds) (D:∀ E,PA (X.wish E) (e::es) t)
  (w:Og (e::es) X.env=(false,eval e X.env)::Og es X.env:=by rfl) (j:(Om pos (Og es X.env)).any (·.1)=false:=by rfl)
  (ht:eval (.Call (.Attribute o m apos) (e::es) [] pos) X.env=(do
   let A ←eval o X.env
   O0 apos.atName
   let (f,i) ←OI [A] (OH A m pl)
   OV pos f i (Om pos (Og (e::es) X.env)) (OE pos (Ot [] X.env))):=by rfl) :
  PX X (.Call (.Attribute o m apos) (e::es) [] pos) (fun Q E σ H=>ZdE C m sp dvs E ta t σ H Q):=by
 intro g s σ H Q E n I B h;refine PySem.W.methodCall_KW (thn (ho n g s σ H _ (I.wish n) h) fun u s1 ⟨x,H1,z,G,a,dx,fs,ex,ea,l,q⟩=>?_) ht;subst ex;obtain rfl:u=Value.ref a:=G;exact X4 z.unwish ea c y l (PySem.W.callWith_K I.ok.mod.kin y.kp (thn (D n pos g s1 σ H1 _ z q) fun us s2 ⟨vs,H2,v,r,q2⟩=>⟨v.unwish.kIn,(ZoX (vs:=.ref a::vs) F hr hb hd (fun ev s' hq=>B ev s2 s' H2 v.unwish hq) v.unwish (.cons rfl r) q2)⟩) w j)
end
abbrev TC:=(St->Hp->Prop)->XK->St->Hp->Prop
def PBc (X:Cx) (body:List Stmt) (tb:TC):Prop:=∀ (pins:List (Addr×Obj)) (s:Shared) (σ:St) (H:Hp) (nx:St->Hp->Prop) (E:XK) (Qn:Shared->Prop) (QE:Value->Shared->Prop),Inv X pins σ H s->(∀ s' σ' H',Inv X pins σ' H' s'->nx σ' H'->Qn s') ->
 (∀ e s1 s2 H1,Inv X pins σ H1 s1->CXx X.prog X.w X.stack H1 s1 E e s2->QE e s2)->tb nx E σ H->Oe (Od X.prog X.w) X.A (execs body X.env) (fun f s'=>match f with | .next=>Qn s' | _=>False) QE s
section
variable {X:Cx}
def Zss {tx} (k:PX X e tx) (c:Gg e none b.line X.env=pure false:=by rfl):PBc X [.Expr e b] (fun d E σ H=>tx (fun _ l=>d σ l) E σ H):=by
 intro a s σ H d E n j I i f h;exact wpAny_execs_cons (wpAny_Expr_any (thn (k a s σ H _ E j I f h) fun u m ⟨v,o,g,p,q⟩=>OB (i _ _ _ g q)) I.quiet c)
end
def Zr6 (K:PySem.W.Frag) (mg:Str->Option Value) (C2:Addr) (tb:TC) (hs:Addr->Obj->TS):TS:=fun D σ H=>tb D.nx
 (fun cls _ H2=>(∃ y C bm,cls= .ref C/\XCls K mg y C bm/\(Value.ref C::bm).contains (.ref C2)=true)/\∀ ea oe,oe.cls=cls->H2 ea=none->hs ea oe D σ H2) σ H
def Zo7 {np hpos pos}
  (hcalm:X.calm=true) (hstk:X.stack=X.env::X.outer) (hfr:X.env.frame=some X.env.locals) (hB:PBc X body tb) (c:XCls X.K X.mg x C2 bm2)
  (hsuite:∀ ea oe pn,(ea,oe)∈pn->PSs (X.caught ea pn) (b₀::suite) (hs ea oe)) (hgx:Gl X x:=by rfl)
  (hdx:(x==("__debug__"))=false:=by decide) :
  PS X (.Try body [.ExceptHandler (some (.Name x np)) none (b₀::suite) hpos] [] [] pos) (Zr6 X.K X.mg C2 tb hs):=by
 intro pins s σ H D I h;refine wpAny_Try_except (Ol (hB pins s σ H _ _ (fun s'=>Oe (Od X.prog X.w) X.A (execs [] X.env) (SP X pins D) X.xe s') _ I (fun s' σ2 H2 I2 q2=>OB ⟨σ2,H2,I2,q2⟩) ?_ h) (fun f s' q=>by cases f <;> first | exact q | exact q.elim) fun _ _ z=>z);intro ev s1 s2 H1 I1 hq;obtain⟨ea,cls,a0,H',B,rfl,os,bare,un,hok,fl,c1,c2,c3,⟨y,C,bm,rfl,cy,hsub⟩,hE⟩:=hq;have fl0:Heap.FlyingW B (X.env::X.outer) ea (.ref C) a0 s2.heap:=by simp_all
 have nfr:ea∉L2.frs X.stack:=fun hm=>by
  obtain⟨_,o,ho,hd⟩:=fl.2.2.1.mem hm;obtain⟨_,_,_,oe,_⟩:=fl
  simp_all
 have hfrs:L2.frs X.stack=X.env.locals::X.fs:=by exact hstk▸Zdg hfr
 have nloc:ea≠X.env.locals:=fun z=>nfr (by simp_all);have nfs:ea∉X.fs:=fun z=>nfr (by simp_all);have nH:H' ea=none:=by
  cases q3:H' ea with
  | none=>rfl
  | some u =>
   obtain⟨o,ho⟩:=c1 ea u q3;rw[fl.2.1]at ho;cases ho
 have key:∀ (h9:Heap) (tk:Nat),B.StaysIn h9->s2.heap.UpToSlots h9->Inv X pins σ H' {s2 with heap:=h9,toks:=tk}:=fun h9 tk hB up=>by
  refine I1.call' (ch:=[]) os ⟨fun b o q n hb _=>hB b o (c2 b o q n hb),fun b o q n hb _=>?_,un.free,fun b o q _=>?_,un.tups,un.frzs,un.tbls⟩ (hok.stays c1 fl.1 hB) bare (fun b z=>nomatch z)
  ·obtain⟨sl,q2⟩:=un.slot b o q n hb (by simp);obtain⟨_,o',ho,hd⟩:=fl.2.2.1.mem (b:=b) hb;rw[q2]at ho;cases ho;obtain⟨sl2,q3⟩:=up b _ q2 hd;exact⟨sl2,q3⟩
  ·by_cases hb:b∈L2.frs X.stack
   ·obtain⟨_,o',ho,hd⟩:=fl.2.2.1.mem (b:=b) hb;obtain⟨sl2,q3⟩:=up b _ ho hd;exact⟨_,q3⟩
   ·obtain⟨o',q3⟩:=c3 b o q hb;exact⟨o',hB b o' q3⟩
 refine wpAny_looks_onW (by exact hstk▸I1.ok.frames) hfr fl0 fun h2 held up2=>wpAny_landsW held fun h3 fl3 up3=>?_;have up23:=up2.trans up3;obtain⟨oe3,ws3,he3,hcls3,hd3,_⟩:=fl3.first;have I3:=key h3 s2.toks fl3.1 up23;obtain⟨N1,nm1,qn1,bs1,hdct1,sn1,sub1,ab1,col1,dd1,k01,k11,k21,k31,k51,mN1,hC1,_⟩:=cy.at I3.kIn;obtain⟨N2,nm2,qn2,bs2,hdct2,sn2,sub2,ab2,col2,dd2,k02,k12,k22,k32,k52,mN2,hC2,_,_,T2⟩:=c.at I3.kIn;refine wpAny_handleBy_cons (codeAny_handlers_test (Zah (I3.caught (oe:=oe3) he3 nH nloc nfs (fun v z=>by rw[hd3]at z;cases z)) hgx c.bound ?_ hdx)) (by intro z;cases z);refine Zbu hC1 hC2 he3 hcls3 (T2.hasType PySem.F.excBase_ValueError.hasBase) hsub ?_;refine codeAny_handlers_suite (lands_againW fl3 fun h4 fl4 up4=>?_);obtain⟨oe4,ws4,he4,hcls4,hd4,_⟩:=fl4.first;have J4:=(key h4 s2.toks fl4.1 (up23.trans up4)).caught (oe:=oe4) he4 nH nloc nfs (fun v z=>by rw[hd4]at z;cases z);refine Ol (hsuite ea oe4 _ (QZ _ (Qr.mpr rfl)) [] _ _ H' D J4 (hE ea oe4 hcls4 nH)) (fun fl6 s6 q6=>?_) (fun _ _ z=>z.elim);cases fl6 with
 | next =>
  obtain⟨σ6,H6,I6,q7⟩:=q6;exact⟨_,H6,I6.uncaught I.ok,q7⟩
 | brk =>
  obtain⟨σ6,H6,I6,q7⟩:=q6;exact⟨_,H6,I6.uncaught I.ok,q7⟩
 | cont =>
  obtain⟨σ6,H6,I6,q7⟩:=q6;exact⟨_,H6,I6.uncaught I.ok,q7⟩
 | ret u =>
  obtain⟨v6,σ6,H6,I6,r6,q7⟩:=q6;exact⟨v6,_,H6,I6.uncaught I.ok,r6,q7⟩
structure FunD (K:PySem.W.Frag) (x qual:Str) (st:Stmt) (f:Addr) (fd:O2):Prop where
 ex:∃ (oc:Value) (od:Option Addr) (dV kV doc pm:Value) (an:Option Addr) (cdv ct:Value) (osl:Array (Option Value)),
  fd=PySem.W.fnOf x qual (Ya st) (ZR st) (Zf st) dV kV doc pm an cdv ct/\K.lookup f=some ⟨oc,od,.func fd,osl⟩/\PySem.W.codeIn K cdv qual=true
structure HasM (K:PySem.W.Frag) (C:Addr) (m qual:Str) (st:Stmt) (ps:List Str) (dss:List (List V)):Prop where
 ex:∃ f fd,FunD K m qual st f fd/\Zqd K C m f/\∀ dvs∈dss,∃ ds,Vals dvs ds/\Binds K fd ps ds
structure HasI (K:PySem.W.Frag) (C:Addr) (qual:Str) (st:Stmt) (ps:List Str):Prop where
 ex:∃ f fd,FunD K "__init__" qual st f fd/\Mk K C f/\Binds K fd ps []
structure MOkX (P:Oc) (w:Of) (K:PySem.W.Frag) (mg:Str->Option Value) (base:Heap) (C:Addr) (k:Nat) (m:Str) (ps:List Str) (dss:List (List V)) (sp:Sp):Prop where
 ex:∃ f fd,FnOk P w K mg base (CXx P w) k f fd ps sp/\Zqd K C m f/\∀ dvs∈dss,∃ ds,Vals dvs ds/\Binds K fd ps ds
structure IOkX (P:Oc) (w:Of) (K:PySem.W.Frag) (mg:Str->Option Value) (base:Heap) (C:Addr) (k:Nat) (ps:List Str) (sp:Sp):Prop where
 ex:∃ f fd,FnOk P w K mg base (CXx P w) k f fd ps sp/\Mk K C f/\Binds K fd ps []
section
variable {P:Oc} {w:Of} {K:PySem.W.Frag} {mg:Str->Option Value} {base:Heap} {C:Addr} {m qual:Str} {st:Stmt} {N ps:List Str} {dss:List (List V)} {j k:Nat} {sp:Sp}
def FunD.okX (F:FunD K x qual st f q) (S:Zm N ps (Zf st)) (g:∀ vs H Q E,sp vs H Q E->vs.length=ps.length)
  (d:∀ (f) (c) (A) (a) (s) (vs) (H) (Q) (E),Lv (ZeL (CXx P w) P w K mg base N qual (Zf st) f c A a s H E) E->Room k (A.deeper (OT qual (Zf st) s.heap.objs.size f c))->sp vs H Q E ->
   ∃ t,PSs (ZeL (CXx P w) P w K mg base N qual (Zf st) f c A a s H E) (ZR st) t/\t {nx:=fun _ m=>Q .non m,rt:=Q} (start N vs) H):FnOk P w K mg base (CXx P w) (k+1) f q ps sp:=by
 obtain⟨z,B,r,kV,p,u,y,c,v,n,rfl,l,i⟩:=F.ex;exact ZpY l i S g fun A a s H vs Q E o e=>(d f c A a s vs H Q E ⟨rfl,rfl,rfl,fun _ _ h=>h⟩ o e)
def HasM.okX (D:HasM K C m qual st ps dss) (S:Zm N ps (Zf st)) (len:∀ vs H Q E,sp vs H Q E->vs.length=ps.length)
  (hbody:∀ (f) (cdv) (A) (outer) (s) (vs) (H) (Q) (E),Lv (ZeL (CXx P w) P w K mg base N qual (Zf st) f cdv A outer s H E) E->Room k (A.deeper (OT qual (Zf st) s.heap.objs.size f cdv))->sp vs H Q E ->
   ∃ t,PSs (ZeL (CXx P w) P w K mg base N qual (Zf st) f cdv A outer s H E) (ZR st) t/\t {nx:=fun _ H'=>Q .non H',rt:=Q} (start N vs) H):MOkX P w K mg base C (k+1) m ps dss sp:=by
 obtain⟨f,fd,F,me,b⟩:=D.ex;exact⟨f,fd,F.okX S len hbody,me,b⟩
def HasI.okX (D:HasI K C qual st ps) (S:Zm N ps (Zf st)) (g:∀ vs H Q E,sp vs H Q E->vs.length=ps.length)
  (d:∀ (f) (e) (A) (c) (s) (vs) (H) (Q) (E),Lv (ZeL (CXx P w) P w K mg base N qual (Zf st) f e A c s H E) E->Room k (A.deeper (OT qual (Zf st) s.heap.objs.size f e))->sp vs H Q E ->
   ∃ t,PSs (ZeL (CXx P w) P w K mg base N qual (Zf st) f e A c s H E) (ZR st) t/\t {nx:=fun _ l=>Q .non l,rt:=Q} (start N vs) H):IOkX P w K mg base C (k+1) ps sp:=by
 obtain⟨f,j,F,i,b⟩:=D.ex;exact⟨f,j,F.okX S g d,i,b⟩
def MOkX.mono (G:MOkX P w K mg base C j m ps dss sp) (h:j<=k):MOkX P w K mg base C k m ps dss sp:=by
 obtain⟨f,c,F,r⟩:=G.ex;exact⟨f,c,F.mono h,r⟩
def IOkX.mono (G:IOkX P w K mg base C j ps sp) (h:j<=k):IOkX P w K mg base C k ps sp:=by
 have⟨f,b,F,r⟩:=G.ex;exact⟨f,b,F.mono h,r⟩
def ZeT (j:d.defaults= .ref T) (m:K.lookup T=some o) (l:o.data= .seq items n) (hi:items= #[.int i t])
  (h:∀ b,(b++f).length=ps.length->∃ e,O9 d ⟨b,[]⟩=GA d.defaults >>= e/\e (some #[.int i t])=pure (ps.zip (b++f))):Binds K d ps f:=fun s b k a=>by
 obtain⟨e,g,_⟩:=h b a;exact PySem.W.binds_K k j m l g (by simp_all)
end
def Zfx:Jf (CXx X.prog X.w) X (fun _ _ _=>False):=fun a σ H s e g I c=>by
 obtain⟨f,b,d,h,B,rfl,_⟩:=c
 simp_all
section
variable {X:Cx} {C:Addr} {m:Str} {ps:List Str} {dss:List (List V)} {k:Nat} {sp:Sp} {E:XK} {p pos apos:Pos} {e o:Expr} {es:List Expr} {ta:TE} {t:TA} {x:Str}
def Zq3 {pl} (G:MOkX X.prog X.w X.K X.mg X.base C k m ps dss sp) (dvs) (hdv:dvs∈dss) (L:Lv X E) (hr:Room k X.A) (c:Cls X.K C) (he:PE X o ta) (ha:PA X (e::es) t)
  (hst:Og (e::es) X.env=(false,eval e X.env)::Og es X.env:=by rfl) (hpl:(Om pos (Og es X.env)).any (·.1)=false:=by rfl)
  (ht:eval (.Call (.Attribute o m apos) (e::es) [] pos) X.env=(do
   let ov ←eval o X.env
   O0 apos.atName
   let (f,first) ←OI [ov] (OH ov m pl)
   OV pos f first (Om pos (Og (e::es) X.env)) (OE pos (Ot [] X.env))):=by rfl) :
  PE X (.Call (.Attribute o m apos) (e::es) [] pos) (ZdE C m sp dvs E ta t):=by
 have⟨f,fd,F,me,b⟩:=G.ex;have⟨ds,hv,hb⟩:=b dvs hdv;exact ZjR he c me F hr hb hv L.pass ha hst hpl ht
def ZjS (G:MOkX X.prog X.w X.K X.mg X.base C k m ps dss sp) (g) (i:g∈dss) (L:Lv X E) (p:Room k X.A) (c:Cls X.K C) (s:PE X o n)
  (r:eval (.Call (.Attribute o m apos) [] [] pos) X.env=(do
   let j ←eval o X.env
   O0 apos.atName
   let (f,e) ←OI [j] (OH j m v)
   OV pos f e (Om pos (Og [] X.env)) (OE pos (Ot [] X.env))):=by rfl) :
  PE X (.Call (.Attribute o m apos) [] [] pos) (ZdE C m sp g E n ZrY):=by
 have⟨f,u,F,t,b⟩:=G.ex;have⟨w,l,q⟩:=b g i;exact ZgF s c t F p q l L.pass r
def Zb5 (G:MOkX X.prog X.w X.K X.mg X.base C k m ps dss sp) (dvs) (hdv:dvs∈dss) (hr:Room k X.A) (c:Cls X.K C) (he:PE X o ta)
  (ht:eval (.Call (.Attribute o m apos) [] [] pos) X.env=(do
   let ov ←eval o X.env
   O0 apos.atName
   let (f,first) ←OI [ov] (OH ov m pl)
   OV pos f first (Om pos (Og [] X.env)) (OE pos (Ot [] X.env))):=by rfl) :
  PE X (.Call (.Attribute o m apos) [] [] pos) (ZdE C m sp dvs (fun _ _ _=>False) ta ZrY):=by
 have⟨f,fd,F,me,b⟩:=G.ex;have⟨ds,hv,hb⟩:=b dvs hdv;exact ZgF he c me F hr hb hv Zfx ht
def Zq2 (G:IOkX X.prog X.w X.K X.mg X.base C k ps sp) (h:Room (k+1) X.A) (n:X.mg x=some (.ref C)) (m:PA X (e::es) t) (l:Gl X x:=by rfl) (a:(x==("__debug__"))=false:=by decide) (j:Og (e::es) X.env=(false,eval e X.env)::Og es X.env:=by rfl) (d:(Om pos (Og es X.env)).any (·.1)=false:=by rfl) :
  PE X (.Call (.Name x p) (e::es) [] pos) (Zqz C sp [] (fun _ _ _=>False) t):=by
 have⟨f,o,F,i,b⟩:=G.ex;exact Zpc i F h l n b .nil Zfx m a j d
end
open PySem PySem.Spec PyProof.Rows PySem.W
def ZgJ (l:X.A.units+64<OW):OpR X (On .NotEq) (fun x y H Q=>∃ a b xs,x= .ref a/\y= .ref b/\H a=some (.lst xs)/\H b=some (.lst [])/\Q (.bl (!xs.isEmpty)) H):=by
 intro d s σ H x y v u Q I w t h;obtain⟨a,b,xs,rfl,rfl,p,o,q⟩:=h;cases w;cases t;obtain⟨_,B,n,r,g⟩:=(I.hok a _ p)
 obtain⟨_,f,c,m,k⟩:=(I.hok b _ o)
 cases m;cases xs with
 | nil =>
  cases r;exact SeqAt.RcNeAt.lists (e:=fun _=>true) ⟨_,g,rfl,n,rfl⟩ ⟨_,k,rfl,c,rfl⟩ rfl (WB (Vm _ _) l) (fun j A _=>absurd A (RA _)) X.prog X.w X.xe _ ⟨V.bl _,H,I,rfl,q⟩
 | cons x xs =>
  refine SeqAt.RcNeAt.lists_lengths ⟨_,g,rfl,n,rfl⟩ ⟨_,k,rfl,c,rfl⟩ ?_ (WB (Vm _ _) l) X.prog X.w X.xe _ ⟨V.bl _,H,I,rfl,q⟩;rw[bne_iff_ne];intro e;rw[Qu,←r.length]at e;cases e
def vvO (p d:Addr):HO:=.ext fun h=>h.IsValuesView p d
def Zkn {X:Cx}:MtR X "dict.values" (fun x vs H Q=>∃ d kvs,x= .ref d/\vs=[]/\H d=some (.dK kvs)/\∀ p,H p=none->Q (.ref p) (upd H p (vvO p d))):=by
 intro a s σ H x vs v l Q I g f h;obtain⟨d,kvs,rfl,rfl,i,q⟩:=h;cases g;cases f;obtain⟨m,lo,j,t,c⟩:=Zbv I.hok i;refine OA PySem.F.slot_dict_values c.typeIs PySem.F.entry_dict_values (PySem.F.args_dict_values_1 _) (meets_dict_values (ZA X.prog X.w) d lo) ⟨⟨_,c⟩,⟨.ref s.heap.objs.size,_,I.laid (t':=s.toks) (o:=vvO s.heap.objs.size d) (fun b u e=>Qi _ e) (Ql _) ⟨⟨_,Qs _ rfl,rfl,rfl⟩,⟨_,Qs _ rfl⟩,fun n w ⟨o,e,r⟩ k=>⟨o,k o e,r⟩⟩,rfl,q _ (I.hok.fresh (Ql _))⟩⟩
def ZoA (td:TE):TE:=fun σ H Q=>td σ H fun x H1=>∃ d kvs,x= .ref d/\H1 d=some (.dK kvs)/\∀ p,H1 p=none->Q (.ref p) (upd H1 p (vvO p d))
def ZjP {X:Cx} {o:Expr} {apos cpos:Pos} {td:TE} (ho:PE X o td) (hbase:OD o "values" X.env (eval o X.env)=eval o X.env:=by rfl) (hline:(apos.endLine==cpos.line)=true:=by rfl) :
  PE X (.Call (.Attribute o "values" apos) [] [] cpos) (ZoA td):=by
 intro pins s σ H Q I h;refine wpAny_Call_method0_late hbase hline (thn (ho pins s σ H _ I h) fun v s1 ⟨x,H1,I1,r1,d,kvs,ex,hd,q1⟩=>?_);subst ex;obtain rfl:v=Value.ref d:=r1;obtain⟨t1,t2,_⟩:=Zcc I1 (.inl ⟨kvs,.inl hd⟩);exact⟨"dict",_,PySem.F.plainAttrs_dict,PySem.F.slot_dict_values,PySem.F.type_dict_values,t1,t2,Calls.callWith_builtin rfl (PySem.evalArgs_none (Zkn pins s1 σ H1 (.ref d) [] (.ref d) [] Q I1 rfl .nil ⟨d,kvs,rfl,rfl,hd,q1⟩))⟩
def ZpH:∀ {kvs:List (Key×V)} {a:List (Key×Value)},KV kvs a->Vals (kvs.map (·.2)) (a.map (·.2)):=by
 intro kvs a h;induction h with
 | nil=>exact .nil
 | cons p _ c=>exact .cons p.2 c
def Zlb (hc:X.calm=true):CallR X (.builtin "sum") (fun xs H Q=>∃ (p d:Addr) (kvs:List _) (ns:List Int),xs=[.ref p]/\H p=some (vvO p d)/\H d=some (.dK kvs)/\kvs.map (·.2)=ns.map V.int/\Q (.int ns.sum) H):=by
 intro pins s σ H xs us Q I r h;obtain⟨p,d,kvs,ns,rfl,hp,hd,en,q⟩:=h;obtain⟨u,rfl,rfl⟩:=YL r;obtain⟨hz,lo,vs',kv,dd⟩:=Zbv I.hok hd;obtain⟨ep,hat⟩:=dd.dictAt;have hv:=(I.hok p _ hp).1;have hl:=kv.length;have hnl:=by have:=congrArg RE en;rw[Qc,Qc]at this;omega
 have src:=kdl_values (knd:=ZA X.prog X.w) (d:=d) (r:=p) (kvs:=vs') (ep:=ep);refine Pi (src.iter X.A.in1 s (I.ok.hd hc) ⟨hv,hat⟩) fun oI St hi wk st0=>?_;refine call_sum_walkG (hi _ _ ⟨_,_,_,_,_,St,fun i=>ns.getD i 0,rfl,wk,st0,?_,?_,?_⟩);intro b hb;rw[WN];have:b=s.heap.objs.size\/b=d:=by simp_all
 rcases this with z | z
 rw[z];simp;exact z▸Uf ((src.there s.heap ⟨hv,hat⟩).2);intro i v hv;obtain⟨k,e1⟩:=hv;have rv:=ZpH kv;rw[en]at rv;have hi:=(Qo.mp e1).1;have hb:(ns.map V.int)[i]?=some (.int (ns.getD i 0)):=by
  rw[Qh,Qb];cases e:ns[i]? with
  | none=>exact absurd (Wy.mp e) (by lia)
  | some b=>rfl
 obtain⟨u',hu,_⟩:=rv.get hb;rw[Qh,e1]at hu;cases hu
 trivial
 intro h' tk t' kk;refine⟨.int ns.sum,H,I.kept fun b o e=>kk b o (by simpa using QJ (Qw e)) (Qi _ e),⟨t',?_⟩,q⟩;rw[YU,QP (by lia)]
end L2
namespace Sh
open PySem L2 PyProof.Rows
seal L2.PE L2.PS L2.PSs L2.PT L2.PW L2.PA L2.PI L2.PG L2.PGs L2.PO L2.PC L2.PCs L2.OpR L2.UnR L2.CallR L2.MtR L2.IxR L2.SlR L2.PX L2.PBc
structure BgC (K:PySem.W.Frag) (mg:Str->Option Value) (C:Addr):Prop where
 cl:Cls K C
 nL:NoAttr K C "long"
 nM:NoAttr K C "manys"
 mgC:mg "Bag" = some (.ref C)
noncomputable def Zoc (L:Int) (d:Addr):List (Str×V):=ZdQ "manys" (.ref d) (ZdQ "long" (.int L) [])
def ZeB (L) (d):(Zoc L d).lookup ("long" : Str)=some (.int L):=by
 rfl
def Yq (L) (d):(Zoc L d).lookup ("manys" : Str)=some (.ref d):=by
 rfl
def Y1 (L) (d) {m:Str} (b:¬ m = "manys") (c:¬ m = "long"):(Zoc L d).lookup m=none:=by
 unfold Zoc;rw[Xm,if_neg b,Xm,if_neg c];rfl
structure BagAt (C:Addr) (H:Hp) (b d:Addr) (L:Nat) (ks:List Str) (g:Str->Int):Prop where
 ob:∃ dx,H b=some (.ins C dx (Zoc L d))
 dc:H d=some (.dK (gD ks g))
structure Zdw (ks:List Str) (g:Str->Int):Prop where
 nd:ks.Nodup
 few:ks.length<=60
 out:∀ y,y∉ks->g y=0
 pos:∀ y∈ks,1<=g y
def BagAt.same (h:BagAt C H b d L ks g) (s:Same H H'):BagAt C H' b d L ks g :=
 ⟨let ⟨dx,e⟩:=h.ob;⟨dx,s _ _ e⟩,s _ _ h.dc⟩
def Bt (d:Addr) (H H':Hp):Prop:=∀ a u,a≠d->H a=some u->H' a=some u
noncomputable def XH (L:Nat) (p m:V):Bool:=match p,m with
 | .str z,.int k=>ZK (.str z)&&decide (z.length=L)&&decide (1<=k)
 | _,_=>false
noncomputable def upK (ks:List Str) (g:Str->Int) (x:Str) (k:Int):List Str:=if g x+k=0 then (if x∈ks then ks else ks++[x]).filter fun y=>decide (y≠x)else if x∈ks then ks else ks++[x]
noncomputable def upG (g:Str->Int) (x:Str) (k:Int):Str->Int:=fun y=>if y=x then g x+k else g y
def ZrB (ks) (g):(gD ks g).map (·.2)=(ks.map g).map V.int:=by
 unfold gD;rw[QN,QN];rfl
def ZkS (h:Zdw ks g) (x):(XR (gD ks g) (Sum.inr x)).getD (.int 0)= .int (g x):=by
 rw[Zey];by_cases c:x∈ks
 simp_all
 rw[if_neg c,h.out x c];rfl
def Zlj (s:Same H b) (o):Bt d H (upd b d o):=fun a u n e=>by
 exact Zj n▸s a u e
section
variable {P:Oc} {w:Of} {K:PySem.W.Frag} {mg:Str->Option Value} {base:Heap} {C CH CP:Addr} {bmH bmP:List Value}
abbrev Ja (i:Nat):Stmt:=ZpN (top 58) i
def ZqP:Zm ["self","long"] ["self","long"] (Zf (Ja 0)):=⟨rfl,rfl,rfl,by decide +kernel,rfl,by decide +kernel,by decide +kernel⟩
def ZnC (C CH:Addr):Sp:=fun vs H Q E=>∃ (x dx:Addr) (v:V) (n:String),vs=[.ref x,v]/\H x=some (.ins C dx [])/\TyB H v n/\((YC v=false/\∀ H',Same H H'->E (.ref CH) none H') \/
 (∃ L:Nat,v= .int L/\YC v=true/\∀ d H',H d=none->(∀ a u,a≠x->H a=some u->H' a=some u)->BagAt C H' x d L [] (fun _=>0)->Q .non H'))
def Zpl (D:HasI K C "Bag.__init__" (Ja 0) ["self","long"]) (T:BgC K mg C) (c:XCls K mg "NoHeap" F y) (g:FOk P w K mg base 2 "is_long" ["thing"] Zi3):IOkX P w K mg base C 3 ["self","long"] (ZnC C F):=by
 refine D.okX ZqP (fun G H Q E h=>?_) fun f q A o s G H Q E L r h=>?_
 obtain⟨x,j,v,n,rfl,_⟩:=h;rfl
 refine B0 ?_;intros;obtain⟨x,j,v,n,rfl,t,z,h⟩:=h;refine ⟨_,Zd (ZI (ZU (ZS (Zu g r (Za (pv 1) Zc)))) (Zg (Y3 L c rfl (Za Z1 Zc))) Zt)
  (Zd (ZnS (pv 0) (pv 1) rfl)
  (Zg (ZnS (pv 0) Xl rfl))),⟨_,rfl,v,n,rfl,z,_,rfl,?_⟩⟩;rcases h with ⟨m,B⟩ | ⟨Ln,rfl,m,k⟩
 exact m▸Zca ⟨(by decide),B _ (Same.refl _)⟩
 rw[m];refine Xw ⟨_,rfl,_,rfl,x,C,j,_,rfl,t,T.cl,T.nL,by simp,?_⟩;intro d p;have b:x≠d:=fun e=>by rw[←e,Ze]at p;grind
 have i:H d=none:=by rw[Zj b.symm]at p;omega
 refine ⟨_,rfl,Ld x C j _ ⟨rfl,by rw[Zj b,Ze],T.cl,T.nM,by show 1<1000;decide,k d _ i (fun a u n e=>?_) ⟨⟨j,Ze⟩,?_⟩⟩⟩
 rw[Zj n,Zj (Zl e i),Zj n];omega
 rw[Zj b.symm,Ze];rfl
def ZoU:Zm ["self","piece","many"] ["self","piece","many"] (Zf (Ja 1)):=⟨rfl,rfl,rfl,by decide +kernel,rfl,by decide +kernel,by decide +kernel⟩
def Zfe (C CP:Addr):Sp:=fun vs H Q E=>∃ (b d:Addr) (L:Nat) (ks:List Str) (g:Str->Int) (p m:V) (np nm:String),vs=[.ref b,p,m]/\BagAt C H b d L ks g/\TyB H p np/\TyB H m nm/\(∀ z,p= .str z->z.length<=sizeLine) /\
 ((XH L p m=false/\∀ H',Same H H'->E (.ref CP) none H')\/(XH L p m=true/\∀ H',Same H H'->Q .non H'))
def Zml (D:HasM K C "check" "Bag.check" (Ja 1) ["self","piece","many"] [[]]) (B:Blt mg) (T:BgC K mg C) (c:XCls K mg "NoPiece" CP bmP) (g34_:FOk P w K mg base 3 "is_text" ["thing"] Zgn) (g36_:FOk P w K mg base 3 "is_whole" ["thing"] Jh) :
  MOkX P w K mg base C 4 "check" ["self","piece","many"] [[]] (Zfe C CP):=by
 refine D.okX ZoU (fun vs H Q E h=>?_) (fun f cdv A outer s vs H Q E L hr h=>?_)
 ·obtain⟨b,d,Ln,ks,g,p,m,np,nm,rfl,_⟩:=h;rfl
 ·refine B0 ?_;intros;obtain⟨b,d,Ln,ks,g,p,m,np,nm,rfl,hB,tp,tm,hsz,h⟩:=h;refine⟨_,(Zd (ZI (PW.pt (YJ (ZU (ZS (Zu g34_ hr (Za (pv 1) Zc)))) (Yp (Zq X7 (Zi Zp rfl B.len ZE (Za (pv 1) Zc)) (Jb (pv 0) rfl) (Zr _))))) (Zg (Y3 L c rfl (Za Z1 Zc))) Zt)
   (Zg (ZI (PW.pt (YJ (ZU (ZS (Zu g36_ hr (Za (pv 2) Zc)))) (Yp (Zq ZjZ (pv 2) Zh (Zr _))))) (Zg (Y3 L c rfl (Za Z1 Zc))) Zt))),?_⟩
  apply B3;intros;have one:(1:Nat)<=sizeLine:=by rw[Oj];decide
  have bad:XH Ln p m=false->∀ H',Same H H'->E (.ref CP) none H':=fun hf=>by
   simp_all
  refine⟨_,rfl,p,np,rfl,tp,hsz,fun H1 s1=>⟨_,rfl,?_⟩⟩;cases ht:ZK p with
  | false =>
   refine YG rfl (YG rfl ⟨one,bad ?_ _ s1⟩);cases p <;> first | rfl | (cases m <;> first | rfl | (simp only[XH];rw[ht];rfl))
  | true =>
   obtain⟨z,rfl⟩:∃ z,p= .str z:=by cases p <;> first | exact⟨_,rfl⟩ | cases ht
   refine Yw rfl ?_;obtain⟨dx,hb⟩:=(hB.same s1).ob;refine⟨_,rfl,.str z,z.length,rfl,⟨hsz z rfl,rfl⟩,_,rfl,La b C dx _ _ ⟨rfl,hb,T.cl,T.nL,ZeB _ _,rfl,_,rfl,?_⟩⟩;by_cases cl:z.length=Ln
   rotate_left
   ·refine YG (by rw[decide_eq_false fun e=>cl (by injection e with e;exact Td e)];rfl) ⟨one,bad ?_ _ s1⟩;cases m <;> first | rfl | (simp only[XH];rw[decide_eq_false cl,UA];rfl)
   refine Yw (by rw[decide_eq_true (by rw[cl])];rfl) ?_;refine⟨_,rfl,m,nm,rfl,tm.same s1,_,rfl,?_⟩;cases hn:(nm == "int")with
   | false =>
    refine YG rfl (YG rfl ⟨one,bad ?_ _ s1⟩);cases tm with
    | int i=>grind
    | _=>rfl
   | true =>
    obtain⟨k0,rfl⟩:∃ k0,m= .int k0:=by
     cases tm with
     | int i=>simp
     | _=>exact absurd hn (by decide)
    refine Yw rfl ?_;refine⟨_,rfl,_,_,rfl,rfl,_,rfl,?_⟩;by_cases ck:k0<1
    ·refine YG (decide_eq_true ck) ⟨one,bad ?_ _ s1⟩;simp only[XH];rw[decide_eq_false (show ¬ 1<=k0 by lia),UA]
    ·refine Yw (decide_eq_false ck) ?_;rcases h with ⟨hf,_⟩ | ⟨_,kk⟩
     ·simp only[XH]at hf
      simp_all
     ·exact kk _ s1
end
def Zg6 (h:XH L p m=true):∃ x k,p= .str x/\m= .int k/\1<=k/\x.length=L/\ZK (.str x)=true:=by
 cases p with
 | str z =>
  cases m with
  | int k =>
   simp[XH,QW,decide_eq_true_eq]at h;exact⟨z,k,rfl,rfl,h.2,h.1.2,h.1.1⟩
  | _=>cases h
 | _=>cases h
section
variable {P:Oc} {w:Of} {K:PySem.W.Frag} {mg:Str->Option Value} {base:Heap} {C CH CP:Addr} {bmH bmP:List Value}
def Zsi:Zm ["self","piece","many"] ["self","piece","many"] (Zf (Ja 2)):=⟨rfl,rfl,rfl,by decide +kernel,rfl,by decide +kernel,by decide +kernel⟩
def ZoI (C CP CH:Addr):Sp:=fun vs H Q E=>∃ (b d:Addr) (L:Nat) (ks:List Str) (g:Str->Int) (p m:V) (np nm:String),vs=[.ref b,p,m]/\BagAt C H b d L ks g/\Zdw ks g/\TyB H p np/\TyB H m nm/\(∀ z,p= .str z->z.length<=sizeLine) /\
 ((XH L p m=false/\∀ H',Same H H'->E (.ref CP) none H')\/∃ x k,p= .str x/\m= .int k/\XH L p m=true/\((301-(L:Int)<(ks.map g).sum+k/\∀ H',Same H H'->E (.ref CH) none H') \/
  ((ks.map g).sum+k<=301-(L:Int)/\∀ H',Bt d H H'->H' d=some (.dK (gD (upK ks g x k) (upG g x k)))->Q .non H')))
def Zra (D:HasM K C "put" "Bag.put" (Ja 2) ["self","piece","many"] dss) (B:Blt mg) (T:BgC K mg C) (c:XCls K mg "NoHeap" CH bmH) (g19_:MOkX P w K mg base C 4 "check" ["self","piece","many"] [[]] (Zfe C CP)) (g39_:FOk P w K mg base 4 "most_pieces" ["long"] Zgp) :
  MOkX P w K mg base C 5 "put" ["self","piece","many"] dss (ZoI C CP CH):=by
 refine D.okX Zsi (fun vs H Q E h=>?_) (fun f cdv A outer s vs H Q E L hr h=>?_)
 obtain⟨b,d,Ln,ks,g,p,m,np,nm,rfl,_⟩:=h;rfl
 refine B0 ?_;intros;obtain⟨b,d,Ln,ks,g,p,m,np,nm,rfl,hB,hok,tp,tm,hsz,h⟩:=h;have hu:=Zdd hr;refine⟨_,(Zd (ZT (Zq3 g19_ [] (Qr.mpr rfl) L hr T.cl (pv 0) (Za (pv 1) (Za (pv 2) Zc))))
  (Zd (ZI (Zq Xv (Zv Z7 (Zi (Zlb rfl) rfl B.sum Zf7 (Za (ZjP (Jb (pv 0) rfl)) Zc)) (pv 2)) (Zu g39_ hr (Za (Jb (pv 0) rfl) Zc)) (Zr _)) (Zg (Y3 L c rfl (Za Z1 Zc))) Zt)
  (Zg (XB hu (Jb (pv 0) rfl) (pv 1) (Zv Z7 (Y4 hu (Jb (pv 0) rfl) (pv 1) Zh ⟨rfl,rfl,rfl,rfl⟩) (pv 2)) rfl)))),?_⟩
 apply B2;intros;have one:(1:Nat)<=sizeLine:=by decide
 obtain⟨dx0,hb0⟩:=hB.ob;refine⟨_,rfl,Lb b dx0 _ ⟨rfl,hb0,Y1 _ _ (by decide +kernel) (by decide +kernel),_,rfl,_,rfl,Le b d Ln ks g p m np nm ⟨rfl,hB,tp,tm,hsz,?_⟩⟩⟩;rcases h with ⟨hf,kE⟩ | ⟨x,k,rfl,rfl,hg,h⟩
 exact .inl ⟨hf,kE⟩
 refine .inr ⟨hg,fun H1 s1=>?_⟩;have hB1:=hB.same s1;obtain⟨dx,hb⟩:=hB1.ob;refine⟨_,rfl,La b C dx _ _ ⟨rfl,hb,T.cl,T.nM,Yq _ _,d,_,rfl,hB1.dc,fun pv hpv=>?_⟩⟩;have s2:=Zb (o:=vvO pv d) hpv;have hB2:=hB1.same s2;have hpv2:(upd H1 pv (vvO pv d)) pv=some (vvO pv d):=Ze;have sA:=s1.trans s2;obtain⟨dx2,hb2⟩:=hB2.ob;refine Ld pv d _ (ks.map g) ⟨rfl,hpv2,hB2.dc,ZrB ks g,_,rfl,_,_,rfl,rfl,_,rfl,La b C dx2 _ _ ⟨rfl,hb2,T.cl,T.nL,ZeB _ _,(Ln:Int),rfl,_,_,rfl,rfl,_,rfl,?_⟩⟩;rcases h with ⟨hs,kE⟩ | ⟨hs,kQ⟩
 exact YG (decide_eq_true (by omega)) ⟨one,kE _ sA⟩
 refine Yw (decide_eq_false (by lia)) ?_;refine Pi (Zg6 hg) fun _ _ e1 e2 _=>?_;cases e1;cases e2;refine⟨_,rfl,La b C dx2 _ _ ⟨rfl,hb2,T.cl,T.nM,Yq _ _,d,rfl,.inl ⟨_,.inl hB2.dc⟩,_,rfl,_,DGet.kk (k:=Sum.inr x) hB2.dc,?_⟩⟩;rw[ZkS hok];refine ⟨_,rfl,_,_,rfl,rfl,_,rfl,La b C dx2 _ _ ⟨rfl,hb2,T.cl,T.nM,Yq _ _,_,rfl,d,_,rfl,DPut.kk (k:=Sum.inr x) hB2.dc (by rw[Zav];exact ZC (by have:=hok.few;exact Me this)),kQ _ (Zlj sA _) ?_⟩⟩;rw[Ze,Zez];have hp:0<=g x:=by
  by_cases c0:x∈ks
  have:=hok.pos x c0;exact Tc this
  rw[hok.out x c0];exact Kr
 unfold upK upG;rw[if_neg (show ¬ g x+k=0 by lia)]
def scTake:Zm ["self","piece","many","left"] ["self","piece","many"] (Zf (Ja 3)):=⟨rfl,rfl,rfl,by decide +kernel,rfl,by decide +kernel,by decide +kernel⟩
def Znr (C CP:Addr):Sp:=fun vs H Q E=>∃ (b d:Addr) (L:Nat) (ks:List Str) (g:Str->Int) (p m:V) (np nm:String),vs=[.ref b,p,m]/\BagAt C H b d L ks g/\Zdw ks g/\TyB H p np/\TyB H m nm/\(∀ z,p= .str z->z.length<=sizeLine) /\
 ((XH L p m=false/\∀ H',Same H H'->E (.ref CP) none H')\/∃ x k,p= .str x/\m= .int k/\XH L p m=true/\((g x<k/\∀ H',Same H H'->E (.ref CP) none H') \/
  (k<=g x/\∀ H',Bt d H H'->H' d=some (.dK (gD (upK ks g x (-k)) (upG g x (-k))))->Q .non H')))
def Zpj (D:HasM K C "take" "Bag.take" (Ja 3) ["self","piece","many"] dss) (B:Blt mg) (T:BgC K mg C) (c:XCls K mg "NoPiece" CP bmP) (q:MOkX P w K mg base C 4 "check" ["self","piece","many"] [[]] (Zfe C CP)) :
  MOkX P w K mg base C 5 "take" ["self","piece","many"] dss (Znr C CP):=by
 refine D.okX scTake (fun vs H Q E h=>?_) (fun f cdv A outer s vs H Q E L hr h=>?_)
 obtain⟨b,d,Ln,l,g,p,m,np,nm,rfl,_⟩:=h;rfl
 refine B0 ?_;intros;obtain⟨b,d,Ln,l,g,p,m,np,nm,rfl,hB,j,tp,tm,hsz,h⟩:=h;have hu:=Zdd hr;refine⟨_,(Zd (ZT (Zq3 q [] (Qr.mpr rfl) L hr T.cl (pv 0) (Za (pv 1) (Za (pv 2) Zc))))
  (Zd (Zo (i:=3) scTake.nd rfl (.inl rfl) (Zv Xe (Y4 hu (Jb (pv 0) rfl) (pv 1) Zh ⟨rfl,rfl,rfl,rfl⟩) (pv 2)))
  (Zd (ZI (Zq ZjZ (pv 3) Zh (Zr _)) (Zg (Y3 L c rfl (Za Z1 Zc))) Zt)
  (Zd (XB hu (Jb (pv 0) rfl) (pv 1) (pv 3) rfl)
  (Zg (ZI (Zq YF (pv 3) Zh (Zr _)) (Zg (ZT (Zmc (Jb (pv 0) rfl) (pv 1) ⟨rfl,rfl,rfl,rfl⟩))) Zt)))))),?_⟩
 apply B5;intros;have one:(1:Nat)<=sizeLine:=by rw[Oj];decide
 obtain⟨dx0,hb0⟩:=hB.ob;refine⟨_,rfl,Lb b dx0 _ ⟨rfl,hb0,Y1 _ _ (by decide +kernel) (by decide +kernel),_,rfl,_,rfl,Le b d Ln l g p m np nm ⟨rfl,hB,tp,tm,hsz,?_⟩⟩⟩;rcases h with ⟨hf,kE⟩ | ⟨x,k,rfl,rfl,hg,h⟩
 exact .inl ⟨hf,kE⟩
 refine .inr ⟨hg,fun H1 s1=>?_⟩;have a:=hB.same s1;obtain⟨dx,hb⟩:=a.ob;refine Pi (Zg6 hg) fun _ _ e1 e2 _=>?_;cases e1;cases e2;refine⟨_,rfl,La b C dx _ _ ⟨rfl,hb,T.cl,T.nM,Yq _ _,d,rfl,.inl ⟨_,.inl a.dc⟩,_,rfl,_,DGet.kk (k:=Sum.inr x) a.dc,?_⟩⟩;rw[ZkS j];refine⟨_,rfl,_,_,rfl,rfl,_,rfl,_,_,rfl,rfl,_,rfl,?_⟩;rcases h with ⟨hs,kE⟩ | ⟨hs,kQ⟩
 exact YG (decide_eq_true (show g x-k<0 by omega)) ⟨one,kE _ s1⟩
 refine Yw (decide_eq_false (show ¬ g x-k<0 by omega)) ?_;have i:x∈l:=Classical.byContradiction fun n=>by have:=j.out x n;omega
 refine⟨_,rfl,_,rfl,La b C dx _ _ ⟨rfl,hb,T.cl,T.nM,Yq _ _,_,rfl,d,_,rfl,DPut.kk (k:=Sum.inr x) a.dc (by rw[Zav];exact ZC (by have:=j.few;exact Me this)),?_⟩⟩;rw[Zez,if_pos i];have hbd:b≠d:=fun e=>by rw[e,a.dc]at hb;grind
 have hb2:(upd H1 d (.dK (gD l fun y=>if y=x then g x-k else g y))) b=some (.ins C dx (Zoc Ln d)):=by rw[Zj hbd];omega
 have o:(upd H1 d (.dK (gD l fun y=>if y=x then g x-k else g y))) d=some (.dK (gD l fun y=>if y=x then g x-k else g y)):=Ze;have eG:upG g x (-k)=fun y=>if y=x then g x-k else g y:=by
  rfl
 refine⟨_,rfl,rfl,_,rfl,?_⟩;by_cases c0:g x=k
 refine YG (Zg1 (by omega)) ⟨_,rfl,b,C,dx,_,_,rfl,hb2,T.cl,T.nM,Yq _ _,d,rfl,.inl ⟨_,.inl o⟩,_,rfl,_,Sum.inr x,_,o,rfl,(by rw[Zey,if_pos i,if_pos rfl]),?_⟩;rw[ZpV,ZaP];refine kQ _ (Zlj s1 _) ?_;rw[Ze,eG];unfold upK;rw[if_pos (show g x + -k=0 by omega),if_pos i]
 refine Yw (JO (by omega)) (kQ _ (Zlj s1 _) ?_);rw[Ze,eG];unfold upK;rw[if_neg (show ¬ g x + -k=0 by omega),if_pos i]
end
def Zs6 {hp:Es} (h:HpAt H v hp):HeapV H v hp:=by
 obtain⟨a,xs,e,ha,hl,hx⟩:=h;refine⟨a,xs,e,ha,hl,fun i p hp=>?_⟩;obtain⟨b,e1,e2⟩:=hx i p hp;have hi:i<xs.length:=by exact hl▸(Qo.mp hp).1
 rw[Qb,Qa hi]at e1;exact⟨b,by exact Qa hi▸congrArg some e1,e2⟩
def SrtOf (ss ks:List Str):Prop:=ss.Perm ks/\(ss.map fun x=>x.cps.toList).Pairwise (· < ·)
def SrtOf.one (h:SrtOf ss ks) (k:SrtOf tt ks):ss=tt:=Zcr h.2 k.2 fun x=>by rw[h.1.mem_iff,k.1.mem_iff]
section
variable {P:Oc} {w:Of} {K:PySem.W.Frag} {mg:Str->Option Value} {base:Heap} {C CH CP:Addr} {bmH bmP:List Value}
def Zl0:Zm ["self"] ["self"] (Zf (Ja 4)):=⟨rfl,rfl,rfl,by simp,rfl,by decide +kernel,by decide +kernel⟩
def Zct (C:Addr):Sp:=fun vs H Q _=>∃ (b d:Addr) (L:Nat) (ks:List Str) (g:Str->Int),vs=[.ref b]/\BagAt C H b d L ks g/\Zdw ks g/\∀ v H' ss,Same H H'->SrtOf ss ks->HpAt H' v (ss.map fun x=>(x,g x))->Q v H'
def ZhW (D:HasM K C "as_heap" "Bag.as_heap" (Ja 4) ["self"] [[]]) (T:BgC K mg C) (a:FOk P w K mg base 1 "in_rows" ["manys"] ZiW):MOkX P w K mg base C 2 "as_heap" ["self"] [[]] (Zct C):=by
 refine D.okX Zl0 (fun x H Q E h=>?_) fun f y A e s x H Q E L m h=>?_;obtain⟨b,d,Ln,j,g,rfl,_⟩:=h;rfl;refine B0 ?_;intros;obtain⟨b,d,Ln,j,g,rfl,i,c,k⟩:=h;refine⟨_,Zg (Zn (Zu a m (Za (Jb (pv 0) rfl) Zc))),?_⟩;obtain⟨q,n⟩:=i.ob;exact⟨_,rfl,b,C,q,_,_,rfl,n,T.cl,T.nM,Yq _ _,d,j,g,rfl,i.dc,c.nd,by have:=c.few;lia,fun v t r z p o u=>k v t r z ⟨p,o⟩ u⟩
def ZqQ:Zm ["self"] ["self"] (Zf (Ja 5)):=⟨rfl,rfl,rfl,by simp,rfl,by decide +kernel,by decide +kernel⟩
def Zi8 (C CH:Addr):Sp:=fun vs H Q E=>∃ (b d:Addr) (L:Nat) (ks:List Str) (g:Str->Int),vs=[.ref b]/\BagAt C H b d L ks g/\Zdw ks g/\((ks=[]/\∀ H',Same H H'->E (.ref CH) none H') \/
 (ks≠[]/\∀ v H' ss,Same H H'->SrtOf ss ks->HpAt H' v (ss.map fun x=>(x,g x))->Q v H'))
def Zef (D:HasM K C "full_heap" "Bag.full_heap" (Ja 5) ["self"] [[]]) (B:Blt mg) (T:BgC K mg C) (c:XCls K mg "NoHeap" CH bmH) (g16_:MOkX P w K mg base C 2 "as_heap" ["self"] [[]] (Zct C)):MOkX P w K mg base C 3 "full_heap" ["self"] [[]] (Zi8 C CH):=by
 refine D.okX ZqQ (fun vs H Q E h=>?_) fun f cdv A outer s vs H Q E L hr h=>?_;obtain⟨b,d,Ln,ks,g,rfl,_⟩:=h;rfl;refine B0 ?_;intros;obtain⟨b,d,Ln,ks,g,rfl,hB,hok,h⟩:=h;refine⟨_,Zd (ZI (Zq YF (Zi ZeR rfl B.len ZE (Za (Jb (pv 0) rfl) Zc)) Zh (Zr _)) (Zg (Y3 L c rfl (Za Z1 Zc))) Zt)
  (Zg (Zn (ZjS g16_ [] (Qr.mpr rfl) L hr T.cl (pv 0)))),?_⟩
 apply B3;intros;obtain⟨dx,hb⟩:=hB.ob;refine⟨_,rfl,La b C dx _ _ ⟨rfl,hb,T.cl,T.nM,Yq _ _,d,_,rfl,hB.dc,rfl,_,rfl,?_⟩⟩;rw[Zav];rcases h with ⟨rfl,kE⟩ | ⟨hne,k⟩
 exact YG (Zg1 rfl) ⟨(by decide),kE _ (Same.refl _)⟩;have:=RY.mpr hne;exact Yw (JO (by lia)) ⟨_,rfl,b,dx,_,rfl,hb,Y1 _ _ (by decide +kernel) (by decide +kernel),b,d,Ln,ks,g,rfl,hB,hok,k⟩
def ZqM:Zm ["self"] ["self"] (Zf (Ja 6)):=⟨rfl,rfl,rfl,by simp,rfl,by decide +kernel,by decide +kernel⟩
def Znp (C CH:Addr):Sp:=fun vs H Q E=>∃ (b d:Addr) (L:Nat) (ks:List Str) (g:Str->Int),vs=[.ref b]/\BagAt C H b d L ks g/\Zdw ks g/\((ks=[]/\∀ H',Same H H'->E (.ref CH) none H') \/
 (∃ ss e0 es0,SrtOf ss ks/\(ss.map fun x=>(x,g x))=e0::es0/\Hpy (e0::es0) L/\∀ v H',Same H H'->VerV H' v e0 es0 L->Q v H'))
def ZbF (D:HasM K C "verdict_now" "Bag.verdict_now" (Ja 6) ["self"] [[]]) (T:BgC K mg C) (c:MOkX P w K mg base C 5 "full_heap" ["self"] [[]] (Zi8 C J)) (a:FOk P w K mg base 5 "verdict" ["H"] ZaS):MOkX P w K mg base C 6 "verdict_now" ["self"] [[]] (Znp C J):=by
 refine D.okX ZqM (fun y H Q E h=>?_) fun f R A m s y H Q E L q h=>?_;obtain⟨b,d,Ln,r,g,rfl,_⟩:=h;rfl;refine B0 ?_;intros;obtain⟨b,d,Ln,r,g,rfl,o,i,h⟩:=h;refine⟨_,Zg (Zn (Zu a q (Za (ZjS c [] (Qr.mpr rfl) L q T.cl (pv 0)) Zc))),?_⟩;obtain⟨z,N⟩:=o.ob;refine⟨_,rfl,b,z,_,rfl,N,Y1 _ _ (by decide +kernel) (by decide +kernel),b,d,Ln,r,g,rfl,o,i,?_⟩;rcases h with ⟨F,M⟩ | ⟨V,U,l,n,t,x,k⟩
 exact .inl ⟨F,M⟩;refine .inr ⟨fun e=>?_,fun v X W O G p=>?_⟩;rw[e]at n;rw[RV.mp n.1]at t
 grind
 rw[G.one n,t]at p;exact⟨v,U,l,Ln,rfl,Zs6 p,x,fun B S I u=>k B S (O.trans I) u⟩
def ZqN:Zm ["self"] ["self"] (Zf (Ja 7)):=⟨rfl,rfl,rfl,by simp,rfl,by decide +kernel,by decide +kernel⟩
def Zgb (ps:List Str) (n:Int):Prop:=∃ (rs:List Str) (ns:List Int),(∀ p,p∈rs↔Ze2 ps p)/\rs.Nodup/\ns.length=rs.length/\(∀ (i:Nat) (n:Int),ns[i]?=some n->IsN ps (rs.getD i "") n)/\n=ns.sum
def Zns (C CH:Addr):Sp:=fun vs H Q E=>∃ (b d:Addr) (L:Nat) (ks:List Str) (g:Str->Int),vs=[.ref b]/\BagAt C H b d L ks g/\Zdw ks g/\((ks=[]/\∀ H',Same H H'->E (.ref CH) none H') \/
 (∃ ss ps,SrtOf ss ks/\ks≠[]/\ZN ps (ss.map fun x=>(x,g x))/\RowOk ps/\ps≠[]/\∀ n H',Same H H'->Zgb ps n->Q (.int n) H'))
def Zd1 (D:HasM K C "texts_now" "Bag.texts_now" (Ja 7) ["self"] [[]]) (T:BgC K mg C) (a:MOkX P w K mg base C 8 "full_heap" ["self"] [[]] (Zi8 C O)) (c:FOk P w K mg base 8 "count_of" ["H"] ZaV):MOkX P w K mg base C 9 "texts_now" ["self"] [[]] (Zns C O):=by
 refine D.okX ZqN (fun x H Q E h=>?_) fun f U A n s x H Q E L q h=>?_;obtain⟨b,d,Ln,t,g,rfl,_⟩:=h;rfl;refine B0 ?_;intros;obtain⟨b,d,Ln,t,g,rfl,p,i,h⟩:=h;refine⟨_,Zg (Zn (Zu c q (Za (ZjS a [] (Qr.mpr rfl) L q T.cl (pv 0)) Zc))),?_⟩;have⟨z,J⟩:=p.ob;refine⟨_,rfl,Lb b z _ ⟨rfl,J,Y1 _ _ (by decide +kernel) (by decide +kernel),La b d Ln t g ⟨rfl,p,i,?_⟩⟩⟩;rcases h with ⟨G,B⟩ | ⟨ss,W,y,m,R,F,o,k⟩
 exact .inl ⟨G,B⟩;refine .inr ⟨m,fun v H' tt Y S r=>?_⟩;rw[S.one y]at r;have⟨e,u,he,j⟩:=ZqS F o r R;exact Ld v W e u ⟨rfl,j,fun X rs Z N M h2 V I=>k _ X (Y.trans N) ⟨rs,Z,M,h2,V,I,rfl⟩⟩
end
section
variable {P:Oc} {w:Of} {K:PySem.W.Frag} {mg:Str->Option Value} {base:Heap}
abbrev Zjs:Stmt:=top 78
noncomputable abbrev Zrf:List Str:=["_law_heap_here","_law_words","_law_piece","_law_many"]
def scLLine:Zm Zrf ["_law_heap_here"] (Zf Zjs):=⟨rfl,rfl,rfl,by decide +kernel,rfl,by decide +kernel,by decide +kernel⟩
def Znz:Sp:=fun vs H Q _=>∃ (v:V) (hp:List Pr),vs=[v]/\HpAt H v hp/\Zlt hp/\(∀ p∈hp,1<=p.2)/\∀ H',Same H H'->Q (.str (ZbE hp)) H'
def Zj4 (D:HasDef K mg "_law_line" Zjs ["_law_heap_here"]) (B:Blt mg):FOk P w K mg base 1 "_law_line" ["_law_heap_here"] Znz:=by
 refine D.ok scLLine (fun vs H Q E h=>?_) (fun f cdv A outer s H vs Q E hr h=>?_)
 obtain⟨v,hp,rfl,_⟩:=h;rfl
 refine B0 ?_;intros;obtain⟨v,hp,rfl,hA,hS,hpos,k⟩:=h;refine Pd (id hA) fun a xs r0 ha hl hr'=>?_;subst r0;refine ⟨_,(Zd (Zo (i:=1) scLLine.nd rfl (.inl rfl) (Z2 Zc))
  (Zd (Yh PassesOwn.never rfl (Yb (pv 0)) (Yt 2 K rfl (Zy (ZG (i:=2) scLLine.nd rfl (.inl rfl)) (Zy (ZG (i:=3) scLLine.nd rfl (.inl rfl)) Ys)))
   (Zg (ZT (Y2 F.plainAttrs_list F.slot_list_append F.type_list_append Z9 (pv 1) (Za (Zv Yf (pv 2) (Zw ix_list (Z2 (Za Z1 (Za (Zv Yf Z1 (ZB ZeO rfl B.str Zm8 (Za (pv 3) Zc))) Zc))) (ZB Zli rfl B.int Zm9 (Za (ZY Xv (pv 3) Zh (Zr _)) Zc)) (fun _ _=>rfl))) Zc)))))
  (Zg (Zn (Y2 F.plainAttrs_str F.slot_str_join F.type_str_join ZfQ Z1 (Za (pv 1) Zc)))))),⟨Zk (show 0<=1000 by decide),fun l hlf=>?_⟩⟩;have s1:=Zb (o:=.lst []) hlf;have hla:l≠a:=fun e=>by simp_all
 refine⟨_,rfl,a,rfl,⟨_,SqT.of (s1 _ _ ha)⟩,Y9 (K:=K) (a:=a) (xs:=xs) (fun i σ H2=>∃ z1 z2:Option V,σ=[some (.ref a),some (.ref l),z1,z2]/\Same H H2/\H2 l=some (.lst (((hp.take i).map Yj).map V.str))) ⟨none,none,rfl,s1,Ze⟩ (fun i σ H2 _=>Da fun _ _ _ e _=>SqT.of (e _ _ ha)) ?_ ?_⟩
 rintro i x σ H2 hi ⟨z1,z2,rfl,s2,h2⟩;have hi':i<hp.length:=by
  have:=(Qo.mp hi).1;exact V6 hl this
 have hm:=QA hi';refine Pe (hr' i _ (Qa hi')) fun c ec hcc=>?_;have ex:x= .ref c:=by
  simp_all
 subst ex;have h4:=hS.len _ hm;have h5:=ZcV (hS.lo _ hm) (hS.hi _ hm);have h3:("*" : Str).length=1:=rfl;refine ⟨c,_,rfl,SqT.of (s2 _ _ hcc),rfl,_,_,rfl,_,_,rfl,rfl,⟨_,rfl,.inl ⟨rfl,_,SqL.of h2⟩,_,rfl,_,rfl,hp[i].2,rfl,Zkb (hS.lo _ hm) (hS.hi _ hm),_,_,rfl,rfl,Zs (by omega),Zk (show 2<=1000 by decide),fun m hmf=>?_⟩⟩;have hml:m≠l:=fun e=>by simp_all
 have s3:=Zb (o:=.lst [.str "",.str ("*" ++ Str.ofString (toString hp[i].2))]) hmf;have hw:∃ y:Str,atI [V.str "",V.str ("*" ++ Str.ofString (toString hp[i].2))] (if decide ((1:Int)<hp[i].2)=true then 1 else 0)=some (.str y)/\Yj hp[i]=hp[i].1++y/\y.length<=12:=by
  by_cases e:hp[i].2=1
  refine⟨"",?_,?_,by decide⟩
  rw[e];rfl
  unfold Yj;rw[if_pos e];rfl
  have:=hpos _ hm;refine⟨"*" ++ Str.ofString (toString hp[i].2),?_,?_,?_⟩
  rw[if_pos (decide_eq_true (by lia))];rfl
  unfold Yj;rw[if_neg e,Str.append_assoc]
  rw[Str.length_append];lia
 refine Pf hw fun y hat hsp _=>?_;refine⟨_,rfl,_,_,rfl,rfl,.inr ⟨_,rfl,m,_,_,_,rfl,rfl,SqL.of Ze,hat,_,_,rfl,rfl,Zs (by lia),l,_,_,rfl,rfl,s3 _ _ h2,by rw[Qc,Qc,QH];exact ZC (by have:=hS.few;exact S4 this),_,_,rfl,fun b u hb=>?_,?_⟩⟩
 exact Zj (Zl hb hlf)▸s3 _ _ (s2 b u hb)
 rw[Ze,QQ hi',QM,QM];show _=some (HO.lst (_++[V.str (Yj hp[i])]));rw[hsp]
 rintro σ H2 ⟨z1,z2,rfl,s2,h2⟩;rw[QP (T4 hl)]at h2;exact⟨rfl,_,rfl,Lb (" ") l (hp.map Yj) ⟨rfl,rfl,SqL.of h2,ZaY hS,k H2 s2⟩⟩
abbrev ZcD:Stmt:=top 79
noncomputable abbrev Zmw:List Str:=["_law_row_here","_law_deck_here","_law_left","_law_found"]
def scLTurned:Zm Zmw ["_law_row_here","_law_deck_here"] (Zf ZcD):=⟨rfl,rfl,rfl,by decide +kernel,rfl,by decide +kernel,by decide +kernel⟩
def Zgl:Sp:=fun vs H Q _=>∃ (a Dk:Addr) (n:Nat) (ps:List Str),vs=[.ref a,.ref Dk]/\H a=some (.lst (ps.map V.str))/\ps.length<=60/\DK H Dk (n+ps.length)/\∀ p H' (qs:List Str),SB Dk H H'->DK H' Dk n->H p=none->H' p=some (.lst (qs.map V.str))->qs.Perm ps->Q (.ref p) H'
def ZfF (D:HasDef K mg "_law_turned" ZcD ["_law_row_here","_law_deck_here"]) (B:Blt mg):FOk P w K mg base 1 "_law_turned" ["_law_row_here","_law_deck_here"] Zgl:=by
 refine D.ok scLTurned (fun vs H Q E h=>?_) (fun f cdv A outer s H vs Q E hr h=>?_)
 obtain⟨a,Dk,n,ps,rfl,_⟩:=h;rfl
 refine B0 ?_;intros;obtain⟨a,Dk,n,ps,rfl,ha,hps,hD,k⟩:=h;refine ⟨_,(Zd (Zo (i:=2) scLTurned.nd rfl (.inl rfl) (ZB Y8 rfl B.list ZbA (Za (pv 0) Zc)))
  (Zd (Zo (i:=3) scLTurned.nd rfl (.inl rfl) (Z2 Zc))
  (Zd (Xj PassesOwn.never (Zq (ZgJ hr.units) (pv 2) (Z2 Zc) (Zr _))
   (Zg (ZT (Y2 F.plainAttrs_list F.slot_list_append F.type_list_append Z9 (pv 3) (Za (Y2 F.plainAttrs_list F.slot_list_pop F.type_list_pop Zeo (pv 2) (Za (Zv Z6 (Xs F.plainAttrs_list F.slot_list_pop F.type_list_pop YK (pv 1)) (Zi Zp rfl B.len ZE (Za (pv 2) Zc))) Zc)) Zc)))))
  (Zg (Zn (pv 3)))))),⟨_,rfl,a,_,rfl,.inl (SqL.of ha),fun lf hlf=>⟨Zk (show 0<=1000 by decide),fun fd hfd=>?_⟩⟩⟩;have s1:=Zb (o:=.lst (ps.map V.str)) hlf;have s2:=Zb (o:=.lst []) hfd;have hl2:=s2 _ _ (Ze (H:=H) (a:=lf) (o:=.lst (ps.map V.str)));have hfl:fd≠lf:=fun e=>by rw[e,Ze]at hfd;simp_all
 have hf0:H fd=none:=s1.free hfd;have hf2:(upd (upd H lf (.lst (ps.map V.str))) fd (.lst [])) fd=some (.lst (([]:List Str).map V.str)):=Ze;have s12:=s1.trans s2;have hDl:lf≠Dk:=fun e=>by obtain⟨ns,z,_⟩:=hD;simp_all
 have hDf:fd≠Dk:=fun e=>by obtain⟨ns,z,_⟩:=hD;simp_all
 generalize upd (upd H lf (.lst (ps.map V.str))) fd (.lst [])=H2 at s12 hl2 hf2;refine⟨fun m σ H4=>∃ (ls fs:List Str),σ=[some (.ref a),some (.ref Dk),some (.ref lf),some (.ref fd)]/\SB Dk H H4/\DK H4 Dk (n+ls.length)/\H4 lf=some (.lst (ls.map V.str))/\H4 fd=some (.lst (fs.map V.str))/\(fs++ls).Perm ps/\m=ls.length,
  ⟨_,ps,[],rfl,fun b u _ e=>s12 b u e,hD.same s12,hl2,hf2,List.Perm.refl _,rfl⟩,?_⟩
 rintro m σ H4 ⟨ls,fs,rfl,sb,hD4,hl4,hf4,hpm,rfl⟩;refine⟨_,rfl,Zk (show 0<=1000 by decide),fun p0 hp0=>?_⟩;have s5:=Zb (o:=.lst []) hp0;refine⟨lf,p0,_,rfl,rfl,s5 _ _ hl4,Ze,_,rfl,?_⟩;have sb5:SB Dk H (upd H4 p0 (.lst [])):=sb.trans fun b u _ e=>s5 b u e;replace hl4:=s5 _ _ hl4;replace hf4:=s5 _ _ hf4;replace hD4:=hD4.same s5;generalize upd H4 p0 (.lst [])=H5 at sb5 hl4 hf4 hD4;cases ls with
 | nil =>
  refine Yw rfl ?_;rw[Ua]at hpm;exact⟨_,rfl,k fd H5 fs sb5 hD4 hf0 hf4 hpm⟩
 | cons x r =>
  refine YG rfl ⟨fun σ' H'=>∃ m',m'<(x::r).length/\∃ (ls fs:List Str),σ'=[some (.ref a),some (.ref Dk),some (.ref lf),some (.ref fd)]/\SB Dk H H'/\DK H' Dk (n+ls.length)/\H' lf=some (.lst (ls.map V.str))/\H' fd=some (.lst (fs.map V.str))/\(fs++ls).Perm ps/\m'=ls.length,fun _ _ z=>z,?_⟩;refine Pd ((show DK H5 Dk (n+r.length+1)from hD4.less (by rw[QC];lia)).pop) fun ns cc hDn c0 c1 hD6=>?_;refine⟨_,rfl,.inl ⟨rfl,_,SqL.of hf4⟩,_,rfl,.inl ⟨rfl,_,SqL.of hl4⟩,_,rfl,.inl ⟨rfl,_,SqL.of hDn⟩,Lb Dk _ (.int cc) ⟨rfl,rfl,hDn,Y5 ns cc,?_⟩⟩;rw[Y7];have sb6:SB Dk H (upd H5 Dk (.lst (ns.map V.int))):=sb5.trans SB.upd;have hl6:(upd H5 Dk (.lst (ns.map V.int))) lf=some (.lst ((x::r).map V.str)):=by rw[Zj hDl];omega
  have hf6:(upd H5 Dk (.lst (ns.map V.int))) fd=some (.lst (fs.map V.str)):=by rw[Zj hDf];omega
  generalize upd H5 Dk (.lst (ns.map V.int))=H6 at sb6 hD6 hl6 hf6;have hlen:(((x::r).map V.str).length:Int)=(r.length:Int)+1:=by simp
  obtain⟨q,hq,e⟩:∃ q:Nat,q<r.length+1/\cc % (((x::r).map V.str).length:Int)=(q:Int):=by
   rw[hlen];have h1:=Vr cc (show(r.length:Int)+1≠0 by omega);have h2:=R3 cc (show(0:Int)<(r.length:Int)+1 by exact Ti);exact⟨(cc % ((r.length:Int)+1)).toNat,by omega,by omega⟩
  have hr60:r.length+1<=60:=by
   have:=hpm.length_eq;rw[Qm,QC]at this;lia
  have hq':q<(x::r).length:=hq;refine ⟨_,rfl,.ref lf,_,rfl,.inl ⟨_,SqL.of hl6,rfl⟩,_,_,rfl,rfl,by omega,⟨lf,_,(q:Int),q,.str (x::r)[q],rfl,by dsimp only;rw[e],hl6,by lia,by lia,?_,?_,?_⟩⟩
  rw[PySem.StrLaws.seqIndex_nonneg Tj (by rw[Qc,QC];exact Tk hq),Wp]
  rw[Qh,Qa hq'];rfl
  have ef:fs.length+(r.length+1)=ps.length:=by
   have:=hpm.length_eq;rw[Qm,QC]at this;exact this
  refine Lb fd _ _ ⟨rfl,rfl,by rw[Zj hfl];exact hf6,by rw[Qc];exact ZC (by lia),r.length,UB _,(x::r).eraseIdx q,fs++[(x::r)[q]],rfl,fun b u hb eb=>?_,?_,?_,?_,?_,?_⟩
  rw[Zj (Zl eb hf0),Zj (Zl eb hlf)];exact sb6 b u hb eb
  obtain⟨ns',z1,z2,z3⟩:=hD6;refine⟨ns',?_,?_,z3⟩
  rw[Zj (Ne.symm hDf),Zj (Ne.symm hDl)];exact z1
  rw[Rj hq',QC];exact z2
  rw[Zj (Ne.symm hfl),Ze];simp[Wn]
  rw[Ze,QM];rfl
  refine List.Perm.trans ?_ hpm;rw[Ud];exact List.Perm.append_left _ (Zan hq')
  rw[Rj hq'];rfl
end
end Sh
namespace L2
open PySem PySem.Spec PyProof.Rows
section
variable {X:Cx} {C:Addr} {m:Str} {ps:List Str} {dss:List (List V)} {k:Nat} {sp:Sp} {p pos apos:Pos} {e o:Expr} {es:List Expr} {ta:TE} {t:TA}
def Zpd {pl} (G:MOkX X.prog X.w X.K X.mg X.base C k m ps dss sp) (dvs) (hdv:dvs∈dss) (hr:Room k X.A) (c:Cls X.K C) (he:PE X o ta) (ha:PA X (e::es) t)
  (hst:Og (e::es) X.env=(false,eval e X.env)::Og es X.env:=by rfl) (hpl:(Om pos (Og es X.env)).any (·.1)=false:=by rfl)
  (ht:eval (.Call (.Attribute o m apos) (e::es) [] pos) X.env=(do
   let ov ←eval o X.env
   O0 apos.atName
   let (f,first) ←OI [ov] (OH ov m pl)
   OV pos f first (Om pos (Og (e::es) X.env)) (OE pos (Ot [] X.env))):=by rfl) :
  PE X (.Call (.Attribute o m apos) (e::es) [] pos) (ZdE C m sp dvs (fun _ _ _=>False) ta t):=by
 have⟨f,fd,F,me,b⟩:=G.ex;have⟨ds,hv,hb⟩:=b dvs hdv;exact ZjR he c me F hr hb hv Zfx ha hst hpl ht
end
def ZpD (n) (xs) (t) (hn:n<=sizeLine)
  (E:∀ H,Same p H->(∀ i,i<n->J.go i H/\∀ x h,J.yld i H x h->h=H/\x=xs i)/\J.stop n H)
  (step:∀ i H (A) (B:Hp->Prop),i<n->Same p H->(t i=true->A (xs i) H)->(t i=false->B H)->g (xs i) (lcS k mp σ) H fun l H4=>tc l H4 fun b w=>if b=true then C l w A else B w)
  (q:∀ D h,Same p h->p D=none->h D=some (.lst (((Qz n).filter t).map xs))->Q (.ref D) h):Xt k mp σ g tc C J p Q:=by
 intro D s;refine⟨fun i m f H=>m=n-i/\i<=n/\f=((Qz i).filter t).map xs/\Same p H/\H D=some (.lst f),⟨n,by simp,QT _,rfl,Zb s,Ze⟩,?_⟩;rintro i m f H ⟨rfl,hi,rfl,j,d⟩;obtain⟨v,j2⟩:=E H j;by_cases a:i<n
 refine .inr ⟨(v i a).1,fun x z y=>?_⟩;obtain⟨F,e2⟩:=(v i a).2 x z y;subst F e2;refine step i z _ _ a j (fun u=>⟨d,?_,_,T3 a,rfl,a,?_,fun b o e=>?_,Ze⟩) (fun u=>⟨_,T3 a,rfl,a,?_,j,d⟩);rw[Qc];have:=Q7 t (Qz i);rw[Q3]at this;lia;rw[Ub,Wi];simp[u];exact Zj (Zl e s)▸j b o e;rw[Ub,Wi];simp[u];have e:i=n:=T5 hi a
 subst e;exact .inl ⟨j2,q D H j s d⟩
end L2
namespace Sh
open PySem L2 PyProof.Rows
seal L2.PE L2.PS L2.PSs L2.PT L2.PW L2.PA L2.PI L2.PG L2.PGs L2.PO L2.PC L2.PCs L2.OpR L2.UnR L2.CallR L2.MtR L2.IxR L2.SlR L2.PX L2.PBc
def ZhD (ps:List Str) (f):((Qz ps.length).filter fun i=>f (ps.getD i "")).map (fun i=>(ps.map V.str).getD i .non)=(ps.filter f).map V.str:=by
 have e:(Qz ps.length).map (fun i=>ps.getD i "")=ps:=by
  apply UZ;simp;intro i j h;simp[h]
 have d:ps.filter f=((Qz ps.length).filter fun i=>f (ps.getD i "")).map fun i=>ps.getD i "":=by
  conv=>lhs;rw[←e,U3]
  rfl
 rw[d,QN];exact QB fun i g=>(by simp[(QK.mp (QF.mp g).1)])
def Zc3 {K} (ps:List Str) (f) (hn:ps.length<=1000) (q:SqL K j a (ps.map V.str))
  (step:∀ x H (l) (n:Hp->Prop),x∈ps->Same j H->(f x=true->l (.str x) H)->(f x=false->n H)->g (.str x) (lcS k w σ) H fun c u=>r c u fun b o=>if b=true then v c o l else n o)
  (e:∀ D d,Same j d->j D=none->d D=some (.lst ((ps.filter f).map V.str))->Q (.ref D) d):Xt k w σ g r v (Itl K a) j Q:=by
 refine ZpD _ _ (fun i=>f (ps.getD i "")) (Zk (by rw[Qc];exact hn)) (Yi q) (fun i H l n m s h1 h2=>?_) fun D d s hD h=>e D d s hD ?_;rw[Qc]at m;have e1:(ps.map V.str).getD i .non= .str ps[i]:=by simp[m]
 have e2:ps.getD i "" = ps[i]:=by simp[m]
 simp_all
 rw[h,Qc,ZhD]
def ZaN:∀ ps:List Str,x∈ps->∃ j,ps[j]?=some x/\(∀ i,i<j->ps[i]?≠some x)/\ps.eraseIdx j=ps.erase x
 | [],h=>by cases h
 | y::ps,h=>by
  by_cases e:y=x
  subst e;exact⟨0,rfl,fun i b=>absurd b (RA _),by simp⟩;obtain⟨j,g,f,k⟩:=ZaN ps ((Qx.mp h).resolve_left fun z=>e z.symm);refine⟨j+1,g,fun i b=>?_,?_⟩;cases i with
  | zero=>exact fun z=>e (Option.some.inj z)
  | succ i=>exact f i (So b)
  rw[List.erase_cons_tail (by simpa using e),←k];rfl
structure Bg (ps ks:List Str) (g:Str->Int):Prop where
 nd:ks.Nodup
 cnt:∀ y,g y=(ps.count y:Int)
 mem:∀ y,y∈ks↔y∈ps
def Bg.ok (h:Bg ps ks g) (hl:ps.length<=60):Zdw ks g :=
 ⟨h.nd,QO (YN h.nd fun x hx=>(h.mem x).mp hx) hl,fun y hy=>by rw[h.cnt,Wh fun z=>hy ((h.mem y).mpr z)];rfl,
  fun y hy=>by rw[h.cnt];have:=WZ.mpr ((h.mem y).mp hy);exact Nl this⟩
def Bg.sum (h:Bg ps ks g):(ks.map g).sum=ps.length:=by
 have e:=Zdm h.nd (fun _=>true) ps fun x b=>(h.mem x).mpr b;rw[UK.mpr fun _ _=>rfl,UK.mpr fun _ _=>rfl]at e;exact e▸congrArg List.sum (QB fun x _=>h.cnt x)
def Bg.nil:Bg [] [] (fun _=>0):=⟨Wx,fun _=>rfl,fun _=>Iff.rfl⟩
def Bg.perm (h:Bg ps ks g) (p:ps.Perm a):Bg a ks g:=⟨h.nd,fun y=>by rw[h.cnt,p.count_eq],fun y=>by rw[h.mem,p.mem_iff]⟩
def Bg.up (h:Bg ps ks g) (i:∀ y,(f.count y)=(ps.count y:Int)+if y=x then k else 0):Bg f (upK ks g x k) (upG g x k):=by
 have o:∀ y,upG g x k y=(f.count y:Int):=fun y=>by
  unfold upG;rw[i];by_cases c:y=x
  rw[if_pos c,if_pos c,h.cnt,c]
  rw[if_neg c,if_neg c,h.cnt];omega
 have r:∀ y,y∈f↔0<(f.count y:Int):=fun y=>by
  simp
 have p:∀ y,y∈ks↔0<(ps.count y:Int):=fun y=>by
  rw[h.mem,←WZ];omega
 have n:(if x∈ks then ks else ks++[x]).Nodup:=by
  by_cases c:x∈ks
  exact if_pos c▸h.nd
  exact if_neg c▸Wg.mpr ⟨h.nd,by simp,fun a t b s e=>c (by simp_all)⟩
 have l:∀ y,y∈(if x∈ks then ks else ks++[x])↔y∈ks\/y=x:=fun y=>by
  by_cases c:x∈ks
  simp_all
  simp_all
 have m:=i x;rw[if_pos rfl]at m;refine⟨?_,o,fun y=>?_⟩
 unfold upK;split
 exact n.filter _
 omega
 rw[r,i];unfold upK;rw[h.cnt];have q:=p y;split
 rw[QF,l,decide_eq_true_eq];by_cases c:y=x
 subst c;exact if_pos rfl▸⟨fun z=>absurd rfl z.2,fun z=>by omega⟩
 exact if_neg c▸⟨fun z=>by have:=q.mp (z.1.resolve_right c);omega,fun z=>⟨.inl (q.mpr (by omega)),c⟩⟩
 rw[l];by_cases c:y=x
 subst c;exact if_pos rfl▸⟨fun _=>by omega,fun _=>.inr rfl⟩
 simp_all
section
variable {P:Oc} {w:Of} {K:PySem.W.Frag} {mg:Str->Option Value} {base:Heap} {C CH CP:Addr} {bmH bmP:List Value}
abbrev Zgx:Stmt:=top 80
noncomputable abbrev Zn1:List Str:=["_law_bag","_law_row_here","_law_left","_law_piece","_law_many"]
def scLGath:Zm Zn1 ["_law_bag","_law_row_here"] (Zf Zgx):=⟨rfl,rfl,rfl,by decide +kernel,rfl,by decide +kernel,by decide +kernel⟩
def OfL (L:Nat) (ps:List Str):Prop:=∀ x∈ps,x.length=L/\ZK (.str x)=true
def ZnE (C:Addr):Sp:=fun vs H Q _=>∃ (b a d:Addr) (L:Nat) (ps:List Str),vs=[.ref b,.ref a]/\BagAt C H b d L [] (fun _=>0)/\H a=some (.lst (ps.map V.str))/\ps.length<=60/\L<=200/\OfL L ps /\
 ∀ H' ks g,Bt d H H'->BagAt C H' b d L ks g->Bg ps ks g->Q .non H'
def Zj6 (D:HasDef K mg "_law_gathered" Zgx ["_law_bag","_law_row_here"]) (B:Blt mg) (T:BgC K mg C) (g47_:MOkX P w K mg base C 5 "put" ["self","piece","many"] [[],[.int 1]] (ZoI C CP CH)):FOk P w K mg base 6 "_law_gathered" ["_law_bag","_law_row_here"] (ZnE C):=by
 refine D.ok scLGath (fun vs H Q E h=>?_) (fun f cdv A outer s H vs Q E hr h=>?_)
 ·obtain⟨b,a,d,L,ps,rfl,_⟩:=h;rfl
 ·refine B0 ?_;intros;obtain⟨b,a,d,L,ps,rfl,hB,ha,hps,hL,hO,k⟩:=h;have m0:([]:List V)∈[[],[V.int 1]]:=Qd;have m1:[V.int 1]∈[[],[V.int 1]]:=Qg _ Qd;refine⟨_,(Zd (Zo (i:=2) scLGath.nd rfl (.inl rfl) (ZB Y8 rfl B.list ZbA (Za (pv 1) Zc)))
   (Zg (Xj PassesOwn.never (Zq (ZgJ hr.units) (pv 2) (Z2 Zc) (Zr _))
    (Zd (Zo (i:=3) scLGath.nd rfl (.inr rfl) (Zw ix_list (pv 2) Zh (fun _ _=>rfl)))
   (Zd (Zo (i:=4) scLGath.nd rfl (.inl rfl) (Zi Zp rfl B.len ZE (Za (Zx (Zf Zgx) Zn1 ["_law_one"] [3] rfl (ZQ (pv 2)) (fun _ _ _ _ _=>ZW 0) (fun _ _ _ _ _=>Zac (Zq YF (pv 0) (pv 1) (Zr _))) (fun _ _ _ _ _=>(pv 0))) Zc)))
   (Zd (ZI (Zq Xv (pv 4) Zh (Zr _)) (Zd (ZT (Zpd g47_ [] m0 hr T.cl (pv 0) (Za (pv 3) (Za Zh Zc))))
   (Zd (ZT (Y2 F.plainAttrs_list F.slot_list_remove F.type_list_remove Zbh (pv 2) (Za (pv 3) Zc)))
   (Zg (ZT (Y2 F.plainAttrs_list F.slot_list_remove F.type_list_remove Zbh (pv 2) (Za (pv 3) Zc)))))) (Zg (ZT (Zpd g47_ [.int 1] m1 hr T.cl (pv 0) (Za (pv 3) Zc)))))
   (Zg (ZT (Y2 F.plainAttrs_list F.slot_list_remove F.type_list_remove Zbh (pv 2) (Za (pv 3) Zc)))))))))),?_⟩
  apply B3;intros;refine⟨_,rfl,a,_,rfl,.inl (SqL.of ha),fun lf hlf=>?_⟩;have s1:=Zb (o:=.lst (ps.map V.str)) hlf;have hld:lf≠d:=fun e=>by rw[e,hB.dc]at hlf;simp_all
  refine⟨fun m σ H4=>∃ (ls qs ks:List Str) (g:Str->Int) (z3 z4:Option V),σ=[some (.ref b),some (.ref a),some (.ref lf),z3,z4]/\Bt d H H4/\BagAt C H4 b d L ks g/\Bg qs ks g/\H4 lf=some (.lst (ls.map V.str))/\(qs++ls).Perm ps/\m=ls.length,
   ⟨_,ps,[],[],_,none,none,rfl,fun c u _ e=>s1 c u e,hB.same s1,Bg.nil,Ze,List.Perm.refl _,rfl⟩,?_⟩
  rintro m σ H4 ⟨ls,qs,ks,g,z3,z4,rfl,bt,hB4,hG,hl4,hpm,rfl⟩;refine⟨_,rfl,Zk (show 0<=1000 by decide),fun p0 hp0=>?_⟩;have s5:=Zb (o:=.lst []) hp0;refine⟨lf,p0,_,rfl,rfl,s5 _ _ hl4,Ze,_,rfl,?_⟩;have bt5:Bt d H (upd H4 p0 (.lst [])):=fun c u n e=>s5 _ _ (bt c u n e);replace hl4:=s5 _ _ hl4;replace hB4:=hB4.same s5;generalize upd H4 p0 (.lst [])=H5 at bt5 hl4 hB4;cases ls with
  | nil =>
   refine Yw rfl ?_;rw[Ua]at hpm;exact k H5 ks g bt5 hB4 (hG.perm hpm)
  | cons x r =>
   refine YG rfl ⟨fun σ' H'=>∃ m',m'<(x::r).length/\∃ (ls qs ks:List Str) (g:Str->Int) (z3 z4:Option V),σ'=[some (.ref b),some (.ref a),some (.ref lf),z3,z4]/\Bt d H H'/\BagAt C H' b d L ks g/\Bg qs ks g/\H' lf=some (.lst (ls.map V.str))/\(qs++ls).Perm ps/\m'=ls.length,fun _ _ z=>z,?_⟩;apply B4;intros;refine⟨_,rfl,Ld lf _ 0 (.str x) ⟨rfl,rfl,SqL.of hl4,ZL (by decide) rfl,?_⟩⟩;refine⟨_,rfl,lf,rfl,⟨_,SqL.of hl4⟩,Zc3 (x::r) (fun y=>decide (y=x)) ?_ (SqL.of hl4) ?_ ?_⟩
   ·have:=hpm.length_eq;rw[Qm]at this;lia
   ·intro y H6 Qt Qf hy s6 h1 h2;refine⟨_,rfl,_,rfl,rfl,_,rfl,?_⟩;by_cases c:y=x
    ·exact YG (by simp[c]) ⟨_,rfl,h1 (decide_eq_true c)⟩
    ·exact Yw (by simp[c]) (h2 (decide_eq_false c))
   intro D6 H6 s6 hD6 hl6;refine⟨.ref D6,_,rfl,.inl ⟨_,SqL.of hl6,rfl⟩,?_⟩;rw[Qc];have bt6:Bt d H H6:=fun c u n e=>s6 _ _ (bt5 c u n e);have hB6:=hB4.same s6;have hll:=s6 _ _ hl4;have ecn:((x::r).filter fun y=>decide (y=x)).length=(x::r).count x:=by
    rw[List.count_eq_length_filter];rfl
   rw[ecn];clear hl6 hD6 s6 hl4 hB4 bt5 ecn;dsimp only[Jp];refine Yr (fun σ' H'=>∃ (ls qs ks:List Str) (g:Str->Int) (z4:Option V),σ'=[some (.ref b),some (.ref a),some (.ref lf),some (.str x),z4]/\Bt d H H'/\BagAt C H' b d L ks g/\Bg qs ks g/\H' lf=some (.lst (ls.map V.str))/\x∈ls/\(qs++ls.erase x).Perm ps/\ls.length<=(x::r).length) (fun R hR=>?_) ?_
   ·have hbd:b≠d:=fun e=>by obtain⟨dx,z⟩:=hB6.ob;rw[e,hB6.dc]at z;grind
    have nP:(Zoc L d).lookup ("put" : Str)=none:=Y1 _ _ (by decide +kernel) (by decide +kernel);obtain⟨dx,hb⟩:=hB6.ob;have hq:qs.length+(r.length+1)=ps.length:=by
     have:=hpm.length_eq;rw[Qm,QC]at this;exact this
    have hok:=hG.ok (by lia);have hxO:=hO x (hpm.mem_iff.mp (QZ _ Qd));have hgp:∀ k:Int,1<=k->XH L (.str x) (.int k)=true:=fun k hk=>by simp[XH,hxO,hk]
    have hsz:∀ z,V.str x= .str z->z.length<=sizeLine:=fun z e=>by cases e;exact Zk (by rw[hxO.1];lia)
    refine⟨_,rfl,_,_,rfl,rfl,_,rfl,?_⟩;by_cases c:(2:Int)<((x::r).count x:Nat)
    ·refine YG (decide_eq_true c) ?_;have c1:x∈r:=WZ.mp (by rw[RQ]at c;omega);have c2:x∈r.erase x:=WZ.mp (by rw[List.count_erase_self];rw[RQ]at c;omega);have hle:(r.erase x).length+1=r.length:=by
      have:=Wc c1;rw[Wj c1];omega
     have hle2:=Wc c2;refine⟨_,rfl,Lb b dx _ ⟨rfl,hb,nP,_,rfl,Le b d L ks g (.str x) (.int 3) ("str") ("int") ⟨rfl,hB6,hok,.str _,.int _,hsz,.inr ⟨x,3,rfl,rfl,hgp 3 (by decide),.inr ⟨by rw[hG.sum];lia,fun H7 bt7 hd7=>?_⟩⟩⟩⟩⟩;have hl7:=bt7 _ _ hld hll;refine Pf (ZaN (x::r) Qd) fun j hj1 hj2 ej=>?_;refine⟨_,rfl,.inl ⟨rfl,_,SqL.of hl7⟩,_,rfl,Ld lf (x::r) x j ⟨rfl,rfl,hl7,hj1,hj2,?_⟩⟩;rw[ej,UF];refine Pf (ZaN r c1) fun j hj1 hj2 ej=>?_;refine⟨_,rfl,.inl ⟨rfl,_,SqL.of Ze⟩,_,rfl,Ld lf r x j ⟨rfl,rfl,Ze,hj1,hj2,?_⟩⟩;rw[ej,ZaP];refine hR _ _ ⟨r.erase x,qs++[x,x,x],_,_,_,rfl,fun c u n e=>?_,⟨⟨dx,?_⟩,?_⟩,hG.up (x:=x) (k:=3) fun y=>?_,Ze,c2,?_,by rw[QC];lia⟩
     ·rw[Zj (Zl e hlf)];exact bt7 _ _ n (bt6 c u n e)
     ·rw[Zj (fun e=>by rw[e]at hb;rw[hll]at hb;cases hb)];exact bt7 _ _ hbd hb
     ·rw[Zj (Ne.symm hld)];exact hd7
     ·rw[UT];by_cases e:y=x
      ·rw[if_pos e,e];simp
      ·rw[if_neg e,Wh (a:=y) (l:=[x,x,x]) (by simp[e])];simp
     ·refine List.Perm.trans ?_ hpm;rw[Ud];refine List.Perm.append_left _ ?_;have p1:=Wb c1;have p2:=Wb c2;exact((p1.trans (p2.cons x)).cons x).symm
    ·refine Yw (decide_eq_false c) ?_;refine⟨_,rfl,Lb b dx _ ⟨rfl,hb,nP,_,rfl,Le b d L ks g (.str x) (.int 1) ("str") ("int") ⟨rfl,hB6,hok,.str _,.int _,hsz,.inr ⟨x,1,rfl,rfl,hgp 1 (by decide),.inr ⟨by rw[hG.sum];lia,fun H7 bt7 hd7=>?_⟩⟩⟩⟩⟩;refine hR _ _ ⟨x::r,qs++[x],_,_,_,rfl,fun c u n e=>bt7 _ _ n (bt6 c u n e),⟨⟨dx,bt7 _ _ hbd hb⟩,hd7⟩,hG.up (x:=x) (k:=1) fun y=>?_,bt7 _ _ hld hll,Qd,?_,Ql _⟩
     ·rw[UT];by_cases e:y=x
      ·rw[if_pos e,e];simp
      ·rw[if_neg e,Wh (a:=y) (l:=[x]) (by simp[e])];simp
     ·rw[UF,Ud];exact hpm
   rintro σ' H7 ⟨ls,qs',ks',g',z4',rfl,bt7,hB7,hG7,hl7,hx7,hp7,hlen⟩;obtain⟨j,hj1,hj2,ej⟩:=ZaN ls hx7;refine⟨_,rfl,.inl ⟨rfl,_,SqL.of hl7⟩,_,rfl,lf,ls,x,j,rfl,rfl,hl7,hj1,hj2,?_⟩;rw[ej];have hpos:=Wc hx7;obtain⟨dx,hb⟩:=hB7.ob;refine⟨(ls.erase x).length,by rw[Wj hx7];omega,Lf (ls.erase x) qs' ks' g' _ _ ⟨rfl,fun c u n e=>?_,⟨⟨dx,?_⟩,?_⟩,hG7,Ze,hp7,rfl⟩⟩
   ·rw[Zj (Zl e hlf)];exact bt7 c u n e
   ·rw[Zj (fun e=>by rw[e]at hb;rw[hl7]at hb;cases hb)];exact hb
   ·rw[Zj (Ne.symm hld)];exact hB7.dc
end
end Sh
namespace L2
open PySem PySem.Spec PyProof.Rows
section
variable {X:Cx} {C:Addr} {m:Str} {ps:List Str} {dss:List (List V)} {k:Nat} {sp:Sp} {p pos apos:Pos} {e o:Expr} {es:List Expr} {ta:TE} {t:TA}
def Ztt {v} (G:MOkX X.prog X.w X.K X.mg X.base C k m ps dss sp) (h) (n:h∈dss) (s:Room k X.A) (c:Cls X.K C) (q:∀ E,PE (X.wish E) o ta) (w:∀ E,PA (X.wish E) (e::es) t)
  (i:Og (e::es) X.env=(false,eval e X.env)::Og es X.env:=by rfl) (j:(Om pos (Og es X.env)).any (·.1)=false:=by rfl)
  (y:eval (.Call (.Attribute o m apos) (e::es) [] pos) X.env=(do
   let p ←eval o X.env
   O0 apos.atName
   let (f,g) ←OI [p] (OH p m v)
   OV pos f g (Om pos (Og (e::es) X.env)) (OE pos (Ot [] X.env))):=by rfl) :
  PX X (.Call (.Attribute o m apos) (e::es) [] pos) (fun Q E σ H=>ZdE C m sp h E ta t σ H Q):=by
 have⟨f,D,F,z,b⟩:=G.ex;have⟨B,A,r⟩:=b h n;exact Zo5 q c z F s r A w i j y
end
end L2
namespace Sh
open PySem L2 PyProof.Rows
seal L2.PE L2.PS L2.PSs L2.PT L2.PW L2.PA L2.PI L2.PG L2.PGs L2.PO L2.PC L2.PCs L2.OpR L2.UnR L2.CallR L2.MtR L2.IxR L2.SlR L2.PX L2.PBc
section
variable {P:Oc} {w:Of} {K:PySem.W.Frag} {mg:Str->Option Value} {base:Heap} {C CH CP:Addr} {bmH bmP:List Value}
abbrev ZoW:Stmt:=top 81
abbrev ZsA:List Str:=["_law_bag","_law_piece","_law_refused_here"]
def scLRef:Zm ZsA ["_law_bag","_law_piece"] (Zf ZoW):=⟨rfl,rfl,rfl,by decide +kernel,rfl,by decide +kernel,by decide +kernel⟩
def Znv (C:Addr):Sp:=fun vs H Q _=>∃ (b d:Addr) (L:Nat) (ks:List Str) (g:Str->Int) (x:Str),vs=[.ref b,.str x]/\BagAt C H b d L ks g/\Zdw ks g/\x.length<=1000/\x.length≠L/\∀ H',Same H H'->Q (.bl true) H'
def Zeb (D:HasDef K mg "_law_refused" ZoW ["_law_bag","_law_piece"]) (T:BgC K mg C) (c:XCls K mg "NoPiece" CP bmP) (g47_:MOkX P w K mg base C 5 "put" ["self","piece","many"] [[],[.int 1]] (ZoI C CP CH)):FOk P w K mg base 6 "_law_refused" ["_law_bag","_law_piece"] (Znv C):=by
 refine D.ok scLRef (fun vs H Q E h=>?_) fun f cdv A outer s H vs Q E hr h=>?_
 ·obtain⟨b,d,L,ks,g,x,rfl,_⟩:=h;rfl
 refine B0 ?_;intros;·obtain⟨b,d,L,ks,g,x,rfl,hB,hok,hx,hL,k⟩:=h;refine⟨_,(Zd (Zo (i:=2) scLRef.nd rfl (.inl rfl) YX) (Zd (Zo7 rfl rfl rfl (Zss (Ztt g47_ _ (Qg _ Qd) hr T.cl (fun _=>pv 0) fun _=>Za (pv 1) Zc)) c fun ea oe pn hm=>Zg (Zo (i:=2) scLRef.nd rfl (.inl rfl) YX)) (Zg (Zn (pv 2))))),?_⟩;apply B2;intros;obtain⟨dx,hb⟩:=hB.ob;refine⟨_,rfl,b,dx,_,rfl,hb,Y1 _ _ (by decide +kernel) (by decide +kernel),_,rfl,b,d,L,ks,g,_,_,_,_,rfl,hB,hok,.str _,.int _,fun z e=>by cases e;exact Zk hx,.inl ⟨by simp[XH,hL],fun H1 s1=>⟨⟨_,CP,_,rfl,c,by simp⟩,fun ea oe hoe hne=>?_⟩⟩⟩;exact⟨_,rfl,k _ s1⟩
end
def Zdb (h:ps.Perm c) (y):inP ps y=inP c y:=by
 unfold inP;rw[Wq,Vn,Vn];exact⟨fun⟨x,a,b⟩=>⟨x,h.mem_iff.mp a,b⟩,fun⟨x,a,b⟩=>⟨x,h.mem_iff.mpr a,b⟩⟩
def Zqg (h:ps.Perm qs) (e):BR ss ps e=BR ss qs e:=by
 have e1:osL ss ps e=osL ss qs e:=UU fun y _=>by rw[Zdb h]
 unfold BR trR prO;rw[e1,Zc5 h];simp[XF h]
def Zln (h:ps.Perm a) (b:Bal ps P e):Bal a P e:=fun y=>by rw[←XF h,←Zaj h];exact b y
def Zp6 (f:ps.Perm qs) (hne:qs≠[]) (hC:Chn qs) (h:Zgb ps n):0<n:=by
 obtain⟨rs,ns,h1,nd,hl,hN,rfl⟩:=h;cases qs with
 | nil=>simp_all
 | cons x rest =>
  obtain⟨ss0,ks,t1,t2,t3,t4⟩:=ZiP ps;obtain⟨c1,e,c2,_⟩:=Zdo (ZbW t1) rest x hC fun y hy=>t2 y (by rw[Zdb f];omega);have hst:Ze2 ps (bg x):=by
   refine ZiO f ?_;cases rest with
   | nil=>simp
   | cons y r =>
    have hC2:Chn (y::r):=fun j a b ha hb=>hC (j+1) a b (by simp_all) (by simp_all);have:=(Zdo (ZbW t1) r y hC2 fun z hz=>t2 z (by
     rw[Zdb f];exact Zdc (fun a ha=>Qg _ ha) hz)).1
    exact hC 0 x y rfl rfl▸.inr this
  obtain⟨i,t,hx⟩:=WF ((h1 _).mpr hst);have hi2:i<ns.length:=Kz t hl
  have g:=hN i _ (Qa hi2);rw[Qb,Qa t,UX,hx]at g;have q:0<ns[i]:=by
   have a3:=(g.2 ss0 ks t1 t2 t3 t4).2.2 (fun z=>by simp_all) hst e (Zln f.symm c2);rw[Zqg f]at a3;have hK:=ZjJ ks ps;have p:=g.1;rcases Int.lt_or_eq_of_le p with z | z
   exact z
   rw[←z,Uw]at a3;lia
  have hall:∀ m∈ns,0<=m:=fun m o=>by
   obtain⟨j,hj,e⟩:=WF o;have:=(hN j m (by rw[Qa hj,e])).1;exact this
  have d:∀ (l:List Int) (i:Nat) (t:i<l.length),(∀ m∈l,0<=m)->0<l[i]->0<l.sum:=by
   intro l;induction l with
   | nil=>simp
   | cons a r ih =>
    intro i t p f;have ha:=p a Qd;have hr:0<=r.sum:=by
     clear ih f t;have h1:∀ m∈r,0<=m:=fun m o=>p m (Qg _ o);clear p;induction r with
     | nil=>simp
     | cons b s ih2 =>
      rw[Qy];have:=h1 b Qd;have:=ih2 fun m o=>h1 m (Qg _ o);lia
    rw[Qy];cases i with
    | zero =>
     have:0<a:=f;lia
    | succ j =>
     have:=ih j (by simpa using t) (fun m o=>p m (Qg _ o)) (by simp_all);lia
  exact d ns i hi2 hall q
def Zm5 (h:Zgb ps n) (a:∀ p,¬ Ze2 ps p):n=0:=by
 obtain⟨i,j,c,g,b,e,rfl⟩:=h;rw[(U6.mpr fun p d=>a p ((c p).mp d))]at b;rw[Wf.mp b];rfl
def Zce {g:Str->Nat}:∀ {ss:List Str},ss.Nodup->(ZH (ss.map fun x=>(x,(g x)))).count y=if y∈ss then g y else 0
 | [],_=>by rfl
 | x::ss,d=>by
  have a:=QX.mp d;rw[Qp,Zcf,UT,Zce a.2,List.count_replicate];by_cases c:y=x
  subst c;rw[if_neg a.1,if_pos (by simp)];simp;rw[if_neg (by simpa using Ne.symm c)];simp[c]
def ZkV {ps ss:List Str} (d:ss.Nodup) (b:∀ x,x∈ss↔x∈ps):(ZH (ss.map fun x=>(x,(ps.count x)))).Perm ps:=by
 rw[List.perm_iff_count];intro y;rw[Zce d];split
 rfl;rename_i c;rw[Wh fun z=>c ((b y).mpr z)]
def ZkW {es:Es} (h:ZN ps es):(ZH es).Perm ps:=by
 have e:(es.map (·.1)).map (fun x=>(x,(ps.count x:Int)))=es:=by
  rw[QN]
  conv=>rhs;rw[←Re es]
  refine QB fun p hp=>?_;show(p.1,(ps.count p.1:Int))=p;rw[←h.cnt p hp]
 have:=ZkV (Zbq h) h.mem
 simp_all
def Zkd {e:Str×Int} {es:Es} (b:ZN ps (e::es)) (a:SPts (e::es) ss) (h:1<sm (ups (mo (e::es)) ss)) (p):¬ Ze2 ps p:=fun⟨_,d,f,c⟩=>by
 rcases ups_begin b a c ((YY b a).mp d)with q | q
 rw[q.2]at h;exact absurd h (by decide);rw[q.2]at h;exact absurd h (by show ¬ 1<1;decide)
def Zmp {e:Str×Int} {es:Es} (hO:ZN ps (e::es)) (h:¬ Zqe e es) (p):¬ Ze2 ps p:=fun z=>h ((Zhi hO).mp z.1)
def ZrM (c:Ch (tsE es) u X v):(∀ i∈X,i<(ZH es).length)->Chn (X.map fun j=>(ZH es).getD j ""):=by
 induction c with
 | nil u=>intro _ j x y h;simp
 | @cons i X u v e c p =>
  intro d j x y l m;cases j with
  | zero =>
   cases c with
   | nil=>simp_all
   | @cons k s _ _ r t =>
    simp only[Qp,List.getElem?_cons_zero,List.getElem?_cons_succ,Option.some.injEq]at l m;rw[←l,←m,←Zh9 (d k (by simp)),r];unfold tow tsE;rw[Qb,Qb,Qh,Qa (d i (by simp))];rfl
  | succ j=>exact p (fun k q=>d k (Qg _ q)) j x y (by simp_all) (by simp_all)
def Zp1 (g:Eul (tsE es) u X):(X.map fun j=>(ZH es).getD j "").Perm (ZH es)/\Chn (X.map fun j=>(ZH es).getD j ""):=by
 obtain⟨b,v,c⟩:=g;rw[Yz]at b;refine⟨(b.map _).trans (List.Perm.of_eq ?_),ZrM c fun i e=>QK.mp (b.mem_iff.mp e)⟩;apply UZ;simp;intro i h f;simp[f]
def Zta (h:HeapV H v es):HpAt H v es:=by
 obtain⟨q,a,e,j,g,c⟩:=h;refine⟨q,a,e,j,g,fun i p k=>?_⟩;obtain⟨b,f,d⟩:=c i p k;exact⟨b,by rw[Qb,f];rfl,d⟩
def ZiI:∀ l:List Int,(∀ x∈l,0<=x/\x<=c)->0<=l.sum/\l.sum<=c*l.length
 | [],_=>by simp
 | x::l,h=>by
  have b:=h x Qd;have d:=ZiI l fun y a=>h y (Qg _ a);rw[Qy,QC,RC,Rb];omega
def Zky {K} (s:f l=some (.lst vs)) (n:PA f vs es) (G:es.length<=1000)
  (c:∀ D h,Same f h->f D=none->h D=some (.lst ((es.map (·.2)).map V.int))->Q (.ref D) h):Xt 1 [] σ (Jp 0) Znk (tOp (ZrZ K) (Ze7 0) (tC (.int 1))) (Itl K l) f Q:=by
 have y:=n.1;refine Z3 vs.length _ (fun i v _=>∀ e,es[i]?=some e->v= .int e.2) (Zk (M0 G y)) (fun _ _ _ _ _ r=>r) (Yi (SqL.of s)) ?_ ?_;intro i m F E q t;have a:i<es.length:=V6 y E
 obtain⟨b,w,z⟩:=n.2 i _ (Qa a);rw[Qb,w];refine⟨_,rfl,b,_,1,_,rfl,rfl,SqT.of (q _ _ z),ZL (by decide) rfl,t _ _ (Same.refl _) fun e p=>?_⟩;rw[Qa a]at p;cases p;rfl;intro u A m o j g k d;refine c u m g k ?_;rw[d];congr 2;apply UZ;simp;exact T9 y o;intro i x C;have a:i<es.length:=Sz o x y
 have:=j i _ (Qa x) _ (Qa a);rw[this];simp
def ZlB (f) (ss) (p):ups f (ss++[p])=ups f ss++if 0<f p then [(p,f p)]else []:=by
 unfold ups;rw[Wi,QM];by_cases c:0<f p
 rw[if_pos c,Wu (by simpa using c)];rfl;rw[if_neg c,Wv (by simpa using c)];rfl
def Zo6 {d:Str×Int} {a:Es} (f:ZN ps (d::a)) (h:SPts (d::a) ss) (c:SPts (Ze1 ps) i):i=ss :=
 Zcr c.srt h.srt fun x=>by
  rw[c.pts.mem,h.pts.mem];constructor;rintro⟨e,b,q⟩;obtain⟨y,k,rfl⟩:=Qk.mp b;have⟨g,l,_⟩:=Qk.mp ((f.mem y).mpr k);exact⟨g,l,by simp_all⟩;rintro⟨e,b,q⟩;exact⟨_,Qk.mpr ⟨e.1,(f.mem _).mp (WS b),rfl⟩,q⟩
def ZgL (h:∀ c∈y.cps.toList,c∈x.cps.toList) (k:PyData.strOk x=true):PyData.strOk y=true:=by
 unfold PyData.strOk at *;rw[←Rt,Q4]at *;exact fun c hc=>k c (h c hc)
def Zsy (k:PyData.strOk x=true):PyData.strOk (bg x)=true:=ZgL (fun c a=>(List.dropLast_sublist _).mem a) k
def Zsx (k:PyData.strOk x=true):PyData.strOk (en x)=true:=ZgL (fun c a=>WD a) k
def Zbs (xs:List Str):(xs.map V.str).all ZbN=true:=Q4.mpr fun z a=>by
 obtain⟨y,_,rfl⟩:=Qk.mp a;rfl
section
variable {P:Oc} {w:Of} {K:PySem.W.Frag} {mg:Str->Option Value} {base:Heap}
abbrev ZdM:Stmt:=top 82
noncomputable abbrev ZhX:List Str:=["_law_found","_law_row_here","_law_heap_here","_law_many","_law_long","_law_text","_law_torn","_law_points_here","_law_more","_law_point","_law_out","_law_come","_law_piece"]
def scLVer:Zm ZhX ["_law_found","_law_row_here","_law_heap_here","_law_many"] (Zf ZdM):=⟨rfl,rfl,rfl,by decide +kernel,rfl,by decide +kernel,by decide +kernel⟩
def ZqI:Sp:=fun vs H Q _=>∃ (v u:V) (a:Addr) (ps:List Str) (e0:Str×Int) (es0:Es) (L:Nat) (n:Int),vs=[v,.ref a,u,.int n]/\VerV H v e0 es0 L/\H a=some (.lst (ps.map V.str))/\HpAt H u (e0::es0)/\ZN ps (e0::es0)/\RowOk ps/\Hpy (e0::es0) L/\Zgb ps n/\∀ H',Same H H'->Q (.bl true) H'
def Zea (D:HasDef K mg "_law_verdict" ZdM ["_law_found","_law_row_here","_law_heap_here","_law_many"]) (B:Blt mg) (g14_:FOk P w K mg base 2 "_law_whole" ["_law_found"] Jh) (g3_:FOk P w K mg base 2 "_law_heap" ["_law_pieces"] (Zi6 K)) (g7_:FOk P w K mg base 2 "_law_points" ["_law_row_here"] (ZnB K)):FOk P w K mg base 3 "_law_verdict" ["_law_found","_law_row_here","_law_heap_here","_law_many"] ZqI:=by
 refine D.ok scLVer (fun vs H Q E h=>?_) (fun f cdv A outer s H vs Q E hr h=>?_)
 ·obtain⟨v,u,a,ps,e0,es0,L,n,rfl,_⟩:=h;rfl
 ·obtain⟨v,u,a,ps,e0,es0,L,n,rfl,hV,ha,hu,hO,hR,hF,hC,k⟩:=h;obtain⟨q,wd,x,ss,rfl,hq,hS,hc⟩:=hV;refine⟨_,(Zd (ZI (PW.pt (YJ (ZU (ZS (Zi Z8 rfl B.isi Zao (Za (pv 0) (Za (JI rfl B.tuple Yc) Zc))))) (YJ (Zq X7 (Zi Zp rfl B.len ZE (Za (pv 0) Zc)) Zh (Zr _)) (Yp (ZU (ZS (Zu g14_ hr (Za (pv 3) Zc)))))))) (Zg (Zn YX)) Zt)
   (Zd (Zo (i:=4) scLVer.nd rfl (.inr rfl) (Zi Zp rfl B.len ZE (Za (Zw ix_list (pv 1) Zh (fun _ _=>rfl)) Zc)))
   (Zd (ZI (Zq YF (Zw ix_tup (pv 0) Zh (fun _ _=>rfl)) Z1 (Zr _)) (Zd (Zo (i:=5) scLVer.nd rfl (.inr rfl) (Zw ix_tup (pv 0) Zh (fun _ _=>rfl)))
   (Zd (Xk (i:=6) (Zf ZdM) ZhX ["_law_at"] [4,5] scLVer.nd rfl (.inl rfl) rfl (YV rfl B.range (Za (Zv Z7 (Zv Xe (Zi Zp rfl B.len ZE (Za (pv 5) Zc)) (pv 4)) Zh) Zc)) (fun _ _ _ _ _=>ZW 0) (fun _ _ _ _ _=>ZD) (fun _ _ _ _ _=>(ZM YE (pv 2) (ZV (pv 0)) (ZV (Zv Z7 (pv 0) (pv 1))))))
   (Zg (Zn (JJ (ZY Xv (pv 3) Zh (Zr _)) (Zas (ZY (ZgK hr.units) (Zu g3_ hr (Za (pv 6) Zc)) (pv 2) (Zr _)))))))) Zt)
   (Zd (Zo (i:=7) scLVer.nd rfl (.inl rfl) (Zu g7_ hr (Za (pv 1) Zc)))
   (Zd (Zo (i:=8) scLVer.nd rfl (.inl rfl) (Z2 Zc))
   (Zd (Yh PassesOwn.never rfl (ZQ (pv 7)) (ZG (i:=9) scLVer.nd rfl (.inr rfl))
    (Zd (Zo (i:=10) scLVer.nd rfl (.inl rfl) (Zi Zp rfl B.len ZE (Za (Zx (Zf ZdM) ZhX ["_law_piece"] [9] rfl (ZQ (pv 1)) (fun _ _ _ _ _=>ZW 0) (fun _ _ _ _ _=>Zac (Zq YF (ZM YE (pv 0) Z4 (ZV (Jm YQ Zh))) (pv 1) (Zr _))) (fun _ _ _ _ _=>(pv 0))) Zc)))
   (Zd (Zo (i:=11) scLVer.nd rfl (.inl rfl) (Zi Zp rfl B.len ZE (Za (Zx (Zf ZdM) ZhX ["_law_piece"] [9] rfl (ZQ (pv 1)) (fun _ _ _ _ _=>ZW 0) (fun _ _ _ _ _=>Zac (Zq YF (ZM YE (pv 0) (ZV Zh) Z4) (pv 1) (Zr _))) (fun _ _ _ _ _=>(pv 0))) Zc)))
   (Zg (ZI (Zq Xv (pv 10) (pv 11) (Zr _)) (Zg (ZT (Y2 F.plainAttrs_list F.slot_list_append F.type_list_append Z9 (pv 8) (Za (YW (Za (pv 9) (Za (Zv Xe (pv 10) (pv 11)) Zc))) Zc)))) Zt)))))
   (Zd (ZI (Zq YF (Zw ix_tup (pv 0) Zh (fun _ _=>rfl)) Z1 (Zr _)) (Zg (Zn (JJ (ZY YF (pv 3) Zh (Zr _)) (JJ (ZY (ZgK hr.units) (Zw ix_tup (pv 0) Zh (fun _ _=>rfl)) (ZB ZJ rfl B.tuple Yc (Za (pv 8) Zc)) (Zr _)) (Zas (ZY Xv (Zi (XL rfl) rfl B.sum Zf7 (Za (Zx (Zf ZdM) ZhX ["_law_pair"] [] rfl (ZQ (pv 8)) (fun _ _ _ _ _=>ZW 0) (fun _ _ _ _ _=>ZD) (fun _ _ _ _ _=>(Zw (Zbn K) (pv 0) Zh (fun _ _=>rfl)))) Zc)) Zh (Zr _))))))) Zt)
   (Zd (ZI (PW.pt (YJ (Zq X7 (Zw ix_tup (pv 0) Zh (fun _ _=>rfl)) Z1 (Zr _)) (YJ (Zq X7 (pv 3) Zh (Zr _)) (Yp (Zq Xv (Zi (XL rfl) rfl B.sum Zf7 (Za (Zx (Zf ZdM) ZhX ["_law_pair"] [] rfl (ZQ (pv 8)) (fun _ _ _ _ _=>ZW 0) (fun _ _ _ _ _=>ZD) (fun _ _ _ _ _=>(Zw (Zbn K) (pv 0) Zh (fun _ _=>rfl)))) Zc)) Zh (Zr _)))))) (Zg (Zn YX)) Zt)
   (Zd (Yh PassesOwn.never rfl (ZQ (pv 1)) (ZG (i:=12) scLVer.nd rfl (.inl rfl))
    (Zg (ZI (Zq X7 (ZY Zbe (ZM YE (pv 12) Z4 (ZV (Jm YQ Zh))) (Zw ix_tup (pv 0) Zh (fun _ _=>rfl)) rfl) (ZY Zbe (ZM YE (pv 12) (ZV Zh) Z4) (Zw ix_tup (pv 0) Zh (fun _ _=>rfl)) rfl) (Zr _)) (Zg (Zn YX)) Zt)))
   (Zg (Zn (JJ (ZY Zbe (ZM YE (Zw ix_tup (Zw ix_tup (pv 2) Zh (fun _ _=>rfl)) Zh (fun _ _=>rfl)) Z4 (ZV (Jm YQ Zh))) (Zw ix_tup (pv 0) Zh (fun _ _=>rfl)) rfl) (Zas (ZY ZjZ (Zi Zp rfl B.len ZE (Za (Zw ix_tup (pv 0) Zh (fun _ _=>rfl)) Zc)) (Zi Zp rfl B.len ZE (Za (pv 7) Zc)) (Zr _))))))))))))))),?_⟩
  obtain⟨p0,pr,rfl⟩:∃ p0 pr,ps=p0::pr:=by
   cases ps with
   | nil =>
    have:=(hO.mem e0.1).mp (by simp);cases this
   | cons a b=>simp
  refine⟨_,rfl,.ref q,"tuple","tuple",rfl,by decide,.tup hq,_,rfl,Xw ?_⟩;refine⟨_,rfl,.ref q,2,rfl,.inr ⟨_,SqT.of hq,rfl⟩,rfl,_,rfl,Xw ?_⟩;refine⟨_,rfl,.int n,"int",rfl,.int _,_,rfl,Xw ?_⟩;have hlen:∀ x∈p0::pr,x.length=L:=fun x hx=>by
   obtain⟨e,he,e2⟩:=Qk.mp ((hO.mem x).mpr hx);rw[←e2];exact hF.len e he
  have hL0:=hlen p0 Qd;refine⟨_,rfl,a,_,0,.str p0,rfl,rfl,SqL.of ha,ZL (by decide) rfl,.str p0,L,rfl,⟨Zk (by have:=hF.l3;exact S1 this hL0),hL0.symm⟩,?_⟩;refine⟨_,rfl,q,_,0,.str wd,rfl,rfl,SqT.of hq,ZL (by decide) rfl,rfl,_,rfl,?_⟩;by_cases ht:wd = "text"
  ·obtain⟨h1,hh,b,X,rfl,hb,hX,hE,hbl⟩:¬ 1<sm (ups (mo (e0::es0)) ss)/\Zqe e0 es0/\∃ b X,x= .str (tx (spell (e0::es0) b X))/\b=X9 e0 (ups (mo (e0::es0)) ss)/\X=wayX (tsE (e0::es0)) b/\Eul (tsE (e0::es0)) b X/\b.length=L-1:=by
    rcases hc with ⟨z,_⟩ | ⟨z,_⟩ | ⟨_,z⟩
    ·rw[z]at ht;exact absurd ht (by decide)
    ·rw[z]at ht;exact absurd ht (by decide)
    omega
   subst ht;refine YG (by decide) ?_;have hfl:=(ZkW hO)
   have hrow:=Zp1 hE;have hrl:=hR.len;have hpos:0<n:=Zp6 (hrow.1.trans hfl).symm (fun z=>by simp_all) hrow.2 hC;have hl1:(spell (e0::es0) b X).length=L-1+(p0::pr).length:=by
    unfold spell;rw[Qm,Qc,Yv,hbl,hE.1.length_eq,Q3,Yz,hfl.length_eq]
   have hpp:=(Zhv hF.l1 (fun x hx=>hlen x (hfl.mem_iff.mp hx)) hE hbl (by rw[hfl.length_eq];exact Nat.succ_pos _)).trans hfl;generalize spell (e0::es0) b X=z at *;have h11:=hF.l1;obtain⟨L',g1,g2,g3⟩:=hR.same;have h12:L<=12:=by rw[←hL0,g3 p0 Qd];exact g2
   have hpl:(p0::pr).length=pr.length+1:=rfl;have en:((z.length:Int)-(L:Int)+1).toNat=z.length-L+1:=by omega
   refine⟨_,rfl,q,_,1,.str (tx z),rfl,rfl,SqT.of hq,ZL (by decide) rfl,?_⟩;refine⟨_,rfl,.str (tx z),z.length,rfl,⟨Yy (by omega),(ZZ z).symm⟩,_,rfl,_,_,rfl,rfl,_,_,rfl,rfl,_,rfl,by omega,by omega,?_⟩;rw[en];refine Zkx (z:=z) (L:=L) h11 (by omega) (by omega) rfl fun p7 H6 s6 n7 hp7=>?_;have hpw:(ZaA z L).Perm (p0::pr):=hpp;refine⟨_,rfl,_,_,rfl,rfl,_,rfl,YG (decide_eq_true hpos) ?_⟩;have hwl:=hpw.length_eq;refine⟨_,rfl,p7,ZaA z L,ZaA z L,rfl,SqL.of hp7,by omega,by omega,fun x hx=>hx,fun v7 H7 hp s7 hA7 hO7=>?_⟩;have ehp:hp=e0::es0:=ZaM hO7 ⟨hO.srt,fun x=>by rw[hO.mem,hpw.mem_iff],fun g hg=>by rw[hO.cnt g hg,hpw.count_eq]⟩;subst ehp;have hc:Jr (e0::es0):=fun p hp=>(hR.one p.1 ((hO.mem _).mp (WS hp))).2;refine⟨_,rfl,YO (e0::es0),YO (e0::es0),Yk hA7,Yk (hu.same (s6.trans s7).tup),Zz hc,Zz hc,?_⟩;rw[show PyData.eqv (YO (e0::es0)) (YO (e0::es0))=true from SeqAt.eqv_refl _ (SeqAt.canLay_of_shaped (Zz hc))];exact k _ (s6.trans s7)
  refine Yw (decide_eq_false fun z=>ht (V.str.inj z)) ?_;have hc2:(wd = "begins"/\1<sm (ups (mo (e0::es0)) ss)/\HeapV H x (ups (mo (e0::es0)) ss))\/(wd = "apart"/\¬ 1<sm (ups (mo (e0::es0)) ss)/\¬ Zqe e0 es0/\∃ ps,TupS H x ps/\(ps.map fun x=>x.cps.toList).Pairwise (· < ·)/\ps.length<=602/\∀ x,x∈ps↔Rch (e0::es0) (bg e0.1) x):=by
   rcases hc with z | z | ⟨z,_⟩
   ·exact .inl z
   ·exact .inr z
   ·exact absurd z ht
  clear hc ht;have hrl:=hR.len;refine⟨_,rfl,a,Ze1 (p0::pr),rfl,SqL.of (by rw[Zmi];exact ha),Zj1 (by lia) fun x hx=>(hR.one x hx).1,fun p8 H8 tt s8 hT hp8=>?_⟩;rw[Zo6 hO hS hT]at hp8;refine⟨Zk (show 0<=1000 by decide),fun l hl=>?_⟩;have s9:=Zb (o:=.lst []) hl;have hl0:H l=none:=s8.free hl;have hp9:=s9 _ _ hp8;have hlp:l≠p8:=fun e=>by rw[e,hp8]at hl;cases hl
  have s89:=s8.trans s9;dsimp only[Jp];refine Yr (fun σ H'=>∃ (vs:List V) (z9 z10 z11:Option V),σ=[some (.ref q),some (.ref a),some u,some (.int n),some (.int L),none,none,some (.ref p8),some (.ref l),z9,z10,z11,none]/\Same H H'/\H' p8=some (.lst (ss.map V.str))/\H' l=some (.lst vs)/\PA H' vs (ups (mo (e0::es0)) ss)) (fun R hRR=>?_) ?_
  ·refine⟨_,rfl,p8,rfl,⟨_,SqL.of hp9⟩,JR (K:=K) (a:=p8) (xs:=ss.map V.str) (fun i σ H'=>∃ (vs:List V) (z9 z10 z11:Option V),σ=[some (.ref q),some (.ref a),some u,some (.int n),some (.int L),none,none,some (.ref p8),some (.ref l),z9,z10,z11,none]/\Same H H'/\H' p8=some (.lst (ss.map V.str))/\H' l=some (.lst vs)/\PA H' vs (ups (mo (e0::es0)) (ss.take i))) ⟨[],none,none,none,rfl,s89,hp9,Ze,rfl,fun i e z=>by simp[ups]at z⟩ (fun i σ H' _ ⟨_,_,_,_,_,_,z,_⟩=>SqL.of z) ?_ ?_⟩
   ·rintro i y σ H4 hi ⟨vs,z9,z10,z11,rfl,s4,hp4,hl4,hP4⟩;obtain⟨hi',rfl⟩:=Xb hi;have etk:ss.take (i+1)=ss.take i++[ss[i]]:=QQ hi';rw[etk,ZlB];generalize ss[i]=y at *;have ha4:=s4 _ _ ha;refine⟨_,rfl,a,rfl,⟨_,SqL.of ha4⟩,Zc3 (p0::pr) (fun x=>decide (bg x=y)) (S2 hrl) (SqL.of ha4) ?_ ?_⟩
    ·intro x H6 Qt Qf hx s6 g1 g2;obtain⟨⟨l1,l2⟩,l3⟩:=hR.one _ hx;refine⟨_,rfl,_,rfl,_,rfl,_,rfl,Yl l2,?_⟩;rw[XW l1];refine⟨_,rfl,rfl,_,rfl,?_⟩;by_cases c:bg x=y
     ·exact YG (by simp[c]) ⟨_,rfl,g1 (decide_eq_true c)⟩
     ·exact Yw (by simp[c]) (g2 (decide_eq_false c))
    intro D6 H6 s6 hD6 hl6;refine⟨.ref D6,_,rfl,.inl ⟨_,SqL.of hl6,rfl⟩,?_⟩;have ha6:=s6 _ _ ha4;refine⟨_,rfl,a,rfl,⟨_,SqL.of ha6⟩,Zc3 (p0::pr) (fun x=>decide (en x=y)) (S2 hrl) (SqL.of ha6) ?_ ?_⟩
    ·intro x H7 Qt Qf hx s7 g1 g2;obtain⟨⟨l1,l2⟩,l3⟩:=hR.one _ hx;refine⟨_,rfl,_,rfl,_,rfl,Yl l2,?_⟩;rw[Jx l1];refine⟨_,rfl,rfl,_,rfl,?_⟩;by_cases c:en x=y
     ·exact YG (by simp[c]) ⟨_,rfl,g1 (decide_eq_true c)⟩
     ·exact Yw (by simp[c]) (g2 (decide_eq_false c))
    intro D7 H7 s7 hD7 hl7;refine⟨.ref D7,_,rfl,.inl ⟨_,SqL.of hl7,rfl⟩,?_⟩;rw[Qc,Qc];have hmo:=ZgR hO y;have s47:=s4.trans (s6.trans s7);have hl77:=s7 _ _ (s6 _ _ hl4);have hp7:=s7 _ _ (s6 _ _ hp4);have hP7:=hP4.same (s6.trans s7).tup;have hvl:=hP7.1;have hsl:ss.length<=31:=hR.pts ss (ZbW hS.srt) fun y hy=>(YY hO hS).mpr hy;have hul:(ups (mo (e0::es0)) (ss.take i)).length<=31:=by
     unfold ups;rw[Qc];have h1:=Q7 (fun x=>decide (0<mo (e0::es0) x)) (ss.take i);rw[QH]at h1;exact Sn hsl h1
    dsimp only[Jp];refine⟨_,rfl,_,rfl,_,_,rfl,rfl,_,rfl,?_⟩;by_cases c:0<mo (e0::es0) y
    rotate_left
    ·rw[if_neg c,Ua];refine Yw (decide_eq_false fun z=>c (by rw[hmo];unfold oR iR;omega)) ⟨vs,_,_,_,rfl,s47,hp7,hl77,hP7⟩
    ·rw[if_pos c];refine YG (decide_eq_true (by rw[hmo]at c;unfold oR iR at c;omega)) ?_;refine⟨_,rfl,.inl ⟨rfl,_,SqL.of hl77⟩,_,rfl,_,rfl,_,rfl,_,_,rfl,rfl,Zk (show 2<=1000 by decide),fun t9 ht9=>?_⟩;have s10:=Zb (o:=.tup [.str y,.int (((p0::pr).filter fun x=>decide (bg x=y)).length-((p0::pr).filter fun x=>decide (en x=y)).length)]) ht9;have htl:t9≠l:=fun e=>by rw[e,hl77]at ht9;cases ht9
     refine⟨l,vs,_,rfl,rfl,s10 _ _ hl77,by rw[hvl];exact ZC (S3 hul),vs++[.ref t9],_,_,_,rfl,fun b u e=>?_,?_,Ze,?_⟩
     ·rw[Zj (Zl e hl0)];exact s10 _ _ (s47 b u e)
     ·rw[Zj (Ne.symm hlp)];exact s10 _ _ hp7
     refine⟨by rw[Qm,Qm,hvl];rfl,fun j g hg=>?_⟩;by_cases hj:j<vs.length
     ·rw[QS (V6 hvl hj)]at hg;obtain⟨b,b1,b2⟩:=hP7.2 j g hg;refine⟨b,by rw[QS hj];exact b1,?_⟩;rw[Zj (fun e=>by rw[e,hl77]at b2;cases b2)];exact s10 _ _ b2
     ·have hj2:j=vs.length:=by
       have:=(Qo.mp hg).1;rw[Qm,QD]at this;lia
      subst hj2;rw[hvl,QY (Ql _),WW]at hg;cases hg;refine⟨t9,by rw[QY (Ql _),WW];rfl,?_⟩;rw[Zj htl,Ze,hmo];rfl
   ·rintro σ H4 ⟨vs,z9,z10,z11,rfl,s4,hp4,hl4,hP4⟩;rw[Qc,WU]at hP4;exact hRR _ _ ⟨vs,z9,z10,z11,rfl,s4,hp4,hl4,hP4⟩
  clear hl0 hl hp9 hlp s89 s9 hp8 s8 hT;rintro σ H4 ⟨vs,z9,z10,z11,rfl,s4,hp4,hl4,hP4⟩;have hq4:=s4 _ _ hq;have hsl:ss.length<=31:=hR.pts ss (ZbW hS.srt) fun y hy=>(YY hO hS).mpr hy;have hul:(ups (mo (e0::es0)) ss).length<=31:=by
   unfold ups;rw[Qc];have h1:=Q7 (fun x=>decide (0<mo (e0::es0) x)) ss;exact Tp hsl h1
  have hub:∀ y∈(ups (mo (e0::es0)) ss).map (·.2),0<=y/\y<=27:=fun y hy=>by
   obtain⟨g,hg,rfl⟩:=Qk.mp hy;unfold ups at hg;obtain⟨p,hp,rfl⟩:=Qk.mp hg;have:=of_decide_eq_true (QF.mp hp).2;have h2:=ZgR hO p;have h3:=Q7 (fun x=>decide (bg x=p)) (p0::pr);unfold oR iR at h2;exact⟨by lia,by show mo (e0::es0) p<=27;lia⟩
  have hin:∀ j,Ox (((ups (mo (e0::es0)) ss).map (·.2)).take j).sum:=fun j=>by
   have:=ZiI (((ups (mo (e0::es0)) ss).map (·.2)).take j) fun y hy=>hub y (Q9 hy);have h2:(((ups (mo (e0::es0)) ss).map (·.2)).take j).length<=31:=by rw[QH,Qc];exact S4 hul
   unfold Ox;omega
  have hin1:∀ y∈(ups (mo (e0::es0)) ss).map (·.2),Ox y:=fun y hy=>by
   have:=hub y hy;unfold Ox;omega
  have hn0:n=0:=by
   refine Zm5 hC fun p=>?_;rcases hc2 with ⟨_,z,_⟩ | ⟨_,_,z,_⟩
   ·exact Zkd hO hS z p
   ·exact Zmp hO z p
  subst hn0;refine⟨_,rfl,q,_,0,.str wd,rfl,rfl,SqT.of hq4,ZL (by decide) rfl,rfl,_,rfl,?_⟩;rcases hc2 with ⟨rfl,h1,hx⟩ | ⟨rfl,h1,hh,qs,hx,hsrt,hql,hrch⟩
  ·refine YG (by decide) ?_;have hx4:=hx.same s4;have hc:Jr (ups (mo (e0::es0)) ss):=fun g hg=>by
    unfold ups at hg;obtain⟨p,hp,rfl⟩:=Qk.mp hg;obtain⟨g,hg,z⟩:=(hS.pts.mem p).mp (QF.mp hp).1;have hg1:=hR.one g.1 ((hO.mem _).mp (WS hg));rcases z with z | z
    ·rw[←z];exact Zsy hg1.2
    ·rw[←z];exact Zsx hg1.2
   refine⟨_,rfl,rfl,_,rfl,YG (by decide) ?_⟩;refine⟨_,rfl,q,_,1,x,rfl,rfl,SqT.of hq4,ZL (by decide) rfl,_,rfl,l,vs,rfl,.inl ⟨SqL.of hl4,fun t5 ht5=>?_⟩⟩;have s5:=Zb (o:=.tup vs) ht5;refine⟨YO (ups (mo (e0::es0)) ss),YO (ups (mo (e0::es0)) ss),Yk (Zta (hx4.same s5)),Yk (Zta ⟨t5,vs,rfl,Ze,hP4.same s5.tup⟩),Zz hc,Zz hc,_,rfl,YG (SeqAt.eqv_refl _ (SeqAt.canLay_of_shaped (Zz hc))) ?_⟩;refine⟨_,rfl,l,rfl,⟨_,SqL.of (s5 _ _ hl4)⟩,Zky (s5 _ _ hl4) (hP4.same s5.tup) (S3 hul) fun D6 H6 s6 hD6 hDl=>?_⟩;refine⟨D6,_,rfl,SqL.of hDl,hin1,hin,_,_,rfl,rfl,?_⟩;show Q (.bl (decide ((1:Int)<((ups (mo (e0::es0)) ss).map (·.2)).sum))) H6;rw[decide_eq_true (show(1:Int)<((ups (mo (e0::es0)) ss).map (·.2)).sum from h1)];exact k _ (s4.trans (s5.trans s6))
  refine Yw (by decide) ?_;refine⟨_,rfl,q,_,0,.str "apart",rfl,rfl,SqT.of hq4,ZL (by decide) rfl,rfl,_,rfl,Xw ?_⟩;refine⟨_,rfl,rfl,_,rfl,Xw ?_⟩;refine⟨_,rfl,l,rfl,⟨_,SqL.of hl4⟩,Zky hl4 hP4 (S3 hul) fun D6 H6 s6 hD6 hDl=>?_⟩;refine⟨D6,_,rfl,SqL.of hDl,hin1,hin,_,_,rfl,rfl,_,rfl,Yw (decide_eq_false h1) ?_⟩;obtain⟨w,rfl,hw⟩:=hx.same (s4.trans s6);have hq6:=s6 _ _ hq4;have ha6:=s6 _ _ (s4 _ _ ha);have hp6:=s6 _ _ hp4;have hu6:=hu.same (s4.trans s6).tup;have hS46:=s4.trans s6;clear hDl hD6 s6 hP4 hl4 hp4 hq4 s4 hx;generalize H6=H7 at *;dsimp only[Zqx];refine Yr (fun σ H'=>∃ z12:Option V,σ=[some (.ref q),some (.ref a),some u,some (.int 0),some (.int L),none,none,some (.ref p8),some (.ref l),z9,z10,z11,z12]/\H'=H7) (fun R hRR=>?_) ?_
  ·refine⟨_,rfl,a,rfl,⟨_,SqL.of ha6⟩,JR (K:=K) (a:=a) (xs:=(p0::pr).map V.str) (fun i σ H'=>∃ z12:Option V,σ=[some (.ref q),some (.ref a),some u,some (.int 0),some (.int L),none,none,some (.ref p8),some (.ref l),z9,z10,z11,z12]/\H'=H7) ⟨none,rfl,rfl⟩ (fun i σ H' _ ⟨_,_,z⟩=>by rw[z];exact SqL.of ha6) ?_ ?_⟩
   ·rintro i y σ H8 hi ⟨z12,rfl,rfl⟩;obtain⟨hi',rfl⟩:=Xb hi;have hy:=QA hi';generalize (p0::pr)[i]=y at *;obtain⟨⟨l1,l2⟩,l3⟩:=hR.one _ hy;refine⟨_,rfl,_,rfl,_,rfl,_,rfl,Yl l2,?_⟩;rw[XW l1];refine⟨_,rfl,q,_,1,.ref w,rfl,rfl,SqT.of hq6,ZL (by decide) rfl,w,qs.map V.str,rfl,.inr (SqT.of hw),rfl,Zbs qs,?_⟩;refine⟨_,rfl,_,rfl,_,rfl,Yl l2,?_⟩;rw[Jx l1];refine⟨_,rfl,q,_,1,.ref w,rfl,rfl,SqT.of hq6,ZL (by decide) rfl,w,qs.map V.str,rfl,.inr (SqT.of hw),rfl,Zbs qs,rfl,_,rfl,Yw ?_ ⟨_,rfl,rfl⟩⟩;rw[JP,JP];have e:(bg y∈qs)↔(en y∈qs):=by
     obtain⟨g,hg,rfl⟩:=Qk.mp ((hO.mem y).mpr hy);rw[hrch,hrch];exact⟨fun z=>.step z ⟨g,hg,.inl ⟨rfl,rfl⟩⟩,fun z=>.step z ⟨g,hg,.inr ⟨rfl,rfl⟩⟩⟩
    by_cases c:bg y∈qs
    ·simp[c,e.mp c]
    ·have c2:en y∉qs:=fun z=>c (e.mpr z);simp[c,c2]
   ·rintro σ H8 ⟨z12,rfl,rfl⟩;exact hRR _ _ ⟨z12,rfl,rfl⟩
  rintro σ H8 ⟨z12,rfl,rfl⟩;obtain⟨ua,uxs,rfl,hua,hul2,hur⟩:=hu6;obtain⟨ub,ue,hub2⟩:=hur 0 e0 rfl;have he0:=hR.one e0.1 ((hO.mem _).mp (by simp));refine⟨_,rfl,ua,_,0,.ref ub,rfl,rfl,SqT.of hua,?_,ub,_,0,.str e0.1,rfl,rfl,SqT.of hub2,ZL (by decide) rfl,_,rfl,_,rfl,_,rfl,Yl he0.1.2,?_⟩
  ·cases uxs with
   | nil=>simp at hul2
   | cons v0 vr =>
    refine ZL (by decide) ?_;have e:v0= .ref ub:=ue;rw[e];rfl
  rw[XW he0.1.1];refine⟨_,rfl,q,_,1,.ref w,rfl,rfl,SqT.of hq6,ZL (by decide) rfl,w,qs.map V.str,rfl,.inr (SqT.of hw),rfl,Zbs qs,_,rfl,YG ?_ ?_⟩
  ·rw[JP];exact decide_eq_true ((hrch _).mpr .here)
  have hnd:qs.Nodup:=ZbW hsrt;have hlt:qs.length<ss.length:=by
   have hle:qs.length<=ss.length:=YN hnd fun y hy=>(hS.pts.mem y).mpr ((hrch y).mp hy).pt;rcases Nat.lt_or_eq_of_le hle with z | z
   ·exact z
   ·exact absurd ((Zg5 hnd hrch hS.pts.nd hS.pts.mem).mp z) hh
  refine⟨_,rfl,q,_,1,.ref w,rfl,rfl,SqT.of hq6,ZL (by decide) rfl,.ref w,_,rfl,.inr ⟨_,SqT.of hw,rfl⟩,_,rfl,.ref p8,_,rfl,.inl ⟨_,SqL.of hp6,rfl⟩,_,_,rfl,rfl,?_⟩;rw[Qc,Qc];show Q (.bl (decide ((qs.length:Int)<(ss.length:Int)))) _;rw[decide_eq_true (Tk hlt)]
  simp_all
end
def ZiF {a b:List Int} (h:a.Perm b):a.sum=b.sum:=by
 induction h with
 | nil=>rfl
 | cons x _ f=>rw[Qy,Qy,f]
 | swap x y l=>rw[Qy,Qy,Qy,Qy];exact Nt
 | trans _ _ g i=>exact Nu i g
def Zp7 (h:Zgb ps n) (k:Zgb ps m):n=m:=by
 classical
 obtain⟨a,b,h1,y,o,s,rfl⟩:=h;obtain⟨j,g,k1,t,r,u,rfl⟩:=k
 let f:=fun p=>if q:∃ n,IsN ps p n then q.choose else 0
 have w:∀ p n,IsN ps p n->n=f p:=fun p n e=>by
  have q:∃ n,IsN ps p n:=⟨n,e⟩
  show n=dite _ _ _;exact dif_pos q▸ZpL e q.choose_spec
 have d:∀ (a:List Str) (b:List Int),b.length=a.length->(∀ (i:Nat) (n:Int),b[i]?=some n->IsN ps (a.getD i "") n)->b=a.map f:=fun a b hl e=>by
  apply QI;intro i;rw[Qh];by_cases l:i<a.length
  have c:i<b.length:=Kz l hl
  rw[Qa c,Qa l];have:=w _ _ (e i _ (Qa c));rw[Qb,Qa l]at this;rw[this];rfl
  simp_all
 rw[d a b o s,d j g r u];exact ZiF (((Rh y t).mpr fun x=>by simp_all).map f)
def ZmR {a:Es} (h:ZN ps a):(a.map (·.2)).sum=ps.length:=by
 have e:=Zdm (Zbq h) (fun _=>true) ps fun x b=>(h.mem x).mpr b;rw[UK.mpr fun _ _=>rfl,UK.mpr fun _ _=>rfl,QN]at e;exact e▸congrArg List.sum (QB fun p a=>h.cnt p a)
def ZoZ {d:Es} (k:RowOk ps) (n:ps≠[]) (b:ZN ps d):∃ L,1<=L/\L<=12/\IsHp d L/\Hpy d L/\OfL L ps/\RowOkH ps L:=by
 obtain⟨L,l,l2,j⟩:=k.same;have hrl:=k.len;have a:∀ p∈d,p.1∈ps:=fun p d=>(b.mem _).mp (WS d);have i:∀ x∈ps,x.cps.toList.all Yu=true:=fun x m=>Q4.mpr fun c hc=>by
  have:=k.sg x m c hc;unfold Yu;simp[this.1,this.2]
 have u:d≠[]:=fun z=>by
  cases ps with
  | nil=>simp_all
  | cons x r =>
   have:=(b.mem x).mpr Qd
   simp_all
 have e:∀ p∈d,1<=p.2:=fun p h=>by
  rw[b.cnt p h];have:=WZ.mpr (a p h);exact Nl this
 have t:IsHp d L:=⟨u,l,Bh l2,fun p h=>j _ (a p h),fun p h=>i _ (a p h),e,b.srt,by rw[ZmR b];omega⟩
 refine⟨L,l,l2,t,⟨⟨?_,fun g q=>?_,fun g q=>?_⟩,u,fun p h=>j _ (a p h),l,Bh l2,e,?_,by rw[QN];exact b.srt,fun p h=>k.sg _ (a p h)⟩,fun x m=>⟨j x m,?_⟩,⟨n,l,j,i,by omega⟩⟩;have:=Zg3 b;exact K9 hrl this;rw[b.cnt g q]at *;have h2:=U5 (a:=g.1) (l:=ps);lia;have:=j _ (a g q);lia;rw[(ZkW b).length_eq];lia;obtain⟨p,h,rfl⟩:=Qk.mp ((b.mem x).mpr m);exact t.text p h
def Zhp (h:Bg ps ks g) (b:SrtOf ss ks):ZN ps (ss.map fun x=>(x,g x)):=by
 have e:(ss.map fun x=>(x,g x)).map (·.1)=ss:=by rw[QN];exact VI _
 refine⟨?_,fun x=>?_,fun p d=>?_⟩;rw[QN];exact b.2;rw[e,b.1.mem_iff,h.mem];obtain⟨x,_,rfl⟩:=Qk.mp d;exact h.cnt x
section
variable {P:Oc} {w:Of} {K:PySem.W.Frag} {mg:Str->Option Value} {base:Heap} {C CH CP:Addr}
abbrev Zl2:Stmt:=top 83
noncomputable abbrev Ztu:List Str:=["_law_script","_law_deck_here","_law_row_here","_law_due","_law_line_here","_law_heap_here","_law_bag","_law_turned_here","_law_many","_law_piece"]
def scLaw:Zm Ztu ["_law_script"] (Zf Zl2):=⟨rfl,rfl,rfl,by decide +kernel,rfl,by decide +kernel,by decide +kernel⟩
def ZlJ (K:PySem.W.Frag):Sp:=fun vs H Q _=>∃ (a:Addr) (ns:List Int),vs=[.ref a]/\SqL K H a (ns.map V.int)/\ns.length<=63/\∀ H',Q (.bl true) H'
def Zrb (Fl:Fun K "law" "law" Zl2 fa fd) (B:Blt mg) (T:BgC K mg C)
  (g0_:FOk P w K mg base 9 "_law_deck" ["_law_script","_law_many"] (ZnG K)) (g9_:FOk P w K mg base 9 "_law_row" ["_law_deck_here","_law_most"] ZiX) (g3_:FOk P w K mg base 9 "_law_heap" ["_law_pieces"] (Zi6 K))
  (g5_:FOk P w K mg base 9 "_law_line" ["_law_heap_here"] Znz) (g48_:FOk P w K mg base 9 "read_heap" ["line"] Zi0) (g10_:FOk P w K mg base 9 "_law_same_heap" ["_law_found","_law_due"] Znt) (g30_:FOkX P w K mg base 9 "heap_of" ["pieces"] (Zgs CH))
  (g50_:FOk P w K mg base 9 "show_heap" ["H"] Zfb) (g32_:IOkX P w K mg base C 8 ["self","long"] (ZnC C CH)) (g16_:MOkX P w K mg base C 9 "as_heap" ["self"] [[]] (Zct C)) (g12_:FOk P w K mg base 9 "_law_turned" ["_law_row_here","_law_deck_here"] Zgl)
  (g2_:FOk P w K mg base 9 "_law_gathered" ["_law_bag","_law_row_here"] (ZnE C)) (g8_:FOk P w K mg base 9 "_law_refused" ["_law_bag","_law_piece"] (Znv C)) (g55_:MOkX P w K mg base C 9 "texts_now" ["self"] [[]] (Zns C CH)) (g21_:FOk P w K mg base 9 "count_of" ["H"] ZaV)
  (g13_:FOk P w K mg base 9 "_law_verdict" ["_law_found","_law_row_here","_law_heap_here","_law_many"] ZqI) (g61_:MOkX P w K mg base C 9 "verdict_now" ["self"] [[]] (Znp C CH)) (g60_:FOk P w K mg base 9 "verdict" ["H"] ZaS) (g53_:MOkX P w K mg base C 9 "take" ["self","piece","many"] [[],[.int 1]] (Znr C CP)) :
  FnOk P w K mg base CX0 10 fa fd ["_law_script"] (ZlJ K):=by
 refine Fl.ok scLaw (fun vs H Q E h=>?_) (fun cdv A outer s H vs Q E hr h=>?_)
 ·obtain⟨a,ns,rfl,_⟩:=h;rfl
 ·refine B0 ?_;intros;obtain⟨a,ns,rfl,ha,hl,k⟩:=h;have m0:([]:List V)∈[([]:List V)]:=Qr.mpr rfl;have m1:[V.int 1]∈[[],[V.int 1]]:=Qg _ Qd;refine⟨_,(Zd (Zo (i:=1) scLaw.nd rfl (.inl rfl) (Zu g0_ hr (Za (pv 0) (Za Zh Zc))))
   (Zd (Zo (i:=2) scLaw.nd rfl (.inl rfl) (Zu g9_ hr (Za (pv 1) (Za Zh Zc))))
   (Zd (Zo (i:=3) scLaw.nd rfl (.inl rfl) (Zu g3_ hr (Za (pv 2) Zc)))
   (Zd (Zo (i:=4) scLaw.nd rfl (.inl rfl) (Zu g5_ hr (Za (pv 3) Zc)))
   (Zd (Zo (i:=5) scLaw.nd rfl (.inl rfl) (Zu g48_ hr (Za (pv 4) Zc)))
   (Zd (ZI (PW.pt (YJ (ZU (ZS (Zu g10_ hr (Za (pv 5) (Za (pv 3) Zc))))) (YJ (Zq (ZdY hr.units) (Zq4 g30_ hr (Za (pv 2) Zc)) (pv 3) (Zr _)) (Yp (Zq X7 (Zu g50_ hr (Za (pv 5) Zc)) (pv 4) (Zr _)))))) (Zg (Zn YX)) Zt)
   (Zd (Zo (i:=6) scLaw.nd rfl (.inl rfl) (Zq2 g32_ hr T.mgC (Za (Zi Zp rfl B.len ZE (Za (Zw ix_list (pv 2) Zh (fun _ _=>rfl)) Zc)) Zc)))
   (Zd (ZI (Zq (ZdY hr.units) (Zb5 g16_ [] m0 hr T.cl (pv 6)) (YW Zc) (Zr _)) (Zg (Zn YX)) Zt)
   (Zd (Zo (i:=7) scLaw.nd rfl (.inl rfl) (Zu g12_ hr (Za (pv 2) (Za (pv 1) Zc))))
   (Zd (ZT (Zu g2_ hr (Za (pv 6) (Za (pv 7) Zc))))
   (Zd (ZI (PW.pt (YJ (ZU (ZS (Zu g10_ hr (Za (Zb5 g16_ [] m0 hr T.cl (pv 6)) (Za (pv 3) Zc))))) (Yp (ZU (ZS (Zu g8_ hr (Za (pv 6) (Za (Zv Yf (Zw ix_list (pv 2) Zh (fun _ _=>rfl)) Z1) Zc)))))))) (Zg (Zn YX)) Zt)
   (Zd (Zo (i:=8) scLaw.nd rfl (.inl rfl) (Zb5 g55_ [] m0 hr T.cl (pv 6)))
   (Zd (ZI (PW.pt (YJ (Zq X7 (pv 8) (Zu g21_ hr (Za (pv 3) Zc)) (Zr _)) (Yp (ZU (ZS (Zu g13_ hr (Za (Zb5 g61_ [] m0 hr T.cl (pv 6)) (Za (pv 2) (Za (pv 3) (Za (pv 8) Zc)))))))))) (Zg (Zn YX)) Zt)
   (Zd (ZI (PW.pt (YJ (ZU (ZS (Zu g13_ hr (Za (Zu g60_ hr (Za (pv 3) Zc)) (Za (pv 2) (Za (pv 3) (Za (pv 8) Zc))))))) (Yp (ZU (ZS (Zu g10_ hr (Za (Zb5 g16_ [] m0 hr T.cl (pv 6)) (Za (pv 3) Zc)))))))) (Zg (Zn YX)) Zt)
   (Zd (Yh PassesOwn.never rfl (ZQ (Zu g12_ hr (Za (pv 2) (Za (pv 1) Zc)))) (ZG (i:=9) scLaw.nd rfl (.inl rfl))
    (Zg (ZT (Zpd g53_ [.int 1] m1 hr T.cl (pv 6) (Za (pv 9) Zc)))))
   (Zg (Zn (ZY (ZgK hr.units) (Zb5 g16_ [] m0 hr T.cl (pv 6)) (YW Zc) (Zr _))))))))))))))))))),?_⟩
  refine⟨_,rfl,a,ns,110,rfl,ha,hl,by decide,fun Dk H1 s1 hD1=>?_⟩;refine⟨_,rfl,Dk,79,26,rfl,by decide,by decide,hD1,fun r H2 ps sb2 hD2 hr2 hR hne hrD hpl=>?_⟩;have ha2:=hr2;have hrl:=hR.len;refine⟨_,rfl,r,ps,ps,rfl,SqL.of hr2,by lia,Mf hpl,fun x hx=>hx,fun v H3 hp s3 hA3 hO=>?_⟩;obtain⟨L,l1,l2,hI,hF,hOf,hRH⟩:=ZoZ hR hne hO;refine⟨_,rfl,v,hp,rfl,hA3,hI.shows,hI.pos,fun H4 s4=>?_⟩;have hA4:=hA3.same s4.tup;refine⟨_,rfl,ZbE hp,hp,rfl,hI.line,fun v5 H5 s5 hA5=>?_⟩;have hA5':=hA4.same s5.tup;have hc:Jr hp:=fun p hp'=>(hR.one p.1 ((hO.mem _).mp (WS hp'))).2;have hev:PyData.eqv (YO hp) (YO hp)=true:=SeqAt.eqv_refl _ (SeqAt.canLay_of_shaped (Zz hc));have hr5:=s5 _ _ (s4 _ _ (s3 _ _ hr2));refine⟨_,rfl,_,rfl,v5,v,hp,rfl,hA5,hA5',by have:=hI.few;exact Mg this,hc,_,rfl,Xw ?_⟩;refine⟨_,rfl,.ref r,rfl,.inr ⟨r,ps,ps,L,rfl,.inl hr5,hRH,Mf hpl,fun x hx=>hx,fun v6 H6 hp6 s6 hA6 hO6=>?_⟩⟩;obtain rfl:=ZaM hO6 hO;refine⟨_,rfl,YO hp6,YO hp6,Yk hA6,Yk (hA5'.same s6.tup),Zz hc,Zz hc,_,rfl,Yw (by rw[hev];rfl) ?_⟩;refine⟨_,rfl,v5,hp6,rfl,hA5.same s6.tup,hI.shows,fun H7 s7=>⟨_,rfl,rfl,_,rfl,Yw (by simp) ?_⟩⟩;have s37:=s3.trans (s4.trans (s5.trans (s6.trans s7)));have hr7:=s37 _ _ hr2;have hD7:=hD2.same s37;have hA7:=hA3.same (s4.trans (s5.trans (s6.trans s7))).tup;clear hA6 hA5' hA5 hA4 hA3 hr5 hr2 hD2 ha2 sb2 hO6 s37;obtain⟨p0,pr,rfl⟩:∃ p0 pr,ps=p0::pr:=Rk hne;have hp0:=hOf p0 Qd;refine⟨_,rfl,r,_,0,.str p0,rfl,rfl,SqL.of hr7,ZL (by decide) rfl,.str p0,L,rfl,⟨Zk (by lia),hp0.1.symm⟩,fun b dx hb hdx hbn=>?_⟩;have s8:Same H7 (upd (upd H7 dx (.own b)) b (.ins C dx [])):=fun a u e=>by
   rw[Zj (Zl e hb),Zj (Zl e hdx)];omega
  refine⟨b,dx,.int L,"int",rfl,Ze,.int _,.inr ⟨L,rfl,by simp[YC];lia,fun d H9 hd hs hB=>?_⟩⟩;have s9:Same H7 H9:=fun a u e=>hs a u (fun z=>by simp_all) (s8 a u e);have hr9:=s9 _ _ hr7;have hD9:=hD7.same s9;have hA9:=hA7.same s9.tup;refine⟨rfl,?_⟩;have hnil:∀ (H:Hp) (t:Addr),HpAt (upd H t (.tup [])) (.ref t) []:=fun H t=>⟨t,[],rfl,Ze,rfl,fun i p e=>by simp at e⟩
  have hcn:Jr []:=fun p h=>by grind
  have hen:PyData.eqv (YO []) (YO [])=true:=SeqAt.eqv_refl _ (SeqAt.canLay_of_shaped (Zz hcn));have nA:(Zoc L d).lookup ("as_heap" : Str)=none:=Y1 _ _ (by decide +kernel) (by decide +kernel);clear hs s8 hb hdx hbn hd hr7 hD7 hA7;obtain⟨dx9,hb9⟩:=hB.ob;refine⟨_,rfl,b,dx9,_,rfl,hb9,nA,b,d,L,[],_,rfl,hB,Bg.nil.ok (QT _),fun v10 H10 s0 s10 hS0 hA10=>?_⟩;obtain rfl:s0=[]:=RV.mp hS0.1;refine⟨Zk (show 0<=1000 by decide),fun t ht=>?_⟩;have s11:=Zb (o:=.tup []) ht;refine⟨YO [],YO [],Yk (hA10.same s11.tup),Yk (hnil _ _),Zz hcn,Zz hcn,_,rfl,Yw (by rfl) ?_⟩;have s12:=s10.trans s11;replace hr9:=s12 _ _ hr9;replace hD9:=hD9.same s12;replace hA9:=hA9.same s12.tup;replace hB:=hB.same s12;generalize upd H10 t (.tup [])=H11 at hr9 hD9 hA9 hB;clear hA10 s12 s11 ht s10 hS0 hb9 s9;refine⟨_,rfl,_,rfl,r,Dk,50,p0::pr,rfl,hr9,Mh hpl,hD9.less (by lia),fun tr H12 qs sb12 hD12 htr0 htr hqp=>?_⟩;have hDd:Dk≠d:=fun z=>by obtain⟨xs,e,_⟩:=hD9;rw[z,hB.dc]at e;cases e
  have hbD:b≠Dk:=fun z=>by obtain⟨xs,e,_⟩:=hD9;obtain⟨dx,e2⟩:=hB.ob;rw[z,e]at e2;cases e2
  have hbd:b≠d:=fun z=>by obtain⟨dx,e2⟩:=hB.ob;rw[z,hB.dc]at e2;cases e2
  have hrd:r≠d:=fun z=>by rw[z,hB.dc]at hr9;cases hr9
  have hB12:BagAt C H12 b d L [] (fun _=>0):=⟨let ⟨dx,e⟩:=hB.ob;⟨dx,sb12 _ _ hbD e⟩,sb12 _ _ (Ne.symm hDd) hB.dc⟩
  have hr12:=sb12 _ _ hrD hr9;have hA12:HpAt H12 v hp6:=hA9.same fun c xs e=>sb12 _ _ (fun z=>by obtain⟨ys,e2,_⟩:=hD9;rw[z,e2]at e;cases e) e;have hql:qs.length<=27:=by rw[hqp.length_eq];exact hrl
  refine⟨_,rfl,_,rfl,b,tr,d,L,qs,rfl,hB12,htr,by lia,by lia,fun x hx=>hOf x (hqp.mem_iff.mp hx),fun H13 ks g bt13 hB13 hG=>?_⟩;replace hG:=hG.perm hqp;have hr13:=bt13 _ _ hrd hr12;have hD13:DK H13 Dk 50:=by
   obtain⟨ys,e,z⟩:=hD12;exact⟨ys,bt13 _ _ hDd e,z⟩
  have hA13:HpAt H13 v hp6:=hA12.same fun c xs e=>bt13 _ _ (fun z=>by rw[z,hB12.dc]at e;cases e) e;have hok:=hG.ok (Mh hpl);obtain⟨e0,es0,rfl⟩:∃ e0 es0,hp6=e0::es0:=Rk hI.ne;clear hA12 hr12 hB12 hB hr9 hD9 hA9 bt13 sb12 hD12 htr htr0;obtain⟨dx13,hb13⟩:=hB13.ob;refine⟨_,rfl,b,dx13,_,rfl,hb13,nA,b,d,L,ks,g,rfl,hB13,hok,fun v14 H14 ss s14 hS hA14=>?_⟩;have ess:(ss.map fun x=>(x,g x))=e0::es0:=ZaM (Zhp hG hS) hO;rw[ess]at hA14;have hA13':=hA13.same s14.tup;refine⟨_,rfl,v14,v,e0::es0,rfl,hA14,hA13',by have:=hI.few;exact Mg this,hc,_,rfl,Xw ?_⟩;have hr14:=s14 _ _ hr13;have hB14:=hB13.same s14;have e1:("a" : Str).length=1:=rfl;refine⟨_,rfl,_,rfl,r,_,0,.str p0,rfl,rfl,SqL.of hr14,ZL (by decide) rfl,_,_,rfl,rfl,Zk (by rw[hp0.1];omega),b,d,L,ks,g,p0 ++ "a",rfl,hB14,hok,by rw[Str.length_append,hp0.1];omega,by rw[Str.length_append,hp0.1];lia,fun H15 s15=>⟨_,rfl,Xw ?_⟩⟩;have hB15:=hB14.same s15;have hr15:=s15 _ _ hr14;have hA15:=hA13'.same s15.tup;have hD15:=(hD13.same s14).same s15;clear hB14 hr14 hA13' hA14 hb13 hB13 hA13 hr13 hD13;obtain⟨dx15,hb15⟩:=hB15.ob;have hkn:ks≠[]:=fun z=>by
   have:=(hG.mem p0).mpr Qd;rw[z]at this;cases this
  refine⟨_,rfl,b,dx15,_,rfl,hb15,Y1 _ _ (by decide +kernel) (by decide +kernel),b,d,L,ks,g,rfl,hB15,hok,.inr ⟨ss,p0::pr,hS,hkn,by rw[ess];exact hO,hR,hne,fun n H16 s16 hC=>?_⟩⟩;have hA16:=hA15.same s16.tup;obtain⟨e0',es0',he,hRw⟩:=ZqS hR hne hA16 hO;cases he;refine⟨_,rfl,_,rfl,v,p0::pr,e0,es0,rfl,hRw,fun H17 rs ms s17 g1 g2 g3 g4=>?_⟩;have hC2:Zgb (p0::pr) ms.sum:=⟨rs,ms,g1,g2,g3,g4,rfl⟩
  have en:=Zp7 hC hC2;refine⟨rfl,_,rfl,Yw (by rw[en];simp) ?_⟩;have s57:=s16.trans s17;have hB17:=hB15.same s57;have hr17:=s57 _ _ hr15;have hA17:=hA15.same s57.tup;have hD17:=hD15.same s57;clear hRw hA16 hb15 hB15 hr15 hA15 hD15 hC2 g1 g2 g3 g4 en;obtain⟨dx17,hb17⟩:=hB17.ob;refine⟨_,rfl,b,dx17,_,rfl,hb17,Y1 _ _ (by decide +kernel) (by decide +kernel),b,d,L,ks,g,rfl,hB17,hok,.inr ⟨ss,e0,es0,hS,ess,hF,fun v18 H18 s18 hV=>?_⟩⟩;refine⟨_,rfl,_,rfl,_,rfl,v18,v,r,p0::pr,e0,es0,L,n,rfl,hV,s18 _ _ hr17,hA17.same s18.tup,hO,hR,hF,hC,fun H19 s19=>⟨_,rfl,Yw rfl ?_⟩⟩;have s79:=s18.trans s19;have hB19:=hB17.same s79;have hr19:=s79 _ _ hr17;have hA19:=hA17.same s79.tup;have hD19:=hD17.same s79;clear hV hb17 hB17 hr17 hA17 hD17;refine⟨_,rfl,v,e0,es0,L,rfl,Zs6 hA19,hF,fun v20 H20 s20 hV=>?_⟩;refine⟨_,rfl,_,rfl,_,rfl,v20,v,r,p0::pr,e0,es0,L,n,rfl,hV,s20 _ _ hr19,hA19.same s20.tup,hO,hR,hF,hC,fun H21 s21=>⟨_,rfl,Xw ?_⟩⟩;have s91:=s20.trans s21;have hB21:=hB19.same s91;have hr21:=s91 _ _ hr19;have hA21:=hA19.same s91.tup;have hD21:=hD19.same s91;clear hV hB19 hr19 hA19 hD19;obtain⟨dx21,hb21⟩:=hB21.ob;refine⟨_,rfl,b,dx21,_,rfl,hb21,nA,b,d,L,ks,g,rfl,hB21,hok,fun v22 H22 ss' s22 hS' hA22=>?_⟩;have ess':(ss'.map fun x=>(x,g x))=e0::es0:=ZaM (Zhp hG hS') hO;rw[ess']at hA22;refine⟨_,rfl,v22,v,e0::es0,rfl,hA22,hA21.same s22.tup,by have:=hI.few;exact Mg this,hc,_,rfl,Yw rfl ?_⟩;have hB22:=hB21.same s22;have hr22:=s22 _ _ hr21;have hD22:=hD21.same s22;clear hA22 hb21 hB21 hr21 hA21 hD21 ess' hS';refine⟨_,rfl,_,rfl,r,Dk,20,p0::pr,rfl,hr22,Mh hpl,hD22.less (by lia),fun t2 H23 q2 sb23 hD23 ht0 ht2 hq2=>?_⟩;have hB23:BagAt C H23 b d L ks g:=⟨let ⟨dx,e⟩:=hB22.ob;⟨dx,sb23 _ _ hbD e⟩,sb23 _ _ (Ne.symm hDd) hB22.dc⟩
  replace hG:=hG.perm hq2.symm;have htd:t2≠d:=fun z=>by rw[z,hB22.dc]at ht0;cases ht0
  have hq2l:q2.length<=27:=by rw[hq2.length_eq];exact hrl
  have hO2:∀ x∈q2,x.length=L/\ZK (.str x)=true:=fun x hx=>hOf x (hq2.mem_iff.mp hx);refine⟨t2,rfl,⟨_,SqL.of ht2⟩,JR (K:=K) (a:=t2) (xs:=q2.map V.str) (fun i σ H'=>∃ (ks:List Str) (g:Str->Int) (z9:Option V),σ=[some (.ref a),some (.ref Dk),some (.ref r),some v,some (.str (ZbE (e0::es0))),some v5,some (.ref b),some (.ref tr),some (.int n),z9]/\BagAt C H' b d L ks g/\Bg (q2.drop i) ks g/\H' t2=some (.lst (q2.map V.str))) ⟨ks,g,none,rfl,hB23,hG,ht2⟩ (fun i σ H' _ ⟨_,_,_,_,_,_,z⟩=>SqL.of z) ?_ ?_⟩
  ·rintro i x σ H24 hi ⟨ks2,g2,z9,rfl,hB24,hG24,ht24⟩;obtain⟨hi',rfl⟩:=Xb hi;have edr:q2.drop i=q2[i]::q2.drop (i+1):=Rm hi';have hxO:=hO2 _ (QA hi');obtain⟨dx24,hb24⟩:=hB24.ob;have hg1:1<=g2 q2[i]:=by
    rw[hG24.cnt,edr];have:0<(q2[i]::q2.drop (i+1)).count q2[i]:=WZ.mpr Qd;exact Nl this
   refine⟨_,rfl,b,dx24,_,rfl,hb24,Y1 _ _ (by decide +kernel) (by decide +kernel),_,rfl,b,d,L,ks2,g2,.str q2[i],.int 1,"str","int",rfl,hB24,(hG24.ok (by rw[Wa];lia)),.str _,.int _,fun z e=>by cases e;exact Zk (by rw[hxO.1];lia),.inr ⟨q2[i],1,rfl,rfl,by simp[XH,hxO],.inr ⟨hg1,fun H25 bt25 hd25=>?_⟩⟩⟩;refine⟨_,_,_,rfl,⟨⟨dx24,bt25 _ _ hbd hb24⟩,hd25⟩,hG24.up (x:=q2[i]) (k:=-1) fun y=>?_,bt25 _ _ htd ht24⟩;rw[edr,RB];by_cases e:y=q2[i]
   ·rw[if_pos e,if_pos (by rw[e];simp)];lia
   ·rw[if_neg e,if_neg (by simpa using Ne.symm e)];lia
  rintro σ H24 ⟨ks2,g2,z9,rfl,hB24,hG24,ht24⟩;rw[Qc,Vk]at hG24;obtain⟨dx24,hb24⟩:=hB24.ob;refine⟨_,rfl,b,dx24,_,rfl,hb24,nA,b,d,L,ks2,g2,rfl,hB24,hG24.ok (QT _),fun v26 H26 s0 s26 hS0 hA26=>?_⟩;have ek:ks2=[]:=U6.mpr fun y hy=>by cases (hG24.mem y).mp hy
  rw[ek]at hS0;obtain rfl:s0=[]:=RV.mp hS0.1;refine⟨Zk (show 0<=1000 by decide),fun t ht=>?_⟩;refine⟨YO [],YO [],Yk (hA26.same (Zb (o:=.tup []) ht).tup),Yk (hnil _ _),Zz hcn,Zz hcn,?_⟩;rw[hen];exact k _
end
open PySem L2
def blt_mk {K:PySem.W.Frag} {h:Heap} {q:Str->Option Value} (X:K.In h) (G:h.Ns Oh q) {o p:Value} (B:PySem.W.nsIn K Oh "isinstance" = some none) (A:PySem.W.nsIn K Oh "int" = some none) (w:PySem.W.nsIn K Oh "bool" = some none) (s:PySem.W.nsIn K Oh "len" = some none) (z:PySem.W.nsIn K Oh "range" = some none) (v:PySem.W.nsIn K Oh "list" = some none) (r:PySem.W.nsIn K Oh "tuple" = some none) (u:PySem.W.nsIn K Oh "enumerate" = some none) (x:PySem.W.nsIn K Oh "sum" = some none) (y:PySem.W.nsIn K Oh "sorted" = some none) (b:PySem.W.nsIn K Oh "set" = some none) (k:PySem.W.nsIn K Oh "max" = some none) (g:PySem.W.nsIn K Oh "min" = some none) (m:PySem.W.nsIn K Oh "reversed" = some none) (f:PySem.W.nsIn K Oh "zip" = some none) (l:PySem.W.nsIn K Oh "str" = some none) (a:PySem.W.nsIn K Oh "dict" = some none) (c:PySem.W.nsIn K Oh "all" = some none) (n:PySem.W.nsIn K Oh "LETTERS" = some (some o)) (d:∃ t,o= .str "abcdefghijklmnopqrstuvwxyz" t) (j:PySem.W.nsIn K Oh "MOST_SIGNS" = some (some p)) (i:∃ t,p= .int 300 t):Blt q :=
 ⟨PySem.W.mg_none_of X G B,PySem.W.mg_none_of X G A,PySem.W.mg_none_of X G w,PySem.W.mg_none_of X G s,PySem.W.mg_none_of X G z,PySem.W.mg_none_of X G v,PySem.W.mg_none_of X G r,PySem.W.mg_none_of X G u,PySem.W.mg_none_of X G x,PySem.W.mg_none_of X G y,PySem.W.mg_none_of X G b,PySem.W.mg_none_of X G k,PySem.W.mg_none_of X G g,PySem.W.mg_none_of X G m,PySem.W.mg_none_of X G f,PySem.W.mg_none_of X G l,PySem.W.mg_none_of X G a,PySem.W.mg_none_of X G c,(let ⟨t,e⟩:=d;⟨t,e▸PySem.W.mg_of X G n⟩),(let ⟨t,e⟩:=i;⟨t,e▸PySem.W.mg_of X G j⟩)⟩
def ln_mk {K:PySem.W.Frag} {h:Heap} {b:Str->Option Value} {c a:Value} (X:K.In h) (G:h.Ns Oh b) (f:PySem.W.nsIn K Oh "FIGURES" = some (some c)) (g:∃ t,c= .str "0123456789" t) (d:PySem.W.nsIn K Oh "MOST_FIGURES" = some (some a)) (i:∃ t,a= .int 3 t):Ln b :=
 ⟨(let ⟨t,e⟩:=g;⟨t,e▸PySem.W.mg_of X G f⟩),(let ⟨t,e⟩:=i;⟨t,e▸PySem.W.mg_of X G d⟩)⟩
def bg_mk {K:PySem.W.Frag} {h:Heap} {a:Str->Option Value} {C:Addr} (X:K.In h) (G:h.Ns Oh a) (e:PySem.W.nsIn K Oh "Bag" = some (some (.ref C))) (d:PySem.W.plainGet K C Str.empty=true) (g:PySem.W.hasDictIn K C=true) (f:PySem.W.plainOver K C=true) (b:PySem.W.findIn K (.ref C) "__setattr__" = some (some (.builtin "object.__setattr__")))
  (c:PySem.W.findIn K (.ref C) "long" = some none) (i:PySem.W.findIn K (.ref C) "manys" = some none):BgC K a C:=⟨⟨d,g,f,b⟩,c,i,PySem.W.mg_of X G e⟩
section
variable {K:PySem.W.Frag} {C f T:Addr} {m qual:Str} {st:Stmt} {ps:List Str} {oc kV doc pm cdv ct:Value} {od an:Option Addr} {osl:Array (Option Value)}
def hasM_mk (a:PySem.W.findIn K (.ref C) m=some (some (.ref f))) (i:PySem.W.isFn K (.ref f)=true) (l:K.lookup f=some ⟨oc,od,.func (PySem.W.fnOf m qual (Ya st) (ZR st) (Zf st) .none kV doc pm an cdv ct),osl⟩) (c:PySem.W.codeIn K cdv qual=true) (k:PySem.W.keepIn K (.ref f)=true)
  (b:∀ us:List Value,us.length=ps.length->O9 (PySem.W.fnOf m qual (Ya st) (ZR st) (Zf st) .none kV doc pm an cdv ct) ⟨us,[]⟩=pure (ps.zip us)):HasM K C m qual st ps [[]] :=
 ⟨f,_,⟨⟨oc,od,.none,kV,doc,pm,an,cdv,ct,osl,rfl,l,c⟩⟩,⟨a,i,k⟩,fun dvs hd=>by rw[Qr.mp hd];exact⟨[],.nil,Binds.all b⟩⟩
def hasI_mk (o:PySem.W.makesIn K C=true) (r:PySem.W.keepIn K (.ref C)=true) (a:PySem.W.findIn K (.ref C) "__init__" = some (some (.ref f))) (i:PySem.W.isFn K (.ref f)=true) (l:K.lookup f=some ⟨oc,od,.func (PySem.W.fnOf "__init__" qual (Ya st) (ZR st) (Zf st) .none kV doc pm an cdv ct),h⟩) (c:PySem.W.codeIn K cdv qual=true)
  (b:∀ j:List Value,j.length=ps.length->O9 (PySem.W.fnOf "__init__" qual (Ya st) (ZR st) (Zf st) .none kV doc pm an cdv ct) ⟨j,[]⟩=pure (ps.zip j)):HasI K C qual st ps :=
 ⟨f,_,⟨⟨oc,od,.none,kV,doc,pm,an,cdv,ct,h,rfl,l,c⟩⟩,⟨o,a,i,r⟩,Binds.all b⟩
def Zg4 {oc2:Value} {od2:Option Addr} {n:Nat} {tk:Tok} {osl2:Array (Option Value)} (a:PySem.W.findIn K (.ref C) m=some (some (.ref f))) (i:PySem.W.isFn K (.ref f)=true) (l:K.lookup f=some ⟨oc,od,.func (PySem.W.fnOf m qual (Ya st) (ZR st) (Zf st) (.ref T) kV doc pm an cdv ct),osl⟩) (c:PySem.W.codeIn K cdv qual=true) (k:PySem.W.keepIn K (.ref f)=true)
  (lt:K.lookup T=some ⟨oc2,od2,.seq #[.int 1 tk] n,osl2⟩)
  (b0:∀ us:List Value,(us++[]).length=ps.length->∃ kk:Option (Array Value)->Sem (List (Str×Value)),O9 (PySem.W.fnOf m qual (Ya st) (ZR st) (Zf st) (.ref T) kV doc pm an cdv ct) ⟨us,[]⟩=GA (.ref T) >>= kk/\kk (some #[.int 1 tk])=pure (ps.zip (us++[])))
  (b1:∀ us:List Value,(us++[Value.int 1 tk]).length=ps.length->∃ kk:Option (Array Value)->Sem (List (Str×Value)),O9 (PySem.W.fnOf m qual (Ya st) (ZR st) (Zf st) (.ref T) kV doc pm an cdv ct) ⟨us,[]⟩=GA (.ref T) >>= kk/\kk (some #[.int 1 tk])=pure (ps.zip (us++[Value.int 1 tk]))):HasM K C m qual st ps [[],[.int 1]] :=
 ⟨f,_,⟨⟨oc,od,.ref T,kV,doc,pm,an,cdv,ct,osl,rfl,l,c⟩⟩,⟨a,i,k⟩,fun dvs hd=>by
  simp only[Qx,UD,or_false]at hd;rcases hd with rfl | rfl
  ·exact⟨[],.nil,ZeT rfl lt rfl rfl b0⟩
  ·exact⟨[Value.int 1 tk],.cons ⟨tk,rfl⟩ .nil,ZeT rfl lt rfl rfl b1⟩⟩
def hasPut {m b:Str} {j:Value} {od2:Option Addr} {n:Nat} {tk:Tok} {e:Array (Option Value)} (a:PySem.W.findIn K (.ref C) m=some (some (.ref f))) (i:PySem.W.isFn K (.ref f)=true) (l:K.lookup f=some ⟨oc,od,.func (PySem.W.fnOf m b (Ya (Ja 2)) (ZR (Ja 2)) (Zf (Ja 2)) (.ref T) kV doc pm an cdv ct),osl⟩) (c:PySem.W.codeIn K cdv b=true) (k:PySem.W.keepIn K (.ref f)=true)
  (lt:K.lookup T=some ⟨j,od2,.seq #[.int 1 tk] n,e⟩):HasM K C m b (Ja 2) ["self","piece","many"] [[],[.int 1]]:=by
 refine Zg4 a i l c k lt (fun g h=>?_) (fun g h=>?_)
 have d:g.length=3:=by simpa using h
 match g,d with
 | [_,_,_],_=>exact⟨_,rfl,rfl⟩
 have d:g.length=2:=by simpa using h
 match g,d with
 | [_,_],_=>exact⟨_,rfl,rfl⟩
def hasTake {m qual:Str} {oc2:Value} {od2:Option Addr} {n:Nat} {tk:Tok} {osl2:Array (Option Value)} (a:PySem.W.findIn K (.ref C) m=some (some (.ref f))) (i:PySem.W.isFn K (.ref f)=true) (l:K.lookup f=some ⟨oc,od,.func (PySem.W.fnOf m qual (Ya (Ja 3)) (ZR (Ja 3)) (Zf (Ja 3)) (.ref T) kV doc pm an cdv ct),osl⟩) (c:PySem.W.codeIn K cdv qual=true) (k:PySem.W.keepIn K (.ref f)=true)
  (lt:K.lookup T=some ⟨oc2,od2,.seq #[.int 1 tk] n,osl2⟩):HasM K C m qual (Ja 3) ["self","piece","many"] [[],[.int 1]]:=by
 refine Zg4 a i l c k lt (fun us hl=>?_) (fun us hl=>?_)
 ·have hl':us.length=3:=by simpa using hl
  match us,hl' with
  | [_,_,_],_=>exact⟨_,rfl,rfl⟩
 ·have hl':us.length=2:=by simpa using hl
  match us,hl' with
  | [_,_],_=>exact⟨_,rfl,rfl⟩
end
def all_mk {l:PySem.W.OpenLaw} {w:Of} {K:PySem.W.Frag} {h:Heap} {mg:Str->Option Value} {fa f0:Addr} (X:K.In h) (G:h.Ns Oh mg) (hfa:mg "law" = some (.ref fa)) {oc kV dc pm cd ct:Value} {od an:Option Addr} {sl:Array (Option Value)}
  (B:Blt mg) {CP CH C:Addr} (cH:XCls K mg "NoHeap" CH (Zrl K CH)) (cP:XCls K mg "NoPiece" CP (Zrl K CP)) (Lm:Ln mg) (Tb:BgC K mg C) (I0:HasI K C "Bag.__init__" (Ja 0) ["self","long"]) (M1:HasM K C "check" "Bag.check" (Ja 1) ["self","piece","many"] [[]]) (M2:HasM K C "put" "Bag.put" (Ja 2) ["self","piece","many"] [[],[.int 1]]) (M3:HasM K C "take" "Bag.take" (Ja 3) ["self","piece","many"] [[],[.int 1]]) (M4:HasM K C "as_heap" "Bag.as_heap" (Ja 4) ["self"] [[]]) (M5:HasM K C "full_heap" "Bag.full_heap" (Ja 5) ["self"] [[]]) (M6:HasM K C "verdict_now" "Bag.verdict_now" (Ja 6) ["self"] [[]]) (M7:HasM K C "texts_now" "Bag.texts_now" (Ja 7) ["self"] [[]])
  (D0:HasDef K mg "begin_of" ZcJ ["piece"])
  (D1:HasDef K mg "end_of" Zjw ["piece"])
  (D2:HasDef K mg "ties_of" Zfi ["H"])
  (D3:HasDef K mg "points_of" Xz ["H"])
  (D4:HasDef K mg "outs_of" ZcB ["H","P"])
  (D5:HasDef K mg "more_out" ZcC ["H"])
  (D6:HasDef K mg "begins_of" JG ["H"])
  (D7:HasDef K mg "ends_of" ZcH ["H"])
  (D8:HasDef K mg "start_of" Zcz ["H","wish"])
  (D9:HasDef K mg "place_of_head" XA ["rows"])
  (D10:HasDef K mg "lessened" JE ["row","head","divisor"])
  (D11:HasDef K mg "worth_of" Jz ["table"])
  (D12:HasDef K mg "tied_points" Ji ["H"])
  (D13:HasDef K mg "part_of" Zfj ["H"])
  (D14:HasDef K mg "hangs" Zjv ["H"])
  (D15:HasDef K mg "numbers_out" Jk ["ties"])
  (D16:HasDef K mg "is_way" Zju ["ties","begin","numbers"])
  (D17:HasDef K mg "way_of" Zjq ["ties","begin"])
  (D18:HasDef K mg "text_from" JA ["ties","begin"])
  (D19:HasDef K mg "has_many_begins" YD ["H"])
  (D20:HasDef K mg "has_text" ZcG ["H"])
  (D21:HasDef K mg "verdict" Zcx ["H"])
  (D22:HasDef K mg "row_numbers" Jj ["H","root"])
  (D23:HasDef K mg "tree_table" Xc ["H","root"])
  (D24:HasDef K mg "trees_of" Zcy ["H","root"])
  (D25:HasDef K mg "factorial" J9 ["number"])
  (D26:HasDef K mg "orders_to" Za5 ["H","end"])
  (D27:HasDef K mg "starts_of" Za2 ["H"])
  (D28:HasDef K mg "count_from" Zaa ["H","P"])
  (D29:HasDef K mg "count_of" ZaJ ["H"])
  (D30:HasDef K mg "is_whole" ZcE ["thing"])
  (D31:HasDef K mg "is_long" Zfp ["thing"])
  (D32:HasDef K mg "is_text" ZcF ["thing"])
  (D33:HasDef K mg "most_pieces" ZoV ["long"])
  (D34:HasDef K mg "in_rows" Zfq ["manys"])
  (D35:HasDef K mg "is_pair" Zfo ["thing"])
  (D36:HasDef K mg "are_pieces" Ye ["things"])
  (D37:HasDef K mg "are_in_order" ZaI ["pieces"])
  (D38:HasDef K mg "is_heap" Za7 ["thing"])
  (D39:HasDef K mg "long_of" Zfk ["H"])
  (D40:HasDef K mg "size_of" ZcA ["H"])
  (D41:HasDef K mg "counted" ZcI ["pieces"])
  (D42:HasDef K mg "heap_of" Zfr ["pieces"])
  (D43:HasDef K mg "show_pair" Za3 ["piece","many"])
  (D44:HasDef K mg "show_heap" JB ["H"])
  (D45:HasDef K mg "read_many" JC ["figures"])
  (D46:HasDef K mg "read_pair" Za4 ["word"])
  (D47:HasDef K mg "read_heap" JD ["line"])
  (D48:HasDef K mg "_law_mixed" Zfn ["_law_row_here","_law_k"])
  (D49:HasDef K mg "_law_deck" Zjt ["_law_script","_law_many"])
  (D50:HasDef K mg "_law_letters" Za6 ["_law_deck_here","_law_few_here"])
  (D51:HasDef K mg "_law_signs" Zfm ["_law_deck_here","_law_some","_law_long"])
  (D52:HasDef K mg "_law_few" ZhC ["_law_deck_here","_law_most"])
  (D53:HasDef K mg "_law_row" Zl3 ["_law_deck_here","_law_most"])
  (D54:HasDef K mg "_law_whole" Zfl ["_law_found"])
  (D55:HasDef K mg "_law_heap" Zgw ["_law_pieces"])
  (D56:HasDef K mg "_law_same_heap" Zjr ["_law_found","_law_due"])
  (D57:HasDef K mg "_law_points" JF ["_law_row_here"])
  (D58:HasDef K mg "_law_line" Zjs ["_law_heap_here"])
  (D59:HasDef K mg "_law_turned" ZcD ["_law_row_here","_law_deck_here"])
  (D60:HasDef K mg "_law_gathered" Zgx ["_law_bag","_law_row_here"])
  (D61:HasDef K mg "_law_refused" ZoW ["_law_bag","_law_piece"])
  (D62:HasDef K mg "_law_verdict" ZdM ["_law_found","_law_row_here","_law_heap_here","_law_many"])
  (a0:PySem.W.nsIn K Oh "law" = some (some (.ref f0))) (l0:K.lookup f0=some ⟨oc,od,.func (PySem.W.fnOf "law" "law" (Ya Zl2) (ZR Zl2) (Zf Zl2) .none kV dc pm an cd ct),sl⟩) (c0:PySem.W.codeIn K cd "law" = true) (k0:PySem.W.keepIn K (.ref f0)=true) :
  ∃ fd:O2,(∀ (s:Shared) (v:Value),Gr s fd ⟨[v],[]⟩ [("_law_script",v)])/\∀ base:Heap,K.In base->base.Ns Oh mg->FnOk l.prog w K mg base CX0 10 fa fd ["_law_script"] (ZlJ K):=by
 cases (hfa.symm.trans (PySem.W.mg_of X G a0));refine⟨PySem.W.fnOf "law" "law" (Ya Zl2) (ZR Zl2) (Zf Zl2) .none kV dc pm an cd ct,fun s v=>.of_eq rfl,fun base _ _=>?_⟩;have W0:=ZfL (P:=l.prog) (w:=w) (base:=base) D0;have W1:=Zj9 (P:=l.prog) (w:=w) (base:=base) D1;have W3:=Zd8 (P:=l.prog) (w:=w) (base:=base) D3 B W0 W1;have W5:=ZfD (P:=l.prog) (w:=w) (base:=base) D5 W0 W1;have W6:=Zeh (P:=l.prog) (w:=w) (base:=base) D6 B W5;have W11:=ZfA (P:=l.prog) (w:=w) (base:=base) D11 B (Zax (P:=l.prog) (w:=w) (base:=base) D9 B) (ZfE (P:=l.prog) (w:=w) (base:=base) D10 B);have W13:=ZhI (P:=l.prog) (w:=w) (base:=base) D13 B (W0.mono (by decide)) (ZbG (P:=l.prog) (w:=w) (base:=base) D12 W0 W1);have W14:=Zmk (P:=l.prog) (w:=w) (base:=base) D14 B W13 (W3.mono (by decide));have W16:=Zj8 (P:=l.prog) (w:=w) (base:=base) D16 B;have W17:=Zj2 (P:=l.prog) (w:=w) (base:=base) D17 B (ZbI (P:=l.prog) (w:=w) (base:=base) D15 B) W16;have W18:=Zd2 (P:=l.prog) (w:=w) (base:=base) D18 B W17;have W19:=Zee (P:=l.prog) (w:=w) (base:=base) D19 B W6;have W20:=Zed (P:=l.prog) (w:=w) (base:=base) D20 B W14 W19;have W21:=ZhF (P:=l.prog) (w:=w) (base:=base) D21 B W19 (W6.mono (by decide)) W14 (W13.mono (by decide)) ((ZhG (P:=l.prog) (w:=w) (base:=base) D2 W0 W1).mono (by decide)) (W0.mono (by decide)) (ZfC (P:=l.prog) (w:=w) (base:=base) D8 B W6) (W18.mono (by decide));have W22:=ZbH (P:=l.prog) (w:=w) (base:=base) D22 B W3;have W23:=ZcS (P:=l.prog) (w:=w) (base:=base) D23 B W22 (W0.mono (by decide)) (W1.mono (by decide));have W24:=ZfB (P:=l.prog) (w:=w) (base:=base) D24 B W23 (W11.mono (by decide));have W25:=Zeg (P:=l.prog) (w:=w) (base:=base) D25 B;have W26:=Zd9 (P:=l.prog) (w:=w) (base:=base) D26 B W24 ((ZhJ (P:=l.prog) (w:=w) (base:=base) D4 B W0).mono (by decide)) (W25.mono (by decide)) (W3.mono (by decide));have W27:=ZcT (P:=l.prog) (w:=w) (base:=base) D27 B W20 (W6.mono (by decide)) (W3.mono (by decide));have W28:=ZbJ (P:=l.prog) (w:=w) (base:=base) D28 B W27 ((ZhV (P:=l.prog) (w:=w) (base:=base) D7 B W5).mono (by decide)) W26 (W25.mono (by decide));have W29:=ZfK (P:=l.prog) (w:=w) (base:=base) D29 B (W27.mono (by decide)) W28;have W30:=ZfH (P:=l.prog) (w:=w) (base:=base) D30 B;have W31:=ZhR (P:=l.prog) (w:=w) (base:=base) D31 B W30;have W32:=ZhP (P:=l.prog) (w:=w) (base:=base) D32 B W31;have W33:=Zpk (P:=l.prog) (w:=w) (base:=base) D33 B;have W34:=ZhT (P:=l.prog) (w:=w) (base:=base) D34 B;have W100:=Zpl (P:=l.prog) (w:=w) (base:=base) I0 Tb cH W31;have W101:=Zml (P:=l.prog) (w:=w) (base:=base) M1 B Tb cP W32 (W30.mono (by decide));have W102:=Zra (P:=l.prog) (w:=w) (base:=base) M2 B Tb cH W101 (W33.mono (by decide));have W103:=Zpj (P:=l.prog) (w:=w) (base:=base) M3 B Tb cP W101;have W104:=ZhW (P:=l.prog) (w:=w) (base:=base) M4 Tb W34;have W105:=Zef (P:=l.prog) (w:=w) (base:=base) M5 B Tb cH W104;have W106:=ZbF (P:=l.prog) (w:=w) (base:=base) M6 Tb (W105.mono (by decide)) (W21.mono (by decide));have W107:=Zd1 (P:=l.prog) (w:=w) (base:=base) M7 Tb (W105.mono (by decide)) (W29.mono (by decide));have W35:=ZhQ (P:=l.prog) (w:=w) (base:=base) D35 B W30;have W36:=ZcU (P:=l.prog) (w:=w) (base:=base) D36 B W32;have W200:=ZbK (P:=l.prog) (w:=w) (base:=base) D36 B W32;have W37:=ZfI (P:=l.prog) (w:=w) (base:=base) D37 B;have W39:=ZhK (P:=l.prog) (w:=w) (base:=base) D39 B;have W40:=ZhH (P:=l.prog) (w:=w) (base:=base) D40 B;have W38:=ZhS (P:=l.prog) (w:=w) (base:=base) D38 B (W35.mono (by decide)) W36 (W37.mono (by decide)) (W40.mono (by decide)) (W33.mono (by decide)) (W39.mono (by decide));have W201:=ZfJ (P:=l.prog) (w:=w) (base:=base) D41 B W34;have W42:=ZhU (P:=l.prog) (w:=w) (base:=base) D42 B cH W200 (W33.mono (by decide)) (W201.mono (by decide));have W43:=Zd3 (P:=l.prog) (w:=w) (base:=base) D43;have W44:=Zd4 (P:=l.prog) (w:=w) (base:=base) D44 W43;have W45:=Zd6 (P:=l.prog) (w:=w) (base:=base) D45 B Lm;have W46:=Zd5 (P:=l.prog) (w:=w) (base:=base) D46 W45;have W47:=Zd7 (P:=l.prog) (w:=w) (base:=base) D47 B (W46.mono (by decide)) W38 (W44.mono (by decide));have W54:=ZhL (P:=l.prog) (w:=w) (base:=base) D54 B;have W48:=ZhO (P:=l.prog) (w:=w) (base:=base) D48 B;have W49:=Zj7 (P:=l.prog) (w:=w) (base:=base) D49 B W48;have W50:=Zec (P:=l.prog) (w:=w) (base:=base) D50 B;have W51:=ZhM (P:=l.prog) (w:=w) (base:=base) D51 B;have W52:=Zmj (P:=l.prog) (w:=w) (base:=base) D52 B W50 W51;have W53:=ZhN (P:=l.prog) (w:=w) (base:=base) D53 B (W50.mono (by decide)) (W51.mono (by decide)) W52;have W55:=Zj5 (P:=l.prog) (w:=w) (base:=base) D55 B;have W56:=Zj3 (P:=l.prog) (w:=w) (base:=base) D56 B W54;have W57:=ZfG (P:=l.prog) (w:=w) (base:=base) D57 B;have W58:=Zj4 (P:=l.prog) (w:=w) (base:=base) D58 B;have W59:=ZfF (P:=l.prog) (w:=w) (base:=base) D59 B;have W60:=Zj6 (P:=l.prog) (w:=w) (base:=base) D60 B Tb W102;have W61:=Zeb (P:=l.prog) (w:=w) (base:=base) D61 Tb cP W102;have W62:=Zea (P:=l.prog) (w:=w) (base:=base) D62 B (W54.mono (by decide)) (W55.mono (by decide)) (W57.mono (by decide));exact Zrb (ZkT (st:=Zl2) l0 c0 k0) B Tb (W49.mono (by decide)) (W53.mono (by decide)) (W55.mono (by decide)) (W58.mono (by decide)) (W47.mono (by decide)) (W56.mono (by decide)) (W42.mono (by decide)) (W44.mono (by decide)) (W100.mono (by decide)) (W104.mono (by decide)) (W59.mono (by decide)) (W60.mono (by decide)) (W61.mono (by decide)) W107  (W29.mono (by decide)) (W62.mono (by decide)) (W106.mono (by decide)) (W21.mono (by decide)) (W103.mono (by decide))
def walk {l:PySem.W.OpenLaw} {q:Oc} {b:List Str} {r:(Str->Option Value)->Heap->Prop} {i:Of->Heap->Prop} {d:DefRec} {K:Params->PySem.W.Frag} (k:l.most=some 63) (e:d.params.defaults=[])
  (o:∀ (w:Of) (h:Heap),i w h->(K w.params).In h)
  (F:∀ (w:Of) (c:Str->Option Value) (j:Addr) (h:Heap),(K w.params).In h->h.Ns Oh c->c d.name=some (.ref j) ->
   ∃ g:O2,(∀ (s:Shared) (u:Value),Gr s g ⟨[u],[]⟩ [("_law_script",u)])/\∀ base:Heap,(K w.params).In base->base.Ns Oh c->FnOk l.prog w (K w.params) c base CX0 10 j g ["_law_script"] (ZlJ (K w.params))) :
  PySem.W.WalkO q b r i l.row.toRowW d [] (fun f vs=>PySem.call f vs) :=
 L2.walk_of (n:=63) (k:=10) (x:="_law_script") (CX:=fun _=>CX0) (sp:=fun w=>ZlJ (K w.params)) k (by decide) e ⟨rfl,by decide,by decide⟩ o F (fun _ _ a p m _ n=>⟨a,p,rfl,n,m,fun _=>rfl⟩) fun _ _ _ _ _ z=>z
end Sh
def PySem.W.Fast.tw89207938731133184:Unit:=()
def PySem.W.Fast.tw14879157736896755752:Unit:=()
def PySem.W.Fast.tw10198130230362531455:Unit:=()
def PySem.W.Fast.tw11061838471278566934:Unit:=()
def PySem.W.Fast.tw11786167736895133411:Unit:=()
def PySem.W.Fast.tw6915496173424140151:Unit:=()
def PySem.W.Fast.tw2588725278936672218:Unit:=()
def PySem.W.Fast.tw6210975865046877480:Unit:=()
def PySem.W.Fast.tw4742965370485319072:Unit:=()
def PySem.W.Fast.tw18190736979397872221:Unit:=()
def PySem.W.Fast.tw9327732224116055675:Unit:=()
def PySem.W.Fast.tw5939842140073982937:Unit:=()
def PySem.W.Fast.tw8580872024201383804:Unit:=()
def PySem.W.Fast.tw16594840601459805856:Unit:=()
def PySem.W.Fast.tw1403647149999582861:Unit:=()
def PySem.W.Fast.tw17464949410740903618:Unit:=()
def PySem.W.Fast.tw1592010512577923078:Unit:=()
def PySem.W.Fast.tw14869882792089314367:Unit:=()
def PySem.W.Fast.tw8356109108035712062:Unit:=()
def PySem.W.Fast.tw10558566575901494697:Unit:=()
def PySem.W.Fast.tw4229556890739377006:Unit:=()
def PySem.W.Fast.tw12309938843602217588:Unit:=()
def PySem.W.Fast.tw14130182138444075219:Unit:=()
def PySem.W.Fast.tw10554405137662937124:Unit:=()
def PySem.W.Fast.tw14477398867970825680:Unit:=()
def PySem.W.Fast.tw5778676053602720902:Unit:=()
def PySem.W.Fast.tw13494755260368526709:Unit:=()
def PySem.W.Fast.tw554327969542849171:Unit:=()
def PySem.W.Fast.tw6275614115027060519:Unit:=()
def PySem.W.Fast.tw12148752366581595227:Unit:=()
def PySem.W.Fast.tw17510373635232364359:Unit:=()
def PySem.W.Fast.tw11104041805971765994:Unit:=()
def PySem.W.Fast.tw11911569644932592370:Unit:=()
def PySem.W.Fast.tw13488682450329983946:Unit:=()
def PySem.W.Fast.tw2845385648086811196:Unit:=()
def PySem.W.Fast.tw5676722408063362405:Unit:=()
def PySem.W.Fast.tw6993354245065586477:Unit:=()
def PySem.W.Fast.tw10909097268319133726:Unit:=()
def PySem.W.Fast.tw4799407702691525406:Unit:=()
def PySem.W.Fast.tw3659206868187425069:Unit:=()
def PySem.W.Fast.tw11809524560703254713:Unit:=()
def PySem.W.Fast.tw3606980555046326554:Unit:=()
def PySem.W.Fast.tw5254827661645058738:Unit:=()
def PySem.W.Fast.tw1081707090097844774:Unit:=()
def PySem.W.Fast.tw11579695175677116953:Unit:=()
def PySem.W.Fast.tw4444585418136237219:Unit:=()
def PySem.W.Fast.tw2514333391291236578:Unit:=()
def PySem.W.Fast.tw324034130856691394:Unit:=()
def PySem.W.Fast.tw2623815269629498344:Unit:=()
def PySem.W.Fast.tw14286271474670823387:Unit:=()
def PySem.W.Fast.tw5573409610864092477:Unit:=()
def PySem.W.Fast.tw5049410371331277933:Unit:=()
def PySem.W.Fast.tw15175578717569654385:Unit:=()
def PySem.W.Fast.tw11848472795011345675:Unit:=()
def PySem.W.Fast.tw11470171117835558331:Unit:=()
def PySem.W.Fast.tw9327041035384261962:Unit:=()
def PySem.W.Fast.tw10054803386449177273:Unit:=()
def PySem.W.Fast.tw12323486187461301667:Unit:=()
def PySem.W.Fast.tw11190646310114431530:Unit:=()
def PySem.W.Fast.tw13461110577013075891:Unit:=()
def PySem.W.Fast.tw16529977661939510343:Unit:=()
def PySem.W.Fast.tw9848182971242210981:Unit:=()
def PySem.W.Fast.tw11113059486475054754:Unit:=()
def PySem.W.Fast.tw324219448740381258:Unit:=()
def PySem.W.Fast.tw14653323275642728930:Unit:=()
def PySem.W.Fast.tw17313843090786361792:Unit:=()
def PySem.W.Fast.tw11703247237734976078:Unit:=()
def PySem.W.Fast.tw5547526830108027963:Unit:=()
def PySem.W.Fast.tw18116454952171714190:Unit:=()
def PySem.W.Fast.tw15364376574313659540:Unit:=()
def PySem.W.Fast.tw1844816791948118926:Unit:=()
def PySem.W.Fast.tw14255315325814488603:Unit:=()
def PySem.W.Fast.tw6328462893834275450:Unit:=()
def PySem.W.Fast.tw15548231856582054025:Unit:=()
def PySem.W.Fast.tw14038650381478980314:Unit:=()
def PySem.W.Fast.tw7130466999453247269:Unit:=()
def PySem.W.Fast.tw7133359748209413026:Unit:=()
def PySem.W.Fast.tw8217156395183279426:Unit:=()
def PySem.W.Fast.tw6591096747204080846:Unit:=()
def PySem.W.Fast.tw1487903391550950503:Unit:=()
def PySem.W.Fast.tw8260481969668280498:Unit:=()
def PySem.W.Fast.tw14983120193868265333:Unit:=()
def PySem.W.Fast.tw15310276846791890078:Unit:=()
def PySem.W.Fast.tw7127134098872716979:Unit:=()
def PySem.W.Fast.tw14515074267646155347:Unit:=()
def PySem.W.Fast.tw16010758213068142560:Unit:=()
def PySem.W.Fast.tw9727441984823605390:Unit:=()
def PySem.W.Fast.tw11594973113516270057:Unit:=()
def PySem.W.Fast.tw2547584275305928755:Unit:=()
def PySem.W.Fast.tw8919531335023051156:Unit:=()
def PySem.W.Fast.tw16094536079495261597:Unit:=()
def PySem.W.Fast.tw18091624794195109483:Unit:=()
def PySem.W.Fast.tw14337178362978417344:Unit:=()
def PySem.W.Fast.tw1862186788063390974:Unit:=()
def PySem.W.Fast.tw17472123379308807506:Unit:=()
def PySem.W.Fast.tw2814656789110916657:Unit:=()
def PySem.W.Fast.tw15507536166064583338:Unit:=()
def PySem.W.Fast.tw6048264694794619187:Unit:=()
def PySem.W.Fast.tw17496003356228516450:Unit:=()
def PySem.W.Fast.tw16937604946843238758:Unit:=()
def PySem.W.Fast.tw12747600516423896888:Unit:=()
def PySem.W.Fast.tw12927901277157838582:Unit:=()
def PySem.W.Fast.tw2459389314766543855:Unit:=()
def PySem.W.Fast.tw14588153123047370515:Unit:=()
def PySem.W.Fast.tw14226378553606704646:Unit:=()
def PySem.W.Fast.tw4034949541009369019:Unit:=()
def PySem.W.Fast.tw17347964323736757738:Unit:=()
def PySem.W.Fast.tw14139727611033076260:Unit:=()
def PySem.W.Fast.tw20674034903620535:Unit:=()
def PySem.W.Fast.tw13662522889050274519:Unit:=()
def PySem.W.Fast.tw8772200871830963514:Unit:=()
def PySem.W.Fast.tw10589475876168953252:Unit:=()
def PySem.W.Fast.tw716188346365571937:Unit:=()
def PySem.W.Fast.tw8809137436333311682:Unit:=()
def PySem.W.Fast.tw5585111463599914227:Unit:=()
def PySem.W.Fast.tw14712568341441528906:Unit:=()
def PySem.W.Fast.tw1191606971478983919:Unit:=()
def PySem.W.Fast.tw1988738914569049151:Unit:=()
def PySem.W.Fast.tw8827438024306165375:Unit:=()
def PySem.W.Fast.tw17320860715053292774:Unit:=()
def PySem.W.Fast.tw14136650331915314935:Unit:=()
def PySem.W.Fast.tw5179860221040148109:Unit:=()
def PySem.W.Fast.tw13364633791253587024:Unit:=()
def PySem.W.Fast.tw11666862335943642787:Unit:=()
def PySem.W.Fast.tw12479955712915600806:Unit:=()
def PySem.W.Fast.tw951773431989396472:Unit:=()
def PySem.W.Fast.tw5151005425319797101:Unit:=()
def PySem.W.Fast.tw17695139033259696176:Unit:=()
def PySem.W.Fast.tw7835490668239890179:Unit:=()
def PySem.W.Fast.tw2000856748186968047:Unit:=()
def Pw{P:List α->Prop}(f:∀x,P [x]):∀l:List α,l.length=1->P l
 |[x],_=>f x
def Pj{P:List α->Prop}(f:∀x y,P [x,y]):∀l:List α,l.length=2->P l
 |[x,y],_=>f x y
def Pu{P:List α->Prop}(f:∀x y z,P [x,y,z]):∀l:List α,l.length=3->P l
 |[x,y,z],_=>f x y z
def Px{P:List α->Prop}(f:∀x y z w,P [x,y,z,w]):∀l:List α,l.length=4->P l
 |[x,y,z,w],_=>f x y z w
open PySem PySem.W PyProof.Rows
set_option maxRecDepth 100000 in
theorem PySem.Challenge.cw_shredjoin_k82_whole_of_a_line_holds : PySem.Challenge.rw_shredjoin_k82_whole_of_a_line.Holds := by
 w_on; o_law; k_head; (case hw => w_witness2)
 k_fill
 refine Sh.walk (l := PySem.Challenge.rw_shredjoin_k82_whole_of_a_line) rfl rfl (fun w h Y => PySem.W.kIn_of Y) ?F
 case F =>
  intro w mg fa h KX G hmg
  refine' Sh.all_mk KX G hmg ?B ?cH ?cP ?Lm ?Tb ?I0 ?M1 ?M2 ?M3 ?M4 ?M5 ?M6 ?M7 ?D0 ?D1 ?D2 ?D3 ?D4 ?D5 ?D6 ?D7 ?D8 ?D9 ?D10 ?D11 ?D12 ?D13 ?D14 ?D15 ?D16 ?D17 ?D18 ?D19 ?D20 ?D21 ?D22 ?D23 ?D24 ?D25 ?D26 ?D27 ?D28 ?D29 ?D30 ?D31 ?D32 ?D33 ?D34 ?D35 ?D36 ?D37 ?D38 ?D39 ?D40 ?D41 ?D42 ?D43 ?D44 ?D45 ?D46 ?D47 ?D48 ?D49 ?D50 ?D51 ?D52 ?D53 ?D54 ?D55 ?D56 ?D57 ?D58 ?D59 ?D60 ?D61 ?D62 ?a0 ?l0 ?c0 ?k0
  case B =>
   refine' Sh.blt_mk KX G ?z0 ?z1 ?z2 ?z3 ?z4 ?z5 ?z6 ?z7 ?z8 ?z9 ?z10 ?z11 ?z12 ?z13 ?z14 ?z15 ?z16 ?z17 ?cc0 ?ee0 ?cc1 ?ee1
   (case z0 => k_is); (case z1 => k_is); (case z2 => k_is); (case z3 => k_is); (case z4 => k_is); (case z5 => k_is); (case z6 => k_is); (case z7 => k_is); (case z8 => k_is); (case z9 => k_is); (case z10 => k_is); (case z11 => k_is); (case z12 => k_is); (case z13 => k_is); (case z14 => k_is); (case z15 => k_is); (case z16 => k_is); (case z17 => k_is); (case cc0 => k_is); (case ee0 => exact ⟨_, rfl⟩); (case cc1 => k_is); (case ee1 => exact ⟨_, rfl⟩)
  case cH =>
   refine' L2.xcls_mk (PySem.W.mg_of KX G ?xt1) ?xq1
   (case xt1 => k_is); (case xq1 => k_exc)
  case cP =>
   refine' L2.xcls_mk (PySem.W.mg_of KX G ?xt2) ?xq2
   (case xt2 => k_is); (case xq2 => k_exc)
  case Lm =>
   refine' Sh.ln_mk KX G ?lc0 ?le0 ?lc1 ?le1
   (case lc0 => k_is); (case le0 => exact ⟨_, rfl⟩); (case lc1 => k_is); (case le1 => exact ⟨_, rfl⟩)
  case Tb =>
   refine' Sh.bg_mk KX G ?aC ?pg ?hd ?po ?sa ?nL ?nM
   (case aC => k_is); (case pg => k_is); (case hd => k_is); (case po => k_is); (case sa => k_is); (case nL => k_is); (case nM => k_is)
  case I0 =>
   refine' Sh.hasI_mk ?mk ?kc ?a ?i ?l ?c ?b
   (case mk => k_is); (case kc => k_is); (case a => k_is); (case i => k_is); (case l => k_is); (case c => k_is)
   case b => exact Pj fun _ _=>rfl
  case M1 =>
   refine' Sh.hasM_mk ?a ?i ?l ?c ?k ?b
   (case a => k_is); (case i => k_is); (case l => k_is); (case c => k_is); (case k => k_is)
   case b => exact Pu fun _ _ _=>rfl
  case M4 | M5 | M6 | M7 =>
   refine' Sh.hasM_mk ?a ?i ?l ?c ?k ?b
   (case a => k_is); (case i => k_is); (case l => k_is); (case c => k_is); (case k => k_is)
   case b => exact Pw fun _=>rfl
  case M2 =>
   refine' Sh.hasPut ?a ?i ?l ?c ?k ?lt
   (case a => k_is); (case i => k_is); (case l => k_is); (case c => k_is); (case k => k_is); (case lt => k_is)
  case M3 =>
   refine' Sh.hasTake ?a ?i ?l ?c ?k ?lt
   (case a => k_is); (case i => k_is); (case l => k_is); (case c => k_is); (case k => k_is); (case lt => k_is)
  case D0 | D1 | D2 | D3 | D5 | D6 | D7 | D9 | D11 | D12 | D13 | D14 | D15 | D19 | D20 | D21 | D25 | D27 | D29 | D30 | D31 | D32 | D33 | D34 | D35 | D36 | D37 | D38 | D39 | D40 | D41 | D42 | D44 | D45 | D46 | D47 | D54 | D55 | D57 | D58 =>
   refine' L2.hasDef_mk KX G ?a ?l ?c ?k ?b
   (case a => k_is); (case l => k_is); (case c => k_is); (case k => k_is)
   case b => exact fun _ _ _ _ _ _=>Pw fun _=>rfl
  case D4 | D8 | D17 | D18 | D22 | D23 | D24 | D26 | D28 | D43 | D48 | D49 | D50 | D52 | D53 | D56 | D59 | D60 | D61 =>
   refine' L2.hasDef_mk KX G ?a ?l ?c ?k ?b
   (case a => k_is); (case l => k_is); (case c => k_is); (case k => k_is)
   case b => exact fun _ _ _ _ _ _=>Pj fun _ _=>rfl
  case D10 | D16 | D51 =>
   refine' L2.hasDef_mk KX G ?a ?l ?c ?k ?b
   (case a => k_is); (case l => k_is); (case c => k_is); (case k => k_is)
   case b => exact fun _ _ _ _ _ _=>Pu fun _ _ _=>rfl
  case D62 =>
   refine' L2.hasDef_mk KX G ?a ?l ?c ?k ?b
   (case a => k_is); (case l => k_is); (case c => k_is); (case k => k_is)
   case b => exact fun _ _ _ _ _ _=>Px fun _ _ _ _=>rfl
  (case a0 => k_is); (case l0 => k_is); (case c0 => k_is); (case k0 => k_is)
#print axioms PySem.Challenge.cw_shredjoin_k82_whole_of_a_line_holds
