import PyProof.Rows.All
import Wide.All
import OpenK.AllK
import PySem.Challenge.RW_shredjoin_k73_filled_of_texts
open List renaming getElem?_eq_getElem->Qa,getD_eq_getElem?_getD->Qb,length_map->Qd,length_append->Qh,getElem?_map->Qi,mem_cons_self->Qj,mem_cons_of_mem->Qk,getElem?_eq_some_iff->Ql,mem_singleton->Qo,getElem?_eq_none->Qp,replicate->Qq,mem_range->Qr,mem_cons->Qs,range->Qu,length_singleton->Qx,getElem?_append_right->Qy,size_toArray->Qz,getElem?_append_left->QA,length_cons->QC,mem_append->QD,length_take->QE,mem_append_right->QF,getElem_mem->QG,append_assoc->QH,mem_append_left->QI,map_append->QJ,take_succ_eq_append_getElem->QN,mem_map->QP,pairwise_append->QS,nodup_cons->QU,map_cons->QV,ext_getElem?->QW,length_range->QX,getElem?_range->QY,take_of_length_le->QZ,map_map->Q0,mem_filter->Q2,mem_of_getElem?->Q3,not_mem_nil->Q4,take_length->Q5,length_eq_zero_iff->Q7,map_congr_left->Q8,pairwise_iff_getElem->Q9,length_drop->Wa,sum_cons->Wb,take_append_drop->Wd,filter_cons->Wf,nodup_range->Wh,length_erase_of_mem->Wi,length_replicate->Wj,map_singleton->Wm,length_pos_of_mem->Wq,pairwise_map->Wr,getElem?_replicate->Wt,mem_of_mem_take->Wu,nodup_append->Wx,getElem?_eq_none_iff->Wy,range_succ->Wz,eq_nil_or_concat->WA,lookup_cons->WB,append_nil->WC,getElem_of_mem->WE,dropLast_eq_take->WG,concat_eq_append->WH,mem_of_mem_drop->WM,filter_append->WQ,mem_replicate->WR,mem_erase_of_ne->WT,find?_cons->WU,sum_append->WV,count_pos_iff->WW,pairwise_lt_range->WY,filter_eq_nil_iff->WZ,count_eq_zero_of_not_mem->Ua,reverse_perm->Uc,count_append->Ud,lt_irrefl->Ue,perm_append_comm->Uf,drop_drop->Ug,nodup_nil->Uh,countP_eq_length_filter->Ui,getElem_inj->Uj,length_dropLast->Uk,length_reverse->Ul,count_cons->Uo,nil_append->Uq,map_replicate->Ut,take_zero->Uu,lookup->Ux,all_eq_true->UA,mem_reverse->UB,mem_flatMap->UC,length_filter_le->UD,mem_of_mem_erase->UE,perm_cons_erase->UF,count_replicate->UG,dropLast_concat->UI,filterMap_cons->UK,range'->UO,mem_filterMap->UP,reverse_cons->UW,getElem?_take_of_lt->UY,idxOf?_eq_some_iff->U0,of_mem_zip->U1,length_nil->U2,foldl_cons->U3,getElem?_set_self->U4,not_lt->U6,drop_zero->U8,getElem?_set_ne->Ra,length_eraseIdx->Rb,count_le_length->Rc,any_cons->Re,take_add->Rh,replicate_succ->Ri,mem_map_of_mem->Rk,pairwise_cons->Rn,flatten_cons->Rp,take_add_one->Rq,filter_congr->Rr,length->Rs,cons_ne_nil->Rw,count_erase->Ry,foldl->Rz,take_take->RD,drop_take->RF,lt_trans->RG,sum_nil->RI,map->LK,Perm->L9
open Nat renaming le_refl->Qg,ne_of_lt->QB,le_trans->QK,lt_of_lt_of_le->QL,zero_le->QQ,lt_irrefl->Q6,lt_or_ge->Wn,not_lt_zero->Wo,sub_self->Wv,le_of_lt->WK,lt_of_le_of_lt->WP,lt_trichotomy->WS,lt_succ_of_lt->Ub,ne_of_gt->Ur,add_sub_cancel_left->Uv,lt_succ_self->Uz,le_succ->UM,add_sub_cancel->UR,le_succ_of_le->UU,not_lt->UX,le_add_right->UZ,mul_le_mul->U7,add_assoc->Rg,zero_add->Rl,add_zero->Rm,le_of_not_lt->Ru,min_eq_left->RA,le_of_eq->Lq,succ_pos->Lu,add_mul->LP,mul_pos->LQ,mod_lt->LY
open Int renaming toNat_natCast->Wc,zero_add->UH,natCast_add->UJ,add_mul->UN,le_refl->U5,toNat_of_nonneg->Rj,natCast_mul->RB,mul_nonneg->RE,one_mul->LH
open Array renaming length_toList->Qw,getElem?_eq_getElem->QR,getElem?_toList->QT,getD_eq_getD_getElem?->Ws,perm_iff_toList_perm->Ww,size_push->WD,getElem?_eq_none->WX,size_append->Uw,getElem?_extract->Uy,toList_setIfInBounds->US,toList_push->UV,size_extract->Ro,toList_inj->Rv
open Option renaming map_some->We,map_eq_some_iff->Wp,isSome_iff_exists->WL,getD_some->WN,none_or->UL,isSome_some->UQ,isSome_map->UT,getD_none->Rt,bind_some->Rx,some_or->RC,none->LG
open PySem.Heap renaming get?_push_of_some->Qc,get?_push_size->Qm,lt_size->Qn,get?_update_other->QM,get?_update_self->Wl,size_push->WF,get?_none_of_le->U9,SameBut->VY
open Bool renaming false_ne_true->QO,and_eq_true->Wg,eq_iff_iff->Um,false_eq_true->Us,or_false->Rf,true_and->RH
open PySem renaming wpAny_bind->Oa,wpAny_pure->Ob,model->Oc,sizeLine->Of,wpAny->Og,Program->Oh,World->Oi,starEach->Oj,mainGlobals->Ol,wpAny_holding->Om,bootBuiltins->On,wpAny_mono->Oo,sizeLine_eq->Op,codeAny_builtin->Os,wpAny_call_entry->Ot,wpAny_setField_rec->Ou,wpAny_newObj_type->Ov,plainId_quiet->Ow,backTo->Ox,compareOp->Oy,wpAny_askSetting->Oz,rawInt->OA,codeAny->OB,attributeBase->OC,wpAny_Call_Name_kw->OD,sysModules->OE,wpAny_updateSeq->OF,wpAny_truthy_bool->OG,wpAny_attempt->OH,assignEach->OJ,codeAny_mono->OL,wpAny_passesOwn->OM,keywordEach->ON,wpAny_of_eq->OO,wpAny_seqItems->OP,wpAny_Call_method0_late->OQ,wpAny_getItem_str_slice->OR,behindInMarks->OS,tupleKind_room_in1->OT,binaryOp->OV,wpAny_field->OX,cLine->OY,wpAny_tryCatch->OZ,wpAny_isInstance->O0,wpAny_standAt->O3,relabel->O5,backToKw->O6,FuncData->O7,call_meetsIn->O8,holding->Ga,wpAny_pyIter_list->Gb,foldedSetIterable->Gc,getMethod->Gf,cellsFrom->Gg,wpAny_execs_nil->Gi,letOwnedTupleGo->Gj,wpAny_specialOf->Gk,typeIs_str->Gm,call_meets->Gn,post_val_or_str->Go,wpAny_rule->Gp,IsPair->Gq,wpAny_ite_false->Gr,getItem->Gs,recursionLimit->Gu,newFunctionEnv->Gv,relayAll->Gw,setField->Gx,isSubtype_stop->Gy,subscripted->Gz,sliceBounds->GA,swapsWith->GB,pyNext->GC,wpAny_newList->GD,builtinsNs->GE,wpAny_Name->GF,standAt->GI,valueAt->GJ,callerA->GK,pyIter->GL,callWith->GM,Result->GN,bindArgs->GO,wpAny_typeOf->GP,tupleKind->GQ,Arguments->GR,scanBound->GS,wpAny_letGo->GT,BindsTo->GU,Keyword->GV,wpAny_load->GX,wpAny_call->GY,atKey->GZ,typeLookup->G0,closureFor->G1,ZipApart->G2,pushCells->G3,bindL->G4,bindC->G5,compEnvC->G7,assign->G8,InLong->G9,setItem->Va,operate->Vb,collect->Vc,Shared->Vh,Value->Vi,Addr->Vk,Str->Vl,Heap->Vz,Around->VA,wpAny_callSpecial?_slot->VD,mem_of_lookup->VH,eval->VQ,Stmt->V7,Builtin->Nc,Obj->Nd,pickOrder->Nn,evalArgs_none->Nq,wpAny_comprehension_free->Nu,wpAny_assign_Name->NZ,wpAny_getItem_list_slice->N1,wpAny_pyNext_range_end->Mc,wpAny_pyIter_rangeiter->Md,codeAny_compStart_list->Mh,wpAny_nextOf_list_item->Ml,codeAny_of_tree->Mr,wpAny_ite_split->Ms,wpAny_isTrue_Compare1->Mu,exec_Assign_Name_used->Mw,Pos->MA,wpAny_loadName_local->MB,wpAny_newFunctionEnv->MD,wpAny_newTuple->ME,wpAny_runValue->MH,wpAny_ite_true->MJ,wpAny_loadName_free->MN,wpAny_setEntries_of->MR,Sem->MT,Paired->MZ,wpAny_pyIter_range->M0,PyData->RJ,Within->RL,wpAny_Call_method->RO,seqIndex_neg->RP,SetTable->RW,wpAny_storeSet_of->RX,fits_of_scanBound->RY,wpAny_setState_of->RZ,wpAny_pyIter_slot->R0,wpAny_pyIter_enum->R4,wpAny_eqBool_str->R6,wpAny_execs_cons->R7,meets_dict_items->Tc,DictEntry->Te,seqIndex_of->Th,typeIs_int->Tv,call->Tx,NameKind->Tz,entryFor_alias->TL,IsItemIter->TN,seqItems?->Lp,ItemsOf->Ls,entryFor->LM,raiseNew->LN,Walks->LO,layNew->LX,Env->L8
open PyProof.Rows renaming arrOf->Od,Keyed->Oe,pendingOf->Oq,failedOf->OI,elem'->OK,mirror->OU,SortKind->OW,envOfC->O4,AllBare->O9,seqObj->Gd,reverseSlice'->Ge,StrsAre->Gh,Subscript_->GG,setPending->GH,setArr->GW,IntsAre->G6,SortSt->Vv,kindOf->VE,callWith_type1->VJ,subscriptTail_builtinR->Mg,entry_list_sort->Mq,slot_list_sort->MF,args_list_sort->MG,getElem?_mirror_all->MO,listUpdate_at->MV,plain_sorted->RT,entry_sorted->RU,args_sorted1->RV,callWith_builtin1->R9,slice_closes_toL->Ta,seqEpoch_at->Ti,kind_sorted->Tj,getElem?_bubble->To,get?_update_seq->Tp,tail_any->LF,oneType'->LJ,ltAt'->L3
open _root_ renaming List->Vd,if_pos->Vf,Nat->Vg,Option->Vj,Array->Vm,absurd->Vo,decide_eq_false->Vp,decide_eq_true->Vq,Int->Vs,Unit->VB,decide_eq_true_eq->VL,congrArg->VR,ForInStep->VT,Bool->V0,of_decide_eq_true->V4,StateT->V6,String->Ny,decide_eq_true_iff->NW,not_or->Mi,if_false->MC,if_true->ML,True->RK,bne_self_eq_false->RS,DecidableEq->Tf,dif_pos->Tt,beq_iff_eq->TM,Decidable->Ll
open PySem.W renaming Frag->Ve,mg_none_of->Vt,nsIn->Vw,findIn->Vx,fnOf->VC,kia_one->VN,keepIn->VS,codeIn->V2,instObj->V5,emptyDict->Nb,plainGet->Nm,hideAll->Nw,hasDictIn->Nz,plainGet_of->NL,isFn->NM,of_hideAll->NP,lookIn->NR,callWith_K->NS,plainOver->N0,mg_of->N3,codeHdIn->Mb,cellsFrom_some->Me,takerIn->Mo,makesIn->Mp,OpenLaw->Mt,methodCall_KW->Mv,CodeHd->MI,hideAll_get->MM,excIn->MU,kitx_list->RM,kitx_dict->RN,kdx_alive->R5,handedIn->R8,kitOne->Tu,tabObj->TQ,WalkO->Lk
open Sum renaming inr->Vn,inl->Tr
open PySem.PassesOwn renaming never->Vr
open Option.some renaming inj->Vu,injEq->RQ
open Ne renaming symm->Vy
open True renaming intro->VF
open PySem.Txt renaming slice->VG,join->NT,startswith->NV,mul->Lr
open PySem.Value renaming none->VI,type->VM,int->Nl,bool->MY,isStrOf->T7,isInt->Ly,str->L7
open PySem.Calls renaming callWith_builtin->VO,spliced_cons->V8,evalArgs_plain->Ni,call_function_entry->Np,spliced_nil->NA,Name_function_global->NQ
open Classical renaming byContradiction->VP,choose->Td
open PySem.NameKind renaming cell->VU,free->VZ
open PySem.PyData renaming canLayAll0->VW,depthAll->Na,str->Mm,depth->Mn,canLay0->MK,eqv->TC,strOk->Lw,tuple->Lx
open PySem.Obj renaming mapSeq->VX,putSet->TH
open PySem.F renaming plainAttrs_dict->V3,slot_dict_items->Ng,slot_dict_get->NF,slot_dict_setdefault->NK,excBase_ValueError->NU,args_dict_items_1->NX,plain_extend_loop->NY,entry_dict_items->N2,slot_dict_values->N6,args_dict_get_3->N9,type_dict_items->Ma,entry_dict_get->Mf,slot_set_iter->Mz
open Break.runK renaming match_1->V9
open PySem.Builtin.List renaming listSameRef->Nf,listTooLong->Nt,listLengthHint->NN,listExtendWith->NO,listFitsIndex->Tw
open PySem.SeqAt renaming shaped->Nh,EqAt->LU
open PySem.SetTable renaming below->Nj,grown->NC
open PySem.Around renaming under_plainId->Nk
open PyProof.Rows.F renaming entry_set_update_loop->Nr,plain_set_update_loop->MQ
open List.Pairwise renaming imp_of_mem->Nv,nil->L0,and->L5
open LawfulBEq renaming eq_of_beq->Nx
open PySem.Str renaming join->NB,ofString->R1,length->LV
open List.Perm renaming refl->ND,append_left->My,trans->Tn
open False renaming elim->NG
open ForInStep renaming yield->NH
open Array.Perm renaming refl->NI
open PySem.Builtin.Frozenset renaming sizeOf->N4,updateFrom->Tq,newClass->TK
open PySem.pickOrder renaming go->Mj
open PySem.Paired renaming length->MS,snoc->LD
open PySem.SeqAt.EqAt renaming int_str->MW,str_int->MX,int_int->M9
open PySem.EqNone renaming eq_none_none->TR,eq_none_bool->TU,eq_bool_none->TV,ne_none_none->TZ,ne_none_bool->T2,ne_bool_none->T4,eq_none_int->T8,eq_none_str->T9,eq_int_none->La,eq_str_none->Lc,ne_none_int->Le,ne_none_str->Lf,ne_int_none->Lg,ne_str_none->Li
open PySem.EqMixed renaming eq_bool_str->TX,eq_str_bool->TY,ne_bool_str->T5,ne_str_bool->T6,eq_int_str->Lb,eq_str_int->Ld,ne_int_str->Lh,ne_str_int->Lj
noncomputable section
set_option maxHeartbeats 0
set_option compiler.extract_closed false
set_option Elab.async false
set_option linter.all false
set_option maxRecDepth 100000
section
variable{a b c d e f g h i j k l m:Nat}{x y z w u v t s r q p o n:Int}
def Ka:a<=a+b:=Nat.le_add_right a b
def Kb:a<=c->a+b<=c+b:=fun A=>Nat.add_le_add_right A b
def Kc:c=b->a<c->a<b:=by omega
def Kd:c<=b->c=a->a<=b:=fun A B=>le_of_eq_of_le B.symm A
def Ke:a<=c->a-b<=c:=by omega
def Kf:¬(b<a)->a<=b:=Nat.le_of_not_lt
def Kg:c=a->¬(b<c)->a<=b:=by omega
def Kh:a<=b->a<=b+c:=Nat.le_add_right_of_le
def Ki:a<b->¬(a+1=b)->a+1<b:=Nat.lt_of_le_of_ne
def Kj:b<=a->a=b+(a-b):=fun A=>Eq.symm (Nat.add_sub_of_le A)
def Kk:¬(a=0)->1<=a:=Nat.one_le_iff_ne_zero.mpr
def Kl:a+c<=b->a<=b:=Nat.le_of_add_right_le
def Km:c<=b->a<=c->a<=b:=fun A B=>Nat.le_trans B A
def Kn:a<=0->a=0:=Nat.eq_zero_of_le_zero
def Ko:0<=a:=Nat.zero_le a
def Kq:b=1->a<b->a=0:=by omega
def Kr:a=1->0<a:=by omega
def Ks:0<1:=by omega
def Kt:a=c->b=c->a<=b:=by omega
def Ku:a<=b-1->c<b->a=b->False:=by omega
def Kv:b<a->a-(b+1)<a-b:=fun A=>Nat.sub_succ_lt_self a b A
def Kw:a<=b->¬(a<b)->a=b:=by omega
def Kx:c<=b->d<c->a=d->a<b:=by omega
def Ky:c<=b->a+d<=c->a<=b:=by omega
def Kz:(y<=x/\x<=1000)->1*x.toNat<=1000:=by omega
def K4:b<=301->a<=2*b->a<=1000:=by omega
def K5:b<=2*c->a=b->c<=301->a<=1000:=by omega
def K6:a<=100->b<=100*c->a+b<=100*(c+1):=by omega
def K7:a<a->False:=by omega
def K8:a<b->a=b->False:=by omega
def K9:a<a+1:=Nat.lt_add_one a
def Xo:a<b->a<b+c:=fun A=>Nat.lt_add_right c A
def Tk:a<b+1->¬(a=b)->a<b:=by omega
def Tl:a<=990->a<1000:=by omega
def Tm:a<b->a≠b:=Nat.ne_of_lt
def Ty:b<=a->a=a-b+b:=fun A=>(Nat.sub_eq_iff_eq_add A).mp rfl
def Sa:x+0=x:=Int.add_zero x
def Sb:0<26:=Nat.zero_lt_succ 25
def Sc:a<=b+a:=Nat.le_add_left a b
def Sd:a<=63->a<=1000:=by omega
def Se:(x<=z/\z<w)->2+z=y->x<y:=by omega
def Sf:c=b->a=c->a=b:=by omega
def Sg:b<=200->c<=d->e=b-d+c->a<=e->d<=b->a<=1000:=by omega
def Si:b<a->0<(a:Int):=by omega
def Sj:a<=200->1*(a-b+1)<=260:=by omega
def Sk:a<=200->a<=1000:=by omega
def Sl:1<=a->0<=(a:Int)-1:=by omega
def Sm:b<=6->a-b+c<=64->a<=1000:=by omega
def Sn:a<=6->a<=100:=by omega
def So:b<=6->a-b+c<=64->a<=300:=by omega
def Sq:(x<=(a:Int)/\(a:Int)<(c:Int)-(b:Int)+1)->a+b<=c:=by omega
def Ss:0<=(a:Int):=Int.natCast_nonneg a
def Su:c<b->a<=c->a<b:=fun A B=>Nat.lt_of_le_of_lt B A
def Sw:c<b->a<c->a<b:=fun A B=>Nat.lt_trans B A
def Sx:a<=b->b<=a->a=b:=Nat.le_antisymm
def Sy:a<=a:=by omega
def Sz:a+c<b->a<b:=Nat.lt_of_add_right_lt
def S6:a<b->a+(b-a)<=b:=by omega
def S7:b<a->0<a-b:=Nat.zero_lt_sub_of_lt
def S8:¬(0<a)->a=0:=Nat.eq_zero_of_not_pos
def S9:a+c<=b->0+a<=b:=by omega
def No:a<=b->¬(0<b-a)->a=b:=by omega
def N5:(a<=c/\c<b)->a<=a+b-1-c:=by omega
def N7:(a<=c/\c<b)->a+b-1-c<b:=by omega
def N8:0<a+1:=Nat.zero_lt_succ a
def Mx:a<b->b-(0+1)<=a->a=b-1:=fun h k=>Nat.le_antisymm (Nat.le_pred_of_lt h) k
def M8:c<=b->a<(max c b)->a<b:=by omega
def Bb:a+d<=e->b<d->c=e->a+b<c:=by omega
def Bc:a<c->a-b<c:=Nat.sub_lt_of_lt
def Bd:a<b+(c+1)->b+c<=a->a=b+c:=fun A B=>Nat.eq_of_le_of_lt_succ B A
def Be:a<b->a<=b-1:=Nat.le_sub_one_of_lt
def Bh:b<a->a-1<a:=Nat.sub_one_lt_of_lt
def Bi:c<=b->a<c->a<=b:=by omega
def Bj:c<b->a<=a+b-(c+1):=by omega
def Bk:a<b->a<=b:=Nat.le_of_succ_le
def Bl:a+(b+c)-c=a+b:=by rw[←Nat.add_assoc,Nat.add_sub_cancel]
def Bm:a+d<=e->b<=d->c=e->a+b<=c:=by omega
def Bn:a<=c->¬(b<c)->a<=b:=by omega
def Bo:a<=c->a<=b+c:=Nat.le_add_left_of_le
def Bp:a<=c->b=c->a<=b:=fun A B=>le_of_le_of_eq A B.symm
def Bq:1<=a->0<a:=by omega
def Br:a<=b->b-a=0->a=b:=by omega
def Bs:a+c+d<=b->a<=b:=by omega
def Bt:a+b+c<=d->a+(b+c)<=d:=by omega
def Bu:1<=a->a-1<a:=by omega
def Bv:¬(a=0)->0<a:=Nat.zero_lt_of_ne_zero
def Bw:a+c+e<=d->b<c->a+b+(c-b)<=d:=by omega
def Bx:b<=c->a+b<=a+c:=Nat.add_le_add_iff_left.mpr
def By:a+d<=c->b<=d->a+b<=c:=by omega
def Bz:a<b->a+(b-a)=b:=by omega
def B8:a<=b->a+(b-a)=b:=Nat.add_sub_of_le
def B9:a<c->b=c->a<b:=fun A B=>Nat.lt_of_lt_of_eq A B.symm
def Da:x+(y+z)=y+(x+z):=Int.add_left_comm x y z
def Db:z=y->x=z->x=y:=by omega
def Dc:c<b->a<=b-1->a+1<=b:=by omega
def Dd:x<=x+(a:Int):=Int.le.intro a rfl
def De:a=b->a<=b+c:=fun A=>Nat.le.intro (congrFun (congrArg HAdd.hAdd A) c)
def Df:a=c->b<c->¬(a<=b):=by omega
def Dg:¬(y<x)->x<=y:=Int.not_lt.mp
def Dh:c<=b->a<c->a<b:=fun A B=>Nat.lt_of_lt_of_le B A
def Di:a<b->(a:Int)<(b:Int):=Int.ofNat_lt.mpr
def Dj:a=c->b=c->a=b:=by omega
def Dk:c<=b->a=c->a<=b:=fun A B=>le_of_eq_of_le B A
def Dm:¬(a<b)->¬((a:Int)<(b:Int)):=by omega
def Dn:0<x->0<(-x)->False:=by omega
def Do:d=b->a<d->a<b+c:=by omega
def Dp:a<d->b=d->a<b+c:=by omega
def Dq:a=b->a<b+1:=by omega
def Dr:0<2:=Nat.zero_lt_two
def Ds:1<2:=Nat.one_lt_two
def Dt:a<2->(a=0\/a=1):=by omega
def Du:a+3*(c+b)+d<e->a+b+3*c+d<e:=by omega
def Dv:¬(y<=x)->x<y:=Int.lt_of_not_ge
def Dw:d+e<=c->d=a->e=b->a+b<=c:=by omega
def Dx:y<x->x≠y:=fun A=>Ne.symm (Int.ne_of_lt A)
def Dy:a+c<b->a+(b-a)<=b:=by omega
def Dz:2<=a->a=a-1+1:=by omega
def Ea:a<=b->0+a<=b:=by omega
def Eb:a+d<=c->b<d->a+b<c:=by omega
def Ec:a<=b->¬(a=b)->a<b:=Nat.lt_of_le_of_ne
def Ed:c<b->a=c->a<b:=fun A B=>lt_of_eq_of_lt B A
def Ee:0+1+1+1+1+1<=16777216+a:=by omega
def Eg:(-((a+1:Nat):Int))<=(-1):=Rat.intCast_le_intCast.mp rfl
def Eh:((-1)+((a+1:Nat):Int)).toNat=a:=by omega
def Ei:a<=1000->a<=16777216:=by omega
def Ej:a<b+1->¬(a<b)->a=b:=Nat.eq_of_lt_succ_of_not_lt
def Ek:b=a->a<=b:=by omega
def El:a+b=b+1*a:=by omega
def Em:y<=x->¬(x<y):=Int.not_lt_of_ge
def En:c<b->a<=c+1->a<=b:=fun A B=>Nat.le_trans B A
def Eo:a<b+1->a<=b:=Nat.le_of_lt_succ
def Ep:a<=b->b-a<=c-(max d c)->a=b:=fun h k=>Nat.le_antisymm h (Nat.le_of_sub_eq_zero (Nat.le_zero.1 (Nat.sub_eq_zero_of_le (Nat.le_max_right d c)▸k)))
def Et:c<b->c=a->a<=b:=by omega
def Eu:a+b<=d->a+(b+c)<=d+c:=by omega
def Ev:a+(d+b)<=c->a+b<=c:=by omega
def Ew:¬(a=0)->1<=a+1-1:=Nat.one_le_iff_ne_zero.mpr
def Ex:2<=a+1->¬(a=1)->2<=a+1-1:=fun h k=>Nat.lt_of_le_of_ne (Nat.le_of_succ_le_succ h) (Ne.symm k)
def Ey:a<b->(min a b)=a:=by omega
def Ez:a<=b->b<a->False:=by omega
def E1:a-b<=a:=Nat.sub_le a b
def E2:c<=b->d=c->a=d->a<=b:=by omega
def E3:b<=301->a=b->a<=1000:=by omega
def E4:a<=301->a+a<=1000:=by omega
def E5:(¬(a=b)/\(¬(a=f)/\(¬(a=c)/\(¬(a=d)/\¬(a=e)))))->(a≠b/\(a≠c/\(a≠d/\a≠e))):=fun h=>⟨h.1,h.2.2⟩
def E6:0-x=(-x):=Int.zero_sub x
def E7:b<a->¬(a=b):=Nat.ne_of_lt'
def E8:a<=b->(min a b)=a:=Nat.min_eq_left
def E9:0<=x->0<=x-0:=by omega
def Fa:a+(c+1)=b->a<b:=by omega
def Fb:a+(c+b)=d->a+b+c=d:=by omega
def Fc:0+a<=a:=by omega
def Fd:a<2*a+1:=by omega
def Fe:a<=c->a+b<=2*c+b:=by omega
def Ff:a<=b->(a:Int)-(b:Int)<=0:=by omega
def Fg:a<=700->a<=1000:=by omega
def Fh:b<=2*(min c d)->a<=b+1->d<=301->a<=700:=by omega
def Fi:x<y->x<=y:=Int.le_of_lt
def Fj:a<c+1->b=c->¬(a<b)->a=b:=by omega
def Fk:a<=190->a<=1000:=by omega
def Fm:b<=100->a=b->a<=900:=by omega
def Fn:a<=100->a-b<=1000:=by omega
def Fo:d<b->a<d->a<b+c:=by omega
def Fp:c<=b->a=c-d->a<=b:=by omega
def Fq:a<=b+0->a<=b:=by omega
def Fr:¬(b<=a)->a<b:=by omega
def Fs:b<=300->c<=d->e=b-d+c->a<=e->d<=b->a<=1000:=by omega
def Ft:b<=100->a=b-c->a<=1000:=by omega
def Fu:((a:Int)-(b:Int)).toNat=a-b:=Int.toNat_sub a b
def Fv:a<=4->a<=16777216:=by omega
def Fw:a<=100->a<=500:=by omega
def Fx:b<=c->b=a->c=16777216->(a:Int)<9223372036854775808:=by omega
def Fy:(-(b:Int))<=x->b=a->(-(a:Int))<=x:=fun A B=>le_of_eq_of_le (congrArg Neg.neg (congrArg Nat.cast B.symm)) A
def Fz:a=b->a<=b:=Nat.le_of_eq
def F0:c+a<=b->(min a (b-c))=a:=by omega
def F1:d<=b->a<=d+c->a<=b+c:=by omega
def F2:x<=x:=Int.le_refl x
def F3:w<=y->x=w->z<=w->x-y+z<=w:=by omega
def F4:(b:Int)-1-(c:Int)=(d:Int)->e<=400->a<=c->b=e->a<=1000:=by omega
def F5:b=a+1->a<b:=by omega
def F7:b<=602->a<=b->a<=1000:=by omega
def F8:b<=602->c<=b->a<=c+1->a<=1000:=by omega
def F9:(max a b)+1<=c->c+d+e=b->False:=by omega
def Ha:c<d->a<c->b=d->a<b:=fun h k e=>e▸Nat.lt_trans k h
def Hb:a<=a-1->b<a->False:=by omega
def Hc:a+d+b<=c->a+b<=c:=by omega
def Hd:a<c-b+1->b<=c->a+b<=c:=by omega
def He:x<0->(max 0 (min (x+y) y))=(max (x+y) 0):=fun h=>by rw[Int.min_eq_left (Int.add_le_of_le_sub_right (by simp [Int.le_of_lt h])),Int.max_comm]
def Hf:(max 0 (min x (a:Int)))=(((min x.toNat a):Nat):Int):=by cases x<;>simp<;>omega
def Hg:c=d->a<c->b=d->a<b:=by omega
def Hh:¬(b<a)->¬(b=a)->a+1<=b:=by omega
end
namespace L2
open PySem PySem.Spec PyProof.Rows
abbrev Key:=Sum Vs Vl
noncomputable def JO:Key->Vi->V0
 | .inl k,v=>Ly k v
 | .inr x,v=>T7 x v
noncomputable def Zoo (w:Oi):Key->Vs
 | .inl k=>hashInt k
 | .inr x=>hashStr w x
theorem keyIs_shape:∀ {k} {v},JO k v=true->(∃ i t,k=Tr i/\v=Nl i t)\/(∃ x t,k=Vn x/\v=L7 x t)
 | .inl i,v,h=>by
  obtain⟨t,e⟩:=Value.isInt_shape h;exact .inl ⟨i,t,rfl,e⟩
 | .inr x,v,h=>by
  obtain⟨t,e⟩:=Value.isStrOf_shape h;exact .inr ⟨x,t,rfl,e⟩
theorem Zgy (i) (t):JO (.inl i) (.int i t)=true:=by simp[JO,Ly]
theorem Zgx (x) (t):JO (.inr x) (.str x t)=true:=by simp[JO,T7]
theorem Zmb (a b):decide ((Tr a:Key)=Tr b)=(a==b):=by
 by_cases e:a=b
 subst e;simp;rw[Vp (fun q=>e (Sum.inl.inj q))];exact(beq_eq_false_iff_ne.mpr e).symm
theorem Zl8 (a b):decide ((Vn a:Key)=Vn b)=decide (a=b):=by
 simp
theorem Zma (a:Vs) (b:Vl):decide ((Tr a)=Vn b)=false:=Vp fun q=>nomatch q
theorem Zl9 (a:Vl) (b:Vs):decide ((Vn a)=Tr b)=false:=Vp fun q=>nomatch q
noncomputable def Zs (prog:Oh) (w:Oi):PySem.KeyKind prog w Key where
 is:=JO
 hash:=Zoo w
 inj:=fun v a b ha hb=>by
  rcases keyIs_shape ha with ⟨i,t,rfl,rfl⟩ | ⟨x,t,rfl,rfl⟩
  ·rcases keyIs_shape hb with ⟨j,u,rfl,e⟩ | ⟨y,u,rfl,e⟩
   ·injection e with e1 _;rw[e1]
   ·exact nomatch e
  ·rcases keyIs_shape hb with ⟨j,u,rfl,e⟩ | ⟨y,u,rfl,e⟩
   ·exact nomatch e
   ·injection e with e1 _;rw[e1]
 byValue:=fun k v h=>by
  rcases keyIs_shape h with ⟨i,t,rfl,rfl⟩ | ⟨x,t,rfl,rfl⟩ <;> rfl
 pyHash:=fun hv h=>by
  rcases keyIs_shape hv with ⟨i,t,rfl,rfl⟩ | ⟨x,t,rfl,rfl⟩
  ·exact wpAny_pyHash_int h
  ·exact wpAny_pyHash_str h
 eqBool:=fun hu hv h=>by
  rcases keyIs_shape hu with ⟨i,t,rfl,rfl⟩ | ⟨x,t,rfl,rfl⟩
  ·rcases keyIs_shape hv with ⟨j,u,rfl,rfl⟩ | ⟨y,u,rfl,rfl⟩
   ·rw[Zmb]at h;exact wpAny_eqBool_int h
   ·rw[Zma]at h;exact MW i t y u _ _ _ _ h
  ·rcases keyIs_shape hv with ⟨j,u,rfl,rfl⟩ | ⟨y,u,rfl,rfl⟩
   ·rw[Zl9]at h;exact MX x t j u _ _ _ _ h
   ·rw[Zl8]at h;exact R6 h
 «strs»:=fun k x t v h=>by
  rcases keyIs_shape h with ⟨i,u,rfl,e⟩ | ⟨y,u,rfl,e⟩
  ·exact nomatch e
  ·injection e with e1 _
   subst e1;cases v <;> rfl
theorem ZcU (prog) (w) (i) (t):(Zs prog w).is (.inl i) (.int i t)=true:=Zgy i t
theorem Xz (prog) (w) (x) (t):(Zs prog w).is (.inr x) (.str x t)=true:=Zgx x t
inductive V where
 | non | bl (b:V0) | int (i:Vs) | str (x:Vl) | byt (b:Vm UInt8) | flt (b:UInt64) | ref (a:Vk) | ty (n:Ny)
 deriving Tf
def RelV:V->Vi->Prop
 | .non,u=>u=VI
 | .bl b,u=>u=MY b
 | .int i,u=>∃ t,u=Nl i t
 | .str x,u=>∃ t,u=L7 x t
 | .byt b,u=>∃ t,u=Value.bytes b t
 | .flt b,u=>∃ t,u=Value.float b t
 | .ref a,u=>u=Value.ref a
 | .ty n,u=>u=VM n
abbrev Vals:Vd V->Vd Vi->Prop:=MZ RelV
theorem Vals.length (r:Vals xs us):xs.length=us.length:=MS r
theorem Vals.get:∀ {xs} {us} {i:Vg} {x},Vals xs us->xs[i]?=some x->∃ u,us[i]?=some u/\RelV x u
 | _,_,_,_,.nil,e=>by simp at e
 | _,_,0,_,.cons r _,e=>by simp at e;subst e;exact⟨_,rfl,r⟩
 | _,_,i+1,x,.cons _ t,e=>by
  obtain⟨u,h1,h2⟩:=Vals.get (i:=i) (x:=x) t (by simp_all);exact⟨u,by simp_all,h2⟩
theorem Vals.set (r:RelV x u):∀ {xs} {us} (i),Vals xs us->Vals (xs.set i x) (us.set i u)
 | _,_,_,.nil=>.nil
 | _,_,0,.cons _ t=>.cons r t
 | _,_,i+1,.cons q t=>.cons q (Vals.set r i t)
theorem Vals.append:∀ {xs ys} {us ws},Vals xs us->Vals ys ws->Vals (xs++ys) (us++ws)
 | _,_,_,_,.nil,s=>s
 | _,_,_,_,.cons r t,s=>.cons r (Vals.append t s)
theorem Vals.take:∀ {xs} {us} (n),Vals xs us->Vals (xs.take n) (us.take n)
 | _,_,0,_=>.nil
 | _,_,_+1,.nil=>.nil
 | _,_,n+1,.cons r t=>.cons r (Vals.take n t)
theorem Vals.drop:∀ {xs} {us} (n),Vals xs us->Vals (xs.drop n) (us.drop n)
 | _,_,0,r=>r
 | _,_,_+1,.nil=>.nil
 | _,_,n+1,.cons _ t=>Vals.drop n t
def RelO:Vj V->Vj Vi->Prop
 | some v,some u=>RelV v u
 | none,none=>RK
 | _,_=>False
def KV {κ:Type}:Vd (κ×V)->Vd (κ×Vi)->Prop:=MZ fun(p:κ×V) (q:κ×Vi)=>p.1=q.1/\RelV p.2 q.2
noncomputable def kV:Key->V
 | .inl i=>.int i
 | .inr x=>.str x
inductive HO where
  | lst (xs:Vd V)
  | tup (xs:Vd V)
  | dK (kvs:Vd (Key×V)) | dT (kvs:Vd (Vd Key×V))
  | set (S:Vs->V0) (n:Vg)
  | ins (C dx:Vk) (fs:Vd (Vl×V))
  | own (x:Vk)
  | xd (fs:Vd (Vl×V))
  | met (f x:Vk)
  | rng (lo hi:Vs)
  | frz (o:Nd) (u:HO)
  | tbl (ps:Vm Vi)
  | ext (φ:Vz->Prop)
abbrev Hp:=Vk->Vj HO
noncomputable def upd (H:Hp) (a:Vk) (o:HO):Hp:=fun b=>if b=a then some o else H b
theorem Zc:upd H a o a=some o:=by unfold upd;simp
theorem Zf (h:b≠a):upd H a o b=H b:=by unfold upd;rw[if_neg h]
theorem Js:upd (upd H a o) a u=upd H a u:=by
 unfold upd;simp_all
theorem ZcP {H:Hp} (h:H a=some o) (h':H b=some u) (d:o≠u):a≠b:=by
 intro e;simp_all
theorem Zg {H:Hp} (h:H a=some o) (h':H b=none):a≠b:=by
 intro e;simp_all
section
variable (P:Oh) (w:Oi)
def NoD (h:Vz) (a:Vk):Prop:=∀ o,h.get? a=some o->o.dict=none
theorem ZaZ {h:Vz} (hd:o.dict=none) (hf:o.isFreed=false):NoD (h.push o) h.objs.size:=fun o2 e=>by
 rw[Qm h hf]at e
 simp_all
def ObjOk (H:Hp) (h:Vz) (a:Vk):HO->Prop
 | .lst xs=>xs.length<=Of/\∃ (its:Vd Vi) (n:Vg),Vals xs its/\h.get? a=some {cls:=.type "list",data:=.seq its.toArray n}
 | .tup xs=>xs.length<=Of/\∃ its:Vd Vi,Vals xs its/\IsTup h a its.toArray/\NoD h a
 | .dK kvs=>kvs.length<=Of/\(a==OE)=false/\∃ vs,KV kvs vs/\h.DictOf (Zs P w) a vs
 | .dT kvs=>kvs.length<=Of/\(a==OE)=false/\∃ xs:Vd (Vd Key×Vk×Vi),
   MZ (fun(p:Vd Key×V) (q:Vd Key×Vk×Vi)=>p.1=q.1/\H q.2.1=some (.tup (p.1.map kV))/\RelV p.2 q.2.2) kvs xs /\
   ∃ o es ep,h.get? a=some o/\o.ExactDict/\o.data= .dict es ep/\es.toList=xs.map (entryOfKey (GQ (Zs P w)))/\(xs.map (·.1)).Nodup
 | .set S n=>h.SetOf (intKind P w) a S n
 | .ins C dx fs=>H dx=some (.own a)/\fs.length<=1000/\dx≠a/\h.get? a=some (V5 C dx) /\
   ∃ mA,h.Ns1 dx mA/\(∀ f,RelO (fs.lookup f) (mA f))/\RL mA (fs.map (·.1))
 | .own _=>∃ o,h.get? a=some o
 | .xd fs=>∃ mA,h.Ns1 a mA/\∀ f,RelO (fs.lookup f) (mA f)
 | .rng lo hi=>∃ t u v,h.get? a=some {cls:=.type "range",data:=.fields #[.int lo t,.int hi u,.int 1 v]}
 | .frz o u=>h.get? a=some o/\ObjOk H h a u
 | .tbl ps=>h.get? a=some {cls:=.none,data:=.fields ps}
 | .met f x=>h.get? a=some (PySem.W.methodObj (.ref f) (.ref x))
 | .ext φ=>φ h/\(∃ o,h.get? a=some o)/\∀ h1 h2:Vz,φ h1->(∀ o,h1.get? a=some o->h2.get? a=some o)->φ h2
def HOk (H:Hp) (h:Vz):Prop:=∀ a o,H a=some o->ObjOk P w H h a o
end
section
variable {P:Oh} {w:Oi} {H H':Hp} {h h':Vz} {a:Vk} {o:HO}
theorem ObjOk.lt (x:ObjOk P w H h a o):a<h.objs.size:=by
 cases o with
 | lst xs=>obtain⟨_,_,_,_,e⟩:=x;exact Qn e
 | tup xs=>obtain⟨_,_,_,p,_⟩:=x;exact p.lt
 | dK kvs=>obtain⟨_,_,_,_,o,_,_,e,_⟩:=x;exact Qn e
 | dT kvs=>obtain⟨_,_,_,_,o,_,_,e,_⟩:=x;exact Qn e
 | set S n=>obtain⟨o,_,_,_,e,_⟩:=x;exact Qn e
 | ins C dx fs=>obtain⟨_,_,_,e,_⟩:=x;exact Qn e
 | own y=>obtain⟨_,e⟩:=x;exact Qn e
 | xd fs=>obtain⟨_,⟨_,_,_,e,_⟩,_⟩:=x;exact Qn e
 | rng lo hi=>obtain⟨_,_,_,e⟩:=x;exact Qn e
 | frz ob u=>obtain⟨e,_⟩:=x;exact Qn e
 | tbl ps=>exact Qn x
 | met f y=>exact Qn x
 | ext φ=>obtain⟨_,⟨_,e⟩,_⟩:=x;exact Qn e
theorem Paired.mapP {F G}:∀ {l₁:Vd α} {l₂:Vd β},MZ F l₁ l₂->(∀ a b,F a b->G a b)->MZ G l₁ l₂
 | _,_,.nil,_=>.nil
 | _,_,.cons r t,f=>.cons (f _ _ r) (Paired.mapP t f)
theorem ObjOk.stay (x:ObjOk P w H h a o) (k:∀ b u,(b=a\/H b=some (.own a))->h.get? b=some u->h'.get? b=some u)
  (ho:∀ b,H b=some (.own a)->H' b=some (.own a)) (ht:∀ b xs,H b=some (.tup xs)->H' b=some (.tup xs)):ObjOk P w H' h' a o:=by
 induction o with
 | lst xs=>obtain⟨z,its,n,r,e⟩:=x;exact⟨z,its,n,r,k _ _ (.inl rfl) e⟩
 | tup xs =>
  obtain⟨z,its,r,⟨ob,e,c⟩,nd⟩:=x;exact⟨z,its,r,⟨ob,k _ _ (.inl rfl) e,c⟩,fun o2 e2=>by
   rw[k _ _ (.inl rfl) e]at e2;cases e2;exact nd _ e⟩
 | dK kvs=>obtain⟨z,y,vs,r,ob,es,ep,e,c⟩:=x;exact⟨z,y,vs,r,ob,es,ep,k _ _ (.inl rfl) e,c⟩
 | dT kvs =>
  obtain⟨z,y,xs,r,ob,es,ep,e,c⟩:=x;exact⟨z,y,xs,Paired.mapP r fun p q z=>⟨z.1,ht _ _ z.2.1,z.2.2⟩,ob,es,ep,k _ _ (.inl rfl) e,c⟩
 | set S n=>obtain⟨ob,es,ep,t,e,c⟩:=x;exact⟨ob,es,ep,t,k _ _ (.inl rfl) e,c⟩
 | ins C dx fs =>
  obtain⟨d,z,ne,e,mA,⟨od,es,ep,e2,c⟩,r⟩:=x;exact⟨ho _ d,z,ne,k _ _ (.inl rfl) e,mA,⟨od,es,ep,k _ _ (.inr d) e2,c⟩,r⟩
 | own y=>obtain⟨ob,e⟩:=x;exact⟨ob,k _ _ (.inl rfl) e⟩
 | xd fs=>obtain⟨mA,⟨od,es,ep,e,c⟩,r⟩:=x;exact⟨mA,⟨od,es,ep,k _ _ (.inl rfl) e,c⟩,r⟩
 | rng lo hi=>obtain⟨t,u,v,e⟩:=x;exact⟨t,u,v,k _ _ (.inl rfl) e⟩
 | frz ob u ih=>obtain⟨e,q⟩:=x;exact⟨k _ _ (.inl rfl) e,ih q⟩
 | tbl ps =>
  have e:h.get? a=some _:=x;show h'.get? a=some _
  simp_all
 | met f y =>
  have e:h.get? a=some _:=x;show h'.get? a=some _
  simp_all
 | ext φ=>obtain⟨p,⟨o,e⟩,st⟩:=x;exact⟨st _ _ p fun o q=>k _ _ (.inl rfl) q,⟨o,k _ _ (.inl rfl) e⟩,st⟩
theorem HOk.lt (x:HOk P w H h) (e:H a=some o):a<h.objs.size:=(x a o e).lt
theorem HOk.fresh (x:HOk P w H h) (e:h.objs.size<=a):H a=none:=by
 cases q:H a with
 | none=>rfl
 | some u=>exact Vo (QL (x.lt q) e) (Q6 _)
theorem HOk.kept (x:HOk P w H h) (k:∀ b u,h.get? b=some u->h'.get? b=some u):HOk P w H h':=fun a o e =>
 (x a o e).stay (fun b u _ q=>k b u q) (fun _ q=>q) fun _ _ q=>q
theorem HOk.laid (x:HOk P w H h) (k:∀ b u,h.get? b=some u->h'.get? b=some u) (hp:h.objs.size<=a) (new:ObjOk P w (upd H a o) h' a o):HOk P w (upd H a o) h':=fun b u e=>by
 have hn:=x.fresh hp;by_cases hb:b=a
 subst hb;rw[Zc]at e;simp_all;rw[Zf hb]at e;exact(x b u e).stay (fun c v _ q=>k c v q) fun c q=>by rw[Zf (Zg q hn)];omega fun c xs q=>by rw[Zf (Zg q hn)];omega
end
def Rd (H:Hp) (a:Vk) (u:HO):Prop:=H a=some u\/∃ o,H a=some (.frz o u)
theorem Rd.ok (r:Rd H a u) (x:HOk P w H h):ObjOk P w H h a u:=by
 rcases r with r | ⟨o,r⟩
 exact x a u r;obtain⟨_⟩:=x a _ r;omega
def Mut:Vj HO->Prop
 | some (.lst _)=>RK
 | some (.dK _)=>RK
 | some (.dT _)=>RK
 | some (.set _ _)=>RK
 | some (.ins _ _ _)=>RK
 | some (.ext _)=>RK
 | _=>False
section
variable {P:Oh} {w:Oi} {H:Hp} {h h':Vz} {x e:Vk} {o':HO}
theorem HOk.write (ok:HOk P w H h) (mu:Mut (H x)) (he:e=x\/H e=some (.own x)) (k:∀ b u,b≠e->h.get? b=some u->h'.get? b=some u) (heo:∃ u,h'.get? e=some u)
  (new:ObjOk P w (upd H x o') h' x o'):HOk P w (upd H x o') h':=fun b u q=>by
 have nown:∀ c y,H c=some (.own y)->c≠x:=fun c y r z=>by subst z;rw[r]at mu;trivial
 by_cases hb:b=x
 subst hb;rw[Zc]at q;simp_all;rw[Zf hb]at q;by_cases hbe:b=e
 have q':H b=some (.own x):=by
  simp_all
 rw[q]at q';cases q';obtain⟨v,_⟩:=heo;exact⟨v,by simp_all⟩;refine(ok b u q).stay (fun c v hc r=>k c v ?_ r) fun c r=>by rw[Zf (nown c b r)];omega fun c xs r=>by rw[Zf ((fun c xs r z=>by subst z;rw[r]at mu;trivial) c xs r)];omega
 rcases hc with rfl | hc
 omega;rintro rfl
 simp_all
end
structure Un (fs ex:Vd Vk) (H H':Hp) (h h':Vz):Prop where
 keep:∀ b o,h.get? b=some o->H b=none->b∉fs->b∉ex->h'.get? b=some o
 slot:∀ b o,h.get? b=some o->H b=none->b∈fs->b∉ex->∃ sl,h'.get? b=some {o with slots:=sl}
 free:∀ b o,h.get? b=some o->H b=none->b∉ex->H' b=none
 there:∀ b o,h.get? b=some o->b∉ex->∃ o',h'.get? b=some o'
 tups:∀ b xs,H b=some (.tup xs)->H' b=some (.tup xs)
 frzs:∀ b o u,H b=some (.frz o u)->H' b=some (.frz o u)
 tbls:∀ b ps,H b=some (.tbl ps)->∃ more,H' b=some (.tbl (ps++more))
section
variable {fs fs' ex ex':Vd Vk} {H H1 H2:Hp} {h h1 h2 h':Vz} {a x e:Vk} {o:HO}
theorem Un.any (u:Un fs ex H H1 h h1) (q:h.get? b=some ob) (n:H b=none) (hx:b∉ex):∃ sl,h1.get? b=some {ob with slots:=sl}:=by
 by_cases hb:b∈fs
 exact u.slot b ob q n hb hx;exact⟨_,u.keep b ob q n hb hx⟩
theorem Un.kept (k:∀ b u,h.get? b=some u->h'.get? b=some u):Un fs ex H H h h' :=
 ⟨fun b ob q _ _ _=>k b ob q,fun b ob q _ _ _=>⟨_,k b ob q⟩,fun _ _ _ n _=>n,fun b ob q _=>⟨ob,k b ob q⟩,fun _ _ q=>q,fun _ _ _ q=>q,fun _ ps q=>⟨#[],by simp_all⟩⟩
theorem Un.refl:Un fs ex H H h h:=Un.kept fun _ _ q=>q
theorem Un.laid (k:∀ b u,h.get? b=some u->h'.get? b=some u) (hp:h.objs.size<=a) (hn:H a=none):Un fs ex H (upd H a o) h h' where
 keep:=fun b u q _ _ _=>k b u q
 slot:=fun b u q _ _ _=>⟨_,k b u q⟩
 free:=fun b u q n _=>by rw[Zf (QB (QL (Qn q) hp))];omega
 there:=fun b u q _=>⟨u,k b u q⟩
 tups:=fun b xs q=>by rw[Zf (Zg q hn)];omega
 frzs:=fun b u xs q=>by rw[Zf (Zg q hn)];omega
 tbls:=fun b ps q=>⟨#[],by rw[Zf (Zg q hn),q];simp⟩
theorem Un.write (mu:Mut (H x)) (he:e=x\/H e=some (.own x)) (k:∀ b u,b≠e->h.get? b=some u->h'.get? b=some u) (heo:∃ u,h'.get? e=some u):Un fs ex H (upd H x o) h h':=by
 have hx:∀ b,H b=none->b≠x:=fun b n z=>by subst z;rw[n]at mu;trivial
 have hb:∀ b,H b=none->b≠e:=fun b n z=>by
  simp_all
 have hm:∀ b u,H b=some u->¬ Mut (some u)->b≠x:=fun b u q nm z=>by simp_all
 refine⟨fun b u q n _ _=>k b u (hb b n) q,fun b u q n _ _=>⟨_,k b u (hb b n) q⟩,fun b u q n _=>by rw[Zf (hx b n)];omega,fun b u q _=>?_,
  fun b xs q=>by rw[Zf (hm b _ q fun z=>z)];omega,fun b u xs q=>by rw[Zf (hm b _ q fun z=>z)];omega,fun b ps q=>⟨#[],by rw[Zf (hm b _ q fun z=>z),q];simp⟩⟩
 by_cases hbe:b=e
 simp_all
 simp_all
end
noncomputable def trk (h:Vz) (H:Hp):Vd Vk:=(Qu h.objs.size).filter fun a=>(H a).isSome
def ZgM (h:Vz) (H:Hp):Vz:=Nw h (trk h H)
theorem ZgL (h) (H):(ZgM h H).objs.size=h.objs.size:=PySem.W.hideAll_size _ _
theorem Zin (e:h.get? b=some o) (n:H b=none):(ZgM h H).get? b=some o :=
 MM _ e fun hm=>by
  have q:=(Q2.mp hm).2
  simp_all
theorem Zga (e:(ZgM h H).get? b=some o):h.get? b=some o/\H b=none:=by
 have e':=NP _ e;refine⟨e',?_⟩;cases q:H b with
 | none=>rfl
 | some x =>
  have z:(ZgM h H).get? b=none:=PySem.W.hideAll_none _ (Q2.mpr ⟨Qr.mpr (Qn e'),by grind⟩);rw[z]at e;cases e
noncomputable def ZkW (g h:Vz) (L:Vk):Vd (Vk×Nd):=(Qu h.objs.size).filterMap fun a=>if a=L\/(g.get? a).isSome=true then none else (h.get? a).map fun o=>(a,o)
noncomputable def rest (g h:Vz) (L d:Vk):Vd (Vk×Nd):=(ZkW g h L).filter fun p=>decide (p.1≠d)
structure Mod (K:Ve) (mg:Vl->Vj Vi) (base:Vz):Prop where
 kin:K.In base
 glob:base.Ns Ol mg
 blt:∃ mb,base.Ns GE mb/\∀ x:Vl,x≠"__name__"->mb x=On x
 nolimit:base.NoLimit
structure Cx where
 prog:Oh
 w:Oi
 K:Ve
 mg:Vl->Vj Vi
 base:Vz
 A:VA
 N:Vd Vl
 s₀:Vh
 H₀:Hp
 env:L8
 outer:Vd L8
 stack:Vd L8
 ex:Vd Vk
 fn:Vl->V0
 calm:V0
 pn:Vd (Vk×Nd)
 xe:Vi->Vh->Prop
noncomputable def frs (l:Vd L8):Vd Vk:=l.filterMap (·.frame)
abbrev Cx.fs (X:Cx):Vd Vk:=frs X.outer
def Vis (sc:Scope) (x:Vl):Prop:=sc.names.lookup x=some .local\/sc.names.lookup x=some .cell\/sc.names.lookup x=some .free
def Loc (sc:Scope) (x:Vl):Prop:=sc.names.lookup x=some .local\/sc.names.lookup x=some .cell
def ZoF (env:L8) (h:Vz) (m:Vl->Vj Vi) (x:Vl) (u:Vi):Prop :=
 (env.kindOf x=some .local/\m x=some u)\/((env.kindOf x=some .cell\/env.kindOf x=some .free)/\∃ c,env.cells.lookup x=some c/\h.IsCell c (some u))
structure Cx.Ok (X:Cx):Prop where
 mod:Mod X.K X.mg X.base
 kind:X.env.scope.kind= .function
 glob:X.env.globals=Ol
 blt:X.env.builtins=GE
 above:X.s₀.heap.objs.size<=X.env.locals
 inj:∀ x y c,X.env.cells.lookup x=some c->X.env.cells.lookup y=some c->x=y
 has:∀ x,(X.env.kindOf x=some .cell\/X.env.kindOf x=some .free)->∃ c,X.env.cells.lookup x=some c
 cab:∀ x c,X.fn x=true->X.env.cells.lookup x=some c->X.s₀.heap.objs.size<=c
 hd:X.calm=true->X.A.handled=none
 frames:X.A.frames=some X.stack
 stk:X.stack=X.outer\/(X.stack=X.env::X.outer/\X.env.frame=some X.env.locals)
 exf:∀ b∈X.ex,b≠X.env.locals/\∀ x c,X.env.cells.lookup x=some c->c≠b
 bs:∀ b o,X.base.get? b=some o->X.s₀.heap.get? b=some o/\X.H₀ b=none
 bsz:X.base.objs.size<=X.s₀.heap.objs.size
 noex:∀ b o,X.base.get? b=some o->b∉X.ex
 exfs:∀ b∈X.ex,b∉X.fs
 funs:X.s₀.heap.FunFrames X.base X.outer
 frf:∀ b∈X.fs,X.H₀ b=none
structure Inv (X:Cx) (pins:Vd (Vk×Nd)) (σ:Vd (Vj V)) (H:Hp) (s:Vh):Prop where
 ok:X.Ok
 os:s.os=X.s₀.os
 bare:O9 s.gens
 base:Un X.fs X.ex X.H₀ H X.s₀.heap s.heap
 loc:∃ m,s.heap.Ns X.env.locals m/\∀ (i:Vg) (x:Vl) (v:V),X.N[i]?=some x->σ[i]?=some (some v)->Vis X.env.scope x->∃ u,RelV v u/\ZoF X.env s.heap m x u
 cell:∀ x c,X.env.cells.lookup x=some c->∃ v,s.heap.IsCell c v
 free:H X.env.locals=none
 freeC:∀ x c,X.env.cells.lookup x=some c->H c=none
 pin:∀ p∈X.pn++pins,s.heap.get? p.1=some p.2/\H p.1=none/\p.1≠X.env.locals/\p.1∉X.fs/\∀ v,p.2.data≠.cell v
 hok:HOk X.prog X.w H s.heap
 len:σ.length=X.N.length
section
variable {X:Cx} {pins:Vd (Vk×Nd)} {σ:Vd (Vj V)} {H H':Hp} {s:Vh} {h':Vz}
theorem Cx.Ok.nofr (ok:X.Ok) (e:X.base.get? b=some o):b∉X.fs:=fun hb=>by
 have:=(ok.funs.mem hb).1
 simp_all
theorem Inv.bs (I:Inv X pins σ H s):∀ b o,X.base.get? b=some o->s.heap.get? b=some o/\H b=none:=fun b o e =>
 ⟨I.base.keep b o (I.ok.bs b o e).1 (I.ok.bs b o e).2 (I.ok.nofr e) (I.ok.noex b o e),I.base.free b o (I.ok.bs b o e).1 (I.ok.bs b o e).2 (I.ok.noex b o e)⟩
theorem Inv.bk (I:Inv X pins σ H s):∀ b o,X.base.get? b=some o->s.heap.get? b=some o:=fun b o e=>(I.bs b o e).1
theorem Inv.mod (I:Inv X pins σ H s):Mod X.K X.mg X.base:=I.ok.mod
theorem Inv.kIn (I:Inv X pins σ H s):X.K.In s.heap:=I.ok.mod.kin.keeps I.bk
theorem Inv.nolimit (I:Inv X pins σ H s):s.heap.NoLimit:=I.ok.mod.nolimit.keeps I.bk
theorem Inv.lt (I:Inv X pins σ H s):X.env.locals<s.heap.objs.size:=let ⟨_,hn,_⟩:=I.loc;hn.lt
theorem Inv.sz (I:Inv X pins σ H s):X.s₀.heap.objs.size<=s.heap.objs.size:=QK I.ok.above (WK I.lt)
theorem Inv.nofs (I:Inv X pins σ H s) {a:Vk} (h:s.heap.objs.size<=a):a∉X.fs:=fun hb=>by
 obtain⟨_,o,ho,_⟩:=I.ok.funs.mem hb;exact Vo (QL (Qn ho) (QK I.sz h)) (Q6 _)
theorem Inv.cne (I:Inv X pins σ H s):∀ x c,X.env.cells.lookup x=some c->c≠X.env.locals:=fun x c e z=>by
 obtain⟨v,o,ho,hd⟩:=I.cell x c e;obtain⟨m,⟨_⟩,_⟩:=I.loc
 simp_all
theorem Inv.funs (I:Inv X pins σ H s):s.heap.FunFrames X.base X.outer:=by
 have all:∀ (l:Vd L8),(∀ b∈frs l,b∈X.fs)->X.s₀.heap.FunFrames X.base l->s.heap.FunFrames X.base l:=by
  intro l;induction l with
  | nil=>intro _ _;trivial
  | cons env r ih =>
   intro hs hl;obtain⟨hk,⟨L,o,hf,hn,ho,hd⟩,hr⟩:=hl;have hL:=hs L (by unfold frs;rw[UK,hf];simp);obtain⟨sl,e⟩:=I.base.slot L o ho (I.ok.frf L hL) hL fun z=>I.ok.exfs L z hL;exact⟨hk,⟨L,_,hf,hn,e,hd⟩,ih (fun b hb=>hs b (by unfold frs;rw[UK,hf];exact Qk _ hb)) hr⟩
 exact all X.outer (fun _ hb=>hb) I.ok.funs
theorem Inv.stack (I:Inv X pins σ H s):s.heap.FunFrames X.base X.stack:=by
 rcases I.ok.stk with e | ⟨e,hf⟩
 exact e▸I.funs;rw[e];obtain⟨m,hn,_⟩:=I.loc;exact .cons (by rw[I.ok.kind];decide) hf hn (U9 (QK I.ok.bsz I.ok.above)) I.funs
theorem Inv.stkSub (I:Inv X pins σ H s):∀ b∈frs X.stack,b∈X.env.locals::X.fs:=fun b hb=>by
 rcases I.ok.stk with e | ⟨e,hf⟩
 rw[e]at hb;exact Qk _ hb;rw[e]at hb;unfold frs at hb;rw[UK,hf]at hb
 trivial
theorem Inv.stkFree (I:Inv X pins σ H s):∀ b∈frs X.stack,H b=none:=fun b hb=>by
 rcases Qs.mp (I.stkSub b hb)with e | hb
 exact e▸I.free;obtain⟨_,o,ho,_⟩:=I.ok.funs.mem hb;exact I.base.free b o ho (I.ok.frf b hb) fun z=>I.ok.exfs b z hb
theorem Inv.step {d'} {ch:Vd Vk} (I:Inv X pins σ H s)
  (hch:∀ b∈ch,(b∈X.ex\/X.s₀.heap.objs.size<=b)/\b≠X.env.locals/\(∀ x c,X.env.cells.lookup x=some c->c≠b)/\∀ p∈X.pn++pins,p.1≠b)
  (keep:∀ b o,b≠X.env.locals->b∉X.fs->b∉ch->s.heap.get? b=some o->H b=none->h'.get? b=some o)
  (slot:∀ b o,b≠X.env.locals->b∈X.fs->b∉ch->s.heap.get? b=some o->H b=none->∃ sl,h'.get? b=some {o with slots:=sl}) (free:∀ b o,b∉ch->s.heap.get? b=some o->H b=none->H' b=none)
  (there:∀ b o,b∉ch->s.heap.get? b=some o->∃ o',h'.get? b=some o')
  (tups:∀ b xs,H b=some (.tup xs)->H' b=some (.tup xs)) (frzs:∀ b o u,H b=some (.frz o u)->H' b=some (.frz o u)) (tbls:∀ b ps,H b=some (.tbl ps)->∃ more,H' b=some (.tbl (ps++more)))
  (ns:∀ m,s.heap.Ns X.env.locals m->h'.Ns X.env.locals m) (hok:HOk X.prog X.w H' h') (hg:O9 g') :
  Inv X pins σ H' {s with heap:=h',gens:=g',drawn:=d',toks:=t'}:=by
 have neL:∀ b o,X.s₀.heap.get? b=some o->b≠X.env.locals:=fun b o e=>QB (QL (Qn e) I.ok.above);have neC:∀ b o,X.s₀.heap.get? b=some o->b∉X.ex->b∉ch:=fun b o e hx hb=>by
  rcases(hch b hb).1 with z | z
  ·simp_all
  ·exact Vo (QL (Qn e) z) (Q6 _)
 have cellK:∀ x c,X.env.cells.lookup x=some c->∀ v,s.heap.IsCell c v->h'.IsCell c v:=fun x c e v ⟨o,ho,hd⟩=>by
  have nch:c∉ch:=fun z=>(hch c z).2.2.1 x c e rfl;by_cases hc:c∈X.fs
  ·obtain⟨sl,q⟩:=slot c o (I.cne x c e) hc nch ho (I.freeC x c e);exact⟨_,q,hd⟩
  ·exact⟨o,keep c o (I.cne x c e) hc nch ho (I.freeC x c e),hd⟩
 refine⟨I.ok,I.os,hg,⟨fun b o e n hb hx=>?_,fun b o e n hb hx=>?_,fun b o e n hx=>?_,fun b o e hx=>?_,fun b xs e=>tups b xs (I.base.tups b xs e),fun b o xs e=>frzs b o xs (I.base.frzs b o xs e),fun b ps e=>?_⟩,?_,fun x c e=>?_,?_,fun x c e=>?_,fun p hp=>?_,hok,I.len⟩
 ·exact keep b o (neL b o e) hb (neC b o e hx) (I.base.keep b o e n hb hx) (I.base.free b o e n hx)
 ·obtain⟨sl,e1⟩:=I.base.slot b o e n hb hx;obtain⟨sl',e2⟩:=slot b _ (neL b o e) hb (neC b o e hx) e1 (I.base.free b o e n hx);exact⟨sl',e2⟩
 ·obtain⟨o',e1⟩:=I.base.there b o e hx;exact free b o' (neC b o e hx) e1 (I.base.free b o e n hx)
 ·obtain⟨o',e1⟩:=I.base.there b o e hx;exact there b o' (neC b o e hx) e1
 ·obtain⟨m1,e1⟩:=I.base.tbls b ps e;obtain⟨m2,e2⟩:=tbls b _ e1;exact⟨m1++m2,by simp_all⟩
 ·obtain⟨m,hn,hl⟩:=I.loc;refine⟨m,ns m hn,fun i x v e1 e2 e3=>?_⟩;obtain⟨u,r,l⟩:=hl i x v e1 e2 e3;refine⟨u,r,?_⟩;rcases l with l | ⟨k,c,e,z⟩
  ·exact .inl l
  ·exact .inr ⟨k,c,e,cellK x c e _ z⟩
 ·obtain⟨v,z⟩:=I.cell x c e;exact⟨v,cellK x c e v z⟩
 ·obtain⟨m,⟨o,_,_,ho,_⟩,_⟩:=I.loc;exact free _ o (fun z=>(hch _ z).2.1 rfl) ho I.free
 ·obtain⟨v,o,ho,hd⟩:=I.cell x c e;exact free c o (fun z=>(hch c z).2.2.1 x c e rfl) ho (I.freeC x c e)
 ·obtain⟨e,n,ne,nf,d⟩:=I.pin p hp;have nch:p.1∉ch:=fun z=>(hch p.1 z).2.2.2 p hp rfl;exact⟨keep p.1 p.2 ne nf nch e n,free p.1 p.2 nch e n,ne,nf,d⟩
theorem Inv.un (I:Inv X pins σ H s) (u:Un X.fs [] H H' s.heap h') (hok:HOk X.prog X.w H' h'):Inv X pins σ H' {s with heap:=h',toks:=t'}:=by
 obtain⟨m,⟨o,es,ep,ho,r⟩,_⟩:=id I.loc;obtain⟨sl,hL⟩:=u.any ho I.free (by simp);exact I.step (ch:=[]) (fun _ z=>nomatch z) (fun b o _ hb _ e n=>u.keep b o e n hb (by simp)) (fun b o _ hb _ e n=>u.slot b o e n hb (by simp)) (fun b o _ e n=>u.free b o e n (by simp)) (fun b o _ e=>u.there b o e (by simp)) u.tups u.frzs u.tbls (fun m' hm=>by
  obtain⟨o',es',ep',ho',r'⟩:=hm;rw[ho]at ho';cases ho';exact⟨_,es',ep',hL,r'⟩) hok I.bare
theorem Inv.call (I:Inv X pins σ H s) (u:Un (frs X.stack) ch H H' s.heap h') (hok:HOk X.prog X.w H' h') (hg:O9 g')
  (hch:∀ b∈ch,(b∈X.ex\/X.s₀.heap.objs.size<=b)/\b≠X.env.locals/\(∀ x c,X.env.cells.lookup x=some c->c≠b)/\∀ p∈X.pn++pins,p.1≠b) :
  Inv X pins σ H' {s with heap:=h',gens:=g',drawn:=d',toks:=t'}:=by
 obtain⟨m,⟨o,es,ep,ho,r⟩,_⟩:=id I.loc;obtain⟨sl,hL⟩:=u.any ho I.free fun z=>(hch _ z).2.1 rfl;exact I.step hch (fun b o hL hb hc e n=>u.keep b o e n (fun z=>(Qs.mp (I.stkSub b z)).elim hL hb) hc) (fun b o _ _ hc e n=>u.any e n hc) (fun b o hc e n=>u.free b o e n hc) (fun b o hc e=>u.there b o e hc) u.tups u.frzs u.tbls (fun m' hm=>by
  obtain⟨o',es',ep',ho',r'⟩:=hm;rw[ho]at ho';cases ho';exact⟨_,es',ep',hL,r'⟩) hok hg
theorem Inv.turned (I:Inv X pins σ H s) (k:∀ b o,b≠it->s.heap.get? b=some o->h'.get? b=some o) (hn:H it=none) (hL:it≠X.env.locals)
  (h1:it∈X.ex\/X.s₀.heap.objs.size<=it) (h2:∀ x c,X.env.cells.lookup x=some c->c≠it) (h3:∀ p∈X.pn++pins,p.1≠it):Inv X pins σ H {s with heap:=h',toks:=t'}:=by
 have nit:∀ b u,H b=some u->b≠it:=fun b u e z=>by simp_all
 refine I.step (ch:=[it]) (fun b hb=>?_) (fun b o _ _ hc e _=>k b o (fun z=>hc (by simp[z])) e) (fun b o _ _ hc e _=>⟨_,k b o (fun z=>hc (by simp[z])) e⟩) (fun _ _ _ _ n=>n)
  (fun b o hc e=>⟨o,k b o (fun z=>hc (by simp[z])) e⟩) (fun _ _ e=>e) (fun _ _ _ e=>e) (fun b ps e=>⟨#[],by simp_all⟩) (fun m hm=>?_) (fun b u e=>?_) I.bare
 have e:b=it:=by simp_all
 subst e;exact⟨h1,hL,h2,h3⟩;obtain⟨o,es,ep,ho,r⟩:=hm;exact⟨o,es,ep,k _ o (Vy hL) ho,r⟩;refine(I.hok b u e).stay (fun c v hc q=>k c v ?_ q) (fun _ q=>q) fun _ _ q=>q;rcases hc with z | z
 exact z▸nit b u e;exact nit c _ z
theorem Inv.tok (I:Inv X pins σ H s) (t):Inv X pins σ H {s with toks:=t}:=I.un Un.refl I.hok
theorem Inv.kept (I:Inv X pins σ H s) (k:∀ b u,s.heap.get? b=some u->h'.get? b=some u):Inv X pins σ H {s with heap:=h',toks:=t'}:=I.un (Un.kept k) (I.hok.kept k)
theorem Inv.laid {a:Vk} (I:Inv X pins σ H s) (k:∀ b u,s.heap.get? b=some u->h'.get? b=some u) (hp:s.heap.objs.size<=a) (new:ObjOk X.prog X.w (upd H a o) h' a o) :
  Inv X pins σ (upd H a o) {s with heap:=h',toks:=t'}:=I.un (Un.laid k hp (I.hok.fresh hp)) (I.hok.laid k hp new)
theorem Inv.write (I:Inv X pins σ H s) (mu:Mut (H x)) (he:e=x\/H e=some (.own x)) (k:∀ b u,b≠e->s.heap.get? b=some u->h'.get? b=some u) (heo:∃ u,h'.get? e=some u)
  (new:ObjOk X.prog X.w (upd H x o) h' x o):Inv X pins σ (upd H x o) {s with heap:=h',toks:=t'}:=I.un (Un.write mu he k heo) (I.hok.write mu he k heo new)
theorem Inv.pins_of (I:Inv X pins σ H s) (h:∀ p∈pins',s.heap.get? p.1=some p.2/\H p.1=none/\p.1≠X.env.locals/\p.1∉X.fs/\∀ v,p.2.data≠.cell v):Inv X pins' σ H s :=
 ⟨I.ok,I.os,I.bare,I.base,I.loc,I.cell,I.free,I.freeC,fun p hp=>(QD.mp hp).elim (fun z=>I.pin p (QI _ z)) (h p),I.hok,I.len⟩
theorem ZdN {N:Vd Vl} (hN:N.Nodup) {i j:Vg} (a:N[i]?=some x) (b:N[j]?=some x):i=j:=by
 obtain⟨h1,e1⟩:=Ql.mp a;obtain⟨h2,e2⟩:=Ql.mp b;exact(Uj hN).mp (e1.trans e2.symm)
theorem Jw (I:Inv X pins σ H s) (hN:X.N.Nodup) (hi:X.N[i]?=some x) (hx:Loc X.env.scope x) (r:RelV v u)
  (h:∀ s',Inv X pins (σ.set i (some v)) H s'->(∃ a,VY a s.heap s'.heap/\(a=X.env.locals\/X.env.cells.lookup x=some a))->Q () s') (hf:X.fn x=true\/X.env.scope.names.lookup x=some .local:=by first | exact .inl rfl | exact .inr rfl | assumption):Og M A (storeName X.env x u) Q E s:=by
 obtain⟨m,hn,hl⟩:=id I.loc;have hcls:(X.env.scope.kind==.class || (X.env.scope.kind==.module&&X.env.locals != X.env.globals))=false:=by rw[I.ok.kind];rfl
 have hiσ:i<σ.length:=by rw[I.len];exact(Ql.mp hi).1
 have cne:=I.cne;have tracked:∀ {a:Vk} {h':Vz},(∃ o,s.heap.get? a=some o/\H a=none)->VY a s.heap h'->HOk X.prog X.w H h':=fun {a h'} ha hs b ob e=>by
  obtain⟨_,_,hfree⟩:=ha;refine(I.hok b ob e).stay (fun c w' hc q=>(hs.2 c ?_).trans q) (fun _ q=>q) fun _ _ q=>q;rintro rfl
  simp_all
 rcases hx with hk | hk
 ·refine wpAny_storeName_local hk hn (fun h' hn' hs=>?_) hcls;obtain⟨oL,_,_,hoL,_⟩:=id hn;refine h _ ⟨I.ok,I.os,I.bare,⟨fun b o e n hb hx=>?_,fun b o e n hb hx=>?_,I.base.free,fun b o e hx=>?_,I.base.tups,I.base.frzs,I.base.tbls⟩,⟨_,hn',fun j y v' e1 e2 e3=>?_⟩,fun y c e=>?_,I.free,I.freeC,fun p hp=>?_,tracked ⟨oL,hoL,I.free⟩ hs,by simpa using I.len⟩ ⟨_,hs,.inl rfl⟩
  ·exact(hs.2 b (QB (QL (Qn e) I.ok.above))).trans (I.base.keep b o e n hb hx)
  ·obtain⟨sl,e1⟩:=I.base.slot b o e n hb hx;exact⟨sl,(hs.2 b (QB (QL (Qn e) I.ok.above))).trans e1⟩
  ·obtain⟨o',e1⟩:=I.base.there b o e hx;exact⟨o',(hs.2 b (QB (QL (Qn e) I.ok.above))).trans e1⟩
  ·by_cases hj:j=i
   ·subst hj;rw[hi]at e1;cases e1;rw[U4 hiσ]at e2;cases e2;exact⟨u,r,.inl ⟨hk,by simp⟩⟩
   ·rw[Ra (Vy hj)]at e2;obtain⟨u',r',q⟩:=hl j y v' e1 e2 e3;refine⟨u',r',?_⟩;rcases q with ⟨k,e⟩ | ⟨k,c,e,z⟩
    ·refine .inl ⟨k,?_⟩;have:y≠x:=fun e=>hj (ZdN hN e1 (e▸hi));simp[this,e]
    ·exact .inr ⟨k,c,e,z.sameBut hs (cne y c e)⟩
  ·obtain⟨w',z⟩:=I.cell y c e;exact⟨w',z.sameBut hs (cne y c e)⟩
  ·obtain⟨e,n,ne,nf,d⟩:=I.pin p hp;exact⟨(hs.2 p.1 ne).trans e,n,ne,nf,d⟩
 ·have hfn:X.fn x=true:=by
   simp_all
  obtain⟨c,hc⟩:=I.ok.has x (.inl hk);obtain⟨w',z⟩:=I.cell x c hc;refine wpAny_storeName_cell I.ok.kind hk hc z (fun h' hc' hs=>?_);obtain⟨oc,hoc,hocd⟩:=id z;refine h {s with heap:=h'} ⟨I.ok,I.os,I.bare,⟨fun b o e n hb hx=>?_,fun b o e n hb hx=>?_,I.base.free,fun b o e hx=>?_,I.base.tups,I.base.frzs,I.base.tbls⟩,⟨m,hn.sameBut hs (Vy (cne x c hc)),fun j y v' e1 e2 e3=>?_⟩,fun y c' e=>?_,I.free,I.freeC,fun p hp=>?_,tracked ⟨oc,hoc,I.freeC x c hc⟩ hs,by simpa using I.len⟩ ⟨c,hs,.inr hc⟩
  ·exact(hs.2 b (QB (QL (Qn e) (I.ok.cab x c hfn hc)))).trans (I.base.keep b o e n hb hx)
  ·obtain⟨sl,e1⟩:=I.base.slot b o e n hb hx;exact⟨sl,(hs.2 b (QB (QL (Qn e) (I.ok.cab x c hfn hc)))).trans e1⟩
  ·obtain⟨o',e1⟩:=I.base.there b o e hx;exact⟨o',(hs.2 b (QB (QL (Qn e) (I.ok.cab x c hfn hc)))).trans e1⟩
  ·by_cases hj:j=i
   ·subst hj;rw[hi]at e1;cases e1;rw[U4 hiσ]at e2;cases e2;exact⟨u,r,.inr ⟨.inl hk,c,hc,hc'⟩⟩
   ·rw[Ra (Vy hj)]at e2;obtain⟨u',r',q⟩:=hl j y v' e1 e2 e3;refine⟨u',r',?_⟩;rcases q with q | ⟨k,c',e,z'⟩
    ·exact .inl q
    ·refine .inr ⟨k,c',e,z'.sameBut hs ?_⟩;rintro rfl;exact hj (ZdN hN e1 (I.ok.inj _ _ _ e hc▸hi))
  ·by_cases hcc:c'=c
   ·subst hcc;exact⟨_,hc'⟩
   ·obtain⟨w2,z2⟩:=I.cell y c' e;exact⟨w2,z2.sameBut hs hcc⟩
  ·obtain⟨e,n,ne,nf,d⟩:=I.pin p hp;refine⟨(hs.2 p.1 ?_).trans e,n,ne,nf,d⟩;intro q;rw[q,hoc]at e;have q':oc=p.2:=Vu e;exact d w' (by rw[←q'];exact hocd)
theorem Zdn (I:Inv X pins σ H s) (hN:X.N.Nodup) (hi:X.N[i]?=some x) (hx:Loc X.env.scope x) (r:RelV v u)
  (h:∀ s',Inv X pins (σ.set i (some v)) H s'->Q () s') (hf:X.fn x=true\/X.env.scope.names.lookup x=some .local:=by first | exact .inl rfl | exact .inr rfl | assumption):Og M A (storeName X.env x u) Q E s :=
 Jw I hN hi hx r (fun s' I' _=>h s' I') hf
theorem Inv.call' (I:Inv X pins σ H s) (ho:s'.os=s.os) (u:Un (frs X.stack) ch H H' s.heap s'.heap) (hok:HOk X.prog X.w H' s'.heap) (hg:O9 s'.gens)
  (hch:∀ b∈ch,(b∈X.ex\/X.s₀.heap.objs.size<=b)/\b≠X.env.locals/\(∀ x c,X.env.cells.lookup x=some c->c≠b)/\∀ p∈X.pn++pins,p.1≠b):Inv X pins σ H' s':=by
 obtain⟨_⟩:=s';subst ho;exact I.call u hok hg hch
end
abbrev XK:=Vi->Vj Vk->Hp->Prop
abbrev St:=Vd (Vj V)
abbrev VK:=V->Hp->Prop
abbrev TE:=St->Hp->VK->Prop
abbrev TT:=St->Hp->(V0->Hp->Prop)->Prop
abbrev TA:=St->Hp->(Vd V->Hp->Prop)->Prop
structure Zhm where
 nx:St->Hp->Prop
 rt:VK
 bk:St->Hp->Prop:=fun _ _=>False
 ct:St->Hp->Prop:=fun _ _=>False
abbrev TS:=Zhm->St->Hp->Prop
def EP (X:Cx) (pins:Vd (Vk×Nd)) (σ:St) (Q:VK) (u:Vi) (s':Vh):Prop:=∃ v H',Inv X pins σ H' s'/\RelV v u/\Q v H'
def TP (X:Cx) (pins:Vd (Vk×Nd)) (σ:St) (Q:V0->Hp->Prop) (b:V0) (s':Vh):Prop:=∃ H',Inv X pins σ H' s'/\Q b H'
def AP (X:Cx) (pins:Vd (Vk×Nd)) (σ:St) (Q:Vd V->Hp->Prop) (us:Vd Vi) (s':Vh):Prop:=∃ vs H',Inv X pins σ H' s'/\Vals vs us/\Q vs H'
def SP (X:Cx) (pins:Vd (Vk×Nd)) (D:Zhm) (f:Flow) (s':Vh):Prop :=
 match f with
 | .next=>∃ σ' H',Inv X pins σ' H' s'/\D.nx σ' H'
 | .brk=>∃ σ' H',Inv X pins σ' H' s'/\D.bk σ' H'
 | .cont=>∃ σ' H',Inv X pins σ' H' s'/\D.ct σ' H'
 | .ret u=>∃ v σ' H',Inv X pins σ' H' s'/\RelV v u/\D.rt v H'
def PE (X:Cx) (e:Expr) (t:TE):Prop :=
 ∀ (pins:Vd (Vk×Nd)) (s:Vh) (σ:St) (H:Hp) (Q:VK),Inv X pins σ H s->t σ H Q->Og (Oc X.prog X.w) X.A (VQ e X.env) (EP X pins σ Q) X.xe s
def PT (X:Cx) (e:Expr) (t:TT):Prop :=
 ∀ (pins:Vd (Vk×Nd)) (s:Vh) (σ:St) (H:Hp) (Q:V0->Hp->Prop),Inv X pins σ H s->t σ H Q->Og (Oc X.prog X.w) X.A (isTrue e X.env (VQ e X.env)) (TP X pins σ Q) X.xe s
def PW (X:Cx) (e:Expr) (t:TT):Prop :=
 ∀ (whole:MT Vi) (pins:Vd (Vk×Nd)) (s:Vh) (σ:St) (H:Hp) (Q:V0->Hp->Prop),Inv X pins σ H s->t σ H Q->Og (Oc X.prog X.w) X.A (isTrue e X.env whole) (TP X pins σ Q) X.xe s
theorem PW.pt (h:PW X e t):PT X e t:=h _
def PA (X:Cx) (es:Vd Expr) (t:TA):Prop :=
 ∀ (pos:MA) (pins:Vd (Vk×Nd)) (s:Vh) (σ:St) (H:Hp) (Q:Vd V->Hp->Prop),Inv X pins σ H s->t σ H Q->Og (Oc X.prog X.w) X.A (spliced (Ox pos (Oj es X.env))) (AP X pins σ Q) X.xe s
def PS (X:Cx) (st:V7) (t:TS):Prop :=
 ∀ (pins:Vd (Vk×Nd)) (s:Vh) (σ:St) (H:Hp) (D:Zhm),Inv X pins σ H s->t D σ H->Og (Oc X.prog X.w) X.A (exec st X.env) (SP X pins D) X.xe s
def PSs (X:Cx) (st:Vd V7) (t:TS):Prop :=
 ∀ (pins:Vd (Vk×Nd)) (s:Vh) (σ:St) (H:Hp) (D:Zhm),Inv X pins σ H s->t D σ H->Og (Oc X.prog X.w) X.A (execs st X.env) (SP X pins D) X.xe s
theorem thn {t:MT α} {Q Q'} (h:Og M A t Q E s) (hQ:∀ a s,Q a s->Q' a s):Og M A t Q' E s:=Oo h hQ fun _ _ x=>x
section
variable {X:Cx}
def ZnO (i:Vg):TE:=fun σ H Q=>∃ v,σ[i]?=some (some v)/\Q v H
def tC (v:V):TE:=fun _ H Q=>Q v H
theorem ZlA {pos} (hN:X.N[i]?=some x) (hv:Vis X.env.scope x) (hd:(x==("__debug__"))=false:=by decide) (hcd:(x==("__classdict__"))=false:=by decide):PE X (.Name x pos) (ZnO i):=by
 intro pins s σ H Q I h;have⟨v,e,h⟩:=h;have⟨m,hn,hl⟩:=I.loc;have⟨u,r,l⟩:=hl i x v hN e hv;have fin:EP X pins σ Q u s:=⟨v,H,I,r,h⟩
 rcases l with ⟨hk,hm⟩ | ⟨hk,c,hc,hcell⟩
 exact GF (MB I.ok.kind hk hn hm fin) hd;rcases hk with hk | hk
 exact GF (wpAny_loadName_cell I.ok.kind hk hc hcell fin) hd;exact GF (MN I.ok.kind hk hc hcell fin hcd) hd
theorem Zj:PE X (.Constant (.int i) j pos) (tC (.int i)):=fun _ _ _ H _ I h=>wpAny_Constant_int ⟨.int i,H,I.tok _,⟨_,rfl⟩,h⟩
theorem YN:PE X (.Constant (.bool b) j pos) (tC (.bl b)):=fun _ _ _ H _ I h=>Constant_bool ⟨.bl b,H,I,rfl,h⟩
theorem YH:PE X (.Constant .none j pos) (tC .non):=fun _ _ _ H _ I h=>Constant_none ⟨.non,H,I,rfl,h⟩
theorem Zar:PE X (.Constant (.str x) j pos) (tC (.str x)):=fun _ _ _ H _ I h=>Calls.Constant_str ⟨.str x,H,I.tok _,⟨_,rfl⟩,h⟩
def Gl (X:Cx) (x:Vl):Prop:=X.env.kindOf x=some .globalImplicit
theorem ZcZ {σ:St} (I:Inv X pins σ H s) (hg:Gl X x) (hm:X.mg x=some u) (h:Q u s)
  (hd:(x==("__debug__"))=false:=by decide):Og (Oc X.prog X.w) X.A (VQ (.Name x pos) X.env) Q E s :=
 NQ I.ok.kind hg (Calls.loadGlobal_global (by exact I.ok.glob▸I.mod.glob.keeps I.bk) hm h) hd
theorem XS {E} {σ:St} {pos} (I:Inv X pins σ H s) (hg:Gl X x) (hm:X.mg x=none) (hv:On x=some u) (h:Q u s)
  (hn:x≠"__name__":=by decide) (hd:(x==("__debug__"))=false:=by decide):Og (Oc X.prog X.w) X.A (VQ (.Name x pos) X.env) Q E s:=by
 have⟨mb,h1,h2⟩:=I.mod.blt;exact NQ I.ok.kind hg (Calls.loadGlobal_builtin (by exact I.ok.glob▸I.mod.glob.keeps I.bk) hm (by exact I.ok.blt▸h1.keeps I.bk) ((h2 x hn).trans hv) h) hd
theorem Zkf {pos} (hg:Gl X x) (hm:X.mg x=none) (hv:On x=some u) (r:RelV v u) (hn:x≠"__name__":=by decide) (hd:(x==("__debug__"))=false:=by decide):PE X (.Name x pos) (tC v) :=
 fun _ _ _ H _ I h=>XS I hg hm hv ⟨v,H,I,r,h⟩ hn hd
variable {a b:Expr} {ta tb:TE} {pos:MA}
def PC (X:Cx) (op:CmpOp) (a b:Expr) (t:TE):Prop :=
 ∀ (pins:Vd (Vk×Nd)) (s:Vh) (σ:St) (H:Hp) (Q:VK),Inv X pins σ H s->t σ H Q ->
  Og (Oc X.prog X.w) X.A (VQ a X.env) (fun v s₁=>Og (Oc X.prog X.w) X.A (VQ b X.env) (fun u s₂=>Og (Oc X.prog X.w) X.A (Oy op v u) (EP X pins σ Q) X.xe s₂) X.xe s₁) X.xe s
theorem Zh0 (b:Expr) {op:CmpOp} (h:op≠.In) (h2:op≠.NotIn):OS op b=false:=by
 have e1:(op==CmpOp.In)=false:=by cases op <;> first | rfl | exact Vo rfl h
 have e2:(op==CmpOp.NotIn)=false:=by cases op <;> first | rfl | exact Vo rfl h2
 cases b <;> simp[OS,e1,e2]
def tB (t:TE):TT:=fun σ H Q=>t σ H fun x H1=>∃ c,x= .bl c/\Q c H1
theorem ZdF (h:PC X op a b t) (h1:OS op b=false:=by first | exact Zh0 _ (by decide) (by decide) | rfl):PT X (.Compare a [op] [b] pos) (tB t):=by
 intro pins s σ H Q I hw;refine Mu (thn (h pins s σ H _ I hw) fun v s1 h1=>thn h1 fun u s2 h2=>thn h2 fun c s3 ⟨x,H1,I1,r1,q1⟩=>?_) h1;obtain⟨d,rfl,q⟩:=q1;cases r1;exact OG ⟨H1,I1,q⟩
theorem Yf (h:PE X e t) (he:∀ whole,isTrue e X.env whole=(do let v ←whole;GI e.pos;Ga [v] (truthy v)):=by intro _;rfl):PT X e (tB t):=by
 intro pins s σ H Q I hw;refine isTrue_plain (thn (h pins s σ H _ I hw) fun v s1 ⟨x,H1,I1,r1,q1⟩=>?_) (he _);obtain⟨d,rfl,q⟩:=q1;cases r1;exact OG ⟨H1,I1,q⟩
variable {tA tB':TT} {rest:Vd Expr}
def Zod (t u:TT):TT:=fun σ H Q=>t σ H fun c H1=>if c=true then u σ H1 Q else Q false H1
def tOr (t u:TT):TT:=fun σ H Q=>t σ H fun c H1=>if c=true then Q true H1 else u σ H1 Q
def Zn6 (t:TT):TT:=fun σ H Q=>t σ H fun c H1=>Q (!c) H1
theorem Zj1 (ha:PT X a tA):PW X (.BoolOp .And [a] pos) tA:=by
 intro wh pins s σ H Q I h;refine isTrue_and (thn (ha pins s σ H Q I h) fun c s1 e=>?_);cases c with
 | true=>exact isTrue_and_nil e
 | false=>grind
theorem JA (ha:PT X a tA):PW X (.BoolOp .Or [a] pos) tA:=by
 intro wh pins s σ H Q I h;refine isTrue_or (thn (ha pins s σ H Q I h) fun c s1 e=>?_);cases c with
 | false=>exact isTrue_or_nil e
 | true=>grind
theorem Zlu (ha:PT X a tA) (hb:PW X (.BoolOp .And (b::rest) pos) tB'):PW X (.BoolOp .And (a::b::rest) pos) (Zod tA tB'):=by
 intro wh pins s σ H Q I h;refine isTrue_and (thn (ha pins s σ H _ I h) fun c s1 ⟨H1,I1,q1⟩=>?_);cases c with
 | true=>exact hb wh pins s1 σ H1 Q I1 q1
 | false=>assumption
theorem Zae (ha:PT X a tA) (hb:PW X (.BoolOp .Or (b::rest) pos) tB'):PW X (.BoolOp .Or (a::b::rest) pos) (tOr tA tB'):=by
 intro wh pins s σ H Q I h;refine isTrue_or (thn (ha pins s σ H _ I h) fun c s1 ⟨H1,I1,q1⟩=>?_);cases c with
 | true=>assumption
 | false=>exact hb wh pins s1 σ H1 Q I1 q1
theorem Yx (ha:PT X a tA):PT X (.UnaryOp .Not a pos) (Zn6 tA):=by
 intro pins s σ H Q I h;exact isTrue_not (ha pins s σ H _ I h)
def Zm6 (ta tb:TE):TE:=fun σ H Q=>ta σ H fun x H1=>∃ c,x= .bl c/\if c=true then tb σ H1 Q else Q (.bl false) H1
def ZmZ (ta:TE):TE:=fun σ H Q=>ta σ H fun x H1=>∃ c,x= .bl c/\Q (.bl (!c)) H1
theorem Zi2 (h:PE X a t):PE X (.BoolOp op [a] pos) t:=fun pins s σ H Q I hw=>BoolOp_one (h pins s σ H Q I hw)
theorem Zi4 (ha:PE X a ta) (hb:PE X (.BoolOp .And (b::rest) pos) tb):PE X (.BoolOp .And (a::b::rest) pos) (Zm6 ta tb):=by
 intro pins s σ H Q I h;refine BoolOp_and (thn (ha pins s σ H _ I h) fun v s1 ⟨x,H1,I1,r1,q1⟩=>?_);obtain⟨c,rfl,q1⟩:=q1;cases r1;refine OG ?_;cases c with
 | true=>exact hb pins s1 σ H1 Q I1 q1
 | false=>exact⟨.bl false,H1,I1,rfl,q1⟩
theorem ZlC (ha:PE X a ta):PE X (.UnaryOp .Not a pos) (ZmZ ta):=by
 intro pins s σ H Q I h;refine UnaryOp_ (thn (ha pins s σ H _ I h) fun v s1 ⟨x,H1,I1,r1,q1⟩=>?_);obtain⟨c,rfl,q1⟩:=q1;cases r1;exact not_of (OG ⟨.bl _,H1,I1,rfl,q1⟩)
def tIf (t:TT) (ta tb:TE):TE:=fun σ H Q=>t σ H fun c H1=>if c=true then ta σ H1 Q else tb σ H1 Q
theorem ZhS (hc:PT X c tA) (ha:PE X a ta) (hb:PE X b tb):PE X (.IfExp c a b pos) (tIf tA ta tb):=by
 intro pins s σ H Q I h;refine wpAny_IfExp (thn (hc pins s σ H _ I h) fun d s1 ⟨H1,I1,q1⟩=>?_);cases d with
 | true=>exact ha pins s1 σ H1 Q I1 q1
 | false=>exact hb pins s1 σ H1 Q I1 q1
end
def SqL (K:Ve) (H:Hp) (a:Vk) (xs:Vd V):Prop :=
 Rd H a (.lst xs) \/
  ∃ (o:Nd) (its:Vm Vi) (n:Vg),K.lookup a=some o/\o.cls= .type "list"/\o.dict=none/\o.data= .seq its n/\its.size<=Of/\Vals xs its.toList
def SqT (K:Ve) (H:Hp) (a:Vk) (xs:Vd V):Prop :=
 Rd H a (.tup xs) \/
  ∃ (o:Nd) (its:Vm Vi) (n:Vg),K.lookup a=some o/\o.cls= .type "tuple"/\o.data= .seq its n/\its.size<=Of/\Vals xs its.toList
noncomputable def ZoA:Vi->Vj V
 | .none=>some .non
 | .bool b=>some (.bl b)
 | .int i _=>some (.int i)
 | .str x _=>some (.str x)
 | .bytes b _=>some (.byt b)
 | .float b _=>some (.flt b)
 | .ref a=>some (.ref a)
 | .type n=>some (.ty n)
 | _=>none
theorem RelV.abs (r:RelV x u):ZoA u=some x:=by
 cases x with
 | non=>cases r;rfl
 | bl _=>cases r;rfl
 | int _=>obtain⟨t,rfl⟩:=r;rfl
 | str _=>obtain⟨t,rfl⟩:=r;rfl
 | byt _=>obtain⟨t,rfl⟩:=r;rfl
 | flt _=>obtain⟨t,rfl⟩:=r;rfl
 | ref _=>cases r;rfl
 | ty _=>cases r;rfl
theorem RelV.inj (r:RelV x u) (q:RelV y u):x=y:=Vu (r.abs.symm.trans q.abs)
theorem Vals.inj:∀ {xs ys} {us},Vals xs us->Vals ys us->xs=ys
 | _,_,_,.nil,.nil=>rfl
 | _,_,_,.cons r t,.cons r' t'=>by rw[r.inj r',Vals.inj t t']
section
variable {X:Cx} {pins:Vd (Vk×Nd)} {σ:St} {H:Hp} {s:Vh} {a:Vk} {xs ys:Vd V}
theorem SqL.of {K} (h:H a=some (.lst xs)):SqL K H a xs:=.inl (.inl h)
theorem SqT.of {K} (h:H a=some (.tup xs)):SqT K H a xs:=.inl (.inl h)
theorem Inv.list (I:Inv X pins σ H s) (h:SqL X.K H a xs):∃ its,Vals xs its/\PlainL s.heap a its.toArray/\xs.length<=Of:=by
 rcases h with h | ⟨o,its,n,hk,hc,hd,hs,hz,r⟩
 obtain⟨z,its,n,r,e⟩:=h.ok I.hok;exact⟨its,r,⟨_,n,e,rfl,rfl,rfl⟩,z⟩;refine⟨_,r,⟨o,n,I.kIn a o hk,hc,hd,by omega⟩,?_⟩;have e:=r.length;simp[Qw]at e;exact Dk hz e
theorem Inv.tuple (I:Inv X pins σ H s) (h:SqT X.K H a xs):∃ its,Vals xs its/\IsTup s.heap a its.toArray/\xs.length<=Of:=by
 rcases h with h | ⟨o,its,n,hk,hc,hs,hz,r⟩
 obtain⟨z,its,r,p,_⟩:=h.ok I.hok;exact⟨its,r,p,z⟩;refine⟨_,r,⟨o,I.kIn a o hk,hc,n,by omega⟩,?_⟩;have e:=r.length;simp[Qw]at e;exact Dk hz e
theorem Inv.list_inj (I:Inv X pins σ H s) (h:SqL X.K H a xs) (h':SqL X.K H a ys):xs=ys:=by
 obtain⟨its,r,⟨o,n,e,_⟩,_⟩:=I.list h;obtain⟨its',r',⟨o',n',e',_⟩,_⟩:=I.list h';rw[e]at e';cases e';have:its=its':=by simp_all
 subst this;exact r.inj r'
theorem Inv.tuple_inj (I:Inv X pins σ H s) (h:SqT X.K H a xs) (h':SqT X.K H a ys):xs=ys:=by
 obtain⟨its,r,⟨o,e,_⟩,_⟩:=I.tuple h;obtain⟨its',r',⟨o',e',_,n',d'⟩,_⟩:=I.tuple h';rw[e]at e';cases e';have:its=its':=by simp_all
 subst this;exact r.inj r'
end
noncomputable abbrev Cx.wish (X:Cx) (E:Vi->Vh->Prop):Cx:={X with xe:=E}
noncomputable abbrev Cx.nox (X:Cx):Cx:=X.wish fun _ _=>False
theorem Cx.Ok.wish {X:Cx} (ok:X.Ok) (E):(X.wish E).Ok :=
 ⟨ok.mod,ok.kind,ok.glob,ok.blt,ok.above,ok.inj,ok.has,ok.cab,ok.hd,ok.frames,ok.stk,ok.exf,ok.bs,ok.bsz,ok.noex,ok.exfs,ok.funs,ok.frf⟩
theorem Cx.Ok.unwish {X:Cx} (ok:(X.wish E).Ok):X.Ok :=
 ⟨ok.mod,ok.kind,ok.glob,ok.blt,ok.above,ok.inj,ok.has,ok.cab,ok.hd,ok.frames,ok.stk,ok.exf,ok.bs,ok.bsz,ok.noex,ok.exfs,ok.funs,ok.frf⟩
section
variable {X:Cx} {pins:Vd (Vk×Nd)} {σ:St} {H:Hp} {s:Vh} {E:Vi->Vh->Prop}
theorem Inv.wish (I:Inv X pins σ H s) (E):Inv (X.wish E) pins σ H s:=⟨I.ok.wish E,I.os,I.bare,I.base,I.loc,I.cell,I.free,I.freeC,I.pin,I.hok,I.len⟩
theorem Inv.unwish (I:Inv (X.wish E) pins σ H s):Inv X pins σ H s:=⟨I.ok.unwish,I.os,I.bare,I.base,I.loc,I.cell,I.free,I.freeC,I.pin,I.hok,I.len⟩
theorem SP.unwish (h:SP (X.wish E) pins D f s'):SP X pins D f s':=by
 cases f with
 | next=>obtain⟨σ',H',I,q⟩:=h;exact⟨σ',H',I.unwish,q⟩
 | brk=>obtain⟨σ',H',I,q⟩:=h;exact⟨σ',H',I.unwish,q⟩
 | cont=>obtain⟨σ',H',I,q⟩:=h;exact⟨σ',H',I.unwish,q⟩
 | ret u=>obtain⟨v,σ',H',I,r,q⟩:=h;exact⟨v,σ',H',I.unwish,r,q⟩
theorem PSs.nox {st} (h:PSs X.nox st t):PSs X st t:=fun pins s σ H D I hw =>
 Oo (h pins s σ H D (I.wish _) hw) (fun _ _ q=>q.unwish) fun _ _ z=>NG z
end
section
variable {X:Cx} {st:V7} {rest:Vd V7} {t u:TS} {e:Expr} {te:TE} {pos:MA}
def ZjJ:TS:=fun D σ H=>D.nx σ H
def ZeR (t u:TS):TS:=fun D σ H=>t {D with nx:=u D} σ H
theorem ZF:PSs X [] ZjJ:=fun _ _ σ H _ I h=>Gi ⟨σ,H,I,h⟩
theorem Zd (h1:PS X st t) (h2:PSs X rest u):PSs X (st::rest) (ZeR t u):=by
 intro pins s σ H D I h;refine R7 (thn (h1 pins s σ H _ I h) fun f s1 q=>?_);cases f with
 | next =>
  obtain⟨σ',H',I',q⟩:=q;exact h2 pins s1 σ' H' D I' q
 | ret v=>exact q
 | brk=>exact q
 | cont=>exact q
theorem Zi (h1:PS X st t):PSs X [st] t:=by
 intro pins s σ H D I h;refine R7 (thn (h1 pins s σ H D I h) fun f s1 q=>?_);cases f with
 | next=>exact Gi q
 | ret v=>omega
 | brk=>omega
 | cont=>omega
theorem Inv.quiet {σ:St} (I:Inv X pins σ H s):interactive X.env=false:=by simp[interactive,I.ok.kind]
def Zm1 (te:TE):TS:=fun D σ H=>te σ H fun _ H1=>D.nx σ H1
theorem ZX (he:PE X e te) (hs:GB e none pos.line X.env=pure false:=by rfl):PS X (.Expr e pos) (Zm1 te):=by
 intro pins s σ H D I h;exact wpAny_Expr_any (thn (he pins s σ H _ I h) fun v s1 ⟨x,H1,I1,r1,q1⟩=>⟨σ,H1,I1,q1⟩) I.quiet hs
def Zn5 (te:TE):TS:=fun D σ H=>te σ H D.rt
theorem Zq (he:PE X e te):PS X (.Return (some e) pos) (Zn5 te):=by
 intro pins s σ H D I h;exact wpAny_Return_some (thn (he pins s σ H _ I h) fun v s1 ⟨x,H1,I1,r1,q1⟩=>⟨x,σ,H1,I1,r1,q1⟩)
def Zk1 (c:TT) (t u:TS):TS:=fun D σ H=>c σ H fun b H1=>if b=true then t D σ H1 else u D σ H1
theorem Yg (hc:PT X c tc) (ha:PSs X a t) (hb:PSs X b u):PS X (.If c a b pos) (Zk1 tc t u):=by
 intro pins s σ H D I h;refine wpAny_If (thn (hc pins s σ H _ I h) fun d s1 ⟨H1,I1,q1⟩=>?_);cases d with
 | true=>exact ha pins s1 σ H1 D I1 q1
 | false=>exact hb pins s1 σ H1 D I1 q1
end
abbrev TG:=V->St->Hp->(St->Hp->Prop)->Prop
abbrev TGs:=Vd V->St->Hp->(St->Hp->Prop)->Prop
def PG (X:Cx) (target:Expr) (t:TG):Prop :=
 ∀ (pins:Vd (Vk×Nd)) (s:Vh) (σ:St) (H:Hp) (v:V) (u:Vi) (Q:St->Hp->Prop),Inv X pins σ H s->RelV v u->t v σ H Q ->
  Og (Oc X.prog X.w) X.A (G8 target X.env u) (fun _ s'=>∃ σ' H',Inv X pins σ' H' s'/\Q σ' H') X.xe s
def PGs (X:Cx) (ts:Vd Expr) (t:TGs):Prop :=
 ∀ (pins:Vd (Vk×Nd)) (s:Vh) (σ:St) (H:Hp) (vs:Vd V) (us:Vd Vi) (Q:St->Hp->Prop),Inv X pins σ H s->Vals vs us->t vs σ H Q ->
  Og (Oc X.prog X.w) X.A (assignInOrder ((OJ ts X.env).map (·.2)) us) (fun _ s'=>∃ σ' H',Inv X pins σ' H' s'/\Q σ' H') X.xe s
abbrev ZnL:=V->V->V->Hp->(Hp->Prop)->Prop
def ZnM (X:Cx) (t:ZnL):Prop :=
 ∀ (pins:Vd (Vk×Nd)) (s:Vh) (σ:St) (H:Hp) (o i v:V) (ov iv u:Vi) (Q:Hp->Prop),Inv X pins σ H s->RelV o ov->RelV i iv->RelV v u->t o i v H Q ->
  Og (Oc X.prog X.w) X.A (Va ov iv u) (fun _ s'=>∃ H',Inv X pins σ H' s'/\Q H') X.xe s
abbrev TIp:=V->V->Hp->VK->Prop
def PIp (X:Cx) (op:Operator) (t:TIp):Prop :=
 ∀ (pins:Vd (Vk×Nd)) (s:Vh) (σ:St) (H:Hp) (x y:V) (v u:Vi) (Q:VK),Inv X pins σ H s->RelV x v->RelV y u->t x y H Q ->
  Og (Oc X.prog X.w) X.A (inplaceOp op v u) (EP X pins σ Q) X.xe s
section
variable {X:Cx} {pos:MA}
def Ji (i:Vg):TG:=fun v σ H Q=>Q (σ.set i (some v)) H
theorem Zx (hN:X.N.Nodup) (hi:X.N[i]?=some x) (hx:Loc X.env.scope x) (hf:X.fn x=true\/X.env.scope.names.lookup x=some .local:=by first | exact .inl rfl | exact .inr rfl | assumption):PG X (.Name x pos) (Ji i):=by
 intro pins s σ H v u Q I r h;exact NZ (Zdn I hN hi hx r (fun s' I'=>⟨_,H,I',h⟩) hf)
def Zos:TGs:=fun vs σ H Q=>vs=[]/\Q σ H
def Znz (t:TG) (u:TGs):TGs:=fun vs σ H Q=>∃ v r,vs=v::r/\t v σ H fun σ' H'=>u r σ' H' Q
theorem Z9:PGs X [] Zos:=by
 intro pins s σ H vs us Q I r h;obtain⟨rfl,h⟩:=h;cases r;exact assignInOrder_nil ⟨σ,H,I,h⟩
theorem Zt (h1:PG X e t) (h2:PGs X es u)
  (hs:(OJ (e::es) X.env).map (·.2)=G8 e X.env::(OJ es X.env).map (·.2):=by rfl):PGs X (e::es) (Znz t u):=by
 intro pins s σ H vs us Q I r h;obtain⟨v,vr,rfl,h⟩:=h;cases r with
 | cons r rr =>
  rw[hs];exact assignInOrder_cons (thn (h1 pins s σ H _ _ _ I r h) fun _ s1 ⟨σ1,H1,I1,q1⟩=>(h2 pins s1 σ1 H1 _ _ Q I1 rr q1))
def ZnW (K:Ve) (n:Vg) (t:TGs):TG:=fun v σ H Q=>∃ a xs,v= .ref a/\SqT K H a xs/\xs.length=n/\t xs σ H Q
theorem Zly {k} (hc:X.calm=true) (h:PGs X es t)
  (hn:(OJ es X.env).length=n:=by rfl) (hst:(OJ es X.env).findIdx? (·.1)=none:=by rfl):PG X (.Tuple es k pos) (ZnW X.K n t):=by
 intro pins s σ H v u Q I r hw;obtain⟨a,xs,rfl,hq,hl,hw⟩:=hw;cases r;have⟨its,rv,ht,_⟩:=I.tuple hq;exact assign_Tuple_tuple (I.ok.hd hc) ht (by simp[hn,←hl,rv.length]) hst fun h' hx=>(h pins _ σ H xs _ Q (I.kept (t':=s.toks) fun b o e=>hx b o (QB (Qn e)) e) (by omega) hw)
def Zor (to ti:TE) (t:ZnL):TG:=fun v σ H Q=>to σ H fun o H1=>ti σ H1 fun i H2=>t o i v H2 fun H3=>Q σ H3
theorem ZdH (ho:PE X o to) (hi:PE X i ti) (hs:ZnM X t)
  (ha:∀ v,G8 (.Subscript o i pos) X.env v=(do
   let ov ←Ga [v] (VQ o X.env)
   let iv ←Ga [v,ov] (VQ i X.env)
   GI pos
   Ga [v,ov,iv] (Va ov iv v)
   release [v,ov,iv] []):=by intro _;rfl):PG X (.Subscript o i pos) (Zor to ti t):=by
 intro pins s σ H v u Q I r h;exact Oa (Om (thn (ho pins s σ H _ I h) fun ov s1 ⟨x,H1,I1,r1,q1⟩=>(Oa (Om (thn (hi pins s1 σ H1 _ I1 q1) fun iv s2 ⟨y,H2,I2,r2,q2⟩=>(Oa (O3 (Oa (Om (thn (hs pins s2 σ H2 x y v ov iv u _ I2 r1 r2 r q2) fun _ s3 ⟨H3,I3,q3⟩=>(wpAny_release ⟨σ,H3,I3,q3⟩)))))))))))
def ZmN (te:TE) (g:TG):TS:=fun D σ H=>te σ H fun x H1=>g x σ H1 D.nx
theorem Zbz (he:PE X e te) (hg:PG X tg g) (hs:swapsWithSole [tg] e pos.line X.env=pure false:=by rfl) (hw:swappedStores [tg] e X.env=pure none:=by rfl)
  (h1:(OJ [tg] X.env).map (·.2)=[G8 tg X.env]:=by rfl):PS X (.Assign [tg] e pos) (ZmN te g):=by
 intro pins s σ H D I h;exact wpAny_Assign_stores (thn (he pins s σ H _ I h) fun v s1 ⟨x,H1,I1,r1,q1⟩=>(h1▸thn (hg pins s1 σ H1 x v _ I1 r1 q1) fun _ s2 q=>q)) hs hw
theorem Zm (hN:X.N.Nodup) (hi:X.N[i]?=some x) (hx:Loc X.env.scope x) (he:PE X e te) (hs:GB e (some (.Name x pos')) pos.line X.env=pure false:=by rfl) (hf:X.fn x=true\/X.env.scope.names.lookup x=some .local:=by first | exact .inl rfl | exact .inr rfl | assumption) :
  PS X (.Assign [.Name x pos'] e pos) (ZmN te (Ji i)):=by
 intro pins s σ H D I h;exact wpAny_Assign_Name (thn (he pins s σ H _ I h) fun v s1 ⟨y,H1,I1,r1,q1⟩=>(Zdn I1 hN hi hx r1 (fun s2 I2=>⟨_,H1,I2,q1⟩) hf)) hs
def Zm5 (to ti te:TE) (tget:V->V->Hp->VK->Prop) (tip:TIp) (tset:ZnL):TS:=fun D σ H=>to σ H fun o H1=>ti σ H1 fun i H2=>tget o i H2 fun x H3=>te σ H3 fun y H4=>tip x y H4 fun z H5=>tset o i z H5 fun H6=>D.nx σ H6
def ZnY (X:Cx) (t:V->V->Hp->VK->Prop):Prop :=
 ∀ (pins:Vd (Vk×Nd)) (s:Vh) (σ:St) (H:Hp) (o i:V) (ov iv:Vi) (Q:VK),Inv X pins σ H s->RelV o ov->RelV i iv->t o i H Q ->
  Og (Oc X.prog X.w) X.A (Gs ov iv) (EP X pins σ Q) X.xe s
theorem ZaU (ho:PE X o to) (hi:PE X i ti) (hg:ZnY X tget) (he:PE X e te) (hp:PIp X op tip) (hs:ZnM X tset)
  (ha:∀ ov iv new,augStore i ov iv new=(do Ga [new,ov,iv] (Va ov iv new);release [new,ov,iv] [];pure .next):=by intros;rfl):PS X (.AugAssign (.Subscript o i tpos) op e pos) (Zm5 to ti te tget tip tset):=by
 intro pins s σ H D I h;exact wpAny_AugAssign_SubscriptAny (thn (ho pins s σ H _ I h) fun ov s1 ⟨x1,H1,I1,r1,q1⟩=>(thn (hi pins s1 σ H1 _ I1 q1) fun iv s2 ⟨x2,H2,I2,r2,q2⟩=>(thn (hg pins s2 σ H2 x1 x2 ov iv _ I2 r1 r2 q2) fun old s3 ⟨x3,H3,I3,r3,q3⟩=>(thn (he pins s3 σ H3 _ I3 q3) fun v s4 ⟨x4,H4,I4,r4,q4⟩=>(thn (hp pins s4 σ H4 x3 x4 old v _ I4 r3 r4 q4) fun new s5 ⟨x5,H5,I5,r5,q5⟩=>(thn (hs pins s5 σ H5 x1 x2 x5 ov iv new _ I5 r1 r2 r5 q5) fun _ s6 ⟨H6,I6,q6⟩=>⟨σ,H6,I6,q6⟩)))))) ha
def ipI (f:Vs->Vs->Vs):TIp:=fun x y H Q=>∃ i j,x= .int i/\y= .int j/\Q (.int (f i j)) H
theorem Zjl:PIp X .Add (ipI fun i j=>i+j):=by
 intro pins s σ H x y v u Q I r1 r2 h;obtain⟨i,j,rfl,rfl,q⟩:=h;obtain⟨t,rfl⟩:=r1;obtain⟨t',rfl⟩:=r2;exact iadd_int ⟨.int _,H,I.tok _,⟨_,rfl⟩,q⟩
theorem Zjk:PIp X .Sub (ipI fun i j=>i-j):=by
 intro pins s σ H x y v u Q I r1 r2 h;obtain⟨i,j,rfl,rfl,q⟩:=h;obtain⟨t,rfl⟩:=r1;obtain⟨t',rfl⟩:=r2;exact isub_int ⟨.int _,H,I.tok _,⟨_,rfl⟩,q⟩
def Zbm (c:TT) (tb:TS):TS:=fun D σ H=>∃ W:Vg->St->Hp->Prop,(∃ m,W m σ H)/\∀ m σ H,W m σ H ->
 c σ H fun b H1=>if b=true then ∃ N:St->Hp->Prop,(∀ σ' H',N σ' H'->∃ m',m'<m/\W m' σ' H')/\tb {D with nx:=N,ct:=N,bk:=D.nx} σ H1 else D.nx σ H1
theorem Xe (hp:PassesOwn (Oc X.prog X.w) X.A X.env X.xe) (hc:PT X c tc) (hb:PSs X body tb):PS X (.While c body [] pos) (Zbm tc tb):=by
 intro pins s σ H D I h;obtain⟨W,⟨m0,w0⟩,turn⟩:=h;refine wpAny_While (codeAny_whileLoop (fun n s'=>∃ σ' H',Inv X pins σ' H' s'/\W n σ' H') ?_ m0 ⟨σ,H,I,w0⟩);rintro n s1 ⟨σ1,H1,I1,w1⟩;refine OM hp (thn (hc pins s1 σ1 H1 _ I1 (turn n σ1 H1 w1)) fun b s2 ⟨H2,I2,q2⟩=>?_);cases b with
 | true =>
  obtain⟨N,hN,q2⟩:=q2;refine OM hp (thn (hb pins s2 σ1 H2 _ I2 q2) fun f s3 q3=>?_);cases f with
  | next =>
   obtain⟨σ3,H3,I3,n3⟩:=q3;obtain⟨m',hm,w3⟩:=hN σ3 H3 n3;exact⟨m',hm,σ3,H3,I3,w3⟩
  | cont =>
   obtain⟨σ3,H3,I3,n3⟩:=q3;obtain⟨m',hm,w3⟩:=hN σ3 H3 n3;exact⟨m',hm,σ3,H3,I3,w3⟩
  | brk=>trivial
  | ret v=>trivial
 | false =>
  exact Gi ⟨σ1,H2,I2,q2⟩
end
structure It where
 go:Vg->Hp->Prop
 yld:Vg->Hp->V->Hp->Prop
 stop:Vg->Hp->Prop
def Xk (X:Cx) (pins:Vd (Vk×Nd)) (H:Hp) (b:Vk):Prop :=
 H b=none/\b≠X.env.locals/\b∉X.fs/\(b∈X.ex\/X.s₀.heap.objs.size<=b)/\(∀ x c,X.env.cells.lookup x=some c->c≠b)/\∀ p∈X.pn++pins,p.1≠b
theorem Inv.fpOk {σ:St} {b:Vk} (I:Inv X pins σ H s) (hb:s.heap.objs.size<=b) (hn:H' b=none):Xk X pins H' b:=by
 refine⟨hn,Ur (QL I.lt hb),I.nofs hb,.inr (QK I.sz hb),fun x c e z=>?_,fun p hp z=>?_⟩;obtain⟨v,q⟩:=I.cell x c e;exact Vo (QL q.lt (by simp_all)) (Q6 _);exact Vo (QL (Qn (I.pin p hp).1) (by simp_all)) (Q6 _)
structure Zhj (P:Oh) (w:Oi) (K:Ve) (tg:Expr) (J:It) (fp:Vd Vk) (it:Vk) (tn:Vg->Vz->Prop):Prop where
 mem:it∈fp
 obj:∀ i h,tn i h->∀ b∈fp,∃ o,h.get? b=some o/\∀ v,o.data≠.cell v
 keep:∀ i h h',tn i h->(∀ b∈fp,∀ o,h.get? b=some o->h'.get? b=some o)->tn i h'
 item:∀ (X:Cx),X.prog=P->X.w=w->X.K=K->X.calm=true->∀ (i:Vg) (pins:Vd (Vk×Nd)) (s:Vh) (σ:St) (H:Hp) (E:Vi->Vh->Prop),Inv X pins σ H s->(∀ b∈fp,Xk X pins H b)->tn i s.heap->J.go i H ->
  Og (Oc P w) X.A (GC (.ref it)) (fun r s1=>∃ u,r=some u /\
   Og (Oc P w) X.A (Gj tg (.ref it) u) (fun _ s2=>∃ x H',Inv X pins σ H' s2/\RelV x u/\J.yld i H x H'/\tn (i+1) s2.heap/\∀ b∈fp,H' b=none) E s1) E s
 done:∀ (X:Cx),X.prog=P->X.w=w->X.K=K->X.calm=true->∀ (i:Vg) (pins:Vd (Vk×Nd)) (s:Vh) (σ:St) (H:Hp) (E:Vi->Vh->Prop),Inv X pins σ H s->(∀ b∈fp,Xk X pins H b)->tn i s.heap->J.stop i H ->
  Og (Oc P w) X.A (GC (.ref it)) (fun r s1=>r=none/\Inv X pins σ H s1) E s
 self:∀ (A:VA) (i:Vg) (s:Vh) (Q:Vi->Vh->Prop) (E:Vi->Vh->Prop),tn i s.heap->Q (.ref it) s->Og (Oc P w) A (GL (.ref it)) Q E s
abbrev TI:=St->Hp->(It->Hp->Prop)->Prop
def PIE (X:Cx) (pins:Vd (Vk×Nd)) (σ:St) (tg:Expr) (R:It->Hp->Prop) (itv:Vi) (s2:Vh):Prop :=
 ∃ (it:Vk) (fp:Vd Vk) (tn:Vg->Vz->Prop) (J:It) (H':Hp),itv= .ref it/\Inv X pins σ H' s2/\Zhj X.prog X.w X.K tg J fp it tn/\tn 0 s2.heap/\(∀ b∈fp,Xk X pins H' b)/\R J H'
def PI (X:Cx) (tg iter:Expr) (wi:TI):Prop :=
 ∀ (pins:Vd (Vk×Nd)) (s:Vh) (σ:St) (H:Hp) (R:It->Hp->Prop),Inv X pins σ H s->wi σ H R ->
  Og (Oc X.prog X.w) X.A (VQ iter X.env) (fun v s1=>Og (Oc X.prog X.w) X.A (GL v) (PIE X pins σ tg R) X.xe s1) X.xe s
theorem ZgO (ho:s.heap.get? it=some o) (hc:o.cls= .type n) (hd:o.data= .fields vs)
  (hn:["enumerate","zip","dict_itemiterator","dict_reverseitemiterator","odict_iterator","itertools.zip_longest","itertools.pairwise"].contains n=false) (hQ:Q () s):Og M A (Gj tg (.ref it) u) Q E s:=by
 cases tg <;> first
  | exact Ob hQ
  | (cases u <;> first
    | exact Ob hQ
    | (refine Oa (GX ho ?_)
       rw[hc,hd];show Og M A (if (["enumerate","zip","dict_itemiterator","dict_reverseitemiterator","odict_iterator","itertools.zip_longest","itertools.pairwise"].contains n&&vs[0]? == some _)=true then _ else _) Q E s;rw[if_neg (by intro h;simp_all)];exact Ob hQ))
def Itl (K:Ve) (a:Vk):It :=
 ⟨fun i H=>∃ xs x,SqL K H a xs/\xs[i]?=some x,fun i H x H'=>H'=H/\∀ xs,SqL K H a xs->xs[i]?=some x,fun i H=>∃ xs,SqL K H a xs/\xs.length<=i⟩
noncomputable def Itt (K:Ve) (a:Vk):It :=
 ⟨fun i H=>∃ xs x,SqT K H a xs/\xs[i]?=some x,fun i H x H'=>H'=H/\∀ xs,SqT K H a xs->xs[i]?=some x,fun i H=>∃ xs,SqT K H a xs/\xs.length<=i⟩
def Itr (lo:Vs) (n:Vg):It:=⟨fun i _=>i<n,fun i H x H'=>H'=H/\x= .int (lo+i),fun i _=>n<=i⟩
theorem ZeY {K} (a it):Zhj P w K tg (Itl K a) [it] it (fun i h=>h.IsListIter it a i) where
 mem:=by simp
 obj:=fun i h st b hb=>by
  have e:b=it:=by simp_all
  subst e;have⟨o,e,c,d⟩:=st;exact⟨o,e,fun v z=>by simp_all⟩
 keep:=fun i h h' st k=>st.at fun o e=>k it (by simp) o e
 item:=by
  intro X hP hw hK hc i pins s σ H E I hf st hg;subst hP hw hK;have⟨xs,x,hq,hx⟩:=hg;have⟨its,rv,p,hz⟩:=I.list hq;have⟨u,hu,ru⟩:=rv.get hx;have⟨f0,f1,f2,f3,f4,f5⟩:=hf it (by simp);refine wpAny_pyNext_list_item st p.isList (by simpa using hu) fun h' st' sb=>?_;have⟨o,e,c,d⟩:=id st';exact⟨u,rfl,ZgO e c d (by decide) ⟨x,H,(I.turned (t':=s.toks) (fun b o hb e=>(sb.2 b hb).trans e) f0 f1 f3 f4 f5),ru,⟨rfl,fun ys hy=>by rw[I.list_inj hy hq];omega⟩,st',fun b hb=>(hf b hb).1⟩⟩
 done:=by
  intro X hP hw hK hc i pins s σ H E I hf st hg;subst hP hw hK;have⟨xs,hq,_⟩:=hg;have⟨its,rv,p,_⟩:=I.list hq;have⟨f0,f1,f2,f3,f4,f5⟩:=hf it (by simp);have hl:=rv.length;exact wpAny_pyNext_list_end (I.ok.hd hc) st p.isList (by simp;exact Kd ‹_› hl) fun h' eb=>⟨rfl,I.turned (fun b o hb e=>eb b o hb e) f0 f1 f3 f4 f5⟩
 self:=fun _ _ _ _ _ st h=>wpAny_pyIter_listiter st h
theorem Zec {K} (a it):Zhj P w K tg (Itt K a) [it] it (fun i h=>h.IsTupleIter it a i) where
 mem:=by simp
 obj:=fun i h st b hb=>by
  have e:b=it:=by simp_all
  subst e;have⟨o,e,c,d⟩:=st;exact⟨o,e,fun v z=>by simp_all⟩
 keep:=fun i h h' st k=>st.at fun o e=>k it (by simp) o e
 item:=by
  intro X hP hw hK hc i pins s σ H E I hf st hg;subst hP hw hK;have⟨xs,x,hq,hx⟩:=hg;have⟨its,rv,p,hz⟩:=I.tuple hq;have⟨u,hu,ru⟩:=rv.get hx;have⟨f0,f1,f2,f3,f4,f5⟩:=hf it (by simp);refine wpAny_pyNext_tuple_item st p (by simpa using hu) fun h' st' sb=>?_;have⟨o,e,c,d⟩:=id st';exact⟨u,rfl,ZgO e c d (by decide) ⟨x,H,(I.turned (t':=s.toks) (fun b o hb e=>(sb.2 b hb).trans e) f0 f1 f3 f4 f5),ru,⟨rfl,fun ys hy=>by rw[I.tuple_inj hy hq];omega⟩,st',fun b hb=>(hf b hb).1⟩⟩
 done:=by
  intro X hP hw hK hc i pins s σ H E I hf st hg;subst hP hw hK;have⟨xs,hq,_⟩:=hg;have⟨its,rv,p,_⟩:=I.tuple hq;have⟨f0,f1,f2,f3,f4,f5⟩:=hf it (by simp);have hl:=rv.length;exact wpAny_pyNext_tuple_end (I.ok.hd hc) st p (by simp;exact Kd ‹_› hl) fun h' eb=>⟨rfl,I.turned (fun b o hb e=>eb b o hb e) f0 f1 f3 f4 f5⟩
 self:=fun _ _ _ _ _ st h=>wpAny_pyIter_tupleiter st h
theorem Zed {K} (it) (lo) (n):Zhj P w K tg (Itr lo n) [it] it (fun i h=>IsRangeIter h it (lo+i*1) (n-i) 1) where
 mem:=by simp
 obj:=fun i h st b hb=>by
  have e:b=it:=by simp_all
  subst e;exact⟨_,st,fun v z=>by
   simp_all⟩
 keep:=fun i h h' st k=>k it (by simp) _ st
 item:=by
  intro X hP hw hK hc i pins s σ H E I hf st hg;subst hP hw hK;have⟨f0,f1,f2,f3,f4,f5⟩:=hf it (by simp);refine(Walks.range (prog:=X.prog) (w:=X.w) (I.ok.hd hc) it lo 1 n).item i s _ _ hg st fun v h' tk hv st' kk=>?_;obtain⟨t,rfl⟩:=hv;have I1:Inv X pins σ H {s with heap:=h',toks:=tk}:=I.turned (fun b o hb e=>kk b o (by simpa using hb) e) f0 f1 f3 f4 f5;exact⟨_,rfl,ZgO st' rfl rfl (by decide) ⟨.int _,H,I1,⟨t,(by simp)⟩,⟨rfl,rfl⟩,st',fun b hb=>(hf b hb).1⟩⟩
 done:=by
  intro X hP hw hK hc i pins s σ H E I hf st hg;have⟨f0,f1,f2,f3,f4,f5⟩:=hf it (by simp);exact Mc (I.ok.hd hc) st (by have:n<=i:=hg;exact Ff this) fun h' eb=>⟨rfl,I.turned (fun b o hb e=>eb b o hb e) f0 f1 f3 f4 f5⟩
 self:=fun _ _ _ _ _ st h=>Md st h
section
variable {X:Cx} {tg:Expr}
def Zmo (K:Ve) (tl:TE):TI:=fun σ H R=>tl σ H fun x H1=>∃ a,x= .ref a/\(∃ xs,SqL K H1 a xs)/\R (Itl K a) H1
def Zop (K:Ve) (tl:TE):TI:=fun σ H R=>tl σ H fun x H1=>∃ a,x= .ref a/\(∃ xs,SqT K H1 a xs)/\R (Itt K a) H1
theorem YF (hl:PE X l tl):PI X tg l (Zmo X.K tl):=by
 intro pins s σ H R I h;refine thn (hl pins s σ H _ I h) fun v s1 ⟨x,H1,I1,r1,q1⟩=>?_;obtain⟨a,rfl,⟨xs,hq⟩,q⟩:=q1;cases r1;obtain⟨its,rv,p,_⟩:=I1.list hq;refine Gb p.isList ⟨_,_,_,_,H1,rfl,I1.kept fun b o e=>Qc _ e,ZeY a _,⟨_,Qm _ rfl,rfl,rfl⟩,fun b hb=>?_,q⟩;have e:b=s1.heap.objs.size:=by simp_all
 subst e;exact I1.fpOk (Qg _) (I1.hok.fresh (Qg _))
theorem Y3 (hl:PE X l tl):PI X tg l (Zop X.K tl):=by
 intro pins s σ H R I h;refine thn (hl pins s σ H _ I h) fun v s1 ⟨x,H1,I1,r1,q1⟩=>?_;obtain⟨a,rfl,⟨xs,hq⟩,q⟩:=q1;cases r1;have⟨its,rv,p,_⟩:=I1.tuple hq;refine wpAny_pyIter_tuple p ⟨_,_,_,_,H1,rfl,I1.kept fun b o e=>Qc _ e,Zec a _,⟨_,Qm _ rfl,rfl,rfl⟩,fun b hb=>?_,q⟩;have e:b=s1.heap.objs.size:=by simp_all
 subst e;exact I1.fpOk (Qg _) (I1.hok.fresh (Qg _))
theorem ZhJ {σ:St} {lo hi} (I:Inv X pins σ H s) (h1 : -(2 ^ 62)<=lo) (h2:lo<2 ^ 62) (h3 : -(2 ^ 62)<=hi) (h4:hi<2 ^ 62)
  (q:R (Itr lo (hi-lo).toNat) H):Og (Oc X.prog X.w) X.A (GL (.ref s.heap.objs.size)) (PIE X pins σ tg R) E {s with heap:=s.heap.push {cls:=.type "range",data:=.fields #[.int lo t,.int hi u,.int 1 v]},toks:=tk}:=by
 refine M0 (IsRange.new ..) (small_one h1 h2 h3 h4) ?_;have I1:Inv X pins σ H {s with heap:=s.heap.push {cls:=.type "range",data:=.fields #[.int lo t,.int hi u,.int 1 v]},toks:=tk}:=I.kept fun b o e=>Qc _ e;refine⟨_,_,_,_,H,rfl,
  I1.kept fun b o e=>Qc _ e,Zed _ lo _,?_,fun b hb=>?_,q⟩
 have e1:lo+((0:Vg))*1=lo:=by simp
 have e2:(((hi-lo).toNat:Vg))-((0:Vg))=Builtin.Range.rangeSize lo hi 1:=by rw[rangeSize_one];lia
 rw[e1,e2];exact Qm _ rfl;have e:b=(s.heap.push {cls:=.type "range",data:=.fields #[.int lo t,.int hi u,.int 1 v]}).objs.size:=by simpa using hb
 subst e;exact I1.fpOk (Qg _) (I1.hok.fresh (Qg _))
def Znv (ta:TA):TI:=fun σ H R=>ta σ H fun vs H1=>∃ j:Vs,vs=[.int j]/\-(2 ^ 62)<=j/\j<2 ^ 62/\R (Itr 0 j.toNat) H1
theorem Yq (hg:Gl X "range") (hm:X.mg "range" = none) (ha:PA X [a] ta) (hs:Oj [a] X.env=[(false,VQ a X.env)]:=by rfl):PI X tg (.Call (.Name "range" p) [a] [] pos) (Znv ta):=by
 intro pins s σ H R I h;refine Call_ (XS I hg hm boot_range (VJ (thn (ha pos pins s σ H _ I h) fun us s1 ⟨vs,H1,I1,r1,q1⟩=>?_) hs rfl));obtain⟨j,rfl,q1,q2,q⟩:=q1;cases r1 with
 | cons r rr =>
  cases rr;obtain⟨t,rfl⟩:=r;exact call_range_1 (ZhJ I1 (by omega) (by omega) q1 q2 (by simpa using q))
def Zoa (wi:TI) (g:TG) (tb:TS):TS:=fun D σ H=>wi σ H fun J H1=>∃ W:Vg->Vg->St->Hp->Prop,(∃ m,W 0 m σ H1)/\∀ i m σ H,W i m σ H ->
 (J.stop i H/\D.nx σ H)\/(J.go i H/\∃ N:St->Hp->Prop,(∀ σ' H',N σ' H'->∃ m',m'<m/\W (i+1) m' σ' H')/\∀ x H',J.yld i H x H'->g x σ H' fun σ2 H2=>tb {D with nx:=N,ct:=N,bk:=D.nx} σ2 H2)
noncomputable def ZbA (fp:Vd Vk) (h:Vz):Vd (Vk×Nd):=fp.filterMap fun b=>(h.get? b).map fun o=>(b,o)
theorem Yn (hb:b∈fp) (e:h.get? b=some o):(b,o)∈ZbA fp h:=UP.mpr ⟨b,hb,by rw[e];rfl⟩
theorem Zf9 (hp:p∈ZbA fp h):p.1∈fp/\h.get? p.1=some p.2:=by
 obtain⟨b,hb,e⟩:=UP.mp hp;cases q:h.get? b with
 | none=>simp_all
 | some o =>
  rw[q]at e;have e':=Vu e;subst e';exact⟨hb,q⟩
theorem Inv.pinned {σ:St} (I:Inv X pins σ H s) (hf:∀ b∈fp,Xk X pins H b) (ho:∀ b∈fp,∃ o,s.heap.get? b=some o/\∀ v,o.data≠.cell v):Inv X (pins++ZbA fp s.heap) σ H s :=
 I.pins_of fun p hp=>(QD.mp hp).elim (fun z=>I.pin p (QF _ z)) fun z=>by
  obtain⟨hb,e⟩:=Zf9 z;obtain⟨f0,f1,f2,_⟩:=hf p.1 hb;obtain⟨o,e',d⟩:=ho p.1 hb;rw[e]at e';cases e';exact⟨e,f0,f1,f2,d⟩
theorem Inv.unpinned {σ:St} (I:Inv X (pins++pl) σ H s):Inv X pins σ H s:=I.pins_of fun p hp=>I.pin p (QF _ (QI _ hp))
theorem Z8 (hp:PassesOwn (Oc X.prog X.w) X.A X.env X.xe) (hc:X.calm=true) (hi:PI X tg iter wi) (hg:PG X tg g) (hb:PSs X body tb)
  (hs:∀ x,Gc iter X.env x=pure x:=by intro _;rfl):PS X (.For tg iter body [] pos) (Zoa wi g tb):=by
 intro pins s σ H D I h;refine wpAny_For (thn (hi pins s σ H _ I h) fun v s1 h1=>thn h1 fun itv s2 h2=>?_) hs;obtain⟨it,fp,tn,J,H2,e,I2,T,st2,f2,W,⟨m0,w0⟩,turn⟩:=h2;subst e
 -- what stays true of the iterator's objects through the loop
 have stat:∀ {H':Hp},(∀ b∈fp,H' b=none)->∀ b∈fp,Xk X pins H' b:=fun hn b hb=>⟨hn b hb,(f2 b hb).2⟩
 refine codeAny_forLoop_any (fun n s'=>∃ i σ' H',Inv X pins σ' H' s'/\tn i s'.heap/\(∀ b∈fp,H' b=none)/\W i n σ' H') ?_ m0 ⟨0,σ,H2,I2,st2,fun b hb=>(f2 b hb).1,w0⟩;rintro n s3 ⟨i,σ3,H3,I3,st3,fr3,w3⟩;rcases turn i n σ3 H3 w3 with ⟨stop,qn⟩ | ⟨go,N,hN,step⟩
 ·refine OM hp (thn (T.done X rfl rfl rfl hc i pins s3 σ3 H3 X.xe I3 (stat fr3) st3 stop) fun r s4 ⟨hr,I4⟩=>?_);subst hr;exact Gi ⟨σ3,H3,I4,qn⟩
 ·refine OM hp (thn (T.item X rfl rfl rfl hc i pins s3 σ3 H3 X.xe I3 (stat fr3) st3 go) fun r s4 ⟨u,hr,h4⟩=>?_);subst hr;refine OM hp (thn h4 fun _ s5 ⟨x,H5,I5,r5,y5,st5,fr5⟩=>?_);have I5':=I5.pinned (stat fr5) (T.obj _ _ st5);refine OM hp (thn (hg _ s5 σ3 H5 x u _ I5' r5 (step x H5 y5)) fun _ s6 ⟨σ6,H6,I6,q6⟩=>?_);refine OM hp (thn (hb _ s6 σ6 H6 _ I6 q6) fun f s7 q7=>?_);have again:∀ {σ7:St} {H7:Hp},Inv X _ σ7 H7 s7->N σ7 H7->∃ m,m<n/\∃ i σ' H',Inv X pins σ' H' s7/\tn i s7.heap/\(∀ b∈fp,H' b=none)/\W i m σ' H':=fun {σ7 H7} I7 n7=>by
   obtain⟨m',hm,w7⟩:=hN σ7 H7 n7;refine⟨m',hm,i+1,σ7,H7,I7.unpinned,T.keep _ _ _ st5 fun b hb o e=>(I7.pin (b,o) (QF _ (QF _ (Yn hb e)))).1,fun b hb=>?_,w7⟩;obtain⟨o,e,d⟩:=T.obj _ _ st5 b hb;exact(I7.pin (b,o) (QF _ (QF _ (Yn hb e)))).2.1
  cases f with
  | next=>obtain⟨σ7,H7,I7,n7⟩:=q7;exact again I7 n7
  | cont=>obtain⟨σ7,H7,I7,n7⟩:=q7;exact again I7 n7
  | brk=>obtain⟨σ7,H7,I7,q7⟩:=q7;exact⟨σ7,H7,I7.unpinned,q7⟩
  | ret v=>obtain⟨x7,σ7,H7,I7,r7,q7⟩:=q7;exact⟨x7,σ7,H7,I7.unpinned,r7,q7⟩
end
theorem Zba {K} {g:TG} {tb:TS} {D:Zhm} (Pv:Vg->St->Hp->Prop) (h0:Pv 0 σ H) (hl:∀ i σ H,i<=xs.length->Pv i σ H->SqL K H a xs)
  (hs:∀ i x σ H,xs[i]?=some x->Pv i σ H->g x σ H fun σ2 H2=>tb {D with nx:=Pv (i+1),ct:=Pv (i+1),bk:=D.nx} σ2 H2) (hd:∀ σ H,Pv xs.length σ H->D.nx σ H) :
  ∃ W:Vg->Vg->St->Hp->Prop,(∃ m,W 0 m σ H)/\∀ i m σ H,W i m σ H ->
   ((Itl K a).stop i H/\D.nx σ H)\/((Itl K a).go i H/\∃ N,(∀ σ' H',N σ' H'->∃ m',m'<m/\W (i+1) m' σ' H')/\∀ x H',(Itl K a).yld i H x H'->g x σ H' fun σ2 H2=>tb {D with nx:=N,ct:=N,bk:=D.nx} σ2 H2):=by
 refine⟨fun i m σ H=>m=xs.length-i/\i<=xs.length/\Pv i σ H,⟨xs.length,by simp,QQ _,h0⟩,?_⟩;rintro i m σ H ⟨rfl,hi,p⟩;have q:=hl i σ H hi p;by_cases hlt:i<xs.length
 refine .inr ⟨⟨xs,xs[i],q,by simp⟩,_,fun σ' H' p'=>⟨_,Kv hlt,rfl,hlt,p'⟩,fun x H' y=>?_⟩;obtain⟨e,y⟩:=y
 grind
 have e:i=xs.length:=Kw hi hlt
 subst e;exact .inl ⟨⟨xs,q,Qg _⟩,hd σ H p⟩
theorem XC {K} {g:TG} {tb:TS} {D:Zhm} (Pv:Vg->St->Hp->Prop) (h0:Pv 0 σ H) (hl:∀ i σ H,i<=xs.length->Pv i σ H->SqT K H a xs)
  (hs:∀ i x σ H,xs[i]?=some x->Pv i σ H->g x σ H fun σ2 H2=>tb {D with nx:=Pv (i+1),ct:=Pv (i+1),bk:=D.nx} σ2 H2) (hd:∀ σ H,Pv xs.length σ H->D.nx σ H) :
  ∃ W:Vg->Vg->St->Hp->Prop,(∃ m,W 0 m σ H)/\∀ i m σ H,W i m σ H ->
   ((Itt K a).stop i H/\D.nx σ H)\/((Itt K a).go i H/\∃ N,(∀ σ' H',N σ' H'->∃ m',m'<m/\W (i+1) m' σ' H')/\∀ x H',(Itt K a).yld i H x H'->g x σ H' fun σ2 H2=>tb {D with nx:=N,ct:=N,bk:=D.nx} σ2 H2):=by
 refine⟨fun i m σ H=>m=xs.length-i/\i<=xs.length/\Pv i σ H,⟨xs.length,by simp,QQ _,h0⟩,?_⟩;rintro i m σ H ⟨rfl,hi,p⟩;have q:=hl i σ H hi p;by_cases hlt:i<xs.length
 refine .inr ⟨⟨xs,xs[i],q,by simp⟩,_,fun σ' H' p'=>⟨_,Kv hlt,rfl,hlt,p'⟩,fun x H' y=>?_⟩;obtain⟨e,y⟩:=y
 grind
 have e:i=xs.length:=Kw hi hlt
 subst e;exact .inl ⟨⟨xs,q,Qg _⟩,hd σ H p⟩
theorem Y9 {lo} {g:TG} {tb:TS} {D:Zhm} (Pv:Vg->St->Hp->Prop) (h0:Pv 0 σ H)
  (hs:∀ i σ H,i<n->Pv i σ H->g (.int (lo+i)) σ H fun σ2 H2=>tb {D with nx:=Pv (i+1),ct:=Pv (i+1),bk:=D.nx} σ2 H2) (hd:∀ σ H,Pv n σ H->D.nx σ H) :
  ∃ W:Vg->Vg->St->Hp->Prop,(∃ m,W 0 m σ H)/\∀ i m σ H,W i m σ H ->
   ((Itr lo n).stop i H/\D.nx σ H)\/((Itr lo n).go i H/\∃ N,(∀ σ' H',N σ' H'->∃ m',m'<m/\W (i+1) m' σ' H')/\∀ x H',(Itr lo n).yld i H x H'->g x σ H' fun σ2 H2=>tb {D with nx:=N,ct:=N,bk:=D.nx} σ2 H2):=by
 refine⟨fun i m σ H=>m=n-i/\i<=n/\Pv i σ H,⟨n,by simp,QQ _,h0⟩,?_⟩;rintro i m σ H ⟨rfl,hi,p⟩;by_cases hlt:i<n
 refine .inr ⟨hlt,_,fun σ' H' p'=>⟨_,Kv hlt,rfl,hlt,p'⟩,fun x H' y=>?_⟩;obtain⟨e,y⟩:=y
 simp_all
 have e:i=n:=Kw hi hlt
 subst e;exact .inl ⟨Qg _,hd σ H p⟩
abbrev R2:=V->V->Hp->VK->Prop
def OpR (X:Cx) (f:Vi->Vi->MT Vi) (r:R2):Prop :=
 ∀ (pins:Vd (Vk×Nd)) (s:Vh) (σ:St) (H:Hp) (x y:V) (v u:Vi) (Q:VK),Inv X pins σ H s->RelV x v->RelV y u->r x y H Q ->
  Og (Oc X.prog X.w) X.A (f v u) (EP X pins σ Q) X.xe s
def UnR (X:Cx) (f:Vi->MT Vi) (r:V->Hp->VK->Prop):Prop :=
 ∀ (pins:Vd (Vk×Nd)) (s:Vh) (σ:St) (H:Hp) (x:V) (v:Vi) (Q:VK),Inv X pins σ H s->RelV x v->r x H Q ->
  Og (Oc X.prog X.w) X.A (f v) (EP X pins σ Q) X.xe s
def CallR (X:Cx) (f:Vi) (r:Vd V->Hp->VK->Prop):Prop :=
 ∀ (pins:Vd (Vk×Nd)) (s:Vh) (σ:St) (H:Hp) (xs:Vd V) (us:Vd Vi) (Q:VK),Inv X pins σ H s->Vals xs us->r xs H Q ->
  Og (Oc X.prog X.w) X.A (call f us) (EP X pins σ Q) X.xe s
def tOp (r:R2) (ta tb:TE):TE:=fun σ H Q=>ta σ H fun x H1=>tb σ H1 fun y H2=>r x y H2 Q
def tUn (r:V->Hp->VK->Prop) (ta:TE):TE:=fun σ H Q=>ta σ H fun x H1=>r x H1 Q
def rI (C:Vs->Vs->Prop) (g:Vs->Vs->V):R2:=fun x y H Q=>∃ i j,x= .int i/\y= .int j/\C i j/\Q (g i j) H
def rI0 (g:Vs->Vs->V):R2:=fun x y H Q=>∃ i j,x= .int i/\y= .int j/\Q (g i j) H
def rU (g:Vs->V):V->Hp->VK->Prop:=fun x H Q=>∃ i,x= .int i/\Q (g i) H
section
variable {X:Cx} {a b c:Expr} {ta tb tc:TE} {pos:MA}
theorem ZnE (ha:PE X a ta) (hb:PE X b tb) {σ:St} {R:V->V->Hp->Prop} (I:Inv X pins σ H s)
  (h:ta σ H fun x H1=>tb σ H1 fun y H2=>R x y H2) {f:Vi->Vi->MT Vi}
  (hf:∀ v u s2 x y H2,Inv X pins σ H2 s2->RelV x v->RelV y u->R x y H2->Og (Oc X.prog X.w) X.A (f v u) Q X.xe s2) :
  Og (Oc X.prog X.w) X.A (VQ a X.env) (fun v s₁=>Og (Oc X.prog X.w) X.A (VQ b X.env) (fun u s₂=>Og (Oc X.prog X.w) X.A (f v u) Q X.xe s₂) X.xe s₁) X.xe s:=by
 exact thn (ha pins s σ H _ I h) fun v s1 ⟨x,H1,I1,r1,q1⟩=>(thn (hb pins s1 σ H1 _ I1 q1) fun u s2 ⟨y,H2,I2,r2,q2⟩=>(hf v u s2 x y H2 I2 r1 r2 q2))
theorem Zp (ho:OpR X (OV op) r) (ha:PE X a ta) (hb:PE X b tb):PE X (.BinOp a op b pos) (tOp r ta tb):=by
 intro pins s σ H Q I h;exact wpAny_BinOp (ZnE ha hb I h fun v u s2 x y H2 I2 rx ry q=>ho pins s2 σ H2 x y v u Q I2 rx ry q)
theorem Jh (ho:UnR X (unaryOp op) r) (ha:PE X a ta):PE X (.UnaryOp op a pos) (tUn r ta):=by
 intro pins s σ H Q I h;exact UnaryOp_ (thn (ha pins s σ H _ I h) fun v s1 ⟨x,H1,I1,r1,q1⟩=>ho pins s1 σ H1 x v Q I1 r1 q1)
theorem opI {g:Vs->Vs->Vs}
  (rule:∀ (i j) (t u) (s) (Q) (E),C i j->Q (.int (g i j) s.toks) {s with toks:=s.toks+1}->Og (Oc X.prog X.w) X.A (f (.int i t) (.int j u)) Q E s) :
  OpR X f (rI C fun i j=>.int (g i j)):=by
 intro pins s σ H x y v u Q I rx ry h;obtain⟨i,j,rfl,rfl,hc,q⟩:=h;obtain⟨t,rfl⟩:=rx;obtain⟨t',rfl⟩:=ry;exact rule i j t t' s _ _ hc ⟨.int _,H,I.tok _,⟨_,rfl⟩,q⟩
theorem ZnU {g:Vs->Vs->Vs}
  (rule:∀ (i j) (t u) (s) (Q) (E),Q (.int (g i j) s.toks) {s with toks:=s.toks+1}->Og (Oc X.prog X.w) X.A (f (.int i t) (.int j u)) Q E s) :
  OpR X f (rI0 fun i j=>.int (g i j)):=by
 intro pins s σ H x y v u Q I rx ry h;obtain⟨i,j,rfl,rfl,q⟩:=h;obtain⟨t,rfl⟩:=rx;obtain⟨t',rfl⟩:=ry;exact rule i j t t' s _ _ ⟨.int _,H,I.tok _,⟨_,rfl⟩,q⟩
theorem Znj {g:Vs->Vs->V0}
  (rule:∀ (i j) (t u) (s) (Q) (E),Q (.bool (g i j)) s->Og (Oc X.prog X.w) X.A (f (.int i t) (.int j u)) Q E s) :
  OpR X f (rI0 fun i j=>.bl (g i j)):=by
 intro pins s σ H x y v u Q I rx ry h;obtain⟨i,j,rfl,rfl,q⟩:=h;obtain⟨t,rfl⟩:=rx;obtain⟨t',rfl⟩:=ry;exact rule i j t t' s _ _ ⟨.bl _,H,I,rfl,q⟩
def ZoI (i j:Vs):Prop:=0<j/\j<1073741824
def ZoH (i j:Vs):Prop:=0<=j/\j<=1000000/\i.natAbs<2 ^ 64
def CMul (i j:Vs):Prop:=(-(2 ^ 64)<i/\i<2 ^ 64)\/(-(2 ^ 64)<j/\j<2 ^ 64)
theorem CMul.ok (h:CMul i j):IntMulOk i j:=by
 rcases h with ⟨h1,h2⟩ | ⟨h1,h2⟩
 exact .of_left (intBits_le_64 h1 h2);exact .of_right (intBits_le_64 h1 h2)
theorem Z5:OpR X (OV .Add) (rI0 fun i j=>.int (i+j)):=ZnU fun _ _ _ _ _ _ _ q=>add_int q
theorem Yy:OpR X (OV .Sub) (rI0 fun i j=>.int (i-j)):=ZnU fun _ _ _ _ _ _ _ q=>sub_int q
theorem JF:OpR X (OV .Mult) (rI CMul fun i j=>.int (i*j)):=opI fun _ _ _ _ _ _ _ hc q=>mul_int q hc.ok
theorem Ja:OpR X (OV .FloorDiv) (rI ZoI fun i j=>.int (i / j)):=opI fun i j _ _ _ _ _ hc q=>by
 have h1:=hc.1;have h2:=hc.2;exact floordiv_int (Dx h1) (by grind) (.inl (PyProof.noPylong_small (by omega)))
theorem Yz:OpR X (OV .Mod) (rI (fun _ j=>0<j) fun i j=>.int (i % j)):=opI fun i j _ _ _ _ _ hc q=>mod_int' (Dx hc) (by rw[Int.fmod_eq_emod_of_nonneg i (Fi hc)];omega)
theorem ZlJ:OpR X (OV .Pow) (rI ZoH fun i j=>.int (i ^ j.toNat)):=opI fun _ _ _ _ _ _ _ hc q=>pow_int_small hc.1 hc.2.1 hc.2.2 q
theorem unI {g:Vs->Vs}
  (rule:∀ (i) (t) (s) (Q) (E),Q (.int (g i) s.toks) {s with toks:=s.toks+1}->Og (Oc X.prog X.w) X.A (f (.int i t)) Q E s) :
  UnR X f (rU fun i=>.int (g i)):=by
 intro pins s σ H x v Q I rx h;obtain⟨i,rfl,q⟩:=h;obtain⟨t,rfl⟩:=rx;exact rule i t s _ _ ⟨.int _,H,I.tok _,⟨_,rfl⟩,q⟩
theorem YX:UnR X (unaryOp .USub) (rU fun i=>.int (-i)):=unI fun _ _ _ _ _ q=>neg_int q
end
noncomputable def ZnR:V->V->V0
 | .non,.non=>true | .non,.int _=>true | .int _,.non=>true | .non,.bl _=>true | .bl _,.non=>true | .non,.str _=>true | .str _,.non=>true
 | .int _,.int _=>true | .bl _,.bl _=>true | .str _,.str _=>true | .byt _,.byt _=>true
 | .int _,.str _=>true | .str _,.int _=>true | .bl _,.str _=>true | .str _,.bl _=>true
 | _,_=>false
def rEq:R2:=fun x y H Q=>ZnR x y=true/\Q (.bl (decide (x=y))) H
def rNe:R2:=fun x y H Q=>ZnR x y=true/\Q (.bl (!decide (x=y))) H
theorem Zc3:decide (V.int i=V.int j)=(i==j):=by
 rw[Um];simp
theorem Zjo:decide (V.bl i=V.bl j)=(i==j):=by
 rw[Um];simp
theorem Zg1:decide (V.str i=V.str j)=(i==j):=by
 rw[Um];simp
theorem Zg2:decide (V.byt i=V.byt j)=(i.toList==j.toList):=by
 rw[Um];cases i;cases j;simp
section
variable {X:Cx} {a b c:Expr} {ta tb tc:TE} {pos:MA}
theorem ZE {σ:St} (I:Inv X pins σ H s) (q:Q (.bl k) H) (e:k=k'):EP X pins σ Q (.bool k') s:=by
 subst e;exact⟨.bl k,H,I,rfl,q⟩
theorem Zf0:OpR X (Oy .Eq) rEq:=by
 intro pins s σ H x y v u Q I rx ry h;obtain⟨hs,q⟩:=h;cases x with
 | non =>
  cases rx;cases y with
  | non=>cases ry;exact TR (ZE I q (by simp))
  | bl j=>cases ry;exact TU (ZE I q (by simp))
  | int j=>obtain⟨t',rfl⟩:=ry;exact T8 (ZE I q (by simp))
  | str j=>obtain⟨t',rfl⟩:=ry;exact T9 (ZE I q (by simp))
  | _=>exact Vo (show false=true from hs) QO
 | bl i =>
  cases rx;cases y with
  | non=>cases ry;exact TV (ZE I q (by simp))
  | bl j=>cases ry;exact eq_bool (ZE I q Zjo)
  | str j=>obtain⟨t',rfl⟩:=ry;exact TX (ZE I q (by simp))
  | _=>exact Vo (show false=true from hs) QO
 | int i =>
  obtain⟨t,rfl⟩:=rx;cases y with
  | non=>cases ry;exact La (ZE I q (by simp))
  | int j=>obtain⟨t',rfl⟩:=ry;exact eq_int (ZE I q Zc3)
  | str j=>obtain⟨t',rfl⟩:=ry;exact Lb (ZE I q (by simp))
  | _=>exact Vo (show false=true from hs) QO
 | str i =>
  obtain⟨t,rfl⟩:=rx;cases y with
  | non=>cases ry;exact Lc (ZE I q (by simp))
  | bl j=>cases ry;exact TY (ZE I q (by simp))
  | int j=>obtain⟨t',rfl⟩:=ry;exact Ld (ZE I q (by simp))
  | str j=>obtain⟨t',rfl⟩:=ry;exact eq_str (ZE I q Zg1)
  | _=>exact Vo (show false=true from hs) QO
 | byt i =>
  obtain⟨t,rfl⟩:=rx;cases y with
  | byt j=>obtain⟨t',rfl⟩:=ry;exact PySem.W.eq_bytes (ZE I q Zg2)
  | _=>exact Vo (show false=true from hs) QO
 | _=>cases y <;> exact Vo (show false=true from hs) QO
theorem Zel:OpR X (Oy .NotEq) rNe:=by
 intro pins s σ H x y v u Q I rx ry h;obtain⟨hs,q⟩:=h;cases x with
 | non =>
  cases rx;cases y with
  | non=>cases ry;exact TZ (ZE I q (by simp))
  | bl j=>cases ry;exact T2 (ZE I q (by simp))
  | int j=>obtain⟨t',rfl⟩:=ry;exact Le (ZE I q (by simp))
  | str j=>obtain⟨t',rfl⟩:=ry;exact Lf (ZE I q (by simp))
  | _=>exact Vo (show false=true from hs) QO
 | bl i =>
  cases rx;cases y with
  | non=>cases ry;exact T4 (ZE I q (by simp))
  | bl j=>cases ry;exact ne_bool (ZE I q (VR not Zjo))
  | str j=>obtain⟨t',rfl⟩:=ry;exact T5 (ZE I q (by simp))
  | _=>exact Vo (show false=true from hs) QO
 | int i =>
  obtain⟨t,rfl⟩:=rx;cases y with
  | non=>cases ry;exact Lg (ZE I q (by simp))
  | int j=>obtain⟨t',rfl⟩:=ry;exact ne_int (ZE I q (VR not Zc3))
  | str j=>obtain⟨t',rfl⟩:=ry;exact Lh (ZE I q (by simp))
  | _=>exact Vo (show false=true from hs) QO
 | str i =>
  obtain⟨t,rfl⟩:=rx;cases y with
  | non=>cases ry;exact Li (ZE I q (by simp))
  | bl j=>cases ry;exact T6 (ZE I q (by simp))
  | int j=>obtain⟨t',rfl⟩:=ry;exact Lj (ZE I q (by simp))
  | str j=>obtain⟨t',rfl⟩:=ry;exact ne_str (ZE I q (VR not Zg1))
  | _=>exact Vo (show false=true from hs) QO
 | byt i =>
  obtain⟨t,rfl⟩:=rx;cases y with
  | byt j=>obtain⟨t',rfl⟩:=ry;exact PySem.W.ne_bytes (ZE I q (VR not Zg2))
  | _=>exact Vo (show false=true from hs) QO
 | _=>cases y <;> exact Vo (show false=true from hs) QO
theorem ZfY:OpR X (Oy .Lt) (rI0 fun i j=>.bl (decide (i<j))):=Znj fun _ _ _ _ _ _ _ q=>lt_int q
theorem Zni:OpR X (Oy .LtE) (rI0 fun i j=>.bl (decide (i<=j))):=Znj fun _ _ _ _ _ _ _ q=>le_int q
theorem ZcJ:OpR X (Oy .Gt) (rI0 fun i j=>.bl (decide (j<i))):=Znj fun _ _ _ _ _ _ _ q=>gt_int q
theorem ZfZ:OpR X (Oy .Is) (fun x y H Q=>y= .non/\Q (.bl (decide (x= .non))) H):=by
 intro pins s σ H x y v u Q I rx ry h;obtain⟨rfl,q⟩:=h;cases ry;refine is_none_gen (ZE I q ?_);cases x <;> first
  | (cases rx;rfl)
  | (obtain⟨t,rfl⟩:=rx;rfl)
theorem ZfX:OpR X (Oy .IsNot) (fun x y H Q=>y= .non/\Q (.bl (!decide (x= .non))) H):=by
 intro pins s σ H x y v u Q I rx ry h;obtain⟨rfl,q⟩:=h;cases ry;refine isnot_none_gen (ZE I q ?_);cases x <;> first
  | (cases rx;rfl)
  | (obtain⟨t,rfl⟩:=rx;rfl)
theorem ZbD:OpR X (Oy .NotIn) (fun x y H Q=>∃ i j,x= .str i/\y= .str j/\Q (.bl (!(!(Builtin.Str.occurrences j i 0 j.length 1).isEmpty))) H):=by
 intro pins s σ H x y v u Q I rx ry h;obtain⟨i,j,rfl,rfl,q⟩:=h;obtain⟨t,rfl⟩:=rx;obtain⟨t',rfl⟩:=ry;exact notIn_str (ZE I q rfl)
theorem ZA (b) (h:op≠.In:=by decide) (h2:op≠.NotIn:=by decide):OS op b=false:=by
 have e1:(op==CmpOp.In)=false:=by cases op <;> first | rfl | exact Vo rfl h
 have e2:(op==CmpOp.NotIn)=false:=by cases op <;> first | rfl | exact Vo rfl h2
 cases b <;> simp[OS,e1,e2]
theorem JE (ho:OpR X (Oy op) r) (ha:PE X a ta) (hb:PE X b tb) (hm:OS op b=false):PE X (.Compare a [op] [b] pos) (tOp r ta tb):=by
 intro pins s σ H Q I h;exact wpAny_Compare1 (ZnE ha hb I h fun v u s2 x y H2 I2 rx ry q=>ho pins s2 σ H2 x y v u Q I2 rx ry q) hm
def ZmX (t:TE):TT:=fun σ H Q=>t σ H fun x H'=>∃ k,x= .bl k/\Q k H'
theorem Zw (ho:OpR X (Oy op) r) (ha:PE X a ta) (hb:PE X b tb) (hm:OS op b=false):PT X (.Compare a [op] [b] pos) (ZmX (tOp r ta tb)):=by
 intro pins s σ H Q I h;refine Mu (thn (ha pins s σ H _ I h) fun v s1 ⟨x,H1,I1,r1,q1⟩=>thn (hb pins s1 σ H1 _ I1 q1) fun u s2 ⟨y,H2,I2,r2,q2⟩ =>
  thn (ho pins s2 σ H2 x y v u _ I2 r1 r2 q2) fun c s3 ⟨z,H3,I3,r3,k,e,q3⟩=>?_) hm
 subst e;cases r3;exact OG ⟨H3,I3,q3⟩
theorem Zau:Of<2 ^ 63:=by decide
theorem Xh:OpR X (OV .Add) (fun x y H Q=>∃ i j,x= .str i/\y= .str j/\i.length+j.length<=Of/\Q (.str (i++j)) H):=by
 intro pins s σ H x y v u Q I rx ry h;obtain⟨i,j,rfl,rfl,hz,q⟩:=h;obtain⟨t,rfl⟩:=rx;obtain⟨t',rfl⟩:=ry;exact add_str (fun t' tk=>⟨.str _,H,I.tok _,⟨_,rfl⟩,q⟩) hz
theorem XE (r:Vals [x] us):∃ u,us=[u]/\RelV x u:=by
 cases r with
 | cons r1 r2=>cases r2;exact⟨_,rfl,r1⟩
theorem ZjE (r:Vals [x,y] us):∃ u w',us=[u,w']/\RelV x u/\RelV y w':=by
 cases r with
 | cons r1 r2 =>
  cases r2 with
  | cons r3 r4=>cases r4;exact⟨_,_,rfl,r1,r3⟩
theorem Zhd (hc:X.calm=true):CallR X (.builtin "min") (fun xs H Q=>∃ i j,xs=[.int i,.int j]/\Q (.int (if j<i then j else i)) H):=by
 intro pins s σ H xs us Q I r h;obtain⟨i,j,rfl,q⟩:=h;obtain⟨u,w',rfl,⟨t,rfl⟩,⟨t',rfl⟩⟩:=ZjE r;refine min_two_ints (I.ok.hd hc) fun h' tk k=>⟨_,H,I.kept k,?_,q⟩
 by_cases hj:j<i
 rw[Vf hj,Vf hj];exact⟨_,rfl⟩;rw[if_neg hj,if_neg hj];exact⟨_,rfl⟩
def ZmQ (K:Ve) (x:V) (H:Hp) (n:Vg):Prop :=
 match x with
 | .str y=>y.length<=Of/\n=y.length
 | .byt y=>y.size<=Of/\n=y.size
 | .ref p=>(∃ xs,SqL K H p xs/\n=xs.length)\/∃ xs,SqT K H p xs/\n=xs.length
 | _=>False
theorem Zn:CallR X (.builtin "len") (fun xs H Q=>∃ x n,xs=[x]/\ZmQ X.K x H n/\Q (.int n) H):=by
 intro pins s σ H xs us Q I r h;obtain⟨x,n,rfl,e,q⟩:=h;obtain⟨u,rfl,rx⟩:=XE r;have hs:=Op;cases x with
 | str y =>
  obtain⟨t,rfl⟩:=rx;obtain⟨hy,rfl⟩:y.length<=Of/\n=y.length:=e;exact len_str (by lia) ⟨.int _,H,I.tok _,⟨_,rfl⟩,q⟩
 | byt y =>
  obtain⟨t,rfl⟩:=rx;obtain⟨hy,rfl⟩:y.size<=Of/\n=y.size:=e;exact PySem.W.len_bytes (by lia) ⟨.int _,H,I.tok _,⟨_,rfl⟩,q⟩
 | ref p =>
  cases rx;have e':=e;rcases e' with ⟨xs,hx,e'⟩ | ⟨xs,hx,e'⟩
  subst e';obtain⟨its,r',pl,hz⟩:=I.list hx;have hlen:=r'.length;exact Calls.call_len_list pl.isList (by simp[Qz];exact Fx hz hlen hs) ⟨.int xs.length,H,I.tok _,⟨_,by simp only[Qz];rw[hlen]⟩,q⟩;subst e';obtain⟨its,r',pl,_⟩:=I.tuple hx;have hlen:=r'.length;exact len_tuple pl (by simp[Qz];exact Fx ‹_› hlen hs) ⟨.int xs.length,H,I.tok _,⟨_,by simp only[Qz];rw[hlen]⟩,q⟩
 | _=>exact e.elim
end
structure ObjM (h:Vz) (x dx C:Vk) (mA:Vl->Vj Vi):Prop where
 obj:h.get? x=some (V5 C dx)
 ns:h.Ns1 dx mA
 ne:dx≠x
theorem Zgq {h:Vz} (n:h.Ns1 dx mA):∃ od,h.get? dx=some od/\∀ name,NR name od=some (mA name):=by
 obtain⟨o,es,ep,ho,hd,hk,_,hm⟩:=n;refine⟨o,ho,fun name=>?_⟩;have e:=hm name;unfold nsFind findBy at e;rw[←Array.find?_toList]at e;unfold NR;rw[hd];dsimp only;split
 rename_i y q;rw[q]at e;exact VR some e;rename_i q;rw[q]at e;have a:es.toList.any (·.refKey)=false:=by
  rw[List.any_eq_false];intro y hy;obtain⟨z,t,hkey⟩:=hk y (Array.mem_toList_iff.mp hy);simp[DictEntry.refKey,hkey]
 have a':¬ es.toList.any (·.refKey)=true:=by rw[a];simp
 exact if_neg a'▸VR some e
theorem ObjM.look (I:ObjM h x dx C mA):∃ od,PySem.W.InstAt h x (V5 C dx) C (some od)/\∀ name,NR name od=some (mA name) :=
 let ⟨od,ho,hl⟩:=Zgq I.ns
 ⟨od,⟨I.obj,rfl,rfl,ho⟩,hl⟩
section
variable {prog:Oh} {w:Oi} {A:VA} {E:Vi->Vh->Prop} {s:Vh} {K:Ve} {x dx C f:Vk} {mA:Vl->Vj Vi} {name:Vl} {v:Vi}
theorem ZgP (X:K.In s.heap) (I:ObjM s.heap x dx C mA) (hg:Nm K C name=true) (hh:Nz K C=true)
  (ha:Vx K (.ref C) name=some none) (hv:mA name=some v) (hv':R8 v=true) (h:Q v {s with toks:=s.toks+1}) :
  Og (Oc prog w) A (getAttr (.ref x) name expr) Q E s:=by
 obtain⟨od,J,_⟩:=I.look;exact PySem.W.get_value X J (NL hg).1 (PySem.W.findObj_own hh ha rfl (by simp_all)) hv' h
theorem Ziq (X:K.In s.heap) (I:ObjM s.heap x dx C mA) (hg:Nm K C name=true)
  (hf:Vx K (.ref C) name=some (some (.ref f))) (ht:NM K (.ref f)=true) (hv:mA name=none) (h:Q (.ref f,[.ref x]) s) :
  Og (Oc prog w) A (Gf (.ref x) name pl) Q E s:=by
 obtain⟨od,J,hl⟩:=I.look;exact PySem.W.method_fn X J (NL hg).1 (NL hg).2 hf (beq_iff_eq.mp ht) (by show(NR name od).map _=some false;rw[hl,hv];rfl) h
theorem ZjT (X:K.In s.heap) (I:ObjM s.heap x dx C mA)
  (hs:Vx K (.ref C) "__setattr__" = some (some (.builtin "object.__setattr__"))) (hp:N0 K C=true) (ht:Mo K C name=some none) (hh:Nz K C=true)
  (hw:RL mA ns) (hsz:ns.length<=Of)
  (h:∀ h',ObjM h' x dx C (fun y=>if y=name then some v else mA y)->VY dx s.heap h'->Q () {s with heap:=h',toks:=s.toks+2}) :
  Og (Oc prog w) A (setAttr (.ref x) name v) Q E s:=by
 obtain⟨od,J,_⟩:=I.look;refine PySem.W.set_plain X J hs (PySem.W.osa_open X J hp ht fun b=>?_);obtain⟨cd,hc,hd'⟩:=PySem.W.any_some hh;refine Oa (Ob (Oa (Oa (wpAny_loadPart I.obj (Oa (PySem.W.Looks.here (PySem.W.looks_clsIn X hc) ?_))))));rw[hd'];refine Ob (Oa (Ob (Oa (wpAny_nsSet1 I.ns fun h' hn2 hs2=>?_))));obtain⟨oD,esD,epD,hoD,hdD,hcD⟩:=hn2.count (PySem.Within.cons name v hw);exact Oa (wpAny_lookBehind hoD (by exact hdD▸pastItsLine_dict (QK hcD (by rw[QC];exact Kb hsz))) (Ob (h _ ⟨(hs2.2 _ (Vy I.ne)).trans I.obj,hn2,I.ne⟩ hs2)))
theorem Zic (X:K.In s.heap) (hm:Mp K C=true)
  (hi:Vx K (.ref C) "__init__" = some (some (.ref f))) (hf:PySem.W.typeIn K (.ref f)=some (.type "function"))
  (h:OB (Oc prog w) (A.under (.builtin "type.__call__" ⟨.ref C::vs,kw⟩)) (.call (.ref f) ⟨.ref (s.heap.objs.size+1)::vs,kw⟩) (PySem.W.InitBack (s.heap.objs.size+1) R)
   {s with heap:=(s.heap.push Nb).push (V5 C s.heap.objs.size)}) :
  OB (Oc prog w) A (.call (.ref C) ⟨vs,kw⟩) R s:=PySem.W.make_core (PySem.W.makes_of X hm) (PySem.W.looks_findIn X hi) (fun self=>PySem.W.bind_fn X self hf) (.inl rfl) h
end
noncomputable def Xq (f:Vl) (v:V):Vd (Vl×V)->Vd (Vl×V)
 | []=>[(f,v)]
 | (g,x)::r=>if g=f then (g,v)::r else (g,x)::Xq f v r
theorem Yb (f g) (v):∀ fs,(Xq f v fs).lookup g=if g=f then some v else fs.lookup g
 | []=>by
  show Ux g [(f,v)]=_;by_cases h:g=f
  have hb:=beq_iff_eq.mpr h;simp[Ux,hb,Vf h];have hb:=beq_eq_false_iff_ne.mpr h;simp[Ux,hb,if_neg h]
 | (k,x)::r=>by
  have ih:=Yb f g v r;rw[show Xq f v _=if k=f then (k,v)::r else (k,x)::Xq f v r from rfl];by_cases hk:k=f
  rw[Vf hk];by_cases h:g=k
  simp_all
  simp[Ux,(beq_eq_false_iff_ne.mpr h),if_neg fun e:g=f=>h (e.trans hk.symm)]
  grind
theorem JN (f) (v):∀ fs,f∈(Xq f v fs).map (·.1)/\∀ g,g∈fs.map (·.1)->g∈(Xq f v fs).map (·.1)
 | []=>⟨by simp[Xq],fun g h=>by simp at h⟩
 | (k,x)::r=>by
  obtain⟨i1,i2⟩:=JN f v r;rw[show Xq f v _=if k=f then (k,v)::r else (k,x)::Xq f v r from rfl];by_cases hk:k=f
  subst hk;simp;rw[if_neg hk];refine⟨?_,fun g h=>?_⟩;exact Qk _ i1;rcases Qs.mp h with e | e
  exact Qs.mpr (.inl e);exact Qk _ (i2 g e)
theorem Yr (f) (v):∀ fs,(Xq f v fs).length<=fs.length+1
 | []=>by simp[Xq]
 | (k,x)::r=>by
  have ih:=Yr f v r;rw[show Xq f v _=if k=f then (k,v)::r else (k,x)::Xq f v r from rfl];by_cases hk:k=f
  rw[Vf hk,QC,QC];exact Ka;rw[if_neg hk,QC,QC];exact Kb ih
theorem RelO.some_of (r:RelO (some v) o):∃ u,o=some u/\RelV v u:=by
 cases o with
 | none=>exact r.elim
 | some u=>exact⟨u,rfl,r⟩
theorem RelO.none_of (r:RelO none o):o=none:=by
 cases o with
 | none=>rfl
 | some u=>exact r.elim
theorem ZbW (r:RelV v u):R8 u=true:=by
 cases v with
 | non=>cases r;rfl
 | bl b=>cases r;rfl
 | int i=>obtain⟨t,rfl⟩:=r;rfl
 | str x=>obtain⟨t,rfl⟩:=r;rfl
 | byt b=>obtain⟨t,rfl⟩:=r;rfl
 | flt b=>obtain⟨t,rfl⟩:=r;rfl
 | ref a=>cases r;rfl
 | ty n=>cases r;rfl
section
variable {P:Oh} {w:Oi} {H H':Hp} {h h':Vz} {a C dx:Vk} {fs fs':Vd (Vl×V)}
theorem JS (hok:HOk P w H h) (e:H a=some (.ins C dx fs)):∃ mA,ObjM h a dx C mA/\(∀ f,RelO (fs.lookup f) (mA f))/\RL mA (fs.map (·.1))/\fs.length<=1000/\H dx=some (.own a):=by
 obtain⟨d,z,ne,ob,mA,n,r,q⟩:=(hok a _ e)
 exact⟨mA,⟨ob,n,ne⟩,r,q,z,d⟩
end
structure Cls (K:Ve) (C:Vk):Prop where
 pg:Nm K C Str.empty=true
 hd:Nz K C=true
 po:N0 K C=true
 sa:Vx K (.ref C) "__setattr__" = some (some (.builtin "object.__setattr__"))
theorem Cls.get {K} (c:Cls K C) (f):Nm K C f=true:=c.pg
def NoAttr (K:Ve) (C:Vk) (f:Vl):Prop:=Vx K (.ref C) f=some none
theorem NoAttr.taker {K} (n:NoAttr K C f):Mo K C f=some none:=by
 unfold Mo;rw[n];rfl
structure Zk5 (K:Ve) (C:Vk) (m:Vl) (f:Vk):Prop where
 at_:Vx K (.ref C) m=some (some (.ref f))
 fn:NM K (.ref f)=true
 kp:VS K (.ref f)=true
section
variable {X:Cx} {pins:Vd (Vk×Nd)} {σ:St} {H:Hp} {s:Vh} {a C dx:Vk} {fs:Vd (Vl×V)} {f:Vl} {v:V} {A:VA} {E:Vi->Vh->Prop}
theorem ZeD (I:Inv X pins σ H s) (e:H a=some (.ins C dx fs)) (c:Cls X.K C) (n:NoAttr X.K C f) (l:fs.lookup f=some v)
  (h:∀ u s',Inv X pins σ H s'->RelV v u->Q u s'):Og (Oc X.prog X.w) A (getAttr (.ref a) f b) Q E s:=by
 obtain⟨mA,O,_⟩:=JS I.hok e;obtain⟨u,hu,ru⟩:=RelO.some_of (v:=v) (o:=mA f) (by grind);exact ZgP I.kIn O (c.get f) c.hd n hu (ZbW ru) (h u _ (I.tok _) ru)
theorem Jd (I:Inv X pins σ H s) (e:H a=some (.ins C dx fs)) (c:Cls X.K C) (k:Zk5 X.K C m g) (l:fs.lookup m=none)
  (h:Q (.ref g,[.ref a]) s):Og (Oc X.prog X.w) A (Gf (.ref a) m pl) Q E s:=by
 obtain⟨mA,O,_⟩:=JS I.hok e;exact Ziq I.kIn O (c.get m) k.at_ k.fn (RelO.none_of (by rw[←l];simp_all)) h
theorem Zeh (I:Inv X pins σ H s) (e:H a=some (.ins C dx fs)) (c:Cls X.K C) (n:NoAttr X.K C f) (hl:fs.length<1000) (ry:RelV y u)
  (h:∀ s',Inv X pins σ (upd H a (.ins C dx (Xq f y fs))) s'->Q () s'):Og (Oc X.prog X.w) A (setAttr (.ref a) f u) Q E s:=by
 obtain⟨mA,O,r,wi,_,ho⟩:=JS I.hok e;have hz:(fs.map (·.1)).length<=Of:=by rw[Qd,Op];lia
 refine ZjT I.kIn O c.sa c.po n.taker c.hd wi hz fun h' O' sb=>h _ (I.write (by exact e▸VF) (.inr ho) (fun b q hb z=>(sb.2 b hb).trans z) (let ⟨o,_,_,e',_⟩:=O'.ns;⟨o,e'⟩) ⟨by rw[Zf O.ne];omega,?_,O.ne,O'.obj,_,O'.ns,fun g=>?_,fun g hg=>?_⟩);have:=Yr f y fs;exact En hl this;rw[Yb];by_cases q:g=f
 rw[Vf q,Vf q];trivial
 simp_all
 by_cases q:g=f
 exact q▸(JN f y fs).1;exact(JN f y fs).2 g (wi g fun z=>hg (by simp_all))
theorem Inv.made (I:Inv X pins σ H s):Inv X pins σ (upd (upd H s.heap.objs.size (.own (s.heap.objs.size+1))) (s.heap.objs.size+1) (.ins C s.heap.objs.size []))
  {s with heap:=(s.heap.push Nb).push (V5 C s.heap.objs.size)}:=by
 have e1:(s.heap.push Nb).get? s.heap.objs.size=some Nb:=Qm s.heap rfl;have e2:((s.heap.push Nb).push (V5 C s.heap.objs.size)).get? (s.heap.objs.size+1)=some (V5 C s.heap.objs.size):=by
  have:=Qm (s.heap.push Nb) (o:=V5 C s.heap.objs.size) rfl
  simp_all
 refine(I.laid (o:=.own (s.heap.objs.size+1)) (t':=s.toks) (fun b u q=>Qc _ q) (Qg _) ⟨_,e1⟩).laid (fun b u q=>Qc _ q) (Lq (WF _ _)) ?_;have ne:s.heap.objs.size≠s.heap.objs.size+1:=QB (Uz _);refine⟨by rw[Zf ne,Zc],QQ _,ne,e2,_,(Heap.Ns1.of_empty (⟨_,#[],_,e1,rfl,fun e he=>Vo he (by simp),fun _=>rfl⟩)).at fun o q=>Qc _ q,fun _=>VF,fun y hy=>Vo rfl hy⟩
theorem Zhf (hb:OC e f env (VQ e env)=VQ e env)
  (h:Og (Oc prog w) A (VQ e env) (fun o s₁=>Og (Oc prog w) A (getAttr o f true) Q E s₁) E s):Og (Oc prog w) A (VQ (.Attribute e f pos) env) Q E s :=
 Attribute_any_ h (by rw[arm_eval_Attribute,hb])
end
def ZnP (K:Ve) (ta:TE) (f:Vl):TE:=fun σ H Q=>ta σ H fun x H1=>∃ a C dx fs v,x= .ref a/\H1 a=some (.ins C dx fs)/\Cls K C/\NoAttr K C f/\fs.lookup f=some v/\Q v H1
def Zog (K:Ve) (ta tv:TE) (f:Vl):TS:=fun D σ H=>tv σ H fun y H1=>ta σ H1 fun x H2=>∃ a C dx fs,x= .ref a/\H2 a=some (.ins C dx fs)/\Cls K C/\NoAttr K C f/\fs.length<1000 /\
 D.nx σ (upd H2 a (.ins C dx (Xq f y fs)))
section
variable {X:Cx} {o e value:Expr} {f:Vl} {pos pos' tpos:MA} {ta tv:TE}
theorem ZJ (he:PE X e ta) (hb:OC e f X.env (VQ e X.env)=VQ e X.env):PE X (.Attribute e f pos) (ZnP X.K ta f):=by
 intro pins s σ H Q I h;refine Zhf hb (thn (he pins s σ H _ I h) fun u s1 ⟨x,H1,I1,rx,a,C,dx,fs,v,ex,ea,c,n,l,q⟩=>?_);subst ex;obtain rfl:u=Value.ref a:=rx;exact ZeD I1 ea c n l fun u' s2 I2 ru=>⟨v,H1,I2,ru,q⟩
theorem JB (ha:PE X o ta) (hv:PE X value tv) (hs:GB value (some (.Attribute o f pos')) pos.line X.env=pure false):PS X (.Assign [.Attribute o f pos'] value pos) (Zog X.K ta tv f):=by
 intro pins s σ H D I h;refine plainObj_wpAny_Assign_Attribute (thn (hv pins s σ H _ I h) fun u s1 ⟨y,H1,I1,ry,q⟩=>thn (ha pins s1 σ H1 _ I1 q) fun ov s2 ⟨x,H2,I2,rx,a,C,dx,fs,ex,ea,c,n,l,q2⟩=>?_) hs;subst ex;obtain rfl:ov=Value.ref a:=rx;exact Zeh I2 ea c n l ry fun s3 I3=>⟨σ,_,I3,q2⟩
end
section
variable {X:Cx} {pins:Vd (Vk×Nd)} {σ:St} {H:Hp} {s:Vh} {A:VA} {E:Vi->Vh->Prop} {Q:Vi->Vh->Prop} {c:Vi} {b:V0}
inductive Zea (K:Ve) (H:Hp):V->Vi->Prop where
 | non:Zea K H .non (.type "NoneType")
 | bl (x:V0):Zea K H (.bl x) (.type "bool")
 | int (i:Vs):Zea K H (.int i) (.type "int")
 | str (x:Vl):Zea K H (.str x) (.type "str")
 | flt (x:UInt64):Zea K H (.flt x) (.type "float")
 | lst {a:Vk} {xs:Vd V} (e:H a=some (.lst xs)):Zea K H (.ref a) (.type "list")
 | frz {a:Vk} {o:Nd} {xs:Vd V} (e:H a=some (.frz o (.lst xs))):Zea K H (.ref a) (.type "list")
 | tup {a:Vk} {xs:Vd V} (e:H a=some (.tup xs)):Zea K H (.ref a) (.type "tuple")
 | dK {a:Vk} {kvs:Vd (Key×V)} (e:H a=some (.dK kvs)):Zea K H (.ref a) (.type "dict")
 | dT {a:Vk} {kvs:Vd (Vd Key×V)} (e:H a=some (.dT kvs)):Zea K H (.ref a) (.type "dict")
 | ins {a C dx:Vk} {fs:Vd (Vl×V)} (e:H a=some (.ins C dx fs)) (cl:Cls K C) (ha:Vx K (.ref C) "__class__" = some (some (.builtin "object.__class__")))
   (hn:PySem.W.specialIn K (.builtin "object.__class__") "__get__" = some (some (.builtin "getset_descriptor.__get__"))) (htk:PySem.W.takesIn K (.builtin "object.__class__")=some true)
   (hm:PySem.W.mroIn K C (.type "object")=some true):Zea K H (.ref a) (.ref C)
theorem ZgH (I:Inv X pins σ H s) (rx:RelV x u) (ty:Zea X.K H x t) (e:Tu X.K t c=some b) (h:∀ tk,Q (.bool b) {s with toks:=tk}) :
  Og (Oc X.prog X.w) A (call (.builtin "isinstance") [u,c]) Q E s:=by
 cases ty with
 | non=>cases rx;exact VN PySem.W.kitx_none I.kIn VF e (fun z=>nomatch z) h
 | bl y=>cases rx;exact VN PySem.W.kitx_bool I.kIn VF e (fun z=>nomatch z) h
 | int i=>obtain⟨t,rfl⟩:=rx;exact VN PySem.W.kitx_int I.kIn VF e (fun z=>nomatch z) h
 | str y=>obtain⟨t,rfl⟩:=rx;exact VN PySem.W.kitx_str I.kIn VF e (fun z=>nomatch z) h
 | flt y=>obtain⟨t,rfl⟩:=rx;exact VN PySem.W.kitx_float I.kIn VF e (fun z=>nomatch z) h
 | @lst a xs ea =>
  cases rx;obtain⟨_,_,n,_,h1⟩:=(I.hok a _ ea)
  exact VN RM I.kIn ⟨_,h1,rfl⟩ e (fun z=>nomatch z) h
 | @frz a ob xs ea =>
  cases rx;obtain⟨_,_,_,n,_,h1⟩:=(I.hok a _ ea)
  exact VN RM I.kIn ⟨_,h1,rfl⟩ e (fun z=>nomatch z) h
 | @tup a xs ea =>
  cases rx;obtain⟨_,_,_,p,_⟩:=(I.hok a _ ea)
  obtain⟨o,h1,h2,_⟩:=p;exact VN PySem.W.kitx_tuple I.kIn ⟨o,h1,h2⟩ e (fun z=>nomatch z) h
 | @dK a kvs ea =>
  cases rx;obtain⟨_,_,vs,_,p⟩:=(I.hok a _ ea)
  obtain⟨o,es,ep,h1,h2,_⟩:=p;exact VN RN I.kIn ⟨o,h1,h2.1⟩ e (fun z=>nomatch z) h
 | @dT a kvs ea =>
  cases rx;obtain⟨_,_,xs,_,o,es,ep,h1,h2,_⟩:=(I.hok a _ ea)
  exact VN RN I.kIn ⟨o,h1,h2.1⟩ e (fun z=>nomatch z) h
 | @ins a C dx fs ea cl ha hn htk hm =>
  cases rx;obtain⟨mA,O,_⟩:=JS I.hok ea;obtain⟨od,J,_⟩:=O.look;exact VN (PySem.W.kitx_own (cl.get _) cl.hd ha hn htk hm) I.kIn J e (fun z=>nomatch z) h
end
structure Room (k:Vg) (A:VA):Prop where
 hd:A.handled=none
 dp:A.depth+3*k+5<Gu
 un:A.units+16*k+200<OY
theorem Room.mono (r:Room k A) (h:j<=k):Room j A:=⟨r.hd,by have:=r.dp;lia,by have:=r.un;lia⟩
theorem Room.deeper (r:Room (k+1) A) (env):Room k (A.deeper env) :=
 ⟨r.hd,by have:=r.dp;show A.depth+1+3*k+5<_;exact Du this,by have:=r.un;show A.units+3+16*k+200<_;lia⟩
theorem Zex {A:VA}:(A.under (.builtin "type.__call__" ⟨.ref C::us,kw⟩)).depth=A.depth+1:=by
 rfl
theorem Zew {A:VA}:(A.under (.builtin "type.__call__" ⟨.ref C::us,kw⟩)).units=A.units+1:=by
 rfl
theorem Room.make (r:Room (k+1) A) (C) (us) (kw):Room k (A.under (.builtin "type.__call__" ⟨.ref C::us,kw⟩)) :=
 ⟨r.hd,by have:=r.dp;rw[Zex];exact Du this,by have:=r.un;rw[Zew];lia⟩
theorem Room.depth (r:Room k A):A.depth<Gu:=by have:=r.dp;lia
theorem Room.units (r:Room k A):A.units+64<OY:=by have:=r.un;lia
def ZmM:TA:=fun _ H Q=>Q [] H
def Zlm (ta:TE) (tr:TA):TA:=fun σ H Q=>ta σ H fun x H1=>tr σ H1 fun xs H2=>Q (x::xs) H2
section
variable {X:Cx} {e:Expr} {es:Vd Expr} {te:TE} {t:TA} {pos:MA}
theorem Ze:PA X [] ZmM:=fun _ _ _ _ H Q I h=>NA ⟨[],H,I,.nil,h⟩
theorem Za (ha:PE X e te) (hr:PA X es t) (hs:Oj (e::es) X.env=(false,VQ e X.env)::Oj es X.env:=by rfl):PA X (e::es) (Zlm te t):=by
 intro pos pins s σ H Q I h;rw[hs];exact V8 (thn (ha pins s σ H _ I h) fun u s1 ⟨x,H1,I1,r1,q1⟩=>(thn (hr pos pins s1 σ H1 _ I1 q1) fun us s2 ⟨xs,H2,I2,r2,q2⟩=>⟨_,H2,I2,.cons r1 r2,q2⟩))
def Zn3 (t:TA):TE:=fun σ H Q=>t σ H fun xs H1=>xs.length<=Of/\∀ p,H1 p=none->Q (.ref p) (upd H1 p (.tup xs))
def Zn7 (t:TA):TE:=fun σ H Q=>t σ H fun xs H1=>xs.length<=Of/\∀ p,H1 p=none->Q (.ref p) (upd H1 p (.lst xs))
theorem JD (h:PA X es t):PE X (.Tuple es x1 pos) (Zn3 t):=by
 intro pins s σ H Q I hq;refine wpAny_Tuple_spliced (thn (h pos pins s σ H _ I hq) fun us s1 ⟨xs,H1,I1,r,z,q⟩=>⟨by rw[←r.length];exact z,⟨.ref s1.heap.objs.size,_,I1.laid (fun b u e=>Qc _ e) (Qg _) ?_,rfl,q _ (I1.hok.fresh (Qg _))⟩⟩);exact⟨z,us,r,⟨_,Qm _ rfl,rfl,_,rfl⟩,ZaZ rfl rfl⟩
theorem ZD (h:PA X es t):PE X (.List es pos) (Zn7 t):=by
 intro pins s σ H Q I hq;refine wpAny_List_spliced (thn (h pos pins s σ H _ I hq) fun us s1 ⟨xs,H1,I1,r,z,q⟩=>⟨by rw[←r.length];exact z,⟨.ref s1.heap.objs.size,_,I1.laid (fun b u e=>Qc _ e) (Qg _) ?_,rfl,q _ (I1.hok.fresh (Qg _))⟩⟩);exact⟨z,us,0,r,Qm _ rfl⟩
end
abbrev Sp:=Vd V->Hp->VK->XK->Prop
abbrev CXT:=Vd L8->Hp->Vh->XK->Vi->Vh->Prop
structure Env0 (P:Oh) (w:Oi) (K:Ve) (mg:Vl->Vj Vi) (base:Vz) (A:VA) (outer:Vd L8) (s:Vh) (H:Hp):Prop where
 frames:A.frames=some outer
 mod:Mod K mg base
 bs:∀ b o,base.get? b=some o->s.heap.get? b=some o/\H b=none
 bsz:base.objs.size<=s.heap.objs.size
 funs:s.heap.FunFrames base outer
 frf:∀ b∈frs outer,H b=none
 hok:HOk P w H s.heap
 bare:O9 s.gens
def CE (outer:Vd L8) (P:Oh) (w:Oi) (H:Hp) (s:Vh) (Q:VK) (u:Vi) (s':Vh):Prop :=
 ∃ v H',s'.os=s.os/\O9 s'.gens/\Un (frs outer) [] H H' s.heap s'.heap/\HOk P w H' s'.heap/\RelV v u/\Q v H'
def CR (CX:CXT) (outer:Vd L8) (P:Oh) (w:Oi) (H:Hp) (s:Vh) (Q:VK) (E:XK) (r:GN) (s':Vh):Prop :=
 match r with
 | .ok (.ret u)=>CE outer P w H s Q u s'
 | .ok _=>False
 | .error e=>CX outer H s E e s'
structure FnOk (P:Oh) (w:Oi) (K:Ve) (mg:Vl->Vj Vi) (base:Vz) (CX:CXT) (k:Vg) (f:Vk) (fd:O7) (ps:Vd Vl) (sp:Sp):Prop where
 len:∀ vs H Q E,sp vs H Q E->vs.length=ps.length
 run:∀ (A:VA) (outer:Vd L8) (s:Vh) (H:Hp) (args:Args) (us:Vd Vi) (vs:Vd V) (Q:VK) (E:XK),Room k A->Env0 P w K mg base A outer s H->GU s fd args (ps.zip us)->Vals vs us->sp vs H Q E ->
  OB (Oc P w) A (.call (.ref f) args) (CR CX outer P w H s Q E) s
theorem FnOk.mono {K} (F:FnOk P w K mg base CX j f fd ps sp) (h:j<=k) :
  FnOk P w K mg base CX k f fd ps sp:=⟨F.len,fun A outer s H args us vs Q E hr=>F.run A outer s H args us vs Q E (hr.mono h)⟩
theorem FnOk.imp {K} (F:FnOk P w K mg base CX k f fd ps sp)
  (h:∀ vs H Q E,sp' vs H Q E->sp vs H Q E):FnOk P w K mg base CX k f fd ps sp' :=
 ⟨fun vs H Q E q=>F.len vs H Q E (h _ _ _ _ q),fun A outer s H args us vs Q E hr he hb hv hs=>F.run A outer s H args us vs Q E hr he hb hv (h _ _ _ _ hs)⟩
theorem Env0.make {K} (e:Env0 P w K mg base A outer s H) (C) (us) (kw) :
  Env0 P w K mg base (A.under (.builtin "type.__call__" ⟨.ref C::us,kw⟩)) outer s H:=⟨by first | lia | (simpa[Around.under,Code.envs,Code.isFrame,pushEnvs]using e.frames),e.mod,e.bs,e.bsz,e.funs,e.frf,e.hok,e.bare⟩
section
variable {X:Cx} {pins:Vd (Vk×Nd)} {σ:St} {H:Hp} {s s':Vh}
theorem Inv.env0 (I:Inv X pins σ H s):Env0 X.prog X.w X.K X.mg X.base X.A X.stack s H :=
 ⟨I.ok.frames,I.ok.mod,I.bs,QK I.ok.bsz I.sz,I.stack,I.stkFree,I.hok,I.bare⟩
theorem Inv.after (I:Inv X pins σ H s) (h:CE X.stack X.prog X.w H s Q u s'):EP X pins σ Q u s':=by
 obtain⟨v,H',os,bare,un,hok,r,q⟩:=h;obtain⟨hh,g,d,t,os'⟩:=s';obtain rfl:os'=s.os:=os;exact⟨v,H',I.call un hok bare fun b z=>Vo z (by simp),r,q⟩
end
def ZjL (sp:Sp) (dvs:Vd V) (E:XK) (t:TA):TE:=fun σ H Q=>t σ H fun vs H1=>sp (vs++dvs) H1 Q E
def Zhq (C:Vk) (m:Vl) (sp:Sp) (dvs:Vd V) (E:XK) (ta:TE) (t:TA):TE:=fun σ H Q=>ta σ H fun x H1=>∃ a dx fs,x= .ref a/\H1 a=some (.ins C dx fs)/\fs.lookup m=none /\
 t σ H1 fun vs H2=>sp (x::(vs++dvs)) H2 Q E
def Zli (C:Vk) (sp:Sp) (dvs:Vd V) (E:XK) (t:TA):TE:=fun σ H Q=>t σ H fun vs H1=>∀ x dx,H1 x=none->H1 dx=none->dx≠x ->
 sp (.ref x::(vs++dvs)) (upd (upd H1 dx (.own x)) x (.ins C dx [])) (fun v H2=>v= .non/\Q (.ref x) H2) E
def Binds (K:Ve) (fd:O7) (ps:Vd Vl) (ds:Vd Vi):Prop :=
 ∀ (s:Vh) (us:Vd Vi),K.In s.heap->(us++ds).length=ps.length->GU s fd ⟨us,[]⟩ (ps.zip (us++ds))
theorem Binds.all {K} (h:∀ us,us.length=ps.length->GO fd ⟨us,[]⟩=pure (ps.zip us)):Binds K fd ps []:=fun s us _ hl=>by
 rw[WC]at hl ⊢;exact .of_eq (h us hl)
def Jg (CX:CXT) (X:Cx) (E:XK):Prop:=∀ (pins:Vd (Vk×Nd)) (σ:St) (H:Hp) (s:Vh) (e:Vi) (s':Vh),Inv X pins σ H s->CX X.stack H s E e s'->X.xe e s'
section
variable {X:Cx} {CX:CXT} {k:Vg} {f C:Vk} {fd:O7} {ps:Vd Vl} {sp:Sp} {dvs:Vd V} {ds:Vd Vi} {E:XK} {x m:Vl} {p pos apos:MA} {e o:Expr} {es:Vd Expr} {ta:TE} {t:TA}
theorem Zfy {σ:St} (F:FnOk X.prog X.w X.K X.mg X.base CX k f fd ps sp) (hr:Room k X.A) (hb:Binds X.K fd ps ds) (hd:Vals dvs ds) (hx:Jg CX X E)
  (I:Inv X pins σ H s) (r:Vals vs us) (h:sp (vs++dvs) H Q E):Og (Oc X.prog X.w) X.A (call (.ref f) us) (EP X pins σ Q) X.xe s:=by
 have r2:=r.append hd;have hl:(us++ds).length=ps.length:=by exact r2.length▸F.len _ _ _ _ h
 refine GY (OL (F.run X.A X.stack s H _ _ _ Q E hr I.env0 (hb s us I.kIn hl) r2 h) fun r s' hq=>?_);cases r with
 | error e=>exact hx pins σ H s e s' I hq
 | ok fl =>
  cases fl with
  | ret u=>exact I.after hq
  | next=>assumption
  | brk=>assumption
  | cont=>assumption
theorem ZfT (F:FnOk X.prog X.w X.K X.mg X.base CX k f fd ps sp) (hr:Room k X.A) (hg:Gl X x) (hm:X.mg x=some (.ref f)) (hk:VS X.K (.ref f)=true) (hb:Binds X.K fd ps ds) (hd:Vals dvs ds) (hx:Jg CX X E)
  (ha:PA X (e::es) t) (hdb:(x==("__debug__"))=false:=by decide) (he:Oj (e::es) X.env=(false,VQ e X.env)::Oj es X.env:=by rfl) (hpl:(Ox pos (Oj es X.env)).any (·.1)=false:=by rfl) :
  PE X (.Call (.Name x p) (e::es) [] pos) (ZjL sp dvs E t):=by
 intro pins s σ H Q I h;exact OD (ZcZ I hg hm (NS I.ok.mod.kin hk (thn (ha pos pins s σ H _ I h) fun us s1 ⟨vs,H1,I1,r,q⟩=>⟨I1.kIn,(Zfy F hr hb hd hx I1 r q)⟩) he hpl) hdb)
theorem Zka {pl} (he:PE X o ta) (c:Cls X.K C) (hm:Zk5 X.K C m f) (F:FnOk X.prog X.w X.K X.mg X.base CX k f fd ps sp) (hr:Room k X.A) (hb:Binds X.K fd ps ds) (hd:Vals dvs ds) (hx:Jg CX X E) (ha:PA X (e::es) t)
  (hst:Oj (e::es) X.env=(false,VQ e X.env)::Oj es X.env:=by rfl) (hpl:(Ox pos (Oj es X.env)).any (·.1)=false:=by rfl)
  (ht:VQ (.Call (.Attribute o m apos) (e::es) [] pos) X.env=(do
   let ov ←VQ o X.env
   GI apos.atName
   let (f,first) ←Ga [ov] (Gf ov m pl)
   GM pos f first (Ox pos (Oj (e::es) X.env)) (O6 pos (ON [] X.env))):=by rfl) :
  PE X (.Call (.Attribute o m apos) (e::es) [] pos) (Zhq C m sp dvs E ta t):=by
 intro pins s σ H Q I h;refine Mv (thn (he pins s σ H _ I h) fun u s1 ⟨x,H1,I1,rx,a,dx,fs,ex,ea,l,q⟩=>?_) ht;subst ex;obtain rfl:u=Value.ref a:=rx;exact Jd I1 ea c hm l (NS I.ok.mod.kin hm.kp (thn (ha pos pins s1 σ H1 _ I1 q) fun us s2 ⟨vs,H2,I2,r,q2⟩=>⟨I2.kIn,(Zfy (vs:=.ref a::vs) F hr hb hd hx I2 (.cons rfl r) q2)⟩) hst hpl)
theorem ZhR (he:PE X o ta) (c:Cls X.K C) (hm:Zk5 X.K C m f) (F:FnOk X.prog X.w X.K X.mg X.base CX k f fd ps sp) (hr:Room k X.A) (hb:Binds X.K fd ps ds) (hd:Vals dvs ds) (hx:Jg CX X E)
  (ht:VQ (.Call (.Attribute o m apos) [] [] pos) X.env=(do
   let ov ←VQ o X.env
   GI apos.atName
   let (f,first) ←Ga [ov] (Gf ov m pl)
   GM pos f first (Ox pos (Oj [] X.env)) (O6 pos (ON [] X.env))):=by rfl) :
  PE X (.Call (.Attribute o m apos) [] [] pos) (Zhq C m sp dvs E ta ZmM):=by
 intro pins s σ H Q I h;refine Mv (thn (he pins s σ H _ I h) fun u s1 ⟨x,H1,I1,rx,a,dx,fs,ex,ea,l,q⟩=>?_) ht;subst ex;obtain rfl:u=Value.ref a:=rx;exact Jd I1 ea c hm l (PySem.W.callWith_K0 I1.kIn hm.kp (Zfy (vs:=[.ref a]) F hr hb hd hx I1 (.cons rfl .nil) q))
structure Mk (K:Ve) (C f:Vk):Prop where
 makes:Mp K C=true
 init:Vx K (.ref C) "__init__" = some (some (.ref f))
 fn:NM K (.ref f)=true
 kp:VS K (.ref C)=true
theorem ZhE {σ:St} (M:Mk X.K C f) (F:FnOk X.prog X.w X.K X.mg X.base CX k f fd ps sp) (hr:Room (k+1) X.A) (hb:Binds X.K fd ps ds) (hd:Vals dvs ds)
  (hx:Jg CX X E) (I:Inv X pins σ H s) (r:Vals vs us)
  (h:∀ x dx,H x=none->H dx=none->dx≠x->sp (.ref x::(vs++dvs)) (upd (upd H dx (.own x)) x (.ins C dx [])) (fun v H2=>v= .non/\Q (.ref x) H2) E) :
  Og (Oc X.prog X.w) X.A (call (.ref C) us) (EP X pins σ Q) X.xe s:=by
 have hq:=h _ s.heap.objs.size (I.hok.fresh (UM _)) (I.hok.fresh (Qg _)) (QB (Uz _));have I2:=Inv.made (C:=C) I;have r2:Vals (V.ref (s.heap.objs.size+1)::(vs++dvs)) _:=.cons rfl (r.append hd);have hl:=by
  have e:=r2.length;rw[F.len _ _ _ _ hq]at e;exact e.symm
 refine GY (Zic I.kIn M.makes M.init (beq_iff_eq.mp M.fn) (OL (F.run _ X.stack _ _ _ _ _ _ E (hr.make C us [])
  (I2.env0.make C us []) (hb _ _ I2.kIn hl) r2 hq) fun r s' hq'=>?_))
 cases r with
 | error e=>exact hx pins σ _ _ e s' I2 hq'
 | ok fl =>
  cases fl with
  | ret u =>
   obtain⟨v,H',I3,rv,rfl,q3⟩:=I2.after hq';exact⟨rv,⟨V.ref _,H',I3,rfl,q3⟩⟩
  | next=>assumption
  | brk=>assumption
  | cont=>assumption
theorem Zkb (M:Mk X.K C f) (F:FnOk X.prog X.w X.K X.mg X.base CX k f fd ps sp) (hr:Room (k+1) X.A) (hg:Gl X x) (hm:X.mg x=some (.ref C)) (hb:Binds X.K fd ps ds) (hd:Vals dvs ds) (hx:Jg CX X E)
  (ha:PA X (e::es) t) (hdb:(x==("__debug__"))=false:=by decide) (he:Oj (e::es) X.env=(false,VQ e X.env)::Oj es X.env:=by rfl) (hpl:(Ox pos (Oj es X.env)).any (·.1)=false:=by rfl) :
  PE X (.Call (.Name x p) (e::es) [] pos) (Zli C sp dvs E t):=by
 intro pins s σ H Q I h;exact OD (ZcZ I hg hm (NS I.ok.mod.kin M.kp (thn (ha pos pins s σ H _ I h) fun us s1 ⟨vs,H1,I1,r,q⟩=>⟨I1.kIn,(ZhE M F hr hb hd hx I1 r q)⟩) he hpl) hdb)
end
def PK (X:Cx) (kws:Vd GV) (t:TA):Prop :=
 ∀ (pos:MA) (pins:Vd (Vk×Nd)) (s:Vh) (σ:St) (H:Hp) (Q:Vd V->Hp->Prop),Inv X pins σ H s->t σ H Q->Og (Oc X.prog X.w) X.A (evalAll ((O6 pos (ON kws X.env)).map (·.2))) (AP X pins σ Q) X.xe s
section
variable {X:Cx} {CX:CXT} {k:Vg} {f C:Vk} {fd:O7} {ps ks:Vd Vl} {sp:Sp} {E:XK} {x m:Vl} {p pos apos kpos:MA} {e o:Expr} {es:Vd Expr} {kws:Vd GV} {te ta:TE} {t tk:TA} {nm:Vj Vl}
theorem Zlw:PK X [] ZmM:=fun _ _ _ _ H Q I h=>wpAny_evalAll_nil ⟨[],H,I,.nil,h⟩
theorem Zj5 (ha:PE X e te) (hr:PK X kws t):PK X (⟨nm,e,kpos⟩::kws) (Zlm te t):=by
 intro pos pins s σ H Q I h;exact wpAny_evalAll_cons (Oa (thn (ha pins s σ H _ I h) fun u s1 ⟨x,H1,I1,r1,q1⟩=>Oa (O3 (Ob (thn (hr pos pins s1 σ H1 _ I1 q1) fun us s2 ⟨xs,H2,I2,r2,q2⟩=>⟨_,H2,I2,.cons r1 r2,q2⟩)))))
variable {g:Vd Vi->Vd Vi->Vd Vi} {gV:Vd V->Vd V->Vd V}
end
structure Zo (N P:Vd Vl) (sc:Scope):Prop where
 kind:sc.kind= .function
 co:sc.isCoroutine=false
 gen:sc.isGenerator=false
 nd:N.Nodup
 pre:N.take P.length=P
 par:∀ x∈P,sc.names.lookup x=some .local\/sc.names.lookup x=some .cell
 nofree:∀ y∈sc.names,y.2≠.free
theorem Zca {VE}:∀ {binds} {m},(∀ v,(x,v)∉binds)->G4 VE binds m x=m x
 | [],_,_=>rfl
 | (n,v)::r,m,h=>by
  unfold G4;rw[Zca fun w hw=>h w (Qk _ hw)];split
  have:x≠n:=by rintro rfl;exact h v Qj
  simp[this];rfl
theorem Zcc {VE}:∀ {binds} {m},(∀ v,(x,v)∉binds)->G5 VE binds m x=m x
 | [],_,_=>rfl
 | (n,v)::r,m,h=>by
  unfold G5;rw[Zcc fun w hw=>h w (Qk _ hw)];split
  rfl;have:x≠n:=by rintro rfl;exact h v Qj
  simp[this]
theorem Zcb {VE} {x} {v}:∀ {P:Vd Vl} {vs} {i:Vg} {m},P.Nodup->P[i]?=some x->vs[i]?=some v->VE x=some .local ->
  G4 VE (P.zip vs) m x=some v
 | [],_,_,_,_,h,_,_=>by simp at h
 | _::_,[],_,_,_,_,h,_=>by simp at h
 | p::P,w::vs,0,m,nd,h1,h2,hk=>by
  simp at h1 h2;subst h1;subst h2;show G4 VE ((p,w)::P.zip vs) m p=_;unfold G4;rw[Zca fun v hv=>(QU.mp nd).1 (U1 hv).1,Vf hk];simp
 | p::P,w::vs,i+1,m,nd,h1,h2,hk=>by
  unfold G4;exact Zcb (i:=i) (QU.mp nd).2 (by simp_all) (by simp_all) hk
theorem Zcd {VE} {x} {v}:∀ {P:Vd Vl} {vs} {i:Vg} {m},P.Nodup->P[i]?=some x->vs[i]?=some v->VE x≠some .local ->
  G5 VE (P.zip vs) m x=some v
 | [],_,_,_,_,h,_,_=>by simp at h
 | _::_,[],_,_,_,_,h,_=>by simp at h
 | p::P,w::vs,0,m,nd,h1,h2,hk=>by
  simp at h1 h2;subst h1;subst h2;show G5 VE ((p,w)::P.zip vs) m p=_;unfold G5;rw[Zcc fun v hv=>(QU.mp nd).1 (U1 hv).1,if_neg hk];simp
 | p::P,w::vs,i+1,m,nd,h1,h2,hk=>by
  unfold G5;exact Zcd (i:=i) (QU.mp nd).2 (by simp_all) (by simp_all) hk
noncomputable def start (N:Vd Vl) (vs:Vd V):St:=vs.map some++Qq (N.length-vs.length) none
noncomputable def ZeI (CX:CXT) (P:Oh) (w:Oi) (K:Ve) (mg:Vl->Vj Vi) (base:Vz) (N:Vd Vl) (qual:Vl) (scope:Scope) (f:Vk) (cd:Vi) (A:VA) (outer:Vd L8) (s:Vh) (H:Hp) (E:XK):Cx where
 prog:=P
 w:=w
 K:=K
 mg:=mg
 base:=base
 A:=A.deeper (O4 qual scope s.heap.objs.size f cd)
 N:=N
 s₀:=s
 H₀:=H
 env:=O4 qual scope s.heap.objs.size f cd
 outer:=outer
 stack:=O4 qual scope s.heap.objs.size f cd::outer
 ex:=[]
 calm:=true
 fn:=fun _=>true
 pn:=[]
 xe:=fun e s'=>Og (Oc P w) (A.deeper (O4 qual scope s.heap.objs.size f cd)) (leaving (O4 qual scope s.heap.objs.size f cd) e) (fun _ s''=>CX outer H s E e s'') (fun e' s''=>CX outer H s E e' s'') s'
theorem Zd7 {sc:Scope} (h:sc.names.lookup x=some .cell):∃ c,(Gg n sc.names []).lookup x=some c:=by
 exact WL.mp (Me sc.names n [] (.inl h))
theorem ZgJ {K}
  (S:Zo N ps scope) (hd:A.handled=none) (e0:Env0 P w K mg base A outer s H) (hl:vs.length=ps.length) (r:Vals vs us)
  (x:InCallC s s.heap.objs.size (G4 (O4 qual scope s.heap.objs.size f cd).kindOf (ps.zip us) fun _=>none) (Gg (s.heap.objs.size+1) scope.names []) (G5 (O4 qual scope s.heap.objs.size f cd).kindOf (ps.zip us) fun _=>none) s1) :
  Inv (ZeI CX P w K mg base N qual scope f cd A outer s H E) [] (start N vs) H s1:=by
 have hpl:ps.length<=N.length:=by have:=VR Rs S.pre;rw[QE]at this;lia
 obtain⟨h1,tk,rfl,hk⟩:=x.done;have noA:∀ b:Vk,b∉(ZeI CX P w K mg base N qual scope f cd A outer s H E).ex:=fun b z=>Vo (show b∈([]:Vd Vk)from z) (by simp);refine⟨⟨e0.mod,S.kind,rfl,rfl,Qg _,fun y z c h1 h2=>?_,fun y hy=>?_,fun y c _ h=>?_,fun _=>hd,Around.frames_deeper e0.frames,.inr ⟨rfl,rfl⟩,fun b z=>Vo z (noA b),e0.bs,e0.bsz,fun b _ _=>noA b,fun b z=>Vo z (noA b),e0.funs,e0.frf⟩,
  rfl,e0.bare,Un.kept hk,⟨_,x.toInCall.ns,fun i y v h1 h2 h3=>?_⟩,fun y c h=>⟨_,x.cell y c h⟩,e0.hok.fresh (Qg _),fun y c h=>?_,fun p hp=>Vo (show p∈([]:Vd (Vk×Nd))from hp) (by simp),e0.hok.kept hk,?_⟩
 ·exact name_of_addr x.apart (VH h1) (VH h2)
 ·have hy:=hy;rcases hy with hy | hy
  ·exact Zd7 hy
  ·exact Vo rfl (S.nofree _ (VH hy))
 ·exact WK (x.above y c (VH h))
 ·have hi:i<vs.length:=by
   unfold start at h2;by_cases hi:i<vs.length
   ·exact hi
   ·rw[Qy (by simpa using hi)]at h2;rw[Wt]at h2
    simp_all
  have ha:vs[i]?=some v:=by
   unfold start at h2;rw[QA (by simpa using hi),Qi]at h2
   simp_all
  obtain⟨u,hu,rv⟩:=r.get ha;have hp:ps[i]?=some y:=by
   rw[←S.pre,UY (Kc hl hi)];trivial
  have ndP:ps.Nodup:=by rw[←S.pre];exact S.nd.sublist (List.take_sublist _ _)
  refine⟨u,rv,?_⟩;rcases S.par y (Q3 hp)with k | k
  ·exact .inl ⟨k,Zcb ndP hp hu k⟩
  ·obtain⟨c,e⟩:=Zd7 (n:=s.heap.objs.size+1) k;refine .inr ⟨.inl k,c,e,?_⟩;have q:=x.cell y c e;rw[Zcd ndP hp hu (by show scope.names.lookup y≠_;rw[k];decide)]at q;omega
 ·exact e0.hok.fresh (WK (x.above y c (VH h)))
 ·unfold start;show _=N.length;rw[Qh,Qd,Wj];lia
theorem Ziw {K} {dV kV doc pm cdv ct oc}
  (lk:K.lookup f=some ⟨oc,od,.func (VC name qual params body scope dV kV doc pm an cdv ct),osl⟩) (hcd:V2 K cdv qual=true) (S:Zo N ps scope)
  (len:∀ vs H Q E,sp vs H Q E->vs.length=ps.length)
  (hbody:∀ (A) (outer) (s) (H) (vs) (Q) (E),Room k (A.deeper (O4 qual scope s.heap.objs.size f cdv))->sp vs H Q E ->
   ∃ t,PSs (ZeI CX P w K mg base N qual scope f cdv A outer s H E) body t/\t {nx:=fun _ H'=>Q .non H',rt:=Q} (start N vs) H) :
  FnOk P w K mg base CX (k+1) f (VC name qual params body scope dV kV doc pm an cdv ct) ps sp:=by
 refine⟨len,fun A outer s H args us vs Q E hr e0 hb r hsp=>?_⟩;have KX:=e0.mod.kin.keeps fun b o e=>(e0.bs b o e).1;have hkind:∀ y∈ps.zip us,scope.names.lookup y.1=some _\/(scope.names.lookup y.1=some _/\((Gg (s.heap.objs.size+1) scope.names []).lookup y.1).isSome=true):=fun⟨n,v⟩ hy=>by
  rcases S.par n (U1 hy).1 with q | q
  exact .inl q;exact .inr ⟨q,Me _ _ _ (.inl q)⟩
 refine codeAny_call_function hr.depth (KX _ _ lk) rfl S.co S.gen rfl (PySem.W.codeRec_of KX hcd) (hb _ _ _ _ (wpAny_newFunctionEnv_cells S.kind hkind fun env he s1 x=>?_));subst he;refine⟨(e0.mod.nolimit.keeps fun b o e=>(e0.bs b o e).1).keeps x.toInCall.keep,codeAny_func ?_⟩;obtain⟨t,ht,hq⟩:=hbody A outer s H vs Q E (hr.deeper _) hsp;have I:Inv (ZeI CX P w K mg base N qual scope f cdv A outer s H E) [] _ H s1:=ZgJ S hr.hd e0 (len _ _ _ _ hsp) r x;refine Oo (ht [] s1 _ H _ I hq) (fun fl s' hs=>?_) fun e s' hs=>hs;have fin:∀ {σ':St} {H':Hp} {v:V} {u:Vi},Inv (ZeI CX P w K mg base N qual scope f cdv A outer s H E) [] σ' H' s'->RelV v u->Q v H'->CE outer P w H s Q u s' :=
  fun {σ' H' v u} J rv q=>⟨v,H',J.os,J.bare,J.base,J.hok,rv,q⟩
 cases fl with
 | ret u =>
  obtain⟨v,σ',H',J,rv,q⟩:=hs;exact fin J rv q
 | next =>
  obtain⟨σ',H',J,q⟩:=hs;exact fin (v:=V.non) J rfl q
 | brk =>
  obtain⟨_,_,_,q⟩:=hs;exact NG q
 | cont =>
  obtain⟨_,_,_,q⟩:=hs;exact NG q
section
variable {X:Cx} {x:Vl} {p pos:MA} {e:Expr} {es:Vd Expr} {t:TA} {id T:Ny} {r:Vd V->Hp->VK->Prop}
def tCB (r:Vd V->Hp->VK->Prop) (t:TA):TE:=fun σ H Q=>t σ H fun vs H1=>r vs H1 Q
theorem Zk (hc:CallR X (.builtin id) r) (hg:Gl X x) (hm:X.mg x=none) (hv:On x=some (.builtin id)) (ha:PA X (e::es) t) (hn:x≠"__name__":=by decide) (hdb:(x==("__debug__"))=false:=by decide)
  (he:Oj (e::es) X.env=(false,VQ e X.env)::Oj es X.env:=by rfl) (hpl:(Ox pos (Oj es X.env)).any (·.1)=false:=by rfl):PE X (.Call (.Name x p) (e::es) [] pos) (tCB r t):=by
 intro pins s σ H Q I h;exact OD (XS I hg hm hv (R9 (thn (ha pos pins s σ H _ I h) fun us s1 ⟨vs,H1,I1,r1,q1⟩=>hc pins s1 σ H1 vs us Q I1 r1 q1) he hpl) hn hdb)
theorem Z4 (hc:CallR X (.type T) r) (hg:Gl X x) (hm:X.mg x=none) (hv:On x=some (.type T)) (ha:PA X (e::es) t) (hn:x≠"__name__":=by decide) (hdb:(x==("__debug__"))=false:=by decide)
  (he:Oj (e::es) X.env=(false,VQ e X.env)::Oj es X.env:=by rfl) (hpl:(Ox pos (Oj es X.env)).any (·.1)=false:=by rfl):PE X (.Call (.Name x p) (e::es) [] pos) (tCB r t):=by
 intro pins s σ H Q I h;exact OD (XS I hg hm hv (VJ (thn (ha pos pins s σ H _ I h) fun us s1 ⟨vs,H1,I1,r1,q1⟩=>hc pins s1 σ H1 vs us Q I1 r1 q1) he hpl) hn hdb)
end
section
variable {κ:Type} [Tf κ]
noncomputable def XF (kvs:Vd (κ×V)) (k:κ):Vj V:=(kvs.find? fun kv=>decide (kv.1=k)).map (·.2)
noncomputable def X8 (kvs:Vd (κ×V)) (k:κ) (v:V):Vd (κ×V) :=
 if (kvs.any fun kv=>decide (kv.1=k))=true then kvs.map (fun kv=>if kv.1=k then (kv.1,v)else kv)else kvs++[(k,v)]
theorem Jj {k:κ} (e:p.1=k):XF (p::r) k=some p.2:=by simp[XF,WU,e]
theorem Jk {k:κ} (e:¬ p.1=k):XF (p::r) k=XF r k:=by simp[XF,WU,e]
theorem Jl (k:κ):∀ kvs,(kvs.any fun kv=>decide (kv.1=k))=(XF kvs k).isSome
 | []=>rfl
 | p::r=>by
  rw[Re];by_cases e:p.1=k
  simp[Jj e,Vq e,Bool.true_or,UQ];rw[Jk e,Vp e];exact Jl k r
theorem YQ (kvs) (k:κ) (v):(X8 kvs k v).length<=kvs.length+1:=by
 unfold X8;split
 simp;simp
theorem ZaT {k:κ} (v) (h:XF kvs k=none):X8 kvs k v=kvs++[(k,v)]:=by
 unfold X8;rw[Jl,h];simp
theorem RelO.isSome_eq (r:RelO o u):o.isSome=u.isSome:=by
 cases o with
 | none=>cases u with
  | none=>rfl
  | some _=>exact r.elim
 | some _=>cases u with
  | none=>exact r.elim
  | some _=>rfl
theorem RelO.getD (r:RelO o u) (rd:RelV d d'):RelV (o.getD d) (u.getD d'):=by
 cases o with
 | none=>cases u with
  | none=>grind
  | some _=>exact r.elim
 | some _=>cases u with
  | none=>exact r.elim
  | some _=>exact r
theorem KV.val (r:KV kvs vs) (k:κ):RelO (XF kvs k) (GJ vs k):=by
 induction r with
 | nil=>exact VF
 | @cons p q ps qs h t ih =>
  obtain⟨h1,_⟩:=h;by_cases e:p.1=k
  have e':=h1.symm.trans e;have b:GJ (q::qs) k=some q.2:=by simp[GJ,WU,e']
  rw[Jj e,b];trivial;have e':¬ q.1=k:=fun z=>e (h1.trans z);have b:GJ (q::qs) k=GJ qs k:=by simp[GJ,WU,e']
  rw[Jk e,b];omega
theorem KV.any (r:KV kvs vs) (k:κ):(kvs.any fun kv=>decide (kv.1=k))=vs.any fun kv=>decide (kv.1=k):=by
 induction r with
 | nil=>rfl
 | cons h t ih=>rw[Re,Re,ih,h.1]
theorem KV.repl (r:KV kvs vs) (k:κ) (ry:RelV y u) :
  KV (kvs.map fun kv=>if kv.1=k then (kv.1,y)else kv) (vs.map fun kv=>if kv.1=k then (kv.1,u)else kv):=by
 induction r with
 | nil=>exact .nil
 | @cons p q ps qs h t ih =>
  refine .cons ?_ ih;by_cases e:p.1=k
  simp_all
  simp_all
theorem KV.put (r:KV kvs vs) (k:κ) (ry:RelV y u):KV (X8 kvs k y) (stored vs k u):=by
 unfold X8 stored;rw[r.any k];by_cases e:(vs.any fun kv=>decide (kv.1=k))=true
 rw[Vf e,Vf e];exact r.repl k ry;rw[if_neg e,if_neg e];exact LD r ⟨rfl,ry⟩
theorem KV.keys {kvs:Vd (κ×V)} (r:KV kvs vs):kvs.map (·.1)=vs.map (·.1):=by
 induction r with
 | nil=>rfl
 | cons h t ih=>rw[QV,QV,ih,h.1]
theorem KV.length {kvs:Vd (κ×V)} (r:KV kvs vs):kvs.length=vs.length:=MS r
end
theorem ZbS (r:RelV (kV k) u):(Zs P w).is k u=true:=by
 cases k with
 | inl i=>obtain⟨t,rfl⟩:=r;exact ZcU P w i t
 | inr x=>obtain⟨t,rfl⟩:=r;exact Xz P w x t
theorem ZbT:∀ {ks} {us},Vals (ks.map kV) us->ItemsAre (Zs P w) ks us
 | [],_,r=>by cases r;exact .nil
 | k::ks,_,r=>by
  cases r with
  | cons h t=>exact .cons (ZbS h) (ZbT t)
abbrev KT (H:Hp):Vd (Vd Key×V)->Vd (Vd Key×Vk×Vi)->Prop:=MZ fun p q=>p.1=q.1/\H q.2.1=some (.tup (p.1.map kV))/\RelV p.2 q.2.2
theorem KT.val (r:KT H kvs xs) (k):RelO (XF kvs k) ((GZ xs k).map (·.2)):=by
 induction r with
 | nil=>exact VF
 | @cons p q ps qs h t ih =>
  obtain⟨h1,_,h2⟩:=h;by_cases e:p.1=k
  have e':=h1.symm.trans e;have b:GZ (q::qs) k=some q.2:=by simp[GZ,WU,e']
  rw[Jj e,b];trivial;have e':¬ q.1=k:=fun z=>e (h1.trans z);have b:GZ (q::qs) k=GZ qs k:=by simp[GZ,WU,e']
  rw[Jk e,b];omega
theorem KT.repl (r:KT H kvs xs) (k) (ry:RelV y u) :
  KT H (kvs.map fun kv=>if kv.1=k then (kv.1,y)else kv) (xs.map (putAt k u)):=by
 induction r with
 | nil=>exact .nil
 | @cons p q ps qs h t ih =>
  refine .cons ?_ ih;unfold putAt;by_cases e:p.1=k
  simp_all
  simp_all
theorem KT.put (r:KT H kvs xs) (k) (hb:H b=some (.tup (k.map kV))) (ry:RelV y u) :
  KT H (X8 kvs k y) (storedH xs k b u):=by
 have e:(kvs.any fun kv=>decide (kv.1=k))=(GZ xs k).isSome:=by
  rw[Jl,(r.val k).isSome_eq,UT]
 unfold X8 storedH;rw[e];by_cases q:(GZ xs k).isSome=true
 rw[Vf q,Vf q];exact r.repl k ry;rw[if_neg q,if_neg q];exact LD r ⟨rfl,hb,ry⟩
theorem KT.keeps (r:KT H kvs xs) (ht:∀ b ys,H b=some (.tup ys)->H' b=some (.tup ys)):KT H' kvs xs :=
 Paired.mapP r fun _ _ z=>⟨z.1,ht _ _ z.2.1,z.2.2⟩
section
variable {P:Oh} {w:Oi} {H:Hp} {h:Vz} {a:Vk}
theorem Zlt (ok:HOk P w H h) (e:Rd H a u):ObjOk P w H h a u:=e.ok ok
theorem Zb6 (ok:HOk P w H h) (e:Rd H a (.dK kvs)):kvs.length<=Of/\(a==OE)=false/\∃ vs,KV kvs vs/\h.DictOf (Zs P w) a vs :=
 Zlt ok e
theorem Zah (ok:HOk P w H h) (e:H a=some (.dK kvs)):kvs.length<=Of/\(a==OE)=false/\∃ vs,KV kvs vs/\h.DictOf (Zs P w) a vs:=Zb6 ok (.inl e)
theorem Zav (ok:HOk P w H h) (e:H a=some (.tup (ks.map kV))):(GQ (Zs P w)).is h ks a:=by
 obtain⟨_,its,r,⟨o,h1,h2,n,h3⟩,_⟩:=(ok a _ e)
 exact⟨o,_,n,h1,h2,h3,by simpa using ZbT r⟩
theorem Zc1 (ok:HOk P w H h) (e:Rd H a (.dT kvs)):kvs.length<=Of/\(a==OE)=false /\
  ∃ xs,KT H kvs xs/\h.DictOfH (GQ (Zs P w)) a xs:=by
 obtain⟨z,y,xs,r,o,es,ep,h1,h2,h3,h4,h5⟩:=(Zlt ok e)
 refine⟨z,y,xs,r,o,es,ep,h1,h2,h3,h4,fun x hx=>?_,h5⟩;have all:∀ {l:Vd _} {m:Vd _},KT H l m->∀ x∈m,(GQ (Zs P w)).is h x.1 x.2.1:=by
  intro l m q;induction q with
  | nil=>simp
  | @cons p q ps qs hq t ih =>
   intro x hx;rcases Qs.mp hx with e | hx
   exact Zav ok (by simp_all);exact ih x hx
 exact all r x hx
theorem ZnB (ok:HOk P w H h) (e:H a=some (.dT kvs)):kvs.length<=Of/\(a==OE)=false /\
  ∃ xs,KT H kvs xs/\h.DictOfH (GQ (Zs P w)) a xs:=Zc1 ok (.inl e)
end
def DGet (H:Hp) (a:Vk) (y:V) (r:Vj V):Prop :=
 (∃ kvs k,Rd H a (.dK kvs)/\y=kV k/\r=XF kvs k)\/∃ kvs k b,Rd H a (.dT kvs)/\y= .ref b/\H b=some (.tup (k.map kV))/\r=XF kvs k
def DPut (H:Hp) (a:Vk) (y v:V) (H':Hp):Prop :=
 (∃ kvs k,H a=some (.dK kvs)/\y=kV k/\kvs.length<Of/\H'=upd H a (.dK (X8 kvs k v))) \/
 ∃ kvs k b,H a=some (.dT kvs)/\y= .ref b/\H b=some (.tup (k.map kV))/\kvs.length<Of/\H'=upd H a (.dT (X8 kvs k v))
theorem DGet.kk {k} (e:H a=some (.dK kvs)):DGet H a (kV k) (XF kvs k):=.inl ⟨kvs,k,.inl e,rfl,rfl⟩
theorem DPut.kk {k} (e:H a=some (.dK kvs)) (hl:kvs.length<Of):DPut H a (kV k) v (upd H a (.dK (X8 kvs k v))):=.inl ⟨kvs,k,e,rfl,hl,rfl⟩
section
variable {X:Cx} {pins:Vd (Vk×Nd)} {σ:St} {H:Hp} {s:Vh} {a:Vk} {y v:V} {u r:Vi} {o:Vj V} {A:VA} {E:Vi->Vh->Prop}
theorem Inv.big (I:Inv X pins σ H s):OE<s.heap.objs.size:=by
 exact Nat.lt_trans (by decide) ((I.mod.glob.keeps I.bk).lt)
theorem Zg4 (hu:A.units+1<OY) (I:Inv X pins σ H s) (g:DGet H a y (some v)) (ry:RelV y u) (h:∀ w' s',Inv X pins σ H s'->RelV v w'->Q w' s') :
  Og (Oc X.prog X.w) A (Gs (.ref a) u) Q E s:=by
 rcases g with ⟨kvs,k,e,ey,l⟩ | ⟨kvs,k,b,e,ey,eb,l⟩
 subst ey;obtain⟨z,hd,vs,rel,dd⟩:=Zb6 I.hok e;obtain⟨w',hw,rw'⟩:=RelO.some_of (by exact l▸rel.val k);exact wpAny_getItem_of (ZbS ry) dd.mapOf hw (h w' _ (I.tok _) rw');subst ey;cases ry;obtain⟨z,hd,xs,rel,dd⟩:=Zc1 I.hok e;obtain⟨w',hw,rw'⟩:=RelO.some_of (by exact l▸rel.val k);obtain⟨p,hp,hp2⟩:=Wp.mp hw;exact wpAny_getItem_heap (OT hu) (Zav I.hok eb) dd hp (hp2▸h w' _ (I.tok _) rw')
theorem Zox (hu:A.units+1<OY) (I:Inv X pins σ H s) (g:DGet H a y o) (ry:RelV y u) (h:∀ s',Inv X pins σ H s'->Q (.bool o.isSome) s') :
  Og (Oc X.prog X.w) A (Oy .In u (.ref a)) Q E s:=by
 rcases g with ⟨kvs,k,e,ey,l⟩ | ⟨kvs,k,b,e,ey,eb,l⟩
 subst ey;obtain⟨z,hd,vs,rel,dd⟩:=Zb6 I.hok e;refine wpAny_in_of (ZbS ry) hd dd.mapOf ?_;rw[←(rel.val k).isSome_eq,←l];exact h _ (I.tok _);subst ey;cases ry;obtain⟨z,hd,xs,rel,dd⟩:=Zc1 I.hok e;refine wpAny_in_heap (OT hu) (Zav I.hok eb) hd dd ?_;have q:=(rel.val k).isSome_eq;rw[UT]at q;rw[←q,←l];exact h _ (I.tok _)
theorem ZkT (hu:A.units+1<OY) (I:Inv X pins σ H s) (g:DGet H a y o) (ry:RelV y u) (h:∀ s',Inv X pins σ H s'->Q (.bool (!o.isSome)) s') :
  Og (Oc X.prog X.w) A (Oy .NotIn u (.ref a)) Q E s:=by
 rcases g with ⟨kvs,k,e,ey,l⟩ | ⟨kvs,k,b,e,ey,eb,l⟩
 subst ey;obtain⟨z,hd,vs,rel,dd⟩:=Zb6 I.hok e;refine wpAny_notIn_of (ZbS ry) hd dd.mapOf ?_;rw[←(rel.val k).isSome_eq,←l];exact h _ (I.tok _);subst ey;cases ry;obtain⟨z,hd,xs,rel,dd⟩:=Zc1 I.hok e;refine wpAny_notIn_heap (OT hu) (Zav I.hok eb) hd dd ?_;have q:=(rel.val k).isSome_eq;rw[UT]at q;rw[←q,←l];exact h _ (I.tok _)
theorem Zbd (I:Inv X pins σ H s) (mu:Mut (H a)) (hs:VY a s.heap h') (he:∃ q,h'.get? a=some q) (new:ObjOk X.prog X.w (upd H a ob) h' a ob) :
  Inv X pins σ (upd H a ob) {s with heap:=h',toks:=t'} :=
 I.write mu (.inl rfl) (fun b q hb z=>(hs.2 b hb).trans z) he new
theorem Zg0 (z:kvs.length<=Of) (hd:(a==OE)=false) (rel:KV kvs vs) (dd:h'.DictOf (Zs P w) a vs) :
  ObjOk P w H' h' a (.dK kvs):=⟨z,hd,vs,rel,dd⟩
theorem Zg3 (hu:A.units+1<OY) (I:Inv X pins σ H s) (g:DPut H a y v H') (ry:RelV y u) (rv:RelV v r) (h:∀ s',Inv X pins σ H' s'->Q () s') :
  Og (Oc X.prog X.w) A (Va (.ref a) u r) Q E s:=by
 rcases g with ⟨kvs,k,e,ey,l,eH⟩ | ⟨kvs,k,b,e,ey,eb,l,eH⟩
 subst ey eH;obtain⟨z,hd,vs,rel,dd⟩:=Zah I.hok e;have hz:vs.length<=Of:=by rw[←rel.length];exact Bk l
 have hl:(X8 kvs k v).length<=Of:=by have:=YQ kvs k v;exact En l this
 exact wpAny_setItem_pairs (ZbS ry) dd fun h' dd' hs=>h _ (Zbd I (by exact e▸VF) hs (let ⟨q,_,_,hq,_⟩:=dd';⟨q,hq⟩) (Zg0 hl hd (rel.put k rv) dd'));subst ey eH;cases ry;obtain⟨z,hd,xs,rel,dd⟩:=ZnB I.hok e;have hz:xs.length<=Of:=by rw[←MS rel];exact Bk l
 have hl:(X8 kvs k v).length<=Of:=by have:=YQ kvs k v;exact En l this
 refine wpAny_setItem_heap (OT hu) (Zav I.hok eb) dd fun h' dd' hs=>h _ ?_;obtain⟨q,es,ep,hq,h2,h3,h4,_,h5⟩:=dd';refine Zbd I (by exact e▸VF) hs ⟨q,hq⟩ ⟨hl,hd,_,(rel.put k eb rv).keeps fun c ys ec=>?_,q,es,ep,hq,h2,h3,h4,h5⟩;rw[Zf (ZcP ec e fun z=>nomatch z)];omega
end
section
variable {X:Cx} {pins:Vd (Vk×Nd)} {σ:St} {H:Hp} {s:Vh} {a:Vk} {kvs:Vd (Key×V)} {k:Key} {u:Vi} {A:VA} {E:Vi->Vh->Prop}
theorem ZnC (I:Inv X pins σ H s) (e:Rd H a (.dK kvs)) (h:∀ t s',Inv X pins σ H s'->Q (.int kvs.length t) s'):Og (Oc X.prog X.w) A (call (.builtin "len") [.ref a]) Q E s:=by
 obtain⟨z,hd,vs,rel,dd⟩:=Zb6 I.hok e;exact call_len_dict hd dd (by rw[←rel.length];rw[Op]at z;lia) (rel.length▸h _ _ (I.tok _))
end
def ZnZ (i:Expr):Prop:=∀ ov iv,Gz i false ov iv=Vb [ov,iv] (Gs ov iv)
theorem ZjM {T id}
  (hl:G0 (.type T) "__getitem__" = pure (some (.builtin id))) (hs:ZnZ slice)
  (h:Og (Oc prog w) A (VQ value env) (fun o s₁=>Og (Oc prog w) A (VQ slice env) (fun i s₂=>s₂.TypeIs o T/\Og (Oc prog w) A (Gs o i) Q E s₂) E s₁) E s) :
  Og (Oc prog w) A (VQ (.Subscript value slice pos) env) Q E s:=by
 refine GG (Oo h (fun o s₁ h₁=>Oo h₁ (fun i s₂ h₂=>?_) fun _ _ x=>x) fun _ _ x=>x);obtain⟨hT,h₂⟩:=h₂;refine Oa (Oa (Gk hT hl ?_));have fin:Og (Oc prog w) A (Gz slice false o i) (fun r s₃=>Og (Oc prog w) A (letTemporaryGo value o r >>= fun _=>pure r) Q E s₃) E s₂:=by
  exact hs o i▸wpAny_operating (Oo h₂ (fun r s₃ h₃=>Oa (wpAny_letTemporaryGo (Ob h₃))) fun _ _ x=>x)
 first
  | exact Ob (Oa fin)
  | lia
  | lia
theorem Zc2 {σ:St} (I:Inv X pins σ H s) (g:DGet H a y o):s.TypeIs (.ref a) "dict":=by
 rcases g with ⟨kvs,k,e,_,_⟩ | ⟨kvs,k,b,e,_,_,_⟩
 obtain⟨_,_,vs,_,dd⟩:=Zb6 I.hok e;exact dd.typeIs;obtain⟨_,_,xs,_,dd⟩:=Zc1 I.hok e;exact dd.typeIs
def Zm4 (td ty:TE):TE:=fun σ H Q=>td σ H fun x H1=>ty σ H1 fun y H2=>∃ a v,x= .ref a/\DGet H2 a y (some v)/\Q v H2
def Zob (ty td:TE):TE:=fun σ H Q=>ty σ H fun y H1=>td σ H1 fun x H2=>∃ a o,x= .ref a/\DGet H2 a y o/\Q (.bl o.isSome) H2
def ZjK (ty td:TE):TE:=fun σ H Q=>ty σ H fun y H1=>td σ H1 fun x H2=>∃ a o,x= .ref a/\DGet H2 a y o/\Q (.bl (!o.isSome)) H2
def Zm8 (td ty tv:TE):TS:=fun D σ H=>tv σ H fun v H1=>td σ H1 fun x H2=>ty σ H2 fun y H3=>∃ a H4,x= .ref a/\DPut H3 a y v H4/\D.nx σ H4
section
variable {X:Cx} {o i e value:Expr} {pos pos' tpos:MA} {td ty tv:TE}
theorem X9 (hu:X.A.units+1<OY) (ho:PE X o td) (hi:PE X i ty) (hs:ZnZ i):PE X (.Subscript o i pos) (Zm4 td ty):=by
 intro pins s σ H Q I h;refine ZjM PySem.F.slot_dict_getitem.lookup hs (thn (ho pins s σ H _ I h) fun u s1 ⟨x,H1,I1,rx,q1⟩=>thn (hi pins s1 σ H1 _ I1 q1) fun iv s2 ⟨y,H2,I2,ry,a,v,ex,g,q2⟩=>?_);subst ex;obtain rfl:u=Value.ref a:=rx;exact⟨Zc2 I2 g,Zg4 hu I2 g ry fun w' s3 I3 rw'=>⟨v,H2,I3,rw',q2⟩⟩
theorem Zi5 (hu:X.A.units+1<OY) (hi:PE X i ty) (ho:PE X o td):PC X .In i o (Zob ty td):=by
 intro pins s σ H Q I h;refine thn (hi pins s σ H _ I h) fun iv s1 ⟨y,H1,I1,ry,q1⟩=>thn (ho pins s1 σ H1 _ I1 q1) fun u s2 ⟨x,H2,I2,rx,a,ov,ex,g,q2⟩=>?_;subst ex;obtain rfl:u=Value.ref a:=rx;exact Zox hu I2 g ry fun s3 I3=>⟨.bl ov.isSome,H2,I3,rfl,q2⟩
theorem ZbC (hu:X.A.units+1<OY) (hi:PE X i ty) (ho:PE X o td):PC X .NotIn i o (ZjK ty td):=by
 intro pins s σ H Q I h;refine thn (hi pins s σ H _ I h) fun iv s1 ⟨y,H1,I1,ry,q1⟩=>thn (ho pins s1 σ H1 _ I1 q1) fun u s2 ⟨x,H2,I2,rx,a,ov,ex,g,q2⟩=>?_;subst ex;obtain rfl:u=Value.ref a:=rx;exact ZkT hu I2 g ry fun s3 I3=>⟨.bl _,H2,I3,rfl,q2⟩
theorem Y2 (hu:X.A.units+1<OY) (ho:PE X o td) (hi:PE X i ty) (hv:PE X value tv) (hs:GB value (some (.Subscript o i pos')) pos.line X.env=pure false) :
  PS X (.Assign [.Subscript o i pos'] value pos) (Zm8 td ty tv):=by
 intro pins s σ H D I h;refine wpAny_Assign_Subscript (thn (hv pins s σ H _ I h) fun r s1 ⟨v,H1,I1,rv,q1⟩=>thn (ho pins s1 σ H1 _ I1 q1) fun u s2 ⟨x,H2,I2,rx,q2⟩=>thn (hi pins s2 σ H2 _ I2 q2) fun iv s3 ⟨y,H3,I3,ry,a,H4,ex,g,q3⟩=>?_) hs;subst ex;obtain rfl:u=Value.ref a:=rx;exact Zg3 hu I3 g ry rv fun s4 I4=>⟨σ,H4,I4,q3⟩
end
theorem Zd5 (h:Vz) (hb:OE<h.objs.size):ObjOk P w H (h.push {cls:=.type "dict",data:=.dict #[]}) h.objs.size (.dK []) :=
 ⟨QQ _,beq_eq_false_iff_ne.mpr (Vy (QB hb)),[],.nil,Heap.DictOf.new h⟩
def Zlk:TE:=fun _ H Q=>∀ p,H p=none->Q (.ref p) (upd H p (.dK []))
section
variable {X:Cx} {pos:MA}
theorem XM:PE X (.Dict [] [] pos) Zlk:=fun pins s σ H Q I h =>
 wpAny_Dict_empty ⟨.ref s.heap.objs.size,_,I.laid (fun _ _ q=>Qc _ q) (Qg _) (Zd5 s.heap I.big),rfl,h _ (I.hok.fresh (Qg _))⟩
end
def Ze4:Vd (TE×TE)->St->Hp->(Vd (V×V)->Hp->Prop)->Prop
 | [],_,H,Q=>Q [] H
 | (tk,tv)::r,σ,H,Q=>tk σ H fun x H1=>tv σ H1 fun y H2=>Ze4 r σ H2 fun ps H3=>Q ((x,y)::ps) H3
abbrev VV:Vd (V×V)->Vd (Vi×Vi)->Prop:=MZ fun p q=>RelV p.1 q.1/\RelV p.2 q.2
def PPs (X:Cx) (pos:MA) (keys:Vd (Vj Expr)) (values:Vd Expr) (trs:Vd (TE×TE)):Prop :=
 ∀ (pins:Vd (Vk×Nd)) (s:Vh) (σ:St) (H:Hp) (Q:Vd (V×V)->Hp->Prop),Inv X pins σ H s->Ze4 trs σ H Q ->
  Og (Oc X.prog X.w) X.A (evalPairs (pairTrees keys values X.env pos)) (fun vs s'=>∃ ps H',Inv X pins σ H' s'/\VV ps vs/\Q ps H') X.xe s
theorem ZfJ:PPs X pos [] [] []:=fun pins s σ H Q I h=>pairTrees_nil_walk ⟨[],H,I,.nil,h⟩
theorem ZdG (hk:PE X k tk) (hv:PE X v tv) (hr:PPs X pos ks vs trs) :
  PPs X pos (some k::ks) (v::vs) ((tk,tv)::trs):=fun pins s σ H Q I h =>
 pairTrees_cons_walk (thn (hk pins s σ H _ I h) fun u s1 ⟨x,H1,I1,rx,q1⟩=>thn (hv pins s1 σ H1 _ I1 q1) fun w2 s2 ⟨y,H2,I2,ry,q2⟩ =>
  thn (hr pins s2 σ H2 _ I2 q2) fun ws s3 ⟨ps,H3,I3,rel,q3⟩=>⟨_,H3,I3,.cons ⟨rx,ry⟩ rel,q3⟩)
noncomputable def Y6 (kvs more:Vd (Key×V)):Vd (Key×V):=more.foldl (fun acc kv=>X8 acc kv.1 kv.2) kvs
theorem KV.merge:∀ {more} {rs} {kvs} {vs},KV more rs->KV kvs vs->KV (Y6 kvs more) (merged vs rs):=by
 intro more rs kvs vs r;induction r generalizing kvs vs with
 | nil=>intro q;exact q
 | @cons p q ps qs h t ih =>
  intro r0;have e:KV (X8 kvs p.1 p.2) (stored vs q.1 q.2):=by
   have:=r0.put p.1 h.2
   simp_all
  exact ih e
theorem XQ:∀ (more kvs),(Y6 kvs more).length<=kvs.length+more.length
 | [],kvs=>by show kvs.length<=kvs.length+0;exact Ka
 | p::r,kvs=>by
  have h1:=XQ r (X8 kvs p.1 p.2);have h2:=YQ kvs p.1 p.2;show(Y6 (X8 kvs p.1 p.2) r).length<=_;rw[QC];lia
theorem ZaE:∀ {kvs} {ws},VV (kvs.map fun kv=>(kV kv.1,kv.2)) ws->∃ rs,Carries (Zs P w) ws rs/\KV kvs rs
 | [],_,r=>by cases r;exact⟨[],VF,.nil⟩
 | p::kvs,_,r=>by
  cases r with
  | @cons a b as bs h t =>
   obtain⟨rs,c,q⟩:=ZaE t;obtain⟨b1,b2⟩:=b;exact⟨(p.1,b2)::rs,⟨ZbS h.1,rfl,c⟩,.cons ⟨rfl,h.2⟩ q⟩
def Zm2 (trs:Vd (TE×TE)):TE:=fun σ H Q=>∀ p,H p=none->Ze4 trs σ (upd H p (.dK [])) fun ps H2=>H2 p=some (.dK [])/\∃ kvs:Vd (Key×V),ps=kvs.map (fun kv=>(kV kv.1,kv.2))/\kvs.length<=15/\Q (.ref p) (upd H2 p (.dK (Y6 [] kvs)))
theorem ZfS (h:PPs X pos keys values trs) (hall:keys.all (·.isSome)=true) (hl:keys.length=values.length) (h0:keys≠[])
  (h15:keys.length<=15):PE X (.Dict keys values pos) (Zm2 trs):=by
 intro pins s σ H Q I q;refine wpAny_Dict_walk (knd:=Zs X.prog X.w) hall hl h0 h15 (thn (h pins _ σ _ _ (I.laid (t':=s.toks) (fun _ _ q=>Qc _ q) (Qg _) (Zd5 s.heap I.big)) (q _ (I.hok.fresh (Qg s.heap.objs.size)))) fun ws s2 ⟨ps,H2,I2,rel,e,kvs,ep,lk,q2⟩=>?_);subst ep;obtain⟨rs,c,rk⟩:=ZaE rel;have⟨z,hd,vs0,r0,dd⟩:=Zah I2.hok e;cases r0;refine⟨rs,c,dd,fun h' dd' hs=>⟨.ref s.heap.objs.size,_,?_,rfl,q2⟩⟩;have hz:(Y6 [] kvs).length<=Of:=by
  have h1:=XQ kvs [];rw[U2]at h1;rw[Op];lia
 exact Zbd I2 (by exact e▸VF) hs (let ⟨q,_,_,hq,_⟩:=dd';⟨q,hq⟩) (Zg0 hz hd (rk.merge .nil) dd')
structure M2 (X:Cx) (o:Expr) (m:Vl) (apos:MA) (e f:Expr) (cpos:MA):Prop where
 base:OC o m X.env (VQ o X.env)=VQ o X.env
 few:((Ox cpos (Oj [e,f] X.env)).all (fun x=>!x.1)&&(O6 cpos (ON [] X.env)).all (fun x=>x.1.isSome)
  && decide (([e,f]:Vd Expr).length+([]:Vd GV).length+(if ([]:Vd GV).isEmpty then 0 else 1)<30))=true
 line:(apos.endLine==cpos.line)=true
 trees:Ox cpos (Oj [e,f] X.env)=[(false,VQ e X.env),(false,VQ f X.env)]
def IsD (H:Hp) (a:Vk):Prop:=(∃ kvs,Rd H a (.dK kvs))\/∃ kvs,Rd H a (.dT kvs)
theorem ZbU {σ:St} (I:Inv X pins σ H s) (d:IsD H a) :
  s.TypeIs (.ref a) "dict"/\(∀ b,Value.ref a= .ref b->∃ ob,s.heap.get? b=some ob/\ob.dict=none)/\(a==OE)=false:=by
 rcases d with ⟨kvs,e⟩ | ⟨kvs,e⟩
 obtain⟨_,hd,vs,_,dd⟩:=Zb6 I.hok e;refine⟨dd.typeIs,fun b q=>?_,hd⟩;cases q;obtain⟨ob,_,_,h1,h2,_⟩:=dd;exact⟨ob,h1,h2.2.1⟩;obtain⟨_,hd,xs,_,dd⟩:=Zc1 I.hok e;refine⟨dd.typeIs,fun b q=>?_,hd⟩;cases q;obtain⟨ob,_,_,h1,h2,_⟩:=dd;exact⟨ob,h1,h2.2.1⟩
section
variable {X:Cx} {pins:Vd (Vk×Nd)} {σ:St} {H:Hp} {s:Vh} {a:Vk} {y d:V} {u r:Vi} {o:Vj V} {A:VA} {E:Vi->Vh->Prop}
theorem Zmx (hu:A.units+1<OY) (I:Inv X pins σ H s) (g:DGet H a y o) (ry:RelV y u) (rd:RelV d r) (h:∀ w' s',Inv X pins σ H s'->RelV (o.getD d) w'->Q w' s') :
  Og (Oc X.prog X.w) A (call (.builtin "dict.get") [.ref a,u,r]) Q E s:=by
 rcases g with ⟨kvs,k,e,ey,l⟩ | ⟨kvs,k,b,e,ey,eb,l⟩
 subst ey;obtain⟨z,hd,vs,rel,dd⟩:=Zb6 I.hok e;exact O8 NF dd.typeIs Mf (N9 _ _ _) (meets_dict_get_default _ a (ZbS ry) hd r) ⟨_,dd.mapOf,h _ _ (I.tok _) (l▸(rel.val k).getD rd)⟩;subst ey;cases ry;obtain⟨z,hd,xs,rel,dd⟩:=Zc1 I.hok e;exact O8 NF dd.typeIs Mf (N9 _ _ _) (meetsH_dict_get_default _ a b hd r) ⟨OT hu,k,xs,Zav I.hok eb,dd,h _ _ (I.tok _) (l▸(rel.val k).getD rd)⟩
end
def Zll (td ty tx:TE):TE:=fun σ H Q=>td σ H fun x H1=>∃ a,x= .ref a/\IsD H1 a/\ty σ H1 fun y H2=>tx σ H2 fun z H3=>∃ o,DGet H3 a y o/\Q (o.getD z) H3
section
variable {X:Cx} {o e f:Expr} {apos cpos:MA} {td ty tx:TE}
theorem Xf (hu:X.A.units+1<OY) (ho:PE X o td) (he:PE X e ty) (hf:PE X f tx) (m:M2 X o "get" apos e f cpos):PE X (.Call (.Attribute o "get" apos) [e,f] [] cpos) (Zll td ty tx):=by
 intro pins s σ H Q I h;refine RO m.base m.few m.line V3 NF PySem.F.type_dict_get (thn (ho pins s σ H _ I h) fun u s1 ⟨x,H1,I1,rx,a,ex,d,q1⟩=>?_);subst ex;obtain rfl:u=Value.ref a:=rx;obtain⟨t1,t2,_⟩:=ZbU I1 d;refine⟨t1,t2,?_⟩;rw[m.trees];exact VO rfl (Ni (V8 (thn (he pins s1 σ H1 _ I1 q1) fun iv s2 ⟨y,H2,I2,ry,q2⟩ =>
  V8 (thn (hf pins s2 σ H2 _ I2 q2) fun fv s3 ⟨z,H3,I3,rz,ov,g,q3⟩=>NA (Zmx hu I3 g ry rz fun w' s4 I4 rw'=>⟨_,H3,I4,rw',q3⟩)))))
end
section
variable {X:Cx} {pins:Vd (Vk×Nd)} {σ:St} {H:Hp} {s:Vh} {a:Vk} {kvs:Vd (Key×V)} {A:VA} {E:Vi->Vh->Prop}
end
section
variable {X:Cx} {pins:Vd (Vk×Nd)} {σ:St} {H:Hp} {s:Vh} {a:Vk} {y:V} {u:Vi} {A:VA} {E:Vi->Vh->Prop}
end
end L2
namespace HT
open PySem PyProof.Rows
section
open PySem.SeqAt
open PySem.AutoSeq1 (wpAny_loadPart')
open PySem.MeetsSeq PySem.MeetsSeq2 PySem.MeetsSeq3
end
section
variable {prog:Oh} {w:Oi} {A:VA} {E:Vi->Vh->Prop} {s:Vh}
noncomputable def sIx (n d:Vg):Vj Vs->Vg
 | none=>d
 | some v=>if v<0 then (v+(n:Vs)).toNat else min v.toNat n
end
end HT
namespace L2
open PySem PySem.Spec PyProof.Rows
abbrev TO:=St->Hp->(Vj Vs->Hp->Prop)->Prop
def PO (X:Cx) (e:Vj Expr) (t:TO):Prop :=
 ∀ (pins:Vd (Vk×Nd)) (s:Vh) (σ:St) (H:Hp) (Q:Vj Vs->Hp->Prop),Inv X pins σ H s->t σ H Q ->
  Og (Oc X.prog X.w) X.A (evalPart e X.env) (fun u s'=>∃ o H',Inv X pins σ H' s'/\IsPart u o/\Q o H') X.xe s
def ZjI:TO:=fun _ H Q=>Q none H
def ZmY (t:TE):TO:=fun σ H Q=>t σ H fun x H1=>∃ i,x= .int i/\Q (some i) H1
section
variable {X:Cx} {e:Expr} {te:TE} {lo hi:Vj Expr} {tl th:TO} {pos p2:MA}
theorem ZT:PO X none ZjI:=by
 intro pins s σ H Q I h;exact Ob ⟨_,H,I,.none,h⟩
theorem ZM (h:PE X e te):PO X (some e) (ZmY te):=by
 intro pins s σ H Q I hw;refine thn (h pins s σ H _ I hw) fun u s1 ⟨x,H1,I1,r1,q1⟩=>?_;obtain⟨i,rfl,q⟩:=q1;obtain⟨t,rfl⟩:=r1;exact⟨_,H1,I1,.int i t,q⟩
def SlR (X:Cx) (r:V->Vj Vs->Vj Vs->Hp->VK->Prop):Prop :=
 ∀ (pins:Vd (Vk×Nd)) (s:Vh) (σ:St) (H:Hp) (x:V) (v vl vu:Vi) (lo hi:Vj Vs) (sl:Vk) (Q:VK),Inv X pins σ H s->RelV x v->s.heap.IsSliceOf sl vl vu .none->IsPart vl lo->IsPart vu hi->r x lo hi H Q ->
  ∃ T id,G0 (.type T) "__getitem__" = pure (some (.builtin id))/\s.TypeIs v T/\Og (Oc X.prog X.w) X.A (Gs v (.ref sl)) (EP X pins σ Q) X.xe s
def tSl (r:V->Vj Vs->Vj Vs->Hp->VK->Prop) (te:TE) (tl th:TO):TE:=fun σ H Q=>te σ H fun x H1=>tl σ H1 fun l H2=>th σ H2 fun u H3=>r x l u H3 Q
theorem Zz (hr:SlR X r) (he:PE X e te) (hl:PO X lo tl) (hu:PO X hi th):PE X (.Subscript e (.Slice lo hi none p2) pos) (tSl r te tl th):=by
 intro pins s σ H Q I h;refine GG (thn (he pins s σ H _ I h) fun v s1 ⟨x,H1,I1,r1,q1⟩=>(wpAny_Slice (thn (hl pins s1 σ H1 _ I1 q1) fun vl s2 ⟨l,H2,I2,pl,q2⟩=>thn (hu pins s2 σ H2 _ I2 q2) fun vu s3 ⟨u,H3,I3,pu,q3⟩=>(Ob ?_))));have I4:Inv X pins σ H3 {s3 with heap:=s3.heap.push {cls:=.type "slice",data:=.fields #[vl,vu,.none]}}:=I3.kept fun b ob q=>Qc _ q;obtain⟨T,id,hT,ht,hg⟩:=hr pins _ σ H3 x v vl vu l u s3.heap.objs.size Q I4 r1 (Heap.IsSliceOf.new ..) pl pu q3;exact LF ht hT hg (by rfl)
noncomputable def Zjr (xs:Vd V) (lo hi:Vj Vs):Vd V:=(xs.drop (HT.sIx xs.length 0 lo)).take (HT.sIx xs.length xs.length hi-HT.sIx xs.length 0 lo)
theorem Zc4 (xs) (lo hi):(Zjr xs lo hi).length<=xs.length:=by
 unfold Zjr;rw[QE,Wa];lia
end
noncomputable def ixN (n:Vg) (i:Vs):Vj Vg:=if 0<=i then (if i<n then some i.toNat else none)else if -(n:Vs)<=i then some (i+n).toNat else none
noncomputable def atI {α:Type} (xs:Vd α) (i:Vs):Vj α:=(ixN xs.length i).bind fun j=>xs[j]?
theorem ZgG (h:ixN n i=some j):seqIndex? i n=some j/\j<n/\-n<=i/\i<n:=by
 unfold ixN at h;by_cases h0:0<=i
 rw[Vf h0]at h;by_cases h1:i<n
 rw[Vf h1]at h;have e:=Vu h;exact⟨by rw[Th h0 h1,e],by omega,by omega,h1⟩
 simp_all
 rw[if_neg h0]at h;by_cases h1 : -n<=i
 rw[Vf h1]at h;have e:=Vu h;exact⟨by rw[RP (Dv h0) h1,e],by omega,h1,by omega⟩
 simp_all
theorem Zdb {xs} {v:α} (h:atI xs i=some v):∃ j,seqIndex? i xs.length=some j/\xs[j]?=some v/\j<xs.length/\-xs.length<=i/\i<xs.length:=by
 unfold atI at h;cases e:ixN xs.length i with
 | none=>simp_all
 | some j =>
  obtain⟨_⟩:=ZgG e
  simp_all
theorem Zhh {xs} {j:Vg} {v:α} (h:xs[j]?=some v):atI xs j=some v:=by
 have hj:=(Ql.mp h).1;have e:ixN xs.length j=some j:=by
  unfold ixN;rw[Vf Ss,Vf (Di hj)];simp
 unfold atI;simp_all
def ZkZ (b:Expr):Prop:=∀ o i,Gz b false o i=Vb [o,i] (Gs o i)
def IxR (X:Cx) (r:R2):Prop :=
 ∀ (value slice:Expr) (pins:Vd (Vk×Nd)) (s:Vh) (σ:St) (H:Hp) (x y:V) (v u:Vi) (Q:VK),Inv X pins σ H s->RelV x v->RelV y u->r x y H Q ->
  Gz slice false v u=Vb [v,u] (Gs v u)->Og (Oc X.prog X.w) X.A (subscriptTail value slice v u) (EP X pins σ Q) X.xe s
def MtR (X:Cx) (id:Ny) (r:V->Vd V->Hp->VK->Prop):Prop :=
 ∀ (pins:Vd (Vk×Nd)) (s:Vh) (σ:St) (H:Hp) (x:V) (xs:Vd V) (v:Vi) (us:Vd Vi) (Q:VK),Inv X pins σ H s->RelV x v->Vals xs us->r x xs H Q ->
  Og (Oc X.prog X.w) X.A (call (.builtin id) (v::us)) (EP X pins σ Q) X.xe s
section
variable {X:Cx} {a b:Expr} {ta tb:TE} {pos:MA}
theorem IxR.or (h:IxR X r) (h':IxR X r'):IxR X (fun x y H Q=>r x y H Q\/r' x y H Q):=by
 intro value slice pins s σ H x y v u Q I rx ry q hs;rcases q with q | q
 exact h value slice pins s σ H x y v u Q I rx ry q hs;exact h' value slice pins s σ H x y v u Q I rx ry q hs
theorem ZB (hr:IxR X r) (ha:PE X a ta) (hb:PE X b tb) (hs:ZkZ b):PE X (.Subscript a b pos) (tOp r ta tb):=by
 intro pins s σ H Q I h;exact GG (ZnE ha hb I h fun v u s2 x y H2 I2 rx ry q=>hr a b pins s2 σ H2 x y v u Q I2 rx ry q (hs _ _))
def Znd (K:Ve):R2:=fun x y H Q=>∃ p xs i v,x= .ref p/\y= .int i/\SqL K H p xs/\atI xs i=some v/\Q v H
def Znc (K:Ve):R2:=fun x y H Q=>∃ p xs i v,x= .ref p/\y= .int i/\SqT K H p xs/\atI xs i=some v/\Q v H
def ZnT:R2:=fun x y H Q=>∃ z i c,x= .str z/\y= .int i/\z.length<=Of/\atI z.cps.toList i=some c/\Q (.str ⟨#[c]⟩) H
theorem ix_list:IxR X (Znd X.K):=by
 intro value slice pins s σ H x y v u Q I rx ry h hs;obtain⟨p,xs,i,z,rfl,rfl,hq,he,q⟩:=h;cases rx;obtain⟨t,rfl⟩:=ry;obtain⟨its,r,pl,_⟩:=I.list hq;obtain⟨j,h1,h2,h3,h4,h5⟩:=Zdb he;obtain⟨w,ew,rw'⟩:=r.get h2;have hl:=r.length;have hn:=Zau;have fin:EP X pins σ Q w s:=⟨z,H,I,rw',q⟩
 by_cases h0:0<=i
 have hj:i.toNat=j:=by
  rw[Th h0 h5]at h1
  simp_all
 exact item_listR pl.isList h0 (by omega) (by rw[hj];simpa using ew) fin hs;have hj:(i+its.toArray.size).toNat=j:=by
  rw[RP (Dv h0) h4]at h1
  simp_all
 exact Mg pl.isList.typeIs slot_list_getitem.lookup
  (wpAny_getItem_list_neg pl.isList (Dv h0) (by rw[Qz] <;> exact Fy h4 hl) (by lia) (by rw[hj];simpa using ew) ⟨rfl,fin⟩) hs
theorem ix_tup:IxR X (Znc X.K):=by
 intro value slice pins s σ H x y v u Q I rx ry h hs;obtain⟨p,xs,i,z,rfl,rfl,hq,he,q⟩:=h;cases rx;obtain⟨t,rfl⟩:=ry;obtain⟨its,r,pl,_⟩:=I.tuple hq;obtain⟨j,h1,h2,_⟩:=Zdb he;obtain⟨w,ew,rw'⟩:=r.get h2;have hn:=Zau;exact Mg pl.typeIs slot_tuple_getitem.lookup
  (getItem_tuple pl (by omega) (by omega) (by rw[Qz,←r.length];omega) (by simpa using ew) ⟨rfl,(⟨z,H,I,rw',q⟩)⟩) hs
theorem Zd1:IxR X ZnT:=by
 intro value slice pins s σ H x y v u Q I rx ry h hs;obtain⟨z,i,c,rfl,rfl,hz,he,q⟩:=h;obtain⟨t,rfl⟩:=rx;obtain⟨t',rfl⟩:=ry;obtain⟨j,h1,h2,h3,h4,h5⟩:=Zdb he;have hl:z.cps.toList.length=z.length:=by rfl
 have hn:=Zau;exact LF (Gm s z t) slot_str_getitem.lookup (getItem_str (by
  have e1:decide (i < -(2 ^ 63))=false:=Vp (by omega);have e2:decide (i≥2 ^ 63)=false:=Vp (by omega);rw[e1,e2,Rf]) (by simp_all) ⟨.str _,H,I.tok _,⟨_,rfl⟩,q⟩) hs
def rIx (K:Ve):R2:=fun x y H Q=>Znd K x y H Q\/Znc K x y H Q\/ZnT x y H Q
theorem Zmk:IxR X (rIx X.K):=ix_list.or (ix_tup.or Zd1)
theorem Zev (its:Vd Vi) (n j) (u):VX (·.setIfInBounds j u) {cls:=.type "list",data:=.seq its.toArray n}={cls:=.type "list",data:=.seq (its.set j u).toArray n}:=by
 simp[VX]
theorem Inv.lst {σ:St} {H} {s} {p} {xs} (I:Inv X pins σ H s) (h:H p=some (.lst xs)) :
  ∃ (its:Vd Vi) (n:Vg),Vals xs its/\s.heap.get? p=some {cls:=.type "list",data:=.seq its.toArray n}/\xs.length<=Of:=by
 obtain⟨z,its,n,r,e⟩:=I.hok p _ h;exact⟨its,n,r,e,z⟩
theorem Inv.lstUpd {σ:St} {its its':Vd Vi} (I:Inv X pins σ H s) (h:H p=some (.lst xs))
  (ho:s.heap.get? p=some {cls:=.type "list",data:=.seq its.toArray n}) (hf:f {cls:=.type "list",data:=.seq its.toArray n}={cls:=.type "list",data:=.seq its'.toArray n'}) (r:Vals ys its') (hz:ys.length<=Of) (t) :
  Inv X pins σ (upd H p (.lst ys)) {s with heap:=s.heap.update p f,toks:=t}:=by
 have e:(s.heap.update p f).get? p=some {cls:=.type "list",data:=.seq its'.toArray n'}:=by
  rw[Wl f ho (by rw[hf] <;> rfl),hf]
 refine I.write (by rw[h];trivial) (.inl rfl) (fun b u hb q=>(QM _ _ (Vy hb)).trans q) ⟨_,e⟩ ?_;exact⟨hz,_,n',r,e⟩
def Zna:V->V->V->Hp->(Hp->Prop)->Prop:=fun o i v H Q=>∃ p xs k j,o= .ref p/\i= .int k/\H p=some (.lst xs)/\ixN xs.length k=some j/\Q (upd H p (.lst (xs.set j v)))
theorem Yv:ZnM X Zna:=by
 intro pins s σ H o i v ov iv u Q I ro ri rv h;obtain⟨p,xs,k,j,rfl,rfl,hp,hj,q⟩:=h;cases ro;obtain⟨t,rfl⟩:=ri;obtain⟨its,n,r,ho,_⟩:=I.lst hp;obtain⟨h1,h2,h3,h4⟩:=ZgG hj;have hl:=r.length;have hn:=Zau;have I' :=
  I.lstUpd hp ho (Zev its n j u) (r.set rv j) (by rw[List.length_set];omega) s.toks
 by_cases h0:0<=k
 have hk:k.toNat=j:=by
  rw[Th h0 h4]at h1
  simp_all
 exact PySem.W.ki_setAt ho h0 (by omega) (by rw[Qz];omega) (by exact hk▸⟨_,I',q⟩);have hk:(k+its.toArray.size).toNat=j:=by
  rw[RP (Dv h0) h3]at h1
  simp_all
 exact PySem.W.ki_setBack ho (Dv h0) (by rw[Qz];exact Fy h3 hl) (by lia) (by exact hk▸⟨_,I',q⟩)
theorem Zbu (lo hi) (n):(GA lo hi none n).1=((HT.sIx n 0 lo:Vg))/\(GA lo hi none n).2.1=((HT.sIx n n hi):Vs)/\(GA lo hi none n).2.2=1:=by
 refine⟨?_,?_,rfl⟩;cases lo with
 | none=>rfl
 | some i =>
  simp[GA,HT.sIx,Rt,show 1>0 by decide,ML];by_cases h:i<0
  simp[h,ML] <;> exact He h;simp[h,MC] <;> exact Hf
 cases hi with
 | none=>rfl
 | some i =>
  simp[GA,HT.sIx,Rt,show 1>0 by decide,ML];by_cases h:i<0
  simp[h,ML] <;> exact He h;simp[h,MC] <;> exact Hf
theorem ZaJ (its:Vd Vi) (lo hi):slicePick its.toArray lo hi none=((its.drop (HT.sIx its.length 0 lo)).take (HT.sIx its.length its.length hi-HT.sIx its.length 0 lo)).toArray:=by
 obtain⟨h1,h2,h3⟩:=Zbu lo hi its.toArray.size;unfold slicePick;rw[h1,h2,h3];simp only[sliceRange_one,pick_run,Qz] <;> rfl
def Zoi (K:Ve):V->Vj Vs->Vj Vs->Hp->VK->Prop:=fun x lo hi H Q=>∃ a xs,x= .ref a/\SqL K H a xs/\∀ p,H p=none->Q (.ref p) (upd H p (.lst (Zjr xs lo hi)))
theorem Zfj:SlR X (Zoi X.K):=by
 intro pins s σ H x v vl vu lo hi sl Q I rx hs pl pu h;obtain⟨a,xs,rfl,hx,q⟩:=h;cases rx;obtain⟨its,r,ht,hz⟩:=I.list hx;have hlen:=r.length;refine⟨_,_,slot_list_getitem.lookup,ht.isList.typeIs,(N1 ht.isList hs pl pu .none (by simp) ?_ (by rw[Qz] <;> exact Kd hz hlen))⟩;rw[ZaJ,←hlen];refine⟨.ref s.heap.objs.size,_,I.laid (fun b ob q=>Qc _ q) (Qg _) ?_,rfl,q _ (I.hok.fresh (Qg _))⟩;exact⟨QK (Zc4 xs lo hi) hz,_,0,(r.drop _).take _,Qm _ rfl⟩
noncomputable def ZeF:V->V0
 | .non=>true
 | .bl _=>true
 | .int _=>true
 | .str _=>true
 | _=>false
noncomputable def eqV:V->V->V0
 | .non,.non=>true
 | .bl a,.bl b=>a==b
 | .bl a,.int b=>(if a then 1 else 0)==b
 | .int a,.bl b=>a==(if b then 1 else 0)
 | .int a,.int b=>a==b
 | .str a,.str b=>a==b
 | _,_=>false
theorem Zms (ry:RelV y u) (rx:RelV x v) (fy:ZeF y=true) (fx:ZeF x=true):LU A s u v (eqV y x):=by
 cases y with
 | non =>
  cases ry;cases x with
  | non=>cases rx;exact SeqAt.EqAt.same _
  | bl b=>cases rx;exact SeqAt.EqAt.none_bool b
  | int b=>obtain⟨t,rfl⟩:=rx;exact SeqAt.EqAt.none_int b t
  | str b=>obtain⟨t,rfl⟩:=rx;exact SeqAt.EqAt.none_str b t
  | _=>exact Vo (show false=true from fx) QO
 | bl a =>
  cases ry;cases x with
  | non=>cases rx;exact SeqAt.EqAt.bool_none a
  | bl b=>cases rx;exact SeqAt.EqAt.bool_bool a b
  | int b=>obtain⟨t,rfl⟩:=rx;exact SeqAt.EqAt.bool_int a b t
  | str b=>obtain⟨t,rfl⟩:=rx;exact SeqAt.EqAt.bool_str a b t
  | _=>exact Vo (show false=true from fx) QO
 | int a =>
  obtain⟨t',rfl⟩:=ry;cases x with
  | non=>cases rx;exact SeqAt.EqAt.int_none a t'
  | bl b=>cases rx;exact SeqAt.EqAt.int_bool a t' b
  | int b=>obtain⟨t,rfl⟩:=rx;exact M9 a t' b t
  | str b=>obtain⟨t,rfl⟩:=rx;exact MW a t' b t
  | _=>exact Vo (show false=true from fx) QO
 | str a =>
  obtain⟨t',rfl⟩:=ry;cases x with
  | non=>cases rx;exact SeqAt.EqAt.str_none a t'
  | bl b=>cases rx;exact SeqAt.EqAt.str_bool a t' b
  | int b=>obtain⟨t,rfl⟩:=rx;exact MX a t' b t
  | str b=>obtain⟨t,rfl⟩:=rx;exact SeqAt.EqAt.str_str a t' b t
  | _=>exact Vo (show false=true from fx) QO
 | _=>exact Vo (show false=true from fy) QO
noncomputable def eqU (x:V) (u:Vi):V0:=match u with
 | .none=>eqV .non x
 | .bool b=>eqV (.bl b) x
 | .int i _=>eqV (.int i) x
 | .str z _=>eqV (.str z) x
 | _=>false
theorem Zjn (r:RelV y u) (f:ZeF y=true):eqU x u=eqV y x:=by
 cases y with
 | non=>cases r;rfl
 | bl b=>cases r;rfl
 | int i=>obtain⟨t,rfl⟩:=r;rfl
 | str z=>obtain⟨t,rfl⟩:=r;rfl
 | _=>exact Vo f QO
theorem ZdP {x} {v} (rx:RelV x v) (fx:ZeF x=true):∀ {xs} {us},Vals xs us->xs.all ZeF=true->∀ u∈us,LU A s u v (eqU x u)
 | _,_,.nil,_=>fun u hu=>by grind
 | y::xs,u::us,.cons r t,f=>fun u' hu=>by
  rw[List.all_cons,Wg]at f;rcases Qs.mp hu with rfl | hu
  exact Zjn r f.1▸Zms r rx f.1 fx;exact ZdP rx fx t f.2 u' hu
theorem ZP:CallR X (.type "tuple") (fun xs H Q=>∃ p ys,xs=[.ref p]/\((SqL X.K H p ys/\∀ l,H l=none->Q (.ref l) (upd H l (.tup ys)))\/(SqT X.K H p ys/\Q (.ref p) H))):=by
 intro pins s σ H xs us Q I r h;obtain⟨p,ys,rfl,h⟩:=h;obtain⟨u,rfl,rfl⟩:=XE r;rcases h with ⟨hq,q⟩ | ⟨hq,q⟩
 obtain⟨its,r',pl,hz⟩:=I.list hq;have hlen:=r'.length;refine call_tuple_list pl.isList (fun h' kp=>?_) (by simp[Qz] <;> exact Kd hz hlen);have I1:=I.kept (t':=s.toks) kp;exact⟨.ref h'.objs.size,_,(I1.laid (t':=s.toks) (fun b o e=>Qc _ e) (Qg _) (show ObjOk X.prog X.w _ _ _ (.tup ys)from⟨hz,its,r',IsTup.new _ _,ZaZ rfl rfl⟩)),rfl,q _ (I1.hok.fresh (Qg _))⟩;obtain⟨its,r',pl,_⟩:=I.tuple hq;exact call_tuple_same pl ⟨.ref p,H,I,rfl,q⟩
def tyV (K:Ve) (T:Ny) (x:V) (H:Hp):Prop:=match x with
 | .str _=>T = "str"
 | .int _=>T = "int"
 | .ref p=>(T = "list"/\∃ xs,SqL K H p xs)\/(T = "tuple"/\∃ o,K.lookup p=some o/\o.cls= .type "tuple"/\o.dict=none) \/
   (T = "dict"/\((∃ kvs,H p=some (.dK kvs))\/∃ kvs,H p=some (.dT kvs)))\/(T = "set"/\∃ S n,H p=some (.set S n))
 | _=>False
theorem ZiI {σ:St} (I:Inv X pins σ H s) (r:RelV x v) (ty:tyV X.K T x H) :
  s.TypeIs v T/\∀ a,v= .ref a->∃ ob,s.heap.get? a=some ob/\ob.dict=none:=by
 cases x with
 | str z =>
  obtain⟨t,rfl⟩:=r;cases ty;exact⟨Gm s z t,fun _ e=>nomatch e⟩
 | int i =>
  obtain⟨t,rfl⟩:=r;cases ty;exact⟨Tv s i t,fun _ e=>nomatch e⟩
 | ref p =>
  cases r;rcases ty with ⟨rfl,xs,hq⟩ | ⟨rfl,o,hk,hc,hd⟩ | ⟨rfl,hk⟩ | ⟨rfl,S,n,hk⟩
  obtain⟨its,_,pl,_⟩:=I.list hq;refine⟨pl.isList.typeIs,fun a e=>?_⟩;cases e;obtain⟨o,n,e,c,hd,_⟩:=pl
  simp_all
  refine⟨⟨o,I.kIn p o hk,hc⟩,fun a e=>?_⟩;cases e;exact⟨o,I.kIn _ o hk,hd⟩;have z:∃ o,s.heap.get? p=some o/\o.ExactDict:=by
   rcases hk with ⟨kvs,hk⟩ | ⟨kvs,hk⟩
   obtain⟨_,_,_,_,o,_,_,e,ex,_⟩:=I.hok p _ hk
   simp_all
   obtain⟨_,_,_,_,o,_,_,e,ex,_⟩:=I.hok p _ hk
   simp_all
  obtain⟨o,e,ex⟩:=z;refine⟨⟨o,e,ex.1⟩,fun a e2=>?_⟩;cases e2;exact⟨o,e,ex.2.1⟩;obtain⟨o,_,_,_,e,ex,_⟩:=I.hok p _ hk;refine⟨⟨o,e,ex.1⟩,fun a e2=>?_⟩;cases e2;exact⟨o,e,ex.2.1⟩
 | _=>exact NG ty
def Zoc (K:Ve) (T:Ny) (r:V->Vd V->Hp->VK->Prop) (to:TE):TE:=fun σ H Q=>to σ H fun x H1=>tyV K T x H1/\r x [] H1 Q
def tBM (K:Ve) (T:Ny) (r:V->Vd V->Hp->VK->Prop) (to:TE) (t:TA):TE:=fun σ H Q=>to σ H fun x H1=>tyV K T x H1/\t σ H1 fun xs H2=>r x xs H2 Q
variable {o e:Expr} {es:Vd Expr} {to:TE} {t:TA} {name:Vl} {apos cpos:MA} {T id:Ny} {r:V->Vd V->Hp->VK->Prop}
theorem ZfU (pa:PlainAttrs T) (slot:Slot T name id) (hty:typeOf (.builtin id)=pure (.type "method_descriptor")) (hm:MtR X id r) (ho:PE X o to)
  (hbase:OC o name X.env (VQ o X.env)=VQ o X.env:=by rfl) (hline:(apos.endLine==cpos.line)=true:=by rfl):PE X (.Call (.Attribute o name apos) [] [] cpos) (Zoc X.K T r to):=by
 intro pins s σ H Q I h;refine OQ hbase hline (thn (ho pins s σ H _ I h) fun v s1 ⟨x,H1,I1,r1,ty,q1⟩=>?_);have⟨h1,h2⟩:=ZiI I1 r1 ty;exact⟨T,id,pa,slot,hty,h1,h2,VO rfl (Nq (hm pins s1 σ H1 x [] v [] Q I1 r1 .nil q1))⟩
theorem XN (pa:PlainAttrs T) (slot:Slot T name id) (hty:typeOf (.builtin id)=pure (.type "method_descriptor")) (hm:MtR X id r) (ho:PE X o to) (ha:PA X (e::es) t)
  (hbase:OC o name X.env (VQ o X.env)=VQ o X.env:=by rfl)
  (hfew:((Ox cpos (Oj (e::es) X.env)).all (fun x=>!x.1)&&(O6 cpos (ON [] X.env)).all (fun x=>x.1.isSome)
   && decide ((e::es).length+([]:Vd GV).length+(if ([]:Vd GV).isEmpty then 0 else 1)<30))=true:=by rfl)
  (hline:(apos.endLine==cpos.line)=true:=by rfl) (hs:Oj (e::es) X.env=(false,VQ e X.env)::Oj es X.env:=by rfl) (hplain:(Ox cpos (Oj es X.env)).any (·.1)=false:=by rfl) :
  PE X (.Call (.Attribute o name apos) (e::es) [] cpos) (tBM X.K T r to t):=by
 intro pins s σ H Q I h;refine wpAny_Call_method_late hbase hfew hline rfl (thn (ho pins s σ H _ I h) fun v s1 ⟨x,H1,I1,r1,ty,q1⟩=>?_);have⟨h1,h2⟩:=ZiI I1 r1 ty;refine⟨T,id,pa,slot,hty,h1,h2,?_⟩;have hA:=ha cpos pins s1 σ H1 _ I1 q1;rw[hs]at hA ⊢;exact VO (by simp_all) (Ni (thn hA fun us s2 ⟨vs,H2,I2,r2,q2⟩=>hm pins s2 σ H2 x vs v us Q I2 r1 r2 q2))
end
def MtM (X:Cx) (id:Ny) (r:V->Vd V->Hp->VK->Prop):Prop :=
 ∀ (pins:Vd (Vk×Nd)) (s:Vh) (σ:St) (H:Hp) (x:V) (xs:Vd V) (v:Vi) (us:Vd Vi) (Q:VK),Inv X pins σ H s->RelV x v->Vals xs us->r x xs H Q ->
  Og (Oc X.prog X.w) X.A (call (.builtin id) (v::us)) (EP X pins σ Q) X.xe s
theorem Vals.one:∀ {x} {us},Vals [x] us->∃ u,us=[u]/\RelV x u
 | _,_,.cons r .nil=>⟨_,rfl,r⟩
theorem Vals.zero:∀ {us},Vals [] us->us=[]
 | _,.nil=>rfl
theorem Vals.dropLast (h:Vals xs us):Vals xs.dropLast us.dropLast:=by
 induction h with
 | nil=>exact .nil
 | cons r t ih =>
  cases t with
  | nil=>simp_all
  | cons q t'=>exact .cons r ih
theorem Vals.rep (h:Vals xs us):∀ k,Vals (Qq k xs).flatten (Qq k us).flatten
 | 0=>.nil
 | k+1=>Vals.append h (Vals.rep h k)
theorem Zb0 (its):∀ (k) (acc:Vd Vi),
  Rz (fun x1 x2=>x1++x2) acc.toArray (Qq k its.toArray)=(acc++(Qq k its).flatten).toArray
 | 0,acc=>by simp
 | k+1,acc=>by
  have e:acc.toArray++its.toArray=(acc++its).toArray:=by simp
  have e2:acc++its++(Qq k its).flatten=acc++(Qq (k+1) its).flatten:=by
   rw[Ri,Rp,QH]
  rw[←e2,←Zb0 its k _,←e,Ri,U3]
section
variable {X:Cx} {pins:Vd (Vk×Nd)} {σ:St} {H:Hp} {s:Vh} {l b:Vk} {xs ys zs:Vd V}
theorem Inv.lset {its its':Vd Vi} (I:Inv X pins σ H s) (hH:H l=some (.lst xs))
  (e:s.heap.get? l=some {cls:=.type "list",data:=.seq its.toArray n}) (hf:f its.toArray=its'.toArray) (hv:Vals ys its') (hz:ys.length<=Of) :
  Inv X pins σ (upd H l (.lst ys)) {s with heap:=s.heap.update l (VX f),toks:=t'}:=by
 have q:=PySem.IsL.update e f;rw[hf]at q;refine I.write (by exact hH▸trivial) (.inl rfl) (fun b' u hb hu=>(QM s.heap _ (Vy hb)).trans hu) ⟨_,q⟩ ?_;exact⟨hz,_,_,hv,q⟩
theorem Inv.lnew (I:Inv X pins σ H s) (hv:Vals ys its) (hz:ys.length<=Of) :
  Inv X pins σ (upd H s.heap.objs.size (.lst ys)) {s with heap:=s.heap.push {cls:=.type "list",data:=.seq its.toArray},toks:=t'} :=
 I.laid (fun _ _ q=>Qc _ q) (Qg _) ⟨hz,its,0,hv,Qm _ rfl⟩
theorem Inv.fresh (I:Inv X pins σ H s):H s.heap.objs.size=none:=I.hok.fresh (Qg _)
theorem Inv.lstM (I:Inv X pins σ H s) (hH:H l=some (.lst xs)):xs.length<=Of/\∃ (its:Vd Vi) (n:Vg),Vals xs its/\xs.length=its.length/\s.heap.get? l=some {cls:=.type "list",data:=.seq its.toArray n}:=by
 obtain⟨z,its,n,r,e⟩:=I.hok l _ hH;exact⟨z,its,n,r,r.length,e⟩
theorem ZdM (h:n<=Of):Nt n=false:=Vp (by lia)
end
section
variable {X:Cx}
def ZcF:V->Vd V->Hp->VK->Prop:=fun x vs H Q=>∃ l xs y,x= .ref l/\vs=[y]/\H l=some (.lst xs)/\xs.length<Of/\Q .non (upd H l (.lst (xs++[y])))
theorem XO:MtM X "list.append" ZcF:=by
 intro pins s σ H x vs v us Q I rx rv h;obtain⟨l,xs,y,rfl,rfl,hH,hz,q⟩:=h;cases rx;obtain⟨u,rfl,ru⟩:=rv.one;obtain⟨z,its,n,r,hl,e⟩:=I.lstM hH;refine Gn F.slot_list_append ⟨_,e,rfl⟩ F.entry_list_append (F.args_list_append_2 _ _) (PySem.list_append l its.toArray n u (by rw[Qz];exact Et hz hl)) ⟨e,⟨.non,_,I.lset hH e (by simp) (r.append (.cons ru .nil)) ?_,rfl,q⟩⟩;rw[Qh,Qx];exact hz
def ZfE:V->Vd V->Hp->VK->Prop:=fun x vs H Q=>∃ l b xs zs,x= .ref l/\vs=[.ref b]/\H l=some (.lst xs)/\H b=some (.lst zs)/\xs.length+zs.length<=Of/\Q .non (upd H l (.lst (xs++zs)))
theorem Zgk:MtM X "list.extend" ZfE:=by
 intro pins s σ H x vs v us Q I rx rv h;obtain⟨l,b,xs,zs,rfl,rfl,hH,hB,hz,q⟩:=h;cases rx;obtain⟨u,rfl,rfl⟩:=rv.one;have⟨z,its,n,r,hl,e⟩:=I.lstM hH;have⟨z2,its2,n2,r2,hl2,e2⟩:=I.lstM hB;have hsz:its.toArray.size+its2.toArray.size<=Of:=by rw[Qz,Qz];exact Dw hz hl hl2
 have hlong:¬ (!its.toArray.isEmpty&&Nt (its.toArray.size+its2.toArray.size))=true:=by
  rw[ZdM hsz];simp
 refine Gn F.slot_list_extend ⟨_,e,rfl⟩ F.entry_list_extend (F.args_list_extend_2 _ _)
  (AutoSeq1.list_extend_list_list_0 l its.toArray n b its2.toArray n2 hlong (Kl hsz) (Kh hsz)) ⟨e,e2,⟨.non,_,I.lset hH e (by simp) (r.append r2) ?_,rfl,q⟩⟩
 rw[Qh];exact hz
def ZnS:V->Vd V->Hp->VK->Prop:=fun x vs H Q=>∃ l xs y,x= .ref l/\vs=[]/\H l=some (.lst xs)/\xs[xs.length-1]?=some y/\Q y (upd H l (.lst xs.dropLast))
theorem Zl0:MtM X "list.pop" ZnS:=by
 intro pins s σ H x vs v us Q I rx rv h;obtain⟨l,xs,y,rfl,rfl,hH,hy,q⟩:=h;cases rx;have hus:=rv.zero;subst hus;obtain⟨z,its,n,r,hl,e⟩:=I.lstM hH;obtain⟨u,hu,ru⟩:=r.get hy;have hy':=by
  show its.toArray[its.length-1]?=some u;rw[←QT,←hl];omega
 refine Gn F.slot_list_pop ⟨_,e,rfl⟩ F.entry_list_pop (F.args_list_pop_1 _) (MeetsSeq.list_pop_last l its.toArray n u hy' (by rw[Qz];exact Kd z hl)) ⟨e,⟨y,_,I.lset hH e ?_ r.dropLast ?_,ru,q⟩⟩;simp;rw[Uk];exact Ke z
def Zok:R2:=fun x y H Q=>∃ l b xs zs,x= .ref l/\y= .ref b/\H l=some (.lst xs)/\H b=some (.lst zs)/\xs.length+zs.length<=Of/\∀ p,H p=none->Q (.ref p) (upd H p (.lst (xs++zs)))
theorem ZdK:OpR X (OV .Add) Zok:=by
 intro pins s σ H x y v u Q I rx ry h;obtain⟨l,b,xs,zs,rfl,rfl,hH,hB,hz,q⟩:=h;cases rx;cases ry;have⟨z,its,n,r,hl,e⟩:=I.lstM hH;have⟨z2,its2,n2,r2,hl2,e2⟩:=I.lstM hB;refine PySem.P.add_list e e2 ?_ (by rw[Qz,Qz];exact Dw hz hl hl2);have ea:its.toArray++its2.toArray=(its++its2).toArray:=by simp
 exact ea▸⟨.ref _,_,I.lnew (r.append r2) (by rw[Qh];exact hz),rfl,q _ I.fresh⟩
def Zoj:R2:=fun x y H Q=>∃ l k xs,x= .ref l/\y= .int k/\H l=some (.lst xs)/\-(2 ^ 63)<=k/\k<2 ^ 63/\xs.length*k.toNat<=Of /\
 ∀ p,H p=none->Q (.ref p) (upd H p (.lst (Qq k.toNat xs).flatten))
theorem ZkE {α:Type} (xs:Vd α) (k):(Qq k xs).flatten.length=k*xs.length:=by
 simp
theorem Y5:OpR X (OV .Mult) Zoj:=by
 intro pins s σ H x y v u Q I rx ry h;obtain⟨l,k,xs,rfl,rfl,hH,h1,h2,hz,q⟩:=h;cases rx;obtain⟨t,rfl⟩:=ry;obtain⟨z,its,n,r,hl,e⟩:=I.lstM hH;have hlen:its.toArray.size*k.toNat<=Of:=by rw[Qz,←hl];exact hz
 have hcap:¬ its.toArray.size*k.toNat>(2 ^ 63-1) / 8:=by
  have:Of<=(2 ^ 63-1) / 8:=by decide
  lia
 have hfit:¬ (!Tw k)=true:=by
  rw[fitsIndex_both h1 h2];simp
 have hlong:¬ Nt (its.toArray.size*k.toNat)=true:=by
  rw[ZdM hlen];simp
 have hnew:Rz (fun x1 x2=>x1++x2) #[] (Qq (if its.toArray.isEmpty=true then 0 else k.toNat) its.toArray)=(Qq k.toNat its).flatten.toArray:=by
  have f0:∀ m,Rz (fun x1 x2=>x1++x2) #[] (Qq m its.toArray)=(Qq m its).flatten.toArray:=fun m=>by
   have:=Zb0 its m []
   simp_all
  rw[f0];cases its with
  | nil=>simp
  | cons a r'=>simp
 exact wpAny_binaryOp_repeat_ref (by decide) ⟨_,e,rfl⟩ (fun s'=>Tv s' k t) noFill_list_mul F.fills_int_mul F.slot_int_rmul repeat_list F.slot_int_index.lookup
  (Gn F.slot_int_rmul (Tv s k t) F.entry_int_rmul (F.args_int_rmul_2 _ _) (int___rmul___int_list k t l its.toArray n)
   ⟨e,rfl,⟨_,e,rfl⟩,Gn F.slot_list_mul ⟨_,e,rfl⟩ F.entry_list_mul (F.args_list_mul_2 _ _) (AutoListH.list___mul___list_int_3 l its.toArray n k t hfit hcap hlong) ⟨e,(hnew▸⟨.ref _,_,I.lnew (r.rep k.toNat) (by rw[ZkE,Nat.mul_comm];exact hz),rfl,q _ I.fresh⟩)⟩⟩)
end
section
variable {prog:Oh} {w:Oi} {A:VA} {E:Vi->Vh->Prop} {s:Vh}
end
section
variable {X:Cx}
end
end L2
namespace Att
open PySem PySem.W PySem.Calls PyProof.Rows
theorem JR:∀ (ns) (vs),WellAll P h vs (ns.map WData.int)->G6 vs ns:=by
 intro ns;induction ns with
 | nil =>
  intro vs w;cases w;exact .nil
 | cons n ns ih =>
  intro vs w;cases w with
  | cons a b =>
   cases a;exact .cons _ _ (ih _ b)
theorem Zfn {l:OpenLaw} (hn:l.most=some n)
  (hpre:l.row.toRowW.claim.pre args=true) (hwl:WellAll P h vals args) :
  ∃ a vs ns,vals=[Value.ref a]/\args=[WData.list (ns.map WData.int)]/\h.get? a=some {cls:=.type "list",data:=.seq vs.toArray}/\G6 vs ns/\ns.length<=n:=by
 have hc:l.pre.holds [] _=true:=(pre_splitW hpre).2;obtain⟨d,r,rfl,h1,h2⟩:=hasAllW_cons ((pre_splitW hpre).1);obtain rfl:=hasAllW_nil h2;obtain⟨xs,rfl,h3⟩:=hasW_list h1;obtain⟨ns,rfl⟩:=items_int h3;have hlen:ns.length<=n:=by
  have h4:(WTm.not (.lt (.lit (.int n)) (.len (.arg 0)))).holds [] {args:=[.list (ns.map .int)]}=true:=by
   have h4:=(holds_andW hc).1
   simp_all
  have h5:=condW_of h4 (w_not (w_lt w_lit (w_len_list (w_arg rfl))));exact Ru fun q=>(by simp_all)
 cases hwl with
 | cons w1 w2 =>
  cases w2;cases w1 with
  | list ho hall=>exact⟨_,_,ns,rfl,rfl,ho,JR ns _ hall,hlen⟩
theorem ZfK (l:OpenLaw) (args):l.row.toRowW.claim.post args (.bool true) args=true :=
 postW_of
  (by rfl)
  (w_eq_bool (w_res rfl) w_lit) rfl
theorem attach_call {l:OpenLaw}
  (hn:l.most=some n) (hdf:d.params.defaults=[])
  (call:∀ (w) (s₀ s₁) (mg mb) (fa) (o) (pm cd doc) (a) (vs) (ns),
   Ground q loose [] XP w s₀ mg mb s₁.heap->YP w s₁.heap ->
   s₁.heap.get? fa=some o->o.data= .func (docDef d.name d.params d.body d.scope pm cd doc)->s₁.heap.CodeRec cd d.name->mg d.name=some (.ref fa) ->
   s₁.heap.get? a=some {cls:=.type "list",data:=.seq vs.toArray}->G6 vs ns->ns.length<=n->s₁.gens= #[] ->
   OB (Oc l.prog w) GK (.call (.ref fa) ⟨[.ref a],[]⟩) (fun r s'=>r= .ok (.ret (.bool true))/\OldK s₁.heap s'.heap/\s'.os=s₁.os/\O9 s'.gens) s₁) :
  WalkO q loose XP YP l.row.toRowW d [] (fun f vs=>Tx f vs):=by
 intro w s₀ s₁ mg mb G Y fa o pm cd doc dV kV ho hd hcd hD hmg hg args vals as hpre hlay hrd hwl hlo;obtain rfl:dV= .none:=Dflts.none hD hdf;obtain rfl:kV= .none:=Dflts.noKw hD;obtain⟨a,vs,ns,rfl,rfl,hobj,hints,hlen⟩:=Zfn hn hpre hwl;refine enter_call (OL (call w s₀ s₁ mg mb fa o pm cd doc a vs ns G Y ho (fd_plain hd) hcd hmg hobj hints hlen hg) fun r s' hq=>?_);obtain⟨rfl,h2,h3,h4⟩:=hq;exact⟨.inl ⟨_,_,[],rfl,fun _=>rfl,.bool true,ZfK l _,fun _=>⟨L0,fun _ hm=>nomatch hm⟩⟩,h2,h3,h4⟩
section
variable {prog:Oh} {w:Oi} {A:VA} {E:Vi->Vh->Prop} {s:Vh} {K:Frag}
end
end Att
namespace L2
open PySem PySem.Spec PyProof.Rows
theorem Zbl:∀ {vs} {ns},G6 vs ns->Vals (ns.map V.int) vs
 | _,_,.nil=>.nil
 | _,_,.cons n t h=>.cons ⟨t,rfl⟩ (Zbl h)
noncomputable def ZkQ (s:V7) (j:Vg):V7:=match s with
 | .ClassDef _ _ _ body _ _ _ _ _ _ _=>body.getD j (.Pass ⟨0,0,0,0⟩)
 | _=>.Pass ⟨0,0,0,0⟩
noncomputable def ZY (s:V7):GR:=match s with
 | .FunctionDef _ a _ _ _ _ _ _ _ _=>a
 | _=>{posonlyargs:=[],args:=[],vararg:=none,kwonlyargs:=[],kw_defaults:=[],kwarg:=none,defaults:=[]}
noncomputable def ZI (s:V7):Vd V7:=match s with
 | .FunctionDef _ _ b _ _ _ _ _ _ _=>b
 | _=>[]
noncomputable def Zh (s:V7):Scope:=match s with
 | .FunctionDef _ _ _ _ _ _ sc _ _ _=>sc
 | _=>{kind:=.function,names:=[],isGenerator:=false,isCoroutine:=false}
abbrev CX0:CXT:=fun _ _ _ _ _ _=>False
abbrev E0:XK:=fun _ _ _=>False
theorem ZhT:Jg CX0 X E0:=fun _ _ _ _ _ _ _ h=>h.elim
structure Fun (K:Ve) (x qual:Vl) (st:V7) (f:Vk) (fd:O7):Prop where
 ex:∃ (oc:Vi) (od:Vj Vk) (kV doc pm:Vi) (an:Vj Vk) (cdv ct:Vi) (osl:Vm (Vj Vi)),
  fd=VC x qual (ZY st) (ZI st) (Zh st) .none kV doc pm an cdv ct/\K.lookup f=some ⟨oc,od,.func fd,osl⟩/\V2 K cdv qual=true
 kp:VS K (.ref f)=true
section
variable {P:Oh} {w:Oi} {K:Ve} {mg:Vl->Vj Vi} {base:Vz}
theorem Fun.ok {st} (F:Fun K x qual st f fd) (S:Zo N ps (Zh st)) (len:∀ vs H Q E,sp vs H Q E->vs.length=ps.length)
  (hbody:∀ (cdv) (A) (outer) (s) (H) (vs) (Q) (E),Room k (A.deeper (O4 qual (Zh st) s.heap.objs.size f cdv))->sp vs H Q E ->
   ∃ t,PSs (ZeI CX0 P w K mg base N qual (Zh st) f cdv A outer s H E).nox (ZI st) t/\t {nx:=fun _ H'=>Q .non H',rt:=Q} (start N vs) H):FnOk P w K mg base CX0 (k+1) f fd ps sp:=by
 obtain⟨oc,od,kV,doc,pm,an,cdv,ct,osl,rfl,lk,hcd⟩:=F.ex;refine Ziw lk hcd S len fun A outer s H vs Q E hr hsp=>?_;obtain⟨t,h,q⟩:=hbody cdv A outer s H vs Q E hr hsp;exact⟨t,h.nox,q⟩
theorem Fun.binds {st} (F:Fun K x qual st f fd)
  (h:∀ (kV doc pm) (an) (cdv ct) (us),us.length=ps.length->GO (VC x qual (ZY st) (ZI st) (Zh st) .none kV doc pm an cdv ct) ⟨us,[]⟩=pure (ps.zip us)):Binds K fd ps []:=by
 obtain⟨oc,od,kV,doc,pm,an,cdv,ct,osl,rfl,_⟩:=F.ex;exact .all (h kV doc pm an cdv ct)
theorem ZgQ {st} {kV doc pm cdv ct} (l:K.lookup f=some ⟨oc,od,.func (VC x qual (ZY st) (ZI st) (Zh st) .none kV doc pm an cdv ct),osl⟩)
  (c:V2 K cdv qual=true) (k:VS K (.ref f)=true):Fun K x qual st f (VC x qual (ZY st) (ZI st) (Zh st) .none kV doc pm an cdv ct):=⟨⟨oc,od,kV,doc,pm,an,cdv,ct,osl,rfl,l,c⟩,k⟩
end
theorem ZbV (hr:Room k A):A.units+1<OY:=WP (Nat.add_le_add_left (by decide) _) hr.units
theorem Zv (h:n<=1000):n<Of:=WP h (by decide)
section
variable {X:Cx}
theorem pv (i) {pos} (hN:X.N[i]?=some x:=by rfl) (hv:Vis X.env.scope x:=by first | exact Or.inl rfl | exact Or.inr (.inl rfl) | exact Or.inr (.inr rfl)) (hd:(x==("__debug__"))=false:=by decide)
  (hcd:(x==("__classdict__"))=false:=by decide):PE X (.Name x pos) (ZnO i):=ZlA hN hv hd hcd
theorem Zb9:CallR X (.builtin "len") (fun xs H Q=>∃ a kvs,xs=[V.ref a]/\H a=some (.dK kvs)/\Q (.int kvs.length) H):=by
 intro pins s σ H xs us Q I r h;obtain⟨a,kvs,rfl,ha,q⟩:=h;obtain⟨u,rfl,rfl⟩:=XE r;exact ZnC I (.inl ha) fun t s' I'=>⟨.int kvs.length,H,I',⟨t,rfl⟩,q⟩
end
theorem Zns {A B:Prop} (h:B):if false=true then A else B:=by
 simp_all
theorem ZmO {A B:Prop} (h:A):if true=true then A else B:=by
 simp_all
theorem ZmP {c A B:Prop} [Ll c] (h1:c->A) (h2:¬ c->B):if c then A else B:=by
 simp_all
def Same (H H':Hp):Prop:=∀ b o,H b=some o->H' b=some o
theorem Same.refl (H):Same H H:=fun _ _ h=>h
theorem Same.trans (a:Same H H1) (b:Same H1 H2):Same H H2:=fun c o h=>b c o (a c o h)
theorem Same.free (e:Same H H') (h:H' l=LG):H l=LG:=by
 cases q:H l with
 | none=>rfl
 | some o =>
  rw[e l o q]at h;omega
theorem Same.seq {K} (e:Same H H') (h:SqL K H a xs):SqL K H' a xs:=by
 rcases h with (h | ⟨o,h⟩) | h
 exact .inl (.inl (e _ _ h));exact .inl (.inr ⟨o,e _ _ h⟩);exact .inr h
section
variable {κ:Type} [Tf κ]
end
noncomputable def ZZ (env:L8):Vd (Vl×Tz)->Vd (Vl×Vk)->Vd (Vl×Vk)
 | [],cs=>cs
 | y::r,cs=>ZZ env r (if y.2==VZ then (y.1,(env.cells.lookup y.1).getD 0)::cs else cs)
theorem JV (f:Vl×Tz->Vd _->MT _) :
  ∀ (ns) (cs),(∀ y∈ns,∀ c,f y c=pure (.yield (if y.2==VZ then (y.1,(env.cells.lookup y.1).getD 0)::c else c))) ->
   forIn ns cs f=pure (ZZ env ns cs)
 | [],cs,_=>rfl
 | y::r,cs,h=>by
  rw[List.forIn_cons,h y Qj];exact JV f r _ fun z hz=>h z (Qk _ hz)
theorem YT (h:∀ y∈scope.names,y.2= .free->∃ c,env.cells.lookup y.1=some c) :
  G1 scope env=pure (ZZ env scope.names []):=by
 simp only[G1];rw[JV _ _ _ fun y hy c=>?_];rfl;obtain⟨n,k⟩:=y;cases hk:k==VZ with
 | true =>
  obtain⟨a,ha⟩:=h _ hy (by simpa using hk);simp[ML,cellOf,ha,WN,pure_bind]
 | false=>simp
theorem J9:∀ (ns) (cs),(∀ y∈ns,y.2= .free->∃ c,env.cells.lookup y.1=some c) ->
  (∀ n c,cs.lookup n=some c->env.cells.lookup n=some c)->∀ n c,(ZZ env ns cs).lookup n=some c->env.cells.lookup n=some c
 | [],cs,_,h,n,c,e=>h n c e
 | y::r,cs,hf,h,n,c,e=>by
  refine J9 r _ (fun z hz=>hf z (Qk _ hz)) (fun n c e=>?_) n c e;split at e
  obtain⟨a,ha⟩:=hf y Qj (by simp_all);cases hn:n==y.1 with
  | true =>
   simp_all
  | false =>
   simp[WB,hn]at e
   simp_all
  simp_all
theorem Xa:∀ (ns) (cs) (n),((n,VZ)∈ns\/(cs.lookup n).isSome=true) ->
  ((ZZ env ns cs).lookup n).isSome=true
 | [],cs,n,h=>by
  rcases h with h | h
  cases h
  trivial
 | y::r,cs,n,h=>by
  refine Xa r _ n ?_;rcases h with h | h
  rcases Qs.mp h with h | h
  subst h;simp;exact .inl h
  right
  split
  cases hn:n==y.1 with
  | true=>simp only[WB,hn];rfl
  | false=>simp only[WB,hn];omega
  omega
noncomputable def ZiX (env:L8) (n:Vl) (k:Tz):Tz:=if (k==VZ&&env.scope.kind==.function&&env.kindOf n==some .cell)=true then .cell else k
theorem Zan (env) (x):∀ names:Vd _,
  (names.map fun(n,k)=>if (k==VZ&&env.scope.kind==.function&&env.kindOf n==some .cell)then (n,VU)else (n,k)).lookup x=(names.lookup x).map (ZiX env x)
 | []=>rfl
 | (n,k)::r=>by
  have ih:=Zan env x r;have e1:(if (k==VZ&&env.scope.kind==.function&&env.kindOf n==some .cell)=true then (n,VU)else (n,k))=(n,ZiX env n k):=by
   unfold ZiX;split <;> rfl
  show Ux x ((if (k==VZ&&env.scope.kind==.function&&env.kindOf n==some _)=true then (n,VU)else (n,k))::_)=_;rw[e1];cases hx:x==n with
  | true =>
   simp only[WB,hx];rw[Nx hx];rfl
  | false =>
   simp only[WB,hx];omega
theorem Yw (scope) (env) (x):(O5 scope env).names.lookup x=(scope.names.lookup x).map (ZiX env x):=Zan env x scope.names
noncomputable def lcN (N xs:Vd Vl) (mp:Vd Vg):Vd Vl:=xs++mp.map fun j=>N.getD j ""
noncomputable def lcS (k:Vg) (mp:Vd Vg) (σ:St):St:=Qq k none++mp.map fun j=>(σ[j]?).getD none
structure Zk6 (sc scope:Scope) (N xs:Vd Vl) (mp:Vd Vg):Prop where
 kind:scope.kind= .function
 nocell:∀ y∈scope.names,y.2≠.cell
 names:∀ y∈scope.names,y.2= .local->scope.names.lookup y.1=some .local
 tg:∀ x∈xs,scope.names.lookup x=some .local
 fr:∀ y∈scope.names,y.2= .free->sc.names.lookup y.1=some .cell\/sc.names.lookup y.1=some .free
 out:∀ j∈mp,scope.names.lookup (N.getD j "")=some .free
 nd:(lcN N xs mp).Nodup
noncomputable def Zih (sc scope:Scope) (N xs:Vd Vl) (mp:Vd Vg):V0 :=
 decide (scope.kind= .function)&&scope.names.all (fun y=>decide (y.2≠.cell))&&scope.names.all (fun y=>decide (y.2= .local->scope.names.lookup y.1=some .local)) &&
  xs.all (fun x=>decide (scope.names.lookup x=some .local))&&scope.names.all (fun y=>decide (y.2= .free->sc.names.lookup y.1=some .cell\/sc.names.lookup y.1=some .free)) &&
  mp.all (fun j=>decide (scope.names.lookup (N.getD j "")=some .free))&&decide (lcN N xs mp).Nodup
theorem ZdV (h:Zih sc scope N xs mp=true):Zk6 sc scope N xs mp:=by
 simp only[Zih,Wg,UA,VL]at h;obtain⟨⟨⟨⟨⟨⟨h1,h2⟩,h3⟩,h4⟩,h5⟩,h6⟩,h7⟩:=h;exact⟨h1,h2,h3,h4,h5,h6,h7⟩
noncomputable abbrev lcx (X:Cx) (M:Vd Vl) (scope:Scope) (cl:Vd (Vl×Vk)) (C:Vk) (s₀:Vh) (H₀:Hp) (fp:Vd Vk):Cx where
 prog:=X.prog
 w:=X.w
 K:=X.K
 mg:=X.mg
 base:=X.base
 A:=X.A
 N:=M
 s₀:=s₀
 H₀:=H₀
 env:=G7 scope cl C X.env
 outer:=X.stack
 stack:=X.stack
 ex:=fp
 fn:=fun _=>false
 calm:=X.calm
 pn:=[]
 xe:=fun _ _=>False
section
variable {X:Cx} {pins:Vd (Vk×Nd)} {σ:St} {H₀:Hp} {s₀:Vh} {scope sc:Scope} {N xs:Vd Vl} {mp:Vd Vg} {fp:Vd Vk}
theorem Za3 (I:Inv X pins σ H₀ s₀) (hsc:X.env.scope=sc) (S:Zk6 sc scope N xs mp):∀ y∈scope.names,y.2= .free->∃ c,X.env.cells.lookup y.1=some c:=fun y hy e=>by
 refine I.ok.has y.1 ?_;have q:=S.fr y hy e;rw[←hsc]at q;exact q
theorem Zja (I:Inv X pins σ H₀ s₀) (hsc:X.env.scope=sc) (S:Zk6 sc scope N xs mp) {n} {c} (e:(ZZ X.env scope.names []).lookup n=some c):X.env.cells.lookup n=some c :=
 J9 scope.names [] (Za3 I hsc S) (fun _ _ z=>nomatch z) n c e
theorem Zl5 (I:Inv X pins σ H₀ s₀) (hsc:X.env.scope=sc) (S:Zk6 sc scope N xs mp) (hf:∀ b∈fp,Xk X pins H₀ b)
  (hx:∀ b∈fp,∃ ob,s₀.heap.get? b=some ob) (hns:h₁.Ns s₀.heap.objs.size m) (hsb:VY s₀.heap.objs.size (s₀.heap.push o) h₁) :
  Inv (lcx X (lcN N xs mp) scope (ZZ X.env scope.names []) s₀.heap.objs.size s₀ H₀ fp) [] (Qq (xs.length+mp.length) none) H₀ {s₀ with heap:=h₁,toks:=tk}:=by
 have kp:=fun b u e=>hsb.extBut b u (QB (Qn e)) (Qc _ e);have sub:=@Zja X pins σ H₀ s₀ scope sc N xs mp I hsc S;refine⟨⟨I.ok.mod,S.kind,I.ok.glob,I.ok.blt,Qg _,fun x y c e1 e2=>I.ok.inj x y c (sub e1) (sub e2),fun x hk=>?_,fun x c h _=>(QO h).elim,I.ok.hd,I.ok.frames,.inl rfl,
  fun b hb=>⟨?_,fun x c e=>(hf b hb).2.2.2.2.1 x c (sub e)⟩,fun b o e=>I.bs b o e,QK I.ok.bsz I.sz,fun b o e hb=>?_,fun b hb z=>?_,I.stack,I.stkFree⟩,
  rfl,I.bare,Un.kept kp,⟨m,hns,fun i x v _ e2 _=>?_⟩,fun x c e=>?_,I.hok.fresh (Qg _),fun x c e=>I.freeC x c (sub e),fun p hp=>Vo hp (by simp),I.hok.kept kp,?_⟩
 ·have hk':(O5 scope X.env).names.lookup x=some _\/(O5 scope X.env).names.lookup x=some _:=hk;rw[Yw]at hk';cases e:scope.names.lookup x with
  | none=>rw[e]at hk';rcases hk' with z | z <;> cases z
  | some k =>
   have mem:=VH e;have hkf:k= .free:=by
    rw[e]at hk';have n1:=S.nocell _ mem;simp[We,RQ]at hk';unfold ZiX at hk';split at hk'
    ·simp_all
    simp_all
   subst hkf;exact WL.mp (Xa scope.names [] x (.inl mem))
 ·obtain⟨ob,e⟩:=hx b hb;exact QB (Qn e)
 ·rcases(hf b hb).2.2.2.1 with z | z
  ·exact I.ok.noex b o e z
  ·exact Vo (QL (Qn (I.ok.bs b o e).1) z) (Q6 _)
 ·rcases Qs.mp (I.stkSub b z)with e | e
  ·exact(hf b hb).2.1 e
  ·exact(hf b hb).2.2.1 e
 ·rw[Wt]at e2;split at e2 <;> cases e2
 ·obtain⟨v,ob,ho,hd⟩:=I.cell x c (sub e);exact⟨v,ob,kp c ob ho,hd⟩
 ·simp[lcN]
theorem ZdT {σ':St} (I:Inv X pins σ H₀ s₀) (hsc:X.env.scope=sc) (hN:X.N=N) (S:Zk6 sc scope N xs mp) (hf:∀ b∈fp,Xk X pins H₀ b)
  (J:Inv (lcx X (lcN N xs mp) scope (ZZ X.env scope.names []) C s₀ H₀ fp) pY σ' H s'):Inv (lcx X (lcN N xs mp) scope (ZZ X.env scope.names []) C s₀ H₀ fp) pY (lcS xs.length mp σ) H s':=by
 obtain⟨m,hn,_⟩:=J.loc;refine⟨J.ok,J.os,J.bare,J.base,⟨m,hn,fun i x v e1 e2 e3=>?_⟩,J.cell,J.free,J.freeC,J.pin,J.hok,?_⟩
 ·have e1':(lcN N xs mp)[i]?=some x:=e1;unfold lcN at e1';unfold lcS at e2;by_cases hi:i<xs.length
  ·rw[QA (by simpa using hi),Wt,Vf hi]at e2;cases e2
  ·rw[Qy (by simpa using hi),Wj,Qi]at e2;rw[Qy (Kf hi),Qi]at e1';cases ej:mp[i-xs.length]? with
   | none=>rw[ej]at e2;cases e2
   | some j =>
    rw[ej]at e1' e2;have e1'':N.getD j "" = x:=Vu e1';have e2':(σ[j]?).getD none=some v:=Vu e2;have e2'':σ[j]?=some (some v):=by
     cases q:σ[j]? with
     | none=>rw[q]at e2';cases e2'
     | some z=>rw[q]at e2';exact VR some e2'
    have hj:j<N.length:=by
     have h1:=(Ql.mp e2'').1;rw[I.len,hN]at h1;exact h1
    have fr:scope.names.lookup x=some .free:=by rw[←e1''];exact S.out j (Q3 ej)
    have mem:(x,VZ)∈scope.names:=VH fr;have kX:X.env.scope.names.lookup x=some .cell\/X.env.scope.names.lookup x=some .free:=by
     rw[hsc];exact S.fr _ mem rfl
    obtain⟨mX,hnX,hl⟩:=I.loc;obtain⟨u,r,lk⟩:=hl j x v (by simp_all) e2'' (.inr kX);rcases lk with ⟨k,_⟩ | ⟨k,c,hc,hcell⟩
    ·have k':X.env.scope.names.lookup x=some .local:=k;rw[k']at kX;rcases kX with z | z <;> cases z
    ·refine⟨u,r,.inr ⟨?_,c,?_,?_⟩⟩
     ·show(O5 scope X.env).names.lookup x=some .cell\/(O5 scope X.env).names.lookup x=some .free;rw[Yw,fr];simp only[We];unfold ZiX;split
      ·simp
      simp
     ·obtain⟨c',e'⟩:=WL.mp (Xa (env:=X.env) scope.names [] x (.inl mem));have e'':=Zja I hsc S e';rw[hc]at e'';cases e''
      trivial
     ·obtain⟨ob,ho,hd⟩:=hcell;obtain⟨sl,q⟩:=J.base.any ho (I.freeC x c hc) fun z=>(hf c z).2.2.2.2.1 x c hc rfl;exact⟨_,q,hd⟩
 ·simp[lcS,lcN]
theorem ZkF {σ':St} (I:Inv X pins σ H₀ s₀) (hf:∀ b∈fp,Xk X pins H₀ b)
  (J:Inv (lcx X M scope cl C s₀ H₀ fp) pY σ' H s'):Inv X pins σ H s' :=
 I.call' J.os J.base J.hok J.bare fun b hb=>⟨(hf b hb).2.2.2.1,(hf b hb).2.1,(hf b hb).2.2.2.2.1,(hf b hb).2.2.2.2.2⟩
end
theorem J2 (I:Vg->Vh->Prop)
  (turn:∀ n s,I n s->Og (Oc prog w) A (GC it) (fun r s1=>match r with
   | none=>R (.ok .next) s1
   | some v=>Og (Oc prog w) A (Gj target it v) (fun _ s1'=>Og (Oc prog w) A (G8 target env v) (fun _ s2 =>
     Og (Oc prog w) A (forIn ifs true fun c r=>if r=true then do let ok ←isTrue c env (VQ c env);pure (NH ok)else pure (NH r)) (fun ok s3 =>
      if ok=true then Og (Oc prog w) A (VQ elt env) (fun x s4=>Og (Oc prog w) A (call (.builtin "list.append") [acc,x]) (fun _ s5=>∃ m,m<n/\I m s5) (fun _ _=>False) s4) (fun _ _=>False) s3
      else ∃ m,m<n/\I m s3) (fun _ _=>False) s2) (fun _ _=>False) s1') (fun _ _=>False) s1) (fun _ _=>False) s)
  (n) (h:I n s):OB (Oc prog w) A (.compLoop (.ListComp elt [⟨target,iter,ifs,0⟩] scope pos) 0 it acc env) R s:=by
 refine codeAny_loop rfl I (fun n s hI=>?_) n h;refine wpAny_noted ?_;refine Oa (O3 (Oa (Oo (turn n s hI) (fun r s1 h1=>?_) fun _ _ z=>z.elim)));cases r with
 | none=>exact Ob h1
 | some v =>
  refine Oa (Oo h1 (fun _ s1' h1'=>?_) fun _ _ z=>z.elim);refine Oa (Oo h1' (fun _ s2 h2=>Oa (Oo h2 (fun ok s3 h3=>?_) fun _ _ z=>z.elim)) fun _ _ z=>z.elim);cases ok with
  | false=>exact Ob ⟨rfl,h3⟩
  | true=>exact Oa (Oa (Oo h3 (fun x s4 h4=>Oa (Oo h4 (fun _ s5 h5=>Ob (Ob ⟨rfl,h5⟩)) fun _ _ z=>z.elim)) fun _ _ z=>z.elim))
def PCs (X:Cx) (ifs:Vd Expr) (t:TT):Prop :=
 ∀ (pins:Vd (Vk×Nd)) (s:Vh) (σ:St) (H:Hp) (Q:V0->Hp->Prop),Inv X pins σ H s->t σ H Q ->
  Og (Oc X.prog X.w) X.A (forIn ifs true fun c r=>if r=true then do let ok ←isTrue c X.env (VQ c X.env);pure (NH ok)else pure (NH r)) (TP X pins σ Q) X.xe s
def ZmV:TT:=fun _ H Q=>Q true H
theorem Y4:PCs X [] ZmV:=fun _ _ _ H _ I h=>wpAny_tests_nil ⟨H,I,h⟩
theorem Xy (h:PT X c t):PCs X [c] t:=fun pins s σ H Q I hw=>wpAny_tests_one (h pins s σ H Q I hw)
def JL (k:Vg) (mp:Vd Vg) (σ:St) (g:TG) (tc:TT) (te:TE) (J:It) (H1:Hp) (Q:VK):Prop :=
 ∀ D,H1 D=none->∃ W:Vg->Vg->Vd V->Hp->Prop,(∃ m,W 0 m [] (upd H1 D (.lst [])))/\∀ i m acc H2,W i m acc H2 ->
  (J.stop i H2/\Q (.ref D) H2)\/(J.go i H2/\∀ x H3,J.yld i H2 x H3->g x (lcS k mp σ) H3 fun σ4 H4=>tc σ4 H4 fun b H5 =>
   if b=true then te σ4 H5 fun v H6=>H6 D=some (.lst acc)/\acc.length<Of/\∃ m',m'<m/\W (i+1) m' (acc++[v]) (upd H6 D (.lst (acc++[v])))
   else ∃ m',m'<m/\W (i+1) m' acc H5)
def tLc (k:Vg) (mp:Vd Vg) (wi:TI) (g:TG) (tc:TT) (te:TE):TE:=fun σ H Q=>wi σ H fun J H1=>JL k mp σ g tc te J H1 Q
section
variable {X:Cx} {pins:Vd (Vk×Nd)} {σ:St} {elt tgt iter:Expr} {ifs:Vd Expr} {scope sc:Scope} {pos:MA} {N xs:Vd Vl} {mp:Vd Vg} {wi:TI} {g:TG} {tc:TT} {te:TE}
theorem Zjb {RR:Vi->Vk->GN->Vh->Prop}
  (hsc:X.env.scope=sc) (hN:X.N=N) (S:Zk6 sc scope N xs mp) (hcalm:X.calm=true)
  (hg:∀ cl C s₀ H₀ fp,PG (lcx X (lcN N xs mp) scope cl C s₀ H₀ fp) tgt g) (hc:∀ cl C s₀ H₀ fp,PCs (lcx X (lcN N xs mp) scope cl C s₀ H₀ fp) ifs tc) (he:∀ cl C s₀ H₀ fp,PE (lcx X (lcN N xs mp) scope cl C s₀ H₀ fp) elt te)
  (I2:Inv X pins σ H2 s2) (T:Zhj X.prog X.w X.K tgt J fp it tn) (st2:tn 0 s2.heap) (f2:∀ b∈fp,Xk X pins H2 b) (h:JL xs.length mp σ g tc te J H2 Qv)
  (hRR:∀ (D C) (s') (H') (m),s'.heap.Ns C m->Inv X pins σ H' s'->Xk X pins H' C->Qv (.ref D) H'->RR (.ref D) C (.ok .next) s') :
  Og (Oc X.prog X.w) X.A (newList []) (fun acc s3=>Og (Oc X.prog X.w) X.A (Gv scope X.env.globals (ZZ X.env scope.names []) [] X.env.qual none .none (some X.env)) (fun cenv s4 =>
   OB (Oc X.prog X.w) X.A (.compStart (.ListComp elt [⟨tgt,iter,ifs,0⟩] scope pos) 0 (.ref it) acc {cenv with scope:=O5 scope X.env}) (RR acc cenv.locals) s4) E s3) E s2:=by
 have hD:H2 s2.heap.objs.size=none:=I2.hok.fresh (Qg _);obtain⟨W,⟨m0,w0⟩,turn⟩:=h s2.heap.objs.size hD;refine Ov (MD S.nocell (by simp) (fun h1 hns1 hsb1=>?_) S.kind);dsimp only at hns1 hsb1 ⊢;have fpD:∀ b∈fp,b≠s2.heap.objs.size:=fun b hb=>by
  obtain⟨o,e,_⟩:=T.obj _ _ st2 b hb;exact QB (Qn e)
 have I3:Inv X pins σ (upd H2 s2.heap.objs.size (.lst [])) {s2 with heap:=s2.heap.push {cls:=.type "list",dict:=none,data:=.seq ([]:Vd Vi).toArray}} :=
  I2.laid (t':=s2.toks) (fun b u e=>Qc _ e) (Qg _) ⟨QQ _,[],0,.nil,Qm _ rfl⟩
 have f3:∀ b∈fp,Xk X pins (upd H2 s2.heap.objs.size (.lst [])) b:=fun b hb=>⟨by rw[Zf (fpD b hb)];exact(f2 b hb).1,(f2 b hb).2⟩
 generalize hs3:({s2 with heap:=s2.heap.push {cls:=.type "list",dict:=none,data:=.seq ([]:Vd Vi).toArray}}:Vh)=s3 at I3;have hh3:s2.heap.push {cls:=.type "list",dict:=none,data:=.seq ([]:Vd Vi).toArray}=s3.heap:=by rw[←hs3]
 have kp3:∀ b o,s2.heap.get? b=some o->s3.heap.get? b=some o:=fun b o e=>by rw[←hh3];exact Qc _ e
 rw[hh3]at hns1 hsb1 ⊢;have st3:tn 0 s3.heap:=T.keep _ _ _ st2 fun b _ o e=>kp3 b o e;have x3:∀ b∈fp,∃ o,s3.heap.get? b=some o:=fun b hb=>by
  obtain⟨o,e,_⟩:=T.obj _ _ st3 b hb
  simp_all
 have st4:tn 0 h1:=T.keep _ _ _ st3 fun b _ o e=>hsb1.extBut b o (QB (Qn e)) (Qc _ e);have I4:=fun tk=>ZdT I3 hsc hN S f3 (Zl5 (tk:=tk) I3 hsc S f3 x3 hns1 hsb1);have key:∀ s4:Vh,s4={s3 with heap:=h1,toks:=s4.toks}->OB (Oc X.prog X.w) X.A (.compLoop (.ListComp elt [⟨tgt,iter,ifs,0⟩] scope pos) 0 (.ref it) (.ref s2.heap.objs.size) (G7 scope (ZZ X.env scope.names []) s3.heap.objs.size X.env))
   (RR (.ref s2.heap.objs.size) s3.heap.objs.size) s4:=by
  intro s4 hs4;have stat:∀ {H':Hp},(∀ b∈fp,H' b=none)->∀ b∈fp,Xk (lcx X (lcN N xs mp) scope (ZZ X.env scope.names []) s3.heap.objs.size s3 (upd H2 s2.heap.objs.size (.lst [])) fp) [] H' b:=fun hn b hb =>
   ⟨hn b hb,((I4 0).ok.exf b hb).1,(I4 0).ok.exfs b hb,.inl hb,((I4 0).ok.exf b hb).2,fun p hp=>Vo (show p∈([]:Vd (Vk×Nd))from hp) (by simp)⟩
  refine J2 (fun n s'=>∃ i acc H',Inv (lcx X (lcN N xs mp) scope (ZZ X.env scope.names []) s3.heap.objs.size s3 (upd H2 s2.heap.objs.size (.lst [])) fp) [] (lcS xs.length mp σ) H' s'/\tn i s'.heap/\(∀ b∈fp,H' b=none)/\W i n acc H') ?_ m0
   ⟨0,[],_,(by rw[hs4];exact I4 _),(by rw[hs4];omega),fun b hb=>(f3 b hb).1,w0⟩
  rintro n s6 ⟨i,acc,H6,I6,st6,fr6,w6⟩;rcases turn i n acc H6 w6 with ⟨stop,q⟩ | ⟨go,step⟩
  ·refine thn (T.done (lcx X (lcN N xs mp) scope (ZZ X.env scope.names []) s3.heap.objs.size s3 (upd H2 s2.heap.objs.size (.lst [])) fp) rfl rfl rfl hcalm i [] s6 _ H6 _ I6 (stat fr6) st6 stop) fun r s7 ⟨hr,I7⟩=>?_;subst hr;obtain⟨m7,hn7,_⟩:=I7.loc;exact hRR _ _ s7 H6 m7 hn7 (ZkF I3 f3 I7) (I3.fpOk (Qg _) I7.free) q
  ·refine thn (T.item (lcx X (lcN N xs mp) scope (ZZ X.env scope.names []) s3.heap.objs.size s3 (upd H2 s2.heap.objs.size (.lst [])) fp) rfl rfl rfl hcalm i [] s6 _ H6 _ I6 (stat fr6) st6 go) fun r s7 ⟨u,hr,h7⟩=>?_;subst hr;refine thn h7 fun _ s8 ⟨x,H8,I8,r8,y8,st8,fr8⟩=>?_;have I8':=I8.pinned (stat fr8) (T.obj _ _ st8);have again:∀ {σ':St} {H':Hp} {s':Vh},Inv (lcx X (lcN N xs mp) scope (ZZ X.env scope.names []) s3.heap.objs.size s3 (upd H2 s2.heap.objs.size (.lst [])) fp) ([]++ZbA fp s8.heap) σ' H' s'->(∃ m acc',m<n/\W (i+1) m acc' H') ->
     ∃ m,m<n/\∃ i acc H',Inv (lcx X (lcN N xs mp) scope (ZZ X.env scope.names []) s3.heap.objs.size s3 (upd H2 s2.heap.objs.size (.lst [])) fp) [] (lcS xs.length mp σ) H' s'/\tn i s'.heap/\(∀ b∈fp,H' b=none)/\W i m acc H':=by
    intro σ' H' s' J ⟨m,acc',hm,w'⟩;refine⟨m,hm,i+1,acc',H',ZdT I3 hsc hN S f3 J.unpinned,T.keep _ _ _ st8 fun b hb o e=>(J.pin (b,o) (QF _ (QF _ (Yn hb e)))).1,fun b hb=>?_,w'⟩;obtain⟨o,e,_⟩:=T.obj _ _ st8 b hb;exact(J.pin (b,o) (QF _ (QF _ (Yn hb e)))).2.1
   refine thn (hg _ _ _ _ _ _ s8 _ H8 x u _ I8' r8 (step x H8 y8)) fun _ s9 ⟨σ9,H9,I9,q9⟩=>?_;refine thn (hc _ _ _ _ _ _ s9 σ9 H9 _ I9 q9) fun b s10 ⟨H10,I10,q10⟩=>?_;cases b with
   | false =>
    obtain⟨m',hm,w'⟩:=q10;exact again I10 ⟨m',acc,hm,w'⟩
   | true =>
    refine thn (he _ _ _ _ _ _ s10 σ9 H10 _ I10 q10) fun yv s11 ⟨v,H11,I11,r11,hDa,hz,m',hm,w'⟩=>?_;refine thn (XO _ s11 σ9 H11 (.ref s2.heap.objs.size) [v] (.ref s2.heap.objs.size) [yv] (fun _ H12=>H12=upd H11 s2.heap.objs.size (.lst (acc++[v]))) I11 rfl (.cons r11 .nil) ⟨_,acc,v,rfl,rfl,hDa,hz,rfl⟩) fun _ s12 ⟨_,H12,I12,_,e12⟩=>?_;subst e12;exact again I12 ⟨m',_,hm,w'⟩
 subst hs3;exact Mh (key _ rfl) (T.self X.A 0 _ _ _ st4 (key _ rfl))
theorem ZV (sc) (N xs) (mp) (hcalm:X.calm=true) (hi:PI X tgt iter wi) (hg:∀ cl C s₀ H₀ fp,PG (lcx X (lcN N xs mp) scope cl C s₀ H₀ fp) tgt g)
  (hc:∀ cl C s₀ H₀ fp,PCs (lcx X (lcN N xs mp) scope cl C s₀ H₀ fp) ifs tc) (he:∀ cl C s₀ H₀ fp,PE (lcx X (lcN N xs mp) scope cl C s₀ H₀ fp) elt te)
  (S:Zih sc scope N xs mp=true:=by decide +kernel) (hsc:X.env.scope=sc:=by rfl) (hN:X.N=N:=by rfl) (hs:∀ x,Gc iter X.env x=pure x:=by intro _;rfl) :
  PE X (.ListComp elt [⟨tgt,iter,ifs,0⟩] scope pos) (tLc xs.length mp wi g tc te):=by
 intro pins s σ H Q I h;have S':=ZdV S;refine Nu rfl hs (YT (Za3 I hsc S')) S'.kind S'.names (thn (hi pins s σ H _ I h) fun v s1 h1=>thn h1 fun itv s2 h2=>?_);have⟨it,fp,tn,J,H2,e,I2,T,st2,f2,h3⟩:=h2;subst e;refine Zjb hsc hN S' hcalm hg hc he I2 T st2 f2 h3 ?_;intro D C s' H' m hn I' fC q;exact⟨m,hn,fun h' hs'=>⟨.ref D,H',I'.turned (fun b o hb e=>hs'.extBut b o hb e) fC.1 fC.2.1 fC.2.2.2.1 fC.2.2.2.2.1 fC.2.2.2.2.2,rfl,q⟩⟩
theorem ZhL {pos' spos} (sc) (N xs) (mp) (hNd:X.N.Nodup) (hix:X.N[i]?=some x) (hx:Loc X.env.scope x) (hcalm:X.calm=true) (hi:PI X tgt iter wi) (hg:∀ cl C s₀ H₀ fp,PG (lcx X (lcN N xs mp) scope cl C s₀ H₀ fp) tgt g)
  (hc:∀ cl C s₀ H₀ fp,PCs (lcx X (lcN N xs mp) scope cl C s₀ H₀ fp) ifs tc) (he:∀ cl C s₀ H₀ fp,PE (lcx X (lcN N xs mp) scope cl C s₀ H₀ fp) elt te)
  (S:Zih sc scope N xs mp=true:=by decide +kernel) (hsw:GB (.ListComp elt [⟨tgt,iter,ifs,0⟩] scope pos) (some (.Name x pos')) spos.line X.env=pure true:=by rfl)
  (hsc:X.env.scope=sc:=by rfl) (hN:X.N=N:=by rfl) (hs:∀ x,Gc iter X.env x=pure x:=by intro _;rfl) (hf:X.fn x=true\/X.env.scope.names.lookup x=some .local:=by first | exact .inl rfl | exact .inr rfl | assumption) :
  PS X (.Assign [.Name x pos'] (.ListComp elt [⟨tgt,iter,ifs,0⟩] scope pos) spos) (ZmN (tLc xs.length mp wi g tc te) (Ji i)):=by
 intro pins s σ H D I h;have S':=ZdV S;rw[Mw _ _ _ _ hsw];refine Oa (O3 (Oa ?_));refine Oa (Oo (Nu rfl hs (YT (Za3 I hsc S')) S'.kind S'.names
  (thn (hi pins s σ H _ I h) fun v s1 h1=>thn h1 fun itv s2 h2=>?_)) (fun _ s' hq=>Ob (Ob hq)) fun _ _ e=>e)
 have⟨it,fp,tn,J,H2,e,I2,T,st2,f2,h3⟩:=h2;subst e;refine Zjb hsc hN S' hcalm hg hc he I2 T st2 f2 h3 ?_;intro D' C s' H' m hn I' fC q;refine NZ (Jw I' hNd hix hx (v:=.ref D') rfl (fun s'' I'' ⟨a,sb,ha⟩=>?_) hf);have nC:C≠a:=by
  rcases ha with z | z
  rw[z];exact fC.2.1;exact fun e=>fC.2.2.2.2.1 x a z e.symm
 refine⟨m,hn.sameBut sb nC,fun h' hs'=>⟨_,H',I''.turned (fun b o hb e=>hs'.extBut b o hb e) fC.1 fC.2.1 fC.2.2.2.1 fC.2.2.2.2.1 fC.2.2.2.2.2,q⟩⟩
end
def TSame (H H':Hp):Prop:=∀ b xs,H b=some (.tup xs)->H' b=some (.tup xs)
theorem Same.tup (h:Same H H'):TSame H H':=fun b xs e=>h b _ e
theorem TSame.trans (a:TSame H H1) (b:TSame H1 H2):TSame H H2:=fun c xs e=>b c xs (a c xs e)
theorem Yk (h:H D=some (.lst xs)):TSame H (upd H D (.lst ys)):=fun b zs e=>by
 rw[Zf fun z=>by simp_all];omega
theorem Zb (h:H D=none):Same H (upd H D o):=fun b u e=>by
 rw[Zf (Zg e h)];omega
theorem JJ (n) (xs:Vg->V) (R:Vg->V->Hp->Prop) (hn:n<=Of)
  (hR:∀ i v H H',TSame H H'->R i v H->R i v H')
  (hJ:∀ H,Same H1 H->(∀ i,i<n->J.go i H/\∀ x H',J.yld i H x H'->H'=H/\x=xs i)/\J.stop n H)
  (step:∀ i H (Qe),i<n->Same H1 H->(∀ v H6,Same H H6->R i v H6->Qe v H6)->g (xs i) (lcS k mp σ) H fun σ4 H4=>te σ4 H4 Qe)
  (done:∀ D vs H',vs.length=n->(∀ i v,vs[i]?=some v->R i v H')->Same H1 H'->H1 D=none->H' D=some (.lst vs)->Q (.ref D) H'):JL k mp σ g ZmV te J H1 Q:=by
 intro D hD;refine⟨fun i m acc H=>m=n-i/\i<=n/\acc.length=i/\Same H1 H/\H D=some (.lst acc)/\∀ j v,acc[j]?=some v->R j v H,⟨n,by simp,QQ _,rfl,Zb hD,Zc,fun j v e=>by simp_all⟩,?_⟩;rintro i m acc H ⟨rfl,hi,hl,hs,hDa,hr⟩;obtain⟨j1,j2⟩:=hJ H hs;by_cases hlt:i<n
 ·refine .inr ⟨(j1 i hlt).1,fun x H3 y=>?_⟩;obtain⟨e1,e2⟩:=(j1 i hlt).2 x H3 y;subst e1 e2;refine step i H3 _ hlt hs fun v H6 s6 r6=>⟨s6 _ _ hDa,Kx hn hlt hl,n-(i+1),Kv hlt,rfl,hlt,by rw[Qh,hl];rfl,fun b o e=>?_,Zc,fun j u e=>?_⟩
  ·rw[Zf (Zg e hD)];exact s6 _ _ (hs b o e)
  ·have ts:TSame H6 (upd H6 D (.lst (acc++[v]))):=Yk (s6 _ _ hDa);rcases WS j acc.length with h | h | h
   ·rw[QA h]at e;exact hR _ _ _ _ (s6.tup.trans ts) (hr j u e)
   ·subst h;rw[Qy (Qg _),Wv]at e;cases e;rw[hl];exact hR _ _ _ _ ts r6
   ·rw[Qp (by rw[Qh,Qx];exact h)]at e;cases e
 ·have e:i=n:=Kw hi hlt
  subst e;exact .inl ⟨j2,done D acc H hl hr hs hD hDa⟩
theorem XB {K} (h:SqL K H1 a ys):∀ H,Same H1 H->(∀ i,i<ys.length->(Itl K a).go i H/\∀ x H',(Itl K a).yld i H x H'->H'=H/\x=ys.getD i .non)/\(Itl K a).stop ys.length H:=fun H s=>by
 have q:=s.seq h;refine⟨fun i hi=>⟨⟨ys,ys[i],q,by simp⟩,fun x H' y=>⟨y.1,?_⟩⟩,⟨ys,q,Qg _⟩⟩;rw[Qb,(y.2 ys q)];rfl
theorem Same.tupS {K} (e:Same H H') (h:SqT K H a xs):SqT K H' a xs:=by
 rcases h with (h | ⟨o,h⟩) | h
 exact .inl (.inl (e _ _ h));exact .inl (.inr ⟨o,e _ _ h⟩);exact .inr h
theorem ZdZ {K} (h:SqT K H1 a ys):∀ H,Same H1 H->(∀ i,i<ys.length->(Itt K a).go i H/\∀ x H',(Itt K a).yld i H x H'->H'=H/\x=ys.getD i .non)/\(Itt K a).stop ys.length H:=fun H s=>by
 have q:=s.tupS h;refine⟨fun i hi=>⟨⟨ys,ys[i],q,by simp⟩,fun x H' y=>⟨y.1,?_⟩⟩,⟨ys,q,Qg _⟩⟩;rw[Qb,(y.2 ys q)];rfl
theorem Zd0 {lo}:∀ H,Same H1 H->(∀ i,i<n->(Itr lo n).go i H/\∀ x H',(Itr lo n).yld i H x H'->H'=H/\x= .int (lo+i))/\(Itr lo n).stop n H:=fun H _ =>
 ⟨fun i hi=>⟨hi,fun x H' y=>y⟩,Qg _⟩
def Its (x:Vl):It:=⟨fun i _=>i<x.cps.size,fun i H v H'=>H'=H/\v= .str ⟨#[x.cps.getD i 0]⟩,fun i _=>x.cps.size<=i⟩
theorem Zmj:∀ H,Same H1 H->(∀ i,i<x.cps.size->(Its x).go i H/\∀ v H',(Its x).yld i H v H'->H'=H/\v= .str ⟨#[x.cps.getD i 0]⟩)/\(Its x).stop x.cps.size H:=fun H _ =>
 ⟨fun i hi=>⟨hi,fun v H' y=>y⟩,Qg _⟩
theorem Zdh {K} (it) (x) (t) (T) (hT:T = "str_ascii_iterator"\/T = "str_iterator"):Zhj P w K tg (Its x) [it] it (fun i h=>h.IsStrIter it T x t i) where
 mem:=by simp
 obj:=fun i h st b hb=>by
  have e:b=it:=by simp_all
  subst e;obtain⟨o,e,c,d⟩:=st;exact⟨o,e,fun v z=>by simp_all⟩
 keep:=fun i h h' st k=>by
  obtain⟨o,e,c,d⟩:=st;exact⟨o,k it (by simp) o e,c,d⟩
 item:=by
  intro X hP hw hK hc i pins s σ H E I hf st hg;subst hP hw hK;obtain⟨f0,f1,f2,f3,f4,f5⟩:=hf it (by simp);have hd:=I.ok.hd hc;have fin:∀ (v:Vi) (h':Vz) (tk:Vg),SignAt x i v->h'.IsStrIter it T x t (i+1)->(∀ b o,b∉[it]->s.heap.get? b=some o->h'.get? b=some o) ->
    ∃ u,some v=some u/\Og (Oc X.prog X.w) X.A (Gj tg (.ref it) u) (fun _ s2=>∃ y H',Inv X pins σ H' s2/\RelV y u/\(Its x).yld i H y H'/\s2.heap.IsStrIter it T x t (i+1)/\∀ b∈[it],H' b=none) E {s with heap:=h',toks:=tk}:=by
   intro v h' tk hv st' kk;obtain⟨c,u,hc',rfl⟩:=hv;have I1:Inv X pins σ H {s with heap:=h',toks:=tk}:=I.turned (fun b o hb e=>kk b o (by simpa using hb) e) f0 f1 f3 f4 f5;obtain⟨o,e,c1,d1⟩:=id st';refine⟨_,rfl,ZgO (s:={s with heap:=h',toks:=tk}) e c1 d1 (by rcases hT with z | z <;> rw[z] <;> decide) ⟨.str ⟨#[x.cps.getD i 0]⟩,H,I1,⟨u,?_⟩,⟨rfl,rfl⟩,st',fun b hb=>(hf b hb).1⟩⟩;rw[Ws,hc'];rfl
  rcases hT with z | z
  ·subst z;exact(Walks.strAscii (prog:=X.prog) (w:=X.w) hd it x t).item i s _ _ hg st fun v h' tk hv st' kk=>fin v h' tk hv st' kk
  ·subst z;exact(Walks.strWide (prog:=X.prog) (w:=X.w) hd it x t).item i s _ _ hg st fun v h' tk hv st' kk=>fin v h' tk hv st' kk
 done:=by
  intro X hP hw hK hc i pins s σ H E I hf st hg;obtain⟨f0,f1,f2,f3,f4,f5⟩:=hf it (by simp);have hd:=I.ok.hd hc;have hg':x.cps.size<=i:=hg;have hn:x.cps[i]?=none:=WX hg';rcases hT with z | z
  ·subst z;exact wpAny_pyNext_ascii_end hd st hn fun h' eb=>⟨rfl,I.turned (t':=s.toks) (fun b o hb e=>eb b o hb e) f0 f1 f3 f4 f5⟩
  ·subst z;exact wpAny_pyNext_wide_end hd st hn fun h' eb=>⟨rfl,I.turned (t':=s.toks) (fun b o hb e=>eb b o hb e) f0 f1 f3 f4 f5⟩
 self:=fun _ _ _ _ _ st h=>by
  rcases hT with z | z
  ·subst z;exact wpAny_pyIter_striter_ascii st h
  ·subst z;exact wpAny_pyIter_striter_wide st h
def Zoq (tl:TE):TI:=fun σ H R=>tl σ H fun v H1=>∃ x,v= .str x/\R (Its x) H1
theorem Zlx (hl:PE X l tl):PI X tg l (Zoq tl):=by
 intro pins s σ H R I h;refine thn (hl pins s σ H _ I h) fun v s1 ⟨y,H1,I1,r1,q1⟩=>?_;obtain⟨x,e,q⟩:=q1;subst e;obtain⟨t,rfl⟩:=r1;cases ha:x.cps.all (· < 128)with
 | true =>
  refine wpAny_pyIter_ascii ha ⟨s1.heap.objs.size,[s1.heap.objs.size],_,_,H1,rfl,I1.kept (t':=s1.toks) fun b o e=>Qc _ e,Zdh _ x t _ (.inl rfl),⟨_,Qm _ rfl,rfl,rfl⟩,fun b hb=>?_,q⟩;have e:b=s1.heap.objs.size:=by simp_all
  subst e;exact I1.fpOk (Qg _) (I1.hok.fresh (Qg _))
 | false =>
  refine wpAny_pyIter_wide ha ⟨s1.heap.objs.size,[s1.heap.objs.size],_,_,H1,rfl,I1.kept (t':=s1.toks) fun b o e=>Qc _ e,Zdh _ x t _ (.inr rfl),⟨_,Qm _ rfl,rfl,rfl⟩,fun b hb=>?_,q⟩;have e:b=s1.heap.objs.size:=by simp_all
  subst e;exact I1.fpOk (Qg _) (I1.hok.fresh (Qg _))
section
variable {X:Cx}
def Zoh:V->Vj Vs->Vj Vs->Hp->VK->Prop:=fun x lo hi H Q=>∃ z:Vl,x= .str z/\z.length<=Of/\Q (.str (VG z lo hi)) H
theorem Z6:SlR X Zoh:=by
 intro pins s σ H x v vl vu lo hi sl Q I rx hs pl pu h;obtain⟨z,rfl,hz,q⟩:=h;obtain⟨t,rfl⟩:=rx;have fin:∀ t' k,EP X pins σ Q (.str _ t') {s with toks:=k}:=fun t' k=>⟨.str _,H,I.tok _,⟨_,rfl⟩,q⟩
 have hle:(VG z lo hi).length<=Of:=QK (Txt.slice_le z _ _) hz;cases pl with
 | none =>
  cases pu with
  | none=>exact⟨"str",_,F.slot_str_getitem.lookup,Gm _ _ _,OR (l:=none) (u:=none) (st:=none) hs rfl (Go ⟨hle,fin⟩)⟩
  | int j u=>exact⟨"str",_,F.slot_str_getitem.lookup,Gm _ _ _,OR (l:=none) (u:=some (j,u)) (st:=none) hs rfl (Go ⟨hle,fin⟩)⟩
 | int i u' =>
  cases pu with
  | none=>exact⟨"str",_,F.slot_str_getitem.lookup,Gm _ _ _,OR (l:=some (i,u')) (u:=none) (st:=none) hs rfl (Go ⟨hle,fin⟩)⟩
  | int j u=>exact⟨"str",_,F.slot_str_getitem.lookup,Gm _ _ _,OR (l:=some (i,u')) (u:=some (j,u)) (st:=none) hs rfl (Go ⟨hle,fin⟩)⟩
theorem Zkh:OpR X (OV .Mult) (fun x y H Q=>∃ (z:Vl) (n:Vs),x= .str z/\y= .int n/\MulOk z n/\Q (.str (Lr z n)) H):=by
 intro pins s σ H x y v u Q I rx ry h;obtain⟨z,n,rfl,rfl,hok,q⟩:=h;obtain⟨t,rfl⟩:=rx;obtain⟨t',rfl⟩:=ry;exact SB.mul hok fun t' k=>⟨.str _,H,I.tok _,⟨_,rfl⟩,q⟩
theorem X2:∀ {ss} {us},Vals (ss.map V.str) us->Gh us ss
 | [],_,r=>by
  cases r;exact .nil
 | x::ss,_,r=>by
  cases r with
  | cons r1 r2 =>
   obtain⟨t,e⟩:=r1;subst e;exact .cons x t (X2 r2)
def Znb (K:Ve):V->Vd V->Hp->VK->Prop:=fun x vs H Q=>∃ (z:Vl) (a:Vk) (ys:Vd Vl),x= .str z/\vs=[.ref a]/\SqL K H a (ys.map V.str)/\(ys.map (·.length)).sum+ys.length*z.length<=16777216/\Q (.str (NT z ys)) H
theorem Zgi:MtR X "str.join" (Znb X.K):=by
 intro pins s σ H x vs v us Q I rx rv h;obtain⟨z,a,ys,rfl,rfl,hq,hz,q⟩:=h;obtain⟨t,rfl⟩:=rx;obtain⟨u,rfl,ru⟩:=XE rv;cases ru;obtain⟨its,r,pl,_⟩:=I.list hq;exact join_list pl.isList (X2 (by omega)) hz fun t' k=>⟨.str _,H,I.tok _,⟨_,rfl⟩,q⟩
theorem Xx:∀ (ns:Vd Vs) (k),preSum (fun i=>ns.getD i 0) k=(ns.take k).sum
 | ns,0=>by rfl
 | ns,k+1=>by
  rw[preSum,Xx ns k];by_cases h:k<ns.length
  rw[Rq,Qb,Qa h];simp only[WV,Option.toList_some,Wb,RI,WN];lia;have h':=Ru h;rw[QZ h',QZ (UU h'),Qb,Qp h'];simp
theorem Zg9 (hc:X.calm=true):CallR X (.builtin "sum") (fun xs H Q=>∃ (a:Vk) (ns:Vd Vs),xs=[.ref a]/\SqL X.K H a (ns.map V.int)/\(∀ n∈ns,G9 n)/\(∀ k,G9 (ns.take k).sum)/\Q (.int ns.sum) H):=by
 intro pins s σ H xs us Q I r h;obtain⟨a,ns,rfl,hq,h1,h2,q⟩:=h;obtain⟨u,rfl,ru⟩:=XE r;cases ru;obtain⟨its,rv,pl,hz⟩:=I.list hq;have hl:=rv.length;rw[Qd]at hl;have hlt:a<s.heap.objs.size:=by
  obtain⟨o,n,e,_⟩:=pl;exact Qn e
 refine call_sum_walk (Gb pl.isList ⟨_,_,_,_,_,_,fun i=>ns.getD i 0,rfl,Walks.list (A:=X.A.in1) (I.ok.hd hc) _ _ (QB hlt) its.toArray,
  ⟨⟨_,Qm _ rfl,rfl,rfl⟩,pl.isList.push _⟩,?_,?_,?_,?_⟩)
 intro b hb;rw[WF];have:b=s.heap.objs.size\/b=a:=by simp_all
 rcases this with z | z
 ·rw[z];simp
 ·rw[z];exact Ub hlt
 intro i v hv;have e1:its[i]?=some v:=by simp_all
 have hi:=(Ql.mp e1).1;have hb:(ns.map V.int)[i]?=some (.int (ns.getD i 0)):=by
  rw[Qi,Qb];cases e:ns[i]? with
  | none=>exact Vo (Wy.mp e) (Df hl hi)
  | some b=>rfl
 obtain⟨u',hu,ru⟩:=rv.get hb;rw[e1]at hu;cases hu
 trivial
 intro j hj;have hj':j<ns.length:=by simp_all
 refine⟨?_,?_⟩
 ·show G9 (ns.getD j 0);rw[Qb,Qa hj'];exact h1 _ (QG hj')
 ·rw[Xx]
  simp_all
 intro h' tk t' kk;refine⟨.int ns.sum,H,I.kept fun b o e=>kk b o (by simpa using QB (Qn e)) (Qc _ e),⟨t',?_⟩,q⟩;rw[Xx,QZ (by rw[Qz];exact Fz hl)]
noncomputable def Zoz:V->Vj Vi
 | .ty n=>some (.type n)
 | .ref a=>some (.ref a)
 | _=>none
theorem ZiB:CallR X (.builtin "isinstance") (fun xs H Q=>∃ (x c:V) (t cv:Vi) (b:V0),xs=[x,c]/\Zea X.K H x t/\Zoz c=some cv/\Tu X.K t cv=some b/\Q (.bl b) H):=by
 intro pins s σ H xs us Q I r h;obtain⟨x,c,t,cv,b,rfl,ty,rc,e,q⟩:=h;obtain⟨u,w',rfl,ru,rw'⟩:=ZjE r;have ec:=by
  cases c with
  | ty n=>exact rw'.trans (Vu rc)
  | ref n=>exact rw'.trans (Vu rc)
  | _=>cases rc
 subst ec;exact ZgH I ru ty e fun tk=>⟨.bl b,H,I.tok _,rfl,q⟩
end
mutual
def RepD (H:Hp):RJ->V->Prop
 | .none,v=>v= .non
 | .bool b,v=>v= .bl b
 | .int i,v=>v= .int i
 | .str x,v=>v= .str x
 | .tuple ds,v=>∃ a xs,v= .ref a/\H a=some (.tup xs)/\RepA H ds xs
 | .list ds,v=>∃ a xs,v= .ref a/\H a=some (.lst xs)/\RepA H ds xs
 | .dict _,_=>False
def RepA (H:Hp):Vd RJ->Vd V->Prop
 | [],xs=>xs=[]
 | d::ds,xs=>∃ v vs,xs=v::vs/\RepD H d v/\RepA H ds vs
end
mutual
theorem RepD.same {H H':Hp} (h:Same H H'):∀ (d:RJ) (v:V),RepD H d v->RepD H' d v
 | .none,_,r=>r
 | .bool _,_,r=>r
 | .int _,_,r=>r
 | .str _,_,r=>r
 | .tuple ds,v,r=>by
  rw[RepD]at r ⊢;obtain⟨a,xs,e,e2,q⟩:=r;exact⟨a,xs,e,h _ _ e2,RepA.same h ds xs q⟩
 | .list ds,v,r=>by
  rw[RepD]at r ⊢;obtain⟨a,xs,e,e2,q⟩:=r;exact⟨a,xs,e,h _ _ e2,RepA.same h ds xs q⟩
 | .dict _,v,r=>by
  rw[RepD]at r;exact r.elim
theorem RepA.same {H H':Hp} (h:Same H H'):∀ (ds:Vd RJ) (vs:Vd V),RepA H ds vs->RepA H' ds vs
 | [],_,r=>r
 | d::ds,vs,r=>by
  rw[RepA]at r ⊢;obtain⟨v,us,e,q1,q2⟩:=r;exact⟨v,us,e,RepD.same h d v q1,RepA.same h ds us q2⟩
end
section
variable {X:Cx} {pins:Vd (Vk×Nd)} {σ:St} {H:Hp} {s:Vh}
mutual
theorem RepD.reads (I:Inv X pins σ H s):∀ (d:RJ) (v:V) (u:Vi),RepD H d v->RelV v u->∃ as,Reads s.heap u d as
 | .none,v,u,r,q=>by
  subst r;cases q;exact⟨_,.none⟩
 | .bool b,v,u,r,q=>by
  subst r;cases q;exact⟨_,.bool b⟩
 | .int i,v,u,r,q=>by
  subst r;obtain⟨t,rfl⟩:=q;exact⟨_,.int i t⟩
 | .str x,v,u,r,q=>by
  subst r;obtain⟨t,rfl⟩:=q;exact⟨_,.str x t⟩
 | .tuple ds,v,u,r,q=>by
  obtain⟨a,xs,e,e2,q2⟩:=r;subst e;cases q;obtain⟨its,rv,⟨o,h1,h2,n,h3⟩,_⟩:=I.tuple (SqT.of e2);obtain⟨as,q3⟩:=RepA.reads I ds xs its q2 rv;exact⟨_,.tuple h1 h2 h3 (by omega)⟩
 | .list ds,v,u,r,q=>by
  obtain⟨a,xs,e,e2,q2⟩:=r;subst e;cases q;obtain⟨its,rv,⟨o,n,h1,h2,_,h3⟩,_⟩:=I.list (SqL.of e2);obtain⟨as,q3⟩:=RepA.reads I ds xs its q2 rv;exact⟨_,.list h1 h2 h3 (by omega)⟩
 | .dict _,v,u,r,q=>by
  rw[RepD]at r
  simp_all
theorem RepA.reads (I:Inv X pins σ H s):∀ (ds:Vd RJ) (vs:Vd V) (us:Vd Vi),RepA H ds vs->Vals vs us->∃ as,ReadsAll s.heap us ds as
 | [],vs,us,r,q=>by
  rw[RepA]at r;subst r;cases q;exact⟨_,.nil⟩
 | d::ds,vs,us,r,q=>by
  rw[RepA]at r;obtain⟨v,vs',e,q1,q2⟩:=r;subst e;cases q with
  | cons p1 p2 =>
   obtain⟨as,r1⟩:=RepD.reads I d v _ q1 p1;obtain⟨bs,r2⟩:=RepA.reads I ds vs' _ q2 p2;exact⟨_,.cons r1 r2⟩
end
end
section
variable {X:Cx}
theorem ZlL (hu:X.A.units+64<OY):OpR X (Oy .Eq) (fun x y H Q=>∃ da db,RepD H da x/\RepD H db y/\Nh da=true/\Nh db=true/\Q (.bl (TC da db)) H):=by
 intro pins s σ H x y v u Q I rx ry h;obtain⟨da,db,r1,r2,s1,s2,q⟩:=h;obtain⟨as,q1⟩:=RepD.reads I da x v r1 rx;obtain⟨bs,q2⟩:=RepD.reads I db y u r2 ry;exact eq_dataH q1 q2 s1 s2 hu ⟨.bl _,H,I,rfl,q⟩
end
structure HasDef (K:Ve) (mg:Vl->Vj Vi) (name:Vl) (st:V7) (ps:Vd Vl):Prop where
 ex:∃ f fd,Fun K name name st f fd/\Binds K fd ps []/\mg name=some (.ref f)
structure FOk (P:Oh) (w:Oi) (K:Ve) (mg:Vl->Vj Vi) (base:Vz) (k:Vg) (name:Vl) (ps:Vd Vl) (sp:Sp):Prop where
 ex:∃ f fd,FnOk P w K mg base CX0 k f fd ps sp/\Binds K fd ps []/\mg name=some (.ref f)/\VS K (.ref f)=true
section
variable {P:Oh} {w:Oi} {K:Ve} {mg:Vl->Vj Vi} {base:Vz}
theorem HasDef.ok {st} (D:HasDef K mg name st ps) (S:Zo N ps (Zh st)) (len:∀ vs H Q E,sp vs H Q E->vs.length=ps.length)
  (hbody:∀ (f) (cdv) (A) (outer) (s) (H) (vs) (Q) (E),Room k (A.deeper (O4 name (Zh st) s.heap.objs.size f cdv))->sp vs H Q E ->
   ∃ t,PSs (ZeI CX0 P w K mg base N name (Zh st) f cdv A outer s H E).nox (ZI st) t/\t {nx:=fun _ H'=>Q .non H',rt:=Q} (start N vs) H):FOk P w K mg base (k+1) name ps sp:=by
 obtain⟨f,fd,F,b,m⟩:=D.ex;exact⟨f,fd,F.ok S len fun cdv A outer s H vs Q E=>hbody f cdv A outer s H vs Q E,b,m,F.kp⟩
theorem FOk.mono (G:FOk P w K mg base j name ps sp) (h:j<=k):FOk P w K mg base k name ps sp:=by
 obtain⟨f,fd,F,r⟩:=G.ex;exact⟨f,fd,F.mono h,r⟩
end
theorem ZC {p pos} (G:FOk X.prog X.w X.K X.mg X.base k name ps sp) (hr:Room k X.A) (ha:PA X (e::es) t) (hg:Gl X name:=by rfl)
  (hdb:(name==("__debug__"))=false:=by decide) (he:Oj (e::es) X.env=(false,VQ e X.env)::Oj es X.env:=by rfl) (hpl:(Ox pos (Oj es X.env)).any (·.1)=false:=by rfl) :
  PE X (.Call (.Name name p) (e::es) [] pos) (ZjL sp [] E0 t):=by
 have⟨f,fd,F,b,m,kp⟩:=G.ex;exact ZfT F hr hg m kp b .nil ZhT ha hdb he hpl
inductive TyB (H:Hp):V->Ny->Prop where
 | non:TyB H .non "NoneType"
 | bl (b:V0):TyB H (.bl b) "bool"
 | int (i:Vs):TyB H (.int i) "int"
 | str (x:Vl):TyB H (.str x) "str"
 | lst {a:Vk} {xs:Vd V} (e:H a=some (.lst xs)):TyB H (.ref a) "list"
 | tup {a:Vk} {xs:Vd V} (e:H a=some (.tup xs)):TyB H (.ref a) "tuple"
 | dK {a:Vk} {kvs:Vd (Key×V)} (e:H a=some (.dK kvs)):TyB H (.ref a) "dict"
theorem TyB.of {K} (h:TyB H x n):Zea K H x (.type n):=by
 cases h with
 | non=>exact .non
 | bl b=>exact .bl b
 | int i=>exact .int i
 | str x=>exact .str x
 | lst e=>exact .lst e
 | tup e=>exact .tup e
 | dK e=>exact .dK e
noncomputable def ZaG:Vd Ny:=["NoneType","bool","int","str","list","tuple","dict"]
theorem TyB.mem (h:TyB H x n):n∈ZaG:=by
 cases h <;> simp[ZaG]
noncomputable def Zml (n c:Ny):V0:=n==c || (n == "bool" && c == "int")
noncomputable def Zg7:Vd Ny:=["int","bool","str","tuple","list"]
noncomputable def Zon (a b:Ny):Vj V0:=if (VM a==VM b)=true then some true else if PySem.W.kitMeta b=true then (fastBuiltinMro a).map (·.contains (VM b))else none
theorem ZkK:∀ n∈ZaG,∀ c∈Zg7,Zon n c=some (Zml n c):=by decide +kernel
theorem Ys:CallR X (.builtin "isinstance") (fun xs H Q=>∃ (x:V) (c n:Ny),xs=[x,.ty c]/\c∈Zg7/\TyB H x n/\Q (.bl (Zml n c)) H):=by
 intro pins s σ H xs us Q I r h;obtain⟨x,c,n,rfl,hc,ty,q⟩:=h;exact ZiB pins s σ H _ us Q I r ⟨x,_,_,_,_,rfl,ty.of,rfl,ZkK n ty.mem c hc,q⟩
theorem ZgI:∀ n∈ZaG,(Zml n "int" = true->(!Zml n "bool")=(n == "int"))/\(¬ Zml n "int" = true->(n == "int")=false):=by decide
theorem Zda:On "isinstance" = some (.builtin "isinstance"):=by rfl
theorem ZQ:On "len" = some (.builtin "len"):=by rfl
theorem ZnG:On "sum" = some (.builtin "sum"):=by rfl
theorem ZmB:On "min" = some (.builtin "min"):=by rfl
theorem Xj:On "sorted" = some (.builtin "sorted"):=by rfl
theorem ZnI:On "int" = some (.type "int"):=by rfl
theorem ZmE:On "bool" = some (.type "bool"):=by rfl
theorem ZmA:On "str" = some (.type "str"):=by rfl
theorem Yt:On "tuple" = some (.type "tuple"):=by rfl
theorem ZmC:On "list" = some (.type "list"):=by rfl
theorem ZcG {pos} (hg:Gl X x) (hm:X.mg x=none) (hv:On x=some (.type c)) (hn:x≠"__name__":=by decide) (hd:(x==("__debug__"))=false:=by decide):PE X (.Name x pos) (tC (.ty c)) :=
 Zkf hg hm hv rfl hn hd
theorem YM {X} {scope} {cl} {C} {s₀} {H₀} {fp} (i) {x} {pos} (nd:(lcN N xs mp).Nodup:=by decide +kernel) (hi:(lcN N xs mp)[i]?=some x:=by rfl)
  (hx:(lcx X (lcN N xs mp) scope cl C s₀ H₀ fp).env.scope.names.lookup x=some .local:=by rfl):PG (lcx X (lcN N xs mp) scope cl C s₀ H₀ fp) (.Name x pos) (Ji i):=Zx nd hi (.inl hx) (.inr hx)
def tx (l:Vd Vg):Vl:=⟨l.toArray⟩
theorem Zr (l):(tx l).cps.toList=l:=by rfl
theorem Zy (l):(tx l).length=l.length:=by rfl
theorem tx_eta (x):tx x.cps.toList=x:=by rfl
theorem Zoe (l) (c):(!(Builtin.Str.occurrences l ⟨#[c]⟩ 0 l.length 1).isEmpty)=decide (c∈l.cps.toList):=PySem.StrLaws.found_one l c
theorem ZkP (K) (h:X.K=K:=by rfl):IxR X (Znc K):=by subst h;exact ix_tup
theorem Za7 (K) (h:X.K=K:=by rfl):IxR X (Znd K):=by subst h;exact ix_list
theorem ZO (h:n<=16777216):n<=Of:=by assumption
open PySem PySem.Spec PyProof.Rows PySem.Builtin.Str
section
variable {X:Cx}
theorem Yj {k} {pos} (n) (K) (hc:X.calm=true) (h:PGs X es t) (hK:X.K=K:=by rfl)
  (hn:(OJ es X.env).length=n:=by rfl) (hst:(OJ es X.env).findIdx? (·.1)=none:=by rfl):PG X (.Tuple es k pos) (ZnW K n t):=by
 subst hK;exact Zly hc h hn hst
end
theorem Zu (x:Vl):x.cps.toList.length=x.length:=by rfl
theorem Xp (h:0<=n):(VG x none (some n)).cps.toList=x.cps.toList.take n.toNat:=by
 by_cases c:n<=x.length
 rw[(Nx (Ta h c))];simp;rw[(slice_to_beyond (x:=x) (j:=n) (by omega)),(Nx (Ta (x:=x) Ss (U5 _))),QZ (i:=n.toNat) (by rw[Zu];lia)];simp[LV];exact QZ (by simp)
theorem Jz {i j} (h0:0<=i) (h1:i<=j) (h2:j<=x.length):(VG x (some i) (some j)).cps.toList=(x.cps.toList.drop i.toNat).take (j-i).toNat:=by
 rw[(Nx (slice_closesL h0 h1 h2))]
theorem Zb1:∀ (l:Vd (Vm Vg)) (a),(l.foldl (· ++ ·) a).toList=a.toList++(l.map Array.toList).flatten
 | [],a=>by simp
 | b::l,a=>by
  rw[U3,Zb1 l];simp
theorem Zgf (h:1<=n) (hx:x.length≠0):(Lr x n).cps.toList=(Qq n.toNat x.cps.toList).flatten:=by
 unfold Lr;rw[if_neg (Em h)];split
 simp_all
 rw[Zb1];simp
theorem mulOk_of (h1:1<=n) (h2:n<=1000) (h3:x.length<=1000):MulOk x n:=by
 refine⟨?_,?_,?_⟩;have a:¬ n < -2 ^ 63:=by lia
 have b:¬ n≥2 ^ 63:=by lia
 rw[Vp a,Vp b];rfl;intro _ _ q;have:1000<=(2 ^ 63-1) / n:=by
  rw[Int.le_ediv_iff_mul_le (by omega)];lia
 lia;intro _ _;have:x.length*n.toNat<=1000*1000:=U7 h3 (by lia);have hs:=Op;exact Vp (by lia)
theorem JQ {l} {c:α} (h0:0<=i) (h:l[i.toNat]?=some c):atI l i=some c:=by
 obtain⟨j,rfl⟩:=Int.eq_ofNat_of_zero_le h0;exact Zhh h
theorem Zlr (h:i<=n):HT.sIx n d (some i)=i:=by
 unfold HT.sIx;simp;rw[if_neg (by lia)];exact E8 h
theorem Zmy {i:Vg} (h:i<=xs.length):Zjr xs none (some i)=xs.take i:=by
 have e1:HT.sIx xs.length 0 none=0:=rfl;unfold Zjr;rw[e1,Zlr h];simp
end L2
namespace Srt
open PySem PySem.W PyProof.Rows
section
variable {n:Vg} {lt:Vg->Vg->V0} {cmp:Vg->Vg->(V0->Vh->Prop)->Vh->Prop} {G:Vh->Prop}
structure Ord (n:Vg) (lt:Vg->Vg->V0):Prop where
 tr:∀ i j k,lt i j=true->lt j k=true->lt i k=true
 asy:∀ i j,lt i j=true->lt j i=false
 tot:∀ i j,i<n->j<n->i≠j->lt i j=true\/lt j i=true
structure Pm (n:Vg) (p:Vm Vg):Prop where
 size:p.size=n
 perm:p.Perm (Qu n).toArray
theorem Pm.below (h:Pm n p) (ha:a<n):p.getD a 0<n:=by
 have hs:a<p.size:=by rw[h.size];exact ha
 have:=h.perm.mem_iff.mp (Array.getElem_mem hs);rw[Ws,QR hs];simpa using this
theorem Pm.ne (h:Pm n p) (ha:a<n) (hb:b<n) (hab:a≠b):p.getD a 0≠p.getD b 0:=by
 have hs:a<p.size:=by rw[h.size];exact ha
 have hs2:b<p.size:=by rw[h.size];exact hb
 have nd:=by
  have:=Ww.mp h.perm;exact this.nodup_iff.mpr (by simpa using Wh)
 intro e;have:=(Uj (h₀:=by simpa using hs) (h₁:=by omega) nd).mp (by simp_all);lia
def Up (lt:Vg->Vg->V0) (p:Vm Vg) (m:Vg):Prop:=∀ a b,a<b->b<m->lt (p.getD a 0) (p.getD b 0)=true
variable (o:Ord n lt) (hc:∀ i j C s,i<n->j<n->i≠j->G s->(∀ s',G s'->C (lt i j) s')->cmp i j C s)
include o hc
omit o hc in
omit o hc in
end
end Srt
namespace L2
open PySem PySem.Spec PyProof.Rows PySem.W
def ZoE (h:Vz) (v:Vi) (x:Vl):Prop:=∃ a t y,v= .ref a/\h.get? a=some {cls:=.type "tuple",data:=.seq #[.str x t,y]}
noncomputable def ltX (xs:Vd Vl) (i j:Vg):V0:=decide ((xs.getD i "").cps.toList<(xs.getD j "").cps.toList)
theorem JU {xs:Vd Vl} (h):xs.getD i "" = xs[i]:=by
 rw[Qb,Qa h];rfl
section
variable {prog:Oh} {w:Oi} {A:VA} {E:Vi->Vh->Prop} {s:Vh}
end
theorem ObjOk.there' (x:ObjOk P w H h a o):∃ u,h.get? a=some u:=by
 cases o with
 | lst xs=>obtain⟨_,_,_,_,e⟩:=x;simp_all
 | tup xs=>obtain⟨_,_,_,⟨_,e,_⟩,_⟩:=x;simp_all
 | dK kvs=>obtain⟨_,_,_,_,o,_,_,e,_⟩:=x;simp_all
 | dT kvs=>obtain⟨_,_,_,_,o,_,_,e,_⟩:=x;simp_all
 | set S n=>obtain⟨o,_,_,_,e,_⟩:=x;simp_all
 | ins C dx fs=>obtain⟨_,_,_,e,_⟩:=x;simp_all
 | own y=>exact x
 | xd fs=>obtain⟨_,⟨_,_,_,e,_⟩,_⟩:=x;simp_all
 | rng lo hi=>obtain⟨_,_,_,e⟩:=x;simp_all
 | frz ob u=>obtain⟨e,_⟩:=x;simp_all
 | tbl ps=>exact⟨_,x⟩
 | met f y=>exact⟨_,x⟩
 | ext φ=>obtain⟨_,e,_⟩:=x;omega
section
variable {X:Cx} {pins:Vd (Vk×Nd)} {σ:St} {H:Hp} {s:Vh}
theorem Inv.laidN {N:Vk->Vj HO} (I:Inv X pins σ H s) (k:∀ b u,s.heap.get? b=some u->h1.get? b=some u) (hN:∀ a o,N a=some o->s.heap.get? a=none/\∀ H2,ObjOk X.prog X.w H2 h1 a o) :
  Inv X pins σ (fun b=>(N b).or (H b)) {s with heap:=h1,toks:=tk}:=by
 have low:∀ b u,s.heap.get? b=some u->N b=none:=fun b u hb=>by
  cases q:N b with
  | none=>rfl
  | some o=>rw[(hN b o q).1]at hb;cases hb
 have old:∀ b u,H b=some u->(N b).or (H b)=some u:=fun b u q=>by
  obtain⟨v,hv⟩:=(I.hok b u q).there';rw[low b v hv,UL];omega
 refine I.un ⟨fun b o q _ _ _=>k b o q,fun b o q _ _ _=>⟨_,k b o q⟩,fun b o q n _=>?_,fun b o q _=>⟨o,k b o q⟩,fun b xs q=>old b _ q,fun b o u q=>old b _ q,fun b ps q=>⟨#[],by rw[old b _ q];simp⟩⟩ fun a o q=>?_;rw[low b o q,UL];omega;cases e:N a with
 | some u =>
  simp_all
 | none =>
  rw[e]at q;exact(I.hok a o q).stay (fun b u _ z=>k b u z) (fun b z=>old b _ z) fun b xs z=>old b _ z
end
def ivO (p d:Vk):HO:=.ext fun h=>h.IsItemsView p d
theorem Zh8:MtR X "dict.items" (fun x vs H Q=>∃ d kvs,x= .ref d/\vs=[]/\H d=some (.dK kvs)/\∀ p,H p=none->Q (.ref p) (upd H p (ivO p d))):=by
 intro pins s σ H x vs v us Q I rx rv h;obtain⟨d,kvs,rfl,rfl,hd,q⟩:=h;cases rx;cases rv;obtain⟨hz,lo,vs',kv,dd⟩:=Zah I.hok hd;refine O8 Ng dd.typeIs N2 (NX _) (Tc _ d lo) ⟨⟨_,dd⟩,?_⟩;refine⟨.ref s.heap.objs.size,_,I.laid (fun b u e=>Qc _ e) (Qg _) ?_,rfl,q _ (I.hok.fresh (Qg _))⟩;refine⟨⟨_,Qm _ rfl,rfl,rfl⟩,⟨_,Qm _ rfl⟩,fun h1 h2 ⟨o,e,r⟩ k=>⟨o,k o e,r⟩⟩
theorem ZfP (ks:Vd Vl) (p) (hp:Srt.Pm ks.length p):(p.toList.map fun i=>ks.getD i "").Perm ks:=by
 have h1:=(Ww.mp hp.perm).map fun i=>ks.getD i "";have h2:((Qu ks.length).toArray.toList.map fun i=>ks.getD i "")=ks:=by
  apply QW;intro i;simp only[Qi];by_cases hi:i<ks.length
  rw[QY hi,Qa hi,We,JU hi];rw[Qp (by simp;exact Kf hi),Qp (Kf hi)];rfl
 rw[h2]at h1;omega
def Zlj (td:TE):TE:=fun σ H Q=>td σ H fun x H1=>∃ d kvs,x= .ref d/\H1 d=some (.dK kvs)/\∀ p,H1 p=none->Q (.ref p) (upd H1 p (ivO p d))
theorem ZaV {apos cpos} (ho:PE X o td) (hbase:OC o "items" X.env (VQ o X.env)=VQ o X.env:=by rfl) (hline:(apos.endLine==cpos.line)=true:=by rfl) :
  PE X (.Call (.Attribute o "items" apos) [] [] cpos) (Zlj td):=by
 intro pins s σ H Q I h;refine OQ hbase hline (thn (ho pins s σ H _ I h) fun v s1 ⟨x,H1,I1,r1,d,kvs,ex,hd,q1⟩=>?_);subst ex;obtain rfl:v=Value.ref d:=r1;have⟨t1,t2,_⟩:=ZbU I1 (.inl ⟨kvs,.inl hd⟩);exact⟨_,_,V3,Ng,Ma,t1,t2,VO rfl (Nq (Zh8 pins s1 σ H1 (.ref d) [] _ [] Q I1 rfl .nil ⟨d,kvs,rfl,rfl,hd,q1⟩))⟩
open PySem PySem.Spec PyProof.Rows
structure XCls (K:Ve) (mg:Vl->Vj Vi) (x:Vl) (C:Vk) (bm:Vd Vi):Prop where
 bound:mg x=some (.ref C)
 look:∃ nm q N bs hdct sn sub ab col dd k0 k1 k2 k3 k5,K.lookup C=some (excClassObj nm q C N bs bm hdct sn sub ab col dd k0 k1 k2 k3 k5 "ValueError.__new__") /\
  PySem.W.nsOkIn K N=true/\Vw K N "__init__" = some none
 tail:PySem.W.tailIn K [.type "ValueError",.type "Exception",.type "BaseException",.type "object"] bm=true
noncomputable def Zl1 (K:Ve) (C:Vk):Vd Vi:=match K.lookup C with
 | some ⟨_,_,.cls cd,_⟩=>cd.mro.tail
 | _=>[]
theorem ZjB {K} (hb:mg x=some (.ref C)) (hq:MU K C [.type "ValueError",.type "Exception",.type "BaseException",.type "object"] "ValueError.__new__" = true):XCls K mg x C (Zl1 K C):=by
 unfold MU at hq;cases hl:K.lookup C with
 | none=>simp_all
 | some o =>
  rw[hl]at hq;split at hq
  rename_i dd cd sl e0;injection e0 with e1
  subst e1;split at hq
  rename_i C1 bm k0 k1 k2 k3 n k5 e2 e3;rw[Wg,Wg,Wg,Wg,Wg]at hq;obtain⟨⟨⟨⟨⟨q1,q2⟩,q3⟩,q4⟩,q5⟩,q6⟩:=hq;have r1:=beq_iff_eq.mp q1;have r2:=beq_iff_eq.mp q2;subst r1;subst r2;obtain⟨f1,f2,f3,f4,f5,f6,f7,f8,f9,f10,f11⟩:=cd;have em:Zl1 K C1=bm:=by
   unfold Zl1;rw[hl];have e2':f3=Value.ref C1::bm:=e2;rw[e2'];rfl
  rw[em];have q3':f11=false:=by simp_all
  subst e2;subst q3';obtain⟨l⟩:=sl;subst e3;exact⟨hb,⟨f1,f5,f4,f2,f6,f7,f8,f9,f10,dd,k0,k1,k2,k3,k5,hl,q5,(beq_iff_eq.mp q6)⟩,q4⟩
  simp_all
  simp_all
theorem XCls.at {K} (c:XCls K mg x C bm) (X:K.In h):∃ N nm q bs hdct sn sub ab col dd k0 k1 k2 k3 k5 mN,
  h.get? C=some (excClassObj nm q C N bs bm hdct sn sub ab col dd k0 k1 k2 k3 k5 "ValueError.__new__")/\h.Ns N mN/\mN "__init__" = none/\OwnTail h [.type "ValueError",.type "Exception",.type "BaseException",.type "object"] bm:=by
 obtain⟨nm,q,N,bs,hdct,sn,sub,ab,col,dd,k0,k1,k2,k3,k5,hl,h1,h2⟩:=c.look;exact⟨N,nm,q,bs,_,sn,sub,ab,col,dd,k0,k1,k2,k3,k5,_,X _ _ hl,.of_isNs (PySem.W.isNs_of_in X h1),PySem.W.nsMap_none_of_in X h1 h2,PySem.W.tail_of_in X c.tail⟩
def CXx (P:Oh) (w:Oi):CXT:=fun outer H s E e s'=>∃ (ea:Vk) (cls a0:Vi) (H':Hp) (B:Vz),e= .ref ea/\s'.os=s.os/\O9 s'.gens/\Un (frs outer) [] H H' s.heap s'.heap/\HOk P w H' s'.heap /\
 Heap.FlyingW B outer ea cls a0 s'.heap/\(∀ b u,H' b=some u->∃ o,B.get? b=some o)/\(∀ b o,s.heap.get? b=some o->H b=none->b∉frs outer->B.get? b=some o) /\
 (∀ b o,s.heap.get? b=some o->b∉frs outer->∃ o',B.get? b=some o')/\E cls none H'
theorem HOk.stays {h h' B:Vz} (x:HOk P w H h) (hB:∀ b u,H b=some u->∃ o,B.get? b=some o) (h1:B.StaysIn h) (h2:B.StaysIn h'):HOk P w H h':=fun a o e=>by
 have key:∀ b u,H b=some u->∀ v,h.get? b=some v->h'.get? b=some v:=fun b u q v hv=>by
  obtain⟨o',ho⟩:=hB b u q;have e1:=h1 b o' ho;rw[hv]at e1;cases e1;exact h2 b v ho
 refine(x a o e).stay (fun b v hb q=>?_) (fun _ q=>q) fun _ _ q=>q
 grind
theorem Zis (h:env.frame=some L):frs (env::l)=L::frs l:=by
 unfold frs
 simp_all
theorem ObjOk.there (x:ObjOk P w H h a o):∃ u,h.get? a=some u:=by
 cases o with
 | lst xs=>obtain⟨_,_,_,_,e⟩:=x;simp_all
 | tup xs=>obtain⟨_,_,_,⟨_,e,_⟩,_⟩:=x;simp_all
 | dK kvs=>obtain⟨_,_,_,_,o,_,_,e,_⟩:=x;simp_all
 | dT kvs=>obtain⟨_,_,_,_,o,_,_,e,_⟩:=x;simp_all
 | set S n=>obtain⟨o,_,_,_,e,_⟩:=x;simp_all
 | ins C dx fs=>obtain⟨_,_,_,e,_⟩:=x;simp_all
 | own y=>exact x
 | xd fs=>obtain⟨_,⟨_,_,_,e,_⟩,_⟩:=x;simp_all
 | rng lo hi=>obtain⟨_,_,_,e⟩:=x;simp_all
 | frz ob u=>obtain⟨e,_⟩:=x;simp_all
 | tbl ps=>exact⟨_,x⟩
 | met f y=>exact⟨_,x⟩
 | ext φ=>obtain⟨_,e,_⟩:=x;omega
structure Lv (X:Cx) (E:XK):Prop where
 ex:X.ex=[]
 stk:X.stack=X.env::X.outer
 fr:X.env.frame=some X.env.locals
 xe:∀ e s',Og (Oc X.prog X.w) X.A (leaving X.env e) (fun _ s''=>CXx X.prog X.w X.outer X.H₀ X.s₀ E e s'') (fun e' s''=>CXx X.prog X.w X.outer X.H₀ X.s₀ E e' s'') s'->X.xe e s'
section
variable {X:Cx} {E:XK} {pins:Vd (Vk×Nd)} {σ:St} {H:Hp} {s:Vh}
theorem Lv.frs (L:Lv X E):frs X.stack=X.env.locals::X.fs:=by rw[L.stk];exact Zis L.fr
theorem Lv.old (L:Lv X E) (I:Inv X pins σ H s) (q:X.s₀.heap.get? b=some o) (hb:b∉X.fs):b∉L2.frs X.stack:=by
 rw[L.frs,Qs];rintro(z | z);exact Vo (QL (Qn q) (z▸I.ok.above)) (Q6 _)
 simp_all
theorem Lv.noex (L:Lv X E) (b):b∉X.ex:=by rw[L.ex];simp
theorem Lv.raised (L:Lv X E) (I:Inv X pins σ H s) (hx:Heap.MadeExcOf s.heap h1 e (.ref C) args) (hE:E (.ref C) none H):X.xe (.ref e) {s with heap:=h1}:=by
 have hin:∀ env∈X.stack,∀ b,env.frame=some b->b∈L2.frs X.stack:=fun env he b hb=>UP.mpr ⟨env,he,hb⟩;have fB:=PySem.W.funFrames_hide I.stack hin;have kB:∀ b o,s.heap.get? b=some o->b∉L2.frs X.stack->(Nw s.heap _).get? b=some o:=fun b o q n=>MM _ q n;rw[L.stk]at fB;refine L.xe _ _ (wpAny_leaves_madeW (base:=Nw s.heap (L2.frs X.stack)) (by rw[←L.stk];exact I.ok.frames) L.fr (fun b o q=>NP _ q) (by rw[L.stk];omega) hx fun h2 t fl tup bt up=>?_);have c1:∀ b u,H b=some u->∃ o,(Nw s.heap _).get? b=some o:=fun b u q=>by
  obtain⟨o,ho⟩:=(I.hok b u q).there;exact⟨o,kB b o ho fun z=>by rw[I.stkFree b z]at q;grind⟩
 have c2:=fun b o q n hb=>kB b o (I.base.keep b o q n hb (L.noex b)) (L.old I q hb);have c3:∀ b o,X.s₀.heap.get? b=some o->b∉L2.frs X.outer->∃ o',(Nw s.heap _).get? b=some o':=fun b o q hb=>by
  obtain⟨o',q1⟩:=I.base.there b o q (L.noex b);exact⟨o',kB b o' q1 (L.old I q hb)⟩
 have fr:∀ b∈L2.frs X.outer,∀ o,s.heap.get? b=some o->∃ sl,h2.get? b=some _:=fun b hb o q=>by
  obtain⟨_,o',ho,hd⟩:=I.stack.mem (by show b∈L2.frs X.stack;rw[L.frs];exact Qk _ hb);rw[q]at ho;cases ho;exact up b o (hx.keeps b o q) hd
 refine⟨e,_,_,H,_,rfl,I.os,I.bare,⟨fun b o q n hb _=>fl.1 b o (c2 b o q n hb),fun b o q n hb _=>?_,fun b o q n _=>I.base.free b o q n (L.noex b),fun b o q _=>?_,I.base.tups,I.base.frzs,I.base.tbls⟩,
  I.hok.stays c1 (fun b o q=>NP _ q) fl.1,fl,c1,c2,c3,hE⟩
 obtain⟨sl,q1⟩:=I.base.slot b o q n hb (L.noex b);obtain⟨sl',q2⟩:=fr b hb _ q1;exact⟨sl',q2⟩;by_cases hb:b∈L2.frs X.outer
 obtain⟨o',q1⟩:=I.base.there b o q (L.noex b);obtain⟨sl',q2⟩:=fr b hb _ q1;exact⟨_,q2⟩;obtain⟨o',q1⟩:=c3 b o q hb;exact⟨o',fl.1 b o' q1⟩
def Zlh (E:XK) (C:Vk) (t:TA):TS:=fun D σ H=>t σ H fun vs H1=>vs.length<=Of/\E (.ref C) none H1
theorem ZhK {np cpos pos} (L:Lv X E) (c:XCls X.K X.mg x C bm) (hcalm:X.calm=true) (ha:PA X (e₀::es) t) (hg:Gl X x:=by rfl) (hd:(x==("__debug__"))=false:=by decide)
  (he:Oj (e₀::es) X.env=(false,VQ e₀ X.env)::Oj es X.env:=by rfl) (hpl:(Ox cpos (Oj es X.env)).any (·.1)=false:=by rfl) :
  PS X (.Raise (some (.Call (.Name x np) (e₀::es) [] cpos)) none pos) (Zlh E C t):=by
 intro pins s σ H D I h;have⟨N,nm,q,bs,hdct,sn,sub,ab,col,dd,k0,k1,k2,k3,k5,mN,hC,hN,hni,T⟩:=c.at I.mod.kin;have hpl':(Ox cpos (Oj (e₀::es) X.env)).any (·.1)=false:=by
  rw[he]
  trivial
 refine wpAny_Raise_call_subU (nm:=nm) (q:=q) (N:=N) (bs:=bs) (hdct:=hdct) (sn:=sn) (sub:=sub) (ab:=ab) (col:=col) (dd:=dd) (k0:=k0) (k1:=k1) (k2:=k2) (k3:=k3) (k5:=k5)
  NU (by decide) NU (T.hasType PySem.F.excBase_ValueError.hasBase) (I.ok.hd hcalm) hpl' hni (ZcZ I hg c.bound ⟨rfl,?_⟩ hd)
 have hs:=ha cpos pins s σ H _ I h;rw[he]at hs ⊢;refine Ni (Oo hs (fun us s2 ⟨vs,H2,I2,r,hl,hE⟩=>⟨rfl,?_,?_⟩) fun _ _ y=>y);rw[←r.length];omega;exact⟨I2.bk _ _ hC,hN.keeps I2.bk,T.keeps I2.bk,fun h1 e hm=>L.raised I2 hm hE⟩
end
theorem Fun.okX {K} {st} (F:Fun K x qual st f fd) (S:Zo N ps (Zh st)) (len:∀ vs H Q E,sp vs H Q E->vs.length=ps.length)
  (hbody:∀ (X) (vs) (H) (Q) (E) (cdv) (A) (outer) (s),X=ZeI (CXx P w) P w K mg base N qual (Zh st) f cdv A outer s H E->Lv X E->Room k X.A->sp vs H Q E ->
   ∃ t,PSs (ZeI (CXx P w) P w K mg base N qual (Zh st) f cdv A outer s H E) (ZI st) t/\t {nx:=fun _ H'=>Q .non H',rt:=Q} (start N vs) H):FnOk P w K mg base (CXx P w) (k+1) f fd ps sp:=by
 obtain⟨oc,od,kV,doc,pm,an,cdv,ct,osl,rfl,lk,hcd⟩:=F.ex;refine Ziw lk hcd S len fun A outer s H vs Q E hr hsp=>?_;exact hbody _ vs H Q E cdv A outer s rfl ⟨rfl,rfl,rfl,fun _ _ h=>h⟩ hr hsp
structure ZmI (P:Oh) (w:Oi) (K:Ve) (mg:Vl->Vj Vi) (base:Vz) (k:Vg) (name:Vl) (ps:Vd Vl) (sp:Sp):Prop where
 ex:∃ f fd,FnOk P w K mg base (CXx P w) k f fd ps sp/\Binds K fd ps []/\mg name=some (.ref f)/\VS K (.ref f)=true
theorem HasDef.okX {K} {st} (D:HasDef K mg name st ps) (S:Zo N ps (Zh st)) (len:∀ vs H Q E,sp vs H Q E->vs.length=ps.length)
  (hbody:∀ (f) (cdv) (A) (outer) (s) (vs) (H) (Q) (E),Lv (ZeI (CXx P w) P w K mg base N name (Zh st) f cdv A outer s H E) E->Room k (A.deeper (O4 name (Zh st) s.heap.objs.size f cdv))->sp vs H Q E ->
   ∃ t,PSs (ZeI (CXx P w) P w K mg base N name (Zh st) f cdv A outer s H E) (ZI st) t/\t {nx:=fun _ H'=>Q .non H',rt:=Q} (start N vs) H):ZmI P w K mg base (k+1) name ps sp:=by
 obtain⟨f,fd,F,b,m⟩:=D.ex;refine⟨f,fd,F.okX S len fun X vs H Q E cdv A outer s e l r h=>?_,b,m,F.kp⟩;subst e;exact hbody f cdv A outer s vs H Q E l r h
section
variable {X:Cx} {pins:Vd (Vk×Nd)} {σ:St} {H:Hp} {s:Vh}
end
section
variable {prog:Oh} {w:Oi} {A:VA} {E:Vi->Vh->Prop} {s:Vh} {K:Frag} {a C:Vk} {o:Nd}
end
theorem Zng:Jg (CXx X.prog X.w) X E0:=fun _ _ _ _ _ _ _ h=>by
 obtain⟨_,_,_,_,_,_,_,_,_,_,_,_,_,_,z⟩:=h;exact z.elim
theorem Zi3 {p pos} (G:ZmI X.prog X.w X.K X.mg X.base k name ps sp) (hr:Room k X.A) (ha:PA X (e::es) t) (hg:Gl X name:=by rfl)
  (hdb:(name==("__debug__"))=false:=by decide) (he:Oj (e::es) X.env=(false,VQ e X.env)::Oj es X.env:=by rfl) (hpl:(Ox pos (Oj es X.env)).any (·.1)=false:=by rfl) :
  PE X (.Call (.Name name p) (e::es) [] pos) (ZjL sp [] E0 t):=by
 have⟨f,fd,F,b,m,kp⟩:=G.ex;exact ZfT F hr hg m kp b .nil Zng ha hdb he hpl
theorem Ya:MtR X "list.append" ZcF:=XO
theorem hasDef_mk {K} {st} {kV dc pm cd ct} (X:K.In h) (G:h.Ns Ol mg)
  (a:Vw K Ol name=some (some (.ref f))) (l:K.lookup f=some ⟨oc,od,.func (VC name name (ZY st) (ZI st) (Zh st) .none kV dc pm an cd ct),sl⟩) (c:V2 K cd name=true) (k:VS K (.ref f)=true)
  (hb:∀ (kV doc pm) (an) (cdv ct) (us),us.length=ps.length->GO (VC name name (ZY st) (ZI st) (Zh st) .none kV doc pm an cdv ct) ⟨us,[]⟩=pure (ps.zip us)):HasDef K mg name st ps :=
 ⟨_,_,ZgQ l c k,(ZgQ l c k).binds hb,N3 X G a⟩
abbrev Zn2:Vd Vi:=[.type "ValueError",.type "Exception",.type "BaseException",.type "object"]
theorem Xm {A B:Prop} (h:c=true) (a:A):if c=true then A else B:=by simp_all
theorem Yu {A B:Prop} (h:c=false) (b:B):if c=true then A else B:=by simp_all
theorem Zmm (h:¬ a=b):decide (V.int a=V.int b)=false:=Vp fun q=>h (by simp_all)
theorem Zmn (h:a=b):decide (V.int a=V.int b)=true:=Vq (VR V.int h)
open PySem PySem.Spec PyProof.Rows PySem.Builtin.Str
theorem Zgh:MtR X "str.startswith" (fun x vs H Q=>∃ z y,x= .str z/\vs=[.str y]/\Q (.bl (NV z y)) H):=by
 intro pins s σ H x vs v us Q I rx rv h;obtain⟨z,y,rfl,rfl,q⟩:=h;obtain⟨t,rfl⟩:=rx;obtain⟨u0,rfl,u,rfl⟩:=XE rv;exact SC.startswith ⟨.bl _,H,I,rfl,q⟩
theorem Z0 {i} (h0:0<=i) (h1:i<=x.length):(VG x (some i) none).cps.toList=x.cps.toList.drop i.toNat:=by
 rw[Nx (slice_closes_fromL h0 h1 rfl)];simp[LV];exact QZ (by simp;omega)
theorem Zbp (z y):NV z y=(decide (y.length<=z.length)&&(z.cps.toList.take y.length==y.cps.toList)):=by
 unfold NV;rw[StrLaws.subAt_eq,Rl,U8]
def Zny (K:Ve) (n:Vg) (t:TGs):TG:=fun v σ H Q=>∃ a xs,v= .ref a/\SqL K H a xs/\xs.length=n/\t xs σ H Q
theorem Zj8 {X:Cx} {es:Vd Expr} {k:Vg} {t:TGs} {pos:MA} (n:Vg) (K:Ve) (hc:X.calm=true) (h:PGs X es t) (hK:X.K=K:=by rfl)
  (hn:(OJ es X.env).length=n:=by rfl) (hst:(OJ es X.env).findIdx? (·.1)=none:=by rfl):PG X (.Tuple es k pos) (Zny K n t):=by
 subst hK;intro pins s σ H v u Q I r hw;obtain⟨a,xs,e1,hq,hl,hw⟩:=hw;subst e1;cases r;obtain⟨its,rv,⟨o,m,ho,hc1,hd1,hs1⟩,hz⟩:=I.list hq;have ht:s.heap.IsList a its.toArray:=⟨o,ho,hc1,m,hs1⟩
 rw[assign_Tuple];refine Oa (O3 ?_);unfold unpack;rw[show(OJ es X.env).length=its.toArray.size by simp[hn,←hl,rv.length],hst];refine Oa (Om (PySem.W.kun_itemsOf (I.ok.hd hc) ht fun h' hx=>?_));have I1:Inv X pins σ H {s with heap:=h'}:=I.kept (t':=s.toks) fun b o e=>hx b o (QB (Qn e)) e;exact h pins _ σ H xs _ Q I1 (by simpa using rv) hw
end L2
namespace Sh
open PySem L2 PyProof.Rows
noncomputable def bg (x:Vl):Vl:=tx x.cps.toList.dropLast
noncomputable def en (x:Vl):Vl:=tx (x.cps.toList.drop 1)
abbrev Es:=Vd (Vl×Vs)
noncomputable def ind (p:Prop) [Ll p]:Vs:=if p then 1 else 0
noncomputable def mo1 (e:Vl×Vs) (P:Vl):Vs:=e.2*ind (bg e.1=P)-e.2*ind (en e.1=P)
noncomputable def mo (es:Es) (P:Vl):Vs:=(es.map fun e=>mo1 e P).sum
theorem Zkv (es) (e) (P):mo (es++[e]) P=mo es P+mo1 e P:=by
 unfold mo;simp
theorem Jb (e) (es:Es) (P):mo (e::es) P=mo1 e P+mo es P:=by
 rfl
theorem Za0:∀ {es} {P},(∀ e∈es,bg e.1≠P/\en e.1≠P)->mo es P=0
 | [],_,_=>rfl
 | e::es,P,h=>by
  rw[Jb,Za0 fun x hx=>h x (Qk _ hx)];obtain⟨h1,h2⟩:=h e Qj ..;unfold mo1 ind;rw[if_neg h1,if_neg h2];simp
noncomputable def tot (f:Vl->Vs) (ks:Vd Vl):Vs:=(ks.map f).sum
theorem Xb (f) (x) (ks):tot f (x::ks)=f x+tot f ks:=by
 rfl
theorem Zcs (f g):∀ ks,tot (fun x=>f x+g x) ks=tot f ks+tot g ks
 | []=>rfl
 | x::ks=>by
  rw[Xb,Xb,Xb,Zcs f g ks];lia
theorem Zcr (c) (y):∀ ks,ks.Nodup->tot (fun P=>c*ind (y=P)) ks=if y∈ks then c else 0
 | [],_=>rfl
 | x::ks,nd=>by
  have nd':=QU.mp nd;rw[Xb,Zcr c y ks nd'.2];unfold ind;by_cases e:y=x
  subst e;rw[Vf rfl,if_neg nd'.1,Vf Qj ..];lia;rw[if_neg e];have:y∈x::ks↔y∈ks:=by simp[e]
  simp only[this];lia
theorem Zdi:∀ ks,tot (fun _=>0) ks=0
 | []=>rfl
 | x::ks=>by rw[Xb,Zdi ks];rfl
theorem ZiK (nd:ks.Nodup):∀ {es},(∀ e∈es,bg e.1∈ks/\en e.1∈ks)->tot (mo es) ks=0
 | [],_=>Zdi ks
 | e::es,h=>by
  have e1:tot (mo (e::es)) ks=tot (fun P=>mo1 e P+mo es P) ks:=by
   rfl
  rw[e1,Zcs,ZiK nd fun x hx=>h x (Qk _ hx)];obtain⟨h1,h2⟩:=h e Qj ..;have e2:tot (mo1 e) ks=tot (fun P=>e.2*ind (bg e.1=P) + -e.2*ind (en e.1=P)) ks:=by
   unfold tot;congr 1;refine Q8 fun P _=>?_;unfold mo1;rw[Int.neg_mul];lia
  rw[e2,Zcs,Zcr _ _ _ nd,Zcr _ _ _ nd,Vf h1,Vf h2];lia
noncomputable def ups (f:Vl->Vs) (ss:Vd Vl):Es:=(ss.filter fun x=>decide (0<f x)).map fun x=>(x,f x)
noncomputable def sm (es:Es):Vs:=(es.map fun e=>e.2).sum
theorem Zdg (f) (x) (ss):sm (ups f (x::ss))=(if 0<f x then f x else 0)+sm (ups f ss):=by
 unfold sm ups;rw[Wf];by_cases c:0<f x
 rw[Vf c,Vf (by simpa using c)];simp;rw[if_neg c,if_neg (by simpa using c)];simp
theorem ZeW (f):∀ ss,sm (ups f ss)-sm (ups (fun x=>-f x) ss)=tot f ss
 | []=>rfl
 | x::ss=>by
  have ih:=ZeW f ss;rw[Zdg,Zdg,Xb];lia
noncomputable def pcs (z:Vd Vg) (L:Vg):Vd Vl:=(Qu (z.length-L+1)).map fun i=>tx ((z.drop i).take L)
noncomputable def Zct (ws ss:Vd Vl):Es:=ss.map fun x=>(x,(ws.count x:Vs))
theorem Zgl:∀ {ws ss:Vd Vl} (P:Vl),ss.Nodup->(∀ x∈ws,x∈ss)->mo (Zct ws ss) P=mo (ws.map fun x=>(x,1)) P
 | [],ss,P,_,_=>by
  have:∀ l:Vd Vl,mo (Zct [] l) P=0:=by
   intro l;induction l with
   | nil=>rfl
   | cons x l ih =>
    show mo ((x,(([]:Vd Vl).count x:Vs))::Zct [] l) P=0;rw[Jb,ih];unfold mo1;simp
  rw[this];rfl
 | w::ws,ss,P,nd,h=>by
  have hw:=h w (Qj ..);have ih:=Zgl (ws:=ws) P nd fun x hx=>h x (Qk _ hx);rw[QV,Jb,←ih];have key:∀ l:Vd Vl,l.Nodup->mo (Zct (w::ws) l) P=(if w∈l then mo1 (w,1) P else 0)+mo (Zct ws l) P:=by
   intro l;induction l with
   | nil=>intro _;rfl
   | cons x l ih2 =>
    intro ndl;have ndl':=QU.mp ndl;show mo ((x,((w::ws).count x:Vs))::Zct (w::ws) l) P=_+mo ((x,(ws.count x:Vs))::Zct ws l) P;rw[Jb,Jb,ih2 ndl'.2,Uo];by_cases e:w=x
    ·subst e;rw[if_neg ndl'.1,Vf (Qj ..),Vf (by simp)];unfold mo1;dsimp only;push_cast;rw[UN,UN,LH,LH];lia
    ·have h1:((w==x)=true)=False:=by simp[e]
     have h2:(w∈x::l)↔w∈l:=by simp[e]
     rw[if_neg (by simp[e])];simp only[h2,Rm];exact Da
  rw[key ss nd,Vf hw]
def Adj (es:Es) (P y:Vl):Prop:=∃ e∈es,(bg e.1=P/\en e.1=y)\/(en e.1=P/\bg e.1=y)
inductive Rch (es:Es) (a:Vl):Vl->Prop where
 | here:Rch es a a
 | step {P y:Vl} (h:Rch es a P) (k:Adj es P y):Rch es a y
theorem Rch.closed {F:Vl->Prop} (ha:F a) (hc:∀ P,F P->∀ y,Adj es P y->F y) (h:Rch es a y):F y:=by
 induction h with
 | here=>omega
 | step _ k ih=>grind
theorem ZiD:Adj (es++[e]) P y↔Adj es P y\/(bg e.1=P/\en e.1=y)\/(en e.1=P/\bg e.1=y):=by
 unfold Adj;simp
theorem YS (a:Vs) (h:0<n):0<=a % n/\a % n<n:=⟨Int.emod_nonneg _ (Dx h),Int.emod_lt_of_pos _ h⟩
theorem Zac (a b:Vl):(a++b).cps.toList=a.cps.toList++b.cps.toList:=by simp[Str.cps_append]
theorem ZS {a b:Vl} (h:a.cps.toList=b.cps.toList):a=b:=by rw[←tx_eta a,←tx_eta b,h]
theorem ZiJ (a b):tx a++tx b=tx (a++b):=by
 apply ZS;rw[Zac,Zr,Zr,Zr]
theorem ZgF:∀ l:Vd _,(NT "" (l.map tx))=tx l.flatten:=by
 have key:∀ l:Vd _,(NB "" (l.map tx)).cps.toList=l.flatten:=by
  intro l;induction l with
  | nil=>rfl
  | cons c r ih =>
   cases r with
   | nil=>simp[NB,tx]
   | cons d q =>
    have e:NB "" ((c::d::q).map tx)=tx c ++ "" ++ NB "" _:=rfl;have e2:("" : Vl).cps.toList=[]:=rfl;rw[e,Zac,Zac,ih,e2,WC];rfl
 intro l;apply ZS;have:NT "" _=NB "" (l.map tx):=StrLaws.glued_eq_join _ _;rw[this,key,Zr]
theorem Zb3:∀ l:Vd Vg,(l.map fun c=>[c]).flatten=l
 | []=>rfl
 | a::l=>by rw[QV,Rp,Zb3 l];rfl
theorem ZgE (l):NT "" (l.map fun c=>tx [c])=tx l:=by
 have h:=ZgF (l.map fun c=>[c]);rw[Q0,Zb3]at h;exact h
theorem ZbN:(("abcdefghijklmnopqrstuvwxyz" : Vl)).cps.toList=(Qu 26).map (· + 97):=by decide +kernel
theorem ZbO {i:Vs} (h0:0<=i) (h1:i<26):atI (("abcdefghijklmnopqrstuvwxyz" : Vl)).cps.toList i=some (i.toNat+97):=by
 refine JQ h0 ?_;rw[ZbN,Qi,QY (by lia)];rfl
theorem ZnD (xs) (h:xs.length<=63):Zjr xs none (some 63)=xs:=by
 have e1:HT.sIx xs.length 0 none=0:=rfl;have e2:HT.sIx xs.length xs.length (some 63)=xs.length:=by
  unfold HT.sIx;simp;lia
 unfold Zjr;rw[e1,e2];simp
theorem Zak:∀ (ys:Vd Vl) (m),(∀ y∈ys,y.length<=m)->(ys.map (·.length)).sum<=ys.length*m
 | [],m,_=>by simp
 | y::ys,m,h=>by
  have h1:=Zak ys m fun z hz=>h z (Qk _ hz);have h2:=h y Qj;rw[QV,Wb,QC,Nat.succ_mul];lia
theorem YW {i:Vg} {v:V} (h:xs[i]?=some v):atI xs i=some v:=Zhh h
theorem ZdL:1<=Of:=by decide
theorem Zl (h:n<=1000):n<=Of:=ZO (Ei h)
theorem ZeU {α:Type} {ns:Vd α} {f} (hl:vs.length=ns.length) (hr:∀ (i:Vg) (v:V),vs[i]?=some v->∀ c,ns[i]?=some c->v=f c):vs=ns.map f:=by
 apply QW;intro i;by_cases hi:i<vs.length
 have hi':i<ns.length:=Kc hl hi
 rw[Qa hi,hr i _ (Qa hi) _ (Qa hi'),Qi,Qa hi'];rfl;rw[Qp (Kf hi),Qp (by rw[Qd];exact Kg hl hi)]
theorem JT {α:Type} {ns:Vd α} {f:α->V} (hi):(ns.map f).getD i .non=f ns[i]:=by
 rw[Qb,Qi,Qa hi];rfl
theorem Zbo {α:Type} {ns:Vd α} {f} {i:Vg} {x:V} (hi:(ns.map f)[i]?=some x):∃ h,x=f ns[i]:=by
 have h:=by
  have:=(Ql.mp hi).1;rw[Qd]at this;omega
 simp_all
seal L2.PE L2.PS L2.PSs L2.PT L2.PW L2.PA L2.PI L2.PG L2.PGs L2.PO L2.PC L2.PCs L2.OpR L2.UnR L2.CallR L2.MtR L2.IxR L2.SlR
theorem Jr (g:Vl->V) (y):∀ ks:Vd Vl,XF (ks.map fun x=>((Vn x:Key),g x)) (Vn y)=if y∈ks then some (g y)else none
 | []=>rfl
 | x::ks=>by
  by_cases e:x=y
  subst e;rw[QV,Jj rfl,Vf Qj];rw[QV,Jk fun q=>e (Sum.inr.inj q),(Jr g y ks)];have:y∈x::ks↔y∈ks:=by
   rw[Qs];exact⟨fun h=>h.elim (fun q=>Vo q.symm e) id,.inr⟩
  simp[this]
theorem Zao (g:Vl->V) (y) (v) (ks:Vd Vl) (h:y∈ks):X8 (ks.map fun x=>((Vn x:Key),g x)) (Vn y) v=ks.map fun x=>((Vn x),if x=y then v else g x):=by
 unfold X8;rw[Jl,Jr,Vf h];simp only[UQ,ML,Q0];apply Q8;intro x _;by_cases e:x=y
 subst e;simp;have:¬ (Vn x:Key)=Vn y:=fun q=>e (Sum.inr.inj q);simp[this,e]
theorem Zal:∀ {l m:Vd (Vd Vg)},l.Pairwise (· < ·)->m.Pairwise (· < ·)->(∀ x,x∈l↔x∈m)->l=m
 | [],[],_,_,_=>rfl
 | [],y::m,_,_,h=>Vo ((h y).mpr Qj) (by simp)
 | x::l,[],_,_,h=>Vo ((h x).mp Qj) (by simp)
 | x::l,y::m,hl,hm,h=>by
  have h1:=Rn.mp hl;have h2:=Rn.mp hm;have e:x=y:=by
   rcases Qs.mp ((h x).mp Qj)with z | z
   omega;rcases Qs.mp ((h y).mpr Qj)with z2 | z2
   simp_all
   exact Vo (RG (h1.1 y z2) (h2.1 x z)) (Ue _)
  subst e;have ih:=Zal h1.2 h2.2 fun z=>by
   constructor;intro hz;rcases Qs.mp ((h z).mp (Qk _ hz))with q | q
   subst q;exact Vo (h1.1 z hz) (Ue _);omega;intro hz;rcases Qs.mp ((h z).mpr (Qk _ hz))with q | q
   subst q;exact Vo (h2.1 z hz) (Ue _);omega
  rw[ih]
noncomputable def gD (ks:Vd Vl) (g:Vl->Vs):Vd (Key×V):=ks.map fun x=>((Vn x:Key),V.int (g x))
theorem gD_len (ks) (g):(gD ks g).length=ks.length:=by unfold gD;simp
theorem gD_val (ks) (g) (y):XF (gD ks g) (Vn y)=if y∈ks then some (.int (g y))else none:=Jr _ y ks
theorem XU (h:∀ x∈ks,g x=g' x):gD ks g=gD ks g':=Q8 fun x m=>by rw[h x m]
theorem ZbX (ks) (g) (y) (n):X8 (gD ks g) (Vn y) (.int n)=gD (if y∈ks then ks else ks++[y]) fun x=>if x=y then n else g x:=by
 by_cases m:y∈ks
 rw[Vf m];unfold gD;rw[Zao _ _ _ _ m];apply Q8;intro x _;dsimp only;by_cases e:x=y
 rw[Vf e,Vf e];rw[if_neg e,if_neg e];rw[if_neg m,ZaT _ (by rw[gD_val,if_neg m])];unfold gD;rw[QJ,Wm];dsimp only;rw[Vf rfl];congr 1;apply Q8;intro x hx;have ne:¬ x=y:=by
  grind
 rw[if_neg ne]
end Sh
namespace Tim
open PySem PySem.W PyProof.Rows
section
variable {M:Model} {A:VA} {E:Vi->Vh->Prop} {σ:Type}
theorem Z1 {m:V6 σ MT α} {Q Q'} {st} (h:kasC M A E m Q st s) (hq:∀ a st' s',Q a st' s'->Q' a st' s'):kasC M A E m Q' st s :=
 Oo h (fun r s' h'=>hq _ _ _ h') fun _ _ e=>e
theorem ZgB {β} {f:Vg->β->V6 σ MT (VT β)} {Q:β->σ->Vh->Prop} (I:Vg->β->σ->Vh->Prop) (b)
  (step:∀ i c st s,i<b->I i c st s->kasC M A E (f i c) (fun r st' s'=>match r with | .done c'=>Q c' st' s' | .yield c'=>I (i+1) c' st' s') st s)
  (fin:∀ c st s,I b c st s->Q c st s):∀ (n i) (c) (st) (s),i+n=b->I i c st s->kasC M A E (forIn (UO i n) c f) Q st s
 | 0,i,c,st,s,e,h=>by
  refine kasC_nil (fin c st s ?_)
  simp_all
 | n+1,i,c,st,s,e,h=>by
  refine kasC_cons (Z1 (step i c st s (by omega) h) fun r st' s' h'=>?_);cases r with
  | done c'=>omega
  | yield c'=>exact ZgB I b step fin n _ c' st' s' (by omega) h'
theorem Yh {f} {Q} {st} (I:Vg->β->σ->Vh->Prop) (h:I a c st s)
  (step:∀ i c st s,i<max a b->I i c st s->kasC M A E (f i c) (fun r st' s'=>match r with | .done c'=>Q c' st' s' | .yield c'=>I (i+1) c' st' s') st s)
  (fin:∀ c st s,I (max a b) c st s->Q c st s):kasC M A E (forIn [a:b] c f) Q st s :=
 kasC_range (ZgB I _ step fin _ a c st s (by lia) h)
end
section
variable {prog:Oh} {w:Oi} {A:VA} {E:Vi->Vh->Prop}
structure Jq (prog:Oh) (w:Oi) (A:VA) (κ:OW) (ϕ:Oe->Vg) (U:Oe->Prop) (G:Vh->Prop):Prop where
 ask:∀ (x y:Oe) (C:V0->Vh->Prop) (s:Vh),U x->U y->G s->(∀ s',G s'->C (decide (ϕ x<ϕ y)) s')->Og (Oc prog w) A (keyLt' κ x.1 y.1) C (fun _ _=>False) s
variable {κ:OW} {ϕ:Oe->Vg} {U:Oe->Prop} {G:Vh->Prop}
theorem ZgA (R:Jq prog w A κ ϕ U G) {st:Vv} (hk:VE st=κ) (hx:U x) (hy:U y) (g:G s) (h:∀ s',G s'->Q (some (decide (ϕ x<ϕ y))) st s') :
  kasC (Oc prog w) A E (lt' x y) Q st s:=by
 rw[lt'_eq];refine kasC_bind (kasC_get ?_);rw[hk];refine kasC_bind (kasC_lift (OH (Oo (R.ask x y (fun c s'=>Q (some c) st s') s hx hy g h) (fun c s' hc=>?_) fun _ _ hF=>hF.elim)));exact kasC_pure hc
theorem ZH {st} (hx:xs[i]?=some x) (h:Q x st s):kasC (Oc prog w) A E (OK xs i) Q st s:=by
 rw[elem'_eq,hx];exact kasC_pure h
noncomputable def fx (ϕ:Oe->Vg) (xs:Vm Oe) (i:Vg):Vg:=match xs[i]? with
 | some p=>ϕ p
 | none=>0
theorem ZbZ (h:xs[i]?=some x):fx ϕ xs i=ϕ x:=by unfold fx;rw[h]
theorem YA (h:xs[i]?=ys[j]?):fx ϕ xs i=fx ϕ ys j:=by unfold fx;rw[h]
def Al (U:Oe->Prop) (xs:Vm Oe):Prop:=∀ (i:Vg) x,xs[i]?=some x->U x
theorem Al.perm (h:Al U xs) (p:ys.Perm xs):Al U ys:=fun i x e=>by
 have:=p.mem_iff.mp (Array.mem_of_getElem? e);obtain⟨j,hj,e2⟩:=Array.getElem_of_mem this;exact h j x (by simp_all)
noncomputable def Za8:V0->Oe->Vm Oe->Vg->Vg->Vg->V6 Vv MT (Vj Vg):=sortPriv% PySem.Builtin.gallop
noncomputable def Zk4 (lf:V0) (ky:Oe) (ar:Vm Oe) (bs:Vg) (i:Vg):V6 Vv MT (Vj V0):=do
 let el ←OK ar (bs+i)
 if lf then lt' el ky else return (←lt' ky el).map (!·)
theorem Zir (lf) (ky) (ar) (bs n ht):Za8 lf ky ar bs n ht=(do
 let mut u:=0
 let mut v:=1
 let mut p:=0
 let mut q:=0
 let some rt ←Zk4 lf ky ar bs ht | return none
 if rt then
  let mx:=n-ht
  for _ in [0:n] do
   if v≥mx then break
   let some mo ←Zk4 lf ky ar bs (ht+v) | return none
   if !mo then break
   u:=v
   v:=2*v+1
  p:=ht+u+1
  q:=ht+min v mx
 else
  let mx:=ht+1
  for _ in [0:n] do
   if v≥mx then break
   let some fo ←Zk4 lf ky ar bs (ht-v) | return none
   if fo then break
   u:=v
   v:=2*v+1
  p:=ht+1-min v mx
  q:=ht-u
 for _ in [0:n] do
  if p≥q then break
  let m:=p+(q-p) / 2
  let some mo ←Zk4 lf ky ar bs m | return none
  if mo then p:=m+1 else q:=m
 return some q):=rfl
noncomputable def YY (ϕ:Oe->Vg) (lf:V0) (k:Vg) (ar:Vm Oe) (bs i:Vg):V0:=if lf then decide (fx ϕ ar (bs+i)<k)else !decide (k<fx ϕ ar (bs+i))
theorem ZdY (R:Jq prog w A κ ϕ U G) {st:Vv} (hk:VE st=κ) (hu:U ky) (ha:Al U ar) (hi:bs+i<ar.size) (g:G s)
  (h:∀ s',G s'->Q (some (YY ϕ lf (ϕ ky) ar bs i)) st s'):kasC (Oc prog w) A E (Zk4 lf ky ar bs i) Q st s:=by
 have e:=QR hi;refine kasC_bind (ZH e ?_);unfold YY at h;rw[ZbZ e]at h;cases lf with
 | true =>
  exact ZgA R hk (ha _ _ e) hu g fun s' g'=>by simp_all
 | false =>
  refine kasC_bind (ZgA R hk hu (ha _ _ e) g fun s' g'=>kasC_pure ?_);simpa using h s' g'
theorem Zax (R:Jq prog w A κ ϕ U G) {st:Vv} (hk:VE st=κ) (hu:U ky) (ha:Al U ar) (hn:bs+n<=ar.size)
  (mo:∀ i j,i<=j->j<n->YY ϕ lf (ϕ ky) ar bs j=true->YY ϕ lf (ϕ ky) ar bs i=true) (g:G s) (hpq:p0<=q0) (hq:q0<=n) (h1:∀ i,i<p0->YY ϕ lf (ϕ ky) ar bs i=true) (h2:∀ i,q0<=i->i<n->YY ϕ lf (ϕ ky) ar bs i=false)
  (h:∀ q s',q<=n->(∀ i,i<q->YY ϕ lf (ϕ ky) ar bs i=true)->(∀ i,q<=i->i<n->YY ϕ lf (ϕ ky) ar bs i=false)->G s'->Q (some q) st s'):kasC (Oc prog w) A E (do
   let mut p:=p0
   let mut q:=q0
   for _ in [0:n] do
    if p≥q then break
    let m:=p+(q-p) / 2
    let some mo ←Zk4 lf ky ar bs m | return none
    if mo then p:=m+1 else q:=m
   return some q) Q st s:=by
 refine kasC_bind (Yh (fun t c st' s'=>∃ p q,c=(none,p,q)/\st'=st/\G s'/\p<=q/\q<=n/\(∀ i,i<p->YY ϕ lf _ ar bs i=true)/\(∀ i,q<=i->i<n->YY ϕ lf _ ar bs i=false)/\q-p<=n-t) ⟨p0,q0,rfl,rfl,g,hpq,hq,h1,h2,by lia⟩ ?_ ?_);rintro t c st' s' ht ⟨p,q,rfl,rfl,g',a1,a2,a3,a4,a5⟩;dsimp only;by_cases c:p≥q
 ·rw[Vf c];have e:p=q:=Sx a1 c
  subst e;exact kasC_pure (kasC_pure (h p s' a2 a3 a4 g'))
 ·rw[if_neg c];refine kasC_bind (ZdY R hk hu ha (by omega) g' fun s2 g2=>?_);dsimp only;by_cases cm:YY ϕ lf (ϕ ky) ar bs (p+(q-p) / 2)=true
  ·rw[Vf cm];exact kasC_pure ⟨_,q,rfl,rfl,g2,by omega,a2,fun i hi=>mo i _ (Eo hi) (by omega) cm,a4,by omega⟩
  ·rw[if_neg cm];refine kasC_pure ⟨p,_,rfl,rfl,g2,Ka,by omega,a3,fun i hi1 hi2=>?_,by omega⟩;cases z:YY ϕ lf _ ar bs i with
   | false=>rfl
   | true=>exact Vo (mo _ i hi1 hi2 z) cm
 rintro c st' s' ⟨p,q,rfl,rfl,g',a1,a2,a3,a4,a5⟩;have e:p=q:=Ep a1 a5
 subst e;exact kasC_pure (h p s' a2 a3 a4 g')
theorem ZkN (R:Jq prog w A κ ϕ U G) {st:Vv} (hk:VE st=κ) (hu:U ky) (ha:Al U ar) (hn:bs+n<=ar.size) (hh:ht<n)
  (mo:∀ i j,i<=j->j<n->YY ϕ lf (ϕ ky) ar bs j=true->YY ϕ lf (ϕ ky) ar bs i=true) (g:G s)
  (h:∀ q s',q<=n->(∀ i,i<q->YY ϕ lf (ϕ ky) ar bs i=true)->(∀ i,q<=i->i<n->YY ϕ lf (ϕ ky) ar bs i=false)->G s'->Q (some q) st s'):kasC (Oc prog w) A E (Za8 lf ky ar bs n ht) Q st s:=by
 have mo':∀ i j,i<=j->j<n->YY ϕ lf (ϕ ky) ar bs i=false->YY ϕ lf (ϕ ky) ar bs j=false:=fun i j h1 h2 e=>by
  grind
 rw[Zir];refine kasC_bind (ZdY R hk hu ha (Eb hn hh) g fun s1 g1=>?_);dsimp only;by_cases c:YY ϕ lf (ϕ ky) ar bs ht=true
 ·rw[Vf c];have go:∀ u v s',G s'->ht+u<n->u<v->YY ϕ lf (ϕ ky) ar bs (ht+u)=true->(n-ht<=v\/YY ϕ lf (ϕ ky) ar bs (ht+v)=false)->ht+u+1<=ht+min v (n-ht)/\ht+min v (n-ht)<=n/\(∀ i,i<ht+u+1->YY ϕ lf (ϕ ky) ar bs i=true)/\∀ i,ht+min v (n-ht)<=i->i<n->YY ϕ lf (ϕ ky) ar bs i=false:=fun u v s' g' a1 a2 a3 a4=>by
   refine⟨by lia,by omega,fun i hi=>mo i _ (Eo hi) a1 a3,fun i h1 h2=>?_⟩;rcases a4 with z | z
   ·omega
   grind
  refine kasC_bind (Yh (fun t c st' s'=>∃ u v,c=(none,u,v)/\st'=st/\G s'/\ht+u<n/\u<v/\YY ϕ lf (ϕ ky) ar bs (ht+u)=true/\t+1<=v) ⟨0,1,rfl,rfl,g1,by omega,Ks,by omega,Fc⟩ ?_ ?_)
  ·rintro t c st' s' ht' ⟨u,v,rfl,rfl,g',a1,a2,a3,a4⟩;dsimp only;by_cases c1:v≥n-ht
   ·rw[Vf c1];obtain⟨b1,b2,b3,b4⟩:=go u v s' g' a1 a2 a3 (.inl c1);exact kasC_pure (Zax R hk hu ha hn mo g' b1 b2 b3 b4 h)
   ·rw[if_neg c1];refine kasC_bind (ZdY R hk hu ha (by omega) g' fun s2 g2=>?_);dsimp only;by_cases cm:YY ϕ lf (ϕ ky) ar bs (ht+v)=true
    ·rw[if_neg (by rw[cm];decide)];exact kasC_pure ⟨v,2*v+1,rfl,rfl,g2,by omega,Fd,cm,Fe a4⟩
    ·have cf:YY ϕ lf (ϕ ky) ar bs (ht+v)=false:=by simp_all
     rw[Vf (by rw[cf];decide)];obtain⟨b1,b2,b3,b4⟩:=go u v s' g' a1 a2 a3 (.inr cf);exact kasC_pure (Zax R hk hu ha hn mo g2 b1 b2 b3 b4 h)
  ·rintro c st' s' ⟨u,v,rfl,rfl,g',a1,a2,a3,a4⟩;obtain⟨b1,b2,b3,b4⟩:=go u v s' g' a1 a2 a3 (.inl (by omega));exact Zax R hk hu ha hn mo g' b1 b2 b3 b4 h
 ·have cf:YY ϕ lf (ϕ ky) ar bs ht=false:=by simpa using c
  rw[if_neg c];have go:∀ u v,u<=ht->u<v->YY ϕ lf (ϕ ky) ar bs (ht-u)=false->(ht+1<=v\/YY ϕ lf (ϕ ky) ar bs (ht-v)=true)->ht+1-min v (ht+1)<=ht-u/\ht-u<=n/\(∀ i,i<ht+1-min v (ht+1)->YY ϕ lf (ϕ ky) ar bs i=true)/\∀ i,ht-u<=i->i<n->YY ϕ lf (ϕ ky) ar bs i=false:=fun u v a1 a2 a3 a4=>by
   refine⟨by omega,by omega,fun i hi=>?_,fun i h1 h2=>mo' _ i h1 h2 a3⟩;rcases a4 with z | z
   ·omega
   ·exact mo i (ht-v) (by omega) (Bc hh) z
  refine kasC_bind (Yh (fun t c st' s'=>∃ u v,c=(none,u,v)/\st'=st/\G s'/\u<=ht/\u<v/\YY ϕ lf (ϕ ky) ar bs (ht-u)=false/\t+1<=v) ⟨0,1,rfl,rfl,g1,Ko,Ks,cf,Fc⟩ ?_ ?_)
  ·rintro t c st' s' ht' ⟨u,v,rfl,rfl,g',a1,a2,a3,a4⟩;dsimp only;by_cases c1:v≥ht+1
   ·rw[Vf c1];obtain⟨b1,b2,b3,b4⟩:=go u v a1 a2 a3 (.inl c1);exact kasC_pure (Zax R hk hu ha hn mo g' b1 b2 b3 b4 h)
   ·rw[if_neg c1];refine kasC_bind (ZdY R hk hu ha (by omega) g' fun s2 g2=>?_);dsimp only;by_cases cm:YY ϕ lf (ϕ ky) ar bs (ht-v)=true
    ·rw[Vf cm];obtain⟨b1,b2,b3,b4⟩:=go u v a1 a2 a3 (.inr cm);exact kasC_pure (Zax R hk hu ha hn mo g2 b1 b2 b3 b4 h)
    ·have cf2:YY ϕ lf (ϕ ky) ar bs (ht-v)=false:=by simpa using cm
     rw[if_neg cm];exact kasC_pure ⟨v,2*v+1,rfl,rfl,g2,by lia,Fd,cf2,Fe a4⟩
  ·rintro c st' s' ⟨u,v,rfl,rfl,g',a1,a2,a3,a4⟩;obtain⟨b1,b2,b3,b4⟩:=go u v a1 a2 a3 (.inl (by lia));exact Zax R hk hu ha hn mo g' b1 b2 b3 b4 h
end
abbrev Up (ϕ:Oe->Vg) (l:Vd Oe):Prop:=l.Pairwise fun x y=>ϕ x<=ϕ y
structure Lo (ϕ:Oe->Vg) (T o X Y:Vd Oe):Prop where
 px:Up ϕ (o++X)
 py:Up ϕ (o++Y)
 pm:(o++X++Y).Perm T
section
variable {ϕ:Oe->Vg} {T o X Y x y:Vd Oe}
theorem Lo.goX (h:Lo ϕ T o (x++X) Y) (hx:∀ u∈x,∀ v∈Y,ϕ u<=ϕ v):Lo ϕ T (o++x) X Y:=by
 obtain⟨h1,h2,h3⟩:=h;refine⟨by rw[QH];omega,?_,by rw[QH o x X];omega⟩;unfold Up at *;rw[QS]at h1 h2 ⊢;rw[QS]at h1;rw[QS];refine⟨⟨h1.1,h1.2.1.1,fun a ha b hb=>h1.2.2 a ha b (QI _ hb)⟩,h2.2.1,fun a ha b hb=>?_⟩;rcases QD.mp ha with z | z
 simp_all
 simp_all
theorem Lo.swap (h:Lo ϕ T o X Y):Lo ϕ T o Y X:=⟨h.py,h.px,by
 rw[QH];exact((Uf.append_left o).trans (by simp)).trans h.pm⟩
theorem Lo.goY (h:Lo ϕ T o X (y++Y)) (hy:∀ u∈y,∀ v∈X,ϕ u<=ϕ v):Lo ϕ T (o++y) X Y:=(h.swap.goX hy).swap
theorem Lo.len (h:Lo ϕ T o X Y):o.length+X.length+Y.length=T.length:=by
 have:=h.pm.length_eq;simp[Qh]at this;lia
end
theorem at_ {a:Vm Oe} (h:i<a.size):∃ x,a[i]?=some x/\a.toList.drop i=x::a.toList.drop (i+1) :=
 ⟨_,QR h,by rw[List.drop_eq_getElem_cons (by omega)];simp⟩
theorem Zi1 (o:Vm Oe) (x):(o.push x).toList=o.toList++[x]:=by simp
theorem Ziy (o:Vm Oe) (i k):(o.extract i (i+k)).toList=(o.toList.drop i).take k:=by
 simp
theorem Zbc (o:Vm Oe) (i):(o.extract i o.size).toList=o.toList.drop i:=by
 rw[Array.toList_extract];exact QZ (by simp)
theorem ZeM (o p:Vm Oe):(o++p).toList=o.toList++p.toList:=by simp
theorem Jo (l:Vd Oe) (i k):l.drop i=(l.drop i).take k++l.drop (i+k):=by
 rw[←Ug,Wd]
def Sim (st st':Vv):Prop:=VE st'=VE st/\Od st'=Od st/\Oq st'=Oq st/\OI st'=OI st
theorem Sim.refl (st):Sim st st:=⟨rfl,rfl,rfl,rfl⟩
theorem Sim.trans (h:Sim a b) (k:Sim b c):Sim a c:=⟨k.1.trans h.1,k.2.1.trans h.2.1,k.2.2.1.trans h.2.2.1,k.2.2.2.trans h.2.2.2⟩
noncomputable def Zfm:Vg->V6 Vv MT VB:=sortPriv% PySem.Builtin.setMinGallop
section
variable {prog:Oh} {w:Oi} {A:VA} {E:Vi->Vh->Prop} {κ:OW} {ϕ:Oe->Vg} {U:Oe->Prop} {G:Vh->Prop}
theorem Za6 {st} (h:∀ st',Sim st st'->Q () st' s):kasC (Oc prog w) A E (Zfm n) Q st s:=kasC_modify (h _ ⟨rfl,rfl,rfl,rfl⟩)
theorem Jc {st:Vv} (h:Q () st s):kasC (Oc prog w) A E (liftM (rule n)) Q st s :=
 kasC_lift (Gp h)
theorem Zjm (h:u∈(a.toList.drop bs).take k):∃ t,t<k/\bs+t<a.size/\fx ϕ a (bs+t)=ϕ u:=by
 obtain⟨t,ht,e⟩:=WE h;have ht1:t<k:=by rw[QE]at ht;omega
 have ht2:bs+t<a.size:=by rw[QE,Wa,Qw]at ht;omega
 refine⟨t,ht1,ht2,?_⟩;have e2:a[bs+t]?=some u:=by
  simp_all
 exact ZbZ e2
def UpTo (ϕ:Oe->Vg) (a:Vm Oe) (p q:Vg):Prop:=∀ i j,p<=i->i<=j->j<q->fx ϕ a i<=fx ϕ a j
theorem UpTo.of (h:Up ϕ a.toList):UpTo ϕ a 0 a.size:=fun i j _ hij hj=>by
 have e1:a[i]?=some a[i]:=QR _;rw[ZbZ e1,ZbZ (QR hj)];rcases Wn i j with c | c
 have:=Q9.mp h i j (by simpa using (Sw hj c)) (by omega) c
 simp_all
 have:i=j:=Sx hij c
 subst this;exact Sy
theorem UpTo.sub (h:UpTo ϕ a p q) (h1:p<=p') (h2:q'<=q):UpTo ϕ a p' q':=fun i j a1 a2 a3=>h i j (Km a1 h1) a2 (Dh h2 a3)
theorem Zaw (R:Jq prog w A κ ϕ U G) {st:Vv} (hk:VE st=κ) (hu:U ky) (ha:Al U ar) (hn:bs+n<=ar.size) (hh:ht<n)
  (up:UpTo ϕ ar bs (bs+n)) (g:G s)
  (h:∀ q s',q<=n->(∀ u∈(ar.toList.drop bs).take q,ϕ u<=ϕ ky)->(∀ u∈(ar.toList.drop (bs+q)).take (n-q),ϕ ky<=ϕ u)->G s'->Q (some q) st s'):kasC (Oc prog w) A E (Za8 lf ky ar bs n ht) Q st s:=by
 refine ZkN R hk hu ha hn hh (fun i j hij hj=>?_) g fun q s' hq h1 h2 g'=>h q s' hq (fun u hu=>?_) (fun u hu=>?_) g';have:=up (bs+i) (bs+j) Ka (Bx hij) (by lia);unfold YY;cases lf with
 | true=>simp;omega
 | false=>simp;omega
 obtain⟨t,b1,b2,b3⟩:=Zjm (ϕ:=ϕ) hu;have:=h1 t b1;unfold YY at this;cases lf with
 | true=>simp at this;exact Et this b3
 | false=>simp at this;exact Kd this b3
 obtain⟨t,b1,b2,b3⟩:=Zjm (ϕ:=ϕ) hu;have:=h2 (q+t) Ka (by lia);unfold YY at this;rw[←Rg]at this;cases lf with
 | true=>simp at this;omega
 | false=>simp at this;omega
end
noncomputable def Zkw:Vm Oe->Vm Oe->V6 Vv MT (Vm Oe):=sortPriv% PySem.Builtin.mergeLo
noncomputable def JY (a b o:Vm Oe) (i j:Vg):Vm Oe:=o++a.extract i a.size++b.extract j b.size
noncomputable def JM (a b o:Vm Oe) (i j:Vg):Vm Oe:=o++b.extract j b.size++a.extract i a.size
noncomputable def loE (a b o:Vm Oe) (i j mg k k1:Vg):V6 Vv MT (VT (Vj (Vm Oe)×Vm Oe×Vg×Vg×Vg×Vg×Vg)):=do
 let x ←OK a i
 if i+1+1==a.size then pure (.done (some (JM a b (o.push x) (i+1) j),o.push x,i+1,j,mg,k,k1))
 else if k<7&&k1<7 then pure (.done (none,o.push x,i+1,j,mg,k,k1))
 else pure (.yield (none,o.push x,i+1,j,mg,k,k1))
noncomputable def loD (a b o:Vm Oe) (i j mg k bc:Vg):V6 Vv MT (VT (Vj (Vm Oe)×Vm Oe×Vg×Vg×Vg×Vg×Vg)):=do
 let y ←OK b j
 if j+1==b.size then pure (.done (some (JY a b (o.push y) i (j+1)),o.push y,i,j+1,mg,k,bc))
 else do
  let x ←OK a i
  let some k1 ←Za8 true x b (j+1) (b.size-(j+1)) 0 | pure (.done (some (JY a b (o.push y) i (j+1)),o.push y,i,j+1,mg,k,bc))
  if k1>0 then
   if j+1+k1==b.size then pure (.done (some (JY a b (o.push y++b.extract (j+1) (j+1+k1)) i (j+1+k1)),o.push y++b.extract (j+1) (j+1+k1),i,j+1+k1,mg,k,k1))
   else loE a b (o.push y++b.extract (j+1) (j+1+k1)) i (j+1+k1) mg k k1
  else loE a b (o.push y) i (j+1) mg k k1
noncomputable def loC (a b o:Vm Oe) (i j mg ac bc:Vg):V6 Vv MT (VT (Vj (Vm Oe)×Vm Oe×Vg×Vg×Vg×Vg×Vg)):=do
 Zfm mg
 let y ←OK b j
 let some k ←Za8 false y a i (a.size-i) 0 | pure (.done (some (JY a b o i j),o,i,j,mg,ac,bc))
 if k>0 then
  if i+k+1==a.size then pure (.done (some (JM a b (o++a.extract i (i+k)) (i+k) j),o++a.extract i (i+k),i+k,j,mg,k,bc))
  else if i+k==a.size then pure (.done (some (JY a b (o++a.extract i (i+k)) (i+k) j),o++a.extract i (i+k),i+k,j,mg,k,bc))
  else loD a b (o++a.extract i (i+k)) (i+k) j mg k bc
 else loD a b o i j mg k bc
noncomputable def loB (a b:Vm Oe) (c:(Vj (Vm Oe)×Vm Oe×Vg×Vg×Vg×Vg×Vg)):V6 Vv MT (VT (Vj (Vm Oe)×Vm Oe×Vg×Vg×Vg×Vg×Vg)) :=
 if c.2.2.2.2.1>1 then loC a b c.2.1 c.2.2.1 c.2.2.2.1 (c.2.2.2.2.1-1) c.2.2.2.2.2.1 c.2.2.2.2.2.2
 else loC a b c.2.1 c.2.2.1 c.2.2.2.1 c.2.2.2.2.1 c.2.2.2.2.2.1 c.2.2.2.2.2.2
noncomputable def loM (a b:Vm Oe) (mg:Vg) (c:(Vj (Vm Oe)×Vm Oe×Vg×Vg×Vg×Vg)):V6 Vv MT (VT (Vj (Vm Oe)×Vm Oe×Vg×Vg×Vg×Vg)):=do
 let y ←OK b c.2.2.2.1
 let x ←OK a c.2.2.1
 let some bw ←lt' y x | pure (.done (some (JY a b c.2.1 c.2.2.1 c.2.2.2.1),c.2.1,c.2.2.1,c.2.2.2.1,c.2.2.2.2.1,c.2.2.2.2.2))
 if bw then do
  let y ←OK b c.2.2.2.1
  if c.2.2.2.1+1==b.size then pure (.done (some (JY a b (c.2.1.push y) c.2.2.1 (c.2.2.2.1+1)),c.2.1.push y,c.2.2.1,c.2.2.2.1+1,0,c.2.2.2.2.2+1))
  else if c.2.2.2.2.2+1≥mg then pure (.done (none,c.2.1.push y,c.2.2.1,c.2.2.2.1+1,0,c.2.2.2.2.2+1))
  else pure (.yield (none,c.2.1.push y,c.2.2.1,c.2.2.2.1+1,0,c.2.2.2.2.2+1))
 else do
  let x ←OK a c.2.2.1
  if c.2.2.1+1+1==a.size then pure (.done (some (JM a b (c.2.1.push x) (c.2.2.1+1) c.2.2.2.1),c.2.1.push x,c.2.2.1+1,c.2.2.2.1,c.2.2.2.2.1+1,0))
  else if c.2.2.2.2.1+1≥mg then pure (.done (none,c.2.1.push x,c.2.2.1+1,c.2.2.2.1,c.2.2.2.2.1+1,0))
  else pure (.yield (none,c.2.1.push x,c.2.2.1+1,c.2.2.2.1,c.2.2.2.2.1+1,0))
noncomputable def loO (a b:Vm Oe) (c:(Vj (Vm Oe)×Vm Oe×Vg×Vg×Vg)):V6 Vv MT (VT (Vj (Vm Oe)×Vm Oe×Vg×Vg×Vg)):=do
 let d ←forIn [0:a.size+b.size] ((none,c.2.1,c.2.2.1,c.2.2.2.1,0,0):(Vj (Vm Oe)×Vm Oe×Vg×Vg×Vg×Vg)) fun _=>loM a b c.2.2.2.2
 V9 (motive:=fun _=>V6 Vv MT (VT (Vj (Vm Oe)×Vm Oe×Vg×Vg×Vg))) d.1 (fun r=>pure (.done (some r,d.2.1,d.2.2.1,d.2.2.2.1,c.2.2.2.2))) fun _=>do
  rule "list.sort.gallop"
  let e ←forIn [0:a.size+b.size] ((none,d.2.1,d.2.2.1,d.2.2.2.1,c.2.2.2.2+1,d.2.2.2.2.1,d.2.2.2.2.2):(Vj (Vm Oe)×Vm Oe×Vg×Vg×Vg×Vg×Vg)) fun _=>loB a b
  V9 (motive:=fun _=>V6 Vv MT (VT (Vj (Vm Oe)×Vm Oe×Vg×Vg×Vg))) e.1 (fun r=>pure (.done (some r,e.2.1,e.2.2.1,e.2.2.2.1,e.2.2.2.2.1))) fun _=>do
   Zfm (e.2.2.2.2.1+1)
   pure (.yield (none,e.2.1,e.2.2.1,e.2.2.2.1,e.2.2.2.2.1+1))
theorem Zh9 (a b):Zkw a b=(do
 rule "list.sort.merge-lo"
 let y ←OK b 0
 if 1==b.size then pure (JY a b #[y] 0 1)
 else if 0+1==a.size then pure (JM a b #[y] 0 1)
 else do
  let z ←get
  let c ←forIn [0:a.size+b.size] ((none,#[y],0,1,gallopOf z)) fun _=>loO a b
  V9 (motive:=fun _=>V6 Vv MT _) c.1 (fun r=>pure r) fun _=>unsupported "internal:list.sort.merge-bound"):=rfl
section
variable {prog:Oh} {w:Oi} {A:VA} {E:Vi->Vh->Prop} {κ:OW} {ϕ:Oe->Vg} {U:Oe->Prop} {G:Vh->Prop}
theorem Ju (h:Up ϕ (x::l)):∀ v∈x::l,ϕ x<=ϕ v:=fun v hv=>by
 rcases Qs.mp hv with e | e
 simp_all
 simp_all
theorem Lo.hx (h:Lo ϕ T o X Y):Up ϕ X:=(QS.mp h.px).2.1
theorem Lo.hy (h:Lo ϕ T o X Y):Up ϕ Y:=(QS.mp h.py).2.1
def LoI (ϕ:Oe->Vg) (a b o:Vm Oe) (i j:Vg):Prop:=Lo ϕ (a.toList++b.toList) o.toList (a.toList.drop i) (b.toList.drop j)
def Ok (ϕ:Oe->Vg) (a b r:Vm Oe):Prop:=Up ϕ r.toList/\r.toList.Perm (a.toList++b.toList)
theorem LoI.end1 (h:LoI ϕ a b o i j) (e:i=a.size\/j=b.size):Ok ϕ a b (JY a b o i j):=by
 have t:(JY a b o i j).toList=o.toList++a.toList.drop i++b.toList.drop j:=by
  unfold JY;rw[ZeM,ZeM,Zbc,Zbc]
 unfold Ok;rw[t];refine⟨?_,h.pm⟩;rcases e with e | e
 have:a.toList.drop i=[]:=by rw[e];simp
 rw[this,WC];exact h.py;have:b.toList.drop j=[]:=by rw[e];simp
 rw[this,WC];exact h.px
theorem LoI.end2 (h:LoI ϕ a b o i j) (e:i+1=a.size) (hl:∀ x,a[a.size-1]?=some x->∀ y∈b.toList,ϕ y<=ϕ x):Ok ϕ a b (JM a b o i j):=by
 have t:(JM a b o i j).toList=o.toList++b.toList.drop j++a.toList.drop i:=by
  unfold JM;rw[ZeM,ZeM,Zbc,Zbc]
 unfold Ok;rw[t];obtain⟨x,hx,hd⟩:=at_ (show i<a.size by lia);have hn:a.toList.drop (i+1)=[]:=by rw[e];simp
 rw[hn]at hd;have h':Lo ϕ (a.toList++b.toList) o.toList (a.toList.drop i) (b.toList.drop j++[]):=by rw[WC];exact h
 have:=h'.goY fun u hu v hv=>by
  rw[hd]at hv;exact hl v (by grind) u (WM hu)
 exact⟨this.px,by have:=this.pm;rw[WC]at this;omega⟩
theorem LoI.push1 (h:LoI ϕ a b o i j) (e:a.toList.drop i=x::a.toList.drop (i+1)) (hx:∀ v∈b.toList.drop j,ϕ x<=ϕ v):LoI ϕ a b (o.push x) (i+1) j:=by
 unfold LoI at h ⊢;rw[e]at h;rw[Zi1];exact Lo.goX h fun u hu v hv=>by simp_all
theorem LoI.push2 (h:LoI ϕ a b o i j) (e:b.toList.drop j=x::b.toList.drop (j+1)) (hx:∀ v∈a.toList.drop i,ϕ x<=ϕ v):LoI ϕ a b (o.push x) i (j+1):=by
 unfold LoI at h ⊢;rw[e]at h;rw[Zi1];exact Lo.goY h fun u hu v hv=>by simp_all
theorem LoI.app1 (h:LoI ϕ a b o i j) (hx:∀ u∈(a.toList.drop i).take k,∀ v∈b.toList.drop j,ϕ u<=ϕ v):LoI ϕ a b (o++a.extract i (i+k)) (i+k) j:=by
 unfold LoI at h ⊢;rw[Jo _ i k]at h;rw[ZeM,Ziy];exact h.goX hx
theorem LoI.app2 (h:LoI ϕ a b o i j) (hx:∀ u∈(b.toList.drop j).take k,∀ v∈a.toList.drop i,ϕ u<=ϕ v):LoI ϕ a b (o++b.extract j (j+k)) i (j+k):=by
 unfold LoI at h ⊢;rw[Jo _ j k]at h;rw[ZeM,Ziy];exact h.goY hx
theorem LoI.size (h:LoI ϕ a b o i j) (hi:i<=a.size) (hj:j<=b.size):o.size+(a.size-i)+(b.size-j)=a.size+b.size:=by
 have:=h.len
 simp_all
def LoX (ϕ:Oe->Vg) (G:Vh->Prop) (a b:Vm Oe) (st:Vv) (q:Vj (Vm Oe)) (st':Vv) (s':Vh):Prop:=∃ r,q=some r/\Sim st st'/\G s'/\Ok ϕ a b r
def LoY (ϕ:Oe->Vg) (G:Vh->Prop) (a b:Vm Oe) (st:Vv) (t:Vg) (c:(Vj (Vm Oe)×Vm Oe×Vg×Vg×Vg×Vg×Vg)) (st':Vv) (s':Vh):Prop :=
 ∃ o i j mg ac bc,c=(none,o,i,j,mg,ac,bc)/\Sim st st'/\G s'/\LoI ϕ a b o i j/\i+1<a.size/\j<b.size/\t+1+1<=o.size
def LoV (ϕ:Oe->Vg) (G:Vh->Prop) (a b:Vm Oe) (st:Vv) (t:Vg) (q:Vg) (c:(Vj (Vm Oe)×Vm Oe×Vg×Vg×Vg×Vg)) (st':Vv) (s':Vh):Prop :=
 ∃ o i j ac bc,c=(none,o,i,j,ac,bc)/\Sim st st'/\G s'/\LoI ϕ a b o i j/\i+1<a.size/\j<b.size/\t+1+q<=o.size
def LoW (ϕ:Oe->Vg) (G:Vh->Prop) (a b:Vm Oe) (st:Vv) (t:Vg) (c:(Vj (Vm Oe)×Vm Oe×Vg×Vg×Vg)) (st':Vv) (s':Vh):Prop :=
 ∃ o i j mg,c=(none,o,i,j,mg)/\Sim st st'/\G s'/\LoI ϕ a b o i j/\i+1<a.size/\j<b.size/\t+1<=o.size
def LoZ {β:Type} (X Y:β->Vv->Vh->Prop) (r:VT β) (st':Vv) (s':Vh):Prop :=
 match r with | .done c=>X c st' s' | .yield c=>Y c st' s'
theorem Zmt {c:Vm Oe} (hp:p+k<=c.size):(c.toList.drop (p+k)).take (c.size-p-k)=c.toList.drop (p+k):=QZ (by rw[Wa,Qw];lia)
theorem Zje {st st4} (h1:∀ x,a[a.size-1]?=some x->∀ y∈b.toList,ϕ y<=ϕ x) (S4:Sim st st4) (g5:G s5) (hx:a[i]?=some x) (hd:a.toList.drop i=x::a.toList.drop (i+1))
  (I6:LoI ϕ a b o i j) (l4:∀ u∈b.toList.drop j,ϕ x<=ϕ u) (hi:i+1<a.size) (hj:j<b.size) (hz:t+1+1<=o.size) :
  kasC (Oc prog w) A E (loE a b o i j mg k k1) (LoZ (fun c st' s'=>LoX ϕ G a b st c.1 st' s'\/LoY ϕ G a b st t c st' s') (LoY ϕ G a b st t)) st4 s5:=by
 refine kasC_bind (ZH hx ?_);have I7:=I6.push1 hd l4;have hz7:t+1+1<=(o.push x).size:=by rw[WD];exact Kh hz
 by_cases e5:i+1+1=a.size
 rw[Vf (by simpa using e5)];exact kasC_pure (.inl ⟨_,rfl,S4,g5,I7.end2 e5 h1⟩);rw[if_neg (by simpa using e5)];have hi7:i+1+1<a.size:=Ki hi e5
 split
 exact kasC_pure (.inr ⟨_,_,_,_,_,_,rfl,S4,g5,I7,hi7,hj,hz7⟩);exact kasC_pure ⟨_,_,_,_,_,_,rfl,S4,g5,I7,hi7,hj,hz7⟩
theorem Zjf (R:Jq prog w A κ ϕ U G) {st st4:Vv} (hk:VE st=κ) (ha:Al U a) (hb:Al U b) (ub:Up ϕ b.toList) (h1:∀ x,a[a.size-1]?=some x->∀ y∈b.toList,ϕ y<=ϕ x) (S4:Sim st st4) (g4:G s4)
  (hy:b[j]?=some y) (hd:b.toList.drop j=y::b.toList.drop (j+1)) (I4:LoI ϕ a b o i j) (l2:∀ u∈a.toList.drop i,ϕ y<=ϕ u) (hi:i+1<a.size) (hj:j<b.size) (hz:t+1+1<=o.size) :
  kasC (Oc prog w) A E (loD a b o i j mg k bc) (LoZ (fun c st' s'=>LoX ϕ G a b st c.1 st' s'\/LoY ϕ G a b st t c st' s') (LoY ϕ G a b st t)) st4 s4:=by
 refine kasC_bind (ZH hy ?_);have I5:=I4.push2 hd l2;by_cases e3:j+1=b.size
 ·rw[Vf (by simpa using e3)];exact kasC_pure (.inl ⟨_,rfl,S4,g4,I5.end1 (.inr e3)⟩)
 rw[if_neg (by simpa using e3)];obtain⟨x1,hx1,hdx1⟩:=at_ (show i<a.size by exact Sz hi);have mx:=Ju (hdx1▸I5.hx);rw[←hdx1]at mx;have hz5:t+1+1<=(o.push y).size:=by rw[WD];exact Kh hz
 have hj5:j+1<b.size:=Ki hj e3
 refine kasC_bind (ZH hx1 (kasC_bind (Zaw R (S4.1.trans hk) (ha _ _ hx1) hb (S6 hj5) (S7 hj5) ((UpTo.of ub).sub Ko (S6 hj5)) g4 fun k' s5 hk2 l3 l4 g5=>?_)));rw[Zmt (by omega)]at l4;dsimp only;have I6:=I5.app2 fun u hu v hv=>QK (l3 u hu) (mx v hv);have hz6:t+1+1<=(o.push y++b.extract (j+1) (j+1+k')).size:=by rw[Uw];exact Kh hz5
 by_cases ck:k'>0
 ·rw[Vf ck];by_cases e4:j+1+k'=b.size
  ·rw[Vf (by simpa using e4)];exact kasC_pure (.inl ⟨_,rfl,S4,g5,I6.end1 (.inr e4)⟩)
  rw[if_neg (by simpa using e4)];exact Zje h1 S4 g5 hx1 hdx1 I6 l4 hi (by omega) hz6
 ·have k0:k'=0:=S8 ck
  subst k0;exact Zje h1 S4 g5 hx1 hdx1 I5 l4 hi hj5 hz5
theorem Zjg (R:Jq prog w A κ ϕ U G) {st st3:Vv} (hk:VE st=κ) (ha:Al U a) (hb:Al U b) (ua:Up ϕ a.toList) (ub:Up ϕ b.toList) (h1:∀ x,a[a.size-1]?=some x->∀ y∈b.toList,ϕ y<=ϕ x) (S3:Sim st st3) (g3:G s3)
  (I3:LoI ϕ a b o i j) (hi:i+1<a.size) (hj:j<b.size) (hz:t+1+1<=o.size) :
  kasC (Oc prog w) A E (loC a b o i j mg ac bc) (LoZ (fun c st' s'=>LoX ϕ G a b st c.1 st' s'\/LoY ϕ G a b st t c st' s') (LoY ϕ G a b st t)) st3 s3:=by
 refine kasC_bind (Za6 fun st4 S4=>?_);replace S4:=S3.trans S4;obtain⟨y,hy,hdy⟩:=at_ hj;have my:=Ju (hdy▸I3.hy);rw[←hdy]at my;refine kasC_bind (ZH hy (kasC_bind (Zaw R (S4.1.trans hk) (hb _ _ hy) ha (Dy hi) (by omega) ((UpTo.of ua).sub Ko (Dy hi)) g3 fun k s4 hk1 l1 l2 g4=>?_)));rw[Zmt (by omega)]at l2;dsimp only;have I4:=I3.app1 fun u hu v hv=>QK (l1 u hu) (my v hv);have hz4:t+1+1<=(o++a.extract i (i+k)).size:=by rw[Uw];exact Kh hz
 by_cases ck:k>0
 ·rw[Vf ck];by_cases e1:i+k+1=a.size
  ·rw[Vf (by simpa using e1)];exact kasC_pure (.inl ⟨_,rfl,S4,g4,I4.end2 e1 h1⟩)
  rw[if_neg (by simpa using e1)];by_cases e2:i+k=a.size
  ·rw[Vf (by simpa using e2)];exact kasC_pure (.inl ⟨_,rfl,S4,g4,I4.end1 (.inl e2)⟩)
  rw[if_neg (by simpa using e2)];exact Zjf R hk ha hb ub h1 S4 g4 hy hdy I4 l2 (by lia) hj hz4
 ·have k0:k=0:=S8 ck
  subst k0;exact Zjf R hk ha hb ub h1 S4 g4 hy hdy I3 l2 hi hj hz
theorem Zmd (R:Jq prog w A κ ϕ U G) {st st2:Vv} (hk:VE st=κ) (ha:Al U a) (hb:Al U b) (h1:∀ x,a[a.size-1]?=some x->∀ y∈b.toList,ϕ y<=ϕ x)
  (h:LoV ϕ G a b st t q c st2 s2):kasC (Oc prog w) A E (loM a b mg c) (LoZ (fun c st' s'=>LoX ϕ G a b st c.1 st' s'\/LoV ϕ G a b st t 1 c st' s') (LoV ϕ G a b st t (q+1))) st2 s2:=by
 obtain⟨o,i,j,ac,bc,rfl,S2,g2,I2,hi2,hj2,hs2⟩:=h;unfold loM;obtain⟨x,hx,hdx⟩:=at_ (show i<a.size by exact Sz hi2);obtain⟨y,hy,hdy⟩:=at_ hj2;refine kasC_bind (ZH hy (kasC_bind (ZH hx (kasC_bind (ZgA R (S2.1.trans hk) (hb _ _ hy) (ha _ _ hx) g2 fun s3 g3=>?_)))));dsimp only;have mx:=Ju (ϕ:=ϕ) (hdx▸I2.hx);have my:=Ju (ϕ:=ϕ) (hdy▸I2.hy);rw[←hdx]at mx;rw[←hdy]at my;by_cases cc:ϕ y<ϕ x
 ·rw[Vf (by simpa using cc)];refine kasC_bind (ZH hy ?_);have I3:=I2.push2 hdy fun v hv=>QK (WK cc) (mx v hv);by_cases e1:j+1=b.size
  ·rw[Vf (by simpa using e1)];exact kasC_pure (.inl ⟨_,rfl,S2,g3,I3.end1 (.inr e1)⟩)
  rw[if_neg (by simpa using e1)];have z:t+1+(q+1)<=(o.push y).size:=by rw[WD];exact Eu hs2
  by_cases e2:bc+1≥mg
  ·rw[Vf e2];exact kasC_pure (.inr ⟨_,_,_,_,_,rfl,S2,g3,I3,hi2,Ki hj2 e1,Ev z⟩)
  ·rw[if_neg e2];exact kasC_pure ⟨_,_,_,_,_,rfl,S2,g3,I3,hi2,Ki hj2 e1,z⟩
 ·rw[if_neg (by simpa using cc)];refine kasC_bind (ZH hx ?_);have I3:=I2.push1 hdx fun v hv=>QK (Kf cc) (my v hv);by_cases e1:i+1+1=a.size
  ·rw[Vf (by simpa using e1)];exact kasC_pure (.inl ⟨_,rfl,S2,g3,I3.end2 e1 h1⟩)
  rw[if_neg (by simpa using e1)];have z:t+1+(q+1)<=(o.push x).size:=by rw[WD];exact Eu hs2
  by_cases e2:ac+1≥mg
  ·rw[Vf e2];exact kasC_pure (.inr ⟨_,_,_,_,_,rfl,S2,g3,I3,Ki hi2 e1,hj2,Ev z⟩)
  ·rw[if_neg e2];exact kasC_pure ⟨_,_,_,_,_,rfl,S2,g3,I3,Ki hi2 e1,hj2,z⟩
theorem Zme (R:Jq prog w A κ ϕ U G) {st st3:Vv} (hk:VE st=κ) (ha:Al U a) (hb:Al U b) (ua:Up ϕ a.toList) (ub:Up ϕ b.toList) (h1:∀ x,a[a.size-1]?=some x->∀ y∈b.toList,ϕ y<=ϕ x)
  (h:LoY ϕ G a b st t c st3 s3):kasC (Oc prog w) A E (loB a b c) (LoZ (fun c st' s'=>LoX ϕ G a b st c.1 st' s'\/LoY ϕ G a b st t c st' s') (LoY ϕ G a b st t)) st3 s3:=by
 obtain⟨o,i,j,mg,ac,bc,rfl,S3,g3,I3,hi3,hj3,hs3⟩:=h;unfold loB;split
 exact Zjg R hk ha hb ua ub h1 S3 g3 I3 hi3 hj3 hs3;exact Zjg R hk ha hb ua ub h1 S3 g3 I3 hi3 hj3 hs3
theorem Zmc (R:Jq prog w A κ ϕ U G) {st st':Vv} (hk:VE st=κ) (ha:Al U a) (hb:Al U b) (ua:Up ϕ a.toList) (ub:Up ϕ b.toList) (h1:∀ x,a[a.size-1]?=some x->∀ y∈b.toList,ϕ y<=ϕ x) (pa:0<a.size+b.size)
  (h:LoW ϕ G a b st t c st' s'):kasC (Oc prog w) A E (loO a b c) (LoZ (fun c st' s'=>LoX ϕ G a b st c.1 st' s') (LoW ϕ G a b st (t+1))) st' s':=by
 obtain⟨o,i,j,mg,rfl,S,g',I,hi,hj,hs⟩:=h;refine kasC_bind (Z1
  (Yh _ ⟨o,i,j,0,0,rfl,S,g',I,hi,hj,hs⟩ (fun q c st2 s2 hq V=>Zmd R hk ha hb h1 V) ?_) ?_)
 rintro c st2 s2 ⟨o,i,j,ac,bc,rfl,S2,g2,I2,hi2,hj2,hs2⟩;exact .inr ⟨o,i,j,ac,bc,rfl,S2,g2,I2,hi2,hj2,by lia⟩;rintro c st2 s2 (⟨r,e,S2,g2,O⟩ | ⟨o,i,j,ac,bc,rfl,S2,g2,I2,hi2,hj2,hs2⟩);rw[e];exact kasC_pure ⟨r,rfl,S2,g2,O⟩;refine kasC_bind (Jc ?_);refine kasC_bind (Z1
  (Yh (fun _=>LoY ϕ G a b st t) ⟨o,i,j,_,ac,bc,rfl,S2,g2,I2,hi2,hj2,hs2⟩ (fun q c st3 s3 hq Y=>Zme R hk ha hb ua ub h1 Y) fun c st3 s3 Y=>.inr Y) ?_)
 rintro c st3 s3 (⟨r,e,S3,g3,O⟩ | ⟨o,i,j,mg,ac,bc,rfl,S3,g3,I3,hi3,hj3,hs3⟩);rw[e];exact kasC_pure ⟨r,rfl,S3,g3,O⟩;refine kasC_bind (Za6 fun st4 S4=>?_);exact kasC_pure ⟨o,i,j,_,rfl,S3.trans S4,g3,I3,hi3,hj3,hs3⟩
theorem Znq (R:Jq prog w A κ ϕ U G) {st:Vv} (hk:VE st=κ) (ha:Al U a) (hb:Al U b) (ua:Up ϕ a.toList) (ub:Up ϕ b.toList) (pa:0<a.size) (pb:0<b.size)
  (h0:∀ y,b[0]?=some y->∀ x∈a.toList,ϕ y<=ϕ x) (h1:∀ x,a[a.size-1]?=some x->∀ y∈b.toList,ϕ y<=ϕ x) (g:G s)
  (h:∀ r st' s',Sim st st'->G s'->Ok ϕ a b r->Q r st' s'):kasC (Oc prog w) A E (Zkw a b) Q st s:=by
 rw[Zh9];refine kasC_bind (Jc ?_);obtain⟨y0,hy0,hd0⟩:=at_ pb;refine kasC_bind (ZH hy0 ?_);have I0:=by
  have:LoI ϕ a b #[] 0 0:=⟨by simp_all,by grind,by simp⟩
  exact this.push2 hd0 fun v hv=>h0 y0 hy0 v (WM hv)
 by_cases c1:1=b.size
 ·rw[Vf (by simpa using c1)];exact kasC_pure (h _ _ _ (Sim.refl _) g (I0.end1 (.inr c1)))
 rw[if_neg (by simpa using c1)];by_cases c2:0+1=a.size
 ·rw[Vf (by simpa using c2)];exact kasC_pure (h _ _ _ (Sim.refl _) g (I0.end2 c2 h1))
 rw[if_neg (by simpa using c2)];refine kasC_bind (kasC_get ?_);refine kasC_bind (Z1 (Yh _
  ⟨_,_,_,_,rfl,Sim.refl _,g,I0,Ki pa c2,by lia,Qg 1⟩ (fun t c st' s' ht W=>Zmc R hk ha hb ua ub h1 (by lia) W) ?_) ?_)
 ·rintro c st' s' ⟨o,i,j,mg,rfl,S,g',I,hi,hj,hs⟩;have:=I.size (by lia) (Bk hj);exact (F9 hs this).elim
 ·rintro c st' s' ⟨r,e,S,g',O⟩;rw[e];exact kasC_pure (h r st' s' S g' O)
end
noncomputable def Zkx:Vm Oe->Vm Oe->V6 Vv MT (Vm Oe):=sortPriv% PySem.Builtin.mergeHi
noncomputable def JZ (a b o:Vm Oe) (i j:Vg):Vm Oe:=a.extract 0 i++b.extract 0 j++o.reverse
noncomputable def Zc0 (a b o:Vm Oe) (i j:Vg):Vm Oe:=b.extract 0 j++a.extract 0 i++o.reverse
noncomputable def hiE (a b o:Vm Oe) (i j mg k k1:Vg):V6 Vv MT (VT (Vj (Vm Oe)×Vg×Vg×Vm Oe×Vg×Vg×Vg)):=do
 let x ←OK a (i-1)
 if i-1==0 then pure (.done (some (JZ a b (o.push x) (i-1) j),i-1,j,o.push x,mg,k,k1))
 else if k<7&&k1<7 then pure (.done (none,i-1,j,o.push x,mg,k,k1))
 else pure (.yield (none,i-1,j,o.push x,mg,k,k1))
noncomputable def hiD (a b o:Vm Oe) (i j mg k bc:Vg):V6 Vv MT (VT (Vj (Vm Oe)×Vg×Vg×Vm Oe×Vg×Vg×Vg)):=do
 let y ←OK b (j-1)
 if j-1==1 then pure (.done (some (Zc0 a b (o.push y) i (j-1)),i,j-1,o.push y,mg,k,bc))
 else do
  let x ←OK a (i-1)
  let some z ←Za8 true x b 0 (j-1) (j-1-1) | pure (.done (some (JZ a b (o.push y) i (j-1)),i,j-1,o.push y,mg,k,bc))
  if j-1-z>0 then
   if z==1 then pure (.done (some (Zc0 a b (o.push y++(b.extract z (j-1)).reverse) i z),i,z,o.push y++(b.extract z (j-1)).reverse,mg,k,j-1-z))
   else if z==0 then pure (.done (some (JZ a b (o.push y++(b.extract z (j-1)).reverse) i z),i,z,o.push y++(b.extract z (j-1)).reverse,mg,k,j-1-z))
   else hiE a b (o.push y++(b.extract z (j-1)).reverse) i z mg k (j-1-z)
  else hiE a b (o.push y) i (j-1) mg k (j-1-z)
noncomputable def hiC (a b o:Vm Oe) (i j mg ac bc:Vg):V6 Vv MT (VT (Vj (Vm Oe)×Vg×Vg×Vm Oe×Vg×Vg×Vg)):=do
 Zfm mg
 let y ←OK b (j-1)
 let some z ←Za8 false y a 0 i (i-1) | pure (.done (some (JZ a b o i j),i,j,o,mg,ac,bc))
 if i-z>0 then
  if z==0 then pure (.done (some (JZ a b (o++(a.extract z i).reverse) z j),z,j,o++(a.extract z i).reverse,mg,i-z,bc))
  else hiD a b (o++(a.extract z i).reverse) z j mg (i-z) bc
 else hiD a b o i j mg (i-z) bc
noncomputable def hiB (a b:Vm Oe) (c:(Vj (Vm Oe)×Vg×Vg×Vm Oe×Vg×Vg×Vg)):V6 Vv MT (VT (Vj (Vm Oe)×Vg×Vg×Vm Oe×Vg×Vg×Vg)) :=
 if c.2.2.2.2.1>1 then hiC a b c.2.2.2.1 c.2.1 c.2.2.1 (c.2.2.2.2.1-1) c.2.2.2.2.2.1 c.2.2.2.2.2.2
 else hiC a b c.2.2.2.1 c.2.1 c.2.2.1 c.2.2.2.2.1 c.2.2.2.2.2.1 c.2.2.2.2.2.2
noncomputable def hiM (a b:Vm Oe) (mg:Vg) (c:(Vj (Vm Oe)×Vg×Vg×Vm Oe×Vg×Vg)):V6 Vv MT (VT (Vj (Vm Oe)×Vg×Vg×Vm Oe×Vg×Vg)):=do
 let y ←OK b (c.2.2.1-1)
 let x ←OK a (c.2.1-1)
 let some aw ←lt' y x | pure (.done (some (JZ a b c.2.2.2.1 c.2.1 c.2.2.1),c.2.1,c.2.2.1,c.2.2.2.1,c.2.2.2.2.1,c.2.2.2.2.2))
 if aw then do
  let x ←OK a (c.2.1-1)
  if c.2.1-1==0 then pure (.done (some (JZ a b (c.2.2.2.1.push x) (c.2.1-1) c.2.2.1),c.2.1-1,c.2.2.1,c.2.2.2.1.push x,c.2.2.2.2.1+1,0))
  else if c.2.2.2.2.1+1≥mg then pure (.done (none,c.2.1-1,c.2.2.1,c.2.2.2.1.push x,c.2.2.2.2.1+1,0))
  else pure (.yield (none,c.2.1-1,c.2.2.1,c.2.2.2.1.push x,c.2.2.2.2.1+1,0))
 else do
  let y ←OK b (c.2.2.1-1)
  if c.2.2.1-1==1 then pure (.done (some (Zc0 a b (c.2.2.2.1.push y) c.2.1 (c.2.2.1-1)),c.2.1,c.2.2.1-1,c.2.2.2.1.push y,0,c.2.2.2.2.2+1))
  else if c.2.2.2.2.2+1≥mg then pure (.done (none,c.2.1,c.2.2.1-1,c.2.2.2.1.push y,0,c.2.2.2.2.2+1))
  else pure (.yield (none,c.2.1,c.2.2.1-1,c.2.2.2.1.push y,0,c.2.2.2.2.2+1))
noncomputable def hiO (a b:Vm Oe) (c:(Vj (Vm Oe)×Vg×Vg×Vm Oe×Vg)):V6 Vv MT (VT (Vj (Vm Oe)×Vg×Vg×Vm Oe×Vg)):=do
 let d ←forIn [0:a.size+b.size] ((none,c.2.1,c.2.2.1,c.2.2.2.1,0,0):(Vj (Vm Oe)×Vg×Vg×Vm Oe×Vg×Vg)) fun _=>hiM a b c.2.2.2.2
 V9 (motive:=fun _=>V6 Vv MT (VT (Vj (Vm Oe)×Vg×Vg×Vm Oe×Vg))) d.1 (fun r=>pure (.done (some r,d.2.1,d.2.2.1,d.2.2.2.1,c.2.2.2.2))) fun _=>do
  rule "list.sort.gallop"
  let e ←forIn [0:a.size+b.size] ((none,d.2.1,d.2.2.1,d.2.2.2.1,c.2.2.2.2+1,d.2.2.2.2.1,d.2.2.2.2.2):(Vj (Vm Oe)×Vg×Vg×Vm Oe×Vg×Vg×Vg)) fun _=>hiB a b
  V9 (motive:=fun _=>V6 Vv MT (VT (Vj (Vm Oe)×Vg×Vg×Vm Oe×Vg))) e.1 (fun r=>pure (.done (some r,e.2.1,e.2.2.1,e.2.2.2.1,e.2.2.2.2.1))) fun _=>do
   Zfm (e.2.2.2.2.1+1)
   pure (.yield (none,e.2.1,e.2.2.1,e.2.2.2.1,e.2.2.2.2.1+1))
theorem Zia (a b):Zkx a b=(do
 rule "list.sort.merge-hi"
 let x ←OK a (a.size-1)
 if a.size-1==0 then pure (JZ a b #[x] (a.size-1) b.size)
 else if b.size==1 then pure (Zc0 a b #[x] (a.size-1) b.size)
 else do
  let z ←get
  let c ←forIn [0:a.size+b.size] ((none,a.size-1,b.size,#[x],gallopOf z)) fun _=>hiO a b
  V9 (motive:=fun _=>V6 Vv MT _) c.1 (fun r=>pure r) fun _=>unsupported "internal:list.sort.merge-bound"):=rfl
structure Hi (ϕ:Oe->Vg) (T O X Y:Vd Oe):Prop where
 px:Up ϕ (X++O)
 py:Up ϕ (Y++O)
 pm:(X++Y++O).Perm T
section
variable {ϕ:Oe->Vg} {T O X Y x y:Vd Oe}
theorem Hi.swap (h:Hi ϕ T O X Y):Hi ϕ T O Y X:=⟨h.py,h.px,(Uf.append_right O).trans h.pm⟩
theorem Hi.goX (h:Hi ϕ T O (X++x) Y) (hx:∀ u∈x,∀ v∈Y,ϕ v<=ϕ u):Hi ϕ T (x++O) X Y:=by
 obtain⟨h1,h2,h3⟩:=h;refine⟨by simp_all,?_,?_⟩;unfold Up at *;rw[QH,QS]at h1;rw[QS]at h2 ⊢;refine⟨h2.1,h1.2.1,fun a ha b hb=>?_⟩;rcases QD.mp hb with z | z
 simp_all
 simp_all
 refine Tn ?_ h3;rw[QH,QH X x Y,QH X];refine My X ?_;rw[←QH];exact Uf.append_right O
theorem Hi.goY (h:Hi ϕ T O X (Y++y)) (hy:∀ u∈y,∀ v∈X,ϕ v<=ϕ u):Hi ϕ T (y++O) X Y:=(h.swap.goX hy).swap
theorem Hi.len (h:Hi ϕ T O X Y):O.length+X.length+Y.length=T.length:=by
 have:=h.pm.length_eq;simp[Qh]at this;lia
theorem Hi.hx (h:Hi ϕ T O X Y):Up ϕ X:=(QS.mp h.px).1
theorem Hi.hy (h:Hi ϕ T O X Y):Up ϕ Y:=(QS.mp h.py).1
theorem Jt {x} (h:Up ϕ (l++[x])):∀ v∈l++[x],ϕ v<=ϕ x:=fun v hv=>by
 rcases QD.mp hv with e | e
 exact(QS.mp h).2.2 v e x (Qo.mpr rfl)
 simp_all
def HiI (ϕ:Oe->Vg) (a b o:Vm Oe) (i j:Vg):Prop:=Hi ϕ (a.toList++b.toList) o.toList.reverse (a.toList.take i) (b.toList.take j)
theorem atL {a:Vm Oe} (h:i<a.size):∃ x,a[i]?=some x/\a.toList.take (i+1)=a.toList.take i++[x] :=
 ⟨_,QR h,by rw[QN (by omega)];simp⟩
theorem HiI.end1 (h:HiI ϕ a b o i j) (e:i=0\/j=0):Ok ϕ a b (JZ a b o i j):=by
 have t:(JZ a b o i j).toList=a.toList.take i++b.toList.take j++o.toList.reverse:=by
  unfold JZ;simp
 unfold Ok;rw[t];refine⟨?_,h.pm⟩;rcases e with e | e
 subst e;exact h.py;subst e;rw[Uu,WC];exact h.px
theorem HiI.end2 (h:HiI ϕ a b o i j) (e:j=1) (pb:0<b.size) (hl:∀ y,b[0]?=some y->∀ x∈a.toList,ϕ y<=ϕ x):Ok ϕ a b (Zc0 a b o i j):=by
 have t:(Zc0 a b o i j).toList=b.toList.take j++a.toList.take i++o.toList.reverse:=by
  unfold Zc0;simp
 unfold Ok;rw[t];subst e;obtain⟨y,hy,hd⟩:=atL pb;have h':Hi ϕ _ o.toList.reverse ([]++a.toList.take i) _:=h;have:=h'.goX fun u hu v hv=>by
  rw[hd,Uu,Uq,Qo]at hv;subst hv;exact hl v hy u (Wu hu)
 refine⟨by rw[QH];exact this.py,?_⟩;have:=this.pm;rw[Uq]at this;rw[QH];omega
theorem Zi0 (o:Vm Oe) (x):(o.push x).toList.reverse=[x]++o.toList.reverse:=by simp
theorem HiI.push1 {x} (h:HiI ϕ a b o (i+1) j) (e:a.toList.take (i+1)=a.toList.take i++[x]) (hx:∀ v∈b.toList.take j,ϕ v<=ϕ x):HiI ϕ a b (o.push x) i j:=by
 unfold HiI at h ⊢;rw[e]at h;rw[Zi0];exact h.goX fun u hu v hv=>by simp_all
theorem HiI.push2 {x} (h:HiI ϕ a b o i (j+1)) (e:b.toList.take (j+1)=b.toList.take j++[x]) (hx:∀ v∈a.toList.take i,ϕ v<=ϕ x):HiI ϕ a b (o.push x) i j:=by
 unfold HiI at h ⊢;rw[e]at h;rw[Zi0];exact h.goY fun u hu v hv=>by simp_all
theorem Zdj (l:Vd Oe) (h:z<=i):l.take i=l.take z++(l.drop z).take (i-z):=by
 rw[show i=z+(i-z)by exact Kj h,Rh];congr 2;lia
theorem ZmF (o a:Vm Oe) (h:z<=i):(o++(a.extract z i).reverse).toList.reverse=(a.toList.drop z).take (i-z)++o.toList.reverse:=by
 simp
theorem HiI.app1 (h:HiI ϕ a b o i j) (hz:z<=i) (hx:∀ u∈(a.toList.drop z).take (i-z),∀ v∈b.toList.take j,ϕ v<=ϕ u):HiI ϕ a b (o++(a.extract z i).reverse) z j:=by
 unfold HiI at h ⊢;rw[Zdj _ hz]at h;rw[ZmF _ _ hz];exact h.goX hx
theorem HiI.app2 (h:HiI ϕ a b o i j) (hz:z<=j) (hx:∀ u∈(b.toList.drop z).take (j-z),∀ v∈a.toList.take i,ϕ v<=ϕ u):HiI ϕ a b (o++(b.extract z j).reverse) i z:=by
 unfold HiI at h ⊢;rw[Zdj _ hz]at h;rw[ZmF _ _ hz];exact h.goY hx
theorem HiI.size (h:HiI ϕ a b o i j) (hi:i<=a.size) (hj:j<=b.size):o.size+i+j=a.size+b.size:=by
 have:=h.len;simp[QE,Qh,Qw,Ul]at this;lia
end
section
variable {prog:Oh} {w:Oi} {A:VA} {E:Vi->Vh->Prop} {κ:OW} {ϕ:Oe->Vg} {U:Oe->Prop} {G:Vh->Prop}
def HiY (ϕ:Oe->Vg) (G:Vh->Prop) (a b:Vm Oe) (st:Vv) (t:Vg) (c:(Vj (Vm Oe)×Vg×Vg×Vm Oe×Vg×Vg×Vg)) (st':Vv) (s':Vh):Prop :=
 ∃ i j o mg ac bc,c=(none,i,j,o,mg,ac,bc)/\Sim st st'/\G s'/\HiI ϕ a b o i j/\1<=i/\i<=a.size/\2<=j/\j<=b.size/\t+1+1<=o.size
def HiV (ϕ:Oe->Vg) (G:Vh->Prop) (a b:Vm Oe) (st:Vv) (t:Vg) (q:Vg) (c:(Vj (Vm Oe)×Vg×Vg×Vm Oe×Vg×Vg)) (st':Vv) (s':Vh):Prop :=
 ∃ i j o ac bc,c=(none,i,j,o,ac,bc)/\Sim st st'/\G s'/\HiI ϕ a b o i j/\1<=i/\i<=a.size/\2<=j/\j<=b.size/\t+1+q<=o.size
def HiW (ϕ:Oe->Vg) (G:Vh->Prop) (a b:Vm Oe) (st:Vv) (t:Vg) (c:(Vj (Vm Oe)×Vg×Vg×Vm Oe×Vg)) (st':Vv) (s':Vh):Prop :=
 ∃ i j o mg,c=(none,i,j,o,mg)/\Sim st st'/\G s'/\HiI ϕ a b o i j/\1<=i/\i<=a.size/\2<=j/\j<=b.size/\t+1<=o.size
theorem Zjh {st st4} (S4:Sim st st4) (g5:G s5) (hx:a[i]?=some x) (hd:a.toList.take (i+1)=a.toList.take i++[x])
  (I6:HiI ϕ a b o (i+1) j) (l3:∀ u∈b.toList.take j,ϕ u<=ϕ x) (hi:i+1<=a.size) (hj:2<=j) (hj':j<=b.size) (hz:t+1+1<=o.size) :
  kasC (Oc prog w) A E (hiE a b o (i+1) j mg k k1) (LoZ (fun c st' s'=>LoX ϕ G a b st c.1 st' s'\/HiY ϕ G a b st t c st' s') (HiY ϕ G a b st t)) st4 s5:=by
 refine kasC_bind (ZH hx ?_);have I7:=I6.push1 hd l3;have hz7:t+1+1<=(o.push x).size:=by rw[WD];exact Kh hz
 by_cases e6:i=0
 rw[Vf (by simpa using e6)];exact kasC_pure (.inl ⟨_,rfl,S4,g5,I7.end1 (.inl e6)⟩);rw[if_neg (by simpa using e6)];have hi1:1<=i:=Kk e6
 have hi2:i<=a.size:=Kl hi
 split
 exact kasC_pure (.inr ⟨_,_,_,_,_,_,rfl,S4,g5,I7,hi1,hi2,hj,hj',hz7⟩);exact kasC_pure ⟨_,_,_,_,_,_,rfl,S4,g5,I7,hi1,hi2,hj,hj',hz7⟩
theorem Zji (R:Jq prog w A κ ϕ U G) {st st4:Vv} (hk:VE st=κ) (ha:Al U a) (hb:Al U b) (ub:Up ϕ b.toList) (pb:0<b.size) (h0:∀ y,b[0]?=some y->∀ x∈a.toList,ϕ y<=ϕ x) (S4:Sim st st4) (g4:G s4)
  (hy:b[j]?=some y) (hd:b.toList.take (j+1)=b.toList.take j++[y]) (I4:HiI ϕ a b o i (j+1)) (l1:∀ u∈a.toList.take i,ϕ u<=ϕ y) (hi:1<=i) (hi':i<=a.size) (hj:1<=j) (hj':j+1<=b.size) (hz:t+1+1<=o.size) :
  kasC (Oc prog w) A E (hiD a b o i (j+1) mg k bc) (LoZ (fun c st' s'=>LoX ϕ G a b st c.1 st' s'\/HiY ϕ G a b st t c st' s') (HiY ϕ G a b st t)) st4 s4:=by
 obtain⟨i,rfl⟩:∃ n,i=n+1:=⟨i-1,Ty hi⟩
 unfold hiD;dsimp only[Nat.add_one_sub_one];refine kasC_bind (ZH hy ?_);have I5:=I4.push2 hd l1;by_cases e3:j=1
 ·rw[Vf (by simpa using e3)];exact kasC_pure (.inl ⟨_,rfl,S4,g4,I5.end2 e3 pb h0⟩)
 rw[if_neg (by simpa using e3)];obtain⟨x1,hx1,hdx1⟩:=atL (show i<a.size by exact hi');have mx:=Jt (ϕ:=ϕ) (hdx1▸I5.hx);rw[←hdx1]at mx;have hz5:t+1+1<=(o.push y).size:=by rw[WD];exact Kh hz
 have hj5:2<=j:=by lia
 refine kasC_bind (ZH hx1 (kasC_bind (Zaw R (S4.1.trans hk) (ha _ _ hx1) hb (S9 hj') (by omega) ((UpTo.of ub).sub Sy (S9 hj')) g4 fun k' s5 hk2 l3 l4 g5=>?_)));rw[Rl]at l4;dsimp only;have I6:=I5.app2 hk2 fun u hu v hv=>QK (mx v hv) (l4 u hu);have hz6:t+1+1<=(o.push y++(b.extract k' j).reverse).size:=by rw[Uw];exact Kh hz5
 by_cases ck:j-k'>0
 ·rw[Vf ck];by_cases e4:k'=1
  ·rw[Vf (by simpa using e4)];exact kasC_pure (.inl ⟨_,rfl,S4,g5,I6.end2 e4 pb h0⟩)
  rw[if_neg (by simpa using e4)];by_cases e5:k'=0
  ·rw[Vf (by simpa using e5)];exact kasC_pure (.inl ⟨_,rfl,S4,g5,I6.end1 (.inr e5)⟩)
  rw[if_neg (by simpa using e5)];exact Zjh S4 g5 hx1 hdx1 I6 l3 hi' (by lia) (by lia) hz6
 ·rw[if_neg ck];have k0:k'=j:=No hk2 ck
  subst k0;exact Zjh S4 g5 hx1 hdx1 I5 l3 hi' hj5 (Kl hj') hz5
theorem Zjj (R:Jq prog w A κ ϕ U G) {st st3:Vv} (hk:VE st=κ) (ha:Al U a) (hb:Al U b) (ua:Up ϕ a.toList) (ub:Up ϕ b.toList) (pb:0<b.size) (h0:∀ y,b[0]?=some y->∀ x∈a.toList,ϕ y<=ϕ x) (S3:Sim st st3) (g3:G s3)
  (I3:HiI ϕ a b o i j) (hi:1<=i) (hi':i<=a.size) (hj:2<=j) (hj':j<=b.size) (hz:t+1+1<=o.size) :
  kasC (Oc prog w) A E (hiC a b o i j mg ac bc) (LoZ (fun c st' s'=>LoX ϕ G a b st c.1 st' s'\/HiY ϕ G a b st t c st' s') (HiY ϕ G a b st t)) st3 s3:=by
 obtain⟨j,rfl⟩:∃ n,j=n+1:=⟨j-1,Dz hj⟩
 refine kasC_bind (Za6 fun st4 S4=>?_);replace S4:=S3.trans S4;obtain⟨y,hy,hdy⟩:=atL (show j<b.size by exact hj');have my:=Jt (hdy▸I3.hy);rw[←hdy]at my;refine kasC_bind (ZH hy (kasC_bind (Zaw R (S4.1.trans hk) (hb _ _ hy) ha (Ea hi') (Bu hi) ((UpTo.of ua).sub Sy (Ea hi')) g3 fun k s4 hk1 l1 l2 g4=>?_)));rw[Rl]at l2;dsimp only;have I4:=I3.app1 hk1 fun u hu v hv=>QK (my v hv) (l2 u hu);have hz4:t+1+1<=(o++(a.extract k i).reverse).size:=by rw[Uw];exact Kh hz
 have hj1:1<=j:=by lia
 by_cases ck:i-k>0
 ·rw[Vf ck];by_cases e1:k=0
  ·rw[Vf (by simpa using e1)];exact kasC_pure (.inl ⟨_,rfl,S4,g4,I4.end1 (.inl e1)⟩)
  rw[if_neg (by simpa using e1)];exact Zji R hk ha hb ub pb h0 S4 g4 hy hdy I4 l1 (Kk e1) (Km hi' hk1) hj1 hj' hz4
 ·rw[if_neg ck];have k0:k=i:=No hk1 ck
  subst k0;exact Zji R hk ha hb ub pb h0 S4 g4 hy hdy I3 l1 hi hi' hj1 hj' hz
theorem Zmh (R:Jq prog w A κ ϕ U G) {st st2:Vv} (hk:VE st=κ) (ha:Al U a) (hb:Al U b) (pb:0<b.size) (h0:∀ y,b[0]?=some y->∀ x∈a.toList,ϕ y<=ϕ x)
  (h:HiV ϕ G a b st t q c st2 s2):kasC (Oc prog w) A E (hiM a b mg c) (LoZ (fun c st' s'=>LoX ϕ G a b st c.1 st' s'\/HiV ϕ G a b st t 1 c st' s') (HiV ϕ G a b st t (q+1))) st2 s2:=by
 obtain⟨i,j,o,ac,bc,rfl,S2,g2,I2,hi2,hi2',hj2,hj2',hs2⟩:=h;obtain⟨i,rfl⟩:∃ n,i=n+1:=⟨i-1,Ty hi2⟩
 obtain⟨j,rfl⟩:∃ n,j=n+1:=⟨j-1,Dz hj2⟩
 unfold hiM;obtain⟨x,hx,hdx⟩:=atL (show i<a.size by exact hi2');obtain⟨y,hy,hdy⟩:=atL (show j<b.size by exact hj2');refine kasC_bind (ZH hy (kasC_bind (ZH hx (kasC_bind (ZgA R (S2.1.trans hk) (hb _ _ hy) (ha _ _ hx) g2 fun s3 g3=>?_)))));dsimp only;have mx:=Jt (ϕ:=ϕ) (hdx▸I2.hx);have my:=Jt (ϕ:=ϕ) (hdy▸I2.hy);rw[←hdx]at mx;rw[←hdy]at my;by_cases cc:ϕ y<ϕ x
 ·rw[Vf (by simpa using cc)];refine kasC_bind (ZH hx ?_);have I3:=I2.push1 hdx fun v hv=>QK (my v hv) (WK cc);by_cases e1:i=0
  ·rw[Vf (by simpa using e1)];exact kasC_pure (.inl ⟨_,rfl,S2,g3,I3.end1 (.inl e1)⟩)
  rw[if_neg (by simpa using e1)];have z:t+1+(q+1)<=(o.push x).size:=by rw[WD];exact Eu hs2
  by_cases e2:ac+1≥mg
  ·rw[Vf e2];exact kasC_pure (.inr ⟨_,_,_,_,_,rfl,S2,g3,I3,Ew e1,Ke hi2',hj2,hj2',Ev z⟩)
  ·rw[if_neg e2];exact kasC_pure ⟨_,_,_,_,_,rfl,S2,g3,I3,Ew e1,Ke hi2',hj2,hj2',z⟩
 ·rw[if_neg (by simpa using cc)];refine kasC_bind (ZH hy ?_);have I3:=I2.push2 hdy fun v hv=>QK (mx v hv) (Kf cc);by_cases e1:j=1
  ·rw[Vf (by simpa using e1)];exact kasC_pure (.inl ⟨_,rfl,S2,g3,I3.end2 e1 pb h0⟩)
  rw[if_neg (by simpa using e1)];have z:t+1+(q+1)<=(o.push y).size:=by rw[WD];exact Eu hs2
  by_cases e2:bc+1≥mg
  ·rw[Vf e2];exact kasC_pure (.inr ⟨_,_,_,_,_,rfl,S2,g3,I3,hi2,hi2',Ex hj2 e1,Ke hj2',Ev z⟩)
  ·rw[if_neg e2];exact kasC_pure ⟨_,_,_,_,_,rfl,S2,g3,I3,hi2,hi2',Ex hj2 e1,Ke hj2',z⟩
theorem Zmi (R:Jq prog w A κ ϕ U G) {st st3:Vv} (hk:VE st=κ) (ha:Al U a) (hb:Al U b) (ua:Up ϕ a.toList) (ub:Up ϕ b.toList) (pb:0<b.size) (h0:∀ y,b[0]?=some y->∀ x∈a.toList,ϕ y<=ϕ x)
  (h:HiY ϕ G a b st t c st3 s3):kasC (Oc prog w) A E (hiB a b c) (LoZ (fun c st' s'=>LoX ϕ G a b st c.1 st' s'\/HiY ϕ G a b st t c st' s') (HiY ϕ G a b st t)) st3 s3:=by
 obtain⟨i,j,o,mg,ac,bc,rfl,S3,g3,I3,hi3,hi3',hj3,hj3',hs3⟩:=h;unfold hiB;split
 exact Zjj R hk ha hb ua ub pb h0 S3 g3 I3 hi3 hi3' hj3 hj3' hs3;exact Zjj R hk ha hb ua ub pb h0 S3 g3 I3 hi3 hi3' hj3 hj3' hs3
theorem Zmg (R:Jq prog w A κ ϕ U G) {st st':Vv} (hk:VE st=κ) (ha:Al U a) (hb:Al U b) (ua:Up ϕ a.toList) (ub:Up ϕ b.toList) (pb:0<b.size) (h0:∀ y,b[0]?=some y->∀ x∈a.toList,ϕ y<=ϕ x)
  (h:HiW ϕ G a b st t c st' s'):kasC (Oc prog w) A E (hiO a b c) (LoZ (fun c st' s'=>LoX ϕ G a b st c.1 st' s') (HiW ϕ G a b st (t+1))) st' s':=by
 obtain⟨i,j,o,mg,rfl,S,g',I,hi,hi',hj,hj',hs⟩:=h;refine kasC_bind (Z1
  (Yh _ ⟨i,j,o,0,0,rfl,S,g',I,hi,hi',hj,hj',hs⟩ (fun q c st2 s2 hq V=>Zmh R hk ha hb pb h0 V) ?_) ?_)
 rintro c st2 s2 ⟨i,j,o,ac,bc,rfl,S2,g2,I2,hi2,hi2',hj2,hj2',hs2⟩;exact .inr ⟨i,j,o,ac,bc,rfl,S2,g2,I2,hi2,hi2',hj2,hj2',by lia⟩;rintro c st2 s2 (⟨r,e,S2,g2,O⟩ | ⟨i,j,o,ac,bc,rfl,S2,g2,I2,hi2⟩);rw[e];exact kasC_pure ⟨r,rfl,S2,g2,O⟩;refine kasC_bind (Jc ?_);refine kasC_bind (Z1
  (Yh (fun _=>HiY ϕ G a b st t) ⟨i,j,o,_,ac,bc,rfl,S2,g2,I2,hi2⟩ (fun q c st3 s3 hq Y=>Zmi R hk ha hb ua ub pb h0 Y) fun c st3 s3 Y=>.inr Y) ?_)
 rintro c st3 s3 (⟨r,e,S3,g3,O⟩ | ⟨i,j,o,mg,ac,bc,rfl,S3,g3,I3,hi3⟩);rw[e];exact kasC_pure ⟨r,rfl,S3,g3,O⟩;refine kasC_bind (Za6 fun st4 S4=>?_);exact kasC_pure ⟨i,j,o,_,rfl,S3.trans S4,g3,I3,hi3⟩
theorem Znr (R:Jq prog w A κ ϕ U G) {st:Vv} (hk:VE st=κ) (ha:Al U a) (hb:Al U b) (ua:Up ϕ a.toList) (ub:Up ϕ b.toList) (pa:0<a.size) (pb:0<b.size)
  (h0:∀ y,b[0]?=some y->∀ x∈a.toList,ϕ y<=ϕ x) (h1:∀ x,a[a.size-1]?=some x->∀ y∈b.toList,ϕ y<=ϕ x) (g:G s)
  (h:∀ r st' s',Sim st st'->G s'->Ok ϕ a b r->Q r st' s'):kasC (Oc prog w) A E (Zkx a b) Q st s:=by
 rw[Zia];refine kasC_bind (Jc ?_);obtain⟨x0,hx0,hd0⟩:=atL (show a.size-1<a.size by exact Bh pa);refine kasC_bind (ZH hx0 ?_);have I0:=by
  have ea:a.toList.take (a.size-1+1)=a.toList:=QZ (by rw[Qw];omega);have eb:b.toList.take b.size=b.toList:=QZ (by simp);have:HiI ϕ a b #[] (a.size-1+1) b.size:=by
   unfold HiI;rw[ea,eb];exact⟨by simpa using ua,by simpa using ub,by simp⟩
  exact this.push1 hd0 fun v hv=>h1 x0 hx0 v (Wu hv)
 by_cases c1:a.size-1=0
 ·rw[Vf (by simpa using c1)];exact kasC_pure (h _ _ _ (Sim.refl _) g (I0.end1 (.inl c1)))
 rw[if_neg (by simpa using c1)];by_cases c2:b.size=1
 ·rw[Vf (by simpa using c2)];exact kasC_pure (h _ _ _ (Sim.refl _) g (I0.end2 c2 pb h0))
 rw[if_neg (by simpa using c2)];refine kasC_bind (kasC_get ?_);refine kasC_bind (Z1 (Yh _
  ⟨_,_,_,_,rfl,Sim.refl _,g,I0,Kk c1,E1,by lia,Sy,Qg 1⟩ (fun t c st' s' ht W=>Zmg R hk ha hb ua ub pb h0 W) ?_) ?_)
 ·rintro c st' s' ⟨i,j,o,mg,rfl,S,g',I,hi,hi',hj,hj',hs⟩;have:=I.size hi' hj';exact (F9 hs this).elim
 ·rintro c st' s' ⟨r,e,S,g',O⟩;rw[e];exact kasC_pure (h r st' s' S g' O)
end
theorem XV (hj:j<=xs.size) (k):fx ϕ (OU xs i j ((j-i) / 2)) k=if i<=k/\k<j then fx ϕ xs (i+j-1-k)else fx ϕ xs k:=by
 have e:=MO (i:=i) hj k;by_cases h1:i<=k/\k<j
 rw[Vf h1]at e ⊢;exact YA e;rw[if_neg h1]at e ⊢;exact YA e
theorem ZbY (hs:src<xs.size) (hd:d<=src) (k):fx ϕ (bubble xs src d) k=if k=src-d then fx ϕ xs src else if src-d<k/\k<=src then fx ϕ xs (k-1)else fx ϕ xs k:=by
 have e:=To hs d hd k;by_cases h1:k=src-d
 rw[Vf h1]at e ⊢;exact YA e;rw[if_neg h1]at e ⊢;by_cases h2:src-d<k/\k<=src
 rw[Vf h2]at e ⊢;exact YA e;rw[if_neg h2]at e ⊢;exact YA e
structure Kp (lo:Vg) (st st':Vv):Prop where
 kind:VE st'=VE st
 pend:Oq st'=Oq st
 fail:OI st'=OI st
 perm:(Od st').Perm (Od st)
 low:∀ i,i<lo->(Od st')[i]?=(Od st)[i]?
theorem Kp.refl (lo) (st):Kp lo st st:=⟨rfl,rfl,rfl,NI _,fun _ _=>rfl⟩
theorem Kp.size {lo} {st st'} (h:Kp lo st st'):(Od st').size=(Od st).size:=h.perm.size_eq
theorem Kp.mir {lo i j} {st st'} (h:Kp lo st st') (hi:lo<=i) (hj:j<=(Od st').size):Kp lo st (GW st' (OU (Od st') i j ((j-i) / 2))) :=
 ⟨h.kind,h.pend,h.fail,(mirror_perm _ _ _ _).trans h.perm,fun k hk=>by
  rw[MO hj k,if_neg (by lia)];exact h.low k hk⟩
theorem Kp.bub {lo src d} {st st'} (h:Kp lo st st') (hs:src<(Od st').size) (hd:d<=src) (hl:lo<=src-d):Kp lo st (GW st' (bubble (Od st') src d)) :=
 ⟨h.kind,h.pend,h.fail,(bubble_perm _ _ _).trans h.perm,fun k hk=>by
  rw[To hs d hd k,if_neg (by omega),if_neg (by omega)];exact h.low k hk⟩
def ZmJ (ϕ:Oe->Vg) (a:Vm Oe) (p q:Vg):Prop:=∀ i j,p<=i->i<=j->j<q->fx ϕ a j<=fx ϕ a i
section
variable {prog:Oh} {w:Oi} {A:VA} {E:Vi->Vh->Prop} {κ:OW} {ϕ:Oe->Vg} {U:Oe->Prop} {G:Vh->Prop}
theorem ZeA (R:Jq prog w A κ ϕ U G) {st:Vv} (hk:VE st=κ) (ha:Al U (Od st)) (hi:i<(Od st).size) (hj:j<(Od st).size) (g:G s)
  (h:∀ s',G s'->Q (some (decide (fx ϕ (Od st) i<fx ϕ (Od st) j))) st s'):kasC (Oc prog w) A E (L3 i j) Q st s:=by
 refine kasC_bind (kasC_get ?_);have e1:=QR hi;have e2:=QR hj;rw[ZbZ e1,ZbZ e2]at h;exact kasC_bind (ZH e1 (kasC_bind (ZH e2 (ZgA R hk (ha _ _ e1) (ha _ _ e2) g h))))
theorem ZdX {st} (h:Q () (GW st (OU (Od st) i j ((j-i) / 2))) s):kasC (Oc prog w) A E (Ge i j) Q st s:=kasC_modify h
theorem ZgC (R:Jq prog w A κ ϕ U G) {lo n0 nrem} {st0 st:Vv} (hk:VE st0=κ) (ha:Al U (Od st0)) (hn:lo+nrem<=(Od st0).size) (h1:1<=n0) (hnn:n0+1<=nrem) (K0:Kp lo st0 st) (dn:ZmJ ϕ (Od st) lo (lo+n0+1)) (g:G s)
  (h:∀ n st' s',1<=n->n<=nrem->Kp lo st0 st'->UpTo ϕ (Od st') lo (lo+n)->G s'->Q (some n) st' s'):kasC (Oc prog w) A E (do
   rule "list.sort.descending-run"
   let mut n:=n0+1
   let mut eq:=0
   for _ in [n:nrem] do
    let some sm ←L3 (lo+n) (lo+n-1) | return none
    if sm then
     if eq>0 then Ge (lo+n-(eq+1)) (lo+n)
     eq:=0
    else
     let some la ←L3 (lo+n-1) (lo+n) | return none
     if la then break
     eq:=eq+1
    n:=n+1
   if eq>0 then Ge (lo+n-(eq+1)) (lo+n)
   Ge lo (lo+n)
   for _ in [n:nrem] do
    let some sm ←L3 (lo+n) (lo+n-1) | return none
    if sm then break
    n:=n+1
   return some n) Q st s:=by
 have meq:∀ {xs:Vm Oe} {i j:Vg},j<=xs.size->(∀ k,i<=k->k<j->fx ϕ xs k=fx ϕ xs (j-1))->∀ k,fx ϕ (OU xs i j ((j-i) / 2)) k=fx ϕ xs k:=fun {xs i j} hj he k=>by
  rw[XV hj];split
  ·rw[he _ (N5 ‹_›) (N7 ‹_›),he k (by omega) (by omega)]
  ·rfl
 dsimp only;refine kasC_bind (Jc ?_);refine kasC_bind (Z1 (Q:=fun c st' s'=>∃ n q,c=(none,n,q)/\Kp lo st0 st'/\G s'/\1<=n/\n<=nrem/\ZmJ ϕ (Od st') lo (lo+n)/\q<n/\∀ k,lo+n-(q+1)<=k->k<lo+n->fx ϕ (Od st') k=fx ϕ (Od st') (lo+n-1))
  (Yh (fun t c st' s'=>∃ n q,c=(none,n,q)/\Kp lo st0 st'/\G s'/\1<=n/\n=t/\n<=nrem/\ZmJ ϕ (Od st') lo (lo+n)/\q<n/\∀ k,lo+n-(q+1)<=k->k<lo+n->fx ϕ (Od st') k=fx ϕ (Od st') (lo+n-1))
   ⟨n0+1,0,rfl,K0,g,Sc,rfl,hnn,dn,N8,fun k a1 a2=>by rw[show k=lo+(n0+1)-1 by exact Mx a2 a1]⟩ ?_ ?_) ?_)
 ·rintro t c st' s' ht ⟨n,q,rfl,K1,g1,b1,rfl,b2,b3,b4,b5⟩;dsimp only;have sz:=K1.size;have al:Al U (Od st'):=ha.perm K1.perm;have htn:n<nrem:=M8 hnn ht
  have hsz:lo+n<(Od st').size:=Bb hn htn sz
  clear ht hn hnn h1 sz b2 K0 dn h g;refine kasC_bind (ZeA R (K1.kind.trans hk) al hsz (Bc hsz) g1 fun s2 g2=>?_);dsimp only;by_cases c:fx ϕ (Od st') (lo+n)<fx ϕ (Od st') (lo+n-1)
  ·rw[Vf (by simpa using c)];have dn2:ZmJ ϕ (Od st') lo (lo+(n+1)):=fun i j a1 a2 a3=>by
    rcases Wn j (lo+n)with z | z
    ·exact b3 i j a1 a2 z
    ·have ej:j=lo+n:=Bd a3 z
     subst ej;rcases Wn i (lo+n)with z2 | z2
     ·have:=b3 i (lo+n-1) a1 (Be z2) (Bh z2);exact Bi this c
     ·rw[show i=lo+n by exact Sx a2 z2];exact Sy
   by_cases cq:q>0
   ·rw[Vf cq];refine kasC_bind (ZdX (kasC_pure ⟨n+1,0,rfl,K1.mir (Bj b4) (Bk hsz),g2,Sc,rfl,htn,fun i j a1 a2 a3=>?_,N8,fun k a1 a2=>by rw[show k=lo+(n+1)-1 by exact Mx a2 a1]⟩));show fx ϕ (OU (Od st') _ _ _) j<=fx ϕ (OU (Od st') _ _ _) i;rw[meq (Bk hsz) b5,meq (Bk hsz) b5];exact dn2 i j a1 a2 a3
   ·rw[if_neg cq];exact kasC_pure ⟨n+1,0,rfl,K1,g2,Sc,rfl,htn,dn2,N8,fun k a1 a2=>by rw[show k=lo+(n+1)-1 by exact Mx a2 a1]⟩
  ·rw[if_neg (by simpa using c)];refine kasC_bind (ZeA R (K1.kind.trans hk) al (Bc hsz) hsz g2 fun s3 g3=>?_);dsimp only;by_cases c2:fx ϕ (Od st') (lo+n-1)<fx ϕ (Od st') (lo+n)
   ·rw[Vf (by simpa using c2)];exact kasC_pure ⟨n,q,rfl,K1,g3,b1,Bk htn,b3,b4,b5⟩
   ·rw[if_neg (by simpa using c2)];have e:fx ϕ (Od st') (lo+n)=fx ϕ (Od st') (lo+n-1):=by lia
    refine kasC_pure ⟨n+1,q+1,rfl,K1,g3,Sc,rfl,htn,fun i j a1 a2 a3=>?_,by lia,fun k a1 a2=>?_⟩
    ·rcases Wn j (lo+n)with z | z
     ·exact b3 i j a1 a2 z
     ·have ej:j=lo+n:=Bd a3 z
      subst ej;rcases Wn i (lo+n)with z2 | z2
      ·have:=b3 i (lo+n-1) a1 (Be z2) (Bh z2);lia
      ·rw[show i=lo+n by exact Sx a2 z2];exact Qg _
    ·rw[show lo+(n+1)-1=lo+n by exact Bl,e];rcases Wn k (lo+n)with z | z
     ·exact b5 k (by lia) z
     ·rw[show k=lo+n by exact Bd a2 z];exact e
 ·rintro c st' s' ⟨n,q,rfl,K1,g1,b1,b2,b3,b4⟩;exact⟨n,q,rfl,K1,g1,b1,b3,b4⟩
 ·rintro c st' s' ⟨n,q,rfl,K1,g1,b1,b2,b3,b4,b5⟩;dsimp only;have sz:=K1.size;have last:∀ {st2:Vv},Kp lo st0 st2->ZmJ ϕ (Od st2) lo (lo+n)->kasC (Oc prog w) A E (do
    Ge lo (lo+n)
    let mut m:=n
    for _ in [m:nrem] do
     let some sm ←L3 (lo+m) (lo+m-1) | return none
     if sm then break
     m:=m+1
    return some m) Q st2 s':=fun {st2} K2 d2=>by
   have sz2:=K2.size;have hs2:lo+n<=(Od st2).size:=Bm hn b2 sz2
   dsimp only;refine kasC_bind (ZdX ?_);have K3:=K2.mir (i:=lo) (j:=lo+n) Sy hs2;have u3:UpTo ϕ (Od (GW st2 (OU (Od st2) lo (lo+n) ((lo+n-lo) / 2)))) lo (lo+n):=fun i j a1 a2 a3=>by
    show fx ϕ (OU (Od st2) _ _ _) i<=fx ϕ (OU (Od st2) _ _ _) j;rw[XV hs2,XV hs2,Vf (by omega),Vf (by omega)];exact d2 _ _ (by omega) (by omega) (by omega)
   generalize GW st2 (OU (Od st2) lo (lo+n) ((lo+n-lo) / 2))=st3 at *;have sz3:=K3.size;refine kasC_bind (Z1 (Q:=fun c st' s'=>∃ m,c=(none,m)/\st'=st3/\G s'/\1<=m/\m<=nrem/\UpTo ϕ (Od st3) lo (lo+m)) (Yh (fun t c st' s'=>∃ m,c=(none,m)/\st'=st3/\G s'/\1<=m/\m=t/\m<=nrem/\UpTo ϕ (Od st3) lo (lo+m)) ⟨n,rfl,rfl,g1,b1,rfl,b2,u3⟩ ?_ ?_) ?_)
   ·rintro t c st4 s4 ht ⟨m,rfl,rfl,g4,d1,rfl,d3,d4⟩;dsimp only;have htn:m<nrem:=M8 b2 ht
    have hsz:lo+m<(Od st4).size:=Bb hn htn sz3
    clear ht hn hnn h1 sz sz2 sz3 d3 K0 dn h g b5 b4 b3 b2;refine kasC_bind (ZeA R (K3.kind.trans hk) (ha.perm K3.perm) hsz (Bc hsz) g4 fun s5 g5=>?_);dsimp only;by_cases c:fx ϕ (Od st4) (lo+m)<fx ϕ (Od st4) (lo+m-1)
    ·rw[Vf (by simpa using c)];exact kasC_pure ⟨m,rfl,rfl,g5,d1,WK htn,d4⟩
    ·rw[if_neg (by simpa using c)];refine kasC_pure ⟨m+1,rfl,rfl,g5,Sc,rfl,htn,fun i j a1 a2 a3=>?_⟩;rcases Wn j (lo+m)with z | z
     ·exact d4 i j a1 a2 z
     ·have ej:j=lo+m:=Bd a3 z
      subst ej;rcases Wn i (lo+m)with z2 | z2
      ·have:=d4 i (lo+m-1) a1 (Be z2) (Bh z2);exact Bn this c
      ·rw[show i=lo+m by exact Sx a2 z2];exact Qg _
   ·rintro c st4 s4 ⟨m,rfl,rfl,g4,d1,rfl,d3,d4⟩;exact⟨_,rfl,rfl,g4,d1,d3,d4⟩
   ·rintro c st4 s4 ⟨m,rfl,rfl,g4,d1,d3,d4⟩;exact kasC_pure (h m st4 s4 d1 d3 K3 d4 g4)
  by_cases cq:q>0
  ·rw[Vf cq];refine kasC_bind (ZdX (last (K1.mir (Bj b4) (Bm hn b2 sz)) fun i j a1 a2 a3=>?_));show fx ϕ (OU (Od st') _ _ _) j<=fx ϕ (OU (Od st') _ _ _) i;rw[meq (Bm hn b2 sz) b5,meq (Bm hn b2 sz) b5];exact b3 i j a1 a2 a3
  ·rw[if_neg cq];exact last K1 b3
theorem Zij (R:Jq prog w A κ ϕ U G) {lo nrem} {st:Vv} (hk:VE st=κ) (ha:Al U (Od st)) (hn:lo+nrem<=(Od st).size) (h1:1<=nrem) (g:G s)
  (h:∀ n st' s',1<=n->n<=nrem->Kp lo st st'->UpTo ϕ (Od st') lo (lo+n)->G s'->Q (some n) st' s'):kasC (Oc prog w) A E (countRun' lo nrem) Q st s:=by
 rw[countRun'_eq];dsimp only;refine kasC_bind (Z1 (Q:=fun c st' s'=>∃ m,c=(none,m)/\st'=st/\G s'/\1<=m/\m<=nrem/\UpTo ϕ (Od st) lo (lo+m)/\(m=nrem\/fx ϕ (Od st) (lo+m)<fx ϕ (Od st) (lo+m-1))) (Yh (fun t c st' s'=>∃ m,c=(none,m)/\st'=st/\G s'/\1<=m/\m=t/\m<=nrem/\UpTo ϕ (Od st) lo (lo+m)) ⟨1,rfl,rfl,g,Sy,rfl,h1,fun i j a1 a2 a3=>by grind⟩ ?_ ?_) ?_)
 ·rintro t c st4 s4 ht ⟨m,rfl,rfl,g4,d1,rfl,d3,d4⟩;dsimp only;have htn:m<nrem:=M8 h1 ht
  have hsz:lo+m<(Od st4).size:=Eb hn htn
  clear ht hn h1 d3 g h;refine kasC_bind (ZeA R hk ha hsz (Bc hsz) g4 fun s5 g5=>?_);dsimp only;by_cases c:fx ϕ (Od st4) (lo+m)<fx ϕ (Od st4) (lo+m-1)
  ·rw[Vf (by simpa using c)];exact kasC_pure ⟨m,rfl,rfl,g5,d1,WK htn,d4,.inr c⟩
  ·rw[if_neg (by simpa using c)];refine kasC_pure ⟨m+1,rfl,rfl,g5,Sc,rfl,htn,fun i j a1 a2 a3=>?_⟩;rcases Wn j (lo+m)with z | z
   ·exact d4 i j a1 a2 z
   ·have ej:j=lo+m:=Bd a3 z
    subst ej;rcases Wn i (lo+m)with z2 | z2
    ·have:=d4 i (lo+m-1) a1 (Be z2) (Bh z2);exact Bn this c
    ·rw[show i=lo+m by exact Sx a2 z2];exact Sy
 ·rintro c st4 s4 ⟨m,rfl,rfl,g4,d1,rfl,d3,d4⟩;exact⟨_,rfl,rfl,g4,d1,d3,d4,.inl (by lia)⟩
 ·rintro c st4 s4 ⟨m,rfl,rfl,g4,d1,d3,d4,d5⟩;dsimp only;by_cases c1:m=nrem
  ·rw[Vf (by simpa using c1)];exact kasC_pure (h m st4 s4 d1 d3 (Kp.refl _ _) d4 g4)
  rw[if_neg (by simpa using c1)];have hlt:=d5.resolve_left c1;replace c1:m<nrem:=Ec d3 c1
  have hsz:lo+m<(Od st4).size:=Eb hn c1
  clear d5 h1;by_cases c2:m>1
  ·rw[Vf c2];refine kasC_bind (ZeA R hk ha (Sz hsz) (Bc hsz) g4 fun s5 g5=>?_);dsimp only;by_cases c3:fx ϕ (Od st4) lo<fx ϕ (Od st4) (lo+m-1)
   ·rw[Vf (by simpa using c3)];exact kasC_pure (h m st4 s5 d1 d3 (Kp.refl _ _) d4 g5)
   ·rw[if_neg (by simpa using c3)];have hall:∀ k,lo<=k->k<lo+m->fx ϕ (Od st4) k=fx ϕ (Od st4) (lo+m-1):=fun k a1 a2=>by
     have z1:=d4 lo k Sy a1 a2;have z2:=d4 k (lo+m-1) a1 (Be a2) (by omega);lia
    refine kasC_bind (ZdX (ZgC R hk ha hn d1 c1 ((Kp.refl lo st4).mir Sy (Bk hsz)) ?_ g5 h));have meq:∀ k,fx ϕ (OU (Od st4) lo (lo+m) ((lo+m-lo) / 2)) k=fx ϕ (Od st4) k:=fun k=>by
     rw[XV (Bk hsz)];split
     ·rw[hall _ (N5 ‹_›) (N7 ‹_›),hall k (by omega) (by omega)]
     ·rfl
    intro i j a1 a2 a3;show fx ϕ (OU (Od st4) _ _ _) j<=fx ϕ (OU (Od st4) _ _ _) i;rw[meq,meq];rcases Wn j (lo+m)with z | z
    ·rw[hall i a1 (Su z a2),hall j (Km a2 a1) z];exact Sy
    ·have ej:j=lo+m:=by lia
     subst ej;rcases Wn i (lo+m)with z2 | z2
     ·rw[hall i a1 z2];exact Bk hlt
     ·rw[show i=lo+m by exact Sx a2 z2];exact Sy
  ·rw[if_neg c2];have hm:m=1:=by lia
   subst hm;refine ZgC R hk ha hn d1 c1 (Kp.refl lo st4) ?_ g4 h;intro i j a1 a2 a3;rcases Wn i j with z | z
   ·have e1:i=lo:=by lia
    have e2:j=lo+1:=by lia
    subst e1 e2;rw[UR]at hlt;exact Bk hlt
   ·rw[show i=j by exact Sx a2 z];exact Qg _
theorem Zmf (R:Jq prog w A κ ϕ U G) {lo n ok} {st0 st:Vv} (hk:VE st0=κ) (ha:Al U (Od st0)) (hn:lo+n<=(Od st0).size) (hok:ok<=n) (K0:Kp lo st0 st) (up:UpTo ϕ (Od st) lo (lo+ok)) (g:G s)
  (h:∀ st' s',Kp lo st0 st'->UpTo ϕ (Od st') lo (lo+n)->G s'->Q true st' s'):kasC (Oc prog w) A E (binarySort' lo n ok) Q st s:=by
 rw[binarySort'_eq];dsimp only;refine kasC_bind (Z1 (Q:=fun c st' s'=>c=(none,())/\Kp lo st0 st'/\G s'/\UpTo ϕ (Od st') lo (lo+n)) (Yh (fun k c st' s'=>c=(none,())/\max ok 1<=k/\Kp lo st0 st'/\G s'/\UpTo ϕ (Od st') lo (lo+min k n)) ⟨rfl,Qg _,K0,g,fun i j a1 a2 a3=>?_⟩ ?_ ?_) ?_)
 ·by_cases h1:ok=0
  ·rw[show i=j by lia];exact Sy
  ·exact up i j a1 a2 (by lia)
 ·rintro k c st1 s1 hkk ⟨rfl,hk1,K1,g1,u1⟩;have sz:=K1.size;have hkn:k<n:=by omega
  rw[show min k n=k by exact Ey hkn]at u1;have hkm:RK->max ok 1<=k+1:=fun _=>Kh hk1
  have hks0:lo+k<(Od st1).size:=Bb hn hkn sz
  clear hkk hk1 hok hn sz up;refine kasC_bind (Z1 (Q:=fun c st' s'=>st'=st1/\G s'/\∃ l r,c=(none,l,r)/\l<=k/\(∀ i,lo<=i->i<lo+l->fx ϕ (Od st1) i<=fx ϕ (Od st1) (lo+k))/\(∀ i,lo+l<=i->i<lo+k->fx ϕ (Od st1) (lo+k)<fx ϕ (Od st1) i))
   (Yh (fun x c st' s'=>st'=st1/\G s'/\∃ l r,c=(none,l,r)/\l<=r/\r<=k/\r-l<=k-x/\(∀ i,lo<=i->i<lo+l->fx ϕ (Od st1) i<=fx ϕ (Od st1) (lo+k))/\(∀ i,lo+r<=i->i<lo+k->fx ϕ (Od st1) (lo+k)<fx ϕ (Od st1) i))
    ⟨rfl,g1,0,k,rfl,Ko,Sy,Sy,fun i a1 a2=>by lia,fun i a1 a2=>(Ez a1 a2).elim⟩ ?_ ?_) ?_)
  ·rintro x c st2 s2 hx ⟨rfl,g2,l,r,rfl,b1,b2,b3,b4,b5⟩;dsimp only;by_cases hge:l≥r
   ·rw[Vf hge];have:l=r:=Sx b1 hge
    subst this;exact kasC_pure ⟨rfl,g2,l,l,rfl,b2,b4,b5⟩
   ·rw[if_neg hge];refine kasC_bind (ZeA R (K1.kind.trans hk) (ha.perm K1.perm) hks0 (by lia) g2 fun s3 g3=>?_);dsimp only;by_cases c:fx ϕ (Od st2) (lo+k)<fx ϕ (Od st2) (lo+(l+r) / 2)
    ·rw[Vf (by simpa using c)];refine kasC_pure ⟨rfl,g3,l,(l+r) / 2,rfl,by lia,by lia,by omega,b4,fun i a1 a2=>?_⟩;exact QL c (u1 _ _ Ka a1 a2)
    ·rw[if_neg (by simpa using c)];refine kasC_pure ⟨rfl,g3,(l+r) / 2+1,r,rfl,by lia,b2,by omega,fun i a1 a2=>?_,b5⟩;exact QK (u1 i (lo+(l+r) / 2) a1 (by lia) (by lia)) (UX.mp c)
  ·rintro c st2 s2 ⟨rfl,g2,l,r,rfl,b1,b2,b3,b4,b5⟩;have:l=r:=Ep b1 b3
   subst this;exact⟨rfl,g2,l,l,rfl,b2,b4,b5⟩
  ·rintro c st2 s2 ⟨rfl,g2,l,r,rfl,b1,b2,b3⟩;dsimp only;rw[moveDown'_eq];refine kasC_bind (kasC_modify (kasC_pure ⟨rfl,hkm trivial,K1.bub hks0 E1 (by omega),g2,?_⟩));have hks:=hks0;clear hkn hkm;intro i j a1 a2 a3;rw[ZbY hks E1,ZbY hks E1,show lo+k-(lo+k-(lo+l))=lo+l by omega]
   repeat' split
   all_goals first
    | (exfalso;lia)
    | exact Qg _
    | exact b2 _ (by omega) (by lia)
    | exact WK (b3 _ (by omega) (by omega))
    | exact u1 _ _ (by omega) (by omega) (by lia)
 ·rintro c st1 s1 ⟨rfl,hk1,K1,g1,u1⟩;refine⟨rfl,K1,g1,?_⟩
  rwa [show min (max (max ok 1) n) n=n by lia]at u1
 ·rintro c st1 s1 ⟨rfl,K1,g1,u1⟩;exact kasC_pure (h st1 s1 K1 u1 g1)
end
section
variable {ϕ:Oe->Vg}
theorem ZjF (e:a.toList=P++X++S) (u:Up ϕ X):UpTo ϕ a P.length (P.length+X.length):=by
 have ix:∀ k (hk:k<X.length),fx ϕ a (P.length+k)=ϕ X[k]:=fun k hk=>by
  refine ZbZ ?_;rw[←QT,e,QH,Qy Ka,Uv,QA hk];simp
 intro i j a1 a2 a3;obtain⟨x,rfl⟩:∃ x,i=P.length+x:=⟨i-P.length,Kj a1⟩
 obtain⟨y,rfl⟩:∃ y,j=P.length+y:=⟨j-P.length,by omega⟩
 rw[ix x (by omega),ix y _];rcases Wn x y with c | c
 ·exact Q9.mp u x y _ (by omega) c
 ·have:x=y:=by lia
  subst this;exact Sy
theorem ZlP (h:UpTo ϕ a p (p+n)) (hn:p+n<=a.size):Up ϕ ((a.toList.drop p).take n):=by
 refine Q9.mpr fun i j hi hj hij=>?_;have hl:((a.toList.drop p).take n).length=n:=by rw[QE,Wa,Qw];exact F0 hn
 have ix:∀ k (hk:k<((a.toList.drop p).take n).length),fx ϕ a (p+k)=ϕ ((a.toList.drop p).take n)[k]:=fun k hk=>by
  have hk2:=by omega
  refine ZbZ ?_;simp
 rw[←ix i hi,←ix j hj];exact h _ _ Ka (by lia) (by lia)
def Runs (ϕ:Oe->Vg) (a:Vm Oe):Vd (Vg×Vg×Vg)->Vg->Vg->Prop
 | [],p,q=>p=q
 | x::l,p,q=>x.1=p/\1<=x.2.1/\UpTo ϕ a p (p+x.2.1)/\Runs ϕ a l (p+x.2.1) q
theorem Runs.le:∀ {l} {p q},Runs ϕ a l p q->p+l.length<=q
 | [],p,q,h=>by
  have:p=q:=h;simp[this]
 | x::l,p,q,h=>by
  have:=Runs.le h.2.2.2;have:=h.2.1;simp[QC];lia
theorem Runs.congr:∀ {l} {p q},Runs ϕ a l p q->(∀ i,p<=i->i<q->fx ϕ b i=fx ϕ a i)->Runs ϕ b l p q
 | [],_,_,h,_=>h
 | x::l,p,q,h,e=>by
  have hle:=Runs.le h.2.2.2;refine⟨h.1,h.2.1,fun i j a1 a2 a3=>?_,h.2.2.2.congr fun i a1 a2=>e i (Kl a1) a2⟩;rw[e i a1 (by lia),e j (Km a2 a1) (by lia)];exact h.2.2.1 i j a1 a2 a3
theorem Runs.app:∀ {l m} {p q},Runs ϕ a (l++m) p q->∃ r,Runs ϕ a l p r/\Runs ϕ a m r q
 | [],m,p,q,h=>⟨p,rfl,h⟩
 | x::l,m,p,q,h=>by
  obtain⟨r,h1,h2⟩:=Runs.app h.2.2.2;exact⟨r,⟨h.1,h.2.1,h.2.2.1,h1⟩,h2⟩
theorem Runs.join:∀ {l m} {p q r},Runs ϕ a l p r->Runs ϕ a m r q->Runs ϕ a (l++m) p q
 | [],m,p,q,r,h,k=>by
  have:p=r:=h
  grind
 | x::l,m,p,q,r,h,k=>⟨h.1,h.2.1,h.2.2.1,Runs.join h.2.2.2 k⟩
theorem Runs.mod (hf:∀ x,(f x).1=x.1/\(f x).2.1=x.2.1):∀ {l} {p q} (k),Runs ϕ a l p q->Runs ϕ a (l.modify k f) p q
 | [],p,q,k,h=>by rw[List.modify_nil];omega
 | x::l,p,q,0,h=>by
  refine⟨(hf x).1.trans h.1,by rw[(hf x).2];exact h.2.1,by rw[(hf x).2];exact h.2.2.1,by rw[(hf x).2];exact h.2.2.2⟩
 | x::l,p,q,k+1,h=>⟨h.1,h.2.1,h.2.2.1,Runs.mod hf k h.2.2.2⟩
end
theorem ZdE:∀ (r) (a:Vm Oe) (p k),p+k+r.length<=a.size->((r.zipIdx k).foldl (fun a x=>a.setIfInBounds (p+x.2) x.1) a).toList=a.toList.take (p+k)++r++a.toList.drop (p+k+r.length)
 | [],a,p,k,h=>by simp
 | x::r,a,p,k,h=>by
  rw[List.zipIdx_cons,U3];simp[QC]at h;rw[ZdE r _ p _ (by rw[Array.size_setIfInBounds];omega)];have hk:p+k<a.toList.length:=by rw[Qw];omega
  rw[US,List.set_eq_take_append_cons_drop,Vf hk];have e1:(a.toList.take (p+k)).length=p+k:=by rw[QE];exact Ey hk
  have e2:(a.toList.take (p+k)++x::a.toList.drop (p+k+1)).take (p+(k+1))=a.toList.take (p+k)++[x]:=by
   rw[List.take_append,e1,show p+(k+1)-(p+k)=1 by lia,QZ (by omega)];rfl
  have e3:(a.toList.take (p+k)++x::a.toList.drop (p+k+1)).drop (p+(k+1)+r.length)=a.toList.drop (p+k+(x::r).length):=by
   rw[List.drop_append,e1,List.drop_of_length_le (by omega),Uq,show p+(k+1)+r.length-(p+k)=r.length+1 by lia,List.drop_succ_cons,Ug];congr 1;simp[QC];lia
  rw[e2,e3];simp
theorem Zib (i):mergeAt' i=(do
 let z ←get
 let (some (sa,na,pw),some (sb,nb,_)):=((Oq z)[i]?,(Oq z)[i+1]?) | unsupported "internal:list.sort.pending"
 set (GH z (((Oq z).setIfInBounds i (sa,na+nb,pw)).eraseIdxIfInBounds (i+1)))
 let some k ←Za8 false (←OK (Od z) sb) (Od z) sa na 0 | return false
 let (sc,nc):=(sa+k,na-k)
 if nc==0 then return true
 let some nd ←Za8 true (←OK (Od z) (sc+nc-1)) (Od z) sb nb (nb-1) | return false
 if nd==0 then return true
 let x:=(Od z).extract sc sb
 let y:=(Od z).extract sb (sb+nd)
 let r ←if nc<=nd then Zkw x y else Zkx x y
 modify fun z=>GW z (r.toList.zipIdx.foldl (fun a (p,j)=>a.setIfInBounds (sc+j) p) (Od z))
 return (OI (←get)).isNone):=rfl
section
variable {prog:Oh} {w:Oi} {A:VA} {E:Vi->Vh->Prop} {κ:OW} {ϕ:Oe->Vg} {U:Oe->Prop} {G:Vh->Prop}
theorem Zik {Q} {st:σ} (h:Q ⟨⟩ t s):kasC M A E (set t) Q st s:=Ob h
structure Jn (κ:OW) (ϕ:Oe->Vg) (a₀:Vm Oe) (q:Vg) (l:Vd (Vg×Vg×Vg)) (st:Vv):Prop where
 kind:VE st=κ
 fail:OI st=none
 perm:(Od st).Perm a₀
 pend:(Oq st).toList=l
 runs:Runs ϕ (Od st) l 0 q
theorem X6 {l:Vd Oe} (hl:l.length=N) (h:p+n<=N):((l.drop p).take n).length=n:=by
 rw[QE,Wa];lia
theorem Zgz (R:Jq prog w A κ ϕ U G) {st} (ha:Al U a₀) (J:Jn κ ϕ a₀ q l st) (hq:q<=a₀.size) (hi:i+1<l.length) (g:G s)
  (h:∀ l' st' s',l'.length+1=l.length->Jn κ ϕ a₀ q l' st'->(∀ k,q<=k->fx ϕ (Od st') k=fx ϕ (Od st) k)->G s'->Q true st' s'):kasC (Oc prog w) A E (mergeAt' i) Q st s:=by
 obtain⟨l1,x,y,l2,e,e1⟩:∃ l1 x y l2,l=l1++x::y::l2/\l1.length=i :=
  ⟨l.take i,l[i],l[i+1],l.drop (i+2),by
   simp,by rw[QE];lia⟩
 obtain⟨sa,na,pw⟩:=x;obtain⟨sb,nb,pv⟩:=y;obtain⟨r,r1,r2⟩:=Runs.app (e▸J.runs);obtain⟨z1,z2,z3,z4,z5,z6,z7⟩:=r2;dsimp only at z1 z2 z3 z4 z5 z6 z7;subst z1;subst z4;have sz:(Od st).size=a₀.size:=J.perm.size_eq;have al:Al U (Od st):=ha.perm J.perm;have hle:=z7.le;have p1:(Oq st)[i]?=some (sa,na,pw):=by
  rw[←QT,J.pend,e,←e1,Qy (Qg _),Wv];rfl
 have p2:(Oq st)[i+1]?=some (sa+na,nb,pv):=by
  rw[←QT,J.pend,e,←e1,Qy Ka,Uv];rfl
 have p3:(((Oq st).setIfInBounds i (sa,na+nb,pw)).eraseIdxIfInBounds (i+1)).toList=l1++(sa,na+nb,pw)::l2:=by
  rw[Array.toList_eraseIdxIfInBounds,US,J.pend,e,←e1,List.set_append_right _ _ (Qg _),Wv,List.eraseIdx_append_of_length_le Ka,Uv];rfl
 have fin:∀ (a':Vm Oe),a'.Perm (Od st)->(∀ k,k<sa->fx ϕ a' k=fx ϕ (Od st) k)->(∀ k,sa+na+nb<=k->fx ϕ a' k=fx ϕ (Od st) k)->UpTo ϕ a' sa (sa+(na+nb))->∀ (st':Vv) (s':Vh),VE st'=κ->OI st'=none->Od st'=a'->Oq st'=((Oq st).setIfInBounds i (sa,na+nb,pw)).eraseIdxIfInBounds (i+1)->G s'->Q true st' s':=by
  intro a' q1 q2 q3 q4 st' s' q5 q6 q7 q8 g';subst q7;refine h (l1++(sa,na+nb,pw)::l2) st' s' (by rw[e];simp only[Qh,QC];lia) ⟨q5,q6,q1.trans J.perm,by simp_all,?_⟩ (fun k hk=>q3 k (Ky hk hle)) g';refine(r1.congr fun k b1 b2=>q2 k b2).join ⟨rfl,by show 1<=na+nb;exact Bo z5,q4,?_⟩;show Runs ϕ (Od st') l2 (sa+(na+nb)) q;rw[←Rg];exact z7.congr fun k b1 b2=>q3 k b1
 have hsz:sa+na+nb<=a₀.size:=Ky hq hle
 clear hi e1 hq hle h p3 r1 z7;rw[Zib];refine kasC_bind (kasC_get ?_);rw[p1,p2];dsimp only;refine kasC_bind (Zik ?_);obtain⟨y0,hy0,hdy0⟩:=at_ (show sa+na<(Od st).size by omega);have kd:VE (GH st (((Oq st).setIfInBounds i (sa,na+nb,pw)).eraseIdxIfInBounds (i+1)))=κ:=J.kind;generalize hst:GH st (((Oq st).setIfInBounds i (sa,na+nb,pw)).eraseIdxIfInBounds (i+1))=st1 at *;have ar1:Od st1=Od st:=by rw[←hst]
 have pe1:Oq st1=((Oq st).setIfInBounds i (sa,na+nb,pw)).eraseIdxIfInBounds (i+1):=by rw[←hst]
 have fa1:OI st1=none:=by rw[←hst];exact J.fail
 have seg:∀ p n,UpTo ϕ (Od st) p (p+n)->p+n<=a₀.size->Up ϕ (((Od st).toList.drop p).take n):=fun p n u hn=>ZlP u (Bp hn sz);have sB:=seg _ _ z6 hsz;have sA:=seg _ _ z3 (Kl hsz);have cutL:∀ p n m,((Od st).toList.drop p).take (n+m)=((Od st).toList.drop p).take n++((Od st).toList.drop (p+n)).take m:=fun p n m=>by
  rw[Rh,Ug]
 have lenL:RK->(Od st).toList.length=a₀.size:=fun _=>by omega
 refine kasC_bind (ZH hy0 (kasC_bind (Zaw R kd (al _ _ hy0) al (by omega) (Bq z2) z3 g fun k s1 hk1 l1' l2' g1=>?_)));dsimp only;have upB:∀ v∈((Od st).toList.drop (sa+na)).take nb,ϕ y0<=ϕ v:=by
  obtain⟨nb',rfl⟩:∃ m,nb=m+1:=⟨nb-1,Ty z5⟩
  rw[hdy0,List.take_succ_cons]at sB ⊢;exact Ju sB
 by_cases c1:na-k=0
 ·rw[Vf (by simpa using c1)];have k0:k=na:=Br hk1 c1
  subst k0;refine kasC_pure (fin (Od st) (NI _) (fun _ _=>rfl) (fun _ _=>rfl) ?_ st1 s1 kd fa1 ar1 pe1 g1);have u:Up ϕ (((Od st).toList.drop sa).take (k+nb)):=by
   rw[cutL];exact QS.mpr ⟨sA,sB,fun u hu v hv=>QK (l1' u hu) (upB v hv)⟩
  have:=ZjF (ϕ:=ϕ) (a:=Od st) (P:=(Od st).toList.take sa) (S:=(Od st).toList.drop (sa+(k+nb))) (by rw[QH,←Ug,Wd,Wd]) u;rw[QE,lenL trivial,RA (Bs hsz),X6 (lenL trivial) (Bt hsz)]at this;omega
 rw[if_neg (by simpa using c1)];replace c1:k<na:=by omega
 rw[show sa+k+(na-k)-1=sa+na-1 by lia];obtain⟨xl,hxl,hdxl⟩:=atL (show sa+na-1<(Od st).size by omega);have upA:∀ v∈((Od st).toList.drop sa).take na,ϕ v<=ϕ xl:=by
  have:((Od st).toList.drop sa).take na=((Od st).toList.drop sa).take (na-1)++[xl]:=by
   have e9:∃ m,na=m+1:=⟨na-1,Ty z2⟩
   obtain⟨m,rfl⟩:=e9;rw[cutL,UR];congr 1;obtain⟨x9,hx9,hd9⟩:=at_ (show sa+m<(Od st).size by lia);rw[hd9];have:x9=xl:=by
    rw[show sa+(m+1)-1=sa+m by exact Bl,hx9]at hxl;exact Vu hxl
   rw[this];rfl
  rw[this]at sA ⊢;exact Jt sA
 refine kasC_bind (ZH hxl (kasC_bind (Zaw R kd (al _ _ hxl) al (Bp hsz sz) (Bu z5) z6 g1 fun nd s2 hnd m1 m2 g2=>?_)));dsimp only;by_cases c2:nd=0
 ·rw[Vf (by simpa using c2)];subst c2;refine kasC_pure (fin (Od st) (NI _) (fun _ _=>rfl) (fun _ _=>rfl) ?_ st1 s2 kd fa1 ar1 pe1 g2);have u:Up ϕ (((Od st).toList.drop sa).take (na+nb)):=by
   rw[cutL];exact QS.mpr ⟨sA,sB,fun u hu v hv=>QK (upA u hu) (m2 v (by simpa using hv))⟩
  have:=ZjF (ϕ:=ϕ) (a:=Od st) (P:=(Od st).toList.take sa) (S:=(Od st).toList.drop (sa+(na+nb))) (by rw[QH,←Ug,Wd,Wd]) u;rw[QE,lenL trivial,RA (Bs hsz),X6 (lenL trivial) (Bt hsz)]at this;exact this
 rw[if_neg (by simpa using c2)];replace c2:0<nd:=Bv c2
 have ex1:((Od st).extract (sa+k) (sa+na)).toList=((Od st).toList.drop (sa+k)).take (na-k):=by
  rw[←Ziy,show sa+k+(na-k)=sa+na by omega]
 have ex2:((Od st).extract (sa+na) (sa+na+nd)).toList=((Od st).toList.drop (sa+na)).take nd:=Ziy _ _ _;have sz1:RK->((Od st).extract (sa+k) (sa+na)).size=na-k:=fun _=>by rw[Ro];lia
 have sz2:RK->((Od st).extract (sa+na) (sa+na+nd)).size=nd:=fun _=>by rw[Ro];lia
 have al':∀ p q',Al U ((Od st).extract p q'):=fun p q' i x hx=>by
  rw[Uy]at hx;split at hx
  ·exact al _ _ hx
  ·cases hx
 have u1:Up ϕ ((Od st).extract (sa+k) (sa+na)).toList:=by
  rw[ex1];exact seg _ _ (z3.sub Ka (by lia)) (Bw hsz c1)
 have u2:Up ϕ ((Od st).extract (sa+na) (sa+na+nd)).toList:=by
  rw[ex2];exact seg _ _ (z6.sub Sy (Bx hnd)) (By hsz hnd)
 have q0:∀ y,((Od st).extract (sa+na) (sa+na+nd))[0]?=some y->∀ x∈((Od st).extract (sa+k) (sa+na)).toList,ϕ y<=ϕ x:=fun y hy x hx=>by
  rw[Uy,Vf (by lia),Rm,hy0]at hy;rw[←Vu hy];rw[ex1]at hx;exact l2' x hx
 have q1:∀ x,((Od st).extract (sa+k) (sa+na))[((Od st).extract (sa+k) (sa+na)).size-1]?=some x->∀ y∈((Od st).extract (sa+na) (sa+na+nd)).toList,ϕ y<=ϕ x:=fun x hx y hy=>by
  rw[sz1 trivial,Uy,Vf (by lia),show sa+k+(na-k-1)=sa+na-1 by lia,hxl]at hx;rw[←Vu hx];rw[ex2]at hy;exact m1 y hy
 have last:∀ (r:Vm Oe) (st':Vv) (s':Vh),Sim st1 st'->G s'->Ok ϕ ((Od st).extract (sa+k) (sa+na)) ((Od st).extract (sa+na) (sa+na+nd)) r->kasC (Oc prog w) A E (do
   modify fun z=>GW z (r.toList.zipIdx.foldl (fun a (p,j)=>a.setIfInBounds (sa+k+j) p) (Od z))
   return (OI (←get)).isNone) Q st' s':=by
  intro r st' s' S' g' O;refine kasC_bind (kasC_modify (kasC_bind (kasC_get (kasC_pure ?_))));have fz:OI st'=none:=S'.2.2.2.trans fa1;show Q (OI st').isNone _ _;rw[fz];have az:Od st'=Od st:=S'.2.1.trans ar1;obtain⟨O1,O2⟩:=O;have lr:RK->r.toList.length=na-k+nd:=fun _=>by
   rw[O2.length_eq,Qh,Qw,Qw,sz1 trivial,sz2 trivial]
  have pu:=ZdE r.toList (Od st) (sa+k) 0 (by rw[lr trivial];lia);rw[Rm,lr trivial,show sa+k+(na-k+nd)=sa+na+nd by omega]at pu;have lr':k+r.toList.length=na+nd:=by rw[lr trivial];omega
  rw[ex1,ex2]at O2;obtain⟨P,hP⟩:∃ z,(Od st).toList.take sa=z:=⟨_,rfl⟩
  obtain⟨A1,hA1⟩:∃ z,((Od st).toList.drop sa).take k=z:=⟨_,rfl⟩
  rw[hA1]at l1';obtain⟨A2,hA2⟩:∃ z,((Od st).toList.drop (sa+k)).take (na-k)=z:=⟨_,rfl⟩
  rw[hA2]at O2;obtain⟨B1,hB1⟩:∃ z,((Od st).toList.drop (sa+na)).take nd=z:=⟨_,rfl⟩
  rw[hB1]at O2;obtain⟨B2,hB2⟩:∃ z,((Od st).toList.drop (sa+na+nd)).take (nb-nd)=z:=⟨_,rfl⟩
  rw[hB2]at m2;obtain⟨S,hS⟩:∃ z,(Od st).toList.drop (sa+na+nb)=z:=⟨_,rfl⟩
  have hA:((Od st).toList.drop sa).take na=A1++A2:=by rw[←hA1,←hA2,←cutL,show k+(na-k)=na by exact Bz c1]
  have hB:((Od st).toList.drop (sa+na)).take nb=B1++B2:=by rw[←hB1,←hB2,←cutL,show nd+(nb-nd)=nb by exact B8 hnd]
  have hD:(Od st).toList.drop (sa+na+nd)=B2++S:=by
   rw[←hB2,←hS,show sa+na+nb=sa+na+nd+(nb-nd)by lia];exact Jo _ _ _
  have hT:(Od st).toList.take (sa+k)=P++A1:=by rw[←hP,←hA1,Rh]
  have hL:(Od st).toList=P++((A1++A2)++(B1++B2))++S:=by
   rw[←hA,←hB,←hP,←hS,←cutL,QH,Rg,←Jo,Wd]
  rw[hT,hD]at pu;have pL:P.length=sa:=by rw[←hP,QE,lenL trivial];lia
  have pA1:A1.length=k:=by rw[←hA1,X6 (lenL trivial) (by lia)]
  have pA2:k+A2.length=na:=by rw[←hA2,X6 (lenL trivial) (Bw hsz c1)];exact Bz c1
  have pB1:B1.length=nd:=by rw[←hB1,X6 (lenL trivial) (By hsz hnd)]
  have pB2:nd+B2.length=nb:=by rw[←hB2,X6 (lenL trivial) (by lia)];exact B8 hnd
  refine fin (r.toList.zipIdx.foldl (fun a (x:Oe×Vg)=>a.setIfInBounds (sa+k+x.2) x.1) (Od st)) ?_ ?_ ?_ ?_ _ _ (S'.1.trans kd) fz (by rw[←az]) (S'.2.2.1.trans pe1) g'
  ·refine Ww.mpr ?_;have e9:(r.toList++(B2++S)).Perm (A2++B1++(B2++S)):=O2.append_right _;rw[pu,hL];have f1:P++A1++r.toList++(B2++S)=P++(A1++(r.toList++(B2++S))):=by simp only[QH]
   have f2:P++(A1++A2++(B1++B2))++S=P++(A1++(A2++B1++(B2++S))):=by simp only[QH]
   rw[f1,f2];exact(e9.append_left A1).append_left P
  ·intro j hj;refine YA ?_;rw[←QT,←QT,pu,hL];simp only[QH];rw[QA (B9 hj pL),QA (B9 hj pL)]
  ·intro j hj;refine YA ?_;rw[←QT,←QT,pu,hL];have e1:P++A1++r.toList++(B2++S)=(P++A1++r.toList++B2)++S:=by simp only[QH]
   rw[e1,Qy (by simp only[Qh];omega),Qy (by simp only[Qh];omega)];congr 1;simp only[Qh];lia
  ·have uu:Up ϕ (A1++r.toList++B2):=by
    rw[hA]at sA;rw[hB]at sB;obtain⟨t1,t2,t3⟩:=QS.mp sA;obtain⟨t4,t5,t6⟩:=QS.mp sB;have m2':∀ u∈B2,ϕ xl<=ϕ u:=m2;rw[hA]at upA;rw[hB]at upB;have mm:∀ u∈r.toList,u∈A2\/u∈B1:=fun u hu=>QD.mp (O2.mem_iff.mp hu);refine QS.mpr ⟨QS.mpr ⟨t1,O1,fun u hu v hv=>?_⟩,t5,fun u hu v hv=>?_⟩
    ·rcases mm v hv with z | z
     ·exact t3 u hu v z
     ·exact QK (l1' u hu) (upB v (QI _ z))
    ·rcases QD.mp hu with z | z
     ·exact QK (upA u (QI _ z)) (m2' v hv)
     ·rcases mm u z with z' | z'
      ·exact QK (upA u (QF _ z')) (m2' v hv)
      ·exact t6 u z' v hv
   have:=ZjF (ϕ:=ϕ) (P:=P) (S:=S) (a:=r.toList.zipIdx.foldl (fun a (x:Oe×Vg)=>a.setIfInBounds (sa+k+x.2) x.1) (Od st)) (by rw[pu];simp only[QH]) uu;rw[pL,show(A1++r.toList++B2).length=na+nb by simp only[Qh];lia]at this;exact this
 by_cases c3:na-k<=nd
 ·rw[Vf c3];exact kasC_bind (Znq R kd (al' _ _) (al' _ _) u1 u2 (by rw[sz1 trivial];exact S7 c1) (by rw[sz2 trivial];exact c2) q0 q1 g2 last)
 ·rw[if_neg c3];exact kasC_bind (Znr R kd (al' _ _) (al' _ _) u1 u2 (by rw[sz1 trivial];lia) (by rw[sz2 trivial];exact c2) q0 q1 g2 last)
end
section
variable {prog:Oh} {w:Oi} {A:VA} {E:Vi->Vh->Prop} {κ:OW} {ϕ:Oe->Vg} {U:Oe->Prop} {G:Vh->Prop}
theorem Jn.kp {st st'} (J:Jn κ ϕ a₀ q l st) (K:Kp q st st'):Jn κ ϕ a₀ q l st' :=
 ⟨K.kind.trans J.kind,K.fail.trans J.fail,K.perm.trans J.perm,by rw[K.pend];exact J.pend,J.runs.congr fun i _ h=>YA (K.low i h)⟩
theorem Jn.mod {st} (J:Jn κ ϕ a₀ q l st) (hf:∀ x,(f x).1=x.1/\(f x).2.1=x.2.1):Jn κ ϕ a₀ q (l.modify k f) (GH st ((Oq st).modify k f)) :=
 ⟨J.kind,J.fail,J.perm,by rw[Array.toList_modify,J.pend],Runs.mod hf _ J.runs⟩
theorem Znt (c) [Ll c] (n):(if c then n-1 else n)<=n:=by grind
theorem ZkL {α β:Type} {code:β->V6 Vv MT α} {T} {Q} {st} (P:β->Vv->Vh->Prop)
  (main:(∀ x st s,P x st s->kasC (Oc prog w) A E (code x) Q st s)->kasC (Oc prog w) A E T Q st s) (tail:∀ x st s,P x st s->kasC (Oc prog w) A E (code x) Q st s):kasC (Oc prog w) A E T Q st s:=main tail
theorem ZkM (R:Jq prog w A κ ϕ U G) {st:Vv} (ha:Al U a₀) (hk:VE st=κ) (hf:OI st=none) (hp:Oq st= #[]) (har:Od st=a₀) (h2:1<=a₀.size) (g:G s)
  (h:∀ st' s',OI st'=none->(Od st').Perm a₀->Up ϕ (Od st').toList->G s'->Q () st' s'):kasC (Oc prog w) A E sortRuns' Q st s:=by
 rw[sortRuns'_eq];refine kasC_bind (kasC_get ?_);rw[har];dsimp only;have J0:Jn κ ϕ a₀ 0 [] st:=⟨hk,hf,by rw[har],by rw[hp],rfl⟩
 refine kasC_bind (Z1 (Q:=fun c st' s'=>∃ l,c=(none,a₀.size)/\Jn κ ϕ a₀ a₀.size l st'/\G s') (Yh (fun t c st' s'=>∃ lo l,c=(none,lo)/\t<=lo/\lo<=a₀.size/\Jn κ ϕ a₀ lo l st'/\G s')
  ⟨0,[],rfl,Sy,Ko,J0,g⟩ ?_ ?_) ?_)
 ·rintro t c st1 s1 ht ⟨lo,l,rfl,b1,b2,J1,g1⟩;dsimp only;by_cases c1:lo≥a₀.size
  ·rw[Vf c1];have:lo=a₀.size:=Sx b2 c1
   subst this;exact kasC_pure ⟨l,rfl,J1,g1⟩
  rw[if_neg c1];have sz:(Od st1).size=a₀.size:=J1.perm.size_eq;refine kasC_bind (Zij R J1.kind (ha.perm J1.perm) (by omega) (by omega) g1 fun n st2 s2 n1 n2 K2 u2 g2=>?_);dsimp only;apply ZkL (P:=fun n3 st3 s3=>(1<=n3/\lo+n3<=a₀.size)/\Kp lo st1 st3/\UpTo ϕ (Od st3) lo (lo+n3)/\G s3)
  ·intro tail;by_cases cn:n<minRun' a₀.size a₀.size 0
   rotate_left
   ·rw[if_neg cn];have hP:(fun n3 st3 s3=>(1<=n3/\lo+n3<=a₀.size)/\Kp lo st1 st3/\UpTo ϕ (Od st3) lo (lo+n3)/\G s3) n st2 s2:=⟨by omega,K2,u2,g2⟩
    revert hP;generalize n=n';exact fun hP=>tail n' st2 s2 hP
   ·rw[Vf cn];refine kasC_bind (Jc ?_);refine kasC_bind (Zmf R J1.kind (ha.perm J1.perm) (by omega) (by omega) K2 u2 g2 fun st3 s3 K3 u3 g3=>?_);rw[if_neg (by decide)];exact tail _ st3 s3 ⟨by omega,K3,u3,g3⟩
  clear n1 n2 K2 u2 g2;rintro n3 st3 s3 ⟨hn3,K3,u3,g3⟩;refine kasC_bind (kasC_get ?_);have J3:=J1.kp K3;have done:∀ (l':Vd (Vg×Vg×Vg)) (st4:Vv) (s4:Vh),Jn κ ϕ a₀ lo l' st4->UpTo ϕ (Od st4) lo (lo+n3)->G s4->∃ lo' l,((none:Vj VB),lo+n3)=(none,lo')/\t+1<=lo'/\lo'<=a₀.size/\Jn κ ϕ a₀ lo' l (GH st4 ((Oq st4).push (lo,n3,0)))/\G s4:=fun l' st4 s4 J4 u4 g4 =>
   ⟨lo+n3,l'++[(lo,n3,0)],rfl,by lia,by lia,⟨J4.kind,J4.fail,J4.perm,by show((Oq st4).push (lo,n3,0)).toList=_;rw[UV,J4.pend],J4.runs.join ⟨rfl,hn3.1,u4,rfl⟩⟩,g4⟩
  split
  ·refine kasC_bind (Z1 (Q:=fun c st' s'=>c=(none,())/\∃ l',Jn κ ϕ a₀ lo l' st'/\UpTo ϕ (Od st') lo (lo+n3)/\G s') (Yh (fun _ c st' s'=>c=(none,())/\∃ l',Jn κ ϕ a₀ lo l' st'/\UpTo ϕ (Od st') lo (lo+n3)/\G s') ⟨rfl,l,J3,u3,g3⟩ ?_ ?_) ?_)
   ·rintro _ c st4 s4 _ ⟨rfl,l',J4,u4,g4⟩;refine kasC_bind (kasC_get ?_);split
    ·rename_i hh;by_cases cp:(Oq st4).size>1
     ·split
      ·exact kasC_pure ⟨rfl,l',J4,u4,g4⟩
      ·refine kasC_bind (Zgz R ha J4 b2 (by rw[←J4.pend,Qw];omega) g4 fun l5 st5 s5 hl5 J5 e5 g5=>?_);rw[if_neg (by decide)];exact kasC_pure ⟨rfl,l5,J5,fun i j a1 a2 a3=>(by rw[e5 i a1,e5 j (Km a2 a1)];exact u4 i j a1 a2 a3),g5⟩
     ·rw[if_neg cp]at hh;cases hh
    ·exact kasC_pure ⟨rfl,l',J4,u4,g4⟩
   ·simp
   ·rintro c st4 s4 ⟨rfl,l',J4,u4,g4⟩;dsimp only;exact kasC_bind (kasC_modify (kasC_bind (kasC_modify (kasC_pure (done _ _ _ (J4.mod fun x=>⟨rfl,rfl⟩) u4 g4)))))
  ·exact kasC_bind (kasC_modify (kasC_pure (done l _ _ J3 u3 g3)))
 ·rintro c st1 s1 ⟨lo,l,rfl,b1,b2,J1,g1⟩;have:lo=a₀.size:=by lia
  subst this;exact⟨l,rfl,J1,g1⟩
 ·rintro c st1 s1 ⟨l,rfl,J1,g1⟩;dsimp only;refine kasC_bind (Z1 (Q:=fun c st' s'=>c=(none,())/\∃ l,l.length<=1/\Jn κ ϕ a₀ a₀.size l st'/\G s') (Yh (fun t c st' s'=>c=(none,())/\∃ l,(l.length<=1\/l.length+t<=a₀.size)/\Jn κ ϕ a₀ a₀.size l st'/\G s') ⟨rfl,l,?_,J1,g1⟩ ?_ ?_) ?_)
  ·have:=J1.runs.le;lia
  ·rintro t c st4 s4 ht ⟨rfl,l',hl',J4,g4⟩;refine kasC_bind (kasC_get ?_);have hsz:(Oq st4).size=l'.length:=by rw[←J4.pend,Qw]
   by_cases cp:(Oq st4).size<=1
   ·rw[Vf cp];exact kasC_pure ⟨rfl,l',Kd cp hsz,J4,g4⟩
   ·rw[if_neg cp];refine kasC_bind (Zgz R ha J4 (Qg _) ?_ g4 fun l5 st5 s5 hl5 J5 e5 g5=>?_)
    ·exact WP (Nat.succ_le_succ (Znt _ _)) (by omega)
    ·rw[if_neg (by decide)];exact kasC_pure ⟨rfl,l5,by lia,J5,g5⟩
  ·rintro c st4 s4 ⟨rfl,l',hl',J4,g4⟩;have:=J4.runs.le;exact⟨rfl,l',by lia,J4,g4⟩
  ·rintro c st4 s4 ⟨rfl,l',hl',J4,g4⟩;refine kasC_pure (h st4 s4 J4.fail J4.perm ?_ g4);have r4:=J4.runs;have sz:(Od st4).size=a₀.size:=J4.perm.size_eq;match l',hl',r4 with
   | [],_,r4 =>
    have:0=a₀.size:=r4;lia
   | [x],_,r4 =>
    obtain⟨q1,q2,q3,q4⟩:=r4;have q4:0+x.2.1=a₀.size:=q4;have:=ZlP (ϕ:=ϕ) (a:=Od st4) (p:=0) (n:=x.2.1) q3 (Kt q4 sz);rw[U8,QZ (by rw[Qw];lia)]at this;exact this
   | x::y::l',hl',_=>simp at hl'
end
structure WO (n:Vg) (lt:Vg->Vg->V0):Prop where
 irr:∀ i,i<n->lt i i=false
 tr:∀ i j k,i<n->j<n->k<n->lt i j=true->lt j k=true->lt i k=true
 ntr:∀ i j k,i<n->j<n->k<n->lt k j=true->lt k i=true\/lt i j=true
noncomputable def rk (n:Vg) (lt:Vg->Vg->V0) (i:Vg):Vg:=((Qu n).filter fun k=>lt k i).length
theorem YR {α:Type} {p q}:∀ (l:Vd α),(∀ x∈l,p x=true->q x=true)->(l.filter p).length<=(l.filter q).length
 | [],_=>Qg _
 | x::l,h=>by
  have ih:=YR l fun y hy=>h y (Qk _ hy);rw[Wf,Wf];by_cases c:p x=true
  rw[Vf c,Vf (h x (Qj ..) c)];simpa using ih;rw[if_neg c];split
  simp[QC];exact Kh ih;exact ih
theorem XR {α:Type} {p q}:∀ (l:Vd α),(∀ x∈l,p x=true->q x=true)->(∃ x∈l,p x=false/\q x=true)->(l.filter p).length<(l.filter q).length
 | [],_,⟨x,hx,_⟩=>nomatch hx
 | x::l,h,⟨y,hy,e1,e2⟩=>by
  have le:=YR l fun z hz=>h z (Qk _ hz);rw[Wf,Wf];rcases Qs.mp hy with z | z
  subst z;rw[if_neg (by rw[e1];decide),Vf e2];simp[QC];lia;have ih:=XR l (fun z hz=>h z (Qk _ hz)) ⟨y,z,e1,e2⟩;by_cases c:p x=true
  rw[Vf c,Vf (h x (Qj ..) c)];simpa using ih;rw[if_neg c];split
  simp[QC];exact Xo ih;exact ih
theorem WO.rk_lt (o:WO n lt) (hi:i<n) (hj:j<n):decide (rk n lt i<rk n lt j)=lt i j:=by
 cases c:lt i j with
 | true =>
  refine Vq (XR _ (fun k hk h=>o.tr k i j (Qr.mp hk) hi hj h c) ⟨i,Qr.mpr hi,o.irr i hi,c⟩)
 | false =>
  refine Vp (UX.mpr (YR _ fun k hk h=>?_));rcases o.ntr i j k hi hj (Qr.mp hk) h with z | z
  omega
  simp_all
theorem ZhQ {α β:Type} {f}:∀ {l:Vd β} {m},l.Perm m->∀ q,m=q.map f->∃ q':Vd α,q'.Perm q/\l=q'.map f:=by
 intro l m h;induction h with
 | nil =>
  simp
 | cons x _ ih =>
  intro q e;match q,e with
  | y::q,e =>
   injection e with e1 e2
   have⟨q',h1,h2⟩:=ih q e2;exact⟨_,h1.cons y,by rw[QV,h2,e1]⟩
 | swap x y l =>
  intro q e;match q,e with
  | a::b::q,e =>
   injection e with e1 e2
   injection e2 with e2 e3
   exact⟨_,List.Perm.swap ..,by simp only[QV];rw[e1,e2,e3]⟩
 | trans _ _ ih1 ih2 =>
  intro q e;have⟨q2,h1,h2⟩:=ih2 q e;have⟨q3,h3,h4⟩:=ih1 q2 h2;exact⟨q3,h3.trans h1,h4⟩
section
variable {prog:Oh} {w:Oi} {A:VA} {E:Vi->Vh->Prop} {s:Vh}
open Classical in
noncomputable def phi (vs:Vd Vi) (lt:Vg->Vg->V0) (x:Oe):Vg:=if h:∃ i,vs[i]?=some x.1 then rk vs.length lt (Td h)else 0
theorem list_sortW {vs:Vd Vi} (ho:s.heap.get? a=some (Gd "list" vs.toArray n)) (hz:vs.length<=Of) (o:WO vs.length lt)
  (same:∀ i j,i<vs.length->vs[i]?=vs[j]?->∀ k,lt k i=lt k j)
  (kd:∀ (h6) (Q),(∀ b o,b≠a->s.heap.get? b=some o->h6.get? b=some o)->2<=vs.length->Q κ {s with heap:=h6}->Og (Oc prog w) A (keyKind' vs.toArray) Q E {s with heap:=h6})
  (ask:∀ (h6) (tk i j) (x y) (C),(∀ b o,b≠a->s.heap.get? b=some o->h6.get? b=some o)->vs[i]?=some x->vs[j]?=some y->(∀ tk,C (lt i j) {s with heap:=h6,toks:=tk})->Og (Oc prog w) A (keyLt' κ x y) C (fun _ _=>False) {s with heap:=h6,toks:=tk})
  (h:∀ (h1) (tk c) (p),Srt.Pm vs.length p->(∀ i j,i<j->j<vs.length->lt (p.getD j 0) (p.getD i 0)=false)->(∀ b o,b≠a->s.heap.get? b=some o->h1.get? b=some o) ->
   h1.get? a=some (Gd "list" (p.toList.map fun i=>vs.getD i VI).toArray c)->P (.done (.ret .none)) {s with heap:=h1,toks:=tk}) :
  Og (Oc prog w) A (Nc.«list.sort» ⟨[.ref a],[]⟩) P E s:=by
 have ha:a<s.heap.objs.size:=Qn ho;rw[list_sort_plain];refine Oa (listItems_at ho rfl (Oa (MV ho rfl ?_ (by omega) (QQ _))));obtain⟨e1,ho1⟩:∃ e1,(s.heap.update a (VX fun _=>(#[]:Vm Vi))).get? a=some (Gd "list" #[] e1):=⟨_,Tp ho fun _=>#[]⟩
 have k1:∀ b o,b≠a->s.heap.get? b=some o->(s.heap.update a (VX fun _=>(#[]:Vm Vi))).get? b=some o:=fun b o hb q=>(QM _ _ (Vy hb)).trans q;refine Oa (Ti ho1 rfl (Oa (ME ?_ (by omega))));refine Oa (GD ?_ (QQ _));refine Om ?_;generalize hg:((s.heap.update a (VX fun _=>(#[]:Vm Vi))).push {cls:=.type "tuple",data:=.seq vs.toArray.toList.toArray}).push {cls:=.type "list",data:=.seq ([]:Vd Vi).toArray}=h6;have k6:∀ b o,b≠a->s.heap.get? b=some o->h6.get? b=some o:=fun b o hb q=>by
  rw[←hg];exact Qc _ (Qc _ (k1 b o hb q))
 have ho6:h6.get? a=some (Gd "list" #[] e1):=by
  rw[←hg];exact Qc _ (Qc _ ho1)
 show Og (Oc prog w) A _ P E {s with heap:=h6};dsimp only;have fin:∀ (tk:Vg) (p:Vm Vg) (out:Vm Vi),Srt.Pm vs.length p->(∀ i j,i<j->j<vs.length->lt (p.getD j 0) (p.getD i 0)=false)->out=(p.toList.map fun i=>vs.getD i VI).toArray ->
   ∃ c,(h6.update a (VX fun _=>out)).get? a=some (Gd "list" out c)/\out.size<=Of/\P (.done (.ret .none)) {s with heap:=h6.update a (VX fun _=>out),toks:=tk}:=fun tk p out hp hu ho'=>by
  have hc:=Tp ho6 fun _=>out;refine⟨_,hc,?_,h _ tk _ p hp hu (fun b o hb q=>(QM _ _ (Vy hb)).trans (k6 b o hb q)) (by rw[←ho'];omega)⟩;rw[ho',Qz,Qd,Qw,hp.size];exact hz
 have hr:vs=(Qu vs.length).map fun i=>vs.getD i VI:=by
  apply QW;intro i;simp only[Qi];by_cases hi:i<vs.length
  ·rw[Qa hi,QY hi,We,Qb,Qa hi];rfl
  ·rw[Qp (Kf hi),Qp (by simp;exact Kf hi)];rfl
 by_cases h2:vs.toArray.size<2
 ·rw[Vf h2,Vf h2];rw[Qz]at h2;obtain⟨c,f1,f2,f3⟩:=fin s.toks (Qu vs.length).toArray vs.toArray ⟨by simp,NI _⟩ (fun a b hab hb=>by omega) (VR List.toArray hr);refine Oa (Ob ?_);rw[StateT.run_pure];refine Oa (Ob ?_);have eo:(Od (SortSt.mk' general' (vs.toArray.zip vs.toArray) #[] 7 none)).map (·.2)=vs.toArray:=by
   show(vs.toArray.zip vs.toArray).map (·.2)=vs.toArray;apply Rv.mp;simp;exact List.map_snd_zip (Qg _)
  dsimp only;rw[eo];refine Oa (Ti ho6 rfl (Oa (MV ho6 rfl ?_ (QQ _) (UU f2))));simp only[RS,Us,MC];exact Ob f3
 ·rw[if_neg h2,if_neg h2];rw[Qz]at h2;have zl:(vs.toArray.zip vs.toArray).toList=(Qu vs.length).map fun i=>((vs.getD i VI,vs.getD i VI):Oe):=by
   rw[Array.toList_zip];show vs.zip vs=_;apply QW;intro i;simp only[Qi];by_cases hi:i<vs.length
   ·rw[QY hi,We,(List.getElem?_zip_eq_some (z:=(vs[i],vs[i]))).mpr ⟨Qa hi,Qa hi⟩,Qb,Qa hi];rfl
   ·rw[Qp (by simp;exact Kf hi),Qp (by simp;exact Kf hi)];rfl
  have zsz:(vs.toArray.zip vs.toArray).size=vs.length:=by simp
  have ph:∀ (i:Vg) (x:Oe),i<vs.length->x.1=vs.getD i VI->phi vs lt x=rk vs.length lt i:=fun i x hi e=>by
   have hx:∃ i,vs[i]?=some x.1:=⟨i,by rw[e,Qb,Qa hi];rfl⟩
   unfold phi;rw[Tt hx];have hc:=Classical.choose_spec hx;generalize Td hx=j at *;have hj:j<vs.length:=(Ql.mp hc).1;have ee:vs[j]?=vs[i]?:=by rw[hc,e,Qb,Qa hi];rfl
   unfold rk;congr 1;refine Rr fun k hk=>?_;exact same j i hj ee k
  refine Oa (kd h6 _ k6 (Kf h2) ?_);have R:Jq prog w A κ (phi vs lt) (fun x=>∃ i,i<vs.length/\x.1=vs.getD i VI) (fun s'=>∃ tk,s'={s with heap:=h6,toks:=tk}):=⟨fun x y C s' ⟨i,hi,ei⟩ ⟨j,hj,ej⟩ ⟨tk,g⟩ k=>by
   subst g;refine ask h6 tk i j x.1 y.1 C k6 (by rw[ei,Qb,Qa hi];rfl) (by rw[ej,Qb,Qa hj];rfl) fun tk'=>?_;rw[←o.rk_lt hi hj,←ph i x hi ei,←ph j y hj ej];exact k _ ⟨tk',rfl⟩⟩
  refine Oa (Oo (show kasC (Oc prog w) A E sortRuns' (fun _ st' s'=>OI st'=none/\(Od st').Perm (vs.toArray.zip vs.toArray)/\Up (phi vs lt) (Od st').toList/\∃ tk,s'={s with heap:=h6,toks:=tk}) (SortSt.mk' κ (vs.toArray.zip vs.toArray) #[] 7 none) {s with heap:=h6} from
   ZkM R (a₀:=vs.toArray.zip vs.toArray) (fun i x e=>?_) rfl rfl rfl rfl (by omega) ⟨s.toks,rfl⟩ fun st' s' a1 a2 a3 a4=>⟨a1,a2,a3,a4⟩) ?_ fun _ _ e=>e)
  ·have hi:i<vs.length:=by
    have:=(Array.getElem?_eq_some_iff.mp e).1;exact Kc zsz this
   rw[←QT,zl,Qi,QY hi]at e;cases e;exact⟨i,hi,rfl⟩
  ·rintro⟨⟨⟩,st'⟩ s' ⟨hf',hpm,hup,tk,rfl⟩;obtain⟨q,hq1,hq2⟩:=ZhQ (Ww.mp hpm) _ zl;have hqs:q.toArray.size=vs.length:=by rw[Qz,hq1.length_eq,QX]
   have hout:(Od st').map (·.2)=(q.toArray.toList.map fun i=>vs.getD i VI).toArray:=by
    apply Rv.mp;rw[Array.toList_map,hq2,Q0];rfl
   have up':∀ i j,i<j->j<vs.length->lt (q.toArray.getD j 0) (q.toArray.getD i 0)=false:=fun i j hij hj=>by
    rw[Qz]at hqs;have gi:∀ k (hk:k<q.length),q.toArray.getD k 0=q[k]/\q[k]<vs.length:=fun k hk=>⟨by rw[Ws,List.getElem?_toArray,Qa hk];rfl,Qr.mp (hq1.mem_iff.mp (QG hk))⟩
    obtain⟨ei,bi⟩:=gi i (Ha hj hij hqs);obtain⟨ej,bj⟩:=gi j (B9 hj hqs);rw[ei,ej,←o.rk_lt bj bi];refine Vp (UX.mpr ?_);rw[hq2]at hup;have:=Q9.mp (Wr.mp hup) i j (Ha hj hij hqs) (B9 hj hqs) hij;rw[ph _ _ bi rfl,ph _ _ bj rfl]at this;exact this
   obtain⟨c,f1,f2,f3⟩:=fin tk q.toArray _ ⟨hqs,Ww.mpr (by simpa using hq1)⟩ up' hout;dsimp only;refine Oa (Ti (s:={s with heap:=h6,toks:=tk}) ho6 rfl (Oa (MV (s:={s with heap:=h6,toks:=tk}) ho6 rfl ?_ (QQ _) (UU f2))));rw[hf'];simp only[RS,Us,MC];exact Ob f3
end
structure SortAs (prog:Oh) (w:Oi) (h1:Vz) (vs:Vd Vi) (lt:Vg->Vg->V0) (κ:OW):Prop where
 wo:WO vs.length lt
 same:∀ i j,i<vs.length->vs[i]?=vs[j]?->∀ k,lt k i=lt k j
 kd:∀ (A:VA) (E:Vi->Vh->Prop) (s:Vh) (Q:OW->Vh->Prop),(∀ b o,h1.get? b=some o->s.heap.get? b=some o)->2<=vs.length->Q κ s->Og (Oc prog w) A (keyKind' vs.toArray) Q E s
 ask:∀ (A:VA) (s:Vh) (i j:Vg) (x y:Vi) (C:V0->Vh->Prop),(∀ b o,h1.get? b=some o->s.heap.get? b=some o)->vs[i]?=some x->vs[j]?=some y->(∀ tk,C (lt i j) {s with toks:=tk})->Og (Oc prog w) A (keyLt' κ x y) C (fun _ _=>False) s
section
variable {prog:Oh} {w:Oi} {A:VA} {E:Vi->Vh->Prop} {s:Vh}
theorem sorted_all {Pc:Vz->Vd Vi->Prop}
  (col:∀ (R),(∀ h1 tk vs,(∀ b o,s.heap.get? b=some o->h1.get? b=some o)->Pc h1 vs->R vs {s with heap:=h1,toks:=tk})->Og (Oc prog w) A.in1 (Vc (.ref r)) R E s)
  (ord:∀ h1 vs,(∀ b o,s.heap.get? b=some o->h1.get? b=some o)->Pc h1 vs->vs.length<=Of/\SortAs prog w h1 vs lt κ)
  (fin:∀ h1 vs h3 tk c p,Pc h1 vs->(∀ b o,s.heap.get? b=some o->h3.get? b=some o)->(∀ b o,h1.get? b=some o->h3.get? b=some o)->(∀ b o,s.heap.get? b=some o->h1.get? b=some o)->Srt.Pm vs.length p->(∀ i j,i<j->j<vs.length->lt (p.getD j 0) (p.getD i 0)=false) ->
   h3.get? h1.objs.size=some (Gd "list" (p.toList.map fun i=>vs.getD i VI).toArray c)->s.heap.get? h1.objs.size=none->Q (.ref h1.objs.size) {s with heap:=h3,toks:=tk}) :
  Og (Oc prog w) A (call (.builtin "sorted") [.ref r]) Q E s:=by
 refine Np Tj RT RU (RV _) ?_;refine Oa (Ob ?_);refine Oa (col _ fun h1 tk vs hk hP=>?_);obtain⟨hz,S⟩:=ord h1 vs hk hP;refine Oa (GD ?_ hz);have hB:(h1.push _).get? h1.objs.size=some (Gd "list" vs.toArray 0):=Qm _ rfl;refine Oa (Om (Ot MF ⟨_,hB,rfl⟩ Mq ?body (MG _)));have k1:∀ {h6:Vz},(∀ b o,b≠h1.objs.size->(h1.push {cls:=.type "list",data:=.seq vs.toArray}).get? b=some o->h6.get? b=some o)->∀ b o,h1.get? b=some o->h6.get? b=some o:=fun k b o e=>k b o (QB (Qn e)) (Qc _ e);refine list_sortW hB hz S.wo S.same (fun h6 Q k h2 q=>S.kd _ _ _ _ (k1 k) h2 q) (fun h6 tk' i j x y C k e1 e2 q=>S.ask _ _ i j x y C (k1 k) e1 e2 fun tk2=>q tk2)
  fun h3 tk3 c p hp hs hkeep hD=>⟨_,rfl,Ob ⟨_,rfl,?_⟩⟩
 refine fin h1 vs h3 tk3 c p hP (fun b o e=>k1 hkeep b o (hk b o e)) (k1 hkeep) hk hp hs hD ?_;cases e:s.heap.get? h1.objs.size with
 | none=>rfl
 | some u=>exact Vo (Qn (hk _ _ e)) (Q6 _)
def ltS (xs:Vd Vl) (i j:Vg):V0:=decide ((xs.getD i "").cps.toList<(xs.getD j "").cps.toList)
theorem ltS_wo (xs) (n):WO n (ltS xs) where
 irr:=fun i _=>by
  unfold ltS;simp
 tr:=fun i j k _ _ _ h1 h2=>by
  unfold ltS at *;rw[VL]at *;exact RG h1 h2
 ntr:=fun i j k _ _ _ h=>by
  unfold ltS at *;rw[VL]at h;rw[VL,VL];by_cases c:(xs.getD k "").cps.toList<(xs.getD i "").cps.toList
  exact .inl c;exact .inr (List.lt_of_le_of_lt (U6.mp c) h)
theorem strs_at:∀ {vs} {xs},Gh vs xs->∀ (i) (v),vs[i]?=some v->∃ t,v= .str (xs.getD i "") t/\xs[i]?=some (xs.getD i "")
 | _,_,.nil,i,v,h=>by simp at h
 | _,_,.cons y t r,0,v,h=>by
  simp at h;exact⟨t,by rw[←h];rfl,rfl⟩
 | _,_,.cons y t r,i+1,v,h=>by
  obtain⟨t',e1,e2⟩:=strs_at r i v (by simp_all);exact⟨t',by grind,by grind⟩
theorem strs_len:∀ {vs} {xs},Gh vs xs->vs.length=xs.length
 | _,_,.nil=>rfl
 | _,_,.cons y t r=>by simp[strs_len r]
theorem sa_strs (hS:Gh vs xs):SortAs prog w h1 vs (ltS xs) LJ where
 wo:=ltS_wo xs _
 same:=fun i j hi e k=>by
  have hj:vs[j]?=some vs[i]:=by simp_all
  obtain⟨t1,e1,_⟩:=strs_at hS i _ (Qa hi);obtain⟨t2,e2,_⟩:=strs_at hS j _ hj;rw[e1]at e2;injection e2 with e2 _
  unfold ltS;rw[e2]
 kd:=fun A E s Q _ h2 q=>by
  match vs,hS,h2 with
  | v1::v2::vs,hS,_ =>
   rw[keyKind_strs hS];exact Ob q
 ask:=fun A s i j x y C _ e1 e2 q=>by
  obtain⟨t1,rfl,_⟩:=strs_at hS i _ e1;obtain⟨t2,rfl,_⟩:=strs_at hS j _ e2;exact kas_lt_str (q s.toks)
def PrI (h:Vz) (v:Vi) (x:Vl):Prop:=∃ a o n t y,v= .ref a/\h.get? a=some o/\o.cls= .type "tuple"/\o.data= .seq #[.str x t,y] n
theorem PrI.keep (p:PrI h v x) (k:∀ b o,h.get? b=some o->h'.get? b=some o):PrI h' v x:=by
 obtain⟨a,o,n,t,y,e,e1,e2⟩:=p;exact⟨a,o,n,t,y,e,k a o e1,e2⟩
theorem ZgD:∀ {vs} {xs:Vd Vl},xs.length=vs.length->(∀ (i:Vg) (v) (x),vs[i]?=some v->xs[i]?=some x->PrI h v x)->∃ fs,KatTups h vs fs/\fs.length=vs.length/\∀ f∈fs,∃ x t,f= .str x t
 | [],[],_,_=>⟨[],trivial,rfl,fun f hf=>nomatch hf⟩
 | [],_::_,h,_=>by cases h
 | _::_,[],h,_=>by cases h
 | v::vs,x::xs,hl,hv=>by
  obtain⟨a,o,n,t,y,rfl,ha,hc,hd⟩:=hv 0 v x rfl rfl;obtain⟨fs,k,l,q⟩:=ZgD (by simp_all) fun i v x e1 e2=>hv (i+1) v x e1 e2;refine⟨_,KatTups.cons ha hc hd rfl k,by simp[l],fun f hf=>?_⟩;rcases Qs.mp hf with z | z
  simp_all
  simp_all
theorem lt_ne {x y:Vl} (h:¬ x.cps.toList<y.cps.toList) (h2:¬ x=y):y.cps.toList<x.cps.toList:=by
 by_cases c:y.cps.toList<x.cps.toList
 omega;exact Vo (by rw[←L2.tx_eta x,←L2.tx_eta y,(List.le_antisymm (U6.mp c) (U6.mp h))]) h2
theorem ZgX (h:Q true s):Og (Oc prog w) A (eqBool v v) Q E s:=by
 refine Om ?_;rw[Vf (by simp)];exact Oa (Gp (Ob h))
theorem sa_tups (hl:xs.length=vs.length) (nd:xs.Nodup) (hv:∀ (i:Vg) (v) (x),vs[i]?=some v->xs[i]?=some x->PrI h1 v x):SortAs prog w h1 vs (ltS xs) (tuples' ((VM "str") != VM "tuple")) where
 wo:=ltS_wo xs _
 same:=fun i j hi e k=>by
  have hj:vs[j]?=some vs[i]:=by simp_all
  have hj2:j<vs.length:=(Ql.mp hj).1;obtain⟨a,o,n,t,y,e1,e2,e3,e4⟩:=hv i vs[i] xs[i] (Qa hi) (Qa (B9 hi hl));obtain⟨a',o',n',t',y',e1',e2',e3',e4'⟩:=hv j vs[i] xs[j] hj (Qa (B9 hj2 hl));rw[e1]at e1';cases e1';rw[e2]at e2';cases e2';have ex:xs[i]=xs[j]:=by
   simp_all
  unfold ltS;rw[Qb,Qb,Qb,Qa (show i<xs.length by exact B9 hi hl),Qa (show j<xs.length by exact B9 hj2 hl),ex]
 kd:=fun A E s Q k h2 q=>by
  obtain⟨fs,kt,lf,hf⟩:=ZgD (h:=s.heap) hl fun i v x e1 e2=>(hv i v x e1 e2).keep k;refine kat_kind (T:=.type "str") kt (by lia) (fun f m=>?_) (by decide) q;obtain⟨x,t,rfl⟩:=hf f m;exact Looks.of_pure rfl
 ask:=fun A s i j x y C k e1 e2 q=>by
  have hi:i<vs.length:=(Ql.mp e1).1;have hj:j<vs.length:=(Ql.mp e2).1;obtain⟨a1,o1,n1,t1,y1,rfl,g1,c1,d1⟩:=(hv i x xs[i] e1 (Qa (B9 hi hl))).keep k;obtain⟨a2,o2,n2,t2,y2,rfl,g2,c2,d2⟩:=(hv j y xs[j] e2 (Qa (B9 hj hl))).keep k;have el:ltS xs i j=decide (xs[i].cps.toList<xs[j].cps.toList):=by
   unfold ltS;rw[Qb,Qb,Qa (show i<xs.length by exact B9 hi hl),Qa (show j<xs.length by exact B9 hj hl)];rfl
  by_cases hij:i=j
  ·subst hij;rw[e1]at e2;cases e2;rw[g1]at g2;cases g2;rw[el]at q;rw[Vp (Ue _)]at q;refine kat_lt g1 d1 g1 d1 ?_;refine kat_cons (ZgX (kat_yes (kat_cons (ZgX (kat_yes (kat_nil ?_))))));exact q s.toks
  have hne:¬ xs[i]=xs[j]:=fun z=>hij ((Uj nd).mp z);refine kat_lt g1 d1 g2 d2 (kat_cons (R6 ?_));rw[Vp hne];refine kat_no (kas_lt_str ?_)
  simp_all
end
end Tim
namespace L2
open PySem PySem.Spec PyProof.Rows PySem.W
section
variable {prog:Oh} {w:Oi} {A:VA} {E:Vi->Vh->Prop} {s:Vh}
theorem XG (h:n<=1000):n<=Of:=by rw[Op];exact Ei h
theorem Zlv (hl:xs.length=n) (nd:xs.Nodup) (hp:Srt.Pm n p) (h:∀ i j,i<j->j<n->Tim.ltS xs (p.getD j 0) (p.getD i 0)=false):Srt.Up (ltX xs) p n:=fun i j hij hj=>by
 have h1:=h i j hij hj;have bi:=hp.below (show i<n by exact Sw hj hij);have bj:=hp.below hj;unfold Tim.ltS at h1;unfold ltX;rw[decide_eq_false_iff_not]at h1;rw[VL];refine Tim.lt_ne h1 fun e=>(hp.ne (show i<n by exact Sw hj hij) hj (Tm hij)) ?_;rw[JU (B9 bj hl),JU (B9 bi hl)]at e;exact(Uj nd).mp e.symm
theorem ZcY {vs:Vd Vi} (ho:s.heap.get? a=some (Gd "list" vs.toArray n)) (h1k:vs.length<=1000) (hl:xs.length=vs.length) (nd:xs.Nodup)
  (hv:∀ (i:Vg) (v) (x),vs[i]?=some v->xs[i]?=some x->ZoE s.heap v x)
  (h:∀ (h1) (tk c) (p),Srt.Pm xs.length p->Srt.Up (ltX xs) p xs.length->(∀ b o,b≠a->s.heap.get? b=some o->h1.get? b=some o) ->
   h1.get? a=some (Gd "list" (p.toList.map fun i=>vs.getD i VI).toArray c)->P (.done (.ret .none)) {s with heap:=h1,toks:=tk}) :
  Og (Oc prog w) A (Nc.«list.sort» ⟨[.ref a],[]⟩) P E s:=by
 have hv6:∀ {h6:Vz},(∀ b o,b≠a->s.heap.get? b=some o->h6.get? b=some o)->∀ (i:Vg) (v:Vi) (x:Vl),vs[i]?=some v->xs[i]?=some x->Tim.PrI h6 v x:=fun {h6} k6 i v x q1 q2=>by
  obtain⟨b,t,y,rfl,hb⟩:=hv i v x q1 q2;exact⟨b,_,_,t,y,rfl,k6 b _ fun z=>by simp_all hb,rfl,rfl⟩
 have hv0:∀ (i:Vg) (v:Vi) (x:Vl),vs[i]?=some v->xs[i]?=some x->Tim.PrI s.heap v x:=fun i v x q1 q2=>by
  obtain⟨b,t,y,rfl,hb⟩:=hv i v x q1 q2;exact⟨b,_,_,t,y,rfl,hb,rfl,rfl⟩
 refine Tim.list_sortW ho (XG h1k) (Tim.ltS_wo xs _) (Tim.sa_tups (prog:=prog) (w:=w) hl nd hv0).same (fun h6 Q k h2 q=>(Tim.sa_tups hl nd (hv6 k)).kd _ _ _ _ (fun b o e=>e) h2 q) (fun h6 tk i j x y C k e1 e2 q=>(Tim.sa_tups hl nd (hv6 k)).ask _ _ i j x y C (fun b o e=>e) e1 e2 fun tk2=>q tk2)
  fun h1 tk c p hp hs k hD=>h h1 tk c p (hl▸hp) (by rw[hl];exact Zlv hl nd hp hs) k hD
end
theorem YU (hc:X.calm=true):CallR X (.builtin "sorted") (fun xs H Q=>∃ (p d:Vk) (ks:Vd Vl) (g:Vl->V),xs=[.ref p]/\H p=some (ivO p d)/\H d=some (.dK (ks.map fun x=>((Vn x),g x)))/\ks.Nodup/\ks.length<=1000 /\
  ∀ (D) (H1) (vs) (ss:Vd Vl),Same H H1->ss.Perm ks->(ss.map fun x=>x.cps.toList).Pairwise (· < ·)->H1 D=some (.lst vs)->vs.length=ss.length ->
   (∀ (i:Vg) (x),ss[i]?=some x->∃ b,vs[i]?=some (.ref b)/\H1 b=some (.tup [.str x,g x]))->Q (.ref D) H1):=by
 intro pins s σ H xs us Q I r h;obtain⟨p,d,ks,g,rfl,hp,hd,nd,h1k,q⟩:=h;obtain⟨u,rfl,ru⟩:=XE r;cases ru;have hview:s.heap.IsItemsView p d:=(I.hok p _ hp).1;obtain⟨hz,lo,vs',kv,dd⟩:=Zah I.hok hd;obtain⟨ep,hat⟩:=dd.dictAt;have hlen:ks.length=vs'.length:=by have:=kv.length;simp_all
 have hsz:vs'.length<=Of:=by simp_all
 refine Np Tj RT RU (RV _) ?_;unfold Nc.«sorted»;refine Oa (m:=checkCount "sorted" 1 1 _) (Ob ?_);refine Oa (kdx_collect (A:=X.A.in1) (knd:=Zs X.prog X.w) (kvs:=vs') (ep:=ep) (I.ok.hd hc) hview hat hsz fun h1 tk as hk hl hG=>?_);refine Oa (GD ?_ (by rw[Qd,hl];exact hsz));have pr:∀ (i:Vg),i<ks.length->∃ a t y,as[i]?=some a/\RelV (g (ks.getD i "")) y/\h1.get? a=some {cls:=.type "tuple",data:=.seq #[.str (ks.getD i "") t,y]}:=fun i hi=>by
  have hi2:i<as.length:=Hg hlen hi hl
  obtain⟨key,k,x,e1,e2,e3⟩:=hG.pairs i as[i] (Qa hi2);have ek:=VR (fun l:Vd Key=>l[i]?) kv.keys;simp only[Qi]at ek;rw[e1,Qa hi]at ek;have ek':(Vn ks[i]:Key)=k:=Vu ek;have ev:RelV (g ks[i]) x:=by
   have key:∀ {l1:Vd (Key×V)} {l2:Vd (Key×Vi)} (i:Vg) (p:Key×V) (q:Key×Vi),MZ (fun(p:Key×V) (q:Key×Vi)=>p.1=q.1/\RelV p.2 q.2) l1 l2->l1[i]?=some p->l2[i]?=some q->RelV p.2 q.2:=by
    intro l1 l2 i p q hP;induction hP generalizing i with
    | nil=>simp
    | cons r t ih =>
     intro e1 e2;cases i with
     | zero =>
      simp_all
     | succ i=>exact ih i (by simp_all) (by simp_all)
   exact key i (Vn ks[i],g ks[i]) (k,x) kv (by rw[Qi,Qa hi];rfl) e1
  subst ek';rcases keyIs_shape (show JO (Vn ks[i]) key=true from e2)with ⟨j,t,e4,_⟩ | ⟨z,t,e4,e5⟩
  ·cases e4
  ·injection e4 with e4
   subst e4;refine⟨as[i],t,x,Qa hi2,by rw[JU hi];exact ev,?_⟩;rw[e3,e5,JU hi]
 have hB:(h1.push {cls:=.type "list",data:=.seq (as.map Value.ref).toArray}).get? h1.objs.size=some (Gd "list" (as.map Value.ref).toArray 0):=Qm _ rfl;refine Oa (Om (Ot MF ⟨_,hB,rfl⟩ Mq ?body (MG _)));refine ZcY (s:={s with heap:=h1.push {cls:=.type "list",data:=.seq (as.map Value.ref).toArray},toks:=tk}) (xs:=ks) hB (by rw[Qd];lia) (by rw[Qd];exact Dj hlen hl) nd (fun i v x e1 e2=>?_) fun h3 tk3 c pm hpm hup hkeep hD=>⟨_,rfl,Ob ⟨_,rfl,?_⟩⟩
 ·have hi:i<ks.length:=(Ql.mp e2).1;obtain⟨a,t,y,f1,_,f3⟩:=pr i hi;rw[Qi,f1]at e1;cases e1;have ex:ks.getD i "" = x:=by rw[Qb,e2];rfl
  rw[ex]at f3;exact⟨a,t,y,rfl,Qc _ f3⟩
 ·have hold:∀ b u,s.heap.get? b=some u->h3.get? b=some u:=fun b u e=>hkeep b u (QB (Qn (hk b u e))) (Qc _ (hk b u e));have hDn:s.heap.get? h1.objs.size=none:=by
   cases z:s.heap.get? h1.objs.size with
   | none=>rfl
   | some u=>exact Vo (Qn (hk _ u z)) (Q6 _)
  have tup3:∀ (i:Vg),i<ks.length->∃ a t y,as[i]?=some a/\RelV (g (ks.getD i "")) y/\s.heap.get? a=none/\a≠h1.objs.size/\h3.get? a=some {cls:=.type "tuple",data:=.seq #[.str (ks.getD i "") t,y]}:=fun i hi=>by
   obtain⟨a,t,y,f1,f2,f3⟩:=pr i hi;have ne:a≠h1.objs.size:=QB (Qn f3);exact⟨a,t,y,f1,f2,U9 (WK (hG.above a (Q3 f1))),ne,hkeep a _ ne (Qc _ f3)⟩
  have asnd:as.Nodup:=hG.rise.imp fun {a b} z e=>by subst e;exact Q6 _ z
  let N:Vk->Vj HO:=fun b=>if b=h1.objs.size then some (.lst (pm.toList.map fun i=>V.ref (as.getD i 0)))else (as.idxOf? b).map fun i=>.tup [.str (ks.getD i ""),g (ks.getD i "")]
  have hND:N h1.objs.size=some (.lst (pm.toList.map fun i=>V.ref (as.getD i 0))):=Vf rfl;have hNt:∀ (i:Vg),i<ks.length->∃ a,as[i]?=some a/\N a=some (.tup [.str (ks.getD i ""),g (ks.getD i "")]):=fun i hi=>by
   obtain⟨a,t,y,f1,f2,f3,f4,f5⟩:=tup3 i hi;refine⟨a,f1,?_⟩;show(if a=h1.objs.size then _ else _)=_;rw[if_neg f4];have hi2:i<as.length:=(Ql.mp f1).1;have e:as.idxOf? a=some i:=by
    rw[U0];refine⟨hi2,by rw[Qa hi2]at f1;simpa using Vu f1,fun j hj=>?_⟩;intro z;have e1:as[j]'(by lia)=as[i]:=by rw[Qa hi2]at f1;rw[Vu f1];simpa using z
    exact Vo ((Uj asnd).mp e1) (by lia)
   rw[e];rfl
  have hNall:∀ a o,N a=some o->s.heap.get? a=none/\∀ H2,ObjOk X.prog X.w H2 h3 a o:=fun a o e=>by
   by_cases ha:a=h1.objs.size
   ·subst ha;rw[hND]at e;cases e;refine⟨hDn,fun H2=>⟨?_,pm.toList.map (fun i=>Value.ref (as.getD i 0)),c,?_,?_⟩⟩
    ·rw[Qd,Qw,hpm.size,Op];exact Ei h1k
    ·have gen:∀ l:Vd Vg,Vals (l.map fun i=>V.ref (as.getD i 0)) (l.map fun i=>Value.ref (as.getD i 0)):=by
      intro l;induction l with
      | nil=>exact .nil
      | cons i l ih=>exact .cons rfl ih
     exact gen _
    ·rw[hD];have el:(LK (fun i=>(LK Value.ref as).getD i VI) pm.toList)=pm.toList.map fun i=>Value.ref (as.getD i 0):=by
      refine Q8 fun i hi=>?_;have hi':i<as.length:=by
       have:i∈pm:=by simpa using hi
       have:=hpm.perm.mem_iff.mp this;have:i<ks.length:=by simpa using this
       exact Hg hlen this hl
      rw[Qb,Qi,Qa hi',Qb,Qa hi'];rfl
     rw[el]
   ·have e':(as.idxOf? a).map (fun i=>HO.tup [.str (ks.getD i ""),g (ks.getD i "")])=some o:=by
     have:(if a=h1.objs.size then some (HO.lst (pm.toList.map fun i=>V.ref (as.getD i 0)))else (as.idxOf? a).map fun i=>HO.tup [.str (ks.getD i ""),g (ks.getD i "")])=some o:=e;rw[if_neg ha]at this;exact this
    cases hx:as.idxOf? a with
    | none=>rw[hx]at e';cases e'
    | some i =>
     rw[hx]at e';cases e';obtain⟨hi,hai,_⟩:=U0.mp hx;have hi':i<ks.length:=Hg hl hi hlen
     obtain⟨a',t,y,f1,f2,f3,f4,f5⟩:=tup3 i hi';rw[Qa hi]at f1;have ea:a=a':=by rw[←Vu f1];simpa using hai.symm
     subst ea;refine⟨f3,fun H2=>⟨by show 2<=Of;rw[Op];decide,[.str (ks.getD i "") t,y],.cons ⟨t,rfl⟩ (.cons f2 .nil),⟨⟨_,f5,rfl,_,rfl⟩,fun o e=>by rw[f5]at e;cases e;rfl⟩⟩⟩
  refine⟨.ref h1.objs.size,_,I.laidN (N:=N) (tk:=tk3) hold hNall,rfl,?_⟩;have hsame:Same H fun b=>(N b).or (H b):=fun b u e=>by
   obtain⟨v,hv⟩:=(I.hok b u e).there';have:N b=none:=by
    cases z:N b with
    | none=>rfl
    | some o=>rw[(hNall b o z).1]at hv;cases hv
   show(N b).or (H b)=some u;rw[this,UL];exact e
  refine q _ _ (pm.toList.map fun i=>V.ref (as.getD i 0)) (pm.toList.map fun i=>ks.getD i "") hsame (ZfP ks pm hpm) ?_ (by rw[hND];rfl) (by rw[Qd,Qd]) fun i x e=>?_
  ·rw[Q0,Wr,Q9];intro i j hi hj hij;have hz2:pm.toList.length=ks.length:=by rw[Qw,hpm.size]
   have hu:=hup i j hij (Kc hz2 hj);unfold ltX at hu;rw[VL]at hu;have g1:pm.getD i 0=pm.toList[i]:=by rw[Ws,QR (by simpa using hi)];simp
   have g2:pm.getD j 0=pm.toList[j]:=by rw[Ws,QR (by simpa using hj)];simp
   rw[g1,g2]at hu;exact hu
  ·rw[Qi]at e;cases ep:pm.toList[i]? with
   | none=>rw[ep]at e;cases e
   | some k =>
    rw[ep]at e;have ex:ks.getD k "" = x:=Vu e;have hkm:k∈pm:=by simpa using Q3 ep
    have hkl:k<ks.length:=by simpa using hpm.perm.mem_iff.mp hkm
    obtain⟨a,f1,f2⟩:=hNt k hkl;refine⟨a,?_,?_⟩
    ·rw[Qi,ep,We,Qb,f1];rfl
    ·show(N a).or (H a)=_;rw[f2,RC,ex]
theorem Zf1 {σ:St} (I:Inv X pins σ H s) (k:∀ b u,s.heap.get? b=some u->h3.get? b=some u) (hD:s.heap.get? D=none) (hz:vs.length<=Of)
  (ho:∃ (its:Vd Vi) (n:Vg),Vals vs its/\h3.get? D=some {cls:=.type "list",data:=.seq its.toArray n}):H D=none/\Inv X pins σ (upd H D (.lst vs)) {s with heap:=h3,toks:=tk}:=by
 have hn:H D=none:=by
  cases e:H D with
  | none=>rfl
  | some u =>
   obtain⟨v,hv⟩:=(I.hok D u e).there';rw[hD]at hv;cases hv
 refine⟨hn,?_⟩;have:=I.laidN (N:=fun b=>if b=D then some (.lst vs)else none) (tk:=tk) k fun a o e=>by
  by_cases c:a=D
  subst c;rw[Vf rfl]at e;cases e;exact⟨hD,fun H2=>⟨hz,ho⟩⟩
  simp_all
 have e:(fun b=>(if b=D then some (HO.lst vs)else none).or (H b))=upd H D (.lst vs):=by
  funext b
  by_cases c:b=D
  subst c;rw[Vf rfl,RC,Zc];rw[if_neg c,UL,Zf c]
 simp_all
theorem Zaq {α:Type} {d:α} (ks) (p) (hp:Srt.Pm ks.length p):(p.toList.map fun i=>ks.getD i d).Perm ks:=by
 have h1:=(Ww.mp hp.perm).map fun i=>ks.getD i d;have h2:((Qu ks.length).toArray.toList.map fun i=>ks.getD i d)=ks:=by
  apply QW;intro i;simp only[Qi];by_cases hi:i<ks.length
  rw[QY hi,We,Qb,Qa hi];rfl;rw[Qp (by simp;exact Kf hi),Qp (Kf hi)];rfl
 rw[h2]at h1;omega
theorem ZhN (hp:Srt.Pm n p) (hi):p.getD i 0=p.toList[i]:=by
 rw[Ws,QR (by omega)];simp
theorem Zln (hp:Srt.Pm xs.length p) (h:∀ i j,i<j->j<xs.length->Tim.ltS xs (p.getD j 0) (p.getD i 0)=false):((p.toList.map fun i=>xs.getD i "").map fun x=>x.cps.toList).Pairwise (·<=·):=by
 rw[Q0,Wr,Q9];intro i j hi hj hij;have hz:p.toList.length=xs.length:=by rw[Qw,hp.size]
 have hu:=h i j hij (Kc hz hj);unfold Tim.ltS at hu;rw[ZhN hp hi,ZhN hp hj]at hu
 simp_all
theorem ZfW:∀ {ks:Vd Vl} {g:Vl->V} {vs:Vd (Key×Vi)},KV (ks.map fun x=>((Vn x),g x)) vs->∀ (i:Vg) (k) (x),vs[i]?=some (k,x)->k=Vn (ks.getD i "")/\i<ks.length:=by
 intro ks g vs kv i k x e;have ek:=VR (fun l=>l[i]?) kv.keys;simp[Qi]at ek;rw[e]at ek;cases z:ks[i]? with
 | none=>rw[z]at ek;cases ek
 | some y =>
  rw[z]at ek;refine⟨?_,(Ql.mp z).1⟩;rw[Qb,z];exact Vu ek.symm
theorem XZ (hc:X.calm=true):CallR X (.builtin "sorted") (fun xs H Q=>∃ (d:Vk) (ks:Vd Vl) (g:Vl->V),xs=[.ref d]/\H d=some (.dK (ks.map fun x=>((Vn x),g x)))/\ks.length<=1000 /\
  ∀ (p) (ss':Vd Vl),H p=none->ss'.Perm ks->(ss'.map fun x=>x.cps.toList).Pairwise (·<=·)->Q (.ref p) (upd H p (.lst (ss'.map V.str)))):=by
 intro pins s σ H xs us Q I r h;obtain⟨d,ks,g,rfl,hd,h1k,q⟩:=h;obtain⟨u,rfl,ru⟩:=XE r;cases ru;obtain⟨hz,lo,vs',kv,dd⟩:=Zah I.hok hd;obtain⟨ep,hat⟩:=dd.dictAt;have hlen:ks.length=vs'.length:=by have:=kv.length;simp_all
 have toS:∀ (n:Vg) (vs:Vd Vi) (xs:Vd Vl),vs.length=xs.length->(∀ (i:Vg) (v:Vi),vs[i]?=some v->∃ t,v= .str (xs.getD i "") t)->Gh vs xs:=by
  intro n vs;induction vs with
  | nil =>
   intro xs e _;match xs,e with
   | [],_=>exact .nil
  | cons v vs ih =>
   intro xs e hh;match xs,e with
   | x::xs,e =>
    obtain⟨t,rfl⟩:=hh 0 v rfl;exact .cons x t (ih xs (by simp_all) fun i u z=>by
     obtain⟨t,e⟩:=hh (i+1) u (by simp_all);exact⟨t,e⟩)
 refine Tim.sorted_all (lt:=Tim.ltS ks) (κ:=LJ) (Pc:=fun h1 vs=>Gh vs ks) (fun R hR=>?_) (fun h1 vs hk hP=>?_) fun h1 vs h3 tk c p hP hk k1 hk1 hp hs hD hN=>?_
 ·refine kdu_collect (A:=X.A.in1) (kdl_dict lo) (I.ok.hd hc) hat (XG (Kd h1k hlen)) fun h' tk acc hk hacc=>hR h' tk acc.toList hk (toS 0 _ _ (by rw[Qw,hacc.1,hlen]) fun i v e=>?_);obtain⟨k,x,e1,e2⟩:=hacc.2 i v (by rw[←QT];exact e);obtain⟨ek,hi⟩:=ZfW kv i k x e1;subst ek;rcases keyIs_shape (show JO (Vn (ks.getD i "")) v=true from e2)with ⟨j,t,e4,_⟩ | ⟨z,t,e4,e5⟩
  ·cases e4
  ·injection e4 with e4
   exact⟨t,by rw[e5,e4]⟩
 ·have:=Tim.strs_len hP;exact⟨XG (Dk h1k this),Tim.sa_strs hP⟩
 ·have hl:=Tim.strs_len hP;have hp':Srt.Pm ks.length p:=by rw[←hl];exact hp
  have vv:∀ l:Vd Vg,(∀ i∈l,i<ks.length)->Vals ((l.map fun i=>ks.getD i "").map V.str) (l.map fun i=>vs.getD i VI):=by
   intro l;induction l with
   | nil=>intro _;exact .nil
   | cons i l ih =>
    intro hh;have hi:i<vs.length:=by have:=hh i (Qj ..);exact B9 this hl
    obtain⟨t,e,_⟩:=Tim.strs_at hP i _ (Qa hi);refine .cons ?_ (ih fun j hj=>hh j (Qk _ hj));show RelV (V.str (ks.getD i "")) (vs.getD i VI);rw[Qb (l:=vs),Qa hi];exact⟨t,e⟩
  have hmem:∀ i∈p.toList,i<ks.length:=fun i hi=>by
   have:i∈p:=by simpa using hi
   have:=hp'.perm.mem_iff.mp this;simpa using this
  obtain⟨hn,I2⟩:=Zf1 (tk:=tk) (vs:=(p.toList.map fun i=>ks.getD i "").map V.str) I hk hN (by rw[Qd,Qd,Qw,hp'.size];exact XG h1k) ⟨_,c,vv p.toList hmem,hD⟩;exact⟨.ref h1.objs.size,_,I2,rfl,q _ _ hn (Zaq ks p hp') (Zln hp' (by rw[←hl];exact hs))⟩
open PySem PySem.Spec PyProof.Rows
theorem ZfB {t t':RW} (h:t.relaid hs n=some (t',od)):t'.led=t.led/\t'.plain=t.plain:=by
 unfold SetTable.relaid SetTable.laid at h;cases e:SetTable.layClean (SetTable.sizeAbove n-1) hs with
 | none=>simp_all
 | some ow =>
  rw[e]at h;obtain⟨h1,_⟩:=Prod.mk.inj (Vu h);rw[←h1];simp
theorem ZhG (t) (es) (n):(Gw t es n).2.1.led=t.led/\(t.plain=false->(Gw t es n).2.1.plain=false):=by
 unfold Gw;split
 rename_i t' od e;obtain⟨e1,e2⟩:=ZfB e;dsimp only;split
 exact⟨e1,fun h=>by rw[e2];omega⟩;exact⟨rfl,fun _=>rfl⟩;exact⟨rfl,fun _=>rfl⟩
theorem Zl6 (t) (es) (hh) (x):(LX t es hh x).2.1.led=t.led/\(t.plain=false->(LX t es hh x).2.1.plain=false):=by
 unfold LX;split
 dsimp only;unfold SetTable.orStandIn;split
 exact⟨rfl,fun h=>h⟩;exact⟨rfl,fun _=>rfl⟩;exact⟨rfl,fun _=>rfl⟩
noncomputable def byT (w:Oi):V0:=w.params.followText "set-order"
structure StT (prog:Oh) (w:Oi) (h:Vz) (a:Vk) (ks:Vd Vl) (o:Nd) (es:Vm (Vs×Vi)) (ep:Vg) (t:RW):Prop where
 ob:h.get? a=some o
 ex:o.ExactSet
 dt:o.data= .set es ep t
 el:ElemsOf (Zs prog w) es.toList
 mem:∀ k:Key,(∃ x,k=Vn x/\x∈ks)↔∃ e∈es.toList,(Zs prog w).is k e.2=true
 len:es.size=ks.length
 nd:ks.Nodup
 fits:t.fits es.size=true
 led:t.led= !byT w
 plain:ks≠[]->t.plain=false
def SetT (prog:Oh) (w:Oi) (h:Vz) (a:Vk) (ks:Vd Vl):Prop:=∃ o es ep t,StT prog w h a ks o es ep t
section
variable {prog:Oh} {w:Oi} {A:VA} {E:Vi->Vh->Prop} {s:Vh}
theorem SetT.keep (x:SetT prog w h a ks) (k:∀ o,h.get? a=some o->h'.get? a=some o):SetT prog w h' a ks:=by
 obtain⟨o,es,ep,t,q⟩:=x;exact⟨o,es,ep,t,{q with ob:=k o q.ob}⟩
noncomputable def ZeO (ks:Vd Vl) (x:Vl):Vd Vl:=if x∈ks then ks else ks++[x]
theorem addS_mem:y∈ZeO ks x↔y∈ks\/y=x:=by
 unfold ZeO
 grind
theorem ZkX (h:ks.Nodup):(ZeO ks x).Nodup:=by
 unfold ZeO
 grind
theorem ZiE (ks) (x):(ZeO ks x).length<=ks.length+1:=by
 unfold ZeO
 grind
theorem Zdo {h:Vz} (ho:h.get? a=some o) (hd:o.data= .set es ep t):(h.update a (TH es' t')).get? a=some {o with data:=.set es' (ep+1) t'}:=by
 have:=Wl (TH es' t') ho (by rw[putSet_of es' t' hd];rfl);rw[putSet_of es' t' hd]at this;omega
theorem Zdk {gg:V0->MT VB} (hgg:∀ (b) (s₁) (Q'),Q' () s₁->Og (Oc prog w) A (gg b) Q' E s₁) (ho:s.heap.get? a=some o) (hd:o.data= .set es ep t)
  (S:∀ (h) (ob) (ep1) (es2) (t3),h.get? a=some ob->ob.ExactSet->ob.data= .set es2 ep1 t3->L9 es2.toList es1.toList->t3.fits es2.size=true->t3.led=t2.led->(t2.plain=false->t3.plain=false)->SetT prog w h a ks) (hx:o.ExactSet) (hb:es1.size<GS) (hf:t2.fits es1.size=true)
  (q:∀ h1,VY a s.heap h1->SetT prog w h1 a ks->R (some true) {s with heap:=h1}) :
  Og (Oc prog w) A (do
    storeSet a es1 t2
    if (!wd&&t2.tooFull)=true then do
      gg (Gw t2 es1 (NC es1.size)).2.2
      storeSet a (Gw t2 es1 (NC es1.size)).1 (Gw t2 es1 (NC es1.size)).2.1
      pure (some true)
     else pure (some true)) R E s:=by
 refine Oa (RX ho hd ?_ (RY hb));have o1:=Zdo (es':=es1) (t':=t2) ho hd;have m1:=Heap.SameBut.update s.heap a (TH es1 t2);split
 have p:=relayAll_perm t2 es1 (NC es1.size);have f:=relayAll_fits t2 es1 (NC es1.size);obtain⟨l1,l2⟩:=ZhG t2 es1 _;generalize Gw t2 es1 _=rl at p f l1 l2 ⊢;have sz:rl.1.size=es1.size:=by rw[←Qw,p.length_eq,Qw]
 refine Oa (hgg _ _ _ (Oa (RX o1 rfl ?_ (RY (Ed hb sz)))));exact Ob (q _ (m1.trans (Heap.SameBut.update _ a _)) (S _ _ _ _ _ (Zdo o1 rfl) hx rfl p f l1 l2));exact Ob (q _ m1 (S _ _ _ es1 t2 o1 hx rfl (ND _) hf rfl fun z=>z))
theorem ZjU (hS:SetT prog w s.heap a ks) (hroom:ks.length+1<GS)
  (q:∀ (r) (h1),VY a s.heap h1->SetT prog w h1 a (ZeO ks x)->Q r {s with heap:=h1}):Og (Oc prog w) A (setAddHashed a (.str x tk) ((Zs prog w).hash (Vn x))) Q E s:=by
 obtain⟨o,es,ep,t,T⟩:=hS;have hkey:(Zs prog w).is (Vn x:Key) (.str x tk)=true:=Xz prog w x tk;have hb:es.size<GS:=by rw[T.len];exact Sz hroom
 unfold setAddHashed setAddHashedIn;refine Om (Oa (RZ T.ob T.dt T.fits ?_));dsimp only;rw[byScan_of (knd:=Zs prog w) rfl hb T.el];simp only[↓reduceIte];unfold setAddByScan;refine Oa (Oa (Gp (Oa (wpAny_setScan_of hkey T.ob T.dt T.fits T.el ?_))));cases hr:List.findIdx? (fun e=>(Zs prog w).is (Vn x:Key) e.2) es.toList with
 | some j =>
  dsimp only;obtain⟨hj,hpj,_⟩:=List.findIdx?_eq_some_iff_getElem.mp hr;obtain⟨y,ey,hy⟩:=(T.mem (Vn x)).mpr ⟨es.toList[j],QG hj,hpj⟩;cases ey;refine Ob (Ob ?_);have es0:s={s with heap:=s.heap}:=by simp
  rw[es0];refine q _ s.heap (Heap.SameBut.refl a s.heap) ?_;unfold ZeO;rw[Vf hy];exact⟨o,es,ep,t,T⟩
 | none =>
  dsimp only;have hx:x∉ks:=fun hx=>by
   obtain⟨e,he,hp⟩:=(T.mem (Vn x)).mp ⟨x,rfl,hx⟩;have:=List.findIdx?_eq_none_iff.mp hr e he
   simp_all
  have perm:=layNew_perm t es ((Zs prog w).hash (Vn x)) (.str x tk);have fit:=layNew_fits t es ((Zs prog w).hash (Vn x)) (.str x tk);obtain⟨l1,l2⟩:=Zl6 t es ((Zs prog w).hash (Vn x)) (.str x tk);generalize LX t es ((Zs prog w).hash (Vn x)) (.str x tk)=L at perm fit l1 l2 ⊢;obtain⟨es1,t1,wd,gave⟩:=L;dsimp only at perm fit l1 l2 ⊢;rw[UV]at perm;have sz1:es1.size=ks.length+1:=by rw[←Qw,perm.length_eq,Qh,Qw,T.len];rfl
  refine Oa ?_;have hgw:∀ (b:V0) (s₁:Vh) (Q':VB->Vh->Prop),Q' () s₁->Og (Oc prog w) A (match b with | true=>rule "set.scan.the-table-gave-way" | false=>pure ()) Q' E s₁:=fun b s₁ Q' hq=>by cases b <;> first | exact Ob hq | exact Gp hq
  refine hgw gave _ _ ?_;have mk:∀ (t2:RW),t2.led=t1.led->t2.plain=false->∀ (h:Vz) (ob:Nd) (ep1:Vg) (es2:Vm (Vs×Vi)) (t3:RW),h.get? a=some ob->ob.ExactSet->ob.data= .set es2 ep1 t3->L9 es2.toList es1.toList->t3.fits es2.size=true->t3.led=t2.led->(t2.plain=false->t3.plain=false)->SetT prog w h a (ZeO ks x):=by
   intro t2 e1 e2 h ob ep1 es2 t3 c1 c2 c3 c4 c5 c6 c7;have pp:=c4.trans perm;refine⟨ob,es2,ep1,t3,c1,c2,c3,(T.el.push hkey rfl).perm pp,fun k=>?_,?_,ZkX T.nd,c5,by rw[c6,e1,l1,T.led],fun _=>c7 e2⟩
   ·constructor
    ·rintro⟨y,rfl,hy⟩;rcases addS_mem.mp hy with z | z
     ·obtain⟨e,he,hp⟩:=(T.mem (Vn y)).mp ⟨y,rfl,z⟩;exact⟨e,pp.mem_iff.mpr (QI _ he),hp⟩
     ·subst z;exact⟨_,pp.mem_iff.mpr (QF _ (Qo.mpr rfl)),hkey⟩
    ·rintro⟨e,he,hp⟩;rcases QD.mp (pp.mem_iff.mp he)with z | z
     ·obtain⟨y,ey,hy⟩:=(T.mem k).mpr ⟨e,z,hp⟩;exact⟨y,ey,addS_mem.mpr (.inl hy)⟩
     ·rw[Qo.mp z]at hp;exact⟨x,(Zs prog w).inj _ _ _ hp hkey,addS_mem.mpr (.inr rfl)⟩
   ·rw[←Qw,c4.length_eq,Qw,sz1];unfold ZeO;rw[if_neg hx,Qh];rfl
  split
  ·refine Oa ?_;rw[hashByValue_scannable 8 (x:=.str x tk) rfl];refine Ob ?_;refine Zdk (t2:=if plainKind (.str x tk)=true then t1 else {t1 with plain:=false}) hgw T.ob T.dt (mk _ rfl rfl) T.ex (Ed hroom sz1) (SetTable.fits_plain_off fit) fun h1 m hS'=>?_;exact Ob (q _ h1 m hS')
  ·rename_i hpl;refine Oa (Ob ?_);simp only[↓reduceIte];refine Zdk hgw T.ob T.dt (mk t1 rfl (by simp_all)) T.ex (Ed hroom sz1) fit fun h1 m hS'=>?_;exact Ob (q _ h1 m hS')
end
noncomputable def met (val:Vg->Vl):Vg->Vd Vl
 | 0=>[]
 | i+1=>ZeO (met val i) (val i)
theorem ZcV (val):∀ i,(met val i).length<=i
 | 0=>Qg _
 | i+1=>by
  have:=ZiE (met val i) (val i);have:=ZcV val i;show(ZeO _ _).length<=_;exact F1 this ‹_›
theorem Zgm (val):∀ i x,x∈met val i↔∃ j,j<i/\val j=x
 | 0,x=>by simp[met]
 | i+1,x=>by
  show x∈ZeO _ _↔_;rw[addS_mem,Zgm val i x];constructor
  grind
  rintro⟨j,hj,e⟩
  grind
section
variable {prog:Oh} {w:Oi} {A:VA} {R:GN->Vh->Prop} {J:Vk} {fp wr:Vd Vk} {G:Vm GenState->Vm GenState->Prop} {n:Vg} {P:Vg->Vi->Prop} {St:Vg->Vh->Prop}
theorem ZeX (W:WalksS prog w A.in1 J fp wr G n P St) (S) (hSf:S∉fp) (val) (hval:∀ i v,P i v->∃ t,v= .str (val i) t) (hb:n+1<GS) :
  ∀ (k i) (s),n-i=k->i<=n->St i s->SetT prog w s.heap S (met val i)->(∀ s',Moved (S::wr) G s s'->SetT prog w s'.heap S (met val n)->R (.ok (.ret .none)) s') ->
   OB (Oc prog w) A (.builtin "set.update.loop" ⟨[.ref S,.ref J],[]⟩) R s:=by
 have hSw:S∉wr:=fun h=>hSf (W.sub _ h);have hsub:∀ b∈wr,b∈S::wr:=fun b hb=>Qk _ hb;intro k;induction k with
 | zero =>
  intro i s hk hi hst hS hR;have hin:i=n:=Br hi hk
  subst hin;refine Os Nr ?_;refine(Oa (W.done s _ _ hst fun s1 mv=>?_));exact(Ob (hR s1 (mv.mono hsub) (hS.keep fun o e=>mv.heap S o hSw e)))
 | succ k ih =>
  intro i s hk hi hst hS hR;have hlt:i<n:=by omega
  refine Os Nr ?_;refine(Oa (W.item i s _ _ hlt hst fun v s1 hP hst1 mv=>?_));obtain⟨t,rfl⟩:=hval i v hP;have hS1:=hS.keep fun o e=>mv.heap S o hSw e;refine(Oa (Om ?_));refine Om (Oa ((Zs prog w).pyHash (Xz prog w (val i) t) ?_));refine ZjU hS1 (by have:=ZcV val i;lia) fun r h1 sb hS2=>?_;refine Ob ⟨Ow MQ _,ih (i+1) _ (by omega) hlt (W.frame _ s1 _ _ hst1 (UM _) fun b hb o e=>?_) hS2 fun s2 mv2 hS3=>?_⟩
  ·rw[sb.2 b (fun h:b=S=>hSf (by simp_all))];omega
  ·refine hR s2 (Moved.trans W.gtrans ((mv.mono hsub).then_heap (UM _) fun b o hb e=>?_) mv2) hS3;rw[sb.2 b (fun h:b=S=>hb (by rw[h];simp))];omega
end
section
variable {prog:Oh} {w:Oi} {A:VA} {E:Vi->Vh->Prop} {s:Vh}
theorem Zkm (a)
  (q:Q1 (.ref s.heap.objs.size) {s with heap:=s.heap.push {cls:=.type "set",dict:=none,data:=.set #[] 0 (.fresh 0 0 (!byT w))}}) :
  OB (Oc prog w) A (.call (.builtin "set.__new__") ⟨[.type "set",a],[]⟩) (wants Q1 E) s:=by
 refine Mr ?_;refine(Oa (OO (PySem.F.newCall_set_1 a) (Ob ⟨Ow PySem.F.plain_set_new _,Os PySem.F.entry_set_new ?_⟩)));unfold Nc.«set.__new__» TK;have hsub:=sub_set_self
 wp_walk
 refine Oz (Ob ?_);exact Oa (wpAny_alloc (Ob (Ob q)))
theorem ZgR (e:h.get? a=some {cls:=.type "set",dict:=none,data:=.set #[] 0 (.fresh 0 0 (!byT w))}):SetT prog w h a [] :=
 ⟨_,#[],0,_,e,⟨rfl,rfl,rfl⟩,rfl,fun e he=>by simp_all,fun k=>by simp,rfl,Uh,by rfl,rfl,fun z=>Vo rfl z⟩
theorem Zha {l:Vk} {items:Vm Vi} {ss:Vd Vl} {Q:Vi->Vh->Prop} (hh:A.handled=none) (hl:s.heap.IsList l items) (hi:Gh items.toList ss) (hb:items.size+1<GS)
  (q:∀ (h1:Vz) (tk:Vg),SetT prog w h1 s.heap.objs.size (met (fun i=>ss.getD i "") items.size)->(∀ b o,s.heap.get? b=some o->h1.get? b=some o)->Q (.ref s.heap.objs.size) {s with heap:=h1,toks:=tk}) :
  Og (Oc prog w) A (call (.type "set") [.ref l]) Q E s:=by
 obtain⟨c,tl,hmro⟩:=PySem.F.called_set.mro;have hmade:=PySem.F.called_set.made;have hsub:=PySem.F.called_set.sub;refine GY (Mr ?_);refine(show Og _ _ (callAny (.type "set") _) _ _ _ from Ob ⟨Code.quiet_builtin _ (by decide +kernel),Os PySem.F.entry_type_call ?_⟩);rw[Around.under_plain (weight_type_call_type "set" [.ref l] []) rfl];have h1:=PySem.F.called_set.notType;have h2:=PySem.F.called_set.canCreate;have hct:=PySem.F.typeCall_set_1 (.ref l)
 repeat (any_goals (first | assumption | wp_step))
 refine OL (Zkm (.ref l) (E:=E) (Q1:=fun obj s1=>obj= .ref s.heap.objs.size/\s1={s with heap:=s.heap.push {cls:=.type "set",dict:=none,data:=.set #[] 0 (.fresh 0 0 (!byT w))}}) ⟨rfl,rfl⟩) fun r s1 hr=>?_;cases r with
 | error e=>exact hr
 | ok fl =>
  cases fl with
  | ret obj =>
   obtain⟨rfl,rfl⟩:=hr;have gS:(s.heap.push {cls:=.type "set",dict:=none,data:=.set #[] 0 (.fresh 0 0 (!byT w))}).get? s.heap.objs.size=some {cls:=.type "set",dict:=none,data:=.set #[] 0 (.fresh 0 0 (!byT w))}:=Qm _ rfl;have hT:Shared.TypeIs {s with heap:=s.heap.push {cls:=.type "set",dict:=none,data:=.set #[] 0 (.fresh 0 0 (!byT w))}} (.ref s.heap.objs.size) "set":=⟨_,gS,rfl⟩
   have hli:=PySem.F.called_set.init.lookup;have hbi:=PySem.F.called_set.init.bind (.ref s.heap.objs.size)
   repeat (any_goals (first | assumption | wp_step))
   refine OL (codeAny_call_builtin (R:=wants (fun r s2=>r= .none/\∃ g tk,s2={s with heap:=g,toks:=tk}/\SetT prog w g s.heap.objs.size (met (fun i=>ss.getD i "") items.size)/\(∀ b o,s.heap.get? b=some o->g.get? b=some o)) E) PySem.F.called_set.init.plain PySem.F.entry_set_init (check_set_init_1 hT ?_)) fun r2 s2 hr2=>?_
   ·obtain⟨ol,hol,hcl,nl,hdl⟩:=hl;obtain⟨ocls,odict,odata,oslots⟩:=ol;simp only at hcl hdl;subst hcl;subst hdl;have hol':(s.heap.push {cls:=.type "set",dict:=none,data:=.set #[] 0 (.fresh 0 0 (!byT w))}).get? l=some {cls:=.type "list",dict:=odict,data:=.seq items nl,slots:=oslots}:=Qc _ hol;have hsls:=PySem.F.sub_list_set;have hslf:=PySem.F.sub_list_frozenset;have hne:(VM "list" == VM "dict")=false:=by decide
    have hl1:(s.heap.push {cls:=.type "set",dict:=none,data:=.set #[] 0 (.fresh 0 0 (!byT w))}).IsList l items:=⟨_,hol',rfl,nl,rfl⟩
    unfold Nc.«set.__init__» noKeywords Tq;generalize hPI:GL=PI
    wp_walk
    subst hPI;refine Gb hl1 (Oa (MH ?_));have hlS:l<s.heap.objs.size:=Qn hol;have hh3:A.in1.in1.in1.handled=none:=by simp[hh]
    have hneI:l≠(s.heap.push {cls:=.type "set",dict:=none,data:=.set #[] 0 (.fresh 0 0 (!byT w))}).objs.size:=by
     rw[WF];exact QB (Ub hlS)
    have hSf:s.heap.objs.size∉[(s.heap.push {cls:=.type "set",dict:=none,data:=.set #[] 0 (.fresh 0 0 (!byT w))}).objs.size,l]:=by
     rw[WF];simp only[Qs,Q4,or_false,Mi];exact⟨QB (Uz _),Ur hlS⟩
    have hval:∀ (i:Vg) (v:Vi),items[i]?=some v->∃ t,v= .str ((fun i=>ss.getD i "") i) t:=fun i v hv=>by
     obtain⟨t,e,_⟩:=Tim.strs_at hi i v (by rw[QT];exact hv);exact⟨t,e⟩
    refine ZeX ((Walks.list hh3 _ l hneI items).toS) s.heap.objs.size hSf (fun i=>ss.getD i "") hval hb (items.size-0) 0 _ (by lia) (QQ _)
     ⟨⟨_,Qm _ rfl,rfl,rfl⟩,(hl1.push _)⟩ (ZgR (Qc _ gS)) ?_
    intro s3 mv hS3;obtain⟨h3,g3,d3,t3,o3⟩:=s3;have eg:g3=s.gens:=mv.gens;have ed:d3=s.drawn:=mv.drawn;have eo:o3=s.os:=mv.os;subst eg;subst ed;subst eo;refine Ob (show Og _ _ (ret VI) _ _ _ from Ob ⟨rfl,h3,t3,rfl,hS3,fun b o e=>?_⟩);have hb0:b<s.heap.objs.size:=Qn e;have hb2:b≠(s.heap.push {cls:=.type "set",dict:=none,data:=.set #[] 0 (.fresh 0 0 (!byT w))}).objs.size:=by
     rw[WF];exact QB (Ub hb0)
    exact mv.heap b o (by simp only[Qs,Q4,or_false,Mi];exact⟨QB hb0,hb2⟩) (Qc _ (Qc _ e))
   ·cases r2 with
    | error e=>exact hr2
    | ok fl2 =>
     cases fl2 with
     | ret r =>
      obtain⟨rfl,g,tk,rfl,hS',hk'⟩:=hr2
      repeat (any_goals (first | assumption | wp_step))
      exact q _ _ hS' hk'
     | _=>exact hr2
  | _=>exact hr
end
theorem si_slot:Slot "set_iterator" "__next__" "set_iterator.__next__" :=
 .of (by rfl) (by rfl) (by rfl) (by rfl) (by first | exact .inl (by rfl) | lia) (by rfl)
theorem Xc:LM table "set_iterator.__next__" = some Nc.«set_iterator.__next__»:=entryFor_of_fast (by rfl)
theorem X5 (a):argsOk "set_iterator.__next__" ⟨[a],[]⟩:=by rfl
theorem Zht:LM table "set.__iter__" = some Nc.«frozenset.__iter__» :=
 TL (id':="frozenset.__iter__") (by rfl) (by rfl) (by decide +kernel) (by rfl)
theorem ZaC {α:Type} {l:Vd α} (h):(l[i]::l.eraseIdx i).Perm l:=by
 rw[List.eraseIdx_eq_take_drop_succ];have e:l=l.take i++l[i]::l.drop (i+1):=by simp
 conv=>rhs;rw[e]
 exact List.perm_middle.symm
theorem ZfL (next):∀ (f k) (left:Vd α) (out),left.length<=f->(Mj next f k left out).toList.Perm (out.toList++left)
 | 0,k,left,out,h=>by
  have:left=[]:=Q7.mp (Kn h);subst this;unfold Mj;simp
 | f+1,k,[],out,h=>by
  unfold Mj;simp
 | f+1,k,x::left,out,h=>by
  unfold Mj;have hi:next k % (x::left).length<(x::left).length:=LY _ (by simp);rw[Qa hi];refine(ZfL next f _ _ _ ?_).trans ?_;rw[Rb,Vf hi];lia;rw[UV,QH];exact My _ (ZaC hi)
theorem JC (next) (xs:Vm α):(Nn next xs).toList.Perm xs.toList:=by
 unfold Nn;have:=ZfL next xs.size 0 xs.toList #[] (by simp)
 simp_all
abbrev Zch (h:Vz) (J:Vk) (f:Vi) (i:Vg) (a:Vk) (n ep:Vg):Prop:=h.get? J=some {cls:=.type "set_iterator",dict:=none,data:=.fields #[f,.int i 0,.ref a,.int n 0,.int ep 0],slots:=#[]}
section
variable {prog:Oh} {w:Oi} {A:VA} {E:Vi->Vh->Prop} {s:Vh}
theorem Zbj (hn:n≠0) (h:∀ i d,i<n->Q i {s with drawn:=d}):Og (Oc prog w) A (choose src n) Q E s :=
 fun _ _ _=>⟨hn,h _ _ (LY _ (Nat.pos_of_ne_zero hn))⟩
theorem Zb4:∀ (n) (xs:Vd α) (s) {Q},xs.length<=n->(∀ ys d,ys.Perm xs->Q ys {s with drawn:=d})->Og (Oc prog w) A (drawOrder n xs) Q E s
 | 0,xs,s,Q,hl,h=>by
  have:xs=[]:=Q7.mp (Kn hl);subst this;exact Ob (h [] s.drawn (ND _))
 | n+1,[],s,Q,hl,h=>Ob (h [] s.drawn (ND _))
 | n+1,x::xs,s,Q,hl,h=>by
  refine Oa (Zbj (by simp) fun i d hi=>?_);rw[Qa hi];refine Oa (Zb4 n _ _ ?_ fun ys d2 hp=>Ob (h _ d2 ?_));rw[Rb];split <;> simp at * <;> omega
  exact(hp.cons _).trans (ZaC hi)
structure SeesS (h:Vz) (a:Vk) (o:Nd) (es:Vm (Vs×Vi)) (ep:Vg) (t:RW) (n:Vg):Prop where
 ob:h.get? a=some o
 dt:o.data= .set es ep t
 fits:t.fits es.size=true
 len:es.size=n
theorem Yl (V:SeesS s.heap a o es ep t n) (q:Q (es,ep,t) s):Og (Oc prog w) A (setState a) Q E s:=RZ V.ob V.dt V.fits q
theorem YJ {Q} (hJ:Zch s.heap J f i a n ep) (V:SeesS s.heap a o es ep t n)
  (q:Og (Oc prog w) A (if let .int slot _:=f then (do
    match ←setNext a slot.toNat (i:Vs).toNat (ep:Vs).toNat with
    | some (x,next) =>
     Gx (.ref J) 0 (OA next)
     Gx (.ref J) 1 (OA (i+1))
     ret x
    | none=>Gx (.ref J) 2 .none;LN (←newExc (.type "StopIteration") []))
   else (do
    let some places ←Lp f | unsupported "internal:set_iterator"
    match places[(i:Vs).toNat]? with
    | some (.int place _) =>
     let x ←setNextDrawn a place.toNat (ep:Vs).toNat
     Gx (.ref J) 1 (OA (i+1))
     ret x
    | some _=>unsupported "internal:set_iterator"
    | none=>Gx (.ref J) 0 (OA 0);Gx (.ref J) 2 .none;LN (←newExc (.type "StopIteration") []))) Q E s) :
  Og (Oc prog w) A (Nc.«set_iterator.__next__» ⟨[.ref J],[]⟩) Q E s:=by
 refine(show Og _ _ (fieldsOf _ >>= _) _ _ s from Oa (wpAny_fieldsOf hJ rfl ?_));refine Oa (MR V.ob V.dt V.fits ?_);rw[if_neg (by rw[V.len];simp)];omega
theorem X3 {J:Vk} {Q:PySem.Fin->Vh->Prop} (hh:A.handled=none)
  (q:∀ g e,(∀ c o,g0.get? c=some o->g.get? c=some o)->(∃ o,g.get? e=some o/\o.cls= .type "StopIteration")->E (.ref e) {s with heap:=g}) :
  Og (Oc prog w) A (do LN (←newExc (.type "StopIteration") [])) Q E {s with heap:=g0}:=by
 refine Oa ?_;refine Oa (Ov (Oa (OO (by rfl) (Ov ?_ (by size_fits)))) (by exact Ko));refine Oa (wpAny_handled ?_);first | rw[hh] | lia
 exact Oa (Ob (wpAny_throw (q _ _ (fun c o e=>Qc _ (Qc _ e)) ⟨_,Qm _ rfl,rfl⟩)))
theorem ZhA {i n ep p m:Vg} {o oT} {es} {t} {pl} {hx} {x} {Q:Vi->Vh->Prop} (hJ:Zch s.heap J (.ref T) i a n ep) (V:SeesS s.heap a o es ep t n)
  (gT:s.heap.get? T=some oT) (dT:oT.data= .seq pl m) (hp:pl[i]?=some (.int p 0)) (hx:es[p]?=some (hx,x)) (q:∀ g,Zch g J (.ref T) (i+1) a n ep->VY J s.heap g->Q x {s with heap:=g}) :
  Og (Oc prog w) A (Nc.«set_iterator.__next__» ⟨[.ref J],[]⟩) (fun fin s'=>∃ v,fin= .done (.ret v)/\Q v s') E s:=by
 refine YJ hJ V ?_;refine Oa (OP gT dT ?_);simp[Wc,hp];refine Oa (Oa (Yl V ?_));dsimp only;rw[if_neg (by simp),hx];refine Ob (Oa (Ou hJ (by simp) fun g hg sb=>Ob ⟨x,rfl,q g ?_ sb⟩))
 assumption
theorem ZjS (hh:A.handled=none) (hJ:Zch s.heap J (.ref T) i a n ep) (V:SeesS s.heap a o es ep t n)
  (gT:s.heap.get? T=some oT) (dT:oT.data= .seq pl m) (hp:pl[i]?=none) (q:∀ g e,(∀ c o,c≠J->s.heap.get? c=some o->g.get? c=some o)->(∃ o,g.get? e=some o/\o.cls= .type "StopIteration")->E (.ref e) {s with heap:=g}) :
  Og (Oc prog w) A (Nc.«set_iterator.__next__» ⟨[.ref J],[]⟩) Q E s:=by
 refine YJ hJ V ?_;refine Oa (OP gT dT ?_);simp[Wc,hp];refine Oa (Ou hJ (by simp) fun g1 hg1 sb1=>Oa (Ou hg1 (by simp) fun g2 hg2 sb2=>?_));exact X3 (J:=J) hh fun g e k he=>q g e (fun c o hc z=>k c o (sb2.extBut _ _ hc (sb1.extBut _ _ hc z))) he
theorem Zhy {Q:Vi->Vh->Prop} (hb:byT w=true) (hJ:Zch s.heap J (.int 0 0) i a n ep) (V:SeesS s.heap a o es ep t n)
  (hp:(Nn (w.params.setOrder a ep) es)[i]?=some (hx,x)) (q:∀ g,Zch g J (.int 0 0) (i+1) a n ep->VY J s.heap g->Q x {s with heap:=g}) :
  Og (Oc prog w) A (Nc.«set_iterator.__next__» ⟨[.ref J],[]⟩) (fun fin s'=>∃ v,fin= .done (.ret v)/\Q v s') E s:=by
 refine YJ hJ V ?_;refine Oa ?_;refine Oa (Yl V ?_);refine Oa (Oa (Oz (Ob ?_)));rw[Vf (show(Oc prog w).w.params.followText _=true from hb),if_neg (by simp)];refine Oa (Oa (Yl V ?_));refine Oa (Oa (Oz (Ob ?_)));rw[Vf (show(Oc prog w).w.params.followText _=true from hb)];refine Oa (Oz (Ob (Ob ?_)));have hp':(Nn ((Oc prog w).w.params.setOrder a ep) es)[i]?=some _:=hp;simp[Wc,hp',We];refine Oa (Ou hJ (by simp) fun g1 hg1 sb1=>Oa (Ou hg1 (by simp) fun g2 hg2 sb2=>Ob ⟨x,rfl,q g2 ?_ (sb1.trans sb2)⟩))
 assumption
theorem ZjQ (hh:A.handled=none) (hb:byT w=true) (hJ:Zch s.heap J (.int 0 0) i a n ep) (V:SeesS s.heap a o es ep t n)
  (hp:(Nn (w.params.setOrder a ep) es)[i]?=none) (q:∀ g e,(∀ c o,c≠J->s.heap.get? c=some o->g.get? c=some o)->(∃ o,g.get? e=some o/\o.cls= .type "StopIteration")->E (.ref e) {s with heap:=g}) :
  Og (Oc prog w) A (Nc.«set_iterator.__next__» ⟨[.ref J],[]⟩) Q E s:=by
 refine YJ hJ V ?_;refine Oa ?_;refine Oa (Yl V ?_);refine Oa (Oa (Oz (Ob ?_)));rw[Vf (show(Oc prog w).w.params.followText _=true from hb),if_neg (by simp)];refine Oa (Oa (Yl V ?_));refine Oa (Oa (Oz (Ob ?_)));rw[Vf (show(Oc prog w).w.params.followText _=true from hb)];refine Oa (Oz (Ob (Ob ?_)));have hp':(Nn ((Oc prog w).w.params.setOrder a ep) es)[i]?=none:=hp;simp[Wc,hp',Option.map_none];refine Oa (Ou hJ (by simp) fun g1 hg1 sb1=>?_);exact X3 (J:=J) hh fun g e k he=>q g e (fun c o hc z=>k c o (sb1.extBut _ _ hc z)) he
theorem Zap (hb:byT w=false) (V:SeesS s.heap a o es ep t n) (hn:n<=1) (led:t.led=true)
  (q:Q (match es[Nj t.place sl]?,t.place[Nj t.place sl]? with
   | some (_,x),some j=>some (x,j+1)
   | _,_=>none) s):Og (Oc prog w) A (setNext a sl i ep) Q E s:=by
 refine Oa (Yl V ?_);refine Oa (Oa (Oz (Ob ?_)));rw[if_neg (by rw[show(Oc prog w).w.params.followText _=false from hb];decide)];refine(show Og _ A (if (!t.plain&&decide _)=true then _ else _) Q E s from ?_);rw[if_neg (by rw[V.len];simp;omega)];refine(show Og _ A ((if (!t.led&&!es.isEmpty)=true then unsupported _ else pure ()) >>= fun _=>_) Q E s from ?_);rw[led];exact Oa (Ob (Ob q))
theorem Zhz {Q:Vi->Vh->Prop} (hb:byT w=false) (led:t.led=true) (hJ:Zch s.heap J (.int 0 0) 0 a 1 ep) (V:SeesS s.heap a o es ep t 1)
  (hj:t.place= #[j]) (hp:es[0]?=some (hx,x)) (q:∀ g,Zch g J (.int ((j+1:Vg)) 0) 1 a 1 ep->VY J s.heap g->Q x {s with heap:=g}) :
  Og (Oc prog w) A (Nc.«set_iterator.__next__» ⟨[.ref J],[]⟩) (fun fin s'=>∃ v,fin= .done (.ret v)/\Q v s') E s:=by
 refine YJ hJ V ?_;refine Oa (Zap hb V (Qg _) led ?_);have hbw:Nj t.place (0:Vs).toNat=0:=by rw[hj];rfl
 rw[hbw,hp,hj];refine Oa (Ou hJ (by simp) fun g1 hg1 sb1=>Oa (Ou hg1 (by simp) fun g2 hg2 sb2=>Ob ⟨x,rfl,q g2 hg2 (sb1.trans sb2)⟩))
theorem ZjR {sl i n ep:Vg} (hh:A.handled=none) (hb:byT w=false) (led:t.led=true) (hJ:Zch s.heap J (.int sl 0) i a n ep) (V:SeesS s.heap a o es ep t n) (hn:n<=1)
  (hp:es[Nj t.place sl]?=none) (q:∀ g e,(∀ c o,c≠J->s.heap.get? c=some o->g.get? c=some o)->(∃ o,g.get? e=some o/\o.cls= .type "StopIteration")->E (.ref e) {s with heap:=g}) :
  Og (Oc prog w) A (Nc.«set_iterator.__next__» ⟨[.ref J],[]⟩) Q E s:=by
 refine YJ hJ V ?_;refine Oa (Zap hb V hn led ?_);rw[Wc,hp];refine Oa (Ou hJ (by simp) fun g1 hg1 sb1=>?_);exact X3 (J:=J) hh fun g e k he=>q g e (fun c o hc z=>k c o (sb1.extBut _ _ hc z)) he
end
theorem SeesS.keep (V:SeesS h a o es ep t n) (k:∀ o,h.get? a=some o->h'.get? a=some o):SeesS h' a o es ep t n:={V with ob:=k o V.ob}
theorem Zfk:Slot "set_iterator" "__iter__" "set_iterator.__iter__" :=
 .of (owner:="set_iterator") (n:="__iter__") (by rfl) (by decide +kernel) (by decide +kernel) (by decide +kernel) (by first | exact .inl (by rfl) | lia) (by rfl)
theorem Zhw:LM table "set_iterator.__iter__" = some Nc.«dict_keyiterator.__iter__» :=
 TL (id':="dict_keyiterator.__iter__") (by rfl) (by rfl) (by decide +kernel) (by rfl)
theorem Zhx (a):argsOk "set_iterator.__iter__" ⟨[a],[]⟩:=by rfl
theorem Zcw (hJ:Zch s.heap J f i a n ep) (h:Q (.ref J) s):Og (Oc prog w) A (GL (.ref J)) Q E s:=by
 refine R0 ⟨_,hJ,rfl⟩ Zfk (Ot Zfk ⟨_,hJ,rfl⟩ Zhw ?_ (Zhx _));exact(Ob ⟨_,rfl,"set_iterator",_,⟨_,hJ,rfl⟩,si_slot.lookup,h⟩)
section
variable {prog:Oh} {w:Oi} {A:VA} {E:Vi->Vh->Prop} {s:Vh}
abbrev Zi6 (ord:Vm (Vs×Vi)) (i:Vg) (v:Vi):Prop:=∃ e,ord[i]?=some e/\v=e.2
theorem ZmU (hh:A.handled=none) {ps:Vd Vg} (hJT:T≠J) (hJa:a≠J) (hps:ps.length=n) (hlt:∀ p∈ps,p<es.size) :
  LO prog w A J [J,T,a] [J] n (Zi6 (ps.map fun p=>es.getD p (0,.none)).toArray) (fun i h=>Zch h J (.ref T) i a n ep/\(∃ oT m,h.get? T=some oT/\oT.data= .seq (ps.map fun p:Vg=>Nl p 0).toArray m)/\SeesS h a o es ep t n) where
 sub:=fun b hb=>by rw[Qo.mp hb];simp
 frame:=fun i h h' ⟨s1,⟨oT,m,g,d⟩,s3⟩ k=>⟨k J (by simp) _ s1,⟨oT,m,k T (by simp) _ g,d⟩,s3.keep fun o e=>k a (by simp) o e⟩
 item:=fun i s Q E hi ⟨s1,⟨oT,m,g,d⟩,s3⟩ q=>by
  have hi':i<ps.length:=B9 hi hps
  have hp:(ps.map fun p:Vg=>Nl (p:Vs) 0).toArray[i]?=some (.int (ps[i]:Vg) 0):=by simp[hi']
  have hpe:ps[i]<es.size:=hlt _ (QG hi');have hx:es[ps[i]]?=some (es[ps[i]].1,es[ps[i]].2):=by simp_all
  refine Oa (OH (VD ⟨_,s1,rfl⟩ si_slot (Ot si_slot ⟨_,s1,rfl⟩ Xc (ZhA s1 s3 g d hp hx fun g1 h1 sb=>Ob (q _ g1 s.toks ?_ ?_ ?_)) (X5 _))))
  ·refine⟨es[ps[i]],?_,rfl⟩;simp[hi',hpe]
  ·exact⟨h1,⟨oT,m,sb.extBut _ _ hJT g,d⟩,s3.keep fun o e=>sb.extBut _ _ hJa e⟩
  ·exact fun b o hb e=>sb.extBut _ _ (fun z=>hb (by simp[z])) e
 done:=fun s Q E ⟨s1,⟨oT,m,g,d⟩,s3⟩ q=>by
  refine Oa (OH (VD (name:=R1 "__next__") ⟨_,s1,rfl⟩ si_slot (Ot si_slot ⟨_,s1,rfl⟩ Xc (ZjS hh s1 s3 g d (by simp[hps]) fun g1 e k ⟨oe,ge,ce⟩=>?_) (X5 _))));exact Oa (O0 (T:="StopIteration") (b:=true) ⟨oe,ge,ce⟩ Gy (Ob (q g1 s.toks fun b o hb z=>k b o (fun y=>hb (by simp[y])) z)))
 self:=fun i s Q E ⟨s1,_⟩ q=>Zcw s1 q
theorem ZmS (hh:A.handled=none) (hb:byT w=true) (hJa:a≠J) (hn:es.size=n) :
  LO prog w A J [J,a] [J] n (Zi6 (Nn (w.params.setOrder a ep) es)) (fun i h=>Zch h J (.int 0 0) i a n ep/\SeesS h a o es ep t n) where
 sub:=fun b hb=>by rw[Qo.mp hb];simp
 frame:=fun i h h' ⟨s1,s3⟩ k=>⟨k J (by simp) _ s1,s3.keep fun o e=>k a (by simp) o e⟩
 item:=fun i s Q E hi ⟨s1,s3⟩ q=>by
  have hsz:(Nn (w.params.setOrder a ep) es).size=n:=by rw[←Qw,(JC _ es).length_eq,Qw,hn]
  have hx:(Nn (w.params.setOrder a ep) es)[i]?=some _:=QR (B9 hi hsz);refine Oa (OH (VD ⟨_,s1,rfl⟩ si_slot (Ot si_slot ⟨_,s1,rfl⟩ Xc (Zhy hb s1 s3 hx fun g1 h1 sb=>Ob (q _ g1 s.toks ⟨_,hx,rfl⟩ ⟨h1,s3.keep fun o e=>sb.extBut _ _ hJa e⟩ fun b o hb e=>sb.extBut _ _ (fun z=>hb (by simp[z])) e)) (X5 _))))
 done:=fun s Q E ⟨s1,s3⟩ q=>by
  have hsz:(Nn (w.params.setOrder a ep) es).size=n:=by rw[←Qw,(JC _ es).length_eq,Qw,hn]
  refine Oa (OH (VD ⟨_,s1,rfl⟩ si_slot (Ot si_slot ⟨_,s1,rfl⟩ Xc (ZjQ hh hb s1 s3 (WX (Fz hsz)) fun g1 e k ⟨oe,ge,ce⟩=>?_) (X5 _))));exact Oa (O0 ⟨oe,ge,ce⟩ Gy (Ob (q g1 s.toks fun b o hb z=>k b o (fun y=>hb (by simp[y])) z)))
 self:=fun i s Q E ⟨s1,_⟩ q=>Zcw s1 q
theorem ZmT (hh:A.handled=none) (hb:byT w=false) (hJa:a≠J) (hn:es.size=n) (h1:n<=1) (led:t.led=true) (hf:t.fits es.size=true) :
  LO prog w A J [J,a] [J] n (Zi6 es) (fun i h=>(∃ sl:Vg,Zch h J (.int sl 0) i a n ep/\(i<n->sl=0)/\(i=n->es[Nj t.place sl]?=none))/\SeesS h a o es ep t n) where
 sub:=fun b hb=>by rw[Qo.mp hb];simp
 frame:=fun i h h' ⟨⟨sl,s1,s2⟩,s3⟩ k=>⟨⟨sl,k J (by simp) _ s1,s2⟩,s3.keep fun o e=>k a (by simp) o e⟩
 item:=fun i s Q E hi ⟨⟨sl,s1,s2,_⟩,s3⟩ q=>by
  have hn1:n=1:=by lia
  have hi0:i=0:=Kq hn1 hi
  subst hi0;have hsl:=s2 hi;subst hsl;subst hn1;have hpz:t.place.size=1:=by
   simp only[SetTable.fits,Wg,TM]at hf;lia
  obtain⟨j,hj⟩:∃ j,t.place= #[j]:=by
   generalize t.place=pl at hpz;obtain⟨l⟩:=pl;match l,hpz with
   | [j],_=>simp
  have hx:es[0]?=some es[0]:=QR (Kr hn);refine Oa (OH (VD ⟨_,s1,rfl⟩ si_slot (Ot si_slot ⟨_,s1,rfl⟩ Xc (Zhz hb led s1 s3 hj hx fun g1 hg1 sb=>Ob (q _ g1 s.toks ⟨_,hx,rfl⟩ ⟨⟨j+1,hg1,fun z=>Vo z (by lia),fun _=>?_⟩,s3.keep fun o e=>sb.extBut _ _ hJa e⟩ fun b o hb e=>sb.extBut _ _ (fun z=>hb (by simp[z])) e)) (X5 _))));have hbw:Nj t.place (j+1)=1:=by
   rw[hj];show SetTable.below.go #[j] (j+1) 1 0 1=1;unfold SetTable.below.go;rw[Vf Ks];rw[Vf (by simp)];rfl
  exact WX (Kt hn hbw)
 done:=fun s Q E ⟨⟨sl,s1,_,s2⟩,s3⟩ q=>by
  refine Oa (OH (VD ⟨_,s1,rfl⟩ si_slot (Ot si_slot ⟨_,s1,rfl⟩ Xc (ZjR hh hb led s1 s3 h1 (s2 rfl) fun g1 e k ⟨oe,ge,ce⟩=>?_) (X5 _))));exact Oa (O0 (b:=true) ⟨oe,ge,ce⟩ Gy (Ob (q g1 s.toks fun b o hb z=>k b o (fun y=>hb (by simp[y])) z)))
 self:=fun i s Q E ⟨⟨sl,s1,_⟩,_⟩ q=>Zcw s1 q
end
section
variable {prog:Oh} {w:Oi} {A:VA} {E:Vi->Vh->Prop} {s:Vh}
theorem Zek {es:Vm (Vs×Vi)} {ps:Vd Vg} (h:ps.Perm (Qu es.size)):(ps.map fun p=>es.getD p (0,.none)).Perm es.toList:=by
 have h1:=h.map fun p=>es.getD p (0,.none);have h2:((Qu es.size).map fun p=>es.getD p (0,.none))=es.toList:=by
  apply QW;intro i;rw[Qi];by_cases hi:i<es.size
  simp[hi];rw[Qp (by simp;exact Kf hi),Qp (by simp;exact Kf hi)];rfl
 rw[h2]at h1;omega
theorem Zil (hh:A'.handled=none) (S:StT prog w s.heap a ks o es ep t) (hz:ks.length<=1000)
  (q:∀ (J) (h1) (d) (ord) (fp) (St),ord.toList.Perm es.toList->LO prog w A' J fp [J] ks.length (Zi6 ord) St->St 0 h1->(∀ b∈fp,b=a\/s.heap.objs.size<=b)->s.heap.objs.size<=J ->
   (∀ b u,s.heap.get? b=some u->h1.get? b=some u)->Q (.ref J) {s with heap:=h1,drawn:=d}):Og (Oc prog w) A (GL (.ref a)) Q E s:=by
 have hT:s.TypeIs (.ref a) "set":=⟨o,S.ob,S.ex.1⟩
 have V:SeesS s.heap a o es ep t ks.length:=⟨S.ob,S.dt,S.fits,S.len⟩
 have ha:a<s.heap.objs.size:=Qn S.ob;have es0:s={s with heap:=s.heap,drawn:=s.drawn}:=by simp
 refine R0 hT Mz (Ot Mz hT Zht ?_ (PySem.F.args_set_iter_1 _));unfold Nc.«frozenset.__iter__»;refine(show Og _ _ (N4 a >>= _) _ _ s from Oa ?_);unfold N4;refine Oa (MR V.ob V.dt V.fits (Ob ?_));dsimp only;unfold setDrawn setsByText;refine Oa (Oa (Yl V ?_));dsimp only;refine Oa (Oa (Oz (Ob (Ob ?_))));have lift1:∀ (x:V0) (h:x=(!byT w&&(!t.plain&&decide (es.size>1)))),x=(!(Oc prog w).w.params.followText "set-order" && (!t.plain&&decide (es.size>1))):=fun x h=>h;by_cases c:(!byT w&&(!t.plain&&decide (es.size>1)))=true
 ·refine(show Og (Oc prog w) _ (if (!byT w&&(!t.plain&&decide (es.size>1)))=true then _ else _) _ _ s from ?_);rw[Vf c];refine Oa (Zb4 es.size (Qu es.size) s (by simp) fun ps d hp=>?_);have hpl:ps.length=ks.length:=by rw[hp.length_eq,QX,S.len]
  refine Oa (ME ?_ (by rw[Qd];exact XG (Dk hz hpl)));have V1:SeesS (s.heap.push {cls:=.type "tuple",data:=.seq (ps.map fun i:Vg=>OA i).toArray}) a o es ep t ks.length:=V.keep fun o e=>Qc _ e;refine Oa ?_;unfold setEpoch;refine Oa (Yl (s:={s with heap:=s.heap.push {cls:=.type "tuple",data:=.seq (ps.map fun i:Vg=>OA i).toArray},drawn:=d}) V1 (Ob ?_));refine Oa (Ov (Ob ⟨_,rfl,"set_iterator",_,⟨_,Qm _ rfl,rfl⟩,si_slot.lookup,?_⟩));have hsz:(s.heap.push {cls:=.type "tuple",data:=.seq (ps.map fun i:Vg=>OA i).toArray}).objs.size=s.heap.objs.size+1:=WF ..;refine q _ _ d (ps.map fun p=>es.getD p (0,.none)).toArray [_,s.heap.objs.size,a] _ (Zek hp) (ZmU hh (T:=s.heap.objs.size) (a:=a) (ep:=ep) (o:=o) (es:=es) (t:=t) (by simp) (by rw[hsz];exact QB (Ub ha)) hpl fun p hpm=>Qr.mp (hp.mem_iff.mp hpm)) ⟨?_,⟨_,_,Qc _ (Qm _ rfl),rfl⟩,V1.keep fun o e=>Qc _ e⟩ ?_ (by simp) fun b u e=>Qc _ (Qc _ e)
  ·unfold Zch;rw[Qm _ rfl,S.len];rfl
  simp
 ·refine(show Og (Oc prog w) _ (if (!byT w&&(!t.plain&&decide (es.size>1)))=true then _ else _) _ _ s from ?_);rw[if_neg c];refine Oa (Ob (Oa ?_));unfold setEpoch;refine Oa (Yl V (Ob ?_));refine Oa (Ov (Ob ⟨_,rfl,"set_iterator",_,⟨_,Qm _ rfl,rfl⟩,si_slot.lookup,?_⟩));have fpk:∀ b∈[s.heap.objs.size,a],b=a\/s.heap.objs.size<=b:=fun b hb=>by
   rcases Qs.mp hb with z | z
   ·lia
   simp_all
  have gJ:Zch (s.heap.push {cls:=.type "set_iterator",data:=.fields #[OA 0,OA 0,.ref a,OA es.size,OA ep]}) s.heap.objs.size (.int 0 0) 0 a ks.length ep:=by
   unfold Zch;rw[Qm _ rfl,S.len];rfl
  by_cases hb:byT w=true
  ·exact q _ _ s.drawn _ [s.heap.objs.size,a] _ (JC _ es) (ZmS hh hb (o:=o) (t:=t) (QB ha) S.len) ⟨gJ,V.keep fun o e=>Qc _ e⟩ fpk (Qg _) fun b u e=>Qc _ e
  ·have hb':byT w=false:=by simp_all
   have led:t.led=true:=by rw[S.led,hb'];rfl
   have h1:ks.length<=1:=by
    rcases Wn 1 ks.length with z | z
    ·have hpf:=S.plain (fun e=>by rw[e]at z;simp at z);exact Vo (by rw[hb',hpf,S.len];simp;exact z) c
    exact z
   refine q _ _ s.drawn es [s.heap.objs.size,a] _ (ND _) (ZmT hh hb' (o:=o) (t:=t) (ep:=ep) (QB ha) S.len h1 led S.fits) ⟨⟨0,gJ,fun _=>rfl,fun z=>?_⟩,V.keep fun o e=>Qc _ e⟩ fpk (Qg _) fun b u e=>Qc _ e;have:es.size=0:=by rw[S.len];exact z.symm
   exact WX (by lia)
end
theorem Zgb:∀ {ks xs:Vd Vl},ks.Nodup->(∀ x∈ks,x∈xs)->xs.length=ks.length->xs.Perm ks
 | [],xs,_,_,hl=>by rw[Q7.mp hl]
 | k::ks,xs,nd,hs,hl=>by
  have nd':=QU.mp nd;have p:=UF (hs k Qj ..);refine p.trans (List.Perm.cons k (Zgb nd'.2 (fun x hx=>?_) ?_));have hne:x≠k:=fun e=>nd'.1 (e▸hx)
  simp_all
  simp_all
section
variable {prog:Oh} {w:Oi} {A:VA} {E:Vi->Vh->Prop} {s:Vh}
theorem Zim (hT:s.TypeIs (.ref r) "set") (q:Q false s):Og (Oc prog w) A (NN (.ref r)) Q E s:=by
 refine Oa (Gk hT PySem.F.slot_set_len.lookup ?_);generalize hid:("set.__len__")=nm;subst hid;refine Oa (O0 hT (by rfl) ?_);refine Ms (fun z=>Vo z (by decide)) fun _=>Ms (fun _=>?_) fun z=>Vo (by rfl) z;exact Oa (GP hT (Ob q))
theorem ZeG (hh:A.handled=none) (T:StT prog w s.heap a ks o es ep t) (hz:ks.length<=1000) (hSa:S≠a) (hS:s.heap.get? S=some {cls:=.type "list",data:=.seq #[] c₀})
  (q:∀ h1 tk d acc c (ord),ord.toList.Perm es.toList->(∀ b u,b≠S->s.heap.get? b=some u->h1.get? b=some u)->h1.get? S=some {cls:=.type "list",dict:=none,data:=.seq acc c,slots:=#[]}->Ls (Zi6 ord) acc ks.length->R (.ok (.ret res)) {s with heap:=h1,toks:=tk,drawn:=d}) :
  Og (Oc prog w) A.in1 (NO (.ref S) (.ref a) res) (fun fin s'=>match fin with | .done f=>R (.ok f) s' | .again c'=>c'.quiet=true/\OB (Oc prog w) A c' R s') (fun e s'=>R (.error e) s') s:=by
 have hT:s.TypeIs (.ref a) "set":=⟨o,T.ob,T.ex.1⟩
 have hSl:=Qn hS;refine Oa (GP hT ?_);have h1:Nf (.ref S) (.ref a)=false:=by simp[Nf,hSa]
 have n1:(VM "set" == VM "list")=false:=by decide
 have n2:(VM "set" == VM "tuple")=false:=by decide
 simp only[h1,n1,n2,Rf,Us,MC];refine Oa (Zil (A':=A.in1) hh T hz fun J g d ord fp St hp W st hfp hJ kk=>?_);have gS:=kk _ _ hS;have nf:S∉fp:=fun z=>by
  rcases hfp S z with y | y
  ·simp_all
  ·exact Vo hSl (UX.mpr y)
 have key:∀ (h:Vz) (c₁ tk:Vg),St 0 h->(∀ b u,b≠S->s.heap.get? b=some u->h.get? b=some u)->h.get? S=some {cls:=.type "list",data:=.seq #[] c₁}->OB (Oc prog w) A (.builtin "list.extend.loop" ⟨[.ref S,.ref J,res],[]⟩) R {s with heap:=h,toks:=tk,drawn:=d}:=by
  intro h c₁ tk hst hk hS₁;refine codeAny_extend_loopS W.toS (XG hz) S nf res ks.length 0 _ #[] c₁ rfl (QQ _) hst hS₁ (ItemsOf.nil _) fun s2 acc c mv hS2 hacc=>?_;rw[Moved.eq_with mv];refine q s2.heap s2.toks d acc c ord hp (fun b u hb e=>mv.heap b u (fun z=>?_) (hk b u hb e)) hS2 hacc;rcases Qs.mp z with y | y
  ·simp_all
  ·exact Vo (Qn e) (by rw[Qo.mp y];exact UX.mpr hJ)
 refine Oa (Om (Zim ⟨o,kk _ _ T.ob,T.ex.1⟩ ?_));refine Ms (fun _=>?_) (fun _=>Ob ⟨Ow NY _,key _ c₀ _ st (fun b u _ e=>kk b u e) gS⟩);refine Oa (Gp (Oa ?_));refine(Oa (OF gS rfl ?_));have g2:=Wl (VX (·.push VI)) gS rfl;refine OF g2 rfl ?_;have g3:=Wl (VX (·.pop)) g2 rfl;refine Ob ⟨Ow NY _,key _ _ _ (W.frame 0 _ _ st fun b hb u e=>?_) (fun b u hb e=>?_) g3⟩
 ·have ne:b≠S:=fun z=>nf (z▸hb);exact(QM _ _ (Vy ne)).trans ((QM _ _ (Vy ne)).trans e)
 ·exact(QM _ _ (Vy hb)).trans ((QM _ _ (Vy hb)).trans (kk _ _ e))
theorem Zc8 (hh:A.handled=none) (T:StT prog w s.heap a ks o es ep t) (hz:ks.length<=1000)
  (q:∀ h1 tk d (acc) (ord),ord.toList.Perm es.toList->(∀ b u,s.heap.get? b=some u->h1.get? b=some u)->Ls (Zi6 ord) acc ks.length->R acc.toList {s with heap:=h1,toks:=tk,drawn:=d}) :
  Og (Oc prog w) A (Vc (.ref a)) R E s:=by
 have ha:=Qn T.ob;unfold Vc;refine Oa (MH (Os entry_proto_collect' ?_));refine(Oa (Ov (Ob ⟨Ow PySem.F.plain_list_iadd _,Os entry_list_iadd' ?_⟩)));have gS:(s.heap.push _).get? s.heap.objs.size=some {cls:=.type "list",data:=.seq #[]}:=Qm _ rfl;have T1:StT prog w (s.heap.push {cls:=.type "list",data:=.seq ([]).toArray}) a ks o es ep t:={T with ob:=Qc _ T.ob}
 have key:=ZeG (s:={s with heap:=s.heap.push _})
  (R:=fun z s'=>∃ (g:Vz) (tk:Vg) (d:Drawn) (acc:Vm Vi) (c:Vg) (ord:Vm _),z= .ok (.ret (.ref s.heap.objs.size))/\s'={s with heap:=g,toks:=tk,drawn:=d}/\ord.toList.Perm es.toList /\
   (∀ b u,s.heap.get? b=some u->g.get? b=some u)/\g.get? s.heap.objs.size=some {cls:=.type _,dict:=none,data:=.seq acc c,slots:=#[]}/\Ls (Zi6 ord) acc ks.length)
  hh T1 hz (Ur ha) gS (fun g tk d acc c ord hp kk gS2 hacc=>⟨g,tk,d,acc,c,ord,rfl,rfl,hp,fun b u e=>kk b u (QB (Qn e)) (Qc _ e),gS2,hacc⟩)
 refine Oo key (fun fin s' x=>?_) fun e s' x=>?_
 ·cases fin with
  | done f =>
   obtain⟨g,tk,d,acc,c,ord,e,rfl,hp,kk,gS2,hacc⟩:=x;cases e;exact(Oa (GX gS2 (Ob (q g tk d acc ord hp kk hacc))))
  | again c1 =>
   refine⟨x.1,OL x.2 fun z s2 y=>?_⟩;obtain⟨g,tk,d,acc,c,ord,rfl,rfl,hp,kk,gS2,hacc⟩:=y;exact(Oa (GX gS2 (Ob (q g tk d acc ord hp kk hacc))))
 ·obtain⟨_,_,_,_,_,_,z,_⟩:=x;cases z
theorem Zfl (T:StT prog w h a ks o es ep t) (hp:ord.toList.Perm es.toList) (hacc:Ls (Zi6 ord) acc ks.length) :
  ∃ xs,xs.Perm ks/\Gh acc.toList xs:=by
 have hol:ord.toList.length=ks.length:=by rw[hp.length_eq,Qw,T.len]
 have el:∀ e∈ord.toList,∃ x tk,e.2= .str x tk/\x∈ks:=fun e he=>by
  have hm:=hp.mem_iff.mp he;obtain⟨⟨k,hk,_⟩,_⟩:=T.el e hm;obtain⟨x,ek,hx⟩:=(T.mem k).mpr ⟨e,hm,hk⟩;subst ek;rcases keyIs_shape (show JO (Vn x) e.2=true from hk)with ⟨j,t,e4,_⟩ | ⟨z,t,e4,e5⟩
  ·cases e4
  ·injection e4 with e4
   exact⟨x,t,by simp_all,hx⟩
 have key:∀ (l:Vd (Vs×Vi)),(∀ e∈l,∃ x tk,e.2= .str x tk/\x∈ks)->∃ xs:Vd Vl,Gh (l.map (·.2)) xs/\(∀ x∈xs,x∈ks)/\xs.length=l.length/\∀ x,(∃ e∈l,JO (Vn x) e.2=true)->x∈xs:=by
  intro l;induction l with
  | nil=>exact fun _=>⟨[],.nil,(fun x hx=>by grind),rfl,(fun x ⟨e,he,_⟩=>by cases he)⟩
  | cons e l ih =>
   intro hl;obtain⟨xs,h1,h2,h3,h4⟩:=ih fun e he=>hl e (Qk _ he);obtain⟨x,tk,ex,hx⟩:=hl e (Qj ..);refine⟨x::xs,?_,fun y hy=>?_,by simp[h3],fun y ⟨e',he',hk⟩=>?_⟩
   ·rw[QV,ex];exact .cons x tk h1
   ·rcases Qs.mp hy with z | z
    ·rw[z];omega
    ·exact h2 y z
   ·rcases Qs.mp he' with z | z
    ·subst z;rw[ex]at hk;rcases keyIs_shape hk with ⟨j,t,e4,_⟩ | ⟨z,t,e4,e5⟩
     ·cases e4
     ·injection e4 with e4
      injection e5 with e5 _
      rw[e4,←e5];simp
    ·exact Qk _ (h4 y ⟨e',z,hk⟩)
 obtain⟨xs,h1,h2,h3,h4⟩:=key ord.toList el;have hsub:∀ x∈ks,x∈xs:=fun x hx=>by
  obtain⟨e,he,hk⟩:=(T.mem (Vn x)).mp ⟨x,rfl,hx⟩;exact h4 x ⟨e,hp.mem_iff.mpr he,hk⟩
 refine⟨xs,?_,?_⟩
 ·exact Zgb T.nd hsub (Sf hol h3)
 ·have:acc.toList=ord.toList.map (·.2):=by
   apply QW;intro i;by_cases hi:i<acc.toList.length
   ·obtain⟨e,e1,e2⟩:=hacc.2 i acc.toList[i] (by simp);rw[Qa hi,Qi,QT,e1,e2];rfl
   ·have hl:=hacc.1;rw[←Qw]at hl;rw[Qp (Kf hi),Qp (by rw[Qd];lia)]
  rw[this];omega
end
section
variable {X:Cx} {pins:Vd (Vk×Nd)} {σ:St} {H:Hp} {s:Vh}
theorem Inv.drw (I:Inv X pins σ H s) (d):Inv X pins σ H {s with drawn:=d}:=by
 refine I.step (ch:=[]) (fun b hb=>by cases hb) (fun b u _ _ _ e _=>e) (fun b u _ _ _ e _=>⟨_,e⟩) (fun b u _ e n=>n) (fun b u _ e=>⟨u,e⟩) (fun b xs e=>e) (fun b u xs e=>e) (fun b ps e=>⟨#[],by simp_all⟩) (fun m hm=>hm) I.hok I.bare
end
noncomputable def stO (X:Cx) (p:Vk) (ks:Vd Vl):HO:=.ext fun h=>SetT X.prog X.w h p ks
theorem Zhb (hc:X.calm=true):CallR X (.type "set") (fun xs H Q=>∃ (a:Vk) (ss:Vd Vl),xs=[.ref a]/\SqL X.K H a (ss.map V.str)/\ss.length<=1000 /\
  ∀ (p) (ks),H p=none->ks.Nodup->(∀ x,x∈ks↔x∈ss)->ks.length<=ss.length->Q (.ref p) (upd H p (stO X p ks))):=by
 intro pins s σ H xs us Q I r h;obtain⟨a,ss,rfl,hq,h1k,q⟩:=h;obtain⟨u,rfl,ru⟩:=XE r;cases ru;obtain⟨its,rv,pl,hz⟩:=I.list hq;have hl:=rv.length;rw[Qd]at hl;refine Zha (I.ok.hd hc) pl.isList (by simpa using X2 rv) (by show its.length+1<4096;lia) fun h1 tk hS kk=>?_;have ez:its.toArray.size=ss.length:=by rw[Qz,hl]
 rw[ez]at hS;obtain⟨o,es,ep,t,T⟩:=id hS;refine⟨.ref s.heap.objs.size,_,I.laid (o:=stO X s.heap.objs.size _) kk (Qg _) ⟨hS,⟨o,T.ob⟩,fun g1 g2 z k=>z.keep k⟩,rfl,q _ _ (I.hok.fresh (Qg _)) T.nd (fun x=>?_) (ZcV _ _)⟩;rw[Zgm];constructor;rintro⟨j,hj,e⟩;rw[←e,Qb,Qa hj];simp;intro hx;obtain⟨j,hj,e⟩:=WE hx;exact⟨j,hj,by grind⟩
theorem Zaj (hc:X.calm=true):CallR X (.builtin "sorted") (fun xs H Q=>∃ (p:Vk) (ks:Vd Vl),xs=[.ref p]/\H p=some (stO X p ks)/\ks.length<=1000 /\
  ∀ (q) (ss:Vd Vl),H q=none->ss.Perm ks->(ss.map fun x=>x.cps.toList).Pairwise (· < ·)->Q (.ref q) (upd H q (.lst (ss.map V.str)))):=by
 intro pins s σ H xs us Q I r h;obtain⟨p,ks,rfl,hp,h1k,q⟩:=h;obtain⟨u,rfl,ru⟩:=XE r;cases ru;obtain⟨⟨o,es,ep,t,T⟩,_,_⟩:=(show SetT X.prog X.w s.heap p ks/\_ from I.hok p _ hp)
 refine Np Tj RT RU (RV _) ?_;refine Oa (m:=checkCount "sorted" 1 1 _) (Ob (Oa (Zc8 (A:=X.A.in1) (I.ok.hd hc) T h1k fun h1 tk d acc ord hpm kk hacc=>?_)));obtain⟨ys,hys,hS⟩:=Zfl T hpm hacc;have hl:=Tim.strs_len hS;have hyl:=hys.length_eq;generalize acc.toList=vs at hS hl;have SA:Tim.SortAs X.prog X.w h1 vs (Tim.ltS ys) LJ:=Tim.sa_strs hS;refine Oa (GD ?_ (XG (E2 h1k hyl hl)));have hB:(h1.push {cls:=.type "list",data:=.seq vs.toArray}).get? h1.objs.size=some (Gd "list" vs.toArray 0):=Qm _ rfl;have k1:∀ {h6:Vz},(∀ b o,b≠h1.objs.size->(h1.push {cls:=.type "list",data:=.seq vs.toArray}).get? b=some o->h6.get? b=some o)->∀ b o,h1.get? b=some o->h6.get? b=some o:=fun k b o e=>k b o (QB (Qn e)) (Qc _ e);refine Oa (Om (Ot MF ⟨_,hB,rfl⟩ Mq ?_ (MG _)));refine Tim.list_sortW (s:={s with heap:=h1.push {cls:=.type "list",data:=.seq vs.toArray},toks:=tk,drawn:=d}) hB (XG (E2 h1k hyl hl)) SA.wo SA.same (fun h6 Q k h2 q=>SA.kd _ _ _ _ (k1 k) h2 q) (fun h6 tk' i j x y C k e1 e2 q=>SA.ask _ _ i j x y C (k1 k) e1 e2 fun tk2=>q tk2)
  fun h3 tk3 c pm hpm3 hs3 hkeep hD=>⟨_,rfl,Ob ⟨_,rfl,?_⟩⟩
 have hp':Srt.Pm ys.length pm:=by rw[←hl];omega
 have hN:s.heap.get? h1.objs.size=none:=by
  cases e:s.heap.get? h1.objs.size with
  | none=>rfl
  | some u=>exact Vo (Qn (kk _ _ e)) (Q6 _)
 have hmem:∀ i∈pm.toList,i<ys.length:=fun i hi=>by
  have:i∈pm:=by simpa using hi
  have:=hp'.perm.mem_iff.mp this;simpa using this
 have vv:∀ l:Vd Vg,(∀ i∈l,i<ys.length)->Vals ((l.map fun i=>ys.getD i "").map V.str) (l.map fun i=>vs.getD i VI):=by
  intro l;induction l with
  | nil=>intro _;exact .nil
  | cons i l ih =>
   intro hh;have hi:i<vs.length:=by have:=hh i (Qj ..);exact B9 this hl
   obtain⟨t,e,_⟩:=Tim.strs_at hS i _ (Qa hi);refine .cons ?_ (ih fun j hj=>hh j (Qk _ hj));show RelV (V.str (ys.getD i "")) (vs.getD i VI);rw[Qb (l:=vs),Qa hi];exact⟨t,e⟩
 obtain⟨hn,I2⟩:=Zf1 (tk:=tk3) (vs:=(pm.toList.map fun i=>ys.getD i "").map V.str) (I.drw d) (fun b u e=>k1 hkeep b u (kk b u e)) hN (by rw[Qd,Qd,Qw,hp'.size];exact XG (Dk h1k hyl)) ⟨_,c,vv pm.toList hmem,hD⟩;refine⟨.ref h1.objs.size,_,I2,rfl,q _ _ hn ((Zaq ys pm hp').trans hys) ?_⟩;have nd:ys.Nodup:=hys.nodup_iff.mpr T.nd;have hup:=Zlv (n:=ys.length) rfl nd hp' (by rw[←hl];omega);rw[Q0,Wr,Q9];intro i j hi hj hij;have hz2:pm.toList.length=ys.length:=by rw[Qw,hp'.size]
 have hu:=hup i j hij (Kc hz2 hj);unfold ltX at hu;rw[VL,ZhN hp' hi,ZhN hp' hj]at hu
 grind
theorem Inv.laid2 {σ:St} {a x y:Vk} (I:Inv X pins σ H s) (k:∀ b u,b≠x->b≠y->s.heap.get? b=some u->h'.get? b=some u) (hx:Xk X pins H x) (hy:Xk X pins H y)
  (hxt:∃ u,h'.get? x=some u) (hyt:∃ u,h'.get? y=some u) (hp:s.heap.objs.size<=a) (new:ObjOk X.prog X.w (upd H a o) h' a o):Inv X pins σ (upd H a o) {s with heap:=h',toks:=t'}:=by
 obtain⟨f0,f1,f2,f3,f4,f5⟩:=hx;obtain⟨g0,g1,g2,g3,g4,g5⟩:=hy;have hn:H a=none:=I.hok.fresh hp;have nit:∀ b u,H b=some u->b≠x/\b≠y:=fun b u e=>⟨(fun z=>by simp_all),(fun z=>by simp_all)⟩
 have nc:∀ b:Vk,b∉[x,y]->b≠x/\b≠y:=fun b hb=>⟨fun z=>hb (by simp[z]),fun z=>hb (by simp[z])⟩
 refine I.step (g':=s.gens) (d':=s.drawn) (ch:=[x,y]) (fun b hb=>?_) (fun b u _ _ hc e _=>k b u (nc b hc).1 (nc b hc).2 e) (fun b u _ _ hc e _=>⟨u.slots,k b u (nc b hc).1 (nc b hc).2 e⟩) (fun b u _ e n=>?_)
  (fun b u hc e=>⟨u,k b u (nc b hc).1 (nc b hc).2 e⟩) (fun b xs e=>?_) (fun b u xs e=>?_) (fun b ps e=>⟨#[],?_⟩) (fun m hm=>?_) (fun b u e=>?_) I.bare
 ·rcases Qs.mp hb with z | z
  ·subst z;exact⟨f3,f1,f4,f5⟩
  ·have z:=Qo.mp z;subst z;exact⟨g3,g1,g4,g5⟩
 ·rw[Zf (QB (QL (Qn e) hp))];omega
 ·rw[Zf (Zg e hn)];omega
 ·rw[Zf (Zg e hn)];omega
 ·rw[Zf (Zg e hn),e];simp
 ·obtain⟨o,es,ep,ho,r⟩:=hm;exact⟨o,es,ep,k _ o (Vy f1) (Vy g1) ho,r⟩
 ·by_cases hb:b=a
  ·subst hb;rw[Zc]at e;cases e;omega
  ·rw[Zf hb]at e;refine(I.hok b u e).stay (fun c v hc q=>k c v ?_ ?_ q) (fun c q=>by rw[Zf (Zg q hn)];exact q) fun c xs q=>by rw[Zf (Zg q hn)];exact q
   ·rcases hc with z | z
    ·rw[z];exact(nit b u e).1
    ·exact(nit c _ z).1
   ·rcases hc with z | z
    ·rw[z];exact(nit b u e).2
    ·exact(nit c _ z).2
def Ite (K:Ve) (a:Vk):It :=
 ⟨fun i H=>∃ xs x,SqL K H a xs/\xs[i]?=some x,fun i H x H'=>∃ t y,H t=none/\x= .ref t/\H'=upd H t (.tup [.int i,y])/\∀ xs,SqL K H a xs->xs[i]?=some y,fun i H=>∃ xs,SqL K H a xs/\xs.length<=i⟩
theorem Ze0 {K} (a e it) (hne:e≠it):Zhj P w K (.Tuple elts k pos) (Ite K a) [e,it] e (fun i h=>(∃ old,IsEnum h e it i old)/\h.IsListIter it a i) where
 mem:=by simp
 obj:=fun i h st b hb=>by
  obtain⟨⟨old,he⟩,o,e1,c,d⟩:=st;rcases Qs.mp hb with z | z
  ·subst z;exact⟨_,he,fun v z=>by
    simp_all⟩
  ·have z:=Qo.mp z;subst z;exact⟨o,e1,fun v z=>by simp_all⟩
 keep:=fun i h h' ⟨⟨old,he⟩,st⟩ kk=>⟨⟨old,kk e (by simp) _ he⟩,st.at fun o e1=>kk it (by simp) o e1⟩
 item:=by
  intro X hP hw hK hc i pins s σ H E I hf ⟨⟨old,he⟩,st⟩ hg;subst hP hw hK;obtain⟨xs,x,hq,hx⟩:=hg;obtain⟨its,rv,p,hz⟩:=I.list hq;obtain⟨u,hu,ru⟩:=rv.get hx;refine wpAny_pyNext_enum_item he st p.isList (x:=u) (by simpa using hu) hne fun h1 heo st1 ht1 hz1 kk=>?_;refine⟨_,rfl,wpAny_letOwnedTupleGo_enum heo fun h2 he2 sb=>?_⟩;have hk2:∀ b o,b≠e->b≠it->s.heap.get? b=some o->h2.get? b=some o:=fun b o q1 q2 q=>(sb.2 b q1).trans (kk b o q1 q2 q);have hte:s.heap.objs.size≠e:=Ur (Qn he);have ht2:h2.get? s.heap.objs.size=some {cls:=.type "tuple",data:=.seq #[.int i s.toks,u]}:=(sb.2 _ hte).trans ht1;have st2:h2.IsListIter it a (i+1):=st1.extBut sb.extBut (Vy hne);refine⟨.ref s.heap.objs.size,_,Inv.laid2 (s:=s) (a:=s.heap.objs.size) (t':=s.toks+1) (o:=.tup [.int i,x]) I hk2 (hf e (by simp)) (hf it (by simp)) ⟨_,he2⟩ (let ⟨o,q,_⟩:=st2;⟨o,q⟩) (Qg _) ?_,rfl,⟨_,x,I.hok.fresh (Qg _),rfl,rfl,fun ys hy=>by rw[I.list_inj hy hq];omega⟩,⟨⟨u,?_⟩,st2⟩,fun b hb=>?_⟩
  ·refine⟨(show 2<=Of by rw[Op];decide),[.int i s.toks,u],.cons ⟨_,rfl⟩ (.cons ru .nil),⟨_,ht2,rfl,_,rfl⟩,fun o q=>by simp_all⟩
  ·grind
  ·rw[Zf]
   ·exact(hf b hb).1
   ·rcases Qs.mp hb with z | z
    ·rw[z];exact Vy hte
    ·rw[Qo.mp z];obtain⟨o,q,_⟩:=st;exact QB (Qn q)
 done:=by
  intro X hP hw hK hc i pins s σ H E I hf ⟨⟨old,he⟩,st⟩ hg;subst hP hw hK;obtain⟨xs,hq,hx⟩:=hg;obtain⟨its,rv,p,hz⟩:=I.list hq;obtain⟨g0,g1,g2,g3,g4,g5⟩:=hf it (by simp);have hl:=rv.length;exact wpAny_pyNext_enum_end (I.ok.hd hc) he st p.isList (by simp;exact Kd hx hl) fun h' eb=>⟨rfl,I.turned (t':=s.toks) (fun b o hb e=>eb b o hb e) g0 g1 g3 g4 g5⟩
 self:=fun _ _ _ _ _ ⟨⟨old,he⟩,_⟩ h=>R4 he h
theorem ZmD:On "enumerate" = some (.type "enumerate"):=by rfl
def Znx (K:Ve) (ta:TA):TI:=fun σ H R=>ta σ H fun vs H1=>∃ a,vs=[.ref a]/\(∃ xs,SqL K H1 a xs)/\R (Ite K a) H1
theorem Zj7 (hg:Gl X "enumerate") (hm:X.mg "enumerate" = none) (ha:PA X [l] ta) (hs:Oj [l] X.env=[(false,VQ l X.env)]:=by rfl):PI X (.Tuple elts kt tpos) (.Call (.Name "enumerate" p) [l] [] pos) (Znx X.K ta):=by
 intro pins s σ H R I h;refine Call_ (XS I hg hm ZmD (VJ (thn (ha pos pins s σ H _ I h) fun us s1 ⟨vs,H1,I1,r1,q1⟩=>?_) hs rfl));have⟨a,e,⟨xs,hq⟩,q⟩:=q1;subst e;cases r1 with
 | cons r rr =>
  cases rr;cases r;have⟨its,rv,pl,hz⟩:=I1.list hq;refine call_enumerate_list pl.isList fun h' he hit hsz kk=>?_;refine R4 he ?_;refine⟨_,_,_,_,H1,rfl,I1.kept fun b o e=>kk b o e,Ze0 a _ _ (Nat.succ_ne_self _),⟨⟨_,he⟩,hit⟩,fun b hb=>?_,q⟩;have hle:s1.heap.objs.size<=b:=by
   rcases Qs.mp hb with z | z
   simp_all
   simp_all
  exact I1.fpOk hle (I1.hok.fresh hle)
theorem Zit {K} {g:TG} {tb:TS} {D:Zhm} (Pv:Vg->St->Hp->Prop) (h0:Pv 0 σ H) (hl:∀ i σ H,i<=xs.length->Pv i σ H->SqL K H a xs)
  (hs:∀ i x σ H t,xs[i]?=some x->H t=none->Pv i σ H->g (.ref t) σ (upd H t (.tup [.int i,x])) fun σ2 H2=>tb {D with nx:=Pv (i+1),ct:=Pv (i+1),bk:=D.nx} σ2 H2) (hd:∀ σ H,Pv xs.length σ H->D.nx σ H) :
  ∃ W:Vg->Vg->St->Hp->Prop,(∃ m,W 0 m σ H)/\∀ i m σ H,W i m σ H ->
   ((Ite K a).stop i H/\D.nx σ H)\/((Ite K a).go i H/\∃ N,(∀ σ' H',N σ' H'->∃ m',m'<m/\W (i+1) m' σ' H')/\∀ x H',(Ite K a).yld i H x H'->g x σ H' fun σ2 H2=>tb {D with nx:=N,ct:=N,bk:=D.nx} σ2 H2):=by
 refine⟨fun i m σ H=>m=xs.length-i/\i<=xs.length/\Pv i σ H,⟨xs.length,by simp,QQ _,h0⟩,?_⟩;rintro i m σ H ⟨rfl,hi,p⟩;have q:=hl i σ H hi p;by_cases hlt:i<xs.length
 refine .inr ⟨⟨xs,xs[i],q,by simp⟩,_,fun σ' H' p'=>⟨_,Kv hlt,rfl,hlt,p'⟩,fun x H' y=>?_⟩;obtain⟨t,y,ht,rfl,rfl,hy⟩:=y
 grind
 have e:i=xs.length:=Kw hi hlt
 subst e;exact .inl ⟨⟨xs,q,Qg _⟩,hd σ H p⟩
section
variable {prog:Oh} {w:Oi} {A:VA} {E:Vi->Vh->Prop} {s:Vh}
end
theorem Inv.laidM {σ:St} {a:Vk} {ch:Vd Vk} (I:Inv X pins σ H s) (k:∀ b u,b∉ch->s.heap.get? b=some u->h'.get? b=some u) (hf:∀ b∈ch,Xk X pins H b)
  (hp:s.heap.objs.size<=a) (new:ObjOk X.prog X.w (upd H a o) h' a o):Inv X pins σ (upd H a o) {s with heap:=h',toks:=t'}:=by
 have hn:=I.hok.fresh hp;have nit:∀ b u,H b=some u->b∉ch:=fun b u e z=>by
  rw[(hf b z).1]at e
  grind
 refine I.step (fun b hb=>?_) (fun b u _ _ hc e _=>k b u hc e) (fun b u _ _ hc e _=>⟨_,k b u hc e⟩) (fun b u _ e n=>?_) (fun b u hc e=>⟨u,k b u hc e⟩) (fun b xs e=>?_) (fun b u xs e=>?_) (fun b ps e=>⟨#[],?_⟩) (fun m hm=>?_) (fun b u e=>?_) I.bare;obtain⟨f0,f1,f2,f3,f4,f5⟩:=hf b hb;exact⟨f3,f1,f4,f5⟩;rw[Zf (QB (QL (Qn e) hp))];omega;rw[Zf (Zg e hn)];omega;rw[Zf (Zg e hn)];omega;rw[Zf (Zg e hn),e];simp;obtain⟨o,es,ep,ho,r⟩:=hm;exact⟨o,es,ep,k _ o (fun z=>(hf _ z).2.1 rfl) ho,r⟩;by_cases hb:b=a
 subst hb;rw[Zc]at e
 simp_all
 rw[Zf hb]at e;refine(I.hok b u e).stay (fun c v hc q=>k c v ?_ q) fun c q=>by rw[Zf (Zg q hn)];omega fun c xs q=>by rw[Zf (Zg q hn)];omega
 grind
theorem Inv.turnedM {σ:St} {ch:Vd Vk} (I:Inv X pins σ H s) (k:∀ b u,b∉ch->s.heap.get? b=some u->h'.get? b=some u) (hf:∀ b∈ch,Xk X pins H b):Inv X pins σ H {s with heap:=h',toks:=t'}:=by
 have nit:∀ b u,H b=some u->b∉ch:=fun b u e z=>by
  rw[(hf b z).1]at e
  grind
 refine I.step (fun b hb=>?_) (fun b u _ _ hc e _=>k b u hc e) (fun b u _ _ hc e _=>⟨_,k b u hc e⟩) (fun b u _ e n=>n) (fun b u hc e=>⟨u,k b u hc e⟩) (fun b xs e=>e) (fun b u xs e=>e) (fun b ps e=>⟨#[],by simp_all⟩) (fun m hm=>?_) (fun b u e=>?_) I.bare;obtain⟨f0,f1,f2,f3,f4,f5⟩:=hf b hb;exact⟨f3,f1,f4,f5⟩;obtain⟨o,es,ep,ho,r⟩:=hm;exact⟨o,es,ep,k _ o (fun z=>(hf _ z).2.1 rfl) ho,r⟩;refine(I.hok b u e).stay (fun c v hc q=>k c v ?_ q) (fun c q=>q) fun c xs q=>q
 grind
theorem apart {n:Vg} {a b:Vk} (ha:a∉[n+4,n+3,n,n+1]) (hb:b∉[n+4,n+3,n,n+1]):G2 (n+4) (n+2) (n+3) n (n+1) a b:=by
 simp[Qs,Q4,or_false,Mi]at ha hb;refine⟨?_,?_,?_,?_,?_,?_,?_,?_,?_,?_,ha.1,ha.2.1,ha.2.2.1,ha.2.2.2,hb.1,hb.2.1,hb.2.2.1,hb.2.2.2⟩ <;> (simp)
theorem ZnF:On "zip" = some (.type "zip"):=by rfl
theorem Zi8:(toString "min" ++ toString ".loop") = "min.loop":=by decide
section
variable {prog:Oh} {w:Oi} {A:VA} {R:GN->Vh->Prop} {it:Vk} {fp wr:Vd Vk} {n:Vg} {Pv:Vg->Vi->Prop} {Sv:Vg->Vz->Prop}
end
theorem ZfC {k:Key} {u:Vi} (h:JO k u=true):RelV (kV k) u:=by
 rcases keyIs_shape h with ⟨i,t,rfl,rfl⟩ | ⟨x,t,rfl,rfl⟩
 ·exact⟨t,rfl⟩
 ·exact⟨t,rfl⟩
theorem Zjd {kvs:Vd (Key×V)} {vs:Vd (Key×Vi)} (r:KV kvs vs):∀ {i:Vg} {p:Key×V},kvs[i]?=some p->∃ q,vs[i]?=some q/\p.1=q.1/\RelV p.2 q.2:=by
 unfold KV at r;induction r with
 | nil=>intro i p e;simp at e
 | @cons a b as bs h t ih =>
  intro i p e;cases i with
  | zero =>
   simp at e;subst e;exact⟨b,rfl,h⟩
  | succ i =>
   obtain⟨q,e2,r⟩:=ih (i:=i) (p:=p) (by simpa using e);exact⟨q,by simpa using e2,r⟩
section
variable {X:Cx} {pins:Vd (Vk×Nd)} {σ:St} {H H':Hp} {s s':Vh} {d:Vk} {o:Nd} {kvs kvs':Vd (Key×V)}
theorem Inv.frozen (I:Inv X pins σ H s) (hd:H d=some (.dK kvs)):∃ o,Inv X pins σ (upd H d (.frz o (.dK kvs))) s:=by
 have q:=I.hok d _ hd;obtain⟨z,lo,vs,kv,dd⟩:=id q;obtain⟨o,es,ep,ho,r⟩:=id dd;refine⟨o,I.write (h':=s.heap) (t':=s.toks) (x:=d) (e:=d) (by rw[hd];exact VF) (.inl rfl) (fun _ _ _ z=>z) ⟨o,ho⟩ ⟨ho,z,lo,vs,kv,dd⟩⟩
theorem Inv.thaw (I:Inv X pins σ H s) (hd:H d=some (.dK kvs)) (J:Inv X pins σ H' s') (e:H' d=some (.frz o (.dK kvs'))):Inv X pins σ (upd H' d (.dK kvs')) s':=by
 have nn:∀ b,H' b=none->upd H' d (.dK kvs') b=none:=fun b z=>by
  rw[Zf]
  ·exact z
  ·intro w;rw[w,e]at z;cases z
 refine {J with base:=⟨J.base.keep,J.base.slot,fun b ob h1 h2 h3=>nn b (J.base.free b ob h1 h2 h3),J.base.there,fun b xs h1=>?_,fun b ob u h1=>?_,fun b ps h1=>?_⟩,free:=nn _ J.free,freeC:=fun x c h=>nn _ (J.freeC x c h),pin:=fun p hp=>?_,hok:=fun b u h1=>?_}
 ·have h2:=J.base.tups b xs h1;rw[Zf]
  ·exact h2
  ·intro w;rw[w,e]at h2;cases h2
 ·by_cases w:b=d
  ·have h2:=I.base.frzs b ob u h1;rw[w,hd]at h2;cases h2
  ·rw[Zf w];exact J.base.frzs b ob u h1
 ·obtain⟨more,h2⟩:=J.base.tbls b ps h1;refine⟨more,?_⟩;rw[Zf]
  ·exact h2
  ·intro w;rw[w,e]at h2;cases h2
 ·obtain⟨p1,p2,p3⟩:=J.pin p hp;exact⟨p1,nn _ p2,p3⟩
 ·have ho:∀ (a:Vk) (b:Vk),H' b=some (.own a)->upd H' d (.dK kvs') b=some (.own a):=fun a b z=>by
   rw[Zf]
   ·exact z
   ·intro w;rw[w,e]at z;cases z
  have ht:∀ (b:Vk) xs,H' b=some (.tup xs)->upd H' d (.dK kvs') b=some (.tup xs):=fun b xs z=>by
   rw[Zf]
   ·exact z
   ·intro w;rw[w,e]at z;cases z
  by_cases w:b=d
  ·subst w;rw[Zc]at h1;cases h1;obtain⟨_,q⟩:=J.hok b _ e;exact q.stay (fun _ _ _ z=>z) (ho b) ht
  ·rw[Zf w]at h1;exact(J.hok b u h1).stay (fun _ _ _ z=>z) (ho b) ht
end
def Zn9 (t:TE):TE:=fun σ H Q=>∃ d kvs,H d=some (.dK kvs)/\∀ o,t σ (upd H d (.frz o (.dK kvs))) fun v H'=>H' d=some (.frz o (.dK kvs))/\Q v (upd H' d (.dK kvs))
theorem ZlF {X:Cx} {e:Expr} {t:TE} (h:PE X e t):PE X e (Zn9 t):=by
 intro pins s σ H Q I q;obtain⟨d,kvs,hd,q⟩:=q;obtain⟨o,I1⟩:=I.frozen hd;exact thn (h pins s σ _ _ I1 (q o)) fun u s2 ⟨v,H2,I2,r,e2,q2⟩=>⟨v,_,I.thaw hd I2 e2,r,q2⟩
def Itd (d:Vk) (o:Nd) (kvs:Vd (Key×V)):It :=
 ⟨fun i H=>H d=some (.frz o (.dK kvs))/\i<kvs.length,fun i H x H'=>∃ t p,H t=none/\x= .ref t/\H'=upd H t (.tup [kV p.1,p.2])/\kvs[i]?=some p,fun i H=>H d=some (.frz o (.dK kvs))/\kvs.length<=i⟩
theorem Zd3 {X:Cx} {pins:Vd (Vk×Nd)} {σ:St} {H:Hp} {s:Vh} {d:Vk} {o:Nd} {kvs:Vd (Key×V)} {es:Vm Te} {ep:Vg} (I:Inv X pins σ H s) (hd:H d=some (.frz o (.dK kvs))) (ho:o.data= .dict es ep) :
  ∃ vs,KV kvs vs/\s.heap.DictAt (Zs X.prog X.w) d vs ep/\(d==OE)=false:=by
 obtain⟨h1,z,lo,vs,kv,o',es',ep',h2,h3,h4,h5⟩:=I.hok d _ hd;rw[h1]at h2;cases h2;rw[ho]at h4;cases h4;exact⟨vs,kv,⟨o,es,h1,h3,ho,h5⟩,lo⟩
theorem Zee {P:Oh} {w:Oi} {K:Ve} {elts:Vd Expr} {k:Vg} {pos:MA} (d it:Vk) (o:Nd) (kvs:Vd (Key×V)) {es:Vm Te} {ep:Vg} (hod:o.data= .dict es ep) :
  Zhj P w K (.Tuple elts k pos) (Itd d o kvs) [it] it (fun i h=>∃ a b,TN h it d i kvs.length ep a b) where
 mem:=by simp
 obj:=fun i h ⟨a,b,he⟩ c hc=>by
  have hc:=Qo.mp hc;subst hc;exact⟨_,he,fun v z=>by
   have z':Data.fields _=Data.cell v:=z;cases z'⟩
 keep:=fun i h h' ⟨a,b,he⟩ kk=>⟨a,b,kk it (by simp) _ he⟩
 item:=by
  intro X hP hw hK hc i pins s σ H E I hf ⟨a,b,he⟩ hg;subst hP hw hK;obtain⟨hd,hi⟩:=hg;obtain⟨vs,kv,da,lo⟩:=Zd3 I hd hod;obtain⟨p,hp⟩:∃ p,kvs[i]?=some p:=⟨_,Qa hi⟩
  obtain⟨q,hq,e1,e2⟩:=Zjd kv hp;have hfi:=hf it (by simp);have he':TN s.heap it d i vs.length ep a b:=by rw[←kv.length];exact he
  refine wpAny_pyNext_items_item (k:=q.1) (v:=q.2) he' da hq fun key h1 hkey heo ht1 hz1 kk=>?_;refine⟨_,rfl,wpAny_letOwnedTupleGo_items heo fun h2 he2 sb=>?_⟩;have hk2:∀ b o,b≠it->b≠it->s.heap.get? b=some o->h2.get? b=some o:=fun b o q1 _ q=>(sb.2 b q1).trans (kk b o q1 q);have hte:s.heap.objs.size≠it:=Ur (Qn he);have ht2:h2.get? s.heap.objs.size=some {cls:=.type "tuple",data:=.seq #[key,q.2]}:=(sb.2 _ hte).trans ht1;refine⟨.ref s.heap.objs.size,_,Inv.laid2 (s:=s) (a:=s.heap.objs.size) (t':=s.toks) (o:=.tup [kV p.1,p.2]) I hk2 hfi hfi ⟨_,he2⟩ ⟨_,he2⟩ (Qg _) ?_,rfl,⟨_,p,I.hok.fresh (Qg _),rfl,rfl,hp⟩,⟨key,q.2,?_⟩,fun b hb=>?_⟩
  ·refine⟨(show 2<=Of by rw[Op];decide),[key,q.2],.cons (by rw[e1];exact ZfC hkey) (.cons e2 .nil),⟨_,ht2,rfl,_,rfl⟩,fun o q=>by rw[ht2]at q;cases q;rfl⟩
  ·rw[kv.length];exact he2
  ·rw[Zf]
   ·exact(hf b hb).1
   ·rw[Qo.mp hb];exact Vy hte
 done:=by
  intro X hP hw hK hc i pins s σ H E I hf ⟨a,b,he⟩ hg;subst hP hw hK;obtain⟨hd,hi⟩:=hg;obtain⟨vs,kv,da,lo⟩:=Zd3 I hd hod;obtain⟨g0,g1,g2,g3,g4,g5⟩:=hf it (by simp);have he':TN s.heap it d i vs.length ep a b:=by rw[←kv.length];exact he
  exact wpAny_pyNext_items_end (I.ok.hd hc) he' da (Qp (by rw[←kv.length];exact hi)) fun h' eb=>⟨rfl,I.turned (t':=s.toks) (fun b o hb e=>eb b o hb e) g0 g1 g3 g4 g5⟩
 self:=fun A i s Q E ⟨a,b,he⟩ h=>PySem.W.kcp_self he h
def Zmp (td:TE):TI:=fun σ H R=>td σ H fun x H1=>∃ d o kvs,x= .ref d/\H1 d=some (.frz o (.dK kvs))/\R (Itd d o kvs) H1
theorem ZhP {X:Cx} {elts:Vd Expr} {kt:Vg} {tpos:MA} {ob:Expr} {apos cpos:MA} {td:TE} (ho:PE X ob td) (hbase:OC ob "items" X.env (VQ ob X.env)=VQ ob X.env:=by rfl) (hline:(apos.endLine==cpos.line)=true:=by rfl) :
  PI X (.Tuple elts kt tpos) (.Call (.Attribute ob "items" apos) [] [] cpos) (Zmp td):=by
 intro pins s σ H R I h;refine OQ hbase hline (thn (ho pins s σ H _ I h) fun v s1 ⟨x,H1,I1,r1,d,o,kvs,ex,hd,q1⟩=>?_);subst ex;obtain rfl:v=Value.ref d:=r1;obtain⟨g1,z,lo,vs,kv,dd⟩:=I1.hok d _ hd;obtain⟨t1,t2,_⟩:=ZbU I1 (.inl ⟨kvs,.inr ⟨o,hd⟩⟩);refine⟨"dict",_,V3,Ng,Ma,t1,t2,VO rfl (Nq ?_)⟩;refine O8 Ng dd.typeIs N2 (NX _) (Tc (Zs X.prog X.w) d lo) ⟨⟨_,dd⟩,?_⟩;obtain⟨ep,da⟩:=dd.dictAt;refine wpAny_pyIter_items (knd:=Zs X.prog X.w) (kvs:=vs) (ep:=ep) ⟨_,Qm _ rfl,rfl,rfl⟩ (da.push _) ?_;obtain⟨o',es,g2,_,g3,_⟩:=id da;rw[g1]at g2;cases g2;have kp:∀ b u,s1.heap.get? b=some u->((s1.heap.push {cls:=.type "dict_items",data:=.fields #[.ref d]}).push {cls:=.type "dict_itemiterator",data:=.fields #[.none,.bool false,.ref d,.int 0 0,.int vs.length 0,.int ep 0,.none,.none]}).get? b=some u:=fun b u e=>Qc _ (Qc _ e);refine⟨_,[_],_,Itd d o kvs,H1,rfl,I1.kept (t':=s1.toks) kp,Zee d _ o kvs g3,⟨.none,.none,?_⟩,fun b hb=>?_,q1⟩
 ·rw[kv.length];exact Qm _ rfl
 ·have hle:s1.heap.objs.size<=b:=by
   rw[Qo.mp hb];show s1.heap.objs.size<=(s1.heap.push _).objs.size;rw[WF];exact UM _
  exact I1.fpOk hle (I1.hok.fresh hle)
theorem ZlK (hu:X.A.units+64<OY):OpR X (Oy .NotEq) (fun x y H Q=>∃ da db,RepD H da x/\RepD H db y/\Nh da=true/\Nh db=true/\Q (.bl (!TC da db)) H):=by
 intro pins s σ H x y v u Q I rx ry h;obtain⟨da,db,r1,r2,s1,s2,q⟩:=h;obtain⟨as,q1⟩:=RepD.reads I da x v r1 rx;obtain⟨bs,q2⟩:=RepD.reads I db y u r2 ry;exact ne_dataH q1 q2 s1 s2 hu ⟨.bl _,H,I,rfl,q⟩
theorem YE (I:L2.St->Hp->Prop) (h:∀ R,(∀ σ' H',I σ' H'->R σ' H')->t {D with nx:=R} σ H) (hu:∀ σ' H',I σ' H'->u D σ' H'):ZeR t u D σ H:=h _ hu
theorem ZcT:MtR X "list.pop" ZnS:=Zl0
section
variable {X:Cx} {pins:Vd (Vk×Nd)} {σ:St} {H:Hp} {s:Vh} {a:Vk} {kvs:Vd (Key×V)} {k:Key} {u:Vi} {A:VA} {E:Vi->Vh->Prop}
theorem Zmw (I:Inv X pins σ H s) (e:H a=some (.dK kvs)) (ry:RelV (kV k) u) (rz:RelV z r) (hl:kvs.length<Of) (h1:∀ v w' s',XF kvs k=some v->RelV v w'->Inv X pins σ H s'->Q w' s')
  (h2:XF kvs k=none->∀ s',Inv X pins σ (upd H a (.dK (X8 kvs k z))) s'->Q r s'):Og (Oc X.prog X.w) A (call (.builtin "dict.setdefault") [.ref a,u,r]) Q E s:=by
 obtain⟨zz,hd,vs,rel,dd⟩:=Zah I.hok e;refine O8 NK dd.typeIs PySem.F.entry_dict_setdefault (PySem.F.args_dict_setdefault_3 _ _ _) (kt_meets_setdefault _ a (ZbS ry) hd r) ⟨vs,dd,by rw[←rel.length];exact Bk hl,fun v hv=>?_,fun hn h' dd' hs=>?_⟩;have q:=rel.val k;rw[hv]at q;cases l:XF kvs k with
 | none=>rw[l]at q;exact q.elim
 | some v'=>rw[l]at q;exact h1 v' v _ l q (I.tok _)
 have q:=rel.val k;rw[hn]at q;have hlp:(X8 kvs k z).length<=Of:=by have:=YQ kvs k z;exact En hl this
 cases l:XF kvs k with
 | none=>exact h2 l _ (Zbd I (by rw[e];exact VF) hs (let ⟨q,_,_,hq,_⟩:=dd';⟨q,hq⟩) (Zg0 hlp hd (rel.put k rz) dd'))
 | some v'=>rw[l]at q;exact q.elim
end
def Zm3 (td ty tx:TE):TE:=fun σ H Q=>td σ H fun x H1=>∃ a,x= .ref a/\IsD H1 a/\ty σ H1 fun y H2=>tx σ H2 fun z H3=>∃ kvs k,H3 a=some (.dK kvs)/\y=kV k/\kvs.length<Of /\
 (∀ v,XF kvs k=some v->Q v H3)/\(XF kvs k=none->Q z (upd H3 a (.dK (X8 kvs k z))))
theorem ZcH {td ty tx} (ho:PE X o td) (he:PE X e ty) (hf:PE X f tx) (m:M2 X o "setdefault" apos e f cpos):PE X (.Call (.Attribute o "setdefault" apos) [e,f] [] cpos) (Zm3 td ty tx):=by
 intro pins s σ H Q I h;refine RO m.base m.few m.line V3 NK PySem.F.type_dict_setdefault (thn (ho pins s σ H _ I h) fun u s1 ⟨x,H1,I1,rx,a,ex,d,q1⟩=>?_);subst ex;obtain rfl:u=Value.ref a:=rx;have⟨t1,t2,_⟩:=ZbU I1 d;refine⟨t1,t2,?_⟩;rw[m.trees];refine VO rfl (Ni (V8 (thn (he pins s1 σ H1 _ I1 q1) fun iv s2 ⟨y,H2,I2,ry,q2⟩ =>
  V8 (thn (hf pins s2 σ H2 _ I2 q2) fun fv s3 ⟨z,H3,I3,rz,kvs,k,ea,ey,hl,q3,q4⟩=>NA ?_))))
 subst ey;exact Zmw I3 ea ry rz hl (fun v w' s4 l rw' I4=>⟨v,H3,I4,rw',q3 v l⟩) fun l s4 I4=>⟨z,_,I4,rz,q4 l⟩
noncomputable def Itk (d:Vk) (o:Nd) (kvs:Vd (Key×V)):It :=
 ⟨fun i H=>H d=some (.frz o (.dK kvs))/\i<kvs.length,fun i H x H'=>H'=H/\∃ p,kvs[i]?=some p/\x=kV p.1,fun i H=>H d=some (.frz o (.dK kvs))/\kvs.length<=i⟩
theorem ZeZ {P:Oh} {w:Oi} {K:Ve} {tg:Expr} (d it:Vk) (o:Nd) (kvs:Vd (Key×V)) {es:Vm Te} {ep:Vg} (hod:o.data= .dict es ep) :
  Zhj P w K tg (Itk d o kvs) [it] it (fun i h=>h.IsKeyIter it d i kvs.length ep) where
 mem:=by simp
 obj:=fun i h he c hc=>by
  have hc:=Qo.mp hc;subst hc;obtain⟨ob,g1,g2,g3⟩:=he;exact⟨ob,g1,fun v z=>by rw[g3]at z;cases z⟩
 keep:=fun i h h' he kk=>he.at fun ob e=>kk it (by simp) ob e
 item:=by
  intro X hP hw hK hc i pins s σ H E I hf he hg;subst hP hw hK;obtain⟨hd,hi⟩:=hg;obtain⟨vs,kv,da,lo⟩:=Zd3 I hd hod;obtain⟨p,hp⟩:∃ p,kvs[i]?=some p:=⟨_,Qa hi⟩
  obtain⟨q,hq,e1,e2⟩:=Zjd kv hp;obtain⟨f0,f1,f2,f3,f4,f5⟩:=hf it (by simp);have he':s.heap.IsKeyIter it d i vs.length ep:=by rw[←kv.length];exact he
  refine wpAny_pyNext_dict_item (k:=q.1) he' da hq fun key h1 hkey hit1 sb=>?_;have I1:Inv X pins σ H {s with heap:=h1}:=I.turned (t':=s.toks) (fun b u hb e=>(sb.2 b hb).trans e) f0 f1 f3 f4 f5;refine⟨key,rfl,letGo_keyiter hit1 ⟨kV p.1,H,I1,by rw[e1];exact ZfC hkey,⟨rfl,p,hp,rfl⟩,by rw[kv.length];exact hit1,fun b hb=>(hf b hb).1⟩⟩
 done:=by
  intro X hP hw hK hc i pins s σ H E I hf he hg;subst hP hw hK;obtain⟨hd,hi⟩:=hg;obtain⟨vs,kv,da,lo⟩:=Zd3 I hd hod;obtain⟨f0,f1,f2,f3,f4,f5⟩:=hf it (by simp);have he':s.heap.IsKeyIter it d i vs.length ep:=by rw[←kv.length];exact he
  exact wpAny_pyNext_dict_end (I.ok.hd hc) he' da (Qp (by rw[←kv.length];exact hi)) fun h' eb=>⟨rfl,I.turned (t':=s.toks) (fun b u hb e=>eb b u hb e) f0 f1 f3 f4 f5⟩
 self:=fun A i s Q E he h=>wpAny_pyIter_keyiter he h
def Znw (td:TE):TI:=fun σ H R=>td σ H fun x H1=>∃ d o kvs,x= .ref d/\H1 d=some (.frz o (.dK kvs))/\R (Itk d o kvs) H1
theorem Zj6 {X:Cx} {tg ob:Expr} {td:TE} (ho:PE X ob td):PI X tg ob (Znw td):=by
 intro pins s σ H R I h;refine thn (ho pins s σ H _ I h) fun v s1 ⟨x,H1,I1,r1,d,o,kvs,ex,hd,q1⟩=>?_;subst ex;obtain rfl:v=Value.ref d:=r1;obtain⟨g1,z,lo,vs,kv,dd⟩:=I1.hok d _ hd;obtain⟨ep,da⟩:=dd.dictAt;refine wpAny_pyIter_dict lo da ?_;obtain⟨o',es,g2,_,g3,_⟩:=id da;rw[g1]at g2;cases g2;refine⟨_,[_],_,Itk d o kvs,H1,rfl,I1.kept (t':=s1.toks) fun b u e=>Qc _ e,ZeZ d s1.heap.objs.size o kvs g3,?_,fun b hb=>?_,q1⟩
 ·rw[kv.length];exact⟨_,Qm _ rfl,rfl,rfl⟩
 ·rw[Qo.mp hb];exact I1.fpOk (Qg _) (I1.hok.fresh (Qg _))
theorem ZkO {d:Vk} {o:Nd} {kvs:Vd (Key×V)} {H1:Hp} (hd:H1 d=some (.frz o (.dK kvs))):∀ H,Same H1 H->(∀ i,i<kvs.length->(Itk d o kvs).go i H/\∀ x H',(Itk d o kvs).yld i H x H'->H'=H/\x=(kvs.map fun p=>kV p.1).getD i .non)/\(Itk d o kvs).stop kvs.length H:=fun H s=>by
 refine⟨fun i hi=>⟨⟨s _ _ hd,hi⟩,fun x H' y=>?_⟩,⟨s _ _ hd,Qg _⟩⟩;obtain⟨e,p,hp,ex⟩:=y;refine⟨e,?_⟩;rw[ex,Qb,Qi,hp];rfl
theorem JK (n) (xs:Vg->V) (t) (R:Vg->V->Hp->Prop) (hn:n<=Of)
  (hR:∀ i v H H',TSame H H'->R i v H->R i v H')
  (hJ:∀ H,Same H1 H->(∀ i,i<n->J.go i H/\∀ x H',J.yld i H x H'->H'=H/\x=xs i)/\J.stop n H)
  (step:∀ i H (Qt) (Qf:Hp->Prop),i<n->Same H1 H->(t i=true->∀ v H6,Same H H6->R i v H6->Qt v H6)->(t i=false->∀ H6,Same H H6->Qf H6)->g (xs i) (lcS k mp σ) H fun σ4 H4=>tc σ4 H4 fun b H5=>if b=true then te σ4 H5 Qt else Qf H5)
  (done:∀ D vs H',vs.length=((Qu n).filter t).length->(∀ (j i:Vg) (v),((Qu n).filter t)[j]?=some i->vs[j]?=some v->R i v H')->Same H1 H'->H1 D=none->H' D=some (.lst vs)->Q (.ref D) H'):JL k mp σ g tc te J H1 Q:=by
 intro D hD;refine⟨fun i m acc H=>m=n-i/\i<=n/\acc.length=((Qu i).filter t).length/\Same H1 H/\H D=some (.lst acc)/\∀ (j q:Vg) (v:V),((Qu i).filter t)[j]?=some q->acc[j]?=some v->R q v H,
  ⟨n,by simp,QQ _,rfl,Zb hD,Zc,fun j q v e _=>by simp_all⟩,?_⟩
 rintro i m acc H ⟨rfl,hi,hl,hs,hDa,hr⟩;obtain⟨j1,j2⟩:=hJ H hs;by_cases hlt:i<n
 ·refine .inr ⟨(j1 i hlt).1,fun x H3 y=>?_⟩;obtain⟨e1,e2⟩:=(j1 i hlt).2 x H3 y;subst e1 e2;refine step i H3 _ _ hlt hs (fun ht v H6 s6 r6=>⟨s6 _ _ hDa,?_,n-(i+1),Kv hlt,rfl,hlt,?_,fun b o e=>?_,Zc,fun j q u e1 e2=>?_⟩) (fun ht H6 s6=>⟨n-(i+1),Kv hlt,rfl,hlt,?_,hs.trans s6,s6 _ _ hDa,fun j q u e1 e2=>?_⟩)
  ·have:=UD t (Qu i);rw[QX]at this;lia
  ·rw[Wz,WQ,Qh,Qh,hl];simp[ht]
  ·rw[Zf (Zg e hD)];exact s6 _ _ (hs b o e)
  ·have ts:TSame H6 (upd H6 D (.lst (acc++[v]))):=Yk (s6 _ _ hDa);rw[Wz,WQ]at e1;rcases WS j acc.length with h | h | h
   ·rw[QA h]at e2;rw[QA (Kc hl h)]at e1;exact hR _ _ _ _ (s6.tup.trans ts) (hr j q u e1 e2)
   ·subst h;rw[Qy (Qg _),Wv]at e2;rw[Qy (Ek hl),hl,Wv]at e1;simp[ht]at e1 e2;subst e1 e2;exact hR _ _ _ _ ts r6
   ·rw[Qp (by rw[Qh,Qx];exact h)]at e2
    grind
  ·rw[Wz,WQ,Qh,hl];simp[ht]
  ·rw[Wz,WQ]at e1;have hj:j<acc.length:=(Ql.mp e2).1;rw[QA (Kc hl hj)]at e1;exact hR _ _ _ _ s6.tup (hr j q u e1 e2)
 ·have e:i=n:=Kw hi hlt
  subst e;exact .inl ⟨j2,done D acc H hl hr hs hD hDa⟩
end L2
namespace Sh
open PySem L2 PyProof.Rows
abbrev Ts:=Vd (Vl×Vl)
noncomputable def dl (a b:Vl):Vs:=if a=b then 1 else 0
theorem ZgZ (a):dl a a=1:=Vf rfl
theorem Zmv (a b):0<=dl a b:=by unfold dl;lia
noncomputable def frm (ts:Ts) (i:Vg):Vl:=(ts.getD i ("","")).1
noncomputable def tow (ts:Ts) (i:Vg):Vl:=(ts.getD i ("","")).2
noncomputable def bal (ts:Ts) (X:Vd Vg) (p:Vl):Vs:=(X.map fun i=>dl (frm ts i) p-dl (tow ts i) p).sum
theorem Zbg (ts) (p):bal ts [] p=0:=rfl
theorem Yd (ts) (i) (X) (p):bal ts (i::X) p=dl (frm ts i) p-dl (tow ts i) p+bal ts X p:=by
 rfl
theorem Xi (ts) (X Y) (p):bal ts (X++Y) p=bal ts X p+bal ts Y p:=by
 unfold bal;simp
theorem X0 (h:X.Perm Y) (p):bal ts X p=bal ts Y p:=by
 induction h with
 | nil=>rfl
 | cons x _ ih=>rw[Yd,Yd,ih]
 | swap x y l=>rw[Yd,Yd,Yd,Yd];exact Da
 | trans _ _ a b=>exact Db b a
inductive Ch (ts:Ts):Vl->Vd Vg->Vl->Prop where
 | nil (u:Vl):Ch ts u [] u
 | cons {i:Vg} {X:Vd Vg} {u v:Vl} (e:frm ts i=u) (h:Ch ts (tow ts i) X v):Ch ts u (i::X) v
theorem Ch.bal (h:Ch ts u X v) (p):bal ts X p=dl u p-dl v p:=by
 induction h with
 | nil u=>rw[Zbg];lia
 | cons e h ih=>rw[Yd,e];lia
theorem Ch.snoc (h:Ch ts u X v) (e:frm ts i=v):Ch ts u (X++[i]) (tow ts i):=by
 induction h with
 | nil u=>exact .cons e (.nil _)
 | cons e' h ih=>exact .cons e' (ih e)
theorem Ch.pop:∀ {X},Ch ts u (X++[i]) v->Ch ts u X (frm ts i)/\v=tow ts i
 | [],h=>by
  cases h with
  | cons e h =>
   cases h;exact⟨e▸.nil _,rfl⟩
 | j::X,h=>by
  cases h with
  | cons e h =>
   obtain⟨a,b⟩:=Ch.pop h;exact⟨.cons e a,b⟩
def ZmR (ts:Ts) (P y:Vl):Prop:=∃ i,i<ts.length/\((frm ts i=P/\tow ts i=y)\/(tow ts i=P/\frm ts i=y))
inductive RchT (ts:Ts) (a:Vl):Vl->Prop where
 | here:RchT ts a a
 | step {P y:Vl} (h:RchT ts a P) (k:ZmR ts P y):RchT ts a y
theorem RchT.closed {F:Vl->Prop} (ha:F a) (hc:∀ P,F P->∀ y,ZmR ts P y->F y) (h:RchT ts a y):F y:=by
 induction h with
 | here=>omega
 | step _ k ih=>grind
def Deg (ts:Ts) (b f:Vl):Prop:=∀ p,bal ts (Qu ts.length) p=dl b p-dl f p
def Zhl (ts:Ts) (b:Vl):Prop:=(∃ f,Deg ts b f)/\∀ i,i<ts.length->RchT ts b (frm ts i)
def Eul (ts:Ts) (b:Vl) (X:Vd Vg):Prop:=X.Perm (Qu ts.length)/\∃ v,Ch ts b X v
theorem Zmz {a u v} {X} (h:Ch ts u X v):RchT ts a u->(∀ i∈X,i<ts.length)->∀ i∈X,RchT ts a (frm ts i):=by
 induction h with
 | nil u=>simp
 | @cons j X u v e h ih =>
  intro ha hX i hi;rcases Qs.mp hi with z | z
  simp_all
  exact ih (.step ha ⟨j,hX j Qj ..,.inl ⟨e,rfl⟩⟩) (fun k hk=>hX k (Qk _ hk)) i z
theorem Eul.good (h:Eul ts b X):Zhl ts b:=by
 obtain⟨p,v,c⟩:=h;refine⟨⟨v,fun q=>by rw[←X0 p];exact c.bal q⟩,fun i hi=>?_⟩;exact Zmz c .here (fun j hj=>Qr.mp (p.mem_iff.mp hj)) i (p.mem_iff.mpr (Qr.mpr hi))
theorem YI {X Y:Vd Vg} (h1:X.Nodup) (h2:Y.Nodup) (h:∀ x,x∈X↔x∈Y):X.Perm Y:=by
 grind
theorem JG {F:Vd Vg}:∀ {ks:Vd Vg},F.Nodup->(∀ x∈F,x∈ks)->F.length<=ks.length:=by
 induction F with
 | nil=>simp
 | cons x F ih =>
  intro ks h1 h2;have nd':=QU.mp h1;have hx:=h2 x Qj ..;have:=ih nd'.2 fun y hy=>(WT fun(q:y=x)=>nd'.1 (q▸hy)).mpr (h2 y (Qk _ hy));rw[Wi hx]at this;have hpos:=Wq hx;rw[QC];exact Dc hpos this
theorem Zkn {F ks:Vd Vg} (h1:F.Nodup) (h2:∀ x∈F,x∈ks) (he:F.length=ks.length):∀ x∈ks,x∈F:=by
 intro x hx;apply VP;intro hn;have:=JG h1 fun y hy=>(WT fun(q:y=x)=>hn (q▸hy)).mpr (h2 y hy);rw[Wi hx]at this;have hpos:=Wq hx;exact (Ku this hpos he).elim
structure WI (ts:Ts) (b pt:Vl) (r:Vl->Vd Vg) (G B:Vd Vg):Prop where
 nd:(G++B).Nodup
 lt:∀ i∈G++B,i<ts.length
 rnd:∀ p,(r p).Nodup
 row:∀ p i,i∈r p↔i<ts.length/\frm ts i=p/\i∉G++B
 chG:Ch ts b G pt
 chB:∀ f,Deg ts b f->∃ w,Ch ts w B.reverse f
 stk:∀ i∈B,r (tow ts i)=[]
theorem WI.start (h1:∀ p,(r p).Nodup) (h2:∀ p i,i∈r p↔i<ts.length/\frm ts i=p):WI ts b b r [] [] where
 nd:=Uh
 lt:=fun i hi=>by grind
 rnd:=h1
 row:=fun p i=>by rw[h2];simp
 chG:=.nil _
 chB:=fun f _=>⟨f,.nil _⟩
 stk:=fun i hi=>by grind
noncomputable def Zhk (r:Vl->Vd Vg) (p:Vl) (X:Vd Vg):Vl->Vd Vg:=fun q=>if q=p then X else r q
theorem WI.push (h:WI ts b pt r G B) (e:r pt=X++[i]):WI ts b (tow ts i) (Zhk r pt X) (G++[i]) B:=by
 have hi:=(h.row pt i).mp (by simp_all);have hrn:=h.rnd pt;rw[e]at hrn;have hiX:=fun z=>(Wx.mp hrn).2.2 i z i (by simp) rfl;have mm:∀ j,j∈(G++[i])++B↔j∈G++B\/j=i:=fun j=>by
  simp only[QD,Qo];constructor
  ·rintro((z | z) | z)
   ·simp_all
   ·omega
   simp_all
  ·rintro((z | z) | z)
   ·simp_all
   ·simp_all
   omega
 refine⟨?_,fun j hj=>?_,fun p=>?_,fun p j=>?_,h.chG.snoc hi.2.1,h.chB,fun j hj=>?_⟩
 ·have pp:((G++[i])++B).Perm (i::(G++B)):=by
   simp
  exact pp.nodup_iff.mpr (QU.mpr ⟨hi.2.2,h.nd⟩)
 ·rcases(mm j).mp hj with z | z
  ·exact h.lt j z
  omega
 ·unfold Zhk;split
  ·exact(Wx.mp hrn).1
  ·exact h.rnd p
 ·rw[mm];unfold Zhk;by_cases c:p=pt
  ·rw[Vf c];have hr:=h.row pt j;rw[e,QD]at hr;subst c;constructor
   ·intro z;obtain⟨a1,a2,a3⟩:=hr.mp (.inl z);exact⟨a1,a2,fun q=>q.elim a3 fun w=>hiX (w▸z)⟩
   ·rintro⟨a1,a2,a3⟩
    simp_all
  ·rw[if_neg c,h.row];constructor
   ·rintro⟨a1,a2,a3⟩;refine⟨a1,a2,fun q=>q.elim a3 fun w=>c ?_⟩
    simp_all
   ·rintro⟨a1,a2,a3⟩;exact⟨a1,a2,fun q=>a3 (.inl q)⟩
 ·unfold Zhk;have hs:=h.stk j hj;rw[if_neg fun c=>by simp_all];omega
theorem WI.stuck (h:WI ts b pt r G B) (e:r pt=[]) (d:Deg ts b f) (c:Ch ts w B.reverse f):pt=w:=by
 have hp:(Qu ts.length).Perm (G++B++(Qu ts.length).filter fun i=>decide (i∉G++B)):=by
  refine YI Wh (Wx.mpr ⟨h.nd,Wh.filter _,fun a ha b' hb z=>?_⟩) fun x=>?_
  simp_all
  rw[QD,Q2,Qr];constructor;intro hx;by_cases cc:x∈G++B
  exact .inl cc;exact .inr ⟨hx,Vq cc⟩;rintro(z | z);exact h.lt x z;omega
 have h1:=d pt;rw[X0 hp,Xi,Xi,h.chG.bal,←X0 (Uc B),c.bal]at h1;have h2:∀ L,(∀ i∈L,frm ts i≠pt)->bal ts L pt<=0:=by
  intro L;induction L with
  | nil=>intro _;rw[Zbg];exact F2
  | cons i L ih =>
   intro hL;have a:=ih fun j hj=>hL j (Qk _ hj);have b':dl _ pt=0:=if_neg (hL i (Qj ..));have c':=Zmv (tow ts i) pt;rw[Yd];exact F3 c' b' a
 have h3:=h2 ((Qu ts.length).filter fun i=>decide (i∉G++B)) fun i hi z=>by
  obtain⟨a1,a2⟩:=Q2.mp hi;have:=(h.row pt i).mpr ⟨Qr.mp a1,z,by simpa using a2⟩
  simp_all
 rw[ZgZ]at h1;apply VP;intro hn;have h4:dl w pt=0:=if_neg fun z=>hn z.symm;lia
theorem WI.pop (h:WI ts b pt r (X++[i]) B) (e:r pt=[]):WI ts b (frm ts i) r X (B++[i]):=by
 obtain⟨c1,c2⟩:=h.chG.pop;have pp:(X++(B++[i])).Perm (X++[i]++B):=by
  rw[QH];exact Uf.append_left _ |>.trans (ND _)
 refine⟨pp.nodup_iff.mpr h.nd,fun j hj=>h.lt j (pp.mem_iff.mp hj),h.rnd,fun p j=>by rw[h.row,pp.mem_iff],c1,fun f d=>?_,fun j hj=>?_⟩;obtain⟨w,c⟩:=h.chB f d;have:=h.stuck e d c;rw[List.reverse_append,List.reverse_singleton];refine⟨_,.cons rfl ?_⟩
 simp_all
 rcases QD.mp hj with z | z
 exact h.stk j z
 simp_all
theorem WI.done (h:WI ts b pt r [] B) (e:r pt=[]) (g:Zhl ts b):Eul ts b B.reverse:=by
 obtain⟨⟨f,d⟩,hr⟩:=g;have hpt:b=pt:=by cases h.chG;rfl
 subst hpt;obtain⟨w,c⟩:=h.chB f d;have ew:=h.stuck e d c;subst ew;have hnd:=h.nd;have hlt:=h.lt;rw[Uq]at hnd hlt;refine⟨?_,f,c⟩
 -- whoever is met has nothing left
 let M:Vl->Prop:=fun p=>p=b\/∃ i∈B,tow ts i=p
 have hM:∀ p,M p->r p=[]:=fun p hp=>by
  rcases hp with z | ⟨i,hi,z⟩
  ·simp_all
  ·rw[←z];exact h.stk i hi
 have hp:(Qu ts.length).Perm (B++(Qu ts.length).filter fun i=>decide (i∉B)):=by
  refine YI Wh (Wx.mpr ⟨hnd,Wh.filter _,fun a ha b' hb z=>?_⟩) fun x=>?_
  ·simp_all
  ·rw[QD,Q2,Qr];constructor
   ·intro hx;by_cases cc:x∈B
    ·exact .inl cc
    ·exact .inr ⟨hx,Vq cc⟩
   ·rintro(z | z)
    ·simp_all
    omega
 have hz:∀ p,bal ts ((Qu ts.length).filter fun i=>decide (i∉B)) p=0:=fun p=>by
  have h1:=d p;rw[X0 hp,Xi,←X0 (Uc B),c.bal]at h1;lia
 have key:∀ p,M p->∀ i,i<ts.length->(frm ts i=p\/tow ts i=p)->i∈B:=fun p hp i hi ht=>by
  apply VP;intro hn;have hne:∀ j,j<ts.length->j∉B->frm ts j≠p:=fun j hj hjn z=>by
   have:=(h.row p j).mpr ⟨hj,z,by simp_all⟩
   simp_all
  rcases ht with z | z
  ·simp_all
  ·have h2:∀ L:Vd Vg,(∀ j∈L,frm ts j≠p)->bal ts L p<=0/\(i∈L->bal ts L p<0):=by
    intro L;induction L with
    | nil=>intro _;exact⟨by rw[Zbg];exact F2,fun q=>by grind⟩
    | cons j L ih =>
     intro hL;obtain⟨a1,a2⟩:=ih fun k hk=>hL k (Qk _ hk);have b':dl (frm ts j) p=0:=if_neg (hL j (Qj ..));have c':=Zmv (tow ts j) p;rw[Yd];refine⟨F3 c' b' a1,fun q=>?_⟩;rcases Qs.mp q with q | q
     ·subst q;have:dl (tow ts i) p=1:=Vf z;lia
     ·have:=a2 q;lia
   have h3:=(h2 ((Qu ts.length).filter fun i=>decide (i∉B)) fun j hj=>by
    obtain⟨a1,a2⟩:=Q2.mp hj;exact hne j (Qr.mp a1) (by simp_all)).2 (Q2.mpr ⟨Qr.mpr hi,Vq hn⟩)
   rw[hz]at h3;lia
 have hfr:∀ u X v,Ch ts u X v->M u->(∀ j∈X,j∈B)->∀ j∈X,M (frm ts j):=by
  intro u X v hc;induction hc with
  | nil u=>intro _ _ j hj;cases hj
  | @cons k X u v e' _ ih =>
   intro hu hX j hj;rcases Qs.mp hj with z | z
   ·rw[z,e'];exact hu
   ·exact ih (.inr ⟨k,hX k (Qj ..),rfl⟩) (fun l hl=>hX l (Qk _ hl)) j z
 have hcl:∀ P,M P->∀ y,ZmR ts P y->M y:=fun P hP y ⟨i,hi,q⟩=>by
  rcases q with ⟨q1,q2⟩ | ⟨q1,q2⟩
  ·exact .inr ⟨i,key P hP i hi (.inl q1),q2⟩
  ·have:=key P hP i hi (.inr q1);rw[←q2];exact hfr _ _ _ c (.inl rfl) (fun j hj=>UB.mp hj) i (UB.mpr this)
 refine YI ((Uc B).nodup_iff.mpr hnd) Wh fun x=>?_;rw[UB,Qr];refine⟨hlt x,fun hx=>?_⟩;exact key _ (RchT.closed (F:=M) (.inl rfl) hcl (hr x hx)) x hx (.inl rfl)
theorem WI.eul (h:WI ts b pt r [] B) (hl:B.length=ts.length) (c:Ch ts b B.reverse v):Eul ts b B.reverse:=by
 have hnd:=h.nd;have hlt:=h.lt;rw[Uq]at hnd hlt;refine⟨?_,v,c⟩;have hsub:=fun x hx=>Qr.mpr (hlt x hx);refine(Uc B).trans (YI hnd Wh fun x=>⟨hsub x,Zkn hnd hsub (by rw[QX,hl]) x⟩)
noncomputable def rows (ts:Ts) (p:Vl):Vd Vg:=((Qu ts.length).filter fun i=>decide (frm ts i=p)).reverse
theorem Zfz (ts) (p):(rows ts p).Nodup:=(Uc _).nodup_iff.mpr (Wh.filter _)
theorem Zdz (ts) (p) (i):i∈rows ts p↔i<ts.length/\frm ts i=p:=by
 unfold rows;simp
noncomputable def wlk (ts:Ts):Vg->(Vl->Vd Vg)->Vl->Vd Vg->Vd Vg->Vd Vg
 | 0,_,_,_,B=>B
 | n+1,r,pt,G,B=>match (r pt).getLast? with
  | some i=>wlk ts n (Zhk r pt (r pt).dropLast) (tow ts i) (G++[i]) B
  | none=>match G.getLast? with
   | some i=>wlk ts n r (frm ts i) G.dropLast (B++[i])
   | none=>B
theorem Zbk (e:r pt=X++[i]):wlk ts (n+1) r pt G B=wlk ts n (Zhk r pt X) (tow ts i) (G++[i]) B:=by
 rw[wlk,e];simp
theorem Zdd (e:r pt=[]):wlk ts (n+1) r pt (X++[i]) B=wlk ts n r (frm ts i) X (B++[i]):=by
 rw[wlk,e];simp
theorem Zde (e:r pt=[]):wlk ts n r pt [] B=B:=by
 cases n with
 | zero=>rfl
 | succ n=>rw[wlk,e];rfl
noncomputable def wayX (ts:Ts) (b:Vl):Vd Vg:=(wlk ts (2*ts.length) (rows ts) b [] []).reverse
theorem WI.len {b pt} {r} {G B} (h:WI ts b pt r G B):G.length+B.length<=ts.length:=by
 have:=JG h.nd fun x hx=>Qr.mpr (h.lt x hx);rw[Qh,QX]at this;exact this
theorem WI.in_len (h:WI ts b pt r G B) (p):(r p).length<=ts.length:=by
 have:=JG (h.rnd p) fun x hx=>Qr.mpr ((h.row p x).mp hx).1;rw[QX]at this;exact this
end Sh
namespace L2
open PySem PySem.Spec PyProof.Rows PySem.W
def Zk7 (hi:Vs) (n:Vg):It:=⟨fun i _=>i<n,fun i H x H'=>H'=H/\x= .int (hi-i),fun i _=>n<=i⟩
theorem Zcp {K} (it) (hi) (n):Zhj P w K tg (Zk7 hi n) [it] it (fun i h=>IsRangeIter h it (hi+i*(-1)) (n-i) (-1)) where
 mem:=by simp
 obj:=fun i h st b hb=>by
  have e:b=it:=by simp_all
  subst e;exact⟨_,st,fun v z=>by
   simp_all⟩
 keep:=fun i h h' st k=>k it (by simp) _ st
 item:=by
  intro X hP hw hK hc i pins s σ H E I hf st hg;subst hP hw hK;have⟨f0,f1,f2,f3,f4,f5⟩:=hf it (by simp);refine(Walks.range (prog:=X.prog) (w:=X.w) (I.ok.hd hc) it hi (-1) n).item i s _ _ hg st fun v h' tk hv st' kk=>?_;obtain⟨t,rfl⟩:=hv;have I1:Inv X pins σ H {s with heap:=h',toks:=tk}:=I.turned (fun b o hb e=>kk b o (by simpa using hb) e) f0 f1 f3 f4 f5;refine⟨_,rfl,ZgO st' rfl rfl (by decide) ⟨.int _,H,I1,⟨t,?_⟩,⟨rfl,rfl⟩,st',fun b hb=>(hf b hb).1⟩⟩;rw[show hi+i * -1=hi-i by lia]
 done:=by
  intro X hP hw hK hc i pins s σ H E I hf st hg;have⟨f0,f1,f2,f3,f4,f5⟩:=hf it (by simp);exact Mc (I.ok.hd hc) st (by have:n<=i:=hg;exact Ff this) fun h' eb=>⟨rfl,I.turned (fun b o hb e=>eb b o hb e) f0 f1 f3 f4 f5⟩
 self:=fun _ _ _ _ _ st h=>Md st h
section
variable {X:Cx} {tg:Expr}
theorem ZfD {σ:St} {lo hi} (I:Inv X pins σ H s) (h1 : -(2 ^ 62)<=lo) (h2:lo<2 ^ 62) (h3 : -(2 ^ 62)<=hi) (h4:hi<2 ^ 62)
  (q:R (Zk7 lo (lo-hi).toNat) H):Og (Oc X.prog X.w) X.A (GL (.ref s.heap.objs.size)) (PIE X pins σ tg R) E {s with heap:=s.heap.push {cls:=.type "range",data:=.fields #[.int lo t,.int hi u,.int (-1) v]},toks:=tk}:=by
 refine M0 (IsRange.new ..) (small_down h1 h2 h3 h4) ?_;have I1:Inv X pins σ H {s with heap:=s.heap.push {cls:=.type "range",data:=.fields #[.int lo t,.int hi u,.int (-1) v]},toks:=tk}:=I.kept fun b o e=>Qc _ e;refine⟨_,_,_,_,H,rfl,
  I1.kept fun b o e=>Qc _ e,Zcp _ lo _,?_,fun b hb=>?_,q⟩
 have e1:lo+((0:Vg)) * -1=lo:=by simp
 have e2:(((lo-hi).toNat:Vg))-((0:Vg))=Builtin.Range.rangeSize lo hi (-1):=by rw[rangeSize_downNat];lia
 rw[e1,e2];exact Qm _ rfl;have e:b=(s.heap.push {cls:=.type "range",data:=.fields #[.int lo t,.int hi u,.int (-1) v]}).objs.size:=by simpa using hb
 subst e;exact I1.fpOk (Qg _) (I1.hok.fresh (Qg _))
def Znu (ta:TA):TI:=fun σ H R=>ta σ H fun vs H1=>∃ i j:Vs,vs=[.int i,.int j,.int (-1)]/\(-(2 ^ 62)<=i/\i<2 ^ 62/\-(2 ^ 62)<=j/\j<2 ^ 62)/\R (Zk7 i (i-j).toNat) H1
theorem ZfM {p pos} (hg:Gl X "range") (hm:X.mg "range" = none) (ha:PA X (a::rs) ta) (hs:Oj (a::rs) X.env=(false,VQ a X.env)::Oj rs X.env:=by rfl) (hpl:(Ox pos (Oj rs X.env)).any (·.1)=false:=by rfl):PI X tg (.Call (.Name "range" p) (a::rs) [] pos) (Znu ta):=by
 intro pins s σ H R I h;refine Call_ (XS I hg hm boot_range (VJ (thn (ha pos pins s σ H _ I h) fun us s1 ⟨vs,H1,I1,r1,q1⟩=>?_) hs hpl));obtain⟨i,j,e,⟨q1,q2,q3,q4⟩,q⟩:=q1;subst e;cases r1 with
 | cons r rr =>
  cases rr with
  | cons r' rr =>
   cases rr with
   | cons r'' rr =>
    cases rr;obtain⟨t,rfl⟩:=r;obtain⟨t',rfl⟩:=r';obtain⟨t'',rfl⟩:=r'';exact call_range_3 (by decide) (ZfD I1 q1 q2 q3 q4 q) (.inl (PyProof.noPylong_of_log2 (by decide +kernel)))
theorem ZeE {lo} {g:TG} {tb:TS} {D:Zhm} (Pv:Vg->St->Hp->Prop) (h0:Pv 0 σ H)
  (hs:∀ i σ H,i<n->Pv i σ H->g (.int (lo-i)) σ H fun σ2 H2=>tb {D with nx:=Pv (i+1),ct:=Pv (i+1),bk:=D.nx} σ2 H2) (hd:∀ σ H,Pv n σ H->D.nx σ H) :
  ∃ W:Vg->Vg->St->Hp->Prop,(∃ m,W 0 m σ H)/\∀ i m σ H,W i m σ H ->
   ((Zk7 lo n).stop i H/\D.nx σ H)\/((Zk7 lo n).go i H/\∃ N,(∀ σ' H',N σ' H'->∃ m',m'<m/\W (i+1) m' σ' H')/\∀ x H',(Zk7 lo n).yld i H x H'->g x σ H' fun σ2 H2=>tb {D with nx:=N,ct:=N,bk:=D.nx} σ2 H2):=by
 refine⟨fun i m σ H=>m=n-i/\i<=n/\Pv i σ H,⟨n,by simp,QQ _,h0⟩,?_⟩;rintro i m σ H ⟨rfl,hi,p⟩;by_cases hlt:i<n
 refine .inr ⟨hlt,_,fun σ' H' p'=>⟨_,Kv hlt,rfl,hlt,p'⟩,fun x H' y=>?_⟩;obtain⟨e,y⟩:=y
 simp_all
 have e:i=n:=Kw hi hlt
 subst e;exact .inl ⟨Qg _,hd σ H p⟩
theorem Vals.rev (r:Vals xs us):Vals xs.reverse us.reverse:=by
 induction r with
 | nil=>exact .nil
 | cons h t ih =>
  rw[UW,UW];exact Vals.append ih (.cons h .nil)
def Zn4 (K:Ve) (te ts:TE):TE:=fun σ H Q=>te σ H fun x H1=>ts σ H1 fun y H2=>∃ a xs,x= .ref a/\SqL K H2 a xs/\y= .int (-1)/\∀ p,H2 p=none->Q (.ref p) (upd H2 p (.lst xs.reverse))
theorem ZlB {e st} (he:PE X e te) (hs:PE X st ts):PE X (.Subscript e (.Slice none none (some st) p2) pos) (Zn4 X.K te ts):=by
 intro pins s σ H Q I h;refine GG (thn (he pins s σ H _ I h) fun v s1 ⟨x,H1,I1,r1,q1⟩=>?_);refine wpAny_Slice ?_;refine Ob (Ob ?_);refine thn (hs pins s1 σ H1 _ I1 q1) fun vs s3 ⟨y,H3,I3,ry,q3⟩=>?_;obtain⟨a,xs,rfl,hx,rfl,q⟩:=q3;obtain⟨t,rfl⟩:=ry;cases r1;have I4:Inv X pins σ H3 {s3 with heap:=s3.heap.push {cls:=.type "slice",data:=.fields #[.none,.none,.int (-1) t]}}:=I3.kept fun b ob q=>Qc _ q;obtain⟨its,r,ht,hz⟩:=I4.list hx;have hlen:=r.length;refine LF ht.isList.typeIs slot_list_getitem.lookup ?_ (by rfl);refine N1 ht.isList (Heap.IsSliceOf.new ..) .none .none (.int _ t) (by decide) ?_ (by rw[Qz] <;> exact Kd hz hlen);rw[krv_pick];refine⟨.ref _,_,I4.laid (fun b ob q=>Qc _ q) (Qg _) ?_,rfl,q _ (I4.hok.fresh (Qg _))⟩;exact⟨by rw[Ul];exact hz,_,0,r.rev,Qm _ rfl⟩
end
end L2
namespace Tim
open PySem PySem.W PyProof.Rows
section
variable {prog:Oh} {w:Oi} {A:VA} {E:Vi->Vh->Prop} {s:Vh}
end
end Tim
namespace L2
open PySem PySem.Spec PyProof.Rows PySem.W
open PySem PySem.Spec PyProof.Rows
def SeqAt' (H:Hp) (a:Vk) (ys:Vd V):Prop:=H a=some (.lst ys)\/H a=some (.tup ys)
theorem SeqAt'.same (s:Same H H') (h:SeqAt' H a ys):SeqAt' H' a ys:=h.imp (s _ _) (s _ _)
theorem Zgr {K} (h:SeqAt' H a ys):ZmQ K (.ref a) H ys.length:=h.elim (fun h=>.inl ⟨_,SqL.of h,rfl⟩) fun h=>.inr ⟨_,SqT.of h,rfl⟩
theorem JP (K) (h:X.K=K:=by rfl):IxR X (rIx K):=by subst h;exact Zmk
theorem Zbw {K} (h:SeqAt' H a ys) (e:atI ys i=some v) (q:Q v H):rIx K (.ref a) (.int i) H Q :=
 h.elim (fun h=>.inl ⟨a,ys,i,v,rfl,rfl,SqL.of h,e,q⟩) fun h=>.inr (.inl ⟨a,ys,i,v,rfl,rfl,SqT.of h,e,q⟩)
end L2
namespace Sh
open PySem L2 PyProof.Rows
noncomputable abbrev moT (ts:Ts) (p:Vl):Vs:=bal ts (Qu ts.length) p
noncomputable def flatE (es:Es):Vd Vl:=es.flatMap fun e=>Qq e.2.toNat e.1
noncomputable def tsE (es:Es):Ts:=(flatE es).map fun x=>(bg x,en x)
theorem Yo (e) (es:Es):flatE (e::es)=Qq e.2.toNat e.1++flatE es:=by
 rfl
theorem ZaB (es) (e):flatE (es++[e])=flatE es++Qq e.2.toNat e.1:=by
 unfold flatE;simp
theorem YK (hp:∀ e∈es,1<=e.2) (x):x∈flatE es↔∃ e∈es,e.1=x:=by
 unfold flatE;rw[UC];constructor;rintro⟨e,he,h⟩;exact⟨e,he,(WR.mp h).2.symm⟩;rintro⟨e,he,h⟩;have:=hp e he;exact⟨e,he,WR.mpr ⟨by lia,h.symm⟩⟩
theorem Zcq (es):(tsE es).length=(flatE es).length:=by unfold tsE;simp
theorem Zmq (h:i<(flatE es).length):frm (tsE es) i=bg ((flatE es).getD i ""):=by
 unfold frm tsE;rw[Qb,Qi,Qb,Qa h];rfl
theorem Zle (h:i<(flatE es).length):tow (tsE es) i=en ((flatE es).getD i ""):=by
 unfold tow tsE;rw[Qb,Qi,Qb,Qa h];rfl
theorem Yc {l:Vd Vl} (h:i<l.length):l.getD i ""∈l:=by
 rw[Qb,Qa h];simp
theorem Za1 {l:Vd Vl} (h:x∈l):∃ i,i<l.length/\l.getD i "" = x:=by
 obtain⟨i,hi,e⟩:=WE h;refine⟨i,hi,?_⟩
 grind
theorem Jp (ts) (p):∀ n,n<=ts.length->bal ts (Qu n) p=((ts.take n).map fun t=>dl t.1 p-dl t.2 p).sum
 | 0,_=>by rfl
 | n+1,h=>by
  rw[Wz,Xi,Jp ts p n (Kl h),Yd,Zbg,QN h,QJ];unfold frm tow;rw[Qb,Qa h];simp
theorem Zcu (n) (c:Vs):(Qq n c).sum=n*c:=by
 simp
theorem Znp (h0:∀ e∈es,0<=e.2) (p):moT (tsE es) p=mo es p:=by
 unfold moT;rw[Jp _ _ _ (Qg _),Q5];induction es with
 | nil=>rfl
 | cons e es ih =>
  unfold tsE;rw[Yo,QJ,QJ,WV,Ut,Ut,Zcu,Jb];have:=ih fun e he=>h0 e (Qk _ he);unfold tsE at this;rw[this];unfold mo1 dl ind;rw[Rj (h0 e Qj ..),Int.mul_sub]
theorem ZnJ (hp:∀ e∈es,1<=e.2) (P y):ZmR (tsE es) P y↔Adj es P y:=by
 constructor;rintro⟨i,hi,q⟩;rw[Zcq]at hi;rw[Zmq hi,Zle hi]at q;obtain⟨e,he,h⟩:=(YK hp _).mp (Yc hi);rw[←h]at q;exact⟨e,he,q⟩;rintro⟨e,he,q⟩;obtain⟨i,hi,h⟩:=Za1 ((YK hp e.1).mpr ⟨e,he,rfl⟩);refine⟨i,by rw[Zcq];exact hi,?_⟩;rw[Zmq hi,Zle hi,h];omega
theorem Zm9 (hp:∀ e∈es,1<=e.2) (h:Rch es a y):RchT (tsE es) a y:=by
 induction h with
 | here=>exact .here
 | step _ k ih=>exact .step ih ((ZnJ hp _ _).mpr k)
theorem Adj.symm (h:Adj es P y):Adj es y P:=by
 obtain⟨e,he,q⟩:=h;exact⟨e,he,q.symm.imp (fun z=>⟨z.2,z.1⟩) fun z=>⟨z.2,z.1⟩⟩
theorem Rch.trans (h:Rch es a b) (k:Rch es b c):Rch es a c:=by
 induction k with
 | here=>omega
 | step _ j ih=>exact .step ih j
theorem Rch.symm (h:Rch es a b):Rch es b a:=by
 induction h with
 | here=>exact .here
 | step _ k ih=>exact Rch.trans (.step .here k.symm) ih
noncomputable def lst (x:Vl):Vg:=x.cps.toList.getLastD 0
theorem Zd8 (h:1<=x.length):x.cps.toList=(bg x).cps.toList++[lst x]:=by
 unfold bg lst;rw[Zr];rcases WA x.cps.toList with e | ⟨l,c,e⟩
 rw[←Zu,e]at h;simp at h;rw[e];simp
theorem Xr (l:Vd Vl):(Qu l.length).map (fun i=>l.getD i "")=l:=by
 apply QW;intro i;rw[Qi];by_cases hi:i<l.length
 rw[QY hi,We,Qb,Qa hi];rfl;rw[Qp (by rw[QX];exact Kf hi),Qp (Kf hi)];rfl
theorem Zg5:∀ {es:Es},(es.map (·.1)).Nodup->(∀ e∈es,0<=e.2)->∀ e∈es,((flatE es).count e.1)=e.2
 | [],_,_,e,he=>by grind
 | d::es,nd,h0,e,he=>by
  have nd':=QU.mp nd;have hd:=h0 d Qj ..;rw[Yo,Ud,UG];rcases Qs.mp he with z | z
  subst z;have:(flatE es).count e.1=0:=by
   rw[List.count_eq_zero];intro q;obtain⟨e',he',h⟩:=UC.mp q
   simp_all
  rw[Vf (by simp)];lia;rw[if_neg (fun q=>nd'.1 (QP.mpr ⟨e,z,(by simp_all:d.1=e.1).symm⟩))];have:=Zg5 nd'.2 (fun e he=>h0 e (Qk _ he)) e z;lia
end Sh
namespace L2
open PySem PySem.Spec PyProof.Rows
end L2
namespace PySem
namespace F
end F
end PySem
namespace PySem
section
variable {prog:Oh} {w:Oi} {A:VA} {E:Vi->Vh->Prop} {s:Vh}
end
section
variable {prog:Oh} {w:Oi} {A:VA} {E:Vi->Vh->Prop} {s:Vh}
section
variable {R:GN->Vh->Prop}
end
end
end PySem
namespace L2
open PySem PySem.Spec PyProof.Rows
end L2
namespace PySem
namespace F
end F
section
variable {prog:Oh} {w:Oi} {A:VA} {E:Vi->Vh->Prop} {s:Vh}
section
variable {R:GN->Vh->Prop}
end
end
end PySem
namespace L2
open PySem PySem.Spec PyProof.Rows
theorem Zig (n) (xs:Vg->V) (f:Vg->Vd V) (hn:n<=Of)
  (hJ:∀ H,Same H1 H->(∀ i,i<n->J.go i H/\∀ x H',J.yld i H x H'->H'=H/\x=xs i)/\J.stop n H)
  (step:∀ i H (Qe),i<n->Same H1 H->(∀ a H6,Same H H6->H a=none->H6 a=some (.lst (f i))->Qe (.ref a) H6)->g (xs i) (lcS k mp σ) H fun σ4 H4=>te σ4 H4 Qe)
  (done:∀ D (as:Vd Vk) H',as.length=n->(∀ i a,as[i]?=some a->a≠D/\H1 a=none/\H' a=some (.lst (f i)))->Same H1 H'->H1 D=none->H' D=some (.lst (as.map V.ref))->Q (.ref D) H'):JL k mp σ g ZmV te J H1 Q:=by
 intro D hD;refine⟨fun i m acc H=>m=n-i/\i<=n/\Same H1 H/\H D=some (.lst acc)/\∃ as:Vd Vk,acc=as.map V.ref/\as.length=i/\∀ j a,as[j]?=some a->a≠D/\H1 a=none/\H a=some (.lst (f j)),⟨n,by simp,QQ _,Zb hD,Zc,[],rfl,rfl,fun j v e=>by simp at e⟩,?_⟩;rintro i m acc H ⟨rfl,hi,hs,hDa,as,rfl,hl,hr⟩;obtain⟨j1,j2⟩:=hJ H hs;by_cases hlt:i<n
 ·refine .inr ⟨(j1 i hlt).1,fun x H3 y=>?_⟩;obtain⟨e1,e2⟩:=(j1 i hlt).2 x H3 y;subst e1 e2;refine step i H3 _ hlt hs fun a H6 s6 ha r6=>⟨s6 _ _ hDa,by rw[Qd];exact Kx hn hlt hl,n-(i+1),Kv hlt,rfl,hlt,fun b o e=>?_,Zc,as++[a],by simp,by rw[Qh,hl];rfl,fun j u e=>?_⟩
  ·rw[Zf (Zg e hD)];exact s6 _ _ (hs b o e)
  ·have naD:a≠D:=fun z=>by simp_all
   rcases WS j as.length with h | h | h
   ·rw[QA h]at e;obtain⟨q1,q2,q3⟩:=hr j u e;exact⟨q1,q2,by rw[Zf q1];exact s6 _ _ q3⟩
   ·subst h;rw[Qy (Qg _),Wv]at e;cases e;exact⟨naD,hs.free ha,by rw[Zf naD,hl];omega⟩
   ·rw[Qp (by rw[Qh,Qx];exact h)]at e;cases e
 ·have e:i=n:=Kw hi hlt
  subst e;exact .inl ⟨j2,done D as H hl hr hs hD hDa⟩
end L2
namespace Sh
open PySem L2 PyProof.Rows
seal L2.PE L2.PS L2.PSs L2.PT L2.PW L2.PA L2.PI L2.PG L2.PGs L2.PO L2.PC L2.PCs L2.OpR L2.UnR L2.CallR L2.MtR L2.IxR L2.SlR
noncomputable def top (i:Vg):V7:=PySem.Challenge.pw_shredjoin_k73_filled_of_texts.main.body.getD i (.Pass ⟨0,0,0,0⟩)
structure Blt (mg:Vl->Vj Vi):Prop where
 isi:mg "isinstance" = none
 int:mg "int" = none
 bool:mg "bool" = none
 str:mg "str" = none
 tuple:mg "tuple" = none
 list:mg "list" = none
 len:mg "len" = none
 range:mg "range" = none
 all:mg "all" = none
 min:mg "min" = none
 sorted:mg "sorted" = none
 rev:mg "reversed" = none
 zip:mg "zip" = none
 sum:mg "sum" = none
 set:mg "set" = none
 dict:mg "dict" = none
 max:mg "max" = none
 enum:mg "enumerate" = none
section
variable {P:Oh} {w:Oi} {K:Ve} {mg:Vl->Vj Vi} {base:Vz}
theorem YZ (h:z.length<=1000):(tx z).length<=Of:=by rw[Zy];exact ZO (Ei h)
theorem Zfi (h:n<=5000):n<Of:=WP h (by decide)
end
end Sh
namespace L2
end L2
namespace Sh
open PySem L2 PyProof.Rows
seal L2.PE L2.PS L2.PSs L2.PT L2.PW L2.PA L2.PI L2.PG L2.PGs L2.PO L2.PC L2.PCs L2.OpR L2.UnR L2.CallR L2.MtR L2.IxR L2.SlR
section
variable {P:Oh} {w:Oi} {K:Ve} {mg:Vl->Vj Vi} {base:Vz} {S C A1 A2 A3 A4 A5 A6 A7 A8:Vk}
def Cd (z:Vd Vg):Prop:=∀ c∈z,97<=c/\c<=122
end
section
variable {P:Oh} {w:Oi} {K:Ve} {mg:Vl->Vj Vi} {base:Vz}
end
theorem Jm (h:1<=x.length):VG x none (some (-1))=bg x:=by
 apply ZS;rw[Nx (slice_closes_to_neg (by decide) (by lia) rfl)];unfold bg;rw[Zr,WG,Zu];simp;omega
theorem Zdx (h:1<=x.length):VG x (some 1) none=en x:=by
 apply ZS;rw[Z0 (by decide) (by lia)];rfl
def PA (H:Hp) (vs:Vd V) (es:Es):Prop:=vs.length=es.length/\∀ (i:Vg) (e:Vl×Vs),es[i]?=some e->∃ b,vs[i]?=some (.ref b)/\H b=some (.tup [.str e.1,.int e.2])
theorem PA.same (h:PA H vs es) (s:TSame H H'):PA H' vs es:=⟨h.1,fun i e q=>by
 obtain⟨b,e1,e2⟩:=h.2 i e q;exact⟨b,e1,s _ _ e2⟩⟩
def HeapV (H:Hp) (v:V) (es:Es):Prop:=∃ q vs,v= .ref q/\H q=some (.tup vs)/\PA H vs es
theorem HeapV.same (h:HeapV H v es) (s:Same H H'):HeapV H' v es:=by
 obtain⟨q,vs,e,e1,e2⟩:=h;exact⟨q,vs,e,s _ _ e1,e2.same s.tup⟩
structure ZiH (es:Es):Prop where
 few:es.length<=301
 many:∀ e∈es,0<=e.2/\e.2<=1000
 long:∀ e∈es,1<=e.1.length/\e.1.length<=1000
structure Pts (es:Es) (ks:Vd Vl):Prop where
 nd:ks.Nodup
 mem:∀ P,P∈ks↔∃ e∈es,bg e.1=P\/en e.1=P
 len:ks.length<=2*es.length
theorem Pts.nil:Pts [] []:=⟨Uh,fun P=>by simp,Qg _⟩
def Yi (ks:Vd Vl) (x:Vl):Vd Vl:=if x∈ks then ks else ks++[x]
theorem Zad (h:ks.Nodup):(Yi ks x).Nodup:=by
 unfold Yi
 grind
theorem addK_mem:y∈Yi ks x↔y∈ks\/y=x:=by
 unfold Yi
 grind
theorem YD (ks) (x):(Yi ks x).length<=ks.length+1:=by
 unfold Yi
 grind
theorem Pts.step {ks} (h:Pts es ks) (e):Pts (es++[e]) (Yi (Yi ks (bg e.1)) (en e.1)) where
 nd:=Zad (Zad h.nd)
 mem:=fun P=>by
  rw[addK_mem,addK_mem,h.mem];constructor;rintro((⟨x,hx,q⟩ | q) | q);exact⟨x,QI _ hx,q⟩;exact⟨e,by simp,.inl q.symm⟩;exact⟨e,by simp,.inr q.symm⟩;rintro⟨x,hx,q⟩;rcases QD.mp hx with z | z
  exact .inl (.inl ⟨x,z,q⟩);rw[Qo.mp z]at q;rcases q with q | q
  exact .inl (.inr q.symm);exact .inr q.symm
 len:=by
  have h1:=YD (Yi ks (bg e.1)) (en e.1);have h2:=YD ks (bg e.1);have:=h.len;rw[Qh,Qx];lia
theorem Pts.zero (h:Pts es ks) (hP:P∉ks):mo es P=0:=Za0 fun e he=>⟨fun q=>hP ((h.mem P).mpr ⟨e,he,.inl q⟩),fun q=>hP ((h.mem P).mpr ⟨e,he,.inr q⟩)⟩
theorem Zd2 (h0:y∉ks->g y=0):(XF (gD ks g) (Vn y)).getD (.int 0)= .int (g y):=by
 rw[gD_val];split
 rfl;rename_i c;rw[h0 c];rfl
theorem ZgV {ss:Vd Vl}:ss.filter p=((Qu ss.length).filter fun i=>p (ss.getD i "")).map fun i=>ss.getD i "":=by
 have e:ss=(Qu ss.length).map fun i=>ss.getD i "":=by
  apply QW;intro i;rw[Qi];by_cases hi:i<ss.length
  rw[QY hi,We,Qb,Qa hi];rfl;rw[Qp (Kf hi),Qp (by simp;exact Kf hi)];rfl
 conv=>lhs;rw[e]
 rw[List.filter_map];rfl
def Zj0 (x:Vl) (n:Vs) (v:V) (H:Hp):Prop:=∃ b,v= .ref b/\H b=some (.tup [.str x,.int n])
theorem ZlI {ss:Vd Vl} {f:Vl->Vs} (hl:vs.length=((Qu ss.length).filter fun i=>p (ss.getD i "")).length)
  (hR:∀ (j i:Vg) (v),((Qu ss.length).filter fun i=>p (ss.getD i ""))[j]?=some i->vs[j]?=some v->Zj0 (ss.getD i "") (f (ss.getD i "")) v H):PA H vs ((ss.filter p).map fun x=>(x,f x)):=by
 rw[ZgV];refine⟨by rw[Qd,Qd,hl],fun j e he=>?_⟩;rw[Qi,Qi]at he;cases hj:((Qu ss.length).filter fun i=>p (ss.getD i ""))[j]? with
 | none=>simp_all
 | some i =>
  rw[hj]at he;cases he;have hjv:j<vs.length:=by exact hl▸(Ql.mp hj).1
  obtain⟨b,e1,e2⟩:=hR j i _ hj (Qa hjv);exact⟨b,by rw[Qa hjv,e1],e2⟩
structure SPts (es:Es) (ss:Vd Vl):Prop where
 srt:(ss.map fun x=>x.cps.toList).Pairwise (· < ·)
 pts:Pts es ss
theorem SPts.of (h:Pts es ks) (p:ss.Perm ks) (s:(ss.map fun x=>x.cps.toList).Pairwise (· < ·)):SPts es ss :=
 ⟨s,p.nodup_iff.mpr h.nd,fun P=>by rw[p.mem_iff,h.mem],by exact p.length_eq▸h.len⟩
section
variable {P:Oh} {w:Oi} {K:Ve} {mg:Vl->Vj Vi} {base:Vz}
theorem ZW {x:Vl} (h:x.length<=1000):x.length<=Of:=ZO (Ei h)
abbrev ZaR:V7:=top 4
noncomputable abbrev Zh6:Vd Vl:=["piece"]
theorem Zfo:Zo Zh6 ["piece"] (Zh ZaR):=⟨rfl,rfl,rfl,by simp,rfl,by decide +kernel,by decide +kernel⟩
def Zcv:Sp:=fun vs H Q _=>∃ x:Vl,vs=[.str x]/\1<=x.length/\x.length<=1000/\Q (.str (bg x)) H
theorem ZcO (D:HasDef K mg "begin_of" ZaR ["piece"]):FOk P w K mg base 1 "begin_of" ["piece"] Zcv:=by
 refine D.ok Zfo (fun vs H Q E h=>?_) fun f cdv A outer s H vs Q E hr h=>?_;obtain⟨x,rfl,_⟩:=h;rfl;obtain⟨x,rfl,h1,h2,k⟩:=h;refine⟨_,Zi (Zq (Zz Z6 (pv 0) ZT (ZM (Jh YX Zj)))),⟨_,rfl,_,rfl,_,rfl,_,rfl,ZW h2,?_⟩⟩;rw[←Jm h1]at k;omega
abbrev Zfu:V7:=top 5
abbrev ZlY:Vd Vl:=["piece"]
theorem ZjX:Zo ZlY ["piece"] (Zh Zfu):=⟨rfl,rfl,rfl,by simp,rfl,by decide +kernel,by decide +kernel⟩
def Zfg:Sp:=fun vs H Q _=>∃ x:Vl,vs=[.str x]/\1<=x.length/\x.length<=1000/\Q (.str (en x)) H
theorem Zf8 (D:HasDef K mg "end_of" Zfu ["piece"]):FOk P w K mg base 1 "end_of" ["piece"] Zfg:=by
 refine D.ok ZjX (fun vs H Q E h=>?_) fun f cdv A outer s H vs Q E hr h=>?_;obtain⟨x,rfl,_⟩:=h;rfl;obtain⟨x,rfl,h1,h2,k⟩:=h;refine⟨_,Zi (Zq (Zz Z6 (pv 0) (ZM Zj) ZT)),⟨_,rfl,_,rfl,_,rfl,ZW h2,?_⟩⟩;rw[←Zdx h1]at k;omega
end
theorem Zbt {i L:Vg} {a b:Vs} (ea:a=i) (eb:b=i+L) (h:i+L<=z.length):VG (tx z) (some a) (some b)=tx ((z.drop i).take L):=by
 subst ea eb;apply ZS;rw[Jz Ss Dd (by rw[Zy];lia),Zr];congr 1;lia
theorem ZcI (z) (L):(pcs z L).length=z.length-L+1:=by unfold pcs;simp
theorem ZlG (h):(pcs z L)[i]=tx ((z.drop i).take L):=by
 have e:(pcs z L)[i]?=some (tx ((z.drop i).take L)):=by
  rw[ZcI]at h;unfold pcs;rw[Qi,QY h];rfl
 simp_all
section
variable {P:Oh} {w:Oi} {K:Ve} {mg:Vl->Vj Vi} {base:Vz}
abbrev Zfr:V7:=top 32
noncomputable abbrev ZlV:Vd Vl:=["_law_text","_law_long","_law_found","_law_at","_law_piece"]
theorem scLTorn:Zo ZlV ["_law_text","_law_long"] (Zh Zfr):=⟨rfl,rfl,rfl,by decide +kernel,rfl,by decide +kernel,by decide +kernel⟩
structure CntD (ws ks:Vd Vl):Prop where
 nd:ks.Nodup
 mem:∀ x,x∈ks↔x∈ws
 len:ks.length<=ws.length
noncomputable def cnt (ws:Vd Vl) (x:Vl):Vs:=(ws.count x:Vs)
def Zdp:Sp:=fun vs H Q _=>∃ (z:Vd Vg) (L:Vg),vs=[.str (tx z),.int L]/\1<=L/\L<=z.length/\z.length<=700/\∀ d H' ks,H d=none->Same H H'->H' d=some (.dK (gD ks (cnt (pcs z L))))->CntD (pcs z L) ks->Q (.ref d) H'
theorem Zf5 (D:HasDef K mg "_law_torn" Zfr ["_law_text","_law_long"]) (B:Blt mg):FOk P w K mg base 1 "_law_torn" ["_law_text","_law_long"] Zdp:=by
 refine D.ok scLTorn (fun vs H Q E h=>?_) (fun f cdv A outer s H vs Q E hr h=>?_)
 ·obtain⟨z,L,rfl,_⟩:=h;rfl
 ·obtain⟨z,L,rfl,h1,h2,h63,k⟩:=h;have hu:=ZbV hr;refine⟨_,(Zd (Zm (i:=2) scLTorn.nd rfl (.inl rfl) XM)
   (Zd (Z8 Vr rfl (Yq rfl B.range (Za (Zp Z5 (Zp Yy (Zk Zn rfl B.len ZQ (Za (pv 0) Ze)) (pv 1)) Zj) Ze)) (Zx (i:=3) scLTorn.nd rfl (.inl rfl))
    (Zd (Zm (i:=4) scLTorn.nd rfl (.inl rfl) (Zz Z6 (pv 0) (ZM (pv 3)) (ZM (Zp Z5 (pv 3) (pv 1)))))
   (Zi (Y2 hu (pv 2) (pv 4) (Zp Z5 (Xf hu (pv 2) (pv 4) Zj ⟨rfl,rfl,rfl,rfl⟩) Zj) rfl))))
   (Zi (Zq (pv 2))))),?_⟩
  refine fun d hd=>⟨_,rfl,.str (tx z),z.length,rfl,⟨YZ (Fg h63),(Zy z).symm⟩,_,rfl,_,_,rfl,rfl,_,_,rfl,rfl,_,rfl,by lia,by lia,?_⟩
  have en:((z.length:Vs)-(L:Vs)+1).toNat=(pcs z L).length:=by rw[ZcI];lia
  rw[en];refine Y9 (n:=(pcs z L).length) (fun i σ H2=>(∃ z3 z4:Vj V,σ=[some (.str (tx z)),some (.int L),some (.ref d),z3,z4])/\Same H H2/\∃ ks,CntD ((pcs z L).take i) ks/\H2 d=some (.dK (gD ks (cnt ((pcs z L).take i)))))
   ⟨⟨none,none,rfl⟩,Zb hd,[],⟨Uh,fun x=>by simp,Qg _⟩,Zc⟩ ?_ ?_
  ·rintro i σ H2 hi ⟨⟨z3,z4,rfl⟩,s2,ks,hk,hdd⟩;rw[UH];refine⟨_,rfl,_,rfl,_,rfl,_,rfl,_,rfl,_,_,rfl,rfl,_,rfl,_,rfl,YZ (Fg h63),?_⟩;rw[Zbt (z:=z) (i:=i) (L:=L) rfl rfl (by omega),←ZlG hi];have hg:=Zd2 (ks:=ks) (g:=cnt ((pcs z L).take i)) (y:=(pcs z L)[i]) fun hP=>by
    unfold cnt;rw[Ua fun q=>hP ((hk.mem _).mpr q)];rfl
   have hkl:=hk.len;rw[QE]at hkl;have het:=QN hi;generalize (pcs z L)[i]=y at *;refine⟨_,rfl,d,rfl,.inl ⟨_,.inl hdd⟩,_,rfl,_,DGet.kk (k:=Vn y) hdd,_,_,hg,rfl,_,rfl,_,rfl,d,_,rfl,DPut.kk (k:=Vn y) hdd (by rw[gD_len];exact Zv (by lia)),?_⟩;refine⟨⟨_,_,rfl⟩,fun b u e=>?_,Yi ks y,⟨Zad hk.nd,fun x=>?_,?_⟩,?_⟩
   ·rw[Zf (Zg e hd)];exact s2 b u e
   ·rw[addK_mem,hk.mem,het];simp
   ·have:=YD ks y;rw[het,Qh,Qx,QE];exact F1 hkl this
   ·rw[Zc,ZbX,het];refine VR (fun l=>some (HO.dK l)) (XU fun x _=>?_);unfold cnt;rw[Ud,List.count_singleton];by_cases c:x=y
    ·subst c;rw[Vf rfl,Vf (by simp)];rfl
    ·rw[if_neg c,if_neg (by simp;exact fun q=>c q.symm)];rfl
  ·rintro σ H2 ⟨⟨z3,z4,rfl⟩,s2,ks,hk,hdd⟩;rw[Q5]at hk hdd;exact⟨_,rfl,k d H2 ks hd s2 hdd hk⟩
end
theorem ZjN {l m:Vd Vl} (hl:(l.map fun x=>x.cps.toList).Pairwise (· < ·)) (hm:(m.map fun x=>x.cps.toList).Pairwise (· < ·)) (h:∀ x,x∈l↔x∈m):l=m:=by
 have e:=Zal hl hm fun c=>by
  simp_all
 have key:∀ (l m:Vd Vl),(l.map fun x=>x.cps.toList)=(m.map fun x=>x.cps.toList)->l=m:=by
  intro l;induction l with
  | nil =>
   simp
  | cons x l ih =>
   intro m e;cases m with
   | nil=>cases e
   | cons y m =>
    injection e with e1 e2
    rw[ZS e1,ih m e2]
 exact key l m e
theorem SPts.one (h:SPts es l) (k:SPts es m):l=m:=ZjN h.srt k.srt fun x=>by rw[h.pts.mem,k.pts.mem]
section
variable {P:Oh} {w:Oi} {K:Ve} {mg:Vl->Vj Vi} {base:Vz}
abbrev ZaK:V7:=top 8
noncomputable abbrev Zh2:Vd Vl:=["H","more","piece","many"]
theorem scMoreOut:Zo Zh2 ["H"] (Zh ZaK):=⟨rfl,rfl,rfl,by decide +kernel,rfl,by decide +kernel,by decide +kernel⟩
def Jy:Sp:=fun vs H Q _=>∃ (v:V) (es:Es),vs=[v]/\HeapV H v es/\ZiH es/\∀ d H' ks,Same H H'->H' d=some (.dK (gD ks (mo es)))->Pts es ks->Q (.ref d) H'
theorem ZcK (D:HasDef K mg "more_out" ZaK ["H"]) (g9_:FOk P w K mg base 1 "begin_of" ["piece"] Zcv) (g12_:FOk P w K mg base 1 "end_of" ["piece"] Zfg):FOk P w K mg base 2 "more_out" ["H"] Jy:=by
 refine D.ok scMoreOut (fun vs H Q E h=>?_) (fun f cdv A outer s H vs Q E hr h=>?_)
 ·obtain⟨v,es,rfl,_⟩:=h;rfl
 ·obtain⟨v,es,rfl,⟨q,vs,rfl,hq,hpa⟩,hF,k⟩:=h;have hu:=ZbV hr;refine⟨_,(Zd (Zm (i:=1) scMoreOut.nd rfl (.inl rfl) XM)
   (Zd (Z8 Vr rfl (Y3 (pv 0)) (Yj 2 K rfl (Zt (Zx (i:=2) scMoreOut.nd rfl (.inl rfl)) (Zt (Zx (i:=3) scMoreOut.nd rfl (.inl rfl)) Z9)))
    (Zd (Y2 hu (pv 1) (ZC g9_ hr (Za (pv 2) Ze)) (Zp Z5 (Xf hu (pv 1) (ZC g9_ hr (Za (pv 2) Ze)) Zj ⟨rfl,rfl,rfl,rfl⟩) (pv 3)) rfl)
   (Zi (Y2 hu (pv 1) (ZC g12_ hr (Za (pv 2) Ze)) (Zp Yy (Xf hu (pv 1) (ZC g12_ hr (Za (pv 2) Ze)) Zj ⟨rfl,rfl,rfl,rfl⟩) (pv 3)) rfl))))
   (Zi (Zq (pv 1))))),?_⟩
  intro d hd;have s1:=Zb (o:=.dK []) hd;refine⟨_,rfl,q,rfl,⟨_,SqT.of (s1 _ _ hq)⟩,?_⟩;refine XC (K:=K) (a:=q) (xs:=vs) (fun i σ H2=>(∃ z2 z3:Vj V,σ=[some (.ref q),some (.ref d),z2,z3])/\Same H H2/\∃ ks,Pts (es.take i) ks/\H2 d=some (.dK (gD ks (mo (es.take i)))))
   ⟨⟨none,none,rfl⟩,s1,[],Pts.nil,Zc⟩ (fun i σ H2 _ ⟨_,s2,_⟩=>SqT.of (s2 _ _ hq)) ?_ ?_
  ·rintro i x σ H2 hi ⟨⟨z2,z3,rfl⟩,s2,ks,hk,hdd⟩;have hiv:i<vs.length:=(Ql.mp hi).1;have hie:i<es.length:=by rw[←hpa.1];exact hiv
   obtain⟨b,e1,e2⟩:=hpa.2 i es[i] (Qa hie);rw[hi]at e1;cases e1;obtain⟨l1,l2⟩:=hF.long es[i] (QG hie);have hkl:=hk.len;have hfew:=hF.few;rw[QE]at hkl;refine⟨b,_,rfl,SqT.of (s2 _ _ e2),rfl,_,_,rfl,_,_,rfl,rfl,?_⟩;have het:es.take (i+1)=es.take i++[es[i]]:=QN hie;generalize es[i]=e at *;have h0:=fun(hP:bg e.1∉ks)=>hk.zero hP;have hg:=Zd2 (ks:=ks) (g:=mo (es.take i)) h0;refine⟨_,rfl,d,rfl,.inl ⟨_,.inl hdd⟩,_,rfl,e.1,rfl,l1,l2,_,DGet.kk (k:=Vn (bg e.1)) hdd,_,rfl,_,_,hg,rfl,_,rfl,_,rfl,e.1,rfl,l1,l2,d,_,rfl,DPut.kk (k:=Vn (bg e.1)) hdd (by rw[gD_len];exact Zv (by omega)),?_⟩;rw[ZbX];have hdd2:(upd H2 d (.dK (gD (Yi ks (bg e.1)) fun x=>if x=bg e.1 then mo (es.take i) (bg e.1)+e.2 else mo (es.take i) x))) d=some (.dK (gD (Yi ks (bg e.1)) fun x=>if x=bg e.1 then mo (es.take i) (bg e.1)+e.2 else mo (es.take i) x)):=Zc;have hg2:=Zd2 (ks:=Yi ks (bg e.1)) (g:=fun x=>if x=bg e.1 then mo (es.take i) (bg e.1)+e.2 else mo (es.take i) x) (y:=en e.1) fun hP=>by
    rw[addK_mem,Mi]at hP;rw[if_neg hP.2,hk.zero hP.1]
   have hal:=YD ks (bg e.1);refine⟨_,rfl,d,rfl,.inl ⟨_,.inl hdd2⟩,_,rfl,e.1,rfl,l1,l2,_,DGet.kk (k:=Vn (en e.1)) hdd2,_,rfl,_,_,hg2,rfl,_,rfl,_,rfl,e.1,rfl,l1,l2,d,_,rfl,DPut.kk (k:=Vn (en e.1)) hdd2 (by rw[gD_len];exact Zv (by lia)),?_⟩;refine⟨⟨_,_,rfl⟩,fun c u hc=>?_,Yi (Yi ks (bg e.1)) (en e.1),by rw[het];exact hk.step e,?_⟩
   ·rw[Js,Zf (Zg hc hd)];exact s2 c u hc
   ·rw[Zc,ZbX,het];refine VR (fun l=>some (HO.dK l)) (XU fun x _=>?_);rw[Zkv];unfold mo1 ind;by_cases c1:x=en e.1
    ·subst c1;rw[Vf rfl,Vf rfl];by_cases c2:en e.1=bg e.1
     ·rw[Vf c2,Vf c2.symm,c2];lia
     ·rw[if_neg c2,if_neg (Vy c2)];lia
    ·rw[if_neg c1,if_neg (Vy c1)];by_cases c2:x=bg e.1
     ·subst c2;rw[Vf rfl,Vf rfl];lia
     ·rw[if_neg c2,if_neg (Vy c2)];lia
  ·rintro σ H2 ⟨⟨z2,z3,rfl⟩,s2,ks,hk,hdd⟩;rw[hpa.1,Q5]at hk hdd;exact⟨_,rfl,k d H2 ks s2 hdd hk⟩
abbrev XJ:V7:=top 9
abbrev ZbL:Vd Vl:=["H"]
theorem Zej:Zo ZbL ["H"] (Zh XJ):=⟨rfl,rfl,rfl,by simp,rfl,by decide +kernel,by decide +kernel⟩
def Zdw:Sp:=fun vs H Q _=>∃ (v:V) (es:Es),vs=[v]/\HeapV H v es/\ZiH es/\∀ v' H' ss,Same H H'->HeapV H' v' (ups (mo es) ss)->SPts es ss->Q v' H'
theorem ZbI (D:HasDef K mg "begins_of" XJ ["H"]) (B:Blt mg) (g22_:FOk P w K mg base 2 "more_out" ["H"] Jy):FOk P w K mg base 3 "begins_of" ["H"] Zdw:=by
 refine D.ok Zej (fun vs H Q E h=>?_) (fun f cdv A outer s H vs Q E hr h=>?_)
 ·obtain⟨v,es,rfl,_⟩:=h;rfl
 ·obtain⟨v,es,rfl,hV,hF,k⟩:=h;refine⟨_,(Zi (Zq (Z4 ZP rfl B.tuple Yt (Za (ZV (Zh XJ) ZbL ["point","more"] [] rfl (YF (Zk (YU rfl) rfl B.sorted Xj (Za (ZaV (ZC g22_ hr (Za (pv 0) Ze))) Ze))) (fun _ _ _ _ _=>Yj 2 K rfl (Zt (YM 0) (Zt (YM 1) Z9))) (fun _ _ _ _ _=>Xy (Zw ZcJ (pv 1) Zj (ZA _))) (fun _ _ _ _ _=>(JD (Za (pv 0) (Za (pv 1) Ze))))) Ze)))),?_⟩;refine⟨_,rfl,v,es,rfl,hV,hF,fun d H1 ks s1 hd hP=>⟨d,_,rfl,hd,fun p hp=>?_⟩⟩;have hkl:=hP.len;have hfew:=hF.few;refine⟨p,d,ks,fun x=>.int (mo es x),rfl,Zc,Zb hp _ _ hd,hP.nd,K4 hfew hkl,fun D1 H2 vs ss s2 hpm hsrt hD1 hl hv=>?_⟩;have hss:=hpm.length_eq;refine⟨D1,rfl,⟨_,SqL.of hD1⟩,JK ss.length (fun i=>vs.getD i .non) (fun i=>decide (0<(mo es) (ss.getD i ""))) (fun i v H=>Zj0 (ss.getD i "") ((mo es) (ss.getD i "")) v H) (Zl (K5 hkl hss hfew)) (fun i v H H' hs ⟨b,e1,e2⟩=>⟨b,e1,hs _ _ e2⟩) (by have:=XB (K:=K) (SqL.of hD1);rw[hl]at this;trivial) ?_ ?_⟩
  ·intro i H3 Qt Qf hi hs ht hf;obtain⟨b,e1,e2⟩:=hv i ss[i] (Qa hi);have ev:vs.getD i .non= .ref b:=by rw[Qb,e1];rfl
   have es1:ss.getD i "" = ss[i]:=by rw[Qb,Qa hi];rfl
   rw[es1]at ht hf;rw[ev];refine⟨b,_,rfl,SqT.of (hs _ _ e2),rfl,_,_,rfl,_,_,rfl,rfl,?_⟩;refine⟨_,rfl,_,_,rfl,rfl,_,rfl,?_⟩;by_cases c:0<(mo es) ss[i]
   ·refine Xm (Vq c) (⟨_,rfl,_,rfl,Zl (show 2<=1000 by decide),fun r hr=>ht (Vq c) _ _ (Zb hr) ⟨r,rfl,Zc⟩⟩)
   ·exact Yu (Vp c) (hf (Vp c) _ (Same.refl _))
  ·intro D2 vs2 H3 hl2 hR hs3 hD2 hDl;refine⟨D2,vs2,rfl,.inl ⟨SqL.of hDl,fun q hq=>?_⟩⟩;have sq:=Zb (o:=.tup vs2) hq;refine k (.ref q) _ ss (((s1.trans (Zb hp)).trans s2).trans (hs3.trans sq)) ⟨q,vs2,rfl,Zc,?_⟩ (SPts.of hP hpm hsrt);exact(ZlI (f:=fun x=>(mo es) x) hl2 hR).same sq.tup
end
end Sh
namespace L2
open PySem PySem.Spec PyProof.Rows
theorem ZnH:On "set" = some (.type "set"):=by rfl
end L2
namespace Sh
open PySem L2 PyProof.Rows
seal L2.PE L2.PS L2.PSs L2.PT L2.PW L2.PA L2.PI L2.PG L2.PGs L2.PO L2.PC L2.PCs L2.OpR L2.UnR L2.CallR L2.MtR L2.IxR L2.SlR
theorem Ze7 {es:Es} {f:Vl->Vl} (hl:vs.length=es.length) (hR:∀ (i) (v:V),vs[i]?=some v->v= .str (f (es.getD i ("",0)).1)):vs=(es.map fun e=>f e.1).map V.str:=by
 apply QW;intro i;by_cases hi:i<vs.length
 have hie:i<es.length:=Kc hl hi
 rw[Qa hi,hR i _ (Qa hi),Qi,Qi,Qb,Qa hie];rfl;rw[Qp (Kf hi),Qp (by rw[Qd,Qd];exact Kg hl hi)]
section
variable {P:Oh} {w:Oi} {K:Ve} {mg:Vl->Vj Vi} {base:Vz}
def TupS (H:Hp) (v:V) (ss:Vd Vl):Prop:=∃ q,v= .ref q/\H q=some (.tup (ss.map V.str))
abbrev Y0:V7:=top 7
abbrev JH:Vd Vl:=["H"]
theorem Zei:Zo JH ["H"] (Zh Y0):=⟨rfl,rfl,rfl,by simp,rfl,by decide +kernel,by decide +kernel⟩
def Zdt:Sp:=fun vs H Q _=>∃ (v:V) (es:Es),vs=[v]/\HeapV H v es/\ZiH es/\∀ v' H' ss,Same H H'->TupS H' v' ss->SPts es ss->Q v' H'
theorem ZbF (D:HasDef K mg "points_of" Y0 ["H"]) (B:Blt mg) (g9_:FOk P w K mg base 1 "begin_of" ["piece"] Zcv) (g12_:FOk P w K mg base 1 "end_of" ["piece"] Zfg):FOk P w K mg base 2 "points_of" ["H"] Zdt:=by
 refine D.ok Zei (fun vs H Q E h=>?_) (fun f cdv A outer s H vs Q E hr h=>?_)
 ·obtain⟨v,es,rfl,_⟩:=h;rfl
 ·obtain⟨v,es,rfl,⟨q,vs,rfl,hq,hpa⟩,hF,k⟩:=h;refine⟨_,(Zi (Zq (Z4 ZP rfl B.tuple Yt (Za (Zk (Zaj rfl) rfl B.sorted Xj (Za (Z4 (Zhb rfl) rfl B.set ZnH (Za (Zp ZdK (ZV (Zh Y0) JH ["piece","many"] [] rfl (Y3 (pv 0)) (fun _ _ _ _ _=>Yj 2 K rfl (Zt (YM 0) (Zt (YM 1) Z9))) (fun _ _ _ _ _=>Y4) (fun _ _ _ _ _=>(ZC g9_ hr (Za (pv 0) Ze))))
   (ZV (Zh Y0) JH ["piece","many"] [] rfl (Y3 (pv 0)) (fun _ _ _ _ _=>Yj 2 K rfl (Zt (YM 0) (Zt (YM 1) Z9))) (fun _ _ _ _ _=>Y4) (fun _ _ _ _ _=>(ZC g12_ hr (Za (pv 0) Ze))))) Ze)) Ze)) Ze)))),?_⟩
  have hfew:=hF.few;have hvl:=hpa.1;refine⟨_,rfl,q,rfl,⟨_,SqT.of hq⟩,JJ vs.length (fun i=>vs.getD i .non) (fun i v _=>v= .str (bg (es.getD i ("",0)).1)) (Zl (E3 hfew hvl)) (fun _ _ _ _ _ r=>r) (ZdZ (SqT.of hq)) ?_ ?_⟩
  ·intro i H3 Qe hi hs kq;have hie:i<es.length:=Kc hvl hi
   obtain⟨b,e1,e2⟩:=hpa.2 i es[i] (Qa hie);have ev:vs.getD i .non= .ref b:=by rw[Qb,e1];rfl
   have ee:es.getD i ("",0)=es[i]:=by rw[Qb,Qa hie];rfl
   obtain⟨l1,l2⟩:=hF.long es[i] (QG hie);rw[ev];refine⟨b,_,rfl,SqT.of (hs _ _ e2),rfl,_,_,rfl,_,_,rfl,rfl,_,rfl,es[i].1,rfl,l1,l2,kq _ _ (Same.refl _) ?_⟩;rw[ee]
  intro D1 vs1 H3 hl1 hr1 hs3 hD1 hDl1;rw[Ze7 (f:=bg) (Sf hvl hl1) hr1]at hDl1;refine⟨_,rfl,q,rfl,⟨_,SqT.of (hs3 _ _ hq)⟩,JJ vs.length (fun i=>vs.getD i .non) (fun i v _=>v= .str (en (es.getD i ("",0)).1)) (Zl (E3 hfew hvl)) (fun _ _ _ _ _ r=>r) (ZdZ (SqT.of (hs3 _ _ hq))) ?_ ?_⟩
  ·intro i H4 Qe hi hs kq;have hie:i<es.length:=Kc hvl hi
   obtain⟨b,e1,e2⟩:=hpa.2 i es[i] (Qa hie);have ev:vs.getD i .non= .ref b:=by rw[Qb,e1];rfl
   have ee:es.getD i ("",0)=es[i]:=by rw[Qb,Qa hie];rfl
   obtain⟨l1,l2⟩:=hF.long es[i] (QG hie);rw[ev];refine⟨b,_,rfl,SqT.of (hs _ _ (hs3 _ _ e2)),rfl,_,_,rfl,_,_,rfl,rfl,_,rfl,es[i].1,rfl,l1,l2,kq _ _ (Same.refl _) ?_⟩;rw[ee]
  intro D2 vs2 H4 hl2 hr2 hs4 hD2 hDl2;rw[Ze7 (f:=en) (Sf hvl hl2) hr2]at hDl2;refine⟨D1,D2,_,_,rfl,rfl,hs4 _ _ hDl1,hDl2,Zl (by simp only[Qd];exact E4 hfew),fun p hp=>?_⟩;have s5:=Zb (o:=.lst ((es.map fun e=>bg e.1).map V.str++(es.map fun e=>en e.1).map V.str)) hp;refine⟨p,(es.map fun e=>bg e.1)++(es.map fun e=>en e.1),rfl,SqL.of (by rw[Zc,QJ]),by simp only[Qh,Qd];exact E4 hfew,fun p2 ks hp2 hnd hmem hkl=>?_⟩;have hkl':ks.length<=2*es.length:=by simp only[Qh,Qd]at hkl;lia
  refine⟨p2,ks,rfl,Zc,K4 hfew hkl',fun q2 ss hq2 hpm hsrt=>?_⟩;refine⟨q2,_,rfl,.inl ⟨SqL.of Zc,fun l hl=>?_⟩⟩;refine k (.ref l) _ ss (((((hs3.trans hs4).trans s5).trans (Zb hp2)).trans (Zb hq2)).trans (Zb hl)) ⟨l,rfl,Zc⟩ (SPts.of (ks:=ks) ⟨hnd,fun x=>?_,hkl'⟩ hpm hsrt);rw[hmem,QD,QP,QP];constructor
  ·rintro(⟨e,he,z⟩ | ⟨e,he,z⟩)
   ·exact⟨e,he,.inl z⟩
   ·exact⟨e,he,.inr z⟩
  ·rintro⟨e,he,z | z⟩
   ·exact .inl ⟨e,he,z⟩
   ·exact .inr ⟨e,he,z⟩
end
noncomputable def rD (ks:Vd Vl) (adr:Vl->Vk):Vd (Key×V):=ks.map fun x=>((Vn x:Key),V.ref (adr x))
theorem ZfF (ks) (adr):(rD ks adr).length=ks.length:=by unfold rD;simp
theorem Jf (ks) (adr) (y):XF (rD ks adr) (Vn y)=if y∈ks then some (.ref (adr y))else none:=Jr _ y ks
theorem ZiZ (h:y∉ks):X8 (rD ks adr) (Vn y) (.ref p)=rD (ks++[y]) fun x=>if x=y then p else adr x:=by
 rw[ZaT _ (by rw[Jf,if_neg h])];unfold rD;rw[QJ,Wm];dsimp only;rw[Vf rfl];congr 1;refine Q8 fun x hx=>?_;rw[if_neg fun e:x=y=>h (e▸hx)]
structure TJ (H H2:Hp) (d:Vk) (ks:Vd Vl) (adr:Vl->Vk) (r:Vl->Vd Vl):Prop where
 sm:Same H H2
 dn:H d=none
 dd:H2 d=some (.dK (rD ks adr))
 nd:ks.Nodup
 row:∀ P∈ks,H2 (adr P)=some (.lst ((r P).map V.str))
 fresh:∀ P∈ks,H (adr P)=none
 inj:∀ P∈ks,∀ P'∈ks,adr P=adr P'->P=P'
 out:∀ P,P∉ks->r P=[]
noncomputable def Zdc (r:Vl->Vd Vl) (P y:Vl):Vl->Vd Vl:=fun x=>if x=P then r P++[y]else r x
theorem Zd9:z∈Zdc r P y x↔z∈r x\/(x=P/\z=y):=by
 unfold Zdc
 grind
theorem Zbh (h:∀ x,(r x).length<=n) (x):(Zdc r P y x).length<=n+1:=by
 unfold Zdc
 grind
theorem TJ.ne (J:TJ H H2 d ks adr r) (hP:P∈ks):adr P≠d:=fun e=>by
 have:=J.row P hP;rw[e,J.dd]at this
 simp_all
theorem TJ.old (J:TJ H H2 d ks adr r) (hP:P∈ks) (hp:H2 p=none) :
  TJ H (upd (upd H2 p (.lst [])) (adr P) (.lst ((r P).map V.str++[.str y]))) d (Yi ks P) adr (Zdc r P y):=by
 have ek:Yi ks P=ks:=by unfold Yi;rw[Vf hP]
 rw[ek];have s1:=Zb (o:=.lst []) hp;refine⟨fun b u hb=>?_,J.dn,?_,J.nd,fun Q hQ=>?_,J.fresh,J.inj,fun Q hQ=>?_⟩;rw[Zf fun e=>by rw[e,J.fresh P hP]at hb;grind];exact s1 _ _ (J.sm b u hb);exact Zf (Vy (J.ne hP))▸s1 _ _ J.dd;unfold Zdc;by_cases c:Q=P
 subst c;rw[Zc,Vf rfl,QJ];rfl;rw[if_neg c,Zf fun e=>c (J.inj Q hQ P hP e)];exact s1 _ _ (J.row Q hQ);unfold Zdc;rw[if_neg fun e:Q=P=>hQ (e▸hP)];exact J.out Q hQ
theorem TJ.new (J:TJ H H2 d ks adr r) (hP:P∉ks) (hp:H2 p=none) :
  TJ H (upd (upd (upd H2 p (.lst [])) d (.dK (rD (ks++[P]) fun x=>if x=P then p else adr x))) p (.lst ([]++[.str y]))) d (Yi ks P) (fun x=>if x=P then p else adr x) (Zdc r P y):=by
 have ek:Yi ks P=ks++[P]:=by unfold Yi;rw[if_neg hP]
 rw[ek];have hpd:d≠p:=fun e=>by rw[←e,J.dd]at hp;grind
 have hpa:∀ Q∈ks,adr Q≠p:=fun Q hQ e=>by have:=J.row Q hQ;simp_all
 have mm:∀ Q,Q∈ks++[P]->Q∈ks\/Q=P:=fun Q h=>by simp_all
 refine⟨fun b u hb=>?_,J.dn,?_,?_,fun Q hQ=>?_,fun Q hQ=>?_,fun Q hQ Q' hQ' e=>?_,fun Q hQ=>?_⟩
 ·have h2:=J.sm b u hb;rw[Zf (Zg h2 hp),Zf (Zg hb J.dn),Zf (Zg h2 hp)];omega
 ·rw[Zf hpd,Zc]
 ·exact Wx.mpr ⟨J.nd,by simp,fun a ha b hb e=>by simp_all⟩
 ·unfold Zdc;by_cases c:Q=P
  ·subst c;rw[Vf rfl,Vf rfl,Zc,J.out Q hP];rfl
  ·rw[if_neg c,if_neg c];have hQ':Q∈ks:=(mm Q hQ).resolve_right c;rw[Zf (hpa Q hQ'),Zf (J.ne hQ'),Zf (hpa Q hQ')];exact J.row Q hQ'
 ·skip
  by_cases c:Q=P
  ·rw[Vf c];cases hh:H p with
   | none=>rfl
   | some u=>have:=J.sm p u hh;rw[hp]at this;cases this
  ·rw[if_neg c];exact J.fresh Q ((mm Q hQ).resolve_right c)
 ·skip
  by_cases c:Q=P
  ·by_cases c':Q'=P
   ·simp_all
   ·rw[Vf c,if_neg c']at e;exact Vo e.symm (hpa Q' ((mm Q' hQ').resolve_right c'))
  ·by_cases c':Q'=P
   ·rw[if_neg c,Vf c']at e;exact Vo e (hpa Q ((mm Q hQ).resolve_right c))
   ·rw[if_neg c,if_neg c']at e;exact J.inj Q ((mm Q hQ).resolve_right c) Q' ((mm Q' hQ').resolve_right c') e
 ·have h1:Q∉ks:=fun z=>hQ (QI _ z);have h2:¬ Q=P:=fun z=>hQ (by simp[z]);unfold Zdc;rw[if_neg h2];exact J.out Q h1
def TiR (H:Hp) (q d:Vk) (es:Es) (i:Vg):L2.St->Hp->Prop:=fun σ H2=>(∃ z2 z3:Vj V,σ=[some (.ref q),some (.ref d),z2,z3])/\∃ ks adr r,TJ H H2 d ks adr r/\Pts (es.take i) ks/\(∀ P y,y∈r P↔Adj (es.take i) P y)/\∀ P,(r P).length<=2*i
section
variable {P:Oh} {w:Oi} {K:Ve} {mg:Vl->Vj Vi} {base:Vz}
abbrev Xv:V7:=top 12
noncomputable abbrev ZcQ:Vd Vl:=["H","tied","piece","many"]
theorem scTiedPoints:Zo ZcQ ["H"] (Zh Xv):=⟨rfl,rfl,rfl,by decide +kernel,rfl,by decide +kernel,by decide +kernel⟩
def ZiM:Sp:=fun vs H Q _=>∃ (v:V) (es:Es),vs=[v]/\HeapV H v es/\ZiH es/\∀ d H' ks adr r,TJ H H' d ks adr r->Pts es ks->(∀ P y,y∈r P↔Adj es P y)->(∀ P,(r P).length<=602)->Q (.ref d) H'
theorem Zaf (D:HasDef K mg "tied_points" Xv ["H"]) (g9_:FOk P w K mg base 1 "begin_of" ["piece"] Zcv) (g12_:FOk P w K mg base 1 "end_of" ["piece"] Zfg):FOk P w K mg base 2 "tied_points" ["H"] ZiM:=by
 refine D.ok scTiedPoints (fun vs H Q E h=>?_) (fun f cdv A outer s H vs Q E hr h=>?_)
 ·obtain⟨v,es,rfl,_⟩:=h;rfl
 ·obtain⟨v,es,rfl,⟨q,vs,rfl,hq,hpa⟩,hF,k⟩:=h;refine⟨_,(Zd (Zm (i:=1) scTiedPoints.nd rfl (.inl rfl) XM)
   (Zd (Z8 Vr rfl (Y3 (pv 0)) (Yj 2 K rfl (Zt (Zx (i:=2) scTiedPoints.nd rfl (.inl rfl)) (Zt (Zx (i:=3) scTiedPoints.nd rfl (.inl rfl)) Z9)))
    (Zd (ZX (XN F.plainAttrs_list F.slot_list_append F.type_list_append Ya (ZcH (pv 1) (ZC g9_ hr (Za (pv 2) Ze)) (ZD Ze) ⟨rfl,rfl,rfl,rfl⟩) (Za (ZC g12_ hr (Za (pv 2) Ze)) Ze)))
   (Zi (ZX (XN F.plainAttrs_list F.slot_list_append F.type_list_append Ya (ZcH (pv 1) (ZC g12_ hr (Za (pv 2) Ze)) (ZD Ze) ⟨rfl,rfl,rfl,rfl⟩) (Za (ZC g9_ hr (Za (pv 2) Ze)) Ze))))))
   (Zi (Zq (pv 1))))),?_⟩
  intro d hd;have s1:=Zb (o:=.dK []) hd;refine⟨_,rfl,q,rfl,⟨_,SqT.of (s1 _ _ hq)⟩,?_⟩;refine XC (K:=K) (a:=q) (xs:=vs) (fun i σ H2=>(∃ z2 z3:Vj V,σ=[some (.ref q),some (.ref d),z2,z3])/\∃ ks adr r,TJ H H2 d ks adr r/\Pts (es.take i) ks/\(∀ P y,y∈r P↔Adj (es.take i) P y)/\∀ P,(r P).length<=2*i)
   ⟨⟨none,none,rfl⟩,[],fun _=>d,fun _=>[],⟨s1,hd,Zc,Uh,(fun P h=>by cases h),(fun P h=>by omega),(fun P h=>by simp),fun _ _=>rfl⟩,Pts.nil,(fun P y=>by simp[Adj]),fun P=>Qg _⟩ (fun i σ H2 _ ⟨_,_,_,_,J,_⟩=>SqT.of (J.sm _ _ hq)) ?_ ?_
  ·rintro i x σ H2 hi ⟨⟨z2,z3,rfl⟩,ks,adr,r,J,hk,hadj,hlen⟩;have hiv:i<vs.length:=(Ql.mp hi).1;have hie:i<es.length:=by rw[←hpa.1];exact hiv
   obtain⟨b,e1,e2⟩:=hpa.2 i es[i] (Qa hie);rw[hi]at e1;cases e1;obtain⟨l1,l2⟩:=hF.long es[i] (QG hie);have hkl:=hk.len;have hfew:=hF.few;rw[QE]at hkl;refine⟨b,_,rfl,SqT.of (J.sm _ _ e2),rfl,_,_,rfl,_,_,rfl,rfl,?_⟩;have het:es.take (i+1)=es.take i++[es[i]]:=QN hie;generalize es[i]=e at *;have one:∀ (H3:Hp) (ks3:Vd Vl) (adr3:Vl->Vk) (r3:Vl->Vd Vl) (P y:Vl) (R:L2.St->Hp->Prop) (σ3:L2.St),TJ H H3 d ks3 adr3 r3->ks3.length<=700->(∀ x,(r3 x).length<=700)->(∀ H4 adr4,TJ H H4 d (Yi ks3 P) adr4 (Zdc r3 P y)->R σ3 H4)->∀ p,H3 p=none ->
     (∀ v,XF (rD ks3 adr3) (Vn P:Key)=some v->∃ l xs,v= .ref l/\(upd H3 p (.lst [])) l=some (.lst xs)/\xs.length<Of/\R σ3 (upd (upd H3 p (.lst [])) l (.lst (xs++[.str y])))) /\
     (XF (rD ks3 adr3) (Vn P:Key)=none->∃ xs,(upd (upd H3 p (.lst [])) d (.dK (X8 (rD ks3 adr3) (Vn P) (.ref p)))) p=some (.lst xs)/\xs.length<Of/\R σ3 (upd (upd (upd H3 p (.lst [])) d (.dK (X8 (rD ks3 adr3) (Vn P) (.ref p)))) p (.lst (xs++[.str y])))):=by
    intro H3 ks3 adr3 r3 P y R σ3 J3 hks hr3 hR p hp;constructor
    ·intro v hv;rw[Jf]at hv;by_cases c:P∈ks3
     ·rw[Vf c]at hv;cases hv;refine⟨adr3 P,(r3 P).map V.str,rfl,Zb hp _ _ (J3.row P c),?_,hR _ _ (J3.old c hp)⟩;rw[Qd];have:=hr3 P;exact Zv (Fg this)
     ·rw[if_neg c]at hv;cases hv
    ·intro hv;rw[Jf]at hv;by_cases c:P∈ks3
     ·simp_all
     ·have hpd:p≠d:=fun e=>by rw[e,J3.dd]at hp;grind
      refine⟨[],by rw[Zf hpd,Zc],Zv (by decide),?_⟩;rw[ZiZ c];exact hR _ _ (J3.new c hp)
   have hkz:ks.length<=700:=by lia
   have hrz:∀ x,(r x).length<=700:=fun x=>by have:=hlen x;lia
   show ZeR _ _ _ _ _;refine YE (fun σ H'=>σ=[some (.ref q),some (.ref d),some (.str e.1),some (.int e.2)]/\∃ adr',TJ H H' d (Yi ks (bg e.1)) adr' (Zdc r (bg e.1) (en e.1))) (fun R hR=>?_) ?_
   ·refine⟨_,rfl,d,rfl,.inl ⟨_,.inl J.dd⟩,_,rfl,e.1,rfl,l1,l2,Zl (show 0<=1000 by decide),fun p hp=>?_⟩;refine⟨_,Vn (bg e.1),Zb hp _ _ J.dd,rfl,by rw[ZfF];exact Zv (Fg hkz),fun v hv=>?_,fun hv=>?_⟩
    ·obtain⟨l,xs,rfl,hl,hz,hr'⟩:=(one H2 ks adr r (bg e.1) (en e.1) R [some (.ref q),some (.ref d),some (.str e.1),some (.int e.2)] J hkz hrz (fun H4 adr4 J4=>hR _ _ ⟨rfl,adr4,J4⟩) p hp).1 v hv;exact⟨.inl ⟨rfl,_,SqL.of hl⟩,_,rfl,e.1,rfl,l1,l2,l,xs,.str (en e.1),rfl,rfl,hl,hz,hr'⟩
    ·obtain⟨xs,hl,hz,hr'⟩:=(one H2 ks adr r (bg e.1) (en e.1) R [some (.ref q),some (.ref d),some (.str e.1),some (.int e.2)] J hkz hrz (fun H4 adr4 J4=>hR _ _ ⟨rfl,adr4,J4⟩) p hp).2 hv;exact⟨.inl ⟨rfl,_,SqL.of hl⟩,_,rfl,e.1,rfl,l1,l2,p,xs,.str (en e.1),rfl,rfl,hl,hz,hr'⟩
   rintro σ H3 ⟨rfl,adr3,J3⟩;have hal:=YD ks (bg e.1);have hrz3:∀ x,(Zdc r (bg e.1) (en e.1) x).length<=700:=fun x=>by have:=Zbh (P:=bg e.1) (y:=en e.1) hlen x;lia
   have fin:∀ H4 adr4,TJ H H4 d (Yi (Yi ks (bg e.1)) (en e.1)) adr4 (Zdc (Zdc r (bg e.1) (en e.1)) (en e.1) (bg e.1))->TiR H q d es (i+1) [some (.ref q),some (.ref d),some (.str e.1),some (.int e.2)] H4:=fun H4 adr4 J4=>by
    refine⟨⟨_,_,rfl⟩,_,adr4,_,J4,by rw[het];exact hk.step e,fun P y=>?_,fun P=>?_⟩
    ·rw[Zd9,Zd9,hadj,het,ZiD];constructor
     ·rintro((z | ⟨z1,z2⟩) | ⟨z1,z2⟩)
      ·exact .inl z
      ·exact .inr (.inl ⟨z1.symm,z2.symm⟩)
      ·exact .inr (.inr ⟨z1.symm,z2.symm⟩)
     ·rintro(z | ⟨z1,z2⟩ | ⟨z1,z2⟩)
      ·exact .inl (.inl z)
      ·exact .inl (.inr ⟨z1.symm,z2.symm⟩)
      ·exact .inr ⟨z1.symm,z2.symm⟩
    ·have:=Zbh (P:=en e.1) (y:=bg e.1) (fun x=>Zbh (P:=bg e.1) (y:=en e.1) hlen x) P;omega
   refine⟨_,rfl,d,rfl,.inl ⟨_,.inl J3.dd⟩,_,rfl,e.1,rfl,l1,l2,Zl (show 0<=1000 by decide),fun p hp=>?_⟩;refine⟨_,Vn (en e.1),Zb hp _ _ J3.dd,rfl,by rw[ZfF];exact Zv (by lia),fun v hv=>?_,fun hv=>?_⟩
   ·obtain⟨l,xs,rfl,hl,hz,hr'⟩:=(one H3 _ adr3 _ (en e.1) (bg e.1) (TiR H q d es (i+1)) [some (.ref q),some (.ref d),some (.str e.1),some (.int e.2)] J3 (Fh hkl hal hfew) hrz3 fin p hp).1 v hv;exact⟨.inl ⟨rfl,_,SqL.of hl⟩,_,rfl,e.1,rfl,l1,l2,l,xs,.str (bg e.1),rfl,rfl,hl,hz,hr'⟩
   ·obtain⟨xs,hl,hz,hr'⟩:=(one H3 _ adr3 _ (en e.1) (bg e.1) (TiR H q d es (i+1)) [some (.ref q),some (.ref d),some (.str e.1),some (.int e.2)] J3 (Fh hkl hal hfew) hrz3 fin p hp).2 hv;exact⟨.inl ⟨rfl,_,SqL.of hl⟩,_,rfl,e.1,rfl,l1,l2,p,xs,.str (bg e.1),rfl,rfl,hl,hz,hr'⟩
  ·rintro σ H2 ⟨⟨z2,z3,rfl⟩,ks,adr,r,J,hk,hadj,hlen⟩;rw[hpa.1,Q5]at hk hadj;have:=hF.few;exact⟨_,rfl,k d H2 ks adr r J hk hadj fun P=>by have:=hlen P;rw[hpa.1]at this;lia⟩
end
def bD (ks:Vd Vl):Vd (Key×V):=ks.map fun x=>((Vn x:Key),V.bl true)
theorem Zab (ks):(bD ks).length=ks.length:=by unfold bD;simp
theorem Zce (ks) (y):XF (bD ks) (Vn y)=if y∈ks then some (.bl true)else none:=Jr _ y ks
theorem Zcf (ks) (y):X8 (bD ks) (Vn y) (.bl true)=bD (Yi ks y):=by
 unfold Yi;by_cases m:y∈ks
 rw[Vf m];unfold bD;rw[Zao _ _ _ _ m];exact Q8 fun x _=>(by simp)
 rw[if_neg m,ZaT _ (by rw[Zce,if_neg m])];unfold bD;simp
theorem ZdR {ss:Vd Vl} (nd:ss.Nodup) (h:(ss.map fun x=>x.cps.toList).Pairwise (·<=·)):(ss.map fun x=>x.cps.toList).Pairwise (· < ·):=by
 rw[Wr]at h ⊢;have:=L5 nd h;exact this.imp fun {a b} q=>(Tim.lt_ne (fun z=>(Vo z (U6.mpr q.2))) (Vy q.1))
structure Wk (es:Es) (a:Vl) (ks F W:Vd Vl):Prop where
 nd:F.Nodup
 fst:a∈F
 rch:∀ x∈F,Rch es a x
 sub:∀ x∈W,x∈F
 inn:∀ x∈F,x∈ks
theorem Wk.le (h:Wk es a ks F W):F.length<=ks.length:=by
 have h1:=h.nd;have h2:=h.inn;clear h;induction F generalizing ks with
 | nil=>simp
 | cons x F ih =>
  have nd':=QU.mp h1;have hx:=h2 x Qj ..;have:=ih nd'.2 fun y hy=>(WT fun(q:y=x)=>nd'.1 (q▸hy)).mpr (h2 y (Qk _ hy));rw[Wi hx]at this;have hpos:=Wq hx;rw[QC];exact Dc hpos this
section
variable {P:Oh} {w:Oi} {K:Ve} {mg:Vl->Vj Vi} {base:Vz}
abbrev ZcA:V7:=top 13
noncomputable abbrev Zkr:Vd Vl:=["H","tied","first","found","waiting","here","point"]
theorem scPartOf:Zo Zkr ["H"] (Zh ZcA):=⟨rfl,rfl,rfl,by decide +kernel,rfl,by decide +kernel,by decide +kernel⟩
def ZiO:Sp:=fun vs H Q _=>∃ (v:V) (e:Vl×Vs) (es:Es),vs=[v]/\HeapV H v (e::es)/\ZiH (e::es)/\∀ v' H' ss,Same H H'->TupS H' v' ss->(ss.map fun x=>x.cps.toList).Pairwise (· < ·)->ss.length<=602->(∀ x,x∈ss↔Rch (e::es) (bg e.1) x)->Q v' H'
theorem Zen (D:HasDef K mg "part_of" ZcA ["H"]) (B:Blt mg) (g9_:FOk P w K mg base 2 "begin_of" ["piece"] Zcv) (g33_:FOk P w K mg base 2 "tied_points" ["H"] ZiM):FOk P w K mg base 3 "part_of" ["H"] ZiO:=by
 refine D.ok scPartOf (fun vs H Q E h=>?_) (fun f cdv A outer s H vs Q E hr h=>?_)
 ·obtain⟨v,e,es,rfl,_⟩:=h;rfl
 ·obtain⟨v,e,es0,rfl,hV,hF,k⟩:=h;have hu:=ZbV hr;obtain⟨q,vs,rfl,hq,hpa⟩:=id hV;refine⟨_,(Zd (Zm (i:=1) scPartOf.nd rfl (.inl rfl) (ZC g33_ hr (Za (pv 0) Ze)))
   (Zd (Zm (i:=2) scPartOf.nd rfl (.inl rfl) (ZC g9_ hr (Za (ZB ix_tup (ZB ix_tup (pv 0) Zj (fun _ _=>rfl)) Zj (fun _ _=>rfl)) Ze)))
   (Zd (Zm (i:=3) scPartOf.nd rfl (.inl rfl) (ZfS (ZdG (pv 2) YN ZfJ) rfl rfl (Rw _ _) (by decide)))
   (Zd (Zm (i:=4) scPartOf.nd rfl (.inl rfl) (ZD (Za (pv 2) Ze)))
   (Zd (Xe Vr (Zw ZcJ (Zk Zn rfl B.len ZQ (Za (pv 4) Ze)) Zj (ZA _))
    (Zd (Zm (i:=5) scPartOf.nd rfl (.inl rfl) (ZfU F.plainAttrs_list F.slot_list_pop F.type_list_pop ZcT (pv 4)))
   (Zi (Z8 Vr rfl (YF (X9 hu (pv 1) (pv 5) (fun _ _=>rfl))) (Zx (i:=6) scPartOf.nd rfl (.inl rfl))
    (Zi (Yg (ZdF (ZbC hu (pv 6) (pv 3))) (Zd (Y2 hu (pv 3) (pv 6) YN rfl)
   (Zi (ZX (XN F.plainAttrs_list F.slot_list_append F.type_list_append Ya (pv 4) (Za (pv 6) Ze))))) ZF))))))
   (Zi (Zq (Z4 ZP rfl B.tuple Yt (Za (Zk (XZ rfl) rfl B.sorted Xj (Za (pv 3) Ze)) Ze))))))))),?_⟩
  obtain⟨b0,eb0,hb0⟩:=hpa.2 0 e rfl;obtain⟨l1,l2⟩:=hF.long e (Qj ..);refine⟨_,rfl,.ref q,e::es0,rfl,hV,hF,fun d H1 ks adr r J hk hadj hlen=>?_⟩;have hf1:=hk.len;have hf2:=hF.few;have haK:bg e.1∈ks:=(hk.mem _).mpr ⟨e,Qj ..,.inl rfl⟩;generalize hes:e::es0=es at *;refine⟨_,rfl,q,vs,0,.ref b0,rfl,rfl,SqT.of (J.sm _ _ hq),JQ (by decide) eb0,b0,_,0,.str e.1,rfl,rfl,SqT.of (J.sm _ _ hb0),rfl,e.1,rfl,l1,l2,fun fd hfd=>?_⟩;refine⟨_,rfl,Zc,[((Vn (bg e.1):Key),V.bl true)],rfl,by simp,?_⟩;rw[Js];have s2:Same H1 (upd H1 fd (.dK (Y6 [] [((Vn (bg e.1):Key),V.bl true)]))):=Zb hfd;have hfd2:(upd H1 fd (.dK (Y6 [] [((Vn (bg e.1):Key),V.bl true)]))) fd=some (.dK (bD [bg e.1])):=Zc;generalize upd H1 fd (.dK (Y6 [] [((Vn (bg e.1):Key),V.bl true)]))=H2 at s2 hfd2;refine⟨_,rfl,Zl (show 1<=1000 by decide),fun wl hwl=>?_⟩;have hwl1:H1 wl=none:=s2.free hwl;have hne:wl≠fd:=fun z=>by simp_all
  have s3:=s2.trans (Zb (o:=.lst [.str (bg e.1)]) hwl);have hfd3:=Zb (o:=.lst [.str (bg e.1)]) hwl _ _ hfd2;have hwl3:(upd H2 wl (.lst [.str (bg e.1)])) wl=some (.lst ([bg e.1].map V.str)):=Zc;generalize upd H2 wl (.lst [.str (bg e.1)])=H3 at s3 hfd3 hwl3;have shift:∀ {H4:Hp} (F W:Vd Vl),Same H1 H4->Same H1 (upd (upd H4 fd (.dK (bD F))) wl (.lst (W.map V.str))):=fun F W s b u hb=>by
   rw[Zf (Zg hb hwl1),Zf (Zg hb hfd)];exact s b u hb
  have shW:∀ {H4:Hp} (o:HO),Same H1 H4->Same H1 (upd H4 wl o):=fun o s b u hb=>by
   rw[Zf (Zg hb hwl1)];exact s b u hb
  have shF:∀ {H4:Hp} (o:HO),Same H1 H4->Same H1 (upd H4 fd o):=fun o s b u hb=>by
   rw[Zf (Zg hb hfd)];exact s b u hb
  try dsimp only[Ji]
  show ZeR (Zbm _ _) _ _ _ _;refine YE (fun σ H4=>∃ (F:Vd Vl) (z5 z6:Vj V),σ=[some (.ref q),some (.ref d),some (.str (bg e.1)),some (.ref fd),some (.ref wl),z5,z6]/\Same H1 H4/\H4 fd=some (.dK (bD F))/\Wk es (bg e.1) ks F []/\∀ x∈F,∀ y,Adj es x y->y∈F) (fun R hR=>?_) ?_
  ·refine⟨fun m σ H4=>∃ (F W:Vd Vl) (z5 z6:Vj V),σ=[some (.ref q),some (.ref d),some (.str (bg e.1)),some (.ref fd),some (.ref wl),z5,z6]/\Same H1 H4/\H4 fd=some (.dK (bD F))/\H4 wl=some (.lst (W.map V.str))/\Wk es (bg e.1) ks F W/\(∀ x∈F,x∉W->∀ y,Adj es x y->y∈F)/\m=2*(ks.length-F.length)+W.length/\m<=2*ks.length,
    ⟨_,[bg e.1],[bg e.1],none,none,rfl,s3,hfd3,hwl3,⟨by simp,by simp,(fun x hx=>by rw[Qo.mp hx];exact .here),fun x hx=>hx,fun x hx=>by simp_all⟩,(fun x hx hw=>Vo hx hw),rfl,by have:=Wq haK;simp only[Qx];omega⟩,?_⟩
   rintro m σ H4 ⟨F,W,z5,z6,rfl,s4,hfd4,hwl4,hW,hcl,hm,hw5⟩;refine⟨_,rfl,.ref wl,_,rfl,.inl ⟨_,SqL.of hwl4,rfl⟩,_,_,rfl,rfl,_,rfl,?_⟩;rcases WA W with rfl | ⟨r0,here,rfl⟩
   ·exact Yu (by decide) (hR _ _ ⟨F,z5,z6,rfl,s4,hfd4,hW,fun x hx=>hcl x hx (fun z=>by grind)⟩)
   rw[WH]at *;refine Xm (Vq (by simp)) ?_;have hhF:here∈F:=hW.sub here (by simp);have hhK:=hW.inn here hhF;rw[Qh,Qx]at hm;refine⟨fun σ' H'=>∃ m',m'<m/\∃ (F W:Vd Vl) (z5 z6:Vj V),σ'=[some (.ref q),some (.ref d),some (.str (bg e.1)),some (.ref fd),some (.ref wl),z5,z6]/\Same H1 H'/\H' fd=some (.dK (bD F))/\H' wl=some (.lst (W.map V.str))/\Wk es (bg e.1) ks F W/\(∀ x∈F,x∉W->∀ y,Adj es x y->y∈F)/\m'=2*(ks.length-F.length)+W.length/\m'<=2*ks.length,fun _ _ z=>z,?_⟩;refine⟨_,rfl,.inl ⟨rfl,_,SqL.of hwl4⟩,wl,_,V.str here,rfl,rfl,hwl4,by simp,?_⟩;rw[show((r0++[here]).map V.str).dropLast=r0.map V.str by rw[QJ,Wm,UI]];have s5:Same H1 (upd H4 wl (.lst (r0.map V.str))):=shW _ s4;have hwl5:(upd H4 wl (.lst (r0.map V.str))) wl=some (.lst (r0.map V.str)):=Zc;have hfd5:(upd H4 wl (.lst (r0.map V.str))) fd=some (.dK (bD F)):=by rw[Zf (Vy hne)];exact hfd4
   generalize upd H4 wl (.lst (r0.map V.str))=H5 at s5 hwl5 hfd5;refine⟨_,rfl,_,rfl,d,.ref (adr here),rfl,.inl ⟨_,Vn here,.inl (s5 _ _ J.dd),rfl,by rw[Jf,Vf hhK]⟩,adr here,rfl,⟨_,SqL.of (s5 _ _ (J.row here hhK))⟩,?_⟩;refine Zba (K:=K) (a:=adr here) (xs:=(r here).map V.str) (fun j σ' H'=>∃ (F W:Vd Vl) (z6:Vj V),σ'=[some (.ref q),some (.ref d),some (.str (bg e.1)),some (.ref fd),some (.ref wl),some (.str here),z6]/\Same H1 H'/\H' fd=some (.dK (bD F))/\H' wl=some (.lst (W.map V.str))/\Wk es (bg e.1) ks F W/\(∀ x∈F,x∉W->x≠here->∀ y,Adj es x y->y∈F)/\(∀ y∈(r here).take j,y∈F)/\2*(ks.length-F.length)+W.length+1<=m)
    ⟨F,r0,z6,rfl,s5,hfd5,hwl5,⟨hW.nd,hW.fst,hW.rch,fun x hx=>hW.sub x (QI _ hx),hW.inn⟩,fun x hx h1 h2=>hcl x hx (fun z=>by rcases QD.mp z with z | z;exact h1 z;exact h2 (Qo.mp z)),(fun y hy=>by rw[Uu]at hy;cases hy),by lia⟩
    (fun i σ' H' _ ⟨_,_,_,_,s6,_⟩=>SqL.of (s6 _ _ (J.row here hhK))) ?_ ?_
   ·rintro j x σ' H6 hj ⟨F6,W6,z6',rfl,s6,hfd6,hwl6,hW6,hcl6,hin6,hm6⟩;rw[Qi]at hj;obtain⟨y,hy,rfl⟩:=Wp.mp hj;have hya:Adj es here y:=(hadj here y).mp (Q3 hy);have hyK:y∈ks:=by
     obtain⟨e',he',q'⟩:=hya;rcases q' with ⟨_,q'⟩ | ⟨_,q'⟩
     ·exact(hk.mem y).mpr ⟨e',he',.inr q'⟩
     ·exact(hk.mem y).mpr ⟨e',he',.inl q'⟩
    have htk:(r here).take (j+1)=(r here).take j++[y]:=by
     rw[Rq,hy];rfl
    have hle6:=hW6.le;refine⟨_,rfl,_,rfl,fd,XF (bD F6) (Vn y),rfl,.inl ⟨_,Vn y,.inl hfd6,rfl,rfl⟩,?_⟩;rw[Zce];by_cases c:y∈F6
    ·rw[Vf c];refine⟨_,rfl,Yu rfl ⟨F6,W6,_,rfl,s6,hfd6,hwl6,hW6,hcl6,fun y' hy'=>?_,hm6⟩⟩;rw[htk]at hy';rcases QD.mp hy' with z | z
     ·exact hin6 y' z
     ·rw[Qo.mp z];exact c
    ·rw[if_neg c];have hW7:Wk es (bg e.1) ks (F6++[y]) (W6++[y]):=⟨Wx.mpr ⟨hW6.nd,by simp,fun a ha b hb e=>by rw[Qo.mp hb]at e;subst e;exact c ha⟩,QI _ hW6.fst,(fun x hx=>by
       rcases QD.mp hx with z | z
       ·exact hW6.rch x z
       ·rw[Qo.mp z];exact .step (hW.rch here hhF) hya),(fun x hx=>by
       rcases QD.mp hx with z | z
       ·exact QI _ (hW6.sub x z)
       ·rw[Qo.mp z];simp),fun x hx=>by
       rcases QD.mp hx with z | z
       ·exact hW6.inn x z
       ·rw[Qo.mp z];exact hyK⟩
     have hlt:F6.length+1<=ks.length:=by
      have:=hW7.le;rw[Qh,Qx]at this;exact this
     refine⟨_,rfl,Xm rfl ⟨_,rfl,_,rfl,fd,_,rfl,DPut.kk (k:=Vn y) hfd6 (by rw[Zab];exact Zv (by lia)),?_⟩⟩;rw[Zcf,show Yi F6 y=F6++[y]by unfold Yi;rw[if_neg c]];have s7:Same H1 (upd H6 fd (.dK (bD (F6++[y])))):=shF _ s6;have hfd7:(upd H6 fd (.dK (bD (F6++[y])))) fd=some (.dK (bD (F6++[y]))):=Zc;have hwl7:(upd H6 fd (.dK (bD (F6++[y])))) wl=some (.lst (W6.map V.str)):=by rw[Zf hne];exact hwl6
     generalize upd H6 fd (.dK (bD (F6++[y])))=H7 at s7 hfd7 hwl7;refine⟨_,rfl,.inl ⟨rfl,_,SqL.of hwl7⟩,_,rfl,wl,_,.str y,rfl,rfl,hwl7,by rw[Qd];exact Zfi (by lia),?_⟩;refine⟨F6++[y],W6++[y],_,rfl,shW _ s7,by rw[Zf (Vy hne)];exact hfd7,by rw[Zc,QJ,Wm],hW7,fun x hx hxw hxh y' hy'=>?_,fun y' hy'=>?_,by rw[Qh,Qh,Qx];lia⟩
     ·rcases QD.mp hx with z | z
      ·exact QI _ (hcl6 x z (fun q=>hxw (QI _ q)) hxh y' hy')
      ·exact Vo (QF _ z) hxw
     ·rw[htk]at hy';rcases QD.mp hy' with z | z
      ·exact QI _ (hin6 y' z)
      ·exact QF _ z
   ·rintro σ' H6 ⟨F6,W6,z6',rfl,s6,hfd6,hwl6,hW6,hcl6,hin6,hm6⟩;rw[Qd,Q5]at hin6;refine⟨_,?_,F6,W6,_,_,rfl,s6,hfd6,hwl6,hW6,fun x hx hxw y hxy=>?_,rfl,?_⟩
    ·exact hm6
    ·by_cases c:x=here
     ·subst c;exact hin6 y ((hadj x y).mpr hxy)
     ·exact hcl6 x hx hxw c y hxy
    ·exact Ky hw5 hm6
  ·rintro σ H4 ⟨F,z5,z6,rfl,s4,hfd4,hW,hcl⟩;have hle:=hW.le;refine⟨_,rfl,fd,F,fun _=>.bl true,rfl,hfd4,by lia,fun p ss hp hpm hsrt=>?_⟩;refine⟨p,_,rfl,.inl ⟨SqL.of Zc,fun l hl=>?_⟩⟩;refine k (.ref l) _ ss (((J.sm.trans s4).trans (Zb hp)).trans (Zb hl)) ⟨l,rfl,Zc⟩ (ZdR (hpm.nodup_iff.mpr hW.nd) hsrt) (by rw[hpm.length_eq];lia) fun x=>?_;rw[hpm.mem_iff];exact⟨hW.rch x,fun z=>Rch.closed hW.fst hcl z⟩
end
theorem Zes {F:Vd Vl}:∀ {ks:Vd Vl},F.Nodup->(∀ x∈F,x∈ks)->F.length<=ks.length:=by
 induction F with
 | nil=>simp
 | cons x F ih =>
  intro ks h1 h2;have nd':=QU.mp h1;have hx:=h2 x Qj ..;have:=ih nd'.2 fun y hy=>(WT fun(q:y=x)=>nd'.1 (q▸hy)).mpr (h2 y (Qk _ hy));rw[Wi hx]at this;have hpos:=Wq hx;rw[QC];exact Dc hpos this
theorem ZlR {F ks:Vd Vl} (h1:F.Nodup) (h2:∀ x∈F,x∈ks) (he:F.length=ks.length):∀ x∈ks,x∈F:=by
 intro x hx;apply VP;intro hn;have:=Zes h1 fun y hy=>(WT fun(q:y=x)=>hn (q▸hy)).mpr (h2 y hy);rw[Wi hx]at this;have hpos:=Wq hx;exact (Ku this hpos he).elim
theorem Zh1 {ss:Vd Vl} (h:(ss.map fun x=>x.cps.toList).Pairwise (· < ·)):ss.Nodup:=by
 rw[Wr]at h;refine h.imp fun {a b} q e=>?_;subst e;exact Ue _ q
theorem Rch.pt {es:Es} (h:Rch (e::es) (bg e.1) x):∃ e'∈e::es,bg e'.1=x\/en e'.1=x:=by
 cases h with
 | here=>simp
 | step _ k =>
  obtain⟨e',he,⟨_,q⟩ | ⟨_,q⟩⟩:=k;exact⟨e',he,.inr q⟩;exact⟨e',he,.inl q⟩
theorem Zip {es:Es} {ss pp:Vd Vl} (n1:ss.Nodup) (h1:∀ x,x∈ss↔Rch (e::es) (bg e.1) x) (n2:pp.Nodup) (h2:∀ x,x∈pp↔∃ e'∈e::es,bg e'.1=x\/en e'.1=x) :
  ss.length=pp.length↔∀ e'∈e::es,Rch (e::es) (bg e.1) (bg e'.1):=by
 have sub:=fun x hx=>(h2 x).mpr ((h1 x).mp hx).pt;constructor;intro he e' he';exact(h1 _).mp (ZlR n1 sub he _ ((h2 _).mpr ⟨e',he',.inl rfl⟩));intro h;have:∀ x∈pp,x∈ss:=fun x hx=>by
  obtain⟨e',he',q | q⟩:=(h2 x).mp hx;exact q▸(h1 _).mpr (h e' he');exact(h1 _).mpr (.step (h e' he') ⟨e',he',.inl ⟨rfl,q⟩⟩)
 have a:=Zes n1 sub;have b:=Zes n2 this;exact Sx a b
section
variable {P:Oh} {w:Oi} {K:Ve} {mg:Vl->Vj Vi} {base:Vz}
abbrev Zft:V7:=top 14
abbrev ZlX:Vd Vl:=["H"]
theorem ZjW:Zo ZlX ["H"] (Zh Zft):=⟨rfl,rfl,rfl,by simp,rfl,by decide +kernel,by decide +kernel⟩
def Zff:Sp:=fun vs H Q _=>∃ (v:V) (e:Vl×Vs) (es:Es),vs=[v]/\HeapV H v (e::es)/\ZiH (e::es)/\∀ H' (b:V0),Same H H'->(b=true↔∀ e'∈e::es,Rch (e::es) (bg e.1) (bg e'.1))->Q (.bl b) H'
theorem ZhZ (D:HasDef K mg "hangs" Zft ["H"]) (B:Blt mg) (g24_:FOk P w K mg base 3 "part_of" ["H"] ZiO) (g25_:FOk P w K mg base 3 "points_of" ["H"] Zdt):FOk P w K mg base 4 "hangs" ["H"] Zff:=by
 refine D.ok ZjW (fun vs H Q E h=>?_) fun f cdv A outer s H vs Q E hr h=>?_;obtain⟨v,e,es,rfl,_⟩:=h;rfl;obtain⟨v,e,es,rfl,hV,hF,k⟩:=h;refine⟨_,Zi (Zq (JE Zf0 (Zk Zn rfl B.len ZQ (Za (ZC g24_ hr (Za (pv 0) Ze)) Ze)) (Zk Zn rfl B.len ZQ (Za (ZC g25_ hr (Za (pv 0) Ze)) Ze)) (ZA _))),⟨_,rfl,v,e,es,rfl,hV,hF,fun v1 H1 ss s1 ht1 hs1 hl1 hm1=>?_⟩⟩;obtain⟨q1,rfl,hq1⟩:=id ht1;refine⟨_,ss.length,rfl,.inr ⟨_,SqT.of hq1,by simp⟩,_,rfl,v,_,rfl,hV.same s1,hF,fun v2 H2 pp s2 ht2 hp2=>?_⟩;obtain⟨q2,rfl,hq2⟩:=id ht2;refine⟨_,pp.length,rfl,.inr ⟨_,SqT.of hq2,by simp⟩,⟨rfl,k _ _ (s1.trans s2) ?_⟩⟩;rw[Zc3,←Zip (Zh1 hs1) hm1 hp2.pts.nd hp2.pts.mem,TM];lia
end
noncomputable abbrev nV (i:Vg):V:=V.int (i:Vs)
def ZnK (H:Hp) (b:Vk) (t:Vl×Vl):Prop:=∃ s:Vl,H b=some (.tup [.str t.1,.str s,.str t.2])
def TyA (H:Hp) (vs:Vd V) (ts:Ts):Prop:=vs.length=ts.length/\∀ (i:Vg) (t:Vl×Vl),ts[i]?=some t->∃ b,vs[i]?=some (.ref b)/\ZnK H b t
def TiesV (H:Hp) (v:V) (ts:Ts):Prop:=∃ a vs,v= .ref a/\SeqAt' H a vs/\TyA H vs ts
theorem TyA.same (h:TyA H vs ts) (s:Same H H'):TyA H' vs ts:=⟨h.1,fun i t e=>by
 obtain⟨b,e1,m,e2⟩:=h.2 i t e;exact⟨b,e1,m,s _ _ e2⟩⟩
theorem TiesV.same (h:TiesV H v ts) (s:Same H H'):TiesV H' v ts:=by
 obtain⟨a,vs,e,h1,h2⟩:=h;exact⟨a,vs,e,h1.same s,h2.same s⟩
theorem TyA.at (h:TyA H vs ts) (hi:i<ts.length):∃ b s,atI vs i=some (.ref b)/\H b=some (.tup [.str (frm ts i),.str s,.str (tow ts i)]):=by
 obtain⟨b,e1,s,_⟩:=h.2 i _ (Qa hi);refine⟨b,s,YW e1,?_⟩;unfold frm tow
 grind
theorem Zhg {v:V}:atI (xs++[v]) (-1)=some v:=by
 unfold atI ixN;rw[if_neg (by decide),Vf (by rw[Qh,Qx];exact Eg)];simp only[Rx,Qh,Qx];rw[show((-1)+((xs.length+1:Vg):Vs)).toNat=xs.length by exact Eh];simp
structure NJ (H H2:Hp) (d:Vk) (ks:Vd Vl) (adr:Vl->Vk) (r:Vl->Vd Vg):Prop where
 sm:Same H H2
 dn:H d=none
 dd:H2 d=some (.dK (rD ks adr))
 nd:ks.Nodup
 row:∀ P∈ks,H2 (adr P)=some (.lst ((r P).map nV))
 fresh:∀ P∈ks,H (adr P)=none
 inj:∀ P∈ks,∀ P'∈ks,adr P=adr P'->P=P'
 out:∀ P,P∉ks->r P=[]
noncomputable def Zjv (r:Vl->Vd Vg) (P:Vl) (y:Vg):Vl->Vd Vg:=fun x=>if x=P then r P++[y]else r x
theorem NJ.ne (J:NJ H H2 d ks adr r) (hP:P∈ks):adr P≠d:=fun e=>by
 have:=J.row P hP;rw[e,J.dd]at this
 simp_all
theorem NJ.old (J:NJ H H2 d ks adr r) (hP:P∈ks) (hp:H2 p=none) :
  NJ H (upd (upd H2 p (.lst [])) (adr P) (.lst ((r P).map nV++[nV y]))) d (Yi ks P) adr (Zjv r P y):=by
 have ek:Yi ks P=ks:=by unfold Yi;rw[Vf hP]
 rw[ek];have s1:=Zb (o:=.lst []) hp;refine⟨fun b u hb=>?_,J.dn,?_,J.nd,fun Q hQ=>?_,J.fresh,J.inj,fun Q hQ=>?_⟩;rw[Zf fun e=>by rw[e,J.fresh P hP]at hb;grind];exact s1 _ _ (J.sm b u hb);exact Zf (Vy (J.ne hP))▸s1 _ _ J.dd;unfold Zjv;by_cases c:Q=P
 subst c;rw[Zc,Vf rfl,QJ];rfl;rw[if_neg c,Zf fun e=>c (J.inj Q hQ P hP e)];exact s1 _ _ (J.row Q hQ);unfold Zjv;rw[if_neg fun e:Q=P=>hQ (e▸hP)];exact J.out Q hQ
theorem NJ.new (J:NJ H H2 d ks adr r) (hP:P∉ks) (hp:H2 p=none) :
  NJ H (upd (upd (upd H2 p (.lst [])) d (.dK (rD (ks++[P]) fun x=>if x=P then p else adr x))) p (.lst ([]++[nV y]))) d (Yi ks P) (fun x=>if x=P then p else adr x) (Zjv r P y):=by
 have ek:Yi ks P=ks++[P]:=by unfold Yi;rw[if_neg hP]
 rw[ek];have hpd:d≠p:=fun e=>by rw[←e,J.dd]at hp;grind
 have hpa:∀ Q∈ks,adr Q≠p:=fun Q hQ e=>by have:=J.row Q hQ;simp_all
 have mm:∀ Q,Q∈ks++[P]->Q∈ks\/Q=P:=fun Q h=>by simp_all
 refine⟨fun b u hb=>?_,J.dn,?_,?_,fun Q hQ=>?_,fun Q hQ=>?_,fun Q hQ Q' hQ' e=>?_,fun Q hQ=>?_⟩
 ·have h2:=J.sm b u hb;rw[Zf (Zg h2 hp),Zf (Zg hb J.dn),Zf (Zg h2 hp)];omega
 ·rw[Zf hpd,Zc]
 ·exact Wx.mpr ⟨J.nd,by simp,fun a ha b hb e=>by simp_all⟩
 ·unfold Zjv;by_cases c:Q=P
  ·subst c;rw[Vf rfl,Vf rfl,Zc,J.out Q hP];rfl
  ·rw[if_neg c,if_neg c];have hQ':=(mm Q hQ).resolve_right c;rw[Zf (hpa Q hQ'),Zf (J.ne hQ'),Zf (hpa Q hQ')];exact J.row Q hQ'
 ·by_cases c:Q=P
  ·rw[Vf c];cases hh:H p with
   | none=>rfl
   | some u=>have:=J.sm p u hh;rw[hp]at this;cases this
  ·rw[if_neg c];exact J.fresh Q ((mm Q hQ).resolve_right c)
 ·by_cases c:Q=P
  ·by_cases c':Q'=P
   ·simp_all
   ·rw[Vf c,if_neg c']at e;exact Vo e.symm (hpa Q' ((mm Q' hQ').resolve_right c'))
  ·by_cases c':Q'=P
   ·simp_all
   ·rw[if_neg c,if_neg c']at e;exact J.inj Q ((mm Q hQ).resolve_right c) Q' ((mm Q' hQ').resolve_right c') e
 ·have h1:=fun z=>hQ (QI _ z);have h2:¬ Q=P:=fun z=>hQ (by simp[z]);unfold Zjv;rw[if_neg h2];exact J.out Q h1
def NoR (H:Hp) (v:V) (d:Vk) (ts:Ts) (j:Vg):L2.St->Hp->Prop:=fun σ H2=>(∃ z2:Vj V,σ=[some v,some (.ref d),z2])/\∃ ks adr r,NJ H H2 d ks adr r/\ks.length<=j/\∀ P,r P=((UO (ts.length-j) j).filter fun i=>decide (frm ts i=P)).reverse
section
variable {P:Oh} {w:Oi} {K:Ve} {mg:Vl->Vj Vi} {base:Vz}
abbrev Xw:V7:=top 16
noncomputable abbrev ZcR:Vd Vl:=["ties","numbers","number"]
theorem scNumbersOut:Zo ZcR ["ties"] (Zh Xw):=⟨rfl,rfl,rfl,by decide +kernel,rfl,by decide +kernel,by decide +kernel⟩
def Zlp:Sp:=fun vs H Q _=>∃ (v:V) (ts:Ts),vs=[v]/\TiesV H v ts/\ts.length<=400/\∀ d H' ks adr,NJ H H' d ks adr (rows ts)->Q (.ref d) H'
theorem Zag (D:HasDef K mg "numbers_out" Xw ["ties"]) (B:Blt mg):FOk P w K mg base 1 "numbers_out" ["ties"] Zlp:=by
 refine D.ok scNumbersOut (fun vs H Q E h=>?_) (fun f cdv A outer s H vs Q E hr h=>?_)
 ·obtain⟨v,ts,rfl,_⟩:=h;rfl
 ·obtain⟨v,ts,rfl,hV,hlen,k⟩:=h;obtain⟨a,vs,rfl,hs,hty⟩:=id hV;refine⟨_,(Zd (Zm (i:=1) scNumbersOut.nd rfl (.inl rfl) XM)
   (Zd (Z8 Vr rfl (ZfM rfl B.range (Za (Zp Yy (Zk Zn rfl B.len ZQ (Za (pv 0) Ze)) Zj) (Za (Jh YX Zj) (Za (Jh YX Zj) Ze)))) (Zx (i:=2) scNumbersOut.nd rfl (.inl rfl))
    (Zi (ZX (XN F.plainAttrs_list F.slot_list_append F.type_list_append Ya (ZcH (pv 1) (ZB ix_tup (ZB (JP K) (pv 0) (pv 2) (fun _ _=>rfl)) Zj (fun _ _=>rfl)) (ZD Ze) ⟨rfl,rfl,rfl,rfl⟩) (Za (pv 2) Ze)))))
   (Zi (Zq (pv 1))))),?_⟩
  intro d hd;have s1:=Zb (o:=.dK []) hd;have hvl:=hty.1;refine⟨_,rfl,.ref a,_,rfl,Zgr (hs.same s1),_,_,rfl,rfl,_,rfl,_,rfl,_,_,rfl,⟨by lia,by lia,by decide,by decide⟩,?_⟩;rw[show((vs.length:Vs)-1-(-1)).toNat=ts.length by lia];refine ZeE (fun j σ H2=>NoR H (.ref a) d ts j σ H2) ⟨⟨none,rfl⟩,[],fun _=>d,fun _=>[],⟨s1,hd,Zc,Uh,(fun P h=>by cases h),(fun P h=>by omega),(fun P h=>by simp),fun _ _=>rfl⟩,Qg _,fun P=>by simp⟩ ?_ ?_
  ·rintro j σ H2 hj ⟨⟨z2,rfl⟩,ks,adr,r,J,hkl,hr2⟩;have hi:ts.length-1-j<ts.length:=by omega
   obtain⟨b,sg,e1,e2⟩:=hty.at hi;have ej:((vs.length:Vs)-1-(j:Vs))=((ts.length-1-j:Vg):Vs):=by omega
   have hrl:∀ P,(r P).length<=j:=fun P=>by
    rw[hr2,Ul];have:=UD (fun i=>decide (frm ts i=P)) (UO (ts.length-j) j);rw[List.length_range']at this;exact this
   have eR:UO (ts.length-(j+1)) (j+1)=(ts.length-1-j)::UO (ts.length-j) j:=by
    rw[List.range'_succ,show ts.length-(j+1)=ts.length-1-j by lia,show ts.length-1-j+1=ts.length-j by lia]
   have fin:∀ H4 adr4,NJ H H4 d (Yi ks (frm ts (ts.length-1-j))) adr4 (Zjv r (frm ts (ts.length-1-j)) (ts.length-1-j))->NoR H (.ref a) d ts (j+1) [some (.ref a),some (.ref d),some (.int ((vs.length:Vs)-1-(j:Vs)))] H4:=fun H4 adr4 J4=>by
    refine⟨⟨_,rfl⟩,_,adr4,_,J4,?_,fun P=>?_⟩
    ·have:=YD ks (frm ts (ts.length-1-j));exact F1 hkl this
    ·rw[eR,Wf];unfold Zjv;by_cases c:P=frm ts (ts.length-1-j)
     ·rw[Vf c,Vf (Vq c.symm),UW,←c,hr2]
     ·rw[if_neg c,if_neg (fun z=>c (V4 z).symm),hr2]
   refine⟨_,rfl,d,rfl,.inl ⟨_,.inl J.dd⟩,_,rfl,_,rfl,?_⟩;rw[ej];refine Zbw ((hs.same J.sm)) e1 ⟨b,_,0,.str (frm ts (ts.length-1-j)),rfl,rfl,SqT.of (J.sm _ _ e2),rfl,Zl (show 0<=1000 by decide),fun p hp=>?_⟩;rw[←ej];refine⟨_,Vn (frm ts (ts.length-1-j)),Zb hp _ _ J.dd,rfl,by rw[ZfF];exact Zv (F4 ej hlen hkl hvl),fun v hv=>?_,fun hv=>?_⟩
   ·rw[Jf]at hv;by_cases c:frm ts (ts.length-1-j)∈ks
    ·rw[Vf c]at hv;cases hv;have hrow:=Zb (o:=.lst []) hp _ _ (J.row _ c);refine⟨.inl ⟨rfl,_,SqL.of hrow⟩,_,rfl,adr _,_,.int ((vs.length:Vs)-1-(j:Vs)),rfl,rfl,hrow,?_,?_⟩
     ·rw[Qd];have:=hrl (frm ts (ts.length-1-j));exact Zv (F4 ej hlen this hvl)
     ·have:=fin _ _ (J.old (y:=ts.length-1-j) c hp);rw[ej]at this ⊢
      simp_all
    ·rw[if_neg c]at hv;cases hv
   ·rw[Jf]at hv;by_cases c:frm ts (ts.length-1-j)∈ks
    ·rw[Vf c]at hv;cases hv
    ·have hpd:p≠d:=fun e=>by rw[e,J.dd]at hp;cases hp
     rw[ZiZ c];have hl:(upd (upd H2 p (.lst [])) d (.dK (rD (ks++[frm ts (ts.length-1-j)]) fun x=>if x=frm ts (ts.length-1-j)then p else adr x))) p=some (.lst []):=by rw[Zf hpd,Zc]
     refine⟨.inl ⟨rfl,_,SqL.of hl⟩,_,rfl,p,[],.int ((vs.length:Vs)-1-(j:Vs)),rfl,rfl,hl,Zv (by decide),?_⟩;have:=fin _ _ (J.new (y:=ts.length-1-j) c hp);rw[ej]at this ⊢;exact this
  ·rintro σ H2 ⟨⟨z2,rfl⟩,ks,adr,r,J,hkl,hr2⟩;have er:r=rows ts:=funext fun P=>by
    rw[hr2,Wv];unfold rows;rw[List.range_eq_range']
   rw[er]at J;exact⟨_,rfl,k d H2 ks adr J⟩
def ZmG (H:Hp) (v:V) (X:Vd Vg):Prop:=∃ q,v= .ref q/\H q=some (.tup (X.map nV))
theorem Zjs:∀ {Y X},(∃ v,Ch ts u (X++Y) v)->∃ v,Ch ts u X v
 | [],X,h=>by simp_all
 | y::Y,X,h=>by
  rw[show X++y::Y=X++[y]++Y by simp]at h;obtain⟨v,h⟩:=Zjs h;exact⟨_,h.pop.1⟩
theorem Ch.det {u v w} (h:Ch ts u X v) (h':Ch ts u X w):v=w:=by
 induction h with
 | nil u=>cases h';rfl
 | cons e h ih=>cases h' with | cons e' h'=>simp_all
abbrev Zfs:V7:=top 17
noncomputable abbrev ZlW:Vd Vl:=["ties","begin","numbers","point","number"]
theorem scIsWay:Zo ZlW ["ties","begin","numbers"] (Zh Zfs):=⟨rfl,rfl,rfl,by decide +kernel,rfl,by decide +kernel,by decide +kernel⟩
def Zfd:Sp:=fun vs H Q _=>∃ (v x:V) (b:Vl) (ts:Ts) (X:Vd Vg),vs=[v,.str b,x]/\TiesV H v ts/\ZmG H x X/\(∀ i∈X,i<ts.length)/\∀ c:V0,(c=true↔X.length=ts.length/\∃ f,Ch ts b X f)->Q (.bl c) H
theorem Zf6 (D:HasDef K mg "is_way" Zfs ["ties","begin","numbers"]) (B:Blt mg):FOk P w K mg base 1 "is_way" ["ties","begin","numbers"] Zfd:=by
 refine D.ok scIsWay (fun vs H Q E h=>?_) (fun f cdv A outer s H vs Q E hr h=>?_)
 ·obtain⟨v,x,b,ts,X,rfl,_⟩:=h;rfl
 ·obtain⟨v,x,b,ts,X,rfl,⟨a,vs,rfl,hs,hty⟩,⟨q,rfl,hq⟩,hX,k⟩:=h;refine⟨_,(Zd (Yg (Zw Zel (Zk Zn rfl B.len ZQ (Za (pv 2) Ze)) (Zk Zn rfl B.len ZQ (Za (pv 0) Ze)) (ZA _)) (Zi (Zq YN)) ZF)
   (Zd (Zm (i:=3) scIsWay.nd rfl (.inl rfl) (pv 1))
   (Zd (Z8 Vr rfl (Y3 (pv 2)) (Zx (i:=4) scIsWay.nd rfl (.inl rfl))
    (Zd (Yg (Zw Zel (ZB ix_tup (ZB (JP K) (pv 0) (pv 4) (fun _ _=>rfl)) Zj (fun _ _=>rfl)) (pv 3) (ZA _)) (Zi (Zq YN)) ZF)
   (Zi (Zm (i:=3) scIsWay.nd rfl (.inl rfl) (ZB ix_tup (ZB (JP K) (pv 0) (pv 4) (fun _ _=>rfl)) Zj (fun _ _=>rfl))))))
   (Zi (Zq YN))))),?_⟩
  refine⟨_,rfl,.ref q,_,rfl,.inr ⟨_,SqT.of hq,rfl⟩,_,rfl,.ref a,_,rfl,Zgr hs,rfl,_,rfl,?_⟩;rw[Qd,hty.1];by_cases cl:X.length=ts.length
  ·refine Yu (by rw[Zmn (by omega)];rfl) ?_;refine⟨_,rfl,_,rfl,q,rfl,⟨_,SqT.of hq⟩,XC (K:=K) (a:=q) (xs:=X.map nV) (fun i σ H2=>(∃ (pt:Vl) (z:Vj V),σ=[some (.ref a),some (.str b),some (.ref q),some (.str pt),z]/\Ch ts b (X.take i) pt)/\H2=H)
    ⟨⟨b,none,rfl,.nil _⟩,rfl⟩ (fun i σ H2 _ ⟨_,e⟩=>by rw[e];exact SqT.of hq) ?_ ?_⟩
   ·rintro i x σ H2 hi ⟨⟨pt,z,rfl,hc⟩,rfl⟩;obtain⟨hi',rfl⟩:=Zbo hi;have hin:=hX X[i] (QG hi');obtain⟨b0,sg,e1,e2⟩:=hty.at hin;have etk:X.take (i+1)=X.take i++[X[i]]:=QN hi';refine⟨_,rfl,_,rfl,Zbw hs e1 ⟨b0,_,0,.str (frm ts X[i]),rfl,rfl,SqT.of e2,rfl,_,rfl,rfl,_,rfl,?_⟩⟩;by_cases cf:frm ts X[i]=pt
    ·refine Yu (by rw[cf];simp) ?_;refine⟨_,rfl,_,rfl,Zbw hs e1 ⟨b0,_,2,.str (tow ts X[i]),rfl,rfl,SqT.of e2,rfl,?_⟩⟩;exact⟨⟨tow ts X[i],_,rfl,by rw[etk];exact hc.snoc cf⟩,rfl⟩
    ·refine Xm (by simp[cf]) (k false ⟨fun z=>(by grind),fun z=>?_⟩);obtain⟨_,f,hf⟩:=z;have:=Zjs (ts:=ts) (u:=b) (X:=X.take (i+1)) (Y:=X.drop (i+1)) ⟨f,by rw[Wd];omega⟩;obtain⟨f',hf'⟩:=this;rw[etk]at hf';exact Vo (hf'.pop.1.det hc) cf
   ·rintro σ H2 ⟨⟨pt,z,rfl,hc⟩,rfl⟩;rw[Qd,Q5]at hc;exact k true ⟨fun _=>⟨cl,pt,hc⟩,fun _=>rfl⟩
  ·refine Xm (by rw[Zmm (by omega)];rfl) (k false ⟨fun z=>(by grind),fun z=>Vo z.1 cl⟩)
end
structure WJ (H:Hp) (d g bk:Vk) (ks:Vd Vl) (adr:Vl->Vk) (H4:Hp) (r:Vl->Vd Vg) (G B:Vd Vg):Prop where
 sm:Same H H4
 dd:H4 d=some (.dK (rD ks adr))
 row:∀ P∈ks,H4 (adr P)=some (.lst ((r P).map nV))
 gg:H4 g=some (.lst (G.map nV))
 bb:H4 bk=some (.lst (B.map nV))
 gn:H g=none
 bn:H bk=none
 fresh:∀ P∈ks,H (adr P)=none
 inj:∀ P∈ks,∀ P'∈ks,adr P=adr P'->P=P'
 ag:∀ P∈ks,adr P≠g
 ab:∀ P∈ks,adr P≠bk
 gb:g≠bk
 out:∀ P,P∉ks->r P=[]
theorem WJ.same (J:WJ H d g bk ks adr H4 r G B) (s:Same H4 H5):WJ H d g bk ks adr H5 r G B where
 sm:=J.sm.trans s
 dd:=s _ _ J.dd
 row:=fun P hP=>s _ _ (J.row P hP)
 gg:=s _ _ J.gg
 bb:=s _ _ J.bb
 gn:=J.gn
 bn:=J.bn
 fresh:=J.fresh
 inj:=J.inj
 ag:=J.ag
 ab:=J.ab
 gb:=J.gb
 out:=J.out
theorem WJ.setRow (J:WJ H d g bk ks adr H4 r G B) (hp:pt∈ks):WJ H d g bk ks adr (upd H4 (adr pt) (.lst (X.map nV))) (Zhk r pt X) G B where
 sm:=fun b u hb=>by
  exact Zf (Zg hb (J.fresh pt hp))▸J.sm b u hb
 dd:=by
  exact Zf (ZcP J.dd (J.row pt hp) (by simp))▸J.dd
 row:=fun P hP=>by
  unfold Zhk;by_cases c:P=pt
  subst c;rw[Vf rfl,Zc];rw[if_neg c,Zf fun e=>c (J.inj P hP pt hp e)];exact J.row P hP
 gg:=by
  exact Zf (Vy (J.ag pt hp))▸J.gg
 bb:=by
  exact Zf (Vy (J.ab pt hp))▸J.bb
 gn:=J.gn
 bn:=J.bn
 fresh:=J.fresh
 inj:=J.inj
 ag:=J.ag
 ab:=J.ab
 gb:=J.gb
 out:=fun P hP=>by
  unfold Zhk;rw[if_neg fun e:P=pt=>hP (e▸hp)];exact J.out P hP
theorem WJ.setG (J:WJ H d g bk ks adr H4 r G B):WJ H d g bk ks adr (upd H4 g (.lst (X.map nV))) r X B where
 sm:=fun b u hb=>by
  exact Zf (Zg hb J.gn)▸J.sm b u hb
 dd:=by
  exact Zf (ZcP J.dd J.gg (by simp))▸J.dd
 row:=fun P hP=>by
  exact Zf (J.ag P hP)▸J.row P hP
 gg:=Zc
 bb:=by
  exact Zf (Vy J.gb)▸J.bb
 gn:=J.gn
 bn:=J.bn
 fresh:=J.fresh
 inj:=J.inj
 ag:=J.ag
 ab:=J.ab
 gb:=J.gb
 out:=J.out
theorem WJ.setB (J:WJ H d g bk ks adr H4 r G B):WJ H d g bk ks adr (upd H4 bk (.lst (X.map nV))) r G X where
 sm:=fun b u hb=>by
  exact Zf (Zg hb J.bn)▸J.sm b u hb
 dd:=by
  exact Zf (ZcP J.dd J.bb (by simp))▸J.dd
 row:=fun P hP=>by
  exact Zf (J.ab P hP)▸J.row P hP
 gg:=by
  exact Zf J.gb▸J.gg
 bb:=Zc
 gn:=J.gn
 bn:=J.bn
 fresh:=J.fresh
 inj:=J.inj
 ag:=J.ag
 ab:=J.ab
 gb:=J.gb
 out:=J.out
theorem WJ.got (J:WJ H d g bk ks adr H4 r G B) (pt) (hp:H4 p=none):∃ l,(XF (rD ks adr) (Vn pt)).getD (.ref p)= .ref l/\(upd H4 p (.lst [])) l=some (.lst ((r pt).map nV)):=by
 rw[Jf];by_cases c:pt∈ks
 exact Vf c▸⟨_,rfl,Zb hp _ _ (J.row pt c)⟩;exact if_neg c▸⟨p,rfl,by rw[Zc,J.out pt c];rfl⟩
section
variable {P:Oh} {w:Oi} {K:Ve} {mg:Vl->Vj Vi} {base:Vz}
abbrev Zfp:V7:=top 18
noncomputable abbrev ZlS:Vd Vl:=["ties","begin","left","gone","backwards","point","numbers"]
theorem scWayOf:Zo ZlS ["ties","begin"] (Zh Zfp):=⟨rfl,rfl,rfl,by decide +kernel,rfl,by decide +kernel,by decide +kernel⟩
def Zlo:Sp:=fun vs H Q _=>∃ (v:V) (b:Vl) (ts:Ts),vs=[v,.str b]/\TiesV H v ts/\ts.length<=400/\(Eul ts b (wayX ts b)->∀ x H',Same H H'->ZmG H' x (wayX ts b)->Q x H')/\(¬ Zhl ts b->∀ H',Same H H'->Q .non H')
theorem Zf2 (D:HasDef K mg "way_of" Zfp ["ties","begin"]) (B:Blt mg) (g23_:FOk P w K mg base 1 "numbers_out" ["ties"] Zlp) (g17_:FOk P w K mg base 1 "is_way" ["ties","begin","numbers"] Zfd):FOk P w K mg base 2 "way_of" ["ties","begin"] Zlo:=by
 refine D.ok scWayOf (fun vs H Q E h=>?_) (fun f cdv A outer s H vs Q E hr h=>?_)
 ·obtain⟨v,b,ts,rfl,_⟩:=h;rfl
 ·obtain⟨v,b,ts,rfl,hV,hlen,k1,k2⟩:=h;have hu:=ZbV hr;obtain⟨a,vs,rfl,hs,hty⟩:=id hV;refine⟨_,(Zd (Zm (i:=2) scWayOf.nd rfl (.inl rfl) (ZC g23_ hr (Za (pv 0) Ze)))
   (Zd (Zm (i:=3) scWayOf.nd rfl (.inl rfl) (ZD Ze))
   (Zd (Zm (i:=4) scWayOf.nd rfl (.inl rfl) (ZD Ze))
   (Zd (Zm (i:=5) scWayOf.nd rfl (.inl rfl) (pv 1))
   (Zd (Xe Vr (PW.pt (Zae (Zw ZcJ (Zk Zn rfl B.len ZQ (Za (Xf hu (pv 2) (pv 5) (ZD Ze) ⟨rfl,rfl,rfl,rfl⟩) Ze)) Zj (ZA _)) (JA (Zw ZcJ (Zk Zn rfl B.len ZQ (Za (pv 3) Ze)) Zj (ZA _)))))
    (Zi (Yg (Zw ZcJ (Zk Zn rfl B.len ZQ (Za (Xf hu (pv 2) (pv 5) (ZD Ze) ⟨rfl,rfl,rfl,rfl⟩) Ze)) Zj (ZA _)) (Zd (ZX (XN F.plainAttrs_list F.slot_list_append F.type_list_append Ya (pv 3) (Za (ZfU F.plainAttrs_list F.slot_list_pop F.type_list_pop ZcT (X9 hu (pv 2) (pv 5) (fun _ _=>rfl))) Ze)))
   (Zi (Zm (i:=5) scWayOf.nd rfl (.inl rfl) (ZB ix_tup (ZB (JP K) (pv 0) (ZB ix_list (pv 3) (Jh YX Zj) (fun _ _=>rfl)) (fun _ _=>rfl)) Zj (fun _ _=>rfl))))) (Zd (ZX (XN F.plainAttrs_list F.slot_list_append F.type_list_append Ya (pv 4) (Za (ZfU F.plainAttrs_list F.slot_list_pop F.type_list_pop ZcT (pv 3)) Ze)))
   (Zi (Zm (i:=5) scWayOf.nd rfl (.inl rfl) (ZB ix_tup (ZB (JP K) (pv 0) (ZB ix_list (pv 4) (Jh YX Zj) (fun _ _=>rfl)) (fun _ _=>rfl)) Zj (fun _ _=>rfl))))))))
   (Zd (Zm (i:=6) scWayOf.nd rfl (.inl rfl) (Z4 ZP rfl B.tuple Yt (Za (ZlB (pv 4) (Jh YX Zj)) Ze)))
   (Zd (Yg (Yf (ZC g17_ hr (Za (pv 0) (Za (pv 1) (Za (pv 6) Ze))))) (Zi (Zq (pv 6))) ZF)
   (Zi (Zq YH))))))))),?_⟩
  refine⟨_,rfl,.ref a,ts,rfl,hV,hlen,fun d H1 ks adr J=>?_⟩;refine⟨Zl (show 0<=1000 by decide),fun g hg=>?_⟩;refine⟨Zl (show 0<=1000 by decide),fun bk hbk=>?_⟩;have hgb:g≠bk:=fun e=>by rw[←e,Zc]at hbk;simp_all
  have hbk1:H1 bk=none:=by rw[Zf (Vy hgb)]at hbk;omega
  have W0:WJ H d g bk ks adr (upd (upd H1 g (.lst [])) bk (.lst [])) (rows ts) [] []:=by
   have ss:=(Zb (o:=.lst []) hg).trans (Zb (o:=.lst []) hbk);exact⟨J.sm.trans ss,ss _ _ J.dd,fun P hP=>ss _ _ (J.row P hP),by rw[Zf hgb,Zc];rfl,Zc,J.sm.free hg,J.sm.free hbk1,J.fresh,J.inj,(fun P hP e=>by have:=J.row P hP;simp_all),(fun P hP e=>by have:=J.row P hP;simp_all),hgb,J.out⟩
  generalize upd (upd H1 g (.lst [])) bk (.lst [])=H3 at W0;refine⟨_,rfl,?_⟩
  try dsimp only[Ji]
  show ZeR (Zbm _ _) _ _ _ _;refine YE (fun σ H4=>∃ (pt:Vl) (r:Vl->Vd Vg) (BB:Vd Vg),σ=[some (.ref a),some (.str b),some (.ref d),some (.ref g),some (.ref bk),some (.str pt),none]/\WJ H d g bk ks adr H4 r [] BB/\WI ts b pt r [] BB/\r pt=[]/\BB.reverse=wayX ts b) (fun R hR=>?_) ?_
  ·refine⟨fun m σ H4=>∃ (pt:Vl) (r:Vl->Vd Vg) (G BB:Vd Vg),σ=[some (.ref a),some (.str b),some (.ref d),some (.ref g),some (.ref bk),some (.str pt),none]/\WJ H d g bk ks adr H4 r G BB/\WI ts b pt r G BB/\m=2*(ts.length-(G.length+BB.length))+G.length/\wlk ts m r pt G BB=wlk ts (2*ts.length) (rows ts) b [] [],
    ⟨_,b,rows ts,[],[],rfl,W0,WI.start (Zfz ts) (Zdz ts),rfl,by simp⟩,?_⟩
   rintro m σ H4 ⟨pt,r,G,BB,rfl,J4,hW,hm,hw⟩;have hl4:=hW.len;have hrl:=hW.in_len pt;refine⟨_,rfl,d,rfl,.inl ⟨_,.inl J4.dd⟩,_,rfl,Zl (show 0<=1000 by decide),fun p hp=>?_⟩;have s5:=Zb (o:=.lst []) hp;obtain⟨l,el,hl⟩:=J4.got pt hp;have J5:=J4.same s5;refine⟨_,.inl ⟨_,Vn pt,.inl J5.dd,rfl,rfl⟩,?_⟩;rw[el];generalize upd H4 p (.lst [])=H5 at J5 hl;clear hp s5 el J4 H4;refine⟨.ref l,_,rfl,.inl ⟨_,SqL.of hl,rfl⟩,_,_,rfl,rfl,_,rfl,?_⟩;rw[Qd];rcases WA (r pt)with e0 | ⟨X,i,e0⟩
   ·refine Yu (by rw[e0];simp) ?_;refine⟨_,rfl,.ref g,_,rfl,.inl ⟨_,SqL.of J5.gg,rfl⟩,_,_,rfl,rfl,_,rfl,?_⟩;rw[Qd];rcases WA G with rfl | ⟨X,i,rfl⟩
    ·refine Yu (by simp) (hR _ _ ⟨pt,r,BB,rfl,J5,hW,e0,?_⟩);rw[Zde e0]at hw;unfold wayX;rw[←hw]
    ·rw[WH]at *;refine Xm (by simp) ?_;have hi:i<ts.length:=hW.lt i (by simp);obtain⟨b0,sg,f1,f2⟩:=hty.at hi;rw[Qh,Qx]at hm hl4;refine⟨fun σ' H'=>∃ m',m'<m/\∃ (pt:Vl) (r:Vl->Vd Vg) (G BB:Vd Vg),σ'=[some (.ref a),some (.str b),some (.ref d),some (.ref g),some (.ref bk),some (.str pt),none]/\WJ H d g bk ks adr H' r G BB/\WI ts b pt r G BB/\m'=2*(ts.length-(G.length+BB.length))+G.length/\wlk ts m' r pt G BB=wlk ts (2*ts.length) (rows ts) b [] [],fun _ _ z=>z,?_⟩;refine⟨_,rfl,d,rfl,.inl ⟨_,.inl J5.dd⟩,_,rfl,Zl (show 0<=1000 by decide),fun p hp=>?_⟩;have s5:=Zb (o:=.lst []) hp;obtain⟨l',el,hl'⟩:=J5.got pt hp;have J6:=J5.same s5;refine⟨_,.inl ⟨_,Vn pt,.inl J6.dd,rfl,rfl⟩,?_⟩;rw[el];generalize upd H5 p (.lst [])=H6 at J6 hl';refine⟨.ref l',_,rfl,.inl ⟨_,SqL.of hl',rfl⟩,_,_,rfl,rfl,_,rfl,?_⟩;rw[Qd];refine Yu (by rw[e0];simp) ?_;refine⟨_,rfl,.inl ⟨rfl,_,SqL.of J6.bb⟩,_,rfl,.inl ⟨rfl,_,SqL.of J6.gg⟩,g,_,nV i,rfl,rfl,J6.gg,by simp,?_⟩;rw[show((X++[i]).map nV).dropLast=X.map nV by rw[QJ,Wm,UI]];have J7:=J6.setG (X:=X);refine⟨bk,_,nV i,rfl,rfl,J7.bb,by rw[Qd];exact Zv (by omega),?_⟩;rw[show BB.map nV++[nV i]=(BB++[i]).map nV by rw[QJ,Wm]];have J8:=J7.setB (X:=BB++[i]);refine⟨_,rfl,_,rfl,_,rfl,bk,_,-1,nV i,rfl,rfl,SqL.of J8.bb,by rw[QJ,Wm];exact Zhg,?_⟩;refine Zbw (hs.same J8.sm) f1 ⟨b0,_,0,.str (frm ts i),rfl,rfl,SqT.of (J8.sm _ _ f2),rfl,?_⟩;refine⟨2*(ts.length-(X.length+(BB++[i]).length))+X.length,?_,frm ts i,r,X,BB++[i],rfl,J8,hW.pop e0,rfl,?_⟩
     ·rw[Qh,Qx];lia
     ·rw[←hw,show m=2*(ts.length-(X.length+(BB++[i]).length))+X.length+1 by rw[Qh,Qx];lia,Zdd e0]
   ·rw[WH]at e0;refine Xm (by rw[e0];simp) ?_;refine Xm rfl ?_;have hik:i∈r pt:=by rw[e0];simp
    have hpk:pt∈ks:=VP fun c=>by rw[J5.out pt c]at hik;cases hik
    have hi:i<ts.length:=((hW.row pt i).mp hik).1;obtain⟨b0,sg,f1,f2⟩:=hty.at hi;have hW2:=hW.push e0;have hl5:=hW2.len;rw[Qh,Qx]at hl5;refine⟨fun σ' H'=>∃ m',m'<m/\∃ (pt:Vl) (r:Vl->Vd Vg) (G BB:Vd Vg),σ'=[some (.ref a),some (.str b),some (.ref d),some (.ref g),some (.ref bk),some (.str pt),none]/\WJ H d g bk ks adr H' r G BB/\WI ts b pt r G BB/\m'=2*(ts.length-(G.length+BB.length))+G.length/\wlk ts m' r pt G BB=wlk ts (2*ts.length) (rows ts) b [] [],fun _ _ z=>z,?_⟩;refine⟨_,rfl,d,rfl,.inl ⟨_,.inl J5.dd⟩,_,rfl,Zl (show 0<=1000 by decide),fun p hp=>?_⟩;have s5:=Zb (o:=.lst []) hp;obtain⟨l',el,hl'⟩:=J5.got pt hp;have J6:=J5.same s5;refine⟨_,.inl ⟨_,Vn pt,.inl J6.dd,rfl,rfl⟩,?_⟩;rw[el];generalize upd H5 p (.lst [])=H6 at J6 hl';refine⟨.ref l',_,rfl,.inl ⟨_,SqL.of hl',rfl⟩,_,_,rfl,rfl,_,rfl,?_⟩;rw[Qd];refine Xm (by rw[e0];simp) ?_;have hrow:=J6.row pt hpk;rw[e0]at hrow;refine⟨_,rfl,.inl ⟨rfl,_,SqL.of J6.gg⟩,_,rfl,_,rfl,d,.ref (adr pt),rfl,.inl ⟨_,Vn pt,.inl J6.dd,rfl,by rw[Jf,Vf hpk]⟩,.inl ⟨rfl,_,SqL.of hrow⟩,adr pt,_,nV i,rfl,rfl,hrow,by simp,?_⟩;rw[show((X++[i]).map nV).dropLast=X.map nV by rw[QJ,Wm,UI]];have J7:=J6.setRow (X:=X) hpk;refine⟨g,_,nV i,rfl,rfl,J7.gg,by rw[Qd];exact Zv (by lia),?_⟩;rw[show G.map nV++[nV i]=(G++[i]).map nV by rw[QJ,Wm]];have J8:=J7.setG (X:=G++[i]);refine⟨_,rfl,_,rfl,_,rfl,g,_,-1,nV i,rfl,rfl,SqL.of J8.gg,by rw[QJ,Wm];exact Zhg,?_⟩;refine Zbw (hs.same J8.sm) f1 ⟨b0,_,2,.str (tow ts i),rfl,rfl,SqT.of (J8.sm _ _ f2),rfl,?_⟩;refine⟨2*(ts.length-((G++[i]).length+BB.length))+(G++[i]).length,?_,tow ts i,Zhk r pt X,G++[i],BB,rfl,J8,hW2,rfl,?_⟩
    ·rw[Qh,Qx];omega
    ·rw[←hw,show m=2*(ts.length-((G++[i]).length+BB.length))+(G++[i]).length+1 by rw[Qh,Qx];omega,Zbk e0]
  ·rintro σ H4 ⟨pt,r,BB,rfl,J4,hW,e0,ew⟩;refine⟨_,rfl,_,rfl,bk,_,rfl,SqL.of J4.bb,rfl,fun p hp=>?_⟩;refine⟨p,_,rfl,.inl ⟨SqL.of Zc,fun l hl=>?_⟩⟩;have s5:=(J4.sm.trans (Zb (o:=.lst (BB.map nV).reverse) hp)).trans (Zb (o:=.tup (BB.map nV).reverse) hl);have hT:ZmG (upd (upd H4 p (.lst (BB.map nV).reverse)) l (.tup (BB.map nV).reverse)) (.ref l) (wayX ts b):=⟨l,rfl,by rw[Zc,←ew,List.map_reverse]⟩
   refine⟨_,rfl,_,rfl,_,rfl,.ref a,.ref l,b,ts,wayX ts b,rfl,hV.same s5,hT,fun i hi=>?_,fun c hc=>?_⟩
   ·rw[←ew,UB]at hi;exact hW.lt i (by simpa using hi)
   ·refine⟨_,rfl,?_⟩;cases c with
    | true =>
     obtain⟨h1,f,h2⟩:=hc.mp rfl;rw[←ew]at h1 h2;rw[Ul]at h1;have hE:=hW.eul h1 h2;rw[ew]at hE;exact Xm rfl ⟨_,rfl,k1 hE _ _ s5 hT⟩
    | false =>
     refine Yu rfl (k2 (fun hg=>?_) _ s5);have hE:=hW.done e0 hg;rw[ew]at hE;have:=hc.mpr ⟨by rw[hE.1.length_eq,QX],hE.2⟩;cases this
end
end Sh
namespace L2
theorem Zat:MtR X "list.extend" ZfE:=Zgk
end L2
namespace Sh
open PySem L2 PyProof.Rows
seal L2.PE L2.PS L2.PSs L2.PT L2.PW L2.PA L2.PI L2.PG L2.PGs L2.PO L2.PC L2.PCs L2.OpR L2.UnR L2.CallR L2.MtR L2.IxR L2.SlR
structure Hpy (es:Es) (L:Vg):Prop where
 fine:ZiH es
 ne:es≠[]
 len:∀ e∈es,e.1.length=L
 l1:1<=L
 l3:L<=300
 pos:∀ e∈es,1<=e.2
 tot:(flatE es).length<=350
 srt:((es.map (·.1)).map fun x=>x.cps.toList).Pairwise (· < ·)
 cd:∀ e∈es,Cd e.1.cps.toList
def TyS (H:Hp) (us:Vd V) (T:Vd Vl):Prop:=us.length=T.length/\∀ (i:Vg) (x:Vl),T[i]?=some x->∃ b,us[i]?=some (.ref b)/\H b=some (.tup [.str (bg x),.str (tx [lst x]),.str (en x)])
theorem TyS.same (h:TyS H us T) (s:TSame H H'):TyS H' us T:=⟨h.1,fun i x e=>by
 obtain⟨b,e1,e2⟩:=h.2 i x e;exact⟨b,e1,s _ _ e2⟩⟩
theorem TyS.rep (h:TyS H us T) (hb:H b=some (.tup [.str (bg x),.str (tx [lst x]),.str (en x)])) (n):TyS H (us++Qq n (.ref b)) (T++Qq n x):=by
 refine⟨by simp[h.1],fun i y e=>?_⟩;by_cases hi:i<T.length
 rw[QA hi]at e;obtain⟨c,e1,e2⟩:=h.2 i y e;exact⟨c,by rw[QA (by rw[h.1];exact hi)];omega,e2⟩;rw[Qy (Kf hi)]at e;have hl:=(Ql.mp e).1;rw[Wj]at hl;rw[(WR.mp (Q3 e)).2];refine⟨b,?_,hb⟩;rw[Qy (by rw[h.1];exact Kf hi),h.1,Wt,Vf hl]
theorem ZiC {l} {c:α}:atI (l++[c]) (-1)=some c:=by
 unfold atI ixN;rw[if_neg (by decide),Vf (by rw[Qh,Qx];exact Eg)];simp only[Rx,Qh,Qx];rw[show((-1)+((l.length+1:Vg):Vs)).toNat=l.length by exact Eh];simp
theorem Zl3 (h:1<=x.length):atI x.cps.toList (-1)=some (lst x):=by
 exact Zd8 h▸ZiC
theorem XW {α:Type} (n) (a:α):(Qq n [a]).flatten=Qq n a:=by
 simp
theorem ZaA:(flatE (es.take n)).length<=(flatE es).length:=by
 have:flatE es=flatE (es.take n)++flatE (es.drop n):=by
  unfold flatE;rw[←List.flatMap_append,Wd]
 rw[this,Qh];exact Ka
def ZoB (H:Hp) (x:V) (ts:Ts) (b:Vl):Prop:=(Eul ts b (wayX ts b)/\ZmG H x (wayX ts b))\/(¬ Zhl ts b/\x= .non)
theorem Zhp {Q:V->Hp->Prop} (h:∀ x H',Same H H'->ZoB H' x ts b->Q x H'):(Eul ts b (wayX ts b)->∀ x H',Same H H'->ZmG H' x (wayX ts b)->Q x H')/\(¬ Zhl ts b->∀ H',Same H H'->Q .non H') :=
 ⟨fun e x H' s t=>h x H' s (.inl ⟨e,t⟩),fun g H' s=>h _ H' s (.inr ⟨g,rfl⟩)⟩
section
variable {P:Oh} {w:Oi} {K:Ve} {mg:Vl->Vj Vi} {base:Vz}
abbrev Zcx:V7:=top 6
noncomputable abbrev Zko:Vd Vl:=["H","ties","piece","many"]
theorem scTiesOf:Zo Zko ["H"] (Zh Zcx):=⟨rfl,rfl,rfl,by decide +kernel,rfl,by decide +kernel,by decide +kernel⟩
def Zdq:Sp:=fun vs H Q _=>∃ (v:V) (es:Es) (L:Vg),vs=[v]/\HeapV H v es/\Hpy es L/\∀ q us H',Same H H'->H' q=some (.lst us)->TyS H' us (flatE es)->Q (.ref q) H'
theorem Zem (D:HasDef K mg "ties_of" Zcx ["H"]) (g9_:FOk P w K mg base 1 "begin_of" ["piece"] Zcv) (g12_:FOk P w K mg base 1 "end_of" ["piece"] Zfg):FOk P w K mg base 2 "ties_of" ["H"] Zdq:=by
 refine D.ok scTiesOf (fun vs H Q E h=>?_) (fun f cdv A outer s H vs Q E hr h=>?_)
 ·obtain⟨v,es,L,rfl,_⟩:=h;rfl
 ·obtain⟨v,es,L,rfl,⟨q,vs,rfl,hq,hpa⟩,hF,k⟩:=h;refine⟨_,(Zd (Zm (i:=1) scTiesOf.nd rfl (.inl rfl) (ZD Ze))
   (Zd (Z8 Vr rfl (Y3 (pv 0)) (Yj 2 K rfl (Zt (Zx (i:=2) scTiesOf.nd rfl (.inl rfl)) (Zt (Zx (i:=3) scTiesOf.nd rfl (.inl rfl)) Z9)))
    (Zi (ZX (XN F.plainAttrs_list F.slot_list_extend F.type_list_extend Zat (pv 1) (Za (Zp Y5 (ZD (Za (JD (Za (ZC g9_ hr (Za (pv 2) Ze)) (Za (ZB Zd1 (pv 2) (Jh YX Zj) (fun _ _=>rfl)) (Za (ZC g12_ hr (Za (pv 2) Ze)) Ze)))) Ze)) (pv 3)) Ze)))))
   (Zi (Zq (pv 1))))),?_⟩
  refine⟨Zl (show 0<=1000 by decide),fun l hl=>?_⟩;have s1:=Zb (o:=.lst []) hl;refine⟨_,rfl,q,rfl,⟨_,SqT.of (s1 _ _ hq)⟩,?_⟩;refine XC (K:=K) (a:=q) (xs:=vs) (fun i σ H2=>∃ (z2 z3:Vj V) (us:Vd V),σ=[some (.ref q),some (.ref l),z2,z3]/\Same H H2/\H2 l=some (.lst us)/\TyS H2 us (flatE (es.take i)))
   ⟨none,none,[],rfl,s1,Zc,⟨rfl,fun i x e=>by cases e⟩⟩ (fun i σ H2 _ ⟨_,_,_,_,s2,_⟩=>SqT.of (s2 _ _ hq)) ?_ ?_
  ·rintro i x σ H2 hi ⟨z2,z3,us,rfl,s2,hl2,hty⟩;have hiv:i<vs.length:=(Ql.mp hi).1;have hie:i<es.length:=by rw[←hpa.1];exact hiv
   obtain⟨b,e1,e2⟩:=hpa.2 i es[i] (Qa hie);rw[hi]at e1;cases e1;obtain⟨l1,l2⟩:=hF.fine.long es[i] (QG hie);have hm:=hF.fine.many es[i] (QG hie);have het:=QN hie;have htot:=hF.tot;have ht1:=ZaA (es:=es) (n:=i);have hul:=hty.1;refine⟨b,_,rfl,SqT.of (s2 _ _ e2),rfl,_,_,rfl,_,_,rfl,rfl,?_⟩;rw[het,ZaB];generalize es[i]=e at *;refine⟨_,rfl,.inl ⟨rfl,_,SqL.of hl2⟩,_,rfl,e.1,rfl,l1,l2,_,rfl,_,rfl,e.1,_,_,rfl,rfl,ZW l2,Zl3 l1,_,rfl,e.1,rfl,l1,l2,Zl (show 3<=1000 by decide),fun t ht=>?_⟩;have t1:=Zb (o:=.tup [.str (bg e.1),.str (tx [lst e.1]),.str (en e.1)]) ht;refine⟨Zl (show 1<=1000 by decide),fun p hp=>?_⟩;have t2:=Zb (o:=.lst [.ref t]) hp;refine⟨_,rfl,p,e.2,_,rfl,rfl,Zc,by omega,by omega,Zl (by simp only[Qx];exact Kz hm),fun p2 hp2=>?_⟩;rw[XW];have t3:=Zb (o:=.lst (Qq e.2.toNat (V.ref t))) hp2;have hl5:=t3 _ _ (t2 _ _ (t1 _ _ hl2));refine⟨l,p2,_,_,rfl,rfl,hl5,Zc,?_,?_⟩
   ·rw[Wj];refine ZO ?_;lia
   have ts:=Yk (ys:=us++Qq e.2.toNat (V.ref t)) hl5;refine⟨_,_,_,rfl,fun b u hb=>by rw[Zf (Zg hb hl)];exact t3 _ _ (t2 _ _ (t1 _ _ (s2 b u hb))),Zc,?_⟩;exact((hty.same (((t1.trans t2).trans t3).tup.trans ts)).rep (ts _ _ (t3 _ _ (t2 _ _ Zc))) _)
  ·rintro σ H2 ⟨z2,z3,us,rfl,s2,hl2,hty⟩;rw[hpa.1,Q5]at hty;exact⟨_,rfl,k l us H2 s2 hl2 hty⟩
abbrev XH:V7:=top 19
noncomputable abbrev ZbJ:Vd Vl:=["ties","begin","numbers"]
theorem scTextFrom:Zo ZbJ ["ties","begin"] (Zh XH):=⟨rfl,rfl,rfl,by decide +kernel,rfl,by decide +kernel,by decide +kernel⟩
abbrev ZaQ:V7:=top 10
abbrev Zge:Vd Vl:=["H"]
theorem ZhD:Zo Zge ["H"] (Zh ZaQ):=⟨rfl,rfl,rfl,by simp,rfl,by decide +kernel,by decide +kernel⟩
def ZiR:Sp:=fun vs H Q _=>∃ (v:V) (es:Es),vs=[v]/\HeapV H v es/\ZiH es/\∀ v' H' ss,Same H H'->HeapV H' v' (ups (fun y=>-mo es y) ss)->SPts es ss->Q v' H'
theorem Zer (D:HasDef K mg "ends_of" ZaQ ["H"]) (B:Blt mg) (g22_:FOk P w K mg base 2 "more_out" ["H"] Jy):FOk P w K mg base 3 "ends_of" ["H"] ZiR:=by
 refine D.ok ZhD (fun vs H Q E h=>?_) (fun f cdv A outer s H vs Q E hr h=>?_)
 ·obtain⟨v,es,rfl,_⟩:=h;rfl
 ·obtain⟨v,es,rfl,hV,hF,k⟩:=h;refine⟨_,(Zi (Zq (Z4 ZP rfl B.tuple Yt (Za (ZV (Zh ZaQ) Zge ["point","more"] [] rfl (YF (Zk (YU rfl) rfl B.sorted Xj (Za (ZaV (ZC g22_ hr (Za (pv 0) Ze))) Ze))) (fun _ _ _ _ _=>Yj 2 K rfl (Zt (YM 0) (Zt (YM 1) Z9))) (fun _ _ _ _ _=>Xy (Zw ZfY (pv 1) Zj (ZA _))) (fun _ _ _ _ _=>(JD (Za (pv 0) (Za (Jh YX (pv 1)) Ze))))) Ze)))),?_⟩;refine⟨_,rfl,v,es,rfl,hV,hF,fun d H1 ks s1 hd hP=>⟨d,_,rfl,hd,fun p hp=>?_⟩⟩;have hkl:=hP.len;have hfew:=hF.few;refine⟨p,d,ks,fun x=>.int (mo es x),rfl,Zc,Zb hp _ _ hd,hP.nd,K4 hfew hkl,fun D1 H2 vs ss s2 hpm hsrt hD1 hl hv=>?_⟩;have hss:=hpm.length_eq;refine⟨D1,rfl,⟨_,SqL.of hD1⟩,JK ss.length (fun i=>vs.getD i .non) (fun i=>decide (0<(fun y=>-mo es y) (ss.getD i ""))) (fun i v H=>Zj0 (ss.getD i "") ((fun y=>-mo es y) (ss.getD i "")) v H) (Zl (K5 hkl hss hfew)) (fun i v H H' hs ⟨b,e1,e2⟩=>⟨b,e1,hs _ _ e2⟩) (by have:=XB (K:=K) (SqL.of hD1);rw[hl]at this;trivial) ?_ ?_⟩
  ·intro i H3 Qt Qf hi hs ht hf;obtain⟨b,e1,e2⟩:=hv i ss[i] (Qa hi);have ev:vs.getD i .non= .ref b:=by rw[Qb,e1];rfl
   have es1:ss.getD i "" = ss[i]:=by rw[Qb,Qa hi];rfl
   rw[es1]at ht hf;rw[ev];refine⟨b,_,rfl,SqT.of (hs _ _ e2),rfl,_,_,rfl,_,_,rfl,rfl,?_⟩;refine⟨_,rfl,_,_,rfl,rfl,_,rfl,?_⟩;by_cases c:0<(fun y=>-mo es y) ss[i]
   ·refine Xm (Vq (by simp_all)) (⟨_,rfl,_,rfl,_,rfl,Zl (show 2<=1000 by decide),fun r hr=>ht (Vq c) _ _ (Zb hr) ⟨r,rfl,Zc⟩⟩)
   ·exact Yu (Vp (by have c:=c;dsimp only at c;lia)) (hf (Vp c) _ (Same.refl _))
  ·intro D2 vs2 H3 hl2 hR hs3 hD2 hDl;refine⟨D2,vs2,rfl,.inl ⟨SqL.of hDl,fun q hq=>?_⟩⟩;have sq:=Zb (o:=.tup vs2) hq;refine k (.ref q) _ ss (((s1.trans (Zb hp)).trans s2).trans (hs3.trans sq)) ⟨q,vs2,rfl,Zc,?_⟩ (SPts.of hP hpm hsrt);exact(ZlI (p:=fun x=>decide (0<(fun y=>-mo es y) x)) (f:=fun x=>(fun y=>-mo es y) x) hl2 hR).same sq.tup
end
abbrev T3:=Vd (Vl×Vl×Vl)
noncomputable def Zk0 (x:Vl):Vl×Vl×Vl:=(bg x,tx [lst x],en x)
def tsT (T:T3):Ts:=T.map fun t=>(t.1,t.2.2)
noncomputable def Zcl (T:T3) (X:Vd Vg):Vd Vg:=X.flatMap fun i=>(T.getD i ("","","")).2.1.cps.toList
noncomputable def tf (T:T3) (b:Vl):Vj Vl:=by
 classical
 exact if Zhl (tsT T) b then some (tx (b.cps.toList++Zcl T (wayX (tsT T) b)))else none
theorem Ze1 (h:Zhl (tsT T) b):tf T b=some (tx (b.cps.toList++Zcl T (wayX (tsT T) b))):=Vf h
theorem Zlg (h:¬ Zhl (tsT T) b):tf T b=none:=if_neg h
end Sh
namespace L2
end L2
namespace Sh
open PySem L2 PyProof.Rows
seal L2.PE L2.PS L2.PSs L2.PT L2.PW L2.PA L2.PI L2.PG L2.PGs L2.PO L2.PC L2.PCs L2.OpR L2.UnR L2.CallR L2.MtR L2.IxR L2.SlR
noncomputable def Znh:Vj Vl->V
 | some s=>.str s
 | none=>.non
def TyL (H:Hp) (us:Vd V) (T:T3):Prop:=us.length=T.length/\∀ (i:Vg) (t:Vl×Vl×Vl),T[i]?=some t->∃ b,us[i]?=some (.ref b)/\H b=some (.tup [.str t.1,.str t.2.1,.str t.2.2])
theorem TyL.same (h:TyL H us T) (s:TSame H H'):TyL H' us T:=⟨h.1,fun i x e=>by
 obtain⟨b,e1,e2⟩:=h.2 i x e;exact⟨b,e1,s _ _ e2⟩⟩
theorem TyL.tyA (h:TyL H us T):TyA H us (tsT T):=⟨by unfold tsT;rw[h.1,Qd],fun i t e=>by
 unfold tsT at e;rw[Qi]at e;obtain⟨x,hx,rfl⟩:=Wp.mp e;obtain⟨b,e1,e2⟩:=h.2 i x hx;exact⟨b,e1,_,e2⟩⟩
theorem TyL.of (h:TyS H us F):TyL H us (F.map Zk0):=⟨by rw[h.1,Qd],fun i t e=>by
 rw[Qi]at e;obtain⟨x,hx,rfl⟩:=Wp.mp e;exact h.2 i x hx⟩
theorem TyL.snoc (h:TyL H us T) (hb:H b=some (.tup [.str t.1,.str t.2.1,.str t.2.2])):TyL H (us++[.ref b]) (T++[t]):=by
 refine⟨by simp[h.1],fun i y e=>?_⟩;by_cases hi:i<T.length
 rw[QA hi]at e;obtain⟨c,e1,e2⟩:=h.2 i y e;exact⟨c,by rw[QA (by rw[h.1];exact hi)];omega,e2⟩;have hl:=(Ql.mp e).1;rw[Qh,Qx]at hl;have hi':i=T.length:=Ej hl hi
 subst hi';rw[Qy (Qg _),Wv]at e;cases e;exact⟨b,by rw[←h.1,Qy (Qg _),Wv];rfl,hb⟩
theorem ZeB:∀ l,(NT "" l).cps.toList=l.flatMap fun x=>x.cps.toList:=by
 have key:∀ l,(NB "" l).cps.toList=l.flatMap fun x=>x.cps.toList:=by
  intro l;induction l with
  | nil=>rfl
  | cons c r ih =>
   cases r with
   | nil=>simp[NB]
   | cons d q =>
    have e:NB "" (c::d::q)=c ++ "" ++ NB "" _:=rfl;have e2:("" : Vl).cps.toList=[]:=rfl;have ac:∀ a b:Vl,(a++b).cps.toList=a.cps.toList++b.cps.toList:=fun a b=>by
     have:=ZiJ a.cps.toList b.cps.toList;rw[tx_eta,tx_eta]at this;rw[this,Zr]
    rw[e,ac,ac,ih,e2];simp
 intro l;have:NT "" l=NB "" l:=StrLaws.glued_eq_join _ _
 simp_all
section
variable {P:Oh} {w:Oi} {K:Ve} {mg:Vl->Vj Vi} {base:Vz}
def ZnQ:Sp:=fun vs H Q _=>∃ (q:Vk) (b:Vl) (us:Vd V) (T:T3),vs=[.ref q,.str b]/\H q=some (.lst us)/\TyL H us T/\T.length<=400/\(∀ t∈T,t.2.1.length<=100)/\b.length<=100/\∀ H',Same H H'->Q (Znh (tf T b)) H'
theorem ZgT {α:Type} {g:α->Vd Vg}:∀ {l:Vd α},(∀ x∈l,(g x).length<=100)->(l.flatMap g).length<=100*l.length
 | [],_=>by simp
 | x::l,h=>by
  rw[List.flatMap_cons,Qh,QC];have:=h x Qj;have:=ZgT fun y hy=>h y (Qk _ hy);exact K6 ‹_› this
theorem Ze5:∀ {l:Vd Vl},(∀ x∈l,x.length<=100)->(l.map (·.length)).sum<=100*l.length
 | [],_=>by simp
 | x::l,h=>by
  rw[QV,Wb,QC];have:=h x Qj;have:=Ze5 fun y hy=>h y (Qk _ hy);exact K6 ‹_› this
theorem ZbE (D:HasDef K mg "text_from" XH ["ties","begin"]) (B:Blt mg) (g36_:FOk P w K mg base 2 "way_of" ["ties","begin"] Zlo):FOk P w K mg base 3 "text_from" ["ties","begin"] ZnQ:=by
 refine D.ok scTextFrom (fun vs H Q E h=>?_) (fun f cdv A outer s H vs Q E hr h=>?_)
 ·obtain⟨q,b,us,T,rfl,_⟩:=h;rfl
 ·obtain⟨q,b,us,T,rfl,hq,hty,hT,hL,hb,k⟩:=h;refine⟨_,(Zd (Zm (i:=2) scTextFrom.nd rfl (.inl rfl) (ZC g36_ hr (Za (pv 0) (Za (pv 1) Ze))))
   (Zd (Yg (Zw ZfZ (pv 2) YH (ZA _)) (Zi (Zq YH)) ZF)
   (Zi (Zq (Zp Xh (pv 1) (XN F.plainAttrs_str F.slot_str_join F.type_str_join Zgi Zar (Za (ZV (Zh XH) ZbJ ["number"] [0] rfl (Y3 (pv 2)) (fun _ _ _ _ _=>YM 0) (fun _ _ _ _ _=>Y4) (fun _ _ _ _ _=>(ZB (ZkP K) (ZB (Za7 K) (pv 1) (pv 0) (fun _ _=>rfl)) Zj (fun _ _=>rfl)))) Ze))))))),?_⟩
  have htl:(tsT T).length=T.length:=by unfold tsT;simp
  refine⟨_,rfl,_,rfl,.ref q,b,tsT T,rfl,⟨q,us,rfl,.inl hq,hty.tyA⟩,Dk hT htl,Zhp fun x H1 s1 hx=>?_⟩;rcases hx with ⟨hE,qn,rfl,hqn⟩ | ⟨hn,rfl⟩
  rotate_left
  ·rw[Zlg hn]at k;exact⟨_,rfl,rfl,_,rfl,Xm (by simp) (k H1 s1)⟩
  rw[Ze1 hE.good]at k;have hXl:(wayX (tsT T) b).length=T.length:=by rw[hE.1.length_eq,QX,htl]
  have hX:∀ i∈wayX (tsT T) b,i<T.length:=fun i hi=>by
   have:=Qr.mp (hE.1.mem_iff.mp hi);exact Kc htl this
  generalize wayX (tsT T) b=X at *;refine⟨_,rfl,rfl,_,rfl,Yu (by simp) ?_⟩;refine⟨_,rfl,rfl,_,rfl,qn,rfl,⟨_,SqT.of hqn⟩,JJ X.length (fun i=>(X.map nV).getD i .non) (fun i v _=>v= .str (T.getD (X.getD i 0) ("","","")).2.1) (Zl (by lia)) (fun _ _ _ _ _ r=>r) (by have:=ZdZ (SqT.of (K:=K) hqn);rw[Qd]at this;trivial) ?_ ?_⟩
  ·intro i H3 Qe hi hs kq;rw[JT hi];have hin:=hX X[i] (QG hi);obtain⟨b0,e1,e2⟩:=hty.2 X[i] T[X[i]] (Qa hin);refine⟨_,rfl,_,rfl,q,us,X[i],.ref b0,rfl,rfl,SqL.of (hs _ _ (s1 _ _ hq)),YW e1,b0,_,1,_,rfl,rfl,SqT.of (hs _ _ (s1 _ _ e2)),rfl,kq _ _ (Same.refl _) ?_⟩;rw[Qb (l:=X),Qa hi,WN,Qb,Qa hin];rfl
  intro D1 vs1 H3 hl1 hr1 hs3 hD1 hDl1;have ev:vs1=(X.map fun i=>(T.getD i ("","","")).2.1).map V.str:=by
   rw[Q0];refine ZeU hl1 fun i v hv c hc=>?_;rw[hr1 i v hv,Qb (l:=X),hc];rfl
  rw[ev]at hDl1;have h2:∀ x∈X.map fun i=>(T.getD i ("","","")).2.1,x.length<=100:=fun x hx=>by
   obtain⟨i,hi,rfl⟩:=QP.mp hx;rw[Qb,Qa (hX i hi)];exact hL _ (QG _)
  have hsm:=Ze5 h2;rw[Qd]at hsm;refine⟨"",D1,_,rfl,rfl,SqL.of hDl1,?_,?_⟩
  ·have:("" : Vl).length=0:=rfl;rw[this,Nat.mul_zero];lia
  have ej:NT "" (X.map fun i=>(T.getD i ("","","")).2.1)=tx (Zcl T X):=by
   rw[←tx_eta (NT _ _),ZeB,List.flatMap_map];rfl
  rw[ej];have hll:(Zcl T X).length<=100*X.length:=ZgT fun i hi=>by
   rw[Zu];exact h2 _ (QP.mpr ⟨i,hi,rfl⟩)
  refine⟨_,_,rfl,rfl,?_,?_⟩
  ·rw[Zy];refine ZO ?_;lia
  rw[show b++tx (Zcl T X)=tx (b.cps.toList++Zcl T X)by rw[←ZiJ,tx_eta]];exact k H3 (s1.trans hs3)
noncomputable def ZeS (a b:Vd Vg) (m:Vg):V0:=decide (a.drop m=b.take (b.length-m))
abbrev X7:V7:=top 21
noncomputable abbrev Zet:Vd Vl:=["one","other","many"]
theorem scLettersTo:Zo Zet ["one","other"] (Zh X7):=⟨rfl,rfl,rfl,by decide +kernel,rfl,by decide +kernel,by decide +kernel⟩
def Least (a b:Vd Vg) (m:Vg):Prop:=m<=a.length/\ZeS a b m=true/\∀ j,j<m->ZeS a b j=false
def Zbs:Sp:=fun vs H Q _=>∃ a b:Vd Vg,vs=[.str (tx a),.str (tx b)]/\a.length=b.length/\a.length<=1000/\∀ m:Vg,Least a b m->Q (.int m) H
theorem Zef {m:Vg} (h:a.length=b.length) (hm:m<=a.length):NV (tx b) (VG (tx a) (some (0+m)) none)=ZeS a b m:=by
 have e:(VG (tx a) (some (0+m)) none).cps.toList=a.drop m:=by
  rw[Z0 Dd (by rw[Zy];lia)];congr 1;lia
 have el:(VG (tx a) (some (0+m)) none).length=a.length-m:=by
  rw[←Zu,e,Wa]
 rw[Zbp,el,Zr,Zy,Um];unfold ZeS;simp[Wg,VL,TM];constructor;rintro⟨_,q⟩
 simp_all
 intro q;exact⟨De h,by simp_all⟩
theorem ZaX (D:HasDef K mg "letters_to" X7 ["one","other"]) (B:Blt mg):FOk P w K mg base 1 "letters_to" ["one","other"] Zbs:=by
 refine D.ok scLettersTo (fun vs H Q E h=>?_) (fun f cdv A outer s H vs Q E hr h=>?_)
 ·obtain⟨a,b,rfl,_⟩:=h;rfl
 ·obtain⟨a,b,rfl,hab,hl,k⟩:=h;refine⟨_,(Zd (Z8 Vr rfl (Yq rfl B.range (Za (Zk Zn rfl B.len ZQ (Za (pv 0) Ze)) Ze)) (Zx (i:=2) scLettersTo.nd rfl (.inl rfl))
    (Zi (Yg (Yf (XN F.plainAttrs_str F.slot_str_startswith F.type_str_startswith Zgh (pv 1) (Za (Zz Z6 (pv 0) (ZM (pv 2)) ZT) Ze))) (Zi (Zq (pv 2))) ZF)))
   (Zi (Zq (Zk Zn rfl B.len ZQ (Za (pv 0) Ze))))),?_⟩
  have hz:(tx a).length<=Of:=by rw[Zy];exact ZO (Ei hl)
  refine⟨_,rfl,.str (tx a),a.length,rfl,⟨hz,(Zy a).symm⟩,_,rfl,by lia,by lia,?_⟩;refine Y9 (n:=a.length) (fun i σ H2=>H2=H/\(∃ z:Vj V,σ=[some (.str (tx a)),some (.str (tx b)),z])/\∀ j,j<i->ZeS a b j=false) ⟨rfl,⟨none,rfl⟩,fun j hj=>Vo hj (Wo _)⟩ ?_ ?_
  ·rintro i σ H2 hi ⟨rfl,⟨z,rfl⟩,hp⟩;refine⟨_,rfl,rfl,_,rfl,_,rfl,_,rfl,_,rfl,hz,tx b,_,rfl,rfl,_,rfl,?_⟩;rw[Zef hab (Bk hi)];refine ZmP (fun e=>?_) (fun e=>?_)
   ·refine⟨_,rfl,?_⟩;have:=k i ⟨Bk hi,e,hp⟩;rw[UH];omega
   ·refine⟨rfl,⟨_,rfl⟩,fun j hj=>?_⟩;by_cases c:j<i
    ·simp_all
    ·have:j=i:=Ej hj c
     simp_all
  ·rintro σ H2 ⟨rfl,⟨z,rfl⟩,hp⟩;refine⟨_,rfl,.str (tx a),a.length,rfl,⟨hz,(Zy a).symm⟩,?_⟩;refine k a.length ⟨Qg _,?_,hp⟩;unfold ZeS;rw[hab,Wv,Uu,←hab];simp
abbrev ZcB:V7:=top 30
theorem ZhC:Zo ["_law_found"] ["_law_found"] (Zh ZcB):=⟨rfl,rfl,rfl,by simp,rfl,by decide +kernel,by decide +kernel⟩
def Ze8:Sp:=fun vs H Q _=>∃ (x:V) (n:Ny),vs=[x]/\TyB H x n/\Q (.bl (n == "int")) H
theorem Zeo (D:HasDef K mg "_law_whole" ZcB ["_law_found"]) (B:Blt mg):FOk P w K mg base 1 "_law_whole" ["_law_found"] Ze8:=by
 refine D.ok ZhC (fun vs H Q E h=>?_) fun f cdv A outer s H vs Q E hr h=>?_;obtain⟨x,n,rfl,_⟩:=h;rfl;obtain⟨x,n,rfl,ty,k⟩:=h;refine⟨_,Zi (Zq (Zi4 (Zk Ys rfl B.isi Zda (Za (pv 0) (Za (ZcG rfl B.int ZnI) Ze)))
  (Zi2 (ZlC (Zk Ys rfl B.isi Zda (Za (pv 0) (Za (ZcG rfl B.bool ZmE) Ze))))))),⟨_,rfl,x,_,n,rfl,by decide,ty,_,rfl,(ZmP (fun e=>?_) fun e=>?_)⟩⟩
 refine⟨_,rfl,x,_,n,rfl,by decide,ty,_,rfl,?_⟩;rw[(ZgI n ty.mem).1 e];omega;rw[(ZgI n ty.mem).2 e]at k;omega
end
def SB (D:Vk) (H H':Hp):Prop:=∀ b u,b≠D->H b=some u->H' b=some u
theorem Zam (h0:0<=i) (h1:i<=z.length):VG (tx z) (some i) none=tx (z.drop i.toNat):=by
 apply ZS;rw[Z0 h0 (by assumption),Zr,Zr]
section
variable {P:Oh} {w:Oi} {K:Ve} {mg:Vl->Vj Vi} {base:Vz}
end
end Sh
namespace L2
open PySem PySem.Spec PyProof.Rows
structure HasN (K:Ve) (C:Vk) (m qual:Vl) (st:V7) (ps:Vd Vl) (cd:Vi):Prop where
 ex:∃ (f:Vk) (oc:Vi) (od:Vj Vk) (dV kV doc pm:Vi) (an:Vj Vk) (ct:Vi) (osl:Vm (Vj Vi)),K.lookup f=some ⟨oc,od,.func (VC m qual (ZY st) (ZI st) (Zh st) dV kV doc pm an cd ct),osl⟩/\V2 K cd qual=true/\Zk5 K C m f /\
  Binds K (VC m qual (ZY st) (ZI st) (Zh st) dV kV doc pm an cd ct) ps []
structure HasJ (K:Ve) (C:Vk) (qual:Vl) (st:V7) (ps:Vd Vl):Prop where
 ex:∃ (f:Vk) (oc:Vi) (od:Vj Vk) (dV kV doc pm cd:Vi) (an:Vj Vk) (ct:Vi) (osl:Vm (Vj Vi)),K.lookup f=some ⟨oc,od,.func (VC "__init__" qual (ZY st) (ZI st) (Zh st) dV kV doc pm an cd ct),osl⟩/\V2 K cd qual=true/\Mk K C f /\
  Binds K (VC "__init__" qual (ZY st) (ZI st) (Zh st) dV kV doc pm an cd ct) ps []
structure MOk (P:Oh) (w:Oi) (K:Ve) (mg:Vl->Vj Vi) (base:Vz) (C:Vk) (k:Vg) (m:Vl) (ps:Vd Vl) (sp:Sp):Prop where
 ex:∃ f fd,FnOk P w K mg base CX0 k f fd ps sp/\Zk5 K C m f/\Binds K fd ps []
structure IOk0 (P:Oh) (w:Oi) (K:Ve) (mg:Vl->Vj Vi) (base:Vz) (C:Vk) (k:Vg) (ps:Vd Vl) (sp:Sp):Prop where
 ex:∃ f fd,FnOk P w K mg base CX0 k f fd ps sp/\Mk K C f/\Binds K fd ps []
section
variable {P:Oh} {w:Oi} {K:Ve} {mg:Vl->Vj Vi} {base:Vz} {C:Vk} {m qual:Vl} {st:V7} {N ps:Vd Vl} {j k:Vg} {sp:Sp} {cd:Vi}
theorem HasN.ok (D:HasN K C m qual st ps cd) (S:Zo N ps (Zh st)) (len:∀ vs H Q E,sp vs H Q E->vs.length=ps.length)
  (hbody:∀ (f) (A) (outer) (s) (vs) (H) (Q) (E),Room k (A.deeper (O4 qual (Zh st) s.heap.objs.size f cd))->sp vs H Q E ->
   ∃ t,PSs (ZeI CX0 P w K mg base N qual (Zh st) f cd A outer s H E).nox (ZI st) t/\t {nx:=fun _ H'=>Q .non H',rt:=Q} (start N vs) H):MOk P w K mg base C (k+1) m ps sp:=by
 obtain⟨f,oc,od,dV,kV,doc,pm,an,ct,osl,lk,hcd,me,b⟩:=D.ex;refine⟨f,_,Ziw lk hcd S len fun A outer s H vs Q E hr hsp=>?_,me,b⟩;obtain⟨t,h,q⟩:=hbody f A outer s vs H Q E hr hsp;exact⟨t,h.nox,q⟩
theorem HasJ.ok (D:HasJ K C qual st ps) (S:Zo N ps (Zh st)) (len:∀ vs H Q E,sp vs H Q E->vs.length=ps.length)
  (hbody:∀ (f) (cd) (A) (outer) (s) (vs) (H) (Q) (E),Room k (A.deeper (O4 qual (Zh st) s.heap.objs.size f cd))->sp vs H Q E ->
   ∃ t,PSs (ZeI CX0 P w K mg base N qual (Zh st) f cd A outer s H E).nox (ZI st) t/\t {nx:=fun _ H'=>Q .non H',rt:=Q} (start N vs) H):IOk0 P w K mg base C (k+1) ps sp:=by
 obtain⟨f,oc,od,dV,kV,doc,pm,cd,an,ct,osl,lk,hcd,me,b⟩:=D.ex;refine⟨f,_,Ziw lk hcd S len fun A outer s H vs Q E hr hsp=>?_,me,b⟩;obtain⟨t,h,q⟩:=hbody f cd A outer s vs H Q E hr hsp;exact⟨t,h.nox,q⟩
theorem MOk.mono (G:MOk P w K mg base C j m ps sp) (h:j<=k):MOk P w K mg base C k m ps sp:=by
 obtain⟨f,fd,F,r⟩:=G.ex;exact⟨f,fd,F.mono h,r⟩
theorem IOk0.mono (G:IOk0 P w K mg base C j ps sp) (h:j<=k):IOk0 P w K mg base C k ps sp:=by
 obtain⟨f,fd,F,r⟩:=G.ex;exact⟨f,fd,F.mono h,r⟩
end
section
variable {X:Cx} {C:Vk} {m:Vl} {ps:Vd Vl} {k:Vg} {sp:Sp} {p pos apos:MA} {e o:Expr} {es:Vd Expr} {ta:TE} {t:TA} {x:Vl}
theorem Zkd {pl} (G:MOk X.prog X.w X.K X.mg X.base C k m ps sp) (hr:Room k X.A) (c:Cls X.K C) (he:PE X o ta) (ha:PA X (e::es) t)
  (hst:Oj (e::es) X.env=(false,VQ e X.env)::Oj es X.env:=by rfl) (hpl:(Ox pos (Oj es X.env)).any (·.1)=false:=by rfl)
  (ht:VQ (.Call (.Attribute o m apos) (e::es) [] pos) X.env=(do
   let ov ←VQ o X.env
   GI apos.atName
   let (f,first) ←Ga [ov] (Gf ov m pl)
   GM pos f first (Ox pos (Oj (e::es) X.env)) (O6 pos (ON [] X.env))):=by rfl) :
  PE X (.Call (.Attribute o m apos) (e::es) [] pos) (Zhq C m sp [] E0 ta t):=by
 have⟨f,fd,F,me,b⟩:=G.ex;exact Zka he c me F hr b .nil ZhT ha hst hpl ht
theorem Zkc (G:MOk X.prog X.w X.K X.mg X.base C k m ps sp) (hr:Room k X.A) (c:Cls X.K C) (he:PE X o ta)
  (ht:VQ (.Call (.Attribute o m apos) [] [] pos) X.env=(do
   let ov ←VQ o X.env
   GI apos.atName
   let (f,first) ←Ga [ov] (Gf ov m pl)
   GM pos f first (Ox pos (Oj [] X.env)) (O6 pos (ON [] X.env))):=by rfl) :
  PE X (.Call (.Attribute o m apos) [] [] pos) (Zhq C m sp [] E0 ta ZmM):=by
 have⟨f,fd,F,me,b⟩:=G.ex;exact ZhR he c me F hr b .nil ZhT ht
theorem ZlD (G:IOk0 X.prog X.w X.K X.mg X.base C k ps sp) (hr:Room (k+1) X.A) (hm:X.mg x=some (.ref C)) (ha:PA X (e::es) t) (hg:Gl X x:=by rfl) (hdb:(x==("__debug__"))=false:=by decide) (he:Oj (e::es) X.env=(false,VQ e X.env)::Oj es X.env:=by rfl) (hpl:(Ox pos (Oj es X.env)).any (·.1)=false:=by rfl) :
  PE X (.Call (.Name x p) (e::es) [] pos) (Zli C sp [] E0 t):=by
 have⟨f,fd,F,me,b⟩:=G.ex;exact Zkb me F hr hg hm b .nil ZhT ha hdb he hpl
end
noncomputable def Zb8 (q:Vl) (c:Vk):HO:=.ext fun h=>h.CodeRec (.ref c) q
def ZeP (P:Vk) (q:Vl) (pos:MA) (H:Hp):Prop :=
 H P=some (.tbl #[])\/∃ c,H P=some (.tbl #[OA pos.line,OA pos.col,.ref c])/\H c=some (Zb8 q c)
def ZkY (P:Vk) (H H':Hp):Prop:=∀ b o,b≠P->H b=some o->H' b=some o
structure Tab (mg:Vl->Vj Vi) (base:Vz) (c P:Vk):Prop where
 hd:MI base c P
 ba:base.BuiltinsAt mg P
 ng:Ol≠P
 nb:base.get? P=none
theorem Zc9 (x:MI h c P) (k:∀ b o,h.get? b=some o->h'.get? b=some o):MI h' c P:=by
 obtain⟨o,vs,file,tf,flags,tg,inF,text,tt,e,r⟩:=x;exact⟨o,vs,_,tf,_,tg,inF,_,tt,k _ _ e,r⟩
theorem ZeL {h h':Vz} (x:h.BuiltinsAt mg P) (k:∀ b o,h.get? b=some o->h'.get? b=some o):h'.BuiltinsAt mg P:=by
 obtain⟨bm,o,e1,e2,e3,e4,e5,r⟩:=x;exact⟨bm,o,e1,e2,e3,e4,k _ _ e5,r⟩
theorem ZiA (x:h.CodeRec (.ref c) q):ObjOk P w H h c (Zb8 q c):=by
 refine⟨x,?_,fun h1 h2 p k=>?_⟩;obtain⟨c',o,vs,t,e,e1,_⟩:=x
 simp_all
 obtain⟨c',o,vs,t,e,e1,r⟩:=p;cases e;exact⟨_,o,vs,t,rfl,k _ e1,r⟩
section
variable {X:Cx} {pins:Vd (Vk×Nd)} {σ:St} {H:Hp} {s:Vh}
theorem Inv.table {P c:Vk} (I:Inv X pins σ H s) (hP:H P=some (.tbl ps)) (k:∀ b o,b≠P->s.heap.get? b=some o->h'.get? b=some o) (eP:h'.get? P=some (TQ (ps++more)))
  (hc:s.heap.objs.size<=c) (cr:h'.CodeRec (.ref c) q):Inv X pins σ (upd (upd H P (.tbl (ps++more))) c (Zb8 q c)) {s with heap:=h',toks:=t'}:=by
 have lt:∀ {b o},H b=some o->b<s.heap.objs.size:=fun e=>I.hok.lt e;have neC:∀ {b},b<s.heap.objs.size->b≠c:=fun e z=>by lia
 have nP:∀ {b},H b=none->b≠P:=fun n z=>by simp_all
 have up:∀ {b o},H b=some o->(b=P/\o= .tbl ps)\/(b≠P/\upd (upd H P (.tbl (ps++more))) c (Zb8 q c) b=some o):=fun {b o} e=>by
  by_cases z:b=P
  ·subst z;rw[hP]at e;cases e;simp
  ·exact .inr ⟨z,by rw[Zf (neC (lt e)),Zf z];omega⟩
 refine I.un ⟨fun b o e n _ _=>k b o (nP n) e,fun b o e n _ _=>⟨o.slots,k b o (nP n) e⟩,fun b o e n _=>by rw[Zf (neC (Qn e)),Zf (nP n)];omega,fun b o e _=>?_,fun b xs e=>?_,fun b o u e=>?_,fun b ps' e=>?_⟩ fun a o e=>?_
 ·by_cases z:b=P
  ·simp_all
  simp_all
 ·rcases up e with ⟨_,z⟩ | ⟨_,z⟩
  ·grind
  omega
 ·rcases up e with ⟨_,z⟩ | ⟨_,z⟩
  ·grind
  omega
 ·rcases up e with ⟨z1,z⟩ | ⟨_,z⟩
  ·cases z;subst z1;exact⟨more,by rw[Zf (neC (lt e)),Zc]⟩
  simp_all
 ·by_cases z:a=c
  ·subst z;rw[Zc]at e;cases e;exact ZiA cr
  rw[Zf z]at e;by_cases z2:a=P
  ·subst z2;rw[Zc]at e;cases e;exact eP
  rw[Zf z2]at e;refine(I.hok a o e).stay (fun b u hb q=>k b u ?_ q) (fun b r=>?_) fun b xs r=>?_
  ·rcases hb with rfl | hb
   ·exact z2
   ·intro z3;subst z3;rw[hP]at hb;cases hb
  ·rcases up r with ⟨_,z⟩ | ⟨_,z⟩
   ·cases z
   ·exact z
  ·rcases up r with ⟨_,z⟩ | ⟨_,z⟩
   ·cases z
   ·exact z
def Zk2 (f:Vk) (fo:Vi->Nd):HO:=.ext fun h=>∃ ct,h.get? f=some (fo ct)
theorem Zgw (e:h.get? f=some (fo ct)):ObjOk P w H h f (Zk2 f fo) :=
 ⟨⟨ct,e⟩,⟨_,e⟩,fun _ _ ⟨ct,p⟩ k=>⟨ct,k _ p⟩⟩
end
noncomputable abbrev Zk3 (X:Cx) (args:GR) (body:Expr) (scope:Scope) (cl:Vd (Vl×Vk)) (c:Vk):Vi->Nd :=
 PySem.W.kla_obj "<lambda>" (X.env.qual++("<lambda>" : Vl)) args body scope cl ((X.mg "__name__").getD .none) c
def Zn8 (X:Cx) (P:Vk) (args:GR) (body:Expr) (scope:Scope) (pos:MA) (cl:Vd (Vl×Vk)):TE:=fun _ H Q=>ZeP P (X.env.qual++("<lambda>" : Vl)) pos H /\
 ∀ f c H',ZkY P H H'->ZeP P (X.env.qual++("<lambda>" : Vl)) pos H'->H' c=some (Zb8 (X.env.qual++("<lambda>" : Vl)) c)->H' f=some (Zk2 f (Zk3 X args body scope cl c))->Q (.ref f) H'
theorem ZlE (T:Tab X.mg X.base c P) (hcd:X.env.code= .ref c) (hcl:G1 scope X.env=pure cl) (hdf:defaultsOf args X.env=([],[]):=by rfl) :
  PE X (.Lambda args body scope pos) (Zn8 X P args body scope pos cl):=by
 intro pins s σ H Q I h;obtain⟨ht,k⟩:=h;refine PySem.W.kla_eval hdf ?_;have hN:s.heap.Ns Ol X.mg:=by
  obtain⟨o,es,ep,e,r⟩:=I.ok.mod.glob;exact⟨o,es,ep,I.bk _ _ e,r⟩
 have hH:=Zc9 T.hd I.bk;have hB:=ZeL T.ba I.bk;rcases ht with ht | ⟨c',ht,hc'⟩
 ·have eP:=I.hok P _ ht;refine PySem.W.kla_makeFunction hcl I.ok.glob hN hcd hH eP VF rfl T.ng hB fun c' ctv h' tk ex hc1 hc2 cr e2=>?_;have I1:=I.table (t':=tk) ht (fun b o hb e=>ex b o hb e) e2 hc1 cr;have hf:=I.hok.fresh (QK hc1 (WK hc2));have I2:=I1.laid (h':=h'.push (Zk3 X args body scope cl c' ctv)) (t':=tk) (fun b u e=>Qc _ e) (Qg _) (Zgw (Qm _ rfl));have n1:∀ {b o},H b=some o->b≠h'.objs.size:=fun e=>Zg e hf;have n2:∀ {b o},H b=some o->b≠c':=fun e=>Zg e (I.hok.fresh hc1);refine⟨.ref h'.objs.size,_,I2,rfl,k _ c' _ (fun b o hb e=>?_) (.inr ⟨c',?_,?_⟩) ?_ Zc⟩
  ·rw[Zf (n1 e),Zf (n2 e),Zf hb];omega
  ·rw[Zf (n1 ht),Zf (n2 ht),Zc];simp
  ·rw[Zf (QB hc2),Zc]
  ·rw[Zf (QB hc2),Zc]
 ·refine PySem.W.kla_makeFunctionHit (cv:=.ref c') hcl I.ok.glob hN hcd hH (I.hok P _ ht) ?_ ?_ hB fun ctv h' tk ex hs=>?_
  ·first | exact VF | omega | omega | decide
  ·exact codeAmong_snoc [] VF rfl
  have hf:=I.hok.fresh hs;have I1:=I.kept (t':=tk) ex;have I2:=I1.laid (h':=h'.push (Zk3 X args body scope cl c' ctv)) (t':=tk) (fun b u e=>Qc _ e) (Qg _) (Zgw (Qm _ rfl));have un:∀ {b o},H b=some o->upd H h'.objs.size (Zk2 h'.objs.size (Zk3 X args body scope cl c')) b=some o:=fun {b o} e=>by
   rw[Zf (Zg e hf)];omega
  exact⟨.ref h'.objs.size,_,I2,rfl,k _ c' _ (fun b o _ e=>un e) (.inr ⟨c',un ht,un hc'⟩) (un hc') Zc⟩
abbrev Kp (h h':Vz):Prop:=∀ b o,h.get? b=some o->h'.get? b=some o
def Zck (kf:Vg->Vs) (n i:Vg):Prop:=i<n/\∀ j,j<n->kf i<=kf j/\(j<i->kf i<kf j)
section
variable {prog:Oh} {w:Oi} {A:VA} {R:GN->Vh->Prop} {it f:Vk} {fp wr:Vd Vk} {n:Vg} {Pv:Vg->Vi->Prop} {Sv:Vg->Vz->Prop} {s:Vh}
def ZiG (prog:Oh) (w:Oi) (A:VA) (s:Vh) (f:Vk) (Pv:Vg->Vi->Prop) (kf:Vg->Vs):Prop :=
 ∀ i v h tk,Pv i v->Kp s.heap h->Og (Oc prog w) A.in1 (call (.ref f) [v]) (fun u q=>∃ t h' tk',u= .int (kf i) t/\q={s with heap:=h',toks:=tk'}/\Kp h h') (fun _ _=>False) {s with heap:=h,toks:=tk}
theorem Zeu (W:LO prog w A.in1 it fp wr n Pv Sv) (kf) (hk:ZiG prog w A s f Pv kf) (B) (hB:B∉fp) (hnew:∀ b o,s.heap.get? b=some o->b∉wr/\b≠B)
  (hR:∀ i v h tk,Zck kf n i->Pv i v->Kp s.heap h->R (.ok (.ret v)) {s with heap:=h,toks:=tk}):∀ (k j i) (vb) (h) (tk) (tb) (c),j+1+k=n->Sv (j+1) h->Kp s.heap h ->
  h.get? B=some {cls:=.type "list",dict:=none,data:=.seq #[vb,.int (kf i) tb] c,slots:=#[]}->Zck kf (j+1) i->Pv i vb ->
  OB (Oc prog w) A (.builtin "min.loop" ⟨[.ref it,.ref f,.ref B],[]⟩) R {s with heap:=h,toks:=tk}:=by
 have nB:B∉wr:=fun z=>hB (W.sub _ z);intro k;induction k with
 | zero =>
  intro j i vb h tk tb c hj st kp eB hF pvb;have hj:j+1=n:=by omega
  refine Os F.entry_min_loop ?_;rw[Nk F.plain_min_loop _];show Og _ A.in1 (Lp (.ref B) >>= _) _ _ _;refine Oa (OP eB rfl ?_);refine Oa (OZ (W.done _ _ _ (hj▸st) fun h2 tk kp2=>?_));have eB2:=kp2 B _ nB eB;refine Oa ?_;refine OF eB2 rfl (Oa (GT (Ob ?_)));exact hR i vb _ tk (hj▸hF) pvb fun b o e=>(QM _ _ (Vy (hnew b o e).2)).trans (kp2 b o (hnew b o e).1 (kp b o e))
 | succ k ih =>
  intro j i vb h tk tb c hj st kp eB hF pvb;have hj:j+1<n:=Fa hj
  refine Os F.entry_min_loop ?_;rw[Nk F.plain_min_loop _];show Og _ A.in1 (Lp (.ref B) >>= _) _ _ _;refine Oa (OP eB rfl ?_);refine Oa (OZ (W.item (j+1) _ _ _ hj st fun v h2 tk2 pv st2 kp2=>?_));have eB2:=kp2 B _ nB eB;have k2:Kp s.heap h2:=fun b o e=>kp2 b o (hnew b o e).1 (kp b o e);refine Oa (OZ (Om (Oo (hk (j+1) v h2 tk2 pv k2) (fun u q hq=>?_) fun _ _ z=>z.elim)));obtain⟨tv,h3,tk3,rfl,rfl,k3⟩:=hq;have eB3:=k3 _ _ eB2;have st3:=W.frame _ _ _ st2 fun b _ o e=>k3 b o e;refine Oa (OZ (Om (Oa (CmpOf.ints_lt (prog:=prog) (w:=w) (A:=A.in1) (P:=fun z u=>∃ t,u= .int (if z=0 then kf (j+1)else kf i) t) (fun z=>if z=0 then kf (j+1)else kf i) (fun z u x=>x) 0 1 _ _ _ _ _ ⟨tv,rfl⟩ ⟨tb,rfl⟩ ?_))));refine Oa (Om (OG ?_));refine Oa (GT (Ob ?_));show Og _ A.in1 (if decide (kf (j+1)<kf i)=true then _ else _) _ _ _;by_cases hb:kf (j+1)<kf i
  ·rw[Vf (Vq hb)];refine Oa ?_;refine OF eB3 rfl (Oa (GT ?_));rw[Zi8];refine Ob ⟨Ow F.plain_min_loop _,ih (j+1) (j+1) v _ _ tv _ (Fb ‹_›) (W.frame _ _ _ st3 fun b hb2 o e=>?_) (fun b o e=>?_) (Wl _ eB3 rfl) ⟨K9,fun z hz=>?_⟩ pv⟩
   ·exact(QM _ _ (fun z:B=b=>hB (by simp_all))).trans e
   ·exact(QM _ _ (Vy (hnew b o e).2)).trans (k3 _ _ (k2 b o e))
   ·by_cases ez:z=j+1
    ·simp_all
    ·have:=(hF.2 z (by omega)).1;omega
  ·rw[if_neg (by rw[Vp hb];simp)];refine Oa (GT ?_);rw[Zi8];refine Ob ⟨Ow F.plain_min_loop _,ih (j+1) i vb _ _ tb c (Fb ‹_›) st3 (fun b o e=>k3 _ _ (k2 b o e)) eB3 ⟨by have:=hF.1;omega,fun z hz=>?_⟩ pvb⟩;by_cases ez:z=j+1
   ·subst ez;exact⟨Dg hb,fun q=>by have:=hF.1;omega⟩
   ·exact hF.2 z (by omega)
theorem Zhc
  (h:Og (Oc prog w) A.in1 (GL x) (fun iv s2=>∃ J fp wr n Pv Sv kf s0,iv= .ref J/\LO prog w A.in1 J fp wr n Pv Sv/\Sv 0 s2.heap/\(∀ b∈fp,b<s2.heap.objs.size)/\0<n/\ZiG prog w A s0 f Pv kf/\Kp s0.heap s2.heap/\(∀ b o,s0.heap.get? b=some o->b∉wr)/\s2={s0 with heap:=s2.heap,toks:=s2.toks} /\
   (∀ i v h tk,Zck kf n i->Pv i v->Kp s0.heap h->Q v {s0 with heap:=h,toks:=tk})) E s) :
  Og (Oc prog w) A (call (.builtin "min") [x] [(("key"),.ref f)]) Q E s:=by
 refine kmb_tree F.kind_min F.plain_min F.entry_min (kmk_min_key _ _) ?_;refine Oa (OO (rfl) ?_);refine Oa (Ob ?_);refine Oa (Oo h (fun iv s2 h2=>?_) fun _ _ e=>e);obtain⟨J,fp,wr,n,Pv,Sv,kf,s0,rfl,W,st,hfp,hn,hk,kp,hw,es,q1⟩:=h2;refine Oa (Ov ?_);have nB:s2.heap.objs.size∉fp:=fun hm=>Q6 _ (hfp _ hm);have nW:s2.heap.objs.size∉wr:=fun z=>nB (W.sub _ z);refine Ob ⟨Ow F.plain_min_loop _,?_⟩;generalize hB:s2.heap.objs.size=B at *;have eB:(s2.heap.push {cls:=.type "list",data:=.seq #[]}).get? B=some {cls:=.type "list",dict:=none,data:=.seq #[] 0,slots:=#[]}:=by rw[←hB];exact Qm _ rfl
 have kB:∀ b o,s2.heap.get? b=some o->(s2.heap.push {cls:=.type "list",data:=.seq #[]}).get? b=some o:=fun b o e=>Qc _ e;have hnew:∀ b o,s0.heap.get? b=some o->b∉wr/\b≠B:=fun b o e=>⟨hw b o e,by rw[←hB];exact QB (Qn (kp _ _ e))⟩
 have stp:=W.frame _ _ _ st fun b _ o e=>kB b o e;rw[es];refine Os F.entry_min_loop ?_;refine Oa (OP eB rfl ?_);refine Oa (OZ (W.item 0 _ _ _ hn stp fun v h2 tk2 pv st2 kp2=>?_));have eB2:=kp2 B _ nW eB;have k2:Kp s0.heap h2:=fun b o e=>kp2 b o (hw b o e) (kB _ _ (kp b o e));refine Oa (OZ (Om (Oo (hk 0 v h2 tk2 pv k2) (fun u q hq=>?_) fun _ _ z=>z.elim)));obtain⟨tv,h3,tk3,rfl,rfl,k3⟩:=hq;have eB3:=k3 _ _ eB2;have st3:=W.frame _ _ _ st2 fun b _ o e=>k3 b o e;refine Oa ?_;refine OF eB3 rfl ?_;refine Ob ⟨Ow F.plain_min_loop _,Zeu (s:=s0) W kf hk B nB hnew (fun i v h tk hF p kk=>q1 i v h tk hF p kk) (n-1) 0 0 v _ _ tv _ (by omega) (W.frame _ _ _ st3 fun b hb2 o e=>?_) (fun b o e=>?_) (Wl _ eB3 rfl) ⟨K9,fun z hz=>?_⟩ pv⟩
 ·exact(QM _ _ (fun z:B=b=>nB (by rw[z];omega))).trans e
 ·exact(QM _ _ (Vy (hnew b o e).2)).trans (k3 _ _ (k2 b o e))
 ·have ez:z=0:=by lia
  subst ez;lia
end
section
variable {X:Cx} {pins:Vd (Vk×Nd)} {σ:St} {H:Hp} {s:Vh} {f c cs a b C dx:Vk} {fs:Vd (Vl×V)} {sp:Vd V} {args:GR} {fld y:Vl} {scope:Scope} {p1 p2 p3 p4:MA} {Pv:Vg->Vi->Prop} {kf:Vg->Vs} {i:Vg}
structure ZmH (args:GR) (fld y:Vl) (scope:Scope) (p1 p2 p3 p4:MA):Prop where
 bind:∀ (q:Vl) (cl:Vd (Vl×Vk)) (pm cdv ct v:Vi),GO (PySem.W.kla_fn "<lambda>" q args (.Subscript (.Attribute (.Name "self" p1) fld p2) (.Name y p3) p4) scope cl pm cdv ct) ⟨[v],[]⟩=pure [(y,v)]
 kind:scope.kind= .function
 co:scope.isCoroutine=false
 gen:scope.isGenerator=false
 nc:∀ x∈scope.names,x.2≠.cell
 loc:scope.names.lookup y=some .local
 free:scope.names.lookup ("self" : Vl)=some .free
 ab:∀ env,OC (.Name "self" p1) fld env (VQ (.Name "self" p1) env)=VQ (.Name "self" p1) env
 db:(y==("__debug__" : Vl))=false
 ix:∀ o u,Gz (.Name y p3) false o u=Vb [o,u] (Gs o u)
theorem ZkI (I:Inv X pins σ H s) (L:ZmH args fld y scope p1 p2 p3 p4) (hdp:X.A.in1.depth<Gu)
  (hf:H f=some (Zk2 f (Zk3 X args (.Subscript (.Attribute (.Name "self" p1) fld p2) (.Name y p3) p4) scope [(("self"),cs)] c))) (hc:H c=some (Zb8 (X.env.qual++("<lambda>")) c))
  (hN:X.N[i]?=some "self") (hσ:σ[i]?=some (some (.ref a))) (hk:X.env.scope.names.lookup ("self" : Vl)=some .cell) (hcs:X.env.cells.lookup ("self" : Vl)=some cs)
  (ea:H a=some (.ins C dx fs)) (cl:Cls X.K C) (na:NoAttr X.K C fld) (lk:fs.lookup fld=some (.ref b)) (hb:H b=some (.lst sp))
  (hcol:∀ i v,Pv i v->∃ (col:Vs) (t:Tok),v= .int col t/\0<=col/\col<2 ^ 63/\sp[col.toNat]?=some (.int (kf i))):ZiG X.prog X.w X.A s f Pv kf:=by
 intro z v h tk pv kp;have I':Inv X pins σ H {s with heap:=h,toks:=tk}:=I.kept (t':=tk) kp;obtain⟨col,t,rfl,h0,h63,hsp⟩:=hcol z v pv;obtain⟨⟨ct,ef⟩,_⟩:=(show ObjOk X.prog X.w H h f (Zk2 f _)from I'.hok f _ hf)
 obtain⟨cr,_⟩:=(show ObjOk X.prog X.w H h c (Zb8 _ c)from I'.hok c _ hc)
 obtain⟨m,hn,hl⟩:=I'.loc;obtain⟨u,ru,lu⟩:=hl i "self" _ hN hσ (.inr (.inl hk));cases (show u= .ref a from ru);have hcell:h.IsCell cs (some (.ref a)):=by
  rcases lu with ⟨q,_⟩ | ⟨_,c2,e2,q⟩
  ·have q':X.env.scope.names.lookup ("self" : Vl)=some .local:=q
   simp_all
  simp_all
 refine GY (PySem.W.kla_callFunE hdp ef rfl L.co L.gen rfl cr (OO (L.bind _ _ _ _ _ _) ?_));refine MD L.nc (fun x hx=>?_) (fun h' hn' sb=>?_) L.kind
 ·have hx':x=(y,Nl col t):=by simp_all
  subst hx';exact L.loc
 have k1:Kp h h':=fun b o e=>(sb.2 b (QB (Qn e))).trans (Qc _ e);have I2:Inv X pins σ H {s with heap:=h',toks:=tk}:=I'.kept (t':=tk) k1;refine⟨I2.nolimit,PySem.W.kla_codeExpr (GG (Zhf (L.ab _) ?_))⟩;have cellK:h'.IsCell cs (some (.ref a)):=by
  obtain⟨o,e,r⟩:=hcell;exact⟨o,k1 _ _ e,r⟩
 refine GF (MN L.kind L.free (c:=cs) (v:=.ref a) rfl cellK ?_);obtain⟨mA,O,r,_,_,_⟩:=JS I2.hok ea;obtain⟨ub,hub,rub⟩:=RelO.some_of (v:=.ref b) (o:=mA fld) (by rw[←lk];exact r fld);cases (show ub= .ref b from rub);refine ZgP (s:={s with heap:=h',toks:=_}) I2.kIn O (cl.get fld) cl.hd na hub (ZbW (v:=.ref b) rfl) ?_;refine GF (MB (m:=fun x=>Ux x [(y,Nl col t)].reverse) (v:=.int col t) L.kind L.loc hn' ?_ ?_) L.db
 ·simp
 obtain⟨its,rv,pl,_⟩:=I2.list (show SqL X.K H b sp from .inl (.inl hb));obtain⟨uv,euv,ruv⟩:=rv.get hsp;obtain⟨t2,rfl⟩:=(show ∃ t2,uv=Nl (kf z) t2 from ruv)
 refine item_listR (items:=its.toArray) pl.isList h0 h63 (by simpa using euv) ?_ (L.ix _ _);exact⟨t2,h',_,rfl,rfl,k1⟩
def Zm0 (X:Cx) (P:Vk) (q:Vl) (lpos:MA) (fld:Vl) (i:Vg) (ta:TA):TE:=fun σ H Q=>ta σ H fun vs H1=>∃ (l a C dx b:Vk) (fs:Vd (Vl×V)) (cols:Vd Vg) (kk:Vg->Vs) (sp:Vd V),
 vs=[.ref l]/\H1 l=some (.lst (cols.map fun c=>V.int (c:Vg)))/\0<cols.length/\σ[i]?=some (some (.ref a))/\H1 a=some (.ins C dx fs)/\Cls X.K C/\NoAttr X.K C fld/\fs.lookup fld=some (.ref b)/\H1 b=some (.lst sp) /\
 (∀ c∈cols,c<2 ^ 62/\sp[c]?=some (.int (kk c)))/\ZeP P q lpos H1 /\
 ∀ j c H2,ZkY P H1 H2->ZeP P q lpos H2->Zck (fun z=>kk (cols.getD z 0)) cols.length j->cols[j]?=some c->Q (.int (c:Vg)) H2
theorem Zj9 {p pos kp lpos} (hc:X.calm=true) (hg:Gl X "min") (hm:X.mg "min" = none) (ha:PA X [e] ta) (T:Tab X.mg X.base cc P) (hcd:X.env.code= .ref cc) (hcl:G1 scope X.env=pure [(("self" : Vl),cs)])
  (L:ZmH args fld y scope p1 p2 p3 p4) (hdp:X.A.in1.depth<Gu) (hN:X.N[i]?=some "self") (hk:X.env.scope.names.lookup ("self" : Vl)=some .cell) (hcs:X.env.cells.lookup ("self" : Vl)=some cs)
  (hdf:defaultsOf args X.env=([],[]):=by rfl)
  (he:Ox pos (Oj [e] X.env)=(false,VQ e X.env)::Ox pos (Oj [] X.env):=by rfl) (hpl:(Ox pos (Oj [e] X.env)).any (·.1)=false:=by rfl) :
  PE X (.Call (.Name "min" p) [e] [⟨some "key",.Lambda args (.Subscript (.Attribute (.Name "self" p1) fld p2) (.Name y p3) p4) scope lpos,kp⟩] pos) (Zm0 X P (X.env.qual++("<lambda>")) lpos fld i ta):=by
 intro pins s σ H Q I h;refine OD (XS I hg hm ZmB ?_);refine callWith_kw (thn (ha pos pins s σ H _ I h) fun us s1 ⟨vs,H1,I1,r1,q1⟩=>?_) he hpl;obtain⟨l,a,C,dx,b,fs,cols,kk,sp,rfl,hl,hn0,hσ,ea,cl,na,lk,hb,hsp,ht,k⟩:=q1;obtain⟨u,rfl,ru⟩:=XE r1;cases ru;refine thn (Zj5 (nm:=some "key") (kpos:=kp) (ZlE (pos:=lpos) (body:=.Subscript (.Attribute (.Name "self" p1) fld p2) (.Name y p3) p4) T hcd hcl hdf) Zlw pos pins s1 σ H1 (fun zs H2=>∃ f c,zs=[.ref f]/\ZkY P H1 H2/\ZeP P (X.env.qual++("<lambda>" : Vl)) lpos H2/\H2 c=some (Zb8 (X.env.qual++("<lambda>" : Vl)) c) /\
  H2 f=some (Zk2 f (Zk3 X args (.Subscript (.Attribute (.Name "self" p1) fld p2) (.Name y p3) p4) scope [(("self" : Vl),cs)] c))) I1 ⟨ht,fun f c H2 s2 t2 e1 e2=>⟨f,c,rfl,s2,t2,e1,e2⟩⟩) fun ws s2 ⟨zs,H2,I2,r2,q2⟩=>?_
 obtain⟨f,c,rfl,hs,ht2,hc2,hf2⟩:=q2;obtain⟨dv,rfl,rd⟩:=XE r2;cases rd;have up:∀ {b:Vk} {o:HO},(∀ ps,o≠.tbl ps)->H1 b=some o->H2 b=some o:=fun {b o} no e=>hs b o (fun z=>by
  subst z;rcases ht with z | ⟨_,z,_⟩
  ·rw[z]at e;cases e;simp_all
  ·rw[z]at e;cases e;exact no _ rfl) e
 have hl2:=up (fun _ z=>by cases z) hl;show Og _ _ (call (.builtin "min") [.ref l] [(("key" : Vl),.ref f)]) _ _ s2;obtain⟨its,rv,pl,hz⟩:=I2.list (show SqL X.K H2 l _ from .inl (.inl hl2));have hln:=rv.length;rw[Qd]at hln;have hlt:l<s2.heap.objs.size:=by
  obtain⟨o,n,e,_⟩:=pl;exact Qn e
 have key:ZiG X.prog X.w X.A s2 f (fun i v=>its.toArray[i]?=some v) (fun z=>kk (cols.getD z 0)):=by
  refine ZkI I2 L hdp hf2 hc2 hN hσ hk hcs (up (fun _ z=>by cases z) ea) cl na lk (up (fun _ z=>by cases z) hb) fun z v pv=>?_;have e1:its[z]?=some v:=by simpa using pv
  have hi:z<its.length:=(Ql.mp e1).1;cases ez:cols[z]? with
  | none=>exact Vo (Wy.mp ez) (by omega)
  | some d =>
   obtain⟨u',hu,ru⟩:=rv.get (i:=z) (x:=.int (d:Vg)) (by rw[Qi,ez];rfl);rw[e1]at hu;cases hu;obtain⟨t,rfl⟩:=(show ∃ t,v=Nl (d:Vg) t from ru)
   obtain⟨h1,h2⟩:=hsp d (Q3 ez);refine⟨_,t,rfl,by omega,by omega,?_⟩;rw[Qb,ez];simpa using h2
 refine Zhc (Gb pl.isList ⟨s2.heap.objs.size,[s2.heap.objs.size,l],[s2.heap.objs.size],its.toArray.size,_,_,_,s2,rfl,Walks.list (A:=X.A.in1) (I2.ok.hd hc) _ _ (QB hlt) its.toArray,
  ⟨⟨_,Qm _ rfl,rfl,rfl⟩,pl.isList.push _⟩,?_,?_,key,fun b o e=>Qc _ e,fun b o e hm=>?_,rfl,fun j v h tk hF pv kp2=>?_⟩)
 ·intro b hb;show b<(s2.heap.push _).objs.size;rw[WF];have:b=s2.heap.objs.size\/b=l:=by simpa using hb
  rcases this with z | z
  ·rw[z];exact Uz _
  ·rw[z];exact Ub hlt
 ·simp only[Qz];omega
 ·have:b=s2.heap.objs.size:=by simpa using hm
  subst this;exact Q6 _ (Qn e)
 ·have e1:its[j]?=some v:=by simpa using pv
  have hF':Zck (fun z=>kk (cols.getD z 0)) cols.length j:=by
   have:its.toArray.size=cols.length:=by simp only[Qz];omega
   rw[this]at hF;exact hF
  cases ez:cols[j]? with
  | none=>exact Vo (Wy.mp ez) (by have:=hF'.1;omega)
  | some d =>
   obtain⟨u',hu,ru⟩:=rv.get (i:=j) (x:=.int (d:Vg)) (by rw[Qi,ez];rfl);rw[e1]at hu;cases hu;exact⟨.int (d:Vg),H2,I2.kept (t':=tk) kp2,ru,k j d H2 hs ht2 hF' ez⟩
end
theorem ZdU (n) (xs) (t) (hn:n<=Of)
  (hJ:∀ H,Same H1 H->(∀ i,i<n->J.go i H/\∀ x H',J.yld i H x H'->H'=H/\x=xs i)/\J.stop n H)
  (step:∀ i H (Qt) (Qf:Hp->Prop),i<n->Same H1 H->(t i=true->Qt (xs i) H)->(t i=false->Qf H)->g (xs i) (lcS k mp σ) H fun σ4 H4=>tc σ4 H4 fun b H5=>if b=true then te σ4 H5 Qt else Qf H5)
  (done:∀ D H',Same H1 H'->H1 D=none->H' D=some (.lst (((Qu n).filter t).map xs))->Q (.ref D) H'):JL k mp σ g tc te J H1 Q:=by
 intro D hD;refine⟨fun i m acc H=>m=n-i/\i<=n/\acc=((Qu i).filter t).map xs/\Same H1 H/\H D=some (.lst acc),⟨n,by simp,QQ _,rfl,Zb hD,Zc⟩,?_⟩;rintro i m acc H ⟨rfl,hi,rfl,hs,hDa⟩;obtain⟨j1,j2⟩:=hJ H hs;by_cases hlt:i<n
 refine .inr ⟨(j1 i hlt).1,fun x H3 y=>?_⟩;obtain⟨e1,e2⟩:=(j1 i hlt).2 x H3 y;subst e1 e2;refine step i H3 _ _ hlt hs (fun ht=>⟨hDa,?_,_,Kv hlt,rfl,hlt,?_,fun b o e=>?_,Zc⟩) (fun ht=>⟨_,Kv hlt,rfl,hlt,?_,hs,hDa⟩);rw[Qd];have:=UD t (Qu i);rw[QX]at this;lia;rw[Wz,WQ];simp[ht];rw[Zf (Zg e hD)];exact hs b o e;rw[Wz,WQ];simp[ht];have e:i=n:=Kw hi hlt
 subst e;exact .inl ⟨j2,done D H hs hD hDa⟩
theorem XT:ZnY X (fun o i H Q=>∃ p xs,∃ k:Vg,∃ z,o= .ref p/\i= .int k/\H p=some (.lst xs)/\xs[k]?=some z/\Q z H):=by
 intro pins s σ H o i ov iv Q I ro ri h;obtain⟨p,xs,k,z,rfl,rfl,hp,hz,q⟩:=h;cases ro;obtain⟨t,rfl⟩:=ri;obtain⟨its,n,r,ho,hl⟩:=I.lst hp;obtain⟨w,ew,rw'⟩:=r.get hz;have hn:=Zau;have hk:=(Ql.mp hz).1;exact wpAny_getItem_list ⟨_,ho,rfl,n,rfl⟩ Ss (by lia) (by simpa using ew) ⟨z,H,I,rw',q⟩
theorem Zke (K) (he:PE X e ta) (hb:OC e f X.env (VQ e X.env)=VQ e X.env) (h:X.K=K:=by rfl):PE X (.Attribute e f pos) (ZnP K ta f):=by
 subst h;exact ZJ he hb
end L2
namespace Sh
open PySem L2 PyProof.Rows
seal L2.PE L2.PS L2.PSs L2.PT L2.PW L2.PA L2.PI L2.PG L2.PGs L2.PO L2.PC L2.PCs L2.OpR L2.UnR L2.CallR L2.MtR L2.IxR L2.SlR
noncomputable def arr (n:Vg) (f:Vg->V):Vd V:=(Qu n).map f
theorem ZR (n) (f):(arr n f).length=n:=by unfold arr;simp
theorem Z2 (f) (h:i<n):(arr n f)[i]?=some (f i):=by
 unfold arr;rw[Qi,QY h];rfl
theorem YC (f) (h:i<n):atI (arr n f) i=some (f i):=YW (Z2 f h)
theorem Zcg (h:∀ i,i<n->f i=g i):arr n f=arr n g:=Q8 fun i hi=>h i (Qr.mp hi)
noncomputable def fup {α:Type} (f:Vg->α) (i:Vg) (x:α):Vg->α:=fun j=>if j=i then x else f j
theorem ZK (f) (i) (x:α):fup f i x i=x:=Vf rfl
theorem ZN (f) (x:α) (h:j≠i):fup f i x j=f j:=if_neg h
theorem ZkV (f) (x) (h:i<n):(arr n f).set i x=arr n (fup f i x):=by
 refine QW fun j=>?_;rw[List.getElem?_set];by_cases e:i=j
 subst e;rw[Vf rfl,ZR,Vf h,Z2 _ h,ZK];rw[if_neg e];by_cases hj:j<n
 rw[Z2 _ hj,Z2 _ hj,ZN _ _ (Vy e)];rw[Qp (by rw[ZR];exact Kf hj),Qp (by rw[ZR];exact Kf hj)]
theorem ZcD (n) (x):Qq n x=arr n fun _=>x:=by
 refine QW fun j=>?_;by_cases hj:j<n
 rw[Z2 _ hj,Wt,Vf hj];rw[Qp (by rw[Wj];exact Kf hj),Qp (by rw[ZR];exact Kf hj)]
theorem Y8 (h:j<n):ixN n j=some j:=by
 unfold ixN;rw[Vf Ss,Vf (Di h),Wc]
noncomputable def oI:Vj Vs->V
 | some k=>.int k
 | none=>.non
noncomputable def oN:Vj Vg->V
 | some k=>.int k
 | none=>.non
structure Pst where
 rp:Vg->Vs
 cp:Vg->Vs
 ra:Vg->Vj Vg
 sp:Vg->Vj Vs
 cf:Vg->Vj Vg
 re:Vg->V0
noncomputable def enc (S:Pst):Vg->Vg->V
 | 0,i=>.int (S.rp i)
 | 1,i=>.int (S.cp i)
 | 2,i=>oN (S.ra i)
 | 3,i=>oI (S.sp i)
 | 4,i=>oN (S.cf i)
 | _,i=>.bl (S.re i)
noncomputable def fnm:Vg->Vl
 | 0=>"row_prices"
 | 1=>"column_prices"
 | 2=>"row_at"
 | 3=>"spares"
 | 4=>"came_from"
 | _=>"reached"
noncomputable def Zl2:Vd Vl:=["pair_row","start_search","unreached","look_from","reach_nearest","raise_prices","pair_back"]
structure Adr where
 dx:Vk
 cst:Vk
 rows:Vd Vk
 b:Vg->Vk
 fs:Vd (Vl×V)
structure PairS (C:Vk) (m:Vg) (H:Hp) (a:Vk) (A:Adr) (n:Vg) (cost:Vg->Vg->Vs) (v:Vg->Vg->V):Prop where
 ob:H a=some (.ins C A.dx A.fs)
 lc:A.fs.lookup ("costs" : Vl)=some (.ref A.cst)
 lk:∀ k,k<m->A.fs.lookup (fnm k)=some (.ref (A.b k))
 lm:∀ x∈Zl2,A.fs.lookup x=none
 hc:H A.cst=some (.lst (A.rows.map V.ref))
 rl:A.rows.length=n
 hr:∀ i,i<n->H (A.rows.getD i 0)=some (.lst (arr n fun j=>.int (cost i j)))
 hv:∀ k,k<m->H (A.b k)=some (.lst (arr n (v k)))
 nd:∀ k k',k<m->k'<m->A.b k=A.b k'->k=k'
 nc:∀ k,k<m->A.b k≠A.cst
 nr:∀ k,k<m->A.b k∉A.rows
structure PgC (K:Ve) (mg:Vl->Vj Vi) (C:Vk):Prop where
 cl:Cls K C
 nc:NoAttr K C "costs"
 no:∀ k,k<6->NoAttr K C (fnm k)
 mgC:mg "Pairing" = some (.ref C)
def Btl (l:Vd Vk) (H H':Hp):Prop:=∀ x u,x∉l->H x=some u->H' x=some u
theorem Btl.trans (a:Btl l H H1) (b:Btl l H1 H2):Btl l H H2:=fun x u n e=>b x u n (a x u n e)
theorem Btl.of (s:Same H H'):Btl l H H':=fun x u _ e=>s x u e
theorem Btl.mono (h:Btl l H H') (s:∀ x∈l,x∈l'):Btl l' H H':=fun x u n e=>h x u (fun z=>n (s x z)) e
theorem YG (h:Btl l H H') (hx:x∈l):Btl l H (upd H' x o):=fun y u n e=>by
 rw[Zf fun z=>n (by simp_all)];exact h y u n e
section
variable {C:Vk} {m:Vg} {H H':Hp} {a:Vk} {A:Adr} {n:Vg} {cost:Vg->Vg->Vs} {v:Vg->Vg->V}
theorem PairS.put (h:PairS C m H a A n cost v) (hk:k<m) (g) (hB:Btl [A.b k] H H') (hb:H' (A.b k)=some (.lst (arr n g))):PairS C m H' a A n cost (fup v k g):=by
 have ne:∀ {x u},H x=some u->(∀ ys,u≠.lst ys)->x∉[A.b k]:=fun {x u} e nl z=>by
  rw[Qo.mp z,h.hv k hk]at e;cases e
  simp_all
 refine⟨hB _ _ (ne h.ob fun _ z=>by grind) h.ob,h.lc,h.lk,h.lm,hB _ _ (fun z=>h.nc k hk (Qo.mp z).symm) h.hc,h.rl,fun i hi=>hB _ _ (fun z=>h.nr k hk ?_) (h.hr i hi),fun j hj=>?_,h.nd,h.nc,h.nr⟩;rw[←Qo.mp z,Qb,Qa (by rw[h.rl];exact hi)];simp;by_cases e:j=k
 subst e;rw[ZK];omega;rw[ZN _ _ e];exact hB _ _ (fun z=>e (h.nd j k hj hk (Qo.mp z))) (h.hv j hj)
theorem PairS.btl (h:PairS C m H a A n cost v) (hB:Btl l H H') (hl:∀ x u,x∈l->H x=some u->(∀ ys,u≠.lst ys)/\∀ c d f,u≠.ins c d f):PairS C m H' a A n cost v:=by
 have up:∀ {x ys},H x=some (.lst ys)->H' x=some _:=fun {x ys} e=>hB _ _ (fun z=>(hl x _ z e).1 _ rfl) e;exact⟨hB _ _ (fun z=>(hl a _ z h.ob).2 _ _ _ rfl) h.ob,h.lc,h.lk,h.lm,up h.hc,h.rl,fun i hi=>up (h.hr i hi),fun j hj=>up (h.hv j hj),h.nd,h.nc,h.nr⟩
theorem PairS.same (h:PairS C m H a A n cost v) (s:Same H H'):PairS C m H' a A n cost v:=h.btl (l:=[]) (fun x u _ e=>s x u e) fun _ _ z=>nomatch z
theorem PairS.setI (h:PairS C m H a A n cost v) (hk:k<m) (hi:i<n) (x):PairS C m (upd H (A.b k) (.lst ((arr n (v k)).set i x))) a A n cost (fup v k (fup (v k) i x)) :=
 h.put hk _ (YG (fun _ _ _ e=>e) (by simp)) (by rw[Zc,ZkV _ _ hi])
end
theorem ZnA (S) (i) (x):fup (enc S) 3 (fup (enc S 3) i (oI x))=enc {S with sp:=fup S.sp i x}:=by
 funext k j
 match k with
 | 0=>rfl
 | 1=>rfl
 | 2=>rfl
 | 3 =>
  show fup (enc S) 3 _ 3 j=oI (fup S.sp i x j);rw[ZK];unfold fup;split <;> rfl
 | 4=>rfl
 | k+5=>rfl
theorem Zou (S) (i) (x):fup (enc S) 4 (fup (enc S 4) i (oN x))=enc {S with cf:=fup S.cf i x}:=by
 funext k j
 match k with
 | 0=>rfl
 | 1=>rfl
 | 2=>rfl
 | 3=>rfl
 | 4 =>
  show fup (enc S) 4 _ 4 j=oN (fup S.cf i x j);rw[ZK];unfold fup;split <;> rfl
 | k+5=>rfl
theorem ZnX (S) (i) (x):fup (enc S) 0 (fup (enc S 0) i (.int x))=enc {S with rp:=fup S.rp i x}:=by
 funext k j
 match k with
 | 0 =>
  show fup (enc S) 0 _ 0 j= .int (fup S.rp i x j);rw[ZK];unfold fup;split <;> rfl
 | 1=>rfl
 | 2=>rfl
 | 3=>rfl
 | 4=>rfl
 | k+5=>rfl
theorem Zow (S) (i) (x):fup (enc S) 1 (fup (enc S 1) i (.int x))=enc {S with cp:=fup S.cp i x}:=by
 funext k j
 match k with
 | 0=>rfl
 | 1 =>
  show fup (enc S) 1 _ 1 j= .int (fup S.cp i x j);rw[ZK];unfold fup;split <;> rfl
 | 2=>rfl
 | 3=>rfl
 | 4=>rfl
 | k+5=>rfl
theorem Zov (S) (i) (x):fup (enc S) 2 (fup (enc S 2) i (oN x))=enc {S with ra:=fup S.ra i x}:=by
 funext k j
 match k with
 | 0=>rfl
 | 1=>rfl
 | 2 =>
  show fup (enc S) 2 _ 2 j=oN (fup S.ra i x j);rw[ZK];unfold fup;split <;> rfl
 | 3=>rfl
 | 4=>rfl
 | k+5=>rfl
theorem Zot (S) (i) (x):∀ k,k<6->fup (enc S) 5 (fup (enc S 5) i (.bl x)) k=enc {S with re:=fup S.re i x} k:=by
 intro k hk
 funext j
 match k,hk with
 | 0,_=>rfl
 | 1,_=>rfl
 | 2,_=>rfl
 | 3,_=>rfl
 | 4,_=>rfl
 | 5,_ =>
  show fup (enc S) 5 _ 5 j= .bl (fup S.re i x j);rw[ZK];unfold fup;split <;> rfl
theorem PairS.ext (h:PairS C m H a A n cost v) (e:∀ k,k<m->∀ i,i<n->v k i=w k i):PairS C m H a A n cost w :=
 ⟨h.ob,h.lc,h.lk,h.lm,h.hc,h.rl,h.hr,fun k hk=>by rw[h.hv k hk,Zcg (e k hk)],h.nd,h.nc,h.nr⟩
theorem ZkR:∀ k,k<6->∀ j,j<6->fnm k=fnm j->k=j:=by decide +kernel
theorem Ziu:∀ k,k<6->∀ x∈Zl2,¬ x=fnm k:=by decide +kernel
theorem Ziv:∀ k,k<6->¬ (("costs")=fnm k):=by decide +kernel
theorem PairS.field (h:PairS C m H a A n cost v) (hm:m<6) (g) (hp1:H p1=none) (hp2:upd H p1 o1 p2=none) :
  PairS C (m+1) (upd (upd (upd H p1 o1) p2 (.lst (arr n g))) a (.ins C A.dx (Xq (fnm m) (.ref p2) A.fs))) a {A with fs:=Xq (fnm m) (.ref p2) A.fs,b:=fup A.b m p2} n cost (fup v m g):=by
 have n2:H p2=none:=by
  by_cases z:p2=p1
  ·simp_all
  ·rw[Zf z]at hp2;omega
 have up:∀ {x ys},H x=some (.lst ys)->(upd (upd (upd H p1 o1) p2 (.lst (arr n g))) a (.ins C A.dx (Xq (fnm m) (.ref p2) A.fs))) x=some (.lst ys):=fun {x ys} e=>by
  rw[Zf (ZcP e h.ob (by simp)),Zf (Zg e n2),Zf (Zg e hp1)];omega
 have apl:p2≠a:=fun z=>by rw[z,h.ob]at n2;grind
 have bk:∀ {k},k<m->fup A.b m p2 k=A.b k:=fun hk=>ZN _ _ (Tm hk);have nb:∀ {k},k<m->A.b k≠p2:=fun hk=>Zg (h.hv _ hk) n2;have cs:∀ {k},k<m+1->k<m\/k=m:=fun hk=>by lia
 refine⟨Zc,?_,fun k hk=>?_,fun x hx=>?_,up h.hc,h.rl,fun i hi=>up (h.hr i hi),fun k hk=>?_,fun k k' hk hk' e=>?_,fun k hk=>?_,fun k hk=>?_⟩
 ·rw[Yb,if_neg (Ziv m hm)];exact h.lc
 ·show(Xq _ _ _).lookup _=some (.ref (fup A.b m p2 k));rw[Yb];rcases cs hk with q | q
  ·rw[if_neg (fun z=>by have:=ZkR k (Sw hm q) m hm z;exact (K8 q this).elim),bk q];exact h.lk k q
  ·subst q;rw[Vf rfl,ZK]
 ·rw[Yb,if_neg (Ziu m hm x hx)];exact h.lm x hx
 ·rcases cs hk with q | q
  ·show upd _ _ _ (fup A.b m p2 k)=_;rw[bk q,ZN _ _ (Tm q)];exact up (h.hv k q)
  ·subst q;show upd _ _ _ (fup A.b k p2 k)=_;rw[ZK,ZK,Zf apl,Zc]
 ·have e':fup A.b m p2 k=fup A.b m p2 k':=e;rcases cs hk with q | q <;> rcases cs hk' with q' | q'
  ·rw[bk q,bk q']at e';exact h.nd k k' q q' e'
  ·subst q';rw[bk q,ZK]at e';exact Vo e' (nb q)
  ·subst q;rw[bk q',ZK]at e';exact Vo e'.symm (nb q')
  exact Dj q q'
 ·show fup A.b m p2 k≠_;rcases cs hk with q | q
  ·rw[bk q];exact h.nc k q
  ·subst q;rw[ZK];exact(Zg h.hc n2).symm
 ·show fup A.b m p2 k∉_;rcases cs hk with q | q
  ·rw[bk q];exact h.nr k q
  ·subst q;rw[ZK];intro z;obtain⟨i,hi,e⟩:=WE z;have:=h.hr i (by rw[←h.rl];omega)
   simp_all
def ZmK (A A':Adr):Prop:=A'.dx=A.dx/\A'.cst=A.cst/\A'.rows=A.rows/\(∀ k,k<3->A'.b k=A.b k)/\A'.fs.length<=A.fs.length+3
noncomputable def Jx (S:Pst):Pst:={S with sp:=fun _=>none,cf:=fun _=>none,re:=fun _=>false}
section
variable {P:Oh} {w:Oi} {K:Ve} {mg:Vl->Vj Vi} {base:Vz} {C:Vk} {cd:Vi}
noncomputable abbrev Ye (i:Vg):V7:=ZkQ (top 22) i
noncomputable def unr (n:Vg) (re:Vg->V0):Vd Vg:=(Qu n).filter fun c=>!re c
theorem Zm7:Zo ["self"] ["self"] (Zh (Ye 3)):=⟨rfl,rfl,rfl,by simp,rfl,by decide +kernel,by decide +kernel⟩
def ZjO (C:Vk):Sp:=fun vs H Q _=>∃ (a:Vk) (A:Adr) (n:Vg) (cost:Vg->Vg->Vs) (S:Pst),vs=[.ref a]/\n<=1000/\PairS C 6 H a A n cost (enc S)/\∀ D H',Same H H'->H D=none->H' D=some (.lst ((unr n S.re).map fun(c:Vg)=>V.int (c:Vg)))->Q (.ref D) H'
theorem ZlM (D:HasN K C "unreached" "Pairing.unreached" (Ye 3) ["self"] cd) (B:Blt mg) (T:PgC K mg C):MOk P w K mg base C 1 "unreached" ["self"] (ZjO C):=by
 refine D.ok Zm7 (fun vs H Q E h=>?_) fun f A outer s vs H Q E hr h=>?_
 ·obtain⟨a,A,n,cost,S,rfl,_⟩:=h;rfl
 ·obtain⟨a,Ad,n,cost,S,rfl,hn,hP,k⟩:=h;refine⟨_,(Zi (Zq (ZV (Zh (Ye 3)) ["self"] ["column"] [0] rfl (Yq rfl B.range (Za (Zk Zn rfl B.len ZQ (Za (ZJ (pv 0) rfl) Ze)) Ze)) (fun _ _ _ _ _=>YM 0)
   (fun _ _ _ _ _=>Xy (Yx (Yf (ZB (Za7 K) (Zke K (pv 1) rfl) (pv 0) fun _ _=>rfl)))) fun _ _ _ _ _=>pv 0))),?_⟩
  refine⟨_,rfl,a,C,_,_,_,rfl,hP.ob,T.cl,T.nc,hP.lc,_,_,rfl,.inl ⟨_,SqL.of hP.hc,rfl⟩,?_⟩;rw[Qd,hP.rl];refine⟨_,rfl,by lia,by lia,?_⟩;refine ZdU n _ (fun c=>!S.re c) (Zl hn) Zd0 (fun i H3 Qt Qf hi hs ht hf=>?_) fun D1 H1 s1 n1 e1=>?_
  ·have hP3:=hP.same hs;refine⟨_,rfl,a,C,_,_,_,rfl,hP3.ob,T.cl,T.no 5 (by decide),hP3.lk 5 (by decide),_,rfl,_,_,_,.bl (S.re i),rfl,rfl,SqL.of (hP3.hv 5 (by decide)),?_,_,rfl,?_⟩
   ·rw[UH];exact YC _ hi
   ·cases e:S.re i with
    | true=>exact Yu (by simp) (hf (by rw[e];rfl))
    | false=>exact Xm (by simp) ⟨_,rfl,ht (by rw[e];rfl)⟩
  ·refine k D1 H1 s1 n1 ?_;rw[e1];unfold unr;simp
theorem Zbb {P:Oh} {w:Oi} {base:Vz} {σ:L2.St} (T:PgC K mg C) (hn:n<=1000) (hσ:σ[0]?=some (some (.ref a))) (hm:m<6) (x:V) {R:Hp->Prop} (h1:PairS C m H1 a A1 n cost v1) (hl:A1.fs.length<=990)
  (kR:∀ A2 H2,A2.dx=A1.dx->A2.cst=A1.cst->A2.rows=A1.rows->(∀ k,k<m->A2.b k=A1.b k)->A2.fs.length<=A1.fs.length+1->Btl [a] H1 H2->H1 (A2.b m)=none->PairS C (m+1) H2 a A2 n cost (fup v1 m fun _=>x)->R H2) :
  1<=Of/\∀ p,H1 p=none->∃ v,σ[0]?=some (some v)/\∃ a' C' dx fs v',v= .ref a'/\upd H1 p (.lst [x]) a'=some (.ins C' dx fs)/\Cls K C'/\NoAttr K C' "costs"/\fs.lookup ("costs" : Vl)=some v'/\∃ z,∃ j:Vg,[v']=[z]/\ZmQ K z (upd H1 p (.lst [x])) j /\
     ∃ l kk xs,V.ref p= .ref l/\V.int j= .int kk/\upd H1 p (.lst [x]) l=some (.lst xs)/\-(2 ^ 63)<=kk/\kk<2 ^ 63/\xs.length*kk.toNat<=Of/\∀ p2,upd H1 p (.lst [x]) p2=none->∃ v,σ[0]?=some (some v)/\∃ a' C' dx fs,v= .ref a'/\upd (upd H1 p (.lst [x])) p2 (.lst (Qq kk.toNat xs).flatten) a'=some (.ins C' dx fs)/\Cls K C'/\NoAttr K C' (fnm m)/\fs.length<1000 /\
      R (upd (upd (upd H1 p (.lst [x])) p2 (.lst (Qq kk.toNat xs).flatten)) a' (.ins C' dx (Xq (fnm m) (.ref p2) fs))):=by
 refine⟨ZdL,fun p hp=>⟨_,hσ,a,C,_,_,_,rfl,by rw[Zf (Zg h1.ob hp)];exact h1.ob,T.cl,T.nc,h1.lc,_,A1.rows.length,rfl,.inl ⟨_,SqL.of (by rw[Zf (Zg h1.hc hp)];exact h1.hc),by rw[Qd]⟩,p,_,_,rfl,rfl,Zc,by lia,by rw[h1.rl];lia,?_,fun p2 hp2=>?_⟩⟩
 ·rw[Wc,h1.rl];exact Zl (by simp;exact hn)
 have n2:H1 p2=none:=by
  by_cases z:p2=p
  ·rw[z];exact hp
  ·rw[Zf z]at hp2;exact hp2
 refine⟨_,hσ,a,C,A1.dx,A1.fs,rfl,?_,T.cl,T.no m hm,Tl hl,?_⟩
 ·rw[Zf (Zg h1.ob n2),Zf (Zg h1.ob hp)];exact h1.ob
 rw[Wc,h1.rl,XW,ZcD];have hl2:=Yr (fnm m) (.ref p2) A1.fs;refine kR {A1 with fs:=Xq (fnm m) (.ref p2) A1.fs,b:=fup A1.b m p2} _ rfl rfl rfl (fun k hk=>ZN _ _ (Tm hk)) ?_ (fun y u hy e=>?_) ?_ (h1.field hm (fun _=>x) hp hp2)
 ·show(Xq _ _ _).length<=_;exact hl2
 ·rw[Zf (fun z=>hy (by rw[z];simp)),Zf (Zg e n2),Zf (Zg e hp)];exact e
 ·show H1 (fup A1.b m p2 m)=none;rw[ZK];exact n2
theorem ZjV:Zo ["self"] ["self"] (Zh (Ye 2)):=⟨rfl,rfl,rfl,by simp,rfl,by decide +kernel,by decide +kernel⟩
def Ze9 (C:Vk):Sp:=fun vs H Q _=>∃ (a:Vk) (A:Adr) (n:Vg) (cost:Vg->Vg->Vs) (S:Pst),vs=[.ref a]/\n<=1000/\A.fs.length<=900/\PairS C 3 H a A n cost (enc S) /\
 ∀ A' H',ZmK A A'->Btl [a] H H'->(∀ k,3<=k->k<6->H (A'.b k)=none)->PairS C 6 H' a A' n cost (enc (Jx S))->Q .non H'
theorem ZhU (D:HasN K C "start_search" "Pairing.start_search" (Ye 2) ["self"] cd) (B:Blt mg) (T:PgC K mg C):MOk P w K mg base C 1 "start_search" ["self"] (Ze9 C):=by
 refine D.ok ZjV (fun vs H Q E h=>?_) (fun f A outer s vs H Q E hr h=>?_)
 ·obtain⟨a,A,n,cost,S,rfl,_⟩:=h;rfl
 ·obtain⟨a,Ad,n,cost,S,rfl,hn,hfl,hP,k⟩:=h;refine⟨_,(Zd (JB (pv 0) (Zp Y5 (ZD (Za YH Ze)) (Zk Zn rfl B.len ZQ (Za (ZJ (pv 0) rfl) Ze))) rfl)
   (Zd (JB (pv 0) (Zp Y5 (ZD (Za YH Ze)) (Zk Zn rfl B.len ZQ (Za (ZJ (pv 0) rfl) Ze))) rfl)
   (Zi (JB (pv 0) (Zp Y5 (ZD (Za YN Ze)) (Zk Zn rfl B.len ZQ (Za (ZJ (pv 0) rfl) Ze))) rfl)))),?_⟩
  refine Zbb (P:=P) (w:=w) (base:=base) T hn rfl (m:=3) (by decide) .non hP (by lia) fun A1 H1 d1 c1 r1 b1 l1 B1 f1 P1=>?_;refine Zbb (P:=P) (w:=w) (base:=base) T hn rfl (m:=4) (by decide) .non P1 (by lia) fun A2 H2 d2 c2 r2 b2 l2 B2 f2 P2=>?_;refine Zbb (P:=P) (w:=w) (base:=base) T hn rfl (m:=5) (by decide) (.bl false) P2 (by lia) fun A3 H3 d3 c3 r3 b3 l3 B3 f3 P3=>?_;refine k A3 H3 ⟨by simp_all,by simp_all,by simp_all,fun j hj=>by rw[b3 j (by omega),b2 j (by omega),b1 j hj],by lia⟩ (B1.trans (B2.trans B3)) (fun j h3 h6=>?_) (P3.ext fun j hj i hi=>?_)
  ·have back:∀ {x},x≠a->H1 x=none->H x=none:=fun {x} hx z=>by
    cases e:H x with
    | none=>rfl
    | some u=>rw[B1 x u (by simpa using hx) e]at z;omega
   have back2:∀ {x},x≠a->H2 x=none->H1 x=none:=fun {x} hx z=>by
    cases e:H1 x with
    | none=>rfl
    | some u=>rw[B2 x u (by simpa using hx) e]at z;omega
   have na1:A1.b 3≠a:=fun z=>by rw[z,hP.ob]at f1;grind
   have na2:A2.b 4≠a:=fun z=>by rw[z,P1.ob]at f2;grind
   have na3:A3.b 5≠a:=fun z=>by rw[z,P2.ob]at f3;grind
   match j,h3,h6 with
   | 3,_,_=>simp_all
   | 4,_,_=>simp_all
   | 5,_,_=>exact back na3 (back2 na3 f3)
  ·match j,hj with
   | 0,_=>rfl
   | 1,_=>rfl
   | 2,_=>rfl
   | 3,_=>rfl
   | 4,_=>rfl
   | 5,_=>rfl
end
noncomputable def YB (o:Vj Vs) (x:Vs):V0:=match o with
 | none=>true
 | some k=>decide (x<k)
noncomputable def red (cost:Vg->Vg->Vs) (S:Pst) (r c:Vg):Vs:=cost r c-S.rp r-S.cp c
noncomputable def YO (cost:Vg->Vg->Vs) (r:Vg) (bf:Vj Vg) (l:Vd Vg) (S:Pst):Pst :=
 {S with sp:=fun c=>if decide (c∈l)&&YB (S.sp c) (red cost S r c)then some (red cost S r c)else S.sp c,cf:=fun c=>if decide (c∈l)&&YB (S.sp c) (red cost S r c)then bf else S.cf c}
noncomputable def Ym (n:Vg) (cost:Vg->Vg->Vs) (r:Vg) (bf:Vj Vg) (S:Pst):Pst:=YO cost r bf (unr n S.re) S
theorem Zgp (cost) (r) (bf) (S):YO cost r bf [] S=S:=by
 rfl
theorem ZbM (h:c∉l):(YO cost r bf l S).sp c=S.sp c/\(YO cost r bf l S).cf c=S.cf c:=by
 unfold YO;simp[h]
theorem Zie (hb:YB (S.sp c) (red cost S r c)=false):YO cost r bf (l++[c]) S=YO cost r bf l S:=by
 have e:∀ j,(decide (j∈l++[c])&&YB _ _)=(decide (j∈l)&&YB _ _):=fun j=>by
  by_cases z:j=c
  subst z;rw[hb];simp;simp[z]
 unfold YO;simp only[e]
theorem Zgo (hb:YB (S.sp c) (red cost S r c)=true) :
  YO cost r bf (l++[c]) S={YO cost r bf l S with sp:=fup (YO cost r bf l S).sp c (some (red cost S r c)),cf:=fup (YO cost r bf l S).cf c bf}:=by
 have e:∀ j,j≠c->(decide (j∈l++[c])&&YB (S.sp j) (red cost S r j))=(decide (j∈l)&&YB (S.sp j) (red cost S r j)):=fun j z=>by simp[z]
 have e2:(decide (c∈l++[c])&&YB (S.sp c) (red cost S r c))=true:=by rw[hb];simp
 unfold YO;congr 1
 funext j
 by_cases z:j=c
 subst z;rw[ZK,e2];rfl;rw[ZN _ _ z,e j z]
 funext j
 by_cases z:j=c
 subst z;rw[ZK,e2];rfl;rw[ZN _ _ z,e j z]
section
variable {P:Oh} {w:Oi} {K:Ve} {mg:Vl->Vj Vi} {base:Vz} {C:Vk} {cd:Vi}
noncomputable abbrev Znk:Vd Vl:=["self","row","before","column","spare"]
theorem scLook:Zo Znk ["self","row","before"] (Zh (Ye 4)):=⟨rfl,rfl,rfl,by decide +kernel,rfl,by decide +kernel,by decide +kernel⟩
def ZiP (C:Vk):Sp:=fun vs H Q _=>∃ (a:Vk) (A:Adr) (n:Vg) (cost:Vg->Vg->Vs) (S:Pst) (r:Vg) (bf:Vj Vg),vs=[.ref a,.int r,oN bf]/\n<=1000/\r<n/\PairS C 6 H a A n cost (enc S) /\
 ∀ H',Btl [A.b 3,A.b 4] H H'->PairS C 6 H' a A n cost (enc (Ym n cost r bf S))->Q .non H'
theorem Zkj (D:HasN K C "look_from" "Pairing.look_from" (Ye 4) ["self","row","before"] cd) (B:Blt mg) (T:PgC K mg C) (g35_:MOk P w K mg base C 1 "unreached" ["self"] (ZjO C)):MOk P w K mg base C 2 "look_from" ["self","row","before"] (ZiP C):=by
 refine D.ok scLook (fun vs H Q E h=>?_) (fun f A outer s vs H Q E hr h=>?_)
 ·obtain⟨a,A,n,cost,S,r,bf,rfl,_⟩:=h;rfl
 ·obtain⟨a,Ad,n,cost,S,r,bf,rfl,hn,hrn,hP,k⟩:=h;refine⟨_,(Zi (Z8 Vr rfl (YF (Zkc g35_ hr T.cl (pv 0))) (Zx (i:=3) scLook.nd rfl (.inl rfl))
   (Zd (Zm (i:=4) scLook.nd rfl (.inl rfl) (Zp Yy (Zp Yy (ZB ix_list (ZB ix_list (ZJ (pv 0) rfl) (pv 1) (fun _ _=>rfl)) (pv 3) (fun _ _=>rfl)) (ZB ix_list (ZJ (pv 0) rfl) (pv 1) (fun _ _=>rfl))) (ZB ix_list (ZJ (pv 0) rfl) (pv 3) (fun _ _=>rfl))))
   (Zi (Yg (PW.pt (Zae (Zw ZfZ (ZB ix_list (ZJ (pv 0) rfl) (pv 3) (fun _ _=>rfl)) YH (ZA _)) (JA (Zw ZfY (pv 4) (ZB ix_list (ZJ (pv 0) rfl) (pv 3) (fun _ _=>rfl)) (ZA _)))))
    (Zd (Zbz (pv 4) (ZdH (ZJ (pv 0) rfl) (pv 3) Yv)) (Zi (Zbz (pv 2) (ZdH (ZJ (pv 0) rfl) (pv 3) Yv)))) ZF))))),?_⟩
  refine⟨.ref a,rfl,a,_,_,rfl,hP.ob,hP.lm _ (by decide),a,Ad,n,cost,S,rfl,hn,hP,fun D1 H1 s1 nD1 hD1=>?_⟩;generalize hu:unr n S.re=u at *;have unl:∀ c∈u,c<n:=fun c hc=>by
   rw[←hu]at hc;exact Qr.mp (Q2.mp hc).1
  have und:u.Nodup:=by rw[←hu];exact Wh.filter _
  have nD:∀ k,k<6->D1≠Ad.b k:=fun k hk z=>by rw[z,hP.hv k hk]at nD1;simp_all
  refine⟨D1,rfl,⟨_,SqL.of hD1⟩,Zba (K:=K) (a:=D1) (xs:=u.map fun(c:Vg)=>V.int (c:Vg)) (fun i σ H4=>(∃ z3 z4:Vj V,σ=[some (.ref a),some (.int r),some (oN bf),z3,z4])/\H4 D1=some (.lst (u.map fun(c:Vg)=>V.int (c:Vg)))/\Btl [Ad.b 3,Ad.b 4] H H4/\PairS C 6 H4 a Ad n cost (enc (YO cost r bf (u.take i) S)))
   ⟨⟨none,none,rfl⟩,hD1,Btl.of s1,by rw[Uu,Zgp];exact hP.same s1⟩ (fun i σ H4 _ ⟨_,h,_⟩=>SqL.of h) ?_ ?_⟩
  ·rintro i x σ H4 hi ⟨⟨z3,z4,rfl⟩,hD4,B4,P4⟩;rw[Qi]at hi;obtain⟨c,hc,rfl⟩:=Wp.mp hi;have hiu:i<u.length:=(Ql.mp hc).1;have hcu:c∈u:=Q3 hc;have hcn:=unl c hcu;have hct:c∉u.take i:=fun z=>by
    obtain⟨j,hj,e⟩:=WE z;rw[QE]at hj;rw[List.getElem_take]at e;have e2:=(Ql.mp hc).2;exact Q9.mp und j i (by omega) hiu (by omega) (by lia)
   have etk:u.take (i+1)=u.take i++[c]:=by rw[List.take_succ,hc];rfl
   obtain⟨o1,o2⟩:=ZbM (cost:=cost) (r:=r) (bf:=bf) (S:=S) hct;generalize hS4:YO cost r bf (u.take i) S=S4 at *;have erp:S4.rp=S.rp:=by rw[←hS4];rfl
   have ecp:S4.cp=S.cp:=by rw[←hS4];rfl
   have hrow:=P4.hr r hrn;have hat:atI (Ad.rows.map V.ref) (r:Vs)=some (.ref (Ad.rows.getD r 0)):=YW (by
    rw[Qi,Qb,Qa (by rw[P4.rl];exact hrn)];rfl)
   have v0:enc S4 0 r= .int (S.rp r):=by show V.int (S4.rp r)=_;rw[erp]
   have v1:enc S4 1 c= .int (S.cp c):=by show V.int (S4.cp c)=_;rw[ecp]
   have v3:enc S4 3 c=oI (S.sp c):=by show oI (S4.sp c)=_;grind
   refine⟨.ref a,rfl,a,C,_,_,_,rfl,P4.ob,T.cl,T.nc,P4.lc,_,rfl,_,_,_,_,rfl,rfl,SqL.of P4.hc,hat,_,rfl,_,_,_,_,rfl,rfl,SqL.of hrow,YC _ hcn,
    .ref a,rfl,a,C,_,_,_,rfl,P4.ob,T.cl,T.no 0 (by decide),P4.lk 0 (by decide),_,rfl,_,_,_,_,rfl,rfl,SqL.of (P4.hv 0 (by decide)),YC _ hrn,_,_,rfl,v0,.ref a,rfl,a,C,_,_,_,rfl,P4.ob,T.cl,T.no 1 (by decide),P4.lk 1 (by decide),_,rfl,_,_,_,_,rfl,rfl,SqL.of (P4.hv 1 (by decide)),YC _ hcn,_,_,rfl,v1,?_⟩
   refine⟨.ref a,rfl,a,C,_,_,_,rfl,P4.ob,T.cl,T.no 3 (by decide),P4.lk 3 (by decide),_,rfl,_,_,_,_,rfl,rfl,SqL.of (P4.hv 3 (by decide)),YC _ hcn,?_⟩;rw[v3];refine⟨rfl,_,rfl,?_⟩;have go:YB (S.sp c) (red cost S r c)=true->(∃ z3 z4:Vj V,[some (V.ref a),some (.int r),some (oN bf),some (.int (c:Vg)),some (.int (red cost S r c))]=[some (.ref a),some (.int r),some (oN bf),z3,z4])/\(upd (upd H4 (Ad.b 3) (.lst ((arr n (enc S4 3)).set c (.int (red cost S r c))))) (Ad.b 4) (.lst ((arr n (enc S4 4)).set c (oN bf)))) D1=some (.lst (u.map fun(c:Vg)=>V.int (c:Vg))) /\
     Btl [Ad.b 3,Ad.b 4] H (upd (upd H4 (Ad.b 3) (.lst ((arr n (enc S4 3)).set c (.int (red cost S r c))))) (Ad.b 4) (.lst ((arr n (enc S4 4)).set c (oN bf))))/\PairS C 6 (upd (upd H4 (Ad.b 3) (.lst ((arr n (enc S4 3)).set c (.int (red cost S r c))))) (Ad.b 4) (.lst ((arr n (enc S4 4)).set c (oN bf)))) a Ad n cost (enc (YO cost r bf (u.take (i+1)) S)):=fun hb=>by
    refine⟨⟨_,_,rfl⟩,by rw[Zf (nD 4 (by decide)),Zf (nD 3 (by decide))];exact hD4,YG (YG B4 (by simp)) (by simp),?_⟩;have q:=P4.setI (k:=3) (by decide) hcn (oI (some (red cost S r c)));rw[ZnA]at q;have q2:=q.setI (k:=4) (by decide) hcn (oN bf);rw[Zou]at q2;rw[etk,Zgo hb,hS4]
    trivial
   have P5:=P4.setI (k:=3) (by decide) hcn (oI (some (red cost S r c)));rw[ZnA]at P5;cases e:S.sp c with
   | none =>
    have hb:YB (S.sp c) (red cost S r c)=true:=by rw[e];rfl
    refine Xm (by rfl) (ZmO ?_);exact⟨_,rfl,.ref a,rfl,a,C,_,_,_,rfl,P4.ob,T.cl,T.no 3 (by decide),P4.lk 3 (by decide),_,rfl,_,_,_,c,rfl,rfl,P4.hv 3 (by decide),by rw[ZR];exact Y8 hcn,
     _,rfl,.ref a,rfl,a,C,_,_,_,rfl,P5.ob,T.cl,T.no 4 (by decide),P4.lk 4 (by decide),_,rfl,_,_,_,c,rfl,rfl,P5.hv 4 (by decide),by rw[ZR];exact Y8 hcn,go hb⟩
   | some kk =>
    refine Yu (by rfl) ⟨_,rfl,.ref a,rfl,a,C,_,_,_,rfl,P4.ob,T.cl,T.no 3 (by decide),P4.lk 3 (by decide),_,rfl,_,_,_,_,rfl,rfl,SqL.of (P4.hv 3 (by decide)),YC _ hcn,_,_,rfl,v3.trans (by rw[e];rfl),_,rfl,?_⟩;cases hd:decide (red cost S r c<kk)with
    | true =>
     have hb:YB (S.sp c) (red cost S r c)=true:=by rw[e];exact hd
     refine Xm hd ?_;exact⟨_,rfl,.ref a,rfl,a,C,_,_,_,rfl,P4.ob,T.cl,T.no 3 (by decide),P4.lk 3 (by decide),_,rfl,_,_,_,c,rfl,rfl,P4.hv 3 (by decide),by rw[ZR];exact Y8 hcn,
      _,rfl,.ref a,rfl,a,C,_,_,_,rfl,P5.ob,T.cl,T.no 4 (by decide),P4.lk 4 (by decide),_,rfl,_,_,_,c,rfl,rfl,P5.hv 4 (by decide),by rw[ZR];exact Y8 hcn,go hb⟩
    | false =>
     have hb:YB (S.sp c) (red cost S r c)=false:=by rw[e];exact hd
     refine Yu hd ⟨⟨_,_,rfl⟩,hD4,B4,?_⟩;rw[etk,Zie hb,hS4];exact P4
  ·rintro σ H4 ⟨⟨z3,z4,rfl⟩,hD4,B4,P4⟩;refine k H4 B4 ?_;rw[Qd,Q5]at P4;unfold Ym;rw[hu];exact P4
end
noncomputable def rz (step:Vs) (S:Pst) (c:Vg):Pst:=match S.re c,S.ra c,S.sp c with
 | true,some r,_=>{S with rp:=fup S.rp r (S.rp r+step),cp:=fup S.cp c (S.cp c-step)}
 | false,_,some k=>{S with sp:=fup S.sp c (some (k-step))}
 | _,_,_=>S
def rzs (step:Vs) (S:Pst) (i:Vg):Pst:=(Qu i).foldl (rz step) S
noncomputable def Yp (n r:Vg) (step:Vs) (S:Pst):Pst:=rzs step {S with rp:=fup S.rp r (S.rp r+step)} n
theorem XL (step) (S) (i):rzs step S (i+1)=rz step (rzs step S i) i:=by
 unfold rzs;rw[Wz,List.foldl_append];rfl
theorem Zfx {step} (h1:S.re c=true) (h2:S.ra c=some r):rz step S c={S with rp:=fup S.rp r (S.rp r+step),cp:=fup S.cp c (S.cp c-step)}:=by
 unfold rz
 simp_all
theorem Zfv {step k} (h1:S.re c=false) (h2:S.sp c=some k):rz step S c={S with sp:=fup S.sp c (some (k-step))}:=by
 unfold rz
 simp_all
theorem Zfw (step) (S) (c):(rz step S c).re=S.re/\(rz step S c).ra=S.ra/\(rz step S c).cf=S.cf/\∀ j,j≠c->(rz step S c).sp j=S.sp j:=by
 unfold rz;split
 simp;exact⟨rfl,rfl,rfl,fun j hj=>ZN _ _ hj⟩;simp
theorem YL (step) (S):∀ i,(rzs step S i).re=S.re/\(rzs step S i).ra=S.ra/\(rzs step S i).cf=S.cf/\∀ j,i<=j->(rzs step S i).sp j=S.sp j
 | 0=>⟨rfl,rfl,rfl,fun _ _=>rfl⟩
 | i+1=>by
  obtain⟨h1,h2,h3,h4⟩:=YL step S i;obtain⟨k1,k2,k3,k4⟩:=Zfw step _ i;rw[XL];exact⟨k1.trans h1,k2.trans h2,k3.trans h3,fun j hj=>(k4 j (by lia)).trans (h4 j (Kl hj))⟩
section
variable {P:Oh} {w:Oi} {K:Ve} {mg:Vl->Vj Vi} {base:Vz} {C:Vk} {cd:Vi}
noncomputable abbrev ZlU:Vd Vl:=["self","row","step","column"]
theorem scRaise:Zo ZlU ["self","row","step"] (Zh (Ye 6)):=⟨rfl,rfl,rfl,by decide +kernel,rfl,by decide +kernel,by decide +kernel⟩
def Zfb (C:Vk):Sp:=fun vs H Q _=>∃ (a:Vk) (A:Adr) (n:Vg) (cost:Vg->Vg->Vs) (S:Pst) (r:Vg) (step:Vs),vs=[.ref a,.int r,.int step]/\n<=1000/\r<n/\PairS C 6 H a A n cost (enc S) /\
 (∀ c,c<n->S.re c=true->∃ r,r<n/\S.ra c=some r)/\(∀ c,c<n->S.re c=false->∃ k,S.sp c=some k) /\
 ∀ H',Btl [A.b 0,A.b 1,A.b 3] H H'->PairS C 6 H' a A n cost (enc (Yp n r step S))->Q .non H'
theorem ZhW (D:HasN K C "raise_prices" "Pairing.raise_prices" (Ye 6) ["self","row","step"] cd) (B:Blt mg) (T:PgC K mg C):MOk P w K mg base C 1 "raise_prices" ["self","row","step"] (Zfb C):=by
 refine D.ok scRaise (fun vs H Q E h=>?_) (fun f A outer s vs H Q E hr h=>?_)
 ·obtain⟨a,A,n,cost,S,r,step,rfl,_⟩:=h;rfl
 ·obtain⟨a,Ad,n,cost,S,r,step,rfl,hn,hrn,hP,hre,hsp,k⟩:=h;refine⟨_,(Zd (ZaU (ZJ (pv 0) rfl) (pv 1) XT (pv 2) Zjl Yv)
   (Zi (Z8 Vr rfl (Yq rfl B.range (Za (Zk Zn rfl B.len ZQ (Za (ZJ (pv 0) rfl) Ze)) Ze)) (Zx (i:=3) scRaise.nd rfl (.inl rfl))
   (Zi (Yg (Yf (ZB ix_list (ZJ (pv 0) rfl) (pv 3) (fun _ _=>rfl)))
    (Zd (ZaU (ZJ (pv 0) rfl) (ZB ix_list (ZJ (pv 0) rfl) (pv 3) (fun _ _=>rfl)) XT (pv 2) Zjl Yv) (Zi (ZaU (ZJ (pv 0) rfl) (pv 3) XT (pv 2) Zjk Yv)))
    (Zi (ZaU (ZJ (pv 0) rfl) (pv 3) XT (pv 2) Zjk Yv))))))),?_⟩
  have P1:=hP.setI (k:=0) (by decide) hrn (.int (S.rp r+step));rw[ZnX]at P1;refine⟨.ref a,rfl,a,C,_,_,_,rfl,hP.ob,T.cl,T.no 0 (by decide),hP.lk 0 (by decide),_,rfl,_,_,r,_,rfl,rfl,hP.hv 0 (by decide),Z2 _ hrn,_,rfl,_,_,rfl,rfl,_,_,_,r,rfl,rfl,hP.hv 0 (by decide),by rw[ZR];exact Y8 hrn,?_⟩;have B1:Btl [Ad.b 0,Ad.b 1,Ad.b 3] H (upd H (Ad.b 0) (.lst ((arr n (enc S 0)).set r (.int (S.rp r+step))))):=YG (fun _ _ _ e=>e) (by simp);have k':∀ H',Btl [Ad.b 0,Ad.b 1,Ad.b 3] H H'->PairS C 6 H' a Ad n cost (enc (rzs step {S with rp:=fup S.rp r (S.rp r+step)} n))->Q .non H':=k;have hre':∀ c,c<n->({S with rp:=fup S.rp r (S.rp r+step)}:Pst).re c=true->∃ r1,r1<n/\({S with rp:=fup S.rp r (S.rp r+step)}:Pst).ra c=some r1:=hre;have hsp':∀ c,c<n->({S with rp:=fup S.rp r (S.rp r+step)}:Pst).re c=false->∃ k,({S with rp:=fup S.rp r (S.rp r+step)}:Pst).sp c=some k:=hsp;generalize ({S with rp:=fup S.rp r (S.rp r+step)}:Pst)=S0 at *;refine⟨.ref a,rfl,a,C,_,_,_,rfl,P1.ob,T.cl,T.nc,P1.lc,_,_,rfl,.inl ⟨_,SqL.of P1.hc,rfl⟩,?_⟩;rw[Qd,P1.rl];refine⟨_,rfl,by lia,by omega,?_⟩;refine Y9 (fun i σ H4=>(∃ z3:Vj V,σ=[some (.ref a),some (.int r),some (.int step),z3])/\Btl [Ad.b 0,Ad.b 1,Ad.b 3] H H4/\PairS C 6 H4 a Ad n cost (enc (rzs step S0 i))) ⟨⟨none,rfl⟩,B1,P1⟩ ?_ ?_
  ·rintro i σ H4 hi ⟨⟨z3,rfl⟩,B4,P4⟩;have hi:i<n:=by lia
   obtain⟨q1,q2,q3,q4⟩:=YL step S0 i;rw[XL];generalize rzs step S0 i=S4 at *;rw[UH];refine⟨.ref a,rfl,a,C,_,_,_,rfl,P4.ob,T.cl,T.no 5 (by decide),P4.lk 5 (by decide),_,rfl,_,_,_,.bl (S4.re i),rfl,rfl,SqL.of (P4.hv 5 (by decide)),YC _ hi,_,rfl,?_⟩;cases e:S4.re i with
   | true =>
    obtain⟨r1,hr1,era⟩:=hre' i hi (by simp_all);rw[←q2]at era;have v2:enc S4 2 i= .int (r1:Vg):=by show oN (S4.ra i)=_;rw[era];rfl
    have P5:=P4.setI (k:=0) (by decide) hr1 (.int (S4.rp r1+step));rw[ZnX]at P5;have P6:=P5.setI (k:=1) (by decide) hi (.int (S4.cp i-step));have e1:=Zow ({S4 with rp:=fup S4.rp r1 (S4.rp r1+step)}:Pst) i (S4.cp i-step);rw[e1]at P6;refine ZmO ⟨.ref a,rfl,a,C,_,_,_,rfl,P4.ob,T.cl,T.no 0 (by decide),P4.lk 0 (by decide),.ref a,rfl,a,C,_,_,_,rfl,P4.ob,T.cl,T.no 2 (by decide),P4.lk 2 (by decide),_,rfl,_,_,_,_,rfl,rfl,SqL.of (P4.hv 2 (by decide)),(YC _ hi).trans (by rw[v2]),_,_,r1,_,rfl,rfl,P4.hv 0 (by decide),Z2 _ hr1,_,rfl,_,_,rfl,rfl,_,_,_,r1,rfl,rfl,P4.hv 0 (by decide),by rw[ZR];exact Y8 hr1,
     .ref a,rfl,a,C,_,_,_,rfl,P5.ob,T.cl,T.no 1 (by decide),P4.lk 1 (by decide),_,rfl,_,_,i,_,rfl,rfl,P5.hv 1 (by decide),Z2 _ hi,_,rfl,_,_,rfl,rfl,_,_,_,i,rfl,rfl,P5.hv 1 (by decide),by rw[ZR];exact Y8 hi,⟨_,rfl⟩,YG (YG B4 (by simp)) (by simp),?_⟩
    rw[Zfx e era];omega
   | false =>
    obtain⟨kk,ek⟩:=hsp' i hi (by simp_all);rw[←q4 i (Qg _)]at ek;have v3:enc S4 3 i= .int kk:=by show oI (S4.sp i)=_;rw[ek];rfl
    have P5:=P4.setI (k:=3) (by decide) hi (oI (some (kk-step)));rw[ZnA]at P5;refine Zns ⟨.ref a,rfl,a,C,_,_,_,rfl,P4.ob,T.cl,T.no 3 (by decide),P4.lk 3 (by decide),_,rfl,_,_,i,_,rfl,rfl,P4.hv 3 (by decide),(Z2 _ hi).trans (by rw[v3]),_,rfl,_,_,rfl,rfl,_,_,_,i,rfl,rfl,P4.hv 3 (by decide),by rw[ZR];exact Y8 hi,⟨_,rfl⟩,YG B4 (by simp),?_⟩;rw[Zfv e ek]
    trivial
  ·rintro σ H4 ⟨⟨z3,rfl⟩,B4,P4⟩;exact k' H4 B4 P4
end
def ChL (cf:Vg->Vj Vg):Vj Vg->Vd Vg->Prop
 | none,[]=>RK
 | some c,d::l=>c=d/\ChL cf (cf c) l
 | _,_=>False
noncomputable def ZdA (row:Vg) (ra:Vg->Vj Vg):Vj Vg->Vj Vg
 | none=>some row
 | some b=>ra b
noncomputable def YV (cf:Vg->Vj Vg) (row:Vg):Vd Vg->(Vg->Vj Vg)->Vg->Vj Vg
 | [],ra=>ra
 | c::l,ra=>YV cf row l (fup ra c (ZdA row ra (cf c)))
theorem ChL.det:∀ {o} {l l'},ChL cf o l->ChL cf o l'->l=l'
 | none,[],[],_,_=>rfl
 | none,[],_::_,_,h=>by simp[ChL]at h
 | none,_::_,_,h,_=>by simp[ChL]at h
 | some c,[],_,h,_=>by simp[ChL]at h
 | some c,_::_,[],_,h=>by simp[ChL]at h
 | some c,d::l,d'::l',h,h'=>by
  obtain⟨rfl,h1⟩:=h;obtain⟨rfl,h2⟩:=h';rw[ChL.det h1 h2]
section
variable {P:Oh} {w:Oi} {K:Ve} {mg:Vl->Vj Vi} {base:Vz} {C:Vk} {cd:Vi}
noncomputable abbrev Zno:Vd Vl:=["self","row","last","column","before"]
theorem scBack:Zo Zno ["self","row","last"] (Zh (Ye 7)):=⟨rfl,rfl,rfl,by decide +kernel,rfl,by decide +kernel,by decide +kernel⟩
def Zfh (C:Vk):Sp:=fun vs H Q _=>∃ (a:Vk) (A:Adr) (n:Vg) (cost:Vg->Vg->Vs) (S:Pst) (r last:Vg) (l:Vd Vg),vs=[.ref a,.int r,.int last]/\n<=1000/\PairS C 6 H a A n cost (enc S)/\ChL S.cf (some last) l/\(∀ c∈l,c<n) /\
 ∀ H',Btl [A.b 2] H H'->PairS C 6 H' a A n cost (enc {S with ra:=YV S.cf r l S.ra})->Q .non H'
theorem ZhX (D:HasN K C "pair_back" "Pairing.pair_back" (Ye 7) ["self","row","last"] cd) (T:PgC K mg C):MOk P w K mg base C 1 "pair_back" ["self","row","last"] (Zfh C):=by
 refine D.ok scBack (fun vs H Q E h=>?_) (fun f A outer s vs H Q E hr h=>?_)
 ·obtain⟨a,A,n,cost,S,r,last,l,rfl,_⟩:=h;rfl
 ·obtain⟨a,Ad,n,cost,S,r,last,l,rfl,hn,hP,hch,hln,k⟩:=h;refine⟨_,(Zd (Zm (i:=3) scBack.nd rfl (.inl rfl) (pv 2))
   (Zi (Xe Vr (Zw ZfX (pv 3) YH (ZA _))
   (Zd (Zm (i:=4) scBack.nd rfl (.inl rfl) (ZB ix_list (ZJ (pv 0) rfl) (pv 3) (fun _ _=>rfl)))
   (Zd (Zbz (ZhS (Zw ZfZ (pv 4) YH (ZA _)) (pv 1) (ZB ix_list (ZJ (pv 0) rfl) (pv 4) (fun _ _=>rfl))) (ZdH (ZJ (pv 0) rfl) (pv 3) Yv))
   (Zi (Zm (i:=3) scBack.nd rfl (.inl rfl) (pv 4)))))))),?_⟩
  refine⟨_,rfl,fun m σ H4=>∃ (o:Vj Vg) (l':Vd Vg) (ra':Vg->Vj Vg) (z4:Vj V),σ=[some (.ref a),some (.int r),some (.int last),some (oN o),z4]/\ChL S.cf o l'/\m=l'.length/\(∀ c∈l',c<n)/\Btl [Ad.b 2] H H4/\PairS C 6 H4 a Ad n cost (enc {S with ra:=ra'})/\YV S.cf r l' ra'=YV S.cf r l S.ra,
   ⟨l.length,some last,l,S.ra,none,rfl,hch,rfl,hln,fun _ _ _ e=>e,hP,rfl⟩,?_⟩
  rintro m σ H4 ⟨o,l',ra',z4,rfl,hc,rfl,hl',B4,P4,eq⟩;match o,l',hc with
  | none,[],_ =>
   refine⟨_,rfl,rfl,_,rfl,Yu (by rfl) (k H4 B4 ?_)⟩;rw[←eq]
   trivial
  | some c,d::l2,hc =>
   obtain⟨rfl,hc2⟩:=hc;have hcn:=hl' c Qj;have v4:enc ({S with ra:=ra'}:Pst) 4 c=oN (S.cf c):=rfl;have P5:=P4.setI (k:=2) (by decide) hcn (oN (ZdA r ra' (S.cf c)));have e2:=Zov ({S with ra:=ra'}:Pst) c (ZdA r ra' (S.cf c));rw[e2]at P5;refine⟨_,rfl,rfl,_,rfl,Xm (by rfl) ⟨_,fun σ' H' q=>q,?_⟩⟩;have fin:(upd H4 (Ad.b 2) (.lst ((arr n (enc ({S with ra:=ra'}:Pst) 2)).set c (oN (ZdA r ra' (S.cf c))))))=(upd H4 (Ad.b 2) (.lst ((arr n (enc ({S with ra:=ra'}:Pst) 2)).set c (oN (ZdA r ra' (S.cf c))))))->∃ m',m'<(c::l2).length/\∃ (o:Vj Vg) (l':Vd Vg) (ra'':Vg->Vj Vg) (z4:Vj V),[some (V.ref a),some (.int r),some (.int last),some (oN (S.cf c)),some (oN (S.cf c))]=[some (.ref a),some (.int r),some (.int last),some (oN o),z4]/\ChL S.cf o l'/\m'=l'.length/\(∀ c∈l',c<n)/\Btl [Ad.b 2] H (upd H4 (Ad.b 2) (.lst ((arr n (enc ({S with ra:=ra'}:Pst) 2)).set c (oN (ZdA r ra' (S.cf c))))))/\PairS C 6 (upd H4 (Ad.b 2) (.lst ((arr n (enc ({S with ra:=ra'}:Pst) 2)).set c (oN (ZdA r ra' (S.cf c)))))) a Ad n cost (enc {S with ra:=ra''})/\YV S.cf r l' ra''=YV S.cf r l S.ra:=fun _ =>
    ⟨l2.length,by simp,S.cf c,l2,fup ra' c (ZdA r ra' (S.cf c)),_,rfl,hc2,rfl,fun x hx=>hl' x (Qk _ hx),YG B4 (by simp),P5,eq⟩
   refine⟨.ref a,rfl,a,C,_,_,_,rfl,P4.ob,T.cl,T.no 4 (by decide),P4.lk 4 (by decide),_,rfl,_,_,_,_,rfl,rfl,SqL.of (P4.hv 4 (by decide)),(YC _ hcn).trans (VR some v4),?_⟩;refine⟨_,rfl,rfl,_,rfl,?_⟩;cases e:S.cf c with
   | none =>
    refine Xm (by rfl) ⟨_,rfl,.ref a,rfl,a,C,_,_,_,rfl,P4.ob,T.cl,T.no 2 (by decide),P4.lk 2 (by decide),_,rfl,_,_,_,c,rfl,rfl,P4.hv 2 (by decide),by rw[ZR];exact Y8 hcn,_,rfl,?_⟩;have:=fin rfl;rw[e]at this
    trivial
   | some b =>
    have hbn:b<n:=by
     rw[e]at hc2;match l2,hc2 with
     | d2::l3,hc3 =>
      obtain⟨rfl,_⟩:=hc3;exact hl' b (by simp)
    refine Yu (by rfl) ⟨.ref a,rfl,a,C,_,_,_,rfl,P4.ob,T.cl,T.no 2 (by decide),P4.lk 2 (by decide),_,rfl,_,_,_,_,rfl,rfl,SqL.of (P4.hv 2 (by decide)),YC _ hbn,.ref a,rfl,a,C,_,_,_,rfl,P4.ob,T.cl,T.no 2 (by decide),P4.lk 2 (by decide),_,rfl,_,_,_,c,rfl,rfl,P4.hv 2 (by decide),by rw[ZR];exact Y8 hcn,_,rfl,?_⟩;have:=fin rfl;rw[e]at this
    trivial
end
def Zci (n:Vg) (S:Pst) (c:Vg) (k:Vs):Prop:=c<n/\S.re c=false/\S.sp c=some k/\∀ d,d<n->S.re d=false->∃ k',S.sp d=some k'/\k<=k'/\(d<c->k<k')
noncomputable def Zl7:MA:=match ZI (Ye 5)with
 | .Assign _ (.Call _ _ [⟨_,.Lambda _ _ _ p,_⟩] _) _::_=>p
 | _=>⟨0,0,0,0⟩
noncomputable def Zom:Vl:=(("Pairing.reach_nearest" : Vl)++(".<locals>." : Vl))++("<lambda>" : Vl)
abbrev TbOk (Pt:Vk) (H:Hp):Prop:=ZeP Pt Zom Zl7 H
noncomputable def Z7 (n row c:Vg) (k:Vs) (S:Pst):Pst:={Yp n row k S with re:=fup (Yp n row k S).re c true}
section
variable {P:Oh} {w:Oi} {K:Ve} {mg:Vl->Vj Vi} {base:Vz} {C cc Pt:Vk}
noncomputable abbrev ZlT:Vd Vl:=["self","row","nearest"]
theorem scReach:Zo ZlT ["self","row"] (Zh (Ye 5)):=⟨rfl,rfl,rfl,by decide +kernel,rfl,by decide +kernel,by decide +kernel⟩
def Zfa (C Pt:Vk):Sp:=fun vs H Q _=>∃ (a:Vk) (A:Adr) (n:Vg) (cost:Vg->Vg->Vs) (S:Pst) (r:Vg),vs=[.ref a,.int r]/\n<=1000/\r<n/\PairS C 6 H a A n cost (enc S)/\TbOk Pt H /\
 (∀ c,c<n->S.re c=true->∃ r,r<n/\S.ra c=some r)/\(∀ c,c<n->S.re c=false->∃ k,S.sp c=some k)/\(∃ c,c<n/\S.re c=false) /\
 ∀ c k H',Zci n S c k->Btl [Pt,A.b 0,A.b 1,A.b 3,A.b 5] H H'->TbOk Pt H'->PairS C 6 H' a A n cost (enc (Z7 n r c k S))->Q (.int (c:Vg)) H'
theorem ZhV (D:HasN K C "reach_nearest" "Pairing.reach_nearest" (Ye 5) ["self","row"] (.ref cc)) (B:Blt mg) (T:PgC K mg C) (Tb:Tab mg base cc Pt) (g35_:MOk P w K mg base C 1 "unreached" ["self"] (ZjO C)) (g27_:MOk P w K mg base C 1 "raise_prices" ["self","row","step"] (Zfb C)) :
  MOk P w K mg base C 2 "reach_nearest" ["self","row"] (Zfa C Pt):=by
 refine D.ok scReach (fun vs H Q E h=>?_) (fun f A outer s vs H Q E hr h=>?_)
 ·obtain⟨a,A,n,cost,S,r,rfl,_⟩:=h;rfl
 ·obtain⟨a,Ad,n,cost,S,r,rfl,hn,hrn,hP,ht,hre,hsp,⟨c0,hc0,hr0⟩,k⟩:=h;refine⟨_,(Zd (Zm (i:=2) scReach.nd rfl (.inl rfl) (Zj9 (i:=0) (cs:=s.heap.objs.size+1) (P:=Pt) (cc:=cc) (fld:="spares") (y:="column") rfl rfl B.min (Za (Zkc g35_ hr T.cl (pv 0)) Ze) Tb rfl rfl ⟨fun _ _ _ _ _ _=>rfl,rfl,rfl,rfl,by simp,rfl,rfl,fun _=>rfl,by decide,fun _ _=>rfl⟩ hr.depth rfl rfl rfl))
   (Zd (ZX (Zkd g27_ hr T.cl (pv 0) (Za (pv 1) (Za (ZB ix_list (ZJ (pv 0) rfl) (pv 2) (fun _ _=>rfl)) Ze))))
   (Zd (Zbz YN (ZdH (ZJ (pv 0) rfl) (pv 2) Yv))
   (Zi (Zq (pv 2)))))),?_⟩
  refine⟨.ref a,rfl,a,_,_,rfl,hP.ob,hP.lm _ (by decide),a,Ad,n,cost,S,rfl,hn,hP,fun D1 H1 s1 nD1 hD1=>?_⟩;have P1:=hP.same s1;have t1:TbOk Pt H1:=by
   rcases ht with z | ⟨c,z,z2⟩
   ·exact .inl (s1 _ _ z)
   ·exact .inr ⟨c,s1 _ _ z,s1 _ _ z2⟩
  have mu:∀ {c},c∈unr n S.re↔c<n/\S.re c=false:=fun {c}=>by
   unfold unr;rw[Q2,Qr];simp
  refine⟨D1,a,C,_,_,_,unr n S.re,fun c=>(S.sp c).getD 0,_,rfl,hD1,Wq (mu.mpr ⟨hc0,hr0⟩),rfl,P1.ob,T.cl,T.no 3 (by decide),P1.lk 3 (by decide),P1.hv 3 (by decide),fun c hc=>?_,t1,fun j c H2 sx t2 hF ej=>?_⟩
  ·obtain⟨h1,h2⟩:=mu.mp hc;obtain⟨kk,ek⟩:=hsp c h1 h2;refine⟨by lia,(Z2 _ h1).trans ?_⟩;show some (oI (S.sp c))=some (V.int ((S.sp c).getD 0));rw[ek];rfl
  obtain⟨hcn,hcr⟩:=mu.mp (Q3 ej);obtain⟨kk,ek⟩:=hsp c hcn hcr;have gd:∀ {z d:Vg},(unr n S.re)[z]?=some d->(unr n S.re).getD z 0=d:=fun {z d} e=>by rw[Qb,e];rfl
  have hN:Zci n S c kk:=by
   refine⟨hcn,hcr,ek,fun d hd hdr=>?_⟩;obtain⟨k',ek'⟩:=hsp d hd hdr;obtain⟨z,hz,ez⟩:=WE (mu.mpr ⟨hd,hdr⟩);have ez':(unr n S.re)[z]?=some d:=by simp_all
   have q:=hF.2 z hz;simp only[gd ej,gd ez',ek,ek',WN]at q;refine⟨k',ek',q.1,fun hdc=>q.2 ?_⟩;have srt:(unr n S.re).Pairwise (· < ·):=WY.filter _;rcases WS z j with y | y | y
   ·exact y
   ·subst y;rw[ej]at ez';cases ez';exact (K7 hdc).elim
   ·have:=Q9.mp srt j z hF.1 hz y;rw[ez,(Ql.mp ej).2]at this;lia
  have npt:∀ x u,x∈[Pt]->H1 x=some u->(∀ ys,u≠.lst ys)/\∀ c d f,u≠.ins c d f:=fun x u hx e=>by
   rw[Qo.mp hx]at e;rcases t1 with z | ⟨_,z,_⟩
   ·rw[z]at e;cases e;simp
   ·rw[z]at e;cases e;simp
  have B2:Btl [Pt] H1 H2:=fun x u hx e=>sx x u (by simpa using hx) e;have P2:=P1.btl B2 npt;have v3:enc S 3 c= .int kk:=by show oI (S.sp c)=_;rw[ek];rfl
  refine⟨.ref a,rfl,a,_,_,rfl,P2.ob,P2.lm _ (by decide),_,rfl,.ref a,rfl,a,C,_,_,_,rfl,P2.ob,T.cl,T.no 3 (by decide),P2.lk 3 (by decide),_,rfl,_,_,_,_,rfl,rfl,SqL.of (P2.hv 3 (by decide)),(YC _ hcn).trans (VR some v3),a,Ad,n,cost,S,r,kk,rfl,hn,hrn,P2,hre,hsp,fun H3 B3 P3=>?_⟩;refine⟨.ref a,rfl,a,C,_,_,_,rfl,P3.ob,T.cl,T.no 5 (by decide),P3.lk 5 (by decide),_,rfl,_,_,_,c,rfl,rfl,P3.hv 5 (by decide),by rw[ZR];exact Y8 hcn,_,rfl,?_⟩;have P4:=P3.setI (k:=5) (by decide) hcn (.bl true);have npb:∀ {k},k<6->Pt≠Ad.b k:=fun {k} hk z=>by
   have:=(npt Pt _ (by simp) (by rw[z];exact P1.hv k hk)).1 _ rfl;omega
  have t3:TbOk Pt (upd H3 (Ad.b 5) (.lst ((arr n (enc (Yp n r kk S) 5)).set c (.bl true)))):=by
   have nb:∀ {x u},H2 x=some u->(∀ ys,u≠.lst ys)->x∉[Ad.b 0,Ad.b 1,Ad.b 3]/\x≠Ad.b 5:=fun {x u} e no=>by
    have q:∀ {k},k<6->x≠Ad.b k:=fun {k} hk z=>by rw[z,P2.hv k hk]at e;cases e;exact no _ rfl
    refine⟨fun z=>?_,q (by decide)⟩;simp only[Qs,Q4,or_false]at z;rcases z with z | z | z
    ·exact q (by decide) z
    ·exact q (by decide) z
    ·exact q (by decide) z
   have up:∀ {x u},H2 x=some u->(∀ ys,u≠.lst ys)->upd H3 (Ad.b 5) (.lst ((arr n (enc (Yp n r kk S) 5)).set c (.bl true))) x=some u:=fun {x u} e no=>by
    rw[Zf (nb e no).2];exact B3 x u (nb e no).1 e
   rcases t2 with z | ⟨c',z,z2⟩
   ·exact .inl (up z fun _ y=>by cases y)
   ·exact .inr ⟨c',up z fun _ y=>(by cases y),up z2 fun _ y=>(by cases y)⟩
  refine k c kk _ hN (YG ((Btl.of s1).trans ((B2.mono (by simp)).trans (B3.mono ?_))) (by simp)) t3 (P4.ext fun k' hk' i hi=>?_)
  ·intro x hx;simp only[Qs,Q4,or_false]at hx ⊢;rcases hx with z | z | z
   ·exact .inr (.inl z)
   ·exact .inr (.inr (.inl z))
   ·exact .inr (.inr (.inr (.inl z)))
  ·rw[Zot _ _ _ k' hk'];rfl
end
section
variable {n row:Vg} {cost:Vg->Vg->Vs} {S:Pst} {step:Vs}
def Zn0 (n:Vg) (ra:Vg->Vj Vg):Prop:=∀ c d r,c<n->d<n->ra c=some r->ra d=some r->c=d
theorem Zdy (h:S.re c=false):(rz step S c).rp=S.rp/\(rz step S c).cp=S.cp:=by
 unfold rz
 grind
theorem ZjZ (h:S.re c=true):(rz step S c).sp=S.sp:=by
 unfold rz
 grind
theorem ZaF (h:S.re i=true->S.ra i≠some r):(∃ c,c<i+1/\S.re c=true/\S.ra c=some r)↔∃ c,c<i/\S.re c=true/\S.ra c=some r:=by
 constructor;rintro⟨c,h1,h2,h3⟩;by_cases e:c=i
 simp_all
 exact⟨c,Tk h1 e,h2,h3⟩;rintro⟨c,h1,h2⟩;exact⟨c,Xo h1,h2⟩
theorem ZiV (inj:Zn0 n S.ra) (hre:∀ c,c<n->S.re c=true->∃ r,S.ra c=some r):∀ i,i<=n->∀ r,((∃ c,c<i/\S.re c=true/\S.ra c=some r)->(rzs step S i).rp r=S.rp r+step)/\((¬ ∃ c,c<i/\S.re c=true/\S.ra c=some r)->(rzs step S i).rp r=S.rp r)
 | 0,_,r=>⟨fun⟨c,h,_⟩=>Vo h (Wo _),fun _=>rfl⟩
 | i+1,hi,r=>by
  obtain⟨ih1,ih2⟩:=ZiV inj hre i (Kl hi) r;obtain⟨k1,k2,_,_⟩:=YL step S i;rw[XL];cases e:S.re i with
  | true =>
   obtain⟨r0,e0⟩:=hre i hi e;rw[Zfx (by simp_all) (by rw[k2];omega)];by_cases z:r=r0
   ·subst z;have no:¬ ∃ c,c<i/\S.re c=true/\S.ra c=some r:=fun⟨c,h1,_,h3⟩=>by
     have:=inj c i r (by lia) (by lia) h3 e0;lia
    refine⟨fun _=>?_,fun h=>Vo ⟨i,K9,e,e0⟩ h⟩;show fup _ r _ r=_;rw[ZK,ih2 no]
   ·have eq:=ZaF (S:=S) (i:=i) (r:=r) fun _ q=>by simp_all
    rw[eq];show(_->fup _ r0 _ r=_)/\(_->fup _ r0 _ r=_);rw[ZN _ _ z];exact⟨ih1,ih2⟩
  | false =>
   have eq:=ZaF (S:=S) (i:=i) (r:=r) fun q=>by rw[e]at q;cases q
   rw[eq];rw[(Zdy (by simp_all)).1];exact⟨ih1,ih2⟩
theorem ZiW (hre:∀ c,c<n->S.re c=true->∃ r,S.ra c=some r):∀ i,i<=n->∀ c,(c<i->S.re c=true->(rzs step S i).cp c=S.cp c-step)/\((c<i->S.re c=false)->(rzs step S i).cp c=S.cp c)
 | 0,_,c=>⟨fun h=>Vo h (Wo _),fun _=>rfl⟩
 | i+1,hi,c=>by
  obtain⟨ih1,ih2⟩:=ZiW hre i (Kl hi) c;obtain⟨k1,k2,_,_⟩:=YL step S i;rw[XL];cases e:S.re i with
  | true =>
   obtain⟨r0,e0⟩:=hre i hi e;rw[Zfx (by simp_all) (by rw[k2];omega)];show(_->_->fup _ i _ c=_)/\(_->fup _ i _ c=_);by_cases z:c=i
   subst z;rw[ZK,ih2 fun h=>Vo h (Q6 _)];exact⟨fun _ _=>rfl,fun h=>by simp_all⟩;rw[ZN _ _ z]
   grind
  | false =>
   rw[(Zdy (by simp_all)).2];refine⟨fun h hc=>?_,fun h=>ih2 fun q=>h (Xo q)⟩;by_cases z:c=i
   simp_all
   exact ih1 (Tk h z) hc
theorem ZiU:∀ i,i<=n->∀ c,(c<i->S.re c=false->∀ k,S.sp c=some k->(rzs step S i).sp c=some (k-step))/\(S.re c=true->(rzs step S i).sp c=S.sp c)
 | 0,_,c=>⟨fun h=>Vo h (Wo _),fun _=>rfl⟩
 | i+1,hi,c=>by
  obtain⟨ih1,ih2⟩:=ZiU i (Kl hi) c;obtain⟨k1,k2,_,k4⟩:=YL step S i;obtain⟨_,_,_,j4⟩:=Zfw step _ i;rw[XL];by_cases z:c=i
  subst z;refine⟨fun _ hc k hk=>?_,fun hc=>?_⟩;rw[Zfv (by simp_all) (by rw[k4 c (Qg _)];omega)];exact ZK _ _ _;rw[ZjZ (by simp_all)]
  simp_all
  rw[j4 c z];exact⟨fun h=>ih1 (Tk h z),ih2⟩
def Tree (n row:Vg) (S:Pst) (r:Vg):Prop:=r=row\/∃ c,c<n/\S.re c=true/\S.ra c=some r
structure Mat (n:Vg) (cost:Vg->Vg->Vs) (row:Vg) (S:Pst):Prop where
 feas:∀ i j,i<n->j<n->0<=red cost S i j
 tight:∀ j i,j<n->S.ra j=some i->i<row/\red cost S i j=0
 inj:Zn0 n S.ra
 all:∀ i,i<row->∃ j,j<n/\S.ra j=some i
structure Sea (n:Vg) (cost:Vg->Vg->Vs) (row:Vg) (S:Pst) (rk:Vg->Vg) (t:Vg):Prop where
 mat:Mat n cost row S
 hre:∀ c,c<n->S.re c=true->∃ r,r<row/\S.ra c=some r
 sp:∀ c,c<n->S.re c=false->∃ k r,S.sp c=some k/\ZdA row S.ra (S.cf c)=some r/\Tree n row S r/\red cost S r c=k/\(∀ r',Tree n row S r'->k<=red cost S r' c)/\∀ b,S.cf c=some b->b<n/\S.re b=true
 rt:∀ c,c<n->S.re c=true->rk c<t/\∃ r,ZdA row S.ra (S.cf c)=some r/\Tree n row S r/\red cost S r c=0/\∀ b,S.cf c=some b->b<n/\S.re b=true/\rk b<rk c
structure Rea (n:Vg) (cost:Vg->Vg->Vs) (row:Vg) (S:Pst) (rk:Vg->Vg) (t c:Vg):Prop where
 mat:Mat n cost row S
 hc:c<n
 rc:S.re c=true
 hre:∀ d,d<n->S.re d=true->d≠c->∃ r,r<row/\S.ra d=some r
 sp:∀ d,d<n->S.re d=false->∃ k r,S.sp d=some k/\ZdA row S.ra (S.cf d)=some r/\Tree n row S r/\red cost S r d=k/\(∀ r',Tree n row S r'->(∀ q,S.ra c=some q->r'≠q)->k<=red cost S r' d)/\∀ b,S.cf d=some b->b<n/\S.re b=true
 rt:∀ d,d<n->S.re d=true->rk d<t/\∃ r,ZdA row S.ra (S.cf d)=some r/\Tree n row S r/\red cost S r d=0/\∀ b,S.cf d=some b->b<n/\S.re b=true/\rk b<rk d
theorem Tree.lt (h:Mat n cost row S) (hr:row<n) (t:Tree n row S r):r<n:=by
 rcases t with rfl | ⟨c,h1,_,h3⟩
 exact hr;have:=(h.tight c r h1 h3).1;exact Sw hr this
theorem Zkl (h:Sea n cost row S rk t) (hr:row<n):∃ c,c<n/\S.re c=false:=by
 by_cases z:∃ c,c<n/\S.re c=false
 omega;have al:=fun c hc=>h.hre c hc (by
  simp_all)
 have nd:((Qu n).map fun c=>(S.ra c).getD 0).Nodup:=by
  refine Wr.mpr (Nv (fun {x y} hx hy q e=>?_) WY);have⟨r1,_,e1⟩:=al x (Qr.mp hx);have⟨r2,_,e2⟩:=al y (Qr.mp hy);rw[e1,e2]at e;cases e;have:=h.mat.inj x y r1 (Qr.mp hx) (Qr.mp hy) e1 e2;exact (K8 q this).elim
 have:=JG nd fun x hx=>by
  obtain⟨c,hc,rfl⟩:=QP.mp hx;have⟨r1,h1,e1⟩:=al c (Qr.mp hc);rw[e1];exact Qr.mpr h1
 rw[Qd,QX,QX]at this;exact (Ez this hr).elim
theorem Zbx (h:Mat n cost row S):Sea n cost row (Ym n cost row none (Jx S)) (fun _=>0) 0:=by
 have mem:∀ {c},c<n->c∈unr n (Jx S).re:=fun {c} hc=>Q2.mpr ⟨Qr.mpr hc,rfl⟩;have hs:∀ {c},c<n->(Ym n cost row none (Jx S)).sp c=some _/\(Ym n cost row none (Jx S)).cf c=none:=fun {c} hc=>by
  unfold Ym YO;simp only[mem hc,decide_true,RH];exact⟨rfl,rfl⟩
 refine⟨⟨h.feas,h.tight,h.inj,h.all⟩,fun c _ hc=>(by cases hc),fun c hc _=>?_,fun c _ hc=>by cases hc⟩;obtain⟨e1,e2⟩:=hs hc;refine⟨_,row,e1,by rw[e2];rfl,.inl rfl,rfl,fun r' t=>?_,fun b hb=>by simp_all⟩;rcases t with rfl | ⟨d,_,q,_⟩
 exact U5 _;cases q
end
section
variable {n row:Vg} {cost:Vg->Vg->Vs} {S:Pst} {step:Vs} {rk:Vg->Vg} {t:Vg}
theorem ZcE (h:Sea n cost row S rk t) (hr:row<n):(Yp n row step S).re=S.re/\(Yp n row step S).ra=S.ra/\(Yp n row step S).cf=S.cf /\
  (∀ r,Tree n row S r->(Yp n row step S).rp r=S.rp r+step)/\(∀ r,¬ Tree n row S r->(Yp n row step S).rp r=S.rp r) /\
  (∀ c,c<n->S.re c=true->(Yp n row step S).cp c=S.cp c-step)/\(∀ c,c<n->S.re c=false->(Yp n row step S).cp c=S.cp c) /\
  (∀ c,c<n->S.re c=false->∀ k,S.sp c=some k->(Yp n row step S).sp c=some (k-step)):=by
 have hre:∀ c,c<n->S.re c=true->∃ r,S.ra c=some r:=fun c h1 h2=>let ⟨r,_,e⟩:=h.hre c h1 h2;⟨r,e⟩;have nrow:¬ ∃ c,c<n/\S.re c=true/\S.ra c=some row:=fun⟨c,h1,_,h3⟩=>Q6 _ (h.mat.tight c row h1 h3).1;obtain⟨k1,k2,k3,_⟩:=YL step _ n;have rp:=ZiV (step:=step) (S:={S with rp:=fup S.rp row (S.rp row+step)}) h.mat.inj hre n (Qg _);have cp:=ZiW (step:=step) (S:={S with rp:=fup S.rp row (S.rp row+step)}) hre n (Qg _);refine⟨k1,k2,k3,fun r tr=>?_,fun r tr=>?_,fun c h1 h2=>(cp c).1 h1 h2,fun c h1 h2=>(cp c).2 fun _=>h2,fun c h1 h2 k hk=>((ZiU (step:=step) (S:={S with rp:=fup S.rp row (S.rp row+step)}) n (Qg _)) c).1 h1 h2 k hk⟩;by_cases z:r=row
 subst z;refine((rp r).2 nrow).trans ?_;show fup S.rp r _ r=_;rw[ZK];rcases tr with q | q
 lia;refine((rp r).1 q).trans ?_;show fup S.rp row _ r+step=_;rw[ZN _ _ z];refine((rp r).2 fun q=>tr (.inr q)).trans ?_;show fup S.rp row _ r=_;rw[ZN _ _ fun z=>tr (.inl z)]
theorem Zby (h:Sea n cost row S rk t) (hr:row<n) (hN:Zci n S c k):Rea n cost row (Z7 n row c k S) (fup rk c t) (t+1) c:=by
 obtain⟨hc,hcr,hck,hcm⟩:=hN;obtain⟨f1,f2,f3,f4,f5,f6,f7,f8⟩:=ZcE (step:=k) h hr;obtain⟨k0,r0,s1,s2,s3,s4,s5,s6⟩:=h.sp c hc hcr;rw[hck]at s1;cases s1;have r0n:=s3.lt h.mat hr;have k_nn:0<=k:=by rw[←s4];exact h.mat.feas r0 c r0n hc
 generalize hS1:Yp n row k S=S1 at *;have era:(Z7 n row c k S).ra=S.ra:=by unfold Z7;rw[hS1];omega
 have ecf:(Z7 n row c k S).cf=S.cf:=by unfold Z7;rw[hS1];omega
 have ere:(Z7 n row c k S).re=fup S.re c true:=by unfold Z7;rw[hS1];show fup S1.re c true=_;grind
 have esp:(Z7 n row c k S).sp=S1.sp:=by unfold Z7;rw[hS1]
 have ered:∀ r d,red cost (Z7 n row c k S) r d=red cost S1 r d:=fun r d=>by unfold Z7;rw[hS1];rfl
 have rTT:∀ {r d},d<n->Tree n row S r->S.re d=true->red cost S1 r d=red cost S r d:=fun {r d} hd tr hd2=>by
  unfold red;rw[f4 r tr,f6 d hd hd2];lia
 have rTF:∀ {r d},d<n->Tree n row S r->S.re d=false->red cost S1 r d=red cost S r d-k:=fun {r d} hd tr hd2=>by
  unfold red;rw[f4 r tr,f7 d hd hd2];lia
 have rFT:∀ {r d},d<n->¬ Tree n row S r->S.re d=true->red cost S1 r d=red cost S r d+k:=fun {r d} hd tr hd2=>by
  unfold red;rw[f5 r tr,f6 d hd hd2];lia
 have rFF:∀ {r d},d<n->¬ Tree n row S r->S.re d=false->red cost S1 r d=red cost S r d:=fun {r d} hd tr hd2=>by
  unfold red;simp_all
 have treeU:∀ {r},Tree n row S r->Tree n row (Z7 n row c k S) r:=fun {r} tr=>by
  rcases tr with q | ⟨d,h1,h2,h3⟩
  ·exact .inl q
  ·refine .inr ⟨d,h1,?_,by simp_all⟩;rw[ere];by_cases z:d=c
   ·simp_all
   ·rw[ZN _ _ z];exact h2
 have treeD:∀ {r},Tree n row (Z7 n row c k S) r->(∀ q,S.ra c=some q->r≠q)->Tree n row S r:=fun {r} tr nq=>by
  rcases tr with q | ⟨d,h1,h2,h3⟩
  ·exact .inl q
  ·rw[era]at h3;rw[ere]at h2;by_cases z:d=c
   ·rw[z]at h3;exact Vo rfl (nq r h3)
   ·rw[ZN _ _ z]at h2;exact .inr ⟨d,h1,h2,h3⟩
 refine⟨⟨fun i j hi hj=>?_,fun j i hj e=>?_,by rw[era];exact h.mat.inj,fun i hi=>by rw[era];exact h.mat.all i hi⟩,hc,by rw[ere,ZK],fun d hd hd2 hdc=>?_,fun d hd hd2=>?_,fun d hd hd2=>?_⟩
 ·rw[ered];have q:=h.mat.feas i j hi hj;by_cases ti:Tree n row S i
  ·cases ej:S.re j with
   | true=>rw[rTT hj ti ej];exact q
   | false =>
    rw[rTF hj ti ej];obtain⟨k',_,g1,_,_,_,g5,_⟩:=h.sp j hj ej;obtain⟨k2,g1',g2,_⟩:=hcm j hj ej;rw[g1]at g1';cases g1';have:=g5 i ti;lia
  ·cases ej:S.re j with
   | true=>rw[rFT hj ti ej];lia
   | false=>rw[rFF hj ti ej];exact q
 ·rw[era]at e;obtain⟨g1,g2⟩:=h.mat.tight j i hj e;refine⟨g1,?_⟩;rw[ered];cases ej:S.re j with
  | true=>rw[rTT hj (.inr ⟨j,hj,ej,e⟩) ej];exact g2
  | false =>
   rw[rFF hj ?_ ej]
   ·exact g2
   ·rintro(z | ⟨d,h1,h2,h3⟩)
    ·exact (K8 g1 z).elim
    ·have:=h.mat.inj d j i h1 hj h3 e;rw[this,ej]at h2;cases h2
 ·rw[ere,ZN _ _ hdc]at hd2;rw[era];exact h.hre d hd hd2
 ·have hdc:d≠c:=fun z=>by rw[z,ere,ZK]at hd2;cases hd2
  rw[ere,ZN _ _ hdc]at hd2;obtain⟨kd,r,g1,g2,g3,g4,g5,g6⟩:=h.sp d hd hd2;refine⟨kd-k,r,by rw[esp];exact f8 d hd hd2 kd g1,by rw[era,ecf];exact g2,treeU g3,by rw[ered,rTF hd g3 hd2,g4],fun r' tr nq=>?_,fun b hb=>?_⟩
  ·have tr':=treeD tr (by rw[era]at nq;exact nq);rw[ered,rTF hd tr' hd2];have:=g5 r' tr';lia
  ·rw[ecf]at hb;obtain⟨q1,q2⟩:=g6 b hb;refine⟨q1,?_⟩;rw[ere];by_cases z:b=c
   ·rw[z,ZK]
   ·rw[ZN _ _ z];exact q2
 ·by_cases hdc:d=c
  ·subst hdc;refine⟨by rw[ZK];exact K9,r0,by rw[era,ecf];exact s2,treeU s3,by rw[ered,rTF hd s3 hcr,s4];lia,fun b hb=>?_⟩;rw[ecf]at hb;obtain⟨q1,q2⟩:=s6 b hb;have z:b≠d:=fun z=>by rw[z,hcr]at q2;cases q2
   refine⟨q1,by rw[ere,ZN _ _ z];exact q2,?_⟩;rw[ZN _ _ z,ZK];exact(h.rt b q1 q2).1
  ·rw[ere,ZN _ _ hdc]at hd2;obtain⟨g0,r,g1,g2,g3,g4⟩:=h.rt d hd hd2;refine⟨by rw[ZN _ _ hdc];exact Xo g0,r,by rw[era,ecf];exact g1,treeU g2,by rw[ered,rTT hd g2 hd2];exact g3,fun b hb=>?_⟩;rw[ecf]at hb;obtain⟨q1,q2,q3⟩:=g4 b hb;have z:b≠c:=fun z=>by rw[z,hcr]at q2;cases q2
   exact⟨q1,by rw[ere,ZN _ _ z];exact q2,by rw[ZN _ _ z,ZN _ _ hdc];exact q3⟩
theorem ZdC (h:Rea n cost row S rk t c) (hr:S.ra c=some r):Sea n cost row (Ym n cost r (some c) S) rk t:=by
 have tr:Tree n row S r:=.inr ⟨c,h.hc,h.rc,hr⟩;have mem:∀ {d},d<n->S.re d=false->d∈unr n S.re:=fun {d} hd hd2=>by
  exact Q2.mpr ⟨Qr.mpr hd,by rw[hd2];rfl⟩
 have nmem:∀ {d},S.re d=true->d∉unr n S.re:=fun {d} hd2 z=>by
  unfold unr at z
  simp_all
 refine⟨⟨h.mat.feas,h.mat.tight,h.mat.inj,h.mat.all⟩,fun d hd hd2=>?_,fun d hd hd2=>?_,fun d hd hd2=>?_⟩
 ·by_cases z:d=c
  ·rw[z];exact⟨r,(h.mat.tight c r h.hc hr).1,hr⟩
  ·exact h.hre d hd hd2 z
 ·have hd2':S.re d=false:=hd2;obtain⟨kd,r0,g1,g2,g3,g4,g5,g6⟩:=h.sp d hd hd2';cases hb:YB (S.sp d) (red cost S r d)with
  | true =>
   have e1:(Ym n cost r (some c) S).sp d=some (red cost S r d)/\(Ym n cost r (some c) S).cf d=some c:=by
    unfold Ym YO;simp only[mem hd hd2',decide_true,RH,hb];simp
   refine⟨_,r,e1.1,by rw[e1.2];trivial,tr,rfl,fun r' tr'=>?_,fun b e=>?_⟩
   ·by_cases z:r'=r
    ·rw[z];exact U5 _
    ·have q:=g5 r' tr' (fun q e=>by rw[hr]at e;cases e;exact z);rw[g1]at hb;have:=V4 hb;show red cost S r d<=red cost S r' d;lia
   ·rw[e1.2]at e;cases e;exact⟨h.hc,h.rc⟩
  | false =>
   have e1:(Ym n cost r (some c) S).sp d=S.sp d/\(Ym n cost r (some c) S).cf d=S.cf d:=by
    unfold Ym YO;simp only[hb,Bool.and_false];simp
   refine⟨kd,r0,by simp_all,by rw[e1.2];trivial,g3,g4,fun r' tr'=>?_,fun b e=>?_⟩
   ·by_cases z:r'=r
    ·rw[g1]at hb;have:=of_decide_eq_false hb;rw[z];show kd<=red cost S r d;exact Dg this
    ·exact g5 r' tr' (fun q e=>by rw[hr]at e;cases e;exact z)
   ·rw[e1.2]at e;exact g6 b e
 ·have hd2':S.re d=true:=hd2;have e1:(Ym n cost r (some c) S).cf d=S.cf d:=(ZbM (nmem hd2')).2;obtain⟨g0,r0,g1,g2,g3,g4⟩:=h.rt d hd hd2';refine⟨g0,r0,by rw[e1];trivial,g2,g3,fun b e=>?_⟩;rw[e1]at e;exact g4 b e
end
section
variable {n row:Vg} {cost:Vg->Vg->Vs} {S:Pst} {rk:Vg->Vg} {t c:Vg}
theorem Zbf:∀ {o} {l},ChL cf o l->∀ x∈l,∀ b,cf x=some b->b∈l
 | none,[],_,x,hx,_,_=>by simp at hx
 | some c,d::l,h,x,hx,b,e=>by
  obtain⟨rfl,h2⟩:=h;rcases Qs.mp hx with rfl | hx
  rw[e]at h2;match l,h2 with
  | d2::l2,h3 =>
   obtain⟨rfl,_⟩:=h3;simp
  exact Qk _ (Zbf h2 x hx b e)
theorem ch_prev:∀ {o} {l},ChL cf o l->∀ j∈l,o=some j\/∃ x∈l,cf x=some j
 | none,[],_,x,hx=>by simp at hx
 | some c,d::l,h,j,hj=>by
  obtain⟨rfl,h2⟩:=h;rcases Qs.mp hj with rfl | hj
  simp;rcases ch_prev h2 j hj with e | ⟨x,hx,e⟩
  exact .inr ⟨c,Qj,e⟩;exact .inr ⟨x,Qk _ hx,e⟩
theorem Zg8:∀ {o} {l},ChL cf o l->o≠none->∃ x∈l,cf x=none
 | none,[],_,h=>Vo rfl h
 | some c,d::l,h,_=>by
  obtain⟨rfl,h2⟩:=h;cases e:cf c with
  | none=>exact⟨c,Qj,e⟩
  | some b =>
   obtain⟨x,hx,q⟩:=Zg8 h2 (by rw[e];simp);exact⟨x,Qk _ hx,q⟩
theorem Zjt:∀ {o} {l},ChL cf o l->l.Nodup->∀ x∈l,∀ y∈l,cf x=cf y->x=y
 | none,[],_,_,x,hx,_,_,_=>by simp_all
 | some c,d::l,h,nd,x,hx,y,hy,e=>by
  obtain⟨rfl,h2⟩:=h;have⟨nd1,nd2⟩:=QU.mp nd
  -- what the head leads to is led to by nothing of the tail
  have key:∀ z∈l,cf c≠cf z:=fun z hz q=>by
   cases e1:cf c with
   | none =>
    rw[e1]at h2;match l,h2 with
    | [],_=>simp_all
   | some b =>
    rw[e1]at h2 q;match l,h2,nd2,hz with
    | d2::l2,h3,nd3,hz =>
     obtain⟨rfl,h4⟩:=h3;have⟨m1,m2⟩:=QU.mp nd3;rcases Qs.mp hz with rfl | hz
     rw[←q]at h4;match l2,h4 with
     | d3::l3,h5 =>
      obtain⟨rfl,_⟩:=h5
      simp_all
     exact m1 (Zbf h4 z hz b q.symm)
  rcases Qs.mp hx with ex | hx1
  rcases Qs.mp hy with ey | hy1
  exact Dj ex ey
  simp_all
  rcases Qs.mp hy with ey | hy1
  rw[ey]at e;exact Vo e.symm (key x hx1);exact Zjt h2 nd2 x hx1 y hy1 e
theorem Zhe:∀ {o} {l} {ra},ChL cf o l->l.Nodup->(∀ x∈l,YV cf row l ra x=ZdA row ra (cf x))/\∀ x,x∉l->YV cf row l ra x=ra x
 | none,[],_,_,_=>⟨fun x hx=>by simp_all,fun _ _=>rfl⟩
 | some c,d::l,ra,h,nd=>by
  obtain⟨rfl,h2⟩:=h;obtain⟨nd1,nd2⟩:=QU.mp nd;obtain⟨i1,i2⟩:=Zhe h2 nd2;refine⟨fun x hx=>?_,fun x hx=>?_⟩;rcases Qs.mp hx with rfl | hx
  show YV cf row l _ x=_;rw[i2 x nd1,ZK];show YV cf row l _ x=_;rw[i1 x hx];cases e:cf x with
  | none=>rfl
  | some b =>
   have hb:=Zbf h2 x hx b e;exact ZN _ _ fun z=>nd1 (by simp_all)
  show YV cf row l _ x=_;rw[i2 x (fun z=>hx (Qk _ z))];exact ZN _ _ fun z=>hx (by rw[z];simp)
theorem ZlH (h:∀ d,d<n->S.re d=true->∀ b,S.cf d=some b->b<n/\S.re b=true/\rk b<rk d):∀ (m d),rk d<=m->d<n->S.re d=true->∃ l,ChL S.cf (some d) l/\(∀ x∈l,x<n/\S.re x=true/\rk x<=rk d)/\l.Nodup:=by
 intro m;induction m with
 | zero =>
  intro d hm hd hr;cases e:S.cf d with
  | none=>exact⟨[d],⟨rfl,by rw[e];exact VF⟩,fun x hx=>by simp_all,by simp⟩
  | some b =>
   have:=(h d hd hr b e).2.2;omega
 | succ m ih =>
  intro d hm hd hr;cases e:S.cf d with
  | none=>exact⟨[d],⟨rfl,by rw[e];exact VF⟩,fun x hx=>by simp_all,by simp⟩
  | some b =>
   obtain⟨b1,b2,b3⟩:=h d hd hr b e;obtain⟨l,l1,l2,l3⟩:=ih b (by lia) b1 b2;refine⟨d::l,⟨rfl,by simp_all⟩,fun x hx=>?_,QU.mpr ⟨fun z=>by have:=(l2 d z).2.2;exact (Ez this b3).elim,l3⟩⟩;rcases Qs.mp hx with rfl | hx
   exact⟨hd,hr,Qg _⟩;obtain⟨q1,q2,q3⟩:=l2 x hx;exact⟨q1,q2,by lia⟩
theorem ZdD (h:Rea n cost row S rk t c) (hn:S.ra c=none):∃ l,ChL S.cf (some c) l/\(∀ x∈l,x<n)/\Mat n cost (row+1) {S with ra:=YV S.cf row l S.ra}:=by
 obtain⟨l,l1,l2,l3⟩:=ZlH (S:=S) (rk:=rk) (fun d hd hr b e=>let ⟨_,_,_,_,_,q⟩:=h.rt d hd hr;q b e) _ c (Qg _) h.hc h.rc;obtain⟨a1,a2⟩:=Zhe (row:=row) (ra:=S.ra) l1 l3;have rowlt:∀ {x i},ZdA row S.ra (S.cf x)=some i->x∈l->(S.cf x=none/\i=row)\/∃ b,S.cf x=some b/\b∈l/\S.ra b=some i/\i<row:=fun {x i} e hx=>by
  cases e1:S.cf x with
  | none=>rw[e1]at e;cases e;simp
  | some b =>
   rw[e1]at e;have hb:=Zbf l1 x hx b e1;exact .inr ⟨b,rfl,hb,e,(h.mat.tight b i (l2 b hb).1 e).1⟩
 refine⟨l,l1,fun x hx=>(l2 x hx).1,⟨h.mat.feas,fun j i hj e=>?_,fun x y i hx hy ex ey=>?_,fun i hi=>?_⟩⟩
 ·have e:YV S.cf row l S.ra j=some i:=e;show i<row+1/\red cost S i j=0;by_cases z:j∈l
  ·rw[a1 j z]at e;obtain⟨_,r,g1,_,g3,_⟩:=h.rt j hj (l2 j z).2.1;rw[e]at g1;cases g1;refine⟨?_,g3⟩;rcases rowlt e z with ⟨_,q⟩ | ⟨_,_,_,_,q⟩ <;> lia
  ·rw[a2 j z]at e;obtain⟨g1,g2⟩:=h.mat.tight j i hj e;lia
 ·have ex:YV S.cf row l S.ra x=some i:=ex;have ey:YV S.cf row l S.ra y=some i:=ey;have one:∀ {x y},x<n->y<n->x∈l->y∉l->YV S.cf row l S.ra x=some i->YV S.cf row l S.ra y=some i->False:=fun {x y} hx hy zx zy ex ey=>by
   rw[a1 x zx]at ex;rw[a2 y zy]at ey;rcases rowlt ex zx with ⟨_,q⟩ | ⟨b,_,hb,q,_⟩
   ·have:=(h.mat.tight y i hy ey).1;exact (K8 this q).elim
   ·have:=h.mat.inj b y i (l2 b hb).1 hy q ey
    simp_all
  by_cases zx:x∈l <;> by_cases zy:y∈l
  ·rw[a1 x zx]at ex;rw[a1 y zy]at ey;refine Zjt l1 l3 x zx y zy ?_;rcases rowlt ex zx with ⟨p1,q⟩ | ⟨b,p1,hb,q,p2⟩ <;> rcases rowlt ey zy with ⟨p1',q'⟩ | ⟨b',p1',hb',q',p2'⟩
   ·simp_all
   ·exact (K8 p2' q).elim
   ·exact (K8 p2 q').elim
   ·rw[p1,p1',h.mat.inj b b' i (l2 b hb).1 (l2 b' hb').1 q q']
  ·exact(one hx hy zx zy ex ey).elim
  ·exact(one hy hx zy zx ey ex).elim
  ·rw[a2 x zx]at ex;rw[a2 y zy]at ey;exact h.mat.inj x y i hx hy ex ey
 ·show ∃ j,j<n/\YV S.cf row l S.ra j=some i;by_cases z:i=row
  ·obtain⟨x,hx,e⟩:=Zg8 l1 (by simp);refine⟨x,(l2 x hx).1,?_⟩;rw[a1 x hx,e,z];rfl
  ·obtain⟨j,hj,e⟩:=h.mat.all i (Tk hi z);by_cases zj:j∈l
   ·rcases ch_prev l1 j zj with q | ⟨x,hx,q⟩
    ·simp_all
    ·refine⟨x,(l2 x hx).1,?_⟩;rw[a1 x hx,q];exact e
   grind
inductive Sr (n:Vg) (cost:Vg->Vg->Vs) (row:Vg) (S:Pst):Vg->Vg->Pst->Prop
 | start {c:Vg} {k:Vs} (h:Zci n (Ym n cost row none (Jx S)) c k):Sr n cost row S 0 c (Z7 n row c k (Ym n cost row none (Jx S)))
 | step {m c r d:Vg} {S1:Pst} {k:Vs} (h:Sr n cost row S m c S1) (e:S1.ra c=some r) (h2:Zci n (Ym n cost r (some c) S1) d k):Sr n cost row S (m+1) d (Z7 n row d k (Ym n cost r (some c) S1))
def PRow (n:Vg) (cost:Vg->Vg->Vs) (row:Vg) (S S':Pst):Prop:=∃ m c S1 l,Sr n cost row S m c S1/\S1.ra c=none/\ChL S1.cf (some c) l/\S'={S1 with ra:=YV S1.cf row l S1.ra}
theorem Sr.rea (h0:Mat n cost row S) (hr:row<n) (h:Sr n cost row S m c S1):∃ rk t,Rea n cost row S1 rk t c:=by
 induction h with
 | start h=>exact⟨_,_,Zby (Zbx h0) hr h⟩
 | step _ e h2 ih =>
  obtain⟨rk,t,hR⟩:=ih;exact⟨_,_,Zby (ZdC hR e) hr h2⟩
theorem PRow.mat (h0:Mat n cost row S) (hr:row<n) (h:PRow n cost row S S'):Mat n cost (row+1) S':=by
 obtain⟨m,c,T,l,a1,a2,a3,rfl⟩:=h;obtain⟨rk,t,hR⟩:=a1.rea h0 hr;obtain⟨l',b1,_,b3⟩:=ZdD hR a2;rw[ChL.det a3 b1];omega
inductive PAll (n:Vg) (cost:Vg->Vg->Vs) (S:Pst):Vg->Pst->Prop
 | zero:PAll n cost S 0 S
 | succ {i:Vg} {S1 S2:Pst} (h:PAll n cost S i S1) (h2:PRow n cost i S1 S2):PAll n cost S (i+1) S2
noncomputable def S00:Pst:=⟨fun _=>0,fun _=>0,fun _=>none,fun _=>none,fun _=>none,fun _=>false⟩
theorem PAll.mat (hc:∀ i j,i<n->j<n->0<=cost i j):∀ {i} {S1},i<=n->PAll n cost S00 i S1->Mat n cost i S1:=by
 intro i S1 hi h;induction h with
 | zero =>
  refine⟨fun i j hi hj=>?_,fun j i _ e=>(by cases e),fun c d r _ _ e=>(by cases e),fun i hi=>Vo hi (Wo _)⟩;have:=hc i j hi hj;show 0<=cost i j-0-0;lia
 | succ _ h2 ih=>exact h2.mat (ih (Kl hi)) hi
end
theorem Ze3 (h:TbOk Pt H) (B:Btl l H H') (hl:∀ x u,x∈l->H x=some u->(∃ ys,u= .lst ys)\/∃ c d f,u= .ins c d f):TbOk Pt H':=by
 have up:∀ {x u},H x=some u->(∀ ys,u≠.lst ys)->(∀ c d f,u≠.ins c d f)->H' x=some u:=fun {x u} e n1 n2=>B x u fun z=>by
  rcases hl x u z e with ⟨ys,q⟩ | ⟨c,d,f,q⟩
  simp_all
  simp_all e
 rcases h with z | ⟨c,z,z2⟩
 exact .inl (up z fun _ y=>by grind fun _ _ _ y=>by grind);exact .inr ⟨c,up z fun _ y=>by grind fun _ _ _ y=>by grind,up z2 (fun _ y=>by cases y) fun _ _ _ y=>by cases y⟩
theorem PairS.less (h:PairS C m H a A n cost v) (hm:m'<=m):PairS C m' H a A n cost v :=
 ⟨h.ob,h.lc,fun k hk=>h.lk k (Dh hm hk),h.lm,h.hc,h.rl,h.hr,fun k hk=>h.hv k (Dh hm hk),fun k k' hk hk'=>h.nd k k' (Dh hm hk) (Dh hm hk'),fun k hk=>h.nc k (Dh hm hk),fun k hk=>h.nr k (Dh hm hk)⟩
theorem ZhH (n row c) (k) (S):(Z7 n row c k S).re=fup S.re c true:=by
 unfold Z7 Yp;rw[(YL _ _ n).1]
theorem Zld (hc:c<n) (hr:re c=false):(unr n (fup re c true)).length<(unr n re).length:=by
 have e:unr n (fup re c true)=(unr n re).filter fun x=>decide (x≠c):=by
  unfold unr;rw[List.filter_filter];refine Rr fun x _=>?_;by_cases z:x=c
  subst z;rw[ZK];simp;rw[ZN _ _ z];simp[z]
 rw[e];exact List.length_filter_lt_length_iff_exists.mpr ⟨c,Q2.mpr ⟨Qr.mpr hc,by rw[hr];rfl⟩,by simp⟩
section
variable {P:Oh} {w:Oi} {K:Ve} {mg:Vl->Vj Vi} {base:Vz} {C Pt:Vk} {cd:Vi}
noncomputable abbrev Zol:Vd Vl:=["self","row","column"]
theorem scRowP:Zo Zol ["self","row"] (Zh (Ye 1)):=⟨rfl,rfl,rfl,by decide +kernel,rfl,by decide +kernel,by decide +kernel⟩
def ZiN (C Pt:Vk):Sp:=fun vs H Q _=>∃ (a:Vk) (A:Adr) (n:Vg) (cost:Vg->Vg->Vs) (S:Pst) (r:Vg),vs=[.ref a,.int r]/\n<=1000/\r<n/\A.fs.length<=900/\PairS C 3 H a A n cost (enc S)/\TbOk Pt H/\Mat n cost r S /\
 ∀ A' S' H',ZmK A A'->PRow n cost r S S'->Btl [Pt,a,A.b 0,A.b 1,A.b 2] H H'->TbOk Pt H'->PairS C 3 H' a A' n cost (enc S')->Q .non H'
theorem Zki (D:HasN K C "pair_row" "Pairing.pair_row" (Ye 1) ["self","row"] cd) (T:PgC K mg C) (g31_:MOk P w K mg base C 2 "start_search" ["self"] (Ze9 C)) (g21_:MOk P w K mg base C 2 "look_from" ["self","row","before"] (ZiP C))
  (g28_:MOk P w K mg base C 2 "reach_nearest" ["self","row"] (Zfa C Pt)) (g8_:MOk P w K mg base C 2 "pair_back" ["self","row","last"] (Zfh C)):MOk P w K mg base C 3 "pair_row" ["self","row"] (ZiN C Pt):=by
 refine D.ok scRowP (fun vs H Q E h=>?_) (fun f A outer s vs H Q E hr h=>?_)
 ·obtain⟨a,A,n,cost,S,r,rfl,_⟩:=h;rfl
 ·obtain⟨a,Ad,n,cost,S,r,rfl,hn,hrn,hfl,hP,ht,hM,k⟩:=h;refine⟨_,(Zd (ZX (Zkc g31_ hr T.cl (pv 0)))
   (Zd (ZX (Zkd g21_ hr T.cl (pv 0) (Za (pv 1) (Za YH Ze))))
   (Zd (Zm (i:=2) scRowP.nd rfl (.inl rfl) (Zkd g28_ hr T.cl (pv 0) (Za (pv 1) Ze)))
   (Zd (Xe Vr (Zw ZfX (ZB ix_list (ZJ (pv 0) rfl) (pv 2) (fun _ _=>rfl)) YH (ZA _))
    (Zd (ZX (Zkd g21_ hr T.cl (pv 0) (Za (ZB ix_list (ZJ (pv 0) rfl) (pv 2) (fun _ _=>rfl)) (Za (pv 2) Ze))))
    (Zi (Zm (i:=2) scRowP.nd rfl (.inl rfl) (Zkd g28_ hr T.cl (pv 0) (Za (pv 1) Ze))))))
   (Zi (ZX (Zkd g8_ hr T.cl (pv 0) (Za (pv 1) (Za (pv 2) Ze))))))))),?_⟩
  refine⟨.ref a,rfl,a,_,_,rfl,hP.ob,hP.lm _ (by decide),a,Ad,n,cost,S,rfl,hn,hfl,hP,fun A1 H1 up1 B1 nb P1=>?_⟩;obtain⟨ud,uc,ur,ub,ul⟩:=id up1;have t1:TbOk Pt H1:=Ze3 ht B1 fun x u hx e=>.inr (by rw[Qo.mp hx,hP.ob]at e;cases e;simp);have isl:∀ {H4:Hp} {S4:Pst},PairS C 6 H4 a A1 n cost (enc S4)->∀ {l:Vd Vk},(∀ x∈l,∃ j,j<6/\x=A1.b j)->∀ x u,x∈l->H4 x=some u->(∃ ys,u= .lst ys)\/∃ c d f,u= .ins c d f:=fun {H4 S4} P4 {l} hl x u hx e=>by
   obtain⟨j,hj,rfl⟩:=hl x hx;rw[P4.hv j hj]at e;cases e;simp
  have LL:∀ {l:Vd Vk},(∀ x∈l,x=Pt\/∃ j,j<6/\x=A1.b j)->∀ x∈l,x∈[Pt,A1.b 0,A1.b 1,A1.b 2,A1.b 3,A1.b 4,A1.b 5]:=fun {l} hl x hx=>by
   rcases hl x hx with z | ⟨j,hj,z⟩
   ·rw[z];simp
   ·match j,hj with
    | 0,_=>rw[z];simp
    | 1,_=>rw[z];simp
    | 2,_=>rw[z];simp
    | 3,_=>rw[z];simp
    | 4,_=>rw[z];simp
    | 5,_=>rw[z];simp
  -- reach behind a look
  have go:∀ {H4 H5:Hp} {S4:Pst} {q:Vg} {bf:Vj Vg},PairS C 6 H4 a A1 n cost (enc S4)->TbOk Pt H4->(∃ rk t,Sea n cost r (Ym n cost q bf S4) rk t)->Btl [A1.b 3,A1.b 4] H4 H5 ->
    TbOk Pt H5/\(∀ c,c<n->(Ym n cost q bf S4).re c=true->∃ r,r<n/\(Ym n cost q bf S4).ra c=some r)/\(∀ c,c<n->(Ym n cost q bf S4).re c=false->∃ k,(Ym n cost q bf S4).sp c=some k)/\(∃ c,c<n/\(Ym n cost q bf S4).re c=false) /\
    ∀ H6,Btl [Pt,A1.b 0,A1.b 1,A1.b 3,A1.b 5] H5 H6->Btl [Pt,A1.b 0,A1.b 1,A1.b 2,A1.b 3,A1.b 4,A1.b 5] H4 H6:=by
   intro H4 H5 S4 q bf P4 t4 hS B5;obtain⟨rk,t,hS⟩:=hS;have t5:=Ze3 t4 B5 (isl P4 fun x hx=>by
    simp only[Qs,Q4,or_false]at hx;rcases hx with z | z
    ·exact⟨3,by decide,z⟩
    ·exact⟨4,by decide,z⟩)
   refine⟨t5,fun c h1 h2=>?_,fun c h1 h2=>?_,Zkl hS hrn,fun H6 B6=>(B5.mono (LL ?_)).trans (B6.mono (LL ?_))⟩
   ·obtain⟨r1,h3,h4⟩:=hS.hre c h1 h2;exact⟨r1,Sw hrn h3,h4⟩
   ·obtain⟨k0,_,h3,_⟩:=hS.sp c h1 h2
    simp_all
   ·intro x hx;simp only[Qs,Q4,or_false]at hx;rcases hx with z | z
    ·exact .inr ⟨3,by decide,z⟩
    ·exact .inr ⟨4,by decide,z⟩
   ·intro x hx;simp only[Qs,Q4,or_false]at hx;rcases hx with z | z | z | z | z
    ·simp_all
    ·exact .inr ⟨0,by decide,z⟩
    ·exact .inr ⟨1,by decide,z⟩
    ·exact .inr ⟨3,by decide,z⟩
    ·exact .inr ⟨5,by decide,z⟩
  refine⟨.ref a,rfl,a,_,_,rfl,P1.ob,P1.lm _ (by decide),_,rfl,a,A1,n,cost,_,r,none,rfl,hn,hrn,P1,fun H2 B2 P2=>?_⟩;refine⟨.ref a,rfl,a,_,_,rfl,P2.ob,P2.lm _ (by decide),_,rfl,?_⟩;obtain⟨y1,y2,y3,y4,y5⟩:=go P1 t1 ⟨_,_,Zbx hM⟩ B2;refine⟨a,A1,n,cost,_,r,rfl,hn,hrn,P2,y1,y2,y3,y4,fun c kk H3 hN B3' t3 P3=>?_⟩;have B3:=y5 H3 B3';refine⟨fun m σ H4=>∃ (j d:Vg) (S4:Pst),σ=[some (.ref a),some (.int r),some (.int (d:Vg))]/\Sr n cost r S j d S4/\PairS C 6 H4 a A1 n cost (enc S4)/\TbOk Pt H4/\Btl [Pt,A1.b 0,A1.b 1,A1.b 2,A1.b 3,A1.b 4,A1.b 5] H1 H4/\m=(unr n S4.re).length,
   ⟨_,0,c,_,rfl,.start hN,P3,t3,B3,rfl⟩,?_⟩
  rintro m σ H4 ⟨j,d,S4,rfl,hSr,P4,t4,B4,rfl⟩;obtain⟨rk,t,hR⟩:=hSr.rea hM hrn;have hd:=hR.hc;have v2:enc S4 2 d=oN (S4.ra d):=rfl;refine⟨.ref a,rfl,a,C,_,_,_,rfl,P4.ob,T.cl,T.no 2 (by decide),P4.lk 2 (by decide),_,rfl,_,_,_,_,rfl,rfl,SqL.of (P4.hv 2 (by decide)),YC _ hd,rfl,_,rfl,?_⟩;cases e:S4.ra d with
  | some q =>
   have hq:q<n:=by have:=(hR.mat.tight d q hd e).1;lia
   refine Xm (by rw[v2,e];rfl) ⟨fun σ' H'=>∃ m',m'<(unr n S4.re).length/\∃ (j d:Vg) (S4:Pst),σ'=[some (.ref a),some (.int r),some (.int (d:Vg))]/\Sr n cost r S j d S4/\PairS C 6 H' a A1 n cost (enc S4)/\TbOk Pt H'/\Btl [Pt,A1.b 0,A1.b 1,A1.b 2,A1.b 3,A1.b 4,A1.b 5] H1 H'/\m'=(unr n S4.re).length,fun _ _ z=>z,?_⟩;refine⟨.ref a,rfl,a,_,_,rfl,P4.ob,P4.lm _ (by decide),.ref a,rfl,a,C,_,_,_,rfl,P4.ob,T.cl,T.no 2 (by decide),P4.lk 2 (by decide),_,rfl,_,_,_,_,rfl,rfl,SqL.of (P4.hv 2 (by decide)),(YC _ hd).trans (VR some (v2.trans (by rw[e];rfl:oN (S4.ra d)= .int (q:Vg)))),_,rfl,a,A1,n,cost,S4,q,some d,rfl,hn,hq,P4,fun H5 B5 P5=>?_⟩;refine⟨.ref a,rfl,a,_,_,rfl,P5.ob,P5.lm _ (by decide),_,rfl,?_⟩;obtain⟨w1,w2,w3,w4,w5⟩:=go P4 t4 ⟨_,_,ZdC hR e⟩ B5;refine⟨a,A1,n,cost,_,r,rfl,hn,hrn,P5,w1,w2,w3,w4,fun c2 kk2 H6 hN2 B6 t6 P6=>⟨_,?_,j+1,c2,_,rfl,.step hSr e hN2,P6,t6,B4.trans (w5 H6 B6),rfl⟩⟩;rw[ZhH];exact Zld hN2.1 hN2.2.1
  | none =>
   obtain⟨l,l1,l2,l3⟩:=ZdD hR e;refine Yu (by rw[v2,e];rfl) ⟨.ref a,rfl,a,_,_,rfl,P4.ob,P4.lm _ (by decide),_,rfl,_,rfl,a,A1,n,cost,S4,r,d,l,rfl,hn,P4,l1,l2,fun H5 B5 P5=>?_⟩;have t5:=Ze3 t4 B5 (isl P4 fun x hx=>⟨2,by decide,Qo.mp hx⟩);refine k A1 _ H5 up1 ⟨j,d,S4,l,hSr,e,l1,rfl⟩ (fun x u hx e2=>?_) t5 (P5.less (by decide));simp only[Qs,Q4,or_false,Mi]at hx;obtain⟨x1,x2,x3,x4,x5⟩:=hx;have y1:=B1 x u (by simpa using x2) e2;have n3:∀ k,3<=k->k<6->x≠A1.b k:=fun k h1 h2 z=>by rw[z,nb k h1 h2]at e2;cases e2
   have y2:=B4 x u (by
    simp only[Qs,Q4,or_false,Mi];exact⟨x1,by rw[ub 0 (by decide)];exact x3,by rw[ub 1 (by decide)];exact x4,by rw[ub 2 (by decide)];exact x5,n3 3 (by decide) (by decide),n3 4 (by decide) (by decide),n3 5 (by decide) (by decide)⟩) y1
   exact B5 x u (by simp only[Qo];rw[ub 2 (by decide)];exact x5) y2
end
theorem JW {K} {σ:L2.St} (T:PgC K mg C) (hn:n<=1000) (hσ:σ[0]?=some (some (.ref a))) (hσ1:σ[1]?=some (some (.ref cst))) (hm:m<6) (x:V) {R:Hp->Prop} (h1:PairS C m H1 a A1 n cost v1) (hcst:A1.cst=cst) (hl:A1.fs.length<=990)
  (kR:∀ A2 H2,A2.dx=A1.dx->A2.cst=A1.cst->A2.rows=A1.rows->(∀ k,k<m->A2.b k=A1.b k)->A2.fs.length<=A1.fs.length+1->Btl [a] H1 H2->H1 (A2.b m)=none->PairS C (m+1) H2 a A2 n cost (fup v1 m fun _=>x)->R H2) :
  1<=Of/\∀ p,H1 p=none->∃ v,σ[1]?=some (some v)/\∃ z,∃ j:Vg,[v]=[z]/\ZmQ K z (upd H1 p (.lst [x])) j /\
     ∃ l kk xs,V.ref p= .ref l/\V.int j= .int kk/\upd H1 p (.lst [x]) l=some (.lst xs)/\-(2 ^ 63)<=kk/\kk<2 ^ 63/\xs.length*kk.toNat<=Of/\∀ p2,upd H1 p (.lst [x]) p2=none->∃ v,σ[0]?=some (some v)/\∃ a' C' dx fs,v= .ref a'/\upd (upd H1 p (.lst [x])) p2 (.lst (Qq kk.toNat xs).flatten) a'=some (.ins C' dx fs)/\Cls K C'/\NoAttr K C' (fnm m)/\fs.length<1000 /\
      R (upd (upd (upd H1 p (.lst [x])) p2 (.lst (Qq kk.toNat xs).flatten)) a' (.ins C' dx (Xq (fnm m) (.ref p2) fs))):=by
 refine⟨ZdL,fun p hp=>⟨_,hσ1,_,A1.rows.length,rfl,.inl ⟨_,SqL.of (by rw[←hcst,Zf (Zg h1.hc hp)];exact h1.hc),by rw[Qd]⟩,p,_,_,rfl,rfl,Zc,by lia,by rw[h1.rl];lia,?_,fun p2 hp2=>?_⟩⟩
 ·rw[Wc,h1.rl];exact Zl (by simp;exact hn)
 have n2:H1 p2=none:=by
  by_cases z:p2=p
  ·rw[z];exact hp
  ·rw[Zf z]at hp2;exact hp2
 refine⟨_,hσ,a,C,A1.dx,A1.fs,rfl,?_,T.cl,T.no m hm,Tl hl,?_⟩
 ·rw[Zf (Zg h1.ob n2),Zf (Zg h1.ob hp)];exact h1.ob
 rw[Wc,h1.rl,XW,ZcD];have hl2:=Yr (fnm m) (.ref p2) A1.fs;refine kR {A1 with fs:=Xq (fnm m) (.ref p2) A1.fs,b:=fup A1.b m p2} _ rfl rfl rfl (fun k hk=>ZN _ _ (Tm hk)) ?_ (fun y u hy e=>?_) ?_ (h1.field hm (fun _=>x) hp hp2)
 ·show(Xq _ _ _).length<=_;exact hl2
 ·rw[Zf (fun z=>hy (by rw[z];simp)),Zf (Zg e n2),Zf (Zg e hp)];exact e
 ·show H1 (fup A1.b m p2 m)=none;rw[ZK];exact n2
section
variable {P:Oh} {w:Oi} {K:Ve} {mg:Vl->Vj Vi} {base:Vz} {C Pt:Vk}
noncomputable abbrev Znn:Vd Vl:=["self","costs","row"]
theorem scInitP:Zo Znn ["self","costs"] (Zh (Ye 0)):=⟨rfl,rfl,rfl,by decide +kernel,rfl,by decide +kernel,by decide +kernel⟩
structure Zjy (H:Hp) (cst:Vk) (rows:Vd Vk) (n:Vg) (cost:Vg->Vg->Vs):Prop where
 hc:H cst=some (.lst (rows.map V.ref))
 rl:rows.length=n
 hr:∀ i,i<n->H (rows.getD i 0)=some (.lst (arr n fun j=>.int (cost i j)))
def Zfe (C Pt:Vk):Sp:=fun vs H Q _=>∃ (a dx cst:Vk) (rows:Vd Vk) (n:Vg) (cost:Vg->Vg->Vs),vs=[.ref a,.ref cst]/\H a=some (.ins C dx [])/\Zjy H cst rows n cost/\n<=200/\(∀ i j,i<n->j<n->0<=cost i j)/\TbOk Pt H /\
 ∀ A S H',PAll n cost S00 n S->Btl [Pt,a] H H'->TbOk Pt H'->PairS C 3 H' a A n cost (enc S)->Q .non H'
theorem ZhY (D:HasJ K C "Pairing.__init__" (Ye 0) ["self","costs"]) (B:Blt mg) (T:PgC K mg C) (g29_:MOk P w K mg base C 3 "pair_row" ["self","row"] (ZiN C Pt)):IOk0 P w K mg base C 4 ["self","costs"] (Zfe C Pt):=by
 refine D.ok scInitP (fun vs H Q E h=>?_) (fun f cd A outer s vs H Q E hr h=>?_)
 ·obtain⟨a,dx,cst,rows,n,cost,rfl,_⟩:=h;rfl
 ·obtain⟨a,dx,cst,rows,n,cost,rfl,ha,hcs,hn,hnn,ht,k⟩:=h;refine⟨_,(Zd (JB (pv 0) (pv 1) rfl)
   (Zd (JB (pv 0) (Zp Y5 (ZD (Za Zj Ze)) (Zk Zn rfl B.len ZQ (Za (pv 1) Ze))) rfl)
   (Zd (JB (pv 0) (Zp Y5 (ZD (Za Zj Ze)) (Zk Zn rfl B.len ZQ (Za (pv 1) Ze))) rfl)
   (Zd (JB (pv 0) (Zp Y5 (ZD (Za YH Ze)) (Zk Zn rfl B.len ZQ (Za (pv 1) Ze))) rfl)
   (Zi (Z8 Vr rfl (Yq rfl B.range (Za (Zk Zn rfl B.len ZQ (Za (pv 1) Ze)) Ze)) (Zx (i:=2) scInitP.nd rfl (.inl rfl))
    (Zi (ZX (Zkd g29_ hr T.cl (pv 0) (Za (pv 2) Ze)))))))))),?_⟩
  refine⟨_,rfl,.ref a,rfl,a,C,dx,_,rfl,ha,T.cl,T.nc,by simp,?_⟩;have P0:PairS C 0 (upd H a (.ins C dx (Xq "costs" (.ref cst) []))) a ⟨dx,cst,rows,fun _=>0,Xq "costs" (.ref cst) []⟩ n cost (enc S00):=by
   have up:∀ {x ys},H x=some (.lst ys)->upd H a (.ins C dx (Xq "costs" (.ref cst) [])) x=some (.lst ys):=fun {x ys} e=>by
    rw[Zf (ZcP e ha (by simp))];omega
   refine⟨Zc,?_,fun k hk=>Vo hk (Wo _),fun x hx=>?_,up hcs.hc,hcs.rl,fun i hi=>up (hcs.hr i hi),fun k hk=>Vo hk (Wo _),fun k _ hk=>Vo hk (Wo _),fun k hk=>Vo hk (Wo _),fun k hk=>Vo hk (Wo _)⟩
   ·rfl
   ·show(Xq _ _ _).lookup _=none;rw[Yb,if_neg]
    ·rfl
    ·intro z;subst z;revert hx;decide +kernel
  have B0:Btl [a] H (upd H a (.ins C dx (Xq "costs" (.ref cst) []))):=YG (fun _ _ _ e=>e) (by simp);generalize upd H a (.ins C dx (Xq "costs" (.ref cst) []))=H0 at *;refine JW T (Sk hn) rfl rfl (m:=0) (by decide) (.int 0) P0 rfl (by show(Xq _ _ _).length<=_;have:=Yr ("costs" : Vl) (.ref cst) ([]:Vd (Vl×V));simp only[U2]at this;lia) fun A1 H1 d1 c1 r1 b1 l1 B1 f1 P1=>?_;have l1':A1.fs.length<=2:=by
   assumption
  refine JW T (Sk hn) rfl rfl (m:=1) (by decide) (.int 0) P1 c1 (by lia) fun A2 H2 d2 c2 r2 b2 l2 B2 f2 P2=>?_;refine JW T (Sk hn) rfl rfl (m:=2) (by decide) .non P2 (c2.trans c1) (by lia) fun A3 H3 d3 c3 r3 b3 l3 B3 f3 P3=>?_;have Ba:Btl [a] H H3:=B0.trans (B1.trans (B2.trans B3));have back:∀ {Hx Hy:Hp} {x:Vk},Btl [a] Hx Hy->x≠a->Hy x=none->Hx x=none:=fun {Hx Hy x} B hx z=>by
   cases e:Hx x with
   | none=>rfl
   | some u=>rw[B x u (by simpa using hx) e]at z;omega
  have na1:A1.b 0≠a:=fun z=>by rw[z,P0.ob]at f1;grind
  have na2:A2.b 1≠a:=fun z=>by rw[z,P1.ob]at f2;grind
  have na3:A3.b 2≠a:=fun z=>by rw[z,P2.ob]at f3;grind
  have nb:∀ k,k<3->H (A3.b k)=none:=fun k hk=>by
   match k,hk with
   | 0,_=>rw[b3 0 (by decide),b2 0 (by decide)];exact back B0 na1 f1
   | 1,_=>rw[b3 1 (by decide)];exact back (B0.trans B1) na2 f2
   | 2,_=>exact back (B0.trans (B1.trans B2)) na3 f3
  have P4:PairS C 3 H3 a A3 n cost (enc S00):=P3.ext fun j hj i hi=>by
   match j,hj with
   | 0,_=>rfl
   | 1,_=>rfl
   | 2,_=>rfl
  have t3:TbOk Pt H3:=Ze3 ht Ba fun x u hx e=>.inr (by rw[Qo.mp hx,ha]at e;cases e;exact⟨_,_,_,rfl⟩);have hcs3:H3 cst=some (.lst (rows.map V.ref)):=Ba _ _ (by simp only[Qo];exact ZcP hcs.hc ha (by intro z;cases z)) hcs.hc;refine⟨_,rfl,_,_,rfl,.inl ⟨_,SqL.of hcs3,rfl⟩,?_⟩;rw[Qd,hcs.rl];refine⟨_,rfl,by lia,by lia,?_⟩;refine Y9 (fun i σ H4=>∃ (z2:Vj V) (A4:Adr) (S4:Pst),σ=[some (.ref a),some (.ref cst),z2]/\A4.fs.length<=4+3*i/\(∀ k,k<3->A4.b k=A3.b k)/\PAll n cost S00 i S4/\Btl [Pt,a] H H4/\TbOk Pt H4/\PairS C 3 H4 a A4 n cost (enc S4)) ⟨none,A3,S00,rfl,by lia,fun _ _=>rfl,.zero,Ba.mono (by simp),t3,P4⟩ ?_ ?_
  ·rintro i σ H4 hi ⟨z2,A4,S4,rfl,hl4,b4,hA4,B4,t4,P4⟩;have hi:i<n:=by simpa using hi
   rw[UH];refine⟨.ref a,rfl,a,_,_,rfl,P4.ob,P4.lm _ (by decide),_,rfl,a,A4,n,cost,S4,i,rfl,Sk hn,hi,by lia,P4,t4,hA4.mat hnn (Bk hi),fun A5 S5 H5 up5 hR B5 t5 P5=>?_⟩;obtain⟨_,_,_,ub,ul⟩:=up5;refine⟨_,A5,S5,rfl,by lia,fun k hk=>(ub k hk).trans (b4 k hk),.succ hA4 hR,fun x u hx e=>?_,t5,P5⟩;have y1:=B4 x u hx e;refine B5 x u ?_ y1;simp only[Qs,Q4,or_false,Mi]at hx ⊢;have nk:∀ k,k<3->x≠A4.b k:=fun k hk z=>by rw[b4 k hk]at z;rw[z,nb k hk]at e;cases e
   exact⟨hx.1,hx.2,nk 0 (by decide),nk 1 (by decide),nk 2 (by decide)⟩
  ·rintro σ H4 ⟨z2,A4,S4,rfl,hl4,b4,hA4,B4,t4,P4⟩;rw[Wc]at hA4;exact k A4 S4 H4 hA4 B4 t4 P4
end
end Sh
namespace L2
open PySem PySem.Spec PyProof.Rows
theorem ne1 (c n) (h:c=n+1) (k:c<n):False:=by lia
theorem le1 (c n) (h:c=n+1):n<=c:=by lia
theorem ZaD:∀ (names) (n) (acc) (h),names.filter (fun y=>y.2==VU)=[]->Gg n names acc=acc/\G3 h names=h
 | [],_,_,_,_=>⟨rfl,rfl⟩
 | (x,k)::r,n,acc,h,e=>by
  unfold Gg G3;by_cases hk:(k==VU)=true
  rw[Wf,Vf hk]at e;cases e;rw[if_neg hk,if_neg hk];rw[Wf,if_neg hk]at e;exact ZaD r n acc h e
theorem Zaa:∀ (names) (n) (acc) (h),names.filter (fun y=>y.2==VU)=[(z,kz)] ->
  Gg n names acc=(z,n)::acc/\G3 h names=h.push {cls:=.type "cell",data:=.cell none}
 | [],_,_,_,e=>by grind
 | (x,k)::r,n,acc,h,e=>by
  unfold Gg G3;by_cases hk:(k==VU)=true
  rw[Wf,Vf hk]at e;injection e with e1 e2
  injection e1 with e3 e4
  subst e3;rw[Vf hk,Vf hk];exact ZaD r _ _ _ e2;rw[if_neg hk,if_neg hk];rw[Wf,if_neg hk]at e;exact Zaa r n acc h e
theorem ZkS {code}
  (hz:scope.names.filter (fun y=>y.2==VU)=[(z,kz)])
  (hQ:Q (newEnv scope s.heap.objs.size globals ((z,s.heap.objs.size+1)::closure) qual func code (some outer) builtins) {s with heap:=(s.heap.push {cls:=.type "dict",data:=.dict #[]}).push {cls:=.type "cell",data:=.cell none}}) :
  Og M A (Gv scope globals closure [] qual func code (some outer) builtins) Q E s:=by
 simp[Gv,UQ,ML];refine Oa (wpAny_alloc ?_);refine Oa (wpAny_layCells _ fun name kind cells=>by simp _ _ _ _ ?_);rw[WF ..];rw[(Zaa scope.names _ _ (s.heap.push {cls:=.type "dict",data:=.dict #[]}) hz).1,(Zaa scope.names 0 [] _ hz).2];exact Oa (Ob (Ob hQ))
structure ZeQ (sc scope:Scope) (N xs:Vd Vl) (mp:Vd Vg) (z:Vl):Prop where
 kind:scope.kind= .function
 one:scope.names.filter (fun y=>y.2==VU)=[(z,.cell)]
 zc:scope.names.lookup z=some .cell
 names:∀ y∈scope.names,y.2= .local->scope.names.lookup y.1=some .local
 fr:∀ y∈scope.names,y.2= .free->sc.names.lookup y.1=some .cell\/sc.names.lookup y.1=some .free
 out:∀ j∈mp,scope.names.lookup (N.getD j "")=some .free
 nd:(lcN N xs mp).Nodup
noncomputable def Zgt (sc scope:Scope) (N xs:Vd Vl) (mp:Vd Vg) (z:Vl):V0 :=
 decide (scope.kind= .function)&&decide (scope.names.filter (fun y=>y.2==VU)=[(z,.cell)])&&decide (scope.names.lookup z=some .cell)&&scope.names.all (fun y=>decide (y.2= .local->scope.names.lookup y.1=some .local)) &&
  scope.names.all (fun y=>decide (y.2= .free->sc.names.lookup y.1=some .cell\/sc.names.lookup y.1=some .free)) &&
  mp.all (fun j=>decide (scope.names.lookup (N.getD j "")=some .free))&&decide (lcN N xs mp).Nodup
theorem Zgs (h:Zgt sc scope N xs mp z=true):ZeQ sc scope N xs mp z:=by
 simp only[Zgt,Wg,UA,VL]at h;obtain⟨⟨⟨⟨⟨⟨h1,h2⟩,h3⟩,h4⟩,h5⟩,h6⟩,h7⟩:=h;exact⟨h1,h2,h3,h4,h5,h6,h7⟩
noncomputable abbrev Zbi (X:Cx) (z:Vl) (M:Vd Vl) (scope:Scope) (cl:Vd (Vl×Vk)) (C:Vk) (s₀:Vh) (H₀:Hp) (fp:Vd Vk):Cx where
 prog:=X.prog
 w:=X.w
 K:=X.K
 mg:=X.mg
 base:=X.base
 A:=X.A
 N:=M
 s₀:=s₀
 H₀:=H₀
 env:=G7 scope cl C X.env
 outer:=X.stack
 stack:=X.stack
 ex:=fp
 fn:=fun x=>x==z
 calm:=X.calm
 pn:=[]
 xe:=fun _ _=>False
section
variable {X:Cx} {pins:Vd (Vk×Nd)} {σ:St} {H₀:Hp} {s₀:Vh} {scope sc:Scope} {N xs:Vd Vl} {mp:Vd Vg} {fp:Vd Vk} {z:Vl}
theorem ZbQ (I:Inv X pins σ H₀ s₀) (hsc:X.env.scope=sc) (S:ZeQ sc scope N xs mp z):∀ y∈scope.names,y.2= .free->∃ c,X.env.cells.lookup y.1=some c:=fun y hy e=>by
 refine I.ok.has y.1 ?_;have q:=S.fr y hy e;rw[←hsc]at q;exact q
theorem Zgu (I:Inv X pins σ H₀ s₀) (hsc:X.env.scope=sc) (S:ZeQ sc scope N xs mp z) {n} {c} (e:(ZZ X.env scope.names []).lookup n=some c):X.env.cells.lookup n=some c :=
 J9 scope.names [] (ZbQ I hsc S) (fun _ _ z=>nomatch z) n c e
theorem lcC_look {c a:Vk} (e:((z,a)::cl).lookup n=some c):(n=z/\c=a)\/(n≠z/\cl.lookup n=some c):=by
 rw[WB]at e;cases hn:n==z with
 | true =>
  rw[hn]at e;cases e;exact .inl ⟨Nx hn,rfl⟩
 | false =>
  rw[hn]at e;exact .inr ⟨fun q=>by simp_all,e⟩
theorem ZkH (I:Inv X pins σ H₀ s₀) (hsc:X.env.scope=sc) (S:ZeQ sc scope N xs mp z) (hf:∀ b∈fp,Xk X pins H₀ b)
  (hx:∀ b∈fp,∃ ob,s₀.heap.get? b=some ob) (hns:h₁.Ns s₀.heap.objs.size m) (hcz:h₁.IsCell (s₀.heap.objs.size+1) none) (kp:∀ b u,s₀.heap.get? b=some u->h₁.get? b=some u) :
  Inv (Zbi X z (lcN N xs mp) scope ((z,s₀.heap.objs.size+1)::ZZ X.env scope.names []) s₀.heap.objs.size s₀ H₀ fp) [] (Qq (xs.length+mp.length) none) H₀ {s₀ with heap:=h₁,toks:=tk}:=by
 have sub:=@Zgu X pins σ H₀ s₀ scope sc N xs mp z I hsc S;have old:∀ x c,X.env.cells.lookup x=some c->c<s₀.heap.objs.size:=fun x c e=>by
  obtain⟨v,ob,ho,_⟩:=I.cell x c e;exact Qn ho
 refine⟨⟨I.ok.mod,S.kind,I.ok.glob,I.ok.blt,Qg _,fun x y c e1 e2=>?_,fun x hk=>?_,fun x c h e=>?_,I.ok.hd,I.ok.frames,.inl rfl,
  fun b hb=>⟨?_,fun x c e=>?_⟩,fun b o e=>I.bs b o e,QK I.ok.bsz I.sz,fun b o e hb=>?_,fun b hb z=>?_,I.stack,I.stkFree⟩,
  rfl,I.bare,Un.kept kp,⟨m,hns,fun i x v _ e2 _=>?_⟩,fun x c e=>?_,I.hok.fresh (Qg _),fun x c e=>?_,fun p hp=>Vo (show p∈([]:Vd (Vk×Nd))from hp) (by simp),I.hok.kept kp,?_⟩
 ·rcases lcC_look e1 with ⟨h1,h2⟩ | ⟨h1,h2⟩ <;> rcases lcC_look e2 with ⟨h3,h4⟩ | ⟨h3,h4⟩
  ·simp_all
  ·exact(ne1 _ _ h2 (old y c (sub h4))).elim
  ·exact(ne1 _ _ h4 (old x c (sub h2))).elim
  ·exact I.ok.inj x y c (sub h2) (sub h4)
 ·by_cases hxz:x=z
  ·refine⟨s₀.heap.objs.size+1,?_⟩;show((z,s₀.heap.objs.size+1)::ZZ X.env scope.names []).lookup x=some (s₀.heap.objs.size+1);rw[WB,hxz];simp
  have hxz':(x==z)=false:=by simpa using hxz
  have hk':(O5 scope X.env).names.lookup x=some .cell\/(O5 scope X.env).names.lookup x=some .free:=hk;rw[Yw]at hk';cases e:scope.names.lookup x with
  | none=>rw[e]at hk';rcases hk' with z | z <;> cases z
  | some k =>
   have mem:(x,k)∈scope.names:=VH e;have hkf:k= .free:=by
    rw[e]at hk';have n1:k≠.cell:=fun q=>by
     have:(x,k)∈scope.names.filter (fun y=>y.2==VU):=Q2.mpr ⟨mem,by rw[q];rfl⟩;rw[S.one]at this
     simp_all
    simp only[We,RQ]at hk';unfold ZiX at hk';split at hk'
    ·simp_all
    simp_all
   subst hkf;show ∃ c,((z,s₀.heap.objs.size+1)::ZZ X.env scope.names []).lookup x=some c;rw[WB,hxz'];exact WL.mp (Xa scope.names [] x (.inl mem))
 ·have hxz:x=z:=Nx h;rcases lcC_look e with ⟨h1,h2⟩ | ⟨h1,h2⟩
  ·exact le1 _ _ h2
  ·exact Vo hxz h1
 ·obtain⟨ob,e⟩:=hx b hb;exact QB (Qn e)
 ·rcases lcC_look e with ⟨h1,h2⟩ | ⟨h1,h2⟩
  ·obtain⟨ob,e⟩:=hx b hb;intro q;rw[q]at h2;exact ne1 _ _ h2 (Qn e)
  ·exact(hf b hb).2.2.2.2.1 x c (sub h2)
 ·rcases(hf b hb).2.2.2.1 with z | z
  ·exact I.ok.noex b o e z
  ·exact Vo (QL (Qn (I.ok.bs b o e).1) z) (Q6 _)
 ·rcases Qs.mp (I.stkSub b z)with e | e
  ·exact(hf b hb).2.1 e
  ·exact(hf b hb).2.2.1 e
 ·rw[Wt]at e2;split at e2 <;> cases e2
 ·rcases lcC_look e with ⟨h1,h2⟩ | ⟨h1,h2⟩
  ·rw[h2];exact⟨none,hcz⟩
  ·obtain⟨v,ob,ho,hd⟩:=I.cell x c (sub h2);exact⟨v,ob,kp c ob ho,hd⟩
 ·rcases lcC_look e with ⟨h1,h2⟩ | ⟨h1,h2⟩
  ·rw[h2];exact I.hok.fresh (UM _)
  ·exact I.freeC x c (sub h2)
 ·show(Qq (xs.length+mp.length) none:St).length=(lcN N xs mp).length;simp[lcN]
theorem ZbP {σ':St} (I:Inv X pins σ H₀ s₀) (hsc:X.env.scope=sc) (hN:X.N=N) (S:ZeQ sc scope N xs mp z) (hf:∀ b∈fp,Xk X pins H₀ b)
  (J:Inv (Zbi X z (lcN N xs mp) scope ((z,cz)::ZZ X.env scope.names []) C s₀ H₀ fp) pY σ' H s'):Inv (Zbi X z (lcN N xs mp) scope ((z,cz)::ZZ X.env scope.names []) C s₀ H₀ fp) pY (lcS xs.length mp σ) H s':=by
 obtain⟨m,hn,_⟩:=J.loc;refine⟨J.ok,J.os,J.bare,J.base,⟨m,hn,fun i x v e1 e2 e3=>?_⟩,J.cell,J.free,J.freeC,J.pin,J.hok,?_⟩
 ·have e1':(lcN N xs mp)[i]?=some x:=e1;unfold lcN at e1';unfold lcS at e2;by_cases hi:i<xs.length
  ·rw[QA (by simpa using hi),Wt,Vf hi]at e2;cases e2
  ·rw[Qy (by simpa using hi),Wj,Qi]at e2;rw[Qy (Kf hi),Qi]at e1';cases ej:mp[i-xs.length]? with
   | none=>rw[ej]at e2;cases e2
   | some j =>
    rw[ej]at e1' e2;have e1'':N.getD j "" = x:=Vu e1';have e2':(σ[j]?).getD none=some v:=Vu e2;have e2'':σ[j]?=some (some v):=by
     cases q:σ[j]? with
     | none=>rw[q]at e2';cases e2'
     | some z=>rw[q]at e2';exact VR some e2'
    have hj:j<N.length:=by
     have h1:=(Ql.mp e2'').1;rw[I.len,hN]at h1;exact h1
    have eN:N[j]?=some x:=by
     simp_all
    have fr:scope.names.lookup x=some .free:=by rw[←e1''];exact S.out j (Q3 ej)
    have mem:(x,VZ)∈scope.names:=VH fr;have kX:X.env.scope.names.lookup x=some .cell\/X.env.scope.names.lookup x=some .free:=by
     rw[hsc];exact S.fr _ mem rfl
    obtain⟨mX,hnX,hl⟩:=I.loc;obtain⟨u,r,lk⟩:=hl j x v (by simp_all) e2'' (.inr kX);rcases lk with ⟨k,_⟩ | ⟨k,c,hc,hcell⟩
    ·have k':X.env.scope.names.lookup x=some .local:=k;rw[k']at kX;rcases kX with z | z <;> cases z
    ·refine⟨u,r,.inr ⟨?_,c,?_,?_⟩⟩
     ·show(O5 scope X.env).names.lookup x=some .cell\/(O5 scope X.env).names.lookup x=some .free;rw[Yw,fr];simp only[We];unfold ZiX;split
      ·simp
      simp
     ·obtain⟨c',e'⟩:=WL.mp (Xa (env:=X.env) scope.names [] x (.inl mem));have e'':=Zgu I hsc S e';rw[hc]at e'';cases e'';have xz:(x==z)=false:=by
       cases q:x==z with
       | false=>rfl
       | true =>
        rw[Nx q,S.zc]at fr;cases fr
      show((z,cz)::ZZ X.env scope.names []).lookup x=some c;rw[WB,xz];omega
     ·obtain⟨ob,ho,hd⟩:=hcell;obtain⟨sl,q⟩:=J.base.any ho (I.freeC x c hc) fun z=>(hf c z).2.2.2.2.1 x c hc rfl;exact⟨_,q,hd⟩
 ·show(lcS xs.length mp σ).length=(lcN N xs mp).length;simp[lcS,lcN]
theorem Zii {σ':St} (I:Inv X pins σ H₀ s₀) (hf:∀ b∈fp,Xk X pins H₀ b)
  (J:Inv (Zbi X z M scope cl C s₀ H₀ fp) pY σ' H s'):Inv X pins σ H s' :=
 I.call' J.os J.base J.hok J.bare fun b hb=>⟨(hf b hb).2.2.2.1,(hf b hb).2.1,(hf b hb).2.2.2.2.1,(hf b hb).2.2.2.2.2⟩
end
section
variable {X:Cx} {pins:Vd (Vk×Nd)} {σ:St} {elt tgt iter:Expr} {ifs:Vd Expr} {scope sc:Scope} {pos:MA} {N xs:Vd Vl} {mp:Vd Vg} {wi:TI} {g:TG} {tc:TT} {te:TE} {z:Vl}
theorem ZkG {RR:Vi->Vk->GN->Vh->Prop}
  (hsc:X.env.scope=sc) (hN:X.N=N) (S:ZeQ sc scope N xs mp z) (hcalm:X.calm=true)
  (hg:∀ cl C s₀ H₀ fp,PG (Zbi X z (lcN N xs mp) scope cl C s₀ H₀ fp) tgt g) (hc:∀ cl C s₀ H₀ fp,PCs (Zbi X z (lcN N xs mp) scope cl C s₀ H₀ fp) ifs tc) (he:∀ cl C s₀ H₀ fp,PE (Zbi X z (lcN N xs mp) scope cl C s₀ H₀ fp) elt te)
  (I2:Inv X pins σ H2 s2) (T:Zhj X.prog X.w X.K tgt J fp it tn) (st2:tn 0 s2.heap) (f2:∀ b∈fp,Xk X pins H2 b) (h:JL xs.length mp σ g tc te J H2 Qv)
  (hRR:∀ (D C) (s') (H') (m),s'.heap.Ns C m->Inv X pins σ H' s'->Xk X pins H' C->Qv (.ref D) H'->RR (.ref D) C (.ok .next) s') :
  Og (Oc X.prog X.w) X.A (newList []) (fun acc s3=>Og (Oc X.prog X.w) X.A (Gv scope X.env.globals (ZZ X.env scope.names []) [] X.env.qual none .none (some X.env)) (fun cenv s4 =>
   OB (Oc X.prog X.w) X.A (.compStart (.ListComp elt [⟨tgt,iter,ifs,0⟩] scope pos) 0 (.ref it) acc {cenv with scope:=O5 scope X.env}) (RR acc cenv.locals) s4) E s3) E s2:=by
 have hD:H2 s2.heap.objs.size=none:=I2.hok.fresh (Qg _);obtain⟨W,⟨m0,w0⟩,turn⟩:=h s2.heap.objs.size hD;refine Ov (ZkS S.one ?_);dsimp only;have fpD:∀ b∈fp,b≠s2.heap.objs.size:=fun b hb=>by
  obtain⟨o,e,_⟩:=T.obj _ _ st2 b hb;exact QB (Qn e)
 have I3:Inv X pins σ (upd H2 s2.heap.objs.size (.lst [])) {s2 with heap:=s2.heap.push {cls:=.type "list",dict:=none,data:=.seq ([]:Vd Vi).toArray}} :=
  I2.laid (t':=s2.toks) (fun b u e=>Qc _ e) (Qg _) ⟨QQ _,[],0,.nil,Qm _ rfl⟩
 have f3:∀ b∈fp,Xk X pins (upd H2 s2.heap.objs.size (.lst [])) b:=fun b hb=>⟨by rw[Zf (fpD b hb)];exact(f2 b hb).1,(f2 b hb).2⟩
 generalize hs3:({s2 with heap:=s2.heap.push {cls:=.type "list",dict:=none,data:=.seq ([]:Vd Vi).toArray}}:Vh)=s3 at I3;have hh3:s2.heap.push {cls:=.type "list",dict:=none,data:=.seq ([]:Vd Vi).toArray}=s3.heap:=by rw[←hs3]
 have kp3:∀ b o,s2.heap.get? b=some o->s3.heap.get? b=some o:=fun b o e=>by rw[←hh3];exact Qc _ e
 rw[hh3];have hns1:((s3.heap.push {cls:=.type "dict",data:=.dict #[]}).push {cls:=.type "cell",data:=.cell none}).Ns s3.heap.objs.size (fun _=>none):=(Heap.Ns.new s3.heap (.type "dict")).push _;have hcz1:((s3.heap.push {cls:=.type "dict",data:=.dict #[]}).push {cls:=.type "cell",data:=.cell none}).IsCell (s3.heap.objs.size+1) none:=⟨{cls:=.type "cell",data:=.cell none},by
  have:((s3.heap.push {cls:=.type "dict",data:=.dict #[]}).push {cls:=.type "cell",data:=.cell none}).get? (s3.heap.push {cls:=.type "dict",data:=.dict #[]}).objs.size=some {cls:=.type "cell",data:=.cell none}:=Qm _ rfl
  simp_all,rfl⟩
 have kp1:∀ b u,s3.heap.get? b=some u->((s3.heap.push {cls:=.type "dict",data:=.dict #[]}).push {cls:=.type "cell",data:=.cell none}).get? b=some u:=fun b u e=>Qc _ (Qc _ e);generalize hh1:(s3.heap.push {cls:=.type "dict",data:=.dict #[]}).push {cls:=.type "cell",data:=.cell none}=h1 at hns1 hcz1 kp1;have st3:tn 0 s3.heap:=T.keep _ _ _ st2 fun b _ o e=>kp3 b o e;have x3:∀ b∈fp,∃ o,s3.heap.get? b=some o:=fun b hb=>by
  obtain⟨o,e,_⟩:=T.obj _ _ st3 b hb
  simp_all
 have st4:tn 0 h1:=T.keep _ _ _ st3 fun b _ o e=>kp1 b o e;have I4:=fun tk=>ZbP I3 hsc hN S f3 (ZkH (tk:=tk) I3 hsc S f3 x3 hns1 hcz1 kp1);have key:∀ s4:Vh,s4={s3 with heap:=h1,toks:=s4.toks}->OB (Oc X.prog X.w) X.A (.compLoop (.ListComp elt [⟨tgt,iter,ifs,0⟩] scope pos) 0 (.ref it) (.ref s2.heap.objs.size) (G7 scope ((z,s3.heap.objs.size+1)::ZZ X.env scope.names []) s3.heap.objs.size X.env))
   (RR (.ref s2.heap.objs.size) s3.heap.objs.size) s4:=by
  intro s4 hs4;have stat:∀ {H':Hp},(∀ b∈fp,H' b=none)->∀ b∈fp,Xk (Zbi X z (lcN N xs mp) scope ((z,s3.heap.objs.size+1)::ZZ X.env scope.names []) s3.heap.objs.size s3 (upd H2 s2.heap.objs.size (.lst [])) fp) [] H' b:=fun hn b hb =>
   ⟨hn b hb,((I4 0).ok.exf b hb).1,(I4 0).ok.exfs b hb,.inl hb,((I4 0).ok.exf b hb).2,fun p hp=>Vo (show p∈([]:Vd (Vk×Nd))from hp) (by simp)⟩
  refine J2 (fun n s'=>∃ i acc H',Inv (Zbi X z (lcN N xs mp) scope ((z,s3.heap.objs.size+1)::ZZ X.env scope.names []) s3.heap.objs.size s3 (upd H2 s2.heap.objs.size (.lst [])) fp) [] (lcS xs.length mp σ) H' s'/\tn i s'.heap/\(∀ b∈fp,H' b=none)/\W i n acc H') ?_ m0
   ⟨0,[],_,(by rw[hs4];exact I4 _),(by rw[hs4];omega),fun b hb=>(f3 b hb).1,w0⟩
  rintro n s6 ⟨i,acc,H6,I6,st6,fr6,w6⟩;rcases turn i n acc H6 w6 with ⟨stop,q⟩ | ⟨go,step⟩
  ·refine thn (T.done (Zbi X z (lcN N xs mp) scope ((z,s3.heap.objs.size+1)::ZZ X.env scope.names []) s3.heap.objs.size s3 (upd H2 s2.heap.objs.size (.lst [])) fp) rfl rfl rfl hcalm i [] s6 _ H6 _ I6 (stat fr6) st6 stop) fun r s7 ⟨hr,I7⟩=>?_;subst hr;obtain⟨m7,hn7,_⟩:=I7.loc;exact hRR _ _ s7 H6 m7 hn7 (Zii I3 f3 I7) (I3.fpOk (Qg _) I7.free) q
  ·refine thn (T.item (Zbi X z (lcN N xs mp) scope ((z,s3.heap.objs.size+1)::ZZ X.env scope.names []) s3.heap.objs.size s3 (upd H2 s2.heap.objs.size (.lst [])) fp) rfl rfl rfl hcalm i [] s6 _ H6 _ I6 (stat fr6) st6 go) fun r s7 ⟨u,hr,h7⟩=>?_;subst hr;refine thn h7 fun _ s8 ⟨x,H8,I8,r8,y8,st8,fr8⟩=>?_;have I8':=I8.pinned (stat fr8) (T.obj _ _ st8);have again:∀ {σ':St} {H':Hp} {s':Vh},Inv (Zbi X z (lcN N xs mp) scope ((z,s3.heap.objs.size+1)::ZZ X.env scope.names []) s3.heap.objs.size s3 (upd H2 s2.heap.objs.size (.lst [])) fp) ([]++ZbA fp s8.heap) σ' H' s'->(∃ m acc',m<n/\W (i+1) m acc' H') ->
     ∃ m,m<n/\∃ i acc H',Inv (Zbi X z (lcN N xs mp) scope ((z,s3.heap.objs.size+1)::ZZ X.env scope.names []) s3.heap.objs.size s3 (upd H2 s2.heap.objs.size (.lst [])) fp) [] (lcS xs.length mp σ) H' s'/\tn i s'.heap/\(∀ b∈fp,H' b=none)/\W i m acc H':=by
    intro σ' H' s' J ⟨m,acc',hm,w'⟩;refine⟨m,hm,i+1,acc',H',ZbP I3 hsc hN S f3 J.unpinned,T.keep _ _ _ st8 fun b hb o e=>(J.pin (b,o) (QF _ (QF _ (Yn hb e)))).1,fun b hb=>?_,w'⟩;obtain⟨o,e,_⟩:=T.obj _ _ st8 b hb;exact(J.pin (b,o) (QF _ (QF _ (Yn hb e)))).2.1
   refine thn (hg _ _ _ _ _ _ s8 _ H8 x u _ I8' r8 (step x H8 y8)) fun _ s9 ⟨σ9,H9,I9,q9⟩=>?_;refine thn (hc _ _ _ _ _ _ s9 σ9 H9 _ I9 q9) fun b s10 ⟨H10,I10,q10⟩=>?_;cases b with
   | false =>
    obtain⟨m',hm,w'⟩:=q10;exact again I10 ⟨m',acc,hm,w'⟩
   | true =>
    refine thn (he _ _ _ _ _ _ s10 σ9 H10 _ I10 q10) fun yv s11 ⟨v,H11,I11,r11,hDa,hz,m',hm,w'⟩=>?_;refine thn (XO _ s11 σ9 H11 (.ref s2.heap.objs.size) [v] (.ref s2.heap.objs.size) [yv] (fun _ H12=>H12=upd H11 s2.heap.objs.size (.lst (acc++[v]))) I11 rfl (.cons r11 .nil) ⟨_,acc,v,rfl,rfl,hDa,hz,rfl⟩) fun _ s12 ⟨_,H12,I12,_,e12⟩=>?_;subst e12;exact again I12 ⟨m',_,hm,w'⟩
 subst hs3;exact Mh (key _ rfl) (T.self X.A 0 _ _ _ st4 (key _ rfl))
theorem ZfH {pos' spos} (z) (sc) (N xs) (mp) (hNd:X.N.Nodup) (hix:X.N[i]?=some x) (hx:Loc X.env.scope x) (hcalm:X.calm=true) (hi:PI X tgt iter wi) (hg:∀ cl C s₀ H₀ fp,PG (Zbi X z (lcN N xs mp) scope cl C s₀ H₀ fp) tgt g)
  (hc:∀ cl C s₀ H₀ fp,PCs (Zbi X z (lcN N xs mp) scope cl C s₀ H₀ fp) ifs tc) (he:∀ cl C s₀ H₀ fp,PE (Zbi X z (lcN N xs mp) scope cl C s₀ H₀ fp) elt te)
  (S:Zgt sc scope N xs mp z=true:=by decide +kernel) (hsw:GB (.ListComp elt [⟨tgt,iter,ifs,0⟩] scope pos) (some (.Name x pos')) spos.line X.env=pure true:=by rfl)
  (hsc:X.env.scope=sc:=by rfl) (hN:X.N=N:=by rfl) (hs:∀ x,Gc iter X.env x=pure x:=by intro _;rfl) (hf:X.fn x=true\/X.env.scope.names.lookup x=some .local:=by first | exact .inl rfl | exact .inr rfl | assumption) :
  PS X (.Assign [.Name x pos'] (.ListComp elt [⟨tgt,iter,ifs,0⟩] scope pos) spos) (ZmN (tLc xs.length mp wi g tc te) (Ji i)):=by
 intro pins s σ H D I h;have S':=Zgs S;rw[Mw _ _ _ _ hsw];refine Oa (O3 (Oa ?_));refine Oa (Oo (Nu rfl hs (YT (ZbQ I hsc S')) S'.kind S'.names
  (thn (hi pins s σ H _ I h) fun v s1 h1=>thn h1 fun itv s2 h2=>?_)) (fun _ s' hq=>Ob (Ob hq)) fun _ _ e=>e)
 have⟨it,fp,tn,J,H2,e,I2,T,st2,f2,h3⟩:=h2;subst e;refine ZkG hsc hN S' hcalm hg hc he I2 T st2 f2 h3 ?_;intro D' C s' H' m hn I' fC q;refine NZ (Jw I' hNd hix hx (v:=.ref D') rfl (fun s'' I'' ⟨a,sb,ha⟩=>?_) hf);have nC:C≠a:=by
  rcases ha with z | z
  rw[z];exact fC.2.1;exact fun e=>fC.2.2.2.2.1 x a z e.symm
 refine⟨m,hn.sameBut sb nC,fun h' hs'=>⟨_,H',I''.turned (fun b o hb e=>hs'.extBut b o hb e) fC.1 fC.2.1 fC.2.2.2.1 fC.2.2.2.2.1 fC.2.2.2.2.2,q⟩⟩
end
theorem Zlz {X} {z} {scope} {cl} {C} {s₀} {H₀} {fp} (i) {pos} (nd:(lcN N xs mp).Nodup:=by decide +kernel) (hi:(lcN N xs mp)[i]?=some z:=by rfl)
  (hx:(Zbi X z (lcN N xs mp) scope cl C s₀ H₀ fp).env.scope.names.lookup z=some .cell:=by rfl):PG (Zbi X z (lcN N xs mp) scope cl C s₀ H₀ fp) (.Name z pos) (Ji i):=Zx nd hi (.inr hx) (.inl (beq_self_eq_true z))
end L2
namespace Sh
open PySem L2 PyProof.Rows
seal L2.PE L2.PS L2.PSs L2.PT L2.PW L2.PA L2.PI L2.PG L2.PGs L2.PO L2.PC L2.PCs L2.OpR L2.UnR L2.CallR L2.MtR L2.IxR L2.SlR
theorem Least.det (h:Least a b m) (h':Least a b m'):m=m':=by
 rcases WS m m' with z | z | z
 have:=h'.2.2 m z;rw[h.2.1]at this;simp_all;exact z;have:=h.2.2 m' z;rw[h'.2.1]at this;simp_all
noncomputable def ltr (x y:Vl):Vg:=by
 classical
 exact if h:∃ m,Least x.cps.toList y.cps.toList m then h.choose else 0
theorem Zi9 (h:Least x.cps.toList y.cps.toList m):ltr x y=m:=by
 unfold ltr;have e:∃ m,Least x.cps.toList y.cps.toList m:=⟨m,h⟩
 rw[Tt e];exact e.choose_spec.det h
noncomputable def lbl (x y:Vl):Vl:=tx (y.cps.toList.drop (y.length-ltr x y))
section
variable {P:Oh} {w:Oi} {K:Ve} {mg:Vl->Vj Vi} {base:Vz}
def ZjP:Sp:=fun vs H Q _=>∃ x y:Vl,vs=[.str x,.str y]/\x.length=y.length/\x.length<=1000/\(Least x.cps.toList y.cps.toList (ltr x y)->Q (.int (ltr x y:Vg)) H)
theorem ZlN (G:FOk P w K mg base k "letters_to" ["one","other"] Zbs):FOk P w K mg base k "letters_to" ["one","other"] ZjP:=by
 obtain⟨f,fd,F,b,m,kp⟩:=G.ex;refine⟨f,fd,F.imp fun vs H Q E h=>?_,b,m,kp⟩;obtain⟨x,y,rfl,e,l,k⟩:=h;refine⟨_,_,by rfl,by assumption,by assumption,fun m hm=>?_⟩;have q:=Zi9 hm
 simp_all
noncomputable abbrev Zcy:V7:=top 23
noncomputable abbrev Zkp:Vd Vl:=["rows","points","point","many"]
theorem scSpread:Zo Zkp ["rows"] (Zh Zcy):=⟨rfl,rfl,rfl,by decide +kernel,rfl,by decide +kernel,by decide +kernel⟩
def Zdr:Sp:=fun vs H Q _=>∃ (v:V) (es:Es),vs=[v]/\HeapV H v es/\(∀ e∈es,0<=e.2/\e.2<=1000)/\(flatE es).length<=1000/\∀ q H',Same H H'->H q=none->H' q=some (.lst ((flatE es).map V.str))->Q (.ref q) H'
theorem Zf3 (D:HasDef K mg "spread" Zcy ["rows"]):FOk P w K mg base 1 "spread" ["rows"] Zdr:=by
 refine D.ok scSpread (fun vs H Q E h=>?_) (fun f cdv A outer s H vs Q E hr h=>?_)
 ·obtain⟨v,es,rfl,_⟩:=h;rfl
 ·obtain⟨v,es,rfl,⟨q,vs,rfl,hq,hpa⟩,hm,hfl,k⟩:=h;refine⟨_,(Zd (Zm (i:=1) scSpread.nd rfl (.inl rfl) (ZD Ze))
   (Zd (Z8 Vr rfl (Y3 (pv 0)) (Yj 2 K rfl (Zt (Zx (i:=2) scSpread.nd rfl (.inl rfl)) (Zt (Zx (i:=3) scSpread.nd rfl (.inl rfl)) Z9)))
    (Zi (ZX (XN F.plainAttrs_list F.slot_list_extend F.type_list_extend Zat (pv 1) (Za (Zp Y5 (ZD (Za (pv 2) Ze)) (pv 3)) Ze)))))
   (Zi (Zq (pv 1))))),?_⟩
  refine⟨Zl (by decide),fun l hl=>?_⟩;have s1:=Zb (o:=.lst []) hl;refine⟨_,rfl,q,rfl,⟨_,SqT.of (s1 _ _ hq)⟩,?_⟩;refine XC (K:=K) (a:=q) (xs:=vs) (fun i σ H2=>∃ (z2 z3:Vj V),σ=[some (.ref q),some (.ref l),z2,z3]/\Same H H2/\H2 l=some (.lst ((flatE (es.take i)).map V.str)))
   ⟨none,none,rfl,s1,Zc⟩ (fun i σ H2 _ ⟨_,_,_,s2,_⟩=>SqT.of (s2 _ _ hq)) ?_ ?_
  ·rintro i x σ H2 hi ⟨z2,z3,rfl,s2,hl2⟩;have hiv:=(Ql.mp hi).1;have hie:i<es.length:=by rw[←hpa.1];exact hiv
   obtain⟨b,e1,e2⟩:=hpa.2 i es[i] (Qa hie);rw[hi]at e1;cases e1;have hmi:=hm es[i] (QG hie);have het:=QN hie;have ht1:=ZaA (es:=es) (n:=i);refine⟨b,_,rfl,SqT.of (s2 _ _ e2),rfl,_,_,rfl,_,_,rfl,rfl,?_⟩;rw[het,ZaB];generalize es[i]=e at *;refine⟨_,rfl,.inl ⟨rfl,_,SqL.of hl2⟩,_,rfl,Zl (show 1<=1000 by decide),fun p hp=>?_⟩;have t2:=Zb (o:=.lst [.str e.1]) hp;refine⟨_,rfl,p,e.2,_,rfl,rfl,Zc,by omega,by omega,Zl (by simp only[Qx];exact Kz hmi),fun p2 hp2=>?_⟩;rw[XW];have t3:=Zb (o:=.lst (Qq e.2.toNat (V.str e.1))) hp2;have hl5:=t3 _ _ (t2 _ _ hl2);refine⟨l,p2,_,_,rfl,rfl,hl5,Zc,?_,?_⟩
   ·rw[Wj,Qd];refine ZO ?_;lia
   refine⟨_,_,rfl,fun b u hb=>by rw[Zf (Zg hb hl)];exact t3 _ _ (t2 _ _ (s2 b u hb)),?_⟩;rw[Zc,QJ,Ut]
  ·rintro σ H2 ⟨z2,z3,rfl,s2,hl2⟩;rw[hpa.1,Q5]at hl2;exact⟨_,rfl,k l H2 s2 hl hl2⟩
abbrev ZjY:V7:=top 25
noncomputable abbrev Znl:Vd Vl:=["end","begin","many"]
theorem scLink:Zo Znl ["end","begin"] (Zh ZjY):=⟨rfl,rfl,rfl,by decide +kernel,rfl,by decide +kernel,by decide +kernel⟩
def ZiQ:Sp:=fun vs H Q _=>∃ (x y:Vl),vs=[.str x,.str y]/\x.length=y.length/\x.length<=1000/\∀ p H',Same H H'->H' p=some (.tup [.str x,.str (lbl x y),.str y])->Q (.ref p) H'
theorem Zkk (D:HasDef K mg "link" ZjY ["end","begin"]) (B:Blt mg) (g18_:FOk P w K mg base 1 "letters_to" ["one","other"] ZjP):FOk P w K mg base 2 "link" ["end","begin"] ZiQ:=by
 refine D.ok scLink (fun vs H Q E h=>?_) fun f cdv A outer s H vs Q E hr h=>?_
 ·obtain⟨x,y,rfl,_⟩:=h;rfl
 ·obtain⟨x,y,rfl,e,l,k⟩:=h;refine⟨_,Zd (Zm (i:=2) scLink.nd rfl (.inl rfl) (ZC g18_ hr (Za (pv 0) (Za (pv 1) Ze))))
   (Zi (Zq (JD (Za (pv 0) (Za (Zz Z6 (pv 1) (ZM (Zp Yy (Zk Zn rfl B.len ZQ (Za (pv 1) Ze)) (pv 2))) ZT) (Za (pv 1) Ze)))))),?_⟩
  refine⟨_,rfl,_,rfl,x,y,rfl,e,l,fun hL=>?_⟩;have hle:=hL.1;rw[Zu]at hle;have es:VG y (some (y.length-(ltr x y))) none=lbl x y:=by
   have:=Zam (z:=y.cps.toList) (i:=y.length-(ltr x y)) (by omega) (by rw[Zu];lia);rw[tx_eta]at this;rw[this];congr 2;exact Fu
  refine⟨_,rfl,_,rfl,?_⟩;have hy:y.length<=Of:=ZO (by lia);refine⟨_,rfl,_,_,rfl,⟨hy,rfl⟩,_,rfl,_,_,rfl,rfl,_,rfl,y,rfl,hy,_,rfl,Zl (show 3<=1000 by decide),fun p hp=>?_⟩;rw[es];exact k p _ (Zb hp) Zc
noncomputable def Zof:Scope:={kind:=.function,names:=[(".0",.local),("end",.cell),("begins",.cell)],isGenerator:=false,isCoroutine:=false,more:=[]}
theorem ZhO (K) (hl:PE X l tl) (h:X.K=K:=by rfl):PI X tg l (Zmo K tl):=by
 subst h;exact YF hl
noncomputable abbrev Xd:V7:=top 24
noncomputable abbrev Zas:Vd Vl:=["ends","begins","rows"]
theorem scCostTable:Zo Zas ["ends","begins"] (Zh Xd):=⟨rfl,rfl,rfl,by decide +kernel,rfl,by decide +kernel,by decide +kernel⟩
noncomputable def Z3 (E Bg:Vd Vl) (i j:Vg):Vs:=if i<E.length/\j<Bg.length then (ltr (E.getD i "") (Bg.getD j ""):Vg)else 0
def ZiS:Sp:=fun vs H Q _=>∃ (e b:Vk) (E Bg:Vd Vl) (L:Vg),vs=[.ref e,.ref b]/\H e=some (.lst (E.map V.str))/\H b=some (.lst (Bg.map V.str))/\E.length=Bg.length/\E.length<=900/\L<=1000/\(∀ x∈E,x.length=L)/\(∀ x∈Bg,x.length=L) /\
 ∀ cst rows H',Same H H'->Zjy H' cst rows (Bg.length+1) (Z3 E Bg)->Q (.ref cst) H'
theorem ZaY (D:HasDef K mg "cost_table" Xd ["ends","begins"]) (B:Blt mg) (g18_:FOk P w K mg base 1 "letters_to" ["one","other"] ZjP):FOk P w K mg base 2 "cost_table" ["ends","begins"] ZiS:=by
 refine D.ok scCostTable (fun vs H Q E h=>?_) (fun f cdv A outer s H vs Q E hr h=>?_)
 ·obtain⟨e,b,E,Bg,L,rfl,_⟩:=h;rfl
 ·obtain⟨e,b,Es,Bg,L,rfl,he,hb,hlen,h9,hL,hE,hB,k⟩:=h;refine⟨_,(Zd (ZfH (i:=2) "end" (Zh Xd) Zas ["end"] [1] scCostTable.nd rfl (.inl rfl) rfl (YF (pv 0)) (fun _ _ _ _ _=>Zlz 0) (fun _ _ _ _ _=>Y4) (fun _ _ _ _ _=>(Zp ZdK (ZV Zof ["end","begins"] ["begin"] [0] rfl (ZhO K (pv 1)) (fun _ _ _ _ _=>YM 0) (fun _ _ _ _ _=>Y4) (fun _ _ _ _ _=>(ZC g18_ hr (Za (pv 1) (Za (pv 0) Ze))))) (ZD (Za Zj Ze)))))
   (Zi (Zq (Zp ZdK (pv 2) (ZD (Za (Zp Y5 (ZD (Za Zj Ze)) (Zp Z5 (Zk Zn rfl B.len ZQ (Za (pv 1) Ze)) Zj)) Ze)))))),?_⟩
  have gE:∀ {i},i<Es.length->(Es.map V.str).getD i .non= .str (Es.getD i "")/\Es.getD i ""∈Es:=fun {i} hi=>by
   rw[Qb,Qb,Qi,Qa hi];simp
  have gB:∀ {i},i<Bg.length->(Bg.map V.str).getD i .non= .str (Bg.getD i "")/\Bg.getD i ""∈Bg:=fun {i} hi=>by
   rw[Qb,Qb,Qi,Qa hi];simp
  refine⟨_,rfl,e,rfl,⟨_,SqL.of he⟩,Zig Es.length (fun i=>(Es.map V.str).getD i .non) (fun i=>arr (Bg.length+1) fun j=>.int (Z3 Es Bg i j)) (Zl (by lia)) (by have:=XB (K:=K) (SqL.of he);rw[Qd]at this;trivial) ?_ ?_⟩
  ·intro i H1 Qe hi hs kq;obtain⟨g1,g2⟩:=gE hi;rw[g1];refine⟨_,rfl,b,rfl,⟨_,SqL.of (hs _ _ hb)⟩,JJ Bg.length (fun j=>(Bg.map V.str).getD j .non) (fun j v _=>v= .int (Z3 Es Bg i j)) (Zl (by lia)) (fun _ _ _ _ _ r=>r) (by have:=XB (K:=K) (SqL.of (hs _ _ hb));rw[Qd]at this;omega) ?_ ?_⟩
   ·intro j H2 Qf hj hs2 kf;obtain⟨q1,q2⟩:=gB hj;rw[q1];refine⟨_,rfl,_,rfl,Es.getD i "",Bg.getD j "",rfl,by rw[hE _ g2,hB _ q2],by rw[hE _ g2];exact hL,fun hLe=>kf _ _ (Same.refl _) ?_⟩;unfold Z3;rw[Vf ⟨hi,hj⟩]
   intro D1 vs1 H2 hl1 hr1 hs2 hD1 hDl1;refine⟨Zl (show 1<=1000 by decide),fun p hp=>?_⟩;have t1:=Zb (o:=.lst [.int 0]) hp;refine⟨D1,p,_,_,rfl,rfl,t1 _ _ hDl1,Zc,by rw[hl1];exact Zl (show Bg.length+1<=1000 by lia),fun p2 hp2=>?_⟩;have t2:=Zb (o:=.lst (vs1++[V.int 0])) hp2;refine kq p2 _ (hs2.trans (t1.trans t2)) (hs2.free (t1.free hp2)) ?_;rw[Zc];congr 2;refine QW fun j=>?_;by_cases hj:j<Bg.length
   ·rw[Z2 _ (Xo hj),QA (B9 hj hl1),Qa (B9 hj hl1)];rw[hr1 j _ (Qa (B9 hj hl1))]
   ·by_cases hj2:j=Bg.length
    ·subst hj2;rw[Z2 _ K9,Qy (Fz hl1),hl1,Wv];unfold Z3;rw[if_neg (by lia)];rfl
    ·rw[Qp (by rw[Qh,hl1];simp;exact Hh hj hj2),Qp (by rw[ZR];exact Hh hj hj2)]
  intro D1 as H1 hal hrow hs1 hD1 hDl1;refine⟨_,rfl,Zl (show 1<=1000 by decide),fun p hp=>?_⟩;have t1:=Zb (o:=.lst [.int 0]) hp;refine⟨_,rfl,.ref b,(Bg.map V.str).length,rfl,.inl ⟨_,SqL.of (t1 _ _ (hs1 _ _ hb)),rfl⟩,_,_,rfl,rfl,p,_,_,rfl,rfl,Zc,by lia,by rw[Qd];omega,?_,fun p2 hp2=>?_⟩
  ·rw[Qd];exact Zl (by simp only[Qx];lia)
  have t2:=Zb (o:=.lst (Qq (((Bg.map V.str).length:Vs)+1).toNat [V.int 0]).flatten) hp2;refine⟨Zl (show 1<=1000 by decide),fun p3 hp3=>?_⟩;have t3:=Zb (o:=.lst [.ref p2]) hp3;have sA:=t1.trans (t2.trans t3);refine⟨D1,p3,_,_,rfl,rfl,sA _ _ hDl1,Zc,by rw[Qd,hal];exact Zl (show Es.length+1<=1000 by lia),fun p4 hp4=>?_⟩;have t4:=Zb (o:=.lst (as.map V.ref++[.ref p2])) hp4;refine k p4 (as++[p2]) _ (hs1.trans (sA.trans t4)) ⟨by rw[Zc,QJ];rfl,by rw[Qh,hal,hlen];rfl,fun i hi=>?_⟩;by_cases hie:i<Es.length
  ·have ei:(as++[p2]).getD i 0=as[i]'(B9 hie hal):=by
    rw[Qb,QA (B9 hie hal),Qa (B9 hie hal)];rfl
   rw[ei];exact t4 _ _ (sA _ _ (hrow i _ (Qa (B9 hie hal))).2.2)
  ·have e2:i=as.length:=by lia
   have ei:(as++[p2]).getD i 0=p2:=by
    rw[Qb,e2,Qy Sy,Wv];rfl
   rw[ei];refine t4 _ _ (t3 _ _ ?_);rw[Zc,Qd,show((Bg.length:Vs)+1).toNat=Bg.length+1 by lia,XW,ZcD];congr 2;refine Zcg fun j _=>?_;unfold Z3;rw[if_neg (by lia)]
end
end Sh
namespace L2
theorem Zku:MtR X "list.append" ZcF:=XO
end L2
namespace Sh
open PySem L2 PyProof.Rows
seal L2.PE L2.PS L2.PSs L2.PT L2.PW L2.PA L2.PI L2.PG L2.PGs L2.PO L2.PC L2.PCs L2.OpR L2.UnR L2.CallR L2.MtR L2.IxR L2.SlR
noncomputable def Zey (E Bg:Vd Vl) (ra:Vg->Vj Vg) (j:Vg):T3:=match ra j with
 | some r=>if r<E.length then [(E.getD r "",lbl (E.getD r "") (Bg.getD j ""),Bg.getD j "")]else []
 | none=>[]
noncomputable def lnk (E Bg:Vd Vl) (ra:Vg->Vj Vg) (i:Vg):T3:=(Qu i).flatMap (Zey E Bg ra)
theorem Za2 (E Bg) (ra) (i):lnk E Bg ra (i+1)=lnk E Bg ra i++Zey E Bg ra i:=by
 unfold lnk;rw[Wz];simp
theorem ZcX (E Bg) (ra):∀ i,(lnk E Bg ra i).length<=i
 | 0=>by simp[lnk]
 | i+1=>by
  rw[Za2,Qh];have:=ZcX E Bg ra i;have:(Zey E Bg ra i).length<=1:=by
   unfold Zey;split
   split <;> simp
   simp
  lia
section
variable {P:Oh} {w:Oi} {K:Ve} {mg:Vl->Vj Vi} {base:Vz} {C:Vk}
abbrev ZaM:V7:=top 26
noncomputable abbrev Zh4:Vd Vl:=["pairing","ends","begins","links","column","begin","row"]
theorem scLinksOf:Zo Zh4 ["pairing","ends","begins"] (Zh ZaM):=⟨rfl,rfl,rfl,by decide +kernel,rfl,by decide +kernel,by decide +kernel⟩
def Zfc (C:Vk):Sp:=fun vs H Q _=>∃ (a e b:Vk) (A:Adr) (cost:Vg->Vg->Vs) (S:Pst) (E Bg:Vd Vl) (L:Vg),vs=[.ref a,.ref e,.ref b]/\PairS C 3 H a A (Bg.length+1) cost (enc S)/\H e=some (.lst (E.map V.str))/\H b=some (.lst (Bg.map V.str))/\E.length=Bg.length/\E.length<=900/\L<=1000/\(∀ x∈E,x.length=L)/\(∀ x∈Bg,x.length=L) /\
 (∀ j,j<Bg.length->∃ r,S.ra j=some r)/\∀ q us H',Same H H'->H' q=some (.lst us)->TyL H' us (lnk E Bg S.ra Bg.length)->Q (.ref q) H'
theorem ZcL (D:HasDef K mg "links_of" ZaM ["pairing","ends","begins"]) (B:Blt mg) (T:PgC K mg C) (g19_:FOk P w K mg base 2 "link" ["end","begin"] ZiQ):FOk P w K mg base 3 "links_of" ["pairing","ends","begins"] (Zfc C):=by
 refine D.ok scLinksOf (fun vs H Q E h=>?_) (fun f cdv A outer s H vs Q E hr h=>?_)
 ·obtain⟨a,e,b,A,cost,S,E,Bg,L,rfl,_⟩:=h;rfl
 ·obtain⟨a,e,b,Ad,cost,S,Es,Bg,L,rfl,hP,he,hb,hlen,h9,hL,hE,hB,hra,k⟩:=h;refine⟨_,(Zd (Zm (i:=3) scLinksOf.nd rfl (.inl rfl) (ZD Ze))
   (Zd (Z8 Vr rfl (Zj7 rfl B.enum (Za (pv 2) Ze)) (Yj 2 K rfl (Zt (Zx (i:=4) scLinksOf.nd rfl (.inl rfl)) (Zt (Zx (i:=5) scLinksOf.nd rfl (.inl rfl)) Z9)))
    (Zd (Zm (i:=6) scLinksOf.nd rfl (.inl rfl) (ZB ix_list (ZJ (pv 0) rfl) (pv 4) (fun _ _=>rfl)))
    (Zi (Yg (Zw ZfY (pv 6) (Zk Zn rfl B.len ZQ (Za (pv 1) Ze)) (ZA _)) (Zi (ZX (XN F.plainAttrs_list F.slot_list_append F.type_list_append Zku (pv 3) (Za (ZC g19_ hr (Za (ZB ix_list (pv 1) (pv 6) (fun _ _=>rfl)) (Za (pv 5) Ze))) Ze)))) ZF))))
   (Zi (Zq (pv 3))))),?_⟩
  refine⟨Zl (show 0<=1000 by decide),fun l hl=>?_⟩;have s1:=Zb (o:=.lst []) hl;refine⟨_,rfl,b,rfl,⟨_,SqL.of (s1 _ _ hb)⟩,?_⟩;refine Zit (K:=K) (a:=b) (xs:=Bg.map V.str) (fun i σ H2=>∃ (z4 z5 z6:Vj V) (us:Vd V),σ=[some (.ref a),some (.ref e),some (.ref b),some (.ref l),z4,z5,z6]/\Same H H2/\H2 l=some (.lst us)/\TyL H2 us (lnk Es Bg S.ra i))
   ⟨none,none,none,[],rfl,s1,Zc,⟨rfl,fun i x e=>by cases e⟩⟩ (fun i σ H2 _ ⟨_,_,_,_,_,s2,_⟩=>SqL.of (s2 _ _ hb)) ?_ ?_
  ·rintro i x σ H2 t hi ht ⟨z4,z5,z6,us,rfl,s2,hl2,hty⟩;rw[Qi]at hi;obtain⟨y,hy,rfl⟩:=Wp.mp hi;have hib:i<Bg.length:=(Ql.mp hy).1;have gy:Bg.getD i "" = y:=by rw[Qb,hy];rfl
   have ts:=Zb (o:=.tup [.int i,.str y]) ht;have s3:=s2.trans ts;obtain⟨r,er⟩:=hra i hib;have P3:=hP.same s3;have v2:enc S 2 i= .int (r:Vg):=by show oN (S.ra i)=_;rw[er];rfl
   refine⟨t,_,rfl,SqT.of Zc,rfl,_,_,rfl,_,_,rfl,rfl,.ref a,rfl,a,C,_,_,_,rfl,P3.ob,T.cl,T.no 2 (by decide),P3.lk 2 (by decide),_,rfl,_,_,_,_,rfl,rfl,SqL.of (P3.hv 2 (by decide)),(YC _ (Xo hib)).trans (VR some v2),_,rfl,_,rfl,.ref e,(Es.map V.str).length,rfl,.inl ⟨_,SqL.of (s3 _ _ he),rfl⟩,_,_,rfl,rfl,_,rfl,?_⟩;rw[Qd,Za2];by_cases hr1:r<Es.length
   ·have e1:Zey Es Bg S.ra i=[(Es.getD r "",lbl (Es.getD r "") y,y)]:=by unfold Zey;rw[er];show(if r<Es.length then _ else _)=_;rw[Vf hr1,gy]
    have ge:Es[r]?=some (Es.getD r ""):=by rw[Qb,Qa hr1];rfl
    have me:=hE _ (Q3 ge);have my:=hB y (Q3 hy);refine Xm (Vq (Di hr1)) ⟨_,rfl,.inl ⟨rfl,_,SqL.of (ts _ _ hl2)⟩,_,rfl,_,rfl,e,_,_,.str (Es.getD r ""),rfl,rfl,SqL.of (s3 _ _ he),YW (by rw[Qi,ge];rfl),_,rfl,Es.getD r "",y,rfl,Dj me my,Dk hL me,fun p H4 s4 hp4=>?_⟩;have hl4:=s4 _ _ (ts _ _ hl2);have hul:=hty.1;have:=ZcX Es Bg S.ra i;refine⟨l,us,.ref p,rfl,rfl,hl4,Zv (by lia),?_⟩;have tl:=Yk (ys:=us++[V.ref p]) hl4;refine⟨_,_,_,_,rfl,fun x u hx=>?_,Zc,?_⟩
    ·rw[Zf (Zg hx hl)];exact s4 _ _ (s3 x u hx)
    ·rw[e1];exact((hty.same ((ts.trans s4).tup.trans tl)).snoc (t:=(Es.getD r "",lbl (Es.getD r "") y,y)) (tl _ _ hp4))
   ·have e1:Zey Es Bg S.ra i=[]:=by unfold Zey;rw[er];show(if r<Es.length then _ else _)=_;rw[if_neg hr1]
    refine Yu (Vp (Dm hr1)) ⟨_,_,_,us,rfl,s3,ts _ _ hl2,?_⟩;rw[e1,WC];exact hty.same ts.tup
  ·rintro σ H2 ⟨z4,z5,z6,us,rfl,s2,hl2,hty⟩;rw[Qd]at hty;exact⟨_,rfl,k l us H2 s2 hl2 hty⟩
end
end Sh
namespace L2
open PySem PySem.Spec PyProof.Rows
theorem Zeb:G0 (.type "zip") (R1 "__len__")=pure none:=by rfl
theorem Zcm:G0 (.type "zip") (R1 "__length_hint__")=pure none:=by rfl
def Xt (h:Vz) (z TI TO:Vk) (f0:Vi) (b:V0):Prop:=h.get? z=some {cls:=.type "zip",data:=.fields #[f0,.bool b,.bool false,.ref TI,.ref TO]}
section
variable {prog:Oh} {w:Oi} {A:VA} {E:Vi->Vh->Prop} {s:Vh}
theorem ZgU {z TI TO T0:Vk} (zz:Xt s.heap z TI TO (OA T0) b) (h:∀ g1,Xt g1 z TI TO (OA T0) true->VY z s.heap g1->R false {s with heap:=g1}) :
  Og (Oc prog w) A (if (MY b != MY true)=true then do
   Gx (.ref z) 1 (.bool true)
   pure false
  else pure false) R E s:=by
 cases b with
 | true =>
  exact Ob (h s.heap zz ⟨rfl,fun _ _=>rfl⟩)
 | false =>
  exact Oa (Ou zz (by simp) fun g1 z1 m1=>Ob (h g1 z1 m1))
theorem ZjA {z TI TO i1 i2 l1 l2 T0:Vk} {Q:Vi->Vh->Prop} (D:G2 z TI TO i1 i2 l1 l2) (zz:Xt s.heap z TI TO (OA T0) b) (g0:s.heap.get? T0=some o0) (pI:Gq s.heap TI (.ref i1) (.ref i2))
  (j1:s.heap.IsListIter i1 l1 n1) (j2:s.heap.IsListIter i2 l2 n1) (t1:s.heap.IsList l1 xs) (t2:s.heap.IsList l2 ys) (ex:xs[n1]?=some x) (ey:ys[n1]?=some y)
  (q:∀ g,Xt g z TI TO (OA T0) true->g.IsListIter i1 l1 (n1+1)->g.IsListIter i2 l2 (n1+1)->Gq g s.heap.objs.size x y->(∀ c o,c≠z->c≠i1->c≠i2->s.heap.get? c=some o->g.get? c=some o)->Q (.ref s.heap.objs.size) {s with heap:=g}) :
  Og (Oc prog w) A (Nc.«zip.__next__» ⟨[.ref z],[]⟩) (fun fin s'=>∃ v,fin= .done (.ret v)/\Q v s') E s:=by
 show Og _ _ (field (.ref z) 2 >>= _) _ _ _;refine Oa (OX zz rfl (x:=.bool false) rfl (Oa (OX zz rfl (x:=.ref TI) rfl (Oa (OP pI rfl ?_)))));refine(Oa ?_);refine Oa (OX zz rfl (x:=OA T0) rfl ?_);show Og _ _ (loadIfAlive ((T0:Vs)).toNat >>= _) _ _ _;refine Oa (R5 g0 ?_);refine Oa (OX zz rfl (x:=.bool b) rfl ?_);refine ZgU zz fun g1 z1 m1=>?_;refine Oa (Oa (Oa (Om (Oa (Ml (j1.extBut m1.extBut D.i1z) (t1.extBut m1.extBut D.l1z) ex fun g2 j12 m2=>Ob ?_)))));refine Ob ?_;refine Oa (Oa (Om (Oa (Ml ((j2.extBut m1.extBut D.i2z).extBut m2.extBut D.i12.symm) ((t2.extBut m1.extBut D.l2z).extBut m2.extBut D.l2i1) ey fun g3 j23 m3=>Ob ?_))));refine Ob (Ob (Oa (ME ?_ (show 2<=Of by decide))));have sz:g3.objs.size=s.heap.objs.size:=by rw[m3.1,m2.1,m1.1]
 have z3:Xt g3 z TI TO (OA T0) true:=m3.extBut _ _ D.i2z.symm (m2.extBut _ _ D.i1z.symm z1);rw[sz];have p4:Gq (g3.push {cls:=.type "tuple",data:=.seq #[x,y]}) s.heap.objs.size x y:=by rw[←sz];exact Qm _ rfl
 refine Ob ⟨_,rfl,q _ (Qc _ z3) ((j12.extBut m3.extBut D.i12).at fun o e=>Qc _ e) (j23.at fun o e=>Qc _ e) p4 fun c o c1 c2 c3 e=>Qc _ (m3.extBut _ _ c3 (m2.extBut _ _ c2 (m1.extBut _ _ c1 e)))⟩
theorem Zk9 {z TI TO i1 i2 l1 l2 T0:Vk} (hh:A.handled=none) (D:G2 z TI TO i1 i2 l1 l2) (zz:Xt s.heap z TI TO (OA T0) b) (g0:s.heap.get? T0=some o0) (pI:Gq s.heap TI (.ref i1) (.ref i2))
  (j1:s.heap.IsListIter i1 l1 n1) (t1:s.heap.IsList l1 xs) (ex:xs[n1]?=none)
  (q:∀ g e,(∀ c o,c≠z->c≠i1->s.heap.get? c=some o->g.get? c=some o)->(∃ o,g.get? e=some o/\o.cls= .type "StopIteration")->E (.ref e) {s with heap:=g}) :
  Og (Oc prog w) A (Nc.«zip.__next__» ⟨[.ref z],[]⟩) Q E s:=by
 show Og _ _ (field _ 2 >>= _) _ _ _;refine Oa (OX zz rfl rfl (Oa (OX zz rfl (x:=.ref TI) rfl (Oa (OP pI rfl ?_)))));refine(Oa ?_);refine Oa (OX zz rfl rfl ?_);show Og _ _ _ _ _ _;refine Oa (R5 g0 ?_);refine Oa (OX zz rfl rfl ?_);refine ZgU zz fun g1 z1 m1=>?_;refine Oa (Oa (Oa (Om (Oa (wpAny_nextOf_list_end hh (j1.extBut m1.extBut D.i1z) (t1.extBut m1.extBut D.l1z) ex fun g2 e m2 ⟨oe,ge,ce⟩=>?_)))));exact q g2 e (fun c o c1 c2 x=>m2 _ _ c2 (m1.extBut _ _ c1 x)) ⟨oe,ge,ce⟩
theorem ZhM {z TI TO i1 i2 l1 l2 T0:Vk} (D:G2 z TI TO i1 i2 l1 l2) (zz:Xt s.heap z TI TO (OA T0) b) (g0:s.heap.get? T0=some o0) (pI:Gq s.heap TI (.ref i1) (.ref i2))
  (j1:s.heap.IsListIter i1 l1 n1) (j2:s.heap.IsListIter i2 l2 n1) (t1:s.heap.IsList l1 xs) (t2:s.heap.IsList l2 ys) (ex:xs[n1]?=some x) (ey:ys[n1]?=some y)
  (q:∀ g,Xt g z TI TO (OA T0) true->g.IsListIter i1 l1 (n1+1)->g.IsListIter i2 l2 (n1+1)->Gq g s.heap.objs.size x y->(∀ c o,c≠z->c≠i1->c≠i2->s.heap.get? c=some o->g.get? c=some o)->Q (some (.ref s.heap.objs.size)) {s with heap:=g}) :
  Og (Oc prog w) A (GC (.ref z)) Q E s:=by
 exact Oa (OH (VD ⟨_,zz,rfl⟩ F.slot_zip_next (Ot F.slot_zip_next ⟨_,zz,rfl⟩ F.entry_zip_next (ZjA D zz g0 pI j1 j2 t1 t2 ex ey fun g a1 a3 a4 a5 a6=>Ob (q g a1 a3 a4 a5 a6)) (F.args_zip_next_1 _))))
theorem Zj4 {z TI TO i1 i2 l1 l2 T0:Vk} (hh:A.handled=none) (D:G2 z TI TO i1 i2 l1 l2) (zz:Xt s.heap z TI TO (OA T0) b) (g0:s.heap.get? T0=some o0) (pI:Gq s.heap TI (.ref i1) (.ref i2))
  (j1:s.heap.IsListIter i1 l1 n1) (t1:s.heap.IsList l1 xs) (ex:xs[n1]?=none) (q:∀ g,(∀ c o,c≠z->c≠i1->s.heap.get? c=some o->g.get? c=some o)->Q none {s with heap:=g}):Og (Oc prog w) A (GC (.ref z)) Q E s:=by
 refine Oa (OH (VD ⟨_,zz,rfl⟩ F.slot_zip_next (Ot F.slot_zip_next ⟨_,zz,rfl⟩ F.entry_zip_next (Zk9 hh D zz g0 pI j1 t1 ex fun g e k ⟨oe,ge,ce⟩=>?_) (F.args_zip_next_1 _))));exact Oa (O0 ⟨oe,ge,ce⟩ Gy (Ob (q _ k)))
theorem Zho (ht:s.TypeIs (.ref z) "zip") (h:Q true s):Og (Oc prog w) A (NN (.ref z)) Q E s:=by
 refine Oa (Gk ht Zeb ?_);refine Oa (Gk ht Zcm ?_);exact Ob h
theorem Zc7 {z TI TO} (zz:IsZip s.heap z TI TO f0)
  (h:∀ h1 c1,(∀ b o,s.heap.get? b=some o->h1.get? b=some o)->h1.get? s.heap.objs.size=some {cls:=.type "list",data:=.seq #[] c1}->OB (Oc prog w) A (.builtin "list.extend.loop" ⟨[.ref s.heap.objs.size,.ref z,.ref s.heap.objs.size],[]⟩) (fun r s'=>∃ acc c,r= .ok (.ret (.ref s.heap.objs.size))/\s'.heap.get? s.heap.objs.size=some {cls:=.type "list",data:=.seq acc c}/\Q acc.toList s') {s with heap:=h1}) :
  Og (Oc prog w) A (Vc (.ref z)) Q E s:=by
 refine Oa (MH (Os F.entry_proto_collect ?_));refine Oa (Ov (Ob ⟨Ow F.plain_list_iadd _,Os F.entry_list_iadd ?_⟩));have z1:IsZip (s.heap.push {cls:=.type "list",data:=.seq #[]}) z TI TO f0:=Qc _ zz;have hzl:=Qn zz;have eS:(s.heap.push {cls:=.type "list",data:=.seq #[]}).get? s.heap.objs.size=some _:=Qm _ rfl;have kS:∀ b o,s.heap.get? b=some o->(s.heap.push {cls:=.type "list",data:=.seq #[]}).get? b=some o:=fun b o e=>Qc _ e;have nS:∀ b o,s.heap.get? b=some o->b≠s.heap.objs.size:=fun b o e=>QB (Qn e);show Og _ A.in1 (NO _ (.ref z) (.ref s.heap.objs.size)) _ _ _;refine Oa (GP (T:="zip") ⟨_,z1,rfl⟩ ?_);have h1:Nf (.ref s.heap.objs.size) (.ref z)=false:=by simp[Nf];exact Ur hzl
 have h2:(VM "zip" == VM "list")=false:=by decide
 have h3:(VM "zip" == VM "tuple")=false:=by decide
 simp only[h1,h2,h3,Rf,Us,MC];refine Oa (wpAny_pyIter_zip z1 ?_);refine Oa (Om (Zho ⟨_,z1,rfl⟩ ?_));refine Oa (Gp ?_);refine Oa ?_;refine Oa (OF eS rfl ?_);have hS₂:=Wl (VX (·.push VI)) eS rfl;refine OF (hz:=by seq_fits) hS₂ rfl ?_;have hS₃:=Wl (VX (·.pop)) hS₂ rfl;refine Ob ⟨Ow F.plain_extend_loop _,?_⟩;refine OL (h _ _ (fun b o e=>(QM _ _ (Vy (nS b o e))).trans ((QM _ _ (Vy (nS b o e))).trans (kS b o e))) hS₃) fun r s' hq=>?_;obtain⟨acc,c,rfl,e,q⟩:=hq;exact Oa (GX e (Ob q))
theorem Zai {z TI TO} (zz:IsZip s.heap z TI TO f0)
  (h:∀ h1 c1,(∀ b o,s.heap.get? b=some o->h1.get? b=some o)->h1.get? s.heap.objs.size=some {cls:=.type "list",data:=.seq #[] c1}->OB (Oc prog w) A.in1.in1 (.builtin "list.extend.loop" ⟨[.ref s.heap.objs.size,.ref z,.ref s.heap.objs.size],[]⟩) (fun r s'=>∃ acc c,r= .ok (.ret (.ref s.heap.objs.size))/\s'.heap.get? s.heap.objs.size=some {cls:=.type "list",data:=.seq acc c}/\acc.size<=Of/\Q (.ref s'.heap.objs.size) {s' with heap:=s'.heap.push {cls:=.type "tuple",data:=.seq acc}}) {s with heap:=h1}) :
  Og (Oc prog w) A (call (.type "tuple") [.ref z]) Q E s:=by
 refine callType_codes F.called_tuple (F.typeCall_tuple_1 _) F.entry_object_init (Q₁:=fun obj s₁=>s₁.TypeIs obj "tuple"/\Q obj s₁) ?_ fun obj s₁ h₁=>?_
 ·refine Mr ?_;refine(Oa (OO (F.newCall_tuple_1 (.ref z)) (Ob ⟨Ow F.plain_tuple_new _,Os F.entry_tuple_new ?_⟩)));have hsub:=sub_tuple_self;have hinit:=init_tuple_lookup;have hmh:=madeHere_tuple;refine Oa (show Og _ _ _ _ _ _ from Ob (Gr rfl (Oa (OO hsub (Gr rfl (Gr rfl (Oa (OO hmh (Oa (OO hinit (MJ rfl (Oa (MJ rfl (Ob ?_))))))))))))));refine Oa (OO (by rfl) ?_);refine MJ rfl (Oa (Oa (GP (T:="zip") ⟨_,zz,rfl⟩ (Ob (Gr rfl ?_)))));refine Oa (Zc7 zz fun h1 c1 k1 e1=>OL (h h1 c1 k1 e1) fun r s' hq=>?_);obtain⟨acc,c,rfl,e,hz,q⟩:=hq;refine⟨acc,c,rfl,e,?_⟩;refine Oa (Ob (Oa (Ov (Ob ?_) ?_)))
  ·exact⟨⟨_,Qm _ rfl,rfl⟩,by omega⟩
  assumption
 ·exact⟨h₁.1,F.args_object_init_2 obj _,object_init_meets F.called_tuple.init.lookup F.called_tuple.made (by decide) prog w A.in1 _ s₁ ⟨h₁.1,rfl,h₁.2⟩⟩
end
theorem Zdf:∀ (ws) (us),ws.length=us.length->(∀ (i:Vg) (w) (u),ws[i]?=some w->us[i]?=some u->RelV w u)->Vals ws us
 | [],[],_,_=>.nil
 | w::ws,u::us,hl,h=>.cons (h 0 w u rfl rfl) (Zdf ws us (by simp_all) fun i w' u' e1 e2=>h (i+1) w' u' e1 e2)
structure ZL (h:Vz) (n:Vg) (a b:Vk) (i:Vg) (T0:Vk):Prop where
 zz:(i=0/\IsZip h (n+4) (n+2) (n+3) .none/\∃ u v,Gq h (n+3) u v)\/(0<i/\∃ bb,Xt h (n+4) (n+2) (n+3) (OA T0) bb)
 pI:Gq h (n+2) (.ref n) (.ref (n+1))
 j1:h.IsListIter n a i
 j2:h.IsListIter (n+1) b i
section
variable {X:Cx} {pins:Vd (Vk×Nd)} {σ:St} {H:Hp} {s:Vh} {A:VA}
def ZPs (H:Hp) (xs ys:Vd V) (acc:Vm Vi) (i:Vg):Prop:=acc.size=i/\∀ j,j<i->∃ T x y,acc[j]?=some (.ref T)/\xs[j]?=some x/\ys[j]?=some y/\H T=some (.tup [x,y])
theorem Za9 {n:Vg} (hf:∀ c∈[n+4,n+2,n+3,n,n+1],Xk X pins Hi c) (e:Hi c=some o):c∉[n+4,n+3,n,n+1]:=fun z=>by
 have:c∈[n+4,n+2,n+3,n,n+1]:=by
  simp[Qs,Q4,or_false]at z ⊢;rcases z with z | z | z | z
  simp_all
  simp_all
  simp_all
  simp_all
 rw[(hf c this).1]at e
 grind
theorem Zjz {n i:Vg} (I:Inv X pins σ Hi {s with heap:=h}) (ha:Hi a=some (.lst xs)) (hb:Hi b=some (.lst ys)) (hf:∀ c∈[n+4,n+2,n+3,n,n+1],Xk X pins Hi c) (zl:ZL h n a b i T0) (hT:0<i->∃ vs,Hi T0=some (.tup vs))
  (ex:xs[i]?=some x) (ey:ys[i]?=some y)
  (q:∀ g T1 x' y',ZL g n a b (i+1) T1->(T1=h.objs.size\/(0<i/\T1=T0))->RelV x x'->RelV y y'->Gq g h.objs.size x' y'->(∀ c o,c≠n+4->c≠n+3->c≠n->c≠n+1->h.get? c=some o->g.get? c=some o)->Q (some (.ref h.objs.size)) {s with heap:=g}) :
  Og (Oc X.prog X.w) A (GC (.ref (n+4))) Q E {s with heap:=h}:=by
 obtain⟨its,rv,p1,_⟩:=I.list (SqL.of ha);obtain⟨jts,rw',p2,_⟩:=I.list (SqL.of hb);obtain⟨x',hx',rx⟩:=rv.get ex;obtain⟨y',hy',ry⟩:=rw'.get ey;have D:=apart (Za9 hf ha) (Za9 hf hb);have e1:n+2≠n+4:=by lia
 have e2:n+2≠n+3:=by lia
 have e3:n+2≠n:=by lia
 have e4:n+2≠n+1:=by lia
 rcases zl.zz with ⟨rfl,zz,u,v,pO⟩ | ⟨hi,bb,zz⟩
 ·refine wpAny_pyNext_zip_item D zz zl.pI pO zl.j1 zl.j2 p1.isList p2.isList (by simpa using hx') (by simpa using hy') fun g z1 o1 j1 j2 t1 _ kk=>?_;exact q g h.objs.size x' y' ⟨.inr ⟨Lu _,_,z1⟩,kk _ _ e1 e2 e3 e4 zl.pI,j1,j2⟩ (.inl rfl) rx ry t1 kk
 ·obtain⟨vs,eT⟩:=hT hi;obtain⟨_,_,_,⟨oT,gT,_⟩,_⟩:=(I.hok T0 _ eT)
  refine ZhM D zz gT zl.pI zl.j1 zl.j2 p1.isList p2.isList (by simpa using hx') (by simpa using hy') fun g z1 j1 j2 t1 kk=>?_;exact q g T0 x' y' ⟨.inr ⟨Lu _,_,z1⟩,kk _ _ e1 e3 e4 zl.pI,j1,j2⟩ (.inr ⟨hi,rfl⟩) rx ry t1 fun c o c1 _ c3 c4 e=>kk c o c1 c3 c4 e
theorem Zk8 {n:Vg} (hh:A.handled=none) (I:Inv X pins σ Hi {s with heap:=h}) (ha:Hi a=some (.lst xs)) (hb:Hi b=some (.lst ys)) (hf:∀ c∈[n+4,n+2,n+3,n,n+1],Xk X pins Hi c) (zl:ZL h n a b xs.length T0) (hT:0<xs.length->∃ vs,Hi T0=some (.tup vs))
  (q:∀ g,(∀ c o,c≠n+4->c≠n+3->c≠n->c≠n+1->h.get? c=some o->g.get? c=some o)->Q none {s with heap:=g}):Og (Oc X.prog X.w) A (GC (.ref (n+4))) Q E {s with heap:=h}:=by
 obtain⟨its,rv,p1,_⟩:=I.list (SqL.of ha);obtain⟨jts,rw',p2,_⟩:=I.list (SqL.of hb);have hl:=rv.length;have D:=apart (Za9 hf ha) (Za9 hf hb);rcases zl.zz with ⟨e0,zz,u,v,pO⟩ | ⟨hi,bb,zz⟩
 exact wpAny_pyNext_zip_end hh D zz zl.pI pO zl.j1 zl.j2 p1.isList p2.isList (.inl (by simp;exact Ek hl)) fun g kk=>q g kk;obtain⟨vs,eT⟩:=hT hi;obtain⟨_,_,_,⟨oT,gT,_⟩,_⟩:=(I.hok T0 _ eT)
 exact Zj4 hh D zz gT zl.pI zl.j1 p1.isList (by simp;exact Ek hl) fun g kk=>q g fun c o c1 _ c3 _ e=>kk c o c1 c3 e
theorem Zhn {n:Vg} {a b S:Vk} {xs ys} {res} (hh:A.handled=none) (hxy:ys.length=xs.length) (hxs:xs.length<=Of) (ha:H a=some (.lst xs)) (hb:H b=some (.lst ys)) (hSn:∀ c∈[n+4,n+2,n+3,n,n+1],c≠S)
  (hR:∀ H' h' acc' c',Inv X pins σ H' {s with heap:=h'}->Same H H'->Xk X pins H' S->h'.get? S=some {cls:=.type "list",data:=.seq acc' c'}->ZPs H' xs ys acc' xs.length->R (.ok (.ret res)) {s with heap:=h'}) :
  ∀ (k i) (Hi) (h) (acc) (c) (T0),xs.length-i=k->i<=xs.length->Inv X pins σ Hi {s with heap:=h}->Same H Hi->(∀ c∈[n+4,n+2,n+3,n,n+1],Xk X pins Hi c)->Xk X pins Hi S->ZL h n a b i T0->(0<i->∃ vs,Hi T0=some (.tup vs)) ->
   h.get? S=some {cls:=.type "list",data:=.seq acc c}->ZPs Hi xs ys acc i->OB (Oc X.prog X.w) A (.builtin "list.extend.loop" ⟨[.ref S,.ref (n+4),res],[]⟩) R {s with heap:=h}:=by
 intro k;induction k with
 | zero =>
  intro i Hi h acc c T0 hk hi I sm hf hfS zl hT hS hp;have e:i=xs.length:=by omega
  subst e;refine Os F.entry_extend_loop ?_;rw[Nk F.plain_extend_loop _];show Og _ A.in1 (GC (.ref (n+4)) >>= _) _ _ _;refine Oa (Zk8 (A:=A.in1) hh I (sm _ _ ha) (sm _ _ hb) hf zl hT fun g kk=>Ob ?_);have nz:∀ {c},c∉[n+4,n+2,n+3,n,n+1]->c≠n+4/\c≠n+3/\c≠n/\c≠n+1:=fun {c} hc=>by
   simp only[Qs,Q4,or_false,Mi]at hc;exact E5 hc
  have nS:S∉[n+4,n+2,n+3,n,n+1]:=fun z=>hSn S z rfl;obtain⟨q1,q2,q3,q4⟩:=nz nS;exact hR Hi g acc c (Inv.turnedM (s:={s with heap:=h}) (t':=s.toks) (ch:=[n+4,n+2,n+3,n,n+1]) I (fun b o hb e=>kk b o (nz hb).1 (nz hb).2.1 (nz hb).2.2.1 (nz hb).2.2.2 e) hf) sm hfS (kk S _ q1 q2 q3 q4 hS) hp
 | succ k ih =>
  intro i Hi h acc c T0 hk hi I sm hf hfS zl hT hS hp;have hlt:i<xs.length:=by omega
  have hlt2:i<ys.length:=B9 hlt hxy
  refine Os F.entry_extend_loop ?_;rw[Nk F.plain_extend_loop _];show Og _ A.in1 (GC (.ref (n+4)) >>= _) _ _ _;refine Oa (Zjz (A:=A.in1) I (sm _ _ ha) (sm _ _ hb) hf zl hT (Qa hlt) (Qa hlt2) fun g T1 x' y' zl2 hT1 rx ry pT kk=>?_);have nz:∀ {c},c∉[n+4,n+2,n+3,n,n+1]->c≠n+4/\c≠n+3/\c≠n/\c≠n+1:=fun {c} hc=>by
   simp only[Qs,Q4,or_false,Mi]at hc;exact E5 hc
  have nS:S∉[n+4,n+2,n+3,n,n+1]:=fun z=>hSn S z rfl;obtain⟨q1,q2,q3,q4⟩:=nz nS;have hS2:=kk S _ q1 q2 q3 q4 hS;have hfr:Hi h.objs.size=none:=I.hok.fresh (Qg _);have I2:Inv X pins σ (upd Hi h.objs.size (.tup [xs[i],ys[i]])) {s with heap:=g}:=Inv.laidM (s:={s with heap:=h}) (a:=h.objs.size) (t':=s.toks) (o:=.tup [xs[i],ys[i]]) (ch:=[n+4,n+2,n+3,n,n+1]) I (fun b o hb e=>kk b o (nz hb).1 (nz hb).2.1 (nz hb).2.2.1 (nz hb).2.2.2 e) hf (Qg _)
   ⟨(show 2<=Of by rw[Op];decide),[x',y'],.cons rx (.cons ry .nil),⟨_,pT,rfl,_,rfl⟩,fun o q=>by rw[pT]at q;cases q;rfl⟩
  have s2:Same Hi (upd Hi h.objs.size (.tup [xs[i],ys[i]])):=Zb hfr;have ltz:∀ b∈[n+4,n+2,n+3,n,n+1],b<h.objs.size:=fun b hb=>by
   have z4:n+4<h.objs.size:=by
    rcases zl.zz with ⟨_,zz,_⟩ | ⟨_,_,zz⟩
    ·exact Qn zz
    ·exact Qn zz
   have hb':b=n+4\/b=n+2\/b=n+3\/b=n\/b=n+1:=by simpa using hb
   lia
  have up:∀ {b},b<h.objs.size->Xk X pins Hi b->Xk X pins (upd Hi h.objs.size (.tup [xs[i],ys[i]])) b:=fun {b} hb f=>⟨by rw[Zf (QB hb)];exact f.1,f.2⟩
  have hf2:∀ b∈[n+4,n+2,n+3,n,n+1],Xk X pins (upd Hi h.objs.size (.tup [xs[i],ys[i]])) b:=fun b hb=>up (ltz b hb) (hf b hb);have hfS2:=up (Qn hS) hfS;show Og _ A.in1 (updateSeq S (·.push (.ref h.objs.size)) >>= _) _ _ _;refine Oa (OF (hz:=by rw[hp.1];exact Bi hxs hlt) (_hz':=by rw[WD,hp.1];lia) hS2 rfl ?_);have kS:∀ b o,b≠S->g.get? b=some o->(g.update S (VX (·.push (Value.ref h.objs.size)))).get? b=some o:=fun b o hb e=>(QM _ _ (Vy hb)).trans e;refine Ob ⟨Ow F.plain_extend_loop _,ih (i+1) _ _ _ _ T1 (by lia) hlt (Inv.turnedM (s:={s with heap:=g}) (t':=s.toks) (ch:=[S]) I2 (fun b o hb e=>kS b o (by simpa using hb) e) (fun b hb=>by rw[Qo.mp hb];exact hfS2)) (sm.trans s2) hf2 hfS2 ?_ (fun _=>?_) (Wl _ hS2 rfl) ⟨by simp[hp.1],fun j hj=>?_⟩⟩
  ·have d:∀ {c},c∈[n+4,n+2,n+3,n,n+1]->∀ o,g.get? c=some o->(g.update S (VX (·.push (Value.ref h.objs.size)))).get? c=some o:=fun {c} hc o e=>kS c o (hSn c hc) e;refine⟨?_,d (by simp) _ zl2.pI,zl2.j1.at fun o e=>d (by simp) o e,zl2.j2.at fun o e=>d (by simp) o e⟩;rcases zl2.zz with ⟨z,_⟩ | ⟨z,bb,zz⟩
   ·lia
   ·exact .inr ⟨z,bb,d (by simp) _ zz⟩
  ·rcases hT1 with z | ⟨z,z2⟩
   ·rw[z];exact⟨_,Zc⟩
   ·obtain⟨vs,e⟩:=hT z;rw[z2];exact⟨vs,s2 _ _ e⟩
  ·by_cases ej:j=i
   ·subst ej;exact⟨h.objs.size,xs[j],ys[j],by simp[←hp.1],Qa hlt,Qa hlt2,Zc⟩
   ·obtain⟨T,x1,y1,e1,e2,e3,e4⟩:=hp.2 j (Tk hj ej);refine⟨T,x1,y1,?_,e2,e3,s2 _ _ e4⟩;rw[Array.getElem?_push,if_neg (by rw[hp.1];exact ej)];exact e1
end
def ZmW (ta:TA):TE:=fun σ H Q=>ta σ H fun vs H1=>∃ (a b:Vk) (xs ys:Vd V),vs=[.ref a,.ref b]/\H1 a=some (.lst xs)/\H1 b=some (.lst ys)/\ys.length=xs.length /\
 ∀ (p:Vk) (vs':Vd V) (H2:Hp),Same H1 H2->H1 p=none->H2 p=some (.tup vs')->vs'.length=xs.length->(∀ (j:Vg) (x y:V),xs[j]?=some x->ys[j]?=some y->∃ T:Vk,vs'[j]?=some (.ref T)/\H2 T=some (.tup [x,y]))->Q (.ref p) H2
theorem ZfR {p1 p2 pos1 pos2} (hc:X.calm=true) (hgt:Gl X "tuple") (hmt:X.mg "tuple" = none) (hgz:Gl X "zip") (hmz:X.mg "zip" = none) (ha:PA X [e1,e2] ta)
  (hs1:Oj [.Call (.Name "zip" p2) [e1,e2] [] pos2] X.env=[(false,VQ (.Call (.Name "zip" p2) [e1,e2] [] pos2) X.env)]:=by rfl) (hs2:Oj [e1,e2] X.env=(false,VQ e1 X.env)::Oj [e2] X.env:=by rfl) (hpl:(Ox pos2 (Oj [e2] X.env)).any (·.1)=false:=by rfl) :
  PE X (.Call (.Name "tuple" p1) [.Call (.Name "zip" p2) [e1,e2] [] pos2] [] pos1) (ZmW ta):=by
 intro pins s σ H Q I h;refine OD (XS I hgt hmt Yt ?_ (by decide) (by decide));refine VJ ?_ hs1 rfl;rw[hs1];refine V8 ?_;refine OD (XS I hgz hmz ZnF ?_ (by decide) (by decide));refine VJ (thn (ha pos2 pins s σ H _ I h) fun us s1 ⟨vs,H1,I1,r1,q1⟩=>?_) hs2 hpl;obtain⟨a,b,xs,ys,e,h1,h2,hxy,q⟩:=q1;subst e;obtain⟨u,u',rfl,ru,ru'⟩:=ZjE r1;cases ru;cases ru';obtain⟨its,rv,p1,hxs⟩:=I1.list (SqL.of h1);obtain⟨jts,rw',p2,_⟩:=I1.list (SqL.of h2);refine call_zip_2 p1.isList p2.isList fun g z1 z2 z3 z4 z5 hsz kk=>NA ?_;have hxs':xs.length<=Of:=hxs;refine Zai z1 fun g1 c1 k1 e1=>?_;have hS:({s1 with heap:=g}:Vh).heap.objs.size=s1.heap.objs.size+5:=hsz;rw[hS]at e1 ⊢;have I2:Inv X pins σ H1 {s1 with heap:=g1}:=I1.kept (t':=s1.toks) fun b o e=>k1 b o (kk b o e);have fp:∀ {c:Vk},s1.heap.objs.size<=c->Xk X pins H1 c:=fun hle=>I1.fpOk hle (I1.hok.fresh hle);refine Zhn (A:=X.A.in1.in1) (X:=X) (pins:=pins) (σ:=σ) (H:=H1) (s:=s1) (n:=s1.heap.objs.size) (a:=a) (b:=b) (xs:=xs) (ys:=ys) (show X.A.in1.in1.handled=none from I.ok.hd hc) hxy hxs' h1 h2 (fun c hc=>?_) (fun H' h' acc' c' I' s' fS eS hp=>?_) xs.length 0 H1 g1 #[] c1 0 rfl (QQ _) I2 (Same.refl _) (fun c hc=>?_) (fp (UZ _ _)) ⟨.inl ⟨rfl,k1 _ _ z1,_,_,k1 _ _ z3⟩,k1 _ _ z2,z4.at fun o e=>k1 _ o e,z5.at fun o e=>k1 _ o e⟩ (fun z=>Vo z (Q6 _)) e1 ⟨rfl,fun j hj=>Vo hj (Wo _)⟩
 ·have hc':c=s1.heap.objs.size+4\/c=s1.heap.objs.size+2\/c=s1.heap.objs.size+3\/c=s1.heap.objs.size\/c=s1.heap.objs.size+1:=by simp_all
  omega
 ·refine⟨acc',c',rfl,eS,by rw[hp.1];omega,?_⟩;have hvl:(acc'.toList.map fun v=>match v with | Value.ref T=>V.ref T | _=>V.non).length=xs.length:=by rw[Qd,Qw,hp.1]
  have hget:∀ (j:Vg) (x y:V),xs[j]?=some x->ys[j]?=some y->∃ T:Vk,acc'[j]?=some (Value.ref T)/\H' T=some (.tup [x,y]):=fun j x y ex ey=>by
   obtain⟨T,x1,y1,e1,e2,e3,e4⟩:=hp.2 j (Ql.mp ex).1
   simp_all
  have hf:H' h'.objs.size=none:=I'.hok.fresh (Qg _);have s2:=Zb (o:=.tup (acc'.toList.map fun v=>match v with | Value.ref T=>V.ref T | _=>V.non)) hf;refine⟨.ref h'.objs.size,_,I'.laid (s:={s1 with heap:=h'}) (t':=s1.toks) (a:=h'.objs.size) (o:=.tup (acc'.toList.map fun v=>match v with | Value.ref T=>V.ref T | _=>V.non)) (h':=h'.push {cls:=.type "tuple",data:=.seq acc'}) (fun b u e=>Qc _ e) (Qg _) ?_,rfl,q h'.objs.size _ _ (s'.trans s2) (s'.free hf) Zc hvl fun j x y ex ey=>?_⟩
  ·refine⟨by omega,acc'.toList,?_,⟨_,Qm _ rfl,rfl,0,by simp⟩,ZaZ rfl rfl⟩;refine Zdf _ _ (by simp) fun i w u e1 e2=>?_;have hi:i<xs.length:=by rw[←hvl];exact(Ql.mp e1).1
   obtain⟨T,_,_,eT,_⟩:=hp.2 i hi;rw[←QT,e2]at eT;cases eT;rw[Qi,e2]at e1;cases e1;rfl
  ·obtain⟨T,e1,e2⟩:=hget j x y ex ey;refine⟨T,?_,s2 _ _ e2⟩;rw[Qi,QT,e1];rfl
 ·have hc':c=s1.heap.objs.size+4\/c=s1.heap.objs.size+2\/c=s1.heap.objs.size+3\/c=s1.heap.objs.size\/c=s1.heap.objs.size+1:=by simpa using hc
  exact fp (by omega)
open PySem PySem.Spec PyProof.Rows PySem.Builtin.Str
theorem ZjD {us} (r:Vals xs us):∀ {i:Vg} {x} {u},xs[i]?=some x->us[i]?=some u->RelV x u:=by
 induction r with
 | nil=>simp
 | cons r1 r2 ih =>
  grind
end L2
namespace Sh
open PySem L2 PyProof.Rows PySem.Builtin.Str
end Sh
namespace L2
open PySem PySem.Spec PyProof.Rows PySem.Builtin.Str
theorem Zgj (K) (hK:X.K=K:=by rfl):MtR X "list.index" (fun x vs H Q=>∃ (p:Vk) (xs:Vd Vs) (y:Vs) (j:Vg),x= .ref p/\vs=[.int y]/\SqL K H p (xs.map V.int)/\xs[j]?=some y/\(∀ i,i<j->xs[i]?≠some y)/\Q (.int j) H):=by
 subst hK;intro pins s σ H x vs v us Q I rx rv h;obtain⟨p,xs,y,j,rfl,rfl,hq,hj,hno,q⟩:=h;cases rx;obtain⟨u0,rfl,ru⟩:=XE rv;obtain⟨its,r,pl,hz⟩:=I.list hq;have hlen:=r.length;rw[Qd]at hlen;have fs:(xs.map V.int).all ZeF=true:=UA.mpr fun z hz=>by
  obtain⟨w,_,rfl⟩:=QP.mp hz;rfl
 have key:∀ (m:Vg) (hm:m<its.toArray.size),eqU (.int y) its.toArray[m]=(xs.getD m 0==y):=fun m hm=>by
  have hm':m<its.length:=by omega
  have hx:m<xs.length:=by omega
  have e1:(xs.map V.int)[m]?=some (V.int xs[m]):=by simp
  have rr:=ZjD r e1 (Qa hm');rw[show its.toArray[m]=its[m]from rfl,Zjn rr rfl,Qb,Qa hx];rfl
 have hjl:=(Ql.mp hj).1;have hls:=Op;obtain⟨⟨cls,dd,data,sl⟩,ho,hc,n,hd⟩:=id pl.isList;subst hc hd;refine Gn PySem.F.slot_list_index ⟨_,ho,rfl⟩ PySem.F.entry_list_index (PySem.F.args_list_index_2 _ _) (SeqAt.list_indexAt p its.toArray n dd sl u0 _ j (by simpa using (by omega)) (by rw[Qd]at hz;omega) ?_ ?_) ⟨ho,fun w hw=>ZdP ru rfl r fs w (by simp_all),⟨.int _,H,I.tok _,⟨_,rfl⟩,q⟩⟩
 ·rw[key,Qb,hj];simp
 ·intro m hm hmj;rw[key];have:=hno m hmj;rw[Bool.eq_false_iff];intro c
  simp_all
open PySem PySem.Spec PyProof.Rows
section
variable {X:Cx} {k:Vg} {f C:Vk} {fd:O7} {ps:Vd Vl} {sp:Sp} {dvs:Vd V} {ds:Vd Vi} {x m:Vl} {p pos apos spos:MA} {e o:Expr} {es:Vd Expr} {ta:TE} {t:TA}
end
section
variable {X:Cx}
end
section
variable {P:Oh} {w:Oi} {K:Ve} {mg:Vl->Vj Vi} {base:Vz} {C:Vk} {m qual:Vl} {st:V7} {N ps:Vd Vl} {dss:Vd (Vd V)} {j k:Vg} {sp:Sp}
end
section
variable {X:Cx} {C:Vk} {m:Vl} {ps:Vd Vl} {dss:Vd (Vd V)} {k:Vg} {sp:Sp} {E:XK} {p pos apos:MA} {e o:Expr} {es:Vd Expr} {ta:TE} {t:TA} {x:Vl}
end
end L2
namespace Sh
open PySem L2 PyProof.Rows
seal L2.PE L2.PS L2.PSs L2.PT L2.PW L2.PA L2.PI L2.PG L2.PGs L2.PO L2.PC L2.PCs L2.OpR L2.UnR L2.CallR L2.MtR L2.IxR L2.SlR
noncomputable def prE (Ps:Vd Vl) (u:Vg->Vs):Es:=(Qu Ps.length).map fun i=>(Ps.getD i "",u i)
theorem ZkU (f) (h:m<=n):Zjr (arr n f) none (some m)=arr m f:=by
 rw[Zmy (by rw[ZR];exact h)];refine QW fun j=>?_;by_cases hj:j<m
 rw[UY hj,Z2 _ (Dh h hj),Z2 _ hj];rw[Qp (by rw[QE];lia),Qp (by rw[ZR];exact Kf hj)]
section
variable {P:Oh} {w:Oi} {K:Ve} {mg:Vl->Vj Vi} {base:Vz}
abbrev Zcz:V7:=top 27
noncomputable abbrev Zkq:Vd Vl:=["points","prices"]
theorem ZhB:Zo Zkq ["points","prices"] (Zh Zcz):=⟨rfl,rfl,rfl,by decide +kernel,rfl,by decide +kernel,by decide +kernel⟩
def Zds:Sp:=fun vs H Q _=>∃ (a b:Vk) (Ps:Vd Vl) (u:Vg->Vs) (n:Vg),vs=[.ref a,.ref b]/\H a=some (.lst (Ps.map V.str))/\H b=some (.lst (arr n fun i=>.int (u i)))/\Ps.length<=n/\∀ v H',Same H H'->HeapV H' v (prE Ps u)->Q v H'
theorem Zf4 (D:HasDef K mg "priced" Zcz ["points","prices"]) (B:Blt mg):FOk P w K mg base 1 "priced" ["points","prices"] Zds:=by
 refine D.ok ZhB (fun vs H Q E h=>?_) fun f cdv A outer s H vs Q E hr h=>?_;obtain⟨a,b,Ps,u,n,rfl,_⟩:=h;rfl;obtain⟨a,b,Ps,u,n,rfl,ha,hb,hl,k⟩:=h;refine⟨_,Zi (Zq (ZfR rfl rfl B.tuple rfl B.zip (Za (pv 0) (Za (Zz Zfj (pv 1) ZT (ZM (Zk Zn rfl B.len ZQ (Za (pv 0) Ze)))) Ze)))),?_⟩;refine⟨_,rfl,_,rfl,_,rfl,_,_,rfl,.inl ⟨_,SqL.of ha,rfl⟩,_,rfl,b,_,rfl,SqL.of hb,fun p hp=>?_⟩;rw[Qd,ZkU _ hl];have s1:=Zb (o:=.lst (arr Ps.length fun i=>.int (u i))) hp;refine⟨a,p,_,_,rfl,s1 _ _ ha,Zc,by rw[ZR,Qd],fun q vs' H2 s2 _ hq hl2 hget=>?_⟩;refine k _ H2 (s1.trans s2) ⟨q,vs',rfl,hq,?_,fun i e he=>?_⟩;rw[hl2];unfold prE;simp;unfold prE at he;rw[Qi]at he;obtain⟨i',hi',rfl⟩:=Wp.mp he;have hii:=by
  have:=(Ql.mp hi').1;simpa using this
 rw[QY hii]at hi';cases hi';obtain⟨T,t1,t2⟩:=hget i (.str (Ps.getD i "")) _ (by rw[Qi,Qb,Qa hii];rfl) (Z2 _ hii);exact⟨T,t1,t2⟩
end
theorem Je:∀ {es},(∀ e∈es,0<=e.2)->((flatE es).length)=sm es
 | [],_=>rfl
 | e::es,h=>by
  have ih:=Je fun x hx=>h x (Qk _ hx);have:=h e Qj;rw[Yo,Qh,Wj];unfold sm at ih ⊢;rw[QV,Wb];lia
theorem Xu (h:e∈ups f ss):e.1∈ss/\0<e.2/\e.2=f e.1:=by
 obtain⟨x,hx,rfl⟩:=QP.mp h;obtain⟨h1,h2⟩:=Q2.mp hx;exact⟨h1,V4 h2,rfl⟩
noncomputable def Ef (es:Es) (ss:Vd Vl):Vd Vl:=flatE (ups (fun y=>-mo es y) ss)
def Bf (es:Es) (ss:Vd Vl):Vd Vl:=flatE (ups (mo es) ss)
theorem ZU (h:x∈flatE (ups f ss)):x∈ss/\0<f x:=by
 obtain⟨e,he,rfl⟩:=(YK fun e he=>by have:=(Xu he).2.1;lia x).mp h;obtain⟨h1,h2,h3⟩:=Xu he
 simp_all
section
variable {es:Es} {ss:Vd Vl} {L:Vg}
theorem ZgY (hS:SPts es ss):(Ef es ss).length=(Bf es ss).length:=by
 have h1:=Je (es:=ups (fun y=>-mo es y) ss) fun e he=>by have:=(Xu he).2.1;exact Fi this
 have h2:=Je (es:=ups (mo es) ss) fun e he=>by have:=(Xu he).2.1;exact Fi this
 have h3:=ZeW (mo es) ss;have h4:=ZiK hS.pts.nd fun e he=>⟨(hS.pts.mem _).mpr ⟨e,he,.inl rfl⟩,(hS.pts.mem _).mpr ⟨e,he,.inr rfl⟩⟩
 unfold Ef Bf;lia
theorem ZfG (hS:SPts es ss) (hL:∀ e∈es,e.1.length=L) (h1:1<=L):∀ x∈ss,x.length=L-1:=fun x hx=>by
 obtain⟨e,he,q⟩:=(hS.pts.mem x).mp hx;have:=hL e he;rcases q with q | q
 rw[←q];unfold bg;rw[Zy,Uk,Zu,this];rw[←q];unfold en;rw[Zy,Wa,Zu,this]
end
section
variable {n:Vg} {cost:Vg->Vg->Vs} {S:Pst}
theorem XA (h:Mat n cost n S):∀ j,j<n->∃ r,r<n/\S.ra j=some r:=fun j hj=>by
 cases e:S.ra j with
 | some r=>exact⟨r,(h.tight j r hj e).1,rfl⟩
 | none =>
  have ex:=h.all;have nd:((Qu n).map fun i=>if hi:i<n then (ex i hi).choose else 0).Nodup:=by
   refine Wr.mpr (Nv (fun {x y} hx hy q z=>?_) WY);have hx':=Qr.mp hx;have hy':=Qr.mp hy;rw[Tt hx',Tt hy']at z;have a:=(ex x hx').choose_spec.2;have b:=(ex y hy').choose_spec.2;rw[z,b]at a;cases a;exact (K7 q).elim
  have:=JG (ks:=(Qu n).erase j) nd fun x hx=>by
   obtain⟨i,hi,rfl⟩:=QP.mp hx;have hi':=Qr.mp hi;rw[Tt hi'];obtain⟨a,b⟩:=(ex i hi').choose_spec;refine(List.Nodup.mem_erase_iff Wh).mpr ⟨fun z=>?_,Qr.mpr a⟩
   simp_all
  rw[Qd,Wi (Qr.mpr hj),QX]at this;exact (Hb this hj).elim
end
theorem Zif (f:Vg->V0):∀ k,f k=true->∃ m,m<=k/\f m=true/\∀ j,j<m->f j=false:=by
 intro k;induction k using Nat.strongRecOn with
 | ind k ih =>
  grind
theorem Y7 (h:x.length=y.length):Least x.cps.toList y.cps.toList (ltr x y):=by
 have hl:x.cps.toList.length=y.cps.toList.length:=by assumption
 obtain⟨m,m1,m2,m3⟩:=Zif (ZeS x.cps.toList y.cps.toList) x.cps.toList.length (by
  unfold ZeS;rw[←hl,Wv];simp)
 have q:Least x.cps.toList y.cps.toList m:=⟨m1,m2,m3⟩
 rw[Zi9 q];omega
theorem Zgn (h:x.length=y.length) (hne:x≠y):1<=ltr x y:=by
 by_cases e:ltr x y=0
 exfalso;have q2:=(Y7 h).2.1;rw[e]at q2;have q3:=V4 q2;rw[U8,Nat.sub_zero,Q5]at q3;apply hne;rw[←tx_eta x,←tx_eta y,q3];exact Kk e
theorem ZdQ (h:x.length=y.length):ltr x y<=x.length:=by
 have:=(Y7 h).1
 assumption
section
variable {E Bg:Vd Vl} {S:Pst} {L:Vg}
theorem Zc6 (i j):0<=Z3 E Bg i j:=by
 unfold Z3;lia
theorem ZeN (hEB:E.length=Bg.length) (hE:∀ x∈E,x.length=L) (hB:∀ x∈Bg,x.length=L) (hne:∀ x∈E,∀ y∈Bg,x≠y) (hM:Mat (Bg.length+1) (Z3 E Bg) (Bg.length+1) S) (hm:0<Bg.length) (hj:j<Bg.length+1) (e:S.ra j=some E.length):j<Bg.length:=by
 by_cases z:j<Bg.length
 ·exact z
 ·have ej:j=Bg.length:=Ej hj z
  subst ej;obtain⟨r,hr,er⟩:=XA hM 0 (Xo hm);have hr2:r<E.length:=by
   by_cases q:r<E.length
   ·exact q
   ·have q2:r=E.length:=Fj hr hEB q
    subst q2;have:=hM.inj 0 Bg.length _ (Xo hm) K9 er e;exact (K8 hm this).elim
  have t1:=(hM.tight 0 r (Xo hm) er).2;have t2:=(hM.tight _ _ hj e).2;have f1:=hM.feas r Bg.length (Do hEB hr2) K9;have f2:=hM.feas E.length 0 (Dq hEB) (Xo hm);have c1:1<=Z3 E Bg r 0:=by
   unfold Z3;have a:E.getD r ""∈E:=by rw[Qb,Qa hr2];simp
   have b:Bg.getD 0 ""∈Bg:=by simp_all
   have:=Zgn (by rw[hE _ a,hB _ b]) (hne _ a _ b);lia
  have c2:Z3 E Bg r Bg.length=0:=by unfold Z3;lia
  have c3:Z3 E Bg E.length 0=0:=by unfold Z3;lia
  have c4:Z3 E Bg E.length Bg.length=0:=by unfold Z3;lia
  unfold red at t1 t2 f1 f2;lia
end
noncomputable def TF (es:Es) (ss:Vd Vl) (S:Pst):T3:=(flatE es).map Zk0++lnk (Ef es ss) (Bf es ss) S.ra (Bf es ss).length
noncomputable def stF (e0:Vl×Vs) (Bg:Vd Vl) (j:Vg):Vl:=if Bg.length=0 then bg e0.1 else Bg.getD j ""
structure Zjx (es:Es) (ss:Vd Vl) (S:Pst) (j:Vg):Prop where
 pts:SPts es ss
 all:PAll ((Bf es ss).length+1) (Z3 (Ef es ss) (Bf es ss)) S00 ((Bf es ss).length+1) S
 at_:0<(Bf es ss).length->j<(Bf es ss).length/\S.ra j=some (Ef es ss).length
def ZoG (H:Hp) (v:V) (e0:Vl×Vs) (es:Es):Prop:=∃ q p1 p2 ss S j,v= .ref q/\Zjx es ss S j/\H q=some (.tup [Znh (tf (TF es ss S) (stF e0 (Bf es ss) j)),p1,p2])/\HeapV H p1 (prE (Ef es ss) S.rp)/\HeapV H p2 (prE (Bf es ss) S.cp)
def Zcj (e0:Vl×Vs) (es:Es):Prop:=∀ e'∈es,Rch es (bg e0.1) (bg e'.1)
theorem TbOk.same (h:TbOk Pt H) (s:Same H H'):TbOk Pt H':=Ze3 (l:=[]) h (fun x u _ e=>s x u e) fun _ _ z=>nomatch z
theorem HeapV.btl (h:HeapV H v es) (B:Btl l H H') (hl:∀ x u,x∈l->H x=some u->∀ ys,u≠.tup ys):HeapV H' v es:=by
 obtain⟨q,vs,e,e1,e2⟩:=h;have up:∀ {x ys},H x=some _->H' x=some (.tup ys):=fun {x ys} e=>B x _ (fun z=>hl x _ z e _ rfl) e;exact⟨q,vs,e,up e1,e2.1,fun i x q=>let ⟨b,b1,b2⟩:=e2.2 i x q;⟨b,b1,up b2⟩⟩
theorem ZcW (h:t∈lnk E Bg ra i) (hi:i<=Bg.length):∃ x∈E,∃ y∈Bg,t=(x,lbl x y,y):=by
 obtain⟨j,hj,hm⟩:=UC.mp h;have hj':=Qr.mp hj;unfold Zey at hm;cases e:ra j with
 | none=>simp_all
 | some r =>
  rw[e]at hm;have hm:t∈if r<E.length then [(E.getD r "",lbl _ _,Bg.getD j "")]else []:=hm
  by_cases hr:r<E.length
  rw[Vf hr]at hm;exact⟨_,Yc hr,_,Yc (Dh hi hj'),Qo.mp hm⟩
  simp_all
theorem Za4 (h:x.length=y.length):(lbl x y).length=ltr x y:=by
 unfold lbl;have:=ZdQ h;rw[Zy,Wa,Zu];lia
theorem ZiT:∀ {es},(∀ e∈es,0<=e.2)->∀ e∈es,e.2<=sm es
 | [],_,e,he=>by grind
 | x::es,h,e,he=>by
  have h0:=h x Qj;have ih:=ZiT fun y hy=>h y (Qk _ hy);have nn:=by
   have:=Je fun y hy=>h y (Qk _ hy);omega
  unfold sm at ih nn ⊢;rw[QV,Wb];rcases Qs.mp he with rfl | he
  lia;have:=ih e he;lia
theorem TyL.app (h:TyL H us T) (h':TyL H us' T'):TyL H (us++us') (T++T'):=by
 refine⟨by rw[Qh,Qh,h.1,h'.1],fun i t e=>?_⟩;by_cases hi:i<T.length
 rw[QA hi]at e;obtain⟨b,e1,e2⟩:=h.2 i t e;exact⟨b,by rw[QA (by rw[h.1];exact hi)];omega,e2⟩;rw[Qy (Kf hi)]at e;obtain⟨b,e1,e2⟩:=h'.2 _ t e;exact⟨b,by rw[Qy (by rw[h.1];exact Kf hi),h.1];omega,e2⟩
section
variable {P:Oh} {w:Oi} {K:Ve} {mg:Vl->Vj Vi} {base:Vz} {C Pt CA:Vk} {bm:Vd Vi}
abbrev ZcC:V7:=top 28
noncomputable abbrev Zks:Vd Vl:=["H","ends","begins","pairing","start","text"]
theorem scFilled:Zo Zks ["H"] (Zh ZcC):=⟨rfl,rfl,rfl,by decide +kernel,rfl,by decide +kernel,by decide +kernel⟩
def ZaI (Pt CA:Vk):Sp:=fun vs H Q E=>∃ (v:V) (e0:Vl×Vs) (es0:Es) (L:Vg),vs=[v]/\HeapV H v (e0::es0)/\Hpy (e0::es0) L/\L<=100/\(flatE (e0::es0)).length<=260/\(∀ ss,SPts (e0::es0) ss->(Bf (e0::es0) ss).length<=100)/\TbOk Pt H /\
 (Zcj e0 (e0::es0)->∀ v' H',Btl [Pt] H H'->TbOk Pt H'->ZoG H' v' e0 (e0::es0)->Q v' H')/\(¬ Zcj e0 (e0::es0)->∀ H',Same H H'->E (.ref CA) none H')
theorem Zf7 (D:HasDef K mg "filled" ZcC ["H"]) (B:Blt mg) (T:PgC K mg C) (c:XCls K mg "Apart" CA bm) (g15_:FOk P w K mg base 6 "hangs" ["H"] Zff) (g30_:FOk P w K mg base 6 "spread" ["rows"] Zdr) (g13_:FOk P w K mg base 6 "ends_of" ["H"] ZiR) (g10_:FOk P w K mg base 6 "begins_of" ["H"] Zdw)
  (g16_:IOk0 P w K mg base C 5 ["self","costs"] (Zfe C Pt)) (g11_:FOk P w K mg base 6 "cost_table" ["ends","begins"] ZiS) (g9_:FOk P w K mg base 6 "begin_of" ["piece"] Zcv) (g32_:FOk P w K mg base 6 "text_from" ["ties","begin"] ZnQ) (g34_:FOk P w K mg base 6 "ties_of" ["H"] Zdq)
  (g20_:FOk P w K mg base 6 "links_of" ["pairing","ends","begins"] (Zfc C)) (g26_:FOk P w K mg base 6 "priced" ["points","prices"] Zds):ZmI P w K mg base 7 "filled" ["H"] (ZaI Pt CA):=by
 refine D.okX scFilled (fun vs H Q E h=>?_) (fun f cdv A outer s vs H Q E L hr h=>?_)
 ·obtain⟨v,e0,es0,L,rfl,_⟩:=h;rfl
 ·obtain⟨v,e0,es0,Ln,rfl,hV,hy,hL,htot,hbf,ht,kQ,kE⟩:=h;refine⟨_,(Zd (Yg (Yx (Yf (ZC g15_ hr (Za (pv 0) Ze)))) (Zi (ZhK L c rfl (Za Zar Ze))) ZF)
   (Zd (Zm (i:=1) scFilled.nd rfl (.inl rfl) (ZC g30_ hr (Za (ZC g13_ hr (Za (pv 0) Ze)) Ze)))
   (Zd (Zm (i:=2) scFilled.nd rfl (.inl rfl) (ZC g30_ hr (Za (ZC g10_ hr (Za (pv 0) Ze)) Ze)))
   (Zd (Zm (i:=3) scFilled.nd rfl (.inl rfl) (ZlD g16_ hr T.mgC (Za (ZC g11_ hr (Za (pv 1) (Za (pv 2) Ze))) Ze)))
   (Zd (Zm (i:=4) scFilled.nd rfl (.inl rfl) (ZC g9_ hr (Za (ZB ix_tup (ZB ix_tup (pv 0) Zj (fun _ _=>rfl)) Zj (fun _ _=>rfl)) Ze)))
   (Zd (Yg (Zw ZcJ (Zk Zn rfl B.len ZQ (Za (pv 2) Ze)) Zj (ZA _)) (Zi (Zm (i:=4) scFilled.nd rfl (.inl rfl) (ZB ix_list (pv 2) (XN F.plainAttrs_list F.slot_list_index F.type_list_index (Zgj K) (ZJ (pv 3) rfl) (Za (Zk Zn rfl B.len ZQ (Za (pv 1) Ze)) Ze)) (fun _ _=>rfl)))) ZF)
   (Zd (Zm (i:=5) scFilled.nd rfl (.inl rfl) (ZC g32_ hr (Za (Zp ZdK (ZC g34_ hr (Za (pv 0) Ze)) (ZC g20_ hr (Za (pv 3) (Za (pv 1) (Za (pv 2) Ze))))) (Za (pv 4) Ze))))
   (Zi (Zq (JD (Za (pv 5) (Za (ZC g26_ hr (Za (pv 1) (Za (ZJ (pv 3) rfl) Ze))) (Za (ZC g26_ hr (Za (pv 2) (Za (ZJ (pv 3) rfl) Ze))) Ze))))))))))))),?_⟩
  refine⟨_,rfl,v,e0,es0,rfl,hV,hy.fine,fun H1 b s1 hb=>⟨_,rfl,?_⟩⟩;cases b with
  | false =>
   refine ZmO ⟨(show 1<=Of by rw[Op];decide),kE (fun q=>?_) H1 s1⟩;have:=hb.mpr q
   simp_all
  | true =>
   have hh:Zcj e0 (e0::es0):=hb.mp rfl;refine Zns ?_;have h0:∀ e∈e0::es0,0<=e.2:=fun e he=>(hy.fine.many e he).1;refine⟨_,rfl,v,e0::es0,rfl,hV.same s1,hy.fine,fun v2 H2 ss s2 hV2 hS=>?_⟩;have s12:=s1.trans s2;have hEB:=ZgY hS;have hBl:=hbf ss hS;have hEl:(Ef (e0::es0) ss).length<=190:=by omega
   have bd:∀ {f:Vl->Vs},(flatE (ups f ss)).length<=190->∀ e∈ups f ss,0<=e.2/\e.2<=1000:=fun {f} hl e he=>by
    have h1:=(Xu he).2.1;have h2:=ZiT (es:=ups f ss) (fun x hx=>by have:=(Xu hx).2.1;exact Fi this) e he;have h3:=Je (es:=ups f ss) fun x hx=>by have:=(Xu hx).2.1;exact Fi this
    lia
   refine⟨v2,_,rfl,hV2,bd hEl,by unfold Ef at hEl;exact Fk hEl,fun qe H3 s3 nqe hqe=>?_⟩;have s13:=s12.trans s3;refine⟨_,rfl,v,e0::es0,rfl,hV.same s13,hy.fine,fun v4 H4 ss' s4 hV4 hS'=>?_⟩;obtain rfl:=hS.one hS';have hBl':(flatE (ups (mo (e0::es0)) ss)).length<=190:=by have:=hBl;unfold Bf at this;lia
   refine⟨v4,_,rfl,hV4,bd hBl',Fk hBl',fun qb H5 s5 nqb hqb=>?_⟩;have s35:=s4.trans s5;have s15:=s13.trans s35;have hqe5:H5 qe=some (.lst ((Ef (e0::es0) ss).map V.str)):=s35 _ _ hqe;replace hqb:H5 qb=some (.lst ((Bf (e0::es0) ss).map V.str)):=hqb;have plen:=ZfG hS hy.len hy.l1;have hEp:∀ x∈Ef (e0::es0) ss,x.length=Ln-1:=fun x hx=>plen x (ZU hx).1;have hBp:∀ x∈Bf (e0::es0) ss,x.length=Ln-1:=fun x hx=>plen x (ZU hx).1;refine⟨_,rfl,_,rfl,qe,qb,Ef (e0::es0) ss,Bf (e0::es0) ss,Ln-1,rfl,hqe5,hqb,hEB,Fm hBl hEB,Fn hL,hEp,hBp,fun cst rows H6 s6 hc6=>?_⟩;intro x dx nx ndx hdx;have sN:Same H6 (upd (upd H6 dx (.own x)) x (.ins C dx [])):=fun y u e=>by
    rw[Zf (Zg e nx),Zf (Zg e ndx)];omega
   have tN:TbOk Pt (upd (upd H6 dx (.own x)) x (.ins C dx [])):=(ht.same (s15.trans s6)).same sN;refine⟨x,dx,cst,rows,_,_,rfl,Zc,⟨sN _ _ hc6.hc,hc6.rl,fun i hi=>sN _ _ (hc6.hr i hi)⟩,by lia,fun i j _ _=>Zc6 i j,tN,fun Ad S H7 hA B7 t7 P7=>⟨rfl,?_⟩⟩;have B67:Btl [Pt] H6 H7:=fun y u hy e=>B7 y u (by
    simp only[Qs,Q4,or_false,Mi]at hy ⊢;exact⟨hy,Zg e nx⟩) (sN y u e)
   have B07:Btl [Pt] H H7:=(Btl.of (s15.trans s6)).trans B67;have ntup:∀ {H':Hp},TbOk Pt H'->∀ y u,y∈[Pt]->H' y=some u->(∀ ys,u≠.tup ys)/\∀ ys,u≠.lst ys:=fun {H'} tb y u hy e=>by
    rw[Qo.mp hy]at e;rcases tb with z | ⟨_,z,_⟩
    ·rw[z]at e;cases e;simp
    ·rw[z]at e;cases e;simp
   have t6:TbOk Pt H6:=ht.same (s15.trans s6);have hV7:HeapV H7 v (e0::es0):=hV.btl B07 fun y u hy e=>(ntup ht y u hy e).1;have up7:∀ {y ys},H6 y=some (.lst ys)->H7 y=some (.lst ys):=fun {y ys} e=>B67 y _ (fun z=>(ntup t6 y _ z e).2 _ rfl) e;have hqe7:=up7 (s6 _ _ hqe5);have hqb7:=up7 (s6 _ _ hqb);obtain⟨q,vs,rfl,hq,hpa⟩:=id hV7;obtain⟨b0,b1,b2⟩:=hpa.2 0 e0 rfl;have l0:=hy.fine.long e0 Qj;have hM:=hA.mat (fun i j _ _=>Zc6 i j) (Qg _);have hall:=XA hM;refine⟨_,rfl,q,vs,0,.ref b0,rfl,rfl,SqT.of hq,YW b1,b0,_,0,_,rfl,rfl,SqT.of b2,rfl,e0.1,rfl,l0.1,l0.2,?_⟩
   try dsimp only[Ji]
   show ZeR (Zk1 _ _ _) _ _ _ _;refine YE (fun σ H'=>∃ j,Zjx (e0::es0) ss S j/\H'=H7/\σ=[some (.ref q),some (.ref qe),some (.ref qb),some (.ref x),some (.str (stF e0 (Bf (e0::es0) ss) j)),none]) (fun R hR=>?_) ?_
   ·refine⟨_,rfl,.ref qb,((Bf (e0::es0) ss).map V.str).length,rfl,.inl ⟨_,SqL.of hqb7,rfl⟩,_,_,rfl,rfl,_,rfl,?_⟩;rw[Qd];by_cases hm:0<(Bf (e0::es0) ss).length
    ·obtain⟨j,hj,ej⟩:=hM.all (Ef (e0::es0) ss).length (Dq hEB);have hj2:=ZeN hEB hEp hBp (fun y hy z hz e=>by
      have a:=(ZU hy).2;have b:=(ZU hz).2;rw[e]at a;exact (Dn b a).elim) hM hm hj ej
     have erow:arr ((Bf (e0::es0) ss).length+1) (enc S 2)=((Qu ((Bf (e0::es0) ss).length+1)).map fun i=>(((S.ra i).getD 0:Vg):Vs)).map V.int:=by
      unfold arr;rw[Q0];refine Q8 fun i hi=>?_;obtain⟨r,_,er⟩:=hall i (Qr.mp hi);show oN (S.ra i)=V.int (((S.ra i).getD 0:Vg):Vs);rw[er];rfl
     have hrow:=P7.hv 2 (by decide);rw[erow]at hrow;have gx:∀ i,i<(Bf (e0::es0) ss).length+1->((Qu ((Bf (e0::es0) ss).length+1)).map fun i=>(((S.ra i).getD 0:Vg):Vs))[i]?=some (((S.ra i).getD 0:Vg):Vs):=fun i hi=>by
      rw[Qi,QY hi];rfl
     refine Xm (Vq (Si hm)) ⟨_,rfl,.ref x,rfl,x,C,_,_,_,rfl,P7.ob,T.cl,T.no 2 (by decide),P7.lk 2 (by decide),.inl ⟨rfl,_,SqL.of hrow⟩,_,rfl,.ref qe,((Ef (e0::es0) ss).map V.str).length,rfl,.inl ⟨_,SqL.of hqe7,rfl⟩,_,_,_,j,rfl,rfl,SqL.of hrow,?_,fun i hi=>?_,qb,_,_,.str ((Bf (e0::es0) ss).getD j ""),rfl,rfl,SqL.of hqb7,?_,?_⟩
     ·rw[gx j hj,ej,Qd];rfl
     ·rw[gx i (Fo hj2 hi)];intro e;obtain⟨r,_,er⟩:=hall i (Fo hj2 hi);rw[er,Qd]at e;have e':(r:Vs)=((Ef (e0::es0) ss).length:Vs):=Vu e;have e2:r=(Ef (e0::es0) ss).length:=by lia
      rw[e2]at er;have:=hM.inj i j _ (Fo hj2 hi) hj er ej;exact (K8 hi this).elim
     ·exact YW (by rw[Qi,Qb,Qa hj2];rfl)
     ·refine hR _ _ ⟨j,⟨hS,hA,fun _=>⟨hj2,ej⟩⟩,rfl,?_⟩;unfold stF;rw[if_neg (E7 hm)];rfl
    ·refine Yu (Vp (by lia)) (hR _ _ ⟨0,⟨hS,hA,fun z=>Vo z hm⟩,rfl,?_⟩);unfold stF;rw[Vf (S8 hm)];rfl
   rintro σ H8 ⟨j,hF,rfl,rfl⟩;refine⟨_,rfl,.ref q,e0::es0,Ln,rfl,hV7,hy,fun qt us H9 s9 hqt hty=>?_⟩;have P9:=P7.same s9;refine⟨_,rfl,_,rfl,_,rfl,x,qe,qb,Ad,_,S,Ef (e0::es0) ss,Bf (e0::es0) ss,Ln-1,rfl,P9,s9 _ _ hqe7,s9 _ _ hqb7,hEB,Fm hBl hEB,Fn hL,hEp,hBp,fun j hj=>let ⟨r,_,e⟩:=hall j (Xo hj);⟨r,e⟩,fun ql us2 HA sA hql hty2=>?_⟩;have htyA:=(TyL.of hty).same sA.tup;have hll:=ZcX (Ef (e0::es0) ss) (Bf (e0::es0) ss) S.ra (Bf (e0::es0) ss).length;have hus:=hty.1;have hus2:=hty2.1;refine⟨qt,ql,_,_,rfl,rfl,sA _ _ hqt,hql,Zl (by omega),fun p hp=>?_⟩;have sB:=Zb (o:=.lst (us++us2)) hp;have hTl:(TF (e0::es0) ss S).length<=400:=by
    unfold TF;rw[Qh,Qd];lia
   have stl:(stF e0 (Bf (e0::es0) ss) j).length<=100:=by
    unfold stF;by_cases hm:(Bf (e0::es0) ss).length=0
    ·rw[Vf hm];have:=plen (bg e0.1) ((hS.pts.mem _).mpr ⟨e0,Qj,.inl rfl⟩);exact Fp hL this
    ·rw[if_neg hm];have:=hBp _ (Yc (hF.at_ (Bv hm)).1);exact Fp hL this
   have lab:∀ t∈TF (e0::es0) ss S,t.2.1.length<=100:=fun t ht'=>by
    unfold TF at ht';rcases QD.mp ht' with z | z
    ·obtain⟨y,_,rfl⟩:=QP.mp z;show(tx [lst y]).length<=100;rw[Zy];exact(show 1<=100 by decide)
    ·obtain⟨y,hy1,z1,hz1,rfl⟩:=ZcW z (Qg _);show(lbl y z1).length<=100;have e1:=hEp y hy1;have e2:=hBp z1 hz1;rw[Za4 (Dj e1 e2)];have:=ZdQ (x:=y) (y:=z1) (Dj e1 e2);lia
   refine⟨_,rfl,p,_,us++us2,TF (e0::es0) ss S,rfl,Zc,(htyA.app hty2).same sB.tup,hTl,lab,stl,fun HC sC=>?_⟩;have s8C:=s9.trans (sA.trans (sB.trans sC));have PC:=P7.same s8C;refine⟨_,rfl,_,rfl,.ref x,rfl,x,C,_,_,_,rfl,PC.ob,T.cl,T.no 0 (by decide),PC.lk 0 (by decide),qe,_,Ef (e0::es0) ss,S.rp,_,rfl,s8C _ _ hqe7,PC.hv 0 (by decide),De hEB,fun v1 HD sD hp1=>?_⟩;have s8D:=s8C.trans sD;have PD:=P7.same s8D;refine⟨_,rfl,.ref x,rfl,x,C,_,_,_,rfl,PD.ob,T.cl,T.no 1 (by decide),PD.lk 1 (by decide),qb,_,Bf (e0::es0) ss,S.cp,_,rfl,s8D _ _ hqb7,PD.hv 1 (by decide),Ka,fun v2 HE sE hp2=>?_⟩;refine⟨Zl (show 3<=1000 by decide),fun pp hpp=>?_⟩;have sF:=Zb (o:=.tup [Znh (tf (TF (e0::es0) ss S) (stF e0 (Bf (e0::es0) ss) j)),v1,v2]) hpp;have s8F:=s8D.trans (sE.trans sF);exact kQ hh _ _ (B07.trans (Btl.of s8F)) (t7.same s8F) ⟨pp,v1,v2,ss,S,j,rfl,hF,Zc,hp1.same (sE.trans sF),hp2.same sF⟩
end
theorem ZeT:∀ (m) (pt) (r) (G B),WI ts b pt r G B->2*ts.length<=m+G.length+2*B.length->∃ pt' r' B',WI ts b pt' r' [] B'/\r' pt'=[]/\wlk ts m r pt G B=B'
 | m,pt,r,G,B,h,hm=>by
  have hl:=h.len;rcases WA _ with e | ⟨X,i,e⟩
  rcases WA G with eg | ⟨Y,j,eg⟩
  subst eg;exact⟨pt,r,B,h,e,Zde e⟩;rw[WH]at eg;subst eg;have h2:=h.pop e;cases m with
  | zero =>
   rw[Qh,Qx]at hl hm;omega
  | succ m =>
   rw[Zdd e];refine ZeT m _ _ _ _ h2 ?_;rw[Qh,Qx]at hm ⊢;lia
  rw[WH]at e;have h2:=h.push e;have hl2:=h2.len;rw[Qh,Qx]at hl2;cases m with
  | zero=>omega
  | succ m =>
   rw[Zbk e];refine ZeT m _ _ _ _ h2 ?_;rw[Qh,Qx];lia
theorem ZjC (g:Zhl ts b):Eul ts b (wayX ts b):=by
 obtain⟨pt,r,B,h,e,ew⟩:=ZeT (2*ts.length) b _ [] [] (WI.start (Zfz ts) (Zdz ts)) (by lia);unfold wayX;rw[ew];exact h.done e g
noncomputable def Xn (n:Vg) (f:Vg->Vs):Vs:=((Qu n).map f).sum
theorem ZG (n) (f):Xn (n+1) f=Xn n f+f n:=by
 unfold Xn;rw[Wz,QJ];simp
theorem X1 (h:∀ i,i<n->f i=g i):Xn n f=Xn n g:=by
 unfold Xn;rw[Q8 fun i hi=>h i (Qr.mp hi)]
theorem Zhs (n) (f g):Xn n (fun i=>f i+g i)=Xn n f+Xn n g:=by
 induction n with
 | zero=>rfl
 | succ n ih=>rw[ZG,ZG,ZG];lia
theorem Zdl (n) (f g):Xn n (fun i=>f i-g i)=Xn n f-Xn n g:=by
 induction n with
 | zero=>rfl
 | succ n ih=>rw[ZG,ZG,ZG];lia
theorem Jv (h:∀ i,i<n->f i=0):Xn n f=0:=by
 induction n with
 | zero=>rfl
 | succ n ih=>rw[ZG,ih fun i hi=>h i (Xo hi),h n K9];rfl
theorem Zhr (hk:k<n) (h:∀ i,i<n->i≠k->f i=0):Xn n f=f k:=by
 induction n with
 | zero=>lia
 | succ n ih =>
  rw[ZG];by_cases e:k=n
  subst e;rw[Jv fun i hi=>h i (Xo hi) (Tm hi)];lia;rw[ih (Tk hk e) fun i hi hik=>h i (Xo hi) hik,h n K9 fun z=>e z.symm];exact Sa
theorem ZbB {l m:Vd Vs} (p:l.Perm m):l.sum=m.sum:=by
 induction p with
 | nil=>rfl
 | cons x _ ih=>rw[Wb,Wb,ih]
 | swap x y l=>rw[Wb,Wb,Wb,Wb];exact Da
 | trans _ _ a b=>exact Db b a
theorem Ze6 {r:Vg->Vg} (hr:∀ i,i<n->r i<n) (inj:∀ i j,i<n->j<n->r i=r j->i=j) (f):Xn n (fun i=>f (r i))=Xn n f:=by
 have nd:((Qu n).map r).Nodup:=by
  refine Wr.mpr (Nv (fun {x y} hx hy q z=>?_) WY);have:=inj x y (Qr.mp hx) (Qr.mp hy) z;exact (K8 q this).elim
 have sub:∀ x∈(Qu n).map r,x∈Qu n:=fun x hx=>by
  obtain⟨i,hi,rfl⟩:=QP.mp hx;exact Qr.mpr (hr i (Qr.mp hi))
 have p:=by
  refine YI nd Wh fun x=>⟨sub x,fun hx=>?_⟩
  by_cases z:x∈(Qu n).map r
  omega;have:=JG (ks:=(Qu n).erase x) nd fun y hy=>(List.Nodup.mem_erase_iff Wh).mpr ⟨fun e=>z (by rw[←e];omega),sub y hy⟩;rw[Qd,Wi hx,QX]at this;have:=Qr.mp hx;exact (Hb ‹_› this).elim
 have q:=ZbB (p.map f);rw[Q0]at q;exact q
theorem Zbn (E:Vd Vl) (f):(E.map f).sum=Xn E.length fun i=>f (E.getD i ""):=by
 conv=>lhs;rw[←Xr E]
 rw[Q0];rfl
theorem ZkA (E Bg) (ra) (φ) (i):((lnk E Bg ra i).map φ).sum=Xn i fun j=>((Zey E Bg ra j).map φ).sum:=by
 induction i with
 | zero=>rfl
 | succ i ih=>rw[Za2,QJ,WV,ih,ZG]
theorem JX:∀ {ss},ss.Nodup->((flatE (ups f ss)).map fun x=>dl x p).sum=if p∈ss/\0<f p then f p else 0
 | [],_=>rfl
 | x::ss,nd=>by
  obtain⟨n1,n2⟩:=QU.mp nd;have ih:=JX (f:=f) (p:=p) n2;by_cases hx:0<f x
  have e:ups f (x::ss)=(x,f x)::ups f ss:=by unfold ups;simp_all
  rw[e,Yo,QJ,WV,ih,Ut,Zcu];by_cases hp:p=x
  subst hp;rw[if_neg fun z=>n1 z.1,Vf ⟨Qj,hx⟩,ZgZ];lia;have:dl x p=0:=if_neg fun z=>hp z.symm;rw[this];simp[hp];have e:ups f (x::ss)=ups f ss:=by unfold ups;simp_all
  rw[e,ih];by_cases hp:p=x
  subst hp;lia;simp[hp]
section
variable {e0:Vl×Vs} {es:Es} {ss:Vd Vl} {S:Pst} {j L:Vg}
structure PrF (E Bg:Vd Vl) (S:Pst) (j r:Vg):Prop where
 mat:Mat (Bg.length+1) (Z3 E Bg) (Bg.length+1) S
 len:E.length=Bg.length
 hj:j<Bg.length
 ej:S.ra j=some E.length
 hr:r<E.length
 er:S.ra Bg.length=some r
theorem PrF.row (h:PrF E Bg S j r) {i} (hi:i<Bg.length) (hij:i≠j):∃ q,q<E.length/\S.ra i=some q:=by
 obtain⟨q,h1,h2⟩:=XA h.mat i (Xo hi);refine⟨q,?_,h2⟩;by_cases z:q<E.length
 exact z;have e:q=E.length:=by have:=h.len;exact Fj h1 this z
 rw[e]at h2;exact Vo (h.mat.inj i j _ (Xo hi) (by have:=h.hj;exact Xo this) h2 h.ej) hij
theorem PrF.links (h:PrF E Bg S j r) (φ) (a) (b) (hφ:∀ q i,q<E.length->i<Bg.length->S.ra i=some q->φ (E.getD q "",lbl (E.getD q "") (Bg.getD i ""),Bg.getD i "")=a q+b i) :
  ((lnk E Bg S.ra Bg.length).map φ).sum=(Xn E.length a-a r)+(Xn Bg.length b-b j):=by
 have hl:=h.len;have hj:=h.hj;have hr:=h.hr;rw[ZkA];have e1:∀ i,i<Bg.length->((Zey E Bg S.ra i).map φ).sum=(if (S.ra i).getD 0<E.length then a ((S.ra i).getD 0)else 0)+(b i-if i=j then b j else 0):=fun i hi=>by
  by_cases z:i=j
  ·subst z;unfold Zey;rw[h.ej];show((if E.length<E.length then _ else _:T3).map φ).sum=(if E.length<E.length then _ else _)+_;rw[if_neg (Q6 _),Vf rfl];show 0=_;lia
  ·obtain⟨q,q1,q2⟩:=h.row hi z;unfold Zey;rw[q2];show((if q<E.length then _ else _:T3).map φ).sum=(if q<E.length then a q else _)+_;rw[Vf q1,if_neg z];show φ _+0=_;rw[hφ q i q1 hi q2];lia
 rw[X1 e1,Zhs,Zdl];have e2:Xn Bg.length (fun i=>if i=j then b j else 0)=b j:=(Zhr hj fun i _ hij=>if_neg hij).trans (Vf rfl);have e3:Xn (Bg.length+1) (fun i=>if (S.ra i).getD 0<E.length then a ((S.ra i).getD 0)else 0)=Xn (Bg.length+1) fun q=>if q<E.length then a q else 0:=by
  refine Ze6 (fun i hi=>?_) (fun i i' hi hi' e=>?_) fun q=>if q<E.length then a q else 0
  ·obtain⟨q,h1,h2⟩:=XA h.mat i hi
   simp_all
  ·obtain⟨q,h1,h2⟩:=XA h.mat i hi;obtain⟨q',h1',h2'⟩:=XA h.mat i' hi';rw[h2,h2']at e;cases (e);exact h.mat.inj i i' q hi hi' h2 h2'
 rw[ZG,ZG,h.er]at e3;have e4:Xn Bg.length (fun q=>if q<E.length then a q else 0)=Xn E.length a:=by rw[hl];exact X1 fun q hq=>Vf hq
 have e5:(if (some r).getD 0<E.length then a ((some r).getD 0)else 0)=a r:=Vf hr;have e6:(if Bg.length<E.length then a Bg.length else 0)=0:=if_neg (by lia);lia
theorem ZfI (hF:Zjx es ss S j) (hm:0<(Bf es ss).length):∃ r,PrF (Ef es ss) (Bf es ss) S j r:=by
 have hM:=hF.all.mat (fun i j _ _=>Zc6 i j) (Qg _);obtain⟨a,b⟩:=hF.at_ hm;obtain⟨r,h1,h2⟩:=XA hM (Bf es ss).length K9;have hl:=ZgY hF.pts;refine⟨r,hM,hl,a,b,?_,h2⟩;by_cases z:r<(Ef es ss).length
 exact z;have e:r=(Ef es ss).length:=Fj h1 hl z
 rw[e]at h2;have:=hM.inj j _ _ (Xo a) K9 b h2;exact (K8 a this).elim
theorem ZjG (es) (ss) (S):tsT (TF es ss S)=tsE es++(lnk (Ef es ss) (Bf es ss) S.ra (Bf es ss).length).map fun t=>(t.1,t.2.2):=by
 unfold tsT TF tsE;rw[QJ,Q0];rfl
theorem Zi7 (hS:SPts es ss) (p):mo es p+(if p∈ss/\0 < -mo es p then -mo es p else 0)-(if p∈ss/\0<mo es p then mo es p else 0)=0:=by
 by_cases hp:p∈ss
 by_cases h1:0<mo es p
 rw[if_neg (by omega),Vf ⟨hp,h1⟩];lia;by_cases h2:0 < -mo es p
 rw[Vf ⟨hp,h2⟩];omega;omega;have:=Za0 fun e he=>⟨fun z=>hp ((hS.pts.mem p).mpr ⟨e,he,.inl z⟩),fun z=>hp ((hS.pts.mem p).mpr ⟨e,he,.inr z⟩)⟩
 omega
theorem Zju (h0:∀ e∈es,0<=e.2) (p):bal (tsT (TF es ss S)) (Qu (tsT (TF es ss S)).length) p=mo es p+((lnk (Ef es ss) (Bf es ss) S.ra (Bf es ss).length).map fun t=>dl t.1 p-dl t.2.2 p).sum:=by
 rw[Jp _ p _ (Qg _),Q5,ZjG,QJ,WV,Q0];congr 1;have q:=Jp (tsE es) p _ (Qg _);rw[Q5]at q;rw[←q];exact Znp h0 p
theorem ZhI (h:RchT ts a p):RchT (ts++us) a p:=by
 induction h with
 | here=>exact .here
 | step _ k ih =>
  obtain⟨i,hi,q⟩:=k;have e:(ts++us).getD i ("","")=ts.getD i ("",""):=by rw[Qb,Qb,QA hi]
  refine .step ih ⟨i,by rw[Qh];exact Xo hi,?_⟩;unfold frm tow at q ⊢;rw[e];omega
theorem Zix {es0:Es} (hes:es=e0::es0) (hy:Hpy es L) (hF:Zjx es ss S j) (hh:Zcj e0 es):Zhl (tsT (TF es ss S)) (stF e0 (Bf es ss) j):=by
 have h0:=fun e he=>(hy.fine.many e he).1;have hS:=hF.pts;have nd:=hS.pts.nd;have e0m:e0∈es:=by simp_all
 have stm:stF e0 (Bf es ss) j∈ss:=by
  unfold stF;by_cases hm:(Bf es ss).length=0
  ·rw[Vf hm];exact(hS.pts.mem _).mpr ⟨e0,e0m,.inl rfl⟩
  ·rw[if_neg hm];exact(ZU (Yc (hF.at_ (Bv hm)).1)).1
 -- all points hang together
 have rall:∀ p∈ss,Rch es (bg e0.1) p:=fun p hp=>by
  obtain⟨e,he,q⟩:=(hS.pts.mem p).mp hp;rcases q with q | q
  ·rw[←q];exact hh e he
  ·exact .step (hh e he) ⟨e,he,.inl ⟨rfl,q⟩⟩
 have rst:∀ p∈ss,RchT (tsT (TF es ss S)) (stF e0 (Bf es ss) j) p:=fun p hp=>by
  rw[ZjG];exact ZhI (Zm9 hy.pos ((rall _ stm).symm.trans (rall p hp)))
 have inS:∀ i,i<(tsT (TF es ss S)).length->frm (tsT (TF es ss S)) i∈ss:=fun i hi=>by
  unfold frm;rw[Qb,Qa hi,WN];have hm:=QG hi;generalize (tsT (TF es ss S))[i]=t at hm;rw[ZjG]at hm;rcases QD.mp hm with z | z
  ·obtain⟨x,hx,rfl⟩:=QP.mp z;obtain⟨e,he,rfl⟩:=(YK hy.pos x).mp hx;exact(hS.pts.mem _).mpr ⟨e,he,.inl rfl⟩
  ·obtain⟨t3,h3,rfl⟩:=QP.mp z;obtain⟨x,hx,y,hy',rfl⟩:=ZcW h3 (Qg _);exact(ZU hx).1
 refine⟨?_,fun i hi=>rst _ (inS i hi)⟩;by_cases hm:0<(Bf es ss).length
 ·obtain⟨r,hP⟩:=ZfI hF hm;refine⟨(Ef es ss).getD r "",fun p=>?_⟩;have e1:=hP.links (fun t=>dl t.1 p-dl t.2.2 p) (fun q=>dl ((Ef es ss).getD q "") p) (fun i=>-dl ((Bf es ss).getD i "") p) (fun q i _ _ _=>by rfl);have e2:Xn (Ef es ss).length (fun q=>dl ((Ef es ss).getD q "") p)=if p∈ss/\0 < -mo es p then -mo es p else 0:=by
   rw[←Zbn (Ef es ss) (fun x=>dl x p)];exact JX nd
  have e3:Xn (Bf es ss).length (fun i=>-dl ((Bf es ss).getD i "") p) = -(if p∈ss/\0<mo es p then mo es p else 0):=by
   have q:=Zbn (Bf es ss) (fun x=>dl x p);have q2:((Bf es ss).map fun x=>dl x p).sum=if p∈ss/\0<mo es p then mo es p else 0:=JX nd
   have q3:=Zdl (Bf es ss).length (fun _=>0) (fun i=>dl ((Bf es ss).getD i "") p);rw[Jv fun _ _=>rfl,←q,q2]at q3;rw[←X1 (f:=fun i=>(0:Vs)-dl ((Bf es ss).getD i "") p) fun i _=>E6,q3];exact E6
  have e4:=Zi7 hS p;have est:stF e0 (Bf es ss) j=(Bf es ss).getD j "":=by
   unfold stF;rw[if_neg (E7 hm)]
  rw[Zju h0,e1,e2,e3,est];lia
 ·have hB0:(Bf es ss).length=0:=S8 hm
  have hE0:(Ef es ss).length=0:=by rw[ZgY hS];exact S8 hm
  refine⟨stF e0 (Bf es ss) j,fun p=>?_⟩;have e4:=Zi7 hS p;have a:((Ef es ss).map fun x=>dl x p).sum=if p∈ss/\0 < -mo es p then -mo es p else 0:=JX nd
  have b:((Bf es ss).map fun x=>dl x p).sum=if p∈ss/\0<mo es p then mo es p else 0:=JX nd
  rw[Q7.mp hE0]at a;have hBn:=Q7.mp hB0;rw[hBn]at b;have e5:lnk (Ef es ss) (Bf es ss) S.ra (Bf es ss).length=[]:=by rw[hB0];rfl
  rw[Zju h0,e5];simp only[List.map_nil,RI]at e4 ⊢;lia
end
noncomputable def cw (w:Vd Vg):Vd Vg->Vg
 | []=>0
 | x::z=>(if (x::z).take w.length=w then 1 else 0)+cw w z
theorem Zjq (w):∀ (a z),cw w z<=cw w (a++z)
 | [],z=>Qg _
 | x::a,z=>by
  show _<=(if _ then 1 else 0)+cw w (a++z);have:=Zjq w a z;exact Bo this
noncomputable def Xl (T:T3) (i:Vg):Vd Vg:=(T.getD i ("","","")).2.1.cps.toList
theorem ZbR (T) (i) (X):Zcl T (i::X)=Xl T i++Zcl T X:=by
 rfl
structure ZiF (L:Vg) (t:Vl×Vl×Vl):Prop where
 l1:t.1.length=L-1
 l2:t.2.2.length=L-1
 ne:1<=t.2.1.length
 dr:(t.1.cps.toList++t.2.1.cps.toList).drop t.2.1.length=t.2.2.cps.toList
theorem Zlf (hL:1<=L) (hx:x.length=L):ZiF L (Zk0 x):=by
 have hb:(bg x).length=L-1:=by unfold bg;rw[Zy,Uk,Zu,hx]
 have he:(en x).length=L-1:=by unfold en;rw[Zy,Wa,Zu,hx]
 refine⟨hb,he,by show 1<=(tx _).length;rw[Zy];simp,?_⟩;show((bg x).cps.toList++(tx _).cps.toList).drop (tx _).length=(en x).cps.toList;rw[Zr,←(Zd8 (x:=x) (Bp hL hx))];rfl
theorem ZkC (hx:x.length=L-1) (hy:y.length=L-1) (hne:x≠y):ZiF L (x,lbl x y,y):=by
 have hxy:x.length=y.length:=Dj hx hy
 have hl:=Za4 hxy;have hle:=ZdQ hxy;refine⟨hx,hy,by rw[hl];exact Zgn hxy hne,?_⟩;rw[hl,List.drop_append_of_le_length (by assumption),(V4 (Y7 hxy).2.1)];unfold lbl;rw[Zr,Zu];simp
section
variable {L:Vg} {T:T3}
theorem Zhu (hT:∀ t∈T,ZiF L t) (w) (hw:w.length=L) (hL:1<=L) {u v} {X} (c:Ch (tsT T) u X v):(∀ i∈X,i<T.length)->u.length=L-1 ->
  (X.filter fun i=>decide (Xl T i≠[]/\(Xl T i).length=1/\(frm (tsT T) i).cps.toList++Xl T i=w)).length<=cw w (u.cps.toList++Zcl T X):=by
 induction c with
 | nil u=>simp
 | @cons i X u v e c ih =>
  intro hX hu;have hi:=hX i Qj;have gi:T.getD i ("","","")=T[i]:=by rw[Qb,Qa hi];rfl
  have ok:=hT T[i] (QG hi);have hf:frm (tsT T) i=T[i].1:=by
   unfold frm tsT;rw[Qb,Qi,Qa hi];rfl
  have ht:tow (tsT T) i=T[i].2.2:=by
   unfold tow tsT;rw[Qb,Qi,Qa hi];rfl
  have lc:Xl T i=T[i].2.1.cps.toList:=by unfold Xl;rw[gi]
  have ll:(Xl T i).length=T[i].2.1.length:=by rw[lc,Zu]
  have ih':=ih (fun k hk=>hX k (Qk _ hk)) (by rw[ht];exact ok.l2);have hsp:u.cps.toList++Zcl T (i::X)=(u.cps.toList++Xl T i).take (Xl T i).length++((tow (tsT T) i).cps.toList++Zcl T X):=by
   rw[ZbR,←QH,←QH];rw[ht,←ok.dr,←e,hf,←lc,←ll];simp
  rw[hsp];by_cases hp:Xl T i≠[]/\(Xl T i).length=1/\(frm (tsT T) i).cps.toList++Xl T i=w
  ·rw[List.filter_cons_of_pos (by simpa using hp),QC];obtain⟨_,p2,p3⟩:=hp;rw[e]at p3;have hlen:(u.cps.toList++Xl T i).length=L:=by rw[p3];exact hw
   rw[p2];match hq:(u.cps.toList++Xl T i).take 1,(show((u.cps.toList++Xl T i).take 1).length=1 by rw[QE,hlen];exact E8 hL)with
   | [a],_ =>
    show _<=(if (a::((tow (tsT T) i).cps.toList++Zcl T X)).take w.length=w then 1 else 0)+cw w ((tow (tsT T) i).cps.toList++Zcl T X);have e2:a::(tow (tsT T) i).cps.toList=w:=by
     have q:=Wd 1 (u.cps.toList++Xl T i);rw[hq]at q;have d:(u.cps.toList++Xl T i).drop 1=(tow (tsT T) i).cps.toList:=by rw[ht,←ok.dr,←e,hf,←lc,←ll,p2]
     rw[d]at q;rw[←p3,←q];rfl
    rw[Vf (by rw[←List.cons_append,e2,List.take_left'  rfl])];lia
  ·rw[List.filter_cons_of_neg (by simpa using hp)];exact QK ih' (Zjq w _ _)
end
theorem Zc5 (l:Vd Vl) (x):((Qu l.length).filter fun i=>decide (l.getD i "" = x)).length=l.count x:=by
 conv=>rhs;rw[←Xr l]
 rw[List.count_eq_countP,List.countP_map,Ui];rfl
theorem ZfN {l m:Vd Vg} (p:l.Perm m):l.sum=m.sum:=by
 grind
theorem ZdW (T):∀ X,(Zcl T X).length=(X.map fun i=>(Xl T i).length).sum
 | []=>rfl
 | i::X=>by rw[ZbR,Qh,ZdW T X,QV,Wb]
section
variable {e0:Vl×Vs} {es:Es} {ss:Vd Vl} {S:Pst} {j L:Vg}
noncomputable def lkc (es:Es) (ss:Vd Vl) (S:Pst):Vs:=((lnk (Ef es ss) (Bf es ss) S.ra (Bf es ss).length).map fun t=>(t.2.1.length:Vs)).sum
structure Zn1 (e0:Vl×Vs) (es:Es) (ss:Vd Vl) (S:Pst) (j L:Vg) (z:Vd Vg):Prop where
 txt:tf (TF es ss S) (stF e0 (Bf es ss) j)=some (tx z)
 cd:Cd z
 has:∀ e∈es,e.2<=(cw e.1.cps.toList z:Vg)
 len:(z.length:Vs)=(flatE es).length+L-1+lkc es ss S
theorem Zd4 {es0:Es} (hes:es=e0::es0) (hy:Hpy es L) (hF:Zjx es ss S j) (hh:Zcj e0 es):∃ z,Zn1 e0 es ss S j L z:=by
 have g:=Zix hes hy hF hh;have hE:=ZjC g;obtain⟨hp,v,hc⟩:=hE;have hS:=hF.pts;have plen:=ZfG hS hy.len hy.l1;have e0m:e0∈es:=by simp_all
 have stm:stF e0 (Bf es ss) j∈ss:=by
  unfold stF;by_cases hm:(Bf es ss).length=0
  ·rw[Vf hm];exact(hS.pts.mem _).mpr ⟨e0,e0m,.inl rfl⟩
  ·rw[if_neg hm];exact(ZU (Yc (hF.at_ (Bv hm)).1)).1
 have hst:=plen _ stm;have fl:∀ x∈flatE es,x.length=L:=fun x hx=>by
  obtain⟨e,he,rfl⟩:=(YK hy.pos x).mp hx;exact hy.len e he
 have fcd:∀ x∈flatE es,Cd x.cps.toList:=fun x hx=>by
  obtain⟨e,he,rfl⟩:=(YK hy.pos x).mp hx;exact hy.cd e he
 have pcd:∀ p∈ss,Cd p.cps.toList:=fun p hp=>by
  obtain⟨e,he,q⟩:=(hS.pts.mem p).mp hp;have:=hy.cd e he;rcases q with q | q
  ·rw[←q];unfold bg;rw[Zr];exact fun c hc=>this c (List.dropLast_subset _ hc)
  ·rw[←q];unfold en;rw[Zr];exact fun c hc=>this c (WM hc)
 have hT:∀ t∈TF es ss S,ZiF L t/\Cd t.2.1.cps.toList:=fun t ht=>by
  unfold TF at ht;rcases QD.mp ht with q | q
  ·obtain⟨x,hx,rfl⟩:=QP.mp q;refine⟨Zlf hy.l1 (fl x hx),?_⟩;show Cd (tx [lst x]).cps.toList;rw[Zr];intro c hc';rw[Qo.mp hc'];have e:=Zd8 (x:=x) (by rw[fl x hx];exact hy.l1);exact fcd x hx _ (by rw[e];simp)
  ·obtain⟨x,hx,y,hy',rfl⟩:=ZcW q (Qg _);obtain⟨a1,a2⟩:=ZU hx;obtain⟨b1,b2⟩:=ZU hy';refine⟨ZkC (plen x a1) (plen y b1) fun z=>by rw[z]at a2;exact (Dn b2 a2).elim,?_⟩;show Cd (lbl x y).cps.toList;unfold lbl;rw[Zr];exact fun c hc'=>pcd y b1 c (WM hc')
 have hN:(flatE es).length<=(TF es ss S).length:=by unfold TF;rw[Qh,Qd];exact Ka
 have tl:(tsT (TF es ss S)).length=(TF es ss S).length:=by unfold tsT;simp
 rw[tl]at hp;have hX:∀ i∈wayX (tsT (TF es ss S)) (stF e0 (Bf es ss) j),i<(TF es ss S).length:=fun i hi=>Qr.mp (hp.mem_iff.mp hi);have gT:∀ i,i<(flatE es).length->(TF es ss S).getD i ("","","")=Zk0 ((flatE es).getD i ""):=fun i hi=>by
  unfold TF;rw[Qb,QA (by rw[Qd];exact hi),Qi,Qb,Qa hi];rfl
 refine⟨(stF e0 (Bf es ss) j).cps.toList++Zcl (TF es ss S) (wayX (tsT (TF es ss S)) (stF e0 (Bf es ss) j)),Ze1 g,?_,fun e he=>?_,?_⟩
 ·intro c hc';rcases QD.mp hc' with q | q
  ·exact pcd _ stm c q
  ·unfold Zcl at q;obtain⟨i,hi,hci⟩:=UC.mp q;rw[Qb,Qa (hX i hi)]at hci;exact(hT _ (QG (hX i hi))).2 c hci
 ·have q:=Zhu (fun t ht=>(hT t ht).1) e.1.cps.toList (by rw[Zu];exact hy.len e he) hy.l1 hc hX hst;have q2:=(hp.filter fun i=>decide (Xl (TF es ss S) i≠[]/\(Xl (TF es ss S) i).length=1/\(frm (tsT (TF es ss S)) i).cps.toList++Xl (TF es ss S) i=e.1.cps.toList)).length_eq;have q3:=((List.range_sublist.mpr hN).filter fun i=>decide (Xl (TF es ss S) i≠[]/\(Xl (TF es ss S) i).length=1/\(frm (tsT (TF es ss S)) i).cps.toList++Xl (TF es ss S) i=e.1.cps.toList)).length_le;have q4:((Qu (flatE es).length).filter fun i=>decide ((flatE es).getD i "" = e.1)).length<=((Qu (flatE es).length).filter fun i=>decide (Xl (TF es ss S) i≠[]/\(Xl (TF es ss S) i).length=1/\(frm (tsT (TF es ss S)) i).cps.toList++Xl (TF es ss S) i=e.1.cps.toList)).length:=by
   rw[←Ui,←Ui];refine List.countP_mono_left fun i hi h=>?_;have hi':=Qr.mp hi;have h':=V4 h;have lc:Xl (TF es ss S) i=[lst e.1]:=by unfold Xl;rw[gT i hi',h'];rfl
   have fr:frm (tsT (TF es ss S)) i=bg e.1:=by
    unfold frm tsT;have:(LK (fun t:Vl×Vl×Vl=>(t.1,t.2.2)) (TF es ss S)).getD i ("","")=(fun t:Vl×Vl×Vl=>(t.1,t.2.2)) ((TF es ss S).getD i ("","","")):=by
     rw[Qb,Qb,Qi,Qa (Dh hN hi')];rfl
    rw[this,gT i hi',h'];rfl
   refine Vq ⟨by rw[lc];simp,by rw[lc];rfl,?_⟩;rw[lc,fr];exact(Zd8 (by rw[hy.len e he];exact hy.l1)).symm
  have q5:=Zc5 (flatE es) e.1;have q6:=Zg5 (es:=es) (by
   have:=hy.srt;exact(Wr.mp this).imp fun {a b} h z=>by rw[z]at h;exact Vo h (Ue _)) (fun e he=>(hy.fine.many e he).1) e he
  lia
 ·rw[Qh,Zu,hst,ZdW,ZfN (hp.map fun i=>(Xl (TF es ss S) i).length)];have e1:((Qu (TF es ss S).length).map fun i=>(Xl (TF es ss S) i).length)=(TF es ss S).map fun t=>t.2.1.length:=by
   refine QW fun i=>?_;by_cases hi:i<(TF es ss S).length
   ·rw[Qi,QY hi,Qi,Qa hi];show some (Xl (TF es ss S) i).length=some _;unfold Xl;rw[Qb,Qa hi,Zu];rfl
   ·rw[Qp (by simp;exact Kf hi),Qp (by simp;exact Kf hi)]
  rw[e1];unfold TF lkc;rw[QJ,WV,Q0];have e2:((flatE es).map ((fun t:Vl×Vl×Vl=>t.2.1.length) ∘ Zk0)).sum=(flatE es).length:=by
   rw[show((fun t:Vl×Vl×Vl=>t.2.1.length) ∘ Zk0)=fun _=>1 from by funext x;exact Zy _];generalize flatE es=l;induction l with
   | nil=>rfl
   | cons x l ih=>rw[QV,Wb,ih,QC];lia
  rw[e2];have e3:∀ l:T3,(((l.map fun t=>t.2.1.length).sum:Vg):Vs)=(l.map fun t=>(t.2.1.length:Vs)).sum:=fun l=>by
   induction l with
   | nil=>rfl
   | cons t l ih=>rw[QV,Wb,QV,Wb,←ih];lia
  rw[←e3];have:=hy.l1;lia
theorem ZdS (h:(Bf es ss).length=0):lkc es ss S=0:=by
 unfold lkc;rw[h];rfl
theorem Zez (hy:Hpy es L) (hF:Zjx es ss S j) (hP:PrF (Ef es ss) (Bf es ss) S j r):lkc es ss S=(Xn (Ef es ss).length S.rp-S.rp r)+(Xn (Bf es ss).length S.cp-S.cp j)/\(∀ q,q<(Ef es ss).length->S.rp q<=S.rp r)/\∀ i,i<(Bf es ss).length->S.cp i<=S.cp j:=by
 have hl:=hP.len;have hj:=hP.hj;have t1:=(hP.mat.tight _ _ K9 hP.er).2;have t2:=(hP.mat.tight j _ (Xo hj) hP.ej).2;have c0:∀ q,Z3 (Ef es ss) (Bf es ss) q (Bf es ss).length=0:=fun q=>by unfold Z3;lia
 have c1:∀ i,Z3 (Ef es ss) (Bf es ss) (Ef es ss).length i=0:=fun i=>by unfold Z3;lia
 unfold red at t1 t2;rw[c0]at t1;rw[c1]at t2;refine⟨?_,fun q hq=>?_,fun i hi=>?_⟩;refine hP.links _ S.rp S.cp fun q i hq hi e=>?_;have t3:=(hP.mat.tight i q (Xo hi) e).2;unfold red at t3;have c2:Z3 (Ef es ss) (Bf es ss) q i=(ltr ((Ef es ss).getD q "") ((Bf es ss).getD i "")):=by unfold Z3;lia
 have plen:=ZfG hF.pts hy.len hy.l1;have l1:((Ef es ss).getD q "").length=L-1:=plen _ (ZU (Yc hq)).1;have l2:((Bf es ss).getD i "").length=L-1:=plen _ (ZU (Yc hi)).1;rw[Za4 (Dj l1 l2)];lia;have f:=hP.mat.feas q (Bf es ss).length (Do hl hq) K9;unfold red at f;rw[c0]at f;lia;have f:=hP.mat.feas (Ef es ss).length i (Dq hl) (Xo hi);unfold red at f;rw[c1]at f;lia
end
structure Pcl (ps:Vd Vl) (L:Vg):Prop where
 ne:ps≠[]
 few:ps.length<=260
 len:∀ x∈ps,x.length=L
 l1:1<=L
 l3:L<=100
 cd:∀ x∈ps,Cd x.cps.toList
theorem Zaz {g:Vl->Vg}:∀ {ss:Vd Vl},ss.Nodup->(flatE (ss.map fun x=>(x,(g x)))).count y=if y∈ss then g y else 0
 | [],_=>by rfl
 | x::ss,nd=>by
  have nd':=QU.mp nd;rw[QV,Yo,Ud,Zaz nd'.2,UG];by_cases c:y=x
  subst c;rw[if_neg nd'.1,Vf (by simp)];simp;rw[if_neg (by simpa using Vy c)];simp[c]
theorem Zb2 {ps ss:Vd Vl} (nd:ss.Nodup) (hm:∀ x,x∈ss↔x∈ps):(flatE (ss.map fun x=>(x,(ps.count x)))).Perm ps:=by
 rw[List.perm_iff_count];intro y;rw[Zaz nd];split
 rfl;rename_i c;rw[Ua fun z=>c ((hm y).mpr z)]
structure HpE (es:Es) (ps ss:Vd Vl):Prop where
 eq:es=ss.map fun x=>(x,(ps.count x:Vs))
 nd:ss.Nodup
 mem:∀ x,x∈ss↔x∈ps
 srt:(ss.map fun x=>x.cps.toList).Pairwise (· < ·)
theorem HpE.hpy (g:HpE es ps ss) (h:Pcl ps L):Hpy es L/\(flatE es).length=ps.length:=by
 obtain⟨rfl,nd,hm,_⟩:=g;have hp:=(Zb2 nd hm).length_eq;have h2:=h.few;have h3:=h.l3;have h1:=h.l1;have hmm:∀ e∈ss.map fun x=>(x,(ps.count x:Vs)),e.1∈ps/\e.2=ps.count e.1:=fun e he=>by
  obtain⟨x,hx,rfl⟩:=QP.mp he;exact⟨(hm x).mp hx,rfl⟩
 refine⟨⟨⟨?_,fun e he=>?_,fun e he=>?_⟩,fun z=>?_,fun e he=>h.len _ (hmm e he).1,h1,by lia,fun e he=>?_,by lia,?_,fun e he=>h.cd _ (hmm e he).1⟩,hp⟩;rw[Qd];have:=Zes nd fun x hx=>(hm x).mp hx;lia;rw[(hmm e he).2];have:=Rc (a:=e.1) (l:=ps);lia;have:=h.len _ (hmm e he).1;lia;have e1:ss=[]:=by simp_all
 obtain⟨_⟩:=List.exists_mem_of_ne_nil _ h.ne
 simp_all
 rw[(hmm e he).2];have:=WW.mpr (hmm e he).1;lia
 grind
noncomputable def mv (ps:Vd Vl) (p:Vl):Vs:=(ps.map fun x=>dl (bg x) p-dl (en x) p).sum
theorem HpE.mo (g:HpE es ps ss) (p):mo es p=mv ps p:=by
 rw[g.eq];refine(Zgl p g.nd fun x hx=>(g.mem x).mpr hx).trans ?_;unfold Sh.mo mv;rw[Q0];congr 1;refine Q8 fun x _=>?_;show mo1 _ p=_;unfold mo1 ind dl;dsimp only;lia
theorem ZlZ (a b) (p):mv (a++b) p=mv a p+mv b p:=by
 unfold mv;simp
theorem ZcS (x) (b) (p):mv (x::b) p=dl (bg x) p-dl (en x) p+mv b p:=rfl
theorem ZdI (h:L<=z.length):pcs (x::z) L=tx ((x::z).take L)::pcs z L:=by
 unfold pcs;rw[QC,show z.length+1-L+1=z.length-L+1+1 by lia,List.range_succ_eq_map,QV,Q0];rfl
noncomputable def tB (z:Vd Vg) (L:Vg):Vl:=tx (z.take (L-1))
noncomputable def tN (z:Vd Vg) (L:Vg):Vl:=tx (z.drop (z.length-(L-1)))
theorem ZdO (h1:1<=L):∀ {z},L<=z.length->mv (pcs z L) p=dl (tB z L) p-dl (tN z L) p
 | [],h=>by simp_all
 | x::z,h=>by
  rw[QC]at h;by_cases c:L<=z.length
  ·rw[ZdI c,ZcS,ZdO h1 c];have e1:bg (tx ((x::z).take L))=tB (x::z) L:=by
    unfold bg tB;rw[Zr,WG,QE,RD,QC];congr 2;lia
   have e2:en (tx ((x::z).take L))=tB z L:=by
    unfold en tB;obtain⟨k,rfl⟩:∃ k,L=k+1:=⟨L-1,Ty h1⟩
    rfl
   have e3:tN (x::z) L=tN z L:=by
    unfold tN;rw[QC,show z.length+1-(L-1)=z.length-(L-1)+1 by lia];rfl
   rw[e1,e2,e3];lia
  ·have eL:L=z.length+1:=by lia
   subst eL;have e1:pcs (x::z) (z.length+1)=[tx (x::z)]:=by
    unfold pcs;simp
   rw[e1,ZcS];show _+0=_;have e2:bg (tx (x::z))=tB (x::z) (z.length+1):=by
    unfold bg tB;rw[Zr,WG,QC]
   have e3:en (tx (x::z))=tN (x::z) (z.length+1):=by
    unfold en tN;rw[QC];congr 2;lia
   rw[e2,e3];exact Sa
noncomputable def cop:Vg->Vd Vl->Vd Vl
 | 0,_=>[]
 | n+1,l=>l++cop n l
theorem Zb7 (l) (x):∀ n,(cop n l).count x=n*l.count x
 | 0=>by simp[cop]
 | n+1=>by rw[cop,Ud,Zb7 l x n,LP];exact El
theorem XD (l):∀ n,(cop n l).length=n*l.length
 | 0=>by simp[cop]
 | n+1=>by rw[cop,Qh,XD l n,LP];exact El
theorem Zbe:∀ {n},x∈cop n l->x∈l
 | 0,h=>by simp[cop]at h
 | n+1,h=>by
  rcases QD.mp h with h | h
  omega;exact Zbe h
theorem XY (hn:1<=n) (h:x∈l):x∈cop n l:=by
 obtain⟨k,rfl⟩:∃ k,n=k+1:=⟨n-1,Ty hn⟩
 exact QI _ h
theorem Zg6 (l) (p):∀ n,mv (cop n l) p=n*mv l p
 | 0=>by simp[cop,mv]
 | n+1=>by rw[cop,ZlZ,Zg6 l p n,UJ,UN];lia
theorem ZeV (h:∀ x,¬ 0<f x) (ss):ups f ss=[]:=by
 unfold ups;rw[WZ.mpr fun x _=>by simpa using h x];rfl
theorem Zco {f:Vl->Vs} {b} {n:Vg} (hn:0<n) (hf:f b=n) (h0:∀ x,x≠b->¬ 0<f x):∀ {ss},ss.Nodup->b∈ss->flatE (ups f ss)=Qq n b
 | [],_,h=>nomatch h
 | x::ss,nd,h=>by
  obtain⟨n1,n2⟩:=QU.mp nd;by_cases c:x=b
  subst c;have e:ups f (x::ss)=(x,f x)::ups f ss:=by unfold ups;simp_all
  have e2:ups f ss=[]:=by
   unfold ups;rw[WZ.mpr fun y hy=>by simpa using h0 y fun z=>n1 (by simp_all)];rfl
  rw[e,e2];show Qq _ x++[]=_;rw[hf,WC,Wc];have e:ups f (x::ss)=ups f ss:=by unfold ups;simp_all
  exact e▸Zco hn hf h0 n2 (by
   rcases Qs.mp h with q | q
   simp_all
   omega)
section
variable {es:Es} {ps ss pt:Vd Vl} {z:Vd Vg} {L n:Vg}
theorem XX (p):dl p p=1:=Vf rfl
theorem Zb5 (h:p≠q):dl p q=0:=if_neg h
theorem Ziz (g:HpE es (cop n (pcs z L)) ss) (h1:1<=L) (hL:L<=z.length) (hn:1<=n) (hS:SPts es pt) (hne:tB z L≠tN z L):Ef es pt=Qq n (tN z L)/\Bf es pt=Qq n (tB z L):=by
 have hm:∀ p,mo es p=n*(dl _ p-dl _ p):=fun p=>by rw[g.mo,Zg6,ZdO h1 hL]
 have mB:mo es (tB z L)=n:=by rw[hm,XX,Zb5 hne.symm];lia
 have mN:mo es (tN z L) = -n:=by rw[hm,XX,Zb5 hne];lia
 have inS:∀ p,mo es p≠0->p∈pt:=fun p hp=>by
  by_cases c:p∈pt
  ·omega
  ·refine Vo (Za0 fun e he=>?_) hp;exact⟨fun q=>c ((hS.pts.mem p).mpr ⟨e,he,.inl q⟩),fun q=>c ((hS.pts.mem p).mpr ⟨e,he,.inr q⟩)⟩
 constructor
 ·refine Zco (Bq hn) (by lia) (fun x hx=>?_) hS.pts.nd (inS _ (by omega));rw[hm,Zb5 (Vy hx)];have:0<=dl (tB z L) x:=by unfold dl;lia
  have:0<=n*(dl (tB z L) x-0):=RE Ss (E9 this);omega
 ·refine Zco (Bq hn) mB (fun x hx=>?_) hS.pts.nd (inS _ (by omega));rw[hm,Zb5 (Vy hx)];have:0<=dl (tN z L) x:=by unfold dl;lia
  have:0<=n*(dl (tN z L) x-0):=RE Ss (E9 this);have e:n*(0-dl (tN z L) x) = -(n*(dl (tN z L) x-0)):=by rw[←Int.mul_neg];congr 1;lia
  lia
theorem ZeJ (g:HpE es (cop n (pcs z L)) ss) (h1:1<=L) (hL:L<=z.length) (he:tB z L=tN z L):Ef es pt=[]/\Bf es pt=[]:=by
 have hm:∀ p,mo es p=0:=fun p=>by rw[g.mo,Zg6,ZdO h1 hL,he];omega
 constructor;unfold Ef;rw[ZeV fun x=>by rw[hm];lia];rfl;unfold Bf;rw[ZeV fun x=>by rw[hm];lia];rfl
theorem ZfV (h:i+L<=z.length):tx ((z.drop i).take L)∈pcs z L:=QP.mpr ⟨i,Qr.mpr (by omega),rfl⟩
theorem Zio (h1:1<=L) (hL:L<=z.length) (hi:∀ x∈pcs z L,∃ e∈es,e.1=x) (ho:∀ e∈es,e.1∈pcs z L) (h0:e0∈es):Zcj e0 es:=by
 have key:∀ i,i+L<=z.length->Rch es _ (bg (tx ((z.drop i).take L))):=fun i=>by
  induction i with
  | zero=>intro _;exact .here
  | succ i ih =>
   intro h;obtain⟨e,he,ee⟩:=hi _ (ZfV (i:=i) (Hc h));refine .step (ih (Hc h)) ⟨e,he,.inl ⟨by grind,?_⟩⟩;rw[ee];unfold en bg;rw[Zr,Zr];congr 1;rw[WG,QE,Wa,RD,RF,Ug];congr 1;lia
 intro e' he';have all:∀ e∈es,Rch es _ (bg e.1):=fun e he=>by
  obtain⟨i,hi',q⟩:=QP.mp (ho e he);exact q▸key i (by have:=Qr.mp hi';exact Hd this hL)
 exact(all e0 h0).symm.trans (all e' he')
theorem ZkB (hF:Zjx es pt S j) (hn:1<=n) (hE:Ef es pt=Qq n e) (hB:Bf es pt=Qq n b) (hl:e.length=b.length):lkc es pt S=(n-1:Vg)*ltr e b:=by
 have hb:(Bf es pt).length=n:=by simp_all
 have he:(Ef es pt).length=n:=by simp_all
 obtain⟨r,hP⟩:=ZfI hF (by lia);have q:=hP.links (fun t=>t.2.1.length) (fun _=>(ltr e b)) (fun _=>0) fun q i hq hi _=>by
  have e1:(Ef es pt).getD q "" = e:=by
   have:=Yc hq;rw[hE]at this ⊢;exact(WR.mp this).2
  have e2:(Bf es pt).getD i "" = b:=by
   have:=Yc hi;rw[hB]at this ⊢;exact(WR.mp this).2
  rw[e1,e2,Za4 hl];lia
 unfold lkc;rw[q,he,Jv fun _ _=>rfl];have:∀ m,Xn m _=m*(ltr e b):=fun m=>by
  unfold Xn;rw[List.map_const',Zcu,QX]
 rw[this];obtain⟨k,rfl⟩:∃ k,n=k+1:=⟨n-1,Ty hn⟩
 rw[UJ,UN,UR];lia
theorem Zkt (h:a.Perm b) (p):mv a p=mv b p:=ZbB (h.map _)
theorem Zh7 (h:x∈l) (p):mv (l.erase x) p=mv l p-(dl (bg x) p-dl (en x) p):=by
 rw[Zkt (UF h) p,ZcS];lia
theorem ZeH (a b):0<=dl a b/\dl a b<=1:=by unfold dl;lia
theorem Xs:∀ {ss},ss.Nodup->(((flatE (ups f ss)).count p:Vg))=if p∈ss/\0<f p then f p else 0
 | [],_=>rfl
 | x::ss,nd=>by
  obtain⟨n1,n2⟩:=QU.mp nd;have ih:=Xs (f:=f) (p:=p) n2;by_cases hx:0<f x
  have e:ups f (x::ss)=(x,f x)::ups f ss:=by unfold ups;simp_all
  rw[e,Yo,Ud,UJ,ih,UG];by_cases hp:p=x
  subst hp;rw[Vf (by simp),if_neg fun z=>n1 z.1,Vf ⟨Qj,hx⟩];lia;rw[if_neg (by simpa using Vy hp)];simp[hp];have e:ups f (x::ss)=ups f ss:=by unfold ups;simp_all
  rw[e,ih];by_cases hp:p=x
  subst hp;lia;simp[hp]
theorem ZkD {l:Vd Vl} (h:∀ x∈l,x=a\/x=b):l.length<=l.count a+(if a=b then 0 else l.count b):=by
 induction l with
 | nil=>simp
 | cons x l ih =>
  have ih:=ih fun y hy=>h y (Qk _ hy);rw[Uo,Uo];rcases h x Qj with rfl | rfl
  by_cases c:x=b
  rw[Vf c]at ih ⊢;simp;exact Fq ih;rw[if_neg c]at ih ⊢;simp;omega;by_cases c:a=x
  subst c;rw[Vf rfl]at ih ⊢;simp;exact Fq ih;rw[if_neg c]at ih ⊢;simp;omega
theorem Zcn (hf:∀ p,f p=dl a p+dl b p-dl c p-dl d p) (nd:pt.Nodup):(flatE (ups f pt)).length<=2/\((flatE (ups f pt)).length=2->a∈flatE (ups f pt)/\b∈flatE (ups f pt)):=by
 have hm:∀ x∈flatE (ups f pt),x=a\/x=b:=fun x hx=>by
  have:=(ZU hx).2;rw[hf]at this;have:=ZeH c x;have:=ZeH d x;by_cases h1:a=x
  simp_all
  by_cases h2:b=x
  simp_all
  rw[Zb5 h1,Zb5 h2]at *;omega
 have cnt:∀ p,(((flatE (ups f pt)).count p):Vs)<=dl a p+dl b p-dl c p-dl d p\/(flatE (ups f pt)).count p=0:=fun p=>by
  have:=Xs (f:=f) (p:=p) nd;split at this
  simp_all
  lia
 have hl:=ZkD hm;have ca:=cnt a;have cb:=cnt b;have pos:∀ p,(flatE (ups f pt)).count p≠0->p∈flatE (ups f pt):=fun p hp=>WW.mp (by lia);have c1:=ZeH c a;have c2:=ZeH c b;have d1:=ZeH d a;have d2:=ZeH d b;by_cases h:a=b
 subst h;rw[Vf rfl]at hl;rw[XX]at ca;refine⟨by lia,fun e=>?_⟩;have:=pos a (by lia);exact⟨this,this⟩;rw[if_neg h]at hl;rw[XX,Zb5 (Vy h)]at ca;rw[XX,Zb5 h]at cb;refine⟨by omega,fun e=>⟨pos a (by omega),pos b (by omega)⟩⟩
theorem Zid (h:x.length=L) (h1:1<=L):ltr (bg x) (en x)<=1:=by
 have lb:(bg x).length=L-1:=by unfold bg;rw[Zy,Uk,Zu,h]
 have le:(en x).length=L-1:=by unfold en;rw[Zy,Wa,Zu,h]
 by_cases c:ltr (bg x) (en x)<=1
 exact c;have:=(Y7 (x:=bg x) (y:=en x) (Dj lb le)).2.2 1 (Fr c);have e:ZeS (bg x).cps.toList (en x).cps.toList 1=true:=by
  unfold ZeS;rw[NW];unfold bg en;rw[Zr,Zr,WG,RF,Wa]
 rw[this]at e;cases e
theorem Zlb (g:HpE es ((pcs z L).erase x) ss) (hx:x∈pcs z L) (h1:1<=L) (hL:L<=z.length) (p):mo es p=dl (tB z L) p+dl (en x) p-dl (tN z L) p-dl (bg x) p:=by
 rw[g.mo,Zh7 hx,ZdO h1 hL];lia
theorem Zlc (g:HpE es ((pcs z L).erase x) ss) (hx:x∈pcs z L) (h1:1<=L) (hL:L<=z.length) (hS:SPts es pt):(Bf es pt).length<=2:=(Zcn (Zlb g hx h1 hL) hS.pts.nd).1
theorem Zl4 (g:HpE es ((pcs z L).erase x) ss) (hx:x∈pcs z L) (hxl:x.length=L) (h1:1<=L) (hL:L<=z.length) (hy:Hpy es L) (hF:Zjx es pt S j):lkc es pt S<=1:=by
 have hS:=hF.pts;have hm:=Zlb g hx h1 hL;have hB:=Zcn (pt:=pt) hm hS.pts.nd;have hE:=Zcn (pt:=pt) (f:=fun y=>-mo es y) (a:=tN z L) (b:=bg x) (c:=tB z L) (d:=en x) (fun p=>by rw[hm];lia) hS.pts.nd;have hl:=ZgY hS;have hB':(Bf es pt).length<=2/\((Bf es pt).length=2->tB z L∈Bf es pt/\en x∈Bf es pt):=hB;have hE':(Ef es pt).length<=2/\((Ef es pt).length=2->tN z L∈Ef es pt/\bg x∈Ef es pt):=hE;by_cases hm0:0<(Bf es pt).length
 ·obtain⟨r,hP⟩:=ZfI hF hm0;obtain⟨q,_,_⟩:=Zez hy hF hP;have hj:=hP.hj;have hr:=hP.hr;by_cases c:(Bf es pt).length=1
  ·rw[hl]at hr;have e1:(Ef es pt).length=1:=Sf c hl
   rw[e1,c,show r=0 by exact Kq c hr,show j=0 by exact Kq c hj]at q;rw[show(1:Vg)=0+1 from rfl,ZG,ZG]at q;rw[q];show(0+S.rp 0-S.rp 0)+(0+S.cp 0-S.cp 0)<=1;lia
  ·have c2:(Bf es pt).length=2:=by lia
   have c3:(Ef es pt).length=2:=Sf c2 hl
   have t1:=(hP.mat.tight _ _ K9 hP.er).2;have t2:=(hP.mat.tight j _ (Xo hj) hP.ej).2;have c0:∀ q,Z3 (Ef es pt) (Bf es pt) q (Bf es pt).length=0:=fun q=>by unfold Z3;lia
   have c1:∀ i,Z3 (Ef es pt) (Bf es pt) (Ef es pt).length i=0:=fun i=>by unfold Z3;lia
   unfold red at t1 t2;rw[c0]at t1;rw[c1]at t2;obtain⟨ix,hix,ex⟩:=Za1 (hE'.2 c3).2;obtain⟨iy,hiy,ey⟩:=Za1 (hB'.2 c2).2;have f1:=hP.mat.feas ix iy (Do hl hix) (Xo hiy);have f2:∀ q,q<2->0<=0-S.rp q-S.cp (Bf es pt).length:=fun q hq=>by
    have:=hP.mat.feas q (Bf es pt).length (Dp hq c2) K9;unfold red at this;rw[c0]at this;exact this
   have f3:∀ i,i<2->0<=0-S.rp (Ef es pt).length-S.cp i:=fun i hi=>by
    have:=hP.mat.feas (Ef es pt).length i (Dq hl) (Dp hi c2);unfold red at this;rw[c1]at this;exact this
   unfold red Z3 at f1;rw[Vf ⟨hix,hiy⟩,ex,ey]at f1;have lt:=Zid hxl h1;rw[c3,c2]at q;have e2:∀ f:Vg->Vs,Xn 2 f=f 0+f 1:=fun f=>by
    rw[show(2:Vg)=0+1+1 from rfl,ZG,ZG];show 0+f 0+f 1=_;lia
   rw[e2,e2]at q;rw[c2]at t1 f2;rw[c3]at t2 f3;have a0:=f2 0 Dr;have a1:=f2 1 Ds;have b0:=f3 0 Dr;have b1:=f3 1 Ds;have vx:ix=0\/ix=1:=by lia
   have vy:iy=0\/iy=1:=by lia
   rw[c2]at hj;rw[c3]at hr;have vr:r=0\/r=1:=Dt hr
   have vj:j=0\/j=1:=Dt hj
   rcases vx with rfl | rfl <;> rcases vy with rfl | rfl <;> rcases vr with rfl | rfl <;> rcases vj with rfl | rfl <;> lia
 ·rw[ZdS (by lia)];lia
theorem ZfO:∀ {l m:Vd Vl},(∀ x∈l,l.count x<=m.count x)->m.length<=l.length->l.Perm m
 | [],m,_,h=>by
  have:=Q7.mp (by simpa using h);rw[this]
 | x::l,m,h,hl=>by
  have hx:x∈m:=WW.mp (by
   have:=h x Qj;rw[List.count_cons_self]at this;lia)
  refine Tn ((ZfO (fun y hy=>?_) ?_).cons x) (UF hx).symm;have:=h y (Qk _ hy);rw[Uo]at this;rw[Ry];omega
  simp_all
theorem Zd6:∀ {z},z.length<w.length->cw w z=0
 | [],_=>rfl
 | x::z,h=>by
  rw[QC]at h;show(if _ then 1 else 0)+cw w z=0;rw[Zd6 (Sz h),if_neg fun e=>?_];have:=VR Rs e;rw[QE,QC]at this;lia
theorem Zjp (h1:1<=w.length):∀ {z},w.length<=z.length->cw w z<=(pcs z w.length).count (tx w)
 | [],h=>QQ _
 | x::z,h=>by
  show(if _ then 1 else 0)+cw w z<=_;by_cases c:w.length<=z.length
  rw[ZdI c,Uo];have:=Zjp h1 c;by_cases e:(x::z).take w.length=w
  rw[Vf e,e,Vf (by simp)];lia;rw[if_neg e];lia;rw[Zd6 (Fr c)];have e1:pcs (x::z) w.length=[tx ((x::z).take w.length)]:=by
   unfold pcs;rw[QC,show z.length+1-w.length+1=1 by omega];rfl
  rw[e1];by_cases e:(x::z).take w.length=w
  rw[Vf e,e,List.count_singleton_self];lia;rw[if_neg e];lia
theorem ZgW (g:HpE es ps ss) (hy:Hpy es L) (hT:Zn1 e0 es pt S j L zf) (hl:L<=zf.length) (x):ps.count x<=(pcs zf L).count x:=by
 by_cases c:x∈ps
 have he:(x,(ps.count x:Vs))∈es:=by
  exact g.eq▸QP.mpr ⟨x,(g.mem x).mpr c,rfl⟩
 have h1:=hT.has _ he;have h2:=hy.len _ he;have h3:x.cps.toList.length=L:=by assumption
 have:=Zjp (by exact h3▸hy.l1) (z:=zf) (Dk hl h3);rw[h3,ZS (Zr _)]at this;dsimp only at h1;lia
 grind
end
end Sh
namespace L2
open PySem PySem.Spec PyProof.Rows PySem.W
def vvO (p d:Vk):HO:=.ext fun h=>h.IsValuesView p d
theorem Zgg {X:Cx}:MtR X "dict.values" (fun x vs H Q=>∃ d kvs,x= .ref d/\vs=[]/\H d=some (.dK kvs)/\∀ p,H p=none->Q (.ref p) (upd H p (vvO p d))):=by
 intro pins s σ H x vs v us Q I rx rv h;obtain⟨d,kvs,rfl,rfl,hd,q⟩:=h;cases rx;cases rv;obtain⟨hz,lo,vs',kv,dd⟩:=Zah I.hok hd;refine O8 N6 dd.typeIs PySem.F.entry_dict_values (PySem.F.args_dict_values_1 _) (meets_dict_values (Zs X.prog X.w) d lo) ⟨⟨_,dd⟩,?_⟩;refine⟨.ref s.heap.objs.size,_,I.laid (t':=s.toks) (o:=vvO s.heap.objs.size d) (fun b u e=>Qc _ e) (Qg _) ?_,rfl,q _ (I.hok.fresh (Qg _))⟩;refine⟨⟨_,Qm _ rfl,rfl,rfl⟩,⟨_,Qm _ rfl⟩,fun h1 h2 ⟨o,e,r⟩ k=>⟨o,k o e,r⟩⟩
def ZjH (td:TE):TE:=fun σ H Q=>td σ H fun x H1=>∃ d kvs,x= .ref d/\H1 d=some (.dK kvs)/\∀ p,H1 p=none->Q (.ref p) (upd H1 p (vvO p d))
theorem ZfQ {X:Cx} {o:Expr} {apos cpos:MA} {td:TE} (ho:PE X o td) (hbase:OC o "values" X.env (VQ o X.env)=VQ o X.env:=by rfl) (hline:(apos.endLine==cpos.line)=true:=by rfl) :
  PE X (.Call (.Attribute o "values" apos) [] [] cpos) (ZjH td):=by
 intro pins s σ H Q I h;refine OQ hbase hline (thn (ho pins s σ H _ I h) fun v s1 ⟨x,H1,I1,r1,d,kvs,ex,hd,q1⟩=>?_);subst ex;obtain rfl:v=Value.ref d:=r1;obtain⟨t1,t2,_⟩:=ZbU I1 (.inl ⟨kvs,.inl hd⟩);exact⟨"dict",_,V3,N6,PySem.F.type_dict_values,t1,t2,VO rfl (Nq (Zgg pins s1 σ H1 (.ref d) [] (.ref d) [] Q I1 rfl .nil ⟨d,kvs,rfl,rfl,hd,q1⟩))⟩
theorem ZkJ:∀ {kvs:Vd (Key×V)} {vs':Vd (Key×Vi)},KV kvs vs'->Vals (kvs.map (·.2)) (vs'.map (·.2)):=by
 intro kvs vs' h;induction h with
 | nil=>exact .nil
 | cons p _ ih=>exact .cons p.2 ih
theorem ZeK {X:Cx} (hc:X.calm=true):CallR X (.type "list") (fun xs H Q=>∃ (p d:Vk) (kvs:Vd (Key×V)),xs=[.ref p]/\H p=some (vvO p d)/\H d=some (.dK kvs)/\∀ l,H l=none->Q (.ref l) (upd H l (.lst (kvs.map (·.2))))):=by
 intro pins s σ H xs us Q I r h;obtain⟨p,d,kvs,rfl,hp,hd,q⟩:=h;obtain⟨u,rfl,ru⟩:=XE r;cases ru;obtain⟨hz,lo,vs',kv,dd⟩:=Zah I.hok hd;obtain⟨ep,hat⟩:=dd.dictAt;have hv:s.heap.IsValuesView p d:=(show _/\_ from I.hok p _ hp).1;have hl:=kv.length;refine kdl_call kdl_values (I.ok.hd hc) ⟨hv,hat⟩ (by rw[←hl];exact hz) fun h' tk acc c hk hD hacc=>?_;have ea:acc.toList=vs'.map (·.2):=by
  apply QW;intro i;rw[Qi];cases e:acc.toList[i]? with
  | none =>
   have:vs'.length<=i:=by
    have:=Wy.mp e;rw[Qw,hacc.1]at this;exact this
   rw[Qp this];rfl
  | some v =>
   obtain⟨k,hk2⟩:=hacc.2 i v (by rw[←QT];exact e);rw[hk2];rfl
 refine⟨.ref s.heap.objs.size,_,I.laid (t':=tk) (o:=.lst (kvs.map (·.2))) hk (Qg _) ⟨by rw[Qd];exact hz,vs'.map (·.2),c,ZkJ kv,?_⟩,rfl,q _ (I.hok.fresh (Qg _))⟩;rw[hD,←ea]
theorem ZdJ (hu:X.A.units+64<OY):OpR X (Oy .Eq) (fun x y H Q=>∃ a b xs,x= .ref a/\y= .ref b/\H a=some (.lst xs)/\H b=some (.lst [])/\Q (.bl xs.isEmpty) H):=by
 intro pins s σ H x y v u Q I rx ry h;obtain⟨a,b,xs,rfl,rfl,ha,hb,q⟩:=h;cases rx;cases ry;obtain⟨_,its,n,r,g⟩:=(I.hok a _ ha)
 obtain⟨_,its2,n2,r2,g2⟩:=(I.hok b _ hb)
 cases r2;cases xs with
 | nil =>
  cases r;exact SeqAt.RcAt.lists (e:=fun _=>true) ⟨_,g,rfl,n,rfl⟩ ⟨_,g2,rfl,n2,rfl⟩ rfl (WP (UZ _ _) hu) (fun j h1 _=>Vo h1 (Wo _)) X.prog X.w X.xe _ ⟨V.bl _,H,I,rfl,q⟩
 | cons x xs =>
  refine SeqAt.RcAt.lists_lengths ⟨_,g,rfl,n,rfl⟩ ⟨_,g2,rfl,n2,rfl⟩ ?_ (WP (UZ _ _) hu) X.prog X.w X.xe _ ⟨V.bl _,H,I,rfl,q⟩;rw[bne_iff_ne];intro e;rw[Qz,←r.length]at e;cases e
open PySem PySem.Spec PyProof.Rows
def tFz (t:TE):TE:=fun σ H Q=>t σ H fun x H1=>∃ d kvs,x= .ref d/\H1 d=some (.dK kvs)/\∀ o,Q x (upd H1 d (.frz o (.dK kvs)))
theorem Znf (h:PE X e t):PE X e (tFz t):=by
 intro pins s σ H Q I q;refine thn (h pins s σ H _ I q) fun u s2 ⟨v,H2,I2,r,d,kvs,ev,hd,q2⟩=>?_;obtain⟨o,I3⟩:=I2.frozen hd;exact⟨v,_,I3,r,q2 o⟩
theorem ZgS {g:TG} {tb:TS} {D:Zhm} (Pv:Vg->St->Hp->Prop) (h0:Pv 0 σ H) (hl:∀ i σ H,i<=kvs.length->Pv i σ H->H d=some (.frz o (.dK kvs)))
  (hs:∀ i p σ H t,kvs[i]?=some p->H t=none->Pv i σ H->g (.ref t) σ (upd H t (.tup [kV p.1,p.2])) fun σ2 H2=>tb {D with nx:=Pv (i+1),ct:=Pv (i+1),bk:=D.nx} σ2 H2) (hd:∀ σ H,Pv kvs.length σ H->D.nx σ H) :
  ∃ W:Vg->Vg->St->Hp->Prop,(∃ m,W 0 m σ H)/\∀ i m σ H,W i m σ H ->
   ((Itd d o kvs).stop i H/\D.nx σ H)\/((Itd d o kvs).go i H/\∃ N,(∀ σ' H',N σ' H'->∃ m',m'<m/\W (i+1) m' σ' H')/\∀ x H',(Itd d o kvs).yld i H x H'->g x σ H' fun σ2 H2=>tb {D with nx:=N,ct:=N,bk:=D.nx} σ2 H2):=by
 refine⟨fun i m σ H=>m=kvs.length-i/\i<=kvs.length/\Pv i σ H,⟨kvs.length,by simp,QQ _,h0⟩,?_⟩;rintro i m σ H ⟨rfl,hi,p⟩;have q:=hl i σ H hi p;by_cases hlt:i<kvs.length
 refine .inr ⟨⟨q,hlt⟩,_,fun σ' H' p'=>⟨_,Kv hlt,rfl,hlt,p'⟩,fun x H' y=>?_⟩;obtain⟨t,y,ht,rfl,rfl,_⟩:=y
 simp_all
 have e:i=kvs.length:=Kw hi hlt
 subst e;exact .inl ⟨⟨q,Qg _⟩,hd σ H p⟩
theorem ZgK {ks'} {g g'} {vs'} (r':KV (Sh.gD ks' g') vs'):∀ {ks} {vs},KV (Sh.gD ks g) vs->(∀ x∈ks,x∈ks'/\g x=g' x)->PySem.W.KeqHits A s vs' vs true
 | [],vs,r,_=>by
  cases r;exact .nil
 | x::ks,vs,r,h=>by
  cases r with
  | cons p q =>
   rename_i y vs;obtain⟨p1,p2⟩:=p;obtain⟨y1,y2⟩:=y;obtain⟨hx,_⟩:=h x Qj;cases p1;obtain⟨t,rfl⟩:∃ t,y2=Nl _ t:=p2;have q2:=r'.val (Vn x);rw[Sh.gD_val,Vf hx]at q2;cases l:GJ vs' _ with
   | none=>rw[l]at q2;exact q2.elim
   | some v' =>
    rw[l]at q2;obtain⟨u,rfl⟩:∃ u,v'=Nl _ u:=q2;have:=PySem.W.KeqHits.hit (A:=A) (s:=s) l (M9 (g x) t _ u) (ZgK r' q fun z hz=>h z (Qk _ hz))
    simp_all
theorem Zkg (hu:X.A.units+1<OY):OpR X (Oy .NotEq) (fun x y H Q=>∃ a b ks ks' g g',x= .ref a/\y= .ref b/\H a=some (.dK (Sh.gD ks g))/\H b=some (.dK (Sh.gD ks' g'))/\ks.length=ks'.length/\(∀ x∈ks,x∈ks'/\g x=g' x)/\Q (.bl false) H):=by
 intro pins s σ H x y v u Q I rx ry h;obtain⟨a,b,ks,ks',g,g',rfl,rfl,ha,hb,hl,hh,q⟩:=h;cases rx;cases ry;have⟨_,lo,vs,kv,dd⟩:=Zah I.hok ha;have⟨_,lo',vs',kv',dd'⟩:=Zah I.hok hb;refine PySem.W.keq_ne lo lo' dd dd' (Nat.lt_of_succ_lt hu) (fun _=>ZgK kv' kv hh) ⟨_,H,I,?_,q⟩;have:vs.length=vs'.length:=by rw[←kv.length,←kv'.length,Sh.gD_len,Sh.gD_len,hl]
 rw[this];simp;rfl
end L2
namespace Sh
open PySem L2 PyProof.Rows
seal L2.PE L2.PS L2.PSs L2.PT L2.PW L2.PA L2.PI L2.PG L2.PGs L2.PO L2.PC L2.PCs L2.OpR L2.UnR L2.CallR L2.MtR L2.IxR L2.SlR
theorem Zhi (F) (x):Yi F x=F\/F.length<(Yi F x).length:=by
 unfold Yi;split
 simp;simp
section
variable {P:Oh} {w:Oi} {K:Ve} {mg:Vl->Vj Vi} {base:Vz}
abbrev Y1:V7:=top 31
noncomputable abbrev JI:Vd Vl:=["_law_cells","_law_letters_here","_law_seed","_law_cell","_law_few","_law_step","_law_signs"]
theorem scLLetters:Zo JI ["_law_cells"] (Zh Y1):=⟨rfl,rfl,rfl,by decide +kernel,rfl,by decide +kernel,by decide +kernel⟩
noncomputable def Zoy:V->Vg
 | .str x=>x.cps.toList.headD 0
 | _=>0
def Zlq (K:Ve):Sp:=fun vs H Q _=>∃ (a:Vk) (ns:Vd Vs),vs=[.ref a]/\SqL K H a (ns.map V.int)/\ns.length<=63/\∀ (p:Vk) (z ys:Vd Vg) (sd:Vs) (H':Hp),Same H H'->z.length=ns.length->Cd z->ys.length<=4->(∀ c∈z,c∈ys)->0<=sd->sd<999999937->H' p=some (.lst [.str (tx z),.int sd])->Q (.ref p) H'
theorem ZbH (D:HasDef K mg "_law_letters" Y1 ["_law_cells"]) (B:Blt mg):FOk P w K mg base 1 "_law_letters" ["_law_cells"] (Zlq K):=by
 refine D.ok scLLetters (fun vs H Q E h=>?_) (fun f cdv A outer s H vs Q E hr h=>?_)
 ·obtain⟨a,ns,rfl,_⟩:=h;rfl
 ·obtain⟨a,ns,rfl,ha,hl,k⟩:=h;refine⟨_,(Zd (Zm (i:=1) scLLetters.nd rfl (.inr rfl) Zar)
   (Zd (Zm (i:=2) scLLetters.nd rfl (.inr rfl) (Zp Z5 Zj (Zk Zn rfl B.len ZQ (Za (pv 0) Ze))))
   (Zd (Z8 Vr rfl (YF (pv 0)) (Zx (i:=3) scLLetters.nd rfl (.inl rfl))
    (Zi (Zm (i:=2) scLLetters.nd rfl (.inr rfl) (Zp Yz (Zp Z5 (Zp JF (pv 2) Zj) (pv 3)) Zj))))
   (Zd (Zm (i:=4) scLLetters.nd rfl (.inr rfl) (Zp Z5 Zj (Zp Yz (pv 2) Zj)))
   (Zd (Zm (i:=5) scLLetters.nd rfl (.inr rfl) (Zp Z5 Zj (Zp Yz (Zp Ja (pv 2) Zj) Zj)))
   (Zd (Zm (i:=6) scLLetters.nd rfl (.inr rfl) (ZV (Zh Y1) JI ["_law_k"] [1,2,5] rfl (Yq rfl B.range (Za (pv 4) Ze)) (fun _ _ _ _ _=>YM 0) (fun _ _ _ _ _=>Y4) (fun _ _ _ _ _=>(ZB Zd1 (pv 1) (Zp Yz (Zp Z5 (Zp Ja (pv 2) Zj) (Zp JF (pv 0) (pv 3))) Zj) (fun _ _=>rfl)))))
   (Zi (Zq (ZD (Za (XN F.plainAttrs_str F.slot_str_join F.type_str_join Zgi Zar (Za (ZV (Zh Y1) JI ["_law_cell"] [4,6] rfl (YF (pv 0)) (fun _ _ _ _ _=>YM 0) (fun _ _ _ _ _=>Y4) (fun _ _ _ _ _=>(ZB (Za7 K) (pv 2) (Zp Yz (Zp Yz (Zp JF (pv 0) Zj) Zj) (pv 1)) (fun _ _=>rfl)))) Ze)) (Za (pv 2) Ze))))))))))),?_⟩
  refine⟨_,rfl,.ref a,ns.length,rfl,(.inl ⟨_,ha,by simp⟩),_,_,rfl,rfl,?_⟩;refine⟨_,rfl,a,rfl,⟨_,ha⟩,Zba (K:=K) (a:=a) (xs:=ns.map V.int) (fun i σ H2=>(∃ (z:Vj V) (sd:Vs),σ=[some (.ref a),some (.str "abcdefghijklmnopqrstuvwxyz"),some (.int sd),z,none,none,none]/\0<=sd/\sd<999999937)/\H2=H)
   ⟨⟨none,_,rfl,by lia,by lia⟩,rfl⟩ (fun i σ H2 _ ⟨_,e⟩=>by simp_all) ?_ ?_⟩
  ·rintro i x σ H2 hi ⟨⟨z,sd,rfl,b1,b2⟩,rfl⟩;obtain⟨hi',rfl⟩:=Zbo hi;have bd:=YS (sd*613+ns[i]) (show(0:Vs)<999999937 by decide);refine⟨_,rfl,_,_,rfl,rfl,.inr ⟨by decide,by decide⟩,_,rfl,_,_,rfl,rfl,_,_,rfl,rfl,(by lia),?_⟩;exact⟨⟨some (.int ns[i]),_,rfl,bd.1,bd.2⟩,rfl⟩
  rintro σ H2 ⟨⟨z,sd,rfl,b1,b2⟩,rfl⟩;have m3:=YS sd (show(0:Vs)<3 by decide);have m8:=YS (sd / 3) (show(0:Vs)<8 by decide);refine⟨_,rfl,_,_,rfl,rfl,(by lia),_,_,rfl,rfl,?_⟩;refine⟨_,rfl,_,_,rfl,rfl,⟨by decide,by decide⟩,_,_,rfl,rfl,(by lia),_,_,rfl,rfl,?_⟩;refine⟨_,rfl,_,rfl,by omega,by omega,?_⟩;have ef:(2+sd % 3)=(((2+sd % 3).toNat:Vg):Vs):=by omega
  generalize hfew:(2+sd % 3).toNat=few at ef;have hf:few<=4/\2<=few:=by omega
  dsimp only;refine JJ few (fun i=>.int (0+i)) (fun i v _=>∃ c:Vg,v= .str (tx [c])/\97<=c/\c<=122) (Zl (by omega)) (fun _ _ _ _ _ r=>r) ?_ ?_ ?_
  ·exact Zd0
  ·intro i H3 Qe hi hs kq;have mb:=YS (sd / 24+(0+(i:Vs))*(1+sd / 3 % 8)) (show(0:Vs)<26 by decide);refine⟨_,rfl,_,rfl,_,_,rfl,rfl,⟨by decide,by decide⟩,_,rfl,_,rfl,_,_,rfl,rfl,.inl ⟨by lia,by omega⟩,_,_,rfl,rfl,_,_,rfl,rfl,(by lia),_,_,_,rfl,rfl,ZO (by decide),ZbO mb.1 mb.2,kq _ _ (Same.refl _) ⟨_,rfl,Sc,by omega⟩⟩
  intro D1 vs1 H3 hlv1 hr1 hs3 hD1 hDl1;rw[ef];refine⟨rfl,_,rfl,a,rfl,⟨_,hs3.seq ha⟩,JJ _ (fun i=>(ns.map V.int).getD i .non) (fun i v _=>∃ c:Vg,v= .str (tx [c])/\(97<=c/\c<=122)/\V.str (tx [c])∈vs1) (by rw[Qd];exact Zl (Sd hl)) (fun _ _ _ _ _ r=>r) (XB (hs3.seq ha)) ?_ ?_⟩
  ·intro i H4 Qe hi hs kq;have hi':i<ns.length:=by simp_all
   rw[JT hi'];have mb:=YS (ns[i]*48271 % 2147483647) (show(0:Vs)<(few:Vs)by exact Se m3 ef);have hv:(ns[i]*48271 % 2147483647 % (few:Vs)).toNat<vs1.length:=by omega
   obtain⟨c,hc,hcb⟩:=hr1 _ _ (Qa hv);refine⟨_,rfl,_,rfl,_,_,rfl,rfl,.inr ⟨by decide,by decide⟩,_,_,rfl,rfl,(by show(0:Vs)<2147483647;decide),_,rfl,_,_,rfl,rfl,(by show(0:Vs)<(few:Vs);exact Se m3 ef),D1,vs1,_,.str (tx [c]),rfl,rfl,SqL.of (hs _ _ hDl1),?_,kq _ _ (Same.refl _) ⟨c,rfl,hcb,by rw[←hc];exact QG hv⟩⟩;refine JQ mb.1 ?_
   simp_all
  intro D2 vs2 H4 hlv2 hr2 hs4 hD2 hDl2;rw[Qd]at hlv2;have key:∃ zs:Vd Vg,vs2=(zs.map fun c=>tx [c]).map V.str/\zs.length=vs2.length/\∀ c∈zs,(97<=c/\c<=122)/\V.str (tx [c])∈vs1:=by
   clear hlv2 hDl2;induction vs2 with
   | nil=>exact⟨[],rfl,rfl,fun c hc=>nomatch hc⟩
   | cons v vs ih =>
    obtain⟨c,hc,hcb⟩:=hr2 0 v rfl;obtain⟨zs,e1,e2,e3⟩:=ih fun i v' e=>hr2 (i+1) v' e;exact⟨c::zs,by rw[hc,e1];rfl,by rw[QC,e2];rfl,fun x hx=>by
     rcases Qs.mp hx with rfl | hx
     ·exact hcb
     ·exact e3 x hx⟩
  obtain⟨zs,e1,e2,e3⟩:=key;refine⟨"",D2,zs.map fun c=>tx [c],rfl,rfl,SqL.of (by rw[hDl2,e1]),?_,?_⟩
  ·have:=Zak (zs.map fun c=>tx [c]) 1 fun y hy=>by
    obtain⟨c,_,rfl⟩:=QP.mp hy;rw[Zy];exact Qg _
   rw[Qd]at this;have e0:("" : Vl).length=0:=rfl;rw[e0];lia
  rw[ZgE];refine⟨_,rfl,Zl (show 2<=1000 by decide),fun p hp=>?_⟩;refine k p zs (vs1.map Zoy) sd _ ((hs3.trans hs4).trans (Zb hp)) (Sf hlv2 e2) (fun c hc=>(e3 c hc).1) (by rw[Qd];omega) (fun c hc=>?_) b1 b2 Zc;refine QP.mpr ⟨_,(e3 c hc).2,?_⟩;show(tx [c]).cps.toList.headD 0=c;rw[Zr];rfl
abbrev ZaO:V7:=top 33
noncomputable abbrev Zgd:Vd Vl:=["_law_heap","_law_known","_law_many","_law_piece","_law_times"]
theorem scLhangs:Zo Zgd ["_law_heap"] (Zh ZaO):=⟨rfl,rfl,rfl,by decide +kernel,rfl,by decide +kernel,by decide +kernel⟩
def Zdu:Sp:=fun vs H Q _=>∃ (v:V) (e:Vl×Vs) (es:Es),vs=[v]/\HeapV H v (e::es)/\ZiH (e::es)/\∀ H' (b:V0),Same H H'->(b=true↔Zcj e (e::es))->Q (.bl b) H'
theorem Zeq (D:HasDef K mg "_law_hangs" ZaO ["_law_heap"]) (B:Blt mg):FOk P w K mg base 1 "_law_hangs" ["_law_heap"] Zdu:=by
 refine D.ok scLhangs (fun vs H Q E h=>?_) (fun f cdv A outer s H vs Q E hr h=>?_)
 ·obtain⟨v,e,es,rfl,_⟩:=h;rfl
 ·obtain⟨v,e,es0,rfl,hV,hF,k⟩:=h;have hu:=ZbV hr;obtain⟨q,vs,rfl,hq,hpa⟩:=id hV;refine⟨_,(Zd (Zm (i:=1) scLhangs.nd rfl (.inr rfl) (ZfS (ZdG (Zz Z6 (ZB ix_tup (ZB ix_tup (pv 0) Zj (fun _ _=>rfl)) Zj (fun _ _=>rfl)) ZT (ZM (Jh YX Zj))) YN ZfJ) rfl rfl (Rw _ _) (by decide)))
   (Zd (Zm (i:=2) scLhangs.nd rfl (.inl rfl) Zj)
   (Zd (Xe Vr (Zw ZfY (pv 2) (Zk Zb9 rfl B.len ZQ (Za (pv 1) Ze)) (ZA _))
    (Zd (Zm (i:=2) scLhangs.nd rfl (.inl rfl) (Zk Zb9 rfl B.len ZQ (Za (pv 1) Ze)))
   (Zi (Z8 Vr rfl (Y3 (pv 0)) (Yj 2 K rfl (Zt (Zx (i:=3) scLhangs.nd rfl (.inl rfl)) (Zt (Zx (i:=4) scLhangs.nd rfl (.inl rfl)) Z9)))
    (Zi (Yg (PW.pt (Zae (ZdF (Zi5 hu (Zz Z6 (pv 3) ZT (ZM (Jh YX Zj))) (pv 1))) (JA (ZdF (Zi5 hu (Zz Z6 (pv 3) (ZM Zj) ZT) (pv 1)))))) (Zd (Y2 hu (pv 1) (Zz Z6 (pv 3) ZT (ZM (Jh YX Zj))) YN rfl)
   (Zi (Y2 hu (pv 1) (Zz Z6 (pv 3) (ZM Zj) ZT) YN rfl))) ZF))))))
   (Zi (Zq (JE (ZdJ hr.units) (ZV (Zh ZaO) Zgd ["_law_piece","_law_times"] [1] rfl (Y3 (pv 0)) (fun _ _ _ _ _=>Yj 2 K rfl (Zt (YM 0) (Zt (YM 1) Z9))) (fun _ _ _ _ _=>Xy (ZdF (ZbC hu (Zz Z6 (pv 0) ZT (ZM (Jh YX Zj))) (pv 2)))) (fun _ _ _ _ _=>(pv 0))) (ZD Ze) (ZA _))))))),?_⟩
  obtain⟨b0,eb0,hb0⟩:=hpa.2 0 e rfl;obtain⟨l1,l2⟩:=hF.long e (Qj ..);have hf2:=hF.few;have hhead:e∈e::es0:=Qj ..;generalize hes:e::es0=es at *;intro d hd;have sd:=Zb (o:=.dK []) hd;refine⟨_,rfl,q,vs,0,.ref b0,rfl,rfl,SqT.of (sd _ _ hq),JQ (by decide) eb0,b0,_,0,.str e.1,rfl,rfl,SqT.of (sd _ _ hb0),rfl,_,rfl,_,rfl,_,rfl,ZW l2,?_⟩;refine⟨Zc,[((Vn (bg e.1):Key),V.bl true)],by rw[←Jm l1];rfl,by simp,?_⟩;rw[Js];have s2:Same H (upd H d (.dK (Y6 [] [((Vn (bg e.1):Key),V.bl true)]))):=Zb hd;have hd2:(upd H d (.dK (Y6 [] [((Vn (bg e.1):Key),V.bl true)]))) d=some (.dK (bD [bg e.1])):=Zc;generalize upd H d (.dK (Y6 [] [((Vn (bg e.1):Key),V.bl true)]))=H2 at s2 hd2;have sh:∀ {H4:Hp} (o:HO),Same H H4->Same H (upd H4 d o):=fun o s b u hb=>by
   rw[Zf (Zg hb hd)];exact s b u hb
  have hkl:(es.map (fun x=>bg x.1)++es.map fun x=>en x.1).length<=602:=by
   rw[Qh,Qd,Qd];lia
  have hb:∀ x∈es,bg x.1∈es.map (fun x=>bg x.1)++es.map fun x=>en x.1:=fun x hx=>QI _ (Rk hx);have hn:∀ x∈es,en x.1∈es.map (fun x=>bg x.1)++es.map fun x=>en x.1:=fun x hx=>QF _ (Rk hx);generalize hks:(es.map (fun x=>bg x.1)++es.map fun x=>en x.1)=ks at hkl hb hn
  try dsimp only[Ji]
  show ZeR (Zbm _ _) _ _ _ _;refine YE (fun σ H4=>∃ (F:Vd Vl) (z2 z3 z4:Vj V),σ=[some (.ref q),some (.ref d),z2,z3,z4]/\Same H H4/\H4 d=some (.dK (bD F))/\Wk es (bg e.1) ks F []/\∀ x∈es,(bg x.1∈F\/en x.1∈F)->bg x.1∈F/\en x.1∈F) (fun R hR=>?_) ?_
  ·refine⟨fun m σ H4=>∃ (F:Vd Vl) (n:Vg) (z3 z4:Vj V),σ=[some (.ref q),some (.ref d),some (.int (n:Vs)),z3,z4]/\Same H H4/\H4 d=some (.dK (bD F))/\Wk es (bg e.1) ks F []/\(n<F.length\/∀ x∈es,(bg x.1∈F\/en x.1∈F)->bg x.1∈F/\en x.1∈F)/\m=1000-n,
    ⟨_,[bg e.1],0,none,none,rfl,s2,hd2,⟨by simp,by simp,(fun x hx=>by rw[Qo.mp hx];exact .here),(fun x hx=>by cases hx),fun x hx=>by rw[Qo.mp hx];exact hb e hhead⟩,.inl (by simp),rfl⟩,?_⟩
   rintro m σ H4 ⟨F,n,z3,z4,rfl,s4,hd4,hW,hor,hm⟩;have hle:=hW.le;refine⟨_,rfl,_,rfl,d,_,rfl,hd4,_,_,rfl,rfl,_,rfl,?_⟩;rw[Zab];by_cases c:¬ n<F.length
   ·refine Yu (Vp (Dm c)) (hR _ _ ⟨F,_,z3,z4,rfl,s4,hd4,hW,hor.resolve_left c⟩)
   have c:=Classical.not_not.mp c;refine Xm (Vq (by lia)) ?_;refine⟨fun σ' H'=>∃ m',m'<m/\∃ (F:Vd Vl) (n:Vg) (z3 z4:Vj V),σ'=[some (.ref q),some (.ref d),some (.int (n:Vs)),z3,z4]/\Same H H'/\H' d=some (.dK (bD F))/\Wk es (bg e.1) ks F []/\(n<F.length\/∀ x∈es,(bg x.1∈F\/en x.1∈F)->bg x.1∈F/\en x.1∈F)/\m'=1000-n,fun _ _ z=>z,?_⟩;refine⟨_,rfl,d,_,rfl,hd4,?_⟩;rw[Zab];refine⟨_,rfl,q,rfl,⟨_,SqT.of (s4 _ _ hq)⟩,?_⟩;refine XC (K:=K) (a:=q) (xs:=vs) (fun j σ' H'=>∃ (F':Vd Vl) (z3 z4:Vj V),σ'=[some (.ref q),some (.ref d),some (.int (F.length:Vs)),z3,z4]/\Same H H'/\H' d=some (.dK (bD F'))/\Wk es (bg e.1) ks F' []/\(F'=F\/F.length<F'.length)/\(∀ x∈F,x∈F')/\∀ x∈es.take j,(bg x.1∈F\/en x.1∈F)->bg x.1∈F'/\en x.1∈F')
    ⟨F,z3,z4,rfl,s4,hd4,hW,.inl rfl,fun x hx=>hx,fun x hx=>by simp_all⟩
    (fun i σ' H' _ ⟨_,_,_,_,s6,_⟩=>SqT.of (s6 _ _ hq)) ?_ ?_
   ·rintro i x σ' H6 hi ⟨F6,z3',z4',rfl,s6,hd6,hW6,hor6,hsub6,hcl6⟩;have hiv:i<vs.length:=(Ql.mp hi).1;have hie:i<es.length:=by rw[←hpa.1];exact hiv
    obtain⟨b,e1,e2⟩:=hpa.2 i es[i] (Qa hie);rw[hi]at e1;cases e1;obtain⟨m1,m2⟩:=hF.long es[i] (QG hie);have het:es.take (i+1)=es.take i++[es[i]]:=QN hie;have hmem:es[i]∈es:=QG hie;refine⟨b,_,rfl,SqT.of (s6 _ _ e2),rfl,_,_,rfl,_,_,rfl,rfl,?_⟩;generalize es[i]=y at *;have hle6:=hW6.le;have eb:=Jm m1;have ee:=Zdx m1;have stay:(bg y.1∈F6\/en y.1∈F6)->bg y.1∈Yi (Yi F6 (bg y.1)) (en y.1)/\Wk es (bg e.1) ks (Yi (Yi F6 (bg y.1)) (en y.1)) []:=fun hh=>by
     have r1:Rch es (bg e.1) (bg y.1)/\Rch es (bg e.1) (en y.1):=by
      rcases hh with z | z
      ·exact⟨hW6.rch _ z,.step (hW6.rch _ z) ⟨y,hmem,.inl ⟨rfl,rfl⟩⟩⟩
      ·exact⟨.step (hW6.rch _ z) ⟨y,hmem,.inr ⟨rfl,rfl⟩⟩,hW6.rch _ z⟩
     refine⟨by simp[addK_mem],Zad (Zad hW6.nd),by simp[addK_mem,hW6.fst],fun x hx=>?_,(fun x hx=>by cases hx),fun x hx=>?_⟩
     ·rcases addK_mem.mp hx with z | z
      ·rcases addK_mem.mp z with z | z
       ·exact hW6.rch _ z
       ·rw[z];exact r1.1
      ·rw[z];exact r1.2
     ·rcases addK_mem.mp hx with z | z
      ·rcases addK_mem.mp z with z | z
       ·exact hW6.inn _ z
       ·rw[z];exact hb y hmem
      ·rw[z];exact hn y hmem
    have fin:(bg y.1∈F6\/en y.1∈F6)->∃ (F':Vd Vl) (z3 z4:Vj V),[some (.ref q),some (.ref d),some (.int (F.length:Vs)),some (V.str y.1),some (.int y.2)]=[some (.ref q),some (.ref d),some (.int (F.length:Vs)),z3,z4]/\Same H (upd H6 d (.dK (bD (Yi (Yi F6 (bg y.1)) (en y.1)))))/\(upd H6 d (.dK (bD (Yi (Yi F6 (bg y.1)) (en y.1))))) d=some (.dK (bD F'))/\Wk es (bg e.1) ks F' []/\(F'=F\/F.length<F'.length)/\(∀ x∈F,x∈F')/\∀ x∈es.take (i+1),(bg x.1∈F\/en x.1∈F)->bg x.1∈F'/\en x.1∈F':=fun hh=>by
     refine⟨_,_,_,rfl,sh _ s6,Zc,(stay hh).2,?_,fun x hx=>by simp[addK_mem,hsub6 x hx],fun x hx hx2=>?_⟩
     ·have h1:=Zhi F6 (bg y.1);have h2:=Zhi (Yi F6 (bg y.1)) (en y.1);rcases h1 with h1 | h1 <;> rcases h2 with h2 | h2
      ·rw[h2,h1];exact hor6
      ·right
       rw[h1]at h2 ⊢;rcases hor6 with z | z
       ·rw[z]at h2 ⊢;exact h2
       ·exact Sw h2 z
      ·right
       rw[h2];rcases hor6 with z | z
       ·rw[z]at h1 ⊢;exact h1
       ·exact Sw h1 z
      ·right
       rcases hor6 with z | z
       ·rw[←z];exact Sw h2 h1
       ·lia
     ·rw[het]at hx;rcases QD.mp hx with z | z
      ·have:=hcl6 x z hx2;simp[addK_mem,this.1,this.2]
      ·rw[Qo.mp z];simp[addK_mem]
    refine⟨_,rfl,_,rfl,_,rfl,_,rfl,ZW m2,?_⟩;refine⟨_,rfl,d,XF (bD F6) (Vn (bg y.1)),rfl,.inl ⟨_,Vn (bg y.1),.inl hd6,by rw[←eb];rfl,rfl⟩,?_⟩;rw[Zce];by_cases c1:bg y.1∈F6
    ·rw[Vf c1];refine⟨_,rfl,Xm rfl (Xm rfl ?_)⟩;refine⟨_,rfl,_,rfl,_,rfl,_,rfl,_,rfl,ZW m2,d,_,rfl,.inl ⟨_,Vn (bg y.1),hd6,by rw[←eb];rfl,by rw[Zab];exact Zv (F7 hkl hle6),rfl⟩,?_⟩;rw[Zcf];have hd7:(upd H6 d (.dK (bD (Yi F6 (bg y.1))))) d=some (.dK (bD (Yi F6 (bg y.1)))):=Zc;have hal:=YD F6 (bg y.1);refine⟨_,rfl,_,rfl,_,rfl,_,rfl,ZW m2,d,_,rfl,.inl ⟨_,Vn (en y.1),hd7,by rw[←ee];rfl,by rw[Zab];exact Zv (F8 hkl hle6 hal),rfl⟩,?_⟩;rw[Zcf,Js];exact fin (.inl c1)
    rw[if_neg c1];refine⟨_,rfl,Yu rfl ⟨_,rfl,_,rfl,_,rfl,ZW m2,_,rfl,d,XF (bD F6) (Vn (en y.1)),rfl,.inl ⟨_,Vn (en y.1),.inl hd6,by rw[←ee];rfl,rfl⟩,?_⟩⟩;rw[Zce];by_cases c2:en y.1∈F6
    ·rw[Vf c2];refine⟨_,rfl,Xm rfl ?_⟩;refine⟨_,rfl,_,rfl,_,rfl,_,rfl,_,rfl,ZW m2,d,_,rfl,.inl ⟨_,Vn (bg y.1),hd6,by rw[←eb];rfl,by rw[Zab];exact Zv (F7 hkl hle6),rfl⟩,?_⟩;rw[Zcf];have hd7:(upd H6 d (.dK (bD (Yi F6 (bg y.1))))) d=some (.dK (bD (Yi F6 (bg y.1)))):=Zc;have hal:=YD F6 (bg y.1);refine⟨_,rfl,_,rfl,_,rfl,_,rfl,ZW m2,d,_,rfl,.inl ⟨_,Vn (en y.1),hd7,by rw[←ee];rfl,by rw[Zab];exact Zv (F8 hkl hle6 hal),rfl⟩,?_⟩;rw[Zcf,Js];exact fin (.inr c2)
    rw[if_neg c2];refine⟨_,rfl,Yu rfl ⟨F6,_,_,rfl,s6,hd6,hW6,hor6,hsub6,fun x hx hx2=>?_⟩⟩;rw[het]at hx;rcases QD.mp hx with z | z
    ·exact hcl6 x z hx2
    ·rw[Qo.mp z]at hx2 ⊢;rcases hx2 with w | w
     ·exact Vo (hsub6 _ w) c1
     ·exact Vo (hsub6 _ w) c2
   ·rintro σ' H6 ⟨F6,z3',z4',rfl,s6,hd6,hW6,hor6,hsub6,hcl6⟩;rw[hpa.1,Q5]at hcl6;refine⟨_,?_,F6,F.length,_,_,rfl,s6,hd6,hW6,?_,rfl⟩
    ·omega
    ·rcases hor6 with z | z
     ·subst z;exact .inr hcl6
     ·exact .inl z
  ·rintro σ H4 ⟨F,z2,z3,z4,rfl,s4,hd4,hW,hcl⟩;have hle:=hW.le;have hall:∀ x,x∈F↔Rch es (bg e.1) x:=fun x=>⟨hW.rch x,fun z=>Rch.closed (F:=fun x=>x∈F) hW.fst (fun P' hP y hy=>by
    obtain⟨x',hx',⟨q1,q2⟩ | ⟨q1,q2⟩⟩:=hy
    ·rw[←q2];exact(hcl x' hx' (.inl (q1▸hP))).2
    ·rw[←q2];exact(hcl x' hx' (.inr (q1▸hP))).1) z⟩
   refine⟨_,rfl,q,rfl,⟨_,SqT.of (s4 _ _ hq)⟩,JK vs.length (fun i=>vs.getD i .non) (fun i=>decide (bg (es.getD i ("",0)).1∉F)) (fun _ _ _=>RK) (Zl (by rw[hpa.1];lia)) (fun _ _ _ _ _ _=>trivial) (ZdZ (SqT.of (s4 _ _ hq))) ?_ ?_⟩
   ·intro i H5 Qt Qf hi hs ht hf;have hie:i<es.length:=by rw[←hpa.1];exact hi
    obtain⟨b,e1,e2⟩:=hpa.2 i es[i] (Qa hie);have eg:es.getD i ("",0)=es[i]:=by rw[Qb,Qa hie];rfl
    have eu:vs.getD i .non= .ref b:=by rw[Qb,e1];rfl
    obtain⟨m1,m2⟩:=hF.long es[i] (QG hie);rw[eg]at ht hf;rw[eu];have eb:=Jm m1;refine⟨b,_,rfl,SqT.of (hs _ _ (s4 _ _ e2)),rfl,_,_,rfl,_,_,rfl,rfl,?_⟩;generalize es[i]=y at *;refine⟨_,rfl,_,rfl,_,rfl,_,rfl,ZW m2,?_⟩;rw[eb];refine⟨_,rfl,d,_,rfl,DGet.kk (k:=Vn (bg y.1)) (hs _ _ hd4),?_⟩;rw[Zce];by_cases c:bg y.1∈F
    ·rw[Vf c];exact⟨_,rfl,Zns (hf (Vp fun n=>n c) _ (Same.refl _))⟩
    ·rw[if_neg c];exact⟨_,rfl,ZmO ⟨_,rfl,ht (Vq c) _ _ (Same.refl _) trivial⟩⟩
   ·intro D1 us H5 hl _ hs hD1 hDl;refine⟨QQ _,fun p0 hp0=>?_⟩;have s0:=Zb (o:=.lst []) hp0;refine⟨D1,p0,_,rfl,rfl,s0 _ _ hDl,Zc,?_⟩;refine k _ _ ((s4.trans hs).trans s0) ?_;have e0:us.isEmpty=true↔((Qu vs.length).filter fun i=>decide (bg (es.getD i ("",0)).1∉F))=[]:=by
     rw[List.isEmpty_iff,←Q7,hl,Q7]
    rw[e0,WZ];constructor
    ·intro hx t ht;obtain⟨i,hi,e⟩:=WE ht;have:=hx i (Qr.mpr (by rw[hpa.1];exact hi));rw[Qb,Qa hi,WN,e]at this;exact(hall _).mp (VP fun n=>this (Vq n))
    ·intro hx i hi;have hi':i<es.length:=by rw[←hpa.1];exact Qr.mp hi
     rw[Qb,Qa hi',WN];have:=(hall _).mpr (hx es[i] (QG hi'));intro n;exact V4 n this
abbrev ZaN:V7:=top 34
noncomputable abbrev Zgc:Vd Vl:=["_law_text","_law_due","_law_long","_law_stands"]
theorem scLholds:Zo Zgc ["_law_text","_law_due","_law_long"] (Zh ZaN):=⟨rfl,rfl,rfl,by decide +kernel,rfl,by decide +kernel,by decide +kernel⟩
def ZaH:Sp:=fun vs H Q _=>∃ (z:Vd Vg) (d:Vk) (ks:Vd Vl) (g:Vl->Vs) (L:Vg),vs=[.str (tx z),.ref d,.int L]/\H d=some (.dK (gD ks g))/\1<=L/\L<=z.length/\z.length<=700/\ks.length<=1000/\(∀ x∈ks,g x<=((pcs z L).count x:Vg))/\∀ H',Same H H'->Q (.bl true) H'
theorem Zep (D:HasDef K mg "_law_holds" ZaN ["_law_text","_law_due","_law_long"]) (B:Blt mg) (g5_:FOk P w K mg base 1 "_law_torn" ["_law_text","_law_long"] Zdp):FOk P w K mg base 2 "_law_holds" ["_law_text","_law_due","_law_long"] ZaH:=by
 refine D.ok scLholds (fun vs H Q E h=>?_) (fun f cdv A outer s H vs Q E hr h=>?_)
 ·obtain⟨z,d,ks,g,L,rfl,_⟩:=h;rfl
 ·obtain⟨z,d,ks,g,L,rfl,hd,h1,hL,hz,hkl,hg,k⟩:=h;have hu:=ZbV hr;refine⟨_,(Zd (Yg (Yx (Yf (Zk Ys rfl B.isi Zda (Za (pv 0) (Za (ZcG rfl B.str ZmA) Ze))))) (Zi (Zq YN)) ZF)
   (Zd (Zm (i:=3) scLholds.nd rfl (.inr rfl) (ZC g5_ hr (Za (pv 0) (Za (pv 2) Ze))))
   (Zi (Zq (JE (ZdJ hr.units) (ZlF (ZV (Zh ZaN) Zgc ["_law_piece"] [1,3] rfl (Zj6 (pv 1)) (fun _ _ _ _ _=>YM 0) (fun _ _ _ _ _=>Xy (Zw ZfY (Xf hu (pv 2) (pv 0) Zj ⟨rfl,rfl,rfl,rfl⟩) (X9 hu (pv 1) (pv 0) (fun _ _=>rfl)) (ZA _))) (fun _ _ _ _ _=>(pv 0)))) (ZD Ze) (ZA _)))))),?_⟩
  refine⟨_,rfl,.str (tx z),"str","str",rfl,by decide,.str _,_,rfl,Yu (by decide) ?_⟩;refine⟨_,rfl,_,rfl,z,L,rfl,h1,hL,hz,fun d2 H2 ks2 hn2 s2 hd2 hc=>?_⟩;have hdd:H2 d=some (.dK (gD ks g)):=s2 _ _ hd;have hne:d2≠d:=fun e=>by simp_all
  refine⟨d,_,hdd,fun o=>?_⟩;have hfz:(upd H2 d (.frz o (.dK (gD ks g)))) d=some (.frz o (.dK (gD ks g))):=Zc;have hd2':(upd H2 d (.frz o (.dK (gD ks g)))) d2=some (.dK (gD ks2 (cnt (pcs z L)))):=by rw[Zf hne];omega
  refine⟨_,rfl,d,o,_,rfl,hfz,JK (gD ks g).length (fun i=>((gD ks g).map fun p=>kV p.1).getD i .non) (fun i=>false) (fun _ _ _=>RK) (Zl (by rw[gD_len];exact hkl)) (fun _ _ _ _ _ _=>trivial) (ZkO hfz) ?_ ?_⟩
  ·intro i H9 Qt Qf hi hs ht hf;rw[gD_len]at hi;have ek:((gD ks g).map fun p=>kV p.1).getD i .non= .str ks[i]:=by
    unfold gD;rw[Q0,Qb,Qi,Qa hi];rfl
   rw[ek];have hgt:DGet H9 d (kV (Vn ks[i])) (some (.int (g ks[i]))):=.inl ⟨_,Vn ks[i],.inr ⟨o,hs _ _ hfz⟩,rfl,by rw[gD_val,Vf (QG hi)]⟩;have hle:=hg _ (QG hi);generalize ks[i]=y at *;have hgy:=Zd2 (ks:=ks2) (g:=cnt (pcs z L)) (y:=y) fun hP=>by
    unfold cnt;rw[Ua fun q=>hP ((hc.mem _).mpr q)];rfl
   refine⟨_,rfl,d2,rfl,.inl ⟨_,.inl (hs _ _ hd2')⟩,_,rfl,_,DGet.kk (k:=Vn y) (hs _ _ hd2'),_,rfl,_,rfl,d,_,rfl,hgt,_,_,hgy,rfl,_,rfl,?_⟩;exact Yu (Vp (by unfold cnt;exact Em hle)) (hf rfl _ (Same.refl _))
  ·intro D1 us H5 hl _ hs hD1 hDl;refine⟨hs _ _ hfz,QQ _,fun p0 hp0=>?_⟩;have hDd:D1≠d:=fun e=>by simp_all
   have s0:=Zb (o:=.lst []) hp0;have hn:us=[]:=Q7.mp (by rw[hl];simp);subst hn;refine⟨D1,p0,_,rfl,rfl,s0 _ _ (by rw[Zf hDd];omega),Zc,?_⟩;refine k _ (Same.trans (fun c u hc=>?_) s0);by_cases e:c=d
   ·rw[e]at hc ⊢;rw[Zc];exact hd.symm.trans hc
   ·rw[Zf e];exact hs _ _ (by rw[Zf e];exact s2 _ _ hc)
theorem Zj2 (Ps) (u):(prE Ps u).length=Ps.length:=by unfold prE;simp
theorem Zj3 (h):(prE Ps u)[i]?=some (Ps[i],u i):=by
 unfold prE;rw[Qi,QY h,We,Qb,Qa h];rfl
abbrev ZaL:V7:=top 35
noncomputable abbrev Zh3:Vd Vl:=["_law_pairs","_law_found","_law_pair"]
theorem scLpoints:Zo Zh3 ["_law_pairs"] (Zh ZaL):=⟨rfl,rfl,rfl,by decide +kernel,rfl,by decide +kernel,by decide +kernel⟩
def Zbr:Sp:=fun vs H Q _=>∃ (v:V) (Ps:Vd Vl) (u:Vg->Vs),vs=[v]/\HeapV H v (prE Ps u)/\Ps.length<=500/\∀ p H',Same H H'->H' p=some (.lst (Ps.map V.str))->Q (.ref p) H'
theorem ZcM (D:HasDef K mg "_law_points" ZaL ["_law_pairs"]) (B:Blt mg) (g6_:FOk P w K mg base 1 "_law_whole" ["_law_found"] Ze8):FOk P w K mg base 2 "_law_points" ["_law_pairs"] Zbr:=by
 refine D.ok scLpoints (fun vs H Q E h=>?_) (fun f cdv A outer s H vs Q E hr h=>?_)
 ·obtain⟨v,Ps,u,rfl,_⟩:=h;rfl
 ·obtain⟨v,Ps,u,rfl,⟨q,vs,rfl,hq,hpa⟩,hl,k⟩:=h;refine⟨_,(Zd (Yg (Yx (Yf (Zk Ys rfl B.isi Zda (Za (pv 0) (Za (ZcG rfl B.tuple Yt) Ze))))) (Zi (Zq YH)) ZF)
   (Zd (Zm (i:=1) scLpoints.nd rfl (.inl rfl) (ZD Ze))
   (Zd (Z8 Vr rfl (Y3 (pv 0)) (Zx (i:=2) scLpoints.nd rfl (.inl rfl))
    (Zd (Yg (PW.pt (Zae (Yx (Yf (Zk Ys rfl B.isi Zda (Za (pv 2) (Za (ZcG rfl B.tuple Yt) Ze))))) (Zae (Zw Zel (Zk Zn rfl B.len ZQ (Za (pv 2) Ze)) Zj (ZA _)) (Zae (Yx (Yf (Zk Ys rfl B.isi Zda (Za (ZB ix_tup (pv 2) Zj (fun _ _=>rfl)) (Za (ZcG rfl B.str ZmA) Ze))))) (JA (Yx (Yf (ZC g6_ hr (Za (ZB ix_tup (pv 2) Zj (fun _ _=>rfl)) Ze))))))))) (Zi (Zq YH)) ZF)
   (Zi (ZX (XN F.plainAttrs_list F.slot_list_append F.type_list_append Ya (pv 1) (Za (ZB ix_tup (pv 2) Zj (fun _ _=>rfl)) Ze))))))
   (Zi (Zq (pv 1)))))),?_⟩
  have hvl:=hpa.1;rw[Zj2]at hvl;refine⟨_,rfl,.ref q,"tuple","tuple",rfl,by decide,.tup hq,_,rfl,Yu (by decide) ?_⟩;refine⟨QQ _,fun p hp=>?_⟩;have s0:=Zb (o:=.lst []) hp;refine⟨_,rfl,q,rfl,⟨_,SqT.of (s0 _ _ hq)⟩,XC (K:=K) (a:=q) (xs:=vs) (fun i σ H2=>(∃ z2:Vj V,σ=[some (.ref q),some (.ref p),z2])/\Same H H2/\H2 p=some (.lst ((Ps.take i).map V.str))) ⟨⟨none,rfl⟩,s0,Zc⟩ (fun i σ H2 _ ⟨_,s2,_⟩=>SqT.of (s2 _ _ hq)) ?_ ?_⟩
  ·rintro i x σ H2 hx ⟨⟨z2,rfl⟩,s2,hp2⟩;have hi:i<Ps.length:=by rw[←hvl];exact(Ql.mp hx).1
   obtain⟨b,e1,e2⟩:=hpa.2 i _ (Zj3 hi);rw[hx]at e1;cases e1;have hb:=s2 _ _ e2;refine⟨_,rfl,.ref b,"tuple","tuple",rfl,by decide,.tup hb,_,rfl,Yu (by decide) ?_⟩;refine⟨_,rfl,.ref b,_,rfl,.inr ⟨_,SqT.of hb,rfl⟩,rfl,_,rfl,Yu (by simp) ?_⟩;refine⟨_,rfl,b,_,0,_,rfl,rfl,SqT.of hb,rfl,.str _,"str","str",rfl,by decide,.str _,_,rfl,Yu (by decide) ?_⟩;refine⟨_,rfl,b,_,1,_,rfl,rfl,SqT.of hb,rfl,⟨.int (u i),"int",rfl,.int _,?_⟩⟩;refine⟨_,rfl,Yu (by decide) ?_⟩;refine⟨_,rfl,.inl ⟨rfl,_,SqL.of hp2⟩,_,rfl,b,_,0,_,rfl,rfl,SqT.of hb,rfl,p,_,_,rfl,rfl,hp2,?_,?_⟩
   ·rw[Op,Qd,QE];lia
   ·refine⟨⟨_,rfl⟩,fun c u e=>?_,?_⟩
    ·rw[Zf (Zg e hp)];exact s2 _ _ e
    ·rw[Zc,QN hi,QJ];rfl
  ·rintro σ H2 ⟨⟨z2,rfl⟩,s2,hp2⟩;rw[hvl,Q5]at hp2;exact⟨_,rfl,k p H2 s2 hp2⟩
end
theorem X4 (h:0<=n):VG (tx z) none (some n)=tx (z.take n.toNat):=by
 apply ZS;rw[Xp h,Zr,Zr]
theorem ZaS:∀ ps:Vd Vl,RepA H (ps.map Mm) (ps.map V.str)
 | []=>by rfl
 | p::ps=>⟨.str p,ps.map V.str,rfl,by rfl,ZaS ps⟩
noncomputable def ZmL (E B:Vd Vl):RJ:=.list [.list (E.map Mm),.list (B.map Mm)]
theorem ZfA (h:H a=some (.lst [.ref a1,.ref a2])) (h1:H a1=some (.lst (E.map V.str))) (h2:H a2=some (.lst (B.map V.str))):RepD H (ZmL E B) (.ref a):=by
 unfold ZmL;exact⟨a,_,rfl,h,⟨_,_,rfl,⟨a1,_,rfl,h1,ZaS E⟩,⟨_,_,rfl,⟨a2,_,rfl,h2,ZaS B⟩,by rfl⟩⟩⟩
theorem Zdm (h:Cd x.cps.toList):Lw x=true:=by
 unfold Lw;rw[←Array.all_toList,UA];intro c hc;have:=h c hc;exact Vq (by lia)
theorem Za5:∀ {l:Vd Vl},(∀ e∈l,Cd e.cps.toList)->VW (l.map Mm)=true/\Na (l.map Mm)=0
 | [],_=>by simp[VW,Na]
 | e::r,h=>by
  obtain⟨h1,h2⟩:=Za5 fun y hy=>h y (Qk _ hy);rw[QV,VW,Na,h1,h2];simp[MK,(Zdm (h e Qj)),Mn]
theorem Zeg (hE:∀ e∈E,Cd e.cps.toList) (hB:∀ e∈B,Cd e.cps.toList):Nh (ZmL E B)=true:=by
 have⟨a1,a2⟩:=Za5 hE;have⟨b1,b2⟩:=Za5 hB;unfold Nh ZmL;rw[Wg];constructor;simp[MK,VW,a1,b1];exact Vq (by simp[Mn,Na,a2,b2])
theorem ZiL:∀ {ns:Vd Vs},(∀ n∈ns,-M<=n/\n<=M)->-(ns.length*M)<=ns.sum/\ns.sum<=ns.length*M
 | [],_=>by simp
 | x::ns,h=>by
  have h1:=h x Qj;have h2:=ZiL fun n hn=>h n (Qk _ hn);rw[Wb,QC,UJ,UN];lia
theorem Zkz {ns:Vd Vs} (h0:0<=M) (hM:M<=1000) (hl:ns.length<=1000) (h:∀ n∈ns,-M<=n/\n<=M):(∀ n∈ns,G9 n)/\∀ k,G9 (ns.take k).sum:=by
 refine⟨fun n hn=>?_,fun k=>?_⟩;have:=h n hn;constructor <;> lia;obtain⟨_⟩:=ZiL (ns:=ns.take k) fun n hn=>h n (Wu hn);have l1:((ns.take k).length:Vs)<=1000:=by rw[QE];lia
 have l2:=Int.mul_le_mul l1 hM h0 (by decide);constructor <;> lia
theorem Zne (hS:SPts es ss) (hL:∀ e∈es,Cd e.1.cps.toList):∀ x∈ss,Cd x.cps.toList:=fun x hx c hc=>by
 obtain⟨e,he,q⟩:=(hS.pts.mem x).mp hx;refine hL e he c ?_;rcases q with rfl | rfl
 unfold bg at hc;exact Wu (WG▸hc);exact WM hc
theorem Ze2 (ht:TbOk Pt H) (e:H x=some u) (h:(∃ ys,u= .tup ys)\/∃ ys,u= .dK ys):x∉[Pt]:=fun hx=>by
 rw[Qo.mp hx]at e;rcases ht with q | ⟨c,q,_⟩ <;> (rw[q]at e;cases e;simp_all)
theorem Xg (z) (L):(pcs z L).length=z.length-L+1:=by unfold pcs;simp
theorem ZaW (h1:1<=L) (hL:L<=z.length) (h100:L<=100) (hn:1<=n) (hf:n*(z.length-L+1)<=260) (hcd:Cd z):Pcl (cop n (pcs z L)) L:=by
 have hx:∀ x∈cop n (pcs z L),∃ i,i+L<=z.length/\x=tx _:=fun x hx=>by
  obtain⟨i,hi,q⟩:=QP.mp (Zbe hx);exact⟨i,by have:=Qr.mp hi;exact Hd this hL,q.symm⟩
 refine⟨fun e=>?_,by rw[XD,Xg];exact hf,fun x h=>?_,h1,h100,fun x h=>?_⟩;have:=VR Rs e;rw[XD,Xg,U2]at this;have:0<n*(z.length-L+1):=LQ (Bq hn) N8;lia;obtain⟨i,hi,rfl⟩:=hx x h;rw[Zy,QE,Wa];exact F0 hi;obtain⟨i,hi,rfl⟩:=hx x h;exact fun c hc=>hcd c (WM (Wu hc))
theorem ZdB (n:Vg) (x):(Qq ((n:Vs)).toNat [V.str x]).flatten=(Qq n x).map V.str:=by
 simp
section
variable {P:Oh} {w:Oi} {K:Ve} {mg:Vl->Vj Vi} {base:Vz} {Pt CA:Vk}
abbrev ZaP:V7:=top 36
noncomputable abbrev Zh5:Vd Vl:=["_law_text","_law_long","_law_copies_here","_law_due","_law_piece","_law_times","_law_found","_law_begin","_law_end","_law_more","_law_points_here"]
theorem scLcopies:Zo Zh5 ["_law_text","_law_long","_law_copies_here"] (Zh ZaP):=⟨rfl,rfl,rfl,by decide +kernel,rfl,by decide +kernel,by decide +kernel⟩
def Zdv (Pt:Vk):Sp:=fun vs H Q _=>∃ (z:Vd Vg) (L n:Vg),vs=[.str (tx z),.int L,.int n]/\1<=L/\L<=z.length/\L<=100/\z.length<=300/\1<=n/\n<=4/\n*(z.length-L+1)<=260/\Cd z/\TbOk Pt H/\∀ H',TbOk Pt H'->Q (.bl true) H'
theorem ZcN (D:HasDef K mg "_law_copies" ZaP ["_law_text","_law_long","_law_copies_here"]) (B:Blt mg) (g5_:FOk P w K mg base 7 "_law_torn" ["_law_text","_law_long"] Zdp) (g14_:ZmI P w K mg base 7 "filled" ["H"] (ZaI Pt CA)) (g2_:FOk P w K mg base 7 "_law_holds" ["_law_text","_law_due","_law_long"] ZaH) (g4_:FOk P w K mg base 7 "_law_points" ["_law_pairs"] Zbr) :
  FOk P w K mg base 8 "_law_copies" ["_law_text","_law_long","_law_copies_here"] (Zdv Pt):=by
 refine D.ok scLcopies (fun vs H Q E h=>?_) (fun f cdv A outer s H vs Q E hr h=>?_)
 ·obtain⟨z,L,n,rfl,_⟩:=h;rfl
 ·obtain⟨z,L,n,rfl,h1,hL,h100,hz,hn,hn4,hf,hcd,hTb,k⟩:=h;have hu:=ZbV hr;refine⟨_,(Zd (Zm (i:=3) scLcopies.nd rfl (.inl rfl) XM)
   (Zd (Z8 Vr rfl (ZhP (Znf (ZC g5_ hr (Za (pv 0) (Za (pv 1) Ze))))) (Yj 2 K rfl (Zt (Zx (i:=4) scLcopies.nd rfl (.inl rfl)) (Zt (Zx (i:=5) scLcopies.nd rfl (.inl rfl)) Z9)))
    (Zi (Y2 hu (pv 3) (pv 4) (Zp JF (pv 5) (pv 2)) rfl)))
   (Zd (Zm (i:=6) scLcopies.nd rfl (.inl rfl) (Zi3 g14_ hr (Za (Z4 ZP rfl B.tuple Yt (Za (Zk (YU rfl) rfl B.sorted Xj (Za (ZaV (pv 3)) Ze)) Ze)) Ze)))
   (Zd (Yg (PW.pt (Zae (Yx (Yf (Zk Ys rfl B.isi Zda (Za (pv 6) (Za (ZcG rfl B.tuple Yt) Ze))))) (Zae (Zw Zel (Zk Zn rfl B.len ZQ (Za (pv 6) Ze)) Zj (ZA _)) (JA (Yx (Yf (ZC g2_ hr (Za (ZB ix_tup (pv 6) Zj (fun _ _=>rfl)) (Za (pv 3) (Za (pv 1) Ze)))))))))) (Zi (Zq YN)) ZF)
   (Zd (Zm (i:=7) scLcopies.nd rfl (.inl rfl) (Zz Z6 (pv 0) ZT (ZM (Zp Yy (pv 1) Zj))))
   (Zd (Zm (i:=8) scLcopies.nd rfl (.inl rfl) (Zz Z6 (pv 0) (ZM (Zp Z5 (Zp Yy (Zk Zn rfl B.len ZQ (Za (pv 0) Ze)) (pv 1)) Zj)) ZT))
   (Zd (Zm (i:=9) scLcopies.nd rfl (.inl rfl) Zj)
   (Zd (Zm (i:=10) scLcopies.nd rfl (.inl rfl) (ZD (Za (ZD Ze) (Za (ZD Ze) Ze))))
   (Zd (Yg (Zw Zel (pv 7) (pv 8) (ZA _)) (Zd (Xe Vr (Zw Zel (Zz Z6 (pv 8) (ZM (pv 9)) ZT) (Zz Z6 (pv 7) ZT (ZM (Zp Yy (Zk Zn rfl B.len ZQ (Za (pv 7) Ze)) (pv 9)))) (ZA _))
    (Zi (Zm (i:=9) scLcopies.nd rfl (.inl rfl) (Zp Z5 (pv 9) Zj))))
   (Zi (Zm (i:=10) scLcopies.nd rfl (.inl rfl) (ZD (Za (Zp Y5 (ZD (Za (pv 8) Ze)) (pv 2)) (Za (Zp Y5 (ZD (Za (pv 7) Ze)) (pv 2)) Ze)))))) ZF)
   (Zd (Yg (Zw (ZlK hr.units) (ZD (Za (ZC g4_ hr (Za (ZB ix_tup (pv 6) Zj (fun _ _=>rfl)) Ze)) (Za (ZC g4_ hr (Za (ZB ix_tup (pv 6) Zj (fun _ _=>rfl)) Ze)) Ze))) (pv 10) (ZA _)) (Zi (Zq YN)) ZF)
   (Zd (Yg (PW.pt (Zlu (Zw Zf0 (pv 2) Zj (ZA _)) (Zj1 (Zw (Zkg hu) (ZC g5_ hr (Za (ZB ix_tup (pv 6) Zj (fun _ _=>rfl)) (Za (pv 1) Ze))) (pv 3) (ZA _))))) (Zi (Zq YN)) ZF)
   (Zi (Zq (JE Zf0 (Zk Zn rfl B.len ZQ (Za (ZB ix_tup (pv 6) Zj (fun _ _=>rfl)) Ze)) (Zp Z5 (Zp Yy (Zp Z5 (Zk (Zg9 rfl) rfl B.sum ZnG (Za (Z4 (ZeK rfl) rfl B.list ZmC (Za (ZfQ (pv 3)) Ze)) Ze)) (pv 1)) Zj) (Zp JF (Zp Yy (pv 2) Zj) (pv 9))) (ZA _))))))))))))))),?_⟩
  have hpl:=Xg z L;refine fun d hd=>⟨_,rfl,_,rfl,z,L,rfl,h1,hL,by lia,fun dt H2 ks hnt s2 hdt hc=>?_⟩
  have s02:Same H H2:=Same.trans (Zb hd) s2;have hd2:H2 d=some (.dK []):=s2 _ _ Zc;have hnd:dt≠d:=fun e=>by rw[e,Zc]at hnt;simp_all
  have hdtH:H dt=none:=by rw[Zf hnd]at hnt;omega
  have hkl:=hc.len;refine⟨dt,_,rfl,hdt,fun o=>⟨dt,o,_,rfl,Zc,?_⟩⟩;refine ZgS (fun i σ H3=>(∃ z4 z5:Vj V,σ=[some (.str (tx z)),some (.int L),some (.int n),some (.ref d),z4,z5,none,none,none,none,none])/\Same H H3/\H3 dt=some (.frz o (.dK (gD ks (cnt (pcs z L)))))/\H3 d=some (.dK (gD (ks.take i) fun x=>cnt (pcs z L) x*n)))
   ⟨⟨none,none,rfl⟩,fun b u e=>by rw[Zf (Zg e hdtH)];exact s02 _ _ e,Zc,by rw[Zf (Vy hnd),hd2];rfl⟩ (fun i σ H3 _ ⟨_,_,q,_⟩=>q) ?_ ?_
  ·rintro i p σ H3 t hp ht ⟨⟨z4,z5,rfl⟩,s3,hdt3,hd3⟩;have hi:i<ks.length:=by
    have:=(Ql.mp hp).1;rw[gD_len]at this;exact this
   unfold gD at hp;rw[Qi,Qa hi]at hp;cases hp;have hkt:(ks.take (i+1))=ks.take i++[ks[i]]:=QN hi;have hnin:ks[i]∉ks.take i:=fun q=>by
    have:=hc.nd;rw[←Wd (i+1) ks,hkt]at this;have:=(Wx.mp (Wx.mp this).1).2.2;exact this _ q _ (by simp) rfl
   generalize ks[i]=y at *;have st:Same H3 (upd H3 t (.tup [.str y,.int (cnt (pcs z L) y)])):=Zb ht;refine⟨t,_,rfl,SqT.of Zc,rfl,_,_,rfl,_,_,rfl,rfl,?_⟩;refine⟨_,rfl,_,rfl,_,_,rfl,rfl,.inr ⟨by omega,by omega⟩,_,rfl,_,rfl,d,_,rfl,DPut.kk (k:=Vn y) (st _ _ hd3) ?_,?_⟩
   ·rw[gD_len,QE];exact Zv (by omega)
   ·refine⟨⟨_,_,rfl⟩,fun b u e=>?_,?_,?_⟩
    ·rw[Zf (Zg e hd)];exact st _ _ (s3 _ _ e)
    ·rw[Zf hnd];exact st _ _ hdt3
    ·rw[Zc,ZbX,if_neg hnin,←hkt];refine VR (fun l=>some (HO.dK l)) (XU fun x _=>?_);by_cases c:x=y
     ·rw[Vf c,c]
     ·rw[if_neg c]
  rintro σ H3 ⟨⟨z4,z5,rfl⟩,s3,_,hd3⟩;rw[gD_len,Q5]at hd3;have hgc:gD ks (fun x=>cnt (pcs z L) x*n)=gD ks fun x=>((cop n (pcs z L)).count x:Vg):=XU fun x _=>by
   unfold cnt;rw[Zb7,RB,Int.mul_comm]
  rw[hgc]at hd3;have hmem:∀ x,x∈ks↔x∈cop n (pcs z L):=fun x=>by rw[hc.mem];exact⟨XY hn,Zbe⟩
  have hPc:=ZaW h1 hL h100 hn hf hcd;have hTb3:=hTb.same s3;refine⟨_,rfl,d,_,rfl,hd3,fun p hp=>⟨p,d,ks,fun x=>.int ((cop n (pcs z L)).count x:Vg),rfl,Zc,Zb hp _ _ hd3,hc.nd,Fs hz h1 hpl hkl hL,fun D1 H4 vs ss hs4 hperm hsrt hD1 hvl hv=>?_⟩⟩;refine⟨D1,vs,rfl,.inl ⟨SqL.of hD1,fun l hl0=>?_⟩⟩;have hgE:HpE (ss.map fun x=>(x,((cop n (pcs z L)).count x:Vs))) (cop n (pcs z L)) ss:=⟨rfl,hperm.nodup_iff.mpr hc.nd,fun x=>by rw[hperm.mem_iff,hmem],hsrt⟩
  obtain⟨hy,hfl⟩:=hgE.hpy hPc;have hV:HeapV (upd H4 l (.tup vs)) (.ref l) (ss.map fun x=>(x,((cop n (pcs z L)).count x:Vs))):=⟨l,vs,rfl,Zc,by rw[Qd];exact hvl,fun i q e=>by
   rw[Qi]at e;cases ex:ss[i]? with
   | none=>rw[ex]at e;cases e
   | some x =>
    rw[ex]at e;cases e;obtain⟨b,e1,e2⟩:=hv i x ex;exact⟨b,e1,Zb hl0 _ _ e2⟩⟩
  have s34:=((Zb hp).trans hs4).trans (Zb (o:=.tup vs) hl0);have hd4:=s34 _ _ hd3;have hTb4:=hTb3.same s34;generalize upd H4 l (.tup vs)=H5 at hV s34 hd4 hTb4;generalize hes:(ss.map fun x=>(x,((cop n (pcs z L)).count x:Vs)))=es at hV hy hfl hgE;clear hs4 hD1 hv hvl;have hne:=hy.ne;rw[XD,hpl]at hfl;have hfew:=hPc.few;rw[XD,hpl]at hfew;have hhang:∀ e0∈es,Zcj e0 es:=fun e0 he0=>Zio h1 hL (fun x hx=>⟨_,by rw[hgE.eq];exact QP.mpr ⟨x,(hgE.mem x).mpr (XY hn hx),rfl⟩,rfl⟩) (fun e he=>by
   rw[hgE.eq]at he;obtain⟨x,hx,rfl⟩:=QP.mp he;exact Zbe ((hgE.mem x).mp hx)) he0
  -- ends,begins
  have hEB:∀ pt,SPts es pt->(tB z L≠tN z L/\Ef es pt=Qq n (tN z L)/\Bf es pt=Qq n (tB z L))\/(tB z L=tN z L/\Ef es pt=[]/\Bf es pt=[]):=fun pt hS=>by
   by_cases c:tB z L=tN z L
   ·exact .inr ⟨c,ZeJ hgE h1 hL c⟩
   ·exact .inl ⟨c,Ziz hgE h1 hL hn hS c⟩
  have hbf:∀ pt,SPts es pt->(Bf es pt).length<=100:=fun pt hS=>by
   rcases hEB pt hS with ⟨_,_,q⟩ | ⟨_,_,q⟩ <;> rw[q]
   ·rw[Wj];lia
   ·exact QQ _
  cases es with
  | nil=>exact Vo rfl hne
  | cons e0 es0 =>
  have hH:=hhang e0 Qj;refine⟨.ref l,e0,es0,L,rfl,hV,hy,h100,Dk hf hfl,hbf,hTb4,fun _ v1 H6 b6 t6 F6=>?_,fun n=>Vo hH n⟩;obtain⟨q,p1,p2,pt,S,j,rfl,hF,hq,hp1,hp2⟩:=F6;obtain⟨zf,hT⟩:=Zd4 rfl hy hF hH;rw[hT.txt]at hq;have hq:H6 q=some (.tup [.str (tx zf),p1,p2]):=hq;have hd6:H6 d=some (.dK (gD ks fun x=>((cop n (pcs z L)).count x:Vg))):=b6 _ _ (Ze2 hTb4 hd4 (.inr ⟨_,rfl⟩)) hd4;have hEB:=hEB pt hF.pts;have lenB:(tB z L).length=L-1:=by unfold tB;rw[Zy,QE];lia
  have lenN:(tN z L).length=L-1:=by unfold tN;rw[Zy,Wa];omega
  obtain⟨m,hm0,hm1,hlk⟩:∃ m:Vg,(tB z L=tN z L->m=0)/\(tB z L≠tN z L->m=ltr (tN z L) (tB z L))/\lkc (e0::es0) pt S=(n-1:Vg)*m:=by
   rcases hEB with ⟨c,q1,q2⟩ | ⟨c,q1,q2⟩
   ·exact⟨_,fun z=>Vo z c,fun _=>rfl,ZkB hF hn q1 q2 (Dj lenN lenB)⟩
   ·exact⟨0,fun _=>rfl,fun z=>Vo c z,by rw[ZdS (by rw[q2];rfl)];simp⟩
  have hm99:m<=99:=by
   by_cases c:tB z L=tN z L
   ·rw[hm0 c];exact Ko
   ·rw[hm1 c];have:=ZdQ (x:=tN z L) (y:=tB z L) (Dj lenN lenB);omega
  have hzl:=hT.len;rw[hfl,hlk]at hzl;have hmul:(n-1)*m<=297:=QK (U7 (show n-1<=3 by lia) hm99) (by decide);have hmi:(((n-1:Vg):Vs)*m)=(((n-1)*m:Vg):Vs):=(RB _ _).symm;rw[hmi]at hzl;have hN1:1<=n*(z.length-L+1):=LQ (Bq hn) N8;have hzf1:L<=zf.length:=by omega
  have hzf2:zf.length<=700:=by omega
  have hhas:=ZgW hgE hy hT hzf1;refine⟨_,rfl,.ref q,"tuple","tuple",rfl,by decide,.tup hq,_,rfl,Yu (by decide) ?_⟩;refine⟨_,rfl,.ref q,_,rfl,.inr ⟨_,SqT.of hq,rfl⟩,rfl,_,rfl,Yu (by simp) ?_⟩;refine⟨_,rfl,q,_,0,_,rfl,rfl,SqT.of hq,rfl,_,rfl,_,rfl,zf,d,ks,_,L,rfl,hd6,h1,hzf1,hzf2,Fs hz h1 hpl hkl hL,fun x _=>by exact_mod_cast hhas x,fun H7 s7=>?_⟩;refine⟨_,rfl,Yu (by decide) ?_⟩;have hq7:=s7 _ _ hq;have hd7:=s7 _ _ hd6;have hp17:=hp1.same s7;have hp27:=hp2.same s7;have t7:=t6.same s7;clear hp1 hp2 hq hd6 t6 s7 b6;have eB:VG (tx z) none (some ((L:Vs)-1))=tB z L:=by
   rw[X4 (Sl h1)];unfold tB;congr 2;lia
  have eN:VG (tx z) (some ((z.length:Vs)-L+1)) none=tN z L:=by
   rw[Zam (by lia) (by lia)];unfold tN;congr 2;lia
  have hzs:(tx z).length<=Of:=YZ (by lia);refine⟨_,rfl,_,rfl,_,_,rfl,rfl,_,rfl,_,rfl,hzs,?_⟩;rw[eB];refine⟨_,rfl,_,rfl,.str (tx z),z.length,rfl,⟨hzs,(Zy z).symm⟩,_,rfl,_,_,rfl,rfl,_,_,rfl,rfl,_,rfl,_,rfl,hzs,?_⟩;rw[eN];refine⟨QQ _,fun a1 ha1=>⟨QQ _,fun a2 ha2=>⟨Zl (show 2<=1000 by decide),fun a ha=>?_⟩⟩⟩;have sA:=((Zb (o:=.lst []) ha1).trans (Zb (o:=.lst []) ha2)).trans (Zb (o:=.lst [.ref a1,.ref a2]) ha);have hA1:(upd (upd (upd H7 a1 (.lst [])) a2 (.lst [])) a (.lst [.ref a1,.ref a2])) a1=some (.lst []):=((Zb (o:=.lst []) ha2).trans (Zb (o:=.lst [.ref a1,.ref a2]) ha)) _ _ Zc;have hA2:(upd (upd (upd H7 a1 (.lst [])) a2 (.lst [])) a (.lst [.ref a1,.ref a2])) a2=some (.lst []):=(Zb (o:=.lst [.ref a1,.ref a2]) ha) _ _ Zc;have hA:(upd (upd (upd H7 a1 (.lst [])) a2 (.lst [])) a (.lst [.ref a1,.ref a2])) a=some (.lst [.ref a1,.ref a2]):=Zc;generalize (upd (upd (upd H7 a1 (.lst [])) a2 (.lst [])) a (.lst [.ref a1,.ref a2]))=H8 at sA hA1 hA2 hA
  try dsimp only[Ji]
  show ZeR (Zk1 _ _ _) _ _ _ _;refine YE (fun σ H9=>∃ b b1 b2:Vk,σ=[some (.str (tx z)),some (.int L),some (.int n),some (.ref d),z4,z5,some (.ref q),some (.str (tB z L)),some (.str (tN z L)),some (.int m),some (.ref b)]/\Same H7 H9/\H9 b=some (.lst [.ref b1,.ref b2])/\H9 b1=some (.lst ((Ef (e0::es0) pt).map V.str))/\H9 b2=some (.lst ((Bf (e0::es0) pt).map V.str))) (fun R hR=>?_) ?_
  ·refine⟨_,rfl,_,rfl,rfl,_,rfl,?_⟩;by_cases c:tB z L=tN z L
   ·rcases hEB with ⟨c',_,_⟩ | ⟨_,q1,q2⟩
    ·exact Vo c c'
    ·refine Yu (by simp[c]) (hR _ _ ⟨a,a1,a2,by rw[hm0 c];rfl,sA,hA,by rw[q1];exact hA1,by rw[q2];exact hA2⟩)
   ·rcases hEB with ⟨_,q1,q2⟩ | ⟨c',_,_⟩
    case inr=>exact Vo c' c
    have em:=hm1 c;refine Xm (by simp[c]) ?_;have hll:(tN z L).length=(tB z L).length:=Dj lenN lenB
    have hLe:=Y7 hll;have hz1:(tN z L).length<=Of:=ZW (Ft h100 lenN);have hz2:(tB z L).length<=Of:=ZW (Ft h100 lenB);show ZeR (Zbm _ _) _ _ _ _;refine YE (fun σ H9=>H9=H8/\σ=[some (.str (tx z)),some (.int L),some (.int n),some (.ref d),z4,z5,some (.ref q),some (.str (tB z L)),some (.str (tN z L)),some (.int m),some (.ref a)]) (fun R2 hR2=>?_) ?_
    ·generalize tN z L=x at *;generalize tB z L=y at *;refine⟨fun m σ H9=>∃ i:Vg,i<=ltr x y/\H9=H8/\σ=[some (.str (tx z)),some (.int L),some (.int n),some (.ref d),z4,z5,some (.ref q),some (.str y),some (.str x),some (.int i),some (.ref a)]/\m=ltr x y-i,⟨_,0,QQ _,rfl,rfl,rfl⟩,?_⟩;rintro m' σ H9 ⟨i,hi,rfl,rfl,rfl⟩;have hl1:=hLe.1;rw[Zu]at hl1;refine⟨_,rfl,_,rfl,_,rfl,_,rfl,hz1,_,rfl,_,rfl,.str y,y.length,rfl,⟨hz2,rfl⟩,_,rfl,_,_,rfl,rfl,?_⟩;refine⟨_,rfl,_,rfl,hz2,rfl,_,rfl,?_⟩;have e1:(VG x (some (i:Vs)) none).cps.toList=x.cps.toList.drop i:=by
      rw[Z0 Ss (by omega),Wc]
     have e2:(VG y none (some ((y.length:Vs)-i))).cps.toList=y.cps.toList.take (y.cps.toList.length-i):=by
      rw[Xp (by omega),Zu];congr 1;exact Fu
     have e3:(VG x (some (i:Vs)) none=VG y none (some ((y.length:Vs)-i)))↔ZeS x.cps.toList y.cps.toList i=true:=by
      unfold ZeS;rw[NW,←e1,←e2];exact⟨fun z=>by rw[z],fun z=>ZS z⟩
     by_cases c:i=ltr x y
     ·have e4:=e3.mpr (by rw[c];exact hLe.2.1);refine Yu (by simp[e4]) (hR2 _ _ ⟨rfl,by rw[c,em]⟩)
     ·have e4:¬ (VG x (some (i:Vs)) none=VG y none (some ((y.length:Vs)-i))):=fun z=>by
       have:=e3.mp z;rw[hLe.2.2 i (Ec hi c)]at this;cases this
      refine Xm (by simp[e4]) ⟨_,fun _ _ z=>z,_,rfl,_,_,rfl,rfl,?_⟩;exact⟨ltr x y-(i+1),by lia,i+1,by lia,rfl,rfl,rfl⟩
    ·rintro σ H9 ⟨rfl,rfl⟩;have h1s:[V.str (tN z L)].length*((n:Vs)).toNat<=Of:=by rw[Op];simp;exact Fv hn4
     have h2s:[V.str (tB z L)].length*((n:Vs)).toNat<=Of:=by rw[Op];simp;exact Fv hn4
     refine⟨_,rfl,Zl (show 1<=1000 by decide),fun c1 hc1=>⟨_,rfl,c1,_,_,rfl,rfl,Zc,by omega,by omega,h1s,fun b1 hb1=>?_⟩⟩;refine⟨_,rfl,Zl (show 1<=1000 by decide),fun c2 hc2=>⟨_,rfl,c2,_,_,rfl,rfl,Zc,by omega,by omega,h2s,fun b2 hb2=>?_⟩⟩;refine⟨Zl (show 2<=1000 by decide),fun b hb=>?_⟩;have u1:=Zb (o:=.lst [.str (tN z L)]) hc1;have u2:=Zb (o:=.lst (Qq ((n:Vs)).toNat [V.str (tN z L)]).flatten) hb1;have u3:=Zb (o:=.lst [.str (tB z L)]) hc2;have u4:=Zb (o:=.lst (Qq ((n:Vs)).toNat [V.str (tB z L)]).flatten) hb2;have u5:=Zb (o:=.lst [.ref b1,.ref b2]) hb;refine hR _ _ ⟨b,b1,b2,rfl,(((((sA.trans u1).trans u2).trans u3).trans u4).trans u5),Zc,?_,?_⟩
     ·rw[q1,←ZdB];exact((u3.trans u4).trans u5) _ _ Zc
     ·rw[q2,←ZdB];exact u5 _ _ Zc
  rintro σ H9 ⟨b,b1,b2,rfl,s9,hb,hb1,hb2⟩;have hq9:=s9 _ _ hq7;have hd9:=s9 _ _ hd7;have hp19:=hp17.same s9;have hp29:=hp27.same s9;have t9:=t7.same s9;clear hq7 hd7 hp17 hp27 t7 s9 sA hA hA1 hA2 ha ha1 ha2;have lB:(Bf (e0::es0) pt).length<=100:=hbf pt hF.pts;have lE:(Ef (e0::es0) pt).length<=100:=by rw[ZgY hF.pts];exact lB
  have scd:=Zne hF.pts hy.cd;have ecd:∀ x∈Ef (e0::es0) pt,Cd x.cps.toList:=fun x hx=>scd x (ZU (f:=fun y=>-mo (e0::es0) y) hx).1;have bcd:∀ x∈Bf (e0::es0) pt,Cd x.cps.toList:=fun x hx=>scd x (ZU (f:=mo (e0::es0)) hx).1;have hsh:=Zeg ecd bcd;refine⟨_,rfl,q,_,1,p1,rfl,rfl,SqT.of hq9,rfl,p1,_,S.rp,rfl,hp19,Fw lE,fun l1 H10 s10 hl1=>?_⟩;refine⟨_,rfl,q,_,2,p2,rfl,rfl,SqT.of (s10 _ _ hq9),rfl,p2,_,S.cp,rfl,hp29.same s10,Fw lB,fun l2 H11 s11 hl2=>?_⟩;refine⟨Zl (show 2<=1000 by decide),fun lp hlp=>?_⟩;have u6:=Zb (o:=.lst [.ref l1,.ref l2]) hlp;have s9b:=(s10.trans s11).trans u6;refine⟨_,rfl,_,_,ZfA Zc ((s11.trans u6) _ _ hl1) (u6 _ _ hl2),ZfA (s9b _ _ hb) (s9b _ _ hb1) (s9b _ _ hb2),hsh,hsh,?_⟩;rw[SeqAt.eqv_refl _ (SeqAt.canLay_of_shaped hsh)];refine⟨_,rfl,Yu rfl ?_⟩;have hqC:=s9b _ _ hq9;have hdC:=s9b _ _ hd9;have tC:=t9.same s9b;generalize upd H11 lp (.lst [.ref l1,.ref l2])=H12 at hqC hdC tC;clear hb hb1 hb2 hq9 hd9 hp19 hp29 t9 s9b u6 hl2 s11 hl1 s10;dsimp only[ZjJ];show ZeR (Zk1 _ _ _) _ _ _ _;refine YE (fun σ H9=>σ=[some (.str (tx z)),some (.int L),some (.int n),some (.ref d),z4,z5,some (.ref q),some (.str (tB z L)),some (.str (tN z L)),some (.int m),some (.ref b)]/\Same H12 H9) (fun R hR=>?_) ?_
  ·refine⟨_,rfl,rfl,_,rfl,?_⟩;by_cases c:n=1
   ·refine Xm (by rw[c];rfl) ?_;refine⟨_,rfl,q,_,0,_,rfl,rfl,SqT.of hqC,rfl,_,rfl,zf,L,rfl,h1,hzf1,hzf2,fun d3 H13 ks3 hn3 s13 hd3' hc3=>?_⟩;have hper:(cop n (pcs z L)).Perm (pcs zf L):=ZfO (fun x _=>hhas x) (by
     rw[XD,hpl,Xg,c];rw[c]at hzl;lia)
    have hmm:∀ x,x∈ks3↔x∈ks:=fun x=>by rw[hc3.mem,←hper.mem_iff,hmem]
    refine⟨_,rfl,d3,d,ks3,ks,_,_,rfl,rfl,hd3',s13 _ _ hdC,Nat.le_antisymm (Zes hc3.nd fun x hx=>(hmm x).mp hx) (Zes hc.nd fun x hx=>(hmm x).mpr hx),fun x hx=>⟨(hmm x).mp hx,?_⟩,_,rfl,Yu rfl ?_⟩
    ·unfold cnt;rw[hper.count_eq]
    ·exact hR _ _ ⟨rfl,s13⟩
   ·refine Yu (by simp;lia) ?_;exact Yu rfl (hR _ _ ⟨rfl,Same.refl _⟩)
  rintro σ H9 ⟨rfl,s9⟩;have hq9:=s9 _ _ hqC;have hd9:=s9 _ _ hdC;have t9:=tC.same s9;have hzfs:(tx zf).length<=Of:=YZ (Fg hzf2);refine⟨_,rfl,q,_,0,_,rfl,rfl,SqT.of hq9,rfl,.str (tx zf),zf.length,rfl,⟨hzfs,(Zy zf).symm⟩,?_⟩;refine⟨_,rfl,d,_,rfl,hd9,fun pv' hpv=>?_⟩;refine⟨pv',d,_,rfl,Zc,Zb hpv _ _ hd9,fun lv hlv=>?_⟩;have eM:(gD ks fun x=>((cop n (pcs z L)).count x:Vg)).map (·.2)=(ks.map fun x=>(((cop n (pcs z L)).count x:Vg):Vs)).map V.int:=by
   unfold gD;rw[Q0,Q0];rfl
  obtain⟨g1,g2⟩:=Zkz (M:=260) (ns:=ks.map fun x=>(((cop n (pcs z L)).count x:Vg):Vs)) (by decide) (by decide) (by rw[Qd];exact Fs hz h1 hpl hkl hL) fun y hy=>by
   obtain⟨x,_,rfl⟩:=QP.mp hy;have:=Rc (a:=x) (l:=cop n (pcs z L));have:=hPc.few;lia
  have eS:(ks.map fun x=>(((cop n (pcs z L)).count x:Vg):Vs)).sum=(n*(z.length-L+1):Vg):=by
   have q1:=Je (es:=ks.map fun x=>(x,(((cop n (pcs z L)).count x:Vg):Vs))) fun e he=>by
    obtain⟨x,_,rfl⟩:=QP.mp he;exact Int.natCast_nonneg _
   have q2:=(Zb2 hc.nd hmem).length_eq;rw[q2,XD,hpl]at q1;rw[q1];unfold sm;rw[Q0];rfl
  refine⟨lv,_,rfl,SqL.of (by rw[Zc,eM]),g1,g2,?_⟩;rw[eS];refine⟨_,rfl,_,_,rfl,rfl,_,_,rfl,rfl,_,rfl,_,_,rfl,rfl,_,rfl,_,_,rfl,rfl,.inl ⟨by lia,by lia⟩,_,_,rfl,rfl,rfl,?_⟩;have eF:((n*(z.length-L+1):Vg):Vs)+L-1+((n:Vs)-1)*m=zf.length:=by
   rw[show((n:Vs)-1)=((n-1:Vg):Vs)by lia,hmi];exact hzl.symm
  show Q (.bl (decide (V.int (zf.length:Vg)=V.int (((n*(z.length-L+1):Vg):Vs)+L-1+((n:Vs)-1)*m)))) _;rw[eF,Vq rfl];exact k _ ((t9.same (Zb hpv)).same (Zb hlv))
end
noncomputable def ZgN (hp:Es):RJ:=.tuple (hp.map fun e=>.tuple [.str e.1,.int e.2])
theorem ZiY:∀ {hp} {vs},PA H vs hp->RepA H (hp.map fun e=>.tuple [.str e.1,.int e.2]) vs
 | [],vs,h=>Q7.mp h.1
 | e::r,[],h=>by simpa using h.1
 | e::r,v::vs,h=>by
  obtain⟨b,e1,hb⟩:=h.2 0 e rfl;have ev:v= .ref b:=by simp_all
  refine⟨v,vs,rfl,?_,ZiY ⟨by simpa using h.1,fun i y hy=>?_⟩⟩;exact⟨b,_,ev,hb,⟨_,_,rfl,by rfl,⟨_,_,rfl,by rfl,by rfl⟩⟩⟩;obtain⟨_⟩:=h.2 (i+1) y (by simp_all)
  simp_all
theorem Zls (h:HeapV H v hp):RepD H (ZgN hp) v:=by
 obtain⟨a,xs,rfl,ha,hp⟩:=h;unfold ZgN;exact⟨a,xs,rfl,ha,ZiY hp⟩
theorem Zjc:∀ {l:Es},(∀ e∈l,Cd e.1.cps.toList)->VW (l.map fun e=>Lx [.str e.1,.int e.2])=true/\Na (l.map fun e=>Lx [.str e.1,.int e.2])<=1
 | [],_=>by simp[VW,Na]
 | e::r,h=>by
  obtain⟨h1,_⟩:=Zjc fun y hy=>h y (Qk _ hy);rw[QV,VW,h1];refine⟨by simp[MK,VW,(Zdm (h e Qj))],?_⟩;simp[Mn,Na];lia
theorem Zbv (ha:∀ e∈a,Cd e.1.cps.toList):Nh (ZgN a)=true:=by
 obtain⟨_⟩:=Zjc ha;unfold Nh ZgN;rw[Wg];constructor
 assumption
 refine Vq ?_;simp[Mn];lia
theorem Zmr (a):TC (ZgN a) (.tuple [])=a.isEmpty:=by
 cases a with
 | nil=>rfl
 | cons n r=>rfl
theorem Zla (h1:1<=L) (hL:L<=z.length) (h100:L<=100) (hf:z.length-L+1<=260) (hcd:Cd z) (hne:(pcs z L).erase x≠[]):Pcl ((pcs z L).erase x) L:=by
 have q:=ZaW h1 hL h100 (Qg _) (by lia) hcd;have hx:∀ y∈(pcs z L).erase x,y∈cop 1 _:=fun y hy=>XY (Qg _) (UE hy);have hl:=Xg z L;refine⟨hne,?_,fun y hy=>q.len y (hx y hy),h1,h100,fun y hy=>q.cd y (hx y hy)⟩;have:=List.erase_sublist (a:=x) (l:=pcs z L).length_le;lia
section
variable {P:Oh} {w:Oi} {K:Ve} {mg:Vl->Vj Vi} {base:Vz} {Pt CA:Vk}
abbrev XI:V7:=top 37
noncomputable abbrev ZbK:Vd Vl:=["_law_text","_law_long","_law_piece","_law_due","_law_heap","_law_found"]
theorem scLwithout:Zo ZbK ["_law_text","_law_long","_law_piece"] (Zh XI):=⟨rfl,rfl,rfl,by decide +kernel,rfl,by decide +kernel,by decide +kernel⟩
def Zbq (Pt:Vk):Sp:=fun vs H Q _=>∃ (z:Vd Vg) (L:Vg) (x:Vl),vs=[.str (tx z),.int L,.str x]/\x∈pcs z L/\1<=L/\L<=z.length/\L<=100/\z.length<=200/\Cd z/\TbOk Pt H/\∀ H',TbOk Pt H'->Q (.bl true) H'
theorem ZbG (D:HasDef K mg "_law_without" XI ["_law_text","_law_long","_law_piece"]) (B:Blt mg) (g5_:FOk P w K mg base 7 "_law_torn" ["_law_text","_law_long"] Zdp) (g1_:FOk P w K mg base 7 "_law_hangs" ["_law_heap"] Zdu) (g14_:ZmI P w K mg base 7 "filled" ["H"] (ZaI Pt CA)) (g2_:FOk P w K mg base 7 "_law_holds" ["_law_text","_law_due","_law_long"] ZaH) :
  FOk P w K mg base 8 "_law_without" ["_law_text","_law_long","_law_piece"] (Zbq Pt):=by
 refine D.ok scLwithout (fun vs H Q E h=>?_) (fun f cdv A outer s H vs Q E hr h=>?_)
 ·obtain⟨z,L,x,rfl,_⟩:=h;rfl
 ·obtain⟨z,L,x,rfl,hx,h1,hL,h100,hz,hcd,hTb,k⟩:=h;have hu:=ZbV hr;refine⟨_,(Zd (Zm (i:=3) scLwithout.nd rfl (.inr rfl) (ZC g5_ hr (Za (pv 0) (Za (pv 1) Ze))))
   (Zd (Y2 hu (pv 3) (pv 2) (Zp Yy (X9 hu (pv 3) (pv 2) (fun _ _=>rfl)) Zj) rfl)
   (Zd (Zm (i:=4) scLwithout.nd rfl (.inl rfl) (Z4 ZP rfl B.tuple Yt (Za (ZV (Zh XI) ZbK ["_law_one"] [3] rfl (YF (Zk (XZ rfl) rfl B.sorted Xj (Za (pv 3) Ze))) (fun _ _ _ _ _=>YM 0) (fun _ _ _ _ _=>Xy (Zw ZcJ (X9 hu (pv 1) (pv 0) (fun _ _=>rfl)) Zj (ZA _))) (fun _ _ _ _ _=>(JD (Za (pv 0) (Za (X9 hu (pv 1) (pv 0) (fun _ _=>rfl)) Ze))))) Ze)))
   (Zd (Yg (PW.pt (Zae (Zw (ZlL hr.units) (pv 4) (JD Ze) (ZA _)) (JA (Yx (Yf (ZC g1_ hr (Za (pv 4) Ze))))))) (Zi (Zq YN)) ZF)
   (Zd (Zm (i:=5) scLwithout.nd rfl (.inl rfl) (ZB ix_tup (Zi3 g14_ hr (Za (pv 4) Ze)) Zj (fun _ _=>rfl)))
   (Zi (Zq (Zi4 (ZC g2_ hr (Za (pv 5) (Za (pv 3) (Za (pv 1) Ze)))) (Zi2 (JE Zni (Zk Zn rfl B.len ZQ (Za (pv 5) Ze)) (Zk Zn rfl B.len ZQ (Za (pv 0) Ze)) (ZA _))))))))))),?_⟩
  have hpl:=Xg z L;refine⟨_,rfl,_,rfl,z,L,rfl,h1,hL,by lia,fun d H2 ks hd s2 hd2 hc=>?_⟩;have hkx:x∈ks:=(hc.mem x).mpr hx;have hkl:=hc.len;have hgx:DGet H2 d (kV (Vn x)) (some (.int (cnt (pcs z L) x))):=.inl ⟨_,Vn x,.inl hd2,rfl,by rw[gD_val,Vf hkx]⟩;refine⟨_,rfl,_,rfl,d,_,rfl,hgx,_,_,rfl,rfl,_,rfl,_,rfl,d,_,rfl,DPut.kk (k:=Vn x) hd2 (by rw[gD_len];exact Zv (Sg hz h1 hpl hkl hL)),?_⟩;rw[ZbX,Vf hkx];have hgc:gD ks (fun y=>if y=x then cnt (pcs z L) x-1 else cnt (pcs z L) y)=gD ks fun y=>(((pcs z L).erase x).count y:Vg):=XU fun y _=>by
   unfold cnt;have hp:=WW.mpr hx;rw[Ry];by_cases c:y=x
   ·subst c;rw[Vf rfl,Vf (by simp)];omega
   ·rw[if_neg c,if_neg (by simpa using fun e=>c e.symm)];rfl
  rw[hgc];have sd:Same H (upd H2 d (.dK (gD ks fun y=>(((pcs z L).erase x).count y:Vg)))):=fun b u e=>by
   rw[Zf (Zg e hd)];exact s2 _ _ e
  have hd3:(upd H2 d (.dK (gD ks fun y=>(((pcs z L).erase x).count y:Vg)))) d=some (.dK (gD ks fun y=>(((pcs z L).erase x).count y:Vg))):=Zc;generalize upd H2 d (.dK (gD ks fun y=>(((pcs z L).erase x).count y:Vg)))=H3 at sd hd3;clear hgc hgx hd2 s2;have hxc:∀ y,y∈(pcs z L).erase x->y∈ks:=fun y hy=>(hc.mem y).mpr (UE hy);generalize hps:(pcs z L).erase x=ps at *;have hTb3:=hTb.same sd;refine⟨_,rfl,d,ks,fun y=>.int (ps.count y:Vg),rfl,hd3,Sg hz h1 hpl hkl hL,fun p ss hp hpm hsrt=>?_⟩;have nds:ss.Nodup:=hpm.nodup_iff.mpr hc.nd;have hsl:=hpm.length_eq;have hsrt:=ZdR nds hsrt;have sp:=Zb (o:=.lst (ss.map V.str)) hp;refine⟨p,rfl,⟨_,SqL.of Zc⟩,JK (ss.map V.str).length (fun i=>(ss.map V.str).getD i .non) (fun i=>decide (0<((ps.count (ss.getD i ""):Vg):Vs))) (fun i v H'=>∃ b,v= .ref b/\H' b=some (.tup [.str (ss.getD i ""),.int (ps.count (ss.getD i ""):Vg)])) (Zl (by rw[Qd];omega)) (fun i v H' H'' s' ⟨b,e,r⟩=>⟨b,e,s' _ _ r⟩) (XB (SqL.of Zc)) ?_ ?_⟩
  ·intro i H9 Qt Qf hi hs ht hf;rw[Qd]at hi;have es1:ss.getD i "" = ss[i]:=by rw[Qb,Qa hi];rfl
   have ek:(ss.map V.str).getD i .non= .str ss[i]:=by
    rw[Qb,Qi,Qa hi];rfl
   rw[es1]at ht hf;rw[ek];have hgt:DGet H9 d (kV (Vn ss[i])) (some (.int (ps.count ss[i]:Vg))):=.inl ⟨_,Vn ss[i],.inl (hs _ _ (sp _ _ hd3)),rfl,by rw[gD_val,Vf (hpm.mem_iff.mp (QG hi))]⟩;generalize ss[i]=y at *;refine⟨_,rfl,_,rfl,d,_,rfl,hgt,_,_,rfl,rfl,_,rfl,?_⟩;by_cases c:0<((ps.count y:Vg):Vs)
   ·refine Xm (Vq c) ?_;refine⟨_,rfl,_,rfl,_,rfl,d,_,rfl,hgt,Zl (show 2<=1000 by decide),fun r hr=>?_⟩;exact ht (Vq c) _ _ (Zb hr) ⟨r,rfl,Zc⟩
   ·exact Yu (Vp c) (hf (Vp c) _ (Same.refl _))
  intro D2 vs2 H9 hl2 hR9 hs9 hD2 hDl2;rw[Qd]at hl2 hR9;refine⟨D2,vs2,rfl,.inl ⟨SqL.of hDl2,fun l hl=>?_⟩⟩;have sl:=Zb (o:=.tup vs2) hl;have hV:HeapV (upd H9 l (.tup vs2)) (.ref l) ((ss.filter fun y=>decide (0<((ps.count y:Vg):Vs))).map fun y=>(y,(ps.count y:Vs))):=by
   refine⟨l,vs2,rfl,Zc,?_⟩;rw[ZgV (p:=fun y=>decide (0<((ps.count y:Vg):Vs))),Q0];refine⟨by rw[hl2,Qd],fun j t ht=>?_⟩;rw[Qi]at ht;obtain⟨i,hi,rfl⟩:=Wp.mp ht;have hj:j<vs2.length:=by rw[hl2];exact(Ql.mp hi).1
   obtain⟨b,e1,e2⟩:=hR9 j i vs2[j] hi (Qa hj);exact⟨b,by rw[Qa hj,e1],sl _ _ e2⟩
  have hgE:HpE ((ss.filter fun y=>decide (0<((ps.count y:Vg):Vs))).map fun y=>(y,(ps.count y:Vs))) ps (ss.filter fun y=>decide (0<((ps.count y:Vg):Vs))):=by
   refine⟨rfl,nds.filter _,fun y=>?_,?_⟩
   ·rw[Q2,hpm.mem_iff,NW];constructor
    ·simp
    ·intro h;have:=WW.mpr h;exact⟨hxc y h,Si this⟩
   ·exact hsrt.sublist (List.filter_sublist.map _)
  have s39:=(sp.trans hs9).trans sl;have hd9:=s39 _ _ hd3;have hTb9:=hTb3.same s39;generalize upd H9 l (.tup vs2)=H10 at hV s39 hd9 hTb9;generalize hes:((ss.filter fun y=>decide (0<((ps.count y:Vg):Vs))).map fun y=>(y,(ps.count y:Vs)))=es at hV hgE;generalize (ss.filter fun y=>decide (0<((ps.count y:Vg):Vs)))=s2 at hgE;clear hR9 hDl2 hD2 hl2 hs9 sl sp;have hcdE:∀ e∈es,Cd e.1.cps.toList:=fun e he=>by
   rw[hgE.eq]at he;obtain⟨y,hy,rfl⟩:=QP.mp he;have hm:=(hgE.mem y).mp hy;rw[←hps]at hm;have q:=ZaW (n:=1) h1 hL h100 (Qg _) (Sj hz) hcd;exact q.cd y (XY (Qg _) (UE hm))
  refine⟨_,rfl,QQ _,fun pe hpe=>?_⟩;have se:=Zb (o:=.tup []) hpe;refine⟨_,_,Zls (hV.same se),(show RepD _ (.tuple []) _ by rw[RepD];exact⟨pe,[],rfl,Zc,by rw[RepA]⟩),Zbv hcdE,Zbv (a:=[]) (fun e he=>nomatch he),?_⟩;rw[Zmr];have hV:=hV.same se;have hd9:=se _ _ hd9;have hTb9:=hTb9.same se;generalize upd H10 pe (.tup [])=H11 at hV hd9 hTb9;cases es with
  | nil=>exact⟨_,rfl,Xm rfl (Xm rfl (k _ hTb9))⟩
  | cons e0 es0 =>
  have hpne:ps≠[]:=fun e=>by
   have hm:e0.1∈ps:=by
    have:e0∈e0::es0:=Qj;rw[hgE.eq]at this;obtain⟨y,hy,e⟩:=QP.mp this;rw[←e];exact(hgE.mem y).mp hy
   rw[e]at hm;cases hm
  have hPc:Pcl ps L:=by
   rw[←hps]at hpne ⊢;exact Zla h1 hL h100 (by omega) hcd hpne
  obtain⟨hy,hfl⟩:=hgE.hpy hPc;have hpsl:ps.length=z.length-L:=by
   rw[←hps,Wi hx,hpl];lia
  have hpp:0<ps.length:=List.length_pos_iff.mpr hpne;refine⟨_,rfl,Yu rfl ?_⟩;refine⟨_,rfl,.ref l,e0,es0,rfl,hV,hy.fine,fun H12 b s12 hb=>?_⟩;have hV:=hV.same s12;have hd9:=s12 _ _ hd9;have hTb9:=hTb9.same s12;cases b with
  | false=>exact⟨_,rfl,Xm rfl (k _ hTb9)⟩
  | true =>
  have hH:=hb.mp rfl;refine⟨_,rfl,Yu rfl ?_⟩;rw[←hps]at hgE;refine⟨_,rfl,.ref l,e0,es0,L,rfl,hV,hy,h100,by lia,fun pt hS=>QK (Zlc hgE hx h1 hL hS) (by decide),hTb9,fun _ v1 H13 b13 t13 F13=>?_,fun n=>Vo hH n⟩;obtain⟨q,p1,p2,pt,S,j,rfl,hF,hq,hp1,hp2⟩:=F13;obtain⟨zf,hT⟩:=Zd4 rfl hy hF hH;rw[hT.txt]at hq;have hq:H13 q=some (.tup [.str (tx zf),p1,p2]):=hq;have hd13:=b13 _ _ (Ze2 hTb9 hd9 (.inr ⟨_,rfl⟩)) hd9;have hxl:x.length=L:=by
   have q:=ZaW (n:=1) h1 hL h100 (Qg _) (Sj hz) hcd;exact q.len x (XY (Qg _) hx)
  have hlk:=Zl4 hgE hx hxl h1 hL hy hF;have hlk0:0<=lkc (e0::es0) pt S:=by
   unfold lkc;have:∀ l:T3,0<=(l.map fun t=>(t.2.1.length:Vs)).sum:=fun l=>by
    induction l with
    | nil=>exact U5 _
    | cons t l ih=>rw[QV,Wb];lia
   exact this _
  have hzl:=hT.len;have hzf1:L<=zf.length:=by lia
  have hzf2:zf.length<=z.length:=by lia
  have hhas:=ZgW hgE hy hT hzf1;rw[hps]at hhas;refine⟨q,_,0,_,rfl,rfl,SqT.of hq,rfl,?_⟩;refine⟨_,rfl,_,rfl,_,rfl,zf,d,ks,_,L,rfl,hd13,h1,hzf1,by omega,by lia,fun y _=>by exact_mod_cast hhas y,fun H14 s14=>?_⟩;refine⟨true,rfl,Xm rfl ?_⟩;refine⟨_,rfl,.str (tx zf),zf.length,rfl,⟨YZ (by omega),(Zy zf).symm⟩,_,rfl,.str (tx z),z.length,rfl,⟨YZ (Sk hz),(Zy z).symm⟩,_,_,rfl,rfl,?_⟩;show Q (.bl (decide ((zf.length:Vs)<=(z.length:Vs)))) _;rw[Vq (by omega)];exact k _ (t13.same s14)
end
theorem ZlQ {ys:Vd Vg} (h:ys.length<=25):∃ i,i<26/\97+i∉ys:=by
 by_cases c:∃ i,i<26/\97+i∉ys
 omega;have nd:((Qu 26).map fun i=>97+i).Nodup:=by decide
 have:=JG nd fun y hy=>by
  obtain⟨i,hi,rfl⟩:=QP.mp hy;by_cases q:97+i∈ys
  omega
  simp_all
 rw[Qd,QX]at this;omega
theorem Zjw (h:i<26):(("abcdefghijklmnopqrstuvwxyz" : Vl)).cps.getD i 0=97+i:=by
 have:∀ k:Fin 26,("abcdefghijklmnopqrstuvwxyz" : Vl).cps.getD k.1 0=97+k.1:=by decide +kernel
 exact this ⟨i,h⟩
theorem ZhF (n) (u:Vd Vg):((Qq n u).flatten).length=n*u.length:=by
 simp
section
variable {P:Oh} {w:Oi} {K:Ve} {mg:Vl->Vj Vi} {base:Vz} {Pt:Vk}
abbrev Zfq:V7:=top 38
noncomputable abbrev Znm:Vd Vl:=["_law_script","_law_cells","_law_text","_law_seed","_law_long","_law_copies_here","_law_odd","_law_k","_law_at"]
theorem scLaw:Zo Znm ["_law_script"] (Zh Zfq):=⟨rfl,rfl,rfl,by decide +kernel,rfl,by decide +kernel,by decide +kernel⟩
def Zhv (Pt:Vk) (K:Ve):Sp:=fun vs H Q _=>∃ (a:Vk) (ns:Vd Vs),vs=[.ref a]/\SqL K H a (ns.map V.int)/\ns.length<=63/\TbOk Pt H/\∀ H',Q (.bl true) H'
theorem ZlO (Fl:Fun K "law" "law" Zfq fa fd) (B:Blt mg) (g3_:FOk P w K mg base 8 "_law_letters" ["_law_cells"] (Zlq K)) (g0_:FOk P w K mg base 8 "_law_copies" ["_law_text","_law_long","_law_copies_here"] (Zdv Pt)) (g7_:FOk P w K mg base 8 "_law_without" ["_law_text","_law_long","_law_piece"] (Zbq Pt)) :
  FnOk P w K mg base CX0 9 fa fd ["_law_script"] (Zhv Pt K):=by
 refine Fl.ok scLaw (fun vs H Q E h=>?_) (fun cdv A outer s H vs Q E hr h=>?_)
 ·obtain⟨a,ns,rfl,_⟩:=h;rfl
 ·obtain⟨a,ns,rfl,ha,hl,hTb,k⟩:=h;refine⟨_,(Zd (ZhL (i:=1) (Zh Zfq) Znm ["_law_cell"] [] scLaw.nd rfl (.inl rfl) rfl (YF (Zz Zfj (pv 0) ZT (ZM Zj))) (fun _ _ _ _ _=>YM 0) (fun _ _ _ _ _=>Y4) (fun _ _ _ _ _=>(Zp Yz (pv 0) (Zp ZlJ Zj Zj))))
   (Zd (Zbz (ZC g3_ hr (Za (pv 1) Ze)) (Zj8 2 K rfl (Zt (Zx (i:=2) scLaw.nd rfl (.inr rfl)) (Zt (Zx (i:=3) scLaw.nd rfl (.inl rfl)) Z9))))
   (Zd (Zm (i:=2) scLaw.nd rfl (.inr rfl) (Zp Xh (pv 2) (ZB Zd1 Zar (Zp Yz (pv 3) Zj) (fun _ _=>rfl))))
   (Zd (Zm (i:=4) scLaw.nd rfl (.inl rfl) (Zk (Zhd rfl) rfl B.min ZmB (Za (Zk Zn rfl B.len ZQ (Za (pv 2) Ze)) (Za (Zp Z5 Zj (Zp Yz (Zp Ja (pv 3) Zj) Zj)) Ze))))
   (Zd (Yg (Zw Zf0 (Zp Yz (Zp Ja (pv 3) Zj) Zj) Zj (ZA _)) (Zi (Zm (i:=2) scLaw.nd rfl (.inr rfl) (Zp Xh (pv 2) (Zz Z6 (pv 2) ZT (ZM (Zp Yy (pv 4) Zj)))))) ZF)
   (Zd (Zm (i:=5) scLaw.nd rfl (.inl rfl) (Zp Z5 Zj (Zp Yz (Zp Ja (pv 3) Zj) Zj)))
   (Zd (Yg (PW.pt (Zae (Yx (Yf (ZC g0_ hr (Za (pv 2) (Za (pv 4) (Za Zj Ze)))))) (JA (Yx (Yf (ZC g0_ hr (Za (pv 2) (Za (pv 4) (Za (pv 5) Ze))))))))) (Zi (Zq YN)) ZF)
   (Zd (Yg (Zw Zf0 (Zp Yz (Zp Ja (pv 3) Zj) Zj) Zj (ZA _)) (Zd (Zm (i:=6) scLaw.nd rfl (.inl rfl) (ZB ix_list (ZV (Zh Zfq) Znm ["_law_sign"] [2] rfl (Zlx Zar) (fun _ _ _ _ _=>YM 0) (fun _ _ _ _ _=>Xy (Zw ZbD (pv 0) (pv 1) rfl)) (fun _ _ _ _ _=>(pv 0))) Zj (fun _ _=>rfl)))
   (Zi (Yg (Yx (Yf (ZC g0_ hr (Za (Zp Xh (Zz Z6 (Zp Zkh (pv 2) Zj) ZT (ZM Zj)) (pv 6)) (Za Zj (Za Zj Ze)))))) (Zi (Zq YN)) ZF))) ZF)
   (Zd (Z8 Vr rfl (Yq rfl B.range (Za Zj Ze)) (Zx (i:=7) scLaw.nd rfl (.inl rfl))
    (Zd (Zm (i:=8) scLaw.nd rfl (.inl rfl) (Zp Yz (Zp Yz (Zp JF (Zp Z5 (pv 3) (Zp JF (pv 7) (pv 7))) Zj) Zj) (Zp Z5 (Zp Yy (Zk Zn rfl B.len ZQ (Za (pv 2) Ze)) (pv 4)) Zj)))
   (Zi (Yg (Yx (Yf (ZC g7_ hr (Za (pv 2) (Za (pv 4) (Za (Zz Z6 (pv 2) (ZM (pv 8)) (ZM (Zp Z5 (pv 8) (pv 4)))) Ze)))))) (Zi (Zq YN)) ZF))))
   (Zi (Zq YN))))))))))),?_⟩
  refine⟨_,rfl,_,rfl,a,_,rfl,ha,fun p hp=>?_⟩;rw[ZnD (ns.map V.int) (by rw[Qd];exact hl)];have s0:Same H (upd H p (.lst (ns.map V.int))):=Zb hp;refine⟨p,rfl,⟨_,SqL.of Zc⟩,JJ _ (fun i=>(ns.map V.int).getD i .non) (fun i v _=>∀ c,ns[i]?=some c->v= .int (c % 10 ^ 18)) (by rw[Qd];exact Zl (Sd hl)) (fun _ _ _ _ _ r=>r) (XB (SqL.of Zc)) ?_ ?_⟩
  ·intro i H4 Qe hi hs kq;have hi':i<ns.length:=by simp_all
   rw[JT hi'];refine⟨_,rfl,_,_,rfl,rfl,⟨by decide,by decide,by decide⟩,_,_,rfl,rfl,(by simp),kq _ _ (Same.refl _) fun c e=>?_⟩;rw[Qa hi']at e;cases e;rfl
  intro D1 vs1 H1 hlv1 hr1 hs1 hD1 hDl1;rw[Qd]at hlv1;have e1:vs1=(ns.map fun c:Vs=>c % 10 ^ 18).map V.int:=by
   rw[Q0];exact ZeU hlv1 hr1
  generalize hms:(ns.map fun c:Vs=>c % 10 ^ 18)=ms at e1;have hml:ms.length<=63:=by simp_all
  subst e1;refine⟨_,rfl,D1,ms,rfl,SqL.of hDl1,hml,fun q z0 ys sd H2 hs2 hz0 hcd0 hys hin0 b1 b2 hq=>?_⟩;refine⟨q,_,rfl,SqL.of hq,rfl,_,_,rfl,_,_,rfl,rfl,?_⟩;have t2:=hTb.same ((s0.trans hs1).trans hs2);clear hq hs2 hDl1 hs1 hr1 hlv1 hD1 ha hTb s0;have m26:=YS sd (show(0:Vs)<26 by decide);refine⟨_,rfl,_,rfl,_,_,rfl,rfl,(by lia),_,_,_,rfl,rfl,ZO (by decide),ZbO m26.1 m26.2,_,_,rfl,rfl,?_⟩;have eA:∀ a b:Vd Vg,tx a++tx b=tx (a++b):=fun a b=>by
   apply ZS;rw[Zr];show((tx a).cps++(tx b).cps).toList=_;rw[Array.toList_append,Zr,Zr]
  refine⟨by show(tx z0).length+(tx [(sd % 26).toNat+97]).length<=_;rw[Zy,Zy,Op];simp;lia,?_⟩;rw[show(⟨#[(sd % 26).toNat+97]⟩:Vl)=tx [(sd % 26).toNat+97]from rfl,eA];have hz1:(z0++[(sd % 26).toNat+97]).length<=64/\1<=(z0++[(sd % 26).toNat+97]).length:=by rw[Qh,Qx];lia
  have hcd1:Cd (z0++[(sd % 26).toNat+97]):=fun c hc=>by
   rcases QD.mp hc with h | h
   ·exact hcd0 c h
   ·rw[Qo.mp h];lia
  have hin1:∀ c∈z0++[(sd % 26).toNat+97],c∈ys++[(sd % 26).toNat+97]:=fun c hc=>by
   rcases QD.mp hc with h | h
   ·exact QI _ (hin0 c h)
   ·exact QF _ h
  have hyl:(ys++[(sd % 26).toNat+97]).length<=5:=by rw[Qh,Qx];lia
  generalize z0++[(sd % 26).toNat+97]=z at hz1 hcd1 hin1;generalize ys++[(sd % 26).toNat+97]=yz at hin1 hyl;clear hcd0 hin0 hys hz0;have m6:=YS (sd / 7) (show(0:Vs)<6 by decide);have hzs:(tx z).length<=Of:=YZ (by lia);refine⟨_,rfl,.str (tx z),z.length,rfl,⟨hzs,(Zy z).symm⟩,_,rfl,_,_,rfl,rfl,⟨by decide,by decide⟩,_,_,rfl,rfl,(by show(0:Vs)<6;decide),_,_,rfl,rfl,_,_,rfl,?_⟩;obtain⟨L,eL⟩:∃ L:Vg,(if 1+sd / 7 % 6<(z.length:Vs)then 1+sd / 7 % 6 else (z.length:Vs))=(L:Vs):=⟨(if 1+sd / 7 % 6<(z.length:Vs)then 1+sd / 7 % 6 else (z.length:Vs)).toNat,by split <;> lia⟩
  have hL1:1<=L/\L<=6/\L<=z.length:=by
   by_cases q:1+sd / 7 % 6<(z.length:Vs)
   ·rw[Vf q]at eL;lia
   ·rw[if_neg q]at eL;lia
  obtain⟨L1,L6,Lz⟩:=hL1;rw[eL]
  try dsimp only[Ji]
  show ZeR (Zk1 _ _ _) _ _ _ _;refine YE (fun σ H3=>H3=H2/\∃ z':Vd Vg,σ=[some (.ref a),some (.ref D1),some (.str (tx z')),some (.int sd),some (.int L),none,none,none,none]/\L<=z'.length/\z'.length-L+1<=64/\Cd z'/\∀ c∈z',c∈yz) (fun R hR=>?_) ?_
  ·refine⟨_,rfl,_,_,rfl,rfl,⟨by decide,by decide⟩,_,_,rfl,rfl,(by show(0:Vs)<3;decide),rfl,_,rfl,?_⟩;refine ZmP (fun e=>?_) (fun e=>hR _ _ ⟨rfl,z,rfl,Lz,by lia,hcd1,hin1⟩);refine⟨_,rfl,_,rfl,_,rfl,_,_,rfl,rfl,_,rfl,_,rfl,hzs,?_⟩;dsimp only;rw[X4 (Sl L1)];refine⟨_,_,rfl,rfl,by rw[Zy,Zy,Op,QE];omega,?_⟩;rw[eA];refine hR _ _ ⟨rfl,_,rfl,by rw[Qh];exact Kh Lz,by rw[Qh,QE];omega,fun c hc=>?_,fun c hc=>?_⟩
   ·rcases QD.mp hc with h | h
    ·exact hcd1 c h
    ·exact hcd1 c (Wu h)
   ·rcases QD.mp hc with h | h
    ·exact hin1 c h
    ·exact hin1 c (Wu h)
  rintro σ H3 ⟨rfl,z',rfl,Lz',hz',hcd',hin'⟩;clear hin1 hcd1 Lz hzs eL hz1;have hzs:(tx z').length<=Of:=YZ (Sm L6 hz');have m4:=YS (sd / 126) (show(0:Vs)<4 by decide);refine⟨_,rfl,_,_,rfl,rfl,⟨by decide,by decide⟩,_,_,rfl,rfl,(by show(0:Vs)<4;decide),_,_,rfl,rfl,?_⟩;obtain⟨n,en,n1,n4⟩:∃ n:Vg,1+sd / 126 % 4=(n:Vs)/\1<=n/\n<=4:=⟨(1+sd / 126 % 4).toNat,by lia,by omega,by omega⟩
  dsimp only;rw[en];have hnn:n*(z'.length-L+1)<=260:=QK (U7 n4 hz') (by decide);refine⟨_,rfl,_,rfl,z',L,1,rfl,L1,Lz',Sn L6,So L6 hz',Qg _,by decide,by lia,hcd',t2,fun H4 t4=>?_⟩;refine⟨_,rfl,Yu (by decide) ?_⟩;refine⟨_,rfl,_,rfl,_,rfl,z',L,n,rfl,L1,Lz',Sn L6,So L6 hz',n1,n4,hnn,hcd',t4,fun H5 t5=>?_⟩;refine⟨_,rfl,Yu (by decide) ?_⟩;dsimp only[ZjJ];show ZeR (Zk1 _ _ _) _ _ _ _;refine YE (fun σ H6=>TbOk Pt H6/\∃ z6:Vj V,σ=[some (.ref a),some (.ref D1),some (.str (tx z')),some (.int sd),some (.int L),some (.int n),z6,none,none]) (fun R hR=>?_) ?_
  ·refine⟨_,rfl,_,_,rfl,rfl,⟨by decide,by decide⟩,_,_,rfl,rfl,(by show(0:Vs)<3;decide),rfl,_,rfl,?_⟩;refine ZmP (fun e=>?_) (fun e=>hR _ _ ⟨t5,none,rfl⟩);have hS:(("abcdefghijklmnopqrstuvwxyz" : Vl)).cps.size=26:=by decide +kernel
   refine⟨_,rfl,ZdU (("abcdefghijklmnopqrstuvwxyz" : Vl)).cps.size (fun i=>.str ⟨#[(("abcdefghijklmnopqrstuvwxyz" : Vl)).cps.getD i 0]⟩) (fun i=>!decide ((("abcdefghijklmnopqrstuvwxyz" : Vl)).cps.getD i 0∈z')) (ZO (by rw[hS];decide)) Zmj ?_ ?_⟩
   ·intro i H6 Qt Qf hi hs ht hf;refine⟨_,rfl,_,rfl,_,_,rfl,rfl,_,rfl,?_⟩;rw[Zoe,Zr];by_cases c:(("abcdefghijklmnopqrstuvwxyz" : Vl)).cps.getD i 0∈z'
    ·exact Yu (by rw[Vq c];rfl) (hf (by rw[Vq c];rfl))
    ·exact Xm (by rw[Vp c];rfl) ⟨_,rfl,ht (by rw[Vp c];rfl)⟩
   ·intro Dl H6 s6 hDl hDv;obtain⟨c,rest,ec,hc97⟩:∃ (c:Vg) (rest:Vd V),(((Qu (("abcdefghijklmnopqrstuvwxyz" : Vl)).cps.size).filter fun i=>!decide ((("abcdefghijklmnopqrstuvwxyz" : Vl)).cps.getD i 0∈z')).map fun i=>V.str ⟨#[(("abcdefghijklmnopqrstuvwxyz" : Vl)).cps.getD i 0]⟩)= .str (tx [c])::rest/\97<=c/\c<=122:=by
     obtain⟨i0,hi0,hno⟩:=ZlQ (ys:=yz) (by lia);rw[hS];cases el:(Qu 26).filter fun i=>!decide ((("abcdefghijklmnopqrstuvwxyz" : Vl)).cps.getD i 0∈z')with
     | nil =>
      have:=WZ.mp el i0 (Qr.mpr hi0);rw[Zjw hi0]at this;exact Vo (by rw[Vp fun m=>hno (hin' _ m)];rfl) this
     | cons j r =>
      have hj:j∈(Qu 26).filter fun i=>!decide ((("abcdefghijklmnopqrstuvwxyz" : Vl)).cps.getD i 0∈z'):=by rw[el];exact Qj
      have hj':=Qr.mp (Q2.mp hj).1;refine⟨97+j,r.map fun i=>V.str ⟨#[(("abcdefghijklmnopqrstuvwxyz" : Vl)).cps.getD i 0]⟩,?_,Ka,by lia⟩;rw[QV,Zjw hj'];rfl
    rw[ec]at hDv;refine⟨Dl,_,0,.str (tx [c]),rfl,rfl,SqL.of hDv,JQ (by decide) rfl,?_⟩;have em:Lr (tx z') 139=tx ((Qq 139 z').flatten):=by
     apply ZS;rw[Zgf (by decide) (by rw[Zy];lia),Zr,Zr];rfl
    have hrl:=ZhF 139 z';have hrc:Cd ((Qq 139 z').flatten):=fun c hc=>by
     obtain⟨l,hl,hcl⟩:=List.mem_flatten.mp hc;rw[(WR.mp hl).2]at hcl;exact hcd' c hcl
    refine⟨_,rfl,_,_,rfl,rfl,L2.mulOk_of (by decide) (by decide) (by rw[Zy];exact Sm L6 hz'),?_⟩;rw[em];refine⟨_,rfl,_,rfl,by rw[Zy,Op,hrl];lia,?_⟩;dsimp only;rw[X4 (by decide)];have htl:((Qq 139 z').flatten.take (139:Vs).toNat).length=139:=by
     rw[QE,hrl];show min 139 _=139;lia
    have htc:Cd ((Qq 139 z').flatten.take (139:Vs).toNat):=fun c hc=>hrc c (Wu hc);generalize ((Qq 139 z').flatten.take (139:Vs).toNat)=u at htl htc;refine⟨_,rfl,_,_,rfl,rfl,by rw[Zy,Zy,Op,htl];simp,?_⟩;rw[eA];have hul:(u++[c]).length=140:=by rw[Qh,htl];rfl
    refine⟨u++[c],61,3,rfl,by decide,by lia,by decide,by lia,by decide,by decide,by lia,fun x hx=>?_,t5.same s6,fun H7 t7=>?_⟩
    ·rcases QD.mp hx with h | h
     ·exact htc x h
     ·rw[Qo.mp h];exact hc97
    ·exact⟨_,rfl,Yu (by decide) (hR _ _ ⟨t7,_,rfl⟩)⟩
  rintro σ H6 ⟨t6,z6,rfl⟩;refine⟨_,rfl,by decide,by decide,?_⟩;refine Y9 (n:=6) (fun i σ H7=>TbOk Pt H7/\∃ z7 z8:Vj V,σ=[some (.ref a),some (.ref D1),some (.str (tx z')),some (.int sd),some (.int L),some (.int n),z6,z7,z8]) ⟨t6,none,none,rfl⟩ ?_ ?_
  ·rintro i σ H7 hi ⟨t7,z7,z8,rfl⟩;have hdv:(0:Vs)<(z'.length:Vs)-L+1:=by lia
   refine⟨_,rfl,_,rfl,_,rfl,_,_,rfl,rfl,.inl ⟨by lia,by lia⟩,_,_,rfl,rfl,_,_,rfl,rfl,.inr ⟨by decide,by decide⟩,_,_,rfl,rfl,(by show(0:Vs)<2147483647;decide),_,rfl,.str (tx z'),z'.length,rfl,⟨hzs,(Zy z').symm⟩,_,rfl,_,_,rfl,rfl,_,_,rfl,rfl,_,_,rfl,rfl,hdv,?_⟩;dsimp only;have mb:=YS ((sd+(0+(i:Vs))*(0+i))*48271 % 2147483647) hdv;obtain⟨j,ej⟩:∃ j:Vg,(sd+(0+(i:Vs))*(0+i))*48271 % 2147483647 % ((z'.length:Vs)-L+1)=(j:Vs):=⟨_,(Rj mb.1).symm⟩
   rw[ej]at mb ⊢;refine⟨_,rfl,_,rfl,_,rfl,_,rfl,_,rfl,_,rfl,_,rfl,_,_,rfl,rfl,_,rfl,_,rfl,hzs,?_⟩;rw[Zbt (z:=z') (i:=j) (L:=L) rfl rfl (Sq mb)];refine⟨z',L,_,rfl,ZfV (Sq mb),L1,Lz',Sn L6,by lia,hcd',t7,fun H8 t8=>?_⟩;exact⟨_,rfl,Yu (by decide) ⟨t8,_,_,rfl⟩⟩
  ·rintro σ H7 ⟨t7,z7,z8,rfl⟩;exact k _
end
end Sh
namespace L2
open PySem PySem.Spec PyProof.Rows PySem.W
theorem Zgv {K}
  (KX:K.In s₁.heap) (hns:s₁.heap.Ns Ol mg) (hb:s₁.heap.Ns GE mb) (hbb:∀ x:Vl,x≠"__name__"->mb x=On x) (hlim:s₁.heap.NoLimit) (hg:s₁.gens= #[])
  (hbm:∃ bm ob,mg "__builtins__" = some (.ref bm)/\bm≠GE/\s₁.heap.get? bm=some ob/\ob.cls= .type "module"/\ob.dict=some GE/\ob.data= .plain)
  (hPt:s₁.heap.get? Pt=some (tabObj #[])) (hPK:K.lookup Pt=none) (hcd:codeHdIn K cc Pt=true)
  (ha:s₁.heap.get? a=some {cls:=.type "list",data:=.seq vs.toArray}) (hi:G6 vs ns) (hl:ns.length<=Of) (hr:Room k GK)
  (F:∀ base,K.In base->base.Ns Ol mg->Tab mg base cc Pt->FnOk P w K mg base CX k fa fd [x] sp) (hbind:∀ (s) (u),GU s fd ⟨[u],[]⟩ [(x,u)])
  (hsp:∀ H,H Pt=some (.tbl #[])->SqL K H a (ns.map V.int)->sp [.ref a] H (fun v _=>v= .bl true) fun _ _ _=>False)
  (hCX:∀ H e s',CX [] H s₁ (fun _ _ _=>False) e s'->False) :
  OB (Oc P w) GK (.call (.ref fa) ⟨[.ref a],[]⟩) (fun r s'=>r= .ok (.ret (.bool true))/\OldK s₁.heap s'.heap/\s'.os=s₁.os/\O9 s'.gens) s₁:=by
 have rv:=Zbl hi;have lenV:=hi.length;have haP:a≠Pt:=fun z=>by
  simp_all
 have core:∀ H:Hp,(∀ b,H b=none\/(b=a/\∃ o xs,H b=some (.frz o (.lst xs)))\/(b=Pt/\H b=some (.tbl #[])))->H Pt=some (.tbl #[])->SqL K H a (ns.map V.int)->HOk P w H s₁.heap->(H a≠none->K.lookup a=none) ->
   OB (Oc P w) GK (.call (.ref fa) ⟨[.ref a],[]⟩) (fun r s'=>r= .ok (.ret (.bool true))/\OldK s₁.heap s'.heap/\s'.os=s₁.os/\O9 s'.gens) s₁:=by
  intro H hO hHP hS hok hK;have base_of:∀ {b:Vk} {o:Nd},s₁.heap.get? b=some o->H b=none->(ZgM s₁.heap H).get? b=some o:=fun e n=>Zin e n;have noA:∀ {b:Vk} {o:Nd} {es:Vm Te} {ep:Vg},s₁.heap.get? b=some o->o.data= .dict es ep->H b=none:=fun {b o es ep} e d=>by
   rcases hO b with q | ⟨rfl,_⟩ | ⟨rfl,_⟩
   ·omega
   ·rw[ha]at e;cases e
    simp_all
   ·rw[hPt]at e;cases e
    grind
  have nsK:∀ {b:Vk} {m:Vl->Vj Vi},s₁.heap.Ns b m->(ZgM s₁.heap H).Ns b m:=fun {b m} ⟨o,es,ep,e,d,r⟩=>⟨o,es,ep,base_of e (noA e d),d,r⟩
  have hKb:K.In (ZgM s₁.heap H):=fun b o e=>base_of (KX b o e) (by
   rcases hO b with q | ⟨rfl,_,_,q⟩ | ⟨rfl,q⟩
   ·omega
   ·rw[hK (by rw[q];simp)]at e;cases e
   simp_all)
  have hM:Mod K mg (ZgM s₁.heap H):=⟨hKb,nsK hns,⟨mb,nsK hb,hbb⟩,let ⟨mc,h1,h2⟩:=hlim;⟨mc,nsK h1,h2⟩⟩
  have e0:Env0 P w K mg (ZgM s₁.heap H) GK [] s₁ H:=⟨rfl,hM,fun b o e=>Zga e,Lq (ZgL _ _),trivial,fun b hb=>Vo (show b∈([]:Vd Vk)from hb) (by simp),hok,.of_eq hg⟩
  have hgP:Ol≠Pt:=fun q=>by
   obtain⟨o,es,ep,e,hd,_⟩:=hns;rw[q,hPt]at e;cases e;cases hd
  have hT:Tab mg (ZgM s₁.heap H) cc Pt:=by
   refine⟨codeHd_of_K hKb hcd,?_,hgP,?_⟩
   ·obtain⟨bm,ob,b1,b2,b3,b4,b5,b6⟩:=hbm;have hbP:bm≠Pt:=fun q=>by
     rw[q,hPt]at b3;cases b3;cases b4
    have hbG:bm≠Ol:=fun q=>by
     obtain⟨o,es,ep,e,hd,_⟩:=hns;rw[q,e]at b3;cases b3;rw[hd]at b6;cases b6
    have hbH:H bm=none:=by
     rcases hO bm with q | ⟨q,_⟩ | ⟨q,_⟩
     ·exact q
     ·rw[q,ha]at b3;cases b3;exact Vo (show VM "list" = VM "module" from b4) (by simp)
     ·exact Vo q hbP
    exact⟨bm,ob,b1,b2,hbG,hbP,base_of b3 hbH,b4,b5,b6⟩
   ·cases e:(ZgM s₁.heap H).get? Pt with
    | none=>rfl
    | some o=>rw[(Zga e).2]at hHP;cases hHP
  refine OL ((F _ hKb (nsK hns) hT).run GK [] s₁ H ⟨[.ref a],[]⟩ [.ref a] [.ref a] _ _ hr e0 (hbind s₁ (.ref a)) (.cons rfl .nil) (hsp H hHP hS)) fun r s' h=>?_;cases r with
  | error e=>exact(hCX H e s' h).elim
  | ok fl =>
   cases fl with
   | next=>exact NG h
   | brk=>exact NG h
   | cont=>exact NG h
   | ret u =>
    obtain⟨v,H',os,bare,un,hok',r',q⟩:=h;have q':v= .bl true:=q;subst q';obtain rfl:u=MY true:=r';have kp:∀ b o,b≠Pt->s₁.heap.get? b=some o->s'.heap.get? b=some o:=fun b o hb e=>by
     rcases hO b with q | ⟨rfl,ob,xs,z⟩ | ⟨q,_⟩
     ·exact un.keep b o e q (by intro z;exact Vo (show b∈([]:Vd Vk)from z) (by simp)) (by simp)
     ·have z2:=un.frzs b ob _ z;obtain⟨e1,_⟩:=hok b _ z;obtain⟨e2,_⟩:=hok' b _ z2;rw[e]at e1;cases e1;exact e2
     ·exact Vo q hb
    obtain⟨more,hm⟩:=un.tbls Pt _ hHP;have hP':s'.heap.get? Pt=some {cls:=.none,data:=.fields (#[]++more)}:=hok' Pt _ hm;refine⟨rfl,⟨fun b o e=>?_,fun b o e=>?_⟩,os,bare⟩
    ·by_cases hb:b=Pt
     ·subst hb;rw[hPt]at e;cases e;refine .inr (.inl ⟨?_,rfl,#[],more,rfl,hP'⟩);obtain⟨o,vs,_,_,_,_,_,_,_,e1,e2,e3,e4,_⟩:=codeHd_of_K KX hcd;exact⟨cc,o,vs,e1,e2,e3,e4⟩
     ·exact .inl (kp b o hb e)
    ·by_cases hb:b=Pt
     ·subst hb;exact⟨_,hP'⟩
     ·exact⟨o,kp b o hb e⟩
 cases hk:K.lookup a with
 | some o =>
  have e:=KX a o hk;rw[ha]at e;cases e;refine core (fun b=>if b=Pt then some (.tbl #[])else none) (fun b=>?_) (Vf rfl) (.inr ⟨_,vs.toArray,_,hk,rfl,rfl,rfl,by rw[Qz,lenV];exact hl,by simpa using rv⟩) (fun b u z=>?_) fun z=>Vo (if_neg haP) z
  ·by_cases hb:b=Pt
   ·exact .inr (.inr ⟨hb,Vf hb⟩)
   ·exact .inl (if_neg hb)
  ·by_cases hb:b=Pt
   ·have z':=(Vf hb).symm.trans z;cases z';rw[hb];exact hPt
   ·have z':=(if_neg hb).symm.trans z;cases z'
 | none =>
  refine core (fun b=>if b=a then some (.frz {cls:=.type "list",data:=.seq vs.toArray} (.lst (ns.map V.int)))else if b=Pt then some (.tbl #[])else none) (fun b=>?_) ((if_neg (Vy haP)).trans (Vf rfl)) (.inl (.inr ⟨{cls:=.type "list",data:=.seq vs.toArray},Vf rfl⟩)) (fun b u z=>?_) fun _=>hk
  ·by_cases hb:b=a
   ·exact .inr (.inl ⟨hb,_,_,Vf hb⟩)
   ·by_cases hb2:b=Pt
    ·exact .inr (.inr ⟨hb2,(if_neg hb).trans (Vf hb2)⟩)
    ·exact .inl ((if_neg hb).trans (if_neg hb2))
  ·by_cases hb:b=a
   ·have z':=(Vf hb).symm.trans z;cases z';subst hb;exact⟨ha,by rw[Qd];exact hl,vs,_,rv,ha⟩
   ·have z:=(if_neg hb).symm.trans z;by_cases hb2:b=Pt
    ·have z':=(Vf hb2).symm.trans z;cases z';rw[hb2];exact hPt
    ·have z':=(if_neg hb2).symm.trans z;cases z'
theorem walk_ofT {l:Mt} {K:Params->Ve} {CX:Oi->CXT} {sp:Oi->Sp}
  (hn:l.most=some n) (hn2:n<=Of) (hdf:d.params.defaults=[]) (hr:Room k GK)
  (hY:∀ (w) (h),YP w h->(K w.params).In h/\h.get? Pt=some (tabObj #[]))
  (F:∀ (w) (mg) (fa) (h),(K w.params).In h->h.Ns Ol mg->mg d.name=some (.ref fa) ->
   ∃ (fd:O7) (cc:Vk),(K w.params).lookup Pt=none/\codeHdIn (K w.params) cc Pt=true/\(∀ (s) (u),GU s fd ⟨[u],[]⟩ [(x,u)]) /\
    ∀ base,(K w.params).In base->base.Ns Ol mg->Tab mg base cc Pt->FnOk l.prog w (K w.params) mg base (CX w) k fa fd [x] (sp w))
  (hsp:∀ (w) (H) (a) (ns:Vd Vs),ns.length<=n->H Pt=some (.tbl #[])->SqL (K w.params) H a (ns.map V.int)->sp w [.ref a] H (fun v _=>v= .bl true) fun _ _ _=>False)
  (hCX:∀ (w) (H) (s) (e) (s'),CX w [] H s (fun _ _ _=>False) e s'->False) :
  Lk q loose XP YP l.row.toRowW d [] (fun f vs=>Tx f vs):=by
 refine Att.attach_call hn hdf fun w s₀ s₁ mg mb fa o pm cd doc a vs ns G Y ho hd hcd' hmg hobj hints hlen hg=>?_;obtain⟨KX,hPt⟩:=hY w _ Y;obtain⟨fd,cc,hPK,hcd,hb,hF⟩:=F w mg fa _ KX G.T.g hmg;exact Zgv KX G.T.g G.T.b G.T.builtins G.T.nolimit hg G.T.bmain hPt hPK hcd hobj hints (QK hlen hn2) hr hF hb (fun H hP hS=>hsp w H a ns hlen hP hS) fun H e s'=>hCX w H s₁ e s'
end L2
namespace Sh
open PySem L2
theorem blt_mk {K:Ve} {h:Vz} {mg:Vl->Vj Vi} (X:K.In h) (G:h.Ns Ol mg) (z0:Vw K Ol "isinstance" = some none) (z1:Vw K Ol "int" = some none) (z2:Vw K Ol "bool" = some none) (z3:Vw K Ol "str" = some none) (z4:Vw K Ol "tuple" = some none) (z5:Vw K Ol "list" = some none) (z6:Vw K Ol "len" = some none) (z7:Vw K Ol "range" = some none) (z8:Vw K Ol "all" = some none) (z9:Vw K Ol "min" = some none) (z10:Vw K Ol "sorted" = some none) (z11:Vw K Ol "reversed" = some none) (z12:Vw K Ol "zip" = some none) (z13:Vw K Ol "sum" = some none) (z14:Vw K Ol "set" = some none) (z15:Vw K Ol "dict" = some none) (z16:Vw K Ol "max" = some none) (z17:Vw K Ol "enumerate" = some none):Blt mg :=
 ⟨Vt X G z0,Vt X G z1,Vt X G z2,Vt X G z3,Vt X G z4,Vt X G z5,Vt X G z6,Vt X G z7,Vt X G z8,Vt X G z9,Vt X G z10,Vt X G z11,Vt X G z12,Vt X G z13,Vt X G z14,Vt X G z15,Vt X G z16,Vt X G z17⟩
theorem er_mk {K:Ve} {h:Vz} {mg:Vl->Vj Vi} {C:Vk} (X:K.In h) (G:h.Ns Ol mg) (t1:Vw K Ol "Apart" = some (some (.ref C))) (q1:MU K C Zn2 "ValueError.__new__" = true):XCls K mg "Apart" C (Zl1 K C):=ZjB (N3 X G t1) q1
theorem pg_mk {K:Ve} {h:Vz} {mg:Vl->Vj Vi} {C:Vk} (X:K.In h) (G:h.Ns Ol mg) (aC:Vw K Ol "Pairing" = some (some (.ref C))) (pg:Nm K C Str.empty=true) (hd:Nz K C=true) (po:N0 K C=true) (sa:Vx K (.ref C) "__setattr__" = some (some (.builtin "object.__setattr__")))
  (nc:Vx K (.ref C) "costs" = some none) (no0:Vx K (.ref C) "row_prices" = some none) (no1:Vx K (.ref C) "column_prices" = some none) (no2:Vx K (.ref C) "row_at" = some none) (no3:Vx K (.ref C) "spares" = some none) (no4:Vx K (.ref C) "came_from" = some none) (no5:Vx K (.ref C) "reached" = some none):PgC K mg C :=
 ⟨⟨pg,hd,po,sa⟩,nc,fun k hk=>(by
  match k,hk with
  | 0,_=>exact no0
  | 1,_=>exact no1
  | 2,_=>exact no2
  | 3,_=>exact no3
  | 4,_=>exact no4
  | 5,_=>exact no5
  ),N3 X G aC⟩
section
variable {K:Ve} {C f:Vk} {m qual:Vl} {st:V7} {ps:Vd Vl} {oc dV kV doc pm cdv ct:Vi} {od an:Vj Vk} {osl:Vm (Vj Vi)}
theorem hasN_mk (a:Vx K (.ref C) m=some (some (.ref f))) (i:NM K (.ref f)=true) (l:K.lookup f=some ⟨oc,od,.func (VC m qual (ZY st) (ZI st) (Zh st) dV kV doc pm an cdv ct),osl⟩) (c:V2 K cdv qual=true) (k:VS K (.ref f)=true)
  (b:∀ us:Vd Vi,us.length=ps.length->GO (VC m qual (ZY st) (ZI st) (Zh st) dV kV doc pm an cdv ct) ⟨us,[]⟩=pure (ps.zip us)):HasN K C m qual st ps cdv :=
 ⟨f,oc,od,dV,kV,doc,pm,an,ct,osl,l,c,⟨a,i,k⟩,Binds.all b⟩
theorem hasJ_mk (mk:Mp K C=true) (kc:VS K (.ref C)=true) (a:Vx K (.ref C) "__init__" = some (some (.ref f))) (i:NM K (.ref f)=true) (l:K.lookup f=some ⟨oc,od,.func (VC "__init__" qual (ZY st) (ZI st) (Zh st) dV kV doc pm an cdv ct),osl⟩) (c:V2 K cdv qual=true)
  (b:∀ us:Vd Vi,us.length=ps.length->GO (VC "__init__" qual (ZY st) (ZI st) (Zh st) dV kV doc pm an cdv ct) ⟨us,[]⟩=pure (ps.zip us)):HasJ K C qual st ps :=
 ⟨f,oc,od,dV,kV,doc,pm,cdv,an,ct,osl,l,c,⟨mk,a,i,kc⟩,Binds.all b⟩
end
theorem all_mk {l:Mt} {w:Oi} {K:Ve} {h:Vz} {mg:Vl->Vj Vi} {fa f0:Vk} (X:K.In h) (G:h.Ns Ol mg) (hfa:mg "law" = some (.ref fa)) {oc kV dc pm cd ct:Vi} {od an:Vj Vk} {sl:Vm (Vj Vi)}
  (B:Blt mg) {CA C cc:Vk} {d1 d2 d3 d4 d6 d7:Vi} (Er:XCls K mg "Apart" CA (Zl1 K CA)) (Tg:PgC K mg C) (J0:HasJ K C "Pairing.__init__" (Ye 0) ["self","costs"]) (M1:HasN K C "pair_row" "Pairing.pair_row" (Ye 1) ["self","row"] d1) (M2:HasN K C "start_search" "Pairing.start_search" (Ye 2) ["self"] d2) (M3:HasN K C "unreached" "Pairing.unreached" (Ye 3) ["self"] d3) (M4:HasN K C "look_from" "Pairing.look_from" (Ye 4) ["self","row","before"] d4) (M5:HasN K C "reach_nearest" "Pairing.reach_nearest" (Ye 5) ["self","row"] (.ref cc)) (M6:HasN K C "raise_prices" "Pairing.raise_prices" (Ye 6) ["self","row","step"] d6) (M7:HasN K C "pair_back" "Pairing.pair_back" (Ye 7) ["self","row","last"] d7) (hPK:K.lookup 178=none) (hcd:Mb K cc 178=true)
  (D0:HasDef K mg "begin_of" ZaR ["piece"])
  (D1:HasDef K mg "end_of" Zfu ["piece"])
  (D2:HasDef K mg "ties_of" Zcx ["H"])
  (D3:HasDef K mg "points_of" Y0 ["H"])
  (D4:HasDef K mg "more_out" ZaK ["H"])
  (D5:HasDef K mg "begins_of" XJ ["H"])
  (D6:HasDef K mg "ends_of" ZaQ ["H"])
  (D7:HasDef K mg "tied_points" Xv ["H"])
  (D8:HasDef K mg "part_of" ZcA ["H"])
  (D9:HasDef K mg "hangs" Zft ["H"])
  (D10:HasDef K mg "numbers_out" Xw ["ties"])
  (D11:HasDef K mg "is_way" Zfs ["ties","begin","numbers"])
  (D12:HasDef K mg "way_of" Zfp ["ties","begin"])
  (D13:HasDef K mg "text_from" XH ["ties","begin"])
  (D14:HasDef K mg "letters_to" X7 ["one","other"])
  (D15:HasDef K mg "spread" Zcy ["rows"])
  (D16:HasDef K mg "cost_table" Xd ["ends","begins"])
  (D17:HasDef K mg "link" ZjY ["end","begin"])
  (D18:HasDef K mg "links_of" ZaM ["pairing","ends","begins"])
  (D19:HasDef K mg "priced" Zcz ["points","prices"])
  (D20:HasDef K mg "filled" ZcC ["H"])
  (D21:HasDef K mg "_law_whole" ZcB ["_law_found"])
  (D22:HasDef K mg "_law_letters" Y1 ["_law_cells"])
  (D23:HasDef K mg "_law_torn" Zfr ["_law_text","_law_long"])
  (D24:HasDef K mg "_law_hangs" ZaO ["_law_heap"])
  (D25:HasDef K mg "_law_holds" ZaN ["_law_text","_law_due","_law_long"])
  (D26:HasDef K mg "_law_points" ZaL ["_law_pairs"])
  (D27:HasDef K mg "_law_copies" ZaP ["_law_text","_law_long","_law_copies_here"])
  (D28:HasDef K mg "_law_without" XI ["_law_text","_law_long","_law_piece"])
  (a0:Vw K Ol "law" = some (some (.ref f0))) (l0:K.lookup f0=some ⟨oc,od,.func (VC "law" "law" (ZY Zfq) (ZI Zfq) (Zh Zfq) .none kV dc pm an cd ct),sl⟩) (c0:V2 K cd "law" = true) (k0:VS K (.ref f0)=true) :
  ∃ (fd:O7) (cc:Vk),K.lookup 178=none/\Mb K cc 178=true/\(∀ (s:Vh) (v:Vi),GU s fd ⟨[v],[]⟩ [("_law_script",v)])/\∀ base:Vz,K.In base->base.Ns Ol mg->Tab mg base cc 178->FnOk l.prog w K mg base CX0 9 fa fd ["_law_script"] (Zhv 178 K):=by
 have e:=hfa.symm.trans (N3 X G a0);cases e;refine⟨VC "law" "law" (ZY Zfq) (ZI Zfq) (Zh Zfq) .none kV dc pm an cd ct,cc,hPK,hcd,fun s v=>.of_eq rfl,fun base _ _ Tb=>?_⟩;have W0:=ZcO (P:=l.prog) (w:=w) (base:=base) D0;have W1:=Zf8 (P:=l.prog) (w:=w) (base:=base) D1;have W2:=Zem (P:=l.prog) (w:=w) (base:=base) D2 W0 W1;have W3:=ZbF (P:=l.prog) (w:=w) (base:=base) D3 B W0 W1;have W4:=ZcK (P:=l.prog) (w:=w) (base:=base) D4 W0 W1;have W5:=ZbI (P:=l.prog) (w:=w) (base:=base) D5 B W4;have W6:=Zer (P:=l.prog) (w:=w) (base:=base) D6 B W4;have W7:=Zaf (P:=l.prog) (w:=w) (base:=base) D7 W0 W1;have W8:=Zen (P:=l.prog) (w:=w) (base:=base) D8 B (W0.mono (by decide)) W7;have W9:=ZhZ (P:=l.prog) (w:=w) (base:=base) D9 B W8 (W3.mono (by decide));have W10:=Zag (P:=l.prog) (w:=w) (base:=base) D10 B;have W11:=Zf6 (P:=l.prog) (w:=w) (base:=base) D11 B;have W12:=Zf2 (P:=l.prog) (w:=w) (base:=base) D12 B W10 W11;have W13:=ZbE (P:=l.prog) (w:=w) (base:=base) D13 B W12;have W14:=ZaX (P:=l.prog) (w:=w) (base:=base) D14 B;have W99:=ZlN (P:=l.prog) (w:=w) (base:=base) W14;have W15:=Zf3 (P:=l.prog) (w:=w) (base:=base) D15;have W17:=Zkk (P:=l.prog) (w:=w) (base:=base) D17 B W99;have W16:=ZaY (P:=l.prog) (w:=w) (base:=base) D16 B W99;have W18:=ZcL (P:=l.prog) (w:=w) (base:=base) D18 B Tg W17;have W19:=Zf4 (P:=l.prog) (w:=w) (base:=base) D19 B;have W103:=ZlM (P:=l.prog) (w:=w) (base:=base) M3 B Tg;have W102:=ZhU (P:=l.prog) (w:=w) (base:=base) M2 B Tg;have W104:=Zkj (P:=l.prog) (w:=w) (base:=base) M4 B Tg W103;have W106:=ZhW (P:=l.prog) (w:=w) (base:=base) M6 B Tg;have W107:=ZhX (P:=l.prog) (w:=w) (base:=base) M7 Tg;have W105:=ZhV (P:=l.prog) (w:=w) (base:=base) M5 B Tg Tb W103 W106;have W101:=Zki (P:=l.prog) (w:=w) (base:=base) M1 Tg (W102.mono (by decide)) W104 W105 (W107.mono (by decide));have W100:=ZhY (P:=l.prog) (w:=w) (base:=base) J0 B Tg W101;have W20:=Zf7 (P:=l.prog) (w:=w) (base:=base) D20 B Tg Er (W9.mono (by decide)) (W15.mono (by decide)) (W6.mono (by decide)) (W5.mono (by decide)) (W100.mono (by decide)) (W16.mono (by decide)) (W0.mono (by decide)) (W13.mono (by decide)) (W2.mono (by decide)) (W18.mono (by decide)) (W19.mono (by decide));have W21:=Zeo (P:=l.prog) (w:=w) (base:=base) D21 B;have W22:=ZbH (P:=l.prog) (w:=w) (base:=base) D22 B;have W23:=Zf5 (P:=l.prog) (w:=w) (base:=base) D23 B;have W24:=Zeq (P:=l.prog) (w:=w) (base:=base) D24 B;have W25:=Zep (P:=l.prog) (w:=w) (base:=base) D25 B W23;have W26:=ZcM (P:=l.prog) (w:=w) (base:=base) D26 B W21;have W27:=ZcN (P:=l.prog) (w:=w) (base:=base) D27 B (W23.mono (by decide)) W20 (W25.mono (by decide)) (W26.mono (by decide));have W28:=ZbG (P:=l.prog) (w:=w) (base:=base) D28 B (W23.mono (by decide)) (W24.mono (by decide)) W20 (W25.mono (by decide));exact ZlO (ZgQ (st:=Zfq) l0 c0 k0) B (W22.mono (by decide)) W27 W28
theorem walk {l:Mt} {q:Oh} {loose:Vd Vl} {XP:(Vl->Vj Vi)->Vz->Prop} {YP:Oi->Vz->Prop} {d:DefRec} {K:Params->Ve} (hn:l.most=some 63) (hdf:d.params.defaults=[])
  (hY:∀ (w:Oi) (h:Vz),YP w h->(K w.params).In h/\h.get? 178=some (TQ #[]))
  (F:∀ (w:Oi) (mg:Vl->Vj Vi) (fa:Vk) (h:Vz),(K w.params).In h->h.Ns Ol mg->mg d.name=some (.ref fa) ->
   ∃ (fd:O7) (cc:Vk),(K w.params).lookup 178=none/\Mb (K w.params) cc 178=true/\(∀ (s:Vh) (u:Vi),GU s fd ⟨[u],[]⟩ [("_law_script",u)])/\∀ base:Vz,(K w.params).In base->base.Ns Ol mg->Tab mg base cc 178->FnOk l.prog w (K w.params) mg base CX0 9 fa fd ["_law_script"] (Zhv 178 (K w.params))) :
  Lk q loose XP YP l.row.toRowW d [] (fun f vs=>Tx f vs) :=
 L2.walk_ofT (Pt:=178) (n:=63) (k:=9) (x:="_law_script") (CX:=fun _=>CX0) (sp:=fun w=>Zhv 178 (K w.params)) hn (by decide) hdf ⟨rfl,by decide,by decide⟩ hY F (fun _ _ a ns hl hP hS=>⟨a,ns,rfl,hS,hl,.inl hP,fun _=>rfl⟩) fun _ _ _ _ _ z=>z
end Sh
def PySem.W.Fast.tw5873062279326904613:VB:=()
def PySem.W.Fast.tw17793519049337373883:VB:=()
def PySem.W.Fast.tw1244916290365758783:VB:=()
def PySem.W.Fast.tw6985549126133217900:VB:=()
def PySem.W.Fast.tw18270074073088877461:VB:=()
def PySem.W.Fast.tw16022638428248567830:VB:=()
def PySem.W.Fast.tw14261650192609836380:VB:=()
def PySem.W.Fast.tw8740748849830896207:VB:=()
def PySem.W.Fast.tw10526572117009083920:VB:=()
def PySem.W.Fast.tw4962208037967397037:VB:=()
def PySem.W.Fast.tw3914663719789612427:VB:=()
def PySem.W.Fast.tw13249097178208818339:VB:=()
def PySem.W.Fast.tw16851077364634350561:VB:=()
def PySem.W.Fast.tw10706733548037877911:VB:=()
def PySem.W.Fast.tw10261889076641002022:VB:=()
def PySem.W.Fast.tw13377370750091927357:VB:=()
def PySem.W.Fast.tw12123171916234786667:VB:=()
def PySem.W.Fast.tw4639340538697535060:VB:=()
def PySem.W.Fast.tw2977189326928745426:VB:=()
def PySem.W.Fast.tw5641639208905716507:VB:=()
def PySem.W.Fast.tw12360469323520151032:VB:=()
def PySem.W.Fast.tw2133359233694020481:VB:=()
def PySem.W.Fast.tw8775042184174859780:VB:=()
def PySem.W.Fast.tw5831823644352278896:VB:=()
def PySem.W.Fast.tw12896924039868052469:VB:=()
def PySem.W.Fast.tw7543284235615698647:VB:=()
def PySem.W.Fast.tw3949856743930965786:VB:=()
def PySem.W.Fast.tw15808135208858018619:VB:=()
def PySem.W.Fast.tw17429038034540380893:VB:=()
def PySem.W.Fast.tw3006765010388145452:VB:=()
def PySem.W.Fast.tw2589540389389635917:VB:=()
def PySem.W.Fast.tw15064551502656740477:VB:=()
def PySem.W.Fast.tw12417490912369683371:VB:=()
def PySem.W.Fast.tw8760838049330048479:VB:=()
def PySem.W.Fast.tw4892799374594050344:VB:=()
def PySem.W.Fast.tw9240206867084504086:VB:=()
def PySem.W.Fast.tw17774748852889749516:VB:=()
def PySem.W.Fast.tw15653990694512170752:VB:=()
def PySem.W.Fast.tw3899781509987151389:VB:=()
def PySem.W.Fast.tw8756443331604674076:VB:=()
def PySem.W.Fast.tw11523185035128755231:VB:=()
def PySem.W.Fast.tw11662203115799580088:VB:=()
def PySem.W.Fast.tw3557940602590501833:VB:=()
def PySem.W.Fast.tw16098876185825303001:VB:=()
def PySem.W.Fast.tw13902056239701100413:VB:=()
def PySem.W.Fast.tw1016520992090352336:VB:=()
def PySem.W.Fast.tw13264121332483348544:VB:=()
def PySem.W.Fast.tw11975149483857366751:VB:=()
def PySem.W.Fast.tw17244574690009838560:VB:=()
def PySem.W.Fast.tw4356475118378257170:VB:=()
def PySem.W.Fast.tw17124518285769877388:VB:=()
def PySem.W.Fast.tw8958763150700454599:VB:=()
def PySem.W.Fast.tw4406446870590020146:VB:=()
def PySem.W.Fast.tw3626709572713129175:VB:=()
def PySem.W.Fast.tw1584733965460381766:VB:=()
def PySem.W.Fast.tw3224511004634962310:VB:=()
def PySem.W.Fast.tw7924674067239393872:VB:=()
def PySem.W.Fast.tw2871410644496295940:VB:=()
def PySem.W.Fast.tw16548153777163477369:VB:=()
def PySem.W.Fast.tw14653357768210948286:VB:=()
def PySem.W.Fast.tw13511696638379194073:VB:=()
def PySem.W.Fast.tw1521750969452885577:VB:=()
def PySem.W.Fast.tw2846615402721290475:VB:=()
def PySem.W.Fast.tw9341058831523350522:VB:=()
def PySem.W.Fast.tw12964847459946502792:VB:=()
def PySem.W.Fast.tw13687516244967450724:VB:=()
def PySem.W.Fast.tw13251658394801791063:VB:=()
def PySem.W.Fast.tw14137854709992311389:VB:=()
def PySem.W.Fast.tw5089041186599431546:VB:=()
def PySem.W.Fast.tw16761458102912259033:VB:=()
def PySem.W.Fast.tw14412847065558535139:VB:=()
def PySem.W.Fast.tw61800740800447070:VB:=()
def PySem.W.Fast.tw6321911818837024164:VB:=()
def PySem.W.Fast.tw12122529348415403974:VB:=()
def PySem.W.Fast.tw2243119204184904102:VB:=()
def PySem.W.Fast.tw12498641886183536572:VB:=()
def PySem.W.Fast.tw5940025331066835255:VB:=()
def PySem.W.Fast.tw12531905613700903773:VB:=()
def PySem.W.Fast.tw15080519542057281294:VB:=()
def PySem.W.Fast.tw7740113766241453069:VB:=()
def PySem.W.Fast.tw17246150624248445528:VB:=()
def PySem.W.Fast.tw3155066967300766755:VB:=()
def PySem.W.Fast.tw8071507037047844139:VB:=()
def PySem.W.Fast.tw735050222773609070:VB:=()
def PySem.W.Fast.tw8947752561087478813:VB:=()
def PySem.W.Fast.tw1565629546795758994:VB:=()
def PySem.W.Fast.tw11527367965977398859:VB:=()
def PySem.W.Fast.tw9096353657009815393:VB:=()
def Pb{P:List α->Prop}(f:∀x,P [x]):∀l:List α,l.length=1->P l
 |[x],_=>f x
def Pa{P:List α->Prop}(f:∀x y,P [x,y]):∀l:List α,l.length=2->P l
 |[x,y],_=>f x y
def Pd{P:List α->Prop}(f:∀x y z,P [x,y,z]):∀l:List α,l.length=3->P l
 |[x,y,z],_=>f x y z
open PySem PySem.W PyProof.Rows
set_option maxRecDepth 100000 in
theorem PySem.Challenge.cw_shredjoin_k73_filled_of_texts_holds : PySem.Challenge.rw_shredjoin_k73_filled_of_texts.Holds := by
 w_on; o_law; k_head; (case hw => w_witness2)
 k_fill
 refine Sh.walk (l := PySem.Challenge.rw_shredjoin_k73_filled_of_texts) rfl rfl (fun w h Y => ⟨PySem.W.km_in_of Y, PySem.W.km_tabs_of Y _ (List.mem_singleton.mpr rfl)⟩) ?F
 case F =>
  intro w mg fa h KX G hmg
  refine' Sh.all_mk KX G hmg ?B ?Er ?Tg ?J0 ?M1 ?M2 ?M3 ?M4 ?M5 ?M6 ?M7 ?hPK ?hcd ?D0 ?D1 ?D2 ?D3 ?D4 ?D5 ?D6 ?D7 ?D8 ?D9 ?D10 ?D11 ?D12 ?D13 ?D14 ?D15 ?D16 ?D17 ?D18 ?D19 ?D20 ?D21 ?D22 ?D23 ?D24 ?D25 ?D26 ?D27 ?D28 ?a0 ?l0 ?c0 ?k0
  case B =>
   refine' Sh.blt_mk KX G ?z0 ?z1 ?z2 ?z3 ?z4 ?z5 ?z6 ?z7 ?z8 ?z9 ?z10 ?z11 ?z12 ?z13 ?z14 ?z15 ?z16 ?z17
   (case z0 => k_is); (case z1 => k_is); (case z2 => k_is); (case z3 => k_is); (case z4 => k_is); (case z5 => k_is); (case z6 => k_is); (case z7 => k_is); (case z8 => k_is); (case z9 => k_is); (case z10 => k_is); (case z11 => k_is); (case z12 => k_is); (case z13 => k_is); (case z14 => k_is); (case z15 => k_is); (case z16 => k_is); (case z17 => k_is)
  case Er =>
   refine' Sh.er_mk KX G ?t1 ?q1
   (case t1 => k_is); (case q1 => k_exc)
  case Tg =>
   refine' Sh.pg_mk KX G ?aC ?pg ?hd ?po ?sa ?nc ?no0 ?no1 ?no2 ?no3 ?no4 ?no5
   (case aC => k_is); (case pg => k_is); (case hd => k_is); (case po => k_is); (case sa => k_is); (case nc => k_is); (case no0 => k_is); (case no1 => k_is); (case no2 => k_is); (case no3 => k_is); (case no4 => k_is); (case no5 => k_is)
  case J0 =>
   refine' Sh.hasJ_mk ?mk ?kc ?a ?i ?l ?c ?b
   (case mk => k_is); (case kc => k_is); (case a => k_is); (case i => k_is); (case l => k_is); (case c => k_is)
   case b => exact Pa fun _ _=>rfl
  case M1 | M5 =>
   refine' Sh.hasN_mk ?a ?i ?l ?c ?k ?b
   (case a => k_is); (case i => k_is); (case l => k_is); (case c => k_is); (case k => k_is)
   case b => exact Pa fun _ _=>rfl
  case M2 | M3 =>
   refine' Sh.hasN_mk ?a ?i ?l ?c ?k ?b
   (case a => k_is); (case i => k_is); (case l => k_is); (case c => k_is); (case k => k_is)
   case b => exact Pb fun _=>rfl
  case M4 | M6 | M7 =>
   refine' Sh.hasN_mk ?a ?i ?l ?c ?k ?b
   (case a => k_is); (case i => k_is); (case l => k_is); (case c => k_is); (case k => k_is)
   case b => exact Pd fun _ _ _=>rfl
  case D0 | D1 | D2 | D3 | D4 | D5 | D6 | D7 | D8 | D9 | D10 | D15 | D20 | D21 | D22 | D24 | D26 =>
   refine' L2.hasDef_mk KX G ?a ?l ?c ?k ?b
   (case a => k_is); (case l => k_is); (case c => k_is); (case k => k_is)
   case b => exact fun _ _ _ _ _ _=>Pb fun _=>rfl
  case D11 | D18 | D25 | D27 | D28 =>
   refine' L2.hasDef_mk KX G ?a ?l ?c ?k ?b
   (case a => k_is); (case l => k_is); (case c => k_is); (case k => k_is)
   case b => exact fun _ _ _ _ _ _=>Pd fun _ _ _=>rfl
  case D12 | D13 | D14 | D16 | D17 | D19 | D23 =>
   refine' L2.hasDef_mk KX G ?a ?l ?c ?k ?b
   (case a => k_is); (case l => k_is); (case c => k_is); (case k => k_is)
   case b => exact fun _ _ _ _ _ _=>Pa fun _ _=>rfl
  case hPK => kernel_rfl
  case hcd => kernel_rfl
  (case a0 => k_is); (case l0 => k_is); (case c0 => k_is); (case k0 => k_is)
#print axioms PySem.Challenge.cw_shredjoin_k73_filled_of_texts_holds
