import PyProof.Rows.All
import Wide.All
import OpenK.AllK
import PySem.Challenge.RW_shredjoin_k72_whole_filled
open List renaming getElem?_eq_getElem->Qa,getD_eq_getElem?_getD->Qb,length_map->Qd,length_append->Qg,getElem?_map->Qi,getElem?_eq_some_iff->Qj,mem_cons_of_mem->Qm,mem_cons_self->Qo,length_singleton->Qp,mem_singleton->Qq,getElem?_eq_none->Qr,mem_cons->Qs,mem_range->Qu,replicate->Qw,size_toArray->Qy,range->Qz,mem_append->QA,getElem?_append_right->QC,length_take->QD,getElem?_append_left->QF,getElem_mem->QH,length_cons->QI,mem_append_right->QJ,map_append->QK,append_assoc->QL,mem_append_left->QM,take_succ_eq_append_getElem->QO,length_range->QU,pairwise_append->QV,ext_getElem?->QY,mem_of_mem_take->QZ,map_cons->Q3,take_of_length_le->Q4,length_reverse->Q5,mem_map->Q6,not_mem_nil->Q7,take_length->Q8,nodup_cons->Q9,length_eq_zero_iff->Wa,length_replicate->Wb,sum_cons->Wc,getElem?_range->Wd,mem_of_getElem?->We,mem_filter->Wf,pairwise_iff_getElem->Wh,length_drop->Wi,take_append_drop->Wj,map_congr_left->Wl,mem_of_mem_drop->Wm,filter_cons->Wo,nodup_range->Wp,length_pos_of_mem->Ws,pairwise_map->Wt,map_map->Ww,length_erase_of_mem->Wx,getElem?_replicate->Wz,getElem_of_mem->WC,getElem?_eq_none_iff->WD,range_succ->WE,eq_nil_or_concat->WF,lookup_cons->WG,filter_append->WH,append_nil->WK,map_singleton->WM,concat_eq_append->WN,length_nil->WR,nodup_append->WT,count_eq_zero_of_not_mem->WU,replicate_succ->WV,map_replicate->WY,mem_erase_of_ne->Ua,nodup_nil->Ub,mem_reverse->Ud,find?_cons->Ue,sum_append->Uf,mem_replicate->Uh,length->Uj,pairwise_lt_range->Ul,reverse_perm->Um,lt_irrefl->Uo,perm_append_comm->Uq,countP_eq_length_filter->Ur,getElem_inj->Us,nil_append->Ux,count_singleton_self->Uy,drop_drop->Uz,flatten_cons->UB,count_append->UD,lookup->UE,any_cons->UG,all_eq_true->UJ,mem_flatMap->UK,length_filter_le->UL,getElem?_set_ne->UM,length_dropLast->UN,filterMap_cons->UP,take_zero->UR,range'->US,mem_filterMap->UT,reverse_cons->U0,getElem?_take_of_lt->U1,idxOf?_eq_some_iff->U5,of_mem_zip->U6,foldl_cons->U7,getElem?_set_self->U8,not_lt->U9,drop_zero->Rb,getElem?_reverse->Rc,dropLast_eq_take->Re,length_eraseIdx->Rg,perm_cons_erase->Rh,count_replicate->Ri,count_singleton->Rj,take_add->Rl,flatMap_append->Rn,mem_map_of_mem->Ro,pairwise_cons->Rq,take_add_one->Rt,filter_congr->Rv,cons_ne_nil->RA,map_reverse->RC,mem_flatten->RD,length_set->RE,foldl->RF,all_cons->RJ,lt_trans->RK,sum_nil->RM,map->C0,Perm->BI
open Nat renaming le_refl->Qh,ne_of_lt->QB,zero_le->QN,lt_of_lt_of_le->QP,le_trans->QR,lt_irrefl->Q2,not_lt_zero->Wn,lt_of_le_of_lt->Wq,lt_or_ge->Wr,sub_self->Wv,le_of_lt->WP,lt_trichotomy->WS,lt_succ_of_lt->WZ,ne_of_gt->Uc,le_succ->Ui,le_add_right->Ut,add_sub_cancel_left->UA,lt_succ_self->UI,not_lt->UO,le_succ_of_le->UY,mul_le_mul->Ra,add_assoc->Rk,zero_add->Rp,add_sub_cancel->Rr,le_of_not_lt->Ry,min_eq_left->RG,sub_eq_zero_of_le->R5,add_le_add_left->Tx,le_of_eq->TH,lt_of_le_of_ne->TM,le_antisymm->L7,add_le_add_right->KW,add_sub_cancel'->Du,lt_trans->DV,add_sub_of_le->DX,sub_pos_of_lt->DY,le_add_left->Fv,min_le_left->Fw,sub_le->FF,ne_add_one->FG,sub_add_eq->FH,mul_comm->CI,add_zero->CL,succ_pos->CM,mod_lt->Bk
open Int renaming toNat_natCast->QX,emod_lt_of_pos->Ug,le_refl->Uu,emod_nonneg->Uw,zero_add->U2,mul_zero->U3,eq_ofNat_of_zero_le->U4,toNat_of_nonneg->Rm,mul_one->Rw,mul_nonneg->RI,toNat_sub->DC,sub_zero->DW,zero_sub->CF,le_of_lt->CG
open Array renaming length_toList->Qx,getElem?_eq_getElem->QT,getElem?_toList->QW,getD_eq_getD_getElem?->Wy,perm_iff_toList_perm->WA,size_push->WL,getElem?_eq_none->Uk,size_append->UC,getElem?_extract->UF,toList_setIfInBounds->UV,getElem?_eq_some_iff->UW,toList_push->UZ,size_extract->Rs,toList_inj->Rz
open Option renaming map_some->Wg,map_eq_some_iff->WB,isSome_iff_exists->WQ,getD_some->WW,none_or->UQ,isSome_some->UU,isSome_map->UX,getD_none->Rx,bind_some->RB,some_or->RH,none->CW
open PySem.Heap renaming get?_push_of_some->Qc,get?_push_size->Qk,lt_size->Ql,get?_update_other->QG,get?_update_self->QQ,size_push->Wu,get?_none_of_le->Rf,SameBut->NV,FlyingW->CK,ExtBut->C3
open Bool renaming false_ne_true->QS,and_eq_true->Q0,false_eq_true->WX,eq_iff_iff->Uv,or_false->UH,eq_false_iff->Ru,true_and->RL
open PySem renaming wpAny_bind->Oa,wpAny_pure->Ob,model->Oc,sizeLine->Od,wpAny->Oe,Program->Oh,starEach->Oi,mainGlobals->Oj,World->Ol,wpAny_call_entry->Om,wpAny_holding->On,wpAny_field->Oo,bootBuiltins->Op,wpAny_setField_rec->Oq,wpAny_mono->Os,wpAny_newObj_type->Ot,wpAny_of_eq->Ou,codeAny_builtin->Ov,wpAny_seqItems->Ow,wpAny_attempt->Ox,plainId_quiet->Oy,sizeLine_eq->Oz,wpAny_Call_Name_kw->OA,wpAny_updateSeq->OC,rawInt->OD,backTo->OE,codeAny->OF,wpAny_specialOf->OG,wpAny_isInstance->OH,IsPair->OI,compareOp->OJ,wpAny_askSetting->OK,wpAny_rule->OL,codeAny_mono->OM,wpAny_truthy_bool->ON,attributeBase->OO,sysModules->OQ,keywordEach->OR,wpAny_passesOwn->OT,wpAny_pyIter_list->OU,binaryOp->OV,wpAny_getItem_str_slice->OW,behindInMarks->OX,wpAny_execs_nil->OY,tupleKind_room_in1->OZ,typeIs_str->O0,wpAny_letGo->O5,cLine->O6,isSubtype_stop->O7,wpAny_tryCatch->O8,assignEach->O9,backToKw->Ga,pyNext->Gb,relabel->Gd,FuncData->Ge,wpAny_typeOf->Gf,ZipApart->Gg,holding->Gi,wpAny_call->Gj,typeLookup->Gk,wpAny_setField->Gm,foldedSetIterable->Gn,wpAny_standAt->Gp,IsZip->Gr,wpAny_execs_cons->Gs,swapsWith->Gu,getMethod->Gv,cellsFrom->Gw,letOwnedTupleGo->Gy,call_meets->Gz,post_val_or_str->GA,wpAny_ite_false->GB,getItem->GC,recursionLimit->GD,Keyword->GE,newFunctionEnv->GF,wpAny_newTuple->GG,relayAll->GH,setField->GI,subscripted->GJ,sliceBounds->GK,pyIter->GL,wpAny_newList->GM,builtinsNs->GN,wpAny_Name->GO,standAt->GR,callerA->GS,callWith->GT,Result->GU,bindArgs->GV,call_meetsIn->GW,entryFor->GX,argsOk->GY,tupleKind->GZ,Arguments->G0,scanBound->G2,excClassObj->G3,BindsTo->G4,valueAt->G5,wpAny_load->G7,atKey->G8,closureFor->G9,pushCells->Va,bindL->Vb,bindC->Vc,compEnvC->Ve,assign->Vf,InLong->Vg,setItem->Vh,operate->Vi,collect->Vj,Shared->VF,Value->VG,Addr->VH,Str->VI,wpAny_callSpecial?_slot->VW,Heap->Nu,Around->NC,mem_of_lookup->NM,Builtin->NP,eval->NQ,Stmt->Mv,Obj->MQ,pickOrder->MZ,wpAny_comprehension_free->RQ,wpAny_nextOf_list_item->R4,builtinLookup_eq_fast->R8,codeAny_call_builtin->W2,codeAny_extend_loopS->W3,ItemsOf->TL,wpAny_assign_Name->LA,wpAny_pyIter_slot->LC,wpAny_getItem_list_slice->LD,wpAny_Call_method0_late->LM,wpAny_pyIter_zip->LO,wpAny_pyNext_range_end->LS,wpAny_pyIter_rangeiter->LU,codeAny_compStart_list->LY,codeAny_of_tree->KG,wpAny_ite_split->KH,typeLookup_type->KI,wpAny_isTrue_Compare1->KL,exec_Assign_Name_used->KO,wpAny->KY,wpAny_loadName_local->KZ,wpAny_newFunctionEnv->Df,wpAny_runValue->Dm,entryFor_alias->Dn,callType_codes->Dp,wpAny_ite_true->Dr,wpAny_updateSeq_pair->Ds,wpAny_loadName_free->Dw,evalArgs_none->Dx,wpAny_isSubtype_exc->Dy,wpAny_setEntries_of->DB,Sem->DE,wpAny_handled->DG,wpAny_onRaise->DI,signature?_of->DJ,Paired->DO,wpAny_pyIter_tuple->DP,wpAny_pyIter_range->DQ,Within->SA,Pos->SD,wpAny_Call_method->SH,seqIndex_neg->SI,wpAny_loadPart_at->SK,SetTable->SR,wpAny_storeSet_of->SS,fits_of_scanBound->SU,wpAny_setState_of->SV,wpAny_pyIter_enum->SY,wpAny_eqBool_str->Fe,entryFor_of_tree->Fn,seqIndex_of->Fo,wpAny_throw->Ft,wpAny_Expr_any->FI,wpAny_loadPart->FJ,typeIs_int->FK,PlainAttrs->FL,call->FN,NameKind->FO,PyData->FP,isSubtype_type->FV,seqIndex?->Cy,seqItems?->CC,Walks->CD,Slot->CH,raiseNew->C1,typeOf->C6,layNew->C9,Env->BH
open PyProof.Rows renaming arrOf->Of,Keyed->Og,pendingOf->OB,failedOf->OP,elem'->OS,mirror->O3,SortKind->O4,envOfC->Gc,AllBare->Gh,seqObj->Go,reverseSlice'->Gq,StrsAre->Gx,Subscript_->GP,setPending->GQ,setArr->G6,IntsAre->Vd,SortSt->VX,callWith_type1->VY,kindOf->NK,subscriptTail_builtinR->LX,entry_list_sort->KD,slot_list_sort->Di,args_list_sort->Dl,getElem?_mirror_all->Dz,listUpdate_at->DF,plain_sorted->SN,entry_sorted->SO,args_sorted1->SQ,callWith_builtin1->Fg,slice_closes_toL->Fi,seqEpoch_at->Fq,kind_sorted->Fs,getElem?_bubble->Fy,get?_update_seq->Fz,tail_any->CV,oneType'->CZ,ltAt'->BD
open _root_ renaming List->VA,Nat->VC,if_pos->VD,Option->VE,Array->VL,absurd->VM,Int->VN,decide_eq_false->VO,decide_eq_true->VR,congrArg->NA,decide_eq_true_eq->NO,ForInStep->NW,Bool->NY,of_decide_eq_true->MC,StateT->MF,String->RY,if_false->TU,not_or->T5,le_of_eq_of_le->KU,if_true->Dt,True->DZ,bne_self_eq_false->SM,Decidable->Fh,beq_self_eq_true->Fj,dif_pos->FE,beq_iff_eq->FU
open PySem.W renaming Frag->VB,nsIn->VT,mg_none_of->VU,findIn->VZ,fnOf->ND,kia_one->NR,mg_of->NS,keepIn->NU,codeIn->MB,instObj->ME,emptyDict->MM,kitOne->MS,plainGet->MX,mroIn->RP,excIn->RS,hideAll->RU,callWith_K->RV,hasDictIn->RZ,plainGet_of->TC,isFn->TK,of_hideAll->TN,lookIn->TR,plainOver->LB,codeHdIn->LP,kasC->LR,cellsFrom_some->LV,takerIn->KA,makesIn->KC,OpenLaw->KJ,methodCall_KW->KN,CodeHd->Dq,hideAll_get->Dv,specialIn->SE,kitx_list->SF,kitx_dict->SG,kdx_alive->Fd,handedIn->Ff,takesIn->Fx,tabObj->FW,kitAny->FZ,clsIn->Cu,WalkO->Cw
open Sum renaming inr->VJ,inl->FD
open PySem.PassesOwn renaming never->VP
open Option.some renaming inj->VQ,injEq->SJ
open Ne renaming symm->VS
open PySem.Value renaming type->NB,none->NI,int->RW,bool->DN,isStrOf->Ce,builtin->Ct,isInt->CP,str->BG
open PySem.Obj renaming mapSeq->NF,data_mapFields->MK,isFreed_of_fields->R7,cls_mapFields->Fb,putSet->FR,mapFields->Cv
open PySem.Builtin.List renaming listSameRef->NG,listLengthHint->MH,listExtendWith->MI,listTooLong->MO,listFitsIndex->MU
open PySem.Txt renaming slice->NH,join->TV,startswith->TZ,mul->CJ
open PySem.Calls renaming spliced_cons->NL,spliced_nil->NZ,callWith_builtin->MG,evalArgs_plain->MT,call_function_entry->RN,Name_function_global->TQ
open True renaming intro->NN
open Classical renaming byContradiction->NT,choose->Fm
open PySem.NameKind renaming cell->NX,free->MA
open PySem.PyData renaming canLayAll0->MD,int->ML,depthAll->MR,depth->Fc,bool->Fp,eqv->FQ,canLay0->FY,strOk->CN,tuple->CO
open Break.runK renaming match_1->MJ
open PySem.SeqAt renaming shaped->MN,EqAt->C5
open PySem.Heap.SameBut renaming update->MP,refl->BE
open PySem.SetTable renaming below->MV,grown->R1
open PySem.Around renaming under_plainId->MW
open LawfulBEq renaming eq_of_beq->MY
open PyProof.Rows.F renaming entry_set_update_loop->RO,plain_set_update_loop->DA
open List.Pairwise renaming imp_of_mem->RT,nil->BC,and->BF
open PySem.F renaming plainAttrs_dict->RX,slot_dict_get->R6,slot_dict_setdefault->Tn,excBase_ValueError->TX,plain_extend_loop->Lf,args_dict_get_3->LK,slot_dict_items->LN,entry_dict_get->LW,slot_set_iter->KS
open PySem.Str renaming join->R0,ofString->SW,length->C7
open List.Perm renaming refl->R3,append_left->KR
open False renaming elim->R9
open ForInStep renaming yield->W5
open Array.Perm renaming refl->W7
open PySem.Builtin.Getset_descriptor renaming descrCheckInstance->TY,descrNameAndClass->YP,descrGetter->LQ,descrGet->KP
open PySem.Builtin.SmallTypes renaming nextOf->Ls,newRecord->FC
open PySem.Builtin.Frozenset renaming sizeOf->LF,updateFrom->FA,newClass->FT
open PySem.pickOrder renaming go->LZ
open PySem.Paired renaming length->DD,snoc->CU
open PySem.SeqAt.EqAt renaming int_str->DL,str_int->DM
open PySem.Walks renaming list->DS,range->CS
open PySem.EqNone renaming eq_none_none->F0,eq_none_bool->F2,eq_bool_none->F4,ne_none_none->F8,ne_none_bool->F9,ne_bool_none->Ca,eq_none_int->Cf,eq_none_str->Cg,eq_int_none->Ci,eq_str_none->Ck,ne_none_int->Cn,ne_none_str->Co,ne_int_none->Cp,ne_str_none->Cr
open PySem.EqMixed renaming eq_bool_str->F5,eq_str_bool->F7,ne_bool_str->Cb,ne_str_bool->Cc,eq_int_str->Cj,eq_str_int->Cm,ne_int_str->Cq,ne_str_int->Cs
noncomputable section
set_option maxHeartbeats 0
set_option Elab.async false
set_option linter.all false
set_option compiler.extract_closed false
set_option maxRecDepth 100000
section
variable{a b c d e f g h i j k l m:VC}{x y z w u v t s r q p o n:VN}
def Ka:a+3*(c+b)+d<e->a+b+3*c+d<e:=by omega
def Kb:a<=a+b:=Ut a b
def Kc:¬(y<=x)->x<y:=Int.lt_of_not_ge
def Kd:c<=b->c=a->a<=b:=fun A B=>KU B.symm A
def Ke:a=c->b<c->¬(a<=b):=by omega
def Kf:a=b->a<=b:=TH
def Kg:0<=x->x<(a:VN)->x.toNat<a:=fun A B=>(Int.toNat_lt A).mpr B
def Kh:c<b->a<c->a<b:=fun A B=>DV B A
def Ki:a<b->a≠b:=QB
def Kj:a<c->b=c->a<b:=fun A B=>Nat.lt_of_lt_of_eq A B.symm
def Kk:c<=b->a=c->a<=b:=fun A B=>KU B A
def Kl:d<=b->a<=d+c->a<=b+c:=by omega
def Km:¬((a:VN)<0):=Int.not_ofNat_neg a
def Kn:c<b->a<=b-1->a+1<=b:=by omega
def Ko:x<=x:=Uu x
def Kq:w<=y->x=w->z<=w->x-y+z<=w:=by omega
def Kr:¬(b<a)->a<=b:=Ry
def Ks:a<=1000->a<=16777216:=by omega
def Kt:a<=100->b<=100*c->a+b<=100*(c+1):=by omega
def Ku:x<=x+(a:VN):=Int.le.intro a rfl
def Kv:a=b->a<=b+c:=fun A=>Nat.le.intro (congrFun (NA HAdd.hAdd A) c)
def Kw:0<=a:=QN a
def Kx:a<a+1:=Nat.lt_add_one a
def Ky:a<b+1->¬(a=b)->a<b:=by omega
def Kz:a<b->a<b+c:=fun A=>Nat.lt_add_right c A
def K1:a<0->False:=fun A=>Nat.not_succ_le_zero a A
def K4:a+c<=b->a<=b:=Nat.le_of_add_right_le
def K5:((a:VN)-(b:VN)).toNat=a-b:=DC a b
def K6:¬(b<a)->¬(b=a)->a+1<=b:=by omega
def K7:a<=a:=Kf rfl
def K8:c=b->a<c->a<b:=fun A B=>Kj B A.symm
def K9:a=c->b=c->a=b:=by omega
def Xo:b<a->a-(b+1)<a-b:=fun A=>Nat.sub_succ_lt_self a b A
def Vk:a<=b->¬(a<b)->a=b:=by omega
def Vl:a<=c->a+b<=c+b:=fun A=>KW A b
def Vm:a<b->a<=b:=Nat.le_of_succ_le
def Vn:c<b->a<=c+1->a<=b:=fun A B=>QR B A
def Vo:d+e<=c->d=a->e=b->a+b<=c:=by omega
def Vp:a<=b->a<=b+c:=Nat.le_add_right_of_le
def Vq:(a:VN)<(b:VN)->a<b:=Int.ofNat_lt.mp
def Vr:a<b->¬(a+1=b)->a+1<b:=TM
def Vs:(max a b)+1<=c->c+d+e=b->False:=by omega
def Vt:b<a->a-1<a:=Nat.sub_one_lt_of_lt
def Vu:¬(a=0)->1<=a:=Nat.one_le_iff_ne_zero.mpr
def Vv:a-b<=a:=FF a b
def Vw:a<=b->b<=a->a=b:=L7
def Vx:c<=b->a<=c->a<=b:=fun A B=>QR B A
def Vy:a=c->b=c->a<=b:=by omega
def Vz:c<d->a<c->b=d->a<b:=fun h k e=>e▸DV k h
def V0:x-(0:VN)=x:=DW x
def V1:a<=b-1->c<b->a=b->False:=by omega
def V2:(-((a+1:VC):VN))<=(-1):=Rat.intCast_le_intCast.mp rfl
def V3:((-1)+((a+1:VC):VN)).toNat=a:=by omega
def V4:a<(b:VN).toNat->a<=b:=Vm
def V5:a<b+1->¬(a<b)->a=b:=Nat.eq_of_lt_succ_of_not_lt
def V6:a<b->a=b->False:=by omega
def V7:a<=b->b<a->False:=by omega
def V8:a<=990->a<1000:=by omega
def V9:¬(a=0)->0<a:=Nat.zero_lt_of_ne_zero
def Ta:0-x=(-x):=CF x
def Tc:b<a->¬(a=b):=Nat.ne_of_lt'
def Td:¬(0<a)->a=0:=Nat.eq_zero_of_not_pos
def Te:a<=b->(min a b)=a:=RG
def Tf:d=b->a<d->a<b+c:=by omega
def Th:a=b->a<b+1:=by omega
def Ti:b<=301->a<=2*(min c b)->a<=1000:=by omega
def Tj:b<=2*(min c d)->a<=b+1->d<=301->a<=1000:=by omega
def Tk:x-y=x+(-y):=Int.sub_eq_add_neg
def Tl:b<=301->a<=2*b->a<=1000:=by omega
def Tm:x<y->x<=y:=CG
def To:1<=b->a=b->0<(a:VN):=by omega
def Tp:1<=a->(a:VN)≠0:=Int.natCast_ne_zero_iff_pos.mpr
def Tq:1<=a->0<(a:VN):=Int.natCast_pos.mpr
def Tr:0<=x->x=((x.toNat:VC):VN):=Int.eq_natCast_toNat.mpr
def Tt:(a:VN)+1=((a+1:VC):VN):=Int.ofNat_add_one_out a
def Tu:b<=100->a=b->a<=16777216:=by omega
def Tv:a<=63->a<=16777216:=by omega
def Tw:0<=(a:VN):=Int.natCast_nonneg a
def Ty:0+x=x:=U2 x
def Tz:0+x+y=x+y:=by omega
def T4:a<=b+a:=Fv a b
def T6:b<=a->((a:VN)-(b:VN)+1).toNat=a-b+1:=fun h=>by rw[←Int.ofNat_sub h];rfl
def T7:a<c-b+1->b<=c->a+b<=c:=by omega
def T8:a<=6->a<=100:=by omega
def T9:(0<=x/\x<y)->x=((x.toNat:VC):VN):=by omega
def Sa:a<b->(a:VN)<(b:VN):=Int.ofNat_lt.mpr
def Sb:c=d->a<c->b=d->a<b:=by omega
def Sc:a<=b->b-a=0->a=b:=by omega
def Sd:c=b->a=c->a=b:=fun A B=>K9 B A.symm
def Se:x+(y+z)=y+(x+z):=Int.add_left_comm x y z
def Sf:z=y->x=z->x=y:=by omega
def Sg:b<=2*c->a=b->c<=301->a<=1000:=by omega
def Si:b<=301->a=b->a<=1000:=by omega
def Sj:a<=301->a+a<=1000:=by omega
def Sk:a=26-b->a<=1000:=by omega
def Sl:(0<=x/\x<(a:VN))->x.toNat<a:=by omega
def Sm:c<=b->a<c->a<b:=fun A B=>QP B A
def Sn:¬(a<b)->¬((a:VN)<(b:VN)):=by omega
def So:a+2≠a+4:=by omega
def Sq:a+2≠a+3:=FG (a + 2)
def Ss:a+2≠a:=by omega
def Su:a+2≠a+1:=VS (FG (a + 1))
def Sw:a<c+1->b=c->¬(a<b)->a=b:=by omega
def Sx:a<=190->a<=1000:=by omega
def Sy:a<=190->a<=900:=by omega
def Sz:a<=100->a-b<=1000:=by omega
def S0:0<x->0<(-x)->False:=by omega
def S6:d<b->a<d->a<b+c:=by omega
def S7:c<=b->a=c-d->a<=b:=by omega
def S8:b<=602->a<=b->a<=1000:=by omega
def S9:b<=602->c<=b->a<=c+1->a<=1000:=by omega
def Na:a<=301->a<=1000:=by omega
def Nb:0<=x->0<=y->0<=x+y:=Int.add_nonneg
def Nc:c<=b->d<c->a=d->a<b:=by omega
def Nd:b<=c->b=a->c=16777216->(a:VN)<9223372036854775808:=by omega
def Nf:(-(b:VN))<=x->b=a->(-(a:VN))<=x:=fun A B=>KU (NA Neg.neg (NA Nat.cast B.symm)) A
def Ng:a<=c->a-b<=c:=by omega
def Nh:c=a->¬(b<c)->a<=b:=by omega
def Ni:b<=a->a=b+(a-b):=fun A=>Eq.symm (DX A)
def Nj:a<=0->a=0:=Nat.eq_zero_of_le_zero
def Nk:a=1->0<a:=by omega
def Nl:0<1:=Kx
def Nm:a<=700->a<=1000:=by omega
def Nn:b<=2*(min c d)->a<=b+1->d<=301->a<=700:=by omega
def No:a<=63->a<=1000:=by omega
def Np:(x<=y/\y<z)->x<=1+y:=by omega
def Nq:(b<=d/\a<=b)->a<=b+c:=by omega
def Nr:(y<=x/\x<=1000)->1*x.toNat<=1000:=by omega
def Nt:b=a->a<=b:=fun A=>Kf A.symm
def Nv:a<=c->a<=b+c:=Nat.le_add_left_of_le
def Nw:c<b->a<=c->a<b:=fun A B=>Wq B A
def Nx:a+c<b->a<b:=Nat.lt_of_add_right_lt
def Ny:a<b->a+(b-a)<=b:=by omega
def Nz:b<a->0<a-b:=Nat.zero_lt_sub_of_lt
def N0:b<=a->a=a-b+b:=fun A=>(Nat.sub_eq_iff_eq_add A).mp rfl
def N3:a+c<=b->0+a<=b:=by omega
def N4:a<=b->¬(0<b-a)->a=b:=by omega
def N5:(a<=c/\c<b)->a<=a+b-1-c:=by omega
def N6:(a<=c/\c<b)->a+b-1-c<b:=by omega
def N7:0<a+1:=Nat.zero_lt_succ a
def N8:a<b->b-(0+1)<=a->a=b-1:=fun h k=>L7 (Nat.le_pred_of_lt h) k
def N9:c<=b->a<(max c b)->a<b:=by omega
def Ma:a+d<=e->b<d->c=e->a+b<c:=by omega
def Mb:a<c->a-b<c:=Nat.sub_lt_of_lt
def Mc:a<b+(c+1)->b+c<=a->a=b+c:=fun A B=>Nat.eq_of_le_of_lt_succ B A
def Md:a<b->a<=b-1:=Nat.le_sub_one_of_lt
def Me:c<=b->a<c->a<=b:=by omega
def Mf:c<b->a<=a+b-(c+1):=by omega
def Mg:a+(b+c)-c=a+b:=by rw[←Rk,Rr]
def Mh:a+d<=e->b<=d->c=e->a+b<=c:=by omega
def Mi:a<=c->¬(b<c)->a<=b:=by omega
def Mj:c<=b->a+d<=c->a<=b:=by omega
def Ml:a<=c->b=c->a<=b:=fun A B=>le_of_le_of_eq A B.symm
def Mm:a+c+d<=b->a<=b:=by omega
def Mn:a+b+c<=d->a+(b+c)<=d:=by omega
def Mo:1<=a->a-1<a:=Vt
def Mp:a+c+e<=d->b<c->a+b+(c-b)<=d:=by omega
def Mq:b<=c->a+b<=a+c:=Nat.add_le_add_iff_left.mpr
def Mr:a+d<=c->b<=d->a+b<=c:=fun A B=>Mh A B rfl
def Ms:a<b->a+(b-a)=b:=by omega
def Mt:a<=b->a+(b-a)=b:=DX
def Mu:(b:VN)-1-(c:VN)=(d:VN)->e<=400->a<=c->b=e->a<=1000:=by omega
def Mw:a<a->False:=by omega
def Mx:(¬(a=b)/\(¬(a=f)/\(¬(a=c)/\(¬(a=d)/\¬(a=e)))))->(a≠b/\(a≠c/\(a≠d/\a≠e))):=fun h=>⟨h.1,h.2.2⟩
def My:a<=a-1->b<a->False:=by omega
def Mz:(0<=y/\y<=x)->((-x)<=y/\y<=x):=by omega
def M0:a<=b->(a:VN)-(b:VN)<=0:=by omega
def M8:y<x->x≠y:=fun A=>VS (Int.ne_of_lt A)
def M9:x<0->(max 0 (min (x+y) y))=(max (x+y) 0):=fun h=>by rw[Int.min_eq_left (Int.add_le_of_le_sub_right (by simp [CG h])),Int.max_comm]
def Bb:(max 0 (min x (a:VN)))=(((min x.toNat a):VC):VN):=by cases x<;>simp<;>omega
def Bc:a+c<b->a+(b-a)<=b:=by omega
def Bd:2<=a->a=a-1+1:=by omega
def Be:a<=b->0+a<=b:=by omega
def Bh:a+d<=c->b<d->a+b<c:=by omega
def Bi:a<=b->¬(a=b)->a<b:=TM
def Bj:c<b->a=c->a<b:=fun A B=>lt_of_eq_of_lt B A
def Bl:¬(y<x)->x<=y:=Int.not_lt.mp
def Bm:a<b+1->a<=b:=Nat.le_of_lt_succ
def Bn:a<=b->b-a<=c-(max d c)->a=b:=fun h k=>L7 h (Nat.le_of_sub_eq_zero (Nat.le_zero.1 (R5 (Nat.le_max_right d c)▸k)))
def Bo:c<b->c=a->a<=b:=by omega
def Bp:a+b<=d->a+(b+c)<=d+c:=by omega
def Bq:a+(d+b)<=c->a+b<=c:=by omega
def Br:¬(a=0)->1<=a+1-1:=Nat.one_le_iff_ne_zero.mpr
def Bs:2<=a+1->¬(a=1)->2<=a+1-1:=fun h k=>TM (Nat.le_of_succ_le_succ h) (VS k)
def Bt:a<b->(min a b)=a:=by omega
def Bu:c<=b->d=c->a=d->a<=b:=by omega
def Bv:a<=200->a<=1000:=by omega
def Bw:a<=100000->a<=16777216:=by omega
def Bx:y<=x->¬(x<y):=Int.not_lt_of_ge
def By:a+(c+1)=b->a<b:=by omega
def Bz:a+(c+b)=d->a+b+c=d:=by omega
def B0:0+a<=a:=by omega
def B8:a<2*a+1:=by omega
def B9:a<=c->a+b<=2*c+b:=by omega
def Da:a<=100->a<=1000:=by omega
end
def Lc:(let q:=Q;let g:=f;LR M A E (x>>=g) q s t)->LR M A E (x>>=f) Q s t:=id
def Ld:(let q:=Q;LR M A E x q s t)->LR M A E x Q s t:=id
def Lj{g:Prop}{p q r t a:Prop}:(p/\q/\r/\t/\a)->(p->q->r->t->a->g)->g
 |⟨s0,s1,s2,s3,l⟩,f=>f s0 s1 s2 s3 l
def Lk{g:Prop}{p q:α->β->Prop}:(∃v w,p v w/\q v w)->(∀v w,p v w->q v w->g)->g
 |⟨v,w,s0,l⟩,f=>f v w s0 l
def Ll{g:Prop}{p q r t:α->β->Prop}:(∃v w,p v w/\q v w/\r v w/\t v w)->(∀v w,p v w->q v w->r v w->t v w->g)->g
 |⟨v,w,s0,s1,s2,l⟩,f=>f v w s0 s1 s2 l
def Lm{g:Prop}{p q:α->Prop}:(∃v,p v/\q v)->(∀v,p v->q v->g)->g
 |⟨v,s0,l⟩,f=>f v s0 l
def Lp{g:Prop}{p q r:α->Prop}:(∃v,p v/\q v/\r v)->(∀v,p v->q v->r v->g)->g
 |⟨v,s0,s1,l⟩,f=>f v s0 s1 l
def Lq{g:Prop}{p q r t a b:Prop}:(p/\q/\r/\t/\a/\b)->(p->q->r->t->a->b->g)->g
 |⟨s0,s1,s2,s3,s4,l⟩,f=>f s0 s1 s2 s3 s4 l
def Lr{g:Prop}{p q r t:α->Prop}:(∃v,p v/\q v/\r v/\t v)->(∀v,p v->q v->r v->t v->g)->g
 |⟨v,s0,s1,s2,l⟩,f=>f v s0 s1 s2 l
def Lu{g:Prop}{p q r:α->β->γ->Prop}:(∃v w x,p v w x/\q v w x/\r v w x)->(∀v w x,p v w x->q v w x->r v w x->g)->g
 |⟨v,w,x,s0,s1,l⟩,f=>f v w x s0 s1 l
def Lw{g:Prop}{p q r:α->β->Prop}:(∃v w,p v w/\q v w/\r v w)->(∀v w,p v w->q v w->r v w->g)->g
 |⟨v,w,s0,s1,l⟩,f=>f v w s0 s1 l
def Lx{g:Prop}{p q r t:Prop}:(p/\q/\r/\t)->(p->q->r->t->g)->g
 |⟨s0,s1,s2,l⟩,f=>f s0 s1 s2 l
def Ly{g:Prop}{p q r t a:α->β->γ->δ->Prop}:(∃v w x y,p v w x y/\q v w x y/\r v w x y/\t v w x y/\a v w x y)->(∀v w x y,p v w x y->q v w x y->r v w x y->t v w x y->a v w x y->g)->g
 |⟨v,w,x,y,s0,s1,s2,s3,l⟩,f=>f v w x y s0 s1 s2 s3 l
def L0{g:Prop}{p q r t a:α->β->γ->Prop}:(∃v w x,p v w x/\q v w x/\r v w x/\t v w x/\a v w x)->(∀v w x,p v w x->q v w x->r v w x->t v w x->a v w x->g)->g
 |⟨v,w,x,s0,s1,s2,s3,l⟩,f=>f v w x s0 s1 s2 s3 l
def L3{g:Prop}{p q:α->Prop}{r:α->β->Prop}:(∃v,p v/\q v/\∃w,r v w)->(∀v,p v->q v->∀w,r v w->g)->g
 |⟨v,s0,s1,w,l⟩,f=>f v s0 s1 w l
def L4{g:Prop}{p:Prop}{q r t:α->β->Prop}:(p/\∃v w,q v w/\r v w/\t v w)->(p->∀v w,q v w->r v w->t v w->g)->g
 |⟨s0,v,w,s1,s2,l⟩,f=>f s0 v w s1 s2 l
def L5{g:Prop}{p q r t a b:α->β->γ->δ->Prop}:(∃v w x y,p v w x y/\q v w x y/\r v w x y/\t v w x y/\a v w x y/\b v w x y)->(∀v w x y,p v w x y->q v w x y->r v w x y->t v w x y->a v w x y->b v w x y->g)->g
 |⟨v,w,x,y,s0,s1,s2,s3,s4,l⟩,f=>f v w x y s0 s1 s2 s3 s4 l
def L8{g:Prop}{p:Prop}{q r t:α->Prop}:(p/\∃v,q v/\r v/\t v)->(p->∀v,q v->r v->t v->g)->g
 |⟨s0,v,s1,s2,l⟩,f=>f s0 v s1 s2 l
def L9{g:Prop}{p q r t a:α->β->Prop}:(∃v w,p v w/\q v w/\r v w/\t v w/\a v w)->(∀v w,p v w->q v w->r v w->t v w->a v w->g)->g
 |⟨v,w,s0,s1,s2,s3,l⟩,f=>f v w s0 s1 s2 s3 l
def be{p:Prop}(h:p:=by decide):p:=h
def bh{p:Prop}(h:p:=by decide +kernel):p:=h
def bo{p:Prop}(h:p:=by simp):p:=h
def bp{p:Prop}(h:p:=by simp_all):p:=h
def bq{p:Prop}(h:p:=by omega):p:=h
def br{p:Prop}(h:p:=by lia):p:=h
def Pf{p:α->β->γ->Prop}(a b c)(h:p a b c):∃a b c,p a b c:=⟨a,b,c,h⟩
def Pg{p:α->β->γ->δ->Prop}(a b c d)(h:p a b c d):∃a b c d,p a b c d:=⟨a,b,c,d,h⟩
def Pe{p:α->β->γ->δ->ε->Prop}(a b c d e)(h:p a b c d e):∃a b c d e,p a b c d e:=⟨a,b,c,d,e,h⟩
def Pj{p:α->β->γ->δ->ε->ζ->Prop}(a b c d e i)(h:p a b c d e i):∃a b c d e i,p a b c d e i:=⟨a,b,c,d,e,i,h⟩
def Pi{p:α->β->γ->δ->ε->ζ->η->Prop}(a b c d e i j)(h:p a b c d e i j):∃a b c d e i j,p a b c d e i j:=⟨a,b,c,d,e,i,j,h⟩
def Ph{p:α->β->γ->δ->ε->ζ->η->θ->ι->Prop}(a b c d e i j k m)(h:p a b c d e i j k m):∃a b c d e i j k m,p a b c d e i j k m:=⟨a,b,c,d,e,i,j,k,m,h⟩
def Pk:(let q:=Q;let g:=f;KY M A (x>>=g) q E s)->KY M A (x>>=f) Q E s:=id
def Pl:(let q:=Q;KY M A x q E s)->KY M A x Q E s:=id
section
variable{n z L u:VC}
def qd(k:VC):(k-12+11)/12<=(k+11)/12-1:=by
 rcases Wr k 12 with h|h
 exact R5 (WP h)▸QN _
 obtain⟨j,rfl⟩:=Nat.exists_eq_add_of_le h;rw[UA,Rk,Nat.add_comm 12,Nat.add_div_right _ (by decide)];exact Qh _
def qm(k:VC):k-min k 12=k-12:=by
 rcases Nat.le_total k 12 with h|h
 rw[RG h,Wv,R5 h]
 rw[Nat.min_eq_right h]
def qe(c:z<L):0<(L-z+11)/12:=Nat.div_pos (KW (DY c) 11) (by decide)
def qA(c:z<L)(U:u=z+min (L-z) 12):n+(L-u+11)/12<=n+(L-z+11)/12-1:=by
 subst U;rw[FH,qm,Nat.add_sub_assoc (qe c)];exact Tx (qd _) _
def qB(c:z<L)(U:u=z+min (L-z) 12):u<=L:=U▸QR (Tx (Fw ..) _) (TH (Du (WP c)))
def qC(c:z<L)(U:u=z+min (L-z) 12):L-u<L-z:=by
 rw[U,FH,qm];exact Nat.sub_lt (DY c) (by decide)
def qD(c:z<L):n+(L-z+11)/12-1+1<=n+(L-z+11)/12:=TH (Nat.sub_add_cancel (QR (qe c) (Fv ..)))
end
section
variable{a b c i:VC}{S:VN}
def qF(t:0<=S/\S<(a:VN)):min S.toNat a+(a-(S+1).toNat)=a-1:=by
 obtain⟨s,rfl⟩:=U4 t.1;obtain⟨k,rfl⟩:=Nat.exists_eq_add_of_lt (Int.ofNat_lt.1 t.2);show min s _+(_-(s+1))=_;rw[RG (UY (Ut ..)),Nat.add_sub_add_right,UA];rfl
def qG(t:0<=S/\S<(a:VN))(Z:a=26-i):min S.toNat a+(a-(S+1).toNat)<=1000:=qF t▸Z▸QR (FF ..) (QR (FF ..) (by decide))
def qH(f:b<=26)(M:a=min b 6)(Z:c=26-min b 6):a+min ((b:VN)-(a:VN)).toNat c=b:=by
 have h:a<=b:=M▸Fw ..
 rw[Z,←M,DC,RG (Nat.sub_le_sub_right f a),Du h]
end
def q1{a b:VC}:(min ((-1)+(a:VN)).toNat b)=min (a-1) b:=by rw[Int.add_comm];exact NA (min · b) (DC a 1)
namespace L2
open PySem PySem.Spec PyProof.Rows
abbrev Key:=Sum VN VI
noncomputable def ZaB:Key->VG->NY
 | .inl k,v=>CP k v
 | .inr x,v=>Ce x v
noncomputable def ZpE (w:Ol):Key->VN
 | .inl k=>hashInt k
 | .inr x=>hashStr w x
def keyIs_shape:∀ {k} {v},ZaB k v=true->(∃ i t,k=FD i/\v=RW i t)\/(∃ x t,k=VJ x/\v=BG x t)
 | .inl i,v,h=>by
  obtain⟨t,e⟩:=Value.isInt_shape h;exact .inl ⟨i,t,rfl,e⟩
 | .inr x,v,h=>by
  obtain⟨t,e⟩:=Value.isStrOf_shape h;exact .inr ⟨x,t,rfl,e⟩
def Zho (i) (t):ZaB (.inl i) (.int i t)=true:=by simp[ZaB,CP]
def Zhn (x) (t):ZaB (.inr x) (.str x t)=true:=by simp[ZaB,Ce]
def Znl (a b):decide ((FD a:Key)=FD b)=(a==b):=by
 by_cases e:a=b
 subst e;simp;rw[VO (fun q=>e (Sum.inl.inj q))];exact(beq_eq_false_iff_ne.mpr e).symm
def Zni (a b):decide ((VJ a:Key)=VJ b)=decide (a=b):=by
 simp
def Znk (a:VN) (b:VI):decide ((FD a)=VJ b)=false:=VO fun q=>nomatch q
def Znj (a:VI) (b:VN):decide ((VJ a)=FD b)=false:=VO fun q=>nomatch q
noncomputable def ZE (prog:Oh) (w:Ol):PySem.KeyKind prog w Key where
 is:=ZaB
 hash:=ZpE w
 inj:=fun v a b ha hb=>by
  rcases keyIs_shape ha with ⟨i,t,rfl,rfl⟩ | ⟨x,t,rfl,rfl⟩
  ·rcases keyIs_shape hb with ⟨j,u,rfl,e⟩ | ⟨y,u,rfl,e⟩
   ·injection e with e1 _;rw[e1]
   ·exact nomatch e
  ·rcases keyIs_shape hb with ⟨j,u,rfl,e⟩ | ⟨y,u,rfl,e⟩
   ·exact nomatch e
   ·injection e with e1 _;rw[e1]
 byValue:=fun k v h=>by
  rcases keyIs_shape h with ⟨i,t,rfl,rfl⟩ | ⟨x,t,rfl,rfl⟩ <;> rfl
 pyHash:=fun hv h=>by
  rcases keyIs_shape hv with ⟨i,t,rfl,rfl⟩ | ⟨x,t,rfl,rfl⟩
  ·exact wpAny_pyHash_int h
  ·exact wpAny_pyHash_str h
 eqBool:=fun hu hv h=>by
  rcases keyIs_shape hu with ⟨i,t,rfl,rfl⟩ | ⟨x,t,rfl,rfl⟩
  ·rcases keyIs_shape hv with ⟨j,u,rfl,rfl⟩ | ⟨y,u,rfl,rfl⟩
   ·rw[Znl]at h;exact wpAny_eqBool_int h
   ·rw[Znk]at h;exact DL i t y u _ _ _ _ h
  ·rcases keyIs_shape hv with ⟨j,u,rfl,rfl⟩ | ⟨y,u,rfl,rfl⟩
   ·rw[Znj]at h;exact DM x t j u _ _ _ _ h
   ·rw[Zni]at h;exact Fe h
 «strs»:=fun k x t v h=>by
  rcases keyIs_shape h with ⟨i,u,rfl,e⟩ | ⟨y,u,rfl,e⟩
  ·exact nomatch e
  ·injection e with e1 _
   subst e1;cases v <;> rfl
def Zdw (prog) (w) (i) (t):(ZE prog w).is (.inl i) (.int i t)=true:=Zho i t
def XT (prog) (w) (x) (t):(ZE prog w).is (.inr x) (.str x t)=true:=Zhn x t
inductive V where
 | non | bl (b:NY) | int (i:VN) | str (x:VI) | byt (b:VL UInt8) | flt (b:UInt64) | ref (a:VH) | ty (n:RY)
 deriving DecidableEq
def RelV:V->VG->Prop
 | .non,u=>u=NI
 | .bl b,u=>u=DN b
 | .int i,u=>∃ t,u=RW i t
 | .str x,u=>∃ t,u=BG x t
 | .byt b,u=>∃ t,u=Value.bytes b t
 | .flt b,u=>∃ t,u=Value.float b t
 | .ref a,u=>u=Value.ref a
 | .ty n,u=>u=NB n
abbrev Vals:VA V->VA VG->Prop:=DO RelV
def Vals.length (r:Vals xs a):xs.length=a.length:=DD r
def Vals.get:∀ {xs} {b} {i:VC} {x},Vals xs b->xs[i]?=some x->∃ u,b[i]?=some u/\RelV x u
 | _,_,_,_,.nil,e=>by simp at e
 | _,_,0,_,.cons r _,e=>by simp at e;subst e;exact⟨_,rfl,r⟩
 | _,_,i+1,x,.cons _ t,e=>by
  obtain⟨u,f,d⟩:=Vals.get (i:=i) (x:=x) t bp;exact⟨u,bp,d⟩
def Vals.set (r:RelV x u):∀ {xs} {c} (i),Vals xs c->Vals (xs.set i x) (c.set i u)
 | _,_,_,.nil=>.nil
 | _,_,0,.cons _ t=>.cons r t
 | _,_,i+1,.cons q t=>.cons q (Vals.set r i t)
def Vals.append:∀ {xs ys} {c b},Vals xs c->Vals ys b->Vals (xs++ys) (c++b)
 | _,_,_,_,.nil,s=>s
 | _,_,_,_,.cons r t,s=>.cons r (Vals.append t s)
def Vals.take:∀ {xs} {c} (n),Vals xs c->Vals (xs.take n) (c.take n)
 | _,_,0,_=>.nil
 | _,_,_+1,.nil=>.nil
 | _,_,n+1,.cons r t=>.cons r (Vals.take n t)
def Vals.drop:∀ {xs} {b} (n),Vals xs b->Vals (xs.drop n) (b.drop n)
 | _,_,0,r=>r
 | _,_,_+1,.nil=>.nil
 | _,_,n+1,.cons _ t=>Vals.drop n t
def RelO:VE V->VE VG->Prop
 | some v,some u=>RelV v u
 | none,none=>DZ
 | _,_=>False
def KV {κ:Type}:VA (κ×V)->VA (κ×VG)->Prop:=DO fun(p:κ×V) (q:κ×VG)=>p.1=q.1/\RelV p.2 q.2
noncomputable def kV:Key->V
 | .inl i=>.int i
 | .inr x=>.str x
inductive HO where
  | lst (xs:VA V)
  | tup (xs:VA V)
  | dK (kvs:VA (Key×V)) | dT (kvs:VA (VA Key×V))
  | set (S:VN->NY) (n:VC)
  | ins (C dx:VH) (fs:VA (VI×V))
  | own (x:VH)
  | xd (fs:VA (VI×V))
  | met (f x:VH)
  | rng (lo hi:VN)
  | frz (o:MQ) (u:HO)
  | tbl (ps:VL VG)
  | ext (φ:Nu->Prop)
abbrev Hp:=VH->VE HO
noncomputable def upd (H:Hp) (a:VH) (o:HO):Hp:=fun b=>if b=a then some o else H b
def Zd:upd H a o a=some o:=by unfold upd;simp
def Zi (h:b≠a):upd H a o b=H b:=by unfold upd;rw[if_neg h]
def Jd:upd (upd H a o) a u=upd H a u:=by
 unfold upd;simp_all
def Zdo {H:Hp} (h:H a=some o) (h':H b=some u) (d:o≠u):a≠b:=by
 intro e;simp_all
def Zh {H:Hp} (h:H a=some o) (h':H b=none):a≠b:=by
 intro e;simp_all
section
variable (P:Oh) (w:Ol)
def NoD (h:Nu) (a:VH):Prop:=∀ o,h.get? a=some o->o.dict=none
def Zbx {h:Nu} (c:o.dict=none) (a:o.isFreed=false):NoD (h.push o) h.objs.size:=fun b e=>by
 rw[Qk h a]at e
 simp_all
def ObjOk (H:Hp) (h:Nu) (a:VH):HO->Prop
 | .lst xs=>xs.length<=Od/\∃ (its:VA VG) (n:VC),Vals xs its/\h.get? a=some {cls:=.type "list",data:=.seq its.toArray n}
 | .tup xs=>xs.length<=Od/\∃ its:VA VG,Vals xs its/\IsTup h a its.toArray/\NoD h a
 | .dK kvs=>kvs.length<=Od/\(a==OQ)=false/\∃ vs,KV kvs vs/\h.DictOf (ZE P w) a vs
 | .dT kvs=>kvs.length<=Od/\(a==OQ)=false/\∃ xs:VA (VA Key×VH×VG),
   DO (fun(p:VA Key×V) (q:VA Key×VH×VG)=>p.1=q.1/\H q.2.1=some (.tup (p.1.map kV))/\RelV p.2 q.2.2) kvs xs /\
   ∃ o es ep,h.get? a=some o/\o.ExactDict/\o.data= .dict es ep/\es.toList=xs.map (entryOfKey (GZ (ZE P w)))/\(xs.map (·.1)).Nodup
 | .set S n=>h.SetOf (intKind P w) a S n
 | .ins C dx fs=>H dx=some (.own a)/\fs.length<=1000/\dx≠a/\h.get? a=some (ME C dx) /\
   ∃ mA,h.Ns1 dx mA/\(∀ f,RelO (fs.lookup f) (mA f))/\SA mA (fs.map (·.1))
 | .own _=>∃ o,h.get? a=some o
 | .xd fs=>∃ mA,h.Ns1 a mA/\∀ f,RelO (fs.lookup f) (mA f)
 | .rng lo hi=>∃ t u v,h.get? a=some {cls:=.type "range",data:=.fields #[.int lo t,.int hi u,.int 1 v]}
 | .frz o u=>h.get? a=some o/\ObjOk H h a u
 | .tbl ps=>h.get? a=some {cls:=.none,data:=.fields ps}
 | .met f x=>h.get? a=some (PySem.W.methodObj (.ref f) (.ref x))
 | .ext φ=>φ h/\(∃ o,h.get? a=some o)/\∀ h1 h2:Nu,φ h1->(∀ o,h1.get? a=some o->h2.get? a=some o)->φ h2
def HOk (H:Hp) (h:Nu):Prop:=∀ a o,H a=some o->ObjOk P w H h a o
end
section
variable {P:Oh} {w:Ol} {H H':Hp} {h h':Nu} {a:VH} {o:HO}
def ObjOk.lt (x:ObjOk P w H h a o):a<h.objs.size:=by
 cases o with
 | lst j=>obtain⟨_,_,_,_,e⟩:=x;exact Ql e
 | tup j=>obtain⟨_,_,_,p,_⟩:=x;exact p.lt
 | dK b=>obtain⟨_,_,_,_,o,_,_,e,_⟩:=x;exact Ql e
 | dT b=>obtain⟨_,_,_,_,o,_,_,e,_⟩:=x;exact Ql e
 | set S n=>obtain⟨o,_,_,_,e,_⟩:=x;exact Ql e
 | ins C z d=>obtain⟨_,_,_,e,_⟩:=x;exact Ql e
 | own y=>obtain⟨_,e⟩:=x;exact Ql e
 | xd d=>obtain⟨_,⟨_,_,_,e,_⟩,_⟩:=x;exact Ql e
 | rng lo D=>obtain⟨_,_,_,e⟩:=x;exact Ql e
 | frz A u=>obtain⟨e,_⟩:=x;exact Ql e
 | tbl v=>exact Ql x
 | met f y=>exact Ql x
 | ext φ=>obtain⟨_,⟨_,e⟩,_⟩:=x;exact Ql e
def Paired.mapP {F G}:∀ {d:VA α} {c:VA β},DO F d c->(∀ a b,F a b->G a b)->DO G d c
 | _,_,.nil,_=>.nil
 | _,_,.cons r t,f=>.cons (f _ _ r) (Paired.mapP t f)
def ObjOk.stay (x:ObjOk P w H h a o) (k:∀ b u,(b=a\/H b=some (.own a))->h.get? b=some u->h'.get? b=some u)
  (M:∀ b,H b=some (.own a)->H' b=some (.own a)) (U:∀ b xs,H b=some (.tup xs)->H' b=some (.tup xs)):ObjOk P w H' h' a o:=by
 induction o with
 | lst xs=>obtain⟨z,s,n,r,e⟩:=x;exact⟨z,s,n,r,k _ _ (.inl rfl) e⟩
 | tup xs =>
  obtain⟨z,s,r,⟨i,e,c⟩,J⟩:=x;exact⟨z,s,r,⟨i,k _ _ (.inl rfl) e,c⟩,fun o2 B=>by
   rw[k _ _ (.inl rfl) e]at B;cases B;exact J _ e⟩
 | dK D=>obtain⟨z,y,V,r,i,j,l,e,c⟩:=x;exact⟨z,y,V,r,i,j,l,k _ _ (.inl rfl) e,c⟩
 | dT D =>
  obtain⟨z,y,xs,r,i,j,l,e,c⟩:=x;exact⟨z,y,xs,Paired.mapP r fun p q z=>⟨z.1,U _ _ z.2.1,z.2.2⟩,i,j,l,k _ _ (.inl rfl) e,c⟩
 | set S n=>obtain⟨i,j,l,t,e,c⟩:=x;exact⟨i,j,l,t,k _ _ (.inl rfl) e,c⟩
 | ins C Z R =>
  obtain⟨d,z,T,e,E,⟨F,j,l,B,c⟩,r⟩:=x;exact⟨M _ d,z,T,k _ _ (.inl rfl) e,E,⟨F,j,l,k _ _ (.inr d) B,c⟩,r⟩
 | own y=>obtain⟨i,e⟩:=x;exact⟨i,k _ _ (.inl rfl) e⟩
 | xd R=>obtain⟨E,⟨F,j,l,e,c⟩,r⟩:=x;exact⟨E,⟨F,j,l,k _ _ (.inl rfl) e,c⟩,r⟩
 | rng lo hi=>obtain⟨t,u,v,e⟩:=x;exact⟨t,u,v,k _ _ (.inl rfl) e⟩
 | frz i u O=>obtain⟨e,q⟩:=x;exact⟨k _ _ (.inl rfl) e,O q⟩
 | tbl ps =>
  have e:h.get? a=some _:=x;show h'.get? a=some _
  simp_all
 | met f y =>
  have e:h.get? a=some _:=x;show h'.get? a=some _
  simp_all
 | ext φ=>obtain⟨p,⟨o,e⟩,st⟩:=x;exact⟨st _ _ p fun o q=>k _ _ (.inl rfl) q,⟨o,k _ _ (.inl rfl) e⟩,st⟩
def HOk.lt (x:HOk P w H h) (e:H a=some o):a<h.objs.size:=(x a o e).lt
def HOk.fresh (x:HOk P w H h) (e:h.objs.size<=a):H a=none:=by
 cases q:H a with
 | none=>rfl
 | some u=>exact VM (QP (x.lt q) e) (Q2 _)
def HOk.kept (x:HOk P w H h) (k:∀ b u,h.get? b=some u->h'.get? b=some u):HOk P w H h':=fun a o e =>
 (x a o e).stay (fun b u _ q=>k b u q) (fun _ q=>q) fun _ _ q=>q
def HOk.laid (x:HOk P w H h) (k:∀ b u,h.get? b=some u->h'.get? b=some u) (i:h.objs.size<=a) (j:ObjOk P w (upd H a o) h' a o):HOk P w (upd H a o) h':=fun b u e=>by
 have f:=x.fresh i;by_cases g:b=a
 subst g;rw[Zd]at e;simp_all;rw[Zi g]at e;exact(x b u e).stay (fun c v _ q=>k c v q) fun c q=>by rw[Zi (Zh q f)];omega fun c l q=>by rw[Zi (Zh q f)];omega
end
def Rd (H:Hp) (a:VH) (u:HO):Prop:=H a=some u\/∃ o,H a=some (.frz o u)
def Rd.ok (r:Rd H a u) (x:HOk P w H h):ObjOk P w H h a u:=by
 rcases r with r | ⟨o,r⟩
 exact x a u r;obtain⟨_⟩:=x a _ r;omega
def Mut:VE HO->Prop
 | some (.lst _)=>DZ
 | some (.dK _)=>DZ
 | some (.dT _)=>DZ
 | some (.set _ _)=>DZ
 | some (.ins _ _ _)=>DZ
 | some (.ext _)=>DZ
 | _=>False
section
variable {P:Oh} {w:Ol} {H:Hp} {h h':Nu} {x e:VH} 
def HOk.write (p:HOk P w H h) (m:Mut (H x)) (A:e=x\/H e=some (.own x)) (k:∀ b u,b≠e->h.get? b=some u->h'.get? b=some u) (f:∃ u,h'.get? e=some u)
  (t:ObjOk P w (upd H x l) h' x l):HOk P w (upd H x l) h':=fun b u q=>by
 have a:∀ c y,H c=some (.own y)->c≠x:=fun c y r z=>by subst z;rw[r]at m;trivial
 by_cases o:b=x
 subst o;rw[Zd]at q;simp_all;rw[Zi o]at q;by_cases s:b=e
 have j:H b=some (.own x):=by
  simp_all
 rw[q]at j;cases j;obtain⟨v,B⟩:=f;exact⟨v,bp⟩;refine(p b u q).stay (fun c v g r=>k c v ?_ r) fun c r=>by rw[Zi (a c b r)];omega fun c i r=>by rw[Zi ((fun c i r z=>by subst z;rw[r]at m;trivial) c i r)];omega
 rcases g with rfl | g
 omega;rintro rfl
 simp_all
end
structure Un (fs ex:VA VH) (H H':Hp) (h h':Nu):Prop where
 keep:∀ b o,h.get? b=some o->H b=none->b∉fs->b∉ex->h'.get? b=some o
 slot:∀ b o,h.get? b=some o->H b=none->b∈fs->b∉ex->∃ sl,h'.get? b=some {o with slots:=sl}
 free:∀ b o,h.get? b=some o->H b=none->b∉ex->H' b=none
 there:∀ b o,h.get? b=some o->b∉ex->∃ o',h'.get? b=some o'
 tups:∀ b xs,H b=some (.tup xs)->H' b=some (.tup xs)
 frzs:∀ b o u,H b=some (.frz o u)->H' b=some (.frz o u)
 tbls:∀ b ps,H b=some (.tbl ps)->∃ more,H' b=some (.tbl (ps++more))
section
variable {fs fs' ex ex':VA VH} {H H1 H2:Hp} {h h1 h':Nu} {a x e:VH} {o:HO}
def Un.any (u:Un fs ex H H1 h i) (q:h.get? b=some ob) (n:H b=none) (d:b∉ex):∃ e,i.get? b=some {ob with slots:=e}:=by
 by_cases c:b∈fs
 exact u.slot b ob q n c d;exact⟨_,u.keep b ob q n c d⟩
def Un.kept (k:∀ b u,h.get? b=some u->h'.get? b=some u):Un fs ex H H h h' :=
 ⟨fun b a q _ _ _=>k b a q,fun b a q _ _ _=>⟨_,k b a q⟩,fun _ _ _ n _=>n,fun b a q _=>⟨a,k b a q⟩,fun _ _ q=>q,fun _ _ _ q=>q,fun _ c q=>⟨#[],bp⟩⟩
def Un.refl:Un fs ex H H h h:=Un.kept fun _ _ q=>q
def Un.laid (k:∀ b u,h.get? b=some u->h'.get? b=some u) (d:h.objs.size<=a) (c:H a=none):Un fs ex H (upd H a o) h h' where
 keep:=fun b u q _ _ _=>k b u q
 slot:=fun b u q _ _ _=>⟨_,k b u q⟩
 free:=fun b u q n _=>by rw[Zi (QB (QP (Ql q) d))];omega
 there:=fun b u q _=>⟨u,k b u q⟩
 tups:=fun b e q=>by rw[Zi (Zh q c)];omega
 frzs:=fun b u e q=>by rw[Zi (Zh q c)];omega
 tbls:=fun b i q=>⟨#[],by rw[Zi (Zh q c),q];simp⟩
def Un.write (i:Mut (H x)) (s:e=x\/H e=some (.own x)) (k:∀ b u,b≠e->h.get? b=some u->h'.get? b=some u) (j:∃ u,h'.get? e=some u):Un fs ex H (upd H x o) h h':=by
 have g:∀ b,H b=none->b≠x:=fun b n z=>by subst z;rw[n]at i;trivial
 have c:∀ b,H b=none->b≠e:=fun b n z=>by
  simp_all
 have a:∀ b u,H b=some u->¬ Mut (some u)->b≠x:=fun b u q m z=>bp
 refine⟨fun b u q n _ _=>k b u (c b n) q,fun b u q n _ _=>⟨_,k b u (c b n) q⟩,fun b u q n _=>by rw[Zi (g b n)];omega,fun b u q _=>?_,
  fun b f q=>by rw[Zi (a b _ q fun z=>z)];omega,fun b u f q=>by rw[Zi (a b _ q fun z=>z)];omega,fun b p q=>⟨#[],by rw[Zi (a b _ q fun z=>z),q];simp⟩⟩
 by_cases d:b=e
 simp_all
 simp_all
end
noncomputable def trk (h:Nu) (H:Hp):VA VH:=(Qz h.objs.size).filter fun a=>(H a).isSome
def ZhD (h:Nu) (H:Hp):Nu:=RU h (trk h H)
def ZhC (h) (H):(ZhD h H).objs.size=h.objs.size:=PySem.W.hideAll_size _ _
def Zji (e:h.get? b=some o) (n:H b=none):(ZhD h H).get? b=some o :=
 Dv _ e fun c=>by
  have q:=(Wf.mp c).2
  simp_all
def Zg0 (e:(ZhD h H).get? b=some o):h.get? b=some o/\H b=none:=by
 have c:=TN _ e;refine⟨c,?_⟩;cases q:H b with
 | none=>rfl
 | some x =>
  have z:(ZhD h H).get? b=none:=PySem.W.hideAll_none _ (Wf.mpr ⟨Qu.mpr (Ql c),by grind⟩);rw[z]at e;cases e
structure Mod (K:VB) (mg:VI->VE VG) (base:Nu):Prop where
 kin:K.In base
 glob:base.Ns Oj mg
 blt:∃ mb,base.Ns GN mb/\∀ x:VI,x≠"__name__"->mb x=Op x
 nolimit:base.NoLimit
structure Cx where
 prog:Oh
 w:Ol
 K:VB
 mg:VI->VE VG
 base:Nu
 A:NC
 N:VA VI
 s₀:VF
 H₀:Hp
 env:BH
 outer:VA BH
 stack:VA BH
 ex:VA VH
 fn:VI->NY
 calm:NY
 pn:VA (VH×MQ)
 xe:VG->VF->Prop
def frs (l:VA BH):VA VH:=l.filterMap (·.frame)
abbrev Cx.fs (X:Cx):VA VH:=frs X.outer
def Vis (sc:Scope) (x:VI):Prop:=sc.names.lookup x=some .local\/sc.names.lookup x=some .cell\/sc.names.lookup x=some .free
def Loc (sc:Scope) (x:VI):Prop:=sc.names.lookup x=some .local\/sc.names.lookup x=some .cell
def ZpU (env:BH) (h:Nu) (m:VI->VE VG) (x:VI) (u:VG):Prop :=
 (env.kindOf x=some .local/\m x=some u)\/((env.kindOf x=some .cell\/env.kindOf x=some .free)/\∃ c,env.cells.lookup x=some c/\h.IsCell c (some u))
structure Cx.Ok (X:Cx):Prop where
 mod:Mod X.K X.mg X.base
 kind:X.env.scope.kind= .function
 glob:X.env.globals=Oj
 blt:X.env.builtins=GN
 above:X.s₀.heap.objs.size<=X.env.locals
 inj:∀ x y c,X.env.cells.lookup x=some c->X.env.cells.lookup y=some c->x=y
 has:∀ x,(X.env.kindOf x=some .cell\/X.env.kindOf x=some .free)->∃ c,X.env.cells.lookup x=some c
 cab:∀ x c,X.fn x=true->X.env.cells.lookup x=some c->X.s₀.heap.objs.size<=c
 hd:X.calm=true->X.A.handled=none
 frames:X.A.frames=some X.stack
 stk:X.stack=X.outer\/(X.stack=X.env::X.outer/\X.env.frame=some X.env.locals)
 exf:∀ b∈X.ex,b≠X.env.locals/\∀ x c,X.env.cells.lookup x=some c->c≠b
 bs:∀ b o,X.base.get? b=some o->X.s₀.heap.get? b=some o/\X.H₀ b=none
 bsz:X.base.objs.size<=X.s₀.heap.objs.size
 noex:∀ b o,X.base.get? b=some o->b∉X.ex
 exfs:∀ b∈X.ex,b∉X.fs
 funs:X.s₀.heap.FunFrames X.base X.outer
 frf:∀ b∈X.fs,X.H₀ b=none
structure Inv (X:Cx) (pins:VA (VH×MQ)) (σ:VA (VE V)) (H:Hp) (s:VF):Prop where
 ok:X.Ok
 os:s.os=X.s₀.os
 bare:Gh s.gens
 base:Un X.fs X.ex X.H₀ H X.s₀.heap s.heap
 loc:∃ m,s.heap.Ns X.env.locals m/\∀ (i:VC) (x:VI) (v:V),X.N[i]?=some x->σ[i]?=some (some v)->Vis X.env.scope x->∃ u,RelV v u/\ZpU X.env s.heap m x u
 cell:∀ x c,X.env.cells.lookup x=some c->∃ v,s.heap.IsCell c v
 free:H X.env.locals=none
 freeC:∀ x c,X.env.cells.lookup x=some c->H c=none
 pin:∀ p∈X.pn++pins,s.heap.get? p.1=some p.2/\H p.1=none/\p.1≠X.env.locals/\p.1∉X.fs/\∀ v,p.2.data≠.cell v
 hok:HOk X.prog X.w H s.heap
 len:σ.length=X.N.length
section
variable {X:Cx} {pins:VA (VH×MQ)} {σ:VA (VE V)} {H H':Hp} {s:VF} {h':Nu}
def Cx.Ok.nofr (c:X.Ok) (e:X.base.get? b=some o):b∉X.fs:=fun a=>by
 have:=(c.funs.mem a).1
 simp_all
def Inv.bs (I:Inv X pins σ H s):∀ b o,X.base.get? b=some o->s.heap.get? b=some o/\H b=none:=fun b o e =>
 ⟨I.base.keep b o (I.ok.bs b o e).1 (I.ok.bs b o e).2 (I.ok.nofr e) (I.ok.noex b o e),I.base.free b o (I.ok.bs b o e).1 (I.ok.bs b o e).2 (I.ok.noex b o e)⟩
def Inv.bk (I:Inv X pins σ H s):∀ b o,X.base.get? b=some o->s.heap.get? b=some o:=fun b o e=>(I.bs b o e).1
def Inv.mod (I:Inv X pins σ H s):Mod X.K X.mg X.base:=I.ok.mod
def Inv.kIn (I:Inv X pins σ H s):X.K.In s.heap:=I.ok.mod.kin.keeps I.bk
def Inv.nolimit (I:Inv X pins σ H s):s.heap.NoLimit:=I.ok.mod.nolimit.keeps I.bk
def Inv.lt (I:Inv X pins σ H s):X.env.locals<s.heap.objs.size:=let ⟨_,a,_⟩:=I.loc;a.lt
def Inv.sz (I:Inv X pins σ H s):X.s₀.heap.objs.size<=s.heap.objs.size:=QR I.ok.above (WP I.lt)
def Inv.nofs (I:Inv X pins σ H s) {a:VH} (h:s.heap.objs.size<=a):a∉X.fs:=fun c=>by
 obtain⟨_,o,b,_⟩:=I.ok.funs.mem c;exact VM (QP (Ql b) (QR I.sz h)) (Q2 _)
def Inv.cne (I:Inv X pins σ H s):∀ x c,X.env.cells.lookup x=some c->c≠X.env.locals:=fun x c e z=>by
 obtain⟨v,o,d,g⟩:=I.cell x c e;obtain⟨m,⟨_⟩,_⟩:=I.loc
 simp_all
def Inv.funs (I:Inv X pins σ H s):s.heap.FunFrames X.base X.outer:=by
 have c:∀ (l:VA BH),(∀ b∈frs l,b∈X.fs)->X.s₀.heap.FunFrames X.base l->s.heap.FunFrames X.base l:=by
  intro l;induction l with
  | nil=>intro _ _;trivial
  | cons i r t =>
   intro g u;obtain⟨q,⟨L,o,f,n,j,k⟩,m⟩:=u;have a:=g L (by unfold frs;rw[UP,f];simp);obtain⟨v,e⟩:=I.base.slot L o j (I.ok.frf L a) a fun z=>I.ok.exfs L z a;exact⟨q,⟨L,_,f,n,e,k⟩,t (fun b d=>g b (by unfold frs;rw[UP,f];exact Qm _ d)) m⟩
 exact c X.outer (fun _ d=>d) I.ok.funs
def Inv.stack (I:Inv X pins σ H s):s.heap.FunFrames X.base X.stack:=by
 rcases I.ok.stk with e | ⟨e,b⟩
 exact e▸I.funs;rw[e];obtain⟨m,c,_⟩:=I.loc;exact .cons (by rw[I.ok.kind];decide) b c (Rf (QR I.ok.bsz I.ok.above)) I.funs
def Inv.stkSub (I:Inv X pins σ H s):∀ b∈frs X.stack,b∈X.env.locals::X.fs:=fun b a=>by
 rcases I.ok.stk with e | ⟨e,c⟩
 rw[e]at a;exact Qm _ a;rw[e]at a;unfold frs at a;rw[UP,c]at a
 trivial
def Inv.stkFree (I:Inv X pins σ H s):∀ b∈frs X.stack,H b=none:=fun b a=>by
 rcases Qs.mp (I.stkSub b a)with e | a
 exact e▸I.free;obtain⟨_,o,c,_⟩:=I.ok.funs.mem a;exact I.base.free b o c (I.ok.frf b a) fun z=>I.ok.exfs b z a
def Inv.step {d'} {ch:VA VH} (I:Inv X pins σ H s)
  (j:∀ b∈ch,(b∈X.ex\/X.s₀.heap.objs.size<=b)/\b≠X.env.locals/\(∀ x c,X.env.cells.lookup x=some c->c≠b)/\∀ p∈X.pn++pins,p.1≠b)
  (t:∀ b o,b≠X.env.locals->b∉X.fs->b∉ch->s.heap.get? b=some o->H b=none->h'.get? b=some o)
  (A:∀ b o,b≠X.env.locals->b∈X.fs->b∉ch->s.heap.get? b=some o->H b=none->∃ S,h'.get? b=some {o with slots:=S}) (f:∀ b o,b∉ch->s.heap.get? b=some o->H b=none->H' b=none)
  (B:∀ b o,b∉ch->s.heap.get? b=some o->∃ L,h'.get? b=some L)
  (F:∀ b xs,H b=some (.tup xs)->H' b=some (.tup xs)) (E:∀ b o u,H b=some (.frz o u)->H' b=some (.frz o u)) (K:∀ b O,H b=some (.tbl O)->∃ J,H' b=some (.tbl (O++J)))
  (ns:∀ m,s.heap.Ns X.env.locals m->h'.Ns X.env.locals m) (R:HOk X.prog X.w H' h') (hg:Gh g') :
  Inv X pins σ H' {s with heap:=h',gens:=g',drawn:=d',toks:=t'}:=by
 have M:∀ b o,X.s₀.heap.get? b=some o->b≠X.env.locals:=fun b o e=>QB (QP (Ql e) I.ok.above);have w:∀ b o,X.s₀.heap.get? b=some o->b∉X.ex->b∉ch:=fun b o e a C=>by
  rcases(j b C).1 with z | z
  simp_all
  exact VM (QP (Ql e) z) (Q2 _)
 have g:∀ x c,X.env.cells.lookup x=some c->∀ v,s.heap.IsCell c v->h'.IsCell c v:=fun x c e v ⟨o,D,Y⟩=>by
  have h:c∉ch:=fun z=>(j c z).2.2.1 x c e rfl;by_cases Z:c∈X.fs
  obtain⟨S,q⟩:=A c o (I.cne x c e) Z h D (I.freeC x c e);exact⟨_,q,Y⟩
  exact⟨o,t c o (I.cne x c e) Z h D (I.freeC x c e),Y⟩
 refine⟨I.ok,I.os,hg,⟨fun b o e n C a=>?_,fun b o e n C a=>?_,fun b o e n a=>?_,fun b o e a=>?_,fun b xs e=>F b xs (I.base.tups b xs e),fun b o xs e=>E b o xs (I.base.frzs b o xs e),fun b O e=>?_⟩,?_,fun x c e=>?_,?_,fun x c e=>?_,fun p W=>?_,R,I.len⟩
 exact t b o (M b o e) C (w b o e a) (I.base.keep b o e n C a) (I.base.free b o e n a)
 obtain⟨S,y⟩:=I.base.slot b o e n C a;obtain⟨T,N⟩:=A b _ (M b o e) C (w b o e a) y (I.base.free b o e n a);exact⟨T,N⟩
 obtain⟨L,y⟩:=I.base.there b o e a;exact f b L (w b o e a) y (I.base.free b o e n a)
 obtain⟨L,y⟩:=I.base.there b o e a;exact B b L (w b o e a) y
 obtain⟨U,y⟩:=I.base.tbls b O e;obtain⟨m2,N⟩:=K b _ y;exact⟨U++m2,bp⟩
 obtain⟨m,hn,hl⟩:=I.loc;refine⟨m,ns m hn,fun i x v y N Q=>?_⟩;obtain⟨u,r,l⟩:=hl i x v y N Q;refine⟨u,r,?_⟩;rcases l with l | ⟨k,c,e,z⟩
 exact .inl l
 exact .inr ⟨k,c,e,g x c e _ z⟩
 obtain⟨v,z⟩:=I.cell x c e;exact⟨v,g x c e v z⟩
 obtain⟨m,⟨o,_,_,D,_⟩,_⟩:=I.loc;exact f _ o (fun z=>(j _ z).2.1 rfl) D I.free
 obtain⟨v,o,D,_⟩:=I.cell x c e;exact f c o (fun z=>(j c z).2.2.1 x c e rfl) D (I.freeC x c e)
 refine Lj (I.pin p W) fun e n P V d=>?_;have h:p.1∉ch:=fun z=>(j p.1 z).2.2.2 p W rfl;exact⟨t p.1 p.2 P V h e n,f p.1 p.2 h e n,P,V,d⟩
def Inv.un (I:Inv X pins σ H s) (u:Un X.fs [] H H' s.heap h') (c:HOk X.prog X.w H' h'):Inv X pins σ H' {s with heap:=h',toks:=t'}:=by
 obtain⟨m,⟨o,q,w,h,r⟩,_⟩:=id I.loc;obtain⟨v,j⟩:=u.any h I.free bo;exact I.step (ch:=[]) (fun _ z=>nomatch z) (fun b o _ g _ e n=>u.keep b o e n g bo) (fun b o _ g _ e n=>u.slot b o e n g bo) (fun b o _ e n=>u.free b o e n bo) (fun b o _ e=>u.there b o e bo) u.tups u.frzs u.tbls (fun p k=>by
  obtain⟨t,d,f,a,l⟩:=k;rw[h]at a;cases a;exact⟨_,d,f,j,l⟩) c I.bare
def Inv.call (I:Inv X pins σ H s) (u:Un (frs X.stack) ch H H' s.heap h') (i:HOk X.prog X.w H' h') (y:Gh g')
  (d:∀ b∈ch,(b∈X.ex\/X.s₀.heap.objs.size<=b)/\b≠X.env.locals/\(∀ x c,X.env.cells.lookup x=some c->c≠b)/\∀ p∈X.pn++pins,p.1≠b) :
  Inv X pins σ H' {s with heap:=h',gens:=g',drawn:=d',toks:=t'}:=by
 obtain⟨m,⟨o,A,B,q,r⟩,_⟩:=id I.loc;obtain⟨E,h⟩:=u.any q I.free fun z=>(d _ z).2.1 rfl;exact I.step d (fun b o h w a e n=>u.keep b o e n (fun z=>(Qs.mp (I.stkSub b z)).elim h w) a) (fun b o _ _ a e n=>u.any e n a) (fun b o a e n=>u.free b o e n a) (fun b o a e=>u.there b o e a) u.tups u.frzs u.tbls (fun C t=>by
  obtain⟨D,j,g,f,v⟩:=t;rw[q]at f;cases f;exact⟨_,j,g,h,v⟩) i y
def Inv.turned (I:Inv X pins σ H s) (k:∀ b o,b≠a->s.heap.get? b=some o->h'.get? b=some o) (C:H a=none) (h:a≠X.env.locals)
  (l:a∈X.ex\/X.s₀.heap.objs.size<=a) (j:∀ x c,X.env.cells.lookup x=some c->c≠a) (t:∀ p∈X.pn++pins,p.1≠a):Inv X pins σ H {s with heap:=h',toks:=t'}:=by
 have f:∀ b u,H b=some u->b≠a:=fun b u e z=>bp
 refine I.step (ch:=[a]) (fun b D=>?_) (fun b o _ _ d e _=>k b o (fun z=>d (by simp[z])) e) (fun b o _ _ d e _=>⟨_,k b o (fun z=>d (by simp[z])) e⟩) (fun _ _ _ _ n=>n)
  (fun b o d e=>⟨o,k b o (fun z=>d (by simp[z])) e⟩) (fun _ _ e=>e) (fun _ _ _ e=>e) (fun b B e=>⟨#[],bp⟩) (fun m i=>?_) (fun b u e=>?_) I.bare
 have e:b=a:=bp
 subst e;exact⟨l,h,j,t⟩;obtain⟨o,y,w,A,r⟩:=i;exact⟨o,y,w,k _ o (VS h) A,r⟩;refine(I.hok b u e).stay (fun c v d q=>k c v ?_ q) (fun _ q=>q) fun _ _ q=>q;rcases d with z | z
 exact z▸f b u e
 exact f c _ z
def Inv.tok (I:Inv X pins σ H s) (t):Inv X pins σ H {s with toks:=t}:=I.un Un.refl I.hok
def Inv.kept (I:Inv X pins σ H s) (k:∀ b u,s.heap.get? b=some u->h'.get? b=some u):Inv X pins σ H {s with heap:=h',toks:=t'}:=I.un (Un.kept k) (I.hok.kept k)
def Inv.laid {a:VH} (I:Inv X pins σ H s) (k:∀ b u,s.heap.get? b=some u->h'.get? b=some u) (c:s.heap.objs.size<=a) (d:ObjOk X.prog X.w (upd H a o) h' a o) :
  Inv X pins σ (upd H a o) {s with heap:=h',toks:=t'}:=I.un (Un.laid k c (I.hok.fresh c)) (I.hok.laid k c d)
def Inv.write (I:Inv X pins σ H s) (f:Mut (H x)) (d:e=x\/H e=some (.own x)) (k:∀ b u,b≠e->s.heap.get? b=some u->h'.get? b=some u) (a:∃ u,h'.get? e=some u)
  (c:ObjOk X.prog X.w (upd H x o) h' x o):Inv X pins σ (upd H x o) {s with heap:=h',toks:=t'}:=I.un (Un.write f d k a) (I.hok.write f d k a c)
def Inv.pins_of (I:Inv X pins σ H s) (h:∀ p∈a,s.heap.get? p.1=some p.2/\H p.1=none/\p.1≠X.env.locals/\p.1∉X.fs/\∀ v,p.2.data≠.cell v):Inv X a σ H s :=
 ⟨I.ok,I.os,I.bare,I.base,I.loc,I.cell,I.free,I.freeC,fun p e=>(QA.mp e).elim (fun z=>I.pin p (QM _ z)) (h p),I.hok,I.len⟩
def Zbw {N:VA VI} (c:N.Nodup) {i j:VC} (a:N[i]?=some x) (b:N[j]?=some x):i=j:=by
 obtain⟨g,e⟩:=Qj.mp a;obtain⟨f,d⟩:=Qj.mp b;exact(Us c).mp (e.trans d.symm)
def JO (I:Inv X pins σ H s) (hN:X.N.Nodup) (hi:X.N[i]?=some x) (t:Loc X.env.scope x) (r:RelV v u)
  (h:∀ s',Inv X pins (σ.set i (some v)) H s'->(∃ a,NV a s.heap s'.heap/\(a=X.env.locals\/X.env.cells.lookup x=some a))->Q () s') (hf:X.fn x=true\/X.env.scope.names.lookup x=some .local:=by first | exact .inl rfl | exact .inr rfl | assumption):Oe M A (storeName X.env x u) Q E s:=by
 obtain⟨m,hn,hl⟩:=id I.loc;have S:(X.env.scope.kind==.class || (X.env.scope.kind==.module&&X.env.locals != X.env.globals))=false:=by rw[I.ok.kind];rfl
 have F:i<σ.length:=by exact I.len▸(Qj.mp hi).1
 have L:=I.cne;have l:∀ {a:VH} {N:Nu},(∃ o,s.heap.get? a=some o/\H a=none)->NV a s.heap N->HOk X.prog X.w H N:=fun {a N} ha f b ob e=>by
  obtain⟨_⟩:=ha;refine(I.hok b ob e).stay (fun c Z B q=>(f.2 c ?_).trans q) (fun _ q=>q) fun _ _ q=>q;rintro rfl
  simp_all
 rcases t with O | O
 refine wpAny_storeName_local O hn (fun N hn' f=>?_) S;obtain⟨oL,_,_,hoL,_⟩:=id hn;refine h _ ⟨I.ok,I.os,I.bare,⟨fun b o e n J t=>?_,fun b o e n J t=>?_,I.base.free,fun b o e t=>?_,I.base.tups,I.base.frzs,I.base.tbls⟩,⟨_,hn',fun j y v' g C W=>?_⟩,fun y c e=>?_,I.free,I.freeC,fun p w=>?_,l ⟨oL,hoL,I.free⟩ f,by simpa using I.len⟩ ⟨_,f,.inl rfl⟩
 exact(f.2 b (QB (QP (Ql e) I.ok.above))).trans (I.base.keep b o e n J t)
 obtain⟨sl,g⟩:=I.base.slot b o e n J t;exact⟨sl,(f.2 b (QB (QP (Ql e) I.ok.above))).trans g⟩
 obtain⟨o',g⟩:=I.base.there b o e t;exact⟨o',(f.2 b (QB (QP (Ql e) I.ok.above))).trans g⟩
 by_cases G:j=i
 subst G;rw[hi]at g;cases g;rw[U8 F]at C;cases C;exact⟨u,r,.inl ⟨O,by simp⟩⟩
 rw[UM (VS G)]at C;obtain⟨D,r',q⟩:=hl j y v' g C W;refine⟨D,r',?_⟩;rcases q with ⟨k,e⟩ | ⟨k,c,e,z⟩
 refine .inl ⟨k,?_⟩;have:y≠x:=fun e=>G (Zbw hN g (e▸hi));simp[this,e]
 exact .inr ⟨k,c,e,z.sameBut f (L y c e)⟩
 obtain⟨Z,z⟩:=I.cell y c e;exact⟨Z,z.sameBut f (L y c e)⟩
 obtain⟨e,n,Y,nf,d⟩:=I.pin p w;exact⟨(f.2 p.1 Y).trans e,n,Y,nf,d⟩
 have K:X.fn x=true:=by
  simp_all
 have⟨c,B⟩:=I.ok.has x (.inl O);have⟨Z,z⟩:=I.cell x c B;refine wpAny_storeName_cell I.ok.kind O B z (fun N P f=>?_);have⟨oc,T,U⟩:=id z;refine h {s with heap:=N} ⟨I.ok,I.os,I.bare,⟨fun b o e n J t=>?_,fun b o e n J t=>?_,I.base.free,fun b o e t=>?_,I.base.tups,I.base.frzs,I.base.tbls⟩,⟨m,hn.sameBut f (VS (L x c B)),fun j y v' g C W=>?_⟩,fun y V e=>?_,I.free,I.freeC,fun p w=>?_,l ⟨oc,T,I.freeC x c B⟩ f,by simpa using I.len⟩ ⟨c,f,.inr B⟩
 exact(f.2 b (QB (QP (Ql e) (I.ok.cab x c K B)))).trans (I.base.keep b o e n J t)
 have⟨sl,g⟩:=I.base.slot b o e n J t;exact⟨sl,(f.2 b (QB (QP (Ql e) (I.ok.cab x c K B)))).trans g⟩
 have⟨o',g⟩:=I.base.there b o e t;exact⟨o',(f.2 b (QB (QP (Ql e) (I.ok.cab x c K B)))).trans g⟩
 by_cases G:j=i
 subst G;rw[hi]at g;cases g;rw[U8 F]at C;cases C;exact⟨u,r,.inr ⟨.inl O,c,B,P⟩⟩
 rw[UM (VS G)]at C;have⟨D,r',q⟩:=hl j y v' g C W;refine⟨D,r',?_⟩;rcases q with q | ⟨k,V,e,z'⟩
 exact .inl q
 refine .inr ⟨k,V,e,z'.sameBut f ?_⟩;rintro rfl;exact G (Zbw hN g (I.ok.inj _ _ _ e B▸hi))
 by_cases R:V=c
 subst R;exact⟨_,P⟩
 have⟨w2,z2⟩:=I.cell y V e;exact⟨w2,z2.sameBut f R⟩
 have⟨e,n,Y,nf,d⟩:=I.pin p w;refine⟨(f.2 p.1 ?_).trans e,n,Y,nf,d⟩;intro q;rw[q,T]at e;have q':oc=p.2:=VQ e;exact d Z (by exact q'▸U)
def Zbc (I:Inv X pins σ H s) (c:X.N.Nodup) (hi:X.N[i]?=some x) (d:Loc X.env.scope x) (r:RelV v u)
  (h:∀ a,Inv X pins (σ.set i (some v)) H a->Q () a) (g:X.fn x=true\/X.env.scope.names.lookup x=some .local:=by first | exact .inl rfl | exact .inr rfl | assumption):Oe M A (storeName X.env x u) Q E s :=
 JO I c hi d r (fun a f _=>h a f) g
def Inv.call' (I:Inv X pins σ H s) (h:a.os=s.os) (u:Un (frs X.stack) ch H H' s.heap a.heap) (e:HOk X.prog X.w H' a.heap) (g:Gh a.gens)
  (d:∀ b∈ch,(b∈X.ex\/X.s₀.heap.objs.size<=b)/\b≠X.env.locals/\(∀ x c,X.env.cells.lookup x=some c->c≠b)/\∀ p∈X.pn++pins,p.1≠b):Inv X pins σ H' a:=by
 obtain⟨_⟩:=a;subst h;exact I.call u e g d
end
abbrev XK:=VG->VE VH->Hp->Prop
abbrev St:=VA (VE V)
abbrev VK:=V->Hp->Prop
abbrev TE:=St->Hp->VK->Prop
abbrev TT:=St->Hp->(NY->Hp->Prop)->Prop
abbrev TA:=St->Hp->(VA V->Hp->Prop)->Prop
structure Zfy where
 nx:St->Hp->Prop
 rt:VK
 bk:St->Hp->Prop:=fun _ _=>False
 ct:St->Hp->Prop:=fun _ _=>False
abbrev TS:=Zfy->St->Hp->Prop
def EP (X:Cx) (pins:VA (VH×MQ)) (σ:St) (Q:VK) (u:VG) (s':VF):Prop:=∃ v H',Inv X pins σ H' s'/\RelV v u/\Q v H'
def TP (X:Cx) (pins:VA (VH×MQ)) (σ:St) (Q:NY->Hp->Prop) (b:NY) (s':VF):Prop:=∃ H',Inv X pins σ H' s'/\Q b H'
def AP (X:Cx) (pins:VA (VH×MQ)) (σ:St) (Q:VA V->Hp->Prop) (us:VA VG) (s':VF):Prop:=∃ vs H',Inv X pins σ H' s'/\Vals vs us/\Q vs H'
def Le{g:Prop}(f:∀v H,Inv X p σ H s->RelV v u->Q v H->g):EP X p σ Q u s->g|⟨v,H,a,b,c⟩=>f v H a b c
def Lg{g:Prop}(f:∀H,Inv X p σ H s->Q b H->g):TP X p σ Q b s->g|⟨H,a,c⟩=>f H a c
def Lh{g:Prop}{p q:α->Prop}(f:∀v,p v->q v->g):(∃v,p v/\q v)->g|⟨v,a,c⟩=>f v a c
def Li{g:Prop}{p q r:α->β->Prop}(f:∀v w,p v w->q v w->r v w->g):(∃v w,p v w/\q v w/\r v w)->g|⟨v,w,a,b,c⟩=>f v w a b c
def SP (X:Cx) (pins:VA (VH×MQ)) (D:Zfy) (f:Flow) (s':VF):Prop :=
 match f with
 | .next=>∃ σ' H',Inv X pins σ' H' s'/\D.nx σ' H'
 | .brk=>∃ σ' H',Inv X pins σ' H' s'/\D.bk σ' H'
 | .cont=>∃ σ' H',Inv X pins σ' H' s'/\D.ct σ' H'
 | .ret u=>∃ v σ' H',Inv X pins σ' H' s'/\RelV v u/\D.rt v H'
def PE (X:Cx) (e:Expr) (t:TE):Prop :=
 ∀ (pins:VA (VH×MQ)) (s:VF) (σ:St) (H:Hp) (Q:VK),Inv X pins σ H s->t σ H Q->Oe (Oc X.prog X.w) X.A (NQ e X.env) (EP X pins σ Q) X.xe s
def PT (X:Cx) (e:Expr) (t:TT):Prop :=
 ∀ (pins:VA (VH×MQ)) (s:VF) (σ:St) (H:Hp) (Q:NY->Hp->Prop),Inv X pins σ H s->t σ H Q->Oe (Oc X.prog X.w) X.A (isTrue e X.env (NQ e X.env)) (TP X pins σ Q) X.xe s
def PW (X:Cx) (e:Expr) (t:TT):Prop :=
 ∀ (whole:DE VG) (pins:VA (VH×MQ)) (s:VF) (σ:St) (H:Hp) (Q:NY->Hp->Prop),Inv X pins σ H s->t σ H Q->Oe (Oc X.prog X.w) X.A (isTrue e X.env whole) (TP X pins σ Q) X.xe s
def PW.pt (h:PW X e t):PT X e t:=h _
def PA (X:Cx) (es:VA Expr) (t:TA):Prop :=
 ∀ (pos:SD) (pins:VA (VH×MQ)) (s:VF) (σ:St) (H:Hp) (Q:VA V->Hp->Prop),Inv X pins σ H s->t σ H Q->Oe (Oc X.prog X.w) X.A (spliced (OE pos (Oi es X.env))) (AP X pins σ Q) X.xe s
def PS (X:Cx) (st:Mv) (t:TS):Prop :=
 ∀ (pins:VA (VH×MQ)) (s:VF) (σ:St) (H:Hp) (D:Zfy),Inv X pins σ H s->t D σ H->Oe (Oc X.prog X.w) X.A (exec st X.env) (SP X pins D) X.xe s
def PSs (X:Cx) (st:VA Mv) (t:TS):Prop :=
 ∀ (pins:VA (VH×MQ)) (s:VF) (σ:St) (H:Hp) (D:Zfy),Inv X pins σ H s->t D σ H->Oe (Oc X.prog X.w) X.A (execs st X.env) (SP X pins D) X.xe s
def thn {t:DE α} {Q b} (h:Oe M A t Q E s) (c:∀ a s,Q a s->b a s):Oe M A t b E s:=Os h c fun _ _ x=>x
section
variable {X:Cx}
def ZnT (i:VC):TE:=fun σ H Q=>∃ v,σ[i]?=some (some v)/\Q v H
def tC (v:V):TE:=fun _ H Q=>Q v H
def ZmK {pos} (o:X.N[i]?=some x) (p:Vis X.env.scope x) (j:(x==("__debug__"))=false:=by decide) (g:(x==("__classdict__"))=false:=by decide):PE X (.Name x pos) (ZnT i):=by
 intro f s σ H Q I h;obtain⟨v,e,h⟩:=h;obtain⟨m,q,t⟩:=I.loc;obtain⟨u,r,l⟩:=t i x v o e p;have b:EP X f σ Q u s:=⟨v,H,I,r,h⟩
 rcases l with ⟨d,w⟩ | ⟨d,c,k,a⟩
 exact GO (KZ I.ok.kind d q w b) j;rcases d with d | d
 exact GO (wpAny_loadName_cell I.ok.kind d k a b) j;exact GO (Dw I.ok.kind d k a b g) j
def Zg:PE X (.Constant (.int i) j pos) (tC (.int i)):=fun _ _ _ H _ I h=>wpAny_Constant_int ⟨.int i,H,I.tok _,⟨_,rfl⟩,h⟩
def YV:PE X (.Constant (.bool b) j pos) (tC (.bl b)):=fun _ _ _ H _ I h=>Constant_bool ⟨.bl b,H,I,rfl,h⟩
def Xp:PE X (.Constant .none j pos) (tC .non):=fun _ _ _ H _ I h=>Constant_none ⟨.non,H,I,rfl,h⟩
def J9:PE X (.Constant (.str x) j pos) (tC (.str x)):=fun _ _ _ H _ I h=>Calls.Constant_str ⟨.str x,H,I.tok _,⟨_,rfl⟩,h⟩
def Gl (X:Cx) (x:VI):Prop:=X.env.kindOf x=some .globalImplicit
def Jo {σ:St} (I:Inv X pins σ H s) (c:Gl X x) (b:X.mg x=some u) (h:Q u s)
  (d:(x==("__debug__"))=false:=by decide):Oe (Oc X.prog X.w) X.A (NQ (.Name x pos) X.env) Q E s :=
 TQ I.ok.kind c (Calls.loadGlobal_global (by exact I.ok.glob▸I.mod.glob.keeps I.bk) b h) d
def YQ {E} {σ:St} {pos} (I:Inv X pins σ H s) (g:Gl X x) (b:X.mg x=none) (d:Op x=some u) (h:Q u s)
  (c:x≠"__name__":=by decide) (f:(x==("__debug__"))=false:=by decide):Oe (Oc X.prog X.w) X.A (NQ (.Name x pos) X.env) Q E s:=by
 have⟨j,e,i⟩:=I.mod.blt;exact TQ I.ok.kind g (Calls.loadGlobal_builtin (by exact I.ok.glob▸I.mod.glob.keeps I.bk) b (by exact I.ok.blt▸e.keeps I.bk) ((i x c).trans d) h) f
def Y8 (b:Gl X x) (d:X.mg x=some u) (r:RelV v u) (c:(x==("__debug__"))=false:=by decide):PE X (.Name x pos) (tC v) :=
 fun _ _ _ H _ I h=>Jo I b d ⟨v,H,I,r,h⟩ c
def Zln {pos} (e:Gl X x) (b:X.mg x=none) (c:Op x=some u) (r:RelV v u) (d:x≠"__name__":=by decide) (f:(x==("__debug__"))=false:=by decide):PE X (.Name x pos) (tC v) :=
 fun _ _ _ H _ I h=>YQ I e b c ⟨v,H,I,r,h⟩ d f
variable {a b:Expr} {ta tb:TE} {pos:SD}
def PC (X:Cx) (op:CmpOp) (a b:Expr) (t:TE):Prop :=
 ∀ (pins:VA (VH×MQ)) (s:VF) (σ:St) (H:Hp) (Q:VK),Inv X pins σ H s->t σ H Q ->
  Oe (Oc X.prog X.w) X.A (NQ a X.env) (fun v s₁=>Oe (Oc X.prog X.w) X.A (NQ b X.env) (fun u s₂=>Oe (Oc X.prog X.w) X.A (OJ op v u) (EP X pins σ Q) X.xe s₂) X.xe s₁) X.xe s
def ZiV (b:Expr) {a:CmpOp} (h:a≠.In) (d:a≠.NotIn):OX a b=false:=by
 have e:(a==CmpOp.In)=false:=by cases a <;> first | rfl | exact VM rfl h
 have f:(a==CmpOp.NotIn)=false:=by cases a <;> first | rfl | exact VM rfl d
 cases b <;> simp[OX,e,f]
def tB (t:TE):TT:=fun σ H Q=>t σ H fun x H1=>∃ c,x= .bl c/\Q c H1
def Zek (h:PC X i a b t) (g:OX i b=false:=by first | exact ZiV _ (by decide) (by decide) | rfl):PT X (.Compare a [i] [b] pos) (tB t):=by
 intro e s σ H Q I k;refine KL (thn (h e s σ H _ I k) fun v p g=>thn g fun u r o=>thn o fun c w ⟨x,j,m,l,n⟩=>?_) g;obtain⟨d,rfl,q⟩:=n;cases l;exact ON ⟨j,m,q⟩
def YI (h:PE X e t) (k:∀ a,isTrue e X.env a=(do let v ←a;GR e.pos;Gi [v] (truthy v)):=by intro _;rfl):PT X e (tB t):=by
 intro b s σ H Q I j;refine isTrue_plain (thn (h b s σ H _ I j) fun v l ⟨x,c,g,f,i⟩=>?_) (k _);obtain⟨d,rfl,q⟩:=i;cases f;exact ON ⟨c,g,q⟩
variable {tA tB':TT} {rest:VA Expr}
def Zps (t u:TT):TT:=fun σ H Q=>t σ H fun c H1=>if c=true then u σ H1 Q else Q false H1
def tOr (t u:TT):TT:=fun σ H Q=>t σ H fun c H1=>if c=true then Q true H1 else u σ H1 Q
def Zpk (t:TT):TT:=fun σ H Q=>t σ H fun c H1=>Q (!c) H1
def Zde (d:PT X a f):PW X (.BoolOp .And [a] pos) f:=by
 intro g b s σ H Q I h;refine isTrue_and (thn (d b s σ H Q I h) fun c i e=>?_);cases c with
 | true=>exact isTrue_and_nil e
 | false=>grind
def Jx (d:PT X a f):PW X (.BoolOp .Or [a] pos) f:=by
 intro g b s σ H Q I h;refine isTrue_or (thn (d b s σ H Q I h) fun c i e=>?_);cases c with
 | false=>exact isTrue_or_nil e
 | true=>grind
def Zgu (j:PT X a tA) (n:PW X (.BoolOp .And (b::rest) pos) tB'):PW X (.BoolOp .And (a::b::rest) pos) (Zps tA tB'):=by
 intro f d s σ H Q I h;refine isTrue_and (thn (j d s σ H _ I h) fun c k ⟨g,m,i⟩=>?_);cases c with
 | true=>exact n f d k σ g Q m i
 | false=>assumption
def JB (j:PT X a tA) (n:PW X (.BoolOp .Or (b::rest) pos) tB'):PW X (.BoolOp .Or (a::b::rest) pos) (tOr tA tB'):=by
 intro f d s σ H Q I h;refine isTrue_or (thn (j d s σ H _ I h) fun c k ⟨g,m,i⟩=>?_);cases c with
 | true=>assumption
 | false=>exact n f d k σ g Q m i
def Xm (d:PT X a c):PT X (.UnaryOp .Not a pos) (Zpk c):=by
 intro b s σ H Q I h;exact isTrue_not (d b s σ H _ I h)
def Zoi (ta tb:TE):TE:=fun σ H Q=>ta σ H fun x H1=>∃ c,x= .bl c/\if c=true then tb σ H1 Q else Q (.bl false) H1
def Zoa (ta:TE):TE:=fun σ H Q=>ta σ H fun x H1=>∃ c,x= .bl c/\Q (.bl (!c)) H1
def ZmM (h:PE X a t):PE X (.BoolOp d [a] pos) t:=fun b s σ H Q I c=>BoolOp_one (h b s σ H Q I c)
def ZmR (m:PE X a ta) (i:PE X (.BoolOp .And (b::rest) pos) tb):PE X (.BoolOp .And (a::b::rest) pos) (Zoi ta tb):=by
 intro d s σ H Q I h;refine BoolOp_and (thn (m d s σ H _ I h) fun v k=>Le fun x f g l e=>?_);obtain⟨c,rfl,e⟩:=e;cases l;refine ON ?_;cases c with
 | true=>exact i d k σ f Q g e
 | false=>exact⟨.bl false,f,g,rfl,e⟩
def ZmN (i:PE X a ta):PE X (.UnaryOp .Not a pos) (Zoa ta):=by
 intro b s σ H Q I h;refine UnaryOp_ (thn (i b s σ H _ I h) fun v l=>Le fun x e f g d=>?_);obtain⟨c,rfl,d⟩:=d;cases g;exact not_of (ON ⟨.bl _,e,f,rfl,d⟩)
def tIf (t:TT) (ta tb:TE):TE:=fun σ H Q=>t σ H fun c H1=>if c=true then ta σ H1 Q else tb σ H1 Q
def ZiJ (m:PT X c tA) (o:PE X a ta) (l:PE X b tb):PE X (.IfExp c a b pos) (tIf tA ta tb):=by
 intro e s σ H Q I h;refine wpAny_IfExp (thn (m e s σ H _ I h) fun d j=>Lg fun i k g=>?_);cases d with
 | true=>exact o e j σ i Q k g
 | false=>exact l e j σ i Q k g
end
def SqL (K:VB) (H:Hp) (a:VH) (xs:VA V):Prop :=
 Rd H a (.lst xs) \/
  ∃ (o:MQ) (its:VL VG) (n:VC),K.lookup a=some o/\o.cls= .type "list"/\o.dict=none/\o.data= .seq its n/\its.size<=Od/\Vals xs its.toList
def SqT (K:VB) (H:Hp) (a:VH) (xs:VA V):Prop :=
 Rd H a (.tup xs) \/
  ∃ (o:MQ) (its:VL VG) (n:VC),K.lookup a=some o/\o.cls= .type "tuple"/\o.data= .seq its n/\its.size<=Od/\Vals xs its.toList
noncomputable def ZpP:VG->VE V
 | .none=>some .non
 | .bool b=>some (.bl b)
 | .int i _=>some (.int i)
 | .str x _=>some (.str x)
 | .bytes b _=>some (.byt b)
 | .float b _=>some (.flt b)
 | .ref a=>some (.ref a)
 | .type n=>some (.ty n)
 | _=>none
def RelV.abs (r:RelV x u):ZpP u=some x:=by
 cases x with
 | non=>cases r;rfl
 | bl _=>cases r;rfl
 | int _=>obtain⟨t,rfl⟩:=r;rfl
 | str _=>obtain⟨t,rfl⟩:=r;rfl
 | byt _=>obtain⟨t,rfl⟩:=r;rfl
 | flt _=>obtain⟨t,rfl⟩:=r;rfl
 | ref _=>cases r;rfl
 | ty _=>cases r;rfl
def RelV.inj (r:RelV x u) (q:RelV y u):x=y:=VQ (r.abs.symm.trans q.abs)
def Vals.inj:∀ {xs ys} {c},Vals xs c->Vals ys c->xs=ys
 | _,_,_,.nil,.nil=>rfl
 | _,_,_,.cons r t,.cons e d=>by rw[r.inj e,Vals.inj t d]
section
variable {X:Cx} {pins:VA (VH×MQ)} {σ:St} {H:Hp} {s:VF} {a:VH} {xs ys:VA V}
def SqL.of {K} (h:H a=some (.lst xs)):SqL K H a xs:=.inl (.inl h)
def SqT.of {K} (h:H a=some (.tup xs)):SqT K H a xs:=.inl (.inl h)
def Inv.list (I:Inv X pins σ H s) (h:SqL X.K H a xs):∃ b,Vals xs b/\PlainL s.heap a b.toArray/\xs.length<=Od:=by
 rcases h with h | ⟨o,b,n,f,d,c,i,g,r⟩
 obtain⟨z,b,n,r,e⟩:=h.ok I.hok;exact⟨b,r,⟨_,n,e,rfl,rfl,rfl⟩,z⟩;refine⟨_,r,⟨o,n,I.kIn a o f,d,c,bq⟩,?_⟩;have e:=r.length;simp[Qx]at e;exact Kk g e
def Inv.tuple (I:Inv X pins σ H s) (h:SqT X.K H a xs):∃ b,Vals xs b/\IsTup s.heap a b.toArray/\xs.length<=Od:=by
 rcases h with h | ⟨o,b,n,d,c,g,f,r⟩
 obtain⟨z,b,r,p,_⟩:=h.ok I.hok;exact⟨b,r,p,z⟩;refine⟨_,r,⟨o,I.kIn a o d,c,n,bq⟩,?_⟩;have e:=r.length;simp[Qx]at e;exact Kk f e
def Inv.list_inj (I:Inv X pins σ H s) (h:SqL X.K H a xs) (h':SqL X.K H a ys):xs=ys:=by
 obtain⟨c,r,⟨o,n,e,_⟩,_⟩:=I.list h;obtain⟨b,g,⟨i,j,f,_⟩,_⟩:=I.list h';rw[e]at f;cases f;have:c=b:=bp
 subst this;exact r.inj g
def Inv.tuple_inj (I:Inv X pins σ H s) (h:SqT X.K H a xs) (h':SqT X.K H a ys):xs=ys:=by
 obtain⟨c,r,⟨o,e,_⟩,_⟩:=I.tuple h;obtain⟨b,g,⟨i,f,_,j,k⟩,_⟩:=I.tuple h';rw[e]at f;cases f;have:c=b:=bp
 subst this;exact r.inj g
end
noncomputable abbrev Cx.wish (X:Cx) (E:VG->VF->Prop):Cx:={X with xe:=E}
noncomputable abbrev Cx.nox (X:Cx):Cx:=X.wish fun _ _=>False
def Cx.Ok.wish {X:Cx} (a:X.Ok) (E):(X.wish E).Ok :=
 ⟨a.mod,a.kind,a.glob,a.blt,a.above,a.inj,a.has,a.cab,a.hd,a.frames,a.stk,a.exf,a.bs,a.bsz,a.noex,a.exfs,a.funs,a.frf⟩
def Cx.Ok.unwish {X:Cx} (a:(X.wish E).Ok):X.Ok :=
 ⟨a.mod,a.kind,a.glob,a.blt,a.above,a.inj,a.has,a.cab,a.hd,a.frames,a.stk,a.exf,a.bs,a.bsz,a.noex,a.exfs,a.funs,a.frf⟩
section
variable {X:Cx} {pins:VA (VH×MQ)} {σ:St} {H:Hp} {s:VF} {E:VG->VF->Prop}
def Inv.wish (I:Inv X pins σ H s) (E):Inv (X.wish E) pins σ H s:=⟨I.ok.wish E,I.os,I.bare,I.base,I.loc,I.cell,I.free,I.freeC,I.pin,I.hok,I.len⟩
def Inv.unwish (I:Inv (X.wish E) pins σ H s):Inv X pins σ H s:=⟨I.ok.unwish,I.os,I.bare,I.base,I.loc,I.cell,I.free,I.freeC,I.pin,I.hok,I.len⟩
def SP.unwish (h:SP (X.wish E) pins D f g):SP X pins D f g:=by
 cases f with
 | next=>obtain⟨a,b,I,q⟩:=h;exact⟨a,b,I.unwish,q⟩
 | brk=>obtain⟨a,b,I,q⟩:=h;exact⟨a,b,I.unwish,q⟩
 | cont=>obtain⟨a,b,I,q⟩:=h;exact⟨a,b,I.unwish,q⟩
 | ret u=>obtain⟨v,a,b,I,r,q⟩:=h;exact⟨v,a,b,I.unwish,r,q⟩
def PSs.nox {st} (h:PSs X.nox st t):PSs X st t:=fun a s σ H D I b =>
 Os (h a s σ H D (I.wish _) b) (fun _ _ q=>q.unwish) fun _ _ z=>R9 z
end
section
variable {X:Cx} {st:Mv} {rest:VA Mv} {t u:TS} {e:Expr} {te:TE} {pos:SD}
def Zob:TS:=fun D σ H=>D.nx σ H
def Zd1 (t u:TS):TS:=fun D σ H=>t {D with nx:=u D} σ H
def Lb:(let X:=x;∃ t,PSs X b t/\t D σ H)->∃ t,PSs x b t/\t D σ H:=id
noncomputable def La:(let a:=p;a)->p:=id
def Db:(let d:=D;let a:=u;Zd1 t a d σ H)->Zd1 t u D σ H:=id
def J1:(let d:=D;let a:=v;let b:=Zd1 u a;Zd1 t b d σ H)->Zd1 t (Zd1 u v) D σ H:=id
def Dd:(let d:=D;let a:=w;let b:=Zd1 v a;let c:=Zd1 u b;Zd1 t c d σ H)->Zd1 t (Zd1 u (Zd1 v w)) D σ H:=id
def De:(let d:=D;let a:=p;let b:=Zd1 w a;let c:=Zd1 v b;let e:=Zd1 u c;Zd1 t e d σ H)->Zd1 t (Zd1 u (Zd1 v (Zd1 w p))) D σ H:=id
def Dc:(let d:=D;let a:=q;let b:=Zd1 p a;let c:=Zd1 w b;let e:=Zd1 v c;let m:=Zd1 u e;Zd1 t m d σ H)->Zd1 t (Zd1 u (Zd1 v (Zd1 w (Zd1 p q)))) D σ H:=id
def Dg:(let d:=D;let a:=y;let f:=Zd1 s a;let h:=Zd1 r f;let b:=Zd1 q h;let c:=Zd1 p b;let i:=Zd1 w c;let e:=Zd1 v i;let g:=Zd1 u e;Zd1 t g d σ H)->Zd1 t (Zd1 u (Zd1 v (Zd1 w (Zd1 p (Zd1 q (Zd1 r (Zd1 s y))))))) D σ H:=id
def Dh:(let d:=D;let a:=b;let n:=Zd1 k a;let q:=Zd1 r n;let u:=Zd1 t7 q;let j:=Zd1 h u;let s:=Zd1 i j;let m:=Zd1 f s;let p:=Zd1 t3 m;let l:=Zd1 t2 p;let c:=Zd1 o l;Zd1 g c d σ H)->Zd1 g (Zd1 o (Zd1 t2 (Zd1 t3 (Zd1 f (Zd1 i (Zd1 h (Zd1 t7 (Zd1 r (Zd1 k b))))))))) D σ H:=id
def Dj:(let d:=D;let a:=b;let n:=Zd1 c a;let r:=Zd1 k n;let w:=Zd1 s r;let j:=Zd1 p w;let t:=Zd1 h j;let m:=Zd1 i t;let q:=Zd1 f m;let l:=Zd1 t3 q;let e:=Zd1 t2 l;let v:=Zd1 o e;Zd1 g v d σ H)->Zd1 g (Zd1 o (Zd1 t2 (Zd1 t3 (Zd1 f (Zd1 i (Zd1 h (Zd1 p (Zd1 s (Zd1 k (Zd1 c b)))))))))) D σ H:=id
def ZD:PSs X [] Zob:=fun _ _ σ H _ I h=>OY ⟨σ,H,I,h⟩
def Zc (e:PS X st t) (k:PSs X rest u):PSs X (st::rest) (Zd1 t u):=by
 intro a s σ H D I h;refine Gs (thn (e a s σ H _ I h) fun f g q=>?_);cases f with
 | next =>
  obtain⟨b,l,j,q⟩:=q;exact k a g b l D j q
 | ret v=>exact q
 | brk=>exact q
 | cont=>exact q
def Zj (d:PS X st t):PSs X [st] t:=by
 intro a s σ H D I h;refine Gs (thn (d a s σ H D I h) fun f g q=>?_);cases f with
 | next=>exact OY q
 | ret v=>omega
 | brk=>omega
 | cont=>omega
def Inv.quiet {σ:St} (I:Inv X pins σ H s):interactive X.env=false:=by simp[interactive,I.ok.kind]
def Zod (te:TE):TS:=fun D σ H=>te σ H fun _ H1=>D.nx σ H1
def Z4 (c:PE X e te) (i:Gu e none pos.line X.env=pure false:=by rfl):PS X (.Expr e pos) (Zod te):=by
 intro a s σ H D I h;exact FI (thn (c a s σ H _ I h) fun v k ⟨x,f,d,j,g⟩=>⟨σ,f,d,g⟩) I.quiet i
def Zo2 (te:TE):TS:=fun D σ H=>te σ H D.rt
def Zu (g:PE X e te):PS X (.Return (some e) pos) (Zo2 te):=by
 intro a s σ H D I h;exact wpAny_Return_some (thn (g a s σ H _ I h) fun v k=>Le fun x j f d i=>⟨x,σ,j,f,d,i⟩)
def ZkN (c:TT) (t u:TS):TS:=fun D σ H=>c σ H fun b H1=>if b=true then t D σ H1 else u D σ H1
def Ya (k:PT X c n) (m:PSs X a t) (l:PSs X b u):PS X (.If c a b pos) (ZkN n t u):=by
 intro e s σ H D I h;refine wpAny_If (thn (k e s σ H _ I h) fun d j=>Lg fun g i f=>?_);cases d with
 | true=>exact m e j σ g D i f
 | false=>exact l e j σ g D i f
end
abbrev TG:=V->St->Hp->(St->Hp->Prop)->Prop
abbrev TGs:=VA V->St->Hp->(St->Hp->Prop)->Prop
def PG (X:Cx) (target:Expr) (t:TG):Prop :=
 ∀ (pins:VA (VH×MQ)) (s:VF) (σ:St) (H:Hp) (v:V) (u:VG) (Q:St->Hp->Prop),Inv X pins σ H s->RelV v u->t v σ H Q ->
  Oe (Oc X.prog X.w) X.A (Vf target X.env u) (fun _ s'=>∃ σ' H',Inv X pins σ' H' s'/\Q σ' H') X.xe s
def PGs (X:Cx) (ts:VA Expr) (t:TGs):Prop :=
 ∀ (pins:VA (VH×MQ)) (s:VF) (σ:St) (H:Hp) (vs:VA V) (us:VA VG) (Q:St->Hp->Prop),Inv X pins σ H s->Vals vs us->t vs σ H Q ->
  Oe (Oc X.prog X.w) X.A (assignInOrder ((O9 ts X.env).map (·.2)) us) (fun _ s'=>∃ σ' H',Inv X pins σ' H' s'/\Q σ' H') X.xe s
abbrev ZoV:=V->V->V->Hp->(Hp->Prop)->Prop
def ZoW (X:Cx) (t:ZoV):Prop :=
 ∀ (pins:VA (VH×MQ)) (s:VF) (σ:St) (H:Hp) (o i v:V) (ov iv u:VG) (Q:Hp->Prop),Inv X pins σ H s->RelV o ov->RelV i iv->RelV v u->t o i v H Q ->
  Oe (Oc X.prog X.w) X.A (Vh ov iv u) (fun _ s'=>∃ H',Inv X pins σ H' s'/\Q H') X.xe s
abbrev TIp:=V->V->Hp->VK->Prop
def PIp (X:Cx) (op:Operator) (t:TIp):Prop :=
 ∀ (pins:VA (VH×MQ)) (s:VF) (σ:St) (H:Hp) (x y:V) (v u:VG) (Q:VK),Inv X pins σ H s->RelV x v->RelV y u->t x y H Q ->
  Oe (Oc X.prog X.w) X.A (inplaceOp op v u) (EP X pins σ Q) X.xe s
section
variable {X:Cx} {pos:SD}
def Js (i:VC):TG:=fun v σ H Q=>Q (σ.set i (some v)) H
def Zw (i) (d:X.N.Nodup) (hi:X.N[i]?=some x:=by rfl) (e:Loc X.env.scope x:=by first|exact .inl rfl|exact .inr rfl) (g:X.fn x=true\/X.env.scope.names.lookup x=some .local:=by first | exact .inl rfl | exact .inr rfl | assumption):PG X (.Name x pos) (Js i):=by
 intro c s σ H v u Q I r h;exact LA (Zbc I d hi e r (fun l j=>⟨_,H,j,h⟩) g)
def ZpI:TGs:=fun vs σ H Q=>vs=[]/\Q σ H
def ZoK (t:TG) (u:TGs):TGs:=fun vs σ H Q=>∃ v r,vs=v::r/\t v σ H fun σ' H'=>u r σ' H' Q
def ZV:PGs X [] ZpI:=by
 intro a s σ H b c Q I r h;obtain⟨rfl,h⟩:=h;cases r;exact assignInOrder_nil ⟨σ,H,I,h⟩
def Zq (l:PG X e t) (n:PGs X es u)
  (j:(O9 (e::es) X.env).map (·.2)=Vf e X.env::(O9 es X.env).map (·.2):=by rfl):PGs X (e::es) (ZoK t u):=by
 intro a s σ H p q Q I r h;obtain⟨v,o,rfl,h⟩:=h;cases r with
 | cons r g =>
  rw[j];exact assignInOrder_cons (thn (l a s σ H _ _ _ I r h) fun _ f ⟨b,k,i,m⟩=>n a f b k _ _ Q i g m)
def Zpb (K:VB) (n:VC) (t:TGs):TG:=fun v σ H Q=>∃ a xs,v= .ref a/\SqT K H a xs/\xs.length=n/\t xs σ H Q
def ZmI {k} (x:X.calm=true) (h:PGs X es t)
  (z:(O9 es X.env).length=n:=by rfl) (g:(O9 es X.env).findIdx? (·.1)=none:=by rfl):PG X (.Tuple es k pos) (Zpb X.K n t):=by
 intro d s σ H v u Q I r j;obtain⟨a,p,rfl,w,A,j⟩:=j;cases r;have⟨q,l,m,B⟩:=I.tuple w;exact assign_Tuple_tuple (I.ok.hd x) m (by simp[z,←A,l.length]) g fun C y=>h d _ σ H p _ Q (I.kept (t':=s.toks) fun b o e=>y b o (QB (Ql e)) e) (by omega) j
def ZpH (to ti:TE) (t:ZoV):TG:=fun v σ H Q=>to σ H fun o H1=>ti σ H1 fun i H2=>t o i v H2 fun H3=>Q σ H3
def Zce (f:PE X o E) (hi:PE X i w) (l:ZoW X t)
  (G:∀ v,Vf (.Subscript o i pos) X.env v=(do
   let c ←Gi [v] (NQ o X.env)
   let d ←Gi [v,c] (NQ i X.env)
   GR pos
   Gi [v,c,d] (Vh c d v)
   release [v,c,d] []):=by intro _;rfl):PG X (.Subscript o i pos) (ZpH E w t):=by
 intro b s σ H v u Q I r h;exact Oa (On (thn (f b s σ H _ I h) fun c q ⟨x,g,C,m,j⟩=>Oa (On (thn (hi b q σ g _ C j) fun d A ⟨y,e,D,z,n⟩=>Oa (Gp (Oa (On (thn (l b A σ e x y v c d u _ D m z r n) fun _ F ⟨k,p,B⟩=>wpAny_release ⟨σ,k,p,B⟩))))))))
def ZnU (te:TE) (g:TG):TS:=fun D σ H=>te σ H fun x H1=>g x σ H1 D.nx
def Zcc (o:PE X e d) (p:PG X b g) (r:swapsWithSole [b] e pos.line X.env=pure false:=by rfl) (k:swappedStores [b] e X.env=pure none:=by rfl)
  (j:(O9 [b] X.env).map (·.2)=[Vf b X.env]:=by rfl):PS X (.Assign [b] e pos) (ZnU d g):=by
 intro a s σ H D I h;exact wpAny_Assign_stores (thn (o a s σ H _ I h) fun v i ⟨x,m,f,t,n⟩=>j▸thn (p a i σ m x v _ f t n) fun _ u q=>q) r k
def Zm (i) (g:X.N.Nodup) (u:PE X e p) (hi:X.N[i]?=some x:=by rfl) (j:Loc X.env.scope x:=by first|exact .inl rfl|exact .inr rfl) (w:Gu e (some (.Name x a)) pos.line X.env=pure false:=by rfl) (r:X.fn x=true\/X.env.scope.names.lookup x=some .local:=by first | exact .inl rfl | exact .inr rfl | assumption) :
  PS X (.Assign [.Name x a] e pos) (ZnU p (Js i)):=by
 intro c s σ H D I h;exact wpAny_Assign_Name (thn (u c s σ H _ I h) fun v z ⟨y,k,m,q,l⟩=>Zbc m g hi j q (fun A t=>⟨_,k,t,l⟩) r) w
def Zoh (to ti te:TE) (tget:V->V->Hp->VK->Prop) (tip:TIp) (tset:ZoV):TS:=fun D σ H=>to σ H fun o H1=>ti σ H1 fun i H2=>tget o i H2 fun x H3=>te σ H3 fun y H4=>tip x y H4 fun z H5=>tset o i z H5 fun H6=>D.nx σ H6
def Zpe (X:Cx) (t:V->V->Hp->VK->Prop):Prop :=
 ∀ (pins:VA (VH×MQ)) (s:VF) (σ:St) (H:Hp) (o i:V) (ov iv:VG) (Q:VK),Inv X pins σ H s->RelV o ov->RelV i iv->t o i H Q ->
  Oe (Oc X.prog X.w) X.A (GC ov iv) (EP X pins σ Q) X.xe s
def Zbq (u:PE X o to) (hi:PE X i N) (hg:Zpe X k) (he:PE X e E) (w:PIp X op l) (z:ZoW X j)
  (C:∀ g c b,augStore i g c b=(do Gi [b,g,c] (Vh g c b);release [b,g,c] [];pure .next):=by intros;rfl):PS X (.AugAssign (.Subscript o i t) op e pos) (Zoh to N E k l j):=by
 intro a s σ H D I h;exact wpAny_AugAssign_SubscriptAny (thn (u a s σ H _ I h) fun g M ⟨p,H1,I1,q,x⟩=>thn (hi a M σ H1 _ I1 x) fun c P ⟨n,H2,K,r,F⟩=>thn (hg a P σ H2 p n g c _ K q r F) fun m G ⟨R,y,Z,r3,q3⟩=>thn (he a G σ y _ Z q3) fun v A ⟨Y,V,Q,S,U⟩=>thn (w a A σ V R Y m v _ Q r3 S U) fun b W ⟨f,L,B,r5,T⟩=>thn (z a W σ L p n f g c b _ B q r r5 T) fun _ s6 ⟨O,J,d⟩=>⟨σ,O,J,d⟩) C
def ipI (f:VN->VN->VN):TIp:=fun x y H Q=>∃ i j,x= .int i/\y= .int j/\Q (.int (f i j)) H
def Zks:PIp X .Add (ipI fun i j=>i+j):=by
 intro a s σ H x y v u Q I e d h;obtain⟨i,j,rfl,rfl,q⟩:=h;obtain⟨t,rfl⟩:=e;obtain⟨g,rfl⟩:=d;exact iadd_int ⟨.int _,H,I.tok _,⟨_,rfl⟩,q⟩
def Zkr:PIp X .Sub (ipI fun i j=>i-j):=by
 intro a s σ H x y v u Q I e d h;obtain⟨i,j,rfl,rfl,q⟩:=h;obtain⟨t,rfl⟩:=e;obtain⟨g,rfl⟩:=d;exact isub_int ⟨.int _,H,I.tok _,⟨_,rfl⟩,q⟩
def ZaG (c:TT) (tb:TS):TS:=fun D σ H=>∃ W:VC->St->Hp->Prop,(∃ m,W m σ H)/\∀ m σ H,W m σ H ->
 c σ H fun b H1=>if b=true then ∃ N:St->Hp->Prop,(∀ σ' H',N σ' H'->∃ m',m'<m/\W m' σ' H')/\tb {D with nx:=N,ct:=N,bk:=D.nx} σ H1 else D.nx σ H1
def Y6 (t:PassesOwn (Oc X.prog X.w) X.A X.env X.xe) (S:PT X c P) (O:PSs X body R):PS X (.While c body [] pos) (ZaG P R):=by
 intro a s σ H D I h;obtain⟨W,⟨J,K⟩,j⟩:=h;refine wpAny_While (codeAny_whileLoop (fun n Q=>∃ g x,Inv X a g x Q/\W n g x) ?_ J ⟨σ,H,I,K⟩);rintro n E ⟨e,w,F,M⟩;apply Pl;intros;refine OT t (thn (S a E e w _ F (j n e w M)) fun b L=>Lg fun A u k=>?_);cases b with
 | true =>
  refine Lm k fun N C k=>?_;refine OT t (thn (O a L e A _ u k) fun f T z=>?_);apply La;intros;cases f with
  | next =>
   obtain⟨d,i,o,q⟩:=z;obtain⟨r,l,p⟩:=C d i q;exact⟨r,l,d,i,o,p⟩
  | cont =>
   obtain⟨d,i,o,q⟩:=z;obtain⟨r,l,p⟩:=C d i q;exact⟨r,l,d,i,o,p⟩
  | brk=>trivial
  | ret v=>trivial
 | false =>
  exact OY ⟨e,A,u,k⟩
end
structure It where
 go:VC->Hp->Prop
 yld:VC->Hp->V->Hp->Prop
 stop:VC->Hp->Prop
def XB (X:Cx) (pins:VA (VH×MQ)) (H:Hp) (b:VH):Prop :=
 H b=none/\b≠X.env.locals/\b∉X.fs/\(b∈X.ex\/X.s₀.heap.objs.size<=b)/\(∀ x c,X.env.cells.lookup x=some c->c≠b)/\∀ p∈X.pn++pins,p.1≠b
def Inv.fpOk {σ:St} {b:VH} (I:Inv X pins σ H s) (a:s.heap.objs.size<=b) (h:g b=none):XB X pins g b:=by
 refine⟨h,Uc (QP I.lt a),I.nofs a,.inr (QR I.sz a),fun x c e z=>?_,fun p d z=>?_⟩;have⟨v,q⟩:=I.cell x c e;exact VM (QP q.lt bp) (Q2 _);exact VM (QP (Ql (I.pin p d).1) bp) (Q2 _)
structure Zic (P:Oh) (w:Ol) (K:VB) (tg:Expr) (J:It) (fp:VA VH) (it:VH) (tn:VC->Nu->Prop):Prop where
 mem:it∈fp
 obj:∀ i h,tn i h->∀ b∈fp,∃ o,h.get? b=some o/\∀ v,o.data≠.cell v
 keep:∀ i h h',tn i h->(∀ b∈fp,∀ o,h.get? b=some o->h'.get? b=some o)->tn i h'
 item:∀ (X:Cx),X.prog=P->X.w=w->X.K=K->X.calm=true->∀ (i:VC) (pins:VA (VH×MQ)) (s:VF) (σ:St) (H:Hp) (E:VG->VF->Prop),Inv X pins σ H s->(∀ b∈fp,XB X pins H b)->tn i s.heap->J.go i H ->
  Oe (Oc P w) X.A (Gb (.ref it)) (fun r s1=>∃ u,r=some u /\
   Oe (Oc P w) X.A (Gy tg (.ref it) u) (fun _ s2=>∃ x H',Inv X pins σ H' s2/\RelV x u/\J.yld i H x H'/\tn (i+1) s2.heap/\∀ b∈fp,H' b=none) E s1) E s
 done:∀ (X:Cx),X.prog=P->X.w=w->X.K=K->X.calm=true->∀ (i:VC) (pins:VA (VH×MQ)) (s:VF) (σ:St) (H:Hp) (E:VG->VF->Prop),Inv X pins σ H s->(∀ b∈fp,XB X pins H b)->tn i s.heap->J.stop i H ->
  Oe (Oc P w) X.A (Gb (.ref it)) (fun r s1=>r=none/\Inv X pins σ H s1) E s
 self:∀ (A:NC) (i:VC) (s:VF) (Q:VG->VF->Prop) (E:VG->VF->Prop),tn i s.heap->Q (.ref it) s->Oe (Oc P w) A (GL (.ref it)) Q E s
abbrev TI:=St->Hp->(It->Hp->Prop)->Prop
def PIE (X:Cx) (pins:VA (VH×MQ)) (σ:St) (tg:Expr) (R:It->Hp->Prop) (itv:VG) (s2:VF):Prop :=
 ∃ (it:VH) (fp:VA VH) (tn:VC->Nu->Prop) (J:It) (H':Hp),itv= .ref it/\Inv X pins σ H' s2/\Zic X.prog X.w X.K tg J fp it tn/\tn 0 s2.heap/\(∀ b∈fp,XB X pins H' b)/\R J H'
def PI (X:Cx) (tg iter:Expr) (wi:TI):Prop :=
 ∀ (pins:VA (VH×MQ)) (s:VF) (σ:St) (H:Hp) (R:It->Hp->Prop),Inv X pins σ H s->wi σ H R ->
  Oe (Oc X.prog X.w) X.A (NQ iter X.env) (fun v s1=>Oe (Oc X.prog X.w) X.A (GL v) (PIE X pins σ tg R) X.xe s1) X.xe s
def ZhF (f:s.heap.get? g=some o) (i:o.cls= .type n) (j:o.data= .fields vs)
  (k:["enumerate","zip","dict_itemiterator","dict_reverseitemiterator","odict_iterator","itertools.zip_longest","itertools.pairwise"].contains n=false) (b:Q () s):Oe M A (Gy e (.ref g) u) Q E s:=by
 cases e <;> first
  | exact Ob b
  | (cases u <;> first
    | exact Ob b
    | (refine Oa (G7 f ?_)
       rw[i,j];show Oe M A (if (["enumerate","zip","dict_itemiterator","dict_reverseitemiterator","odict_iterator","itertools.zip_longest","itertools.pairwise"].contains n&&vs[0]? == some _)=true then _ else _) Q E s;rw[if_neg (by intro h;simp_all)];exact Ob b))
def Itl (K:VB) (a:VH):It :=
 ⟨fun i H=>∃ xs x,SqL K H a xs/\xs[i]?=some x,fun i H x H'=>H'=H/\∀ xs,SqL K H a xs->xs[i]?=some x,fun i H=>∃ xs,SqL K H a xs/\xs.length<=i⟩
def Itt (K:VB) (a:VH):It :=
 ⟨fun i H=>∃ xs x,SqT K H a xs/\xs[i]?=some x,fun i H x H'=>H'=H/\∀ xs,SqT K H a xs->xs[i]?=some x,fun i H=>∃ xs,SqT K H a xs/\xs.length<=i⟩
def Itr (lo:VN) (n:VC):It:=⟨fun i _=>i<n,fun i H x H'=>H'=H/\x= .int (lo+i),fun i _=>n<=i⟩
def ZfF {K} (a f):Zic P w K Y (Itl K a) [f] f (fun i h=>h.IsListIter f a i) where
 mem:=bo
 obj:=fun i h st b g=>by
  have e:b=f:=bp
  subst e;obtain⟨o,e,c,d⟩:=st;exact⟨o,e,fun v z=>bp⟩
 keep:=fun i h M st k=>st.at fun o e=>k f bo o e
 item:=by
  intro X D r B N i j s σ H E I n st J;subst D r B;apply La;intros;obtain⟨U,x,m,L⟩:=J;obtain⟨A,F,p,O⟩:=I.list m;obtain⟨u,R,V⟩:=F.get L;obtain⟨t,G,T,y,q,C⟩:=n f bo;exact wpAny_pyNext_list_item st p.isList (by simpa using R) fun M l Q=>Lp (id l) fun o e c d=>⟨u,rfl,ZhF e c d be ⟨x,H,(I.turned (t':=s.toks) (fun b o g e=>(Q.2 b g).trans e) t G y q C),V,⟨rfl,fun Z W=>by rw[I.list_inj W m];omega⟩,l,fun b g=>(n b g).1⟩⟩
 done:=by
  intro X D r B N i j s σ H E I n st J;subst D r B;obtain⟨U,m,L⟩:=J;obtain⟨A,F,p,O⟩:=I.list m;exact Lq (n f bo) fun t G T y q C=>wpAny_pyNext_list_end (I.ok.hd N) st p.isList (by simp;exact Kd L F.length) fun M S=>⟨rfl,I.turned (fun b o g e=>S b o g e) t G y q C⟩
 self:=fun _ _ _ _ _ st h=>wpAny_pyIter_listiter st h
def ZeS {K} (a f):Zic P w K Y (Itt K a) [f] f (fun i h=>h.IsTupleIter f a i) where
 mem:=bo
 obj:=fun i h st b g=>by
  have e:b=f:=bp
  subst e;obtain⟨o,e,c,d⟩:=st;exact⟨o,e,fun v z=>bp⟩
 keep:=fun i h M st k=>st.at fun o e=>k f bo o e
 item:=by
  intro X D r B N i j s σ H E I n st J;subst D r B;apply La;intros;obtain⟨U,x,m,L⟩:=J;obtain⟨A,F,p,O⟩:=I.tuple m;obtain⟨u,R,V⟩:=F.get L;obtain⟨t,G,T,y,q,C⟩:=n f bo;exact wpAny_pyNext_tuple_item st p (by simpa using R) fun M l Q=>Lp (id l) fun o e c d=>⟨u,rfl,ZhF e c d be ⟨x,H,(I.turned (t':=s.toks) (fun b o g e=>(Q.2 b g).trans e) t G y q C),V,⟨rfl,fun Z W=>by rw[I.tuple_inj W m];omega⟩,l,fun b g=>(n b g).1⟩⟩
 done:=by
  intro X D r B N i j s σ H E I n st J;subst D r B;obtain⟨U,m,L⟩:=J;obtain⟨A,F,p,O⟩:=I.tuple m;exact Lq (n f bo) fun t G T y q C=>wpAny_pyNext_tuple_end (I.ok.hd N) st p (by simp;exact Kd L F.length) fun M S=>⟨rfl,I.turned (fun b o g e=>S b o g e) t G y q C⟩
 self:=fun _ _ _ _ _ st h=>wpAny_pyIter_tupleiter st h
def ZeT {K} (c) (lo) (n):Zic P w K O (Itr lo n) [c] c (fun i h=>IsRangeIter h c (lo+i*1) (n-i) 1) where
 mem:=bo
 obj:=fun i h st b d=>by
  have e:b=c:=bp
  subst e;exact⟨_,st,fun v z=>by
   simp_all⟩
 keep:=fun i h p st k=>k c bo _ st
 item:=by
  intro X B y C r i a s σ H E I g st u;subst B y C;have⟨j,q,G,m,x,l⟩:=g c bo;refine(CS (prog:=X.prog) (w:=X.w) (I.ok.hd r) c lo 1 n).item i s _ _ u st fun v p M F f N=>?_;obtain⟨t,rfl⟩:=F;have D:Inv X a σ H {s with heap:=p,toks:=M}:=I.turned (fun b o d e=>N b o (by simpa using d) e) j q m x l;refine⟨_,rfl,ZhF f rfl rfl be ⟨.int _,H,D,⟨t,?_⟩,⟨rfl,rfl⟩,f,fun b d=>(g b d).1⟩⟩;simp
 done:=by
  intro X B y C r i a s σ H E I g st u;have⟨j,q,G,m,x,l⟩:=g c bo;exact LS (I.ok.hd r) st (by have:n<=i:=u;exact M0 this) fun p J=>⟨rfl,I.turned (fun b o d e=>J b o d e) j q m x l⟩
 self:=fun _ _ _ _ _ st h=>LU st h
section
variable {X:Cx} {tg:Expr}
def Znw (K:VB) (tl:TE):TI:=fun σ H R=>tl σ H fun x H1=>∃ a,x= .ref a/\(∃ xs,SqL K H1 a xs)/\R (Itl K a) H1
def ZpF (K:VB) (tl:TE):TI:=fun σ H R=>tl σ H fun x H1=>∃ a,x= .ref a/\(∃ xs,SqT K H1 a xs)/\R (Itt K a) H1
def Xn (j:PE X l f):PI X tg l (Znw X.K f):=by
 intro c s σ H R I h;refine thn (j c s σ H _ I h) fun v r=>Le fun x m d g k=>?_;obtain⟨a,rfl,⟨u,i⟩,q⟩:=k;cases g;obtain⟨n,y,p,z⟩:=d.list i;refine OU p.isList ⟨_,_,_,_,m,rfl,d.kept fun b o e=>Qc _ e,ZfF a _,⟨_,Qk _ rfl,rfl,rfl⟩,fun b t=>?_,q⟩;have e:b=r.heap.objs.size:=bp
 subst e;exact d.fpOk (Qh _) (d.hok.fresh (Qh _))
def Yv (j:PE X l f):PI X tg l (ZpF X.K f):=by
 intro c s σ H R I h;refine thn (j c s σ H _ I h) fun v r=>Le fun x m d g k=>?_;obtain⟨a,rfl,⟨u,i⟩,q⟩:=k;cases g;obtain⟨n,y,p,z⟩:=d.tuple i;refine DP p ⟨_,_,_,_,m,rfl,d.kept fun b o e=>Qc _ e,ZeS a _,⟨_,Qk _ rfl,rfl,rfl⟩,fun b t=>?_,q⟩;have e:b=r.heap.objs.size:=bp
 subst e;exact d.fpOk (Qh _) (d.hok.fresh (Qh _))
def ZiA {σ:St} {lo hi} (I:Inv X pins σ H s) (p : -(2 ^ 62)<=lo) (i:lo<2 ^ 62) (r : -(2 ^ 62)<=hi) (m:hi<2 ^ 62)
  (q:R (Itr lo (hi-lo).toNat) H):Oe (Oc X.prog X.w) X.A (GL (.ref s.heap.objs.size)) (PIE X pins σ tg R) E {s with heap:=s.heap.push {cls:=.type "range",data:=.fields #[.int lo t,.int hi u,.int 1 v]},toks:=tk}:=by
 refine DQ (IsRange.new ..) (small_one p i r m) ?_;have g:Inv X pins σ H {s with heap:=s.heap.push {cls:=.type "range",data:=.fields #[.int lo t,.int hi u,.int 1 v]},toks:=tk}:=I.kept fun b o e=>Qc _ e;refine Pe _ _ _ _ H ⟨rfl,g.kept fun b o e=>Qc _ e,ZeT _ lo _,?_,fun b l=>?_,q⟩
 have n:lo+((0:VC))*1=lo:=bo
 have j:(((hi-lo).toNat:VC))-((0:VC))=Builtin.Range.rangeSize lo hi 1:=by rw[rangeSize_one];lia
 rw[n,j];exact Qk _ rfl;have e:b=(s.heap.push {cls:=.type "range",data:=.fields #[.int lo t,.int hi u,.int 1 v]}).objs.size:=by simpa using l
 subst e;exact g.fpOk (Qh _) (g.hok.fresh (Qh _))
def ZoI (ta:TA):TI:=fun σ H R=>ta σ H fun vs H1=>∃ j:VN,vs=[.int j]/\-(2 ^ 62)<=j/\j<2 ^ 62/\R (Itr 0 j.toNat) H1
def ZY (v:Gl X "range") (o:X.mg "range" = none) (l:PA X [a] m) (i:Oi [a] X.env=[(false,NQ a X.env)]:=by rfl):PI X tg (.Call (.Name "range" p) [a] [] pos) (ZoI m):=by
 intro b s σ H R I h;refine Call_ (YQ I v o boot_range (VY (thn (l pos b s σ H _ I h) fun x w ⟨z,A,u,n,c⟩=>?_) i rfl));obtain⟨j,rfl,c,g,q⟩:=c;cases n with
 | cons r k =>
  cases k;obtain⟨t,rfl⟩:=r;exact call_range_1 (ZiA u (by omega) (by omega) c g (by simpa using q))
def Zpo (wi:TI) (g:TG) (tb:TS):TS:=fun D σ H=>wi σ H fun J H1=>∃ W:VC->VC->St->Hp->Prop,(∃ m,W 0 m σ H1)/\∀ i m σ H,W i m σ H ->
 (J.stop i H/\D.nx σ H)\/(J.go i H/\∃ N:St->Hp->Prop,(∀ σ' H',N σ' H'->∃ m',m'<m/\W (i+1) m' σ' H')/\∀ x H',J.yld i H x H'->g x σ H' fun σ2 H2=>tb {D with nx:=N,ct:=N,bk:=D.nx} σ2 H2)
noncomputable def Zcd (fp:VA VH) (h:Nu):VA (VH×MQ):=fp.filterMap fun b=>(h.get? b).map fun o=>(b,o)
def YG (a:b∈c) (e:h.get? b=some o):(b,o)∈Zcd c h:=UT.mpr ⟨b,a,by rw[e];rfl⟩
def ZgZ (a:p∈Zcd c h):p.1∈c/\h.get? p.1=some p.2:=by
 obtain⟨b,f,e⟩:=UT.mp a;cases q:h.get? b with
 | none=>simp_all
 | some o =>
  rw[q]at e;have d:=VQ e;subst d;exact⟨f,q⟩
def Inv.pinned {σ:St} (I:Inv X pins σ H s) (k:∀ b∈f,XB X pins H b) (n:∀ b∈f,∃ o,s.heap.get? b=some o/\∀ v,o.data≠.cell v):Inv X (pins++Zcd f s.heap) σ H s :=
 I.pins_of fun p i=>(QA.mp i).elim (fun z=>I.pin p (QJ _ z)) fun z=>by
  obtain⟨g,e⟩:=ZgZ z;obtain⟨l,m,j,_⟩:=k p.1 g;obtain⟨o,a,d⟩:=n p.1 g;rw[e]at a;cases a;exact⟨e,l,m,j,d⟩
def Inv.unpinned {σ:St} (I:Inv X (pins++b) σ H s):Inv X pins σ H s:=I.pins_of fun p a=>I.pin p (QJ _ (QM _ a))
def Z1 (E:PassesOwn (Oc X.prog X.w) X.A X.env X.xe) (Z:X.calm=true) (hi:PI X tg z wi) (hg:PG X tg g) (j:PSs X body tb)
  (hs:∀ x,Gn z X.env x=pure x:=by intro _;rfl):PS X (.For tg z body [] pos) (Zpo wi g tb):=by
 intro c s σ H D I h;refine wpAny_For (thn (hi c s σ H _ I h) fun v s1 h1=>thn h1 fun itv s2 h2=>?_) hs;obtain⟨it,M,tn,J,H2,rfl,I2,T,S,f2,W,⟨m0,w0⟩,K⟩:=h2;have p:∀ {w:Hp},(∀ b∈M,w b=none)->∀ b∈M,XB X c w b:=fun hn b j=>⟨hn b j,(f2 b j).2⟩
 refine codeAny_forLoop_any (fun n s'=>∃ i t w,Inv X c t w s'/\tn i s'.heap/\(∀ b∈M,w b=none)/\W i n t w) ?_ m0 ⟨0,σ,H2,I2,S,fun b j=>(f2 b j).1,w0⟩;rintro n V ⟨i,q,L,Y,G,B,w3⟩;rcases K i n q L w3 with ⟨C,qn⟩ | ⟨go,N,hN,step⟩
 refine OT E (thn (T.done X rfl rfl rfl Z i c V q L X.xe Y (p B) G C) fun r s4 ⟨O,I4⟩=>?_);subst O;exact OY ⟨q,L,I4,qn⟩
 refine OT E (thn (T.item X rfl rfl rfl Z i c V q L X.xe Y (p B) G go) fun r s4 ⟨u,O,h4⟩=>?_);subst O;refine OT E (thn h4 fun _ s5 ⟨x,H5,I5,r5,y5,A,R⟩=>OT E (thn (hg _ s5 q H5 x u _ (I5.pinned (p R) (T.obj _ _ A)) r5 (step x H5 y5)) fun _ s6 ⟨Q,H6,I6,q6⟩=>OT E (thn (j _ s6 Q H6 _ I6 q6) fun f P y=>?_)));have again:∀ {a:St} {l:Hp},Inv X _ a l P->N a l->∃ m,m<n/\∃ i t w,Inv X c t w P/\tn i P.heap/\(∀ b∈M,w b=none)/\W i m t w:=fun {a l} k F=>by
  obtain⟨m',hm,w7⟩:=hN a l F;refine⟨m',hm,_,a,l,k.unpinned,T.keep _ _ _ A fun b j o e=>(k.pin _ (QJ _ (QJ _ (YG j e)))).1,fun b j=>?_,w7⟩;obtain⟨o,e,d⟩:=T.obj _ _ A b j;exact(k.pin _ (QJ _ (QJ _ (YG j e)))).2.1
 cases f with
 | next=>obtain⟨a,l,k,F⟩:=y;exact again k F
 | cont=>obtain⟨a,l,k,F⟩:=y;exact again k F
 | brk=>obtain⟨a,l,k,y⟩:=y;exact⟨a,l,k.unpinned,y⟩
 | ret v=>obtain⟨x7,a,l,k,r7,y⟩:=y;exact⟨x7,a,l,k.unpinned,r7,y⟩
end
def JH {K} {g:TG} {n:TS} {D:Zfy} (c:VC->St->Hp->Prop) (s:c 0 σ H) (t:∀ i σ H,i<=xs.length->c i σ H->SqL K H a xs)
  (A:∀ i x σ H,xs[i]?=some x->c i σ H->g x σ H fun b h=>n {D with nx:=c (i+1),ct:=c (i+1),bk:=D.nx} b h) (o:∀ σ H,c xs.length σ H->D.nx σ H) :
  ∃ W:VC->VC->St->Hp->Prop,(∃ m,W 0 m σ H)/\∀ i m σ H,W i m σ H ->
   ((Itl K a).stop i H/\D.nx σ H)\/((Itl K a).go i H/\∃ N,(∀ f d,N f d->∃ l,l<m/\W (i+1) l f d)/\∀ x d,(Itl K a).yld i H x d->g x σ d fun b h=>n {D with nx:=N,ct:=N,bk:=D.nx} b h):=by
 refine⟨fun i m σ H=>m=xs.length-i/\i<=xs.length/\c i σ H,⟨xs.length,bo,QN _,s⟩,?_⟩;rintro i m σ H ⟨rfl,u,p⟩;have q:=t i σ H u p;by_cases j:i<xs.length
 refine .inr ⟨⟨xs,xs[i],q,bo⟩,_,fun f d z=>⟨_,Xo j,rfl,j,z⟩,fun x d y=>?_⟩;obtain⟨e,y⟩:=y
 grind
 have e:i=xs.length:=Vk u j
 subst e;exact .inl ⟨⟨xs,q,Qh _⟩,o σ H p⟩
def Xc {K} {g:TG} {n:TS} {D:Zfy} (c:VC->St->Hp->Prop) (s:c 0 σ H) (t:∀ i σ H,i<=xs.length->c i σ H->SqT K H a xs)
  (A:∀ i x σ H,xs[i]?=some x->c i σ H->g x σ H fun b h=>n {D with nx:=c (i+1),ct:=c (i+1),bk:=D.nx} b h) (o:∀ σ H,c xs.length σ H->D.nx σ H) :
  ∃ W:VC->VC->St->Hp->Prop,(∃ m,W 0 m σ H)/\∀ i m σ H,W i m σ H ->
   ((Itt K a).stop i H/\D.nx σ H)\/((Itt K a).go i H/\∃ N,(∀ f d,N f d->∃ l,l<m/\W (i+1) l f d)/\∀ x d,(Itt K a).yld i H x d->g x σ d fun b h=>n {D with nx:=N,ct:=N,bk:=D.nx} b h):=by
 refine⟨fun i m σ H=>m=xs.length-i/\i<=xs.length/\c i σ H,⟨xs.length,bo,QN _,s⟩,?_⟩;rintro i m σ H ⟨rfl,u,p⟩;have q:=t i σ H u p;by_cases j:i<xs.length
 refine .inr ⟨⟨xs,xs[i],q,bo⟩,_,fun f d z=>⟨_,Xo j,rfl,j,z⟩,fun x d y=>?_⟩;obtain⟨e,y⟩:=y
 grind
 have e:i=xs.length:=Vk u j
 subst e;exact .inl ⟨⟨xs,q,Qh _⟩,o σ H p⟩
def Yy {lo} {g:TG} {k:TS} {D:Zfy} (d:VC->St->Hp->Prop) (r:d 0 σ H)
  (w:∀ i σ H,i<n->d i σ H->g (.int (lo+i)) σ H fun a h=>k {D with nx:=d (i+1),ct:=d (i+1),bk:=D.nx} a h) (t:∀ σ H,d n σ H->D.nx σ H) :
  ∃ W:VC->VC->St->Hp->Prop,(∃ m,W 0 m σ H)/\∀ i m σ H,W i m σ H ->
   ((Itr lo n).stop i H/\D.nx σ H)\/((Itr lo n).go i H/\∃ N,(∀ c b,N c b->∃ l,l<m/\W (i+1) l c b)/\∀ x b,(Itr lo n).yld i H x b->g x σ b fun a h=>k {D with nx:=N,ct:=N,bk:=D.nx} a h):=by
 refine⟨fun i m σ H=>m=n-i/\i<=n/\d i σ H,⟨n,bo,QN _,r⟩,?_⟩;rintro i m σ H ⟨rfl,z,p⟩;by_cases f:i<n
 refine .inr ⟨f,_,fun c b u=>⟨_,Xo f,rfl,f,u⟩,fun x b y=>?_⟩;obtain⟨e,y⟩:=y
 simp_all
 have e:i=n:=Vk z f
 subst e;exact .inl ⟨Qh _,t σ H p⟩
abbrev R2:=V->V->Hp->VK->Prop
def OpR (X:Cx) (f:VG->VG->DE VG) (r:R2):Prop :=
 ∀ (pins:VA (VH×MQ)) (s:VF) (σ:St) (H:Hp) (x y:V) (v u:VG) (Q:VK),Inv X pins σ H s->RelV x v->RelV y u->r x y H Q ->
  Oe (Oc X.prog X.w) X.A (f v u) (EP X pins σ Q) X.xe s
def UnR (X:Cx) (f:VG->DE VG) (r:V->Hp->VK->Prop):Prop :=
 ∀ (pins:VA (VH×MQ)) (s:VF) (σ:St) (H:Hp) (x:V) (v:VG) (Q:VK),Inv X pins σ H s->RelV x v->r x H Q ->
  Oe (Oc X.prog X.w) X.A (f v) (EP X pins σ Q) X.xe s
def CallR (X:Cx) (f:VG) (r:VA V->Hp->VK->Prop):Prop :=
 ∀ (pins:VA (VH×MQ)) (s:VF) (σ:St) (H:Hp) (xs:VA V) (us:VA VG) (Q:VK),Inv X pins σ H s->Vals xs us->r xs H Q ->
  Oe (Oc X.prog X.w) X.A (call f us) (EP X pins σ Q) X.xe s
def tOp (r:R2) (ta tb:TE):TE:=fun σ H Q=>ta σ H fun x H1=>tb σ H1 fun y H2=>r x y H2 Q
def tUn (r:V->Hp->VK->Prop) (ta:TE):TE:=fun σ H Q=>ta σ H fun x H1=>r x H1 Q
def rI (C:VN->VN->Prop) (g:VN->VN->V):R2:=fun x y H Q=>∃ i j,x= .int i/\y= .int j/\C i j/\Q (g i j) H
def rI0 (g:VN->VN->V):R2:=fun x y H Q=>∃ i j,x= .int i/\y= .int j/\Q (g i j) H
def rU (g:VN->V):V->Hp->VK->Prop:=fun x H Q=>∃ i,x= .int i/\Q (g i) H
section
variable {X:Cx} {a b c:Expr} {ta tb:TE} {pos:SD}
def ZoP (r:PE X a q) (z:PE X b j) {σ:St} {R:V->V->Hp->Prop} (I:Inv X pins σ H s)
  (h:q σ H fun x i=>j σ i fun y c=>R x y c) {f:VG->VG->DE VG}
  (p:∀ v u g x y c,Inv X pins σ c g->RelV x v->RelV y u->R x y c->Oe (Oc X.prog X.w) X.A (f v u) Q X.xe g) :
  Oe (Oc X.prog X.w) X.A (NQ a X.env) (fun v d=>Oe (Oc X.prog X.w) X.A (NQ b X.env) (fun u e=>Oe (Oc X.prog X.w) X.A (f v u) Q X.xe e) X.xe d) X.xe s:=by
 exact thn (r pins s σ H _ I h) fun v n=>Le fun x i l k o=>thn (z pins n σ i _ l o) fun u g=>Le fun y c t m w=>p v u g x y c t k m w
def Zo (i:OpR X (OV j) r) (l:PE X a ta) (p:PE X b tb):PE X (.BinOp a j b pos) (tOp r ta tb):=by
 intro c s σ H Q I h;exact wpAny_BinOp (ZoP l p I h fun v u g x y o f m e q=>i c g σ o x y v u Q f m e q)
def XC (f:UnR X (unaryOp j) r) (l:PE X a ta):PE X (.UnaryOp j a pos) (tUn r ta):=by
 intro b s σ H Q I h;exact UnaryOp_ (thn (l b s σ H _ I h) fun v c=>Le fun x g e d i=>f b c σ g x v Q e d i)
def opI {g:VN->VN->VN}
  (rule:∀ (i j) (t u) (s) (Q) (E),C i j->Q (.int (g i j) s.toks) {s with toks:=s.toks+1}->Oe (Oc X.prog X.w) X.A (f (.int i t) (.int j u)) Q E s) :
  OpR X f (rI C fun i j=>.int (g i j)):=by
 intro b s σ H x y v u Q I e c h;obtain⟨i,j,rfl,rfl,d,q⟩:=h;obtain⟨t,rfl⟩:=e;obtain⟨k,rfl⟩:=c;exact rule i j t k s _ _ d ⟨.int _,H,I.tok _,⟨_,rfl⟩,q⟩
def Zo8 {g:VN->VN->VN}
  (rule:∀ (i j) (t u) (s) (Q) (E),Q (.int (g i j) s.toks) {s with toks:=s.toks+1}->Oe (Oc X.prog X.w) X.A (f (.int i t) (.int j u)) Q E s) :
  OpR X f (rI0 fun i j=>.int (g i j)):=by
 intro b s σ H x y v u Q I d c h;obtain⟨i,j,rfl,rfl,q⟩:=h;obtain⟨t,rfl⟩:=d;obtain⟨e,rfl⟩:=c;exact rule i j t e s _ _ ⟨.int _,H,I.tok _,⟨_,rfl⟩,q⟩
def Zo9 {g:VN->VN->NY}
  (rule:∀ (i j) (t u) (s) (Q) (E),Q (.bool (g i j)) s->Oe (Oc X.prog X.w) X.A (f (.int i t) (.int j u)) Q E s) :
  OpR X f (rI0 fun i j=>.bl (g i j)):=by
 intro b s σ H x y v u Q I e c h;obtain⟨i,j,rfl,rfl,q⟩:=h;obtain⟨t,rfl⟩:=e;obtain⟨k,rfl⟩:=c;exact rule i j t k s _ _ ⟨.bl _,H,I,rfl,q⟩
def ZpX (i j:VN):Prop:=0<j/\j<1073741824
def ZpW (i j:VN):Prop:=0<=j/\j<=1000000/\i.natAbs<2 ^ 64
def CMul (i j:VN):Prop:=(-(2 ^ 64)<i/\i<2 ^ 64)\/(-(2 ^ 64)<j/\j<2 ^ 64)
def CMul.ok (h:CMul i j):IntMulOk i j:=by
 rcases h with ⟨d,c⟩ | ⟨d,c⟩
 exact .of_left (intBits_le_64 d c);exact .of_right (intBits_le_64 d c)
def ZJ:OpR X (OV .Add) (rI0 fun i j=>.int (i+j)):=Zo8 fun _ _ _ _ _ _ _ q=>add_int q
def YL:OpR X (OV .Sub) (rI0 fun i j=>.int (i-j)):=Zo8 fun _ _ _ _ _ _ _ q=>sub_int q
def Xq:OpR X (OV .Mult) (rI CMul fun i j=>.int (i*j)):=opI fun _ _ _ _ _ _ _ c q=>mul_int q c.ok
def Yq:OpR X (OV .FloorDiv) (rI ZpX fun i j=>.int (i / j)):=opI fun i j _ _ _ _ _ b q=>by
 have e:=b.1;have f:=b.2;exact floordiv_int (M8 e) (by grind) (.inl (PyProof.noPylong_small bq))
def ZM:OpR X (OV .Mod) (rI (fun _ j=>0<j) fun i j=>.int (i % j)):=opI fun i j _ _ _ _ _ b q=>mod_int' (M8 b) (by rw[Int.fmod_eq_emod_of_nonneg i (Tm b)];omega)
def Zkb:OpR X (OV .Pow) (rI ZpW fun i j=>.int (i ^ j.toNat)):=opI fun _ _ _ _ _ _ _ a q=>pow_int_small a.1 a.2.1 a.2.2 q
def unI {g:VN->VN}
  (rule:∀ (i) (t) (s) (Q) (E),Q (.int (g i) s.toks) {s with toks:=s.toks+1}->Oe (Oc X.prog X.w) X.A (f (.int i t)) Q E s) :
  UnR X f (rU fun i=>.int (g i)):=by
 intro b s σ H x v Q I c h;obtain⟨i,rfl,q⟩:=h;obtain⟨t,rfl⟩:=c;exact rule i t s _ _ ⟨.int _,H,I.tok _,⟨_,rfl⟩,q⟩
def YA:UnR X (unaryOp .USub) (rU fun i=>.int (-i)):=unI fun _ _ _ _ _ q=>neg_int q
end
noncomputable def Zo5:V->V->NY
 | .non,.non=>true | .non,.int _=>true | .int _,.non=>true | .non,.bl _=>true | .bl _,.non=>true | .non,.str _=>true | .str _,.non=>true
 | .int _,.int _=>true | .bl _,.bl _=>true | .str _,.str _=>true | .byt _,.byt _=>true
 | .int _,.str _=>true | .str _,.int _=>true | .bl _,.str _=>true | .str _,.bl _=>true
 | _,_=>false
def rEq:R2:=fun x y H Q=>Zo5 x y=true/\Q (.bl (decide (x=y))) H
def rNe:R2:=fun x y H Q=>Zo5 x y=true/\Q (.bl (!decide (x=y))) H
def ZdI:decide (V.int i=V.int j)=(i==j):=by
 rw[Uv];simp
def Zkv:decide (V.bl i=V.bl j)=(i==j):=by
 rw[Uv];simp
def ZhT:decide (V.str i=V.str j)=(i==j):=by
 rw[Uv];simp
def ZhU:decide (V.byt i=V.byt j)=(i.toList==j.toList):=by
 rw[Uv];cases i;cases j;simp
section
variable {X:Cx} {a b c:Expr} {ta tb:TE} {pos:SD}
def ZK {σ:St} (I:Inv X pins σ H s) (q:Q (.bl k) H) (e:k=k'):EP X pins σ Q (.bool k') s:=by
 subst e;exact⟨.bl k,H,I,rfl,q⟩
def Zbt:OpR X (OJ .Eq) rEq:=by
 intro m s σ H x y v u Q I g a h;obtain⟨f,q⟩:=h;cases x with
 | non =>
  cases g;cases y with
  | non=>cases a;exact F0 (ZK I q bo)
  | bl j=>cases a;exact F2 (ZK I q bo)
  | int j=>obtain⟨e,rfl⟩:=a;exact Cf (ZK I q bo)
  | str j=>obtain⟨e,rfl⟩:=a;exact Cg (ZK I q bo)
  | _=>exact VM (show false=true from f) QS
 | bl i =>
  cases g;cases y with
  | non=>cases a;exact F4 (ZK I q bo)
  | bl j=>cases a;exact eq_bool (ZK I q Zkv)
  | str j=>obtain⟨e,rfl⟩:=a;exact F5 (ZK I q bo)
  | _=>exact VM (show false=true from f) QS
 | int i =>
  obtain⟨t,rfl⟩:=g;cases y with
  | non=>cases a;exact Ci (ZK I q bo)
  | int j=>obtain⟨e,rfl⟩:=a;exact eq_int (ZK I q ZdI)
  | str j=>obtain⟨e,rfl⟩:=a;exact Cj (ZK I q bo)
  | _=>exact VM (show false=true from f) QS
 | str i =>
  obtain⟨t,rfl⟩:=g;cases y with
  | non=>cases a;exact Ck (ZK I q bo)
  | bl j=>cases a;exact F7 (ZK I q bo)
  | int j=>obtain⟨e,rfl⟩:=a;exact Cm (ZK I q bo)
  | str j=>obtain⟨e,rfl⟩:=a;exact eq_str (ZK I q ZhT)
  | _=>exact VM (show false=true from f) QS
 | byt i =>
  obtain⟨t,rfl⟩:=g;cases y with
  | byt j=>obtain⟨e,rfl⟩:=a;exact PySem.W.eq_bytes (ZK I q ZhU)
  | _=>exact VM (show false=true from f) QS
 | _=>cases y <;> exact VM (show false=true from f) QS
def Zdi:OpR X (OJ .NotEq) rNe:=by
 intro n s σ H x y v u Q I g a h;obtain⟨f,q⟩:=h;cases x with
 | non =>
  cases g;cases y with
  | non=>cases a;exact F8 (ZK I q bo)
  | bl j=>cases a;exact F9 (ZK I q bo)
  | int j=>obtain⟨d,rfl⟩:=a;exact Cn (ZK I q bo)
  | str j=>obtain⟨d,rfl⟩:=a;exact Co (ZK I q bo)
  | _=>exact VM (show false=true from f) QS
 | bl i =>
  cases g;cases y with
  | non=>cases a;exact Ca (ZK I q bo)
  | bl j=>cases a;exact ne_bool (ZK I q (NA not Zkv))
  | str j=>obtain⟨d,rfl⟩:=a;exact Cb (ZK I q bo)
  | _=>exact VM (show false=true from f) QS
 | int i =>
  obtain⟨t,rfl⟩:=g;cases y with
  | non=>cases a;exact Cp (ZK I q bo)
  | int j=>obtain⟨d,rfl⟩:=a;exact ne_int (ZK I q (NA not ZdI))
  | str j=>obtain⟨d,rfl⟩:=a;exact Cq (ZK I q bo)
  | _=>exact VM (show false=true from f) QS
 | str i =>
  obtain⟨t,rfl⟩:=g;cases y with
  | non=>cases a;exact Cr (ZK I q bo)
  | bl j=>cases a;exact Cc (ZK I q bo)
  | int j=>obtain⟨d,rfl⟩:=a;exact Cs (ZK I q bo)
  | str j=>obtain⟨d,rfl⟩:=a;exact ne_str (ZK I q (NA not ZhT))
  | _=>exact VM (show false=true from f) QS
 | byt i =>
  obtain⟨t,rfl⟩:=g;cases y with
  | byt j=>obtain⟨d,rfl⟩:=a;exact PySem.W.ne_bytes (ZK I q (NA not ZhU))
  | _=>exact VM (show false=true from f) QS
 | _=>cases y <;> exact VM (show false=true from f) QS
def Zdj:OpR X (OJ .Lt) (rI0 fun i j=>.bl (decide (i<j))):=Zo9 fun _ _ _ _ _ _ _ q=>lt_int q
def Zcj:OpR X (OJ .Gt) (rI0 fun i j=>.bl (decide (j<i))):=Zo9 fun _ _ _ _ _ _ _ q=>gt_int q
def ZgL:OpR X (OJ .Is) (fun x y H Q=>y= .non/\Q (.bl (decide (x= .non))) H):=by
 intro b s σ H x y v u Q I c d h;obtain⟨rfl,q⟩:=h;cases d;refine is_none_gen (ZK I q ?_);cases x <;> first
  | (cases c;rfl)
  | (obtain⟨t,rfl⟩:=c;rfl)
def ZgK:OpR X (OJ .IsNot) (fun x y H Q=>y= .non/\Q (.bl (!decide (x= .non))) H):=by
 intro c s σ H x y v u Q I d e h;obtain⟨rfl,q⟩:=h;cases e;refine isnot_none_gen (ZK I q ?_);cases x <;> first
  | (cases d;rfl)
  | (obtain⟨t,rfl⟩:=d;rfl)
def Zch:OpR X (OJ .NotIn) (fun x y H Q=>∃ i j,x= .str i/\y= .str j/\Q (.bl (!(!(Builtin.Str.occurrences j i 0 j.length 1).isEmpty))) H):=by
 intro d s σ H x y v u Q I f e h;obtain⟨i,j,rfl,rfl,q⟩:=h;obtain⟨t,rfl⟩:=f;obtain⟨g,rfl⟩:=e;exact notIn_str (ZK I q rfl)
def Zz (b) (h:op≠.In:=by decide) (d:op≠.NotIn:=by decide):OX op b=false:=by
 have e:(op==CmpOp.In)=false:=by cases op <;> first | rfl | exact VM rfl h
 have f:(op==CmpOp.NotIn)=false:=by cases op <;> first | rfl | exact VM rfl d
 cases b <;> simp[OX,e,f]
def Zaa (g:OpR X (OJ e) r) (k:PE X a ta) (o:PE X b tb) (t:OX e b=false):PE X (.Compare a [e] [b] pos) (tOp r ta tb):=by
 intro d s σ H Q I h;exact wpAny_Compare1 (ZoP k o I h fun v u p x y n i l f q=>g d p σ n x y v u Q i l f q) t
def Zn8 (t:TE):TT:=fun σ H Q=>t σ H fun x H'=>∃ k,x= .bl k/\Q k H'
def Zt (l:OpR X (OJ g) r) (q:PE X a ta) (A:PE X b tb) (B:OX g b=false):PT X (.Compare a [g] [b] pos) (Zn8 (tOp r ta tb)):=by
 intro d s σ H Q I h;refine KL (thn (q d s σ H _ I h) fun v i=>Le fun x m E C n=>thn (A d i σ m _ E n) fun u w=>Le fun y K j J t=>
  thn (l d w σ K x y v u _ j C J t) fun c M ⟨z,o,D,L,k,e,G⟩=>?_) B
 subst e;cases L;exact ON ⟨o,D,G⟩
def Zad:Od<2 ^ 63:=be
def Z6:OpR X (OV .Add) (fun x y H Q=>∃ i j,x= .str i/\y= .str j/\i.length+j.length<=Od/\Q (.str (i++j)) H):=by
 intro b s σ H x y v u Q I f c h;obtain⟨i,j,rfl,rfl,d,q⟩:=h;obtain⟨t,rfl⟩:=f;obtain⟨e,rfl⟩:=c;exact add_str (fun e g=>⟨.str _,H,I.tok _,⟨_,rfl⟩,q⟩) d
def XL (r:Vals [x] d):∃ u,d=[u]/\RelV x u:=by
 cases r with
 | cons b c=>cases c;exact⟨_,rfl,b⟩
def ZeR (r:Vals [x,y] f):∃ u b,f=[u,b]/\RelV x u/\RelV y b:=by
 cases r with
 | cons e c =>
  cases c with
  | cons g d=>cases d;exact⟨_,_,rfl,e,g⟩
def Zav (e:X.calm=true):CallR X (.builtin "min") (fun xs H Q=>∃ i j,xs=[.int i,.int j]/\Q (.int (if j<i then j else i)) H):=by
 intro d s σ H xs m Q I r h;obtain⟨i,j,rfl,q⟩:=h;obtain⟨u,n,rfl,⟨t,rfl⟩,⟨g,rfl⟩⟩:=ZeR r;refine min_two_ints (I.ok.hd e) fun l f k=>⟨_,H,I.kept k,?_,q⟩
 by_cases c:j<i
 rw[VD c,VD c];exact⟨_,rfl⟩;rw[if_neg c,if_neg c];exact⟨_,rfl⟩
def ZkD (K:VB) (x:V) (H:Hp) (n:VC):Prop :=
 match x with
 | .str y=>y.length<=Od/\n=y.length
 | .byt y=>y.size<=Od/\n=y.size
 | .ref p=>(∃ xs,SqL K H p xs/\n=xs.length)\/∃ xs,SqT K H p xs/\n=xs.length
 | _=>False
def Zn:CallR X (.builtin "len") (fun xs H Q=>∃ x n,xs=[x]/\ZkD X.K x H n/\Q (.int n) H):=by
 intro l s σ H xs C Q I r h;obtain⟨x,n,rfl,e,q⟩:=h;obtain⟨u,rfl,i⟩:=XL r;have B:=Zad;have A:=Oz;cases x with
 | str y =>
  obtain⟨t,rfl⟩:=i;obtain⟨z,c⟩:y.length<=Od/\n=y.length:=e;subst c;exact len_str br ⟨.int _,H,I.tok _,⟨_,rfl⟩,q⟩
 | byt y =>
  obtain⟨t,rfl⟩:=i;obtain⟨z,c⟩:y.size<=Od/\n=y.size:=e;subst c;exact PySem.W.len_bytes br ⟨.int _,H,I.tok _,⟨_,rfl⟩,q⟩
 | ref p =>
  cases i;have c:=e;rcases c with ⟨xs,j,c⟩ | ⟨xs,j,c⟩
  subst c;obtain⟨g,f,k,m⟩:=I.list j;have a:=f.length;exact Calls.call_len_list k.isList (by simp[Qy];exact Nd m a A) ⟨.int xs.length,H,I.tok _,⟨_,by simp only[Qy];rw[a]⟩,q⟩;subst c;obtain⟨g,f,k,m⟩:=I.tuple j;have a:=f.length;exact len_tuple k (by simp[Qy];exact Nd m a A) ⟨.int xs.length,H,I.tok _,⟨_,by simp only[Qy];rw[a]⟩,q⟩
 | _=>exact e.elim
end
structure ObjM (h:Nu) (x dx C:VH) (mA:VI->VE VG):Prop where
 obj:h.get? x=some (ME C dx)
 ns:h.Ns1 dx mA
 ne:dx≠x
def Zhf {h:Nu} (n:h.Ns1 m r):∃ d,h.get? m=some d/\∀ name,TR name d=some (r name):=by
 obtain⟨o,f,s,l,p,j,_,g⟩:=n;refine⟨o,l,fun name=>?_⟩;have e:=g name;unfold nsFind findBy at e;rw[←Array.find?_toList]at e;unfold TR;rw[p];dsimp only;split
 rename_i y q;rw[q]at e;exact NA some e;rename_i q;rw[q]at e;have a:f.toList.any (·.refKey)=false:=by
  rw[List.any_eq_false];intro y i;obtain⟨z,t,c⟩:=j y (Array.mem_toList_iff.mp i);simp[DictEntry.refKey,c]
 have k:¬ f.toList.any (·.refKey)=true:=by rw[a];simp
 exact if_neg k▸NA some e
def ObjM.look (I:ObjM h x c C d):∃ a,PySem.W.InstAt h x (ME C c) C (some a)/\∀ name,TR name a=some (d name) :=
 let ⟨a,b,e⟩:=Zhf I.ns
 ⟨a,⟨I.obj,rfl,rfl,b⟩,e⟩
section
variable {prog:Oh} {w:Ol} {A:NC} {E:VG->VF->Prop} {s:VF} {K:VB} {x dx C f:VH} {mA:VI->VE VG} {name:VI} {v:VG}
def ZhG (X:K.In s.heap) (I:ObjM s.heap x dx C mA) (e:MX K C name=true) (f:RZ K C=true)
  (g:VZ K (.ref C) name=some none) (j:mA name=some v) (a:Ff v=true) (h:Q v {s with toks:=s.toks+1}) :
  Oe (Oc prog w) A (getAttr (.ref x) name c) Q E s:=by
 obtain⟨k,J,l⟩:=I.look;exact PySem.W.get_value X J (TC e).1 (PySem.W.findObj_own f g rfl bp) a h
def Zjk (X:K.In s.heap) (I:ObjM s.heap x dx C mA) (b:MX K C name=true)
  (j:VZ K (.ref C) name=some (some (.ref f))) (e:TK K (.ref f)=true) (d:mA name=none) (h:Q (.ref f,[.ref x]) s) :
  Oe (Oc prog w) A (Gv (.ref x) name l) Q E s:=by
 obtain⟨k,J,i⟩:=I.look;exact PySem.W.method_fn X J (TC b).1 (TC b).2 j (beq_iff_eq.mp e) (by show(TR name k).map _=some false;rw[i,d];rfl) h
def ZkZ (X:K.In s.heap) (I:ObjM s.heap x dx C mA)
  (u:VZ K (.ref C) "__setattr__" = some (some (.builtin "object.__setattr__"))) (z:LB K C=true) (r:KA K C name=some none) (o:RZ K C=true)
  (q:SA mA ns) (n:ns.length<=Od)
  (h:∀ h',ObjM h' x dx C (fun y=>if y=name then some v else mA y)->NV dx s.heap h'->Q () {s with heap:=h',toks:=s.toks+2}) :
  Oe (Oc prog w) A (setAttr (.ref x) name v) Q E s:=by
 obtain⟨B,J,G⟩:=I.look;refine PySem.W.set_plain X J u (PySem.W.osa_open X J z r fun b=>Lm (PySem.W.any_some o) fun F t g=>Oa (Ob (Oa (Oa (FJ I.obj (Oa (PySem.W.Looks.here (PySem.W.looks_clsIn X t) ?_)))))));rw[g];refine Ob (Oa (Ob (Oa (wpAny_nsSet1 I.ns fun h' a d=>La ?_))));intros;obtain⟨D,m,p,j,f,e⟩:=a.count (PySem.Within.cons name v q);exact Oa (wpAny_lookBehind j (by exact f▸pastItsLine_dict (QR e (by exact QI▸Vl n))) (Ob (h _ ⟨(d.2 _ (VS I.ne)).trans I.obj,a,I.ne⟩ d)))
def Zi6 (X:K.In s.heap) (k:KC K C=true)
  (hi:VZ K (.ref C) "__init__" = some (some (.ref f))) (i:PySem.W.typeIn K (.ref f)=some (.type "function"))
  (h:OF (Oc prog w) (A.under (.builtin "type.__call__" ⟨.ref C::vs,g⟩)) (.call (.ref f) ⟨.ref (s.heap.objs.size+1)::vs,g⟩) (PySem.W.InitBack (s.heap.objs.size+1) R)
   {s with heap:=(s.heap.push MM).push (ME C s.heap.objs.size)}) :
  OF (Oc prog w) A (.call (.ref C) ⟨vs,g⟩) R s:=PySem.W.make_core (PySem.W.makes_of X k) (PySem.W.looks_findIn X hi) (fun b=>PySem.W.bind_fn X b i) (.inl rfl) h
end
noncomputable def XG (f:VI) (v:V):VA (VI×V)->VA (VI×V)
 | []=>[(f,v)]
 | (g,x)::r=>if g=f then (g,v)::r else (g,x)::XG f v r
def Yr (f g) (v):∀ b,(XG f v b).lookup g=if g=f then some v else b.lookup g
 | []=>by
  show UE g [(f,v)]=_;by_cases h:g=f
  have c:=beq_iff_eq.mpr h;simp[UE,c,VD h];simp[UE,(beq_eq_false_iff_ne.mpr h),if_neg h]
 | (k,x)::r=>by
  have d:=Yr f g v r;rw[show XG f v _=if k=f then (k,v)::r else (k,x)::XG f v r from rfl];by_cases a:k=f
  rw[VD a];by_cases h:g=k
  simp_all
  simp[UE,(beq_eq_false_iff_ne.mpr h),if_neg fun e:g=f=>h (e.trans a.symm)]
  grind
def Zag (f) (v):∀ b,f∈(XG f v b).map (·.1)/\∀ g,g∈b.map (·.1)->g∈(XG f v b).map (·.1)
 | []=>⟨by simp[XG],fun g h=>by simp at h⟩
 | (k,x)::r=>by
  obtain⟨i,d⟩:=Zag f v r;rw[show XG f v _=if k=f then (k,v)::r else (k,x)::XG f v r from rfl];by_cases c:k=f
  subst c;simp;rw[if_neg c];refine⟨?_,fun g h=>?_⟩;exact Qm _ i;rcases Qs.mp h with e | e
  exact Qs.mpr (.inl e);exact Qm _ (d g e)
def YM (f) (v):∀ c,(XG f v c).length<=c.length+1
 | []=>by simp[XG]
 | (k,x)::r=>by
  have d:=YM f v r;rw[show XG f v _=if k=f then (k,v)::r else (k,x)::XG f v r from rfl];by_cases b:k=f
  rw[VD b,QI,QI];exact Kb;rw[if_neg b,QI,QI];exact Vl d
def RelO.some_of (r:RelO (some v) o):∃ u,o=some u/\RelV v u:=by
 cases o with
 | none=>exact r.elim
 | some u=>exact⟨u,rfl,r⟩
def RelO.none_of (r:RelO none o):o=none:=by
 cases o with
 | none=>rfl
 | some u=>exact r.elim
def ZcA (r:RelV v u):Ff u=true:=by
 cases v with
 | non=>cases r;rfl
 | bl b=>cases r;rfl
 | int i=>obtain⟨t,e⟩:=r;cases e;rfl
 | str x=>obtain⟨t,e⟩:=r;cases e;rfl
 | byt b=>obtain⟨t,e⟩:=r;cases e;rfl
 | flt b=>obtain⟨t,e⟩:=r;cases e;rfl
 | ref a=>cases r;rfl
 | ty n=>cases r;rfl
section
variable {P:Oh} {w:Ol} {H:Hp} {h:Nu} {a C:VH} 
def Zaj (g:HOk P w H h) (e:H a=some (.ins C i c)):∃ b,ObjM h a i C b/\(∀ f,RelO (c.lookup f) (b f))/\SA b (c.map (·.1))/\c.length<=1000/\H i=some (.own a):=by
 obtain⟨d,z,j,k,b,n,r,q⟩:=(g a _ e)
 exact⟨b,⟨k,n,j⟩,r,q,z,d⟩
end
structure Cls (K:VB) (C:VH):Prop where
 pg:MX K C Str.empty=true
 hd:RZ K C=true
 po:LB K C=true
 sa:VZ K (.ref C) "__setattr__" = some (some (.builtin "object.__setattr__"))
def Cls.get {K} (c:Cls K C) (f):MX K C f=true:=c.pg
def NoAttr (K:VB) (C:VH) (f:VI):Prop:=VZ K (.ref C) f=some none
def NoAttr.taker {K} (n:NoAttr K C f):KA K C f=some none:=by
 unfold KA;rw[n];rfl
structure Zmg (K:VB) (C:VH) (m:VI) (f:VH):Prop where
 at_:VZ K (.ref C) m=some (some (.ref f))
 fn:TK K (.ref f)=true
 kp:NU K (.ref f)=true
section
variable {X:Cx} {pins:VA (VH×MQ)} {σ:St} {H:Hp} {s:VF} {a C dx:VH} {fs:VA (VI×V)} {f:VI} {v:V} {A:NC} {E:VG->VF->Prop}
def Zfk (I:Inv X pins σ H s) (e:H a=some (.ins C dx fs)) (c:Cls X.K C) (n:NoAttr X.K C f) (l:fs.lookup f=some v)
  (h:∀ u d,Inv X pins σ H d->RelV v u->Q u d):Oe (Oc X.prog X.w) A (getAttr (.ref a) f b) Q E s:=by
 obtain⟨i,O,_⟩:=Zaj I.hok e;obtain⟨u,o,g⟩:=RelO.some_of (v:=v) (o:=i f) (by grind);exact ZhG I.kIn O (c.get f) c.hd n o (ZcA g) (h u _ (I.tok _) g)
def Jr (I:Inv X pins σ H s) (e:H a=some (.ins C dx fs)) (c:Cls X.K C) (k:Zmg X.K C m g) (l:fs.lookup m=none)
  (h:Q (.ref g,[.ref a]) s):Oe (Oc X.prog X.w) A (Gv (.ref a) m d) Q E s:=by
 obtain⟨i,O,_⟩:=Zaj I.hok e;exact Zjk I.kIn O (c.get m) k.at_ k.fn (RelO.none_of (by rw[←l];simp_all)) h
def ZeX (I:Inv X pins σ H s) (e:H a=some (.ins C dx fs)) (c:Cls X.K C) (n:NoAttr X.K C f) (M:fs.length<1000) (K:RelV y u)
  (h:∀ m,Inv X pins σ (upd H a (.ins C dx (XG f y fs))) m->Q () m):Oe (Oc X.prog X.w) A (setAttr (.ref a) f u) Q E s:=by
 obtain⟨J,O,r,l,_,w⟩:=Zaj I.hok e;have v:(fs.map (·.1)).length<=Od:=by rw[Qd,Oz];lia
 refine ZkZ I.kIn O c.sa c.po n.taker c.hd l v fun L j t=>h _ (I.write (by exact e▸NN) (.inr w) (fun b q F z=>(t.2 b F).trans z) (let ⟨o,_,_,G,_⟩:=j.ns;⟨o,G⟩) ⟨by rw[Zi O.ne];omega,?_,O.ne,j.obj,_,j.ns,fun g=>?_,fun g D=>?_⟩);have:=YM f y fs;exact Vn M this;rw[Yr];by_cases q:g=f
 rw[VD q,VD q];trivial
 simp_all
 by_cases q:g=f
 exact q▸(Zag f y fs).1;refine(Zag f y fs).2 g (l g fun z=>D ?_)
 simp_all
def Inv.made (I:Inv X pins σ H s):Inv X pins σ (upd (upd H s.heap.objs.size (.own (s.heap.objs.size+1))) (s.heap.objs.size+1) (.ins C s.heap.objs.size []))
  {s with heap:=(s.heap.push MM).push (ME C s.heap.objs.size)}:=by
 have f:(s.heap.push MM).get? s.heap.objs.size=some MM:=Qk s.heap rfl;have j:((s.heap.push MM).push (ME C s.heap.objs.size)).get? (s.heap.objs.size+1)=some (ME C s.heap.objs.size):=by
  have:=Qk (s.heap.push MM) (o:=ME C s.heap.objs.size) rfl
  simp_all
 refine(I.laid (o:=.own (s.heap.objs.size+1)) (t':=s.toks) (fun b u q=>Qc _ q) (Qh _) ⟨_,f⟩).laid (fun b u q=>Qc _ q) (TH (Wu _ _)) ?_;have g:s.heap.objs.size≠s.heap.objs.size+1:=QB (UI _);refine⟨by rw[Zi g,Zd],QN _,g,j,_,(Heap.Ns1.of_empty (⟨_,#[],_,f,rfl,fun e k=>VM k bo,fun _=>rfl⟩)).at fun o q=>Qc _ q,fun _=>NN,fun y i=>VM rfl i⟩
def Zh6 (c:OO e f env (NQ e env)=NQ e env)
  (h:Oe (Oc prog w) A (NQ e env) (fun o b=>Oe (Oc prog w) A (getAttr o f true) Q E b) E s):Oe (Oc prog w) A (NQ (.Attribute e f pos) env) Q E s :=
 Attribute_any_ h (by rw[arm_eval_Attribute,c])
end
def Zo3 (K:VB) (ta:TE) (f:VI):TE:=fun σ H Q=>ta σ H fun x H1=>∃ a C dx fs v,x= .ref a/\H1 a=some (.ins C dx fs)/\Cls K C/\NoAttr K C f/\fs.lookup f=some v/\Q v H1
def Zpv (K:VB) (ta tv:TE) (f:VI):TS:=fun D σ H=>tv σ H fun y H1=>ta σ H1 fun x H2=>∃ a C dx fs,x= .ref a/\H2 a=some (.ins C dx fs)/\Cls K C/\NoAttr K C f/\fs.length<1000 /\
 D.nx σ (upd H2 a (.ins C dx (XG f y fs)))
section
variable {X:Cx} {o e value:Expr} {f:VI} {pos pos':SD} {ta tv:TE}
def ZQ (p:PE X e t) (g:OO e f X.env (NQ e X.env)=NQ e X.env):PE X (.Attribute e f pos) (Zo3 X.K t f):=by
 intro d s σ H Q I h;refine Zh6 g (thn (p d s σ H _ I h) fun u B ⟨x,r,o,w,a,C,D,y,v,j,m,c,n,l,q⟩=>?_);subst j;obtain rfl:u=Value.ref a:=w;exact Zfk o m c n l fun A z k i=>⟨v,r,k,i,q⟩
def JX (t:PE X o i) (E:PE X value g) (r:Gu value (some (.Attribute o f pos')) pos.line X.env=pure false):PS X (.Assign [.Attribute o f pos'] value pos) (Zpv X.K i g f):=by
 intro e s σ H D I h;refine plainObj_wpAny_Assign_Attribute (thn (E e s σ H _ I h) fun u J=>Le fun y m G A q=>thn (t e J σ m _ G q) fun z N ⟨x,L,k,j,a,C,M,P,B,v,c,n,l,w⟩=>?_) r;subst B;obtain rfl:z=Value.ref a:=j;exact ZeX k v c n l A fun O F=>⟨σ,_,F,w⟩
end
section
variable {X:Cx} {pins:VA (VH×MQ)} {σ:St} {H:Hp} {s:VF} {A:NC} {E:VG->VF->Prop} {Q:VG->VF->Prop} {c:VG} {b:NY}
inductive ZeO (K:VB) (H:Hp):V->VG->Prop where
 | non:ZeO K H .non (.type "NoneType")
 | bl (x:NY):ZeO K H (.bl x) (.type "bool")
 | int (i:VN):ZeO K H (.int i) (.type "int")
 | str (x:VI):ZeO K H (.str x) (.type "str")
 | flt (x:UInt64):ZeO K H (.flt x) (.type "float")
 | lst {a:VH} {xs:VA V} (e:H a=some (.lst xs)):ZeO K H (.ref a) (.type "list")
 | frz {a:VH} {o:MQ} {xs:VA V} (e:H a=some (.frz o (.lst xs))):ZeO K H (.ref a) (.type "list")
 | tup {a:VH} {xs:VA V} (e:H a=some (.tup xs)):ZeO K H (.ref a) (.type "tuple")
 | dK {a:VH} {kvs:VA (Key×V)} (e:H a=some (.dK kvs)):ZeO K H (.ref a) (.type "dict")
 | dT {a:VH} {kvs:VA (VA Key×V)} (e:H a=some (.dT kvs)):ZeO K H (.ref a) (.type "dict")
 | ins {a C dx:VH} {fs:VA (VI×V)} (e:H a=some (.ins C dx fs)) (cl:Cls K C) (ha:VZ K (.ref C) "__class__" = some (some (.builtin "object.__class__")))
   (hn:SE K (.builtin "object.__class__") "__get__" = some (some (.builtin "getset_descriptor.__get__"))) (htk:Fx K (.builtin "object.__class__")=some true)
   (hm:RP K C (.type "object")=some true):ZeO K H (.ref a) (.ref C)
def Zhw (I:Inv X pins σ H s) (f:RelV x u) (w:ZeO X.K H x t) (e:MS X.K t c=some b) (h:∀ tk,Q (.bool b) {s with toks:=tk}) :
  Oe (Oc X.prog X.w) A (call (.builtin "isinstance") [u,c]) Q E s:=by
 cases w with
 | non=>cases f;exact NR PySem.W.kitx_none I.kIn NN e (fun z=>nomatch z) h
 | bl y=>cases f;exact NR PySem.W.kitx_bool I.kIn NN e (fun z=>nomatch z) h
 | int i=>obtain⟨t,q⟩:=f;cases q;exact NR PySem.W.kitx_int I.kIn NN e (fun z=>nomatch z) h
 | str y=>obtain⟨t,q⟩:=f;cases q;exact NR PySem.W.kitx_str I.kIn NN e (fun z=>nomatch z) h
 | flt y=>obtain⟨t,q⟩:=f;cases q;exact NR PySem.W.kitx_float I.kIn NN e (fun z=>nomatch z) h
 | @lst a l d =>
  cases f;obtain⟨_,_,n,_,g⟩:=(I.hok a _ d)
  exact NR SF I.kIn ⟨_,g,rfl⟩ e (fun z=>nomatch z) h
 | @frz a ob l d =>
  cases f;obtain⟨_,_,_,n,_,g⟩:=(I.hok a _ d)
  exact NR SF I.kIn ⟨_,g,rfl⟩ e (fun z=>nomatch z) h
 | @tup a l d =>
  cases f;obtain⟨_,_,_,p,_⟩:=(I.hok a _ d)
  obtain⟨o,g,j,_⟩:=p;exact NR PySem.W.kitx_tuple I.kIn ⟨o,g,j⟩ e (fun z=>nomatch z) h
 | @dK a m d =>
  cases f;obtain⟨_,_,vs,_,p⟩:=(I.hok a _ d)
  obtain⟨o,F,P,g,j,_⟩:=p;exact NR SG I.kIn ⟨o,g,j.1⟩ e (fun z=>nomatch z) h
 | @dT a m d =>
  cases f;obtain⟨_,_,l,_,o,F,P,g,j,_⟩:=(I.hok a _ d)
  exact NR SG I.kIn ⟨o,g,j.1⟩ e (fun z=>nomatch z) h
 | @ins a C dx Y d v G L r K =>
  cases f;obtain⟨mA,O,_⟩:=Zaj I.hok d;obtain⟨W,J,_⟩:=O.look;exact NR (PySem.W.kitx_own (v.get _) v.hd G L r K) I.kIn J e (fun z=>nomatch z) h
end
structure Room (k:VC) (A:NC):Prop where
 hd:A.handled=none
 dp:A.depth+3*k+5<GD
 un:A.units+16*k+200<O6
def Room.mono (r:Room k A) (h:j<=k):Room j A:=⟨r.hd,by have:=r.dp;lia,by have:=r.un;lia⟩
def Room.deeper (r:Room (k+1) A) (env):Room k (A.deeper env) :=
 ⟨r.hd,by have:=r.dp;show A.depth+1+3*k+5<_;exact Ka this,by have:=r.un;show A.units+3+16*k+200<_;lia⟩
def Zff {A:NC}:(A.under (.builtin "type.__call__" ⟨.ref C::e,d⟩)).depth=A.depth+1:=by
 rfl
def Zfe {A:NC}:(A.under (.builtin "type.__call__" ⟨.ref C::e,d⟩)).units=A.units+1:=by
 rfl
def Room.make (r:Room (k+1) A) (C) (d) (c):Room k (A.under (.builtin "type.__call__" ⟨.ref C::d,c⟩)) :=
 ⟨r.hd,by have:=r.dp;exact Zff▸Ka this,by have:=r.un;rw[Zfe];lia⟩
def Room.depth (r:Room k A):A.depth<GD:=by have:=r.dp;lia
def Room.units (r:Room k A):A.units+64<O6:=by have:=r.un;lia
def Zmu:TA:=fun _ H Q=>Q [] H
def ZkP (ta:TE) (tr:TA):TA:=fun σ H Q=>ta σ H fun x H1=>tr σ H1 fun xs H2=>Q (x::xs) H2
section
variable {X:Cx} {e:Expr} {es:VA Expr} {te:TE} {t:TA} {pos:SD}
def Ze:PA X [] Zmu:=fun _ _ _ _ H Q I h=>NZ ⟨[],H,I,.nil,h⟩
def Za (j:PE X e te) (m:PA X es t) (i:Oi (e::es) X.env=(false,NQ e X.env)::Oi es X.env:=by rfl):PA X (e::es) (ZkP te t):=by
 intro b a s σ H Q I h;exact i▸NL (thn (j a s σ H _ I h) fun u k ⟨x,l,g,f,n⟩=>thn (m b a k σ l _ g n) fun w v ⟨y,o,r,p,d⟩=>⟨_,o,r,.cons f p,d⟩)
def Zpi (t:TA):TE:=fun σ H Q=>t σ H fun xs H1=>xs.length<=Od/\∀ p,H1 p=none->Q (.ref p) (upd H1 p (.tup xs))
def Zpl (t:TA):TE:=fun σ H Q=>t σ H fun xs H1=>xs.length<=Od/\∀ p,H1 p=none->Q (.ref p) (upd H1 p (.lst xs))
def J2 (h:PA X es t):PE X (.Tuple es m pos) (Zpi t):=by
 intro a s σ H Q I f;refine wpAny_Tuple_spliced (thn (h pos a s σ H _ I f) fun i g ⟨k,l,d,r,z,q⟩=>⟨by exact r.length▸z,⟨.ref g.heap.objs.size,_,d.laid (fun b u e=>Qc _ e) (Qh _) ?_,rfl,q _ (d.hok.fresh (Qh _))⟩⟩);exact⟨z,i,r,⟨_,Qk _ rfl,rfl,_,rfl⟩,Zbx rfl rfl⟩
def ZC (h:PA X es t):PE X (.List es pos) (Zpl t):=by
 intro a s σ H Q I i;refine wpAny_List_spliced (thn (h pos a s σ H _ I i) fun g d ⟨j,k,c,r,z,q⟩=>⟨by exact r.length▸z,⟨.ref d.heap.objs.size,_,c.laid (fun b u e=>Qc _ e) (Qh _) ?_,rfl,q _ (c.hok.fresh (Qh _))⟩⟩);exact⟨z,g,0,r,Qk _ rfl⟩
end
abbrev Sp:=VA V->Hp->VK->XK->Prop
abbrev CXT:=VA BH->Hp->VF->XK->VG->VF->Prop
structure Env0 (P:Oh) (w:Ol) (K:VB) (mg:VI->VE VG) (base:Nu) (A:NC) (outer:VA BH) (s:VF) (H:Hp):Prop where
 frames:A.frames=some outer
 mod:Mod K mg base
 bs:∀ b o,base.get? b=some o->s.heap.get? b=some o/\H b=none
 bsz:base.objs.size<=s.heap.objs.size
 funs:s.heap.FunFrames base outer
 frf:∀ b∈frs outer,H b=none
 hok:HOk P w H s.heap
 bare:Gh s.gens
def CE (outer:VA BH) (P:Oh) (w:Ol) (H:Hp) (s:VF) (Q:VK) (u:VG) (s':VF):Prop :=
 ∃ v H',s'.os=s.os/\Gh s'.gens/\Un (frs outer) [] H H' s.heap s'.heap/\HOk P w H' s'.heap/\RelV v u/\Q v H'
def CR (CX:CXT) (outer:VA BH) (P:Oh) (w:Ol) (H:Hp) (s:VF) (Q:VK) (E:XK) (r:GU) (s':VF):Prop :=
 match r with
 | .ok (.ret u)=>CE outer P w H s Q u s'
 | .ok _=>False
 | .error e=>CX outer H s E e s'
structure FnOk (P:Oh) (w:Ol) (K:VB) (mg:VI->VE VG) (base:Nu) (CX:CXT) (k:VC) (f:VH) (fd:Ge) (ps:VA VI) (sp:Sp):Prop where
 len:∀ vs H Q E,sp vs H Q E->vs.length=ps.length
 run:∀ (A:NC) (outer:VA BH) (s:VF) (H:Hp) (args:Args) (us:VA VG) (vs:VA V) (Q:VK) (E:XK),Room k A->Env0 P w K mg base A outer s H->G4 s fd args (ps.zip us)->Vals vs us->sp vs H Q E ->
  OF (Oc P w) A (.call (.ref f) args) (CR CX outer P w H s Q E) s
def FnOk.mono {K} (F:FnOk P w K c base d j f n g m) (h:j<=k) :
  FnOk P w K c base d k f n g m:=⟨F.len,fun A a s H b l e Q E i=>F.run A a s H b l e Q E (i.mono h)⟩
def FnOk.imp {K} (F:FnOk P w K d base p k f o i n)
  (h:∀ vs H Q E,c vs H Q E->n vs H Q E):FnOk P w K d base p k f o i c :=
 ⟨fun vs H Q E q=>F.len vs H Q E (h _ _ _ _ q),fun A a s H b m vs Q E g j r e l=>F.run A a s H b m vs Q E g j r e (h _ _ _ _ l)⟩
def Env0.make {K} (e:Env0 P w K g base A a s H) (C) (f) (d) :
  Env0 P w K g base (A.under (.builtin "type.__call__" ⟨.ref C::f,d⟩)) a s H:=⟨by first | lia | (simpa[Around.under,Code.envs,Code.isFrame,pushEnvs]using e.frames),e.mod,e.bs,e.bsz,e.funs,e.frf,e.hok,e.bare⟩
section
variable {X:Cx} {pins:VA (VH×MQ)} {σ:St} {H:Hp} {s s':VF}
def Inv.env0 (I:Inv X pins σ H s):Env0 X.prog X.w X.K X.mg X.base X.A X.stack s H :=
 ⟨I.ok.frames,I.ok.mod,I.bs,QR I.ok.bsz I.sz,I.stack,I.stkFree,I.hok,I.bare⟩
def Inv.after (I:Inv X pins σ H s) (h:CE X.stack X.prog X.w H s Q u s'):EP X pins σ Q u s':=by
 obtain⟨v,i,os,a,j,c,r,q⟩:=h;obtain⟨k,g,d,t,e⟩:=s';obtain rfl:e=s.os:=os;exact⟨v,i,I.call j c a fun b z=>VM z bo,r,q⟩
end
def ZkQ (sp:Sp) (dvs:VA V) (E:XK) (t:TA):TE:=fun σ H Q=>t σ H fun vs H1=>sp (vs++dvs) H1 Q E
def Zii (C:VH) (m:VI) (sp:Sp) (dvs:VA V) (E:XK) (ta:TE) (t:TA):TE:=fun σ H Q=>ta σ H fun x H1=>∃ a dx fs,x= .ref a/\H1 a=some (.ins C dx fs)/\fs.lookup m=none /\
 t σ H1 fun vs H2=>sp (x::(vs++dvs)) H2 Q E
def Zmv (C:VH) (sp:Sp) (dvs:VA V) (E:XK) (t:TA):TE:=fun σ H Q=>t σ H fun vs H1=>∀ x dx,H1 x=none->H1 dx=none->dx≠x ->
 sp (.ref x::(vs++dvs)) (upd (upd H1 dx (.own x)) x (.ins C dx [])) (fun v H2=>v= .non/\Q (.ref x) H2) E
def Binds (K:VB) (fd:Ge) (ps:VA VI) (ds:VA VG):Prop :=
 ∀ (s:VF) (us:VA VG),K.In s.heap->(us++ds).length=ps.length->G4 s fd ⟨us,[]⟩ (ps.zip (us++ds))
def Binds.all {K} (h:∀ a,a.length=d.length->GV e ⟨a,[]⟩=pure (d.zip a)):Binds K e d []:=fun s a _ c=>by
 rw[WK]at c ⊢;exact .of_eq (h a c)
def JA (CX:CXT) (X:Cx) (E:XK):Prop:=∀ (pins:VA (VH×MQ)) (σ:St) (H:Hp) (s:VF) (e:VG) (s':VF),Inv X pins σ H s->CX X.stack H s E e s'->X.xe e s'
section
variable {X:Cx} {CX:CXT} {k:VC} {f C:VH} {fd:Ge} {ps:VA VI} {sp:Sp} {dvs:VA V} {ds:VA VG} {E:XK} {x m:VI} {p pos apos:SD} {e o:Expr} {es:VA Expr} {ta:TE} {t:TA}
def Zgn {σ:St} (F:FnOk X.prog X.w X.K X.mg X.base CX k f fd ps sp) (q:Room k X.A) (t:Binds X.K fd ps ds) (y:Vals dvs ds) (o:JA CX X E)
  (I:Inv X pins σ H s) (r:Vals vs b) (h:sp (vs++dvs) H Q E):Oe (Oc X.prog X.w) X.A (call (.ref f) b) (EP X pins σ Q) X.xe s:=by
 have m:=r.append y;have z:(b++ds).length=ps.length:=by exact m.length▸F.len _ _ _ _ h
 refine Gj (OM (F.run X.A X.stack s H _ _ _ Q E q I.env0 (t s b I.kIn z) m h) fun r B l=>?_);cases r with
 | error e=>exact o pins σ H s e B I l
 | ok A =>
  cases A with
  | ret u=>exact I.after l
  | next=>assumption
  | brk=>assumption
  | cont=>assumption
def ZgH (F:FnOk X.prog X.w X.K X.mg X.base CX k f fd ps sp) (y:Room k X.A) (K:Gl X x) (w:X.mg x=some (.ref f)) (J:NU X.K (.ref f)=true) (v:Binds X.K fd ps ds) (n:Vals dvs ds) (A:JA CX X E)
  (o:PA X (e::es) t) (d:(x==("__debug__"))=false:=by decide) (D:Oi (e::es) X.env=(false,NQ e X.env)::Oi es X.env:=by rfl) (c:(OE pos (Oi es X.env)).any (·.1)=false:=by rfl) :
  PE X (.Call (.Name x p) (e::es) [] pos) (ZkQ sp dvs E t):=by
 intro a s σ H Q I h;exact OA (Jo I K w (RV I.ok.mod.kin J (thn (o pos a s σ H _ I h) fun O L ⟨M,N,l,r,q⟩=>⟨l.kIn,Zgn F y v n A l r q⟩) D c) d)
def Zli {S} (he:PE X o ta) (c:Cls X.K C) (w:Zmg X.K C m f) (F:FnOk X.prog X.w X.K X.mg X.base CX k f fd ps sp) (R:Room k X.A) (L:Binds X.K fd ps ds) (N:Vals dvs ds) (V:JA CX X E) (P:PA X (e::es) t)
  (n:Oi (e::es) X.env=(false,NQ e X.env)::Oi es X.env:=by rfl) (v:(OE pos (Oi es X.env)).any (·.1)=false:=by rfl)
  (Z:NQ (.Call (.Attribute o m apos) (e::es) [] pos) X.env=(do
   let y ←NQ o X.env
   GR apos.atName
   let (f,i) ←Gi [y] (Gv y m S)
   GT pos f i (OE pos (Oi (e::es) X.env)) (Ga pos (OR [] X.env))):=by rfl) :
  PE X (.Call (.Attribute o m apos) (e::es) [] pos) (Zii C m sp dvs E ta t):=by
 intro g s σ H Q I h;refine KN (thn (he g s σ H _ I h) fun u O ⟨x,D,B,M,a,dx,fs,T,Y,l,q⟩=>?_) Z;subst T;obtain rfl:u=Value.ref a:=M;exact Jr B Y c w l (RV I.ok.mod.kin w.kp (thn (P pos g O σ D _ B q) fun us s2 ⟨U,H2,A,r,K⟩=>⟨A.kIn,Zgn (vs:=.ref a::U) F R L N V A (.cons rfl r) K⟩) n v)
def ZiI (P:PE X o w) (c:Cls X.K C) (r:Zmg X.K C m f) (F:FnOk X.prog X.w X.K X.mg X.base CX k f fd ps sp) (O:Room k X.A) (S:Binds X.K fd ps ds) (y:Vals dvs ds) (N:JA CX X E)
  (A:NQ (.Call (.Attribute o m apos) [] [] pos) X.env=(do
   let p ←NQ o X.env
   GR apos.atName
   let (f,e) ←Gi [p] (Gv p m G)
   GT pos f e (OE pos (Oi [] X.env)) (Ga pos (OR [] X.env))):=by rfl) :
  PE X (.Call (.Attribute o m apos) [] [] pos) (Zii C m sp dvs E w Zmu):=by
 intro i s σ H Q I h;refine KN (thn (P i s σ H _ I h) fun u T ⟨x,U,n,z,a,W,V,D,K,l,q⟩=>?_) A;subst D;obtain rfl:u=Value.ref a:=z;exact Jr n K c r l (PySem.W.callWith_K0 n.kIn r.kp (Zgn (vs:=[.ref a]) F O S y N n (.cons rfl .nil) q))
structure Mk (K:VB) (C f:VH):Prop where
 makes:KC K C=true
 init:VZ K (.ref C) "__init__" = some (some (.ref f))
 fn:TK K (.ref f)=true
 kp:NU K (.ref C)=true
def Ziv {σ:St} (M:Mk X.K C f) (F:FnOk X.prog X.w X.K X.mg X.base CX k f fd ps sp) (q:Room (k+1) X.A) (z:Binds X.K fd ps ds) (y:Vals dvs ds)
  (N:JA CX X E) (I:Inv X pins σ H s) (r:Vals vs i)
  (h:∀ x d,H x=none->H d=none->d≠x->sp (.ref x::(vs++dvs)) (upd (upd H d (.own x)) x (.ins C d [])) (fun v Y=>v= .non/\Q (.ref x) Y) E) :
  Oe (Oc X.prog X.w) X.A (call (.ref C) i) (EP X pins σ Q) X.xe s:=by
 have l:=h _ s.heap.objs.size (I.hok.fresh (Ui _)) (I.hok.fresh (Qh _)) (QB (UI _));have g:=Inv.made (C:=C) I;have n:Vals (V.ref (s.heap.objs.size+1)::(vs++dvs)) _:=.cons rfl (r.append y);have R:=by
  have e:=n.length;rw[F.len _ _ _ _ l]at e;exact e.symm
 refine Gj (Zi6 I.kIn M.makes M.init (beq_iff_eq.mp M.fn) (OM (F.run _ X.stack _ _ _ _ _ _ E (q.make C i [])
  (g.env0.make C i []) (z _ _ g.kIn R) n l) fun r W b=>?_))
 cases r with
 | error e=>exact N pins σ _ _ e W g b
 | ok S =>
  cases S with
  | ret u =>
   refine Ll (g.after b) fun v t O L J U=>?_;subst J;exact⟨L,⟨V.ref _,t,O,rfl,U⟩⟩
  | next=>assumption
  | brk=>assumption
  | cont=>assumption
def Zlj (M:Mk X.K C f) (F:FnOk X.prog X.w X.K X.mg X.base CX k f fd ps sp) (K:Room (k+1) X.A) (J:Gl X x) (z:X.mg x=some (.ref C)) (v:Binds X.K fd ps ds) (n:Vals dvs ds) (w:JA CX X E)
  (o:PA X (e::es) t) (c:(x==("__debug__"))=false:=by decide) (A:Oi (e::es) X.env=(false,NQ e X.env)::Oi es X.env:=by rfl) (d:(OE pos (Oi es X.env)).any (·.1)=false:=by rfl) :
  PE X (.Call (.Name x p) (e::es) [] pos) (Zmv C sp dvs E t):=by
 intro a s σ H Q I h;exact OA (Jo I J z (RV I.ok.mod.kin M.kp (thn (o pos a s σ H _ I h) fun L P ⟨O,N,j,r,q⟩=>⟨j.kIn,Ziv M F K v n w j r q⟩) A d) c)
end
def PK (X:Cx) (kws:VA GE) (t:TA):Prop :=
 ∀ (pos:SD) (pins:VA (VH×MQ)) (s:VF) (σ:St) (H:Hp) (Q:VA V->Hp->Prop),Inv X pins σ H s->t σ H Q->Oe (Oc X.prog X.w) X.A (evalAll ((Ga pos (OR kws X.env)).map (·.2))) (AP X pins σ Q) X.xe s
section
variable {X:Cx} {k:VC} {f:VH}     {x m:VI} {p kpos:SD} {e o:Expr}  {kws:VA GE} {te:TE} {t:TA} {nm:VE VI}
def ZmG:PK X [] Zmu:=fun _ _ _ _ H Q I h=>wpAny_evalAll_nil ⟨[],H,I,.nil,h⟩
def Zle (j:PE X e te) (n:PK X kws t):PK X (⟨nm,e,kpos⟩::kws) (ZkP te t):=by
 intro b a s σ H Q I h;exact wpAny_evalAll_cons (Oa (thn (j a s σ H _ I h) fun u k ⟨x,m,g,r,i⟩=>Oa (Gp (Ob (thn (n b a k σ m _ g i) fun w v ⟨y,o,p,l,f⟩=>⟨_,o,p,.cons r l,f⟩)))))
end
structure Zp (N P:VA VI) (sc:Scope):Prop where
 kind:sc.kind= .function
 co:sc.isCoroutine=false
 gen:sc.isGenerator=false
 nd:N.Nodup
 pre:N.take P.length=P
 par:∀ x∈P,sc.names.lookup x=some .local\/sc.names.lookup x=some .cell
 nofree:∀ y∈sc.names,y.2≠.free
def ZcO {NK}:∀ {a} {m},(∀ v,(x,v)∉a)->Vb NK a m x=m x
 | [],_,_=>rfl
 | (n,v)::r,m,h=>by
  unfold Vb;rw[ZcO fun w b=>h w (Qm _ b)];split
  have:x≠n:=by rintro rfl;exact h v Qo
  simp[this];rfl
def ZcQ {NK}:∀ {a} {m},(∀ v,(x,v)∉a)->Vc NK a m x=m x
 | [],_,_=>rfl
 | (n,v)::r,m,h=>by
  unfold Vc;rw[ZcQ fun w b=>h w (Qm _ b)];split
  rfl;have:x≠n:=by rintro rfl;exact h v Qo
  simp[this]
def ZcP {NK} {x} {v}:∀ {P:VA VI} {vs} {i:VC} {m},P.Nodup->P[i]?=some x->vs[i]?=some v->NK x=some .local ->
  Vb NK (P.zip vs) m x=some v
 | [],_,_,_,_,h,_,_=>by simp at h
 | _::_,[],_,_,_,_,h,_=>by simp at h
 | p::P,w::vs,0,m,c,b,a,d=>by
  simp at b a;subst b;subst a;show Vb NK ((p,w)::P.zip vs) m p=_;unfold Vb;rw[ZcO fun v f=>(Q9.mp c).1 (U6 f).1,VD d];simp
 | p::P,w::vs,i+1,m,c,b,a,d=>by
  unfold Vb;exact ZcP (i:=i) (Q9.mp c).2 (by simp_all) (by simp_all) d
def ZcR {NK} {x} {v}:∀ {P:VA VI} {vs} {i:VC} {m},P.Nodup->P[i]?=some x->vs[i]?=some v->NK x≠some .local ->
  Vc NK (P.zip vs) m x=some v
 | [],_,_,_,_,h,_,_=>by simp at h
 | _::_,[],_,_,_,_,h,_=>by simp at h
 | p::P,w::vs,0,m,c,b,a,d=>by
  simp at b a;subst b;subst a;show Vc NK ((p,w)::P.zip vs) m p=_;unfold Vc;rw[ZcQ fun v f=>(Q9.mp c).1 (U6 f).1,if_neg d];simp
 | p::P,w::vs,i+1,m,c,b,a,d=>by
  unfold Vc;exact ZcR (i:=i) (Q9.mp c).2 (by simp_all) (by simp_all) d
noncomputable def start (N:VA VI) (vs:VA V):St:=vs.map some++Qw (N.length-vs.length) none
noncomputable def Zfq (CX:CXT) (P:Oh) (w:Ol) (K:VB) (mg:VI->VE VG) (base:Nu) (N:VA VI) (qual:VI) (scope:Scope) (f:VH) (cd:VG) (A:NC) (outer:VA BH) (s:VF) (H:Hp) (E:XK):Cx where
 prog:=P
 w:=w
 K:=K
 mg:=mg
 base:=base
 A:=A.deeper (Gc qual scope s.heap.objs.size f cd)
 N:=N
 s₀:=s
 H₀:=H
 env:=Gc qual scope s.heap.objs.size f cd
 outer:=outer
 stack:=Gc qual scope s.heap.objs.size f cd::outer
 ex:=[]
 calm:=true
 fn:=fun _=>true
 pn:=[]
 xe:=fun e s'=>Oe (Oc P w) (A.deeper (Gc qual scope s.heap.objs.size f cd)) (leaving (Gc qual scope s.heap.objs.size f cd) e) (fun _ s''=>CX outer H s E e s'') (fun e' s''=>CX outer H s E e' s'') s'
def ZeL {a:Scope} (h:a.names.lookup x=some .cell):∃ c,(Gw n a.names []).lookup x=some c:=by
 exact WQ.mp (LV a.names n [] (.inl h))
def Zhz {K}
  (S:Zp N n a) (V:A.handled=none) (j:Env0 P w K O base A g s H) (X:vs.length=n.length) (r:Vals vs L)
  (x:InCallC s s.heap.objs.size (Vb (Gc d a s.heap.objs.size f C).kindOf (n.zip L) fun _=>none) (Gw (s.heap.objs.size+1) a.names []) (Vc (Gc d a s.heap.objs.size f C).kindOf (n.zip L) fun _=>none) W) :
  Inv (Zfq U P w K O base N d a f C A g s H E) [] (start N vs) H W:=by
 have Q:n.length<=N.length:=by have:=NA Uj S.pre;rw[QD]at this;lia
 obtain⟨D,Z,rfl,J⟩:=x.done;have m:∀ b:VH,b∉(Zfq U P w K O base N d a f C A g s H E).ex:=fun b z=>VM (show b∈([]:VA VH)from z) bo;refine⟨⟨j.mod,S.kind,rfl,rfl,Qh _,fun y z c D o=>?_,fun y l=>?_,fun y c _ h=>?_,fun _=>V,Around.frames_deeper j.frames,.inr ⟨rfl,rfl⟩,fun b z=>VM z (m b),j.bs,j.bsz,fun b _ _=>m b,fun b z=>VM z (m b),j.funs,j.frf⟩,
  rfl,j.bare,Un.kept J,⟨_,x.toInCall.ns,fun i y v D o F=>?_⟩,fun y c h=>⟨_,x.cell y c h⟩,j.hok.fresh (Qh _),fun y c h=>?_,fun p t=>VM (show p∈([]:VA (VH×MQ))from t) bo,j.hok.kept J,?_⟩
 exact name_of_addr x.apart (NM D) (NM o)
 have l:=l;rcases l with l | l
 exact ZeL l
 exact VM rfl (S.nofree _ (NM l))
 exact WP (x.above y c (NM h))
 have I:i<vs.length:=by
  unfold start at o;by_cases I:i<vs.length
  exact I
  rw[QC (by simpa using I),Wz]at o
  simp_all
 have R:vs[i]?=some v:=by
  unfold start at o;rw[QF (by simpa using I),Qi]at o
  simp_all
 obtain⟨u,M,T⟩:=r.get R;have t:n[i]?=some y:=by
  rw[←S.pre,U1 (K8 X I)];trivial
 have B:n.Nodup:=by exact S.pre▸S.nd.sublist (List.take_sublist _ _)
 refine⟨u,T,?_⟩;rcases S.par y (We t)with k | k
 exact .inl ⟨k,ZcP B t M k⟩
 obtain⟨c,e⟩:=ZeL (n:=s.heap.objs.size+1) k;refine .inr ⟨.inl k,c,e,?_⟩;have q:=x.cell y c e;rw[ZcR B t M (by show a.names.lookup y≠_;rw[k];decide)]at q;omega
 exact j.hok.fresh (WP (x.above y c (NM h)))
 unfold start;show _=N.length;rw[Qg,Qd,Wb];lia
def Zjr {K} {dV kV F pm g ct oc}
  (lk:K.lookup f=some ⟨oc,od,.func (ND name d i body a dV kV F pm an g ct),osl⟩) (L:MB K g d=true) (S:Zp N R a)
  (C:∀ vs H Q E,sp vs H Q E->vs.length=R.length)
  (m:∀ (A) (c) (s) (H) (vs) (Q) (E),Room k (A.deeper (Gc d a s.heap.objs.size f g))->sp vs H Q E ->
   ∃ t,PSs (Zfq W P w K X base N d a f g A c s H E) body t/\t {nx:=fun _ j=>Q .non j,rt:=Q} (start N vs) H) :
  FnOk P w K X base W (k+1) f (ND name d i body a dV kV F pm an g ct) R sp:=by
 refine⟨C,fun A c s H args us vs Q E O z hb r B=>?_⟩;have KX:=z.mod.kin.keeps fun b o e=>(z.bs b o e).1;have l:∀ y∈R.zip us,a.names.lookup y.1=some _\/(a.names.lookup y.1=some _/\((Gw (s.heap.objs.size+1) a.names []).lookup y.1).isSome=true):=fun⟨n,v⟩ hy=>by
  rcases S.par n (U6 hy).1 with q | q
  exact .inl q;exact .inr ⟨q,LV _ _ _ (.inl q)⟩
 refine codeAny_call_function O.depth (KX _ _ lk) rfl S.co S.gen rfl (PySem.W.codeRec_of KX L) (hb _ _ _ _ (wpAny_newFunctionEnv_cells S.kind l fun env he s1 x=>?_));subst he;refine⟨(z.mod.nolimit.keeps fun b o e=>(z.bs b o e).1).keeps x.toInCall.keep,codeAny_func ?_⟩;refine Lm (m A c s H vs Q E (O.deeper _) B) fun t ht hq=>?_;have I:Inv (Zfq W P w K X base N d a f g A c s H E) [] _ H s1:=Zhz S O.hd z (C _ _ _ _ B) r x;refine Os (ht [] s1 _ H _ I hq) (fun fl T p=>?_) fun e T p=>p;have D:∀ {h:St} {j:Hp} {v:V} {u:VG},Inv (Zfq W P w K X base N d a f g A c s H E) [] h j T->RelV v u->Q v j->CE c P w H s Q u T :=
  fun {h j v u} J Y q=>⟨v,j,J.os,J.bare,J.base,J.hok,Y,q⟩
 cases fl with
 | ret u =>
  obtain⟨v,h,j,J,Y,q⟩:=p;exact D J Y q
 | next =>
  obtain⟨h,j,J,q⟩:=p;exact D (v:=V.non) J rfl q
 | brk =>
  obtain⟨_,_,_,q⟩:=p;exact R9 q
 | cont =>
  obtain⟨_,_,_,q⟩:=p;exact R9 q
section
variable {X:Cx} {x:VI} {p pos:SD} {e:Expr} {es:VA Expr} {t:TA} {id T:RY} {r:VA V->Hp->VK->Prop}
def tCB (r:VA V->Hp->VK->Prop) (t:TA):TE:=fun σ H Q=>t σ H fun vs H1=>r vs H1 Q
def Zk (l:CallR X (.builtin id) r) (B:Gl X x) (o:X.mg x=none) (q:Op x=some (.builtin id)) (n:PA X (e::es) t) (v:x≠"__name__":=by decide) (d:(x==("__debug__"))=false:=by decide)
  (A:Oi (e::es) X.env=(false,NQ e X.env)::Oi es X.env:=by rfl) (c:(OE pos (Oi es X.env)).any (·.1)=false:=by rfl):PE X (.Call (.Name x p) (e::es) [] pos) (tCB r t):=by
 intro b s σ H Q I h;exact OA (YQ I B o q (Fg (thn (n pos b s σ H _ I h) fun m i ⟨z,j,y,w,k⟩=>l b i σ j z m Q y w k) A c) v d)
def Yw (k:CallR X (.type T) r) (B:Gl X x) (n:X.mg x=none) (q:Op x=some (.type T)) (m:PA X (e::es) t) (v:x≠"__name__":=by decide) (c:(x==("__debug__"))=false:=by decide)
  (A:Oi (e::es) X.env=(false,NQ e X.env)::Oi es X.env:=by rfl) (d:(OE pos (Oi es X.env)).any (·.1)=false:=by rfl):PE X (.Call (.Name x p) (e::es) [] pos) (tCB r t):=by
 intro a s σ H Q I h;exact OA (YQ I B n q (VY (thn (m pos a s σ H _ I h) fun l i ⟨z,u,y,w,j⟩=>k a i σ u z l Q y w j) A d) v c)
end
section
variable {κ:Type} [DecidableEq κ]
noncomputable def XU (kvs:VA (κ×V)) (k:κ):VE V:=(kvs.find? fun kv=>decide (kv.1=k)).map (·.2)
noncomputable def Jl (kvs:VA (κ×V)) (k:κ) (v:V):VA (κ×V) :=
 if (kvs.any fun kv=>decide (kv.1=k))=true then kvs.map (fun kv=>if kv.1=k then (kv.1,v)else kv)else kvs++[(k,v)]
def JC {k:κ} (e:p.1=k):XU (p::r) k=some p.2:=by simp[XU,Ue,e]
def JD {k:κ} (e:¬ p.1=k):XU (p::r) k=XU r k:=by simp[XU,Ue,e]
def JE (k:κ):∀ kvs,(kvs.any fun b=>decide (b.1=k))=(XU kvs k).isSome
 | []=>rfl
 | p::r=>by
  rw[UG];by_cases e:p.1=k
  simp[JC e,VR e,Bool.true_or,UU];rw[JD e,VO e];exact JE k r
def Xa (kvs) (k:κ) (v):(Jl kvs k v).length<=kvs.length+1:=by
 unfold Jl;split
 simp;simp
def Zbp {k:κ} (v) (h:XU kvs k=none):Jl kvs k v=kvs++[(k,v)]:=by
 unfold Jl;rw[JE,h];simp
def RelO.isSome_eq (r:RelO o u):o.isSome=u.isSome:=by
 cases o with
 | none=>cases u with
  | none=>rfl
  | some _=>exact r.elim
 | some _=>cases u with
  | none=>exact r.elim
  | some _=>rfl
def RelO.getD (r:RelO o u) (a:RelV d d'):RelV (o.getD d) (u.getD d'):=by
 cases o with
 | none=>cases u with
  | none=>grind
  | some _=>exact r.elim
 | some _=>cases u with
  | none=>exact r.elim
  | some _=>exact r
def KV.val (r:KV kvs vs) (k:κ):RelO (XU kvs k) (G5 vs k):=by
 induction r with
 | nil=>exact NN
 | @cons p q l a h t i =>
  obtain⟨d,j⟩:=h;by_cases e:p.1=k
  have c:=d.symm.trans e;have b:G5 (q::a) k=some q.2:=by simp[G5,Ue,c]
  rw[JC e,b];trivial;have c:¬ q.1=k:=fun z=>e (d.trans z);have b:G5 (q::a) k=G5 a k:=by simp[G5,Ue,c]
  rw[JD e,b];omega
def KV.any (r:KV kvs vs) (k:κ):(kvs.any fun a=>decide (a.1=k))=vs.any fun a=>decide (a.1=k):=by
 induction r with
 | nil=>rfl
 | cons h t c=>rw[UG,UG,c,h.1]
def KV.repl (r:KV kvs vs) (k:κ) (f:RelV y u) :
  KV (kvs.map fun a=>if a.1=k then (a.1,y)else a) (vs.map fun a=>if a.1=k then (a.1,u)else a):=by
 induction r with
 | nil=>exact .nil
 | @cons p q g i h t d =>
  refine .cons ?_ d;by_cases e:p.1=k
  simp_all
  simp_all
def KV.put (r:KV kvs vs) (k:κ) (a:RelV y u):KV (Jl kvs k y) (stored vs k u):=by
 unfold Jl stored;rw[r.any k];by_cases e:(vs.any fun b=>decide (b.1=k))=true
 rw[VD e,VD e];exact r.repl k a;rw[if_neg e,if_neg e];exact CU r ⟨rfl,a⟩
def KV.keys {kvs:VA (κ×V)} (r:KV kvs vs):kvs.map (·.1)=vs.map (·.1):=by
 induction r with
 | nil=>rfl
 | cons h t c=>rw[Q3,Q3,c,h.1]
def KV.length {kvs:VA (κ×V)} (r:KV kvs vs):kvs.length=vs.length:=DD r
end
def Zcx (r:RelV (kV k) u):(ZE P w).is k u=true:=by
 cases k with
 | inl i=>obtain⟨t,e⟩:=r;subst e;exact Zdw P w i t
 | inr x=>obtain⟨t,e⟩:=r;subst e;exact XT P w x t
def Zcz:∀ {ks} {b},Vals (ks.map kV) b->ItemsAre (ZE P w) ks b
 | [],_,r=>by cases r;exact .nil
 | k::ks,_,r=>by
  cases r with
  | cons h t=>exact .cons (Zcx h) (Zcz t)
abbrev KT (H:Hp):VA (VA Key×V)->VA (VA Key×VH×VG)->Prop:=DO fun p q=>p.1=q.1/\H q.2.1=some (.tup (p.1.map kV))/\RelV p.2 q.2.2
def KT.val (r:KT H kvs xs) (k):RelO (XU kvs k) ((G8 xs k).map (·.2)):=by
 induction r with
 | nil=>exact NN
 | @cons p q j a h t m =>
  obtain⟨d,_,l⟩:=h;by_cases e:p.1=k
  have c:=d.symm.trans e;have b:G8 (q::a) k=some q.2:=by simp[G8,Ue,c]
  rw[JC e,b];trivial;have c:¬ q.1=k:=fun z=>e (d.trans z);have b:G8 (q::a) k=G8 a k:=by simp[G8,Ue,c]
  rw[JD e,b];omega
def KT.repl (r:KT H kvs xs) (k) (f:RelV y u) :
  KT H (kvs.map fun c=>if c.1=k then (c.1,y)else c) (xs.map (putAt k u)):=by
 induction r with
 | nil=>exact .nil
 | @cons p q g i h t d =>
  refine .cons ?_ d;unfold putAt;by_cases e:p.1=k
  simp_all
  simp_all
def KT.put (r:KT H kvs xs) (k) (h:H b=some (.tup (k.map kV))) (d:RelV y u) :
  KT H (Jl kvs k y) (storedH xs k b u):=by
 have e:(kvs.any fun g=>decide (g.1=k))=(G8 xs k).isSome:=by
  rw[JE,(r.val k).isSome_eq,UX]
 unfold Jl storedH;rw[e];by_cases q:(G8 xs k).isSome=true
 rw[VD q,VD q];exact r.repl k d;rw[if_neg q,if_neg q];exact CU r ⟨rfl,h,d⟩
def KT.keeps (r:KT H kvs xs) (d:∀ b ys,H b=some (.tup ys)->c b=some (.tup ys)):KT c kvs xs :=
 Paired.mapP r fun _ _ z=>⟨z.1,d _ _ z.2.1,z.2.2⟩
section
variable {P:Oh} {w:Ol} {H:Hp} {h:Nu} {a:VH}
def ZmD (b:HOk P w H h) (e:Rd H a u):ObjOk P w H h a u:=e.ok b
def ZcI (b:HOk P w H h) (e:Rd H a (.dK kvs)):kvs.length<=Od/\(a==OQ)=false/\∃ vs,KV kvs vs/\h.DictOf (ZE P w) a vs :=
 ZmD b e
def Zfp (b:HOk P w H h) (e:H a=some (.dK kvs)):kvs.length<=Od/\(a==OQ)=false/\∃ vs,KV kvs vs/\h.DictOf (ZE P w) a vs:=ZcI b (.inl e)
def ZaS (b:HOk P w H h) (e:H a=some (.tup (ks.map kV))):(GZ (ZE P w)).is h ks a:=by
 obtain⟨_,g,r,⟨o,f,i,n,d⟩,_⟩:=(b a _ e)
 exact⟨o,_,n,f,i,d,by simpa using Zcz r⟩
def ZdG (d:HOk P w H h) (e:Rd H a (.dT kvs)):kvs.length<=Od/\(a==OQ)=false /\
  ∃ xs,KT H kvs xs/\h.DictOfH (GZ (ZE P w)) a xs:=by
 obtain⟨z,y,xs,r,o,k,g,v,A,u,s,n⟩:=(ZmD d e)
 refine⟨z,y,xs,r,Pf o k g ⟨v,A,u,s,fun x b=>?_,n⟩⟩;have c:∀ {l:VA _} {m:VA _},KT H l m->∀ x∈m,(GZ (ZE P w)).is h x.1 x.2.1:=by
  intro l m q;induction q with
  | nil=>simp
  | @cons p q E F C t i =>
   intro x b;rcases Qs.mp b with e | b
   exact ZaS d bp;exact i x b
 exact c r x b
def ZoM (b:HOk P w H h) (e:H a=some (.dT kvs)):kvs.length<=Od/\(a==OQ)=false /\
  ∃ xs,KT H kvs xs/\h.DictOfH (GZ (ZE P w)) a xs:=ZdG b (.inl e)
end
def DGet (H:Hp) (a:VH) (y:V) (r:VE V):Prop :=
 (∃ kvs k,Rd H a (.dK kvs)/\y=kV k/\r=XU kvs k)\/∃ kvs k b,Rd H a (.dT kvs)/\y= .ref b/\H b=some (.tup (k.map kV))/\r=XU kvs k
def DPut (H:Hp) (a:VH) (y v:V) (H':Hp):Prop :=
 (∃ kvs k,H a=some (.dK kvs)/\y=kV k/\kvs.length<Od/\H'=upd H a (.dK (Jl kvs k v))) \/
 ∃ kvs k b,H a=some (.dT kvs)/\y= .ref b/\H b=some (.tup (k.map kV))/\kvs.length<Od/\H'=upd H a (.dT (Jl kvs k v))
def DGet.kk {k} (e:H a=some (.dK kvs)):DGet H a (kV k) (XU kvs k):=.inl ⟨kvs,k,.inl e,rfl,rfl⟩
def DPut.kk {k} (e:H a=some (.dK kvs)) (b:kvs.length<Od):DPut H a (kV k) v (upd H a (.dK (Jl kvs k v))):=.inl ⟨kvs,k,e,rfl,b,rfl⟩
section
variable {X:Cx} {pins:VA (VH×MQ)} {σ:St} {H:Hp} {s:VF} {a:VH} {y v:V} {u r:VG} {o:VE V} {A:NC} {E:VG->VF->Prop}
def Inv.big (I:Inv X pins σ H s):OQ<s.heap.objs.size:=by
 exact DV be ((I.mod.glob.keeps I.bk).lt)
def ZhW (B:A.units+1<O6) (I:Inv X pins σ H s) (g:DGet H a y (some v)) (q:RelV y u) (h:∀ f r,Inv X pins σ H r->RelV v f->Q f r) :
  Oe (Oc X.prog X.w) A (GC (.ref a) u) Q E s:=by
 rcases g with ⟨j,k,e,o,l⟩ | ⟨j,k,b,e,o,w,l⟩
 subst o;obtain⟨z,C,F,c,m⟩:=ZcI I.hok e;obtain⟨f,n,d⟩:=RelO.some_of (by exact l▸c.val k);exact wpAny_getItem_of (Zcx q) m.mapOf n (h f _ (I.tok _) d);subst o;cases q;obtain⟨z,C,D,c,m⟩:=ZdG I.hok e;obtain⟨f,n,d⟩:=RelO.some_of (by exact l▸c.val k);obtain⟨p,x,i⟩:=WB.mp n;exact wpAny_getItem_heap (OZ B) (ZaS I.hok w) m x (i▸h f _ (I.tok _) d)
def ZpN (v:A.units+1<O6) (I:Inv X pins σ H s) (g:DGet H a y o) (n:RelV y u) (h:∀ p,Inv X pins σ H p->Q (.bool o.isSome) p) :
  Oe (Oc X.prog X.w) A (OJ .In u (.ref a)) Q E s:=by
 rcases g with ⟨f,k,e,j,l⟩ | ⟨f,k,b,e,j,r,l⟩
 subst j;obtain⟨z,m,x,d,i⟩:=ZcI I.hok e;refine wpAny_in_of (Zcx n) m i.mapOf ?_;rw[←(d.val k).isSome_eq,←l];exact h _ (I.tok _);subst j;cases n;obtain⟨z,m,w,d,i⟩:=ZdG I.hok e;refine wpAny_in_heap (OZ v) (ZaS I.hok r) m i ?_;have q:=(d.val k).isSome_eq;rw[UX]at q;rw[←q,←l];exact h _ (I.tok _)
def Zl3 (w:A.units+1<O6) (I:Inv X pins σ H s) (g:DGet H a y o) (p:RelV y u) (h:∀ r,Inv X pins σ H r->Q (.bool (!o.isSome)) r) :
  Oe (Oc X.prog X.w) A (OJ .NotIn u (.ref a)) Q E s:=by
 rcases g with ⟨n,k,e,j,l⟩ | ⟨n,k,b,e,j,t,l⟩
 subst j;obtain⟨z,i,B,d,m⟩:=ZcI I.hok e;refine wpAny_notIn_of (Zcx p) i m.mapOf ?_;rw[←(d.val k).isSome_eq,←l];exact h _ (I.tok _);subst j;cases p;obtain⟨z,i,x,d,m⟩:=ZdG I.hok e;refine wpAny_notIn_heap (OZ w) (ZaS I.hok t) i m ?_;have q:=(d.val k).isSome_eq;rw[UX]at q;rw[←q,←l];exact h _ (I.tok _)
def ZbO (I:Inv X pins σ H s) (i:Mut (H a)) (f:NV a s.heap h') (e:∃ q,h'.get? a=some q) (c:ObjOk X.prog X.w (upd H a d) h' a d) :
  Inv X pins σ (upd H a d) {s with heap:=h',toks:=t'} :=
 I.write i (.inl rfl) (fun b q g z=>(f.2 b g).trans z) e c
def ZhS (z:kvs.length<=Od) (c:(a==OQ)=false) (b:KV kvs vs) (dd:h'.DictOf (ZE P w) a vs) :
  ObjOk P w d h' a (.dK kvs):=⟨z,c,vs,b,dd⟩
def ZhV (Y:A.units+1<O6) (I:Inv X pins σ H s) (g:DPut H a y v H') (F:RelV y u) (C:RelV v r) (h:∀ G,Inv X pins σ H' G->Q () G) :
  Oe (Oc X.prog X.w) A (Vh (.ref a) u r) Q E s:=by
 rcases g with ⟨d,k,e,p,l,o⟩ | ⟨d,k,b,e,p,D,l,o⟩
 subst p o;obtain⟨z,x,T,f,w⟩:=Zfp I.hok e;have N:T.length<=Od:=by exact f.length▸Vm l
 have B:(Jl d k v).length<=Od:=by have:=Xa d k v;exact Vn l this
 exact wpAny_setItem_pairs (Zcx F) w fun R j n=>h _ (ZbO I (by exact e▸NN) n (let ⟨q,_,_,m,_⟩:=j;⟨q,m⟩) (ZhS B x (f.put k C) j));subst p o;cases F;obtain⟨z,x,W,f,w⟩:=ZoM I.hok e;have N:W.length<=Od:=by exact DD f▸Vm l
 have B:(Jl d k v).length<=Od:=by have:=Xa d k v;exact Vn l this
 refine wpAny_setItem_heap (OZ Y) (ZaS I.hok D) w fun R j n=>h _ ?_;obtain⟨q,M,O,m,J,S,P,_,V⟩:=j;refine ZbO I (by exact e▸NN) n ⟨q,m⟩ ⟨B,x,_,(f.put k D C).keeps fun c Z U=>?_,q,M,O,m,J,S,P,V⟩;rw[Zi (Zdo U e fun z=>nomatch z)];omega
end
section
variable {X:Cx} {pins:VA (VH×MQ)} {σ:St} {H:Hp} {s:VF} {a:VH} {kvs:VA (Key×V)} {k:Key} {A:NC} {E:VG->VF->Prop}
def ZoN (I:Inv X pins σ H s) (e:Rd H a (.dK kvs)) (h:∀ t d,Inv X pins σ H d->Q (.int kvs.length t) d):Oe (Oc X.prog X.w) A (call (.builtin "len") [.ref a]) Q E s:=by
 obtain⟨z,j,k,b,i⟩:=ZcI I.hok e;exact call_len_dict j i (by rw[←b.length];rw[Oz]at z;lia) (b.length▸h _ _ (I.tok _))
end
def Zpf (i:Expr):Prop:=∀ ov iv,GJ i false ov iv=Vi [ov,iv] (GC ov iv)
def ZkR {T id}
  (p:Gk (.type T) "__getitem__" = pure (some (.builtin id))) (q:Zpf a)
  (h:Oe (Oc prog w) A (NQ c env) (fun o e=>Oe (Oc prog w) A (NQ a env) (fun i b=>b.TypeIs o T/\Oe (Oc prog w) A (GC o i) Q E b) E e) E s) :
  Oe (Oc prog w) A (NQ (.Subscript c a pos) env) Q E s:=by
 refine GP (Os h (fun o e j=>Os j (fun i b d=>?_) fun _ _ x=>x) fun _ _ x=>x);obtain⟨t,d⟩:=d;refine Oa (Oa (OG t p ?_));have m:Oe (Oc prog w) A (GJ a false o i) (fun r f=>Oe (Oc prog w) A (letTemporaryGo c o r >>= fun _=>pure r) Q E f) E b:=by
  exact q o i▸wpAny_operating (Os d (fun r f k=>Oa (wpAny_letTemporaryGo (Ob k))) fun _ _ x=>x)
 first
  | exact Ob (Oa m)
  | lia
  | lia
def ZdH {σ:St} (I:Inv X pins σ H s) (g:DGet H a y o):s.TypeIs (.ref a) "dict":=by
 rcases g with ⟨d,k,e,_,_⟩ | ⟨d,k,b,e,_,_,_⟩
 obtain⟨_,_,i,_,c⟩:=ZcI I.hok e;exact c.typeIs;obtain⟨_,_,h,_,c⟩:=ZdG I.hok e;exact c.typeIs
def Zog (td ty:TE):TE:=fun σ H Q=>td σ H fun x H1=>ty σ H1 fun y H2=>∃ a v,x= .ref a/\DGet H2 a y (some v)/\Q v H2
def Zpp (ty td:TE):TE:=fun σ H Q=>ty σ H fun y H1=>td σ H1 fun x H2=>∃ a o,x= .ref a/\DGet H2 a y o/\Q (.bl o.isSome) H2
def ZkO (ty td:TE):TE:=fun σ H Q=>ty σ H fun y H1=>td σ H1 fun x H2=>∃ a o,x= .ref a/\DGet H2 a y o/\Q (.bl (!o.isSome)) H2
def Zol (td ty tv:TE):TS:=fun D σ H=>tv σ H fun v H1=>td σ H1 fun x H2=>ty σ H2 fun y H3=>∃ a H4,x= .ref a/\DPut H3 a y v H4/\D.nx σ H4
section
variable {X:Cx} {o i e value:Expr} {pos pos':SD} {td:TE}
def Zdh (C:X.A.units+1<O6) (k:PE X o c) (hi:PE X i z) (n:Zpf i):PE X (.Subscript o i pos) (Zog c z):=by
 intro b s σ H Q I h;refine ZkR PySem.F.slot_dict_getitem.lookup n (thn (k b s σ H _ I h) fun u B=>Le fun x l A p m=>thn (hi b B σ l _ A m) fun G E ⟨y,f,e,t,a,v,w,g,q⟩=>?_);subst w;obtain rfl:u=Value.ref a:=p;exact⟨ZdH e g,ZhW C e g t fun F D r d=>⟨v,f,r,d,q⟩⟩
def Zj8 (t:X.A.units+1<O6) (hi:PE X i f) (q:PE X o td):PC X .In i o (Zpp f td):=by
 intro b s σ H Q I h;refine thn (hi b s σ H _ I h) fun B n=>Le fun y r m c j=>thn (q b n σ r _ m j) fun u A ⟨x,w,k,p,a,z,d,g,v⟩=>?_;subst d;obtain rfl:u=Value.ref a:=p;exact ZpN t k g c fun C l=>⟨.bl z.isSome,w,l,rfl,v⟩
def Zcg (v:X.A.units+1<O6) (hi:PE X i f) (q:PE X o td):PC X .NotIn i o (ZkO f td):=by
 intro b s σ H Q I h;refine thn (hi b s σ H _ I h) fun A n=>Le fun y r m d j=>thn (q b n σ r _ m j) fun u C ⟨x,w,k,p,a,E,t,g,z⟩=>?_;subst t;obtain rfl:u=Value.ref a:=p;exact Zl3 v k g d fun D l=>⟨.bl _,w,l,rfl,z⟩
def Y7 (N:X.A.units+1<O6) (n:PE X o td) (hi:PE X i F) (P:PE X value l) (z:Gu value (some (.Subscript o i pos')) pos.line X.env=pure false) :
  PS X (.Assign [.Subscript o i pos'] value pos) (Zol td F l):=by
 intro d s σ H D I h;refine wpAny_Assign_Subscript (thn (P d s σ H _ I h) fun r k=>Le fun v p L G q=>thn (n d k σ p _ L q) fun u M=>Le fun x j J A B=>thn (hi d M σ j _ J B) fun R S ⟨y,T,K,C,a,w,E,g,O⟩=>?_) z;subst E;obtain rfl:u=Value.ref a:=A;exact ZhV N K g C G fun Q t=>⟨σ,w,t,O⟩
end
def ZeI (h:Nu) (d:OQ<h.objs.size):ObjOk P w H (h.push {cls:=.type "dict",data:=.dict #[]}) h.objs.size (.dK []) :=
 ⟨QN _,beq_eq_false_iff_ne.mpr (VS (QB d)),[],.nil,Heap.DictOf.new h⟩
def Zmx:TE:=fun _ H Q=>∀ p,H p=none->Q (.ref p) (upd H p (.dK []))
section
variable {X:Cx} {pos:SD}
def Xy:PE X (.Dict [] [] pos) Zmx:=fun a s σ H Q I h =>
 wpAny_Dict_empty ⟨.ref s.heap.objs.size,_,I.laid (fun _ _ q=>Qc _ q) (Qh _) (ZeI s.heap I.big),rfl,h _ (I.hok.fresh (Qh _))⟩
end
def ZfI:VA (TE×TE)->St->Hp->(VA (V×V)->Hp->Prop)->Prop
 | [],_,H,Q=>Q [] H
 | (tk,tv)::r,σ,H,Q=>tk σ H fun x H1=>tv σ H1 fun y H2=>ZfI r σ H2 fun ps H3=>Q ((x,y)::ps) H3
abbrev VV:VA (V×V)->VA (VG×VG)->Prop:=DO fun p q=>RelV p.1 q.1/\RelV p.2 q.2
def PPs (X:Cx) (pos:SD) (keys:VA (VE Expr)) (values:VA Expr) (trs:VA (TE×TE)):Prop :=
 ∀ (pins:VA (VH×MQ)) (s:VF) (σ:St) (H:Hp) (Q:VA (V×V)->Hp->Prop),Inv X pins σ H s->ZfI trs σ H Q ->
  Oe (Oc X.prog X.w) X.A (evalPairs (pairTrees keys values X.env pos)) (fun vs s'=>∃ ps H',Inv X pins σ H' s'/\VV ps vs/\Q ps H') X.xe s
def Zgy:PPs X pos [] [] []:=fun a s σ H Q I h=>pairTrees_nil_walk ⟨[],H,I,.nil,h⟩
def Zel (j:PE X k tk) (A:PE X v i) (p:PPs X pos ks vs c) :
  PPs X pos (some k::ks) (v::vs) ((tk,i)::c):=fun a s σ H Q I h =>
 pairTrees_cons_walk (thn (j a s σ H _ I h) fun u m=>Le fun x n g w q=>thn (A a m σ n _ g q) fun E l=>Le fun y B o e z=>
  thn (p a l σ B _ o z) fun C D=>Li fun F r f b t=>⟨_,r,f,.cons ⟨w,e⟩ b,t⟩)
def Xr (kvs more:VA (Key×V)):VA (Key×V):=more.foldl (fun acc kv=>Jl acc kv.1 kv.2) kvs
def KV.merge:∀ {a} {b} {kvs} {vs},KV a b->KV kvs vs->KV (Xr kvs a) (merged vs b):=by
 intro a b kvs vs r;induction r generalizing kvs vs with
 | nil=>intro q;exact q
 | @cons p q i j h t f =>
  intro d;have e:KV (Jl kvs p.1 p.2) (stored vs q.1 q.2):=by
   have:=d.put p.1 h.2
   simp_all
  exact f e
def X3:∀ (b kvs),(Xr kvs b).length<=kvs.length+b.length
 | [],kvs=>by show kvs.length<=kvs.length+0;exact Kb
 | p::r,kvs=>by
  have c:=X3 r (Jl kvs p.1 p.2);have d:=Xa kvs p.1 p.2;show(Xr (Jl kvs p.1 p.2) r).length<=_;rw[QI];lia
def Za4:∀ {kvs} {g},VV (kvs.map fun f=>(kV f.1,f.2)) g->∃ e,Carries (ZE P w) g e/\KV kvs e
 | [],_,r=>by cases r;exact⟨[],NN,.nil⟩
 | p::kvs,_,r=>by
  cases r with
  | @cons a b k l h t =>
   obtain⟨e,c,q⟩:=Za4 t;obtain⟨m,i⟩:=b;exact⟨(p.1,i)::e,⟨Zcx h.1,rfl,c⟩,.cons ⟨rfl,h.2⟩ q⟩
def Zoe (trs:VA (TE×TE)):TE:=fun σ H Q=>∀ p,H p=none->ZfI trs σ (upd H p (.dK [])) fun ps H2=>H2 p=some (.dK [])/\∃ kvs:VA (Key×V),ps=kvs.map (fun kv=>(kV kv.1,kv.2))/\kvs.length<=15/\Q (.ref p) (upd H2 p (.dK (Xr [] kvs)))
def ZgG (h:PPs X pos a b l) (g:a.all (·.isSome)=true) (D:a.length=b.length) (J:a≠[])
  (m:a.length<=15):PE X (.Dict a b pos) (Zoe l):=by
 intro i s σ H Q I q;refine wpAny_Dict_walk (knd:=ZE X.prog X.w) g D J m (thn (h i _ σ _ _ (I.laid (t':=s.toks) (fun _ _ q=>Qc _ q) (Qh _) (ZeI s.heap I.big)) (q _ (I.hok.fresh (Qh s.heap.objs.size)))) fun O N ⟨R,P,o,n,e,f,B,L,v⟩=>?_);subst B;apply La;intros;obtain⟨K,c,r⟩:=Za4 n;obtain⟨z,t,u,x,C⟩:=Zfp o.hok e;cases x;refine⟨K,c,C,fun M d G=>⟨.ref s.heap.objs.size,_,?_,rfl,v⟩⟩;have A:(Xr [] f).length<=Od:=by
  have F:=X3 f [];rw[WR]at F;rw[Oz];lia
 exact ZbO o (by exact e▸NN) G (let ⟨q,_,_,w,_⟩:=d;⟨q,w⟩) (ZhS A t (r.merge .nil) d)
structure M2 (X:Cx) (o:Expr) (m:VI) (apos:SD) (e f:Expr) (cpos:SD):Prop where
 base:OO o m X.env (NQ o X.env)=NQ o X.env
 few:((OE cpos (Oi [e,f] X.env)).all (fun x=>!x.1)&&(Ga cpos (OR [] X.env)).all (fun x=>x.1.isSome)
  && decide (([e,f]:VA Expr).length+([]:VA GE).length+(if ([]:VA GE).isEmpty then 0 else 1)<30))=true
 line:(apos.endLine==cpos.line)=true
 trees:OE cpos (Oi [e,f] X.env)=[(false,NQ e X.env),(false,NQ f X.env)]
def IsD (H:Hp) (a:VH):Prop:=(∃ kvs,Rd H a (.dK kvs))\/∃ kvs,Rd H a (.dT kvs)
def Zhy {σ:St} (I:Inv X pins σ H s) (d:IsD H a) :
  s.TypeIs (.ref a) "dict"/\(∀ b,Value.ref a= .ref b->∃ c,s.heap.get? b=some c/\c.dict=none)/\(a==OQ)=false:=by
 rcases d with ⟨g,e⟩ | ⟨g,e⟩
 obtain⟨_,k,m,_,f⟩:=ZcI I.hok e;refine⟨f.typeIs,fun b q=>?_,k⟩;cases q;obtain⟨c,_,_,i,j,_⟩:=f;exact⟨c,i,j.2.1⟩;obtain⟨_,k,l,_,f⟩:=ZdG I.hok e;refine⟨f.typeIs,fun b q=>?_,k⟩;cases q;obtain⟨c,_,_,i,j,_⟩:=f;exact⟨c,i,j.2.1⟩
section
variable {X:Cx} {pins:VA (VH×MQ)} {σ:St} {H:Hp} {s:VF} {a:VH} {y d:V} {u r:VG} {o:VE V} {A:NC} {E:VG->VF->Prop}
def ZnD (x:A.units+1<O6) (I:Inv X pins σ H s) (g:DGet H a y o) (q:RelV y u) (w:RelV d r) (h:∀ v t,Inv X pins σ H t->RelV (o.getD d) v->Q v t) :
  Oe (Oc X.prog X.w) A (call (.builtin "dict.get") [.ref a,u,r]) Q E s:=by
 rcases g with ⟨p,k,e,m,l⟩ | ⟨p,k,b,e,m,C,l⟩
 subst m;obtain⟨z,n,F,c,i⟩:=ZcI I.hok e;exact GW R6 i.typeIs LW (LK _ _ _) (meets_dict_get_default _ a (Zcx q) n r) ⟨_,i.mapOf,h _ _ (I.tok _) (l▸(c.val k).getD w)⟩;subst m;cases q;obtain⟨z,n,B,c,i⟩:=ZdG I.hok e;exact GW R6 i.typeIs LW (LK _ _ _) (meetsH_dict_get_default _ a b n r) ⟨OZ x,k,B,ZaS I.hok C,i,h _ _ (I.tok _) (l▸(c.val k).getD w)⟩
end
def Zmy (td ty tx:TE):TE:=fun σ H Q=>td σ H fun x H1=>∃ a,x= .ref a/\IsD H1 a/\ty σ H1 fun y H2=>tx σ H2 fun z H3=>∃ o,DGet H3 a y o/\Q (o.getD z) H3
section
variable {X:Cx} {o e f:Expr} {apos cpos:SD} 
def YE (T:X.A.units+1<O6) (O:PE X o D) (S:PE X e w) (R:PE X f v) (m:M2 X o "get" apos e f cpos):PE X (.Call (.Attribute o "get" apos) [e,f] [] cpos) (Zmy D w v):=by
 intro b s σ H Q I h;refine SH m.base m.few m.line RX R6 PySem.F.type_dict_get (thn (O b s σ H _ I h) fun u G ⟨x,U,l,B,a,J,d,q⟩=>?_);subst J;obtain rfl:u=Value.ref a:=B;obtain⟨A,r,_⟩:=Zhy l d;refine⟨A,r,?_⟩;exact m.trees▸MG rfl (MT (NL (thn (S b G σ U _ l q) fun n P=>Le fun y p N F C=>
  NL (thn (R b P σ p _ N C) fun V W ⟨z,t,M,E,Z,g,L⟩=>NZ (ZnD T M g F E fun j Y K k=>⟨_,t,K,k,L⟩)))))
end
end L2
namespace HT
open PySem PyProof.Rows
section
open PySem.SeqAt
open PySem.AutoSeq1 (wpAny_loadPart')
open PySem.MeetsSeq PySem.MeetsSeq2 PySem.MeetsSeq3
end
section
noncomputable def sIx (n d:VC):VE VN->VC
 | none=>d
 | some v=>if v<0 then (v+(n:VN)).toNat else min v.toNat n
end
end HT
namespace L2
open PySem PySem.Spec PyProof.Rows
abbrev TO:=St->Hp->(VE VN->Hp->Prop)->Prop
def PO (X:Cx) (e:VE Expr) (t:TO):Prop :=
 ∀ (pins:VA (VH×MQ)) (s:VF) (σ:St) (H:Hp) (Q:VE VN->Hp->Prop),Inv X pins σ H s->t σ H Q ->
  Oe (Oc X.prog X.w) X.A (evalPart e X.env) (fun u s'=>∃ o H',Inv X pins σ H' s'/\IsPart u o/\Q o H') X.xe s
def ZkM:TO:=fun _ H Q=>Q none H
def Zn9 (t:TE):TO:=fun σ H Q=>t σ H fun x H1=>∃ i,x= .int i/\Q (some i) H1
section
variable {X:Cx} {e:Expr} {te:TE} {lo hi:VE Expr} {tl th:TO} {pos p2:SD}
def Zy:PO X none ZkM:=by
 intro a s σ H Q I h;exact Ob ⟨_,H,I,.none,h⟩
def Zv (h:PE X e b):PO X (some e) (Zn9 b):=by
 intro a s σ H Q I k;refine thn (h a s σ H _ I k) fun u l=>Le fun x c g f j=>?_;obtain⟨i,rfl,q⟩:=j;obtain⟨t,rfl⟩:=f;exact⟨_,c,g,.int i t,q⟩
def SlR (X:Cx) (r:V->VE VN->VE VN->Hp->VK->Prop):Prop :=
 ∀ (pins:VA (VH×MQ)) (s:VF) (σ:St) (H:Hp) (x:V) (v vl vu:VG) (lo hi:VE VN) (sl:VH) (Q:VK),Inv X pins σ H s->RelV x v->s.heap.IsSliceOf sl vl vu .none->IsPart vl lo->IsPart vu hi->r x lo hi H Q ->
  ∃ T id,Gk (.type T) "__getitem__" = pure (some (.builtin id))/\s.TypeIs v T/\Oe (Oc X.prog X.w) X.A (GC v (.ref sl)) (EP X pins σ Q) X.xe s
def tSl (r:V->VE VN->VE VN->Hp->VK->Prop) (te:TE) (tl th:TO):TE:=fun σ H Q=>te σ H fun x H1=>tl σ H1 fun l H2=>th σ H2 fun u H3=>r x l u H3 Q
def Zr (B:SlR X r) (S:PE X e te) (L:PO X lo tl) (P:PO X hi th):PE X (.Subscript e (.Slice lo hi none p2) pos) (tSl r te tl th):=by
 intro a s σ H Q I h;refine GP (thn (S a s σ H _ I h) fun v K=>Le fun x A F C J=>wpAny_Slice (thn (L a K σ A _ F J) fun k y=>Li fun l n t G p=>thn (P a y σ n _ t p) fun j f=>Li fun u m E w O=>Ob ?_));have z:Inv X a σ m {f with heap:=f.heap.push {cls:=.type "slice",data:=.fields #[k,j,.none]}}:=E.kept fun b W q=>Qc _ q;exact Lw (B a _ σ m x v k j l u f.heap.objs.size Q z C (Heap.IsSliceOf.new ..) G w O) fun T id N D U=>CV D N U (by rfl)
noncomputable def Zfr (xs:VA V) (lo hi:VE VN):VA V:=(xs.drop (HT.sIx xs.length 0 lo)).take (HT.sIx xs.length xs.length hi-HT.sIx xs.length 0 lo)
def ZdJ (xs) (lo hi):(Zfr xs lo hi).length<=xs.length:=by
 unfold Zfr;rw[QD,Wi];lia
end
noncomputable def ixN (n:VC) (i:VN):VE VC:=if 0<=i then (if i<n then some i.toNat else none)else if -(n:VN)<=i then some (i+n).toNat else none
noncomputable def atI {α:Type} (xs:VA α) (i:VN):VE α:=(ixN xs.length i).bind fun j=>xs[j]?
def ixN_seq (h:ixN n i=some j):Cy i n=some j/\j<n/\-n<=i/\i<n:=by
 unfold ixN at h;by_cases b:0<=i
 rw[VD b]at h;by_cases a:i<n
 rw[VD a]at h;have e:=VQ h;exact⟨by rw[Fo b a,e],bq,bq,a⟩
 simp_all
 rw[if_neg b]at h;by_cases a : -n<=i
 rw[VD a]at h;have e:=VQ h;exact⟨by rw[SI (Kc b) a,e],bq,a,bq⟩
 simp_all
def ZdP {xs} {v:α} (h:atI xs i=some v):∃ j,Cy i xs.length=some j/\xs[j]?=some v/\j<xs.length/\-xs.length<=i/\i<xs.length:=by
 unfold atI at h;cases e:ixN xs.length i with
 | none=>simp_all
 | some j =>
  refine Lx (ixN_seq e) fun a d b c=>?_
  simp_all
def Zax {xs} {j:VC} {v:α} (h:xs[j]?=some v):atI xs j=some v:=by
 have e:ixN xs.length j=some j:=by
  unfold ixN;rw[VD Tw,VD (Sa ((Qj.mp h).1))];simp
 unfold atI;simp_all
def Zma (b:Expr):Prop:=∀ o i,GJ b false o i=Vi [o,i] (GC o i)
def IxR (X:Cx) (r:R2):Prop :=
 ∀ (value slice:Expr) (pins:VA (VH×MQ)) (s:VF) (σ:St) (H:Hp) (x y:V) (v u:VG) (Q:VK),Inv X pins σ H s->RelV x v->RelV y u->r x y H Q ->
  GJ slice false v u=Vi [v,u] (GC v u)->Oe (Oc X.prog X.w) X.A (subscriptTail value slice v u) (EP X pins σ Q) X.xe s
def MtR (X:Cx) (id:RY) (r:V->VA V->Hp->VK->Prop):Prop :=
 ∀ (pins:VA (VH×MQ)) (s:VF) (σ:St) (H:Hp) (x:V) (xs:VA V) (v:VG) (us:VA VG) (Q:VK),Inv X pins σ H s->RelV x v->Vals xs us->r x xs H Q ->
  Oe (Oc X.prog X.w) X.A (call (.builtin id) (v::us)) (EP X pins σ Q) X.xe s
section
variable {X:Cx} {a b:Expr} {ta tb:TE} {pos:SD}
def IxR.or (h:IxR X r) (h':IxR X g):IxR X (fun x y H Q=>r x y H Q\/g x y H Q):=by
 intro b a c s σ H x y v u Q I f d q e;rcases q with q | q
 exact h b a c s σ H x y v u Q I f d q e;exact h' b a c s σ H x y v u Q I f d q e
def ZA (i:IxR X r) (l:PE X a ta) (p:PE X b tb) (j:Zma b:=by exact fun _ _=>rfl):PE X (.Subscript a b pos) (tOp r ta tb):=by
 intro d s σ H Q I h;exact GP (ZoP l p I h fun v u g x y o f m e q=>i a b d g σ o x y v u Q f m e q (j _ _))
def Zoq (K:VB):R2:=fun x y H Q=>∃ p xs i v,x= .ref p/\y= .int i/\SqL K H p xs/\atI xs i=some v/\Q v H
def ZnV (K:VB):R2:=fun x y H Q=>∃ p xs i v,x= .ref p/\y= .int i/\SqT K H p xs/\atI xs i=some v/\Q v H
def Zo7:R2:=fun x y H Q=>∃ z i c,x= .str z/\y= .int i/\z.length<=Od/\atI z.cps.toList i=some c/\Q (.str ⟨#[c]⟩) H
def ix_list:IxR X (Zoq X.K):=by
 intro k e a s σ H x y v u Q I G F h o;refine Ly h fun p L i z R P C J q=>?_;subst R;subst P;cases G;obtain⟨t,rfl⟩:=F;obtain⟨l,r,g,O⟩:=I.list C;obtain⟨j,n,B,M,E,D⟩:=ZdP J;obtain⟨w,m,f⟩:=r.get B;have N:=r.length;have K:=Zad;have b:EP X a σ Q w s:=⟨z,H,I,f,q⟩
 by_cases A:0<=i
 have c:i.toNat=j:=by
  rw[Fo A D]at n
  simp_all
 exact item_listR g.isList A bq (by rw[c];simpa using m) b o;have c:(i+l.toArray.size).toNat=j:=by
  rw[SI (Kc A) E]at n
  simp_all
 exact LX g.isList.typeIs slot_list_getitem.lookup
  (wpAny_getItem_list_neg g.isList (Kc A) (by rw[Qy] <;> exact Nf E N) br (by rw[c];simpa using m) ⟨rfl,b⟩) o
def ix_tup:IxR X (ZnV X.K):=by
 intro c a e s σ H x y v u Q I k l h o;refine Ly h fun p C i z F B m n q=>?_;subst F;subst B;cases k;obtain⟨t,rfl⟩:=l;obtain⟨A,r,d,E⟩:=I.tuple m;obtain⟨j,D,f,_⟩:=ZdP n;obtain⟨w,g,b⟩:=r.get f;have G:=Zad;exact LX d.typeIs slot_tuple_getitem.lookup
  (getItem_tuple d bq bq (by rw[Qy,←r.length];omega) (by simpa using g) ⟨rfl,(⟨z,H,I,b,q⟩)⟩) o
def Zcy:IxR X Zo7:=by
 intro b a d s σ H x y v u Q I l e h f;refine L0 h fun z i c D k w g q=>?_;subst D;subst k;obtain⟨t,rfl⟩:=l;obtain⟨n,rfl⟩:=e;obtain⟨j,A,B,o,p,C⟩:=ZdP g;have r:z.cps.toList.length=z.length:=by rfl
 have m:=Zad;exact CV (O0 s z t) slot_str_getitem.lookup (getItem_str (by
  rw[(VO bq),(VO bq),UH]) bp ⟨.str _,H,I.tok _,⟨_,rfl⟩,q⟩) f
def rIx (K:VB):R2:=fun x y H Q=>Zoq K x y H Q\/ZnV K x y H Q\/Zo7 x y H Q
def Znu:IxR X (rIx X.K):=ix_list.or (ix_tup.or Zcy)
def Zfd (d:VA VG) (n j) (u):NF (·.setIfInBounds j u) {cls:=.type "list",data:=.seq d.toArray n}={cls:=.type "list",data:=.seq (d.set j u).toArray n}:=by
 simp[NF]
def Inv.lst {σ:St} {H} {s} {p} {xs} (I:Inv X pins σ H s) (h:H p=some (.lst xs)) :
  ∃ (a:VA VG) (n:VC),Vals xs a/\s.heap.get? p=some {cls:=.type "list",data:=.seq a.toArray n}/\xs.length<=Od:=by
 obtain⟨z,a,n,r,e⟩:=I.hok p _ h;exact⟨a,n,r,e,z⟩
def Inv.lstUpd {σ:St} {g c:VA VG} (I:Inv X pins σ H s) (h:H p=some (.lst xs))
  (m:s.heap.get? p=some {cls:=.type "list",data:=.seq g.toArray n}) (l:f {cls:=.type "list",data:=.seq g.toArray n}={cls:=.type "list",data:=.seq c.toArray j}) (r:Vals ys c) (hz:ys.length<=Od) (t) :
  Inv X pins σ (upd H p (.lst ys)) {s with heap:=s.heap.update p f,toks:=t}:=by
 have e:(s.heap.update p f).get? p=some {cls:=.type "list",data:=.seq c.toArray j}:=by
  rw[QQ f m (by rw[l] <;> rfl),l]
 exact I.write (by rw[h];trivial) (.inl rfl) (fun b u v q=>(QG _ _ (VS v)).trans q) ⟨_,e⟩ ⟨hz,_,j,r,e⟩
def Zoo:V->V->V->Hp->(Hp->Prop)->Prop:=fun o i v H Q=>∃ p xs k j,o= .ref p/\i= .int k/\H p=some (.lst xs)/\ixN xs.length k=some j/\Q (upd H p (.lst (xs.set j v)))
def YD:ZoW X Zoo:=by
 intro m s σ H o i v G F u Q I B y x h;refine Ly h fun p J k j M L e A q=>?_;subst M;subst L;cases B;obtain⟨t,rfl⟩:=y;refine Lw (I.lst e) fun a n r c D=>Lx (ixN_seq A) fun g K z w=>?_;have E:=r.length;have C:=Zad;have f :=
  I.lstUpd e c (Zfd a n j u) (r.set x j) (by rw[RE];exact D) s.toks
 by_cases l:0<=k
 have d:k.toNat=j:=by
  rw[Fo l w]at g
  simp_all
 exact PySem.W.ki_setAt c l bq (by rw[Qy];omega) (by exact d▸⟨_,f,q⟩);have d:(k+a.toArray.size).toNat=j:=by
  rw[SI (Kc l) z]at g
  simp_all
 exact PySem.W.ki_setBack c (Kc l) (by exact Qy▸Nf z E) br (by exact d▸⟨_,f,q⟩)
def Zb6 (lo hi) (n):(GK lo hi none n).1=((HT.sIx n 0 lo:VC))/\(GK lo hi none n).2.1=((HT.sIx n n hi):VN)/\(GK lo hi none n).2.2=1:=by
 refine⟨?_,?_,rfl⟩;cases lo with
 | none=>rfl
 | some i =>
  simp[GK,HT.sIx,Rx,show 1>0 by decide,Dt];by_cases h:i<0
  simp[h,Dt] <;> exact M9 h;simp[h,TU] <;> exact Bb
 cases hi with
 | none=>rfl
 | some i =>
  simp[GK,HT.sIx,Rx,show 1>0 by decide,Dt];by_cases h:i<0
  simp[h,Dt] <;> exact M9 h;simp[h,TU] <;> exact Bb
def Zbh (a:VA VG) (lo hi):slicePick a.toArray lo hi none=((a.drop (HT.sIx a.length 0 lo)).take (HT.sIx a.length a.length hi-HT.sIx a.length 0 lo)).toArray:=by
 obtain⟨d,f,e⟩:=Zb6 lo hi a.toArray.size;unfold slicePick;rw[d,f,e];simp only[sliceRange_one,pick_run,Qy] <;> rfl
def Zpx (K:VB):V->VE VN->VE VN->Hp->VK->Prop:=fun x lo hi H Q=>∃ a xs,x= .ref a/\SqL K H a xs/\∀ p,H p=none->Q (.ref p) (upd H p (.lst (Zfr xs lo hi)))
def XN:SlR X (Zpx X.K):=by
 intro d s σ H x v u z lo l y Q I t m j g h;refine Lw h fun a k i n q=>?_;subst i;cases t;obtain⟨o,r,f,p⟩:=I.list n;have c:=r.length;refine ⟨_,_,slot_list_getitem.lookup,f.isList.typeIs,LD f.isList m j g .none bo ?_ (by rw[Qy] <;> exact Kd p c)⟩;rw[Zbh,←c];refine⟨.ref s.heap.objs.size,_,I.laid (fun b w q=>Qc _ q) (Qh _) ?_,rfl,q _ (I.hok.fresh (Qh _))⟩;exact⟨QR (ZdJ k lo l) p,_,0,(r.drop _).take _,Qk _ rfl⟩
noncomputable def ZbL:V->NY
 | .non=>true
 | .bl _=>true
 | .int _=>true
 | .str _=>true
 | _=>false
noncomputable def eqV:V->V->NY
 | .non,.non=>true
 | .bl a,.bl b=>a==b
 | .bl a,.int b=>(if a then 1 else 0)==b
 | .int a,.bl b=>a==(if b then 1 else 0)
 | .int a,.int b=>a==b
 | .str a,.str b=>a==b
 | _,_=>false
def Zny (j:RelV y u) (c:RelV x v) (k:ZbL y=true) (i:ZbL x=true):C5 A s u v (eqV y x):=by
 cases y with
 | non =>
  cases j;cases x with
  | non=>cases c;exact SeqAt.EqAt.same _
  | bl b=>cases c;exact SeqAt.EqAt.none_bool b
  | int b=>obtain⟨t,rfl⟩:=c;exact SeqAt.EqAt.none_int b t
  | str b=>obtain⟨t,rfl⟩:=c;exact SeqAt.EqAt.none_str b t
  | _=>exact VM (show false=true from i) QS
 | bl a =>
  cases j;cases x with
  | non=>cases c;exact SeqAt.EqAt.bool_none a
  | bl b=>cases c;exact SeqAt.EqAt.bool_bool a b
  | int b=>obtain⟨t,rfl⟩:=c;exact SeqAt.EqAt.bool_int a b t
  | str b=>obtain⟨t,rfl⟩:=c;exact SeqAt.EqAt.bool_str a b t
  | _=>exact VM (show false=true from i) QS
 | int a =>
  obtain⟨g,rfl⟩:=j;cases x with
  | non=>cases c;exact SeqAt.EqAt.int_none a g
  | bl b=>cases c;exact SeqAt.EqAt.int_bool a g b
  | int b=>obtain⟨t,rfl⟩:=c;exact SeqAt.EqAt.int_int a g b t
  | str b=>obtain⟨t,rfl⟩:=c;exact DL a g b t
  | _=>exact VM (show false=true from i) QS
 | str a =>
  obtain⟨g,rfl⟩:=j;cases x with
  | non=>cases c;exact SeqAt.EqAt.str_none a g
  | bl b=>cases c;exact SeqAt.EqAt.str_bool a g b
  | int b=>obtain⟨t,rfl⟩:=c;exact DM a g b t
  | str b=>obtain⟨t,rfl⟩:=c;exact SeqAt.EqAt.str_str a g b t
  | _=>exact VM (show false=true from i) QS
 | _=>exact VM (show false=true from k) QS
noncomputable def eqU (x:V) (u:VG):NY:=match u with
 | .none=>eqV .non x
 | .bool b=>eqV (.bl b) x
 | .int i _=>eqV (.int i) x
 | .str z _=>eqV (.str z) x
 | _=>false
def ZhQ (r:RelV y u) (f:ZbL y=true):eqU x u=eqV y x:=by
 cases y with
 | non=>cases r;rfl
 | bl b=>cases r;rfl
 | int i=>obtain⟨t,rfl⟩:=r;rfl
 | str z=>obtain⟨t,rfl⟩:=r;rfl
 | _=>exact VM f QS
def ZdQ:∀ {xs} {a},Vals xs a->xs.all ZbL=true->a.any (eqU x)=xs.any fun y=>eqV y x
 | _,_,.nil,_=>rfl
 | y::xs,u::a,.cons r t,f=>by
  rw[RJ,Q0]at f;rw[UG,UG,ZhQ r f.1,ZdQ t f.2]
def JG {x} {v} (d:RelV x v) (e:ZbL x=true):∀ {xs} {b},Vals xs b->xs.all ZbL=true->∀ u∈b,C5 A s u v (eqU x u)
 | _,_,.nil,_=>fun u a=>by grind
 | y::xs,u::b,.cons r t,f=>fun g a=>by
  rw[RJ,Q0]at f;rcases Qs.mp a with rfl | a
  exact ZhQ r f.1▸Zny r d f.1 e;exact JG d e t f.2 g a
def inV (x:V) (xs:VA V):NY:=xs.any fun y=>eqV y x
def rIn (K:VB) (neg:NY):R2:=fun x y H Q=>∃ p xs,y= .ref p/\(SqL K H p xs\/SqT K H p xs)/\ZbL x=true/\xs.all ZbL=true/\Q (.bl (if neg then !inV x xs else inV x xs)) H
def Zci:OpR X (OJ .NotIn) (rIn X.K true):=by
 intro g s σ H x y v u Q I i j h;obtain⟨p,n,rfl,b,f,c,q⟩:=h;cases j;rcases b with b | b
 obtain⟨a,r,d,m⟩:=I.list b;refine SeqAt.notIn_listAt _ d.isList (fun w k=>JG i f r c w bp) ⟨.bl _,H,I,rfl,?_⟩;rw[show a.toArray.any _=a.any (eqU x)by simp,ZdQ r c];exact q;obtain⟨a,r,d,m⟩:=I.tuple b;refine SeqAt.notIn_tupleAt _ d (fun w k=>JG i f r c w bp) ⟨.bl _,H,I,rfl,?_⟩;rw[show a.toArray.any _=a.any (eqU x)by simp,ZdQ r c];exact q
def ZcL:CallR X (.type "list") (fun xs H Q=>∃ p ys,xs=[.ref p]/\(SqL X.K H p ys\/SqT X.K H p ys)/\∀ l,H l=none->Q (.ref l) (upd H l (.lst ys))):=by
 intro v s σ H xs F Q I r h;obtain⟨p,ys,rfl,j,q⟩:=h;obtain⟨u,rfl,rfl⟩:=XL r;have k:∀ (a:VA VG),Vals ys a->ys.length<=Od->∀ (c:Nu) (f:VC),(∀ b C,s.heap.get? b=some C->c.get? b=some C) ->
   c.get? s.heap.objs.size=some _->EP X v σ Q _ _:=fun a d m c f t e =>
  ⟨.ref s.heap.objs.size,_,I.laid (t':=s.toks) t (Qh _) (show ObjOk X.prog X.w _ c _ (.lst ys)from⟨m,a,f,d,e⟩),rfl,q _ (I.hok.fresh (Qh _))⟩
 rcases j with j | j
 obtain⟨a,d,x,m⟩:=I.list j;obtain⟨o,A,w,n,z⟩:=x.isList;exact call_list_seq p (.inl rfl) A w z (fun c f t e=>k a d m c f t e) (by simp[Qy] <;> exact Kd m d.length);obtain⟨a,d,x,m⟩:=I.tuple j;obtain⟨o,A,w,n,z⟩:=x;exact call_list_seq p (.inr rfl) A w z (fun c f t e=>k a d m c f t e) (by simp[Qy] <;> exact Kd m d.length)
def Z7:CallR X (.type "tuple") (fun xs H Q=>∃ p ys,xs=[.ref p]/\((SqL X.K H p ys/\∀ l,H l=none->Q (.ref l) (upd H l (.tup ys)))\/(SqT X.K H p ys/\Q (.ref p) H))):=by
 intro k s σ H xs x Q I r h;obtain⟨p,ys,rfl,h⟩:=h;obtain⟨u,rfl,rfl⟩:=XL r;rcases h with ⟨i,q⟩ | ⟨i,q⟩
 obtain⟨c,g,d,n⟩:=I.list i;refine call_tuple_list d.isList (fun v w=>?_) (by simp[Qy] <;> exact Kd n g.length);have m:=I.kept (t':=s.toks) w;exact⟨.ref v.objs.size,_,(m.laid (t':=s.toks) (fun b o e=>Qc _ e) (Qh _) (show ObjOk X.prog X.w _ _ _ (.tup ys)from⟨n,c,g,IsTup.new _ _,Zbx rfl rfl⟩)),rfl,q _ (m.hok.fresh (Qh _))⟩;obtain⟨c,g,d,n⟩:=I.tuple i;exact call_tuple_same d ⟨.ref p,H,I,rfl,q⟩
def tyV (K:VB) (T:RY) (x:V) (H:Hp):Prop:=match x with
 | .str _=>T = "str"
 | .int _=>T = "int"
 | .ref p=>(T = "list"/\∃ xs,SqL K H p xs)\/(T = "tuple"/\∃ o,K.lookup p=some o/\o.cls= .type "tuple"/\o.dict=none) \/
   (T = "dict"/\((∃ kvs,H p=some (.dK kvs))\/∃ kvs,H p=some (.dT kvs)))\/(T = "set"/\∃ S n,H p=some (.set S n))
 | _=>False
def ZjH {σ:St} (I:Inv X pins σ H s) (r:RelV x v) (f:tyV X.K T x H) :
  s.TypeIs v T/\∀ a,v= .ref a->∃ m,s.heap.get? a=some m/\m.dict=none:=by
 cases x with
 | str z =>
  obtain⟨t,rfl⟩:=r;cases f;exact⟨O0 s z t,fun _ e=>nomatch e⟩
 | int i =>
  obtain⟨t,rfl⟩:=r;cases f;exact⟨FK s i t,fun _ e=>nomatch e⟩
 | ref p =>
  cases r;rcases f with ⟨rfl,B,w⟩ | ⟨rfl,o,b,y,l⟩ | ⟨rfl,b⟩ | ⟨rfl,S,n,b⟩
  obtain⟨q,_,k,_⟩:=I.list w;refine⟨k.isList.typeIs,fun a e=>?_⟩;cases e;obtain⟨o,n,e,c,l,_⟩:=k
  simp_all
  refine⟨⟨o,I.kIn p o b,y⟩,fun a e=>?_⟩;cases e;exact⟨o,I.kIn _ o b,l⟩;have z:∃ o,s.heap.get? p=some o/\o.ExactDict:=by
   rcases b with ⟨g,b⟩ | ⟨g,b⟩
   obtain⟨_,_,_,_,o,_,_,e,d,_⟩:=I.hok p _ b
   simp_all
   obtain⟨_,_,_,_,o,_,_,e,d,_⟩:=I.hok p _ b
   simp_all
  obtain⟨o,e,d⟩:=z;refine⟨⟨o,e,d.1⟩,fun a j=>?_⟩;cases j;exact⟨o,e,d.2.1⟩;obtain⟨o,_,_,_,e,d,_⟩:=I.hok p _ b;refine⟨⟨o,e,d.1⟩,fun a j=>?_⟩;cases j;exact⟨o,e,d.2.1⟩
 | _=>exact R9 f
def Zpr (K:VB) (T:RY) (r:V->VA V->Hp->VK->Prop) (to:TE):TE:=fun σ H Q=>to σ H fun x H1=>tyV K T x H1/\r x [] H1 Q
def tBM (K:VB) (T:RY) (r:V->VA V->Hp->VK->Prop) (to:TE) (t:TA):TE:=fun σ H Q=>to σ H fun x H1=>tyV K T x H1/\t σ H1 fun xs H2=>r x xs H2 Q
variable {o e:Expr} {es:VA Expr} {to:TE} {t:TA} {name:VI} {apos cpos:SD} {T id:RY} {r:V->VA V->Hp->VK->Prop}
def YJ (y:FL T) (g:CH T name id) (j:C6 (.builtin id)=pure (.type "method_descriptor")) (u:MtR X id r) (w:PE X o to)
  (b:OO o name X.env (NQ o X.env)=NQ o X.env:=by rfl) (d:(apos.endLine==cpos.line)=true:=by rfl):PE X (.Call (.Attribute o name apos) [] [] cpos) (Zpr X.K T r to):=by
 intro a s σ H Q I h;refine LM b d (thn (w a s σ H _ I h) fun v B ⟨x,D,l,n,t,q⟩=>?_);obtain⟨A,p⟩:=ZjH l n t;exact⟨T,id,y,g,j,A,p,MG rfl (Dx (u a B σ D x [] v [] Q l n .nil q))⟩
def XS (J:FL T) (m:CH T name id) (q:C6 (.builtin id)=pure (.type "method_descriptor")) (W:MtR X id r) (D:PE X o to) (N:PA X (e::es) t)
  (g:OO o name X.env (NQ o X.env)=NQ o X.env:=by rfl)
  (j:((OE cpos (Oi (e::es) X.env)).all (fun x=>!x.1)&&(Ga cpos (OR [] X.env)).all (fun x=>x.1.isSome)
   && decide ((e::es).length+([]:VA GE).length+(if ([]:VA GE).isEmpty then 0 else 1)<30))=true:=by rfl)
  (f:(apos.endLine==cpos.line)=true:=by rfl) (L:Oi (e::es) X.env=(false,NQ e X.env)::Oi es X.env:=by rfl) (n:(OE cpos (Oi es X.env)).any (·.1)=false:=by rfl) :
  PE X (.Call (.Attribute o name apos) (e::es) [] cpos) (tBM X.K T r to t):=by
 intro b s σ H Q I h;refine wpAny_Call_method_late g j f rfl (thn (D b s σ H _ I h) fun v C ⟨x,E,z,y,K,F⟩=>?_);obtain⟨P,w⟩:=ZjH z y K;refine⟨T,id,J,m,q,P,w,?_⟩;have A:=N cpos b C σ E _ z F;rw[L]at A ⊢;exact MG (by simp_all) (MT (thn A fun M S ⟨U,Z,R,O,V⟩=>W b S σ Z x U v M Q R y O V))
end
def MtM (X:Cx) (id:RY) (r:V->VA V->Hp->VK->Prop):Prop :=
 ∀ (pins:VA (VH×MQ)) (s:VF) (σ:St) (H:Hp) (x:V) (xs:VA V) (v:VG) (us:VA VG) (Q:VK),Inv X pins σ H s->RelV x v->Vals xs us->r x xs H Q ->
  Oe (Oc X.prog X.w) X.A (call (.builtin id) (v::us)) (EP X pins σ Q) X.xe s
def Vals.one:∀ {x} {a},Vals [x] a->∃ u,a=[u]/\RelV x u
 | _,_,.cons r .nil=>⟨_,rfl,r⟩
def Vals.zero:∀ {a},Vals [] a->a=[]
 | _,.nil=>rfl
def Vals.dropLast (h:Vals xs c):Vals xs.dropLast c.dropLast:=by
 induction h with
 | nil=>exact .nil
 | cons r t d =>
  cases t with
  | nil=>simp_all
  | cons q e=>exact .cons r d
def Vals.rep (h:Vals xs b):∀ k,Vals (Qw k xs).flatten (Qw k b).flatten
 | 0=>.nil
 | k+1=>Vals.append h (Vals.rep h k)
def ZcD (b):∀ (k) (c:VA VG),
  RF (fun h f=>h++f) c.toArray (Qw k b.toArray)=(c++(Qw k b).flatten).toArray
 | 0,c=>by simp
 | k+1,c=>by
  have e:c.toArray++b.toArray=(c++b).toArray:=bo
  have g:c++b++(Qw k b).flatten=c++(Qw (k+1) b).flatten:=by
   rw[WV,UB,QL]
  rw[←g,←ZcD b k _,←e,WV,U7]
section
variable {X:Cx} {pins:VA (VH×MQ)} {σ:St} {H:Hp} {s:VF} {l b:VH} {xs ys:VA V}
def Inv.lset {b a:VA VG} (I:Inv X pins σ H s) (g:H l=some (.lst xs))
  (e:s.heap.get? l=some {cls:=.type "list",data:=.seq b.toArray n}) (j:f b.toArray=a.toArray) (h:Vals ys a) (hz:ys.length<=Od) :
  Inv X pins σ (upd H l (.lst ys)) {s with heap:=s.heap.update l (NF f),toks:=t'}:=by
 have q:=PySem.IsL.update e f;rw[j]at q;exact I.write (by exact g▸trivial) (.inl rfl) (fun p u o k=>(QG s.heap _ (VS o)).trans k) ⟨_,q⟩ ⟨hz,_,_,h,q⟩
def Inv.lnew (I:Inv X pins σ H s) (d:Vals ys a) (hz:ys.length<=Od) :
  Inv X pins σ (upd H s.heap.objs.size (.lst ys)) {s with heap:=s.heap.push {cls:=.type "list",data:=.seq a.toArray},toks:=t'} :=
 I.laid (fun _ _ q=>Qc _ q) (Qh _) ⟨hz,a,0,d,Qk _ rfl⟩
def Inv.fresh (I:Inv X pins σ H s):H s.heap.objs.size=none:=I.hok.fresh (Qh _)
def Inv.lstM (I:Inv X pins σ H s) (c:H l=some (.lst xs)):xs.length<=Od/\∃ (a:VA VG) (n:VC),Vals xs a/\xs.length=a.length/\s.heap.get? l=some {cls:=.type "list",data:=.seq a.toArray n}:=by
 obtain⟨z,a,n,r,e⟩:=I.hok l _ c;exact⟨z,a,n,r,r.length,e⟩
def Zer (h:n<=Od):MO n=false:=VO br
end
section
variable {X:Cx}
def Zdd:V->VA V->Hp->VK->Prop:=fun x vs H Q=>∃ l xs y,x= .ref l/\vs=[y]/\H l=some (.lst xs)/\xs.length<Od/\Q .non (upd H l (.lst (xs++[y])))
def X1:MtM X "list.append" Zdd:=by
 intro d s σ H x w v p Q I k f h;refine L0 h fun l t y b g c o q=>?_;subst b;subst g;cases k;obtain⟨u,rfl,i⟩:=f.one;refine L4 (I.lstM c) fun z a n r m e=>Gz F.slot_list_append ⟨_,e,rfl⟩ F.entry_list_append (F.args_list_append_2 _ _) (PySem.list_append l a.toArray n u (by exact Qy▸Bo o m)) ⟨e,⟨.non,_,I.lset c e bo (r.append (.cons i .nil)) ?_,rfl,q⟩⟩;rw[Qg,Qp];exact o
def Zgs:V->VA V->Hp->VK->Prop:=fun x vs H Q=>∃ l b xs zs,x= .ref l/\vs=[.ref b]/\H l=some (.lst xs)/\H b=some (.lst zs)/\xs.length+zs.length<=Od/\Q .non (upd H l (.lst (xs++zs)))
def Zg9:MtM X "list.extend" Zgs:=by
 intro i s σ H x E v G Q I o j h;refine L5 h fun l b D A K w g k B q=>?_;subst K;subst w;cases o;obtain⟨u,rfl,rfl⟩:=j.one;have⟨z,c,n,r,C,e⟩:=I.lstM g;have⟨J,a,t,y,p,m⟩:=I.lstM k;have f:c.toArray.size+a.toArray.size<=Od:=by rw[Qy,Qy];exact Vo B C p
 have d:¬ (!c.toArray.isEmpty&&MO (c.toArray.size+a.toArray.size))=true:=by
  rw[Zer f];simp
 exact Gz F.slot_list_extend ⟨_,e,rfl⟩ F.entry_list_extend (F.args_list_extend_2 _ _)
  (AutoSeq1.list_extend_list_list_0 l c.toArray n b a.toArray t d (K4 f) (Vp f)) ⟨e,m,⟨.non,_,I.lset g e bo (r.append y) (Qg▸B),rfl,q⟩⟩
def Zo6:V->VA V->Hp->VK->Prop:=fun x vs H Q=>∃ l xs y,x= .ref l/\vs=[]/\H l=some (.lst xs)/\xs[xs.length-1]?=some y/\Q y (upd H l (.lst xs.dropLast))
def Zna:MtM X "list.pop" Zo6:=by
 intro f s σ H x o v t Q I g i h;refine L0 h fun l p y B A d j q=>?_;subst B;subst A;cases g;have b:=i.zero;subst b;refine L4 (I.lstM d) fun z a n r m e=>?_;obtain⟨u,w,k⟩:=r.get j;have c:=by
  show a.toArray[a.length-1]?=some u;rw[←QW,←m];omega
 exact Gz F.slot_list_pop ⟨_,e,rfl⟩ F.entry_list_pop (F.args_list_pop_1 _) (MeetsSeq.list_pop_last l a.toArray n u c (by exact Qy▸Kd z m)) ⟨e,⟨y,_,I.lset d e (by simp) r.dropLast (UN▸Ng z),k,q⟩⟩
def Zpz:R2:=fun x y H Q=>∃ l b xs zs,x= .ref l/\y= .ref b/\H l=some (.lst xs)/\H b=some (.lst zs)/\xs.length+zs.length<=Od/\∀ p,H p=none->Q (.ref p) (upd H p (.lst (xs++zs)))
def XH:OpR X (OV .Add) Zpz:=by
 intro f s σ H x y v u Q I w g h;obtain⟨l,b,C,F,rfl,rfl,i,t,B,q⟩:=h;cases w;cases g;have⟨z,c,n,r,A,e⟩:=I.lstM i;have⟨D,a,E,m,o,p⟩:=I.lstM t;refine PySem.P.add_list e p ?_ (by rw[Qy,Qy];exact Vo B A o);have j:c.toArray++a.toArray=(c++a).toArray:=bo
 exact j▸⟨.ref _,_,I.lnew (r.append m) (by exact Qg▸B),rfl,q _ I.fresh⟩
def Zpy:R2:=fun x y H Q=>∃ l k xs,x= .ref l/\y= .int k/\H l=some (.lst xs)/\-(2 ^ 63)<=k/\k<2 ^ 63/\xs.length*k.toNat<=Od /\
 ∀ p,H p=none->Q (.ref p) (upd H p (.lst (Qw k.toNat xs).flatten))
def Zae {α:Type} (xs:VA α) (k):(Qw k xs).flatten.length=k*xs.length:=by
 simp
def Xi:OpR X (OV .Mult) Zpy:=by
 intro A s σ H x y v u Q I J M h;obtain⟨l,k,P,rfl,rfl,C,L,O,S,q⟩:=h;cases J;obtain⟨t,rfl⟩:=M;refine L4 (I.lstM C) fun z b n r E e=>?_;have f:b.toArray.size*k.toNat<=Od:=by rw[Qy,←E];exact S
 have g:¬ b.toArray.size*k.toNat>(2 ^ 63-1) / 8:=by
  have:Od<=(2 ^ 63-1) / 8:=be
  lia
 have i:¬ (!MU k)=true:=by
  rw[fitsIndex_both L O];simp
 have d:¬ MO (b.toArray.size*k.toNat)=true:=by
  rw[Zer f];simp
 have j:RF (fun p o=>p++o) #[] (Qw (if b.toArray.isEmpty=true then 0 else k.toNat) b.toArray)=(Qw k.toNat b).flatten.toArray:=by
  have G:∀ m,RF (fun p o=>p++o) #[] (Qw m b.toArray)=(Qw m b).flatten.toArray:=fun m=>by
   have:=ZcD b m []
   simp_all
  rw[G];cases b with
  | nil=>simp
  | cons a R=>simp
 exact wpAny_binaryOp_repeat_ref be ⟨_,e,rfl⟩ (fun N=>FK N k t) noFill_list_mul F.fills_int_mul F.slot_int_rmul repeat_list F.slot_int_index.lookup
  (Gz F.slot_int_rmul (FK s k t) F.entry_int_rmul (F.args_int_rmul_2 _ _) (int___rmul___int_list k t l b.toArray n)
   ⟨e,rfl,⟨_,e,rfl⟩,Gz F.slot_list_mul ⟨_,e,rfl⟩ F.entry_list_mul (F.args_list_mul_2 _ _) (AutoListH.list___mul___list_int_3 l b.toArray n k t i g d) ⟨e,j▸⟨.ref _,_,I.lnew (r.rep k.toNat) (by rw[Zae,CI];exact S),rfl,q _ I.fresh⟩⟩⟩)
end
end L2
namespace Att
open PySem PySem.W PySem.Calls PyProof.Rows
def Zai:∀ (ns) (vs),WellAll P h vs (ns.map WData.int)->Vd vs ns:=by
 intro ns;induction ns with
 | nil =>
  intro vs w;cases w;exact .nil
 | cons n ns e =>
  intro vs w;cases w with
  | cons a b =>
   cases a;exact .cons _ _ (e _ b)
def Zf9 {l:OpenLaw} (G:l.most=some n)
  (c:l.row.toRowW.claim.pre b=true) (m:WellAll P h f b) :
  ∃ a vs ns,f=[Value.ref a]/\b=[WData.list (ns.map WData.int)]/\h.get? a=some {cls:=.type "list",data:=.seq vs.toArray}/\Vd vs ns/\ns.length<=n:=by
 have t:l.pre.holds [] _=true:=(pre_splitW c).2;refine Lw (hasAllW_cons ((pre_splitW c).1)) fun d r r0 u y=>?_;subst r0;obtain rfl:=hasAllW_nil y;obtain⟨H,rfl,z⟩:=hasW_list u;obtain⟨ns,rfl⟩:=items_int z;have e:ns.length<=n:=by
  have p:(WTm.not (.lt (.lit (.int n)) (.len (.arg 0)))).holds [] {args:=[.list (ns.map .int)]}=true:=by
   have p:=(holds_andW t).1
   simp_all
  have E:=condW_of p (w_not (w_lt w_lit (w_len_list (w_arg rfl))));exact Ry fun q=>bp
 cases m with
 | cons x D =>
  cases D;cases x with
  | list w i=>exact⟨_,_,ns,rfl,rfl,w,Zai ns _ i,e⟩
def Zgz (l:OpenLaw) (a):l.row.toRowW.claim.post a (.bool true) a=true :=
 postW_of
  (by rfl)
  (w_eq_bool (w_res rfl) w_lit) rfl
def attach_call {l:OpenLaw}
  (K:l.most=some n) (A:d.params.defaults=[])
  (call:∀ (w) (c b) (u y) (i) (o) (B s h) (a) (vs) (ns),
   Ground q e [] C w c u y b.heap->N w b.heap ->
   b.heap.get? i=some o->o.data= .func (docDef d.name d.params d.body d.scope B s h)->b.heap.CodeRec s d.name->u d.name=some (.ref i) ->
   b.heap.get? a=some {cls:=.type "list",data:=.seq vs.toArray}->Vd vs ns->ns.length<=n->b.gens= #[] ->
   OF (Oc l.prog w) GS (.call (.ref i) ⟨[.ref a],[]⟩) (fun r t=>r= .ok (.ret (.bool true))/\OldK b.heap t.heap/\t.os=b.os/\Gh t.gens) b) :
  WalkO q e C N l.row.toRowW d [] (fun f vs=>FN f vs):=by
 intro w c b u y G Y i o B s h X O V W v I z S F D J m E Z x L;obtain rfl:X= .none:=Dflts.none I A;obtain rfl:O= .none:=Dflts.noKw I;refine L0 (Zf9 K m x) fun a vs ns H p k g j=>?_;subst H;subst p;refine enter_call (OM (call w c b u y i o B s h a vs ns G Y V (fd_plain W) v z k g j S) fun r t T=>?_);obtain⟨rfl,U,P,M⟩:=T;exact⟨.inl ⟨_,_,[],rfl,fun _=>rfl,.bool true,Zgz l _,fun _=>⟨BC,fun _ R=>nomatch R⟩⟩,U,P,M⟩
end Att
namespace L2
open PySem PySem.Spec PyProof.Rows
def Zb0:∀ {vs} {ns},Vd vs ns->Vals (ns.map V.int) vs
 | _,_,.nil=>.nil
 | _,_,.cons n t h=>.cons ⟨t,rfl⟩ (Zb0 h)
noncomputable def ZlX (s:Mv) (j:VC):Mv:=match s with
 | .ClassDef _ _ _ body _ _ _ _ _ _ _=>body.getD j (.Pass ⟨0,0,0,0⟩)
 | _=>.Pass ⟨0,0,0,0⟩
noncomputable def Z9 (s:Mv):G0:=match s with
 | .FunctionDef _ a _ _ _ _ _ _ _ _=>a
 | _=>{posonlyargs:=[],args:=[],vararg:=none,kwonlyargs:=[],kw_defaults:=[],kwarg:=none,defaults:=[]}
noncomputable def ZO (s:Mv):VA Mv:=match s with
 | .FunctionDef _ _ b _ _ _ _ _ _ _=>b
 | _=>[]
noncomputable def Zf (s:Mv):Scope:=match s with
 | .FunctionDef _ _ _ _ _ _ sc _ _ _=>sc
 | _=>{kind:=.function,names:=[],isGenerator:=false,isCoroutine:=false}
abbrev CX0:CXT:=fun _ _ _ _ _ _=>False
abbrev E0:XK:=fun _ _ _=>False
def ZiL:JA CX0 X E0:=fun _ _ _ _ _ _ _ h=>h.elim
structure Fun (K:VB) (x qual:VI) (st:Mv) (f:VH) (fd:Ge):Prop where
 ex:∃ (oc:VG) (od:VE VH) (kV doc pm:VG) (an:VE VH) (cdv ct:VG) (osl:VL (VE VG)),
  fd=ND x qual (Z9 st) (ZO st) (Zf st) .none kV doc pm an cdv ct/\K.lookup f=some ⟨oc,od,.func fd,osl⟩/\MB K cdv qual=true
 kp:NU K (.ref f)=true
section
variable {P:Oh} {w:Ol} {K:VB} {mg:VI->VE VG} {base:Nu}
def Fun.ok {st} (F:Fun K x c st f y) (S:Zp N j (Zf st)) (i:∀ vs H Q E,l vs H Q E->vs.length=j.length)
  (d:∀ (b) (A) (a) (s) (H) (vs) (Q) (E),Room k (A.deeper (Gc c (Zf st) s.heap.objs.size f b))->l vs H Q E ->
   ∃ t,PSs (Zfq CX0 P w K mg base N c (Zf st) f b A a s H E).nox (ZO st) t/\t {nx:=fun _ o=>Q .non o,rt:=Q} (start N vs) H):FnOk P w K mg base CX0 (k+1) f y j l:=by
 obtain⟨G,I,kV,v,B,D,b,C,n,rfl,z,g⟩:=F.ex;refine Zjr z g S i fun A a s H vs Q E r e=>?_;obtain⟨t,h,q⟩:=d b A a s H vs Q E r e;exact⟨t,h.nox,q⟩
def Fun.binds {st} (F:Fun K x c st f l)
  (h:∀ (kV b e) (i) (a g) (d),d.length=j.length->GV (ND x c (Z9 st) (ZO st) (Zf st) .none kV b e i a g) ⟨d,[]⟩=pure (j.zip d)):Binds K l j []:=by
 obtain⟨n,o,kV,b,e,i,a,g,k,rfl,_⟩:=F.ex;exact .all (h kV b e i a g)
def ZhJ {st} {kV d h b g} (l:K.lookup f=some ⟨n,o,.func (ND x a (Z9 st) (ZO st) (Zf st) .none kV d h j b g),e⟩)
  (c:MB K b a=true) (k:NU K (.ref f)=true):Fun K x a st f (ND x a (Z9 st) (ZO st) (Zf st) .none kV d h j b g):=⟨⟨n,o,kV,d,h,j,b,g,e,rfl,l,c⟩,k⟩
end
def ZdE (a:Room k A):A.units+1<O6:=Wq (Tx be _) a.units
def ZB (h:n<=1000):n<Od:=Wq h be
section
variable {X:Cx}
def pv (i) {pos} (g:X.N[i]?=some x:=by rfl) (e:Vis X.env.scope x:=by first | exact Or.inl rfl | exact Or.inr (.inl rfl) | exact Or.inr (.inr rfl)) (d:(x==("__debug__"))=false:=by decide)
  (a:(x==("__classdict__"))=false:=by decide):PE X (.Name x pos) (ZnT i):=ZmK g e d a
def ZcM:CallR X (.builtin "len") (fun xs H Q=>∃ a kvs,xs=[V.ref a]/\H a=some (.dK kvs)/\Q (.int kvs.length) H):=by
 intro d s σ H xs j Q I r h;obtain⟨a,kvs,rfl,g,q⟩:=h;obtain⟨u,rfl,rfl⟩:=XL r;exact ZoN I (.inl g) fun t i f=>⟨.int kvs.length,H,f,⟨t,rfl⟩,q⟩
end
def ZoE {A B:Prop} (h:B):if false=true then A else B:=by
 simp_all
def ZnW {A B:Prop} (h:A):if true=true then A else B:=by
 simp_all
def Zkq {c A B:Prop} [Fh c] (a:c->A) (b:¬ c->B):if c then A else B:=by
 simp_all
def Same (H H':Hp):Prop:=∀ b o,H b=some o->H' b=some o
def Same.refl (H):Same H H:=fun _ _ h=>h
def Same.trans (a:Same H d) (b:Same d e):Same H e:=fun c o h=>b c o (a c o h)
def Same.free (e:Same H a) (h:a l=CW):H l=CW:=by
 cases q:H l with
 | none=>rfl
 | some o =>
  rw[e l o q]at h;omega
def Same.seq {K} (e:Same H d) (h:SqL K H a xs):SqL K d a xs:=by
 rcases h with (h | ⟨o,h⟩) | h
 exact .inl (.inl (e _ _ h));exact .inl (.inr ⟨o,e _ _ h⟩);exact .inr h
noncomputable def Yb (env:BH):VA (VI×FO)->VA (VI×VH)->VA (VI×VH)
 | [],cs=>cs
 | y::r,cs=>Yb env r (if y.2==MA then (y.1,(env.cells.lookup y.1).getD 0)::cs else cs)
def Zam (f:VI×FO->VA _->DE _) :
  ∀ (ns) (cs),(∀ y∈ns,∀ c,f y c=pure (.yield (if y.2==MA then (y.1,(env.cells.lookup y.1).getD 0)::c else c))) ->
   forIn ns cs f=pure (Yb env ns cs)
 | [],cs,_=>rfl
 | y::r,cs,h=>by
  rw[List.forIn_cons,h y Qo];exact Zam f r _ fun z d=>h z (Qm _ d)
def Xe (h:∀ y∈b.names,y.2= .free->∃ c,env.cells.lookup y.1=some c) :
  G9 b env=pure (Yb env b.names []):=by
 simp only[G9];rw[Zam _ _ _ fun y f c=>?_];rfl;obtain⟨n,k⟩:=y;cases g:k==MA with
 | true =>
  obtain⟨a,e⟩:=h _ f (by simpa using g);simp[Dt,cellOf,e,WW,pure_bind]
 | false=>simp
def Zas:∀ (ns) (cs),(∀ y∈ns,y.2= .free->∃ c,env.cells.lookup y.1=some c) ->
  (∀ n c,cs.lookup n=some c->env.cells.lookup n=some c)->∀ n c,(Yb env ns cs).lookup n=some c->env.cells.lookup n=some c
 | [],cs,_,h,n,c,e=>h n c e
 | y::r,cs,b,h,n,c,e=>by
  refine Zas r _ (fun z f=>b z (Qm _ f)) (fun n c e=>?_) n c e;split at e
  obtain⟨a,i⟩:=b y Qo bp;cases g:n==y.1 with
  | true =>
   simp_all
  | false =>
   simp[WG,g]at e
   simp_all
  simp_all
def Xv:∀ (ns) (cs) (n),((n,MA)∈ns\/(cs.lookup n).isSome=true) ->
  ((Yb env ns cs).lookup n).isSome=true
 | [],cs,n,h=>by
  rcases h with h | h
  cases h
  trivial
 | y::r,cs,n,h=>by
  refine Xv r _ n ?_;rcases h with h | h
  rcases Qs.mp h with h | h
  subst h;simp;exact .inl h
  right
  split
  cases b:n==y.1 with
  | true=>simp only[WG,b];rfl
  | false=>simp only[WG,b];omega
  omega
noncomputable def ZjZ (env:BH) (n:VI) (k:FO):FO:=if (k==MA&&env.scope.kind==.function&&env.kindOf n==some .cell)=true then .cell else k
def ZaK (env) (x):∀ b:VA _,
  (b.map fun(n,k)=>if (k==MA&&env.scope.kind==.function&&env.kindOf n==some .cell)then (n,NX)else (n,k)).lookup x=(b.lookup x).map (ZjZ env x)
 | []=>rfl
 | (n,k)::r=>by
  have g:=ZaK env x r;have e:(if (k==MA&&env.scope.kind==.function&&env.kindOf n==some .cell)=true then (n,NX)else (n,k))=(n,ZjZ env n k):=by
   unfold ZjZ;split <;> rfl
  show UE x ((if (k==MA&&env.scope.kind==.function&&env.kindOf n==some _)=true then (n,NX)else (n,k))::_)=_;rw[e];cases d:x==n with
  | true =>
   simp only[WG,d];rw[MY d];rfl
  | false =>
   simp only[WG,d];omega
def YO (a) (env) (x):(Gd a env).names.lookup x=(a.names.lookup x).map (ZjZ env x):=ZaK env x a.names
noncomputable def lcN (N xs:VA VI) (mp:VA VC):VA VI:=xs++mp.map fun j=>N.getD j ""
noncomputable def lcS (k:VC) (mp:VA VC) (σ:St):St:=Qw k none++mp.map fun j=>(σ[j]?).getD none
structure Zmh (sc scope:Scope) (N xs:VA VI) (mp:VA VC):Prop where
 kind:scope.kind= .function
 nocell:∀ y∈scope.names,y.2≠.cell
 names:∀ y∈scope.names,y.2= .local->scope.names.lookup y.1=some .local
 tg:∀ x∈xs,scope.names.lookup x=some .local
 fr:∀ y∈scope.names,y.2= .free->sc.names.lookup y.1=some .cell\/sc.names.lookup y.1=some .free
 out:∀ j∈mp,scope.names.lookup (N.getD j "")=some .free
 nd:(lcN N xs mp).Nodup
noncomputable def Zjb (sc scope:Scope) (N xs:VA VI) (mp:VA VC):NY :=
 decide (scope.kind= .function)&&scope.names.all (fun y=>decide (y.2≠.cell))&&scope.names.all (fun y=>decide (y.2= .local->scope.names.lookup y.1=some .local)) &&
  xs.all (fun x=>decide (scope.names.lookup x=some .local))&&scope.names.all (fun y=>decide (y.2= .free->sc.names.lookup y.1=some .cell\/sc.names.lookup y.1=some .free)) &&
  mp.all (fun j=>decide (scope.names.lookup (N.getD j "")=some .free))&&decide (lcN N xs mp).Nodup
def Zez (h:Zjb d a N xs k=true):Zmh d a N xs k:=by
 simp only[Zjb,Q0,UJ,NO]at h;obtain⟨⟨⟨⟨⟨⟨j,g⟩,c⟩,f⟩,b⟩,e⟩,i⟩:=h;exact⟨j,g,c,f,b,e,i⟩
noncomputable abbrev lcx (X:Cx) (M:VA VI) (scope:Scope) (cl:VA (VI×VH)) (C:VH) (s₀:VF) (H₀:Hp) (fp:VA VH):Cx where
 prog:=X.prog
 w:=X.w
 K:=X.K
 mg:=X.mg
 base:=X.base
 A:=X.A
 N:=M
 s₀:=s₀
 H₀:=H₀
 env:=Ve scope cl C X.env
 outer:=X.stack
 stack:=X.stack
 ex:=fp
 fn:=fun _=>false
 calm:=X.calm
 pn:=[]
 xe:=fun _ _=>False
section
variable {X:Cx} {pins:VA (VH×MQ)} {σ:St} {H₀:Hp} {s₀:VF} {scope sc:Scope} {N xs:VA VI} {mp:VA VC} 
def ZbE (I:Inv X pins σ H₀ s₀) (b:X.env.scope=sc) (S:Zmh sc scope N xs j):∀ y∈scope.names,y.2= .free->∃ c,X.env.cells.lookup y.1=some c:=fun y i e=>by
 refine I.ok.has y.1 ?_;have q:=S.fr y i e;rw[←b]at q;exact q
def Zki (I:Inv X pins σ H₀ s₀) (b:X.env.scope=sc) (S:Zmh sc scope N xs h) {n} {c} (e:(Yb X.env scope.names []).lookup n=some c):X.env.cells.lookup n=some c :=
 Zas scope.names [] (ZbE I b S) (fun _ _ z=>nomatch z) n c e
def Znf (I:Inv X pins σ H₀ s₀) (A:X.env.scope=sc) (S:Zmh sc scope N xs mp) (t:∀ b∈H,XB X pins H₀ b)
  (O:∀ b∈H,∃ r,s₀.heap.get? b=some r) (C:h₁.Ns s₀.heap.objs.size m) (F:NV s₀.heap.objs.size (s₀.heap.push o) h₁) :
  Inv (lcx X (lcN N xs mp) scope (Yb X.env scope.names []) s₀.heap.objs.size s₀ H₀ H) [] (Qw (xs.length+mp.length) none) H₀ {s₀ with heap:=h₁,toks:=tk}:=by
 have D:=fun b u e=>F.extBut b u (QB (Ql e)) (Qc _ e);have j:=@Zki X pins σ H₀ s₀ scope sc N xs mp I A S;refine⟨⟨I.ok.mod,S.kind,I.ok.glob,I.ok.blt,Qh _,fun x y c M q=>I.ok.inj x y c (j M) (j q),fun x L=>?_,fun x c h _=>(QS h).elim,I.ok.hd,I.ok.frames,.inl rfl,
  fun b l=>⟨?_,fun x c e=>(t b l).2.2.2.2.1 x c (j e)⟩,fun b o e=>I.bs b o e,QR I.ok.bsz I.sz,fun b o e l=>?_,fun b l z=>?_,I.stack,I.stkFree⟩,
  rfl,I.bare,Un.kept D,⟨m,C,fun i x v _ q _=>?_⟩,fun x c e=>?_,I.hok.fresh (Qh _),fun x c e=>I.freeC x c (j e),fun p P=>VM P bo,I.hok.kept D,?_⟩
 have f:(Gd scope X.env).names.lookup x=some _\/(Gd scope X.env).names.lookup x=some _:=L;rw[YO]at f;cases e:scope.names.lookup x with
 | none=>rw[e]at f;rcases f with z | z <;> cases z
 | some k =>
  have s:=NM e;have E:k= .free:=by
   rw[e]at f;have T:=S.nocell _ s;simp[Wg,SJ]at f;unfold ZjZ at f;split at f
   simp_all
   simp_all
  subst E;exact WQ.mp (Xv scope.names [] x (.inl s))
 obtain⟨r,e⟩:=O b l;exact QB (Ql e)
 rcases(t b l).2.2.2.1 with z | z
 exact I.ok.noex b o e z
 exact VM (QP (Ql (I.ok.bs b o e).1) z) (Q2 _)
 rcases Qs.mp (I.stkSub b z)with e | e
 exact(t b l).2.1 e
 exact(t b l).2.2.1 e
 rw[Wz]at q;split at q <;> cases q
 obtain⟨v,r,R,Q⟩:=I.cell x c (j e);exact⟨v,r,D c r R,Q⟩
 simp[lcN]
def Zex {E:St} (I:Inv X pins σ H₀ s₀) (B:X.env.scope=sc) (hN:X.N=N) (S:Zmh sc scope N xs mp) (hf:∀ b∈O,XB X pins H₀ b)
  (J:Inv (lcx X (lcN N xs mp) scope (Yb X.env scope.names []) C s₀ H₀ O) pY E H s'):Inv (lcx X (lcN N xs mp) scope (Yb X.env scope.names []) C s₀ H₀ O) pY (lcS xs.length mp σ) H s':=by
 obtain⟨m,hn,_⟩:=J.loc;refine⟨J.ok,J.os,J.bare,J.base,⟨m,hn,fun i x v e1 n e3=>?_⟩,J.cell,J.free,J.freeC,J.pin,J.hok,?_⟩
 have f:(lcN N xs mp)[i]?=some x:=e1;unfold lcN at f;unfold lcS at n;by_cases K:i<xs.length
 rw[QF (by simpa using K),Wz,VD K]at n;cases n
 rw[QC (by simpa using K),Wb,Qi]at n;rw[QC (Kr K),Qi]at f;cases F:mp[i-xs.length]? with
 | none=>rw[F]at n;cases n
 | some j =>
  rw[F]at f n;have A:N.getD j "" = x:=VQ f;have e:(σ[j]?).getD none=some v:=VQ n;have l:σ[j]?=some (some v):=by
   cases q:σ[j]? with
   | none=>rw[q]at e;cases e
   | some z=>rw[q]at e;exact NA some e
  have hj:j<N.length:=by
   have V:=(Qj.mp l).1;rw[I.len,hN]at V;exact V
  have Q:scope.names.lookup x=some .free:=by exact A▸S.out j (We F)
  have s:(x,MA)∈scope.names:=NM Q;have M:X.env.scope.names.lookup x=some .cell\/X.env.scope.names.lookup x=some .free:=by
   exact B▸S.fr _ s rfl
  obtain⟨mX,R,hl⟩:=I.loc;obtain⟨u,r,lk⟩:=hl j x v bp l (.inr M);rcases lk with ⟨k,_⟩ | ⟨k,c,G,p⟩
  have Z:X.env.scope.names.lookup x=some .local:=k;rw[Z]at M;rcases M with z | z <;> cases z
  refine⟨u,r,.inr ⟨?_,c,?_,?_⟩⟩
  show(Gd scope X.env).names.lookup x=some .cell\/(Gd scope X.env).names.lookup x=some .free;rw[YO,Q];simp only[Wg];unfold ZjZ;split
  ·simp
  simp
  obtain⟨c',e'⟩:=WQ.mp (Xv (env:=X.env) scope.names [] x (.inl s));have y:=Zki I B S e';rw[G]at y;cases y
  trivial
  obtain⟨ob,T,U⟩:=p;obtain⟨sl,q⟩:=J.base.any T (I.freeC x c G) fun z=>(hf c z).2.2.2.2.1 x c G rfl;exact⟨_,q,U⟩
 simp[lcS,lcN]
def ZlO {g:St} (I:Inv X pins σ H₀ s₀) (e:∀ b∈h,XB X pins H₀ b)
  (J:Inv (lcx X M scope j C s₀ H₀ h) k g H i):Inv X pins σ H i :=
 I.call' J.os J.base J.hok J.bare fun b d=>⟨(e b d).2.2.2.1,(e b d).2.1,(e b d).2.2.2.2.1,(e b d).2.2.2.2.2⟩
end
def Zar (I:VC->VF->Prop)
  (i:∀ n s,I n s->Oe (Oc prog w) A (Gb E) (fun r t=>match r with
   | none=>R (.ok .next) t
   | some v=>Oe (Oc prog w) A (Gy a E v) (fun _ g=>Oe (Oc prog w) A (Vf a env v) (fun _ B =>
     Oe (Oc prog w) A (forIn q true fun c r=>if r=true then do let ok ←isTrue c env (NQ c env);pure (W5 ok)else pure (W5 r)) (fun ok l =>
      if ok=true then Oe (Oc prog w) A (NQ k env) (fun x u=>Oe (Oc prog w) A (call (.builtin "list.append") [o,x]) (fun _ C=>∃ m,m<n/\I m C) (fun _ _=>False) u) (fun _ _=>False) l
      else ∃ m,m<n/\I m l) (fun _ _=>False) B) (fun _ _=>False) g) (fun _ _=>False) t) (fun _ _=>False) s)
  (n) (h:I n s):OF (Oc prog w) A (.compLoop (.ListComp k [⟨a,y,q,0⟩] j pos) 0 E o env) R s:=by
 refine codeAny_loop rfl I (fun n s H=>wpAny_noted (Oa (Gp (Oa (Os (i n s H) (fun r t F=>?_) fun _ _ z=>z.elim))))) n h;cases r with
 | none=>exact Ob F
 | some v =>
  refine Oa (Os F (fun _ g p=>Oa (Os p (fun _ B J=>Oa (Os J (fun ok l G=>?_) fun _ _ z=>z.elim)) fun _ _ z=>z.elim)) fun _ _ z=>z.elim);cases ok with
  | false=>exact Ob ⟨rfl,G⟩
  | true=>exact Oa (Oa (Os G (fun x u K=>Oa (Os K (fun _ C L=>Ob (Ob ⟨rfl,L⟩)) fun _ _ z=>z.elim)) fun _ _ z=>z.elim))
def PCs (X:Cx) (ifs:VA Expr) (t:TT):Prop :=
 ∀ (pins:VA (VH×MQ)) (s:VF) (σ:St) (H:Hp) (Q:NY->Hp->Prop),Inv X pins σ H s->t σ H Q ->
  Oe (Oc X.prog X.w) X.A (forIn ifs true fun c r=>if r=true then do let ok ←isTrue c X.env (NQ c X.env);pure (W5 ok)else pure (W5 r)) (TP X pins σ Q) X.xe s
def ZnS:TT:=fun _ H Q=>Q true H
def YK:PCs X [] ZnS:=fun _ _ _ H _ I h=>wpAny_tests_nil ⟨H,I,h⟩
def Jm (h:PT X c t):PCs X [c] t:=fun a s σ H Q I b=>wpAny_tests_one (h a s σ H Q I b)
def Jy (k:VC) (mp:VA VC) (σ:St) (g:TG) (tc:TT) (te:TE) (J:It) (H1:Hp) (Q:VK):Prop :=
 ∀ D,H1 D=none->∃ W:VC->VC->VA V->Hp->Prop,(∃ m,W 0 m [] (upd H1 D (.lst [])))/\∀ i m acc H2,W i m acc H2 ->
  (J.stop i H2/\Q (.ref D) H2)\/(J.go i H2/\∀ x H3,J.yld i H2 x H3->g x (lcS k mp σ) H3 fun σ4 H4=>tc σ4 H4 fun b H5 =>
   if b=true then te σ4 H5 fun v H6=>H6 D=some (.lst acc)/\acc.length<Od/\∃ m',m'<m/\W (i+1) m' (acc++[v]) (upd H6 D (.lst (acc++[v])))
   else ∃ m',m'<m/\W (i+1) m' acc H5)
def tLc (k:VC) (mp:VA VC) (wi:TI) (g:TG) (tc:TT) (te:TE):TE:=fun σ H Q=>wi σ H fun J H1=>Jy k mp σ g tc te J H1 Q
section
variable {X:Cx} {pins:VA (VH×MQ)} {σ:St} {elt tgt iter:Expr} {ifs:VA Expr} {scope sc:Scope} {pos:SD} {N xs:VA VI} {mp:VA VC} {wi:TI} {g:TG} {tc:TT} {te:TE}
def Zkj {RR:VG->VH->GU->VF->Prop}
  (R:X.env.scope=sc) (hN:X.N=N) (S:Zmh sc scope N xs mp) (I:X.calm=true)
  (hg:∀ F C w s j,PG (lcx X (lcN N xs mp) scope F C w s j) tgt g) (hc:∀ F C w s j,PCs (lcx X (lcN N xs mp) scope F C w s j) ifs tc) (he:∀ F C w s j,PE (lcx X (lcN N xs mp) scope F C w s j) elt te)
  (I2:Inv X pins σ M c) (T:Zic X.prog X.w X.K tgt J j it U) (st2:U 0 c.heap) (f2:∀ b∈j,XB X pins M b) (h:Jy xs.length mp σ g tc te J M Qv)
  (hRR:∀ (D C) (L) (l) (m),L.heap.Ns C m->Inv X pins σ l L->XB X pins l C->Qv (.ref D) l->RR (.ref D) C (.ok .next) L) :
  Oe (Oc X.prog X.w) X.A (newList []) (fun d f=>Oe (Oc X.prog X.w) X.A (GF scope X.env.globals (Yb X.env scope.names []) [] X.env.qual none .none (some X.env)) (fun O B =>
   OF (Oc X.prog X.w) X.A (.compStart (.ListComp elt [⟨tgt,iter,ifs,0⟩] scope pos) 0 (.ref it) d {O with scope:=Gd scope X.env}) (RR d O.locals) B) E f) E c:=by
 apply Pl;intros;have hD:M c.heap.objs.size=none:=I2.hok.fresh (Qh _);apply La;intros;obtain⟨W,⟨m0,w0⟩,turn⟩:=h c.heap.objs.size hD;refine Ot (Df S.nocell bo (fun h1 K A=>?_) S.kind);dsimp only at K A ⊢;have fpD:∀ b∈j,b≠c.heap.objs.size:=fun b k=>by
  obtain⟨o,e,_⟩:=T.obj _ _ st2 b k;exact QB (Ql e)
 have Y:Inv X pins σ (upd M c.heap.objs.size (.lst [])) {c with heap:=c.heap.push {cls:=.type "list",dict:=none,data:=.seq ([]:VA VG).toArray}} :=
  I2.laid (t':=c.toks) (fun b u e=>Qc _ e) (Qh _) ⟨QN _,[],0,.nil,Qk _ rfl⟩
 have f3:∀ b∈j,XB X pins (upd M c.heap.objs.size (.lst [])) b:=fun b k=>⟨by exact Zi (fpD b k)▸(f2 b k).1,(f2 b k).2⟩
 generalize hs3:({c with heap:=c.heap.push {cls:=.type "list",dict:=none,data:=.seq ([]:VA VG).toArray}}:VF)=f at Y;have hh3:c.heap.push {cls:=.type "list",dict:=none,data:=.seq ([]:VA VG).toArray}=f.heap:=by rw[←hs3]
 have kp3:∀ b o,c.heap.get? b=some o->f.heap.get? b=some o:=fun b o e=>by exact hh3▸Qc _ e
 rw[hh3]at K A ⊢;have st3:U 0 f.heap:=T.keep _ _ _ st2 fun b _ o e=>kp3 b o e;have x3:∀ b∈j,∃ o,f.heap.get? b=some o:=fun b k=>by
  obtain⟨o,e,_⟩:=T.obj _ _ st3 b k
  simp_all
 have st4:U 0 h1:=T.keep _ _ _ st3 fun b _ o e=>A.extBut b o (QB (Ql e)) (Qc _ e);have I4:=fun tk=>Zex Y R hN S f3 (Znf (tk:=tk) Y R S f3 x3 K A);have key:∀ B:VF,B={f with heap:=h1,toks:=B.toks}->OF (Oc X.prog X.w) X.A (.compLoop (.ListComp elt [⟨tgt,iter,ifs,0⟩] scope pos) 0 (.ref it) (.ref c.heap.objs.size) (Ve scope (Yb X.env scope.names []) f.heap.objs.size X.env))
   (RR (.ref c.heap.objs.size) f.heap.objs.size) B:=by
  intro B P;have G:∀ {l:Hp},(∀ b∈j,l b=none)->∀ b∈j,XB (lcx X (lcN N xs mp) scope (Yb X.env scope.names []) f.heap.objs.size f (upd M c.heap.objs.size (.lst [])) j) [] l b:=fun hn b k =>
   ⟨hn b k,((I4 0).ok.exf b k).1,(I4 0).ok.exfs b k,.inl k,((I4 0).ok.exf b k).2,fun p hp=>VM (show p∈([]:VA (VH×MQ))from hp) bo⟩
  refine Zar (fun n L=>∃ i d l,Inv (lcx X (lcN N xs mp) scope (Yb X.env scope.names []) f.heap.objs.size f (upd M c.heap.objs.size (.lst [])) j) [] (lcS xs.length mp σ) l L/\U i L.heap/\(∀ b∈j,l b=none)/\W i n d l) ?_ m0
   ⟨0,[],_,(by exact P▸I4 _),(by rw[P];omega),fun b k=>(f3 b k).1,w0⟩
  rintro n s6 ⟨i,d,H6,I6,st6,fr6,w6⟩;apply Pl;intros;rcases turn i n d H6 w6 with ⟨stop,q⟩ | ⟨go,step⟩
  refine thn (T.done (lcx X (lcN N xs mp) scope (Yb X.env scope.names []) f.heap.objs.size f (upd M c.heap.objs.size (.lst [])) j) rfl rfl rfl I i [] s6 _ H6 _ I6 (G fr6) st6 stop) fun r s7 ⟨hr,I7⟩=>?_;subst hr;apply La;intros;obtain⟨m7,hn7,_⟩:=I7.loc;exact hRR _ _ s7 H6 m7 hn7 (ZlO Y f3 I7) (Y.fpOk (Qh _) I7.free) q
  refine thn (T.item (lcx X (lcN N xs mp) scope (Yb X.env scope.names []) f.heap.objs.size f (upd M c.heap.objs.size (.lst [])) j) rfl rfl rfl I i [] s6 _ H6 _ I6 (G fr6) st6 go) fun r s7=>Lh fun u hr h7=>?_;subst hr;refine thn h7 fun _ s8 ⟨x,H8,I8,r8,y8,V,fr8⟩=>Pl ?_;intros;have again:∀ {σ':St} {l:Hp} {L:VF},Inv (lcx X (lcN N xs mp) scope (Yb X.env scope.names []) f.heap.objs.size f (upd M c.heap.objs.size (.lst [])) j) ([]++Zcd j s8.heap) σ' l L->(∃ m H,m<n/\W (i+1) m H l) ->
    ∃ m,m<n/\∃ i d l,Inv (lcx X (lcN N xs mp) scope (Yb X.env scope.names []) f.heap.objs.size f (upd M c.heap.objs.size (.lst [])) j) [] (lcS xs.length mp σ) l L/\U i L.heap/\(∀ b∈j,l b=none)/\W i m d l:=by
   intro σ' l L J ⟨m,H,hm,w'⟩;refine⟨m,hm,i+1,H,l,Zex Y R hN S f3 J.unpinned,T.keep _ _ _ V fun b k o e=>(J.pin (b,o) (QJ _ (QJ _ (YG k e)))).1,fun b k=>?_,w'⟩;obtain⟨o,e,_⟩:=T.obj _ _ V b k;exact(J.pin (b,o) (QJ _ (QJ _ (YG k e)))).2.1
  refine thn (hg _ _ _ _ _ _ s8 _ H8 x u _ (I8.pinned (G fr8) (T.obj _ _ V)) r8 (step x H8 y8)) fun _ s9 ⟨Q,H9,I9,q9⟩=>thn (hc _ _ _ _ _ _ s9 Q H9 _ I9 q9) fun b s10=>Lg fun H10 Z q10=>?_;cases b with
  | false =>
   exact Lm q10 fun m' hm w'=>again Z ⟨m',d,hm,w'⟩
  | true =>
   refine thn (he _ _ _ _ _ _ s10 Q H10 _ Z q10) fun yv s11 ⟨v,H11,I11,r11,hDa,hz,m',hm,w'⟩=>thn (X1 _ s11 Q H11 (.ref c.heap.objs.size) [v] (.ref c.heap.objs.size) [yv] (fun _ H12=>H12=upd H11 c.heap.objs.size (.lst (d++[v]))) I11 rfl (.cons r11 .nil) ⟨_,d,v,rfl,rfl,hDa,hz,rfl⟩) fun _ s12=>Le fun _ H12 I12 _ e12=>?_;subst e12;exact again I12 ⟨m',_,hm,w'⟩
 subst hs3;exact LY (key _ rfl) (T.self X.A 0 _ _ _ st4 (key _ rfl))
def Yd (F) (N xs) (p) (i:X.calm=true) (hi:PI X tgt iter wi) (A:∀ r C c d k,PG (lcx X (lcN N xs p) scope r C c d k) tgt g)
  (hc:∀ r C c d k,PCs (lcx X (lcN N xs p) scope r C c d k) ifs B) (L:∀ r C c d k,PE (lcx X (lcN N xs p) scope r C c d k) elt G)
  (S:Zjb F scope N xs p=true:=by decide +kernel) (n:X.env.scope=F:=by rfl) (hN:X.N=N:=by rfl) (U:∀ x,Gn iter X.env x=pure x:=by intro _;rfl) :
  PE X (.ListComp elt [⟨tgt,iter,ifs,0⟩] scope pos) (tLc xs.length p wi g B G):=by
 intro t s σ H Q I h;have w:=Zez S;refine RQ rfl U (Xe (ZbE I n w)) w.kind w.names (thn (hi t s σ H _ I h) fun v s1 R=>thn R fun itv s2 Z=>?_);obtain⟨it,k,tn,J,H2,rfl,O,T,z,W,Y⟩:=Z;refine Zkj n hN w i A hc L O T z W Y ?_;intro D C s' K m P V l q;exact⟨m,P,fun h' E=>⟨.ref D,K,V.turned (fun b o M e=>E.extBut b o M e) l.1 l.2.1 l.2.2.2.1 l.2.2.2.2.1 l.2.2.2.2.2,rfl,q⟩⟩
def JF {l n} (Y) (N xs) (y) (O:X.N.Nodup) (Q:X.N[i]?=some x) (M:Loc X.env.scope x) (p:X.calm=true) (hi:PI X tgt iter wi) (hg:∀ F C f d u,PG (lcx X (lcN N xs y) scope F C f d u) tgt g)
  (K:∀ F C f d u,PCs (lcx X (lcN N xs y) scope F C f d u) ifs tc) (he:∀ F C f d u,PE (lcx X (lcN N xs y) scope F C f d u) elt te)
  (S:Zjb Y scope N xs y=true:=by decide +kernel) (R:Gu (.ListComp elt [⟨tgt,iter,ifs,0⟩] scope pos) (some (.Name x l)) n.line X.env=pure true:=by rfl)
  (w:X.env.scope=Y:=by rfl) (hN:X.N=N:=by rfl) (E:∀ x,Gn iter X.env x=pure x:=by intro _;rfl) (hf:X.fn x=true\/X.env.scope.names.lookup x=some .local:=by first | exact .inl rfl | exact .inr rfl | assumption) :
  PS X (.Assign [.Name x l] (.ListComp elt [⟨tgt,iter,ifs,0⟩] scope pos) n) (ZnU (tLc xs.length y wi g tc te) (Js i)):=by
 intro G s σ H D I h;have L:=Zez S;rw[KO _ _ _ _ R];refine Oa (Gp (Oa ?_));refine Oa (Os (RQ rfl E (Xe (ZbE I w L)) L.kind L.names
  (thn (hi G s σ H _ I h) fun v s1 h1=>thn h1 fun itv s2 h2=>?_)) (fun _ s' hq=>Ob (Ob hq)) fun _ _ e=>e)
 obtain⟨it,u,tn,J,H2,rfl,I2,T,V,f2,h3⟩:=h2;refine Zkj w hN L p hg K he I2 T V f2 h3 ?_;intro D' C s' P m hn I' r q;refine LA (JO I' O Q M (v:=.ref D') rfl (fun s'' W ⟨a,B,ha⟩=>?_) hf);have Z:C≠a:=by
  rcases ha with z | z
  exact z▸r.2.1;exact fun e=>r.2.2.2.2.1 x a z e.symm
 refine⟨m,hn.sameBut B Z,fun h' U=>⟨_,P,W.turned (fun b o hb e=>U.extBut b o hb e) r.1 r.2.1 r.2.2.2.1 r.2.2.2.2.1 r.2.2.2.2.2,q⟩⟩
end
def TSame (H H':Hp):Prop:=∀ b xs,H b=some (.tup xs)->H' b=some (.tup xs)
def Same.tup (h:Same H a):TSame H a:=fun b c e=>h b _ e
def TSame.trans (a:TSame H g) (b:TSame g f):TSame H f:=fun c d e=>b c d (a c d e)
def YB (h:H D=some (.lst xs)):TSame H (upd H D (.lst ys)):=fun b c e=>by
 rw[Zi fun z=>bp];omega
def Zb (h:H D=none):Same H (upd H D o):=fun b u e=>by
 rw[Zi (Zh e h)];omega
def X5 (n) (xs:VC->V) (R:VC->V->Hp->Prop) (Y:n<=Od)
  (I:∀ i v H c,TSame H c->R i v H->R i v c)
  (U:∀ H,Same r H->(∀ i,i<n->J.go i H/\∀ x c,J.yld i H x c->c=H/\x=xs i)/\J.stop n H)
  (step:∀ i H (E),i<n->Same r H->(∀ v l,Same H l->R i v l->E v l)->g (xs i) (lcS k P σ) H fun w T=>S w T E)
  (q:∀ D vs c,vs.length=n->(∀ i v,vs[i]?=some v->R i v c)->Same r c->r D=none->c D=some (.lst vs)->Q (.ref D) c):Jy k P σ g ZnS S J r Q:=by
 intro D z;refine⟨fun i m a H=>m=n-i/\i<=n/\a.length=i/\Same r H/\H D=some (.lst a)/\∀ j v,a[j]?=some v->R j v H,⟨n,bo,QN _,rfl,Zb z,Zd,fun j v e=>bp⟩,?_⟩;rintro i m a H ⟨rfl,Z,A,t,f,F⟩;obtain⟨B,M⟩:=U H t;by_cases d:i<n
 refine .inr ⟨(B i d).1,fun x G y=>La ?_⟩;intros;obtain⟨X,O⟩:=(B i d).2 x G y;subst X O;refine step i G _ d t fun v l s N=>⟨s _ _ f,Nc Y d A,n-(i+1),Xo d,rfl,d,by rw[Qg,A];rfl,fun b o e=>?_,Zd,fun j u e=>?_⟩
 exact Zi (Zh e z)▸s _ _ (t b o e)
 have C:TSame l (upd l D (.lst (a++[v]))):=YB (s _ _ f);rcases WS j a.length with h | h | h
 rw[QF h]at e;exact I _ _ _ _ (s.tup.trans C) (F j u e)
 subst h;rw[QC (Qh _),Wv]at e;cases e;exact A▸I _ _ _ _ C N
 rw[Qr (by rw[Qg,Qp];exact h)]at e;cases e
 have e:i=n:=Vk Z d
 subst e;exact .inl ⟨M,q D a H A F t z f⟩
def ZbH {K} (h:SqL K f a ys):∀ H,Same f H->(∀ i,i<ys.length->(Itl K a).go i H/\∀ x b,(Itl K a).yld i H x b->b=H/\x=ys.getD i .non)/\(Itl K a).stop ys.length H:=fun H s=>by
 have q:=s.seq h;refine⟨fun i j=>⟨⟨ys,ys[i],q,bo⟩,fun x b y=>⟨y.1,?_⟩⟩,⟨ys,q,Qh _⟩⟩;rw[Qb,(y.2 ys q)];rfl
def Same.tupS {K} (e:Same H d) (h:SqT K H a xs):SqT K d a xs:=by
 rcases h with (h | ⟨o,h⟩) | h
 exact .inl (.inl (e _ _ h));exact .inl (.inr ⟨o,e _ _ h⟩);exact .inr h
def Jz {K} (h:SqT K f a ys):∀ H,Same f H->(∀ i,i<ys.length->(Itt K a).go i H/\∀ x b,(Itt K a).yld i H x b->b=H/\x=ys.getD i .non)/\(Itt K a).stop ys.length H:=fun H s=>by
 have q:=s.tupS h;refine⟨fun i j=>⟨⟨ys,ys[i],q,bo⟩,fun x b y=>⟨y.1,?_⟩⟩,⟨ys,q,Qh _⟩⟩;rw[Qb,(y.2 ys q)];rfl
def ZbG {lo}:∀ H,Same f H->(∀ i,i<n->(Itr lo n).go i H/\∀ x a,(Itr lo n).yld i H x a->a=H/\x= .int (lo+i))/\(Itr lo n).stop n H:=fun H _ =>
 ⟨fun i c=>⟨c,fun x a y=>y⟩,Qh _⟩
def Its (x:VI):It:=⟨fun i _=>i<x.cps.size,fun i H v H'=>H'=H/\v= .str ⟨#[x.cps.getD i 0]⟩,fun i _=>x.cps.size<=i⟩
def Znt:∀ H,Same f H->(∀ i,i<x.cps.size->(Its x).go i H/\∀ v a,(Its x).yld i H v a->a=H/\v= .str ⟨#[x.cps.getD i 0]⟩)/\(Its x).stop x.cps.size H:=fun H _ =>
 ⟨fun i d=>⟨d,fun v a y=>y⟩,Qh _⟩
def ZdX {K} (a) (x) (t) (T) (D:T = "str_ascii_iterator"\/T = "str_iterator"):Zic P w K tg (Its x) [a] a (fun i h=>h.IsStrIter a T x t i) where
 mem:=bo
 obj:=fun i h st b m=>by
  have e:b=a:=bp
  subst e;obtain⟨o,e,c,d⟩:=st;exact⟨o,e,fun v z=>bp⟩
 keep:=fun i h f st k=>by
  obtain⟨o,e,c,d⟩:=st;exact⟨o,k a bo o e,c,d⟩
 item:=by
  intro X V U Z Q i j s σ H E I C st L;subst V U Z;apply La;intros;obtain⟨F,B,f2,J,M,G⟩:=C a bo;have q:=I.ok.hd Q;have A:∀ (v:VG) (f:Nu) (l:VC),SignAt x i v->f.IsStrIter a T x t (i+1)->(∀ b o,b∉[a]->s.heap.get? b=some o->f.get? b=some o) ->
    ∃ u,some v=some u/\Oe (Oc X.prog X.w) X.A (Gy tg (.ref a) u) (fun _ W=>∃ y N,Inv X j σ N W/\RelV y u/\(Its x).yld i H y N/\W.heap.IsStrIter a T x t (i+1)/\∀ b∈[a],N b=none) E {s with heap:=f,toks:=l}:=by
   intro v f l p g n;apply La;intros;obtain⟨c,u,R,rfl⟩:=p;have I1:Inv X j σ H {s with heap:=f,toks:=l}:=I.turned (fun b o m e=>n b o (by simpa using m) e) F B J M G;obtain⟨o,e,c1,d1⟩:=id g;refine⟨_,rfl,ZhF (s:={s with heap:=f,toks:=l}) e c1 d1 (by rcases D with z | z <;> rw[z] <;> decide) ⟨.str ⟨#[x.cps.getD i 0]⟩,H,I1,⟨u,?_⟩,⟨rfl,rfl⟩,g,fun b m=>(C b m).1⟩⟩;rw[Wy,R];rfl
  rcases D with z | z
  subst z;exact(Walks.strAscii (prog:=X.prog) (w:=X.w) q a x t).item i s _ _ L st fun v f l p g n=>A v f l p g n
  subst z;exact(Walks.strWide (prog:=X.prog) (w:=X.w) q a x t).item i s _ _ L st fun v f l p g n=>A v f l p g n
 done:=by
  intro X V U Z Q i j s σ H E I C st L;obtain⟨F,B,f2,J,M,G⟩:=C a bo;have q:=I.ok.hd Q;have S:x.cps.size<=i:=L;have Y:x.cps[i]?=none:=Uk S;rcases D with z | z
  subst z;exact wpAny_pyNext_ascii_end q st Y fun f O=>⟨rfl,I.turned (t':=s.toks) (fun b o m e=>O b o m e) F B J M G⟩
  subst z;exact wpAny_pyNext_wide_end q st Y fun f O=>⟨rfl,I.turned (t':=s.toks) (fun b o m e=>O b o m e) F B J M G⟩
 self:=fun _ _ _ _ _ st h=>by
  rcases D with z | z
  subst z;exact wpAny_pyIter_striter_ascii st h
  subst z;exact wpAny_pyIter_striter_wide st h
def ZpG (tl:TE):TI:=fun σ H R=>tl σ H fun v H1=>∃ x,v= .str x/\R (Its x) H1
def ZmH (p:PE X l j):PI X u l (ZpG j):=by
 intro d s σ H R I h;refine thn (p d s σ H _ I h) fun v a=>Le fun y f c n m=>?_;obtain⟨x,rfl,q⟩:=m;obtain⟨t,rfl⟩:=n;cases g:x.cps.all (· < 128)with
 | true =>
  refine wpAny_pyIter_ascii g ⟨a.heap.objs.size,[a.heap.objs.size],_,_,f,rfl,c.kept (t':=a.toks) fun b o e=>Qc _ e,ZdX _ x t _ (.inl rfl),⟨_,Qk _ rfl,rfl,rfl⟩,fun b k=>?_,q⟩;have e:b=a.heap.objs.size:=bp
  subst e;exact c.fpOk (Qh _) (c.hok.fresh (Qh _))
 | false =>
  refine wpAny_pyIter_wide g ⟨a.heap.objs.size,[a.heap.objs.size],_,_,f,rfl,c.kept (t':=a.toks) fun b o e=>Qc _ e,ZdX _ x t _ (.inr rfl),⟨_,Qk _ rfl,rfl,rfl⟩,fun b k=>?_,q⟩;have e:b=a.heap.objs.size:=bp
  subst e;exact c.fpOk (Qh _) (c.hok.fresh (Qh _))
section
variable {X:Cx}
def Zpw:V->VE VN->VE VN->Hp->VK->Prop:=fun x lo hi H Q=>∃ z:VI,x= .str z/\z.length<=Od/\Q (.str (NH z lo hi)) H
def ZP:SlR X Zpw:=by
 intro c s σ H x v B y lo o A Q I p f r m h;obtain⟨z,rfl,w,q⟩:=h;obtain⟨t,rfl⟩:=p;have a:∀ n k,EP X c σ Q (.str _ n) {s with toks:=k}:=fun n k=>⟨.str _,H,I.tok _,⟨_,rfl⟩,q⟩
 have b:(NH z lo o).length<=Od:=QR (Txt.slice_le z _ _) w;apply La;intros;cases r with
 | none =>
  cases m with
  | none=>exact⟨"str",_,F.slot_str_getitem.lookup,O0 _ _ _,OW (l:=none) (u:=none) (st:=none) f rfl (GA ⟨b,a⟩)⟩
  | int j u=>exact⟨"str",_,F.slot_str_getitem.lookup,O0 _ _ _,OW (l:=none) (u:=some (j,u)) (st:=none) f rfl (GA ⟨b,a⟩)⟩
 | int i l =>
  cases m with
  | none=>exact⟨"str",_,F.slot_str_getitem.lookup,O0 _ _ _,OW (l:=some (i,l)) (u:=none) (st:=none) f rfl (GA ⟨b,a⟩)⟩
  | int j u=>exact⟨"str",_,F.slot_str_getitem.lookup,O0 _ _ _,OW (l:=some (i,l)) (u:=some (j,u)) (st:=none) f rfl (GA ⟨b,a⟩)⟩
def Zlr:OpR X (OV .Mult) (fun x y H Q=>∃ (z:VI) (n:VN),x= .str z/\y= .int n/\MulOk z n/\Q (.str (CJ z n)) H):=by
 intro c s σ H x y v u Q I g e h;obtain⟨z,n,rfl,rfl,b,q⟩:=h;obtain⟨t,rfl⟩:=g;obtain⟨i,rfl⟩:=e;exact SB.mul b fun i k=>⟨.str _,H,I.tok _,⟨_,rfl⟩,q⟩
def Jf:∀ {ss} {b},Vals (ss.map V.str) b->Gx b ss
 | [],_,r=>by
  cases r;exact .nil
 | x::ss,_,r=>by
  cases r with
  | cons d c =>
   obtain⟨t,e⟩:=d;subst e;exact .cons x t (Jf c)
def Zop (K:VB):V->VA V->Hp->VK->Prop:=fun x vs H Q=>∃ (z:VI) (a:VH) (ys:VA VI),x= .str z/\vs=[.ref a]/\SqL K H a (ys.map V.str)/\(ys.map (·.length)).sum+ys.length*z.length<=16777216/\Q (.str (TV z ys)) H
def Zg7:MtR X "str.join" (Zop X.K):=by
 intro b s σ H x o v m Q I c e h;refine L0 h fun z a n j p d f q=>?_;subst j;subst p;obtain⟨t,rfl⟩:=c;obtain⟨u,rfl,rfl⟩:=XL e;obtain⟨g,r,i,_⟩:=I.list d;exact join_list i.isList (Jf bq) f fun l k=>⟨.str _,H,I.tok _,⟨_,rfl⟩,q⟩
def XR:∀ (ns:VA VN) (k),preSum (fun i=>ns.getD i 0) k=(ns.take k).sum
 | ns,0=>by rfl
 | ns,k+1=>by
  rw[preSum,XR ns k];by_cases h:k<ns.length
  rw[Rt,Qb,Qa h];simp only[Uf,Option.toList_some,Wc,RM,WW];lia;have a:=Ry h;rw[Q4 a,Q4 (UY a),Qb,Qr a];simp
def Zau (E:X.calm=true):CallR X (.builtin "sum") (fun xs H Q=>∃ (a:VH) (ns:VA VN),xs=[.ref a]/\SqL X.K H a (ns.map V.int)/\(∀ n∈ns,Vg n)/\(∀ k,Vg (ns.take k).sum)/\Q (.int ns.sum) H):=by
 intro y s σ H xs P Q I r h;obtain⟨a,ns,rfl,J,B,S,q⟩:=h;obtain⟨u,rfl,rfl⟩:=XL r;obtain⟨d,t,m,_⟩:=I.list J;have G:=t.length;rw[Qd]at G;have f:a<s.heap.objs.size:=by
  obtain⟨o,n,e,_⟩:=m;exact Ql e
 refine call_sum_walk (OU m.isList ⟨_,_,_,_,_,_,fun i=>ns.getD i 0,rfl,DS (A:=X.A.in1) (I.ok.hd E) _ _ (QB f) d.toArray,
  ⟨⟨_,Qk _ rfl,rfl,rfl⟩,m.isList.push _⟩,?_,?_,?_,?_⟩)
 intro b w;rw[Wu];have:b=s.heap.objs.size\/b=a:=bp
 rcases this with z | z
 rw[z];simp
 exact z▸WZ f
 intro i v K;have p:d[i]?=some v:=bp
 have w:(ns.map V.int)[i]?=some (.int (ns.getD i 0)):=by
  rw[Qi,Qb];cases e:ns[i]? with
  | none=>exact VM (WD.mp e) (Ke G ((Qj.mp p).1))
  | some b=>rfl
 obtain⟨O,x,_⟩:=t.get w;rw[p]at x;cases x
 trivial
 intro j N;have c:j<ns.length:=bp
 refine⟨?_,?_⟩
 show Vg (ns.getD j 0);rw[Qb,Qa c];exact B _ (QH c)
 rw[XR]
 simp_all
 intro R M D A;refine⟨.int ns.sum,H,I.kept fun b o e=>A b o (by simpa using QB (Ql e)) (Qc _ e),⟨D,?_⟩,q⟩;rw[XR,Q4 (by exact Qy▸Kf G)]
noncomputable def Zpd:V->VE VG
 | .ty n=>some (.type n)
 | .ref a=>some (.ref a)
 | _=>none
def Zjy:CallR X (.builtin "isinstance") (fun xs H Q=>∃ (x c:V) (t cv:VG) (b:NY),xs=[x,c]/\ZeO X.K H x t/\Zpd c=some cv/\MS X.K t cv=some b/\Q (.bl b) H):=by
 intro i s σ H xs p Q I r h;obtain⟨x,c,t,cv,b,rfl,ty,f,e,q⟩:=h;obtain⟨u,v,rfl,k,d⟩:=ZeR r;have m:=by
  cases c with
  | ty n=>exact d.trans (VQ f)
  | ref n=>exact d.trans (VQ f)
  | _=>cases f
 subst m;exact Zhw I k ty e fun o=>⟨.bl b,H,I.tok _,rfl,q⟩
end
mutual
def RepD (H:Hp):FP->V->Prop
 | .none,v=>v= .non
 | .bool b,v=>v= .bl b
 | .int i,v=>v= .int i
 | .str x,v=>v= .str x
 | .tuple ds,v=>∃ a xs,v= .ref a/\H a=some (.tup xs)/\RepA H ds xs
 | .list ds,v=>∃ a xs,v= .ref a/\H a=some (.lst xs)/\RepA H ds xs
 | .dict _,_=>False
def RepA (H:Hp):VA FP->VA V->Prop
 | [],xs=>xs=[]
 | d::ds,xs=>∃ v vs,xs=v::vs/\RepD H d v/\RepA H ds vs
end
section
variable {X:Cx} {pins:VA (VH×MQ)} {σ:St} {H:Hp} {s:VF}
mutual
def RepD.reads (I:Inv X pins σ H s):∀ (d:FP) (v:V) (u:VG),RepD H d v->RelV v u->∃ j,Reads s.heap u d j
 | .none,v,u,r,q=>by
  subst r;cases q;exact⟨_,.none⟩
 | .bool b,v,u,r,q=>by
  subst r;cases q;exact⟨_,.bool b⟩
 | .int i,v,u,r,q=>by
  subst r;obtain⟨t,rfl⟩:=q;exact⟨_,.int i t⟩
 | .str x,v,u,r,q=>by
  subst r;obtain⟨t,rfl⟩:=q;exact⟨_,.str x t⟩
 | .tuple m,v,u,r,q=>by
  obtain⟨a,p,e,h,l⟩:=r;subst e;cases q;obtain⟨c,w,⟨o,z,A,n,y⟩,_⟩:=I.tuple (SqT.of h);obtain⟨j,D⟩:=RepA.reads I m p c l w;exact⟨_,.tuple z A y bq⟩
 | .list m,v,u,r,q=>by
  obtain⟨a,p,e,h,l⟩:=r;subst e;cases q;obtain⟨c,w,⟨o,n,z,A,_,y⟩,_⟩:=I.list (SqL.of h);obtain⟨j,D⟩:=RepA.reads I m p c l w;exact⟨_,.list z A y bq⟩
 | .dict _,v,u,r,q=>by
  rw[RepD]at r
  simp_all
def RepA.reads (I:Inv X pins σ H s):∀ (ds:VA FP) (vs:VA V) (us:VA VG),RepA H ds vs->Vals vs us->∃ as,ReadsAll s.heap us ds as
 | [],vs,us,r,q=>by
  rw[RepA]at r;subst r;cases q;exact⟨_,.nil⟩
 | d::ds,vs,us,r,q=>by
  rw[RepA]at r;obtain⟨v,vs',e,q1,q2⟩:=r;subst e;cases q with
  | cons p1 p2 =>
   obtain⟨as,r1⟩:=RepD.reads I d v _ q1 p1;obtain⟨bs,r2⟩:=RepA.reads I ds vs' _ q2 p2;exact⟨_,.cons r1 r2⟩
end
end
section
variable {X:Cx}
def ZmT (e:X.A.units+64<O6):OpR X (OJ .Eq) (fun x y H Q=>∃ b a,RepD H b x/\RepD H a y/\MN b=true/\MN a=true/\Q (.bl (FQ b a)) H):=by
 intro c s σ H x y v u Q I l d h;obtain⟨b,a,n,g,f,j,q⟩:=h;obtain⟨o,k⟩:=RepD.reads I b x v n l;obtain⟨p,m⟩:=RepD.reads I a y u g d;exact eq_dataH k m f j e ⟨.bl _,H,I,rfl,q⟩
end
structure HasDef (K:VB) (mg:VI->VE VG) (name:VI) (st:Mv) (ps:VA VI):Prop where
 ex:∃ f fd,Fun K name name st f fd/\Binds K fd ps []/\mg name=some (.ref f)
structure FOk (P:Oh) (w:Ol) (K:VB) (mg:VI->VE VG) (base:Nu) (k:VC) (name:VI) (ps:VA VI) (sp:Sp):Prop where
 ex:∃ f fd,FnOk P w K mg base CX0 k f fd ps sp/\Binds K fd ps []/\mg name=some (.ref f)/\NU K (.ref f)=true
section
variable {P:Oh} {w:Ol} {K:VB} {mg:VI->VE VG} {base:Nu}
def HasDef.ok {st} (D:HasDef K mg name st e) (S:Zp N e (Zf st)) (g:∀ vs H Q E,i vs H Q E->vs.length=e.length)
  (d:∀ (f) (c) (A) (a) (s) (H) (vs) (Q) (E),Room k (A.deeper (Gc name (Zf st) s.heap.objs.size f c))->i vs H Q E ->
   ∃ t,PSs (Zfq CX0 P w K mg base N name (Zf st) f c A a s H E).nox (ZO st) t/\t {nx:=fun _ o=>Q .non o,rt:=Q} (start N vs) H):FOk P w K mg base (k+1) name e i:=by
 obtain⟨f,l,F,b,m⟩:=D.ex;exact⟨f,l,F.ok S g fun c A a s H vs Q E=>d f c A a s H vs Q E,b,m,F.kp⟩
def FOk.mono (G:FOk P w K mg base j name b d) (h:j<=k):FOk P w K mg base k name b d:=by
 obtain⟨f,c,F,r⟩:=G.ex;exact⟨f,c,F.mono h,r⟩
end
def ZH {p pos} (G:FOk X.prog X.w X.K X.mg X.base k name u r) (j:Room k X.A) (l:PA X (e::es) t) (o:Gl X name:=by rfl)
  (a:(name==("__debug__"))=false:=by decide) (n:Oi (e::es) X.env=(false,NQ e X.env)::Oi es X.env:=by rfl) (c:(OE pos (Oi es X.env)).any (·.1)=false:=by rfl) :
  PE X (.Call (.Name name p) (e::es) [] pos) (ZkQ r [] E0 t):=by
 obtain⟨f,s,F,b,m,q⟩:=G.ex;exact ZgH F j o m q b .nil ZiL l a n c
inductive TyB (H:Hp):V->RY->Prop where
 | non:TyB H .non "NoneType"
 | bl (b:NY):TyB H (.bl b) "bool"
 | int (i:VN):TyB H (.int i) "int"
 | str (x:VI):TyB H (.str x) "str"
 | lst {a:VH} {xs:VA V} (e:H a=some (.lst xs)):TyB H (.ref a) "list"
 | tup {a:VH} {xs:VA V} (e:H a=some (.tup xs)):TyB H (.ref a) "tuple"
 | dK {a:VH} {kvs:VA (Key×V)} (e:H a=some (.dK kvs)):TyB H (.ref a) "dict"
def TyB.of {K} (h:TyB H x n):ZeO K H x (.type n):=by
 cases h with
 | non=>exact .non
 | bl b=>exact .bl b
 | int i=>exact .int i
 | str x=>exact .str x
 | lst e=>exact .lst e
 | tup e=>exact .tup e
 | dK e=>exact .dK e
noncomputable def Za8:VA RY:=["NoneType","bool","int","str","list","tuple","dict"]
def TyB.mem (h:TyB H x n):n∈Za8:=by
 cases h <;> simp[Za8]
noncomputable def Znv (n c:RY):NY:=n==c || (n == "bool" && c == "int")
noncomputable def ZhY:VA RY:=["int","bool","str","tuple","list"]
noncomputable def ZpD (a b:RY):VE NY:=if (NB a==NB b)=true then some true else if PySem.W.kitMeta b=true then (fastBuiltinMro a).map (·.contains (NB b))else none
def ZlS:∀ n∈Za8,∀ c∈ZhY,ZpD n c=some (Znv n c):=bh
def YN:CallR X (.builtin "isinstance") (fun xs H Q=>∃ (x:V) (c n:RY),xs=[x,.ty c]/\c∈ZhY/\TyB H x n/\Q (.bl (Znv n c)) H):=by
 intro a s σ H xs f Q I r h;obtain⟨x,c,n,rfl,e,b,q⟩:=h;exact Zjy a s σ H _ f Q I r ⟨x,_,_,_,_,rfl,b.of,rfl,ZlS n b.mem c e,q⟩
def Zhx:∀ n∈Za8,(Znv n "int" = true->(!Znv n "bool")=(n == "int"))/\(¬ Znv n "int" = true->(n == "int")=false):=be
def ZaF:Op "isinstance" = some (.builtin "isinstance"):=by rfl
def ZG:Op "len" = some (.builtin "len"):=by rfl
def Zl5:Op "sum" = some (.builtin "sum"):=by rfl
def Zjz:Op "min" = some (.builtin "min"):=by rfl
def ZnI:Op "max" = some (.builtin "max"):=by rfl
def XA:Op "sorted" = some (.builtin "sorted"):=by rfl
def ZoR:Op "int" = some (.type "int"):=by rfl
def ZnK:Op "bool" = some (.type "bool"):=by rfl
def ZnH:Op "str" = some (.type "str"):=by rfl
def YX:Op "tuple" = some (.type "tuple"):=by rfl
def Zh5:Op "list" = some (.type "list"):=by rfl
def Zcf {pos} (e:Gl X x) (f:X.mg x=none) (g:Op x=some (.type c)) (d:x≠"__name__":=by decide) (h:(x==("__debug__"))=false:=by decide):PE X (.Name x pos) (tC (.ty c)) :=
 Zln e f g rfl d h
def Yz {X} {a} {h} {C} {c} {b} {k} (i) {x} {pos} (m:(lcN N xs g).Nodup:=by decide +kernel) (hi:(lcN N xs g)[i]?=some x:=by rfl)
  (l:(lcx X (lcN N xs g) a h C c b k).env.scope.names.lookup x=some .local:=by rfl):PG (lcx X (lcN N xs g) a h C c b k) (.Name x pos) (Js i):=Zw _ m hi (.inl l) (.inr l)
def tx (l:VA VC):VI:=⟨l.toArray⟩
def ZI (l):(tx l).cps.toList=l:=by rfl
def Zs (l):(tx l).length=l.length:=by rfl
def tx_eta (x):tx x.cps.toList=x:=by rfl
def Zpt (l) (c):(!(Builtin.Str.occurrences l ⟨#[c]⟩ 0 l.length 1).isEmpty)=decide (c∈l.cps.toList):=PySem.StrLaws.found_one l c
def ZlW (K) (h:X.K=K:=by rfl):IxR X (ZnV K):=by subst h;exact ix_tup
def ZeF (K) (h:X.K=K:=by rfl):IxR X (Zoq K):=by subst h;exact ix_list
def Zx (h:n<=16777216):n<=Od:=by assumption
open PySem PySem.Spec PyProof.Rows PySem.Builtin.Str
section
variable {X:Cx}
def ZW {k} {pos} (n) (K) (g:X.calm=true) (h:PGs X es t) (f:X.K=K:=by rfl)
  (e:(O9 es X.env).length=n:=by rfl) (c:(O9 es X.env).findIdx? (·.1)=none:=by rfl):PG X (.Tuple es k pos) (Zpb K n t):=by
 subst f;exact ZmI g h e c
end
def ZF (x:VI):x.cps.toList.length=x.length:=by rfl
def XF (h:0<=n):(NH x none (some n)).cps.toList=x.cps.toList.take n.toNat:=by
 by_cases c:n<=x.length
 rw[(MY (Fi h c))];simp;rw[(slice_to_beyond (x:=x) (j:=n) bq),(MY (Fi (x:=x) Tw (Uu _))),Q4 (i:=n.toNat) (by rw[ZF];lia)];simp[C7];exact Q4 bo
def JS {i j} (d:0<=i) (c:i<=j) (f:j<=x.length):(NH x (some i) (some j)).cps.toList=(x.cps.toList.drop i.toNat).take (j-i).toNat:=by
 rw[(MY (slice_closesL d c f))]
def ZcE:∀ (l:VA (VL VC)) (a),(l.foldl (· ++ ·) a).toList=a.toList++(l.map Array.toList).flatten
 | [],a=>by simp
 | b::l,a=>by
  rw[U7,ZcE l];simp
def Zg5 (h:1<=n) (c:x.length≠0):(CJ x n).cps.toList=(Qw n.toNat x.cps.toList).flatten:=by
 unfold CJ;rw[if_neg (Bx h)];split
 simp_all
 rw[ZcE];simp
def mulOk_of (d:1<=n) (f:n<=1000) (c:x.length<=1000):MulOk x n:=by
 refine⟨?_,?_,?_⟩;have a:¬ n < -2 ^ 63:=br
 have b:¬ n≥2 ^ 63:=br
 rw[VO a,VO b];rfl;intro _ _ q;have:1000<=(2 ^ 63-1) / n:=by
  rw[Int.le_ediv_iff_mul_le bq];lia
 lia;intro _ _;have:x.length*n.toNat<=1000*1000:=Ra c br;have e:=Oz;exact VO br
def Zdy {ns:VA VN} {i:VN} (b:0<=i) (d:i<ns.length):atI (ns.map V.int) i=some (.int (ns.getD i.toNat 0)):=by
 obtain⟨j,rfl⟩:=U4 b;refine Zax ?_;have c:j<ns.length:=Vq d
 rw[Qi,QX,Qb,Qa c];rfl
def Jq {l} {c:α} (a:0<=i) (h:l[i.toNat]?=some c):atI l i=some c:=by
 obtain⟨j,rfl⟩:=U4 a;exact Zax h
def Zpq (t u:TS):TS:=fun D σ H=>∃ W:St->Hp->Prop,t {D with nx:=W} σ H/\∀ σ' H',W σ' H'->u D σ' H'
def Zlb {st} {rest} (n:PS X st t) (m:PSs X rest u):PSs X (st::rest) (Zpq t u):=by
 intro a s σ H D I h;obtain⟨W,g,k⟩:=h;refine Gs (thn (n a s σ H _ I g) fun f i q=>?_);cases f with
 | next =>
  obtain⟨b,d,l,q⟩:=q;exact m a i b d D l (k b d q)
 | ret v=>exact q
 | brk=>exact q
 | cont=>exact q
def ZjV (h:i<=n):HT.sIx n d (some i)=i:=by
 unfold HT.sIx;simp;exact if_neg Km▸Te h
def Zky {i:VC} (h:i<=xs.length):Zfr xs none (some i)=xs.take i:=by
 have a:HT.sIx xs.length 0 none=0:=rfl;unfold Zfr;rw[a,ZjV h];simp
def ZeK {i:VC} (h:i<=xs.length):Zfr xs (some i) none=xs.drop i:=by
 have a:HT.sIx xs.length xs.length none=xs.length:=rfl;unfold Zfr;rw[a,ZjV h];exact Q4 bo
end L2
namespace Srt
open PySem PySem.W PyProof.Rows
section
variable {n:VC} {lt:VC->VC->NY} {cmp:VC->VC->(NY->VF->Prop)->VF->Prop} {G:VF->Prop}
structure Ord (n:VC) (lt:VC->VC->NY):Prop where
 tr:∀ i j k,lt i j=true->lt j k=true->lt i k=true
 asy:∀ i j,lt i j=true->lt j i=false
 tot:∀ i j,i<n->j<n->i≠j->lt i j=true\/lt j i=true
structure Pm (n:VC) (p:VL VC):Prop where
 size:p.size=n
 perm:p.Perm (Qz n).toArray
def Pm.below (h:Pm n p) (c:a<n):p.getD a 0<n:=by
 have b:a<p.size:=by exact h.size▸c
 have:=h.perm.mem_iff.mp (Array.getElem_mem b);rw[Wy,QT b];simpa using this
def Pm.ne (h:Pm n p) (i:a<n) (k:b<n) (g:a≠b):p.getD a 0≠p.getD b 0:=by
 have f:a<p.size:=by exact h.size▸i
 have c:b<p.size:=by exact h.size▸k
 have d:=by
  have:=WA.mp h.perm;exact this.nodup_iff.mpr (by simpa using Wp)
 intro e;have:=(Us (h₀:=by simpa using f) (h₁:=bq) d).mp bp;lia
def Up (lt:VC->VC->NY) (p:VL VC) (m:VC):Prop:=∀ a b,a<b->b<m->lt (p.getD a 0) (p.getD b 0)=true
variable (o:Ord n lt) (hc:∀ i j C s,i<n->j<n->i≠j->G s->(∀ s',G s'->C (lt i j) s')->cmp i j C s)
include o hc
omit o hc in
omit o hc in
end
end Srt
namespace L2
open PySem PySem.Spec PyProof.Rows PySem.W
def ZpT (h:Nu) (v:VG) (x:VI):Prop:=∃ a t y,v= .ref a/\h.get? a=some {cls:=.type "tuple",data:=.seq #[.str x t,y]}
noncomputable def ltX (xs:VA VI) (i j:VC):NY:=decide ((xs.getD i "").cps.toList<(xs.getD j "").cps.toList)
def Zak {xs:VA VI} (h):xs.getD i "" = xs[i]:=by
 rw[Qb,Qa h];rfl
def ObjOk.there' (x:ObjOk P w H h a o):∃ u,h.get? a=some u:=by
 cases o with
 | lst j=>obtain⟨_,_,_,_,e⟩:=x;simp_all
 | tup j=>obtain⟨_,_,_,⟨_,e,_⟩,_⟩:=x;simp_all
 | dK b=>obtain⟨_,_,_,_,o,_,_,e,_⟩:=x;simp_all
 | dT b=>obtain⟨_,_,_,_,o,_,_,e,_⟩:=x;simp_all
 | set S n=>obtain⟨o,_,_,_,e,_⟩:=x;simp_all
 | ins C v d=>obtain⟨_,_,_,e,_⟩:=x;simp_all
 | own y=>exact x
 | xd d=>obtain⟨_,⟨_,_,_,e,_⟩,_⟩:=x;simp_all
 | rng lo B=>obtain⟨_,_,_,e⟩:=x;simp_all
 | frz z u=>obtain⟨e,_⟩:=x;simp_all
 | tbl t=>exact⟨_,x⟩
 | met f y=>exact⟨_,x⟩
 | ext φ=>obtain⟨_,e,_⟩:=x;omega
section
variable {X:Cx} {pins:VA (VH×MQ)} {σ:St} {H:Hp} {s:VF}
def Inv.laidN {N:VH->VE HO} (I:Inv X pins σ H s) (k:∀ b u,s.heap.get? b=some u->h.get? b=some u) (j:∀ a o,N a=some o->s.heap.get? a=none/\∀ l,ObjOk X.prog X.w l h a o) :
  Inv X pins σ (fun b=>(N b).or (H b)) {s with heap:=h,toks:=tk}:=by
 have d:∀ b u,s.heap.get? b=some u->N b=none:=fun b u i=>by
  cases q:N b with
  | none=>rfl
  | some o=>rw[(j b o q).1]at i;cases i
 have c:∀ b u,H b=some u->(N b).or (H b)=some u:=fun b u q=>by
  have⟨v,p⟩:=(I.hok b u q).there';rw[d b v p,UQ];omega
 refine I.un ⟨fun b o q _ _ _=>k b o q,fun b o q _ _ _=>⟨_,k b o q⟩,fun b o q n _=>?_,fun b o q _=>⟨o,k b o q⟩,fun b m q=>c b _ q,fun b o u q=>c b _ q,fun b r q=>⟨#[],by rw[c b _ q];simp⟩⟩ fun a o q=>?_;rw[d b o q,UQ];omega;cases e:N a with
 | some u =>
  simp_all
 | none =>
  rw[e]at q;exact(I.hok a o q).stay (fun b u _ z=>k b u z) (fun b z=>c b _ z) fun b m z=>c b _ z
end
def ivO (p d:VH):HO:=.ext fun h=>h.IsItemsView p d
def Zi1:MtR X "dict.items" (fun x vs H Q=>∃ d kvs,x= .ref d/\vs=[]/\H d=some (.dK kvs)/\∀ p,H p=none->Q (.ref p) (upd H p (ivO p d))):=by
 intro f s σ H x vs v n Q I i l h;refine Ll h fun d kvs m a j q=>?_;subst m;subst a;cases i;cases l;obtain⟨t,lo,g,y,c⟩:=Zfp I.hok j;refine GW LN c.typeIs PySem.F.entry_dict_items (PySem.F.args_dict_items_1 _) (meets_dict_items _ d lo) ⟨⟨_,c⟩,⟨.ref s.heap.objs.size,_,I.laid (fun b u e=>Qc _ e) (Qh _) ?_,rfl,q _ (I.hok.fresh (Qh _))⟩⟩;refine⟨⟨_,Qk _ rfl,rfl,rfl⟩,⟨_,Qk _ rfl⟩,fun w z ⟨o,e,r⟩ k=>⟨o,k o e,r⟩⟩
def ZgE (ks:VA VI) (p) (e:Srt.Pm ks.length p):(p.toList.map fun i=>ks.getD i "").Perm ks:=by
 have f:=(WA.mp e.perm).map fun i=>ks.getD i "";have g:((Qz ks.length).toArray.toList.map fun i=>ks.getD i "")=ks:=by
  apply QY;intro i;simp only[Qi];by_cases b:i<ks.length
  rw[Wd b,Qa b,Wg,Zak b];rw[Qr (by simp;exact Kr b),Qr (Kr b)];rfl
 rw[g]at f;omega
def Zmw (td:TE):TE:=fun σ H Q=>td σ H fun x H1=>∃ d kvs,x= .ref d/\H1 d=some (.dK kvs)/\∀ p,H1 p=none->Q (.ref p) (upd H1 p (ivO p d))
def Zbr {b c} (p:PE X o z) (e:OO o "items" X.env (NQ o X.env)=NQ o X.env:=by rfl) (f:(b.endLine==c.line)=true:=by rfl) :
  PE X (.Call (.Attribute o "items" b) [] [] c) (Zmw z):=by
 intro a s σ H Q I h;refine LM e f (thn (p a s σ H _ I h) fun v y ⟨x,q,m,A,d,i,n,l,r⟩=>?_);subst n;obtain rfl:v=Value.ref d:=A;obtain⟨w,t,_⟩:=Zhy m (.inl ⟨i,.inl l⟩);exact⟨_,_,RX,LN,PySem.F.type_dict_items,w,t,MG rfl (Dx (Zi1 a y σ q (.ref d) [] _ [] Q m rfl .nil ⟨d,i,rfl,rfl,l,r⟩))⟩
open PySem PySem.Spec PyProof.Rows
structure XCls (K:VB) (mg:VI->VE VG) (x:VI) (C:VH) (bm:VA VG):Prop where
 bound:mg x=some (.ref C)
 look:∃ nm q N bs hdct sn sB ab col dd k0 k1 k2 k3 k5,K.lookup C=some (G3 nm q C N bs bm hdct sn sB ab col dd k0 k1 k2 k3 k5 "ValueError.__new__") /\
  PySem.W.nsOkIn K N=true/\VT K N "__init__" = some none
 tail:PySem.W.tailIn K [.type "ValueError",.type "Exception",.type "BaseException",.type "object"] bm=true
noncomputable def Zke (K:VB) (C:VH):VA VG:=match K.lookup C with
 | some ⟨_,_,.cls cd,_⟩=>cd.mro.tail
 | _=>[]
def Zfz {K} (A:D x=some (.ref C)) (b:RS K C [.type "ValueError",.type "Exception",.type "BaseException",.type "object"] "ValueError.__new__" = true):XCls K D x C (Zke K C):=by
 unfold RS at b;cases d:K.lookup C with
 | none=>simp_all
 | some o =>
  rw[d]at b;split at b
  rename_i E k H q;injection q with r
  subst r;split at b
  rename_i j i y v F T n P h u;rw[Q0,Q0,Q0,Q0,Q0]at b;obtain⟨⟨⟨⟨⟨s,z⟩,V⟩,I⟩,M⟩,U⟩:=b;have J:=beq_iff_eq.mp s;have S:=beq_iff_eq.mp z;subst J;subst S;obtain⟨p,Q,t,R,w,B,N,m,O,f,e⟩:=k;have L:Zke K j=i:=by
   unfold Zke;rw[d];have g:t=Value.ref j::i:=h;rw[g];rfl
  rw[L];have c:e=false:=bp
  subst h;subst c;obtain⟨l⟩:=H;subst u;exact⟨A,⟨p,w,R,Q,B,N,m,O,f,E,y,v,F,T,P,d,M,(beq_iff_eq.mp U)⟩,I⟩
  simp_all
  simp_all
def XCls.at {K} (c:XCls K k x C e) (X:K.In h):∃ N nm q bs hdct sn g ab col dd k0 k1 k2 k3 k5 d,
  h.get? C=some (G3 nm q C N bs e hdct sn g ab col dd k0 k1 k2 k3 k5 "ValueError.__new__")/\h.Ns N d/\d "__init__" = none/\OwnTail h [.type "ValueError",.type "Exception",.type "BaseException",.type "object"] e:=by
 apply La;intros;obtain⟨nm,q,N,bs,hdct,sn,sub,ab,col,dd,k0,k1,k2,k3,k5,j,f,i⟩:=c.look;exact⟨N,nm,q,bs,_,sn,sub,ab,col,dd,k0,k1,k2,k3,k5,_,X _ _ j,.of_isNs (PySem.W.isNs_of_in X f),PySem.W.nsMap_none_of_in X f i,PySem.W.tail_of_in X c.tail⟩
def CXx (P:Oh) (w:Ol):CXT:=fun outer H s E e s'=>∃ (ea:VH) (cls a0:VG) (H':Hp) (B:Nu),e= .ref ea/\s'.os=s.os/\Gh s'.gens/\Un (frs outer) [] H H' s.heap s'.heap/\HOk P w H' s'.heap /\
 CK B outer ea cls a0 s'.heap/\(∀ b u,H' b=some u->∃ o,B.get? b=some o)/\(∀ b o,s.heap.get? b=some o->H b=none->b∉frs outer->B.get? b=some o) /\
 (∀ b o,s.heap.get? b=some o->b∉frs outer->∃ o',B.get? b=some o')/\E cls none H'
def HOk.stays {h h' B:Nu} (x:HOk P w H h) (g:∀ b u,H b=some u->∃ o,B.get? b=some o) (i:B.StaysIn h) (j:B.StaysIn h'):HOk P w H h':=fun a o e=>by
 have k:∀ b u,H b=some u->∀ v,h.get? b=some v->h'.get? b=some v:=fun b u q v l=>by
  obtain⟨m,d⟩:=g b u q;have c:=i b m d;rw[l]at c;cases c;exact j b v d
 exact (x a o e).stay (fun b v n q=>by grind) (fun _ q=>q) fun _ _ q=>q
def ZeG (h:env.frame=some L):frs (env::l)=L::frs l:=by
 unfold frs
 simp_all
def ObjOk.there (x:ObjOk P w H h a o):∃ u,h.get? a=some u:=by
 cases o with
 | lst j=>obtain⟨_,_,_,_,e⟩:=x;simp_all
 | tup j=>obtain⟨_,_,_,⟨_,e,_⟩,_⟩:=x;simp_all
 | dK b=>obtain⟨_,_,_,_,o,_,_,e,_⟩:=x;simp_all
 | dT b=>obtain⟨_,_,_,_,o,_,_,e,_⟩:=x;simp_all
 | set S n=>obtain⟨o,_,_,_,e,_⟩:=x;simp_all
 | ins C v d=>obtain⟨_,_,_,e,_⟩:=x;simp_all
 | own y=>exact x
 | xd d=>obtain⟨_,⟨_,_,_,e,_⟩,_⟩:=x;simp_all
 | rng lo B=>obtain⟨_,_,_,e⟩:=x;simp_all
 | frz z u=>obtain⟨e,_⟩:=x;simp_all
 | tbl t=>exact⟨_,x⟩
 | met f y=>exact⟨_,x⟩
 | ext φ=>obtain⟨_,e,_⟩:=x;omega
structure Lv (X:Cx) (E:XK):Prop where
 ex:X.ex=[]
 stk:X.stack=X.env::X.outer
 fr:X.env.frame=some X.env.locals
 xe:∀ e s',Oe (Oc X.prog X.w) X.A (leaving X.env e) (fun _ s''=>CXx X.prog X.w X.outer X.H₀ X.s₀ E e s'') (fun e' s''=>CXx X.prog X.w X.outer X.H₀ X.s₀ E e' s'') s'->X.xe e s'
section
variable {X:Cx} {E:XK} {pins:VA (VH×MQ)} {σ:St} {H:Hp} {s:VF}
def Lv.frs (L:Lv X E):frs X.stack=X.env.locals::X.fs:=by exact L.stk▸ZeG L.fr
def Lv.old (L:Lv X E) (I:Inv X pins σ H s) (q:X.s₀.heap.get? b=some o) (a:b∉X.fs):b∉L2.frs X.stack:=by
 rw[L.frs,Qs];rintro(z | z);exact VM (QP (Ql q) (z▸I.ok.above)) (Q2 _)
 simp_all
def Lv.noex (L:Lv X E) (b):b∉X.ex:=by rw[L.ex];simp
def Lv.raised (L:Lv X E) (I:Inv X pins σ H s) (v:Heap.MadeExcOf s.heap D e (.ref C) w) (N:E (.ref C) none H):X.xe (.ref e) {s with heap:=D}:=by
 have p:∀ f∈X.stack,∀ b,f.frame=some b->b∈L2.frs X.stack:=fun f G b a=>UT.mpr ⟨f,G,a⟩;have O:=PySem.W.funFrames_hide I.stack p;have r:∀ b o,s.heap.get? b=some o->b∉L2.frs X.stack->(RU s.heap _).get? b=some o:=fun b o q n=>Dv _ q n;rw[L.stk]at O;refine L.xe _ _ (wpAny_leaves_madeW (base:=RU s.heap (L2.frs X.stack)) (by exact L.stk▸I.ok.frames) L.fr (fun b o q=>TN _ q) (by rw[L.stk];omega) v fun K t k P Q M=>?_);have x:∀ b u,H b=some u->∃ o,(RU s.heap _).get? b=some o:=fun b u q=>by
  obtain⟨o,j⟩:=(I.hok b u q).there;exact⟨o,r b o j fun z=>by rw[I.stkFree b z]at q;grind⟩
 have B:=fun b o q n a=>r b o (I.base.keep b o q n a (L.noex b)) (L.old I q a);have y:∀ b o,X.s₀.heap.get? b=some o->b∉L2.frs X.outer->∃ c,(RU s.heap _).get? b=some c:=fun b o q a=>by
  obtain⟨c,g⟩:=I.base.there b o q (L.noex b);exact⟨c,r b c g (L.old I q a)⟩
 have A:∀ b∈L2.frs X.outer,∀ o,s.heap.get? b=some o->∃ J,K.get? b=some _:=fun b a o q=>by
  obtain⟨_,c,j,F⟩:=I.stack.mem (by show b∈L2.frs X.stack;exact L.frs▸Qm _ a);rw[q]at j;cases j;exact M b o (v.keeps b o q) F
 refine Pe e _ _ H _ ⟨rfl,I.os,I.bare,⟨fun b o q n a _=>k.1 b o (B b o q n a),fun b o q n a _=>?_,fun b o q n _=>I.base.free b o q n (L.noex b),fun b o q _=>?_,I.base.tups,I.base.frzs,I.base.tbls⟩,I.hok.stays x (fun b o q=>TN _ q) k.1,k,x,B,y,N⟩
 obtain⟨J,g⟩:=I.base.slot b o q n a (L.noex b);obtain⟨i,m⟩:=A b a _ g;exact⟨i,m⟩;by_cases a:b∈L2.frs X.outer
 obtain⟨c,g⟩:=I.base.there b o q (L.noex b);obtain⟨i,m⟩:=A b a _ g;exact⟨_,m⟩;obtain⟨c,g⟩:=y b o q a;exact⟨c,k.1 b c g⟩
def Zmt (E:XK) (C:VH) (t:TA):TS:=fun D σ H=>t σ H fun vs H1=>vs.length<=Od/\E (.ref C) none H1
def ZiB {Y b pos} (L:Lv X E) (c:XCls X.K X.mg x C n) (d:X.calm=true) (B:PA X (a::es) t) (Q:Gl X x:=by rfl) (A:(x==("__debug__"))=false:=by decide)
  (u:Oi (a::es) X.env=(false,NQ a X.env)::Oi es X.env:=by rfl) (G:(OE b (Oi es X.env)).any (·.1)=false:=by rfl) :
  PS X (.Raise (some (.Call (.Name x Y) (a::es) [] b)) none pos) (Zmt E C t):=by
 intro g s σ H D I h;obtain⟨N,W,q,V,i,M,sub,U,m,z,K,F,O,S,R,p,P,w,l,T⟩:=c.at I.mod.kin;have f:(OE b (Oi (a::es) X.env)).any (·.1)=false:=by
  rw[u]
  trivial
 refine wpAny_Raise_call_subU (nm:=W) (q:=q) (N:=N) (bs:=V) (hdct:=i) (sn:=M) (sub:=sub) (ab:=U) (col:=m) (dd:=z) (k0:=K) (k1:=F) (k2:=O) (k3:=S) (k5:=R)
  TX (by decide) TX (T.hasType PySem.F.excBase_ValueError.hasBase) (I.ok.hd d) f l (Jo I Q c.bound ⟨rfl,?_⟩ A)
 have o:=B b g s σ H _ I h;rw[u]at o ⊢;refine MT (Os o (fun v s2 ⟨vs,H2,j,r,hl,Z⟩=>⟨rfl,?_,?_⟩) fun _ _ y=>y);rw[←r.length];omega;exact⟨j.bk _ _ P,w.keeps j.bk,T.keeps j.bk,fun h1 e J=>L.raised j J Z⟩
end
def Fun.okX {K} {st} (F:Fun K x c st f v) (S:Zp N m (Zf st)) (g:∀ vs H Q E,l vs H Q E->vs.length=m.length)
  (d:∀ (X) (vs) (H) (Q) (E) (b) (A) (a) (s),X=Zfq (CXx P w) P w K j base N c (Zf st) f b A a s H E->Lv X E->Room k X.A->l vs H Q E ->
   ∃ t,PSs (Zfq (CXx P w) P w K j base N c (Zf st) f b A a s H E) (ZO st) t/\t {nx:=fun _ u=>Q .non u,rt:=Q} (start N vs) H):FnOk P w K j base (CXx P w) (k+1) f v m l:=by
 obtain⟨C,z,kV,q,y,D,b,B,r,rfl,n,i⟩:=F.ex;exact Zjr n i S g fun A a s H vs Q E p e=>d _ vs H Q E b A a s rfl ⟨rfl,rfl,rfl,fun _ _ h=>h⟩ p e
structure Zmj (P:Oh) (w:Ol) (K:VB) (mg:VI->VE VG) (base:Nu) (k:VC) (name:VI) (ps:VA VI) (sp:Sp):Prop where
 ex:∃ f fd,FnOk P w K mg base (CXx P w) k f fd ps sp/\Binds K fd ps []/\mg name=some (.ref f)/\NU K (.ref f)=true
def HasDef.okX {K} {st} (D:HasDef K i name st j) (S:Zp N j (Zf st)) (g:∀ vs H Q E,n vs H Q E->vs.length=j.length)
  (d:∀ (f) (c) (A) (a) (s) (vs) (H) (Q) (E),Lv (Zfq (CXx P w) P w K i base N name (Zf st) f c A a s H E) E->Room k (A.deeper (Gc name (Zf st) s.heap.objs.size f c))->n vs H Q E ->
   ∃ t,PSs (Zfq (CXx P w) P w K i base N name (Zf st) f c A a s H E) (ZO st) t/\t {nx:=fun _ o=>Q .non o,rt:=Q} (start N vs) H):Zmj P w K i base (k+1) name j n:=by
 obtain⟨f,p,F,b,m⟩:=D.ex;refine⟨f,p,F.okX S g fun X vs H Q E c A a s e l r h=>?_,b,m,F.kp⟩;subst e;exact d f c A a s vs H Q E l r h
section
variable {X:Cx} {pins:VA (VH×MQ)} {σ:St} {H:Hp} {s:VF}
def X0 (I:Inv X pins σ H s) (L:X.N.Nodup) (hi:X.N[i]?=some n) (Y:X.env.scope.names.lookup n=some .local)
  (h:∀ J,Inv X pins (σ.set i none) H J->Q () J):Oe M A (do bindName X.env n .none;unbindBehindTheSuite X.env n pos) Q E s:=by
 have⟨m,U,V⟩:=id I.loc;have t:(X.env.scope.kind==.class || (X.env.scope.kind==.module&&X.env.locals != X.env.globals))=false:=by rw[I.ok.kind];rfl
 refine wpAny_nameGoes_keeps Y U t fun R v x a=>?_;have f:∀ b o,X.s₀.heap.get? b=some o->b≠X.env.locals:=fun b o e=>QB (QP (Ql e) I.ok.above);refine h _ ⟨I.ok,I.os,I.bare,⟨fun b o e n u l=>(a.2 b (f b o e)).trans (I.base.keep b o e n u l),fun b o e n u l=>?_,I.base.free,fun b o e l=>?_,I.base.tups,I.base.frzs,I.base.tbls⟩,⟨_,x,fun j y T g D B=>?_⟩,fun y c e=>?_,I.free,I.freeC,fun p w=>?_,fun b Z e=>?_,by simpa using I.len⟩
 have⟨S,g⟩:=I.base.slot b o e n u l;exact⟨S,(a.2 b (f b o e)).trans g⟩
 have⟨O,g⟩:=I.base.there b o e l;exact⟨O,(a.2 b (f b o e)).trans g⟩
 have F:j≠i:=by
  rintro rfl;have C:j<σ.length:=by exact I.len▸(Qj.mp hi).1
  simp_all
 rw[UM (VS F)]at D;have⟨W,K,q⟩:=V j y T g D B;refine⟨W,K,?_⟩;rcases q with ⟨k,e⟩ | ⟨k,c,e,z⟩
 have N:y≠n:=fun z=>F (Zbw L g (z▸hi));exact .inl ⟨k,(if_neg N).trans e⟩
 exact .inr ⟨k,c,e,z.sameBut a (I.cne y c e)⟩
 have⟨G,z⟩:=I.cell y c e;exact⟨G,z.sameBut a (I.cne y c e)⟩
 have⟨e,n,f,P,d⟩:=I.pin p w;exact⟨(a.2 p.1 f).trans e,n,f,P,d⟩
 refine(I.hok b Z e).stay (fun c G t q=>(a.2 c fun z=>?_).trans q) (fun _ q=>q) fun _ _ q=>q;subst z;rcases t with z | z
 rw[←z,I.free]at e;grind
 rw[I.free]at z;grind
noncomputable abbrev Cx.caught (X:Cx) (ea:VH) (pn:VA (VH×MQ)):Cx:={X with A:=X.A.mark (some (.ref ea)),calm:=false,pn:=pn,xe:=fun _ _=>False}
def Inv.caught (I:Inv X pins σ H s) (i:s.heap.get? a=some oe) (h:H a=none) (f:a≠X.env.locals) (g:a∉X.fs) (j:∀ v,oe.data≠.cell v):Inv (X.caught a (X.pn++pins++[(a,oe)])) [] σ H s :=
 ⟨⟨I.ok.mod,I.ok.kind,I.ok.glob,I.ok.blt,I.ok.above,I.ok.inj,I.ok.has,I.ok.cab,fun z=>(QS z).elim,I.ok.frames,I.ok.stk,I.ok.exf,I.ok.bs,I.ok.bsz,I.ok.noex,I.ok.exfs,I.ok.funs,I.ok.frf⟩,I.os,I.bare,I.base,I.loc,I.cell,I.free,I.freeC,fun p e=>by
  have b:p∈X.pn++pins++[(a,oe)]:=by simpa using e
  rcases QA.mp b with z | z
  exact I.pin p z;rw[Qq.mp z];exact⟨i,h,f,g,j⟩,I.hok,I.len⟩
def Inv.uncaught (c:X.Ok) (I:Inv (X.caught d (X.pn++pins++q)) a σ H s):Inv X pins σ H s :=
 ⟨c,I.os,I.bare,I.base,I.loc,I.cell,I.free,I.freeC,fun p b=>I.pin p (QM _ (QM _ b)),I.hok,I.len⟩
end
def ZaC
  {os} (z:h.get? C=some (G3 nm q C N bs m hdct sn P ab col dd k0 k1 k2 k3 k5 D)) (j:h.get? f=some (G3 r R f L w i k B n y l o O J a H F s))
  (p:h.get? e=some oe) (c:oe.cls= .ref C) (S:i.contains (.type "BaseException")=true) (v:m.contains (.ref f)=true) (G:Q true ⟨h,g,d,t,os⟩):Oe M A (excMatches (.ref e) (.ref f)) Q E ⟨h,g,d,t,os⟩:=by
 have x:(Value.ref f::i).contains (.type "BaseException")=true:=bp
 have u:(Value.ref C::m).contains (.ref f)=true:=by rw[List.contains_cons,v,Bool.or_true]
 have I:=tc_notTuple
 repeat (first
  | (with_reducible refine SK p ?_;rw[c])
  | with_reducible refine SK j ?_
  | (with_reducible refine Dy j ?_;rw[x])
  | (with_reducible refine Dy z ?_;rw[u])
  | wp_step)
 omega
def ZlY (D:Zfy) (i:VC):Zfy:={nx:=fun σ H=>D.nx (σ.set i none) H,rt:=D.rt,bk:=fun σ H=>D.bk (σ.set i none) H,ct:=fun σ H=>D.ct (σ.set i none) H}
structure ZbV (K:VB) (C:VH):Prop where
 ga:findIn K (.ref C) "__getattribute__" = some (some (.builtin "BaseException.__getattribute__"))
 gx:findIn K (.ref C) "__getattr__" = some none
 gc:findIn K (.ref C) "__class__" = some (some (.builtin "object.__class__"))
 sp:specialIn K (.builtin "object.__class__") "__get__" = some (some (.builtin "getset_descriptor.__get__"))
 tk:takesIn K (.builtin "object.__class__")=some true
 mo:mroIn K C (.type "object")=some true
 mb:mroIn K C (.type "BaseException")=some true
 cl:(clsIn K C).isSome=true
section
variable {prog:Oh} {w:Ol} {A:NC} {E:VG->VF->Prop} {s:VF} {K:Frag} {a C:VH} {o:MQ}
def ExAt (h:Nu) (a C:VH):Prop:=∃ o,h.get? a=some o/\o.cls= .ref C
def ExAt.type (x:ExAt h a C):Looks M h (C6 (.ref a)) (.ref C):=by
 obtain⟨o,f,e⟩:=x;exact e▸(Looks.ld f).andThen .now
def Zjv (T:ZbV K C) (X:K.In h):Looks M h (Builtin.ObjectAttr.find (.ref a) (.ref C) "__class__") (.bind (.builtin "getset_descriptor.__get__") (.builtin "object.__class__")):=by
 have f:Looks M h (Builtin.ObjectAttr.dataDescriptor? (some _) (some (.builtin "getset_descriptor.__get__"))) _:=(looks_takesIn (M:=M) X T.tk).andThen .now;exact(looks_findIn (M:=M) X T.gc).andThen ((looks_specialIn X T.sp).andThen (f.andThen (Looks.tag .now)))
def ZbN (T:ZbV K C) (X:K.In s.heap) (x:ExAt s.heap a C) (h:R (.ok (.ret (.ref C))) s) :
  OF (Oc prog w) A (.call (.builtin "getset_descriptor.__get__") ⟨[.builtin "object.__class__",.ref a,e],[]⟩) R s:=by
 have f:=x.type (M:=Oc prog w);have d:=looks_mroIn (M:=Oc prog w) X T.mo;refine W2
  KF.slot_gs.plain
  KF.entry_gs
  (KF.slot_gs.check _ _ _ _ _ _ _ _
   KF.type_class (KF.args_gs _ _ _) ?_)
 unfold NP.«getset_descriptor.__get__» KP;refine Oa (Ob ?_);unfold LQ TY YP;simp[KF.owner_class]
 repeat lk
 refine ⟨Code.quiet_builtin _ bo,Ov KF.entry_class ?_⟩;unfold NP.«object.__class__»
 repeat lk
 omega
def ZhO (T:ZbV K C) (X:K.In s.heap) (I:ExAt s.heap a C) (h:Q (some (.ref C)) {s with toks:=s.toks+1}):Oe (Oc prog w) A (getAttr? (.ref a) "__class__") Q E s:=by
 obtain⟨k,g,d,t,_⟩:=s;have c:=I.type (M:=Oc prog w);have m:(onTheHeap (Value.ref C)&&Ct "BaseException.__getattribute__" == Ct "object.__getattribute__")=false:=by
  simp
 refine Oa (wpAny_mkText (Oa (Ox (On (Oa (c.at (Oa ((looks_findIn (M:=Oc prog w) X T.ga).at ?_))))))));dsimp only;refine Oa ((looks_findIn (M:=Oc prog w) X T.gx).at (Oa (Ox (On ?_))));unfold callGetattribute boundAndCalled;refine Oa (Ob ?_);have l:builtinKind "BaseException.__getattribute__" = some .slot:=by rfl
 have j:splitId "BaseException.__getattribute__" = some ("BaseException","__getattribute__"):=by rfl
 exact Gj (W2 PySem.F.attrBase_ValueError.ga.plain F.entry_bexc_ga (Oa (Oa (c.at ((looks_mroIn (M:=Oc prog w) X T.mb).at (Ou (a:=()) (F.args_bexc_ga (.ref a) (.str "__class__" t)) (Oa (Ob (Oa (Ob (Oa (c.at (Oa ((Zjv (M:=Oc prog w) (a:=a) T X).at (Oa (On (Gj (ZbN T X I (Ob (handed_on rfl (Ob h)))))))))))))))))))))
def ZeC (T:ZbV K C):KitX K (.ref a) (.ref C) (fun h=>ExAt h a C) where
 ty:=fun _ _ _ I=>I.type
 it:=fun _ _ X _=>by
  have b:=T.cl;unfold clsIn at b;split at b
  rename_i l o g d c;intro t v r p k q;exact Oa (FJ (k _ _ (X _ _ c)) (Ob q))
  simp_all
 ne:=fun h u s m n w X i=>by
  have b:=T.cl;refine Ru.mpr fun q=>?_;have e:=Value.ref.inj (beq_iff_eq.mp q);subst e;unfold clsIn at b;split at b
  rename_i l o g d c;cases (X _ _ c).symm.trans i
  simp_all
 ca:=fun X I k=>ZhO T X I k
end
def Zem {X:Cx} {σ:St} (I:Inv (X.caught a e) pins σ H s) (b:(a,oe)∈e) (c:oe.cls= .ref C):ExAt s.heap a C :=
 ⟨oe,(I.pin _ (QM _ b)).1,c⟩
def ZcN {X:Cx} (l:(j,oe)∈o):CallR (X.caught j o) (.builtin "isinstance") (fun xs H Q=>∃ (c:V) (C:VH) (cv:VG) (b:NY),xs=[.ref j,c]/\oe.cls= .ref C/\ZbV X.K C/\Zpd c=some cv/\kitOne X.K (.ref C) cv=some b/\Q (.bl b) H):=by
 intro i s σ H xs t Q I r h;refine L5 h fun c C cv b a k T g e q=>?_;subst a;refine Lw (ZeR r) fun u w a f d=>?_;subst a;subst f;have p:=by
  cases c with
  | ty n=>exact d.trans (VQ g)
  | ref n=>exact d.trans (VQ g)
  | _=>cases g
 subst p;exact kia_one (ZeC T) I.kIn (Zem I l k) e (fun z=>nomatch z) fun x=>⟨.bl b,H,I.tok _,rfl,q⟩
def Zh4 {X:Cx} (A:(j,oe)∈p):CallR (X.caught j p) (.builtin "isinstance") (fun xs H Q=>∃ (t C:VH) (cs:VA VH) (b:NY),xs=[.ref j,.ref t]/\oe.cls= .ref C/\ZbV X.K C/\H t=some (.tup (cs.map V.ref)) /\
  kitAny X.K (.ref C) (cs.map Value.ref)=some b/\Q (.bl b) H):=by
 intro l s σ H xs P Q I r h;refine L5 h fun t C cs b f v T G e q=>?_;subst f;refine Lw (ZeR r) fun u O f m k=>?_;subst f;subst m;subst k;refine L8 (I.hok t _ G) fun _ a E f _=>?_;obtain⟨o,L,B,n,K⟩:=f;have y:=by
  have i:∀ (cs:VA VH) (a:VA VG),Vals (cs.map V.ref) a->a=cs.map Value.ref:=by
   intro cs;induction cs with
   | nil=>intro a r;cases r;rfl
   | cons c cs J =>
    intro a r;cases r with
    | cons x w =>
     rw[J _ w,x];rfl
  exact i cs a E
 subst y;obtain⟨_⟩:=o;subst B K;exact kia_tup (ZeC T) I.kIn (Zem I A v) L e (fun z=>nomatch z) fun N=>⟨.bl b,H,I.tok _,rfl,q⟩
def Zos:JA (CXx X.prog X.w) X E0:=fun _ _ _ _ _ _ _ h=>by
 obtain⟨_,_,_,_,_,_,_,_,_,_,_,_,_,_,z⟩:=h;exact z.elim
def Zj6 {p pos} (G:Zmj X.prog X.w X.K X.mg X.base k name u r) (j:Room k X.A) (l:PA X (e::es) t) (o:Gl X name:=by rfl)
  (a:(name==("__debug__"))=false:=by decide) (n:Oi (e::es) X.env=(false,NQ e X.env)::Oi es X.env:=by rfl) (c:(OE pos (Oi es X.env)).any (·.1)=false:=by rfl) :
  PE X (.Call (.Name name p) (e::es) [] pos) (ZkQ r [] E0 t):=by
 obtain⟨f,s,F,b,m,q⟩:=G.ex;exact ZgH F j o m q b .nil Zos l a n c
def ZpO:Op "ValueError" = some (.type "ValueError"):=by rfl
def Zjd {K}:MS K v v=some true:=by
 unfold MS;simp
def ZmQ {d a} {T id} (K) (A:FL T) (j:CH T name id) (p:C6 (.builtin id)=pure (.type "method_descriptor")) (y:MtR X id r) (B:PE X o C) (z:PA X (e::es) t)
  (u:X.K=K:=by rfl) (h:OO o name X.env (NQ o X.env)=NQ o X.env:=by rfl)
  (l:((OE a (Oi (e::es) X.env)).all (fun x=>!x.1)&&(Ga a (OR [] X.env)).all (fun x=>x.1.isSome)
   && decide ((e::es).length+([]:VA GE).length+(if ([]:VA GE).isEmpty then 0 else 1)<30))=true:=by rfl)
  (g:(d.endLine==a.line)=true:=by rfl) (v:Oi (e::es) X.env=(false,NQ e X.env)::Oi es X.env:=by rfl) (c:(OE a (Oi es X.env)).any (·.1)=false:=by rfl) :
  PE X (.Call (.Attribute o name d) (e::es) [] a) (tBM K T r C t):=by
 subst u;exact XS A j p y B z h l g v c
def Yj:MtR X "list.append" Zdd:=X1
def Zb9:∀ bs:VA NY,RepA H (bs.map Fp) (bs.map V.bl)
 | []=>by rfl
 | b::bs=>⟨.bl b,bs.map V.bl,rfl,by rfl,Zb9 bs⟩
def Zca {bs:VA NY} (h:H a=some (.lst (bs.map V.bl))):RepD H (.list (bs.map Fp)) (.ref a):=⟨a,_,rfl,h,Zb9 bs⟩
def hasDef_mk {K} {st} {kV r m n j} (X:K.In h) (G:h.Ns Oj t)
  (a:VT K Oj name=some (some (.ref f))) (l:K.lookup f=some ⟨u,w,.func (ND name name (Z9 st) (ZO st) (Zf st) .none kV r m p n j),v⟩) (c:MB K n name=true) (k:NU K (.ref f)=true)
  (s:∀ (kV b m) (p) (d j) (i),i.length=o.length->GV (ND name name (Z9 st) (ZO st) (Zf st) .none kV b m p d j) ⟨i,[]⟩=pure (o.zip i)):HasDef K t name st o :=
 ⟨_,_,ZhJ l c k,(ZhJ l c k).binds s,NS X G a⟩
abbrev Zo0:VA VG:=[.type "ValueError",.type "Exception",.type "BaseException",.type "object"]
def xattr_mk {K} (g:VZ K (.ref C) "__getattribute__" = some (some (.builtin "BaseException.__getattribute__"))) (f:VZ K (.ref C) "__getattr__" = some none) (e:VZ K (.ref C) "__class__" = some (some (.builtin "object.__class__"))) (h:SE K (.builtin "object.__class__") "__get__" = some (some (.builtin "getset_descriptor.__get__"))) (tk:Fx K (.builtin "object.__class__")=some true) (d:RP K C (.type "object")=some true) (i:RP K C (.type "BaseException")=some true) (j:Cu K C=some cv):ZbV K C:=⟨g,f,e,h,tk,d,i,bp⟩
def up_of {K} (e:RP K C (.ref S)=some true) (q:RS K C d B=true) (a:(S==C)=false):(Zke K C).contains (.ref S)=true:=by
 unfold RP Cu at e;unfold RS at q;unfold Zke;cases i:K.lookup C with
 | none=>grind
 | some o =>
  rw[i]at q e;split at q
  rename_i u l r h;injection h with f
  subst f;split at q
  rename_i m y A w t x n s j v;rw[Q0,Q0,Q0,Q0,Q0]at q;have c:=beq_iff_eq.mp q.1.1.1.1.1;subst c;dsimp only[Option.bind]at e ⊢;rw[j]at e ⊢;injection e with g
  rcases(Bool.or_eq_true ..).mp g with z | z
  injection (MY z)with k
  rw[k,Fj]at a;cases a
  simp_all
  cases q;cases q
def Xu {A B:Prop} (h:c=true) (a:A):if c=true then A else B:=bp
def Ys {A B:Prop} (h:c=false) (b:B):if c=true then A else B:=bp
def ZhA (h:¬ a=b):decide (V.int a=V.int b)=false:=VO fun q=>h bp
def ZhB (h:a=b):decide (V.int a=V.int b)=true:=VR (NA V.int h)
open PySem PySem.Spec PyProof.Rows PySem.Builtin.Str
def Zg6:MtR X "str.startswith" (fun x vs H Q=>∃ z y,x= .str z/\vs=[.str y]/\Q (.bl (TZ z y)) H):=by
 intro b s σ H x vs v g Q I d c h;obtain⟨z,y,rfl,rfl,q⟩:=h;obtain⟨t,rfl⟩:=d;obtain⟨f,rfl,u,rfl⟩:=XL c;exact SC.startswith ⟨.bl _,H,I,rfl,q⟩
def Yc {i} (c:0<=i) (a:i<=x.length):(NH x (some i) none).cps.toList=x.cps.toList.drop i.toNat:=by
 rw[MY (slice_closes_fromL c a rfl)];simp[C7];exact Q4 (by simp;omega)
def Zb3 (z y):TZ z y=(decide (y.length<=z.length)&&(z.cps.toList.take y.length==y.cps.toList)):=by
 unfold TZ;rw[StrLaws.subAt_eq,Rp,Rb]
end L2
namespace Sh
open PySem L2 PyProof.Rows
noncomputable def bg (x:VI):VI:=tx x.cps.toList.dropLast
noncomputable def en (x:VI):VI:=tx (x.cps.toList.drop 1)
abbrev Es:=VA (VI×VN)
noncomputable def ind (p:Prop) [Fh p]:VN:=if p then 1 else 0
noncomputable def mo1 (e:VI×VN) (P:VI):VN:=e.2*ind (bg e.1=P)-e.2*ind (en e.1=P)
def mo (es:Es) (P:VI):VN:=(es.map fun e=>mo1 e P).sum
def Zha (es) (e) (P):mo (es++[e]) P=mo es P+mo1 e P:=by
 unfold mo;simp
def Zdv (e) (es:Es) (P):mo (e::es) P=mo1 e P+mo es P:=by
 rfl
def Zdu:∀ {es} {P},(∀ e∈es,bg e.1≠P/\en e.1≠P)->mo es P=0
 | [],_,_=>rfl
 | e::es,P,h=>by
  rw[Zdv,Zdu fun x b=>h x (Qm _ b)];obtain⟨a,c⟩:=h e Qo ..;unfold mo1 ind;rw[if_neg a,if_neg c];simp
def tot (f:VI->VN) (ks:VA VI):VN:=(ks.map f).sum
def Y4 (f) (x) (ks):tot f (x::ks)=f x+tot f ks:=by
 rfl
def Zbb (f g):∀ ks,tot (fun x=>f x+g x) ks=tot f ks+tot g ks
 | []=>rfl
 | x::ks=>by
  rw[Y4,Y4,Y4,Zbb f g ks];lia
def Zba (c) (y):∀ ks,ks.Nodup->tot (fun P=>c*ind (y=P)) ks=if y∈ks then c else 0
 | [],_=>rfl
 | x::ks,b=>by
  have a:=Q9.mp b;rw[Y4,Zba c y ks a.2];unfold ind;by_cases e:y=x
  subst e;rw[VD rfl,if_neg a.1,VD Qo ..];lia;rw[if_neg e];have:y∈x::ks↔y∈ks:=by simp[e]
  simp only[this];lia
def Za9:∀ ks,tot (fun _=>0) ks=0
 | []=>rfl
 | x::ks=>by rw[Y4,Za9 ks];rfl
def ZjI (a:ks.Nodup):∀ {es},(∀ e∈es,bg e.1∈ks/\en e.1∈ks)->tot (mo es) ks=0
 | [],_=>Za9 ks
 | e::es,h=>by
  have c:tot (mo (e::es)) ks=tot (fun P=>mo1 e P+mo es P) ks:=by
   rfl
  rw[c,Zbb,ZjI a fun x f=>h x (Qm _ f)];obtain⟨d,b⟩:=h e Qo ..;have g:tot (mo1 e) ks=tot (fun P=>e.2*ind (bg e.1=P) + -e.2*ind (en e.1=P)) ks:=by
   unfold tot;congr 1;refine Wl fun P _=>?_;unfold mo1;rw[Int.neg_mul];exact Tk
  rw[g,Zbb,Zba _ _ _ a,Zba _ _ _ a,VD d,VD b];lia
noncomputable def ups (f:VI->VN) (ss:VA VI):Es:=(ss.filter fun x=>decide (0<f x)).map fun x=>(x,f x)
noncomputable def sm (es:Es):VN:=(es.map fun e=>e.2).sum
def Za7 (f) (x) (ss):sm (ups f (x::ss))=(if 0<f x then f x else 0)+sm (ups f ss):=by
 unfold sm ups;rw[Wo];by_cases c:0<f x
 rw[VD c,VD (by simpa using c)];simp;rw[if_neg c,if_neg (by simpa using c)];simp
def ZfC (f):∀ ss,sm (ups f ss)-sm (ups (fun x=>-f x) ss)=tot f ss
 | []=>rfl
 | x::ss=>by
  have a:=ZfC f ss;rw[Za7,Za7,Y4];lia
def ZjG (h:∀ x,f x<=g x) (a:∀ x,0<=g x):∀ ss,sm (ups f ss)<=tot g ss
 | []=>Uu _
 | x::ss=>by
  have b:=ZjG h a ss;rw[Za7,Y4];have:=h x;have:=a x;lia
noncomputable def pcs (z:VA VC) (L:VC):VA VI:=(Qz (z.length-L+1)).map fun i=>tx ((z.drop i).take L)
def Adj (es:Es) (P y:VI):Prop:=∃ e∈es,(bg e.1=P/\en e.1=y)\/(en e.1=P/\bg e.1=y)
inductive Rch (es:Es) (a:VI):VI->Prop where
 | here:Rch es a a
 | step {P y:VI} (h:Rch es a P) (k:Adj es P y):Rch es a y
def Rch.closed {F:VI->Prop} (d:F a) (c:∀ P,F P->∀ y,Adj es P y->F y) (h:Rch es a y):F y:=by
 induction h with
 | here=>omega
 | step _ k e=>grind
def ZjB:Adj (es++[e]) P y↔Adj es P y\/(bg e.1=P/\en e.1=y)\/(en e.1=P/\bg e.1=y):=by
 unfold Adj;simp
def ZU (a:VN) (h:0<n):0<=a % n/\a % n<n:=⟨Uw _ (M8 h),Ug _ h⟩
def Zay (a b:VI):(a++b).cps.toList=a.cps.toList++b.cps.toList:=by simp[Str.cps_append]
def ZZ {a b:VI} (h:a.cps.toList=b.cps.toList):a=b:=by rw[←tx_eta a,←tx_eta b,h]
def XE (a b):tx a++tx b=tx (a++b):=by
 apply ZZ;rw[Zay,ZI,ZI,ZI]
def Zhv:∀ l:VA _,(TV "" (l.map tx))=tx l.flatten:=by
 have f:∀ l:VA _,(R0 "" (l.map tx)).cps.toList=l.flatten:=by
  intro l;induction l with
  | nil=>rfl
  | cons c r h =>
   cases r with
   | nil=>simp[R0,tx]
   | cons d q =>
    have e:R0 "" ((c::d::q).map tx)=tx c ++ "" ++ R0 "" _:=rfl;have j:("" : VI).cps.toList=[]:=rfl;rw[e,Zay,Zay,h,j,WK];rfl
 intro l;apply ZZ;have:TV "" _=R0 "" (l.map tx):=StrLaws.glued_eq_join _ _;rw[this,f,ZI]
def ZcF:∀ l:VA VC,(l.map fun c=>[c]).flatten=l
 | []=>rfl
 | a::l=>by rw[Q3,UB,ZcF l];rfl
def Zhu (l):TV "" (l.map fun c=>tx [c])=tx l:=by
 have h:=Zhv (l.map fun c=>[c]);rw[Ww,ZcF]at h;exact h
def ZoO (xs) (h:xs.length<=63):Zfr xs none (some 63)=xs:=by
 have a:HT.sIx xs.length 0 none=0:=rfl;have b:HT.sIx xs.length xs.length (some 63)=xs.length:=by
  unfold HT.sIx;simp;lia
 unfold Zfr;rw[a,b];simp
def ZaH:∀ (ys:VA VI) (m),(∀ y∈ys,y.length<=m)->(ys.map (·.length)).sum<=ys.length*m
 | [],m,_=>by simp
 | y::ys,m,h=>by
  have d:=ZaH ys m fun z b=>h z (Qm _ b);have e:=h y Qo;rw[Q3,Wc,QI,Nat.succ_mul];lia
def Zla (n) (l:VA VC):((Qw n l).flatten).length=n*l.length:=by
 simp
def Xh {i:VC} {v:V} (h:xs[i]?=some v):atI xs i=some v:=Zax h
def Zh8 (a:0<=i) (c:i<z.length):atI (tx z).cps.toList i=some (z.getD i.toNat 0):=by
 refine Jq a ?_;rw[ZI,Qb,Qa (Kg a c)];rfl
def Zeq:1<=Od:=be
def Zl (h:n<=1000):n<=Od:=Zx (Ks h)
def ZkJ {α:Type} {ns:VA α} {f} (e:vs.length=ns.length) (d:∀ (i:VC) (v:V),vs[i]?=some v->∀ c,ns[i]?=some c->v=f c):vs=ns.map f:=by
 apply QY;intro i;by_cases b:i<vs.length
 have a:i<ns.length:=K8 e b
 rw[Qa b,d i _ (Qa b) _ (Qa a),Qi,Qa a];rfl;rw[Qr (Kr b),Qr (by rw[Qd];exact Nh e b)]
def ZhH {α:Type} {ns:VA α} {f:α->V} (hi):(ns.map f).getD i .non=f ns[i]:=by
 rw[Qb,Qi,Qa hi];rfl
def ZfN {α:Type} {ns:VA α} {f} {i:VC} {x:V} (hi:(ns.map f)[i]?=some x):∃ h,x=f ns[i]:=by
 have h:=by
  have:=(Qj.mp hi).1;rw[Qd]at this;omega
 simp_all
seal PE PS PSs PT PW L2.PA PI PG PGs PO PC PCs OpR UnR CallR MtR IxR SlR
def JL (g:VI->V) (y):∀ ks:VA VI,XU (ks.map fun x=>((VJ x:Key),g x)) (VJ y)=if y∈ks then some (g y)else none
 | []=>rfl
 | x::ks=>by
  by_cases e:x=y
  subst e;rw[Q3,JC rfl,VD Qo];rw[Q3,JD fun q=>e (Sum.inr.inj q),(JL g y ks)];have:y∈x::ks↔y∈ks:=by
   rw[Qs];exact⟨fun h=>h.elim (fun q=>VM q.symm e) id,.inr⟩
  simp[this]
def ZaL (g:VI->V) (y) (v) (ks:VA VI) (h:y∈ks):Jl (ks.map fun x=>((VJ x:Key),g x)) (VJ y) v=ks.map fun x=>((VJ x),if x=y then v else g x):=by
 unfold Jl;rw[JE,JL,VD h];simp only[UU,Dt,Ww];apply Wl;intro x _;by_cases e:x=y
 subst e;simp;have:¬ (VJ x:Key)=VJ y:=fun q=>e (Sum.inr.inj q);simp[this,e]
def ZaI:∀ {l m:VA (VA VC)},l.Pairwise (· < ·)->m.Pairwise (· < ·)->(∀ x,x∈l↔x∈m)->l=m
 | [],[],_,_,_=>rfl
 | [],y::m,_,_,h=>VM ((h y).mpr Qo) (by simp)
 | x::l,[],_,_,h=>VM ((h x).mp Qo) (by simp)
 | x::l,y::m,j,i,h=>by
  have c:=Rq.mp j;have d:=Rq.mp i;have e:x=y:=by
   rcases Qs.mp ((h x).mp Qo)with z | z
   omega;rcases Qs.mp ((h y).mpr Qo)with g | g
   simp_all
   exact VM (RK (c.1 y g) (d.1 x z)) (Uo _)
  subst e;have k:=ZaI c.2 d.2 fun z=>by
   constructor;intro b;rcases Qs.mp ((h z).mp (Qm _ b))with q | q
   subst q;exact VM (c.1 z b) (Uo _);omega;intro b;rcases Qs.mp ((h z).mpr (Qm _ b))with q | q
   subst q;exact VM (d.1 z b) (Uo _);omega
  rw[k]
def gD (ks:VA VI) (g:VI->VN):VA (Key×V):=ks.map fun x=>((VJ x:Key),V.int (g x))
def ZaX (ks) (g):(gD ks g).length=ks.length:=by unfold gD;simp
def ZhI (ks) (g) (y):XU (gD ks g) (VJ y)=if y∈ks then some (.int (g y))else none:=JL _ y ks
def X7 (h:∀ x∈ks,g x=g' x):gD ks g=gD ks g':=Wl fun x m=>by rw[h x m]
def ZaW (ks) (g) (y) (n):Jl (gD ks g) (VJ y) (.int n)=gD (if y∈ks then ks else ks++[y]) fun x=>if x=y then n else g x:=by
 by_cases m:y∈ks
 rw[VD m];unfold gD;rw[ZaL _ _ _ _ m];apply Wl;intro x _;dsimp only;by_cases e:x=y
 rw[VD e,VD e];rw[if_neg e,if_neg e];rw[if_neg m,Zbp _ (by rw[ZhI,if_neg m])];unfold gD;rw[QK,WM];dsimp only;rw[VD rfl];congr 1;apply Wl;intro x c;have a:¬ x=y:=by
  grind
 rw[if_neg a]
end Sh
namespace Tim
open PySem PySem.W PyProof.Rows
section
variable {M:Model} {A:NC} {E:VG->VF->Prop} {σ:Type}
def Yh {m:MF σ DE α} {Q d} {st} (h:kasC M A E m Q st s) (f:∀ a b c,Q a b c->d a b c):kasC M A E m d st s :=
 Os h (fun r c g=>f _ _ _ g) fun _ _ e=>e
def Zhr {β} {f:VC->β->MF σ DE (NW β)} {Q:β->σ->VF->Prop} (I:VC->β->σ->VF->Prop) (b)
  (step:∀ i c st s,i<b->I i c st s->kasC M A E (f i c) (fun r a l=>match r with | .done g=>Q g a l | .yield g=>I (i+1) g a l) st s)
  (j:∀ c st s,I b c st s->Q c st s):∀ (n i) (c) (st) (s),i+n=b->I i c st s->kasC M A E (forIn (US i n) c f) Q st s
 | 0,i,c,st,s,e,h=>by
  exact kasC_nil (j c st s (by simp_all))
 | n+1,i,c,st,s,e,h=>by
  refine kasC_cons (Yh (step i c st s (by omega) h) fun r a l m=>?_);cases r with
  | done g=>omega
  | yield g=>exact Zhr I b step j n _ g a l (by omega) m
def Yx {f} {Q} {st} (I:VC->β->σ->VF->Prop) (h:I a c st s)
  (step:∀ i c st s,i<max a b->I i c st s->kasC M A E (f i c) (fun r d k=>match r with | .done g=>Q g d k | .yield g=>I (i+1) g d k) st s)
  (j:∀ c st s,I (max a b) c st s->Q c st s):kasC M A E (forIn [a:b] c f) Q st s :=
 kasC_range (Zhr I _ step j _ a c st s br h)
end
section
variable {prog:Oh} {w:Ol} {A:NC} {E:VG->VF->Prop}
structure JK (prog:Oh) (w:Ol) (A:NC) (κ:O4) (ϕ:Og->VC) (U:Og->Prop) (G:VF->Prop):Prop where
 ask:∀ (x y:Og) (C:NY->VF->Prop) (s:VF),U x->U y->G s->(∀ s',G s'->C (decide (ϕ x<ϕ y)) s')->Oe (Oc prog w) A (keyLt' κ x.1 y.1) C (fun _ _=>False) s
variable {κ:O4} {ϕ:Og->VC} {U:Og->Prop} {G:VF->Prop}
def Zhq (R:JK prog w A κ ϕ U G) {st:VX} (d:NK st=κ) (e:U x) (f:U y) (g:G s) (h:∀ a,G a->Q (some (decide (ϕ x<ϕ y))) st a) :
  kasC (Oc prog w) A E (lt' x y) Q st s:=by
 rw[lt'_eq];exact kasC_bind (kasC_get (d▸kasC_bind (kasC_lift (Ox (Os (R.ask x y (fun c a=>Q (some c) st a) s e f g h) (fun c a b=>kasC_pure b) fun _ _ i=>i.elim)))))
def ZN {st} (a:xs[i]?=some x) (h:Q x st s):kasC (Oc prog w) A E (OS xs i) Q st s:=by
 rw[elem'_eq,a];exact kasC_pure h
noncomputable def fx (ϕ:Og->VC) (xs:VL Og) (i:VC):VC:=match xs[i]? with
 | some p=>ϕ p
 | none=>0
def ZcC (h:xs[i]?=some x):fx ϕ xs i=ϕ x:=by unfold fx;rw[h]
def YR (h:xs[i]?=ys[j]?):fx ϕ xs i=fx ϕ ys j:=by unfold fx;rw[h]
def Al (U:Og->Prop) (xs:VL Og):Prop:=∀ (i:VC) x,xs[i]?=some x->U x
def Al.perm (h:Al U xs) (p:ys.Perm xs):Al U ys:=fun i x e=>by
 have:=p.mem_iff.mp (Array.mem_of_getElem? e);obtain⟨j,a,b⟩:=Array.getElem_of_mem this;exact h j x bp
noncomputable def ZbI:NY->Og->VL Og->VC->VC->VC->MF VX DE (VE VC):=sortPriv% PySem.Builtin.gallop
noncomputable def Zmf (lf:NY) (ky:Og) (ar:VL Og) (bs:VC) (i:VC):MF VX DE (VE NY):=do
 let el ←OS ar (bs+i)
 if lf then lt' el ky else return (←lt' ky el).map (!·)
def Zjm (b) (c) (d) (bs n a):ZbI b c d bs n a=(do
 let mut u:=0
 let mut v:=1
 let mut p:=0
 let mut q:=0
 let some g ←Zmf b c d bs a | return none
 if g then
  let e:=n-a
  for _ in [0:n] do
   if v≥e then break
   let some f ←Zmf b c d bs (a+v) | return none
   if !f then break
   u:=v
   v:=2*v+1
  p:=a+u+1
  q:=a+min v e
 else
  let e:=a+1
  for _ in [0:n] do
   if v≥e then break
   let some h ←Zmf b c d bs (a-v) | return none
   if h then break
   u:=v
   v:=2*v+1
  p:=a+1-min v e
  q:=a-u
 for _ in [0:n] do
  if p≥q then break
  let m:=p+(q-p) / 2
  let some f ←Zmf b c d bs m | return none
  if f then p:=m+1 else q:=m
 return some q):=rfl
noncomputable def Xj (ϕ:Og->VC) (lf:NY) (k:VC) (ar:VL Og) (bs i:VC):NY:=if lf then decide (fx ϕ ar (bs+i)<k)else !decide (k<fx ϕ ar (bs+i))
def ZeE (R:JK prog w A κ ϕ U G) {st:VX} (d:NK st=κ) (j:U l) (c:Al U b) (hi:bs+i<b.size) (g:G s)
  (h:∀ a,G a->Q (some (Xj ϕ f (ϕ l) b bs i)) st a):kasC (Oc prog w) A E (Zmf f l b bs i) Q st s:=by
 have e:=QT hi;refine kasC_bind (ZN e ?_);unfold Xj at h;rw[ZcC e]at h;cases f with
 | true =>
  exact Zhq R d (c _ _ e) j g fun a k=>bp
 | false =>
  refine kasC_bind (Zhq R d j (c _ _ e) g fun a k=>kasC_pure ?_);simpa using h a k
def ZaU (R:JK prog w A κ ϕ U G) {st:VX} (M:NK st=κ) (N:U d) (J:Al U a) (T:bs+n<=a.size)
  (r:∀ i j,i<=j->j<n->Xj ϕ b (ϕ d) a bs j=true->Xj ϕ b (ϕ d) a bs i=true) (g:G s) (F:C<=y) (K:y<=n) (L:∀ i,i<C->Xj ϕ b (ϕ d) a bs i=true) (O:∀ i,y<=i->i<n->Xj ϕ b (ϕ d) a bs i=false)
  (h:∀ q f,q<=n->(∀ i,i<q->Xj ϕ b (ϕ d) a bs i=true)->(∀ i,q<=i->i<n->Xj ϕ b (ϕ d) a bs i=false)->G f->Q (some q) st f):kasC (Oc prog w) A E (do
   let mut p:=C
   let mut q:=y
   for _ in [0:n] do
    if p≥q then break
    let m:=p+(q-p) / 2
    let some r ←Zmf b d a bs m | return none
    if r then p:=m+1 else q:=m
   return some q) Q st s:=by
 refine kasC_bind (Yx (fun t c k f=>∃ p q,c=(none,p,q)/\k=st/\G f/\p<=q/\q<=n/\(∀ i,i<p->Xj ϕ b _ a bs i=true)/\(∀ i,q<=i->i<n->Xj ϕ b _ a bs i=false)/\q-p<=n-t) ⟨C,y,rfl,rfl,g,F,K,L,O,br⟩ ?_ ?_);rintro t c k f V ⟨p,q,rfl,rfl,x,I,o,l,u,P⟩;apply Ld;intros;dsimp only;by_cases c:p≥q
 rw[VD c];have e:p=q:=Vw I c
 subst e;exact kasC_pure (kasC_pure (h p f o l u x))
 rw[if_neg c];refine kasC_bind (ZeE R M N J bq x fun W H=>?_);dsimp only;by_cases v:Xj ϕ b (ϕ d) a bs (p+(q-p) / 2)=true
 exact VD v▸kasC_pure ⟨_,q,rfl,rfl,H,bq,o,fun i S=>r i _ (Bm S) bq v,u,bq⟩
 rw[if_neg v];refine kasC_pure ⟨p,_,rfl,rfl,H,Kb,bq,l,fun i D B=>?_,bq⟩;cases z:Xj ϕ b _ a bs i with
 | false=>rfl
 | true=>exact VM (r _ i D B z) v
 rintro c k f ⟨p,q,rfl,rfl,x,I,o,l,u,P⟩;have e:p=q:=Bn I P
 subst e;exact kasC_pure (h p f o l u x)
def ZlV (R:JK prog w A κ ϕ U G) {st:VX} (D:NK st=κ) (F:U d) (H:Al U b) (O:bs+n<=b.size) (X:a<n)
  (I:∀ i j,i<=j->j<n->Xj ϕ f (ϕ d) b bs j=true->Xj ϕ f (ϕ d) b bs i=true) (g:G s)
  (h:∀ q k,q<=n->(∀ i,i<q->Xj ϕ f (ϕ d) b bs i=true)->(∀ i,q<=i->i<n->Xj ϕ f (ϕ d) b bs i=false)->G k->Q (some q) st k):kasC (Oc prog w) A E (ZbI f d b bs n a) Q st s:=by
 have Y:∀ i j,i<=j->j<n->Xj ϕ f (ϕ d) b bs i=false->Xj ϕ f (ϕ d) b bs j=false:=fun i j T Z e=>by
  grind
 rw[Zjm];refine kasC_bind (ZeE R D F H (Bh O X) g fun s1 g1=>?_);dsimp only;by_cases c:Xj ϕ f (ϕ d) b bs a=true
 apply Ld;intros;rw[VD c];apply Lc;intros;have J:∀ u v k,G k->a+u<n->u<v->Xj ϕ f (ϕ d) b bs (a+u)=true->(n-a<=v\/Xj ϕ f (ϕ d) b bs (a+v)=false)->a+u+1<=a+min v (n-a)/\a+min v (n-a)<=n/\(∀ i,i<a+u+1->Xj ϕ f (ϕ d) b bs i=true)/\∀ i,a+min v (n-a)<=i->i<n->Xj ϕ f (ϕ d) b bs i=false:=fun u v k o p B m N=>by
  refine⟨br,bq,fun i M=>I i _ (Bm M) p m,fun i T Z=>?_⟩;rcases N with z | z
  omega
  grind
 refine kasC_bind (Yx (fun t c l k=>∃ u v,c=(none,u,v)/\l=st/\G k/\a+u<n/\u<v/\Xj ϕ f (ϕ d) b bs (a+u)=true/\t+1<=v) ⟨0,1,rfl,rfl,g1,bq,Nl,bq,B0⟩ ?_ ?_)
 rintro t c l k W ⟨u,v,rfl,rfl,o,p,B,m,N⟩;apply Ld;intros;dsimp only;by_cases K:v≥n-a
 rw[VD K];obtain⟨C,r,y,x⟩:=J u v k o p B m (.inl K);exact kasC_pure (ZaU R D F H O I o C r y x h)
 rw[if_neg K];refine kasC_bind (ZeE R D F H bq o fun s2 P=>?_);dsimp only;by_cases L:Xj ϕ f (ϕ d) b bs (a+v)=true
 rw[if_neg (by rw[L];decide)];exact kasC_pure ⟨v,2*v+1,rfl,rfl,P,bq,B8,L,B9 N⟩
 have S:Xj ϕ f (ϕ d) b bs (a+v)=false:=bp
 rw[VD (by rw[S];decide)];obtain⟨C,r,y,x⟩:=J u v k o p B m (.inr S);exact kasC_pure (ZaU R D F H O I P C r y x h)
 rintro c l k ⟨u,v,rfl,rfl,o,p,B,m,N⟩;obtain⟨C,r,y,x⟩:=J u v k o p B m (.inl bq);exact ZaU R D F H O I o C r y x h
 have S:Xj ϕ f (ϕ d) b bs a=false:=by simpa using c
 rw[if_neg c];apply Lc;intros;have J:∀ u v,u<=a->u<v->Xj ϕ f (ϕ d) b bs (a-u)=false->(a+1<=v\/Xj ϕ f (ϕ d) b bs (a-v)=true)->a+1-min v (a+1)<=a-u/\a-u<=n/\(∀ i,i<a+1-min v (a+1)->Xj ϕ f (ϕ d) b bs i=true)/\∀ i,a-u<=i->i<n->Xj ϕ f (ϕ d) b bs i=false:=fun u v p B m N=>by
  refine⟨bq,bq,fun i M=>?_,fun i T Z=>Y _ i T Z m⟩;rcases N with z | z
  omega
  exact I i (a-v) bq (Mb X) z
 refine kasC_bind (Yx (fun t c l k=>∃ u v,c=(none,u,v)/\l=st/\G k/\u<=a/\u<v/\Xj ϕ f (ϕ d) b bs (a-u)=false/\t+1<=v) ⟨0,1,rfl,rfl,g1,Kw,Nl,S,B0⟩ ?_ ?_)
 rintro t c l k W ⟨u,v,rfl,rfl,o,p,B,m,N⟩;apply Ld;intros;dsimp only;by_cases K:v≥a+1
 rw[VD K];obtain⟨C,r,y,x⟩:=J u v p B m (.inl K);exact kasC_pure (ZaU R D F H O I o C r y x h)
 rw[if_neg K];refine kasC_bind (ZeE R D F H bq o fun s2 P=>?_);dsimp only;by_cases L:Xj ϕ f (ϕ d) b bs (a-v)=true
 rw[VD L];obtain⟨C,r,y,x⟩:=J u v p B m (.inr L);exact kasC_pure (ZaU R D F H O I P C r y x h)
 have V:Xj ϕ f (ϕ d) b bs (a-v)=false:=by simpa using L
 exact if_neg L▸kasC_pure ⟨v,2*v+1,rfl,rfl,P,br,B8,V,B9 N⟩
 rintro c l k ⟨u,v,rfl,rfl,o,p,B,m,N⟩;obtain⟨C,r,y,x⟩:=J u v p B m (.inl br);exact ZaU R D F H O I o C r y x h
end
abbrev Up (ϕ:Og->VC) (l:VA Og):Prop:=l.Pairwise fun x y=>ϕ x<=ϕ y
structure Lo (ϕ:Og->VC) (T o X Y:VA Og):Prop where
 px:Up ϕ (o++X)
 py:Up ϕ (o++Y)
 pm:(o++X++Y).Perm T
section
variable {ϕ:Og->VC} {T o X Y x y:VA Og}
def Lo.goX (h:Lo ϕ T o (x++X) Y) (i:∀ u∈x,∀ v∈Y,ϕ u<=ϕ v):Lo ϕ T (o++x) X Y:=by
 obtain⟨c,f,g⟩:=h;refine⟨by rw[QL];omega,?_,by rw[QL o x X];omega⟩;unfold Up at *;rw[QV]at c f ⊢;rw[QV]at c;rw[QV];refine⟨⟨c.1,c.2.1.1,fun a d b e=>c.2.2 a d b (QM _ e)⟩,f.2.1,fun a d b e=>?_⟩;rcases QA.mp d with z | z
 simp_all
 simp_all
def Lo.swap (h:Lo ϕ T o X Y):Lo ϕ T o Y X:=⟨h.py,h.px,by
 rw[QL];exact((Uq.append_left o).trans bo).trans h.pm⟩
def Lo.goY (h:Lo ϕ T o X (y++Y)) (b:∀ u∈y,∀ v∈X,ϕ u<=ϕ v):Lo ϕ T (o++y) X Y:=(h.swap.goX b).swap
def Lo.len (h:Lo ϕ T o X Y):o.length+X.length+Y.length=T.length:=by
 have:=h.pm.length_eq;simp[Qg]at this;lia
end
def at_ {a:VL Og} (h:i<a.size):∃ x,a[i]?=some x/\a.toList.drop i=x::a.toList.drop (i+1) :=
 ⟨_,QT h,by rw[List.drop_eq_getElem_cons bq];simp⟩
def Zj4 (o:VL Og) (x):(o.push x).toList=o.toList++[x]:=bo
def Zju (o:VL Og) (i k):(o.extract i (i+k)).toList=(o.toList.drop i).take k:=by
 simp
def ZbM (o:VL Og) (i):(o.extract i o.size).toList=o.toList.drop i:=by
 exact Array.toList_extract▸Q4 bo
def Zft (o p:VL Og):(o++p).toList=o.toList++p.toList:=bo
def JI (l:VA Og) (i k):l.drop i=(l.drop i).take k++l.drop (i+k):=by
 rw[←Uz,Wj]
def Sim (st st':VX):Prop:=NK st'=NK st/\Of st'=Of st/\OB st'=OB st/\OP st'=OP st
def Sim.refl (st):Sim st st:=⟨rfl,rfl,rfl,rfl⟩
def Sim.trans (h:Sim a b) (k:Sim b c):Sim a c:=⟨k.1.trans h.1,k.2.1.trans h.2.1,k.2.2.1.trans h.2.2.1,k.2.2.2.trans h.2.2.2⟩
noncomputable def Zf8:VC->MF VX DE Unit:=sortPriv% PySem.Builtin.setMinGallop
section
variable {prog:Oh} {w:Ol} {A:NC} {E:VG->VF->Prop} {κ:O4} {ϕ:Og->VC} {U:Og->Prop} {G:VF->Prop}
def ZbF {st} (h:∀ a,Sim st a->Q () a s):kasC (Oc prog w) A E (Zf8 n) Q st s:=kasC_modify (h _ ⟨rfl,rfl,rfl,rfl⟩)
def Jp {st:VX} (h:Q () st s):kasC (Oc prog w) A E (liftM (rule n)) Q st s :=
 kasC_lift (OL h)
def Zku (h:u∈(a.toList.drop bs).take k):∃ t,t<k/\bs+t<a.size/\fx ϕ a (bs+t)=ϕ u:=by
 obtain⟨t,d,e⟩:=WC h;have c:t<k:=by rw[QD]at d;omega
 have b:bs+t<a.size:=by rw[QD,Wi,Qx]at d;omega
 refine⟨t,c,b,?_⟩;have g:a[bs+t]?=some u:=by
  simp_all
 exact ZcC g
def UpTo (ϕ:Og->VC) (a:VL Og) (p q:VC):Prop:=∀ i j,p<=i->i<=j->j<q->fx ϕ a i<=fx ϕ a j
def UpTo.of (h:Up ϕ a.toList):UpTo ϕ a 0 a.size:=fun i j _ d e=>by
 have b:a[i]?=some a[i]:=QT _;rw[ZcC b,ZcC (QT e)];rcases Wr i j with c | c
 have:=Wh.mp h i j (by simpa using (Kh e c)) bq c
 simp_all
 have:i=j:=Vw d c
 subst this;exact K7
def UpTo.sub (h:UpTo ϕ a p q) (f:p<=d) (e:b<=q):UpTo ϕ a d b:=fun i j k c g=>h i j (Vx k f) c (Sm e g)
def ZaT (R:JK prog w A κ ϕ U G) {st:VX} (x:NK st=κ) (b:U f) (B:Al U a) (p:bs+n<=a.size) (D:r<n)
  (F:UpTo ϕ a bs (bs+n)) (g:G s)
  (h:∀ q d,q<=n->(∀ u∈(a.toList.drop bs).take q,ϕ u<=ϕ f)->(∀ u∈(a.toList.drop (bs+q)).take (n-q),ϕ f<=ϕ u)->G d->Q (some q) st d):kasC (Oc prog w) A E (ZbI e f a bs n r) Q st s:=by
 refine ZlV R x b B p D (fun i j m H=>?_) g fun q d o v l C=>h q d o (fun u b=>?_) (fun u b=>?_) C;have:=F (bs+i) (bs+j) Kb (Mq m) br;unfold Xj;cases e with
 | true=>simp;omega
 | false=>simp;omega
 obtain⟨t,k,z,y⟩:=Zku (ϕ:=ϕ) b;have:=v t k;unfold Xj at this;cases e with
 | true=>simp at this;exact Bo this y
 | false=>simp at this;exact Kd this y
 obtain⟨t,k,z,y⟩:=Zku (ϕ:=ϕ) b;have:=l (q+t) Kb br;unfold Xj at this;rw[←Rk]at this;cases e with
 | true=>simp at this;omega
 | false=>simp at this;omega
end
noncomputable def ZlI:VL Og->VL Og->MF VX DE (VL Og):=sortPriv% PySem.Builtin.mergeLo
noncomputable def Zap (a b o:VL Og) (i j:VC):VL Og:=o++a.extract i a.size++b.extract j b.size
noncomputable def Zaf (a b o:VL Og) (i j:VC):VL Og:=o++b.extract j b.size++a.extract i a.size
noncomputable def loE (a b o:VL Og) (i j mg k k1:VC):MF VX DE (NW (VE (VL Og)×VL Og×VC×VC×VC×VC×VC)):=do
 let x ←OS a i
 if i+1+1==a.size then pure (.done (some (Zaf a b (o.push x) (i+1) j),o.push x,i+1,j,mg,k,k1))
 else if k<7&&k1<7 then pure (.done (none,o.push x,i+1,j,mg,k,k1))
 else pure (.yield (none,o.push x,i+1,j,mg,k,k1))
noncomputable def loD (a b o:VL Og) (i j mg k bc:VC):MF VX DE (NW (VE (VL Og)×VL Og×VC×VC×VC×VC×VC)):=do
 let y ←OS b j
 if j+1==b.size then pure (.done (some (Zap a b (o.push y) i (j+1)),o.push y,i,j+1,mg,k,bc))
 else do
  let x ←OS a i
  let some k1 ←ZbI true x b (j+1) (b.size-(j+1)) 0 | pure (.done (some (Zap a b (o.push y) i (j+1)),o.push y,i,j+1,mg,k,bc))
  if k1>0 then
   if j+1+k1==b.size then pure (.done (some (Zap a b (o.push y++b.extract (j+1) (j+1+k1)) i (j+1+k1)),o.push y++b.extract (j+1) (j+1+k1),i,j+1+k1,mg,k,k1))
   else loE a b (o.push y++b.extract (j+1) (j+1+k1)) i (j+1+k1) mg k k1
  else loE a b (o.push y) i (j+1) mg k k1
noncomputable def loC (a b o:VL Og) (i j mg ac bc:VC):MF VX DE (NW (VE (VL Og)×VL Og×VC×VC×VC×VC×VC)):=do
 Zf8 mg
 let y ←OS b j
 let some k ←ZbI false y a i (a.size-i) 0 | pure (.done (some (Zap a b o i j),o,i,j,mg,ac,bc))
 if k>0 then
  if i+k+1==a.size then pure (.done (some (Zaf a b (o++a.extract i (i+k)) (i+k) j),o++a.extract i (i+k),i+k,j,mg,k,bc))
  else if i+k==a.size then pure (.done (some (Zap a b (o++a.extract i (i+k)) (i+k) j),o++a.extract i (i+k),i+k,j,mg,k,bc))
  else loD a b (o++a.extract i (i+k)) (i+k) j mg k bc
 else loD a b o i j mg k bc
noncomputable def loB (a b:VL Og) (c:(VE (VL Og)×VL Og×VC×VC×VC×VC×VC)):MF VX DE (NW (VE (VL Og)×VL Og×VC×VC×VC×VC×VC)) :=
 if c.2.2.2.2.1>1 then loC a b c.2.1 c.2.2.1 c.2.2.2.1 (c.2.2.2.2.1-1) c.2.2.2.2.2.1 c.2.2.2.2.2.2
 else loC a b c.2.1 c.2.2.1 c.2.2.2.1 c.2.2.2.2.1 c.2.2.2.2.2.1 c.2.2.2.2.2.2
noncomputable def loM (a b:VL Og) (mg:VC) (c:(VE (VL Og)×VL Og×VC×VC×VC×VC)):MF VX DE (NW (VE (VL Og)×VL Og×VC×VC×VC×VC)):=do
 let y ←OS b c.2.2.2.1
 let x ←OS a c.2.2.1
 let some bw ←lt' y x | pure (.done (some (Zap a b c.2.1 c.2.2.1 c.2.2.2.1),c.2.1,c.2.2.1,c.2.2.2.1,c.2.2.2.2.1,c.2.2.2.2.2))
 if bw then do
  let y ←OS b c.2.2.2.1
  if c.2.2.2.1+1==b.size then pure (.done (some (Zap a b (c.2.1.push y) c.2.2.1 (c.2.2.2.1+1)),c.2.1.push y,c.2.2.1,c.2.2.2.1+1,0,c.2.2.2.2.2+1))
  else if c.2.2.2.2.2+1≥mg then pure (.done (none,c.2.1.push y,c.2.2.1,c.2.2.2.1+1,0,c.2.2.2.2.2+1))
  else pure (.yield (none,c.2.1.push y,c.2.2.1,c.2.2.2.1+1,0,c.2.2.2.2.2+1))
 else do
  let x ←OS a c.2.2.1
  if c.2.2.1+1+1==a.size then pure (.done (some (Zaf a b (c.2.1.push x) (c.2.2.1+1) c.2.2.2.1),c.2.1.push x,c.2.2.1+1,c.2.2.2.1,c.2.2.2.2.1+1,0))
  else if c.2.2.2.2.1+1≥mg then pure (.done (none,c.2.1.push x,c.2.2.1+1,c.2.2.2.1,c.2.2.2.2.1+1,0))
  else pure (.yield (none,c.2.1.push x,c.2.2.1+1,c.2.2.2.1,c.2.2.2.2.1+1,0))
noncomputable def loO (a b:VL Og) (c:(VE (VL Og)×VL Og×VC×VC×VC)):MF VX DE (NW (VE (VL Og)×VL Og×VC×VC×VC)):=do
 let d ←forIn [0:a.size+b.size] ((none,c.2.1,c.2.2.1,c.2.2.2.1,0,0):(VE (VL Og)×VL Og×VC×VC×VC×VC)) fun _=>loM a b c.2.2.2.2
 MJ (motive:=fun _=>MF VX DE (NW (VE (VL Og)×VL Og×VC×VC×VC))) d.1 (fun r=>pure (.done (some r,d.2.1,d.2.2.1,d.2.2.2.1,c.2.2.2.2))) fun _=>do
  rule "list.sort.gallop"
  let e ←forIn [0:a.size+b.size] ((none,d.2.1,d.2.2.1,d.2.2.2.1,c.2.2.2.2+1,d.2.2.2.2.1,d.2.2.2.2.2):(VE (VL Og)×VL Og×VC×VC×VC×VC×VC)) fun _=>loB a b
  MJ (motive:=fun _=>MF VX DE (NW (VE (VL Og)×VL Og×VC×VC×VC))) e.1 (fun r=>pure (.done (some r,e.2.1,e.2.2.1,e.2.2.2.1,e.2.2.2.2.1))) fun _=>do
   Zf8 (e.2.2.2.2.1+1)
   pure (.yield (none,e.2.1,e.2.2.1,e.2.2.2.1,e.2.2.2.2.1+1))
def Zi2 (a b):ZlI a b=(do
 rule "list.sort.merge-lo"
 let y ←OS b 0
 if 1==b.size then pure (Zap a b #[y] 0 1)
 else if 0+1==a.size then pure (Zaf a b #[y] 0 1)
 else do
  let z ←get
  let c ←forIn [0:a.size+b.size] ((none,#[y],0,1,gallopOf z)) fun _=>loO a b
  MJ (motive:=fun _=>MF VX DE _) c.1 (fun r=>pure r) fun _=>unsupported "internal:list.sort.merge-bound"):=rfl
section
variable {prog:Oh} {w:Ol} {A:NC} {E:VG->VF->Prop} {κ:O4} {ϕ:Og->VC} {U:Og->Prop} {G:VF->Prop}
def JN (h:Up ϕ (x::l)):∀ v∈x::l,ϕ x<=ϕ v:=fun v a=>by
 rcases Qs.mp a with e | e
 simp_all
 simp_all
def Lo.hx (h:Lo ϕ T o X Y):Up ϕ X:=(QV.mp h.px).2.1
def Lo.hy (h:Lo ϕ T o X Y):Up ϕ Y:=(QV.mp h.py).2.1
def LoI (ϕ:Og->VC) (a b o:VL Og) (i j:VC):Prop:=Lo ϕ (a.toList++b.toList) o.toList (a.toList.drop i) (b.toList.drop j)
def Ok (ϕ:Og->VC) (a b r:VL Og):Prop:=Up ϕ r.toList/\r.toList.Perm (a.toList++b.toList)
def LoI.end1 (h:LoI ϕ a b o i j) (e:i=a.size\/j=b.size):Ok ϕ a b (Zap a b o i j):=by
 have t:(Zap a b o i j).toList=o.toList++a.toList.drop i++b.toList.drop j:=by
  unfold Zap;rw[Zft,Zft,ZbM,ZbM]
 unfold Ok;rw[t];refine⟨?_,h.pm⟩;rcases e with e | e
 have:a.toList.drop i=[]:=by rw[e];simp
 rw[this,WK];exact h.py;have:b.toList.drop j=[]:=by rw[e];simp
 rw[this,WK];exact h.px
def LoI.end2 (h:LoI ϕ a b o i j) (e:i+1=a.size) (l:∀ x,a[a.size-1]?=some x->∀ y∈b.toList,ϕ y<=ϕ x):Ok ϕ a b (Zaf a b o i j):=by
 have t:(Zaf a b o i j).toList=o.toList++b.toList.drop j++a.toList.drop i:=by
  unfold Zaf;rw[Zft,Zft,ZbM,ZbM]
 unfold Ok;rw[t];obtain⟨x,n,d⟩:=at_ (show i<a.size by lia);have f:a.toList.drop (i+1)=[]:=by rw[e];simp
 rw[f]at d;have k:Lo ϕ (a.toList++b.toList) o.toList (a.toList.drop i) (b.toList.drop j++[]):=by rw[WK];exact h
 have:=k.goY fun u m v g=>by
  rw[d]at g;exact l v (by grind) u (Wm m)
 exact⟨this.px,by have:=this.pm;rw[WK]at this;omega⟩
def LoI.push1 (h:LoI ϕ a b o i j) (e:a.toList.drop i=x::a.toList.drop (i+1)) (d:∀ v∈b.toList.drop j,ϕ x<=ϕ v):LoI ϕ a b (o.push x) (i+1) j:=by
 unfold LoI at h ⊢;rw[e]at h;rw[Zj4];exact Lo.goX h fun u f v c=>bp
def LoI.push2 (h:LoI ϕ a b o i j) (e:b.toList.drop j=x::b.toList.drop (j+1)) (d:∀ v∈a.toList.drop i,ϕ x<=ϕ v):LoI ϕ a b (o.push x) i (j+1):=by
 unfold LoI at h ⊢;rw[e]at h;rw[Zj4];exact Lo.goY h fun u f v c=>bp
def LoI.app1 (h:LoI ϕ a b o i j) (d:∀ u∈(a.toList.drop i).take k,∀ v∈b.toList.drop j,ϕ u<=ϕ v):LoI ϕ a b (o++a.extract i (i+k)) (i+k) j:=by
 unfold LoI at h ⊢;rw[JI _ i k]at h;rw[Zft,Zju];exact h.goX d
def LoI.app2 (h:LoI ϕ a b o i j) (d:∀ u∈(b.toList.drop j).take k,∀ v∈a.toList.drop i,ϕ u<=ϕ v):LoI ϕ a b (o++b.extract j (j+k)) i (j+k):=by
 unfold LoI at h ⊢;rw[JI _ j k]at h;rw[Zft,Zju];exact h.goY d
def LoI.size (h:LoI ϕ a b o i j) (hi:i<=a.size) (c:j<=b.size):o.size+(a.size-i)+(b.size-j)=a.size+b.size:=by
 have:=h.len
 simp_all
def LoX (ϕ:Og->VC) (G:VF->Prop) (a b:VL Og) (st:VX) (q:VE (VL Og)) (st':VX) (s':VF):Prop:=∃ r,q=some r/\Sim st st'/\G s'/\Ok ϕ a b r
def LoY (ϕ:Og->VC) (G:VF->Prop) (a b:VL Og) (st:VX) (t:VC) (c:(VE (VL Og)×VL Og×VC×VC×VC×VC×VC)) (st':VX) (s':VF):Prop :=
 ∃ o i j mg ac bc,c=(none,o,i,j,mg,ac,bc)/\Sim st st'/\G s'/\LoI ϕ a b o i j/\i+1<a.size/\j<b.size/\t+1+1<=o.size
def LoV (ϕ:Og->VC) (G:VF->Prop) (a b:VL Og) (st:VX) (t:VC) (q:VC) (c:(VE (VL Og)×VL Og×VC×VC×VC×VC)) (st':VX) (s':VF):Prop :=
 ∃ o i j ac bc,c=(none,o,i,j,ac,bc)/\Sim st st'/\G s'/\LoI ϕ a b o i j/\i+1<a.size/\j<b.size/\t+1+q<=o.size
def LoW (ϕ:Og->VC) (G:VF->Prop) (a b:VL Og) (st:VX) (t:VC) (c:(VE (VL Og)×VL Og×VC×VC×VC)) (st':VX) (s':VF):Prop :=
 ∃ o i j mg,c=(none,o,i,j,mg)/\Sim st st'/\G s'/\LoI ϕ a b o i j/\i+1<a.size/\j<b.size/\t+1<=o.size
def LoZ {β:Type} (X Y:β->VX->VF->Prop) (r:NW β) (st':VX) (s':VF):Prop :=
 match r with | .done c=>X c st' s' | .yield c=>Y c st' s'
def Znz {c:VL Og} (b:p+k<=c.size):(c.toList.drop (p+k)).take (c.size-p-k)=c.toList.drop (p+k):=Q4 (by rw[Wi,Qx];lia)
def Zkk {st d} (C:∀ x,a[a.size-1]?=some x->∀ y∈b.toList,ϕ y<=ϕ x) (m:Sim st d) (l:G z) (v:a[i]?=some x) (D:a.toList.drop i=x::a.toList.drop (i+1))
  (s:LoI ϕ a b o i j) (H:∀ u∈b.toList.drop j,ϕ x<=ϕ u) (hi:i+1<a.size) (p:j<b.size) (hz:t+1+1<=o.size) :
  kasC (Oc prog w) A E (loE a b o i j I k k1) (LoZ (fun c f r=>LoX ϕ G a b st c.1 f r\/LoY ϕ G a b st t c f r) (LoY ϕ G a b st t)) d z:=by
 apply Ld;intros;refine kasC_bind (ZN v ?_);have h:=s.push1 D H;have e:t+1+1<=(o.push x).size:=by rw[WL];exact Vp hz
 by_cases n:i+1+1=a.size
 rw[VD (by simpa using n)];exact kasC_pure (.inl ⟨_,rfl,m,l,h.end2 n C⟩);rw[if_neg (by simpa using n)];have g:i+1+1<a.size:=Vr hi n
 split
 exact kasC_pure (.inr ⟨_,_,_,_,_,_,rfl,m,l,h,g,p,e⟩);exact kasC_pure ⟨_,_,_,_,_,_,rfl,m,l,h,g,p,e⟩
def Zkl (R:JK prog w A κ ϕ U G) {st f:VX} (B:NK st=κ) (N:Al U a) (Q:Al U b) (M:Up ϕ b.toList) (H:∀ x,a[a.size-1]?=some x->∀ y∈b.toList,ϕ y<=ϕ x) (l:Sim st f) (I:G s4)
  (O:b[j]?=some y) (X:b.toList.drop j=y::b.toList.drop (j+1)) (Y:LoI ϕ a b o i j) (Z:∀ u∈a.toList.drop i,ϕ y<=ϕ u) (hi:i+1<a.size) (hj:j<b.size) (hz:t+1+1<=o.size) :
  kasC (Oc prog w) A E (loD a b o i j mg k bc) (LoZ (fun c h K=>LoX ϕ G a b st c.1 h K\/LoY ϕ G a b st t c h K) (LoY ϕ G a b st t)) f s4:=by
 apply Ld;intros;refine kasC_bind (ZN O ?_);have n:=Y.push2 X Z;by_cases s:j+1=b.size
 rw[VD (by simpa using s)];exact kasC_pure (.inl ⟨_,rfl,l,I,n.end1 (.inr s)⟩)
 rw[if_neg (by simpa using s)];apply Lc;intros;have⟨x1,e,d⟩:=at_ (show i<a.size by exact Nx hi);have J:=JN (d▸n.hx);rw[←d]at J;have F:t+1+1<=(o.push y).size:=by rw[WL];exact Vp hz
 have z:j+1<b.size:=Vr hj s
 refine kasC_bind (ZN e (kasC_bind (ZaT R (l.1.trans B) (N _ _ e) Q (Ny z) (Nz z) ((UpTo.of M).sub Kw (Ny z)) I fun m s5 T V r q=>?_)));rw[Znz bq]at r;dsimp only;have L:=n.app2 fun u S v p=>QR (V u S) (J v p);have C:t+1+1<=(o.push y++b.extract (j+1) (j+1+m)).size:=by exact UC▸Vp F
 by_cases W:m>0
 rw[VD W];by_cases D:j+1+m=b.size
 rw[VD (by simpa using D)];exact kasC_pure (.inl ⟨_,rfl,l,q,L.end1 (.inr D)⟩)
 rw[if_neg (by simpa using D)];exact Zkk H l q e d L r hi bq C
 have P:m=0:=Td W
 subst P;exact Zkk H l q e d n r hi z F
def Zkm (R:JK prog w A κ ϕ U G) {st g:VX} (r:NK st=κ) (H:Al U a) (n:Al U b) (O:Up ϕ a.toList) (I:Up ϕ b.toList) (B:∀ x,a[a.size-1]?=some x->∀ y∈b.toList,ϕ y<=ϕ x) (T:Sim st g) (X:G Q)
  (z:LoI ϕ a b o i j) (hi:i+1<a.size) (s:j<b.size) (hz:t+1+1<=o.size) :
  kasC (Oc prog w) A E (loC a b o i j mg Z bc) (LoZ (fun c h L=>LoX ϕ G a b st c.1 h L\/LoY ϕ G a b st t c h L) (LoY ϕ G a b st t)) g Q:=by
 apply Ld;intros;refine kasC_bind (ZbF fun S e=>Lc ?_);intros;replace e:=T.trans e;have⟨y,m,d⟩:=at_ s;have J:=JN (d▸z.hy);rw[←d]at J;refine kasC_bind (ZN m (kasC_bind (ZaT R (e.1.trans r) (n _ _ m) H (Bc hi) bq ((UpTo.of O).sub Kw (Bc hi)) X fun k s4 N W F l=>?_)));rw[Znz bq]at F;dsimp only;have C:=z.app1 fun u V v Y=>QR (W u V) (J v Y);have q:t+1+1<=(o++a.extract i (i+k)).size:=by exact UC▸Vp hz
 by_cases M:k>0
 rw[VD M];by_cases p:i+k+1=a.size
 rw[VD (by simpa using p)];exact kasC_pure (.inl ⟨_,rfl,e,l,C.end2 p B⟩)
 rw[if_neg (by simpa using p)];by_cases D:i+k=a.size
 rw[VD (by simpa using D)];exact kasC_pure (.inl ⟨_,rfl,e,l,C.end1 (.inl D)⟩)
 rw[if_neg (by simpa using D)];exact Zkl R r H n I B e l m d C F br s q
 have P:k=0:=Td M
 subst P;exact Zkl R r H n I B e l m d z F hi s hz
def Znn (R:JK prog w A κ ϕ U G) {st B:VX} (P:NK st=κ) (T:Al U a) (S:Al U b) (X:∀ x,a[a.size-1]?=some x->∀ y∈b.toList,ϕ y<=ϕ x)
  (h:LoV ϕ G a b st t q c B Q):kasC (Oc prog w) A E (loM a b L c) (LoZ (fun c n N=>LoX ϕ G a b st c.1 n N\/LoV ϕ G a b st t 1 c n N) (LoV ϕ G a b st t (q+1))) B Q:=by
 apply Ld;intros;obtain⟨o,i,j,V,O,rfl,k,W,C,p,l,_⟩:=h;unfold loM;have⟨x,J,g⟩:=at_ (show i<a.size by exact Nx p);have⟨y,D,e⟩:=at_ l;refine kasC_bind (ZN D (kasC_bind (ZN J (kasC_bind (Zhq R (k.1.trans P) (S _ _ D) (T _ _ J) W fun Y m=>?_)))));dsimp only;have M:=JN (ϕ:=ϕ) (g▸C.hx);have K:=JN (ϕ:=ϕ) (e▸C.hy);rw[←g]at M;rw[←e]at K;by_cases I:ϕ y<ϕ x
 rw[VD (by simpa using I)];refine kasC_bind (ZN D ?_);have d:=C.push2 e fun v F=>QR (WP I) (M v F);by_cases f:j+1=b.size
 rw[VD (by simpa using f)];exact kasC_pure (.inl ⟨_,rfl,k,m,d.end1 (.inr f)⟩)
 rw[if_neg (by simpa using f)];have z:t+1+(q+1)<=(o.push y).size:=by rw[WL];exact Bp ‹_›
 by_cases r:O+1≥L
 exact VD r▸kasC_pure (.inr ⟨_,_,_,_,_,rfl,k,m,d,p,Vr l f,Bq z⟩)
 exact if_neg r▸kasC_pure ⟨_,_,_,_,_,rfl,k,m,d,p,Vr l f,z⟩
 rw[if_neg (by simpa using I)];refine kasC_bind (ZN J ?_);have d:=C.push1 g fun v F=>QR (Kr I) (K v F);by_cases f:i+1+1=a.size
 rw[VD (by simpa using f)];exact kasC_pure (.inl ⟨_,rfl,k,m,d.end2 f X⟩)
 rw[if_neg (by simpa using f)];have z:t+1+(q+1)<=(o.push x).size:=by rw[WL];exact Bp ‹_›
 by_cases r:V+1≥L
 exact VD r▸kasC_pure (.inr ⟨_,_,_,_,_,rfl,k,m,d,Vr p f,l,Bq z⟩)
 exact if_neg r▸kasC_pure ⟨_,_,_,_,_,rfl,k,m,d,Vr p f,l,z⟩
def Zno (R:JK prog w A κ ϕ U G) {st k:VX} (q:NK st=κ) (n:Al U a) (l:Al U b) (r:Up ϕ a.toList) (m:Up ϕ b.toList) (p:∀ x,a[a.size-1]?=some x->∀ y∈b.toList,ϕ y<=ϕ x)
  (h:LoY ϕ G a b st t c k B):kasC (Oc prog w) A E (loB a b c) (LoZ (fun c e u=>LoX ϕ G a b st c.1 e u\/LoY ϕ G a b st t c e u) (LoY ϕ G a b st t)) k B:=by
 apply Ld;intros;obtain⟨o,i,j,F,D,C,rfl,v,z,s,f,g,d⟩:=h;unfold loB;split
 exact Zkm R q n l r m p v z s f g d;exact Zkm R q n l r m p v z s f g d
def Znm (R:JK prog w A κ ϕ U G) {st d:VX} (L:NK st=κ) (K:Al U a) (M:Al U b) (X:Up ϕ a.toList) (T:Up ϕ b.toList) (N:∀ x,a[a.size-1]?=some x->∀ y∈b.toList,ϕ y<=ϕ x) (pa:0<a.size+b.size)
  (h:LoW ϕ G a b st t c d F):kasC (Oc prog w) A E (loO a b c) (LoZ (fun c d F=>LoX ϕ G a b st c.1 d F) (LoW ϕ G a b st (t+1))) d F:=by
 apply Ld;intros;obtain⟨o,i,j,W,rfl,S,g',I,hi,hj,hs⟩:=h;refine kasC_bind (Yh
  (Yx _ ⟨o,i,j,0,0,rfl,S,g',I,hi,hj,hs⟩ (fun q c n P hq V=>Znn R L K M N V) ?_) ?_)
 rintro c n P ⟨o,i,j,u,s,rfl,k,l,B,f,g,p⟩;exact .inr ⟨o,i,j,u,s,rfl,k,l,B,f,g,br⟩;rintro c n P (⟨r,e,k,l,O⟩ | ⟨o,i,j,u,s,rfl,k,l,B,f,g,p⟩);exact e▸kasC_pure ⟨r,rfl,k,l,O⟩;refine kasC_bind (Jp ?_);refine kasC_bind (Yh
  (Yx (fun _=>LoY ϕ G a b st t) ⟨o,i,j,_,u,s,rfl,k,l,B,f,g,p⟩ (fun q c m Q hq Y=>Zno R L K M X T N Y) fun c m Q Y=>.inr Y) ?_)
 rintro c m Q (⟨r,e,H,C,O⟩ | ⟨o,i,j,W,u,s,rfl,H,C,I3,z,v,J⟩);exact e▸kasC_pure ⟨r,rfl,H,C,O⟩;exact kasC_bind (ZbF fun Z D=>kasC_pure ⟨o,i,j,_,rfl,H.trans D,C,I3,z,v,J⟩)
def ZoC (R:JK prog w A κ ϕ U G) {st:VX} (H:NK st=κ) (J:Al U a) (B:Al U b) (D:Up ϕ a.toList) (z:Up ϕ b.toList) (Y:0<a.size) (F:0<b.size)
  (C:∀ y,b[0]?=some y->∀ x∈a.toList,ϕ y<=ϕ x) (q:∀ x,a[a.size-1]?=some x->∀ y∈b.toList,ϕ y<=ϕ x) (g:G s)
  (h:∀ r d f,Sim st d->G f->Ok ϕ a b r->Q r d f):kasC (Oc prog w) A E (ZlI a b) Q st s:=by
 rw[Zi2];refine kasC_bind (Jp ?_);obtain⟨L,k,m⟩:=at_ F;refine kasC_bind (ZN k ?_);have l:=by
  have:LoI ϕ a b #[] 0 0:=⟨bp,by grind,bo⟩
  exact this.push2 m fun v M=>C L k v (Wm M)
 by_cases n:1=b.size
 rw[VD (by simpa using n)];exact kasC_pure (h _ _ _ (Sim.refl _) g (l.end1 (.inr n)))
 rw[if_neg (by simpa using n)];by_cases p:0+1=a.size
 rw[VD (by simpa using p)];exact kasC_pure (h _ _ _ (Sim.refl _) g (l.end2 p q))
 rw[if_neg (by simpa using p)];refine kasC_bind (kasC_get ?_);refine kasC_bind (Yh (Yx _
  ⟨_,_,_,_,rfl,Sim.refl _,g,l,Vr Y p,br,Qh 1⟩ (fun t c d f N W=>Znm R H J B D z q br W) ?_) ?_)
 rintro c d f ⟨o,i,j,X,rfl,S,u,I,V,P,T⟩;have:=I.size br (Vm P);exact (Vs T this).elim
 rintro c d f ⟨r,e,S,u,O⟩;exact e▸kasC_pure (h r d f S u O)
end
noncomputable def ZlJ:VL Og->VL Og->MF VX DE (VL Og):=sortPriv% PySem.Builtin.mergeHi
noncomputable def Zaq (a b o:VL Og) (i j:VC):VL Og:=a.extract 0 i++b.extract 0 j++o.reverse
noncomputable def ZdF (a b o:VL Og) (i j:VC):VL Og:=b.extract 0 j++a.extract 0 i++o.reverse
noncomputable def hiE (a b o:VL Og) (i j mg k k1:VC):MF VX DE (NW (VE (VL Og)×VC×VC×VL Og×VC×VC×VC)):=do
 let x ←OS a (i-1)
 if i-1==0 then pure (.done (some (Zaq a b (o.push x) (i-1) j),i-1,j,o.push x,mg,k,k1))
 else if k<7&&k1<7 then pure (.done (none,i-1,j,o.push x,mg,k,k1))
 else pure (.yield (none,i-1,j,o.push x,mg,k,k1))
noncomputable def hiD (a b o:VL Og) (i j mg k bc:VC):MF VX DE (NW (VE (VL Og)×VC×VC×VL Og×VC×VC×VC)):=do
 let y ←OS b (j-1)
 if j-1==1 then pure (.done (some (ZdF a b (o.push y) i (j-1)),i,j-1,o.push y,mg,k,bc))
 else do
  let x ←OS a (i-1)
  let some z ←ZbI true x b 0 (j-1) (j-1-1) | pure (.done (some (Zaq a b (o.push y) i (j-1)),i,j-1,o.push y,mg,k,bc))
  if j-1-z>0 then
   if z==1 then pure (.done (some (ZdF a b (o.push y++(b.extract z (j-1)).reverse) i z),i,z,o.push y++(b.extract z (j-1)).reverse,mg,k,j-1-z))
   else if z==0 then pure (.done (some (Zaq a b (o.push y++(b.extract z (j-1)).reverse) i z),i,z,o.push y++(b.extract z (j-1)).reverse,mg,k,j-1-z))
   else hiE a b (o.push y++(b.extract z (j-1)).reverse) i z mg k (j-1-z)
  else hiE a b (o.push y) i (j-1) mg k (j-1-z)
noncomputable def hiC (a b o:VL Og) (i j mg ac bc:VC):MF VX DE (NW (VE (VL Og)×VC×VC×VL Og×VC×VC×VC)):=do
 Zf8 mg
 let y ←OS b (j-1)
 let some z ←ZbI false y a 0 i (i-1) | pure (.done (some (Zaq a b o i j),i,j,o,mg,ac,bc))
 if i-z>0 then
  if z==0 then pure (.done (some (Zaq a b (o++(a.extract z i).reverse) z j),z,j,o++(a.extract z i).reverse,mg,i-z,bc))
  else hiD a b (o++(a.extract z i).reverse) z j mg (i-z) bc
 else hiD a b o i j mg (i-z) bc
noncomputable def hiB (a b:VL Og) (c:(VE (VL Og)×VC×VC×VL Og×VC×VC×VC)):MF VX DE (NW (VE (VL Og)×VC×VC×VL Og×VC×VC×VC)) :=
 if c.2.2.2.2.1>1 then hiC a b c.2.2.2.1 c.2.1 c.2.2.1 (c.2.2.2.2.1-1) c.2.2.2.2.2.1 c.2.2.2.2.2.2
 else hiC a b c.2.2.2.1 c.2.1 c.2.2.1 c.2.2.2.2.1 c.2.2.2.2.2.1 c.2.2.2.2.2.2
noncomputable def hiM (a b:VL Og) (mg:VC) (c:(VE (VL Og)×VC×VC×VL Og×VC×VC)):MF VX DE (NW (VE (VL Og)×VC×VC×VL Og×VC×VC)):=do
 let y ←OS b (c.2.2.1-1)
 let x ←OS a (c.2.1-1)
 let some aw ←lt' y x | pure (.done (some (Zaq a b c.2.2.2.1 c.2.1 c.2.2.1),c.2.1,c.2.2.1,c.2.2.2.1,c.2.2.2.2.1,c.2.2.2.2.2))
 if aw then do
  let x ←OS a (c.2.1-1)
  if c.2.1-1==0 then pure (.done (some (Zaq a b (c.2.2.2.1.push x) (c.2.1-1) c.2.2.1),c.2.1-1,c.2.2.1,c.2.2.2.1.push x,c.2.2.2.2.1+1,0))
  else if c.2.2.2.2.1+1≥mg then pure (.done (none,c.2.1-1,c.2.2.1,c.2.2.2.1.push x,c.2.2.2.2.1+1,0))
  else pure (.yield (none,c.2.1-1,c.2.2.1,c.2.2.2.1.push x,c.2.2.2.2.1+1,0))
 else do
  let y ←OS b (c.2.2.1-1)
  if c.2.2.1-1==1 then pure (.done (some (ZdF a b (c.2.2.2.1.push y) c.2.1 (c.2.2.1-1)),c.2.1,c.2.2.1-1,c.2.2.2.1.push y,0,c.2.2.2.2.2+1))
  else if c.2.2.2.2.2+1≥mg then pure (.done (none,c.2.1,c.2.2.1-1,c.2.2.2.1.push y,0,c.2.2.2.2.2+1))
  else pure (.yield (none,c.2.1,c.2.2.1-1,c.2.2.2.1.push y,0,c.2.2.2.2.2+1))
noncomputable def hiO (a b:VL Og) (c:(VE (VL Og)×VC×VC×VL Og×VC)):MF VX DE (NW (VE (VL Og)×VC×VC×VL Og×VC)):=do
 let d ←forIn [0:a.size+b.size] ((none,c.2.1,c.2.2.1,c.2.2.2.1,0,0):(VE (VL Og)×VC×VC×VL Og×VC×VC)) fun _=>hiM a b c.2.2.2.2
 MJ (motive:=fun _=>MF VX DE (NW (VE (VL Og)×VC×VC×VL Og×VC))) d.1 (fun r=>pure (.done (some r,d.2.1,d.2.2.1,d.2.2.2.1,c.2.2.2.2))) fun _=>do
  rule "list.sort.gallop"
  let e ←forIn [0:a.size+b.size] ((none,d.2.1,d.2.2.1,d.2.2.2.1,c.2.2.2.2+1,d.2.2.2.2.1,d.2.2.2.2.2):(VE (VL Og)×VC×VC×VL Og×VC×VC×VC)) fun _=>hiB a b
  MJ (motive:=fun _=>MF VX DE (NW (VE (VL Og)×VC×VC×VL Og×VC))) e.1 (fun r=>pure (.done (some r,e.2.1,e.2.2.1,e.2.2.2.1,e.2.2.2.2.1))) fun _=>do
   Zf8 (e.2.2.2.2.1+1)
   pure (.yield (none,e.2.1,e.2.2.1,e.2.2.2.1,e.2.2.2.2.1+1))
def Zi3 (a b):ZlJ a b=(do
 rule "list.sort.merge-hi"
 let x ←OS a (a.size-1)
 if a.size-1==0 then pure (Zaq a b #[x] (a.size-1) b.size)
 else if b.size==1 then pure (ZdF a b #[x] (a.size-1) b.size)
 else do
  let z ←get
  let c ←forIn [0:a.size+b.size] ((none,a.size-1,b.size,#[x],gallopOf z)) fun _=>hiO a b
  MJ (motive:=fun _=>MF VX DE _) c.1 (fun r=>pure r) fun _=>unsupported "internal:list.sort.merge-bound"):=rfl
structure Hi (ϕ:Og->VC) (T O X Y:VA Og):Prop where
 px:Up ϕ (X++O)
 py:Up ϕ (Y++O)
 pm:(X++Y++O).Perm T
section
variable {ϕ:Og->VC} {T O X Y x y:VA Og}
def Hi.swap (h:Hi ϕ T O X Y):Hi ϕ T O Y X:=⟨h.py,h.px,(Uq.append_right O).trans h.pm⟩
def Hi.goX (h:Hi ϕ T O (X++x) Y) (i:∀ u∈x,∀ v∈Y,ϕ v<=ϕ u):Hi ϕ T (x++O) X Y:=by
 obtain⟨d,c,f⟩:=h;refine⟨bp,?_,?_⟩;unfold Up at *;rw[QL,QV]at d;rw[QV]at c ⊢;refine⟨c.1,d.2.1,fun a g b e=>?_⟩;rcases QA.mp e with z | z
 simp_all
 simp_all
 refine List.Perm.trans ?_ f;rw[QL,QL X x Y,QL X];refine KR X ?_;rw[←QL];exact Uq.append_right O
def Hi.goY (h:Hi ϕ T O X (Y++y)) (b:∀ u∈y,∀ v∈X,ϕ v<=ϕ u):Hi ϕ T (y++O) X Y:=(h.swap.goX b).swap
def Hi.len (h:Hi ϕ T O X Y):O.length+X.length+Y.length=T.length:=by
 have:=h.pm.length_eq;simp[Qg]at this;lia
def Hi.hx (h:Hi ϕ T O X Y):Up ϕ X:=(QV.mp h.px).1
def Hi.hy (h:Hi ϕ T O X Y):Up ϕ Y:=(QV.mp h.py).1
def JM {x} (h:Up ϕ (l++[x])):∀ v∈l++[x],ϕ v<=ϕ x:=fun v a=>by
 rcases QA.mp a with e | e
 exact(QV.mp h).2.2 v e x (Qq.mpr rfl)
 simp_all
def HiI (ϕ:Og->VC) (a b o:VL Og) (i j:VC):Prop:=Hi ϕ (a.toList++b.toList) o.toList.reverse (a.toList.take i) (b.toList.take j)
def atL {a:VL Og} (h:i<a.size):∃ x,a[i]?=some x/\a.toList.take (i+1)=a.toList.take i++[x] :=
 ⟨_,QT h,by rw[QO bq];simp⟩
def HiI.end1 (h:HiI ϕ a b o i j) (e:i=0\/j=0):Ok ϕ a b (Zaq a b o i j):=by
 have t:(Zaq a b o i j).toList=a.toList.take i++b.toList.take j++o.toList.reverse:=by
  unfold Zaq;simp
 unfold Ok;rw[t];refine⟨?_,h.pm⟩;rcases e with e | e
 subst e;exact h.py;subst e;rw[UR,WK];exact h.px
def HiI.end2 (h:HiI ϕ a b o i j) (e:j=1) (g:0<b.size) (l:∀ y,b[0]?=some y->∀ x∈a.toList,ϕ y<=ϕ x):Ok ϕ a b (ZdF a b o i j):=by
 have t:(ZdF a b o i j).toList=b.toList.take j++a.toList.take i++o.toList.reverse:=by
  unfold ZdF;simp
 unfold Ok;rw[t];subst e;obtain⟨y,m,f⟩:=atL g;have k:Hi ϕ _ o.toList.reverse ([]++a.toList.take i) _:=h;have:=k.goX fun u n v d=>by
  rw[f,UR,Ux,Qq]at d;subst d;exact l v m u (QZ n)
 refine⟨by rw[QL];exact this.py,?_⟩;have:=this.pm;rw[Ux]at this;rw[QL];omega
def Zj3 (o:VL Og) (x):(o.push x).toList.reverse=[x]++o.toList.reverse:=bo
def HiI.push1 {x} (h:HiI ϕ a b o (i+1) j) (e:a.toList.take (i+1)=a.toList.take i++[x]) (d:∀ v∈b.toList.take j,ϕ v<=ϕ x):HiI ϕ a b (o.push x) i j:=by
 unfold HiI at h ⊢;rw[e]at h;rw[Zj3];exact h.goX fun u f v c=>bp
def HiI.push2 {x} (h:HiI ϕ a b o i (j+1)) (e:b.toList.take (j+1)=b.toList.take j++[x]) (d:∀ v∈a.toList.take i,ϕ v<=ϕ x):HiI ϕ a b (o.push x) i j:=by
 unfold HiI at h ⊢;rw[e]at h;rw[Zj3];exact h.goY fun u f v c=>bp
def ZdZ (l:VA Og) (h:z<=i):l.take i=l.take z++(l.drop z).take (i-z):=by
 rw[show i=z+(i-z)by exact Ni h,Rl];congr 2;lia
def ZnL (o a:VL Og) (h:z<=i):(o++(a.extract z i).reverse).toList.reverse=(a.toList.drop z).take (i-z)++o.toList.reverse:=by
 simp
def HiI.app1 (h:HiI ϕ a b o i j) (hz:z<=i) (e:∀ u∈(a.toList.drop z).take (i-z),∀ v∈b.toList.take j,ϕ v<=ϕ u):HiI ϕ a b (o++(a.extract z i).reverse) z j:=by
 unfold HiI at h ⊢;rw[ZdZ _ hz]at h;exact ZnL _ _ hz▸h.goX e
def HiI.app2 (h:HiI ϕ a b o i j) (hz:z<=j) (e:∀ u∈(b.toList.drop z).take (j-z),∀ v∈a.toList.take i,ϕ v<=ϕ u):HiI ϕ a b (o++(b.extract z j).reverse) i z:=by
 unfold HiI at h ⊢;rw[ZdZ _ hz]at h;exact ZnL _ _ hz▸h.goY e
def HiI.size (h:HiI ϕ a b o i j) (hi:i<=a.size) (c:j<=b.size):o.size+i+j=a.size+b.size:=by
 have:=h.len;simp[QD,Qg,Qx,Q5]at this;lia
end
section
variable {prog:Oh} {w:Ol} {A:NC} {E:VG->VF->Prop} {κ:O4} {ϕ:Og->VC} {U:Og->Prop} {G:VF->Prop}
def HiY (ϕ:Og->VC) (G:VF->Prop) (a b:VL Og) (st:VX) (t:VC) (c:(VE (VL Og)×VC×VC×VL Og×VC×VC×VC)) (st':VX) (s':VF):Prop :=
 ∃ i j o mg ac bc,c=(none,i,j,o,mg,ac,bc)/\Sim st st'/\G s'/\HiI ϕ a b o i j/\1<=i/\i<=a.size/\2<=j/\j<=b.size/\t+1+1<=o.size
def HiV (ϕ:Og->VC) (G:VF->Prop) (a b:VL Og) (st:VX) (t:VC) (q:VC) (c:(VE (VL Og)×VC×VC×VL Og×VC×VC)) (st':VX) (s':VF):Prop :=
 ∃ i j o ac bc,c=(none,i,j,o,ac,bc)/\Sim st st'/\G s'/\HiI ϕ a b o i j/\1<=i/\i<=a.size/\2<=j/\j<=b.size/\t+1+q<=o.size
def HiW (ϕ:Og->VC) (G:VF->Prop) (a b:VL Og) (st:VX) (t:VC) (c:(VE (VL Og)×VC×VC×VL Og×VC)) (st':VX) (s':VF):Prop :=
 ∃ i j o mg,c=(none,i,j,o,mg)/\Sim st st'/\G s'/\HiI ϕ a b o i j/\1<=i/\i<=a.size/\2<=j/\j<=b.size/\t+1<=o.size
def Zkn {st d} (r:Sim st d) (n:G H) (B:a[i]?=some x) (D:a.toList.take (i+1)=a.toList.take i++[x])
  (z:HiI ϕ a b o (i+1) j) (C:∀ u∈b.toList.take j,ϕ u<=ϕ x) (hi:i+1<=a.size) (v:2<=j) (g:j<=b.size) (hz:t+1+1<=o.size) :
  kasC (Oc prog w) A E (hiE a b o (i+1) j I k k1) (LoZ (fun c f y=>LoX ϕ G a b st c.1 f y\/HiY ϕ G a b st t c f y) (HiY ϕ G a b st t)) d H:=by
 refine kasC_bind (ZN B ?_);have m:=z.push1 D C;have e:t+1+1<=(o.push x).size:=by rw[WL];exact Vp hz
 by_cases p:i=0
 rw[VD (by simpa using p)];exact kasC_pure (.inl ⟨_,rfl,r,n,m.end1 (.inl p)⟩);rw[if_neg (by simpa using p)];have l:1<=i:=Vu p
 have h:i<=a.size:=K4 hi
 split
 exact kasC_pure (.inr ⟨_,_,_,_,_,_,rfl,r,n,m,l,h,v,g,e⟩);exact kasC_pure ⟨_,_,_,_,_,_,rfl,r,n,m,l,h,v,g,e⟩
def Zko (R:JK prog w A κ ϕ U G) {st p:VX} (hk:NK st=κ) (W:Al U a) (hb:Al U b) (V:Up ϕ b.toList) (N:0<b.size) (L:∀ y,b[0]?=some y->∀ x∈a.toList,ϕ y<=ϕ x) (f:Sim st p) (O:G s4)
  (Z:b[j]?=some y) (hd:b.toList.take (j+1)=b.toList.take j++[y]) (I4:HiI ϕ a b o i (j+1)) (l1:∀ u∈a.toList.take i,ϕ u<=ϕ y) (hi:1<=i) (l:i<=a.size) (hj:1<=j) (g:j+1<=b.size) (hz:t+1+1<=o.size) :
  kasC (Oc prog w) A E (hiD a b o i (j+1) mg k bc) (LoZ (fun c r P=>LoX ϕ G a b st c.1 r P\/HiY ϕ G a b st t c r P) (HiY ϕ G a b st t)) p s4:=by
 apply Ld;intros;obtain⟨i,rfl⟩:∃ n,i=n+1:=⟨i-1,N0 hi⟩
 unfold hiD;dsimp only[Nat.add_one_sub_one];refine kasC_bind (ZN Z ?_);have s:=I4.push2 hd l1;by_cases C:j=1
 rw[VD (by simpa using C)];exact kasC_pure (.inl ⟨_,rfl,f,O,s.end2 C N L⟩)
 rw[if_neg (by simpa using C)];have⟨x1,e,d⟩:=atL (show i<a.size by exact l);have Q:=JM (ϕ:=ϕ) (d▸s.hx);rw[←d]at Q;have K:t+1+1<=(o.push y).size:=by rw[WL];exact Vp hz
 have I:2<=j:=br
 refine kasC_bind (ZN e (kasC_bind (ZaT R (f.1.trans hk) (W _ _ e) hb (N3 g) bq ((UpTo.of V).sub K7 (N3 g)) O fun h s5 D S M z=>?_)));rw[Rp]at M;dsimp only;have B:=s.app2 D fun u hu v X=>QR (Q v X) (M u hu);have H:t+1+1<=(o.push y++(b.extract h j).reverse).size:=by exact UC▸Vp K
 by_cases T:j-h>0
 rw[VD T];by_cases J:h=1
 rw[VD (by simpa using J)];exact kasC_pure (.inl ⟨_,rfl,f,z,B.end2 J N L⟩)
 rw[if_neg (by simpa using J)];by_cases F:h=0
 rw[VD (by simpa using F)];exact kasC_pure (.inl ⟨_,rfl,f,z,B.end1 (.inr F)⟩)
 rw[if_neg (by simpa using F)];exact Zkn f z e d B S l br br H
 rw[if_neg T];have Y:h=j:=N4 D T
 subst Y;exact Zkn f z e d s S l I (K4 g) K
def Zkp (R:JK prog w A κ ϕ U G) {st l:VX} (F:NK st=κ) (z:Al U a) (B:Al U b) (X:Up ϕ a.toList) (J:Up ϕ b.toList) (L:0<b.size) (K:∀ y,b[0]?=some y->∀ x∈a.toList,ϕ y<=ϕ x) (S3:Sim st l) (V:G s3)
  (C:HiI ϕ a b o i j) (hi:1<=i) (I:i<=a.size) (hj:2<=j) (g:j<=b.size) (hz:t+1+1<=o.size) :
  kasC (Oc prog w) A E (hiC a b o i j mg ac bc) (LoZ (fun c f P=>LoX ϕ G a b st c.1 f P\/HiY ϕ G a b st t c f P) (HiY ϕ G a b st t)) l s3:=by
 apply Ld;intros;obtain⟨j,rfl⟩:∃ n,j=n+1:=⟨j-1,Bd hj⟩
 refine kasC_bind (ZbF fun Y e=>?_);replace e:=S3.trans e;have⟨y,p,d⟩:=atL (show j<b.size by exact g);have S:=JM (d▸C.hy);rw[←d]at S;refine kasC_bind (ZN p (kasC_bind (ZaT R (e.1.trans F) (B _ _ p) z (Be I) (Mo hi) ((UpTo.of X).sub K7 (Be I)) V fun k s4 s O T H=>?_)));rw[Rp]at T;dsimp only;have N:=C.app1 s fun u W v Q=>QR (S v Q) (T u W);have r:t+1+1<=(o++(a.extract k i).reverse).size:=by exact UC▸Vp hz
 have m:1<=j:=br
 by_cases M:i-k>0
 rw[VD M];by_cases q:k=0
 rw[VD (by simpa using q)];exact kasC_pure (.inl ⟨_,rfl,e,H,N.end1 (.inl q)⟩)
 rw[if_neg (by simpa using q)];exact Zko R F z B J L K e H p d N O (Vu q) (Vx I s) m g r
 rw[if_neg M];have Z:k=i:=N4 s M
 subst Z;exact Zko R F z B J L K e H p d C O hi I m g hz
def Znr (R:JK prog w A κ ϕ U G) {st u:VX} (V:NK st=κ) (Y:Al U a) (Z:Al U b) (X:0<b.size) (K:∀ y,b[0]?=some y->∀ x∈a.toList,ϕ y<=ϕ x)
  (h:HiV ϕ G a b st t q c u W):kasC (Oc prog w) A E (hiM a b P c) (LoZ (fun c C Q=>LoX ϕ G a b st c.1 C Q\/HiV ϕ G a b st t 1 c C Q) (HiV ϕ G a b st t (q+1))) u W:=by
 apply Ld;intros;obtain⟨i,j,o,D,S,rfl,l,T,H,B,d,F,e,_⟩:=h;obtain⟨i,rfl⟩:∃ n,i=n+1:=⟨i-1,N0 B⟩
 obtain⟨j,rfl⟩:∃ n,j=n+1:=⟨j-1,Bd F⟩
 unfold hiM;have⟨x,L,f⟩:=atL (show i<a.size by exact d);have⟨y,M,k⟩:=atL (show j<b.size by exact e);refine kasC_bind (ZN M (kasC_bind (ZN L (kasC_bind (Zhq R (l.1.trans V) (Z _ _ M) (Y _ _ L) T fun s3 p=>?_)))));dsimp only;have O:=JM (ϕ:=ϕ) (f▸H.hx);have N:=JM (ϕ:=ϕ) (k▸H.hy);rw[←f]at O;rw[←k]at N;by_cases I:ϕ y<ϕ x
 rw[VD (by simpa using I)];refine kasC_bind (ZN L ?_);have g:=H.push1 f fun v J=>QR (N v J) (WP I);by_cases m:i=0
 rw[VD (by simpa using m)];exact kasC_pure (.inl ⟨_,rfl,l,p,g.end1 (.inl m)⟩)
 rw[if_neg (by simpa using m)];have z:t+1+(q+1)<=(o.push x).size:=by rw[WL];exact Bp ‹_›
 by_cases s:D+1≥P
 exact VD s▸kasC_pure (.inr ⟨_,_,_,_,_,rfl,l,p,g,Br m,Ng d,F,e,Bq z⟩)
 exact if_neg s▸kasC_pure ⟨_,_,_,_,_,rfl,l,p,g,Br m,Ng d,F,e,z⟩
 rw[if_neg (by simpa using I)];refine kasC_bind (ZN M ?_);have g:=H.push2 k fun v J=>QR (O v J) (Kr I);by_cases m:j=1
 rw[VD (by simpa using m)];exact kasC_pure (.inl ⟨_,rfl,l,p,g.end2 m X K⟩)
 rw[if_neg (by simpa using m)];have z:t+1+(q+1)<=(o.push y).size:=by rw[WL];exact Bp ‹_›
 by_cases s:S+1≥P
 exact VD s▸kasC_pure (.inr ⟨_,_,_,_,_,rfl,l,p,g,B,d,Bs F m,Ng e,Bq z⟩)
 exact if_neg s▸kasC_pure ⟨_,_,_,_,_,rfl,l,p,g,B,d,Bs F m,Ng e,z⟩
def Zns (R:JK prog w A κ ϕ U G) {st m:VX} (r:NK st=κ) (p:Al U a) (n:Al U b) (s:Up ϕ a.toList) (z:Up ϕ b.toList) (v:0<b.size) (C:∀ y,b[0]?=some y->∀ x∈a.toList,ϕ y<=ϕ x)
  (h:HiY ϕ G a b st t c m F):kasC (Oc prog w) A E (hiB a b c) (LoZ (fun c l B=>LoX ϕ G a b st c.1 l B\/HiY ϕ G a b st t c l B) (HiY ϕ G a b st t)) m F:=by
 apply Ld;intros;obtain⟨i,j,o,J,I,H,rfl,D,u,q,k,d,f,e,g⟩:=h;unfold hiB;split
 exact Zkp R r p n s z v C D u q k d f e g;exact Zkp R r p n s z v C D u q k d f e g
def Znq (R:JK prog w A κ ϕ U G) {st d:VX} (T:NK st=κ) (P:Al U a) (M:Al U b) (ua:Up ϕ a.toList) (X:Up ϕ b.toList) (L:0<b.size) (N:∀ y,b[0]?=some y->∀ x∈a.toList,ϕ y<=ϕ x)
  (h:HiW ϕ G a b st t c d H):kasC (Oc prog w) A E (hiO a b c) (LoZ (fun c d H=>LoX ϕ G a b st c.1 d H) (HiW ϕ G a b st (t+1))) d H:=by
 apply Ld;intros;obtain⟨i,j,o,mg,rfl,S,g',I,hi,J,hj,v,hs⟩:=h;refine kasC_bind (Yh
  (Yx _ ⟨i,j,o,0,0,rfl,S,g',I,hi,J,hj,v,hs⟩ (fun q c l W Z V=>Znr R T P M L N V) ?_) ?_)
 rintro c l W ⟨i,j,o,u,s,rfl,p,k,z,f,g,D,m,C⟩;exact .inr ⟨i,j,o,u,s,rfl,p,k,z,f,g,D,m,br⟩;rintro c l W (⟨r,e,p,k,O⟩ | ⟨i,j,o,u,s,rfl,p,k,z,f⟩);exact e▸kasC_pure ⟨r,rfl,p,k,O⟩;refine kasC_bind (Jp ?_);refine kasC_bind (Yh
  (Yx (fun _=>HiY ϕ G a b st t) ⟨i,j,o,_,u,s,rfl,p,k,z,f⟩ (fun q c n Q Z Y=>Zns R T P M ua X L N Y) fun c n Q Y=>.inr Y) ?_)
 rintro c n Q (⟨r,e,K,B,O⟩ | ⟨i,j,o,mg,u,s,rfl,K,B,I3,F⟩);exact e▸kasC_pure ⟨r,rfl,K,B,O⟩;exact kasC_bind (ZbF fun st4 S4=>kasC_pure ⟨i,j,o,_,rfl,K.trans S4,B,I3,F⟩)
def ZoD (R:JK prog w A κ ϕ U G) {st:VX} (K:NK st=κ) (D:Al U a) (V:Al U b) (z:Up ϕ a.toList) (q:Up ϕ b.toList) (pa:0<a.size) (B:0<b.size)
  (u:∀ y,b[0]?=some y->∀ x∈a.toList,ϕ y<=ϕ x) (H:∀ x,a[a.size-1]?=some x->∀ y∈b.toList,ϕ y<=ϕ x) (g:G s)
  (h:∀ r d f,Sim st d->G f->Ok ϕ a b r->Q r d f):kasC (Oc prog w) A E (ZlJ a b) Q st s:=by
 rw[Zi3];refine kasC_bind (Jp ?_);obtain⟨L,k,m⟩:=atL (show a.size-1<a.size by exact Vt pa);refine kasC_bind (ZN k ?_);have l:=by
  have M:a.toList.take (a.size-1+1)=a.toList:=Q4 (by rw[Qx];omega);have P:b.toList.take b.size=b.toList:=Q4 bo;have:HiI ϕ a b #[] (a.size-1+1) b.size:=by
   unfold HiI;rw[M,P];exact⟨by simpa using z,by simpa using q,bo⟩
  exact this.push1 m fun v T=>H L k v (QZ T)
 by_cases n:a.size-1=0
 rw[VD (by simpa using n)];exact kasC_pure (h _ _ _ (Sim.refl _) g (l.end1 (.inl n)))
 rw[if_neg (by simpa using n)];by_cases p:b.size=1
 rw[VD (by simpa using p)];exact kasC_pure (h _ _ _ (Sim.refl _) g (l.end2 p B u))
 rw[if_neg (by simpa using p)];refine kasC_bind (kasC_get ?_);refine kasC_bind (Yh (Yx _
  ⟨_,_,_,_,rfl,Sim.refl _,g,l,Vu n,Vv,br,K7,Qh 1⟩ (fun t c d f Y W=>Znq R K D V z q B u W) ?_) ?_)
 rintro c d f ⟨i,j,o,Z,rfl,S,C,I,X,N,hj,F,hs⟩;have:=I.size N F;exact (Vs hs this).elim
 rintro c d f ⟨r,e,S,C,O⟩;exact e▸kasC_pure (h r d f S C O)
end
def X8 (b:j<=xs.size) (k):fx ϕ (O3 xs i j ((j-i) / 2)) k=if i<=k/\k<j then fx ϕ xs (i+j-1-k)else fx ϕ xs k:=by
 have e:=Dz (i:=i) b k;by_cases a:i<=k/\k<j
 rw[VD a]at e ⊢;exact YR e;rw[if_neg a]at e ⊢;exact YR e
def ZcB (g:a<xs.size) (f:d<=a) (k):fx ϕ (bubble xs a d) k=if k=a-d then fx ϕ xs a else if a-d<k/\k<=a then fx ϕ xs (k-1)else fx ϕ xs k:=by
 have e:=Fy g d f k;by_cases b:k=a-d
 rw[VD b]at e ⊢;exact YR e;rw[if_neg b]at e ⊢;by_cases c:a-d<k/\k<=a
 rw[VD c]at e ⊢;exact YR e;rw[if_neg c]at e ⊢;exact YR e
structure Kp (lo:VC) (st st':VX):Prop where
 kind:NK st'=NK st
 pend:OB st'=OB st
 fail:OP st'=OP st
 perm:(Of st').Perm (Of st)
 low:∀ i,i<lo->(Of st')[i]?=(Of st)[i]?
def Kp.refl (lo) (st):Kp lo st st:=⟨rfl,rfl,rfl,W7 _,fun _ _=>rfl⟩
def Kp.size {lo} {st a} (h:Kp lo st a):(Of a).size=(Of st).size:=h.perm.size_eq
def Kp.mir {lo i j} {st a} (h:Kp lo st a) (hi:lo<=i) (c:j<=(Of a).size):Kp lo st (G6 a (O3 (Of a) i j ((j-i) / 2))) :=
 ⟨h.kind,h.pend,h.fail,(mirror_perm _ _ _ _).trans h.perm,fun k d=>by
  rw[Dz c k,if_neg br];exact h.low k d⟩
def Kp.bub {lo b d} {st a} (h:Kp lo st a) (e:b<(Of a).size) (f:d<=b) (i:lo<=b-d):Kp lo st (G6 a (bubble (Of a) b d)) :=
 ⟨h.kind,h.pend,h.fail,(bubble_perm _ _ _).trans h.perm,fun k g=>by
  rw[Fy e d f k,if_neg bq,if_neg bq];exact h.low k g⟩
def ZnQ (ϕ:Og->VC) (a:VL Og) (p q:VC):Prop:=∀ i j,p<=i->i<=j->j<q->fx ϕ a j<=fx ϕ a i
section
variable {prog:Oh} {w:Ol} {A:NC} {E:VG->VF->Prop} {κ:O4} {ϕ:Og->VC} {U:Og->Prop} {G:VF->Prop}
def Zfh (R:JK prog w A κ ϕ U G) {st:VX} (k:NK st=κ) (d:Al U (Of st)) (hi:i<(Of st).size) (f:j<(Of st).size) (g:G s)
  (h:∀ e,G e->Q (some (decide (fx ϕ (Of st) i<fx ϕ (Of st) j))) st e):kasC (Oc prog w) A E (BD i j) Q st s:=by
 refine kasC_bind (kasC_get ?_);have b:=QT hi;have c:=QT f;rw[ZcC b,ZcC c]at h;exact kasC_bind (ZN b (kasC_bind (ZN c (Zhq R k (d _ _ b) (d _ _ c) g h))))
def ZeD {st} (h:Q () (G6 st (O3 (Of st) i j ((j-i) / 2))) s):kasC (Oc prog w) A E (Gq i j) Q st s:=kasC_modify h
def Zhs (R:JK prog w A κ ϕ U G) {lo K b} {l st:VX} (hk:NK l=κ) (ha:Al U (Of l)) (hn:lo+b<=(Of l).size) (h1:1<=K) (H:K+1<=b) (K0:Kp lo l st) (dn:ZnQ ϕ (Of st) lo (lo+K+1)) (g:G s)
  (h:∀ n a r,1<=n->n<=b->Kp lo l a->UpTo ϕ (Of a) lo (lo+n)->G r->Q (some n) a r):kasC (Oc prog w) A E (do
   rule "list.sort.descending-run"
   let mut n:=K+1
   let mut F:=0
   for _ in [n:b] do
    let some V ←BD (lo+n) (lo+n-1) | return none
    if V then
     if F>0 then Gq (lo+n-(F+1)) (lo+n)
     F:=0
    else
     let some la ←BD (lo+n-1) (lo+n) | return none
     if la then break
     F:=F+1
    n:=n+1
   if F>0 then Gq (lo+n-(F+1)) (lo+n)
   Gq lo (lo+n)
   for _ in [n:b] do
    let some V ←BD (lo+n) (lo+n-1) | return none
    if V then break
    n:=n+1
   return some n) Q st s:=by
 have y:∀ {L:VL Og} {i j:VC},j<=L.size->(∀ k,i<=k->k<j->fx ϕ L k=fx ϕ L (j-1))->∀ k,fx ϕ (O3 L i j ((j-i) / 2)) k=fx ϕ L k:=fun {L i j} hj he k=>by
  rw[X8 hj];split
  rw[he _ (N5 ‹_›) (N6 ‹_›),he k bq bq]
  rfl
 dsimp only;refine kasC_bind (Jp ?_);refine kasC_bind (Yh (Q:=fun c a r=>∃ n q,c=(none,n,q)/\Kp lo l a/\G r/\1<=n/\n<=b/\ZnQ ϕ (Of a) lo (lo+n)/\q<n/\∀ k,lo+n-(q+1)<=k->k<lo+n->fx ϕ (Of a) k=fx ϕ (Of a) (lo+n-1))
  (Yx (fun t c a r=>∃ n q,c=(none,n,q)/\Kp lo l a/\G r/\1<=n/\n=t/\n<=b/\ZnQ ϕ (Of a) lo (lo+n)/\q<n/\∀ k,lo+n-(q+1)<=k->k<lo+n->fx ϕ (Of a) k=fx ϕ (Of a) (lo+n-1))
   ⟨K+1,0,rfl,K0,g,T4,rfl,H,dn,N7,fun k f o=>by rw[show k=lo+(K+1)-1 by exact N8 o f]⟩ ?_ ?_) ?_)
 rintro t c a r ht ⟨n,q,rfl,p,X,O,rfl,P,x,S,D⟩;dsimp only;have sz:=p.size;have al:Al U (Of a):=ha.perm p.perm;have Z:n<b:=N9 H ht
 have v:lo+n<(Of a).size:=Ma hn Z sz
 clear ht hn H h1 sz P K0 dn h g;refine kasC_bind (Zfh R (p.kind.trans hk) al v (Mb v) X fun s2 g2=>Ld ?_);intros;dsimp only;by_cases c:fx ϕ (Of a) (lo+n)<fx ϕ (Of a) (lo+n-1)
 rw[VD (by simpa using c)];have N:ZnQ ϕ (Of a) lo (lo+(n+1)):=fun i j f o J=>by
  rcases Wr j (lo+n)with z | z
  exact x i j f o z
  have Y:j=lo+n:=Mc J z
  subst Y;rcases Wr i (lo+n)with M | M
  have:=x i (lo+n-1) f (Md M) (Vt M);exact Me this c
  rw[show i=lo+n by exact Vw o M];exact K7
 by_cases W:q>0
 rw[VD W];refine kasC_bind (ZeD (kasC_pure ⟨n+1,0,rfl,p.mir (Mf S) (Vm v),g2,T4,rfl,Z,fun i j f o J=>?_,N7,fun k f o=>by rw[show k=lo+(n+1)-1 by exact N8 o f]⟩));show fx ϕ (O3 (Of a) _ _ _) j<=fx ϕ (O3 (Of a) _ _ _) i;rw[y (Vm v) D,y (Vm v) D];exact N i j f o J
 exact if_neg W▸kasC_pure ⟨n+1,0,rfl,p,g2,T4,rfl,Z,N,N7,fun k f o=>by rw[show k=lo+(n+1)-1 by exact N8 o f]⟩
 rw[if_neg (by simpa using c)];refine kasC_bind (Zfh R (p.kind.trans hk) al (Mb v) v g2 fun s3 g3=>?_);dsimp only;by_cases c2:fx ϕ (Of a) (lo+n-1)<fx ϕ (Of a) (lo+n)
 rw[VD (by simpa using c2)];exact kasC_pure ⟨n,q,rfl,p,g3,O,Vm Z,x,S,D⟩
 rw[if_neg (by simpa using c2)];have e:fx ϕ (Of a) (lo+n)=fx ϕ (Of a) (lo+n-1):=br
 refine kasC_pure ⟨n+1,q+1,rfl,p,g3,T4,rfl,Z,fun i j f o J=>?_,br,fun k f o=>?_⟩
 rcases Wr j (lo+n)with z | z
 exact x i j f o z
 have Y:j=lo+n:=Mc J z
 subst Y;rcases Wr i (lo+n)with M | M
 have:=x i (lo+n-1) f (Md M) (Vt M);lia
 exact show i=lo+n by lia▸Qh _
 rw[show lo+(n+1)-1=lo+n by exact Mg,e];rcases Wr k (lo+n)with z | z
 exact D k br z
 exact show k=lo+n by lia▸e
 rintro c a r ⟨n,q,rfl,p,X,O,P,x,S⟩;exact⟨n,q,rfl,p,X,O,x,S⟩
 rintro c a r ⟨n,q,rfl,p,X,O,P,x,S,D⟩;dsimp only;have sz:=p.size;have C:∀ {d:VX},Kp lo l d->ZnQ ϕ (Of d) lo (lo+n)->kasC (Oc prog w) A E (do
   Gq lo (lo+n)
   let mut m:=n
   for _ in [m:b] do
    let some V ←BD (lo+m) (lo+m-1) | return none
    if V then break
    m:=m+1
   return some m) Q d r:=fun {d} K2 d2=>by
  have sz2:=K2.size;have hs2:lo+n<=(Of d).size:=Mh hn P sz2
  dsimp only;refine kasC_bind (ZeD ?_);have K3:=K2.mir (i:=lo) (j:=lo+n) K7 hs2;have u3:UpTo ϕ (Of (G6 d (O3 (Of d) lo (lo+n) ((lo+n-lo) / 2)))) lo (lo+n):=fun i j f o J=>by
   show fx ϕ (O3 (Of d) _ _ _) i<=fx ϕ (O3 (Of d) _ _ _) j;rw[X8 hs2,X8 hs2,VD bq,VD bq];exact d2 _ _ bq bq bq
  generalize G6 d (O3 (Of d) lo (lo+n) ((lo+n-lo) / 2))=B at *;have sz3:=K3.size;refine kasC_bind (Yh (Q:=fun c a r=>∃ m,c=(none,m)/\a=B/\G r/\1<=m/\m<=b/\UpTo ϕ (Of B) lo (lo+m)) (Yx (fun t c a r=>∃ m,c=(none,m)/\a=B/\G r/\1<=m/\m=t/\m<=b/\UpTo ϕ (Of B) lo (lo+m)) ⟨n,rfl,rfl,X,O,rfl,P,u3⟩ ?_ ?_) ?_)
  rintro t c u s4 ht ⟨m,rfl,rfl,g4,T,rfl,d3,I⟩;dsimp only;have Z:m<b:=N9 P ht
  have v:lo+m<(Of u).size:=Ma hn Z sz3
  clear ht hn H h1 sz sz2 sz3 d3 K0 dn h g D S x P;refine kasC_bind (Zfh R (K3.kind.trans hk) (ha.perm K3.perm) v (Mb v) g4 fun s5 g5=>?_);dsimp only;by_cases c:fx ϕ (Of u) (lo+m)<fx ϕ (Of u) (lo+m-1)
  rw[VD (by simpa using c)];exact kasC_pure ⟨m,rfl,rfl,g5,T,WP Z,I⟩
  rw[if_neg (by simpa using c)];refine kasC_pure ⟨m+1,rfl,rfl,g5,T4,rfl,Z,fun i j f o J=>?_⟩;rcases Wr j (lo+m)with z | z
  exact I i j f o z
  have Y:j=lo+m:=Mc J z
  subst Y;rcases Wr i (lo+m)with M | M
  have:=I i (lo+m-1) f (Md M) (Vt M);exact Mi this c
  exact show i=lo+m by lia▸Qh _
  rintro c u s4 ⟨m,rfl,rfl,g4,T,rfl,d3,I⟩;exact⟨_,rfl,rfl,g4,T,d3,I⟩
  rintro c u s4 ⟨m,rfl,rfl,g4,T,d3,I⟩;exact kasC_pure (h m u s4 T d3 K3 I g4)
 by_cases W:q>0
 rw[VD W];refine kasC_bind (ZeD (C (p.mir (Mf S) (Mh hn P sz)) fun i j f o J=>?_));show fx ϕ (O3 (Of a) _ _ _) j<=fx ϕ (O3 (Of a) _ _ _) i;rw[y (Mh hn P sz) D,y (Mh hn P sz) D];exact x i j f o J
 exact if_neg W▸C p x
def Zje (R:JK prog w A κ ϕ U G) {lo b} {st:VX} (D:NK st=κ) (C:Al U (Of st)) (J:lo+b<=(Of st).size) (L:1<=b) (g:G s)
  (h:∀ n e u,1<=n->n<=b->Kp lo st e->UpTo ϕ (Of e) lo (lo+n)->G u->Q (some n) e u):kasC (Oc prog w) A E (countRun' lo b) Q st s:=by
 rw[countRun'_eq];dsimp only;refine kasC_bind (Yh (Q:=fun c e u=>∃ m,c=(none,m)/\e=st/\G u/\1<=m/\m<=b/\UpTo ϕ (Of st) lo (lo+m)/\(m=b\/fx ϕ (Of st) (lo+m)<fx ϕ (Of st) (lo+m-1))) (Yx (fun t c e u=>∃ m,c=(none,m)/\e=st/\G u/\1<=m/\m=t/\m<=b/\UpTo ϕ (Of st) lo (lo+m)) ⟨1,rfl,rfl,g,K7,rfl,L,fun i j l r M=>by grind⟩ ?_ ?_) ?_)
 rintro t c a I W ⟨m,rfl,rfl,q,o,rfl,v,f⟩;dsimp only;have O:m<b:=N9 L W
 have K:lo+m<(Of a).size:=Bh J O
 clear W J L v g h;refine kasC_bind (Zfh R D C K (Mb K) q fun P y=>?_);dsimp only;by_cases c:fx ϕ (Of a) (lo+m)<fx ϕ (Of a) (lo+m-1)
 rw[VD (by simpa using c)];exact kasC_pure ⟨m,rfl,rfl,y,o,WP O,f,.inr c⟩
 rw[if_neg (by simpa using c)];refine kasC_pure ⟨m+1,rfl,rfl,y,T4,rfl,O,fun i j l r M=>?_⟩;rcases Wr j (lo+m)with z | z
 exact f i j l r z
 have N:j=lo+m:=Mc M z
 subst N;rcases Wr i (lo+m)with B | B
 have:=f i (lo+m-1) l (Md B) (Vt B);exact Mi this c
 rw[show i=lo+m by exact Vw r B];exact K7
 rintro c a I ⟨m,rfl,rfl,q,o,rfl,v,f⟩;exact⟨_,rfl,rfl,q,o,v,f,.inl br⟩
 rintro c a I ⟨m,rfl,rfl,q,o,v,f,T⟩;dsimp only;by_cases F:m=b
 rw[VD (by simpa using F)];exact kasC_pure (h m a I o v (Kp.refl _ _) f q)
 rw[if_neg (by simpa using F)];have H:=T.resolve_left F;replace F:m<b:=Bi v F
 have K:lo+m<(Of a).size:=Bh J F
 clear T L;by_cases V:m>1
 rw[VD V];refine kasC_bind (Zfh R D C (Nx K) (Mb K) q fun P y=>?_);dsimp only;by_cases S:fx ϕ (Of a) lo<fx ϕ (Of a) (lo+m-1)
 rw[VD (by simpa using S)];exact kasC_pure (h m a P o v (Kp.refl _ _) f y)
 rw[if_neg (by simpa using S)];apply Lc;intros;have d:∀ k,lo<=k->k<lo+m->fx ϕ (Of a) k=fx ϕ (Of a) (lo+m-1):=fun k l r=>by
  have z1:=f lo k K7 l r;have B:=f k (lo+m-1) l (Md r) bq;lia
 refine kasC_bind (ZeD (Zhs R D C J o F ((Kp.refl lo a).mir K7 (Vm K)) ?_ y h));have x:∀ k,fx ϕ (O3 (Of a) lo (lo+m) ((lo+m-lo) / 2)) k=fx ϕ (Of a) k:=fun k=>by
  rw[X8 (Vm K)];split
  rw[d _ (N5 ‹_›) (N6 ‹_›),d k bq bq]
  rfl
 intro i j l r M;show fx ϕ (O3 (Of a) _ _ _) j<=fx ϕ (O3 (Of a) _ _ _) i;rw[x,x];rcases Wr j (lo+m)with z | z
 rw[d i l (Nw z r),d j (Vx r l) z];exact K7
 have N:j=lo+m:=br
 subst N;rcases Wr i (lo+m)with B | B
 exact d i l B▸Vm H
 rw[show i=lo+m by exact Vw r B];exact K7
 rw[if_neg V];have Z:m=1:=br
 subst Z;refine Zhs R D C J o F (Kp.refl lo a) ?_ q h;intro i j l r M;rcases Wr i j with z | z
 have Y:i=lo:=br
 have X:j=lo+1:=br
 subst Y X;rw[Rr]at H;exact Vm H
 exact show i=j by lia▸Qh _
def Znp (R:JK prog w A κ ϕ U G) {lo n t} {d st:VX} (hk:NK d=κ) (ha:Al U (Of d)) (X:lo+n<=(Of d).size) (M:t<=n) (W:Kp lo d st) (V:UpTo ϕ (Of st) lo (lo+t)) (g:G s)
  (h:∀ b e,Kp lo d b->UpTo ϕ (Of b) lo (lo+n)->G e->Q true b e):kasC (Oc prog w) A E (binarySort' lo n t) Q st s:=by
 rw[binarySort'_eq];dsimp only;refine kasC_bind (Yh (Q:=fun c b e=>c=(none,())/\Kp lo d b/\G e/\UpTo ϕ (Of b) lo (lo+n)) (Yx (fun k c b e=>c=(none,())/\max t 1<=k/\Kp lo d b/\G e/\UpTo ϕ (Of b) lo (lo+min k n)) ⟨rfl,Qh _,W,g,fun i j p q Z=>?_⟩ ?_ ?_) ?_)
 by_cases h1:t=0
 exact show i=j by lia▸K7
 exact V i j p q br
 rintro k c a O L ⟨rfl,D,m,H,o⟩;have Y:=m.size;have K:k<n:=bq
 rw[show min k n=k by exact Bt K]at o;have C:DZ->max t 1<=k+1:=fun _=>Vp D
 have y:lo+k<(Of a).size:=Ma X K Y
 clear L D M X Y V;refine kasC_bind (Yh (Q:=fun c b e=>b=a/\G e/\∃ l r,c=(none,l,r)/\l<=k/\(∀ i,lo<=i->i<lo+l->fx ϕ (Of a) i<=fx ϕ (Of a) (lo+k))/\(∀ i,lo+l<=i->i<lo+k->fx ϕ (Of a) (lo+k)<fx ϕ (Of a) i))
  (Yx (fun x c b e=>b=a/\G e/\∃ l r,c=(none,l,r)/\l<=r/\r<=k/\r-l<=k-x/\(∀ i,lo<=i->i<lo+l->fx ϕ (Of a) i<=fx ϕ (Of a) (lo+k))/\(∀ i,lo+r<=i->i<lo+k->fx ϕ (Of a) (lo+k)<fx ϕ (Of a) i))
   ⟨rfl,H,0,k,rfl,Kw,K7,K7,fun i p q=>br,fun i p q=>(V7 p q).elim⟩ ?_ ?_) ?_)
 rintro x c f P hx ⟨rfl,u,l,r,rfl,T,v,N,J,I⟩;apply Ld;intros;dsimp only;by_cases z:l≥r
 rw[VD z];have:l=r:=Vw T z
 subst this;exact kasC_pure ⟨rfl,u,l,l,rfl,v,J,I⟩
 rw[if_neg z];refine kasC_bind (Zfh R (m.kind.trans hk) (ha.perm m.perm) y br u fun s3 S=>?_);dsimp only;by_cases c:fx ϕ (Of f) (lo+k)<fx ϕ (Of f) (lo+(l+r) / 2)
 rw[VD (by simpa using c)];exact kasC_pure ⟨rfl,S,l,(l+r) / 2,rfl,br,br,bq,J,fun i p q=>QP c (o _ _ Kb p q)⟩
 rw[if_neg (by simpa using c)];exact kasC_pure ⟨rfl,S,(l+r) / 2+1,r,rfl,br,v,bq,fun i p q=>QR (o i (lo+(l+r) / 2) p br br) (UO.mp c),I⟩
 rintro c f P ⟨rfl,u,l,r,rfl,T,v,N,J,I⟩;have:l=r:=Bn T N
 subst this;exact⟨rfl,u,l,l,rfl,v,J,I⟩
 ·rintro c f P ⟨rfl,u,l,r,rfl,T,v,N⟩;dsimp only;rw[moveDown'_eq];refine kasC_bind (kasC_modify (kasC_pure ⟨rfl,C trivial,m.bub y Vv bq,u,?_⟩));have F:=y;clear K C;intro i j p q Z;rw[ZcB F Vv,ZcB F Vv,show lo+k-(lo+k-(lo+l))=lo+l by omega]
  repeat' split
  all_goals first
   | (exfalso;lia)
   | exact Qh _
   | exact v _ bq br
   | exact WP (N _ bq bq)
   | exact o _ _ bq bq br
 rintro c a O ⟨rfl,D,m,H,o⟩;refine⟨rfl,m,H,?_⟩
 rwa [show min (max (max t 1) n) n=n by lia]at o
 rintro c a O ⟨rfl,m,H,o⟩;exact kasC_pure (h a O m o H)
end
section
variable {ϕ:Og->VC}
def up_of (e:a.toList=P++X++S) (u:Up ϕ X):UpTo ϕ a P.length (P.length+X.length):=by
 have b:∀ k (d:k<X.length),fx ϕ a (P.length+k)=ϕ X[k]:=fun k d=>by
  refine ZcC ?_;rw[←QW,e,QL,QC Kb,UA,QF d];simp
 intro i j g f h;obtain⟨x,rfl⟩:∃ x,i=P.length+x:=⟨i-P.length,Ni g⟩
 obtain⟨y,rfl⟩:∃ y,j=P.length+y:=⟨j-P.length,bq⟩
 rw[b x bq,b y _];rcases Wr x y with c | c
 exact Wh.mp u x y _ bq c
 have:x=y:=br
 subst this;exact K7
def ZmX (h:UpTo ϕ a p (p+n)) (o:p+n<=a.size):Up ϕ ((a.toList.drop p).take n):=by
 refine Wh.mpr fun i j g m f=>?_;have q:((a.toList.drop p).take n).length=n:=by rw[QD,Wi,Qx];lia
 have d:∀ k (l:k<((a.toList.drop p).take n).length),fx ϕ a (p+k)=ϕ ((a.toList.drop p).take n)[k]:=fun k l=>by
  have e:=bq
  refine ZcC ?_;simp
 rw[←d i g,←d j m];exact h _ _ Kb br br
def Runs (ϕ:Og->VC) (a:VL Og):VA (VC×VC×VC)->VC->VC->Prop
 | [],p,q=>p=q
 | x::l,p,q=>x.1=p/\1<=x.2.1/\UpTo ϕ a p (p+x.2.1)/\Runs ϕ a l (p+x.2.1) q
def Runs.le:∀ {l} {p q},Runs ϕ a l p q->p+l.length<=q
 | [],p,q,h=>by
  have:p=q:=h;simp[this]
 | x::l,p,q,h=>by
  have:=Runs.le h.2.2.2;have:=h.2.1;simp[QI];lia
def Runs.congr:∀ {l} {p q},Runs ϕ a l p q->(∀ i,p<=i->i<q->fx ϕ b i=fx ϕ a i)->Runs ϕ b l p q
 | [],_,_,h,_=>h
 | x::l,p,q,h,e=>by
  have f:=Runs.le h.2.2.2;refine⟨h.1,h.2.1,fun i j d c g=>?_,h.2.2.2.congr fun i d c=>e i (K4 d) c⟩;rw[e i d br,e j (Vx c d) br];exact h.2.2.1 i j d c g
def Runs.app:∀ {l m} {p q},Runs ϕ a (l++m) p q->∃ r,Runs ϕ a l p r/\Runs ϕ a m r q
 | [],m,p,q,h=>⟨p,rfl,h⟩
 | x::l,m,p,q,h=>by
  obtain⟨r,b,c⟩:=Runs.app h.2.2.2;exact⟨r,⟨h.1,h.2.1,h.2.2.1,b⟩,c⟩
def Runs.join:∀ {l m} {p q r},Runs ϕ a l p r->Runs ϕ a m r q->Runs ϕ a (l++m) p q
 | [],m,p,q,r,h,k=>by
  have:p=r:=h
  grind
 | x::l,m,p,q,r,h,k=>⟨h.1,h.2.1,h.2.2.1,Runs.join h.2.2.2 k⟩
def Runs.mod (b:∀ x,(f x).1=x.1/\(f x).2.1=x.2.1):∀ {l} {p q} (k),Runs ϕ a l p q->Runs ϕ a (l.modify k f) p q
 | [],p,q,k,h=>by rw[List.modify_nil];omega
 | x::l,p,q,0,h=>by
  refine⟨(b x).1.trans h.1,by exact (b x).2▸h.2.1,by exact (b x).2▸h.2.2.1,by exact (b x).2▸h.2.2.2⟩
 | x::l,p,q,k+1,h=>⟨h.1,h.2.1,h.2.2.1,Runs.mod b k h.2.2.2⟩
end
def Zej:∀ (r) (a:VL Og) (p k),p+k+r.length<=a.size->((r.zipIdx k).foldl (fun a x=>a.setIfInBounds (p+x.2) x.1) a).toList=a.toList.take (p+k)++r++a.toList.drop (p+k+r.length)
 | [],a,p,k,h=>by simp
 | x::r,a,p,k,h=>by
  rw[List.zipIdx_cons,U7];simp[QI]at h;rw[Zej r _ p _ (by rw[Array.size_setIfInBounds];omega)];have i:p+k<a.toList.length:=by rw[Qx];omega
  rw[UV,List.set_eq_take_append_cons_drop,VD i];have f:(a.toList.take (p+k)).length=p+k:=by rw[QD];exact Bt i
  have j:(a.toList.take (p+k)++x::a.toList.drop (p+k+1)).take (p+(k+1))=a.toList.take (p+k)++[x]:=by
   rw[List.take_append,f,show p+(k+1)-(p+k)=1 by lia,Q4 bq];rfl
  have l:(a.toList.take (p+k)++x::a.toList.drop (p+k+1)).drop (p+(k+1)+r.length)=a.toList.drop (p+k+(x::r).length):=by
   rw[List.drop_append,f,List.drop_of_length_le bq,Ux,show p+(k+1)+r.length-(p+k)=r.length+1 by lia,List.drop_succ_cons,Uz];congr 1;simp[QI];lia
  rw[j,l];simp
def Zi4 (i):mergeAt' i=(do
 let z ←get
 let (some (h,n,q),some (e,l,_)):=((OB z)[i]?,(OB z)[i+1]?) | unsupported "internal:list.sort.pending"
 set (GQ z (((OB z).setIfInBounds i (h,n+l,q)).eraseIdxIfInBounds (i+1)))
 let some k ←ZbI false (←OS (Of z) e) (Of z) h n 0 | return false
 let (m,g):=(h+k,n-k)
 if g==0 then return true
 let some o ←ZbI true (←OS (Of z) (m+g-1)) (Of z) e l (l-1) | return false
 if o==0 then return true
 let x:=(Of z).extract m e
 let y:=(Of z).extract e (e+o)
 let r ←if g<=o then ZlI x y else ZlJ x y
 modify fun z=>G6 z (r.toList.zipIdx.foldl (fun a (p,j)=>a.setIfInBounds (m+j) p) (Of z))
 return (OP (←get)).isNone):=rfl
section
variable {prog:Oh} {w:Ol} {A:NC} {E:VG->VF->Prop} {κ:O4} {ϕ:Og->VC} {U:Og->Prop} {G:VF->Prop}
def Zjf {Q} {st:σ} (h:Q ⟨⟩ t s):kasC M A E (set t) Q st s:=Ob h
structure Jn (κ:O4) (ϕ:Og->VC) (a₀:VL Og) (q:VC) (l:VA (VC×VC×VC)) (st:VX):Prop where
 kind:NK st=κ
 fail:OP st=none
 perm:(Of st).Perm a₀
 pend:(OB st).toList=l
 runs:Runs ϕ (Of st) l 0 q
def Jj {l:VA Og} (c:l.length=N) (h:p+n<=N):((l.drop p).take n).length=n:=by
 rw[QD,Wi];lia
def Zhp (R:JK prog w A κ ϕ U G) {st} (ha:Al U a₀) (J:Jn κ ϕ a₀ q l st) (hq:q<=a₀.size) (hi:i+1<l.length) (g:G s)
  (h:∀ l' C V,l'.length+1=l.length->Jn κ ϕ a₀ q l' C->(∀ k,q<=k->fx ϕ (Of C) k=fx ϕ (Of st) k)->G V->Q true C V):kasC (Oc prog w) A E (mergeAt' i) Q st s:=by
 obtain⟨l1,x,y,l2,e,e1⟩:∃ l1 x y l2,l=l1++x::y::l2/\l1.length=i :=
  ⟨l.take i,l[i],l[i+1],l.drop (i+2),by
   simp,by rw[QD];lia⟩
 obtain⟨d,o,pw⟩:=x;obtain⟨sb,D,pv⟩:=y;obtain⟨r,r1,r2⟩:=Runs.app (e▸J.runs);obtain⟨z1,z2,z3,z4,z5,z6,z7⟩:=r2;dsimp only at z1 z2 z3 z4 z5 z6 z7;subst z1;subst z4;have sz:(Of st).size=a₀.size:=J.perm.size_eq;have al:Al U (Of st):=ha.perm J.perm;have hle:=z7.le;have p1:(OB st)[i]?=some (d,o,pw):=by
  rw[←QW,J.pend,e,←e1,QC (Qh _),Wv];rfl
 have p2:(OB st)[i+1]?=some (d+o,D,pv):=by
  rw[←QW,J.pend,e,←e1,QC Kb,UA];rfl
 have p3:(((OB st).setIfInBounds i (d,o+D,pw)).eraseIdxIfInBounds (i+1)).toList=l1++(d,o+D,pw)::l2:=by
  rw[Array.toList_eraseIdxIfInBounds,UV,J.pend,e,←e1,List.set_append_right _ _ (Qh _),Wv,List.eraseIdx_append_of_length_le Kb,UA];rfl
 have fin:∀ (a':VL Og),a'.Perm (Of st)->(∀ k,k<d->fx ϕ a' k=fx ϕ (Of st) k)->(∀ k,d+o+D<=k->fx ϕ a' k=fx ϕ (Of st) k)->UpTo ϕ a' d (d+(o+D))->∀ (C:VX) (V:VF),NK C=κ->OP C=none->Of C=a'->OB C=((OB st).setIfInBounds i (d,o+D,pw)).eraseIdxIfInBounds (i+1)->G V->Q true C V:=by
  intro a' q1 q2 q3 q4 C V q5 q6 q7 q8 g';subst q7;refine h (l1++(d,o+D,pw)::l2) C V (by rw[e];simp only[Qg,QI];lia) ⟨q5,q6,q1.trans J.perm,bp,(r1.congr fun k b1 b2=>q2 k b2).join ⟨rfl,by show 1<=o+D;exact Nv z5,q4,?_⟩⟩ (fun k hk=>q3 k (Mj hk hle)) g';show Runs ϕ (Of C) l2 (d+(o+D)) q;rw[←Rk];exact z7.congr fun k b1 b2=>q3 k b1
 have I:d+o+D<=a₀.size:=Mj hq hle
 clear hi e1 hq hle h p3 r1 z7;rw[Zi4];refine kasC_bind (kasC_get ?_);rw[p1,p2];dsimp only;refine kasC_bind (Zjf ?_);obtain⟨y0,hy0,hdy0⟩:=at_ (show d+o<(Of st).size by omega);have kd:NK (GQ st (((OB st).setIfInBounds i (d,o+D,pw)).eraseIdxIfInBounds (i+1)))=κ:=J.kind;generalize hst:GQ st (((OB st).setIfInBounds i (d,o+D,pw)).eraseIdxIfInBounds (i+1))=N at *;have ar1:Of N=Of st:=by rw[←hst]
 have pe1:OB N=((OB st).setIfInBounds i (d,o+D,pw)).eraseIdxIfInBounds (i+1):=by rw[←hst]
 have fa1:OP N=none:=by exact hst▸J.fail
 have seg:∀ p n,UpTo ϕ (Of st) p (p+n)->p+n<=a₀.size->Up ϕ (((Of st).toList.drop p).take n):=fun p n u hn=>ZmX u (Ml hn sz);have sB:=seg _ _ z6 I;have sA:=seg _ _ z3 (K4 I);have K:∀ p n m,((Of st).toList.drop p).take (n+m)=((Of st).toList.drop p).take n++((Of st).toList.drop (p+n)).take m:=fun p n m=>by
  rw[Rl,Uz]
 have F:DZ->(Of st).toList.length=a₀.size:=fun _=>bq
 refine kasC_bind (ZN hy0 (kasC_bind (ZaT R kd (al _ _ hy0) al bq br z3 g fun k s1 hk1 l1' l2' g1=>?_)));dsimp only;have upB:∀ v∈((Of st).toList.drop (d+o)).take D,ϕ y0<=ϕ v:=by
  obtain⟨nb',rfl⟩:∃ m,D=m+1:=⟨D-1,N0 z5⟩
  rw[hdy0,List.take_succ_cons]at sB ⊢;exact JN sB
 by_cases c1:o-k=0
 rw[VD (by simpa using c1)];have k0:k=o:=Sc hk1 c1
 subst k0;refine kasC_pure (fin (Of st) (W7 _) (fun _ _=>rfl) (fun _ _=>rfl) ?_ N s1 kd fa1 ar1 pe1 g1);have u:Up ϕ (((Of st).toList.drop d).take (k+D)):=by
  rw[K];exact QV.mpr ⟨sA,sB,fun u Z v hv=>QR (l1' u Z) (upB v hv)⟩
 have:=up_of (ϕ:=ϕ) (a:=Of st) (P:=(Of st).toList.take d) (S:=(Of st).toList.drop (d+(k+D))) (by rw[QL,←Uz,Wj,Wj]) u;rw[QD,F trivial,RG (Mm I),Jj (F trivial) (Mn I)]at this;omega
 rw[if_neg (by simpa using c1)];replace c1:k<o:=bq
 rw[show d+k+(o-k)-1=d+o-1 by lia];refine Lm (atL (show d+o-1<(Of st).size by omega)) fun xl X _=>?_;have upA:∀ v∈((Of st).toList.drop d).take o,ϕ v<=ϕ xl:=by
  have:((Of st).toList.drop d).take o=((Of st).toList.drop d).take (o-1)++[xl]:=by
   have e9:∃ m,o=m+1:=⟨o-1,N0 z2⟩
   obtain⟨m,rfl⟩:=e9;rw[K,Rr];congr 1;obtain⟨x9,hx9,hd9⟩:=at_ (show d+m<(Of st).size by lia);rw[hd9];have:x9=xl:=by
    rw[show d+(m+1)-1=d+m by exact Mg,hx9]at X;exact VQ X
   rw[this];rfl
  rw[this]at sA ⊢;exact JM sA
 refine kasC_bind (ZN X (kasC_bind (ZaT R kd (al _ _ X) al (Ml I sz) (Mo z5) z6 g1 fun H s2 W m1 m2 g2=>?_)));dsimp only;by_cases c2:H=0
 rw[VD (by simpa using c2)];subst c2;refine kasC_pure (fin (Of st) (W7 _) (fun _ _=>rfl) (fun _ _=>rfl) ?_ N s2 kd fa1 ar1 pe1 g2);have u:Up ϕ (((Of st).toList.drop d).take (o+D)):=by
  rw[K];exact QV.mpr ⟨sA,sB,fun u Z v hv=>QR (upA u Z) (m2 v (by simpa using hv))⟩
 have:=up_of (ϕ:=ϕ) (a:=Of st) (P:=(Of st).toList.take d) (S:=(Of st).toList.drop (d+(o+D))) (by rw[QL,←Uz,Wj,Wj]) u;rw[QD,F trivial,RG (Mm I),Jj (F trivial) (Mn I)]at this;exact this
 rw[if_neg (by simpa using c2)];replace c2:0<H:=V9 c2
 have ex1:((Of st).extract (d+k) (d+o)).toList=((Of st).toList.drop (d+k)).take (o-k):=by
  rw[←Zju,show d+k+(o-k)=d+o by omega]
 have ex2:((Of st).extract (d+o) (d+o+H)).toList=((Of st).toList.drop (d+o)).take H:=Zju _ _ _;have sz1:DZ->((Of st).extract (d+k) (d+o)).size=o-k:=fun _=>by rw[Rs];lia
 have sz2:DZ->((Of st).extract (d+o) (d+o+H)).size=H:=fun _=>by rw[Rs];lia
 have al':∀ p q',Al U ((Of st).extract p q'):=fun p q' i x Y=>by
  rw[UF]at Y;split at Y
  exact al _ _ Y
  cases Y
 have u1:Up ϕ ((Of st).extract (d+k) (d+o)).toList:=by
  exact ex1▸seg _ _ (z3.sub Kb br) (Mp I c1)
 have u2:Up ϕ ((Of st).extract (d+o) (d+o+H)).toList:=by
  exact ex2▸seg _ _ (z6.sub K7 (Mq W)) (Mr I W)
 have q0:∀ y,((Of st).extract (d+o) (d+o+H))[0]?=some y->∀ x∈((Of st).extract (d+k) (d+o)).toList,ϕ y<=ϕ x:=fun y hy x Y=>by
  rw[UF,VD br,CL,hy0]at hy;rw[←VQ hy];rw[ex1]at Y;exact l2' x Y
 have q1:∀ x,((Of st).extract (d+k) (d+o))[((Of st).extract (d+k) (d+o)).size-1]?=some x->∀ y∈((Of st).extract (d+o) (d+o+H)).toList,ϕ y<=ϕ x:=fun x Y y hy=>by
  rw[sz1 trivial,UF,VD br,show d+k+(o-k-1)=d+o-1 by lia,X]at Y;rw[←VQ Y];rw[ex2]at hy;exact m1 y hy
 have last:∀ (r:VL Og) (C:VX) (V:VF),Sim N C->G V->Ok ϕ ((Of st).extract (d+k) (d+o)) ((Of st).extract (d+o) (d+o+H)) r->kasC (Oc prog w) A E (do
   modify fun z=>G6 z (r.toList.zipIdx.foldl (fun a (p,j)=>a.setIfInBounds (d+k+j) p) (Of z))
   return (OP (←get)).isNone) Q C V:=by
  intro r C V S' g' O;refine kasC_bind (kasC_modify (kasC_bind (kasC_get (kasC_pure ?_))));have fz:OP C=none:=S'.2.2.2.trans fa1;show Q (OP C).isNone _ _;rw[fz];have az:Of C=Of st:=S'.2.1.trans ar1;obtain⟨O1,O2⟩:=O;have lr:DZ->r.toList.length=o-k+H:=fun _=>by
   rw[O2.length_eq,Qg,Qx,Qx,sz1 trivial,sz2 trivial]
  have pu:=Zej r.toList (Of st) (d+k) 0 (by rw[lr trivial];lia);rw[CL,lr trivial,show d+k+(o-k+H)=d+o+H by omega]at pu;have lr':k+r.toList.length=o+H:=by rw[lr trivial];omega
  rw[ex1,ex2]at O2;obtain⟨P,hP⟩:∃ z,(Of st).toList.take d=z:=⟨_,rfl⟩
  obtain⟨T,hA1⟩:∃ z,((Of st).toList.drop d).take k=z:=⟨_,rfl⟩
  rw[hA1]at l1';obtain⟨A2,hA2⟩:∃ z,((Of st).toList.drop (d+k)).take (o-k)=z:=⟨_,rfl⟩
  rw[hA2]at O2;obtain⟨B1,hB1⟩:∃ z,((Of st).toList.drop (d+o)).take H=z:=⟨_,rfl⟩
  rw[hB1]at O2;obtain⟨M,hB2⟩:∃ z,((Of st).toList.drop (d+o+H)).take (D-H)=z:=⟨_,rfl⟩
  rw[hB2]at m2;obtain⟨S,hS⟩:∃ z,(Of st).toList.drop (d+o+D)=z:=⟨_,rfl⟩
  have hA:((Of st).toList.drop d).take o=T++A2:=by rw[←hA1,←hA2,←K,show k+(o-k)=o by exact Ms c1]
  have hB:((Of st).toList.drop (d+o)).take D=B1++M:=by rw[←hB1,←hB2,←K,show H+(D-H)=D by exact Mt W]
  have hD:(Of st).toList.drop (d+o+H)=M++S:=by
   rw[←hB2,←hS,show d+o+D=d+o+H+(D-H)by lia];exact JI _ _ _
  have hT:(Of st).toList.take (d+k)=P++T:=by rw[←hP,←hA1,Rl]
  have hL:(Of st).toList=P++((T++A2)++(B1++M))++S:=by
   rw[←hA,←hB,←hP,←hS,←K,QL,Rk,←JI,Wj]
  rw[hT,hD]at pu;have pL:P.length=d:=by rw[←hP,QD,F trivial];lia
  have pA1:T.length=k:=by rw[←hA1,Jj (F trivial) br]
  have pA2:k+A2.length=o:=by rw[←hA2,Jj (F trivial) (Mp I c1)];exact Ms c1
  have pB1:B1.length=H:=by rw[←hB1,Jj (F trivial) (Mr I W)]
  have pB2:H+M.length=D:=by rw[←hB2,Jj (F trivial) br];exact Mt W
  refine fin (r.toList.zipIdx.foldl (fun a (x:Og×VC)=>a.setIfInBounds (d+k+x.2) x.1) (Of st)) ?_ ?_ ?_ ?_ _ _ (S'.1.trans kd) fz (by rw[←az]) (S'.2.2.1.trans pe1) g'
  refine WA.mpr ?_;have e9:(r.toList++(M++S)).Perm (A2++B1++(M++S)):=O2.append_right _;rw[pu,hL];have f1:P++T++r.toList++(M++S)=P++(T++(r.toList++(M++S))):=by simp only[QL]
  have f2:P++(T++A2++(B1++M))++S=P++(T++(A2++B1++(M++S))):=by simp only[QL]
  rw[f1,f2];exact(e9.append_left T).append_left P
  intro j hj;refine YR ?_;rw[←QW,←QW,pu,hL];simp only[QL];rw[QF (Kj hj pL),QF (Kj hj pL)]
  intro j hj;refine YR ?_;rw[←QW,←QW,pu,hL];have e1:P++T++r.toList++(M++S)=(P++T++r.toList++M)++S:=by simp only[QL]
  rw[e1,QC (by simp only[Qg];omega),QC (by simp only[Qg];omega)];congr 1;simp only[Qg];lia
  have uu:Up ϕ (T++r.toList++M):=by
   rw[hA]at sA;rw[hB]at sB;obtain⟨t1,t2,t3⟩:=QV.mp sA;obtain⟨t4,t5,t6⟩:=QV.mp sB;have m2':∀ u∈M,ϕ xl<=ϕ u:=m2;rw[hA]at upA;rw[hB]at upB;have mm:∀ u∈r.toList,u∈A2\/u∈B1:=fun u Z=>QA.mp (O2.mem_iff.mp Z);refine QV.mpr ⟨QV.mpr ⟨t1,O1,fun u Z v hv=>?_⟩,t5,fun u Z v hv=>?_⟩
   rcases mm v hv with z | z
   exact t3 u Z v z
   exact QR (l1' u Z) (upB v (QM _ z))
   rcases QA.mp Z with z | z
   exact QR (upA u (QM _ z)) (m2' v hv)
   rcases mm u z with z' | z'
   exact QR (upA u (QJ _ z')) (m2' v hv)
   exact t6 u z' v hv
  have:=up_of (ϕ:=ϕ) (P:=P) (S:=S) (a:=r.toList.zipIdx.foldl (fun a (x:Og×VC)=>a.setIfInBounds (d+k+x.2) x.1) (Of st)) (by rw[pu];simp only[QL]) uu;rw[pL,show(T++r.toList++M).length=o+D by simp only[Qg];lia]at this;exact this
 by_cases c3:o-k<=H
 exact VD c3▸kasC_bind (ZoC R kd (al' _ _) (al' _ _) u1 u2 (by exact sz1 trivial▸Nz c1) (by rw[sz2 trivial];exact c2) q0 q1 g2 last)
 exact if_neg c3▸kasC_bind (ZoD R kd (al' _ _) (al' _ _) u1 u2 (by rw[sz1 trivial];lia) (by rw[sz2 trivial];exact c2) q0 q1 g2 last)
end
section
variable {prog:Oh} {w:Ol} {A:NC} {E:VG->VF->Prop} {κ:O4} {ϕ:Og->VC} {U:Og->Prop} {G:VF->Prop}
def Jn.kp {st a} (J:Jn κ ϕ a₀ q l st) (K:Kp q st a):Jn κ ϕ a₀ q l a :=
 ⟨K.kind.trans J.kind,K.fail.trans J.fail,K.perm.trans J.perm,by exact K.pend▸J.pend,J.runs.congr fun i _ h=>YR (K.low i h)⟩
def Jn.mod {st} (J:Jn κ ϕ a₀ q l st) (a:∀ x,(f x).1=x.1/\(f x).2.1=x.2.1):Jn κ ϕ a₀ q (l.modify k f) (GQ st ((OB st).modify k f)) :=
 ⟨J.kind,J.fail,J.perm,by rw[Array.toList_modify,J.pend],Runs.mod a _ J.runs⟩
def ZoF (c) [Fh c] (n):(if c then n-1 else n)<=n:=by grind
def ZlT {α β:Type} {code:β->MF VX DE α} {T} {Q} {st} (P:β->VX->VF->Prop)
  (b:(∀ x st s,P x st s->kasC (Oc prog w) A E (code x) Q st s)->kasC (Oc prog w) A E T Q st s) (a:∀ x st s,P x st s->kasC (Oc prog w) A E (code x) Q st s):kasC (Oc prog w) A E T Q st s:=b a
def ZlU (R:JK prog w A κ ϕ U G) {st:VX} (ha:Al U a₀) (hk:NK st=κ) (hf:OP st=none) (hp:OB st= #[]) (har:Of st=a₀) (h2:1<=a₀.size) (g:G s)
  (h:∀ a p,OP a=none->(Of a).Perm a₀->Up ϕ (Of a).toList->G p->Q () a p):kasC (Oc prog w) A E sortRuns' Q st s:=by
 rw[sortRuns'_eq];refine kasC_bind (kasC_get ?_);rw[har];dsimp only;have J0:Jn κ ϕ a₀ 0 [] st:=⟨hk,hf,by rw[har],by rw[hp],rfl⟩
 refine kasC_bind (Yh (Q:=fun c a p=>∃ l,c=(none,a₀.size)/\Jn κ ϕ a₀ a₀.size l a/\G p) (Yx (fun t c a p=>∃ lo l,c=(none,lo)/\t<=lo/\lo<=a₀.size/\Jn κ ϕ a₀ lo l a/\G p)
  ⟨0,[],rfl,K7,Kw,J0,g⟩ ?_ ?_) ?_)
 rintro t c r s1 ht ⟨lo,l,rfl,b1,b2,q,g1⟩;apply Ld;intros;dsimp only;by_cases c1:lo≥a₀.size
 rw[VD c1];have:lo=a₀.size:=Vw b2 c1
 subst this;exact kasC_pure ⟨l,rfl,q,g1⟩
 rw[if_neg c1];have sz:(Of r).size=a₀.size:=q.perm.size_eq;refine kasC_bind (Zje R q.kind (ha.perm q.perm) bq bq g1 fun n st2 s2 n1 n2 K2 u2 g2=>?_);dsimp only;apply ZlT (P:=fun k f s3=>(1<=k/\lo+k<=a₀.size)/\Kp lo r f/\UpTo ϕ (Of f) lo (lo+k)/\G s3)
 ·intro tail;by_cases cn:n<minRun' a₀.size a₀.size 0
  rotate_left
  rw[if_neg cn];have hP:(fun k f s3=>(1<=k/\lo+k<=a₀.size)/\Kp lo r f/\UpTo ϕ (Of f) lo (lo+k)/\G s3) n st2 s2:=⟨bq,K2,u2,g2⟩
  revert hP;generalize n=n';exact fun hP=>tail n' st2 s2 hP
  rw[VD cn];refine kasC_bind (Jp (kasC_bind (Znp R q.kind (ha.perm q.perm) bq bq K2 u2 g2 fun f s3 K3 u3 g3=>?_)));rw[if_neg be];exact tail _ f s3 ⟨bq,K3,u3,g3⟩
 clear n1 n2 K2 u2 g2;rintro k f s3 ⟨hn3,K3,u3,g3⟩;refine kasC_bind (kasC_get ?_);have J3:=q.kp K3;have done:∀ (e:VA (VC×VC×VC)) (b:VX) (s4:VF),Jn κ ϕ a₀ lo e b->UpTo ϕ (Of b) lo (lo+k)->G s4->∃ lo' l,((none:VE Unit),lo+k)=(none,lo')/\t+1<=lo'/\lo'<=a₀.size/\Jn κ ϕ a₀ lo' l (GQ b ((OB b).push (lo,k,0)))/\G s4:=fun e b s4 d u4 m =>
  ⟨lo+k,e++[(lo,k,0)],rfl,br,br,⟨d.kind,d.fail,d.perm,by show((OB b).push (lo,k,0)).toList=_;rw[UZ,d.pend],d.runs.join ⟨rfl,hn3.1,u4,rfl⟩⟩,m⟩
 split
 refine kasC_bind (Yh (Q:=fun c a p=>c=(none,())/\∃ e,Jn κ ϕ a₀ lo e a/\UpTo ϕ (Of a) lo (lo+k)/\G p) (Yx (fun _ c a p=>c=(none,())/\∃ e,Jn κ ϕ a₀ lo e a/\UpTo ϕ (Of a) lo (lo+k)/\G p) ⟨rfl,l,J3,u3,g3⟩ ?_ ?_) ?_)
 rintro _ c b s4 _ ⟨rfl,e,d,u4,m⟩;refine kasC_bind (kasC_get ?_);apply Ld;intros;split
 rename_i hh;by_cases cp:(OB b).size>1
 ·split
  ·exact kasC_pure ⟨rfl,e,d,u4,m⟩
  ·refine kasC_bind (Zhp R ha d b2 (by rw[←d.pend,Qx];omega) m fun l5 st5 s5 hl5 J5 e5 g5=>?_);rw[if_neg be];exact kasC_pure ⟨rfl,l5,J5,fun i j a1 a2 a3=>(by rw[e5 i a1,e5 j (Vx a2 a1)];exact u4 i j a1 a2 a3),g5⟩
 ·rw[if_neg cp]at hh;cases hh
 exact kasC_pure ⟨rfl,e,d,u4,m⟩
 simp
 rintro c b s4 ⟨rfl,e,d,u4,m⟩;dsimp only;exact kasC_bind (kasC_modify (kasC_bind (kasC_modify (kasC_pure (done _ _ _ (d.mod fun x=>⟨rfl,rfl⟩) u4 m)))))
 exact kasC_bind (kasC_modify (kasC_pure (done l _ _ J3 u3 g3)))
 rintro c r s1 ⟨lo,l,rfl,b1,b2,q,g1⟩;have:lo=a₀.size:=br
 subst this;exact⟨l,rfl,q,g1⟩
 rintro c r s1 ⟨l,rfl,q,g1⟩;dsimp only;refine kasC_bind (Yh (Q:=fun c a p=>c=(none,())/\∃ l,l.length<=1/\Jn κ ϕ a₀ a₀.size l a/\G p) (Yx (fun t c a p=>c=(none,())/\∃ l,(l.length<=1\/l.length+t<=a₀.size)/\Jn κ ϕ a₀ a₀.size l a/\G p) ⟨rfl,l,?_,q,g1⟩ ?_ ?_) ?_)
 have:=q.runs.le;lia
 rintro t c b s4 ht ⟨rfl,e,u,d,m⟩;refine kasC_bind (kasC_get ?_);apply Ld;intros;have hsz:(OB b).size=e.length:=by rw[←d.pend,Qx]
 by_cases cp:(OB b).size<=1
 exact VD cp▸kasC_pure ⟨rfl,e,Kd cp hsz,d,m⟩
 rw[if_neg cp];refine kasC_bind (Zhp R ha d (Qh _) ?_ m fun l5 st5 s5 hl5 J5 e5 g5=>?_)
 exact Wq (Nat.succ_le_succ (ZoF _ _)) bq
 rw[if_neg be];exact kasC_pure ⟨rfl,l5,br,J5,g5⟩
 rintro c b s4 ⟨rfl,e,u,d,m⟩;have:=d.runs.le;exact⟨rfl,e,br,d,m⟩
 rintro c b s4 ⟨rfl,e,u,d,m⟩;refine kasC_pure (h b s4 d.fail d.perm ?_ m);have r4:=d.runs;have sz:(Of b).size=a₀.size:=d.perm.size_eq;match e,u,r4 with
 | [],_,r4 =>
  have:0=a₀.size:=r4;lia
 | [x],_,r4 =>
  obtain⟨q1,q2,q3,q4⟩:=r4;have q4:0+x.2.1=a₀.size:=q4;have:=ZmX (ϕ:=ϕ) (a:=Of b) (p:=0) (n:=x.2.1) q3 (Vy q4 sz);rw[Rb,Q4 (by rw[Qx];lia)]at this;exact this
 | x::y::e,u,_=>simp at u
end
structure WO (n:VC) (lt:VC->VC->NY):Prop where
 irr:∀ i,i<n->lt i i=false
 tr:∀ i j k,i<n->j<n->k<n->lt i j=true->lt j k=true->lt i k=true
 ntr:∀ i j k,i<n->j<n->k<n->lt k j=true->lt k i=true\/lt i j=true
noncomputable def rk (n:VC) (lt:VC->VC->NY) (i:VC):VC:=((Qz n).filter fun k=>lt k i).length
def Xb {α:Type} {p q}:∀ (l:VA α),(∀ x∈l,p x=true->q x=true)->(l.filter p).length<=(l.filter q).length
 | [],_=>Qh _
 | x::l,h=>by
  have b:=Xb l fun y d=>h y (Qm _ d);rw[Wo,Wo];by_cases c:p x=true
  rw[VD c,VD (h x (Qo ..) c)];simpa using b;rw[if_neg c];split
  simp[QI];exact Vp b;exact b
def X4 {α:Type} {p q}:∀ (l:VA α),(∀ x∈l,p x=true->q x=true)->(∃ x∈l,p x=false/\q x=true)->(l.filter p).length<(l.filter q).length
 | [],_,⟨x,g,_⟩=>nomatch g
 | x::l,h,⟨y,i,d,e⟩=>by
  have j:=Xb l fun z b=>h z (Qm _ b);rw[Wo,Wo];rcases Qs.mp i with z | z
  subst z;rw[if_neg (by rw[d];decide),VD e];simp[QI];lia;have f:=X4 l (fun z b=>h z (Qm _ b)) ⟨y,z,d,e⟩;by_cases c:p x=true
  rw[VD c,VD (h x (Qo ..) c)];simpa using f;rw[if_neg c];split
  simp[QI];exact Kz f;exact f
def WO.rk_lt (o:WO n lt) (hi:i<n) (b:j<n):decide (rk n lt i<rk n lt j)=lt i j:=by
 cases c:lt i j with
 | true =>
  refine VR (X4 _ (fun k a h=>o.tr k i j (Qu.mp a) hi b h c) ⟨i,Qu.mpr hi,o.irr i hi,c⟩)
 | false =>
  refine VO (UO.mpr (Xb _ fun k a h=>?_));rcases o.ntr i j k hi b (Qu.mp a) h with z | z
  omega
  simp_all
def ZiH {α β:Type} {f}:∀ {l:VA β} {m},l.Perm m->∀ q,m=q.map f->∃ d:VA α,d.Perm q/\l=d.map f:=by
 intro l m h;induction h with
 | nil =>
  simp
 | cons x _ z =>
  intro q e;match q,e with
  | y::q,e =>
   injection e with g c
   obtain⟨d,i,j⟩:=z q c;exact⟨_,i.cons y,by rw[Q3,j,g]⟩
 | swap x y l =>
  intro q e;match q,e with
  | a::b::q,e =>
   injection e with g c
   injection c with c t
   exact⟨_,List.Perm.swap ..,by simp only[Q3];rw[g,c,t]⟩
 | trans _ _ n k =>
  intro q e;obtain⟨r,i,j⟩:=k q e;obtain⟨s,w,u⟩:=n r j;exact⟨s,w.trans i,u⟩
section
variable {prog:Oh} {w:Ol} {A:NC} {E:VG->VF->Prop} {s:VF}
open Classical in
noncomputable def phi (vs:VA VG) (lt:VC->VC->NY) (x:Og):VC:=if h:∃ i,vs[i]?=some x.1 then rk vs.length lt (Fm h)else 0
def list_sortW {vs:VA VG} (V:s.heap.get? a=some (Go "list" vs.toArray n)) (hz:vs.length<=Od) (o:WO vs.length lt)
  (same:∀ i j,i<vs.length->vs[i]?=vs[j]?->∀ k,lt k i=lt k j)
  (kd:∀ (f) (Q),(∀ b o,b≠a->s.heap.get? b=some o->f.get? b=some o)->2<=vs.length->Q κ {s with heap:=f}->Oe (Oc prog w) A (keyKind' vs.toArray) Q E {s with heap:=f})
  (ask:∀ (f) (tk i j) (x y) (C),(∀ b o,b≠a->s.heap.get? b=some o->f.get? b=some o)->vs[i]?=some x->vs[j]?=some y->(∀ tk,C (lt i j) {s with heap:=f,toks:=tk})->Oe (Oc prog w) A (keyLt' κ x y) C (fun _ _=>False) {s with heap:=f,toks:=tk})
  (h:∀ (h1) (tk c) (p),Srt.Pm vs.length p->(∀ i j,i<j->j<vs.length->lt (p.getD j 0) (p.getD i 0)=false)->(∀ b o,b≠a->s.heap.get? b=some o->h1.get? b=some o) ->
   h1.get? a=some (Go "list" (p.toList.map fun i=>vs.getD i NI).toArray c)->P (.done (.ret .none)) {s with heap:=h1,toks:=tk}) :
  Oe (Oc prog w) A (NP.«list.sort» ⟨[.ref a],[]⟩) P E s:=by
 have ha:a<s.heap.objs.size:=Ql V;rw[list_sort_plain];refine Oa (listItems_at V rfl (Oa (DF V rfl ?_ bq (QN _))));obtain⟨e1,N⟩:∃ e1,(s.heap.update a (NF fun _=>(#[]:VL VG))).get? a=some (Go "list" #[] e1):=⟨_,Fz V fun _=>#[]⟩
 have k1:∀ b o,b≠a->s.heap.get? b=some o->(s.heap.update a (NF fun _=>(#[]:VL VG))).get? b=some o:=fun b o D q=>(QG _ _ (VS D)).trans q;refine Oa (Fq N rfl (Oa (GG (Oa (GM (On ?_) (QN _))) bq)));generalize hg:((s.heap.update a (NF fun _=>(#[]:VL VG))).push {cls:=.type "tuple",data:=.seq vs.toArray.toList.toArray}).push {cls:=.type "list",data:=.seq ([]:VA VG).toArray}=f;have k6:∀ b o,b≠a->s.heap.get? b=some o->f.get? b=some o:=fun b o D q=>by
  exact hg▸Qc _ (Qc _ (k1 b o D q))
 have t:f.get? a=some (Go "list" #[] e1):=by
  exact hg▸Qc _ (Qc _ N)
 show Oe (Oc prog w) A _ P E {s with heap:=f};dsimp only;have T:∀ (tk:VC) (p:VL VC) (m:VL VG),Srt.Pm vs.length p->(∀ i j,i<j->j<vs.length->lt (p.getD j 0) (p.getD i 0)=false)->m=(p.toList.map fun i=>vs.getD i NI).toArray ->
   ∃ c,(f.update a (NF fun _=>m)).get? a=some (Go "list" m c)/\m.size<=Od/\P (.done (.ret .none)) {s with heap:=f.update a (NF fun _=>m),toks:=tk}:=fun tk p m hp hu M=>by
  have X:=Fz t fun _=>m;refine⟨_,X,?_,h _ tk _ p hp hu (fun b o D q=>(QG _ _ (VS D)).trans (k6 b o D q)) (by rw[←M];omega)⟩;rw[M,Qy,Qd,Qx,hp.size];exact hz
 have hr:vs=(Qz vs.length).map fun i=>vs.getD i NI:=by
  apply QY;intro i;simp only[Qi];by_cases l:i<vs.length
  rw[Qa l,Wd l,Wg,Qb,Qa l];rfl
  rw[Qr (Kr l),Qr (by simp;exact Kr l)];rfl
 by_cases F:vs.toArray.size<2
 rw[VD F,VD F];rw[Qy]at F;refine Lp (T s.toks (Qz vs.length).toArray vs.toArray ⟨bo,W7 _⟩ (fun a b hab D=>bq) (NA List.toArray hr)) fun c f1 f2 f3=>Oa (Ob ?_);rw[StateT.run_pure];refine Oa (Ob ?_);have eo:(Of (SortSt.mk' general' (vs.toArray.zip vs.toArray) #[] 7 none)).map (·.2)=vs.toArray:=by
  show(vs.toArray.zip vs.toArray).map (·.2)=vs.toArray;apply Rz.mp;simp;exact List.map_snd_zip (Qh _)
 dsimp only;rw[eo];refine Oa (Fq t rfl (Oa (DF t rfl ?_ (QN _) (UY f2))));simp only[SM,WX,TU];exact Ob f3
 rw[if_neg F,if_neg F];rw[Qy]at F;have zl:(vs.toArray.zip vs.toArray).toList=(Qz vs.length).map fun i=>((vs.getD i NI,vs.getD i NI):Og):=by
  rw[Array.toList_zip];show vs.zip vs=_;apply QY;intro i;simp only[Qi];by_cases l:i<vs.length
  rw[Wd l,Wg,(List.getElem?_zip_eq_some (z:=(vs[i],vs[i]))).mpr ⟨Qa l,Qa l⟩,Qb,Qa l];rfl
  rw[Qr (by simp;exact Kr l),Qr (by simp;exact Kr l)];rfl
 have zsz:(vs.toArray.zip vs.toArray).size=vs.length:=bo
 have S:∀ (i:VC) (x:Og),i<vs.length->x.1=vs.getD i NI->phi vs lt x=rk vs.length lt i:=fun i x l e=>by
  have hx:∃ i,vs[i]?=some x.1:=⟨i,by rw[e,Qb,Qa l];rfl⟩
  unfold phi;rw[FE hx];have X:=Classical.choose_spec hx;generalize Fm hx=j at *;have H:j<vs.length:=(Qj.mp X).1;have ee:vs[j]?=vs[i]?:=by rw[X,e,Qb,Qa l];rfl
  unfold rk;congr 1;exact Rv fun k Z=>same j i H ee k
 refine Oa (kd f _ k6 (Kr F) ?_);have R:JK prog w A κ (phi vs lt) (fun x=>∃ i,i<vs.length/\x.1=vs.getD i NI) (fun G=>∃ tk,G={s with heap:=f,toks:=tk}):=⟨fun x y C G ⟨i,l,W⟩ ⟨j,H,Y⟩ ⟨tk,g⟩ k=>by
  subst g;refine ask f tk i j x.1 y.1 C k6 (by rw[W,Qb,Qa l];rfl) (by rw[Y,Qb,Qa H];rfl) fun tk'=>?_;rw[←o.rk_lt l H,←S i x l W,←S j y H Y];exact k _ ⟨tk',rfl⟩⟩
 refine Oa (Os (show kasC (Oc prog w) A E sortRuns' (fun _ r G=>OP r=none/\(Of r).Perm (vs.toArray.zip vs.toArray)/\Up (phi vs lt) (Of r).toList/\∃ tk,G={s with heap:=f,toks:=tk}) (SortSt.mk' κ (vs.toArray.zip vs.toArray) #[] 7 none) {s with heap:=f} from
  ZlU R (a₀:=vs.toArray.zip vs.toArray) (fun i x e=>?_) rfl rfl rfl rfl bq ⟨s.toks,rfl⟩ fun r G a1 a2 a3 a4=>⟨a1,a2,a3,a4⟩) ?_ fun _ _ e=>e)
 have l:i<vs.length:=by
  have:=(UW.mp e).1;exact K8 zsz this
 rw[←QW,zl,Qi,Wd l]at e;cases e;exact⟨i,l,rfl⟩
 rintro⟨⟨⟩,r⟩ G ⟨hf',hpm,I,tk,rfl⟩;obtain⟨q,B,O⟩:=ZiH (WA.mp hpm) _ zl;have U:q.toArray.size=vs.length:=by rw[Qy,B.length_eq,QU]
 have J:(Of r).map (·.2)=(q.toArray.toList.map fun i=>vs.getD i NI).toArray:=by
  apply Rz.mp;rw[Array.toList_map,O,Ww];rfl
 have up':∀ i j,i<j->j<vs.length->lt (q.toArray.getD j 0) (q.toArray.getD i 0)=false:=fun i j K H=>by
  rw[Qy]at U;have gi:∀ k (Z:k<q.length),q.toArray.getD k 0=q[k]/\q[k]<vs.length:=fun k Z=>⟨by rw[Wy,List.getElem?_toArray,Qa Z];rfl,Qu.mp (B.mem_iff.mp (QH Z))⟩
  obtain⟨W,bi⟩:=gi i (Vz H K U);obtain⟨Y,bj⟩:=gi j (Kj H U);rw[W,Y,←o.rk_lt bj bi];refine VO (UO.mpr ?_);rw[O]at I;have:=Wh.mp (Wt.mp I) i j (Vz H K U) (Kj H U) K;rw[S _ _ bi rfl,S _ _ bj rfl]at this;exact this
 refine Lp (T tk q.toArray _ ⟨U,WA.mpr (by simpa using B)⟩ up' J) fun c f1 f2 f3=>?_;dsimp only;refine Oa (Fq (s:={s with heap:=f,toks:=tk}) t rfl (Oa (DF (s:={s with heap:=f,toks:=tk}) t rfl ?_ (QN _) (UY f2))));rw[hf'];simp only[SM,WX,TU];exact Ob f3
end
structure SortAs (prog:Oh) (w:Ol) (h1:Nu) (vs:VA VG) (lt:VC->VC->NY) (κ:O4):Prop where
 wo:WO vs.length lt
 same:∀ i j,i<vs.length->vs[i]?=vs[j]?->∀ k,lt k i=lt k j
 kd:∀ (A:NC) (E:VG->VF->Prop) (s:VF) (Q:O4->VF->Prop),(∀ b o,h1.get? b=some o->s.heap.get? b=some o)->2<=vs.length->Q κ s->Oe (Oc prog w) A (keyKind' vs.toArray) Q E s
 ask:∀ (A:NC) (s:VF) (i j:VC) (x y:VG) (C:NY->VF->Prop),(∀ b o,h1.get? b=some o->s.heap.get? b=some o)->vs[i]?=some x->vs[j]?=some y->(∀ tk,C (lt i j) {s with toks:=tk})->Oe (Oc prog w) A (keyLt' κ x y) C (fun _ _=>False) s
section
variable {prog:Oh} {w:Ol} {A:NC} {E:VG->VF->Prop} {s:VF}
def sorted_all {Pc:Nu->VA VG->Prop}
  (col:∀ (R),(∀ a tk vs,(∀ b o,s.heap.get? b=some o->a.get? b=some o)->Pc a vs->R vs {s with heap:=a,toks:=tk})->Oe (Oc prog w) A.in1 (Vj (.ref r)) R E s)
  (z:∀ a vs,(∀ b o,s.heap.get? b=some o->a.get? b=some o)->Pc a vs->vs.length<=Od/\SortAs prog w a vs lt κ)
  (B:∀ a vs f tk c p,Pc a vs->(∀ b o,s.heap.get? b=some o->f.get? b=some o)->(∀ b o,a.get? b=some o->f.get? b=some o)->(∀ b o,s.heap.get? b=some o->a.get? b=some o)->Srt.Pm vs.length p->(∀ i j,i<j->j<vs.length->lt (p.getD j 0) (p.getD i 0)=false) ->
   f.get? a.objs.size=some (Go "list" (p.toList.map fun i=>vs.getD i NI).toArray c)->s.heap.get? a.objs.size=none->Q (.ref a.objs.size) {s with heap:=f,toks:=tk}) :
  Oe (Oc prog w) A (call (.builtin "sorted") [.ref r]) Q E s:=by
 refine RN Fs SN SO (SQ _) (Oa (Ob (Oa (col _ fun a tk vs v J=>?_))));obtain⟨G,S⟩:=z a vs v J;refine Oa (GM ?_ G);have H:(a.push _).get? a.objs.size=some (Go "list" vs.toArray 0):=Qk _ rfl;refine Oa (On (Om Di ⟨_,H,rfl⟩ KD ?I (Dl _)));have t:∀ {n:Nu},(∀ b o,b≠a.objs.size->(a.push {cls:=.type "list",data:=.seq vs.toArray}).get? b=some o->n.get? b=some o)->∀ b o,a.get? b=some o->n.get? b=some o:=fun k b o e=>k b o (QB (Ql e)) (Qc _ e);refine list_sortW H G S.wo S.same (fun n Q k V q=>S.kd _ _ _ _ (t k) V q) (fun n P i j x y C k L T q=>S.ask _ _ i j x y C (t k) L T fun D=>q D)
  fun f F c p U M d N=>⟨_,rfl,Ob ⟨_,rfl,B a vs f F c p J (fun b o e=>t d b o (v b o e)) (t d) v U M N ?_⟩⟩;cases e:s.heap.get? a.objs.size with
 | none=>rfl
 | some u=>exact VM (Ql (v _ _ e)) (Q2 _)
def ltS (xs:VA VI) (i j:VC):NY:=decide ((xs.getD i "").cps.toList<(xs.getD j "").cps.toList)
def ltS_wo (xs) (n):WO n (ltS xs) where
 irr:=fun i _=>by
  unfold ltS;simp
 tr:=fun i j k _ _ _ b f=>by
  unfold ltS at *;rw[NO]at *;exact RK b f
 ntr:=fun i j k _ _ _ h=>by
  unfold ltS at *;rw[NO]at h;rw[NO,NO];by_cases c:(xs.getD k "").cps.toList<(xs.getD i "").cps.toList
  exact .inl c;exact .inr (List.lt_of_le_of_lt (U9.mp c) h)
def strs_at:∀ {vs} {xs},Gx vs xs->∀ (i) (v),vs[i]?=some v->∃ t,v= .str (xs.getD i "") t/\xs[i]?=some (xs.getD i "")
 | _,_,.nil,i,v,h=>by simp at h
 | _,_,.cons y t r,0,v,h=>by
  simp at h;exact⟨t,by rw[←h];rfl,rfl⟩
 | _,_,.cons y t r,i+1,v,h=>by
  obtain⟨c,f,e⟩:=strs_at r i v bp;exact⟨c,by grind,by grind⟩
def strs_len:∀ {vs} {xs},Gx vs xs->vs.length=xs.length
 | _,_,.nil=>rfl
 | _,_,.cons y t r=>by simp[strs_len r]
def sa_strs (a:Gx vs xs):SortAs prog w n vs (ltS xs) CZ where
 wo:=ltS_wo xs _
 same:=fun i j f e k=>by
  have d:vs[j]?=some vs[i]:=bp
  obtain⟨g,c,_⟩:=strs_at a i _ (Qa f);obtain⟨h,b,_⟩:=strs_at a j _ d;rw[c]at b;injection b with b _
  unfold ltS;rw[b]
 kd:=fun A E s Q _ l q=>by
  match vs,a,l with
  | m::o::vs,a,_ =>
   exact keyKind_strs a▸Ob q
 ask:=fun A s i j x y C _ c b q=>by
  obtain⟨g,rfl,_⟩:=strs_at a i _ c;obtain⟨h,rfl,_⟩:=strs_at a j _ b;exact kas_lt_str (q s.toks)
def PrI (h:Nu) (v:VG) (x:VI):Prop:=∃ a o n t y,v= .ref a/\h.get? a=some o/\o.cls= .type "tuple"/\o.data= .seq #[.str x t,y] n
def PrI.keep (p:PrI h v x) (k:∀ b o,h.get? b=some o->h'.get? b=some o):PrI h' v x:=by
 obtain⟨a,o,n,t,y,e,c,d⟩:=p;exact⟨a,o,n,t,y,e,k a o c,d⟩
def Zht:∀ {vs} {xs:VA VI},xs.length=vs.length->(∀ (i:VC) (v) (x),vs[i]?=some v->xs[i]?=some x->PrI h v x)->∃ b,KatTups h vs b/\b.length=vs.length/\∀ f∈b,∃ x t,f= .str x t
 | [],[],_,_=>⟨[],trivial,rfl,fun f c=>nomatch c⟩
 | [],_::_,h,_=>by cases h
 | _::_,[],h,_=>by cases h
 | v::vs,x::xs,s,d=>by
  obtain⟨a,o,n,t,y,rfl,e,p,r⟩:=d 0 v x rfl rfl;obtain⟨b,k,l,q⟩:=Zht bp fun i v x g m=>d (i+1) v x g m;refine⟨_,KatTups.cons e p r rfl k,by simp[l],fun f c=>?_⟩;rcases Qs.mp c with z | z
  simp_all
  simp_all
def lt_ne {x y:VI} (h:¬ x.cps.toList<y.cps.toList) (a:¬ x=y):y.cps.toList<x.cps.toList:=by
 by_cases c:y.cps.toList<x.cps.toList
 omega;exact VM (by rw[←L2.tx_eta x,←L2.tx_eta y,(List.le_antisymm (U9.mp c) (U9.mp h))]) a
def ZhP (h:Q true s):Oe (Oc prog w) A (eqBool v v) Q E s:=by
 refine On ?_;rw[VD bo];exact Oa (OL (Ob h))
def sa_tups (K:xs.length=vs.length) (O:xs.Nodup) (l:∀ (i:VC) (v) (x),vs[i]?=some v->xs[i]?=some x->PrI M v x):SortAs prog w M vs (ltS xs) (tuples' ((NB "str") != NB "tuple")) where
 wo:=ltS_wo xs _
 same:=fun i j I e k=>by
  have G:vs[j]?=some vs[i]:=bp
  have P:j<vs.length:=(Qj.mp G).1;obtain⟨a,o,n,t,y,d,b,_⟩:=l i vs[i] xs[i] (Qa I) (Qa (Kj I K));obtain⟨W,o',n',T,y',h,g,_⟩:=l j vs[i] xs[j] G (Qa (Kj P K));rw[d]at h;cases h;rw[b]at g;cases g;have N:xs[i]=xs[j]:=by
   simp_all
  unfold ltS;rw[Qb,Qb,Qb,Qa (show i<xs.length by exact Kj I K),Qa (show j<xs.length by exact Kj P K),N]
 kd:=fun A E s Q k h2 q=>by
  obtain⟨Z,R,lf,S⟩:=Zht (h:=s.heap) K fun i v x d b=>(l i v x d b).keep k;refine kat_kind (T:=.type "str") R br (fun f m=>?_) be q;obtain⟨x,t,rfl⟩:=S f m;exact Looks.of_pure rfl
 ask:=fun A s i j x y C k d b q=>by
  have I:i<vs.length:=(Qj.mp d).1;have G:j<vs.length:=(Qj.mp b).1;obtain⟨a1,o1,H,t1,y1,rfl,r,c1,D⟩:=(l i x xs[i] d (Qa (Kj I K))).keep k;obtain⟨a2,o2,Y,X,V,rfl,u,U,J⟩:=(l j y xs[j] b (Qa (Kj G K))).keep k;have L:ltS xs i j=decide (xs[i].cps.toList<xs[j].cps.toList):=by
   unfold ltS;rw[Qb,Qb,Qa (show i<xs.length by exact Kj I K),Qa (show j<xs.length by exact Kj G K)];rfl
  by_cases p:i=j
  subst p;rw[d]at b;cases b;rw[r]at u;cases u;rw[L,VO (Uo _)]at q;exact kat_lt r D r D (kat_cons (ZhP (kat_yes (kat_cons (ZhP (kat_yes (kat_nil (q s.toks))))))))
  have F:¬ xs[i]=xs[j]:=fun z=>p ((Us O).mp z);exact kat_lt r D u J (kat_cons (Fe (VO F▸kat_no (kas_lt_str bp))))
end
end Tim
namespace L2
open PySem PySem.Spec PyProof.Rows PySem.W
section
variable {prog:Oh} {w:Ol} {A:NC} {E:VG->VF->Prop} {s:VF}
def XW (h:n<=1000):n<=Od:=by exact Oz▸Ks h
def ZmF (m:xs.length=n) (f:xs.Nodup) (a:Srt.Pm n p) (h:∀ i j,i<j->j<n->Tim.ltS xs (p.getD j 0) (p.getD i 0)=false):Srt.Up (ltX xs) p n:=fun i j c b=>by
 have d:=h i j c b;unfold Tim.ltS at d;unfold ltX;rw[decide_eq_false_iff_not]at d;rw[NO];refine Tim.lt_ne d fun e=>(a.ne (show i<n by exact Kh b c) b (Ki c)) ?_;rw[Zak (Kj (a.below b) m),Zak (Kj (a.below (show i<n by exact Kh b c)) m)]at e;exact(Us f).mp e.symm
def ZdC {vs:VA VG} (M:s.heap.get? a=some (Go "list" vs.toArray n)) (D:vs.length<=1000) (d:xs.length=vs.length) (r:xs.Nodup)
  (J:∀ (i:VC) (v) (x),vs[i]?=some v->xs[i]?=some x->ZpT s.heap v x)
  (h:∀ (l) (tk c) (p),Srt.Pm xs.length p->Srt.Up (ltX xs) p xs.length->(∀ b o,b≠a->s.heap.get? b=some o->l.get? b=some o) ->
   l.get? a=some (Go "list" (p.toList.map fun i=>vs.getD i NI).toArray c)->P (.done (.ret .none)) {s with heap:=l,toks:=tk}) :
  Oe (Oc prog w) A (NP.«list.sort» ⟨[.ref a],[]⟩) P E s:=by
 have f:∀ {g:Nu},(∀ b o,b≠a->s.heap.get? b=some o->g.get? b=some o)->∀ (i:VC) (v:VG) (x:VI),vs[i]?=some v->xs[i]?=some x->Tim.PrI g v x:=fun {g} S i v x F u=>by
  obtain⟨b,t,y,rfl,B⟩:=J i v x F u;exact⟨b,_,_,t,y,rfl,S b _ fun z=>by simp_all B,rfl,rfl⟩
 have G:∀ (i:VC) (v:VG) (x:VI),vs[i]?=some v->xs[i]?=some x->Tim.PrI s.heap v x:=fun i v x F u=>by
  obtain⟨b,t,y,rfl,B⟩:=J i v x F u;exact⟨b,_,_,t,y,rfl,B,rfl,rfl⟩
 refine Tim.list_sortW M (XW D) (Tim.ltS_wo xs _) (Tim.sa_tups (prog:=prog) (w:=w) d r G).same (fun g Q k U q=>(Tim.sa_tups d r (f k)).kd _ _ _ _ (fun b o e=>e) U q) (fun g tk i j x y C k L O q=>(Tim.sa_tups d r (f k)).ask _ _ i j x y C (fun b o e=>e) L O fun H=>q H)
  fun l tk c p I T k N=>h l tk c p (d▸I) (by exact d▸ZmF d r I T) k N
end
def Xf (hc:X.calm=true):CallR X (.builtin "sorted") (fun xs H Q=>∃ (p d:VH) (ks:VA VI) (g:VI->V),xs=[.ref p]/\H p=some (ivO p d)/\H d=some (.dK (ks.map fun x=>((VJ x),g x)))/\ks.Nodup/\ks.length<=1000 /\
  ∀ (D) (H1) (vs) (ss:VA VI),Same H H1->ss.Perm ks->(ss.map fun x=>x.cps.toList).Pairwise (· < ·)->H1 D=some (.lst vs)->vs.length=ss.length ->
   (∀ (i:VC) (x),ss[i]?=some x->∃ b,vs[i]?=some (.ref b)/\H1 b=some (.tup [.str x,g x]))->Q (.ref D) H1):=by
 intro pins s σ H xs us Q I r h;obtain⟨p,d,ks,g,rfl,hp,hd,nd,h1k,q⟩:=h;obtain⟨u,rfl,rfl⟩:=XL r;have hview:s.heap.IsItemsView p d:=(I.hok p _ hp).1;obtain⟨hz,lo,S,kv,dd⟩:=Zfp I.hok hd;obtain⟨ep,hat⟩:=dd.dictAt;have hlen:ks.length=S.length:=by have:=kv.length;simp_all
 have hsz:S.length<=Od:=bp
 refine RN Fs SN SO (SQ _) ?_;unfold NP.«sorted»;refine Oa (m:=checkCount "sorted" 1 1 _) (Ob (Oa (kdx_collect (A:=X.A.in1) (knd:=ZE X.prog X.w) (kvs:=S) (ep:=ep) (I.ok.hd hc) hview hat hsz fun E tk f hk hl hG=>Oa (GM ?_ (by rw[Qd,hl];exact hsz)))));have pr:∀ (i:VC),i<ks.length->∃ a t y,f[i]?=some a/\RelV (g (ks.getD i "")) y/\E.get? a=some {cls:=.type "tuple",data:=.seq #[.str (ks.getD i "") t,y]}:=fun i w=>by
  have F:i<f.length:=Sb hlen w hl
  refine Lu (hG.pairs i f[i] (Qa F)) fun T k x O e2 e3=>?_;have ek:=NA (fun l:VA Key=>l[i]?) kv.keys;simp only[Qi]at ek;rw[O,Qa w]at ek;have ek':(VJ ks[i]:Key)=k:=VQ ek;have ev:RelV (g ks[i]) x:=by
   have T:∀ {l1:VA (Key×V)} {l2:VA (Key×VG)} (i:VC) (p:Key×V) (q:Key×VG),DO (fun(p:Key×V) (q:Key×VG)=>p.1=q.1/\RelV p.2 q.2) l1 l2->l1[i]?=some p->l2[i]?=some q->RelV p.2 q.2:=by
    intro l1 l2 i p q hP;induction hP generalizing i with
    | nil=>simp
    | cons r t ih =>
     intro O e2;cases i with
     | zero =>
      simp_all
     | succ i=>exact ih i bp bp
   exact T i (VJ ks[i],g ks[i]) (k,x) kv (by rw[Qi,Qa w];rfl) O
  subst ek';rcases keyIs_shape (show ZaB (VJ ks[i]) T=true from e2)with ⟨j,t,e4,_⟩ | ⟨z,t,e4,e5⟩
  cases e4
  injection e4 with e4
  subst e4;refine Pf (f[i]) t x ⟨Qa F,by exact Zak w▸ev,?_⟩;rw[e3,e5,Zak w]
 have hB:(E.push {cls:=.type "list",data:=.seq (f.map Value.ref).toArray}).get? E.objs.size=some (Go "list" (f.map Value.ref).toArray 0):=Qk _ rfl;refine Oa (On (Om Di ⟨_,hB,rfl⟩ KD ?body (Dl _)));refine ZdC (s:={s with heap:=E.push {cls:=.type "list",data:=.seq (f.map Value.ref).toArray},toks:=tk}) (xs:=ks) hB (by rw[Qd];lia) (by rw[Qd];exact K9 hlen hl) nd (fun i v x O e2=>?_) fun h3 tk3 c n G hup L hD=>⟨_,rfl,Ob ⟨_,rfl,?_⟩⟩
 have w:i<ks.length:=(Qj.mp e2).1;refine Lu (pr i w) fun a t y A _ R=>?_;rw[Qi,A]at O;cases O;have ex:ks.getD i "" = x:=by rw[Qb,e2];rfl
 rw[ex]at R;exact⟨a,t,y,rfl,Qc _ R⟩
 have hold:∀ b u,s.heap.get? b=some u->h3.get? b=some u:=fun b u e=>L b u (QB (Ql (hk b u e))) (Qc _ (hk b u e));have hDn:s.heap.get? E.objs.size=none:=by
  cases z:s.heap.get? E.objs.size with
  | none=>rfl
  | some u=>exact VM (Ql (hk _ u z)) (Q2 _)
 have P:∀ (i:VC),i<ks.length->∃ a t y,f[i]?=some a/\RelV (g (ks.getD i "")) y/\s.heap.get? a=none/\a≠E.objs.size/\h3.get? a=some {cls:=.type "tuple",data:=.seq #[.str (ks.getD i "") t,y]}:=fun i w=>by
  apply La;intros;obtain⟨a,t,y,A,f2,R⟩:=pr i w;have ne:a≠E.objs.size:=QB (Ql R);exact⟨a,t,y,A,f2,Rf (WP (hG.above a (We A))),ne,L a _ ne (Qc _ R)⟩
 have asnd:f.Nodup:=hG.rise.imp fun {a b} z e=>by subst e;exact Q2 _ z
 let N:VH->VE HO:=fun b=>if b=E.objs.size then some (.lst (n.toList.map fun i=>V.ref (f.getD i 0)))else (f.idxOf? b).map fun i=>.tup [.str (ks.getD i ""),g (ks.getD i "")]
 have hND:N E.objs.size=some (.lst (n.toList.map fun i=>V.ref (f.getD i 0))):=VD rfl;have hNt:∀ (i:VC),i<ks.length->∃ a,f[i]?=some a/\N a=some (.tup [.str (ks.getD i ""),g (ks.getD i "")]):=fun i w=>by
  refine L0 (P i w) fun a t y A f2 R f4 f5=>?_;refine⟨a,A,?_⟩;show(if a=E.objs.size then _ else _)=_;rw[if_neg f4];have F:i<f.length:=(Qj.mp A).1;have e:f.idxOf? a=some i:=by
   rw[U5];refine⟨F,by rw[Qa F]at A;simpa using VQ A,fun j hj=>?_⟩;intro z;have O:f[j]' br=f[i]:=by rw[Qa F]at A;rw[VQ A];simpa using z
   exact VM ((Us asnd).mp O) br
  rw[e];rfl
 have J:∀ a o,N a=some o->s.heap.get? a=none/\∀ H2,ObjOk X.prog X.w H2 h3 a o:=fun a o e=>by
  by_cases ha:a=E.objs.size
  subst ha;rw[hND]at e;cases e;refine⟨hDn,fun H2=>⟨?_,n.toList.map (fun i=>Value.ref (f.getD i 0)),c,?_,?_⟩⟩
  rw[Qd,Qx,G.size,Oz];exact Ks h1k
  have gen:∀ l:VA VC,Vals (l.map fun i=>V.ref (f.getD i 0)) (l.map fun i=>Value.ref (f.getD i 0)):=by
   intro l;induction l with
   | nil=>exact .nil
   | cons i l ih=>exact .cons rfl ih
  exact gen _
  rw[hD];have el:(C0 (fun i=>(C0 Value.ref f).getD i NI) n.toList)=n.toList.map fun i=>Value.ref (f.getD i 0):=by
   refine Wl fun i w=>?_;have M:i<f.length:=by
    have:i∈n:=by simpa using w
    have:=G.perm.mem_iff.mp this;have:i<ks.length:=by simpa using this
    exact Sb hlen this hl
   rw[Qb,Qi,Qa M,Qb,Qa M];rfl
  rw[el]
  have e':(f.idxOf? a).map (fun i=>HO.tup [.str (ks.getD i ""),g (ks.getD i "")])=some o:=by
   have:(if a=E.objs.size then some (HO.lst (n.toList.map fun i=>V.ref (f.getD i 0)))else (f.idxOf? a).map fun i=>HO.tup [.str (ks.getD i ""),g (ks.getD i "")])=some o:=e;rw[if_neg ha]at this;exact this
  cases hx:f.idxOf? a with
  | none=>rw[hx]at e';cases e'
  | some i =>
   rw[hx]at e';cases e';obtain⟨w,hai,_⟩:=U5.mp hx;have M:i<ks.length:=Sb hl w hlen
   refine L0 (P i M) fun a' t y A f2 R f4 f5=>?_;rw[Qa w]at A;have ea:a=a':=by rw[←VQ A];simpa using hai.symm
   subst ea;refine⟨R,fun H2=>⟨by show 2<=Od;rw[Oz];decide,[.str (ks.getD i "") t,y],.cons ⟨t,rfl⟩ (.cons f2 .nil),⟨⟨_,f5,rfl,_,rfl⟩,fun o e=>by rw[f5]at e;cases e;rfl⟩⟩⟩
 refine⟨.ref E.objs.size,_,I.laidN (N:=N) (tk:=tk3) hold J,rfl,?_⟩;have Y:Same H fun b=>(N b).or (H b):=fun b u e=>by
  obtain⟨v,hv⟩:=(I.hok b u e).there';have:N b=none:=by
   cases z:N b with
   | none=>rfl
   | some o=>rw[(J b o z).1]at hv;cases hv
  show(N b).or (H b)=some u;rw[this,UQ];exact e
 refine q _ _ (n.toList.map fun i=>V.ref (f.getD i 0)) (n.toList.map fun i=>ks.getD i "") Y (ZgE ks n G) ?_ (by rw[hND];rfl) (by rw[Qd,Qd]) fun i x e=>?_
 rw[Ww,Wt,Wh];intro i j w hj hij;have hz2:n.toList.length=ks.length:=by rw[Qx,G.size]
 have hu:=hup i j hij (K8 hz2 hj);unfold ltX at hu;rw[NO]at hu;have g1:n.getD i 0=n.toList[i]:=by rw[Wy,QT (by simpa using w)];simp
 have g2:n.getD j 0=n.toList[j]:=by rw[Wy,QT (by simpa using hj)];simp
 rw[g1,g2]at hu;exact hu
 rw[Qi]at e;cases ep:n.toList[i]? with
 | none=>rw[ep]at e;cases e
 | some k =>
  rw[ep]at e;have ex:ks.getD k "" = x:=VQ e;have hkm:k∈n:=by simpa using We ep
  have hkl:k<ks.length:=by simpa using G.perm.mem_iff.mp hkm
  obtain⟨a,A,f2⟩:=hNt k hkl;refine⟨a,?_,?_⟩
  rw[Qi,ep,Wg,Qb,A];rfl
  show(N a).or (H a)=_;rw[f2,RH,ex]
def ZgM {σ:St} (I:Inv X pins σ H s) (k:∀ b u,s.heap.get? b=some u->l.get? b=some u) (i:s.heap.get? D=none) (hz:vs.length<=Od)
  (m:∃ (d:VA VG) (n:VC),Vals vs d/\l.get? D=some {cls:=.type "list",data:=.seq d.toArray n}):H D=none/\Inv X pins σ (upd H D (.lst vs)) {s with heap:=l,toks:=tk}:=by
 have p:H D=none:=by
  cases e:H D with
  | none=>rfl
  | some u =>
   have⟨v,h⟩:=(I.hok D u e).there';rw[i]at h;cases h
 refine⟨p,?_⟩;have:=I.laidN (N:=fun b=>if b=D then some (.lst vs)else none) (tk:=tk) k fun a o e=>by
  by_cases c:a=D
  subst c;rw[VD rfl]at e;cases e;exact⟨i,fun r=>⟨hz,m⟩⟩
  simp_all
 have e:(fun b=>(if b=D then some (HO.lst vs)else none).or (H b))=upd H D (.lst vs):=by
  funext b
  by_cases c:b=D
  subst c;rw[VD rfl,RH,Zd];rw[if_neg c,UQ,Zi c]
 simp_all
def ZaN {α:Type} {d:α} (ks) (p) (f:Srt.Pm ks.length p):(p.toList.map fun i=>ks.getD i d).Perm ks:=by
 have g:=(WA.mp f.perm).map fun i=>ks.getD i d;have h:((Qz ks.length).toArray.toList.map fun i=>ks.getD i d)=ks:=by
  apply QY;intro i;simp only[Qi];by_cases b:i<ks.length
  rw[Wd b,Wg,Qb,Qa b];rfl;rw[Qr (by simp;exact Kr b),Qr (Kr b)];rfl
 rw[h]at g;omega
def ZiF (a:Srt.Pm n p) (hi):p.getD i 0=p.toList[i]:=by
 rw[Wy,QT bq];simp
def Zmz (b:Srt.Pm xs.length p) (h:∀ i j,i<j->j<xs.length->Tim.ltS xs (p.getD j 0) (p.getD i 0)=false):((p.toList.map fun i=>xs.getD i "").map fun x=>x.cps.toList).Pairwise (·<=·):=by
 rw[Ww,Wt,Wh];intro i j f e c;have k:p.toList.length=xs.length:=by rw[Qx,b.size]
 have d:=h i j c (K8 k e);unfold Tim.ltS at d;rw[ZiF b f,ZiF b e]at d
 simp_all
def ZgJ:∀ {ks:VA VI} {g:VI->V} {vs:VA (Key×VG)},KV (ks.map fun x=>((VJ x),g x)) vs->∀ (i:VC) (k) (x),vs[i]?=some (k,x)->k=VJ (ks.getD i "")/\i<ks.length:=by
 intro ks g vs b i k x e;have a:=NA (fun l=>l[i]?) b.keys;simp[Qi]at a;rw[e]at a;cases z:ks[i]? with
 | none=>rw[z]at a;cases a
 | some y =>
  rw[z]at a;refine⟨?_,(Qj.mp z).1⟩;rw[Qb,z];exact VQ a.symm
def Ja (hc:X.calm=true):CallR X (.builtin "sorted") (fun xs H Q=>∃ (d:VH) (ks:VA VI) (g:VI->V),xs=[.ref d]/\H d=some (.dK (ks.map fun x=>((VJ x),g x)))/\ks.length<=1000 /\
  ∀ (p) (o:VA VI),H p=none->o.Perm ks->(o.map fun x=>x.cps.toList).Pairwise (·<=·)->Q (.ref p) (upd H p (.lst (o.map V.str)))):=by
 intro Z s σ H xs us Q I r h;obtain⟨d,ks,g,rfl,hd,L,q⟩:=h;obtain⟨u,rfl,rfl⟩:=XL r;obtain⟨hz,lo,U,D,dd⟩:=Zfp I.hok hd;obtain⟨ep,P⟩:=dd.dictAt;have B:ks.length=U.length:=by have:=D.length;simp_all
 have S:∀ (n:VC) (a:VA VG) (xs:VA VI),a.length=xs.length->(∀ (i:VC) (v:VG),a[i]?=some v->∃ t,v= .str (xs.getD i "") t)->Gx a xs:=by
  intro n a;induction a with
  | nil =>
   intro xs e _;match xs,e with
   | [],_=>exact .nil
  | cons v a N =>
   intro xs e A;match xs,e with
   | x::xs,e =>
    obtain⟨t,rfl⟩:=A 0 v rfl;exact .cons x t (N xs bp fun i u z=>by
     obtain⟨t,e⟩:=A (i+1) u bp;exact⟨t,e⟩)
 refine Tim.sorted_all (lt:=Tim.ltS ks) (κ:=CZ) (Pc:=fun O a=>Gx a ks) (fun R hR=>?_) (fun O a K J=>?_) fun O a h3 T c p J K k1 hk1 hp hs hD hN=>?_
 refine kdu_collect (A:=X.A.in1) (kdl_dict lo) (I.ok.hd hc) P (XW (Kd L B)) fun h' T M K m=>hR h' T M.toList K (S 0 _ _ (by rw[Qx,m.1,B]) fun i v e=>?_);obtain⟨k,x,e1,e2⟩:=m.2 i v (by exact QW▸e);obtain⟨rfl,F⟩:=ZgJ D i k x e1;rcases keyIs_shape (show ZaB (VJ (ks.getD i "")) v=true from e2)with ⟨j,t,E,_⟩ | ⟨z,t,E,e5⟩
 cases E
 injection E with E
 exact⟨t,by rw[e5,E]⟩
 have:=Tim.strs_len J;exact⟨XW (Kk L this),Tim.sa_strs J⟩
 have Y:=Tim.strs_len J;have f:Srt.Pm ks.length p:=by exact Y▸hp
 have W:∀ l:VA VC,(∀ i∈l,i<ks.length)->Vals ((l.map fun i=>ks.getD i "").map V.str) (l.map fun i=>a.getD i NI):=by
  intro l;induction l with
  | nil=>intro _;exact .nil
  | cons i l N =>
   intro A;have F:i<a.length:=by have:=A i (Qo ..);exact Kj this Y
   obtain⟨t,e,_⟩:=Tim.strs_at J i _ (Qa F);refine .cons ?_ (N fun j hj=>A j (Qm _ hj));show RelV (V.str (ks.getD i "")) (a.getD i NI);rw[Qb (l:=a),Qa F];exact⟨t,e⟩
 have G:∀ i∈p.toList,i<ks.length:=fun i F=>by
  have:i∈p:=by simpa using F
  have:=f.perm.mem_iff.mp this;simpa using this
 obtain⟨hn,I2⟩:=ZgM (tk:=T) (vs:=(p.toList.map fun i=>ks.getD i "").map V.str) I K hN (by rw[Qd,Qd,Qx,f.size];exact XW L) ⟨_,c,W p.toList G,hD⟩;exact⟨.ref O.objs.size,_,I2,rfl,q _ _ hn (ZaN ks p f) (Zmz f (by exact Y▸hs))⟩
open PySem PySem.Spec PyProof.Rows
def Zgq {t t':SR} (h:t.relaid b n=some (t',d)):t'.led=t.led/\t'.plain=t.plain:=by
 unfold SetTable.relaid SetTable.laid at h;cases e:SetTable.layClean (SetTable.sizeAbove n-1) b with
 | none=>simp_all
 | some c =>
  rw[e]at h;obtain⟨a,_⟩:=Prod.mk.inj (VQ h);rw[←a];simp
def Zix (t) (es) (n):(GH t es n).2.1.led=t.led/\(t.plain=false->(GH t es n).2.1.plain=false):=by
 unfold GH;split
 rename_i f d e;obtain⟨b,a⟩:=Zgq e;dsimp only;split
 exact⟨b,fun h=>by rw[a];omega⟩;exact⟨rfl,fun _=>rfl⟩;exact⟨rfl,fun _=>rfl⟩
def Zng (t) (es) (a) (x):(C9 t es a x).2.1.led=t.led/\(t.plain=false->(C9 t es a x).2.1.plain=false):=by
 unfold C9;split
 dsimp only;unfold SetTable.orStandIn;split
 exact⟨rfl,fun h=>h⟩;exact⟨rfl,fun _=>rfl⟩;exact⟨rfl,fun _=>rfl⟩
noncomputable def byT (w:Ol):NY:=w.params.followText "set-order"
structure StT (prog:Oh) (w:Ol) (h:Nu) (a:VH) (ks:VA VI) (o:MQ) (es:VL (VN×VG)) (ep:VC) (t:SR):Prop where
 ob:h.get? a=some o
 ex:o.ExactSet
 dt:o.data= .set es ep t
 el:ElemsOf (ZE prog w) es.toList
 mem:∀ k:Key,(∃ x,k=VJ x/\x∈ks)↔∃ e∈es.toList,(ZE prog w).is k e.2=true
 len:es.size=ks.length
 nd:ks.Nodup
 fits:t.fits es.size=true
 led:t.led= !byT w
 plain:ks≠[]->t.plain=false
def SetT (prog:Oh) (w:Ol) (h:Nu) (a:VH) (ks:VA VI):Prop:=∃ o es ep t,StT prog w h a ks o es ep t
section
variable {prog:Oh} {w:Ol} {A:NC} {E:VG->VF->Prop} {s:VF}
def SetT.keep (x:SetT prog w h a ks) (k:∀ o,h.get? a=some o->h'.get? a=some o):SetT prog w h' a ks:=by
 obtain⟨o,b,c,t,q⟩:=x;exact⟨o,b,c,t,{q with ob:=k o q.ob}⟩
def Zfv (ks:VA VI) (x:VI):VA VI:=if x∈ks then ks else ks++[x]
def addS_mem:y∈Zfv ks x↔y∈ks\/y=x:=by
 unfold Zfv
 grind
def Zl8 (h:ks.Nodup):(Zfv ks x).Nodup:=by
 unfold Zfv
 grind
def ZjC (ks) (x):(Zfv ks x).length<=ks.length+1:=by
 unfold Zfv
 grind
def Zd5 {h:Nu} (d:h.get? a=some o) (b:o.data= .set es ep t):(h.update a (FR es' t')).get? a=some {o with data:=.set es' (ep+1) t'}:=by
 have:=QQ (FR es' t') d (by rw[putSet_of es' t' b];rfl);rw[putSet_of es' t' b]at this;omega
def Zd0 {r:NY->DE Unit} (k:∀ (b) (d) (u),u () d->Oe (Oc prog w) A (r b) u E d) (n:s.heap.get? a=some o) (v:o.data= .set es ep t)
  (S:∀ (h) (j) (i) (e) (g),h.get? a=some j->j.ExactSet->j.data= .set e i g->BI e.toList c.toList->g.fits e.size=true->g.led=t2.led->(t2.plain=false->g.plain=false)->SetT prog w h a ks) (x:o.ExactSet) (H:c.size<G2) (G:t2.fits c.size=true)
  (q:∀ l,NV a s.heap l->SetT prog w l a ks->R (some true) {s with heap:=l}) :
  Oe (Oc prog w) A (do
    storeSet a c t2
    if (!J&&t2.tooFull)=true then do
      r (GH t2 c (R1 c.size)).2.2
      storeSet a (GH t2 c (R1 c.size)).1 (GH t2 c (R1 c.size)).2.1
      pure (some true)
     else pure (some true)) R E s:=by
 refine Oa (SS n v ?_ (SU H));have m:=Zd5 (es':=c) (t':=t2) n v;have B:=MP s.heap a (FR c t2);split
 have p:=relayAll_perm t2 c (R1 c.size);have f:=relayAll_fits t2 c (R1 c.size);obtain⟨y,D⟩:=Zix t2 c _;generalize GH t2 c _=F at p f y D ⊢;have I:F.1.size=c.size:=by rw[←Qx,p.length_eq,Qx]
 exact Oa (k _ _ _ (Oa (SS m rfl (Ob (q _ (B.trans (MP _ a _)) (S _ _ _ _ _ (Zd5 m rfl) x rfl p f y D))) (SU (Bj H I)))));exact Ob (q _ B (S _ _ _ c t2 m x rfl (R3 _) G rfl fun z=>z))
def Zk0 (hS:SetT prog w s.heap a ks) (W:ks.length+1<G2)
  (q:∀ (r) (p),NV a s.heap p->SetT prog w p a (Zfv ks x)->Q r {s with heap:=p}):Oe (Oc prog w) A (setAddHashed a (.str x tk) ((ZE prog w).hash (VJ x))) Q E s:=by
 obtain⟨o,n,ep,t,T⟩:=hS;have f:(ZE prog w).is (VJ x:Key) (.str x tk)=true:=XT prog w x tk;have hb:n.size<G2:=by rw[T.len];exact Nx W
 unfold setAddHashed setAddHashedIn;refine On (Oa (SV T.ob T.dt T.fits ?_));dsimp only;rw[byScan_of (knd:=ZE prog w) rfl hb T.el];simp only[↓reduceIte];unfold setAddByScan;refine Oa (Oa (OL (Oa (wpAny_setScan_of f T.ob T.dt T.fits T.el ?_))));apply Pl;intros;cases hr:List.findIdx? (fun e=>(ZE prog w).is (VJ x:Key) e.2) n.toList with
 | some j =>
  dsimp only;obtain⟨hj,P,_⟩:=List.findIdx?_eq_some_iff_getElem.mp hr;obtain⟨y,R,H⟩:=(T.mem (VJ x)).mpr ⟨n.toList[j],QH hj,P⟩;cases R;refine Ob (Ob ?_);have U:s={s with heap:=s.heap}:=bo
  rw[U];refine q _ s.heap (BE a s.heap) ?_;unfold Zfv;exact VD H▸⟨o,n,ep,t,T⟩
 | none =>
  dsimp only;have Y:x∉ks:=fun Y=>by
   obtain⟨e,K,C⟩:=(T.mem (VJ x)).mp ⟨x,rfl,Y⟩;have:=List.findIdx?_eq_none_iff.mp hr e K
   simp_all
  have perm:=layNew_perm t n ((ZE prog w).hash (VJ x)) (.str x tk);have l:=layNew_fits t n ((ZE prog w).hash (VJ x)) (.str x tk);obtain⟨O,Z⟩:=Zng t n ((ZE prog w).hash (VJ x)) (.str x tk);generalize C9 t n ((ZE prog w).hash (VJ x)) (.str x tk)=L at perm l O Z ⊢;obtain⟨F,N,wd,I⟩:=L;dsimp only at perm l O Z ⊢;rw[UZ]at perm;have S:F.size=ks.length+1:=by rw[←Qx,perm.length_eq,Qg,Qx,T.len];rfl
  refine Oa ?_;have v:∀ (b:NY) (i:VF) (V:Unit->VF->Prop),V () i->Oe (Oc prog w) A (match b with | true=>rule "set.scan.the-table-gave-way" | false=>pure ()) V E i:=fun b i V hq=>by cases b <;> first | exact Ob hq | exact OL hq
  refine v I _ _ ?_;have mk:∀ (J:SR),J.led=N.led->J.plain=false->∀ (h:Nu) (G:MQ) (B:VC) (g:VL (VN×VG)) (D:SR),h.get? a=some G->G.ExactSet->G.data= .set g B D->BI g.toList F.toList->D.fits g.size=true->D.led=J.led->(J.plain=false->D.plain=false)->SetT prog w h a (Zfv ks x):=by
   intro J e1 e2 h G B g D c1 c2 c3 c4 c5 c6 c7;have M:=c4.trans perm;refine⟨G,g,B,D,c1,c2,c3,(T.el.push f rfl).perm M,fun k=>?_,?_,Zl8 T.nd,c5,by rw[c6,e1,O,T.led],fun _=>c7 e2⟩
   constructor
   rintro⟨y,rfl,H⟩;rcases addS_mem.mp H with z | z
   obtain⟨e,K,C⟩:=(T.mem (VJ y)).mp ⟨y,rfl,z⟩;exact⟨e,M.mem_iff.mpr (QM _ K),C⟩
   subst z;exact⟨_,M.mem_iff.mpr (QJ _ (Qq.mpr rfl)),f⟩
   rintro⟨e,K,C⟩;rcases QA.mp (M.mem_iff.mp K)with z | z
   obtain⟨y,R,H⟩:=(T.mem k).mpr ⟨e,z,C⟩;exact⟨y,R,addS_mem.mpr (.inl H)⟩
   rw[Qq.mp z]at C;exact⟨x,(ZE prog w).inj _ _ _ C f,addS_mem.mpr (.inr rfl)⟩
   rw[←Qx,c4.length_eq,Qx,S];unfold Zfv;rw[if_neg Y,Qg];rfl
  split
  refine Oa ?_;rw[hashByValue_scannable 8 (x:=.str x tk) rfl];exact Ob (Zd0 (t2:=if plainKind (.str x tk)=true then N else {N with plain:=false}) v T.ob T.dt (mk _ rfl rfl) T.ex (Bj W S) (SetTable.fits_plain_off l) fun p m u=>Ob (q _ p m u))
  rename_i hpl;refine Oa (Ob ?_);apply Pk;intros;simp only[↓reduceIte];exact Zd0 v T.ob T.dt (mk N rfl bp) T.ex (Bj W S) l fun p m u=>Ob (q _ p m u)
end
noncomputable def met (val:VC->VI):VC->VA VI
 | 0=>[]
 | i+1=>Zfv (met val i) (val i)
def Zdx (a):∀ i,(met a i).length<=i
 | 0=>Qh _
 | i+1=>by
  have:=ZjC (met a i) (a i);have:=Zdx a i;show(Zfv _ _).length<=_;exact Kl this ‹_›
def Zhb (a):∀ i x,x∈met a i↔∃ j,j<i/\a j=x
 | 0,x=>by simp[met]
 | i+1,x=>by
  show x∈Zfv _ _↔_;rw[addS_mem,Zhb a i x];constructor
  grind
  rintro⟨j,b,e⟩
  grind
section
variable {prog:Oh} {w:Ol} {A:NC} {R:GU->VF->Prop} {J:VH} {fp wr:VA VH} {G:VL GenState->VL GenState->Prop} {n:VC} {P:VC->VG->Prop} {St:VC->VF->Prop}
def ZfD (W:WalksS prog w A.in1 J fp wr G n P St) (S) (u:S∉fp) (a) (l:∀ i v,P i v->∃ t,v= .str (a i) t) (g:n+1<G2) :
  ∀ (k i) (s),n-i=k->i<=n->St i s->SetT prog w s.heap S (met a i)->(∀ E,Moved (S::wr) G s E->SetT prog w E.heap S (met a n)->R (.ok (.ret .none)) E) ->
   OF (Oc prog w) A (.builtin "set.update.loop" ⟨[.ref S,.ref J],[]⟩) R s:=by
 have m:S∉wr:=fun h=>u (W.sub _ h);have c:∀ b∈wr,b∈S::wr:=fun b g=>Qm _ g;intro k;induction k with
 | zero =>
  intro i s hk hi f C K;have F:i=n:=Sc hi hk
  subst F;exact Ov RO ((Oa (W.done s _ _ f fun z x=>(Ob (K z (x.mono c) (C.keep fun o e=>x.heap S o m e))))))
 | succ k ih =>
  intro i s hk hi f C K;have p:i<n:=bq
  refine Ov RO ((Oa (W.item i s _ _ p f fun v z hP q x=>?_)));obtain⟨t,rfl⟩:=l i v hP;refine (Oa (On (On (Oa ((ZE prog w).pyHash (XT prog w (a i) t) (Zk0 (C.keep fun o e=>x.heap S o m e) (by have:=Zdx a i;lia) fun r h1 sb D=>Ob ⟨Oy DA _,ih (i+1) _ bq p (W.frame _ z _ _ q (Ui _) fun b g o e=>?_) D fun s2 H I=>?_⟩))))))
  rw[sb.2 b (fun h:b=S=>u bp)];omega
  refine K s2 (Moved.trans W.gtrans ((x.mono c).then_heap (Ui _) fun b o g e=>?_) H) I;rw[sb.2 b (fun h:b=S=>g (by rw[h];simp))];omega
end
section
variable {prog:Oh} {w:Ol} {A:NC} {E:VG->VF->Prop} {s:VF}
def Zly (a)
  (q:Q1 (.ref s.heap.objs.size) {s with heap:=s.heap.push {cls:=.type "set",dict:=none,data:=.set #[] 0 (.fresh 0 0 (!byT w))}}) :
  OF (Oc prog w) A (.call (.builtin "set.__new__") ⟨[.type "set",a],[]⟩) (wants Q1 E) s:=by
 refine KG ((Oa (Ou (PySem.F.newCall_set_1 a) (Ob ⟨Oy PySem.F.plain_set_new _,Ov PySem.F.entry_set_new ?_⟩))));unfold NP.«set.__new__» FT;have d:=sub_set_self
 wp_walk
 exact OK (Ob (Oa (wpAny_alloc (Ob (Ob q)))))
def ZhK (e:h.get? a=some {cls:=.type "set",dict:=none,data:=.set #[] 0 (.fresh 0 0 (!byT w))}):SetT prog w h a [] :=
 ⟨_,#[],0,_,e,⟨rfl,rfl,rfl⟩,rfl,fun e c=>bp,fun k=>bo,rfl,Ub,by rfl,rfl,fun z=>VM rfl z⟩
def Zh1 {l:VH} {items:VL VG} {ss:VA VI} {Q:VG->VF->Prop} (hh:A.handled=none) (hl:s.heap.IsList l items) (hi:Gx items.toList ss) (hb:items.size+1<G2)
  (q:∀ (h1:Nu) (tk:VC),SetT prog w h1 s.heap.objs.size (met (fun i=>ss.getD i "") items.size)->(∀ b o,s.heap.get? b=some o->h1.get? b=some o)->Q (.ref s.heap.objs.size) {s with heap:=h1,toks:=tk}) :
  Oe (Oc prog w) A (call (.type "set") [.ref l]) Q E s:=by
 obtain⟨c,tl,hmro⟩:=PySem.F.called_set.mro;have hmade:=PySem.F.called_set.made;have hsub:=PySem.F.called_set.sub;refine Gj (KG ?_);refine(show Oe _ _ (callAny (.type "set") _) _ _ _ from Ob ⟨Code.quiet_builtin _ bh,Ov PySem.F.entry_type_call ?_⟩);rw[Around.under_plain (weight_type_call_type "set" [.ref l] []) rfl];have h1:=PySem.F.called_set.notType;have h2:=PySem.F.called_set.canCreate;have hct:=PySem.F.typeCall_set_1 (.ref l)
 repeat (any_goals (first | assumption | wp_step))
 refine OM (Zly (.ref l) (E:=E) (Q1:=fun obj s1=>obj= .ref s.heap.objs.size/\s1={s with heap:=s.heap.push {cls:=.type "set",dict:=none,data:=.set #[] 0 (.fresh 0 0 (!byT w))}}) ⟨rfl,rfl⟩) fun r s1 hr=>?_;cases r with
 | error e=>exact hr
 | ok fl =>
  cases fl with
  | ret obj =>
   obtain⟨rfl,rfl⟩:=hr;have gS:(s.heap.push {cls:=.type "set",dict:=none,data:=.set #[] 0 (.fresh 0 0 (!byT w))}).get? s.heap.objs.size=some {cls:=.type "set",dict:=none,data:=.set #[] 0 (.fresh 0 0 (!byT w))}:=Qk _ rfl;have hT:Shared.TypeIs {s with heap:=s.heap.push {cls:=.type "set",dict:=none,data:=.set #[] 0 (.fresh 0 0 (!byT w))}} (.ref s.heap.objs.size) "set":=⟨_,gS,rfl⟩
   have hli:=PySem.F.called_set.init.lookup;have hbi:=PySem.F.called_set.init.bind (.ref s.heap.objs.size)
   repeat (any_goals (first | assumption | wp_step))
   refine OM (W2 (R:=wants (fun r s2=>r= .none/\∃ g tk,s2={s with heap:=g,toks:=tk}/\SetT prog w g s.heap.objs.size (met (fun i=>ss.getD i "") items.size)/\(∀ b o,s.heap.get? b=some o->g.get? b=some o)) E) PySem.F.called_set.init.plain PySem.F.entry_set_init (check_set_init_1 hT ?_)) fun r2 s2 hr2=>?_
   ·refine L3 hl fun ol hol hcl nl hdl=>?_;obtain⟨ocls,odict,odata,oslots⟩:=ol;simp only at hcl hdl;subst hcl;subst hdl;have hol':(s.heap.push {cls:=.type "set",dict:=none,data:=.set #[] 0 (.fresh 0 0 (!byT w))}).get? l=some {cls:=.type "list",dict:=odict,data:=.seq items nl,slots:=oslots}:=Qc _ hol;have hsls:=PySem.F.sub_list_set;have hslf:=PySem.F.sub_list_frozenset;have hne:(NB "list" == NB "dict")=false:=be
    have hl1:(s.heap.push {cls:=.type "set",dict:=none,data:=.set #[] 0 (.fresh 0 0 (!byT w))}).IsList l items:=⟨_,hol',rfl,nl,rfl⟩
    unfold NP.«set.__init__» noKeywords FA;generalize hPI:GL=PI
    wp_walk
    subst hPI;refine OU hl1 (Oa (Dm ?_));have hlS:l<s.heap.objs.size:=Ql hol;have hh3:A.in1.in1.in1.handled=none:=by simp[hh]
    have hneI:l≠(s.heap.push {cls:=.type "set",dict:=none,data:=.set #[] 0 (.fresh 0 0 (!byT w))}).objs.size:=by
     rw[Wu];exact QB (WZ hlS)
    have hSf:s.heap.objs.size∉[(s.heap.push {cls:=.type "set",dict:=none,data:=.set #[] 0 (.fresh 0 0 (!byT w))}).objs.size,l]:=by
     rw[Wu];simp only[Qs,Q7,or_false,T5];exact⟨QB (UI _),Uc hlS⟩
    have hval:∀ (i:VC) (v:VG),items[i]?=some v->∃ t,v= .str ((fun i=>ss.getD i "") i) t:=fun i v hv=>by
     obtain⟨t,e,_⟩:=Tim.strs_at hi i v (by rw[QW];exact hv);exact⟨t,e⟩
    refine ZfD ((DS hh3 _ l hneI items).toS) s.heap.objs.size hSf (fun i=>ss.getD i "") hval hb (items.size-0) 0 _ br (QN _)
     ⟨⟨_,Qk _ rfl,rfl,rfl⟩,(hl1.push _)⟩ (ZhK (Qc _ gS)) ?_
    intro s3 mv hS3;obtain⟨h3,g3,d3,t3,o3⟩:=s3;have eg:g3=s.gens:=mv.gens;have ed:d3=s.drawn:=mv.drawn;have eo:o3=s.os:=mv.os;subst eg;subst ed;subst eo;refine Ob (show Oe _ _ (ret NI) _ _ _ from Ob ⟨rfl,h3,t3,rfl,hS3,fun b o e=>?_⟩);have hb0:b<s.heap.objs.size:=Ql e;have hb2:b≠(s.heap.push {cls:=.type "set",dict:=none,data:=.set #[] 0 (.fresh 0 0 (!byT w))}).objs.size:=by
     rw[Wu];exact QB (WZ hb0)
    exact mv.heap b o (by simp only[Qs,Q7,or_false,T5];exact⟨QB hb0,hb2⟩) (Qc _ (Qc _ e))
   ·cases r2 with
    | error e=>exact hr2
    | ok fl2 =>
     cases fl2 with
     | ret r =>
      refine L4 hr2 fun r0 g tk r1 hS' hk'=>?_;subst r0;subst r1
      repeat (any_goals (first | assumption | wp_step))
      exact q _ _ hS' hk'
     | _=>exact hr2
  | _=>exact hr
end
def si_slot:CH "set_iterator" "__next__" "set_iterator.__next__" :=
 .of (by rfl) (by rfl) (by rfl) (by rfl) (by first | exact .inl (by rfl) | lia) (by rfl)
def Xw:GX table "set_iterator.__next__" = some NP.«set_iterator.__next__»:=entryFor_of_fast (by rfl)
def Ji (a):GY "set_iterator.__next__" ⟨[a],[]⟩:=by rfl
def Zil:GX table "set.__iter__" = some NP.«frozenset.__iter__» :=
 Dn (id':="frozenset.__iter__") (by rfl) (by rfl) bh (by rfl)
def Za2 {α:Type} {l:VA α} (h):(l[i]::l.eraseIdx i).Perm l:=by
 rw[List.eraseIdx_eq_take_drop_succ];have e:l=l.take i++l[i]::l.drop (i+1):=bo
 conv=>rhs;rw[e]
 exact List.perm_middle.symm
def ZgA (next):∀ (f k) (a:VA α) (b),a.length<=f->(LZ next f k a b).toList.Perm (b.toList++a)
 | 0,k,a,b,h=>by
  have:a=[]:=Wa.mp (Nj h);subst this;unfold LZ;simp
 | f+1,k,[],b,h=>by
  unfold LZ;simp
 | f+1,k,x::a,b,h=>by
  unfold LZ;have e:next k % (x::a).length<(x::a).length:=Bk _ bo;rw[Qa e];refine(ZgA next f _ _ _ ?_).trans ?_;rw[Rg,VD e];lia;rw[UZ,QL];exact KR _ (Za2 e)
def JZ (next) (xs:VL α):(MZ next xs).toList.Perm xs.toList:=by
 unfold MZ;have:=ZgA next xs.size 0 xs.toList #[] bo
 simp_all
abbrev ZcV (h:Nu) (J:VH) (f:VG) (i:VC) (a:VH) (n ep:VC):Prop:=h.get? J=some {cls:=.type "set_iterator",dict:=none,data:=.fields #[f,.int i 0,.ref a,.int n 0,.int ep 0],slots:=#[]}
section
variable {prog:Oh} {w:Ol} {A:NC} {E:VG->VF->Prop} {s:VF}
def ZbY (a:n≠0) (h:∀ i d,i<n->Q i {s with drawn:=d}):Oe (Oc prog w) A (choose b n) Q E s :=
 fun _ _ _=>⟨a,h _ _ (Bk _ (Nat.pos_of_ne_zero a))⟩
def ZcH:∀ (n) (xs:VA α) (s) {Q},xs.length<=n->(∀ ys d,ys.Perm xs->Q ys {s with drawn:=d})->Oe (Oc prog w) A (drawOrder n xs) Q E s
 | 0,xs,s,Q,a,h=>by
  have:xs=[]:=Wa.mp (Nj a);subst this;exact Ob (h [] s.drawn (R3 _))
 | n+1,[],s,Q,a,h=>Ob (h [] s.drawn (R3 _))
 | n+1,x::xs,s,Q,a,h=>by
  refine Oa (ZbY bo fun i d b=>?_);rw[Qa b];refine Oa (ZcH n _ _ ?_ fun ys e c=>Ob (h _ e ?_));rw[Rg];split <;> simp at * <;> omega
  exact(c.cons _).trans (Za2 b)
structure SeesS (h:Nu) (a:VH) (o:MQ) (es:VL (VN×VG)) (ep:VC) (t:SR) (n:VC):Prop where
 ob:h.get? a=some o
 dt:o.data= .set es ep t
 fits:t.fits es.size=true
 len:es.size=n
def YC (V:SeesS s.heap a o es ep t n) (q:Q (es,ep,t) s):Oe (Oc prog w) A (setState a) Q E s:=SV V.ob V.dt V.fits q
def Y1 {Q} (k:ZcV s.heap J f i a n ep) (V:SeesS s.heap a o es ep t n)
  (q:Oe (Oc prog w) A (if let .int h _:=f then (do
    match ←setNext a h.toNat (i:VN).toNat (ep:VN).toNat with
    | some (x,next) =>
     GI (.ref J) 0 (OD next)
     GI (.ref J) 1 (OD (i+1))
     ret x
    | none=>GI (.ref J) 2 .none;C1 (←newExc (.type "StopIteration") []))
   else (do
    let some d ←CC f | unsupported "internal:set_iterator"
    match d[(i:VN).toNat]? with
    | some (.int e _) =>
     let x ←setNextDrawn a e.toNat (ep:VN).toNat
     GI (.ref J) 1 (OD (i+1))
     ret x
    | some _=>unsupported "internal:set_iterator"
    | none=>GI (.ref J) 0 (OD 0);GI (.ref J) 2 .none;C1 (←newExc (.type "StopIteration") []))) Q E s) :
  Oe (Oc prog w) A (NP.«set_iterator.__next__» ⟨[.ref J],[]⟩) Q E s:=by
 refine (show Oe _ _ (fieldsOf _ >>= _) _ _ s from Oa (wpAny_fieldsOf k rfl (Oa (DB V.ob V.dt V.fits ?_))));rw[if_neg (by rw[V.len];simp)];omega
def Jg {J:VH} {Q:PySem.Fin->VF->Prop} (b:A.handled=none)
  (q:∀ g e,(∀ c o,d.get? c=some o->g.get? c=some o)->(∃ o,g.get? e=some o/\o.cls= .type "StopIteration")->E (.ref e) {s with heap:=g}) :
  Oe (Oc prog w) A (do C1 (←newExc (.type "StopIteration") [])) Q E {s with heap:=d}:=by
 refine Oa (Oa (Ot (Oa (Ou (by rfl) (Ot (Oa (DG ?_)) (by size_fits)))) (by exact Kw)));first | rw[b] | lia
 exact Oa (Ob (Ft (q _ _ (fun c o e=>Qc _ (Qc _ e)) ⟨_,Qk _ rfl,rfl⟩)))
def Zir {i n ep p m:VC} {o h} {es} {t} {b} {c} {x} {Q:VG->VF->Prop} (e:ZcV s.heap J (.ref T) i a n ep) (V:SeesS s.heap a o es ep t n)
  (r:s.heap.get? T=some h) (k:h.data= .seq b m) (j:b[i]?=some (.int p 0)) (c:es[p]?=some (c,x)) (q:∀ g,ZcV g J (.ref T) (i+1) a n ep->NV J s.heap g->Q x {s with heap:=g}) :
  Oe (Oc prog w) A (NP.«set_iterator.__next__» ⟨[.ref J],[]⟩) (fun d z=>∃ v,d= .done (.ret v)/\Q v z) E s:=by
 refine Y1 e V (Oa (Ow r k ?_));simp[QX,j];refine Oa (Oa (YC V ?_));dsimp only;rw[if_neg bo,c];refine Ob (Oa (Oq e bo fun g B y=>Ob ⟨x,rfl,q g ?_ y⟩))
 assumption
def ZkY (v:A.handled=none) (j:ZcV s.heap J (.ref T) i a n ep) (V:SeesS s.heap a o es ep t n)
  (x:s.heap.get? T=some p) (r:p.data= .seq D m) (l:D[i]?=none) (q:∀ g e,(∀ c o,c≠J->s.heap.get? c=some o->g.get? c=some o)->(∃ o,g.get? e=some o/\o.cls= .type "StopIteration")->E (.ref e) {s with heap:=g}) :
  Oe (Oc prog w) A (NP.«set_iterator.__next__» ⟨[.ref J],[]⟩) Q E s:=by
 refine Y1 j V (Oa (Ow x r ?_));simp[QX,l];exact Oa (Oq j bo fun C b f=>Oa (Oq b bo fun B u d=>Jg (J:=J) v fun g e k y=>q g e (fun c o h z=>k c o (d.extBut _ _ h (f.extBut _ _ h z))) y))
def Zip {Q:VG->VF->Prop} (j:byT w=true) (k:ZcV s.heap J (.int 0 0) i a n ep) (V:SeesS s.heap a o es ep t n)
  (m:(MZ (w.params.setOrder a ep) es)[i]?=some (z,x)) (q:∀ g,ZcV g J (.int 0 0) (i+1) a n ep->NV J s.heap g->Q x {s with heap:=g}) :
  Oe (Oc prog w) A (NP.«set_iterator.__next__» ⟨[.ref J],[]⟩) (fun f y=>∃ v,f= .done (.ret v)/\Q v y) E s:=by
 refine Y1 k V (Oa (Oa (YC V (Oa (Oa (OK (Ob (Pl ?_))))))));intros;rw[VD (show(Oc prog w).w.params.followText _=true from j),if_neg bo];refine Oa (Oa (YC V (Oa (Oa (OK (Ob ?_))))));rw[VD (show(Oc prog w).w.params.followText _=true from j)];refine Oa (OK (Ob (Ob ?_)));have d:(MZ ((Oc prog w).w.params.setOrder a ep) es)[i]?=some _:=m;simp[QX,d,Wg];refine Oa (Oq k bo fun B e h=>Oa (Oq e bo fun p r c=>Ob ⟨x,rfl,q p ?_ (h.trans c)⟩))
 assumption
def ZkW (p:A.handled=none) (j:byT w=true) (l:ZcV s.heap J (.int 0 0) i a n ep) (V:SeesS s.heap a o es ep t n)
  (m:(MZ (w.params.setOrder a ep) es)[i]?=none) (q:∀ g e,(∀ c o,c≠J->s.heap.get? c=some o->g.get? c=some o)->(∃ o,g.get? e=some o/\o.cls= .type "StopIteration")->E (.ref e) {s with heap:=g}) :
  Oe (Oc prog w) A (NP.«set_iterator.__next__» ⟨[.ref J],[]⟩) Q E s:=by
 refine Y1 l V (Oa (Oa (YC V (Oa (Oa (OK (Ob (Pl ?_))))))));intros;rw[VD (show(Oc prog w).w.params.followText _=true from j),if_neg bo];refine Oa (Oa (YC V (Oa (Oa (OK (Ob ?_))))));rw[VD (show(Oc prog w).w.params.followText _=true from j)];refine Oa (OK (Ob (Ob ?_)));have d:(MZ ((Oc prog w).w.params.setOrder a ep) es)[i]?=none:=m;simp[QX,d,Option.map_none];exact Oa (Oq l bo fun y r f=>Jg (J:=J) p fun g e k v=>q g e (fun c o x z=>k c o (f.extBut _ _ x z)) v)
def ZaM (d:byT w=false) (V:SeesS s.heap a o es ep t n) (e:n<=1) (b:t.led=true)
  (q:Q (match es[MV t.place c]?,t.place[MV t.place c]? with
   | some (_,x),some j=>some (x,j+1)
   | _,_=>none) s):Oe (Oc prog w) A (setNext a c i ep) Q E s:=by
 refine Oa (YC V (Oa (Oa (OK (Ob ?_)))));rw[if_neg (by rw[show(Oc prog w).w.params.followText _=false from d];decide)];refine(show Oe _ A (if (!t.plain&&decide _)=true then _ else _) Q E s from ?_);rw[if_neg (by rw[V.len];simp;omega)];refine(show Oe _ A ((if (!t.led&&!es.isEmpty)=true then unsupported _ else pure ()) >>= fun _=>_) Q E s from ?_);rw[b];exact Oa (Ob (Ob q))
def Ziq {Q:VG->VF->Prop} (u:byT w=false) (k:t.led=true) (p:ZcV s.heap J (.int 0 0) 0 a 1 ep) (V:SeesS s.heap a o es ep t 1)
  (m:t.place= #[j]) (r:es[0]?=some (C,x)) (q:∀ g,ZcV g J (.int ((j+1:VC)) 0) 1 a 1 ep->NV J s.heap g->Q x {s with heap:=g}) :
  Oe (Oc prog w) A (NP.«set_iterator.__next__» ⟨[.ref J],[]⟩) (fun i z=>∃ v,i= .done (.ret v)/\Q v z) E s:=by
 refine Y1 p V (Oa (ZaM u V (Qh _) k ?_));have l:MV t.place (0:VN).toNat=0:=by rw[m];rfl
 rw[l,r,m];refine Oa (Oq p bo fun D e h=>Oa (Oq e bo fun y f d=>Ob ⟨x,rfl,q y f (h.trans d)⟩))
def ZkX {h i n ep:VC} (B:A.handled=none) (p:byT w=false) (f:t.led=true) (l:ZcV s.heap J (.int h 0) i a n ep) (V:SeesS s.heap a o es ep t n) (v:n<=1)
  (m:es[MV t.place h]?=none) (q:∀ g e,(∀ c o,c≠J->s.heap.get? c=some o->g.get? c=some o)->(∃ o,g.get? e=some o/\o.cls= .type "StopIteration")->E (.ref e) {s with heap:=g}) :
  Oe (Oc prog w) A (NP.«set_iterator.__next__» ⟨[.ref J],[]⟩) Q E s:=by
 refine Y1 l V (Oa (ZaM p V v f ?_));rw[QX,m];exact Oa (Oq l bo fun C y b=>Jg (J:=J) B fun g e k x=>q g e (fun c o r z=>k c o (b.extBut _ _ r z)) x)
end
def SeesS.keep (V:SeesS h a o es ep t n) (k:∀ o,h.get? a=some o->h'.get? a=some o):SeesS h' a o es ep t n:={V with ob:=k o V.ob}
def Zf6:CH "set_iterator" "__iter__" "set_iterator.__iter__" :=
 .of (owner:="set_iterator") (n:="__iter__") (by rfl) bh bh bh (by first | exact .inl (by rfl) | lia) (by rfl)
def Zin:GX table "set_iterator.__iter__" = some NP.«dict_keyiterator.__iter__» :=
 Dn (id':="dict_keyiterator.__iter__") (by rfl) (by rfl) bh (by rfl)
def Zio (a):GY "set_iterator.__iter__" ⟨[a],[]⟩:=by rfl
def Zc3 (b:ZcV s.heap J f i a n ep) (h:Q (.ref J) s):Oe (Oc prog w) A (GL (.ref J)) Q E s:=by
 exact LC ⟨_,b,rfl⟩ Zf6 (Om Zf6 ⟨_,b,rfl⟩ Zin ((Ob ⟨_,rfl,"set_iterator",_,⟨_,b,rfl⟩,si_slot.lookup,h⟩)) (Zio _))
section
variable {prog:Oh} {w:Ol} {A:NC} {E:VG->VF->Prop} {s:VF}
abbrev Zka (ord:VL (VN×VG)) (i:VC) (v:VG):Prop:=∃ e,ord[i]?=some e/\v=e.2
def Zn2 (L:A.handled=none) {f:VA VC} (x:T≠J) (B:a≠J) (H:f.length=n) (D:∀ p∈f,p<es.size) :
  CD prog w A J [J,T,a] [J] n (Zka (f.map fun p=>es.getD p (0,.none)).toArray) (fun i h=>ZcV h J (.ref T) i a n ep/\(∃ r m,h.get? T=some r/\r.data= .seq (f.map fun p:VC=>RW p 0).toArray m)/\SeesS h a o es ep t n) where
 sub:=fun b v=>by rw[Qq.mp v];simp
 frame:=fun i h V ⟨j,⟨r,m,g,d⟩,u⟩ k=>⟨k J bo _ j,⟨r,m,k T bo _ g,d⟩,u.keep fun o e=>k a bo o e⟩
 item:=fun i s Q E W ⟨j,⟨r,m,g,d⟩,u⟩ q=>by
  have l:i<f.length:=Kj W H
  have U:(f.map fun p:VC=>RW (p:VN) 0).toArray[i]?=some (.int (f[i]:VC) 0):=by simp[l]
  have C:f[i]<es.size:=D _ (QH l);have N:es[f[i]]?=some (es[f[i]].1,es[f[i]].2):=bp
  refine Oa (Ox (VW ⟨_,j,rfl⟩ si_slot (Om si_slot ⟨_,j,rfl⟩ Xw (Zir j u g d U N fun G M F=>Ob (q _ G s.toks ?_ ?_ ?_)) (Ji _))))
  refine⟨es[f[i]],?_,rfl⟩;simp[l,C]
  exact⟨M,⟨r,m,F.extBut _ _ x g,d⟩,u.keep fun o e=>F.extBut _ _ B e⟩
  exact fun b o v e=>F.extBut _ _ (fun z=>v (by simp[z])) e
 done:=fun s Q E ⟨j,⟨r,m,g,d⟩,u⟩ q=>by
  refine Oa (Ox (VW (name:=SW "__next__") ⟨_,j,rfl⟩ si_slot (Om si_slot ⟨_,j,rfl⟩ Xw (ZkY L j u g d (by simp[H]) fun G e k=>Lh fun K I O=>?_) (Ji _))));exact Oa (OH (T:="StopIteration") (b:=true) ⟨K,I,O⟩ O7 (Ob (q G s.toks fun b o v z=>k b o (fun y=>v (by simp[y])) z)))
 self:=fun i s Q E ⟨j,_⟩ q=>Zc3 j q
def Zn0 (F:A.handled=none) (f:byT w=true) (p:a≠J) (u:es.size=n) :
  CD prog w A J [J,a] [J] n (Zka (MZ (w.params.setOrder a ep) es)) (fun i h=>ZcV h J (.int 0 0) i a n ep/\SeesS h a o es ep t n) where
 sub:=fun b f=>by rw[Qq.mp f];simp
 frame:=fun i h H ⟨d,g⟩ k=>⟨k J bo _ d,g.keep fun o e=>k a bo o e⟩
 item:=fun i s Q E I ⟨d,g⟩ q=>by
  have m:(MZ (w.params.setOrder a ep) es).size=n:=by rw[←Qx,(JZ _ es).length_eq,Qx,u]
  have v:(MZ (w.params.setOrder a ep) es)[i]?=some _:=QT (Kj I m);refine Oa (Ox (VW ⟨_,d,rfl⟩ si_slot (Om si_slot ⟨_,d,rfl⟩ Xw (Zip f d g v fun l D r=>Ob (q _ l s.toks ⟨_,v,rfl⟩ ⟨D,g.keep fun o e=>r.extBut _ _ p e⟩ fun b o f e=>r.extBut _ _ (fun z=>f (by simp[z])) e)) (Ji _))))
 done:=fun s Q E ⟨d,g⟩ q=>by
  have m:(MZ (w.params.setOrder a ep) es).size=n:=by rw[←Qx,(JZ _ es).length_eq,Qx,u]
  refine Oa (Ox (VW ⟨_,d,rfl⟩ si_slot (Om si_slot ⟨_,d,rfl⟩ Xw (ZkW F f d g (Uk (Kf m)) fun l e k=>Lh fun C x G=>?_) (Ji _))));exact Oa (OH ⟨C,x,G⟩ O7 (Ob (q l s.toks fun b o f z=>k b o (fun y=>f (by simp[y])) z)))
 self:=fun i s Q E ⟨d,_⟩ q=>Zc3 d q
def Zn1 (S:A.handled=none) (d:byT w=false) (u:a≠J) (U:es.size=n) (O:n<=1) (r:t.led=true) (N:t.fits es.size=true) :
  CD prog w A J [J,a] [J] n (Zka es) (fun i h=>(∃ f:VC,ZcV h J (.int f 0) i a n ep/\(i<n->f=0)/\(i=n->es[MV t.place f]?=none))/\SeesS h a o es ep t n) where
 sub:=fun b d=>by rw[Qq.mp d];simp
 frame:=fun i h V ⟨⟨f,c,p⟩,g⟩ k=>⟨⟨f,k J bo _ c,p⟩,g.keep fun o e=>k a bo o e⟩
 item:=fun i s Q E P ⟨⟨f,c,p,_⟩,g⟩ q=>by
  have x:n=1:=br
  have v:i=0:=br
  subst v;have B:=p P;subst B;subst x;have m:t.place.size=1:=by
   simp only[SetTable.fits,Q0,FU]at N;lia
  obtain⟨j,G⟩:∃ j,t.place= #[j]:=by
   generalize t.place=M at m;obtain⟨l⟩:=M;match l,m with
   | [j],_=>simp
  have F:es[0]?=some es[0]:=QT (Nk U);refine Oa (Ox (VW ⟨_,c,rfl⟩ si_slot (Om si_slot ⟨_,c,rfl⟩ Xw (Ziq d r c g G F fun D C H=>Ob (q _ D s.toks ⟨_,F,rfl⟩ ⟨⟨j+1,C,fun z=>VM z br,fun _=>?_⟩,g.keep fun o e=>H.extBut _ _ u e⟩ fun b o d e=>H.extBut _ _ (fun z=>d (by simp[z])) e)) (Ji _))));have I:MV t.place (j+1)=1:=by
   rw[G];show SetTable.below.go #[j] (j+1) 1 0 1=1;unfold SetTable.below.go;rw[VD Nl,VD bo];rfl
  exact Uk (Vy U I)
 done:=fun s Q E ⟨⟨f,c,_,p⟩,g⟩ q=>by
  refine Oa (Ox (VW ⟨_,c,rfl⟩ si_slot (Om si_slot ⟨_,c,rfl⟩ Xw (ZkX S d r c g O (p rfl) fun D e k=>Lh fun L T K=>?_) (Ji _))));exact Oa (OH (b:=true) ⟨L,T,K⟩ O7 (Ob (q D s.toks fun b o d z=>k b o (fun y=>d (by simp[y])) z)))
 self:=fun i s Q E ⟨⟨f,c,_⟩,_⟩ q=>Zc3 c q
end
section
variable {prog:Oh} {w:Ol} {A:NC} {E:VG->VF->Prop} {s:VF}
def Ze0 {es:VL (VN×VG)} {b:VA VC} (h:b.Perm (Qz es.size)):(b.map fun p=>es.getD p (0,.none)).Perm es.toList:=by
 have f:=h.map fun p=>es.getD p (0,.none);have d:((Qz es.size).map fun p=>es.getD p (0,.none))=es.toList:=by
  apply QY;intro i;rw[Qi];by_cases e:i<es.size
  simp[e];rw[Qr (by simp;exact Kr e),Qr (by simp;exact Kr e)];rfl
 rw[d]at f;omega
def Zjg (F:A'.handled=none) (S:StT prog w s.heap a ks o es ep t) (hz:ks.length<=1000)
  (q:∀ (J) (m) (d) (l) (I) (St),l.toList.Perm es.toList->CD prog w A' J I [J] ks.length (Zka l) St->St 0 m->(∀ b∈I,b=a\/s.heap.objs.size<=b)->s.heap.objs.size<=J ->
   (∀ b u,s.heap.get? b=some u->m.get? b=some u)->Q (.ref J) {s with heap:=m,drawn:=d}):Oe (Oc prog w) A (GL (.ref a)) Q E s:=by
 have M:s.TypeIs (.ref a) "set":=⟨o,S.ob,S.ex.1⟩
 have V:SeesS s.heap a o es ep t ks.length:=⟨S.ob,S.dt,S.fits,S.len⟩
 have C:a<s.heap.objs.size:=Ql S.ob;have N:s={s with heap:=s.heap,drawn:=s.drawn}:=bo
 refine LC M KS (Om KS M Zil (Pl ?_) (PySem.F.args_set_iter_1 _));intros;unfold NP.«frozenset.__iter__»;refine(show Oe _ _ (LF a >>= _) _ _ s from Oa ?_);unfold LF;refine Oa (DB V.ob V.dt V.fits (Ob ?_));dsimp only;unfold setDrawn setsByText;refine Oa (Oa (YC V ?_));dsimp only;refine Oa (Oa (OK (Ob (Ob ?_))));have v:∀ (x:NY) (h:x=(!byT w&&(!t.plain&&decide (es.size>1)))),x=(!(Oc prog w).w.params.followText "set-order" && (!t.plain&&decide (es.size>1))):=fun x h=>h;by_cases c:(!byT w&&(!t.plain&&decide (es.size>1)))=true
 refine(show Oe (Oc prog w) _ (if (!byT w&&(!t.plain&&decide (es.size>1)))=true then _ else _) _ _ s from ?_);rw[VD c];refine Oa (ZcH es.size (Qz es.size) s bo fun k d G=>?_);have B:k.length=ks.length:=by rw[G.length_eq,QU,S.len]
 refine Oa (GG ?_ (by rw[Qd];exact XW (Kk hz B)));have L:SeesS (s.heap.push {cls:=.type "tuple",data:=.seq (k.map fun i:VC=>OD i).toArray}) a o es ep t ks.length:=V.keep fun o e=>Qc _ e;refine Oa ?_;unfold setEpoch;refine Oa (YC (s:={s with heap:=s.heap.push {cls:=.type "tuple",data:=.seq (k.map fun i:VC=>OD i).toArray},drawn:=d}) L (Ob (Oa (Ot (Ob ⟨_,rfl,"set_iterator",_,⟨_,Qk _ rfl,rfl⟩,si_slot.lookup,?_⟩)))));have D:(s.heap.push {cls:=.type "tuple",data:=.seq (k.map fun i:VC=>OD i).toArray}).objs.size=s.heap.objs.size+1:=Wu ..;refine q _ _ d (k.map fun p=>es.getD p (0,.none)).toArray [_,s.heap.objs.size,a] _ (Ze0 G) (Zn2 F (T:=s.heap.objs.size) (a:=a) (ep:=ep) (o:=o) (es:=es) (t:=t) bo (by exact D▸QB (WZ C)) B fun p n=>Qu.mp (G.mem_iff.mp n)) ⟨?_,⟨_,_,Qc _ (Qk _ rfl),rfl⟩,L.keep fun o e=>Qc _ e⟩ ?_ bo fun b u e=>Qc _ (Qc _ e)
 unfold ZcV;rw[Qk _ rfl,S.len];rfl
 simp
 refine(show Oe (Oc prog w) _ (if (!byT w&&(!t.plain&&decide (es.size>1)))=true then _ else _) _ _ s from ?_);rw[if_neg c];refine Oa (Ob (Oa ?_));unfold setEpoch;refine Oa (YC V (Ob (Oa (Ot (Ob ⟨_,rfl,"set_iterator",_,⟨_,Qk _ rfl,rfl⟩,si_slot.lookup,?_⟩)))));have j:∀ b∈[s.heap.objs.size,a],b=a\/s.heap.objs.size<=b:=fun b r=>by
  rcases Qs.mp r with z | z
  lia
  simp_all
 have K:ZcV (s.heap.push {cls:=.type "set_iterator",data:=.fields #[OD 0,OD 0,.ref a,OD es.size,OD ep]}) s.heap.objs.size (.int 0 0) 0 a ks.length ep:=by
  unfold ZcV;rw[Qk _ rfl,S.len];rfl
 by_cases r:byT w=true
 exact q _ _ s.drawn _ [s.heap.objs.size,a] _ (JZ _ es) (Zn0 F r (o:=o) (t:=t) (QB C) S.len) ⟨K,V.keep fun o e=>Qc _ e⟩ j (Qh _) fun b u e=>Qc _ e
 have g:byT w=false:=bp
 have y:t.led=true:=by rw[S.led,g];rfl
 have m:ks.length<=1:=by
  rcases Wr 1 ks.length with z | z
  exact VM (by rw[g,(S.plain (fun e=>by rw[e]at z;simp at z)),S.len];simp;exact z) c
  exact z
 refine q _ _ s.drawn es [s.heap.objs.size,a] _ (R3 _) (Zn1 F g (o:=o) (t:=t) (ep:=ep) (QB C) S.len m y S.fits) ⟨⟨0,K,fun _=>rfl,fun z=>?_⟩,V.keep fun o e=>Qc _ e⟩ j (Qh _) fun b u e=>Qc _ e;have:es.size=0:=by exact S.len▸z.symm
 exact Uk br
end
def Zg1:∀ {ks xs:VA VI},ks.Nodup->(∀ x∈ks,x∈xs)->xs.length=ks.length->xs.Perm ks
 | [],xs,_,_,b=>by rw[Wa.mp b]
 | k::ks,xs,f,g,b=>by
  have a:=Q9.mp f;refine (Rh (g k Qo ..)).trans (List.Perm.cons k (Zg1 a.2 (fun x c=>?_) ?_));have d:x≠k:=fun e=>a.1 (e▸c)
  simp_all
  simp_all
section
variable {prog:Oh} {w:Ol} {A:NC} {E:VG->VF->Prop} {s:VF}
def Zjh (c:s.TypeIs (.ref r) "set") (q:Q false s):Oe (Oc prog w) A (MH (.ref r)) Q E s:=by
 refine Oa (OG c PySem.F.slot_set_len.lookup ?_);generalize b:("set.__len__")=d;subst b;exact Oa (OH c (by rfl) (KH (fun z=>VM z be) fun _=>KH (fun _=>Oa (Gf c (Ob q))) fun z=>VM (by rfl) z))
def Zfm (hh:A.handled=none) (T:StT prog w s.heap a ks o es ep t) (hz:ks.length<=1000) (E:S≠a) (K:s.heap.get? S=some {cls:=.type "list",data:=.seq #[] i})
  (q:∀ x tk d l c (k),k.toList.Perm es.toList->(∀ b u,b≠S->s.heap.get? b=some u->x.get? b=some u)->x.get? S=some {cls:=.type "list",dict:=none,data:=.seq l c,slots:=#[]}->TL (Zka k) l ks.length->R (.ok (.ret p)) {s with heap:=x,toks:=tk,drawn:=d}) :
  Oe (Oc prog w) A.in1 (MI (.ref S) (.ref a) p) (fun G C=>match G with | .done f=>R (.ok f) C | .again L=>L.quiet=true/\OF (Oc prog w) A L R C) (fun e C=>R (.error e) C) s:=by
 have hT:s.TypeIs (.ref a) "set":=⟨o,T.ob,T.ex.1⟩
 refine Oa (Gf hT ?_);have x:NG (.ref S) (.ref a)=false:=by simp[NG,E]
 have n1:(NB "set" == NB "list")=false:=by decide
 have n2:(NB "set" == NB "tuple")=false:=by decide
 simp only[x,n1,n2,UH,WX,TU];refine Oa (Zjg (A':=A.in1) hh T hz fun J g d k fp St hp W st I hJ B=>?_);have F:=B _ _ K;have nf:S∉fp:=fun z=>by
  rcases I S z with y | y
  simp_all
  exact VM (Ql K) (UO.mpr y)
 have v:∀ (h:Nu) (j tk:VC),St 0 h->(∀ b u,b≠S->s.heap.get? b=some u->h.get? b=some u)->h.get? S=some {cls:=.type "list",data:=.seq #[] j}->OF (Oc prog w) A (.builtin "list.extend.loop" ⟨[.ref S,.ref J,p],[]⟩) R {s with heap:=h,toks:=tk,drawn:=d}:=by
  intro h j tk H hk n;refine W3 W.toS (XW hz) S nf p ks.length 0 _ #[] j rfl (QN _) H n (ItemsOf.nil _) fun s2 l c mv D m=>?_;rw[Moved.eq_with mv];refine q s2.heap s2.toks d l c k hp (fun b u r e=>mv.heap b u (fun z=>?_) (hk b u r e)) D m;rcases Qs.mp z with y | y
  simp_all
  exact VM (Ql e) (by exact Qq.mp y▸UO.mpr hJ)
 refine Oa (On (Zjh ⟨o,B _ _ T.ob,T.ex.1⟩ (KH (fun _=>Oa (OL (Oa ((Oa (OC F rfl ?_)))))) (fun _=>Ob ⟨Oy Lf _,v _ i _ st (fun b u _ e=>B b u e) F⟩))));have M:=QQ (NF (·.push NI)) F rfl;refine OC M rfl (Ob ⟨Oy Lf _,v _ _ _ (W.frame 0 _ _ st fun b r u e=>?_) (fun b u r e=>?_) (QQ (NF (·.pop)) M rfl)⟩)
 have ne:b≠S:=fun z=>nf (z▸r);exact(QG _ _ (VS ne)).trans ((QG _ _ (VS ne)).trans e)
 exact(QG _ _ (VS r)).trans ((QG _ _ (VS r)).trans (B _ _ e))
def ZdM (K:A.handled=none) (T:StT prog w s.heap a ks o es ep t) (hz:ks.length<=1000)
  (q:∀ H tk d (i) (h),h.toList.Perm es.toList->(∀ b u,s.heap.get? b=some u->H.get? b=some u)->TL (Zka h) i ks.length->R i.toList {s with heap:=H,toks:=tk,drawn:=d}) :
  Oe (Oc prog w) A (Vj (.ref a)) R E s:=by
 unfold Vj;refine Oa (Dm (Ov entry_proto_collect' ((Oa (Ot (Ob ⟨Oy PySem.F.plain_list_iadd _,Ov entry_list_iadd' ?_⟩))))));apply Pl;intros;have J:(s.heap.push _).get? s.heap.objs.size=some {cls:=.type "list",data:=.seq #[]}:=Qk _ rfl;have I:StT prog w (s.heap.push {cls:=.type "list",data:=.seq ([]).toArray}) a ks o es ep t:={T with ob:=Qc _ T.ob}
 have C:=Zfm (s:={s with heap:=s.heap.push _})
  (R:=fun z B=>∃ (g:Nu) (tk:VC) (d:Drawn) (i:VL VG) (c:VC) (h:VL _),z= .ok (.ret (.ref s.heap.objs.size))/\B={s with heap:=g,toks:=tk,drawn:=d}/\h.toList.Perm es.toList /\
   (∀ b u,s.heap.get? b=some u->g.get? b=some u)/\g.get? s.heap.objs.size=some {cls:=.type _,dict:=none,data:=.seq i c,slots:=#[]}/\TL (Zka h) i ks.length)
  K I hz (Uc (Ql T.ob)) J (fun g tk d i c h n r k j=>⟨g,tk,d,i,c,h,rfl,rfl,n,fun b u e=>r b u (QB (Ql e)) (Qc _ e),k,j⟩)
 refine Os C (fun v B x=>?_) fun e B x=>?_
 apply La;intros;cases v with
 | done f =>
  obtain⟨g,tk,d,i,c,h,e,rfl,n,r,k,j⟩:=x;cases e;exact(Oa (G7 k (Ob (q g tk d i h n r j))))
 | again N =>
  refine⟨x.1,OM x.2 fun z L y=>?_⟩;obtain⟨g,tk,d,i,c,h,rfl,rfl,n,r,k,j⟩:=y;exact(Oa (G7 k (Ob (q g tk d i h n r j))))
 obtain⟨_,_,_,_,_,_,z,_⟩:=x;cases z
def Zf7 (T:StT prog w h a ks o es ep t) (v:b.toList.Perm es.toList) (f:TL (Zka b) d ks.length) :
  ∃ xs,xs.Perm ks/\Gx d.toList xs:=by
 have O:b.toList.length=ks.length:=by rw[v.length_eq,Qx,T.len]
 have Q:∀ e∈b.toList,∃ x p,e.2= .str x p/\x∈ks:=fun e m=>by
  have G:=v.mem_iff.mp m;obtain⟨⟨k,g,_⟩,_⟩:=T.el e G;obtain⟨x,rfl,n⟩:=(T.mem k).mpr ⟨e,G,g⟩;rcases keyIs_shape (show ZaB (VJ x) e.2=true from g)with ⟨j,t,c,_⟩ | ⟨z,t,c,u⟩
  cases c
  injection c with c
  exact⟨x,t,bp,n⟩
 have A:∀ (l:VA (VN×VG)),(∀ e∈l,∃ x p,e.2= .str x p/\x∈ks)->∃ xs:VA VI,Gx (l.map (·.2)) xs/\(∀ x∈xs,x∈ks)/\xs.length=l.length/\∀ x,(∃ e∈l,ZaB (VJ x) e.2=true)->x∈xs:=by
  intro l;induction l with
  | nil=>exact fun _=>⟨[],.nil,(fun x n=>by grind),rfl,(fun x ⟨e,m,_⟩=>by cases m)⟩
  | cons e l N =>
   intro s;refine Lr (N fun e m=>s e (Qm _ m)) fun xs F J H B=>?_;obtain⟨x,p,I,n⟩:=s e (Qo ..);refine⟨x::xs,?_,fun y M=>?_,by simp[H],fun y=>Lh fun S E g=>?_⟩
   rw[Q3,I];exact .cons x p F
   rcases Qs.mp M with z | z
   rw[z];omega
   exact J y z
   rcases Qs.mp E with z | z
   subst z;rw[I]at g;rcases keyIs_shape g with ⟨j,t,c,_⟩ | ⟨z,t,c,u⟩
   cases c
   injection c with c
   injection u with u _
   rw[c,←u];simp
   exact Qm _ (B y ⟨S,z,g⟩)
 obtain⟨xs,F,J,H,B⟩:=A b.toList Q;have r:∀ x∈ks,x∈xs:=fun x n=>by
  obtain⟨e,m,g⟩:=(T.mem (VJ x)).mp ⟨x,rfl,n⟩;exact B x ⟨e,v.mem_iff.mpr m,g⟩
 refine⟨xs,?_,?_⟩
 exact Zg1 T.nd r (Sd O H)
 have:d.toList=b.toList.map (·.2):=by
  apply QY;intro i;by_cases L:i<d.toList.length
  obtain⟨e,K,R⟩:=f.2 i d.toList[i] bo;rw[Qa L,Qi,QW,K,R];rfl
  have s:=f.1;rw[←Qx]at s;rw[Qr (Kr L),Qr (by rw[Qd];lia)]
 rw[this];omega
end
section
variable {X:Cx} {pins:VA (VH×MQ)} {σ:St} {H:Hp} {s:VF}
def Inv.drw (I:Inv X pins σ H s) (d):Inv X pins σ H {s with drawn:=d}:=by
 refine I.step (ch:=[]) (fun b f=>by apply La;intros;cases f) (fun b u _ _ _ e _=>e) (fun b u _ _ _ e _=>⟨_,e⟩) (fun b u _ e n=>n) (fun b u _ e=>⟨u,e⟩) (fun b c e=>e) (fun b u c e=>e) (fun b g e=>⟨#[],bp⟩) (fun m a=>a) I.hok I.bare
end
noncomputable def stO (X:Cx) (p:VH) (ks:VA VI):HO:=.ext fun h=>SetT X.prog X.w h p ks
def Zh2 (n:X.calm=true):CallR X (.type "set") (fun xs H Q=>∃ (a:VH) (ss:VA VI),xs=[.ref a]/\SqL X.K H a (ss.map V.str)/\ss.length<=1000 /\
  ∀ (p) (ks),H p=none->ks.Nodup->(∀ x,x∈ks↔x∈ss)->ks.length<=ss.length->Q (.ref p) (upd H p (stO X p ks))):=by
 intro g s σ H xs B Q I r h;obtain⟨a,ss,rfl,v,w,q⟩:=h;obtain⟨u,rfl,rfl⟩:=XL r;obtain⟨b,f,m,G⟩:=I.list v;have i:=f.length;rw[Qd]at i;refine Zh1 (I.ok.hd n) m.isList (by simpa using Jf f) (by show b.length+1<4096;lia) fun F J c l=>?_;have A:b.toArray.size=ss.length:=by rw[Qy,i]
 rw[A]at c;obtain⟨o,E,C,t,T⟩:=id c;refine⟨.ref s.heap.objs.size,_,I.laid (o:=stO X s.heap.objs.size _) l (Qh _) ⟨c,⟨o,T.ob⟩,fun K D z k=>z.keep k⟩,rfl,q _ _ (I.hok.fresh (Qh _)) T.nd (fun x=>?_) (Zdx _ _)⟩;rw[Zhb];constructor;rintro⟨j,d,e⟩;rw[←e,Qb,Qa d];simp;intro y;obtain⟨j,d,e⟩:=WC y;exact⟨j,d,by grind⟩
def ZaE (hc:X.calm=true):CallR X (.builtin "sorted") (fun xs H Q=>∃ (p:VH) (ks:VA VI),xs=[.ref p]/\H p=some (stO X p ks)/\ks.length<=1000 /\
  ∀ (q) (ss:VA VI),H q=none->ss.Perm ks->(ss.map fun x=>x.cps.toList).Pairwise (· < ·)->Q (.ref q) (upd H q (.lst (ss.map V.str)))):=by
 intro pins s σ H xs us Q I r h;obtain⟨p,ks,rfl,hp,P,q⟩:=h;obtain⟨u,rfl,rfl⟩:=XL r;obtain⟨⟨o,es,ep,t,T⟩,_⟩:=(show SetT X.prog X.w s.heap p ks/\_ from I.hok p _ hp)
 refine RN Fs SN SO (SQ _) (Oa (m:=checkCount "sorted" 1 1 _) (Ob (Oa (ZdM (A:=X.A.in1) (I.ok.hd hc) T P fun g tk d W ord Y kk G=>?_))));obtain⟨f,w,O⟩:=Zf7 T Y G;have Z:=Tim.strs_len O;have n:=w.length_eq;generalize W.toList=m at O Z;have M:Tim.SortAs X.prog X.w g m (Tim.ltS f) CZ:=Tim.sa_strs O;refine Oa (GM ?_ (XW (Bu P n Z)));have hB:(g.push {cls:=.type "list",data:=.seq m.toArray}).get? g.objs.size=some (Go "list" m.toArray 0):=Qk _ rfl;have K:∀ {N:Nu},(∀ b o,b≠g.objs.size->(g.push {cls:=.type "list",data:=.seq m.toArray}).get? b=some o->N.get? b=some o)->∀ b o,g.get? b=some o->N.get? b=some o:=fun k b o e=>k b o (QB (Ql e)) (Qc _ e);refine Oa (On (Om Di ⟨_,hB,rfl⟩ KD ?_ (Dl _)));refine Tim.list_sortW (s:={s with heap:=g.push {cls:=.type "list",data:=.seq m.toArray},toks:=tk,drawn:=d}) hB (XW (Bu P n Z)) M.wo M.same (fun N Q k h2 q=>M.kd _ _ _ _ (K k) h2 q) (fun N tk' i j x y C k e1 e2 q=>M.ask _ _ i j x y C (K k) e1 e2 fun U=>q U)
  fun h3 R c v hpm3 hs3 z hD=>⟨_,rfl,Ob ⟨_,rfl,?_⟩⟩
 have a:Srt.Pm f.length v:=by rw[←Z];omega
 have hN:s.heap.get? g.objs.size=none:=by
  cases e:s.heap.get? g.objs.size with
  | none=>rfl
  | some u=>exact VM (Ql (kk _ _ e)) (Q2 _)
 have L:∀ i∈v.toList,i<f.length:=fun i B=>by
  have:i∈v:=by simpa using B
  have:=a.perm.mem_iff.mp this;simpa using this
 have vv:∀ l:VA VC,(∀ i∈l,i<f.length)->Vals ((l.map fun i=>f.getD i "").map V.str) (l.map fun i=>m.getD i NI):=by
  intro l;induction l with
  | nil=>intro _;exact .nil
  | cons i l ih =>
   intro hh;have B:i<m.length:=by have:=hh i (Qo ..);exact Kj this Z
   obtain⟨t,e,_⟩:=Tim.strs_at O i _ (Qa B);refine .cons ?_ (ih fun j S=>hh j (Qm _ S));show RelV (V.str (f.getD i "")) (m.getD i NI);rw[Qb (l:=m),Qa B];exact⟨t,e⟩
 obtain⟨hn,I2⟩:=ZgM (tk:=R) (vs:=(v.toList.map fun i=>f.getD i "").map V.str) (I.drw d) (fun b u e=>K z b u (kk b u e)) hN (by rw[Qd,Qd,Qx,a.size];exact XW (Kk P n)) ⟨_,c,vv v.toList L,hD⟩;refine⟨.ref g.objs.size,_,I2,rfl,q _ _ hn ((ZaN f v a).trans w) ?_⟩;have nd:f.Nodup:=w.nodup_iff.mpr T.nd;rw[Ww,Wt,Wh];intro i j B S J;have F:v.toList.length=f.length:=by rw[Qx,a.size]
 have hu:=(ZmF (n:=f.length) rfl nd a (by rw[←Z];omega)) i j J (K8 F S);unfold ltX at hu;rw[NO,ZiF a B,ZiF a S]at hu
 grind
def Inv.laid2 {σ:St} {a x y:VH} (I:Inv X pins σ H s) (k:∀ b u,b≠x->b≠y->s.heap.get? b=some u->h'.get? b=some u) (N:XB X pins H x) (E:XB X pins H y)
  (C:∃ u,h'.get? x=some u) (O:∃ u,h'.get? y=some u) (j:s.heap.objs.size<=a) (K:ObjOk X.prog X.w (upd H a o) h' a o):Inv X pins σ (upd H a o) {s with heap:=h',toks:=t'}:=by
 obtain⟨T,t,V,P,M,F⟩:=N;obtain⟨R,l,U,Q,B,J⟩:=E;have i:H a=none:=I.hok.fresh j;have f:∀ b u,H b=some u->b≠x/\b≠y:=fun b u e=>⟨(fun z=>bp),(fun z=>bp)⟩
 have h:∀ b:VH,b∉[x,y]->b≠x/\b≠y:=fun b g=>⟨fun z=>g (by simp[z]),fun z=>g (by simp[z])⟩
 refine I.step (g':=s.gens) (d':=s.drawn) (ch:=[x,y]) (fun b g=>?_) (fun b u _ _ d e _=>k b u (h b d).1 (h b d).2 e) (fun b u _ _ d e _=>⟨u.slots,k b u (h b d).1 (h b d).2 e⟩) (fun b u _ e n=>?_)
  (fun b u d e=>⟨u,k b u (h b d).1 (h b d).2 e⟩) (fun b p e=>?_) (fun b u p e=>?_) (fun b S e=>⟨#[],?_⟩) (fun m G=>?_) (fun b u e=>?_) I.bare
 rcases Qs.mp g with z | z
 subst z;exact⟨P,t,M,F⟩
 have z:=Qq.mp z;subst z;exact⟨Q,l,B,J⟩
 rw[Zi (QB (QP (Ql e) j))];omega
 rw[Zi (Zh e i)];omega
 rw[Zi (Zh e i)];omega
 rw[Zi (Zh e i),e];simp
 obtain⟨o,D,L,A,r⟩:=G;exact⟨o,D,L,k _ o (VS t) (VS l) A,r⟩
 by_cases g:b=a
 subst g;rw[Zd]at e;cases e;omega
 rw[Zi g]at e;refine(I.hok b u e).stay (fun c v d q=>k c v ?_ ?_ q) (fun c q=>by exact Zi (Zh q i)▸q) fun c p q=>by exact Zi (Zh q i)▸q
 rcases d with z | z
 exact z▸(f b u e).1
 exact(f c _ z).1
 rcases d with z | z
 exact z▸(f b u e).2
 exact(f c _ z).2
def Ite (K:VB) (a:VH):It :=
 ⟨fun i H=>∃ xs x,SqL K H a xs/\xs[i]?=some x,fun i H x H'=>∃ t y,H t=none/\x= .ref t/\H'=upd H t (.tup [.int i,y])/\∀ xs,SqL K H a xs->xs[i]?=some y,fun i H=>∃ xs,SqL K H a xs/\xs.length<=i⟩
def ZfG {K} (a e f) (m:e≠f):Zic P w K (.Tuple n k pos) (Ite K a) [e,f] e (fun i h=>(∃ c,IsEnum h e f i c)/\h.IsListIter f a i) where
 mem:=bo
 obj:=fun i h st b g=>by
  obtain⟨⟨c,d⟩,o,F,_⟩:=st;rcases Qs.mp g with z | z
  subst z;exact⟨_,d,fun v z=>by
   simp_all⟩
  have z:=Qq.mp z;subst z;exact⟨o,F,fun v z=>bp⟩
 keep:=fun i h h' ⟨⟨c,d⟩,st⟩ A=>⟨⟨c,A e bo _ d⟩,st.at fun o F=>A f bo o F⟩
 item:=by
  intro X L C W l i t s σ H E I r ⟨⟨c,d⟩,st⟩ N;subst L C W;apply La;intros;obtain⟨Y,x,B,hx⟩:=N;obtain⟨U,T,p,_⟩:=I.list B;obtain⟨u,hu,ru⟩:=T.get hx;refine wpAny_pyNext_enum_item d st p.isList (x:=u) (by simpa using hu) m fun h1 O D J hz1 A=>⟨_,rfl,wpAny_letOwnedTupleGo_enum O fun Q V G=>?_⟩;have R:∀ b o,b≠e->b≠f->s.heap.get? b=some o->Q.get? b=some o:=fun b o Z q2 q=>(G.2 b Z).trans (A b o Z q2 q);have y:s.heap.objs.size≠e:=Uc (Ql d);have M:Q.get? s.heap.objs.size=some {cls:=.type "tuple",data:=.seq #[.int i s.toks,u]}:=(G.2 _ y).trans J;have j:Q.IsListIter f a (i+1):=D.extBut G.extBut (VS m);refine⟨.ref s.heap.objs.size,_,Inv.laid2 (s:=s) (a:=s.heap.objs.size) (t':=s.toks+1) (o:=.tup [.int i,x]) I R (r e bo) (r f bo) ⟨_,V⟩ (let ⟨o,q,_⟩:=j;⟨o,q⟩) (Qh _) ?_,rfl,⟨_,x,I.hok.fresh (Qh _),rfl,rfl,fun ys hy=>by rw[I.list_inj hy B];omega⟩,⟨⟨u,?_⟩,j⟩,fun b g=>?_⟩
  refine⟨(show 2<=Od by rw[Oz];decide),[.int i s.toks,u],.cons ⟨_,rfl⟩ (.cons ru .nil),⟨_,M,rfl,_,rfl⟩,fun o q=>bp⟩
  grind
  rw[Zi]
  exact(r b g).1
  rcases Qs.mp g with z | z
  exact z▸VS y
  rw[Qq.mp z];obtain⟨o,q,_⟩:=st;exact QB (Ql q)
 done:=by
  intro X L C W l i t s σ H E I r ⟨⟨c,d⟩,st⟩ N;subst L C W;obtain⟨Y,B,_⟩:=N;obtain⟨U,T,p,_⟩:=I.list B;exact Lq (r f bo) fun S g1 g2 g3 g4 g5=>wpAny_pyNext_enum_end (I.ok.hd l) d st p.isList (by simp;exact Kd ‹_› T.length) fun h' eb=>⟨rfl,I.turned (t':=s.toks) (fun b o g e=>eb b o g e) S g1 g3 g4 g5⟩
 self:=fun _ _ _ _ _ ⟨⟨c,d⟩,_⟩ h=>SY d h
def ZnJ:Op "enumerate" = some (.type "enumerate"):=by rfl
def ZoJ (K:VB) (ta:TA):TI:=fun σ H R=>ta σ H fun vs H1=>∃ a,vs=[.ref a]/\(∃ xs,SqL K H1 a xs)/\R (Ite K a) H1
def Zlg (M:Gl X "enumerate") (D:X.mg "enumerate" = none) (y:PA X [l] L) (N:Oi [l] X.env=[(false,NQ l X.env)]:=by rfl):PI X (.Tuple t P n) (.Call (.Name "enumerate" p) [l] [] pos) (ZoJ X.K L):=by
 intro c s σ H R I h;refine Call_ (YQ I M D ZnJ (VY (thn (y pos c s σ H _ I h) fun O C ⟨Q,E,f,x,K⟩=>?_) N rfl));obtain⟨a,e,⟨S,A⟩,q⟩:=K;subst e;cases x with
 | cons r w =>
  cases w;cases r;obtain⟨F,U,G,T⟩:=f.list A;refine call_enumerate_list G.isList fun V k g J v=>SY k ⟨_,_,_,_,E,rfl,f.kept fun b o e=>v b o e,ZfG a _ _ (Nat.succ_ne_self _),⟨⟨_,k⟩,g⟩,fun b B=>?_,q⟩;have d:C.heap.objs.size<=b:=by
   rcases Qs.mp B with z | z
   simp_all
   simp_all
  exact f.fpOk d (f.hok.fresh d)
def Zjo {K} {g:TG} {k:TS} {D:Zfy} (b:VC->St->Hp->Prop) (s:b 0 σ H) (r:∀ i σ H,i<=xs.length->b i σ H->SqL K H a xs)
  (A:∀ i x σ H t,xs[i]?=some x->H t=none->b i σ H->g (.ref t) σ (upd H t (.tup [.int i,x])) fun c h=>k {D with nx:=b (i+1),ct:=b (i+1),bk:=D.nx} c h) (o:∀ σ H,b xs.length σ H->D.nx σ H) :
  ∃ W:VC->VC->St->Hp->Prop,(∃ m,W 0 m σ H)/\∀ i m σ H,W i m σ H ->
   ((Ite K a).stop i H/\D.nx σ H)\/((Ite K a).go i H/\∃ N,(∀ f d,N f d->∃ l,l<m/\W (i+1) l f d)/\∀ x d,(Ite K a).yld i H x d->g x σ d fun c h=>k {D with nx:=N,ct:=N,bk:=D.nx} c h):=by
 refine⟨fun i m σ H=>m=xs.length-i/\i<=xs.length/\b i σ H,⟨xs.length,bo,QN _,s⟩,?_⟩;rintro i m σ H ⟨rfl,u,p⟩;have q:=r i σ H u p;by_cases j:i<xs.length
 refine .inr ⟨⟨xs,xs[i],q,bo⟩,_,fun f d w=>⟨_,Xo j,rfl,j,w⟩,fun x d y=>Ll y fun t y B C z _=>?_⟩;subst C;subst z
 grind
 have e:i=xs.length:=Vk u j
 subst e;exact .inl ⟨⟨xs,q,Qh _⟩,o σ H p⟩
section
variable {prog:Oh} {w:Ol} {A:NC} {E:VG->VF->Prop} {s:VF}
def Zlw (d:s.heap.IsTupleIter J t i) (k:s.heap.IsTuple t e) (l:e[i]?=some x)
  (q:∀ c,c.IsTupleIter J t (i+1)->NV J s.heap c->Q x {s with heap:=c}):Oe (Oc prog w) A (Ls (.ref J)) Q E s:=by
 obtain⟨n,b,h,a⟩:=id d;obtain⟨o,j,_,m,f⟩:=k;refine Oa (VW d.typeIs F.slot_tuple_iterator_next (Om F.slot_tuple_iterator_next d.typeIs F.entry_tuple_iterator_next ?_ (F.args_tuple_iterator_next_1 _)));show Oe _ _ (field _ 0 >>= _) _ _ s;apply Pk;intros;refine Oa (Oo b a rfl (Oa (Oo b a rfl (Oa (Ow j f ?_)))));simp[QX,l];refine Oa (Gm b a bo (Ob ⟨x,rfl,Ob (q _ ⟨_,QQ _ b (R7 (MK a _)),(Fb ..).trans h,?_⟩ (MP ..))⟩));rw[MK a];rfl
def ZmY (l:A.handled=none) (d:s.heap.IsTupleIter J t i) (p:s.heap.IsTuple t c) (n:c[i]?=none)
  (q:∀ f e,C3 J s.heap f->(∃ o,f.get? e=some o/\o.cls= .type "StopIteration")->E (.ref e) {s with heap:=f}):Oe (Oc prog w) A (Ls (.ref J)) Q E s:=by
 obtain⟨v,h,x,g⟩:=id d;obtain⟨y,r,_,u,m⟩:=p;refine Oa (VW d.typeIs F.slot_tuple_iterator_next (Om F.slot_tuple_iterator_next d.typeIs F.entry_tuple_iterator_next ?_ (F.args_tuple_iterator_next_1 _)));show Oe _ _ (field _ 0 >>= _) _ _ s;apply Pk;intros;refine Oa (Oo h g rfl (Oa (Oo h g rfl (Oa (Ow r m ?_)))));simp[QX,n];refine Oa (OL (Oa (Gm h g bo (Oa (Oa (Ot (Oa (Ou (by rfl) (Ot (Oa (DG ?_)) (by size_fits)))) (by exact Kw)))))));first | rw[l] | lia
 exact Oa (Ob (Ft (q _ _ (((MP ..).extBut.push _).push _) ⟨_,Qk _ rfl,rfl⟩)))
def ZnZ {z TI TO d m f p} {l n2:VC} {xs ys:VL VG} {u v:VG} (K:A.handled=none) (D:Gg z TI TO d m f p) (b:Gr s.heap z TI TO .none) (F:OI s.heap TI (.ref d) (.ref m))
  (I:s.heap.IsTupleIter d f l) (G:s.heap.IsTuple f xs) (r:xs[l]?=none)
  (q:∀ g e,(∀ c o,c≠z->c≠d->s.heap.get? c=some o->g.get? c=some o)->(∃ o,g.get? e=some o/\o.cls= .type "StopIteration")->E (.ref e) {s with heap:=g}) :
  Oe (Oc prog w) A (NP.«zip.__next__» ⟨[.ref z],[]⟩) Q E s:=by
 show Oe _ _ (field _ 2 >>= _) _ _ _;refine Oa (Oo b rfl rfl (Oa (Oo b rfl (x:=.ref TI) rfl (Oa (Ow F rfl ((Oa (Oa (Oo b rfl rfl (Ob (Oa (OL (Oa (Oo b rfl rfl (Oa (Oq b bo fun N t h=>Oa (Oa (Oa (DI (Oa (ZmY K (I.extBut h.extBut D.i1z) (G.extBut h.extBut D.l1z) r fun M e k ⟨y,J,C⟩=>?_)))))))))))))))))))));have H:=k _ _ D.i1z.symm t;exact Oq H bo fun L _ i=>q L e (fun c o n B x=>i.extBut _ _ n (k _ _ B (h.extBut _ _ n x))) ⟨y,i.extBut _ _ (fun x=>bp) J,C⟩
def ZmE {z TI TO b h f i} (v:A.handled=none) (D:Gg z TI TO b h f i) (d:Gr s.heap z TI TO .none) (p:OI s.heap TI (.ref b) (.ref h))
  (r:s.heap.IsTupleIter b f t) (u:s.heap.IsTuple f xs) (j:xs[t]?=none) (q:∀ g,(∀ c o,c≠z->c≠b->s.heap.get? c=some o->g.get? c=some o)->Q none {s with heap:=g}):Oe (Oc prog w) A (Gb (.ref z)) Q E s:=by
 refine Oa (Ox (VW ⟨_,d,rfl⟩ F.slot_zip_next (Om F.slot_zip_next ⟨_,d,rfl⟩ F.entry_zip_next (ZnZ (u:=.none) (v:=.none) (n2:=0) (ys:=#[]) v D d p r u j fun g e k=>Lh fun m n l=>?_) (F.args_zip_next_1 _))));exact Oa (OH ⟨m,n,l⟩ O7 (Ob (q _ k)))
end
def Inv.laidM {σ:St} {a:VH} {ch:VA VH} (I:Inv X pins σ H s) (k:∀ b u,b∉ch->s.heap.get? b=some u->h'.get? b=some u) (h:∀ b∈ch,XB X pins H b)
  (i:s.heap.objs.size<=a) (x:ObjOk X.prog X.w (upd H a o) h' a o):Inv X pins σ (upd H a o) {s with heap:=h',toks:=t'}:=by
 have f:=I.hok.fresh i;have C:∀ b u,H b=some u->b∉ch:=fun b u e z=>by
  rw[(h b z).1]at e
  grind
 refine I.step (fun b g=>?_) (fun b u _ _ d e _=>k b u d e) (fun b u _ _ d e _=>⟨_,k b u d e⟩) (fun b u _ e n=>?_) (fun b u d e=>⟨u,k b u d e⟩) (fun b l e=>?_) (fun b u l e=>?_) (fun b G e=>⟨#[],?_⟩) (fun m w=>?_) (fun b u e=>?_) I.bare;exact Lq (h b g) fun F t J y D E=>⟨y,t,D,E⟩;rw[Zi (QB (QP (Ql e) i))];omega;rw[Zi (Zh e f)];omega;rw[Zi (Zh e f)];omega;rw[Zi (Zh e f),e];simp;obtain⟨o,p,A,B,r⟩:=w;exact⟨o,p,A,k _ o (fun z=>(h _ z).2.1 rfl) B,r⟩;by_cases g:b=a
 subst g;rw[Zd]at e
 simp_all
 rw[Zi g]at e;refine(I.hok b u e).stay (fun c v d q=>k c v ?_ q) fun c q=>by rw[Zi (Zh q f)];omega fun c l q=>by rw[Zi (Zh q f)];omega
 grind
def Inv.turnedM {σ:St} {ch:VA VH} (I:Inv X pins σ H s) (k:∀ b u,b∉ch->s.heap.get? b=some u->h'.get? b=some u) (d:∀ b∈ch,XB X pins H b):Inv X pins σ H {s with heap:=h',toks:=t'}:=by
 have y:∀ b u,H b=some u->b∉ch:=fun b u e z=>by
  rw[(d b z).1]at e
  grind
 refine I.step (fun b A=>?_) (fun b u _ _ a e _=>k b u a e) (fun b u _ _ a e _=>⟨_,k b u a e⟩) (fun b u _ e n=>n) (fun b u a e=>⟨u,k b u a e⟩) (fun b f e=>e) (fun b u f e=>e) (fun b B e=>⟨#[],bp⟩) (fun m h=>?_) (fun b u e=>?_) I.bare;exact Lq (d b A) fun C i D t p x=>⟨t,i,p,x⟩;obtain⟨o,l,w,j,r⟩:=h;exact⟨o,l,w,k _ o (fun z=>(d _ z).2.1 rfl) j,r⟩;refine(I.hok b u e).stay (fun c v a q=>k c v ?_ q) (fun c q=>q) fun c f q=>q
 grind
def apart {n:VC} {a b:VH} (d:a∉[n+4,n+3,n,n+1]) (c:b∉[n+4,n+3,n,n+1]):Gg (n+4) (n+2) (n+3) n (n+1) a b:=by
 simp[Qs,Q7,or_false,T5]at d c;refine⟨?_,?_,?_,?_,?_,?_,?_,?_,?_,?_,d.1,d.2.1,d.2.2.1,d.2.2.2,c.1,c.2.1,c.2.2.1,c.2.2.2⟩ <;> (simp)
def ZnG:Op "zip" = some (.type "zip"):=by rfl
def Zkg:(toString "min" ++ toString ".loop") = "min.loop":=be
def Zeo (l:X.A.units+64<O6):OpR X (OJ .NotEq) (fun x y H Q=>∃ b a,RepD H b x/\RepD H a y/\MN b=true/\MN a=true/\Q (.bl (!FQ b a)) H):=by
 intro d s σ H x y v u Q I o e h;obtain⟨b,a,m,g,f,j,q⟩:=h;obtain⟨r,k⟩:=RepD.reads I b x v m o;obtain⟨p,n⟩:=RepD.reads I a y u g e;exact ne_dataH k n f j l ⟨.bl _,H,I,rfl,q⟩
def Z0 (I:L2.St->Hp->Prop) (h:∀ R,(∀ a b,I a b->R a b)->t {D with nx:=R} σ H) (c:∀ a b,I a b->u D a b):Zd1 t u D σ H:=h _ c
def Yg:MtR X "list.pop" Zo6:=Zna
section
variable {X:Cx} {pins:VA (VH×MQ)} {σ:St} {H:Hp} {s:VF} {a:VH} {kvs:VA (Key×V)} {k:Key} {u:VG} {A:NC} {E:VG->VF->Prop}
def ZnC (I:Inv X pins σ H s) (e:H a=some (.dK kvs)) (w:RelV (kV k) u) (t:RelV z r) (K:kvs.length<Od) (D:∀ v m f,XU kvs k=some v->RelV v m->Inv X pins σ H f->Q m f)
  (o:XU kvs k=none->∀ f,Inv X pins σ (upd H a (.dK (Jl kvs k z))) f->Q r f):Oe (Oc X.prog X.w) A (call (.builtin "dict.setdefault") [.ref a,u,r]) Q E s:=by
 obtain⟨L,j,F,b,n⟩:=Zfp I.hok e;refine GW Tn n.typeIs PySem.F.entry_dict_setdefault (PySem.F.args_dict_setdefault_3 _ _ _) (kt_meets_setdefault _ a (Zcx w) j r) ⟨F,n,by rw[←b.length];exact Vm K,fun v p=>?_,fun y J c B=>?_⟩;have q:=b.val k;rw[p]at q;cases l:XU kvs k with
 | none=>rw[l]at q;exact q.elim
 | some i=>rw[l]at q;exact D i v _ l q (I.tok _)
 have q:=b.val k;rw[y]at q;have h:(Jl kvs k z).length<=Od:=by have:=Xa kvs k z;exact Vn K this
 cases l:XU kvs k with
 | none=>exact o l _ (ZbO I (by exact e▸NN) B (let ⟨q,_,_,C,_⟩:=c;⟨q,C⟩) (ZhS h j (b.put k t) c))
 | some i=>rw[l]at q;exact q.elim
end
def Zof (td ty tx:TE):TE:=fun σ H Q=>td σ H fun x H1=>∃ a,x= .ref a/\IsD H1 a/\ty σ H1 fun y H2=>tx σ H2 fun z H3=>∃ kvs k,H3 a=some (.dK kvs)/\y=kV k/\kvs.length<Od /\
 (∀ v,XU kvs k=some v->Q v H3)/\(XU kvs k=none->Q z (upd H3 a (.dK (Jl kvs k z))))
def Zdg {r q tx} (S:PE X o r) (Y:PE X e q) (w:PE X f tx) (m:M2 X o "setdefault" g e f i):PE X (.Call (.Attribute o "setdefault" g) [e,f] [] i) (Zof r q tx):=by
 intro b s σ H Q I h;refine SH m.base m.few m.line RX Tn PySem.F.type_dict_setdefault (thn (S b s σ H _ I h) fun u L ⟨x,C,t,E,a,P,d,N⟩=>?_);subst P;obtain rfl:u=Value.ref a:=E;obtain⟨D,V,_⟩:=Zhy t d;refine⟨D,V,?_⟩;rw[m.trees];refine MG rfl (MT (NL (thn (Y b L σ C _ t N) fun iv W=>Le fun y A O M F=>
  NL (thn (w b W σ A _ O F) fun fv s3 ⟨z,c,U,p,G,k,J,K,R,Z,T⟩=>NZ ?_))))
 subst K;exact ZnC U J M p R (fun v w' B l n j=>⟨v,c,j,n,Z v l⟩) fun l B j=>⟨z,_,j,p,T l⟩
def ZbD (n) (xs:VC->V) (t) (R:VC->V->Hp->Prop) (hn:n<=Od)
  (L:∀ i v H r,TSame H r->R i v H->R i v r)
  (Y:∀ H,Same C H->(∀ i,i<n->J.go i H/\∀ x r,J.yld i H x r->r=H/\x=xs i)/\J.stop n H)
  (step:∀ i H (P) (T:Hp->Prop),i<n->Same C H->(t i=true->∀ v p,Same H p->R i v p->P v p)->(t i=false->∀ p,Same H p->T p)->g (xs i) (lcS k X σ) H fun B W=>Z B W fun b O=>if b=true then te B O P else T O)
  (A:∀ D vs r,vs.length=((Qz n).filter t).length->(∀ (j i:VC) (v),((Qz n).filter t)[j]?=some i->vs[j]?=some v->R i v r)->Same C r->C D=none->r D=some (.lst vs)->Q (.ref D) r):Jy k X σ g Z te J C Q:=by
 intro D K;refine⟨fun i m c H=>m=n-i/\i<=n/\c.length=((Qz i).filter t).length/\Same C H/\H D=some (.lst c)/\∀ (j q:VC) (v:V),((Qz i).filter t)[j]?=some q->c[j]?=some v->R q v H,
  ⟨n,bo,QN _,rfl,Zb K,Zd,fun j q v e _=>bp⟩,?_⟩
 rintro i m c H ⟨rfl,hi,F,E,w,I⟩;obtain⟨M,j2⟩:=Y H E;by_cases f:i<n
 refine .inr ⟨(M i f).1,fun x S y=>La ?_⟩;intros;obtain⟨d,l⟩:=(M i f).2 x S y;subst d l;refine step i S _ _ f E (fun G v p z U=>⟨z _ _ w,?_,n-(i+1),Xo f,rfl,f,?_,fun b o e=>?_,Zd,fun j q u d l=>?_⟩) (fun G p z=>⟨n-(i+1),Xo f,rfl,f,?_,E.trans z,z _ _ w,fun j q u d l=>?_⟩)
 have:=UL t (Qz i);rw[QU]at this;lia
 rw[WE,WH,Qg,Qg,F];simp[G]
 exact Zi (Zh e K)▸z _ _ (E b o e)
 have N:TSame p (upd p D (.lst (c++[v]))):=YB (z _ _ w);rw[WE,WH]at d;rcases WS j c.length with h | h | h
 rw[QF h]at l;rw[QF (K8 F h)]at d;exact L _ _ _ _ (z.tup.trans N) (I j q u d l)
 subst h;rw[QC (Qh _),Wv]at l;rw[QC (Nt F),F,Wv]at d;simp[G]at d l;subst d l;exact L _ _ _ _ N U
 rw[Qr (by rw[Qg,Qp];exact h)]at l
 grind
 rw[WE,WH,Qg,F];simp[G]
 rw[WE,WH]at d;have hj:j<c.length:=(Qj.mp l).1;rw[QF (K8 F hj)]at d;exact L _ _ _ _ z.tup (I j q u d l)
 have e:i=n:=Vk hi f
 subst e;exact .inl ⟨j2,A D c H F I E K w⟩
end L2
namespace PySem
namespace F
def Zab:Manifest.owners.lookup (String.ofList ['d','e','s','r','e','v','e','r'].reverse)=some Manifest.sig_reversed:=by rfl
def slot_rev_next:CH "reversed" "__next__" "reversed.__next__" :=
 .of (owner:="reversed") (n:="__next__") (by rfl) (by rfl) (by rfl) (by rfl)
  (by first | exact .inl (by rfl) | lia) (by rfl)
def entry_rev_next:GX table "reversed.__next__" = some NP.«reversed.__next__»:=Fn (by rfl)
def args_rev_next_1 (a):GY "reversed.__next__" ⟨[a],[]⟩:=by
 unfold GY;rw[DJ (by rfl) Zab];rfl
def slot_rev_iter:CH "reversed" "__iter__" "reversed.__iter__" :=
 .of (by rfl) (by rfl) (by rfl) (by rfl)
  (by first | exact .inl (by rfl) | lia) (by rfl)
def args_rev_iter_1 (a):GY "reversed.__iter__" ⟨[a],[]⟩:=by
 unfold GY;rw[DJ (by rfl) Zab];rfl
def entry_rev_iter:GX table "reversed.__iter__" = some NP.«dict_keyiterator.__iter__» :=
 Dn (id':="dict_keyiterator.__iter__") (by rfl) (by rfl) bh (by rfl)
def rev_no_len:Gk (.type "reversed") "__len__" = pure none:=by rw[KI,R8];rfl
def slot_rev_hint:CH "reversed" "__length_hint__" "reversed.__length_hint__" :=
 .of (by rfl) (by rfl) (by rfl) (by rfl)
  (by first | lia | exact .inr (by rfl)) (by rfl)
def entry_rev_hint:GX table "reversed.__length_hint__" = some NP.«reversed.__length_hint__»:=Fn (by rfl)
def args_rev_hint_1 (a):GY "reversed.__length_hint__" ⟨[a],[]⟩:=by
 unfold GY;rw[DJ (by rfl) Zab];rfl
def str_no_reversed:Gk (.type "str") "__reversed__" = pure none:=by rw[KI,R8];rfl
def sub_rev_rev:isSubtype (.type "reversed") (.type "reversed")=pure true:=by rw[FV];rfl
def Zbf:CH "reversed" "__init__" "object.__init__" :=
 .of (by rfl) (by rfl) (by rfl) (by rfl)
  (by first | exact .inl (by rfl) | lia) (by rfl)
def called_rev:TypeCalled "reversed" "reversed.__new__" "object.__init__" :=
 ⟨bo,by rfl,⟨_,_,mro_reversed⟩,madeBy_type mro_reversed lookup_reversed_new bh,bh,by rfl,Zbf⟩
end F
end PySem
namespace PySem
noncomputable def Zom (x:VI) (t:Tok) (i:VN):MQ:={cls:=.type "reversed",data:=.fields #[.str x t,OD i]}
def Zby (x) (t) (f:x.length<=Od) :
  Meets (NP.«reversed.__new__» ⟨[.type "reversed",.str x t],[]⟩) (fun _ R s =>
   R (.ok (.ret (.ref s.heap.objs.size))) {s with toks:=s.toks+1+1,heap:=s.heap.push (Zom x t (x.length-1))}) :=
 .of_wp fun d w A R s h=>by
  refine Oa (Ou (newClass_reversed _) (Oa (Ou (a:=()) (by rfl) (Oa (Ou (a:=()) (by rfl) (Oa (OG (O0 _ x t) F.str_no_reversed (Oa (Oa (OH (T:="str") (v:=.str x t) (b:=false) rfl F.sub_str_dict (Oa (OG (O0 _ x t) F.slot_str_getitem.lookup (Ob ?_)))))))))))));have i:Od=16777216:=Oz;refine Oa (P.len_str br (Oa (Ou (a:=some (x.length:VN)) rfl ?_)));unfold FC;exact Oa (Ot (Ob ⟨_,rfl,h⟩))
section
variable {prog:Oh} {w:Ol} {A:NC} {E:VG->VF->Prop} {s:VF}
def Ju (e:x.length<=Od)
  (h:Q (.ref s.heap.objs.size) {s with toks:=s.toks+1+1,heap:=s.heap.push (Zom x t (x.length-1))}):Oe (Oc prog w) A (call (.type "reversed") [.str x t]) Q E s :=
 callType_new F.called_rev be (F.typeCall_reversed_1 _) (F.newCall_reversed_1 _) (fun a=>F.args_object_init_2 a _) F.entry_reversed_new (Zby x t e) ⟨⟨_,Qk _ rfl,rfl⟩,h⟩
def Heap.IsRevS (h:Nu) (a:VH) (x:VI) (t:Tok) (i:VN):Prop:=∃ o,h.get? a=some o/\o.cls= .type "reversed"/\o.data= .fields #[.str x t,OD i]
def Heap.IsRevS.typeIs (y:s.heap.IsRevS a x t i):s.TypeIs (.ref a) "reversed":=let ⟨o,b,d,_⟩:=y;⟨o,b,d⟩
def Heap.IsRevS.at {h h':Nu} (y:h.IsRevS a x t i) (e:∀ o,h.get? a=some o->h'.get? a=some o):h'.IsRevS a x t i:=let ⟨o,b,r⟩:=y;⟨o,e _ b,r⟩
def Jc {i c:VC} (a:s.heap.IsRevS e x t i) (k:x.cps[i]?=some c) (l:x.length<=Od)
  (h:∀ h' u,h'.IsRevS e x t (i-1)->NV e s.heap h'->Q (some (.str ⟨#[c]⟩ u)) {s with heap:=h',toks:=s.toks+1+1}):Oe (Oc prog w) A (Gb (.ref e)) Q E s:=by
 obtain⟨o,d,f,b⟩:=id a;have q:Od=16777216:=Oz;have n:i<x.length:=by
  have:=(UW.mp k).1
  trivial
 refine Oa (Ox (VW a.typeIs F.slot_rev_next
  (Om F.slot_rev_next a.typeIs F.entry_rev_next ?_ (F.args_rev_next_1 _))))
 refine Oa (Ou (a:=(Value.ref e,[])) rfl (Oa (Oo d b (x:=.str x t) rfl (Oa (Oo d b (x:=OD (i:VN)) rfl ?_)))));show Oe _ _ (if (i:VN)<0 then _ else _) _ _ s;refine Oa (OG (O0 _ x t) F.slot_str_getitem.lookup (Oa (wpAny_mkInt ?_)));have m:decide ((i:VN)≥2 ^ 63)=false:=VO br;have p:Cy (i:VN) x.length=some i:=(L2.ixN_seq (by unfold L2.ixN;rw[VD Tw,VD (Sa n)];rfl)).1;refine Oa (Ox (P.getItem_str (c:=c) bp bp (Oa (Oo d b (x:=OD (i:VN)) rfl (Oa (Gm d b bo (Ob ⟨_,rfl,Ob (h _ _ ?_ (MP ..))⟩)))))));exact⟨_,QQ _ d (R7 (MK b _)),(Fb ..).trans f,by
  rw[MK b];simp⟩
def Xk (q:A.handled=none) (a:s.heap.IsRevS j x t (-1))
  (k:∀ h',C3 j s.heap h'->Q none {s with heap:=h'}):Oe (Oc prog w) A (Gb (.ref j)) Q E s:=by
 obtain⟨o,f,m,c⟩:=id a;refine Oa (Ox (VW a.typeIs F.slot_rev_next
  (Om F.slot_rev_next a.typeIs F.entry_rev_next ?_ (F.args_rev_next_1 _))))
 refine Oa (Ou rfl (Oa (Oo f c rfl (Oa (Oo f c rfl ?_)))));show Oe _ _ _ _ _ s;refine Oa (OL (Oa (Oa (Gm f c bo ?_))));have n:(Cv (fun g=>g.set! 1 (OD (-1))) o).data= .fields #[.str x t,OD (-1)]:=by rw[MK c];simp
 refine Gm (QQ (Cv fun g=>g.set! 1 (OD (-1))) f (R7 (MK c _))) n bo (Oa (Oa (Oa (Ot (Oa (Ou (by rfl) (Ot (Oa (DG ?_)) (by size_fits)))) (by exact Kw)))));first | rw[q] | lia
 refine Oa (Ob (Ft ?_));refine Oa (OH ⟨_,Qk _ rfl,rfl⟩ O7 (Ob (k _ ?_)));intro b r i e;exact Qc _ (Qc _ ((QG _ _ (VS i)).trans ((QG _ _ (VS i)).trans e)))
def YY (a:s.heap.IsRevS b x t i) (h:Q (.ref b) s):Oe (Oc prog w) A (GL (.ref b)) Q E s:=by
 exact LC a.typeIs F.slot_rev_iter (Om F.slot_rev_iter a.typeIs F.entry_rev_iter (Ob ⟨_,rfl,_,_,a.typeIs,F.slot_rev_next.lookup,h⟩) (F.args_rev_iter_1 _))
end
def ZeQ (q:A.handled=none) (I) (x) (t) (D:x.length<=Od) :
  CD prog w A I [I] [I] x.length (fun i v=>∃ c u,x.cps[x.length-1-i]?=some c/\v= .str ⟨#[c]⟩ u) (fun i h=>i<=x.length/\h.IsRevS I x t (x.length-1-i)) where
 sub:=fun b g=>bq
 frame:=fun _ _ _ y C=>⟨y.1,y.2.at fun o e=>C I bo o e⟩
 item:=fun i s Q E r y f=>by
  have e:x.length-1-i=((x.length-1-i:VC):VN):=bq
  have a:=y.2;rw[e]at a;have l:x.length-1-i<x.cps.size:=by
   have:x.length=x.cps.size:=rfl;omega
  have p:=QT l;refine Jc a p D fun n u d m=>?_;have z:((x.length-1-i:VC):VN)-1=x.length-1-((i+1:VC)):=bq
  rw[z]at d;exact f _ n _ ⟨_,u,p,rfl⟩ ⟨r,d⟩ fun b o g j=>m.extBut b o (fun h=>g (by simp[h])) j
 done:=fun s Q E y f=>by
  have e:x.length-1-(x.length:VN) = -1:=br
  have a:=y.2;rw[e]at a;exact Xk q a fun n k=>f n s.toks fun b o g j=>k b o (fun h=>g (by simp[h])) j
 self:=fun _ _ _ _ y f=>YY y.2 f
section
variable {prog:Oh} {w:Ol} {A:NC} {E:VG->VF->Prop} {s:VF}
def ZbQ (a:s.heap.IsRevS j x t (x.length-1)) (k:x.length<=Od)
  (h:∀ u tk,Q (.int x.length u) {s with toks:=tk}):Oe (Oc prog w) A (call (.builtin "reversed.__length_hint__") [.ref j]) Q E s:=by
 obtain⟨o,d,f,c⟩:=id a;have l:=Oz;refine Om F.slot_rev_hint a.typeIs F.entry_rev_hint (Oa (Ou rfl (Oa (Oo d c rfl (Oa (P.len_str br (Oa (Ou rfl (Oa (Oo d c rfl ?_)))))))))) (F.args_rev_hint_1 _);show Oe _ _ (if (x.length:VN)<x.length-1+1 then _ else _) _ _ _;rw[if_neg br];refine Oa (wpAny_mkInt (Ob ⟨_,rfl,?_⟩));have e:(x.length:VN)-1+1=x.length:=br
 rw[e];exact h _ _
def Ziw (a:s.heap.IsRevS o x t (x.length-1)) (e:x.length<=Od)
  (h:∀ b tk,Q b {s with toks:=tk}):Oe (Oc prog w) A (MH (.ref o)) Q E s:=by
 have p:Od=16777216:=Oz;refine Oa (OG a.typeIs F.rev_no_len (Oa (OG a.typeIs F.slot_rev_hint.lookup ?_)));have d:splitId "reversed.__length_hint__" = some ("reversed","__length_hint__"):=by rfl
 try simp
 rw[d]
 try lia
 refine Oa (OH a.typeIs F.sub_rev_rev (Oa (OL (Oa (Ou (F.slot_rev_hint.bind _) (Oa (Ox (ZbQ a e fun u tk=>?_))))))));have f:asInt? (RW (x.length:VN) u)=pure (some (x.length:VN)):=by rfl
 generalize m:(x.length:VN)=n at f;simp only[f,pure_bind];subst m;have j:MU (x.length:VN)=true:=by
  unfold MU;have g:decide (-(2 ^ 63:VN)<=(x.length:VN))=true:=VR br;have i:decide ((x.length:VN)<2 ^ 63)=true:=VR br;rw[g,i];rfl
 have l:MO (x.length:VN).toNat=false:=by
  exact VO (UO.mpr e)
 rw[j,if_neg be,if_neg Km,l,if_neg be];exact Ob (h _ _)
section
variable {R:GU->VF->Prop}
def Zfn (hh:A.handled=none) (hx:x.length<=Od) (S) (z) (j:s.heap.IsRevS I x t (x.length-1)) (p:S≠I)
  (C:s.heap.get? S=some {cls:=.type "list",data:=.seq #[] z})
  (hR:∀ h' tk d y,(∀ b o,b≠S->b≠I->s.heap.get? b=some o->h'.get? b=some o)->h'.get? S=some {cls:=.type "list",dict:=none,data:=.seq d y,slots:=#[]} ->
   TL (fun i v=>∃ c u,x.cps[x.length-1-i]?=some c/\v= .str ⟨#[c]⟩ u) d x.length->R (.ok (.ret .none)) {s with heap:=h',toks:=tk}) :
  Oe (Oc prog w) A.in1 (MI (.ref S) (.ref I) .none)
   (fun k r=>match k with | .done f=>R (.ok f) r | .again y=>y.quiet=true/\OF (Oc prog w) A y R r) (fun e r=>R (.error e) r) s:=by
 have hSf:S∉[I]:=fun m=>p (Qq.mp m);refine Oa (Gf j.typeIs ?_);have h1:NG (.ref S) (.ref I)=false:=by simp[NG,p]
 have h2:(NB "reversed" == NB "list")=false:=be
 apply Pl;intros;have h3:(NB "reversed" == NB "tuple")=false:=be
 simp only[h1,h2,h3,UH,WX,TU];refine Oa (YY j (Oa (On (Ziw j hx fun b tk=>?_))));have st0:∀ h':Nu,(∀ b o,b≠S->s.heap.get? b=some o->h'.get? b=some o)->(0<=x.length/\h'.IsRevS I x t ((x.length:VN)-1-((0:VC):VN))):=fun h' n=>⟨QN _,by
  have:=j.at (h':=h') fun o e=>n I o (VS p) e;have e:(x.length:VN)-1-((0:VC):VN)=(x.length:VN)-1:=V0
  rw[e];omega⟩
 have k:∀ (a:Nu) (l:VC),(∀ b o,b≠S->s.heap.get? b=some o->a.get? b=some o)->a.get? S=some {cls:=.type "list",data:=.seq #[] l} ->
   OF (Oc prog w) A (.builtin "list.extend.loop" ⟨[.ref S,.ref I,.none],[]⟩) R {s with heap:=a,toks:=tk}:=fun a l n q=>by
  exact W3 ((ZeQ (prog:=prog) (w:=w) (A:=A.in1) hh I x t hx).toS) hx _ hSf _ x.length 0 _ _ _ rfl (QN _) (st0 a n) q (ItemsOf.nil _) fun r d y m hS' h=>Moved.eq_with m▸hR r.heap r.toks d y (fun b ob B hbI e=>m.heap b ob (fun hmem=>bp) (n b ob B e)) hS' h
 split
 refine Oa (OL (Oa (Oa (OC C rfl ?_))));have g:=QQ (NF (·.push NI)) C rfl;exact OC (hz:=by seq_fits) g rfl (Ob ⟨Oy F.plain_extend_loop _,k _ _ (fun b o B e=>(QG _ _ (VS B)).trans ((QG _ _ (VS B)).trans e)) (QQ (NF (·.pop)) g rfl)⟩)
 exact Ob ⟨Oy F.plain_extend_loop _,k _ _ (fun b o B e=>e) C⟩
def ZbB (H:A.handled=none) (G:x.length<=Od) (S) (B:s.heap.IsRevS I x t (x.length-1)) (l:S≠I)
  (r:s.heap.get? S=some {cls:=.type "list",data:=.seq #[]})
  (p:∀ h' tk a g,(∀ b o,b≠S->b≠I->s.heap.get? b=some o->h'.get? b=some o)->h'.get? S=some {cls:=.type "list",dict:=none,data:=.seq a g,slots:=#[]} ->
   TL (fun i v=>∃ c u,x.cps[x.length-1-i]?=some c/\v= .str ⟨#[c]⟩ u) a x.length->R (.ok (.ret .none)) {s with heap:=h',toks:=tk}) :
  Oe (Oc prog w) A.in1 (NP.«list.__init__» ⟨[.ref S,.ref I],[]⟩)
   (fun q n=>match q with | .done f=>R (.ok f) n | .again g=>g.quiet=true/\OF (Oc prog w) A g R n) (fun e n=>R (.error e) n) s:=by
 refine Oa (Oa (Ow r rfl (Ob (Oa (OC r rfl ?_)))));have k:∀ b o,b≠S->s.heap.get? b=some o->(s.heap.update S (NF (fun _=>(#[])))).get? b=some o :=
  fun b o m e=>(QG _ _ (VS m)).trans e
 exact Oa (O5 (Zfn H G S _ (B.at fun o e=>k I o (VS l) e) l (QQ (NF (fun _=>(#[]))) r rfl) fun h' tk a g h z j=>p h' tk a g (fun b o m y e=>h b o m y (k b o m e)) z j))
end
def ZbR (B:A.handled=none) (H:x.length<=Od) (k:s.heap.IsRevS I x t (x.length-1))
  (J:∀ h' tk a q,(∀ b o,b≠I->s.heap.get? b=some o->h'.get? b=some o)->h'.get? s.heap.objs.size=some {cls:=.type "list",dict:=none,data:=.seq a q,slots:=#[]} ->
   TL (fun i v=>∃ c u,x.cps[x.length-1-i]?=some c/\v= .str ⟨#[c]⟩ u) a x.length->Q (.ref s.heap.objs.size) {s with heap:=h',toks:=tk}) :
  Oe (Oc prog w) A (call (.type "list") [.ref I]) Q E s:=by
 have m:s.heap.objs.size≠I:=fun e=>by
  obtain⟨o,C,_⟩:=k;exact Q2 _ (e▸Ql C)
 refine Dp (Q₁:=fun j f=>j= .ref s.heap.objs.size/\f={s with heap:=s.heap.push _}) F.called_list (F.typeCall_list_1 _) F.entry_list_init
  (code_list_new _ ⟨rfl,rfl⟩) fun j f h=>?_
 obtain⟨rfl,rfl⟩:=h;have y:(s.heap.push {cls:=.type "list",data:=.seq #[]}).get? s.heap.objs.size=some _:=Qk _ rfl;exact ⟨⟨_,y,rfl⟩,F.args_list_init_2 _ _,ZbB (A:=A.in1) B H _ (k.at fun o e=>Qc _ e) m y fun h' tk a q D n l=>⟨rfl,J h' tk a q (fun b o p e=>D b o (QB (Ql e)) p (Qc _ e)) n l⟩⟩
end
end PySem
namespace L2
open PySem PySem.Spec PyProof.Rows
def Za6:Op "reversed" = some (.type "reversed"):=by rfl
def ZfB:∀ (b) (a),b.length=a.length->(∀ (i:VC) (w) (u),b[i]?=some w->a[i]?=some u->RelV w u)->Vals b a:=by
 intro b;induction b with
 | nil =>
  intro a e _;have:=Wa.mp e.symm;subst this;exact .nil
 | cons w b g =>
  intro a e h;cases a with
  | nil=>grind
  | cons u a=>exact .cons (h 0 w u rfl rfl) (g a bp fun i l k j f=>h (i+1) l k j f)
def tLR (te:TE):TE:=fun σ H Q=>te σ H fun x H1=>∃ z:VI,x= .str z/\z.length<=Od/\∀ p,H1 p=none->Q (.ref p) (upd H1 p (.lst (z.cps.toList.reverse.map fun c=>V.str (tx [c]))))
def Ze1 {N v m a} (P:X.calm=true) (D:Gl X "list") (y:X.mg "list" = none) (B:Gl X "reversed") (r:X.mg "reversed" = none) (f:PE X e R)
  (C:Oi [.Call (.Name "reversed" v) [e] [] a] X.env=[(false,NQ (.Call (.Name "reversed" v) [e] [] a) X.env)]:=by rfl) (k:Oi [e] X.env=[(false,NQ e X.env)]:=by rfl) :
  PE X (.Call (.Name "list" N) [.Call (.Name "reversed" v) [e] [] a] [] m) (tLR R):=by
 intro n s σ H Q I h;refine OA (YQ I D y Zh5 (VY (NL (OA (YQ I B r Za6 (VY ?_ k rfl) (by decide) (by decide)))) C rfl) (by decide) (by decide));rw[k];refine NL (thn (f n s σ H _ I h) fun u J ⟨x,V,F,T,O⟩=>NZ ?_);obtain⟨z,rfl,G,q⟩:=O;obtain⟨t,rfl⟩:=T;refine Ju G (NZ (ZbR (I.ok.hd P) G ⟨_,Qk _ rfl,rfl,rfl⟩ fun L M p c S E g=>?_));have A:(J.heap.push (Zom z t ((z.length:VN)-1))).objs.size=J.heap.objs.size+1:=Wu ..;rw[A]at E ⊢;refine⟨.ref _,_,F.laid (h':=L) (t':=M) (fun b u e=>S b u (QB (Ql e)) (Qc _ e)) (Ui _) ?_,rfl,q _ (F.hok.fresh (Ui _))⟩;refine⟨by rw[Qd,Q5];assumption,p.toList,c,?_,by omega⟩;have j:z.cps.toList.length=z.length:=by rfl
 refine ZfB _ _ (by rw[Qd,Q5,j,Qx,g.1]) fun i w u o U=>?_;have W:i<z.length:=by
  have:=(Qj.mp o).1;rw[Qd,Q5,j]at this;omega
 obtain⟨Y,K,l,rfl⟩:=g.2 i u (by simp_all);rw[Qi,Rc (by omega),j]at o;rw[←QW]at l;rw[l]at o;cases o;exact⟨K,rfl⟩
end L2
namespace Sh
open PySem L2 PyProof.Rows
abbrev Ts:=VA (VI×VI)
noncomputable def dl (a b:VI):VN:=if a=b then 1 else 0
def ZhR (a):dl a a=1:=VD rfl
def ZnB (a b):0<=dl a b:=by unfold dl;lia
noncomputable def frm (ts:Ts) (i:VC):VI:=(ts.getD i ("","")).1
def tow (ts:Ts) (i:VC):VI:=(ts.getD i ("","")).2
noncomputable def bal (ts:Ts) (X:VA VC) (p:VI):VN:=(X.map fun i=>dl (frm ts i) p-dl (tow ts i) p).sum
def ZbT (ts) (p):bal ts [] p=0:=rfl
def Yt (ts) (i) (X) (p):bal ts (i::X) p=dl (frm ts i) p-dl (tow ts i) p+bal ts X p:=by
 rfl
def Xz (ts) (X Y) (p):bal ts (X++Y) p=bal ts X p+bal ts Y p:=by
 unfold bal;simp
def Jb (h:X.Perm Y) (p):bal ts X p=bal ts Y p:=by
 induction h with
 | nil=>rfl
 | cons x _ f=>rw[Yt,Yt,f]
 | swap x y l=>rw[Yt,Yt,Yt,Yt];exact Se
 | trans _ _ a b=>exact Sf b a
inductive Ch (ts:Ts):VI->VA VC->VI->Prop where
 | nil (u:VI):Ch ts u [] u
 | cons {i:VC} {X:VA VC} {u v:VI} (e:frm ts i=u) (h:Ch ts (tow ts i) X v):Ch ts u (i::X) v
def Ch.bal (h:Ch ts u X v) (p):bal ts X p=dl u p-dl v p:=by
 induction h with
 | nil u=>rw[ZbT];lia
 | cons e h c=>rw[Yt,e];lia
def Ch.snoc (h:Ch ts u X v) (e:frm ts i=v):Ch ts u (X++[i]) (tow ts i):=by
 induction h with
 | nil u=>exact .cons e (.nil _)
 | cons e' h ih=>exact .cons e' (ih e)
def Ch.pop:∀ {X},Ch ts u (X++[i]) v->Ch ts u X (frm ts i)/\v=tow ts i
 | [],h=>by
  cases h with
  | cons e h =>
   cases h;exact⟨e▸.nil _,rfl⟩
 | j::X,h=>by
  cases h with
  | cons e h =>
   obtain⟨a,b⟩:=Ch.pop h;exact⟨.cons e a,b⟩
def ZnY (ts:Ts) (P y:VI):Prop:=∃ i,i<ts.length/\((frm ts i=P/\tow ts i=y)\/(tow ts i=P/\frm ts i=y))
inductive RchT (ts:Ts) (a:VI):VI->Prop where
 | here:RchT ts a a
 | step {P y:VI} (h:RchT ts a P) (k:ZnY ts P y):RchT ts a y
def RchT.closed {F:VI->Prop} (d:F a) (c:∀ P,F P->∀ y,ZnY ts P y->F y) (h:RchT ts a y):F y:=by
 induction h with
 | here=>omega
 | step _ k e=>grind
def Deg (ts:Ts) (b f:VI):Prop:=∀ p,bal ts (Qz ts.length) p=dl b p-dl f p
def Zid (ts:Ts) (b:VI):Prop:=(∃ f,Deg ts b f)/\∀ i,i<ts.length->RchT ts b (frm ts i)
def Eul (ts:Ts) (b:VI) (X:VA VC):Prop:=X.Perm (Qz ts.length)/\∃ v,Ch ts b X v
def ZnE {a u v} {X} (h:Ch ts u X v):RchT ts a u->(∀ i∈X,i<ts.length)->∀ i∈X,RchT ts a (frm ts i):=by
 induction h with
 | nil u=>simp
 | @cons j X u v e h l =>
  intro m b i f;rcases Qs.mp f with z | z
  simp_all
  exact l (.step m ⟨j,b j Qo ..,.inl ⟨e,rfl⟩⟩) (fun k g=>b k (Qm _ g)) i z
def Eul.good (h:Eul ts b X):Zid ts b:=by
 obtain⟨p,v,c⟩:=h;exact ⟨⟨v,fun q=>by rw[←Jb p];exact c.bal q⟩,fun i e=>ZnE c .here (fun j d=>Qu.mp (p.mem_iff.mp d)) i (p.mem_iff.mpr (Qu.mpr e))⟩
def Y0 {X Y:VA VC} (a:X.Nodup) (b:Y.Nodup) (h:∀ x,x∈X↔x∈Y):X.Perm Y:=by
 grind
def ZaO {F:VA VC}:∀ {ks:VA VC},F.Nodup->(∀ x∈F,x∈ks)->F.length<=ks.length:=by
 induction F with
 | nil=>simp
 | cons x F i =>
  intro ks h e;have a:=Q9.mp h;have d:=e x Qo ..;have:=i a.2 fun y f=>(Ua fun(q:y=x)=>a.1 (q▸f)).mpr (e y (Qm _ f));rw[Wx d]at this;have b:=Ws d;rw[QI];exact Kn b this
def Zlz {F ks:VA VC} (g:F.Nodup) (e:∀ x∈F,x∈ks) (h:F.length=ks.length):∀ x∈ks,x∈F:=by
 intro x c;apply NT;intro f;have:=ZaO g fun y b=>(Ua fun(q:y=x)=>f (q▸b)).mpr (e y b);rw[Wx c]at this;exact (V1 this (Ws c) h).elim
structure WI (ts:Ts) (b pt:VI) (r:VI->VA VC) (G B:VA VC):Prop where
 nd:(G++B).Nodup
 lt:∀ i∈G++B,i<ts.length
 rnd:∀ p,(r p).Nodup
 row:∀ p i,i∈r p↔i<ts.length/\frm ts i=p/\i∉G++B
 chG:Ch ts b G pt
 chB:∀ f,Deg ts b f->∃ w,Ch ts w B.reverse f
 stk:∀ i∈B,r (tow ts i)=[]
def WI.start (g:∀ p,(r p).Nodup) (d:∀ p i,i∈r p↔i<ts.length/\frm ts i=p):WI ts b b r [] [] where
 nd:=Ub
 lt:=fun i e=>by grind
 rnd:=g
 row:=fun p i=>by rw[d];simp
 chG:=.nil _
 chB:=fun f _=>⟨f,.nil _⟩
 stk:=fun i e=>by grind
noncomputable def Zia (r:VI->VA VC) (p:VI) (X:VA VC):VI->VA VC:=fun q=>if q=p then X else r q
def WI.push (h:WI ts b d r G B) (e:r d=X++[i]):WI ts b (tow ts i) (Zia r d X) (G++[i]) B:=by
 have o:=(h.row d i).mp bp;have a:=h.rnd d;rw[e]at a;have s:∀ j,j∈(G++[i])++B↔j∈G++B\/j=i:=fun j=>by
  simp only[QA,Qq];constructor
  rintro((z | z) | z)
  simp_all
  omega
  simp_all
  rintro((z | z) | z)
  simp_all
  simp_all
  omega
 refine⟨?_,fun j m=>?_,fun p=>?_,fun p j=>?_,h.chG.snoc o.2.1,h.chB,fun j m=>?_⟩
 have v:((G++[i])++B).Perm (i::(G++B)):=by
  simp
 exact v.nodup_iff.mpr (Q9.mpr ⟨o.2.2,h.nd⟩)
 rcases(s j).mp m with z | z
 exact h.lt j z
 omega
 unfold Zia;split
 exact(WT.mp a).1
 exact h.rnd p
 rw[s];unfold Zia;by_cases c:p=d
 rw[VD c];have t:=h.row d j;rw[e,QA]at t;subst c;constructor
 intro z;obtain⟨k,f,g⟩:=t.mp (.inl z);exact⟨k,f,fun q=>q.elim g fun w=>(fun z=>(WT.mp a).2.2 i z i bo rfl) (w▸z)⟩
 rintro⟨k,f,g⟩
 simp_all
 rw[if_neg c,h.row];constructor
 rintro⟨k,f,g⟩;exact ⟨k,f,fun q=>q.elim g fun w=>c bp⟩
 rintro⟨k,f,g⟩;exact⟨k,f,fun q=>g (.inl q)⟩
 unfold Zia;have x:=h.stk j m;rw[if_neg fun c=>bp];omega
def WI.stuck (h:WI ts b g r G B) (e:r g=[]) (d:Deg ts b f) (c:Ch ts w B.reverse f):g=w:=by
 have q:(Qz ts.length).Perm (G++B++(Qz ts.length).filter fun i=>decide (i∉G++B)):=by
  refine Y0 Wp (WT.mpr ⟨h.nd,Wp.filter _,fun a M v P z=>?_⟩) fun x=>?_
  simp_all
  rw[QA,Wf,Qu];constructor;intro E;by_cases l:x∈G++B
  exact .inl l;exact .inr ⟨E,VR l⟩;rintro(z | z);exact h.lt x z;omega
 have o:=d g;rw[Jb q,Xz,Xz,h.chG.bal,←Jb (Um B),c.bal]at o;have F:∀ L,(∀ i∈L,frm ts i≠g)->bal ts L g<=0:=by
  intro L;induction L with
  | nil=>intro _;rw[ZbT];exact Ko
  | cons i L C =>
   intro n;have v:dl _ g=0:=if_neg (n i (Qo ..));rw[Yt];exact Kq (ZnB (tow ts i) g) v (C fun j y=>n j (Qm _ y))
 have N:=F ((Qz ts.length).filter fun i=>decide (i∉G++B)) fun i t z=>by
  obtain⟨I,s⟩:=Wf.mp t;have:=(h.row g i).mpr ⟨Qu.mp I,z,by simpa using s⟩
  simp_all
 rw[ZhR]at o;apply NT;intro A;have O:dl w g=0:=if_neg fun z=>A z.symm;lia
def WI.pop (h:WI ts b m r (X++[i]) B) (e:r m=[]):WI ts b (frm ts i) r X (B++[i]):=by
 obtain⟨n,o⟩:=h.chG.pop;have a:(X++(B++[i])).Perm (X++[i]++B):=by
  rw[QL];exact Uq.append_left _ |>.trans (R3 _)
 refine⟨a.nodup_iff.mpr h.nd,fun j g=>h.lt j (a.mem_iff.mp g),h.rnd,fun p j=>by rw[h.row,a.mem_iff],n,fun f d=>?_,fun j g=>?_⟩;obtain⟨w,c⟩:=h.chB f d;have:=h.stuck e d c;rw[List.reverse_append,List.reverse_singleton];refine⟨_,.cons rfl ?_⟩
 simp_all
 rcases QA.mp g with z | z
 exact h.stk j z
 simp_all
def WI.done (h:WI ts b W r [] B) (e:r W=[]) (g:Zid ts b):Eul ts b B.reverse:=by
 obtain⟨⟨f,d⟩,hr⟩:=g;have S:b=W:=by cases h.chG;rfl
 subst S;obtain⟨w,c⟩:=h.chB f d;have ew:=h.stuck e d c;subst ew;have A:=h.nd;have E:=h.lt;rw[Ux]at A E;refine⟨?_,f,c⟩
 -- whoever is met has nothing left
 let M:VI->Prop:=fun p=>p=b\/∃ i∈B,tow ts i=p
 have hM:∀ p,M p->r p=[]:=fun p G=>by
  rcases G with z | ⟨i,D,z⟩
  simp_all
  exact z▸h.stk i D
 have G:(Qz ts.length).Perm (B++(Qz ts.length).filter fun i=>decide (i∉B)):=by
  refine Y0 Wp (WT.mpr ⟨A,Wp.filter _,fun a ha R hb z=>?_⟩) fun x=>?_
  simp_all
  rw[QA,Wf,Qu];constructor
  intro H;by_cases Z:x∈B
  exact .inl Z
  exact .inr ⟨H,VR Z⟩
  rintro(z | z)
  simp_all
  omega
 have hz:∀ p,bal ts ((Qz ts.length).filter fun i=>decide (i∉B)) p=0:=fun p=>by
  have h1:=d p;rw[Jb G,Xz,←Jb (Um B),c.bal]at h1;lia
 have C:∀ p,M p->∀ i,i<ts.length->(frm ts i=p\/tow ts i=p)->i∈B:=fun p G i D ht=>by
  apply NT;intro hn;have J:∀ j,j<ts.length->j∉B->frm ts j≠p:=fun j o hjn z=>by
   have:=(h.row p j).mpr ⟨o,z,bp⟩
   simp_all
  rcases ht with z | z
  simp_all
  have h2:∀ L:VA VC,(∀ j∈L,frm ts j≠p)->bal ts L p<=0/\(i∈L->bal ts L p<0):=by
   intro L;induction L with
   | nil=>intro _;exact⟨by rw[ZbT];exact Ko,fun q=>by grind⟩
   | cons j L N =>
    intro Y;obtain⟨V,a2⟩:=N fun k hk=>Y k (Qm _ hk);have R:dl (frm ts j) p=0:=if_neg (Y j (Qo ..));have c':=ZnB (tow ts j) p;rw[Yt];refine⟨Kq c' R V,fun q=>?_⟩;rcases Qs.mp q with q | q
    subst q;have:dl (tow ts i) p=1:=VD z;lia
    have:=a2 q;lia
  have h3:=(h2 ((Qz ts.length).filter fun i=>decide (i∉B)) fun j o=>by
   obtain⟨V,_⟩:=Wf.mp o;exact J j (Qu.mp V) bp).2 (Wf.mpr ⟨Qu.mpr D,VR hn⟩)
  rw[hz]at h3;lia
 have I:∀ u X v,Ch ts u X v->M u->(∀ j∈X,j∈B)->∀ j∈X,M (frm ts j):=by
  intro u X v hc;induction hc with
  | nil u=>intro _ _ j o;cases o
  | @cons k X u v e' _ N =>
   intro hu T j o;rcases Qs.mp o with z | z
   rw[z,e'];exact hu
   exact N (.inr ⟨k,T k (Qo ..),rfl⟩) (fun l hl=>T l (Qm _ hl)) j z
 have Q:∀ P,M P->∀ y,ZnY ts P y->M y:=fun P U y=>Lh fun i D q=>by
  rcases q with ⟨K,O⟩ | ⟨K,O⟩
  exact .inr ⟨i,C P U i D (.inl K),O⟩
  have:=C P U i D (.inr K);exact O▸I _ _ _ c (.inl rfl) (fun j o=>Ud.mp o) i (Ud.mpr this)
 refine Y0 ((Um B).nodup_iff.mpr A) Wp fun x=>?_;rw[Ud,Qu];exact ⟨E x,fun H=>C _ (RchT.closed (F:=M) (.inl rfl) Q (hr x H)) x H (.inl rfl)⟩
def WI.eul (h:WI ts b i r [] B) (f:B.length=ts.length) (c:Ch ts b B.reverse v):Eul ts b B.reverse:=by
 have d:=h.nd;have e:=h.lt;rw[Ux]at d e;refine⟨?_,v,c⟩;have a:=fun x g=>Qu.mpr (e x g);refine(Um B).trans (Y0 d Wp fun x=>⟨a x,Zlz d a (by rw[QU,f]) x⟩)
noncomputable def rows (ts:Ts) (p:VI):VA VC:=((Qz ts.length).filter fun i=>decide (frm ts i=p)).reverse
def Zgo (ts) (p):(rows ts p).Nodup:=(Um _).nodup_iff.mpr (Wp.filter _)
def Zef (ts) (p) (i):i∈rows ts p↔i<ts.length/\frm ts i=p:=by
 unfold rows;simp
noncomputable def wlk (ts:Ts):VC->(VI->VA VC)->VI->VA VC->VA VC->VA VC
 | 0,_,_,_,B=>B
 | n+1,r,pt,G,B=>match (r pt).getLast? with
  | some i=>wlk ts n (Zia r pt (r pt).dropLast) (tow ts i) (G++[i]) B
  | none=>match G.getLast? with
   | some i=>wlk ts n r (frm ts i) G.dropLast (B++[i])
   | none=>B
def ZbZ (e:r a=X++[i]):wlk ts (n+1) r a G B=wlk ts n (Zia r a X) (tow ts i) (G++[i]) B:=by
 rw[wlk,e];simp
def ZdS (e:r a=[]):wlk ts (n+1) r a (X++[i]) B=wlk ts n r (frm ts i) X (B++[i]):=by
 rw[wlk,e];simp
def ZdT (e:r c=[]):wlk ts n r c [] B=B:=by
 cases n with
 | zero=>rfl
 | succ n=>rw[wlk,e];rfl
noncomputable def wayX (ts:Ts) (b:VI):VA VC:=(wlk ts (2*ts.length) (rows ts) b [] []).reverse
def WI.len {b a} {r} {G B} (h:WI ts b a r G B):G.length+B.length<=ts.length:=by
 have:=ZaO h.nd fun x c=>Qu.mpr (h.lt x c);rw[Qg,QU]at this;exact this
def WI.in_len (h:WI ts b e r G B) (p):(r p).length<=ts.length:=by
 have:=ZaO (h.rnd p) fun x c=>Qu.mpr ((h.row p x).mp c).1;rw[QU]at this;exact this
end Sh
namespace L2
open PySem PySem.Spec PyProof.Rows PySem.W
def Zmi (hi:VN) (n:VC):It:=⟨fun i _=>i<n,fun i H x H'=>H'=H/\x= .int (hi-i),fun i _=>n<=i⟩
def ZcZ {K} (c) (hi) (n):Zic P w K O (Zmi hi n) [c] c (fun i h=>IsRangeIter h c (hi+i*(-1)) (n-i) (-1)) where
 mem:=bo
 obj:=fun i h st b d=>by
  have e:b=c:=bp
  subst e;exact⟨_,st,fun v z=>by
   simp_all⟩
 keep:=fun i h p st k=>k c bo _ st
 item:=by
  intro X B y C r i a s σ H E I g st u;subst B y C;have⟨j,q,G,m,x,l⟩:=g c bo;refine(CS (prog:=X.prog) (w:=X.w) (I.ok.hd r) c hi (-1) n).item i s _ _ u st fun v p M F f N=>?_;obtain⟨t,rfl⟩:=F;have D:Inv X a σ H {s with heap:=p,toks:=M}:=I.turned (fun b o d e=>N b o (by simpa using d) e) j q m x l;refine⟨_,rfl,ZhF f rfl rfl be ⟨.int _,H,D,⟨t,?_⟩,⟨rfl,rfl⟩,f,fun b d=>(g b d).1⟩⟩;rw[show hi+i * -1=hi-i by lia]
 done:=by
  intro X B y C r i a s σ H E I g st u;have⟨j,q,G,m,x,l⟩:=g c bo;exact LS (I.ok.hd r) st (by have:n<=i:=u;exact M0 this) fun p J=>⟨rfl,I.turned (fun b o d e=>J b o d e) j q m x l⟩
 self:=fun _ _ _ _ _ st h=>LU st h
section
variable {X:Cx} {tg:Expr}
def Zgr {σ:St} {lo hi} (I:Inv X pins σ H s) (p : -(2 ^ 62)<=lo) (i:lo<2 ^ 62) (r : -(2 ^ 62)<=hi) (m:hi<2 ^ 62)
  (q:R (Zmi lo (lo-hi).toNat) H):Oe (Oc X.prog X.w) X.A (GL (.ref s.heap.objs.size)) (PIE X pins σ tg R) E {s with heap:=s.heap.push {cls:=.type "range",data:=.fields #[.int lo t,.int hi u,.int (-1) v]},toks:=tk}:=by
 refine DQ (IsRange.new ..) (small_down p i r m) ?_;have g:Inv X pins σ H {s with heap:=s.heap.push {cls:=.type "range",data:=.fields #[.int lo t,.int hi u,.int (-1) v]},toks:=tk}:=I.kept fun b o e=>Qc _ e;refine Pe _ _ _ _ H ⟨rfl,g.kept fun b o e=>Qc _ e,ZcZ _ lo _,?_,fun b l=>?_,q⟩
 have n:lo+((0:VC)) * -1=lo:=bo
 have j:(((lo-hi).toNat:VC))-((0:VC))=Builtin.Range.rangeSize lo hi (-1):=by rw[rangeSize_downNat];exact V0
 rw[n,j];exact Qk _ rfl;have e:b=(s.heap.push {cls:=.type "range",data:=.fields #[.int lo t,.int hi u,.int (-1) v]}).objs.size:=by simpa using l
 subst e;exact g.fpOk (Qh _) (g.hok.fresh (Qh _))
def ZoH (ta:TA):TI:=fun σ H R=>ta σ H fun vs H1=>∃ i j:VN,vs=[.int i,.int j,.int (-1)]/\(-(2 ^ 62)<=i/\i<2 ^ 62/\-(2 ^ 62)<=j/\j<2 ^ 62)/\R (Zmi i (i-j).toNat) H1
def ZgB {p pos} (F:Gl X "range") (A:X.mg "range" = none) (w:PA X (a::e) u) (G:Oi (a::e) X.env=(false,NQ a X.env)::Oi e X.env:=by rfl) (k:(OE pos (Oi e X.env)).any (·.1)=false:=by rfl):PI X tg (.Call (.Name "range" p) (a::e) [] pos) (ZoH u):=by
 intro d s σ H R I h;refine Call_ (YQ I F A boot_range (VY (thn (w pos d s σ H _ I h) fun K O ⟨N,L,y,v,l⟩=>?_) G k));obtain⟨i,j,rfl,⟨l,z,B,D⟩,q⟩:=l;cases v with
 | cons r c =>
  cases c with
  | cons E c =>
   cases c with
   | cons g c =>
    cases c;obtain⟨t,rfl⟩:=r;obtain⟨J,rfl⟩:=E;obtain⟨o,rfl⟩:=g;exact call_range_3 (by decide) (Zgr y l z B D q) (.inl (PyProof.noPylong_of_log2 (by decide +kernel)))
def Zfl {lo} {g:TG} {k:TS} {D:Zfy} (d:VC->St->Hp->Prop) (r:d 0 σ H)
  (w:∀ i σ H,i<n->d i σ H->g (.int (lo-i)) σ H fun a h=>k {D with nx:=d (i+1),ct:=d (i+1),bk:=D.nx} a h) (t:∀ σ H,d n σ H->D.nx σ H) :
  ∃ W:VC->VC->St->Hp->Prop,(∃ m,W 0 m σ H)/\∀ i m σ H,W i m σ H ->
   ((Zmi lo n).stop i H/\D.nx σ H)\/((Zmi lo n).go i H/\∃ N,(∀ c b,N c b->∃ l,l<m/\W (i+1) l c b)/\∀ x b,(Zmi lo n).yld i H x b->g x σ b fun a h=>k {D with nx:=N,ct:=N,bk:=D.nx} a h):=by
 refine⟨fun i m σ H=>m=n-i/\i<=n/\d i σ H,⟨n,bo,QN _,r⟩,?_⟩;rintro i m σ H ⟨rfl,z,p⟩;by_cases f:i<n
 refine .inr ⟨f,_,fun c b u=>⟨_,Xo f,rfl,f,u⟩,fun x b y=>?_⟩;obtain⟨e,y⟩:=y
 simp_all
 have e:i=n:=Vk z f
 subst e;exact .inl ⟨Qh _,t σ H p⟩
def Vals.rev (r:Vals xs c):Vals xs.reverse c.reverse:=by
 induction r with
 | nil=>exact .nil
 | cons h t d =>
  rw[U0,U0];exact Vals.append d (.cons h .nil)
def Zpj (K:VB) (te ts:TE):TE:=fun σ H Q=>te σ H fun x H1=>ts σ H1 fun y H2=>∃ a xs,x= .ref a/\SqL K H2 a xs/\y= .int (-1)/\∀ p,H2 p=none->Q (.ref p) (upd H2 p (.lst xs.reverse))
def ZmL {e st} (E:PE X e p) (n:PE X st ts):PE X (.Subscript e (.Slice none none (some st) L) pos) (Zpj X.K p ts):=by
 intro c s σ H Q I h;refine GP (thn (E c s σ H _ I h) fun v j=>Le fun x u B A k=>wpAny_Slice (Ob (Ob (thn (n c j σ u _ B k) fun J i=>Le fun y l C w D=>Ll D fun a F K z f q=>?_))));subst K;subst f;obtain⟨t,rfl⟩:=w;cases A;have d:Inv X c σ l {i with heap:=i.heap.push {cls:=.type "slice",data:=.fields #[.none,.none,.int (-1) t]}}:=C.kept fun b o q=>Qc _ q;refine Lp (d.list z) fun m r g G=>CV g.isList.typeIs slot_list_getitem.lookup (LD g.isList (Heap.IsSliceOf.new ..) .none .none (.int _ t) be ?_ (by rw[Qy] <;> exact Kd G r.length)) (by rfl);rw[krv_pick];refine⟨.ref _,_,d.laid (fun b o q=>Qc _ q) (Qh _) ?_,rfl,q _ (d.hok.fresh (Qh _))⟩;exact⟨by rw[Q5];exact G,_,0,r.rev,Qk _ rfl⟩
def ZcK (P:X.calm=true):CallR X (.builtin "max") (fun xs H Q=>∃ (a:VH) (ns:VA VN),xs=[.ref a]/\SqL X.K H a (ns.map V.int)/\ns≠[]/\∀ m,m∈ns->(∀ x∈ns,x<=m)->Q (.int m) H):=by
 intro K s σ H xs S Q I r h;obtain⟨a,ns,rfl,R,y,q⟩:=h;obtain⟨u,rfl,rfl⟩:=XL r;obtain⟨c,J,p,_⟩:=I.list R;have L:=J.length;rw[Qd]at L;have g:a<s.heap.objs.size:=by
  obtain⟨o,n,e,_⟩:=p;exact Ql e
 have E:0<ns.length:=by cases ns with | nil=>exact VM rfl y | cons x l=>simp
 have d:∀ (i:VC) (v:VG),c.toArray[i]?=some v->∃ t,v= .int (ns.getD i 0) t:=fun i v B=>by
  have F:c[i]?=some v:=bp
  have k:i<c.length:=(Qj.mp F).1;have C:(ns.map V.int)[i]?=some (.int (ns.getD i 0)):=by
   rw[Qi,Qb];cases e:ns[i]? with
   | none=>exact VM (WD.mp e) (Ke L k)
   | some b=>rfl
  obtain⟨W,D,_⟩:=J.get C;rw[F]at D;cases D
  trivial
 refine call_max_walk (OU p.isList ⟨s.heap.objs.size,[s.heap.objs.size,a],[s.heap.objs.size],c.toArray.size,_,_,_,rfl,DS (A:=X.A.in1) (I.ok.hd P) _ _ (QB g) c.toArray,
  ⟨⟨_,Qk _ rfl,rfl,rfl⟩,p.isList.push _⟩,?_,by exact Qy▸K8 L E,CmpOf.ints_gt (fun i=>ns.getD i 0) d,?_⟩)
 intro b C;rw[Wu];have:b=s.heap.objs.size\/b=a:=bp
 rcases this with z | z
 rw[z];simp
 exact z▸WZ g
 intro v O Y B U;obtain⟨t,rfl⟩:=d _ _ B;have A:c.toArray.size=ns.length:=by exact Qy▸L.symm
 rw[A];obtain⟨T,N⟩:=argBest_gt (fun i=>ns.getD i 0) (ns.length-1);refine⟨.int _,H,I.kept fun b o e=>U b o (by simpa using QB (Ql e)) (Qc _ e),⟨t,rfl⟩,q _ ?_ fun x M=>?_⟩
 have w:argBest (fun i j=>decide (ns.getD i 0>ns.getD j 0)) (ns.length-1)<ns.length:=Wq T (Vt E);rw[Qb,Qa w];simp
 obtain⟨j,Z,e⟩:=WC M;have:=N j (Md Z);have e2:ns.getD j 0=x:=by grind
 lia
end
end L2
namespace L2
open PySem PySem.Spec PyProof.Rows PySem.W
open PySem PySem.Spec PyProof.Rows
def SeqAt' (H:Hp) (a:VH) (ys:VA V):Prop:=H a=some (.lst ys)\/H a=some (.tup ys)
def SeqAt'.same (s:Same H b) (h:SeqAt' H a ys):SeqAt' b a ys:=h.imp (s _ _) (s _ _)
def Zhg {K} (h:SeqAt' H a ys):ZkD K (.ref a) H ys.length:=h.elim (fun h=>.inl ⟨_,SqL.of h,rfl⟩) fun h=>.inr ⟨_,SqT.of h,rfl⟩
def Zah (K) (h:X.K=K:=by rfl):IxR X (rIx K):=by subst h;exact Znu
def Zb7 {K} (h:SeqAt' H a ys) (e:atI ys i=some v) (q:Q v H):rIx K (.ref a) (.int i) H Q :=
 h.elim (fun h=>.inl ⟨a,ys,i,v,rfl,rfl,SqL.of h,e,q⟩) fun h=>.inr (.inl ⟨a,ys,i,v,rfl,rfl,SqT.of h,e,q⟩)
end L2
namespace Sh
open PySem L2 PyProof.Rows
noncomputable abbrev moT (ts:Ts) (p:VI):VN:=bal ts (Qz ts.length) p
def flatE (es:Es):VA VI:=es.flatMap fun e=>Qw e.2.toNat e.1
def tsE (es:Es):Ts:=(flatE es).map fun x=>(bg x,en x)
def YH (e) (es:Es):flatE (e::es)=Qw e.2.toNat e.1++flatE es:=by
 rfl
def Za0 (es) (e):flatE (es++[e])=flatE es++Qw e.2.toNat e.1:=by
 unfold flatE;simp
def Y2 (c:∀ e∈es,1<=e.2) (x):x∈flatE es↔∃ e∈es,e.1=x:=by
 unfold flatE;rw[UK];constructor;rintro⟨e,a,h⟩;exact⟨e,a,(Uh.mp h).2.symm⟩;rintro⟨e,a,h⟩;have:=c e a;exact⟨e,a,Uh.mpr ⟨br,h.symm⟩⟩
def Zc0 (es):(tsE es).length=(flatE es).length:=by unfold tsE;simp
def Znx (h:i<(flatE es).length):frm (tsE es) i=bg ((flatE es).getD i ""):=by
 unfold frm tsE;rw[Qb,Qi,Qb,Qa h];rfl
def Zmo (h:i<(flatE es).length):tow (tsE es) i=en ((flatE es).getD i ""):=by
 unfold tow tsE;rw[Qb,Qi,Qb,Qa h];rfl
def Yl {l:VA VI} (h:i<l.length):l.getD i ""∈l:=by
 rw[Qb,Qa h];simp
def Zi5 {l:VA VI} (h:x∈l):∃ i,i<l.length/\l.getD i "" = x:=by
 obtain⟨i,a,e⟩:=WC h;exact ⟨i,a,by grind⟩
def JJ (ts) (p):∀ n,n<=ts.length->bal ts (Qz n) p=((ts.take n).map fun t=>dl t.1 p-dl t.2 p).sum
 | 0,_=>by rfl
 | n+1,h=>by
  rw[WE,Xz,JJ ts p n (K4 h),Yt,ZbT,QO h,QK];unfold frm tow;rw[Qb,Qa h];simp
def ZfJ (n) (c:VN):(Qw n c).sum=n*c:=by
 simp
def ZoB (b:∀ e∈es,0<=e.2) (p):moT (tsE es) p=mo es p:=by
 unfold moT;rw[JJ _ _ _ (Qh _),Q8];induction es with
 | nil=>rfl
 | cons e es c =>
  unfold tsE;rw[YH,QK,QK,Uf,WY,WY,ZfJ,Zdv];have:=c fun e f=>b e (Qm _ f);unfold tsE at this;rw[this];unfold mo1 dl ind;rw[Rm (b e Qo ..),Int.mul_sub]
def ZoT (c:∀ e∈es,1<=e.2) (P y):ZnY (tsE es) P y↔Adj es P y:=by
 constructor;rintro⟨i,a,q⟩;rw[Zc0]at a;rw[Znx a,Zmo a]at q;obtain⟨e,b,h⟩:=(Y2 c _).mp (Yl a);rw[←h]at q;exact⟨e,b,q⟩;rintro⟨e,b,q⟩;obtain⟨i,a,h⟩:=Zi5 ((Y2 c e.1).mpr ⟨e,b,rfl⟩);refine⟨i,by rw[Zc0];exact a,?_⟩;rw[Znx a,Zmo a,h];omega
def Zon (c:∀ e∈es,1<=e.2) (h:Rch es a y):RchT (tsE es) a y:=by
 induction h with
 | here=>exact .here
 | step _ k d=>exact .step d ((ZoT c _ _).mpr k)
def Adj.symm (h:Adj es P y):Adj es y P:=by
 obtain⟨e,a,q⟩:=h;exact⟨e,a,q.symm.imp (fun z=>⟨z.2,z.1⟩) fun z=>⟨z.2,z.1⟩⟩
def Rch.trans (h:Rch es a b) (k:Rch es b c):Rch es a c:=by
 induction k with
 | here=>omega
 | step _ j e=>exact .step e j
def Rch.symm (h:Rch es a b):Rch es b a:=by
 induction h with
 | here=>exact .here
 | step _ k d=>exact Rch.trans (.step .here k.symm) d
def lst (x:VI):VC:=x.cps.toList.getLastD 0
def ZeM (h:1<=x.length):x.cps.toList=(bg x).cps.toList++[lst x]:=by
 unfold bg lst;rw[ZI];rcases WF x.cps.toList with e | ⟨l,c,e⟩
 rw[←ZF,e]at h;simp at h;rw[e];simp
def XI (l:VA VI):(Qz l.length).map (fun i=>l.getD i "")=l:=by
 apply QY;intro i;rw[Qi];by_cases a:i<l.length
 rw[Wd a,Wg,Qb,Qa a];rfl;rw[Qr (by exact QU▸Kr a),Qr (Kr a)];rfl
def ZhX:∀ {es:Es},(es.map (·.1)).Nodup->(∀ e∈es,0<=e.2)->∀ e∈es,((flatE es).count e.1)=e.2
 | [],_,_,e,c=>by grind
 | d::es,j,i,e,c=>by
  have b:=Q9.mp j;have l:=i d Qo ..;rw[YH,UD,Ri];rcases Qs.mp c with z | z
  subst z;have:(flatE es).count e.1=0:=by
   rw[List.count_eq_zero];intro q;obtain⟨m,k,h⟩:=UK.mp q
   simp_all
  rw[VD bo];lia;rw[if_neg (fun q=>b.1 (Q6.mpr ⟨e,z,(by simp_all:d.1=e.1).symm⟩))];have:=ZhX b.2 (fun e c=>i e (Qm _ c)) e z;lia
end Sh
namespace PySem
namespace F
def lri_no_len:Gk (.type "list_reverseiterator") "__len__" = pure none:=by rw[KI,R8];rfl
def slot_lri_hint:CH "list_reverseiterator" "__length_hint__" "list_reverseiterator.__length_hint__" :=
 .of (by rfl) (by rfl) (by rfl) (by rfl)
  (by first | omega | exact .inr (by rfl)) (by rfl)
def sub_lri_lri:isSubtype (.type "list_reverseiterator") (.type "list_reverseiterator")=pure true:=by rw[FV];rfl
end F
section
variable {prog:Oh} {w:Ol} {A:NC} {E:VG->VF->Prop} {s:VF}
def Zi7 (a:s.heap.IsRevIter d l (items.size-1)) (f:s.heap.IsList l items) (g:items.size<=Od)
  (h:∀ b tk,Q b {s with toks:=tk}):Oe (Oc prog w) A (MH (.ref d)) Q E s:=by
 have i:=Oz;refine Oa (OG a.typeIs F.lri_no_len (Oa (OG a.typeIs F.slot_lri_hint.lookup ?_)));have c:splitId "list_reverseiterator.__length_hint__" = some ("list_reverseiterator","__length_hint__"):=by rfl
 try dsimp only
 refine Oa (OH a.typeIs F.sub_lri_lri ?_);rw[if_neg be];exact Ob (h _ s.toks)
section
variable {R:GU->VF->Prop}
def Zfo (hh:A.handled=none) (H:items.size<=Od) (S) (t) (h:s.heap.IsRevIter I l (items.size-1)) (hl:s.heap.IsList l items) (g:l≠I) (C:S≠I) (D:S≠l)
  (p:s.heap.get? S=some {cls:=.type "list",data:=.seq #[] t})
  (hR:∀ h' tk c r,(∀ b o,b≠S->b≠I->s.heap.get? b=some o->h'.get? b=some o)->h'.get? S=some {cls:=.type "list",dict:=none,data:=.seq c r,slots:=#[]} ->
   TL (fun i v=>items[items.size-1-i]?=some v) c items.size->R (.ok (.ret .none)) {s with heap:=h',toks:=tk}) :
  Oe (Oc prog w) A.in1 (MI (.ref S) (.ref I) .none)
   (fun j q=>match j with | .done f=>R (.ok f) q | .again r=>r.quiet=true/\OF (Oc prog w) A r R q) (fun e q=>R (.error e) q) s:=by
 have E:S∉[I,l]:=fun m=>by
  simp_all
 refine Oa (Gf h.typeIs ?_);have h1:NG (.ref S) (.ref I)=false:=by simp[NG,C]
 have h2:(NB "list_reverseiterator" == NB "list")=false:=be
 apply Pl;intros;have h3:(NB "list_reverseiterator" == NB "tuple")=false:=be
 simp only[h1,h2,h3,UH,WX,TU];refine Oa (wpAny_pyIter_revIter h (Oa (On (Zi7 h hl H fun b tk=>?_))));have y:∀ h':Nu,(∀ b o,b≠S->s.heap.get? b=some o->h'.get? b=some o)->(0<=items.size/\h'.IsRevIter I l ((items.size:VN)-1-((0:VC):VN))/\h'.IsList l items):=fun h' B=>⟨QN _,by
  have:=h.at (h':=h') fun o e=>B I o (VS C) e;have e:(items.size:VN)-1-((0:VC):VN)=(items.size:VN)-1:=V0
  rw[e];omega,hl.at fun o e=>B l o (VS D) e⟩
 have j:∀ (a:Nu) (k:VC),(∀ b o,b≠S->s.heap.get? b=some o->a.get? b=some o)->a.get? S=some {cls:=.type "list",data:=.seq #[] k} ->
   OF (Oc prog w) A (.builtin "list.extend.loop" ⟨[.ref S,.ref I,.none],[]⟩) R {s with heap:=a,toks:=tk}:=fun a k B n=>by
  exact W3 ((Walks.listRev (prog:=prog) (w:=w) (A:=A.in1) hh I l g items).toS) H _ E _ items.size 0 _ _ _ rfl (QN _) (y a B) n (ItemsOf.nil _) fun q c r m x u=>Moved.eq_with m▸hR q.heap q.toks c r (fun b J z hbI e=>m.heap b J (fun G=>bp) (B b J z e)) x u
 split
 refine Oa (OL (Oa (Oa (OC p rfl ?_))));have d:=QQ (NF (·.push NI)) p rfl;exact OC (hz:=by seq_fits) d rfl (Ob ⟨Oy F.plain_extend_loop _,j _ _ (fun b o z e=>(QG _ _ (VS z)).trans ((QG _ _ (VS z)).trans e)) (QQ (NF (·.pop)) d rfl)⟩)
 exact Ob ⟨Oy F.plain_extend_loop _,j _ _ (fun b o z e=>e) p⟩
def ZbC (B:A.handled=none) (u:items.size<=Od) (S) (x:s.heap.IsRevIter I l (items.size-1)) (k:s.heap.IsList l items) (z:l≠I) (m:S≠I) (j:S≠l)
  (C:s.heap.get? S=some {cls:=.type "list",data:=.seq #[]})
  (y:∀ h' tk a g,(∀ b o,b≠S->b≠I->s.heap.get? b=some o->h'.get? b=some o)->h'.get? S=some {cls:=.type "list",dict:=none,data:=.seq a g,slots:=#[]} ->
   TL (fun i v=>items[items.size-1-i]?=some v) a items.size->R (.ok (.ret .none)) {s with heap:=h',toks:=tk}) :
  Oe (Oc prog w) A.in1 (NP.«list.__init__» ⟨[.ref S,.ref I],[]⟩)
   (fun t p=>match t with | .done f=>R (.ok f) p | .again g=>g.quiet=true/\OF (Oc prog w) A g R p) (fun e p=>R (.error e) p) s:=by
 refine Oa (Oa (Ow C rfl (Ob (Oa (OC C rfl ?_)))));have d:∀ b o,b≠S->s.heap.get? b=some o->(s.heap.update S (NF (fun _=>(#[])))).get? b=some o :=
  fun b o n e=>(QG _ _ (VS n)).trans e
 exact Oa (O5 (Zfo B u S _ (x.at fun o e=>d I o (VS m) e) (k.at fun o e=>d l o (VS j) e) z m j (QQ (NF (fun _=>(#[]))) C rfl) fun h' tk a g D r h=>y h' tk a g (fun b o n q e=>D b o n q (d b o n e)) r h))
end
def ZbS (D:A.handled=none) (C:items.size<=Od) (h:s.heap.IsRevIter I l (items.size-1)) (B:s.heap.IsList l items) (t:l≠I)
  (H:∀ h' tk a r,(∀ b o,b≠I->s.heap.get? b=some o->h'.get? b=some o)->h'.get? s.heap.objs.size=some {cls:=.type "list",dict:=none,data:=.seq a r,slots:=#[]} ->
   TL (fun i v=>items[items.size-1-i]?=some v) a items.size->Q (.ref s.heap.objs.size) {s with heap:=h',toks:=tk}) :
  Oe (Oc prog w) A (call (.type "list") [.ref I]) Q E s:=by
 have p:s.heap.objs.size≠I:=fun e=>by
  obtain⟨o,m,_⟩:=h;exact Q2 _ (e▸Ql m)
 have u:s.heap.objs.size≠l:=fun e=>by
  obtain⟨o,m,_⟩:=B;exact Q2 _ (e▸Ql m)
 refine Dp (Q₁:=fun j c=>j= .ref s.heap.objs.size/\c={s with heap:=s.heap.push _}) F.called_list (F.typeCall_list_1 _) F.entry_list_init
  (code_list_new _ ⟨rfl,rfl⟩) fun j c f=>?_
 obtain⟨rfl,rfl⟩:=f;have y:(s.heap.push {cls:=.type "list",data:=.seq #[]}).get? s.heap.objs.size=some _:=Qk _ rfl;exact ⟨⟨_,y,rfl⟩,F.args_list_init_2 _ _,ZbC (A:=A.in1) D C _ (h.at fun o e=>Qc _ e) (B.at fun o e=>Qc _ e) t p u y fun h' tk a r G n k=>⟨rfl,H h' tk a r (fun b o q e=>G b o (QB (Ql e)) q (Qc _ e)) n k⟩⟩
end
end PySem
namespace L2
open PySem PySem.Spec PyProof.Rows
def Zpn (K:VB) (te:TE):TE:=fun σ H Q=>te σ H fun x H1=>∃ a xs,x= .ref a/\SqL K H1 a xs/\∀ p,H1 p=none->Q (.ref p) (upd H1 p (.lst xs.reverse))
def Zdf {O t f d} (U:X.calm=true) (C:Gl X "list") (v:X.mg "list" = none) (G:Gl X "reversed") (B:X.mg "reversed" = none) (V:PE X e te)
  (J:Oi [.Call (.Name "reversed" t) [e] [] d] X.env=[(false,NQ (.Call (.Name "reversed" t) [e] [] d) X.env)]:=by rfl) (l:Oi [e] X.env=[(false,NQ e X.env)]:=by rfl) :
  PE X (.Call (.Name "list" O) [.Call (.Name "reversed" t) [e] [] d] [] f) (Zpn X.K te):=by
 intro g s σ H Q I h;refine OA (YQ I C v Zh5 (VY (NL (OA (YQ I G B Za6 (VY ?_ l rfl) (by decide) (by decide)))) J rfl) (by decide) (by decide));rw[l];refine NL (thn (V g s σ H _ I h) fun u p ⟨x,H1,z,R,T⟩=>NZ ?_);obtain⟨a,y,rfl,Y,q⟩:=T;cases R;obtain⟨j,L,F,_⟩:=z.list Y;have W:=L.length;have r:a<p.heap.objs.size:=by
  obtain⟨o,n,e,_⟩:=F;exact Ql e
 refine call_reversed_list F.isList (NZ (ZbS (items:=j.toArray) (l:=a) (I:=p.heap.objs.size) (I.ok.hd U) (by rw[Qy];omega) ⟨_,Qk _ rfl,rfl,rfl⟩ (F.isList.push _) (QB r) fun N M m c S P k=>?_));have E:(p.heap.push (revObj a ((j.toArray.size:VN)-1))).objs.size=p.heap.objs.size+1:=Wu ..;rw[E]at P ⊢;refine ⟨.ref (p.heap.objs.size+1),_,z.laid (h':=N) (t':=M) (o:=.lst y.reverse) (fun b u e=>S b u (QB (Ql e)) (Qc _ e)) (Ui _) ⟨by rw[Q5];omega,m.toList,c,?_,by omega⟩,rfl,q _ (z.hok.fresh (Ui _))⟩;have es:j.toArray.size=j.length:=Qy ..;have D:m.toList.length=y.length:=by exact k.1.trans (es.trans W.symm)
 refine ZfB _ _ (by rw[Q5,D]) fun i w u A e2=>?_;have Z:i<y.length:=by
  have:=(Qj.mp A).1;rw[Q5]at this;omega
 have h3:=k.2 i u (by simp_all);rw[Rc Z]at A;obtain⟨_⟩:=L.get A
 simp_all
def ZoY (_ j:VN):Prop:=j≠0/\j.natAbs<2 ^ 4000
def ZiM:OpR X (OV .FloorDiv) (rI ZoY fun i j=>.int (i.fdiv j)):=opI fun _ j _ _ _ _ _ a q=>floordiv_int a.1 q (.inl (PyProof.noPylong_of_log2 (by
 have:=(Nat.log2_lt (fun z=>a.1 br)).mpr a.2;lia)))
def Zja (n) (xs:VC->V) (f:VC->VA V) (X:n<=Od)
  (Z:∀ H,Same r H->(∀ i,i<n->J.go i H/\∀ x p,J.yld i H x p->p=H/\x=xs i)/\J.stop n H)
  (step:∀ i H (M),i<n->Same r H->(∀ a B,Same H B->H a=none->B a=some (.lst (f i))->M (.ref a) B)->g (xs i) (lcS k U σ) H fun I Y=>S I Y M)
  (A:∀ D (c:VA VH) p,c.length=n->(∀ i a,c[i]?=some a->a≠D/\r a=none/\p a=some (.lst (f i)))->Same r p->r D=none->p D=some (.lst (c.map V.ref))->Q (.ref D) p):Jy k U σ g ZnS S J r Q:=by
 intro D F;refine⟨fun i m q H=>m=n-i/\i<=n/\Same r H/\H D=some (.lst q)/\∃ c:VA VH,q=c.map V.ref/\c.length=i/\∀ j a,c[j]?=some a->a≠D/\r a=none/\H a=some (.lst (f j)),⟨n,bo,QN _,Zb F,Zd,[],rfl,rfl,fun j v e=>by simp at e⟩,?_⟩;rintro i m q H ⟨rfl,hi,t,s,c,rfl,G,O⟩;obtain⟨N,P⟩:=Z H t;by_cases d:i<n
 refine .inr ⟨(N i d).1,fun x L y=>La ?_⟩;intros;obtain⟨C,T⟩:=(N i d).2 x L y;subst C T;refine step i L _ d t fun a B E W r6=>⟨E _ _ s,by rw[Qd];exact Nc X d G,n-(i+1),Xo d,rfl,d,fun b o e=>?_,Zd,c++[a],bo,by rw[Qg,G];rfl,fun j u e=>?_⟩
 exact Zi (Zh e F)▸E _ _ (t b o e)
 have w:a≠D:=fun z=>bp
 rcases WS j c.length with h | h | h
 rw[QF h]at e;obtain⟨K,R,l⟩:=O j u e;exact⟨K,R,by exact Zi K▸E _ _ l⟩
 subst h;rw[QC (Qh _),Wv]at e;cases e;exact⟨w,t.free W,by rw[Zi w,G];omega⟩
 rw[Qr (by rw[Qg,Qp];exact h)]at e;cases e
 have e:i=n:=Vk hi d
 subst e;exact .inl ⟨P,A D c H G O t F s⟩
end L2
namespace Sh
open PySem L2 PyProof.Rows
seal PE PS PSs PT PW L2.PA PI PG PGs PO PC PCs OpR UnR CallR MtR IxR SlR
noncomputable def top (i:VC):Mv:=PySem.Challenge.pw_shredjoin_k72_whole_filled.main.body.getD i (.Pass ⟨0,0,0,0⟩)
structure Blt (mg:VI->VE VG):Prop where
 isi:mg "isinstance" = none
 int:mg "int" = none
 bool:mg "bool" = none
 str:mg "str" = none
 tuple:mg "tuple" = none
 list:mg "list" = none
 len:mg "len" = none
 range:mg "range" = none
 all:mg "all" = none
 min:mg "min" = none
 sorted:mg "sorted" = none
 rev:mg "reversed" = none
 zip:mg "zip" = none
 sum:mg "sum" = none
 set:mg "set" = none
 dict:mg "dict" = none
 max:mg "max" = none
 enum:mg "enumerate" = none
section
def Z8 (h:z.length<=1000):(tx z).length<=Od:=by rw[Zs];exact Zx (Ks h)
def Zf4 (h:n<=5000):n<Od:=Wq h be
end
end Sh
namespace Sh
open PySem L2 PyProof.Rows
seal PE PS PSs PT PW L2.PA PI PG PGs PO PC PCs OpR UnR CallR MtR IxR SlR
section
def Cd (z:VA VC):Prop:=∀ c∈z,97<=c/\c<=122
end
def Z5 (h:0<=n):NH (tx z) none (some n)=tx (z.take n.toNat):=by
 apply ZZ;rw[XF h,ZI,ZI]
section
def ZiN (cs:VA VC) (h:cs.length<=1000):(((cs.map fun c=>tx [c]).map fun x=>x.length).sum)+(cs.map fun c=>tx [c]).length*("" : VI).length<=16777216:=by
 have f:("" : VI).length=0:=rfl;have e:((cs.map _).map _).sum<=(cs.map fun c=>tx [c]).length*1:=ZaH _ 1 fun y g=>by
  obtain⟨c,_,rfl⟩:=Q6.mp g;rw[Zs];simp
 rw[f];rw[Qd]at e;lia
end
def XV (h:1<=x.length):NH x none (some (-1))=bg x:=by
 apply ZZ;rw[MY (slice_closes_to_neg be br rfl)];unfold bg;rw[ZI,Re,ZF];simp;exact q1
def Zbg (h:1<=x.length):NH x (some 1) none=en x:=by
 apply ZZ;rw[Yc be br];rfl
def PA (H:Hp) (vs:VA V) (es:Es):Prop:=vs.length=es.length/\∀ (i:VC) (e:VI×VN),es[i]?=some e->∃ b,vs[i]?=some (.ref b)/\H b=some (.tup [.str e.1,.int e.2])
def PA.same (h:PA H vs es) (s:TSame H a):PA a vs es:=⟨h.1,fun i e q=>by
 obtain⟨b,d,c⟩:=h.2 i e q;exact⟨b,d,s _ _ c⟩⟩
def HeapV (H:Hp) (v:V) (es:Es):Prop:=∃ q vs,v= .ref q/\H q=some (.tup vs)/\PA H vs es
def HeapV.same (h:HeapV H v es) (s:Same H d):HeapV d v es:=by
 obtain⟨q,a,e,c,b⟩:=h;exact⟨q,a,e,s _ _ c,b.same s.tup⟩
structure Zie (es:Es):Prop where
 few:es.length<=301
 many:∀ e∈es,0<=e.2/\e.2<=1000
 long:∀ e∈es,1<=e.1.length/\e.1.length<=1000
structure Pts (es:Es) (ks:VA VI):Prop where
 nd:ks.Nodup
 mem:∀ P,P∈ks↔∃ e∈es,bg e.1=P\/en e.1=P
 len:ks.length<=2*es.length
def Pts.nil:Pts [] []:=⟨Ub,fun P=>bo,Qh _⟩
noncomputable def Yn (ks:VA VI) (x:VI):VA VI:=if x∈ks then ks else ks++[x]
def Jv (h:ks.Nodup):(Yn ks x).Nodup:=by
 unfold Yn
 grind
def addK_mem:y∈Yn ks x↔y∈ks\/y=x:=by
 unfold Yn
 grind
def YU (ks) (x):(Yn ks x).length<=ks.length+1:=by
 unfold Yn
 grind
def Pts.step {ks} (h:Pts es ks) (e):Pts (es++[e]) (Yn (Yn ks (bg e.1)) (en e.1)) where
 nd:=Jv (Jv h.nd)
 mem:=fun P=>by
  rw[addK_mem,addK_mem,h.mem];constructor;rintro((⟨x,c,q⟩ | q) | q);exact⟨x,QM _ c,q⟩;exact⟨e,bo,.inl q.symm⟩;exact⟨e,bo,.inr q.symm⟩;rintro⟨x,c,q⟩;rcases QA.mp c with z | z
  exact .inl (.inl ⟨x,z,q⟩);rw[Qq.mp z]at q;rcases q with q | q
  exact .inl (.inr q.symm);exact .inr q.symm
 len:=by
  have f:=YU (Yn ks (bg e.1)) (en e.1);have d:=YU ks (bg e.1);have:=h.len;rw[Qg,Qp];lia
def Pts.zero (h:Pts es ks) (c:P∉ks):mo es P=0:=Zdu fun e b=>⟨fun q=>c ((h.mem P).mpr ⟨e,b,.inl q⟩),fun q=>c ((h.mem P).mpr ⟨e,b,.inr q⟩)⟩
def Zal (b:y∉ks->g y=0):(XU (gD ks g) (VJ y)).getD (.int 0)= .int (g y):=by
 rw[ZhI];split
 rfl;rename_i c;rw[b c];rfl
def Zl0 {ss:VA VI}:ss.filter p=((Qz ss.length).filter fun i=>p (ss.getD i "")).map fun i=>ss.getD i "":=by
 have e:ss=(Qz ss.length).map fun i=>ss.getD i "":=by
  apply QY;intro i;rw[Qi];by_cases c:i<ss.length
  rw[Wd c,Wg,Qb,Qa c];rfl;rw[Qr (Kr c),Qr (by simp;exact Kr c)];rfl
 conv=>lhs;rw[e]
 rw[List.filter_map];rfl
def Zk9 (x:VI) (n:VN) (v:V) (H:Hp):Prop:=∃ b,v= .ref b/\H b=some (.tup [.str x,.int n])
def ZmS {ss:VA VI} {f:VI->VN} (k:vs.length=((Qz ss.length).filter fun i=>p (ss.getD i "")).length)
  (n:∀ (j i:VC) (v),((Qz ss.length).filter fun i=>p (ss.getD i ""))[j]?=some i->vs[j]?=some v->Zk9 (ss.getD i "") (f (ss.getD i "")) v H):PA H vs ((ss.filter p).map fun x=>(x,f x)):=by
 rw[Zl0];refine⟨by rw[Qd,Qd,k],fun j e h=>?_⟩;rw[Qi,Qi]at h;cases g:((Qz ss.length).filter fun i=>p (ss.getD i ""))[j]? with
 | none=>simp_all
 | some i =>
  rw[g]at h;cases h;have c:j<vs.length:=by exact k▸(Qj.mp g).1
  obtain⟨b,m,l⟩:=n j i _ g (Qa c);exact⟨b,by rw[Qa c,m],l⟩
structure SPts (es:Es) (ss:VA VI):Prop where
 srt:(ss.map fun x=>x.cps.toList).Pairwise (· < ·)
 pts:Pts es ss
def SPts.of (h:Pts es ks) (p:ss.Perm ks) (s:(ss.map fun x=>x.cps.toList).Pairwise (· < ·)):SPts es ss :=
 ⟨s,p.nodup_iff.mpr h.nd,fun P=>by rw[p.mem_iff,h.mem],by exact p.length_eq▸h.len⟩
section
variable {P:Oh} {w:Ol} {K:VB} {mg:VI->VE VG} {base:Nu}
def Z2 {x:VI} (h:x.length<=1000):x.length<=Od:=Zx (Ks h)
abbrev Zbn:Mv:=top 12
abbrev Zi0:VA VI:=["piece"]
def Zga:Zp Zi0 ["piece"] (Zf Zbn):=⟨rfl,rfl,rfl,bo,rfl,bh,bh⟩
def Zc2:Sp:=fun vs H Q _=>∃ x:VI,vs=[.str x]/\1<=x.length/\x.length<=1000/\Q (.str (bg x)) H
def Zdn (D:HasDef K mg "begin_of" Zbn ["piece"]):FOk P w K mg base 1 "begin_of" ["piece"] Zc2:=by
 refine D.ok Zga (fun d H Q E h=>?_) fun f e A a s H d Q E i h=>?_;obtain⟨x,rfl,_⟩:=h;rfl;refine Lr h fun x b c g k=>?_;subst b;refine ⟨_,Zj (Zu (Zr ZP (pv 0) Zy (Zv (XC YA Zg)))),⟨_,rfl,_,rfl,_,rfl,_,rfl,Z2 g,?_⟩⟩;rw[←XV c]at k;omega
abbrev Zgj:Mv:=top 13
noncomputable abbrev Zm9:VA VI:=["piece"]
def Zk3:Zp Zm9 ["piece"] (Zf Zgj):=⟨rfl,rfl,rfl,bo,rfl,bh,bh⟩
def Zf2:Sp:=fun vs H Q _=>∃ x:VI,vs=[.str x]/\1<=x.length/\x.length<=1000/\Q (.str (en x)) H
def ZgY (D:HasDef K mg "end_of" Zgj ["piece"]):FOk P w K mg base 1 "end_of" ["piece"] Zf2:=by
 refine D.ok Zk3 (fun d H Q E h=>?_) fun f e A a s H d Q E i h=>?_;obtain⟨x,rfl,_⟩:=h;rfl;refine Lr h fun x b c g k=>?_;subst b;refine ⟨_,Zj (Zu (Zr ZP (pv 0) (Zv Zg) Zy)),⟨_,rfl,_,rfl,_,rfl,Z2 g,?_⟩⟩;rw[←Zbg c]at k;omega
end
def Zbs (z) (L):(pcs z L).length=z.length-L+1:=by unfold pcs;simp
section
structure CntD (ws ks:VA VI):Prop where
 nd:ks.Nodup
 mem:∀ x,x∈ks↔x∈ws
 len:ks.length<=ws.length
end
def ZkS {l m:VA VI} (n:(l.map fun x=>x.cps.toList).Pairwise (· < ·)) (g:(m.map fun x=>x.cps.toList).Pairwise (· < ·)) (h:∀ x,x∈l↔x∈m):l=m:=by
 have e:=ZaI n g fun c=>by
  simp_all
 have f:∀ (l m:VA VI),(l.map fun x=>x.cps.toList)=(m.map fun x=>x.cps.toList)->l=m:=by
  intro l;induction l with
  | nil =>
   simp
  | cons x l i =>
   intro m e;cases m with
   | nil=>cases e
   | cons y m =>
    injection e with j k
    rw[ZZ j,i m k]
 exact f l m e
def SPts.one (h:SPts es l) (k:SPts es m):l=m:=ZkS h.srt k.srt fun x=>by rw[h.pts.mem,k.pts.mem]
section
variable {P:Oh} {w:Ol} {K:VB} {mg:VI->VE VG} {base:Nu}
abbrev Zbi:Mv:=top 16
abbrev ZiX:VA VI:=["H","more","piece","many"]
def scMoreOut:Zp ZiX ["H"] (Zf Zbi):=⟨rfl,rfl,rfl,bh,rfl,bh,bh⟩
def JQ:Sp:=fun vs H Q _=>∃ (v:V) (es:Es),vs=[v]/\HeapV H v es/\Zie es/\∀ d H' ks,Same H H'->H' d=some (.dK (gD ks (mo es)))->Pts es ks->Q (.ref d) H'
def Zdk (D:HasDef K mg "more_out" Zbi ["H"]) (p:FOk P w K mg base 1 "begin_of" ["piece"] Zc2) (r:FOk P w K mg base 1 "end_of" ["piece"] Zf2):FOk P w K mg base 2 "more_out" ["H"] JQ:=by
 refine D.ok scMoreOut (fun N H Q E h=>?_) (fun f cdv A O s H N Q E G h=>?_)
 obtain⟨v,a,rfl,_⟩:=h;rfl
 apply Lb;intros;apply La;intros;obtain⟨v,a,rfl,⟨q,N,rfl,hq,z⟩,hF,k⟩:=h;have L:=ZdE G;refine⟨_,(Zc (Zm 1 scMoreOut.nd Xy)
  (Zc (Z1 VP rfl (Yv (pv 0)) (ZW 2 K rfl (Zq (Zw 2 scMoreOut.nd) (Zq (Zw 3 scMoreOut.nd) ZV)))
   (Zc (Y7 L (pv 1) (ZH p G (Za (pv 2) Ze)) (Zo ZJ (YE L (pv 1) (ZH p G (Za (pv 2) Ze)) Zg ⟨rfl,rfl,rfl,rfl⟩) (pv 3)) rfl)
  (Zj (Y7 L (pv 1) (ZH r G (Za (pv 2) Ze)) (Zo YL (YE L (pv 1) (ZH r G (Za (pv 2) Ze)) Zg ⟨rfl,rfl,rfl,rfl⟩) (pv 3)) rfl))))
  (Zj (Zu (pv 1))))),?_⟩
 apply J1;intros;intro d hd;have Z:=Zb (o:=.dK []) hd;refine⟨_,rfl,q,rfl,⟨_,SqT.of (Z _ _ hq)⟩,?_⟩;refine Xc (K:=K) (a:=q) (xs:=N) (fun i σ t=>(∃ S X:VE V,σ=[some (.ref q),some (.ref d),S,X])/\Same H t/\∃ m,Pts (a.take i) m/\t d=some (.dK (gD m (mo (a.take i)))))
  ⟨⟨none,none,rfl⟩,Z,[],Pts.nil,Zd⟩ (fun i σ t _ ⟨_,C,_⟩=>SqT.of (C _ _ hq)) ?_ ?_
 rintro i x σ t hi ⟨⟨S,X,rfl⟩,C,m,B,g⟩;have R:i<N.length:=(Qj.mp hi).1;have y:i<a.length:=by exact z.1▸R
 apply La;intros;obtain⟨b,e1,e2⟩:=z.2 i a[i] (Qa y);rw[hi]at e1;cases e1;obtain⟨M,J⟩:=hF.long a[i] (QH y);have W:=B.len;have j:=hF.few;rw[QD]at W;refine⟨b,_,rfl,SqT.of (C _ _ e2),rfl,_,_,rfl,_,_,rfl,rfl,?_⟩;apply Db;intros;have I:a.take (i+1)=a.take i++[a[i]]:=QO y;generalize a[i]=e at *;refine⟨_,rfl,d,rfl,.inl ⟨_,.inl g⟩,_,rfl,e.1,rfl,M,J,_,DGet.kk (k:=VJ (bg e.1)) g,_,rfl,_,_,(Zal (ks:=m) (g:=mo (a.take i)) (fun(F:bg e.1∉m)=>B.zero F)),rfl,_,rfl,_,rfl,e.1,rfl,M,J,d,_,rfl,DPut.kk (k:=VJ (bg e.1)) g (by rw[ZaX];exact ZB (Ti j W)),?_⟩;rw[ZaW];have n:(upd t d _) d=some (.dK (gD (Yn m (bg e.1)) fun x=>if x=bg e.1 then mo (a.take i) (bg e.1)+e.2 else mo (a.take i) x)):=Zd;have U:=Zal (ks:=Yn m (bg e.1)) (g:=fun x=>if x=bg e.1 then mo (a.take i) (bg e.1)+e.2 else mo (a.take i) x) (y:=en e.1) fun F=>by
  rw[addK_mem,T5]at F;rw[if_neg F.2,B.zero F.1]
 refine ⟨_,rfl,d,rfl,.inl ⟨_,.inl n⟩,_,rfl,e.1,rfl,M,J,_,DGet.kk (k:=VJ (en e.1)) n,_,rfl,_,_,U,rfl,_,rfl,_,rfl,e.1,rfl,M,J,d,_,rfl,DPut.kk (k:=VJ (en e.1)) n (by rw[ZaX];exact ZB (Tj W (YU m (bg e.1)) j)),⟨⟨_,_,rfl⟩,fun c u hc=>?_,Yn (Yn m (bg e.1)) (en e.1),by exact I▸B.step e,?_⟩⟩
 rw[Jd,Zi (Zh hc hd)];exact C c u hc
 rw[Zd,ZaW,I];refine NA (fun l=>some (HO.dK l)) (X7 fun x _=>?_);rw[Zha];unfold mo1 ind;by_cases Y:x=en e.1
 subst Y;rw[VD rfl,VD rfl];by_cases o:en e.1=bg e.1
 rw[VD o,VD o.symm,o];omega
 rw[if_neg o,if_neg (VS o)];lia
 rw[if_neg Y,if_neg (VS Y)];by_cases o:x=bg e.1
 subst o;rw[VD rfl,VD rfl];lia
 rw[if_neg o,if_neg (VS o)];lia
 rintro σ t ⟨⟨S,X,rfl⟩,C,m,B,g⟩;rw[z.1,Q8]at B g;exact⟨_,rfl,k d t m C g B⟩
abbrev XY:Mv:=top 17
abbrev Zcs:VA VI:=["H"]
def ZeZ:Zp Zcs ["H"] (Zf XY):=⟨rfl,rfl,rfl,bo,rfl,bh,bh⟩
def Zec:Sp:=fun vs H Q _=>∃ (v:V) (es:Es),vs=[v]/\HeapV H v es/\Zie es/\∀ v' H' ss,Same H H'->HeapV H' v' (ups (mo es) ss)->SPts es ss->Q v' H'
def Zcp (D:HasDef K mg "begins_of" XY ["H"]) (B:Blt mg) (m:FOk P w K mg base 2 "more_out" ["H"] JQ):FOk P w K mg base 3 "begins_of" ["H"] Zec:=by
 refine D.ok ZeZ (fun M H Q E h=>?_) (fun f cdv A y s H M Q E u h=>?_)
 obtain⟨v,n,rfl,_⟩:=h;rfl
 apply Lb;intros;obtain⟨v,n,rfl,hV,U,k⟩:=h;refine ⟨_,(Zj (Zu (Yw Z7 rfl B.tuple YX (Za (Yd (Zf XY) Zcs ["point","more"] [] rfl (Xn (Zk (Xf rfl) rfl B.sorted XA (Za (Zbr (ZH m u (Za (pv 0) Ze))) Ze))) (fun _ _ _ _ _=>ZW 2 K rfl (Zq (Yz 0) (Zq (Yz 1) ZV))) (fun _ _ _ _ _=>Jm (Zt Zcj (pv 1) Zg (Zz _))) (fun _ _ _ _ _=>(J2 (Za (pv 0) (Za (pv 1) Ze))))) Ze)))),⟨_,rfl,v,n,rfl,hV,U,fun d H1 ks s1 N z=>⟨d,_,rfl,N,fun p R=>?_⟩⟩⟩;have I:=z.len;have T:=U.few;refine Pg p d ks _ ⟨rfl,Zd,Zb R _ _ N,z.nd,Tl T I,fun D1 H2 M a s2 g j l hl hv=>⟨D1,rfl,⟨_,SqL.of l⟩,ZbD a.length _ (fun i=>decide (0<(mo n) (a.getD i ""))) (fun i v H=>Zk9 (a.getD i "") ((mo n) (a.getD i "")) v H) (Zl (Sg I g.length_eq T)) (fun i v H H' C=>Lh fun b o F=>⟨b,o,C _ _ F⟩) (by have:=ZbH (K:=K) (SqL.of l);rw[hl]at this;trivial) ?_ ?_⟩⟩
 intro i H3 Qt Qf W C O X;obtain⟨b,o,F⟩:=hv i a[i] (Qa W);have ev:M.getD i .non= .ref b:=by rw[Qb,o];rfl
 have x:a.getD i "" = a[i]:=by rw[Qb,Qa W];rfl
 rw[x]at O X;rw[ev];refine ⟨b,_,rfl,SqT.of (C _ _ F),rfl,_,_,rfl,_,_,rfl,rfl,⟨_,rfl,_,_,rfl,rfl,_,rfl,?_⟩⟩;by_cases c:0<(mo n) a[i]
 refine Xu (VR c) (⟨_,rfl,_,rfl,Zl (show 2<=1000 by decide),fun r u=>O (VR c) _ _ (Zb u) ⟨r,rfl,Zd⟩⟩)
 exact Ys (VO c) (X (VO c) _ (Same.refl _))
 intro Y e H3 L Z t hD2 G;refine⟨Y,e,rfl,.inl ⟨SqL.of G,fun q hq=>?_⟩⟩;have S:=Zb (o:=.tup e) hq;exact k (.ref q) _ a (((s1.trans (Zb R)).trans s2).trans (t.trans S)) ⟨q,e,rfl,Zd,(ZmS L Z).same S.tup⟩ (SPts.of z g j)
end
end Sh
namespace L2
open PySem PySem.Spec PyProof.Rows
def ZoQ:Op "set" = some (.type "set"):=by rfl
end L2
namespace Sh
open PySem L2 PyProof.Rows
seal PE PS PSs PT PW L2.PA PI PG PGs PO PC PCs OpR UnR CallR MtR IxR SlR
def ZfM {es:Es} {f:VI->VI} (g:vs.length=es.length) (c:∀ (i) (v:V),vs[i]?=some v->v= .str (f (es.getD i ("",0)).1)):vs=(es.map fun e=>f e.1).map V.str:=by
 apply QY;intro i;by_cases b:i<vs.length
 have a:i<es.length:=K8 g b
 rw[Qa b,c i _ (Qa b),Qi,Qi,Qb,Qa a];rfl;rw[Qr (Kr b),Qr (by rw[Qd,Qd];exact Nh g b)]
section
variable {P:Oh} {w:Ol} {K:VB} {mg:VI->VE VG} {base:Nu}
def TupS (H:Hp) (v:V) (ss:VA VI):Prop:=∃ q,v= .ref q/\H q=some (.tup (ss.map V.str))
abbrev Xl:Mv:=top 15
abbrev Zac:VA VI:=["H"]
def ZeY:Zp Zac ["H"] (Zf Xl):=⟨rfl,rfl,rfl,bo,rfl,bh,bh⟩
def Zd9:Sp:=fun vs H Q _=>∃ (v:V) (es:Es),vs=[v]/\HeapV H v es/\Zie es/\∀ v' H' ss,Same H H'->TupS H' v' ss->SPts es ss->Q v' H'
def Zcl (D:HasDef K mg "points_of" Xl ["H"]) (B:Blt mg) (t:FOk P w K mg base 1 "begin_of" ["piece"] Zc2) (y:FOk P w K mg base 1 "end_of" ["piece"] Zf2):FOk P w K mg base 2 "points_of" ["H"] Zd9:=by
 refine D.ok ZeY (fun m H Q E h=>?_) (fun f cdv A outer s H m Q E hr h=>?_)
 obtain⟨v,a,rfl,_⟩:=h;rfl
 apply Lb;intros;apply La;intros;obtain⟨v,a,rfl,⟨q,m,rfl,I,n⟩,O,k⟩:=h;refine⟨_,(Zj (Zu (Yw Z7 rfl B.tuple YX (Za (Zk (ZaE rfl) rfl B.sorted XA (Za (Yw (Zh2 rfl) rfl B.set ZoQ (Za (Zo XH (Yd (Zf Xl) Zac ["piece","many"] [] rfl (Yv (pv 0)) (fun _ _ _ _ _=>ZW 2 K rfl (Zq (Yz 0) (Zq (Yz 1) ZV))) (fun _ _ _ _ _=>YK) (fun _ _ _ _ _=>(ZH t hr (Za (pv 0) Ze))))
  (Yd (Zf Xl) Zac ["piece","many"] [] rfl (Yv (pv 0)) (fun _ _ _ _ _=>ZW 2 K rfl (Zq (Yz 0) (Zq (Yz 1) ZV))) (fun _ _ _ _ _=>YK) (fun _ _ _ _ _=>(ZH y hr (Za (pv 0) Ze))))) Ze)) Ze)) Ze)))),?_⟩
 have J:=O.few;have U:=n.1;refine⟨_,rfl,q,rfl,⟨_,SqT.of I⟩,X5 m.length (fun i=>m.getD i .non) (fun i v _=>v= .str (bg (a.getD i ("",0)).1)) (Zl (Si J U)) (fun _ _ _ _ _ r=>r) (Jz (SqT.of I)) ?_ ?_⟩
 intro i H3 Qe hi Y R;have c:i<a.length:=K8 U hi
 obtain⟨b,e1,e2⟩:=n.2 i a[i] (Qa c);have ev:m.getD i .non= .ref b:=by rw[Qb,e1];rfl
 have T:a.getD i ("",0)=a[i]:=by rw[Qb,Qa c];rfl
 obtain⟨W,L⟩:=O.long a[i] (QH c);rw[ev];refine⟨b,_,rfl,SqT.of (Y _ _ e2),rfl,_,_,rfl,_,_,rfl,rfl,_,rfl,a[i].1,rfl,W,L,R _ _ (Same.refl _) ?_⟩;rw[T]
 intro D1 vs1 H3 hl1 Z d hD1 j;rw[ZfM (f:=bg) (Sd U hl1) Z]at j;refine⟨_,rfl,q,rfl,⟨_,SqT.of (d _ _ I)⟩,X5 m.length (fun i=>m.getD i .non) (fun i v _=>v= .str (en (a.getD i ("",0)).1)) (Zl (Si J U)) (fun _ _ _ _ _ r=>r) (Jz (SqT.of (d _ _ I))) ?_ ?_⟩
 intro i H4 Qe hi Y R;have c:i<a.length:=K8 U hi
 obtain⟨b,e1,e2⟩:=n.2 i a[i] (Qa c);have ev:m.getD i .non= .ref b:=by rw[Qb,e1];rfl
 have T:a.getD i ("",0)=a[i]:=by rw[Qb,Qa c];rfl
 obtain⟨W,L⟩:=O.long a[i] (QH c);rw[ev];refine⟨b,_,rfl,SqT.of (Y _ _ (d _ _ e2)),rfl,_,_,rfl,_,_,rfl,rfl,_,rfl,a[i].1,rfl,W,L,R _ _ (Same.refl _) ?_⟩;rw[T]
 intro D2 vs2 H4 hl2 X u hD2 g;rw[ZfM (f:=en) (Sd U hl2) X]at g;refine Pg D1 D2 _ _ ⟨rfl,rfl,u _ _ j,g,Zl (by simp only[Qd];exact Sj J),fun p hp=>⟨p,_,rfl,SqL.of (by rw[Zd,QK]),by simp only[Qg,Qd];exact Sj J,fun p2 N S hnd G hkl=>?_⟩⟩;have F:N.length<=2*a.length:=by simp only[Qg,Qd]at hkl;lia
 refine ⟨p2,N,rfl,Zd,Tl J F,fun q2 ss M hpm C=>⟨q2,_,rfl,.inl ⟨SqL.of Zd,fun l hl=>k (.ref l) _ ss (((((d.trans u).trans (Zb (o:=.lst ((a.map fun e=>bg e.1).map V.str++(a.map fun e=>en e.1).map V.str)) hp)).trans (Zb S)).trans (Zb M)).trans (Zb hl)) ⟨l,rfl,Zd⟩ (SPts.of (ks:=N) ⟨hnd,fun x=>?_,F⟩ hpm C)⟩⟩⟩;rw[G,QA,Q6,Q6];constructor
 rintro(⟨e,o,z⟩ | ⟨e,o,z⟩)
 exact⟨e,o,.inl z⟩
 exact⟨e,o,.inr z⟩
 rintro⟨e,o,z | z⟩
 exact .inl ⟨e,o,z⟩
 exact .inr ⟨e,o,z⟩
end
def rD (ks:VA VI) (adr:VI->VH):VA (Key×V):=ks.map fun x=>((VJ x:Key),V.ref (adr x))
def Zgt (ks) (b):(rD ks b).length=ks.length:=by unfold rD;simp
def Jw (ks) (a) (y):XU (rD ks a) (VJ y)=if y∈ks then some (.ref (a y))else none:=JL _ y ks
def Zj2 (h:y∉ks):Jl (rD ks a) (VJ y) (.ref p)=rD (ks++[y]) fun x=>if x=y then p else a x:=by
 rw[Zbp _ (by rw[Jw,if_neg h])];unfold rD;rw[QK,WM];dsimp only;rw[VD rfl];congr 1;refine Wl fun x b=>?_;rw[if_neg fun e:x=y=>h (e▸b)]
structure TJ (H H2:Hp) (d:VH) (ks:VA VI) (adr:VI->VH) (r:VI->VA VI):Prop where
 sm:Same H H2
 dn:H d=none
 dd:H2 d=some (.dK (rD ks adr))
 nd:ks.Nodup
 row:∀ P∈ks,H2 (adr P)=some (.lst ((r P).map V.str))
 fresh:∀ P∈ks,H (adr P)=none
 inj:∀ P∈ks,∀ P'∈ks,adr P=adr P'->P=P'
 out:∀ P,P∉ks->r P=[]
noncomputable def ZdR (r:VI->VA VI) (P y:VI):VI->VA VI:=fun x=>if x=P then r P++[y]else r x
def ZeN:z∈ZdR r P y x↔z∈r x\/(x=P/\z=y):=by
 unfold ZdR
 grind
def ZbU (h:∀ x,(r x).length<=n) (x):(ZdR r P y x).length<=n+1:=by
 unfold ZdR
 grind
def TJ.ne (J:TJ H c d ks a r) (b:P∈ks):a P≠d:=fun e=>by
 have:=J.row P b;rw[e,J.dd]at this
 simp_all
def TJ.old (J:TJ H i d ks g r) (a:P∈ks) (k:i p=none) :
  TJ H (upd (upd i p (.lst [])) (g P) (.lst ((r P).map V.str++[.str y]))) d (Yn ks P) g (ZdR r P y):=by
 have m:Yn ks P=ks:=by unfold Yn;rw[VD a]
 rw[m];have h:=Zb (o:=.lst []) k;refine⟨fun b u j=>?_,J.dn,?_,J.nd,fun Q f=>?_,J.fresh,J.inj,fun Q f=>?_⟩;rw[Zi fun e=>by rw[e,J.fresh P a]at j;grind];exact h _ _ (J.sm b u j);exact Zi (VS (J.ne a))▸h _ _ J.dd;unfold ZdR;by_cases c:Q=P
 subst c;rw[Zd,VD rfl,QK];rfl;rw[if_neg c,Zi fun e=>c (J.inj Q f P a e)];exact h _ _ (J.row Q f);unfold ZdR;rw[if_neg fun e:Q=P=>f (e▸a)];exact J.out Q f
def TJ.new (J:TJ H w d ks k r) (v:P∉ks) (o:w p=none) :
  TJ H (upd (upd (upd w p (.lst [])) d (.dK (rD (ks++[P]) fun x=>if x=P then p else k x))) p (.lst ([]++[.str y]))) d (Yn ks P) (fun x=>if x=P then p else k x) (ZdR r P y):=by
 have A:Yn ks P=ks++[P]:=by unfold Yn;rw[if_neg v]
 rw[A];have s:d≠p:=fun e=>by rw[←e,J.dd]at o;grind
 have j:∀ Q∈ks,k Q≠p:=fun Q i e=>by have:=J.row Q i;simp_all
 have m:∀ Q,Q∈ks++[P]->Q∈ks\/Q=P:=fun Q h=>bp
 refine⟨fun b u t=>?_,J.dn,?_,?_,fun Q i=>?_,fun Q i=>?_,fun Q i l g e=>?_,fun Q i=>?_⟩
 have q:=J.sm b u t;rw[Zi (Zh q o),Zi (Zh t J.dn),Zi (Zh q o)];omega
 rw[Zi s,Zd]
 exact WT.mpr ⟨J.nd,bo,fun a E b t e=>bp⟩
 unfold ZdR;by_cases c:Q=P
 subst c;rw[VD rfl,VD rfl,Zd,J.out Q v];rfl
 rw[if_neg c,if_neg c];have g:Q∈ks:=(m Q i).resolve_right c;rw[Zi (j Q g),Zi (J.ne g),Zi (j Q g)];exact J.row Q g
 skip
 by_cases c:Q=P
 rw[VD c];cases C:H p with
 | none=>rfl
 | some u=>have:=J.sm p u C;rw[o]at this;cases this
 exact if_neg c▸J.fresh Q ((m Q i).resolve_right c)
 skip
 by_cases c:Q=P
 by_cases n:l=P
 simp_all
 rw[VD c,if_neg n]at e;exact VM e.symm (j l ((m l g).resolve_right n))
 by_cases n:l=P
 simp_all
 rw[if_neg c,if_neg n]at e;exact J.inj Q ((m Q i).resolve_right c) l ((m l g).resolve_right n) e
 have D:Q∉ks:=fun z=>i (QM _ z);have q:¬ Q=P:=fun z=>i (by simp[z]);unfold ZdR;exact if_neg q▸J.out Q D
def TiR (H:Hp) (q d:VH) (es:Es) (i:VC):L2.St->Hp->Prop:=fun σ H2=>(∃ z2 z3:VE V,σ=[some (.ref q),some (.ref d),z2,z3])/\∃ ks adr r,TJ H H2 d ks adr r/\Pts (es.take i) ks/\(∀ P y,y∈r P↔Adj (es.take i) P y)/\∀ P,(r P).length<=2*i
section
variable {P:Oh} {w:Ol} {K:VB} {mg:VI->VE VG} {base:Nu}
abbrev XO:Mv:=top 20
abbrev Zdq:VA VI:=["H","tied","piece","many"]
def scTiedPoints:Zp Zdq ["H"] (Zf XO):=⟨rfl,rfl,rfl,bh,rfl,bh,bh⟩
def ZjK:Sp:=fun vs H Q _=>∃ (v:V) (es:Es),vs=[v]/\HeapV H v es/\Zie es/\∀ d H' ks adr r,TJ H H' d ks adr r->Pts es ks->(∀ P y,y∈r P↔Adj es P y)->(∀ P,(r P).length<=602)->Q (.ref d) H'
def Zaz (D:HasDef K mg "tied_points" XO ["H"]) (Z:FOk P w K mg base 1 "begin_of" ["piece"] Zc2) (g20_:FOk P w K mg base 1 "end_of" ["piece"] Zf2):FOk P w K mg base 2 "tied_points" ["H"] ZjK:=by
 refine D.ok scTiedPoints (fun vs H Q E h=>?_) (fun f cdv A outer s H vs Q E hr h=>?_)
 obtain⟨v,G,rfl,_⟩:=h;rfl
 apply Lb;intros;apply La;intros;obtain⟨v,G,rfl,⟨q,vs,rfl,hq,S⟩,hF,k⟩:=h;refine⟨_,(Zc (Zm 1 scTiedPoints.nd Xy)
  (Zc (Z1 VP rfl (Yv (pv 0)) (ZW 2 K rfl (Zq (Zw 2 scTiedPoints.nd) (Zq (Zw 3 scTiedPoints.nd) ZV)))
   (Zc (Z4 (XS F.plainAttrs_list F.slot_list_append F.type_list_append Yj (Zdg (pv 1) (ZH Z hr (Za (pv 2) Ze)) (ZC Ze) ⟨rfl,rfl,rfl,rfl⟩) (Za (ZH g20_ hr (Za (pv 2) Ze)) Ze)))
  (Zj (Z4 (XS F.plainAttrs_list F.slot_list_append F.type_list_append Yj (Zdg (pv 1) (ZH g20_ hr (Za (pv 2) Ze)) (ZC Ze) ⟨rfl,rfl,rfl,rfl⟩) (Za (ZH Z hr (Za (pv 2) Ze)) Ze))))))
  (Zj (Zu (pv 1))))),?_⟩
 apply J1;intros;intro d hd;have s1:=Zb (o:=.dK []) hd;refine⟨_,rfl,q,rfl,⟨_,SqT.of (s1 _ _ hq)⟩,?_⟩;refine Xc (K:=K) (a:=q) (xs:=vs) (fun i σ H2=>(∃ L z3:VE V,σ=[some (.ref q),some (.ref d),L,z3])/\∃ M C r,TJ H H2 d M C r/\Pts (G.take i) M/\(∀ P y,y∈r P↔Adj (G.take i) P y)/\∀ P,(r P).length<=2*i)
  ⟨⟨none,none,rfl⟩,[],fun _=>d,fun _=>[],⟨s1,hd,Zd,Ub,(fun P h=>by cases h),(fun P h=>bq),(fun P h=>bo),fun _ _=>rfl⟩,Pts.nil,(fun P y=>by simp[Adj]),fun P=>Qh _⟩ (fun i σ H2 _ ⟨_,_,_,_,J,_⟩=>SqT.of (J.sm _ _ hq)) ?_ ?_
 rintro i x σ H2 hi ⟨⟨L,z3,rfl⟩,M,C,r,J,hk,B,n⟩;have hiv:i<vs.length:=(Qj.mp hi).1;have hie:i<G.length:=by exact S.1▸hiv
 apply La;intros;obtain⟨b,e1,e2⟩:=S.2 i G[i] (Qa hie);rw[hi]at e1;cases e1;obtain⟨l1,l2⟩:=hF.long G[i] (QH hie);have hkl:=hk.len;have hfew:=hF.few;rw[QD]at hkl;refine⟨b,_,rfl,SqT.of (J.sm _ _ e2),rfl,_,_,rfl,_,_,rfl,rfl,?_⟩;apply Db;intros;have het:G.take (i+1)=G.take i++[G[i]]:=QO hie;generalize G[i]=e at *;have T:∀ (O:Hp) (j:VA VI) (a:VI->VH) (r3:VI->VA VI) (P y:VI) (R:L2.St->Hp->Prop) (W:L2.St),TJ H O d j a r3->j.length<=700->(∀ x,(r3 x).length<=700)->(∀ Y g,TJ H Y d (Yn j P) g (ZdR r3 P y)->R W Y)->∀ p,O p=none ->
   (∀ v,XU (rD j a) (VJ P:Key)=some v->∃ l o,v= .ref l/\(upd O p (.lst [])) l=some (.lst o)/\o.length<Od/\R W (upd (upd O p (.lst [])) l (.lst (o++[.str y])))) /\
   (XU (rD j a) (VJ P:Key)=none->∃ o,(upd (upd O p (.lst [])) d (.dK (Jl (rD j a) (VJ P) (.ref p)))) p=some (.lst o)/\o.length<Od/\R W (upd (upd (upd O p (.lst [])) d (.dK (Jl (rD j a) (VJ P) (.ref p)))) p (.lst (o++[.str y])))):=by
  intro O j a r3 P y R W U hks hr3 hR p I;constructor
  intro v t;rw[Jw]at t;by_cases c:P∈j
  rw[VD c]at t;cases t;refine⟨a P,(r3 P).map V.str,rfl,Zb I _ _ (U.row P c),?_,hR _ _ (U.old c I)⟩;rw[Qd];have:=hr3 P;exact ZB (Nm this)
  rw[if_neg c]at t;cases t
  intro t;rw[Jw]at t;by_cases c:P∈j
  simp_all
  have hpd:p≠d:=fun e=>by rw[e,U.dd]at I;grind
  exact ⟨[],by rw[Zi hpd,Zd],ZB be,Zj2 c▸hR _ _ (U.new c I)⟩
 have hkz:M.length<=700:=br
 have hrz:∀ x,(r x).length<=700:=fun x=>by have:=n x;lia
 show Zd1 _ _ _ _ _;refine Z0 (fun σ H'=>σ=[some (.ref q),some (.ref d),some (.str e.1),some (.int e.2)]/\∃ adr',TJ H H' d (Yn M (bg e.1)) adr' (ZdR r (bg e.1) (en e.1))) (fun R hR=>?_) ?_
 refine ⟨_,rfl,d,rfl,.inl ⟨_,.inl J.dd⟩,_,rfl,e.1,rfl,l1,l2,Zl (show 0<=1000 by decide),fun p I=>⟨_,VJ (bg e.1),Zb I _ _ J.dd,rfl,by rw[Zgt];exact ZB (Nm hkz),fun v t=>?_,fun t=>?_⟩⟩
 refine Ll ((T H2 M C r (bg e.1) (en e.1) R [some (.ref q),some (.ref d),some (.str e.1),some (.int e.2)] J hkz hrz (fun Y g J4=>hR _ _ ⟨rfl,g,J4⟩) p I).1 v t) fun l o r0 N hz u=>?_;subst r0;exact⟨.inl ⟨rfl,_,SqL.of N⟩,_,rfl,e.1,rfl,l1,l2,l,o,.str (en e.1),rfl,rfl,N,hz,u⟩
 apply La;intros;obtain⟨o,N,hz,u⟩:=(T H2 M C r (bg e.1) (en e.1) R [some (.ref q),some (.ref d),some (.str e.1),some (.int e.2)] J hkz hrz (fun Y g J4=>hR _ _ ⟨rfl,g,J4⟩) p I).2 t;exact⟨.inl ⟨rfl,_,SqL.of N⟩,_,rfl,e.1,rfl,l1,l2,p,o,.str (en e.1),rfl,rfl,N,hz,u⟩
 rintro σ O ⟨rfl,a,U⟩;have hal:=YU M (bg e.1);have X:∀ x,(ZdR r (bg e.1) (en e.1) x).length<=700:=fun x=>by have:=ZbU (P:=bg e.1) (y:=en e.1) n x;lia
 have fin:∀ Y g,TJ H Y d (Yn (Yn M (bg e.1)) (en e.1)) g (ZdR (ZdR r (bg e.1) (en e.1)) (en e.1) (bg e.1))->TiR H q d G (i+1) [some (.ref q),some (.ref d),some (.str e.1),some (.int e.2)] Y:=fun Y g J4=>by
  refine⟨⟨_,_,rfl⟩,Pf _ g _ ⟨J4,by exact het▸hk.step e,fun P y=>?_,fun P=>?_⟩⟩
  rw[ZeN,ZeN,B,het,ZjB];constructor
  rintro((z | ⟨z1,L⟩) | ⟨z1,L⟩)
  exact .inl z
  exact .inr (.inl ⟨z1.symm,L.symm⟩)
  exact .inr (.inr ⟨z1.symm,L.symm⟩)
  rintro(z | ⟨z1,L⟩ | ⟨z1,L⟩)
  exact .inl (.inl z)
  exact .inl (.inr ⟨z1.symm,L.symm⟩)
  exact .inr ⟨z1.symm,L.symm⟩
  have:=ZbU (P:=en e.1) (y:=bg e.1) (fun x=>ZbU (P:=bg e.1) (y:=en e.1) n x) P;omega
 refine ⟨_,rfl,d,rfl,.inl ⟨_,.inl U.dd⟩,_,rfl,e.1,rfl,l1,l2,Zl (show 0<=1000 by decide),fun p I=>⟨_,VJ (en e.1),Zb I _ _ U.dd,rfl,by rw[Zgt];exact ZB br,fun v t=>?_,fun t=>?_⟩⟩
 refine Ll ((T O _ a _ (en e.1) (bg e.1) (TiR H q d G (i+1)) [some (.ref q),some (.ref d),some (.str e.1),some (.int e.2)] U (Nn hkl hal hfew) X fin p I).1 v t) fun l o r0 N hz u=>?_;subst r0;exact⟨.inl ⟨rfl,_,SqL.of N⟩,_,rfl,e.1,rfl,l1,l2,l,o,.str (bg e.1),rfl,rfl,N,hz,u⟩
 apply La;intros;obtain⟨o,N,hz,u⟩:=(T O _ a _ (en e.1) (bg e.1) (TiR H q d G (i+1)) [some (.ref q),some (.ref d),some (.str e.1),some (.int e.2)] U (Nn hkl hal hfew) X fin p I).2 t;exact⟨.inl ⟨rfl,_,SqL.of N⟩,_,rfl,e.1,rfl,l1,l2,p,o,.str (bg e.1),rfl,rfl,N,hz,u⟩
 rintro σ H2 ⟨⟨L,z3,rfl⟩,M,C,r,J,hk,B,n⟩;rw[S.1,Q8]at hk B;have:=hF.few;exact⟨_,rfl,k d H2 M C r J hk B fun P=>by have:=n P;rw[S.1]at this;lia⟩
end
def bD (ks:VA VI):VA (Key×V):=ks.map fun x=>((VJ x:Key),V.bl true)
def Zaw (ks):(bD ks).length=ks.length:=by unfold bD;simp
def ZcS (ks) (y):XU (bD ks) (VJ y)=if y∈ks then some (.bl true)else none:=JL _ y ks
def ZcT (ks) (y):Jl (bD ks) (VJ y) (.bl true)=bD (Yn ks y):=by
 unfold Yn;by_cases m:y∈ks
 rw[VD m];unfold bD;rw[ZaL _ _ _ _ m];refine Wl fun x _=>?_;simp;rw[if_neg m,Zbp _ (by rw[ZcS,if_neg m])];unfold bD;simp
def Zev {ss:VA VI} (d:ss.Nodup) (h:(ss.map fun x=>x.cps.toList).Pairwise (·<=·)):(ss.map fun x=>x.cps.toList).Pairwise (· < ·):=by
 rw[Wt]at h ⊢;have:=BF d h;exact this.imp fun {a b} q=>Tim.lt_ne (fun z=>VM z (U9.mpr q.2)) (VS q.1)
structure Wk (es:Es) (a:VI) (ks F W:VA VI):Prop where
 nd:F.Nodup
 fst:a∈F
 rch:∀ x∈F,Rch es a x
 sub:∀ x∈W,x∈F
 inn:∀ x∈F,x∈ks
def Wk.le (h:Wk es a ks F W):F.length<=ks.length:=by
 have h1:=h.nd;have h2:=h.inn;clear h;induction F generalizing ks with
 | nil=>simp
 | cons x F ih =>
  have nd':=Q9.mp h1;have hx:=h2 x Qo ..;have p:=Rh hx;have:=ih nd'.2 fun y hy=>(Ua fun(q:y=x)=>nd'.1 (q▸hy)).mpr (h2 y (Qm _ hy));rw[Wx hx]at this;have hpos:=Ws hx;rw[QI];exact Kn hpos this
section
variable {P:Oh} {w:Ol} {K:VB} {mg:VI->VE VG} {base:Nu}
abbrev Zc7:Mv:=top 21
noncomputable abbrev ZlD:VA VI:=["H","tied","first","found","waiting","here","point"]
def scPartOf:Zp ZlD ["H"] (Zf Zc7):=⟨rfl,rfl,rfl,bh,rfl,bh,bh⟩
def ZjN:Sp:=fun vs H Q _=>∃ (v:V) (e:VI×VN) (es:Es),vs=[v]/\HeapV H v (e::es)/\Zie (e::es)/\∀ v' H' ss,Same H H'->TupS H' v' ss->(ss.map fun x=>x.cps.toList).Pairwise (· < ·)->ss.length<=602->(∀ x,x∈ss↔Rch (e::es) (bg e.1) x)->Q v' H'
def Ze3 (D:HasDef K mg "part_of" Zc7 ["H"]) (B:Blt mg) (g17_:FOk P w K mg base 2 "begin_of" ["piece"] Zc2) (g41_:FOk P w K mg base 2 "tied_points" ["H"] ZjK):FOk P w K mg base 3 "part_of" ["H"] ZjN:=by
 refine D.ok scPartOf (fun vs H Q E h=>?_) (fun f cdv A outer s H vs Q E hr h=>?_)
 obtain⟨v,e,es,rfl,_⟩:=h;rfl
 apply Lb;intros;apply La;intros;obtain⟨v,e,es0,rfl,hV,hF,k⟩:=h;have hu:=ZdE hr;obtain⟨q,vs,rfl,hq,hpa⟩:=id hV;refine⟨_,(Zc (Zm 1 scPartOf.nd (ZH g41_ hr (Za (pv 0) Ze)))
  (Zc (Zm 2 scPartOf.nd (ZH g17_ hr (Za (ZA ix_tup (ZA ix_tup (pv 0) Zg) Zg) Ze)))
  (Zc (Zm 3 scPartOf.nd (ZgG (Zel (pv 2) YV Zgy) rfl rfl (RA _ _) be))
  (Zc (Zm 4 scPartOf.nd (ZC (Za (pv 2) Ze)))
  (Zc (Y6 VP (Zt Zcj (Zk Zn rfl B.len ZG (Za (pv 4) Ze)) Zg (Zz _))
   (Zc (Zm 5 scPartOf.nd (YJ F.plainAttrs_list F.slot_list_pop F.type_list_pop Yg (pv 4)))
  (Zj (Z1 VP rfl (Xn (Zdh hu (pv 1) (pv 5) (fun _ _=>rfl))) (Zw 6 scPartOf.nd)
   (Zj (Ya (Zek (Zcg hu (pv 6) (pv 3))) (Zc (Y7 hu (pv 3) (pv 6) YV rfl)
  (Zj (Z4 (XS F.plainAttrs_list F.slot_list_append F.type_list_append Yj (pv 4) (Za (pv 6) Ze))))) ZD))))))
  (Zj (Zu (Yw Z7 rfl B.tuple YX (Za (Zk (Ja rfl) rfl B.sorted XA (Za (pv 3) Ze)) Ze))))))))),?_⟩
 apply Dc;intros;obtain⟨b0,eb0,hb0⟩:=hpa.2 0 e rfl;obtain⟨l1,l2⟩:=hF.long e (Qo ..);refine⟨_,rfl,.ref q,e::es0,rfl,hV,hF,fun d T ks adr r J hk hadj hlen=>?_⟩;have hf1:=hk.len;have hf2:=hF.few;have haK:bg e.1∈ks:=(hk.mem _).mpr ⟨e,Qo ..,.inl rfl⟩;generalize hes:e::es0=es at *;refine ⟨_,rfl,Pg q vs 0 (.ref b0) ⟨rfl,rfl,SqT.of (J.sm _ _ hq),Jq be eb0,Pg b0 _ 0 (.str e.1) ⟨rfl,rfl,SqT.of (J.sm _ _ hb0),rfl,e.1,rfl,l1,l2,fun C hfd=>⟨_,rfl,Zd,[((VJ (bg e.1):Key),V.bl true)],rfl,bo,?_⟩⟩⟩⟩;rw[Jd];have s2:Same T (upd T C (.dK (Xr [] [((VJ (bg e.1):Key),V.bl true)]))):=Zb hfd;have hfd2:(upd T C (.dK (Xr [] [((VJ (bg e.1):Key),V.bl true)]))) C=some (.dK (bD [bg e.1])):=Zd;generalize upd T C (.dK (Xr [] [((VJ (bg e.1):Key),V.bl true)]))=H2 at s2 hfd2;refine⟨_,rfl,Zl (show 1<=1000 by decide),fun G hwl=>?_⟩;have hwl1:T G=none:=s2.free hwl;have hne:G≠C:=fun z=>bp
 have s3:=s2.trans (Zb (o:=.lst [.str (bg e.1)]) hwl);have hfd3:=Zb (o:=.lst [.str (bg e.1)]) hwl _ _ hfd2;have hwl3:(upd H2 G (.lst [.str (bg e.1)])) G=some (.lst ([bg e.1].map V.str)):=Zd;generalize upd H2 G (.lst [.str (bg e.1)])=H3 at s3 hfd3 hwl3;have shift:∀ {M:Hp} (F W:VA VI),Same T M->Same T (upd (upd M C (.dK (bD F))) G (.lst (W.map V.str))):=fun F W s b u hb=>by
  rw[Zi (Zh hb hwl1),Zi (Zh hb hfd)];exact s b u hb
 have shW:∀ {M:Hp} (o:HO),Same T M->Same T (upd M G o):=fun o s b u hb=>by
  exact Zi (Zh hb hwl1)▸s b u hb
 have shF:∀ {M:Hp} (o:HO),Same T M->Same T (upd M C o):=fun o s b u hb=>by
  exact Zi (Zh hb hfd)▸s b u hb
 try dsimp only[Js]
 show Zd1 (ZaG _ _) _ _ _ _;refine Z0 (fun σ M=>∃ (F:VA VI) (z5 z6:VE V),σ=[some (.ref q),some (.ref d),some (.str (bg e.1)),some (.ref C),some (.ref G),z5,z6]/\Same T M/\M C=some (.dK (bD F))/\Wk es (bg e.1) ks F []/\∀ x∈F,∀ y,Adj es x y->y∈F) (fun R hR=>?_) ?_
 refine⟨fun m σ M=>∃ (F W:VA VI) (z5 z6:VE V),σ=[some (.ref q),some (.ref d),some (.str (bg e.1)),some (.ref C),some (.ref G),z5,z6]/\Same T M/\M C=some (.dK (bD F))/\M G=some (.lst (W.map V.str))/\Wk es (bg e.1) ks F W/\(∀ x∈F,x∉W->∀ y,Adj es x y->y∈F)/\m=2*(ks.length-F.length)+W.length/\m<=2*ks.length,
  ⟨_,[bg e.1],[bg e.1],none,none,rfl,s3,hfd3,hwl3,⟨bo,bo,(fun x I=>by exact Qq.mp I▸.here),fun x I=>I,fun x I=>bp⟩,(fun x I hw=>VM I hw),rfl,by have:=Ws haK;simp only[Qp];omega⟩,?_⟩
 rintro m σ M ⟨F,W,z5,z6,rfl,s4,hfd4,hwl4,Z,hcl,hm,hw5⟩;refine⟨_,rfl,.ref G,_,rfl,.inl ⟨_,SqL.of hwl4,rfl⟩,_,_,rfl,rfl,_,rfl,?_⟩;rcases WF W with rfl | ⟨r0,here,rfl⟩
 exact Ys be (hR _ _ ⟨F,z5,z6,rfl,s4,hfd4,Z,fun x I=>hcl x I (fun z=>by grind)⟩)
 rw[WN]at *;refine Xu (VR bo) ?_;have hhF:here∈F:=Z.sub here bo;have hhK:=Z.inn here hhF;rw[Qg,Qp]at hm;refine ⟨fun σ' H'=>∃ m',m'<m/\∃ (F W:VA VI) (z5 z6:VE V),σ'=[some (.ref q),some (.ref d),some (.str (bg e.1)),some (.ref C),some (.ref G),z5,z6]/\Same T H'/\H' C=some (.dK (bD F))/\H' G=some (.lst (W.map V.str))/\Wk es (bg e.1) ks F W/\(∀ x∈F,x∉W->∀ y,Adj es x y->y∈F)/\m'=2*(ks.length-F.length)+W.length/\m'<=2*ks.length,fun _ _ z=>z,⟨_,rfl,.inl ⟨rfl,_,SqL.of hwl4⟩,G,_,V.str here,rfl,rfl,hwl4,bo,?_⟩⟩;rw[show((r0++[here]).map V.str).dropLast=r0.map V.str by simp];have s5:Same T (upd M G (.lst (r0.map V.str))):=shW _ s4;have hwl5:(upd M G (.lst (r0.map V.str))) G=some (.lst (r0.map V.str)):=Zd;have hfd5:(upd M G (.lst (r0.map V.str))) C=some (.dK (bD F)):=by rw[Zi (VS hne)];omega
 generalize upd M G (.lst (r0.map V.str))=H5 at s5 hwl5 hfd5;refine⟨_,rfl,_,rfl,d,.ref (adr here),rfl,.inl ⟨_,VJ here,.inl (s5 _ _ J.dd),rfl,by rw[Jw,VD hhK]⟩,adr here,rfl,⟨_,SqL.of (s5 _ _ (J.row here hhK))⟩,?_⟩;refine JH (K:=K) (a:=adr here) (xs:=(r here).map V.str) (fun j σ' H'=>∃ (F W:VA VI) (z6:VE V),σ'=[some (.ref q),some (.ref d),some (.str (bg e.1)),some (.ref C),some (.ref G),some (.str here),z6]/\Same T H'/\H' C=some (.dK (bD F))/\H' G=some (.lst (W.map V.str))/\Wk es (bg e.1) ks F W/\(∀ x∈F,x∉W->x≠here->∀ y,Adj es x y->y∈F)/\(∀ y∈(r here).take j,y∈F)/\2*(ks.length-F.length)+W.length+1<=m)
  ⟨F,r0,z6,rfl,s5,hfd5,hwl5,⟨Z.nd,Z.fst,Z.rch,fun x I=>Z.sub x (QM _ I),Z.inn⟩,fun x I h1 h2=>hcl x I (fun z=>bp),(fun y hy=>by rw[UR]at hy;cases hy),br⟩
  (fun i σ' H' _ ⟨_,_,_,_,s6,_⟩=>SqL.of (s6 _ _ (J.row here hhK))) ?_ ?_
 rintro j x σ' H6 hj ⟨X,W6,z6',rfl,s6,O,hwl6,N,Y,S,hm6⟩;rw[Qi]at hj;refine Lm (WB.mp hj) fun y hy r1=>?_;subst r1;have hya:Adj es here y:=(hadj here y).mp (We hy);have hyK:y∈ks:=by
  obtain⟨e',he',q'⟩:=hya;rcases q' with ⟨_,q'⟩ | ⟨_,q'⟩
  exact(hk.mem y).mpr ⟨e',he',.inr q'⟩
  exact(hk.mem y).mpr ⟨e',he',.inl q'⟩
 have htk:(r here).take (j+1)=(r here).take j++[y]:=by
  rw[Rt,hy];rfl
 have hle6:=N.le;refine⟨_,rfl,_,rfl,C,XU (bD X) (VJ y),rfl,.inl ⟨_,VJ y,.inl O,rfl,rfl⟩,?_⟩;rw[ZcS];by_cases c:y∈X
 rw[VD c];refine⟨_,rfl,Ys rfl ⟨X,W6,_,rfl,s6,O,hwl6,N,Y,fun y' U=>?_,hm6⟩⟩;rw[htk]at U;rcases QA.mp U with z | z
 exact S y' z
 exact Qq.mp z▸c
 rw[if_neg c];have hW7:Wk es (bg e.1) ks (X++[y]) (W6++[y]):=⟨WT.mpr ⟨N.nd,bo,fun a ha b hb e=>by rw[Qq.mp hb]at e;subst e;exact c ha⟩,QM _ N.fst,(fun x I=>by
   rcases QA.mp I with z | z
   exact N.rch x z
   exact Qq.mp z▸.step (Z.rch here hhF) hya),(fun x I=>by
   rcases QA.mp I with z | z
   exact QM _ (N.sub x z)
   rw[Qq.mp z];simp),fun x I=>by
   rcases QA.mp I with z | z
   exact N.inn x z
   exact Qq.mp z▸hyK⟩
 have hlt:X.length+1<=ks.length:=by
  have:=hW7.le;rw[Qg,Qp]at this;exact this
 refine⟨_,rfl,Xu rfl ⟨_,rfl,_,rfl,C,_,rfl,DPut.kk (k:=VJ y) O (by rw[Zaw];exact ZB br),?_⟩⟩;rw[ZcT,show Yn X y=X++[y]by unfold Yn;rw[if_neg c]];have s7:Same T (upd H6 C (.dK (bD (X++[y])))):=shF _ s6;have hfd7:(upd H6 C (.dK (bD (X++[y])))) C=some (.dK (bD (X++[y]))):=Zd;have hwl7:(upd H6 C (.dK (bD (X++[y])))) G=some (.lst (W6.map V.str)):=by exact Zi hne▸hwl6
 generalize upd H6 C (.dK (bD (X++[y])))=H7 at s7 hfd7 hwl7;refine ⟨_,rfl,.inl ⟨rfl,_,SqL.of hwl7⟩,_,rfl,G,_,.str y,rfl,rfl,hwl7,by rw[Qd];exact Zf4 br,⟨X++[y],W6++[y],_,rfl,shW _ s7,by exact Zi (VS hne)▸hfd7,by rw[Zd,QK,WM],hW7,fun x I hxw hxh y' U=>?_,fun y' U=>?_,by rw[Qg,Qg,Qp];lia⟩⟩
 rcases QA.mp I with z | z
 exact QM _ (Y x z (fun q=>hxw (QM _ q)) hxh y' U)
 exact VM (QJ _ z) hxw
 rw[htk]at U;rcases QA.mp U with z | z
 exact QM _ (S y' z)
 exact QJ _ z
 rintro σ' H6 ⟨X,W6,z6',rfl,s6,O,hwl6,N,Y,S,hm6⟩;rw[Qd,Q8]at S;refine⟨_,?_,Pg X W6 _ _ ⟨rfl,s6,O,hwl6,N,fun x I hxw y hxy=>?_,rfl,?_⟩⟩
 exact hm6
 by_cases c:x=here
 subst c;exact S y ((hadj x y).mpr hxy)
 exact Y x I hxw c y hxy
 exact Mj hw5 hm6
 rintro σ M ⟨F,z5,z6,rfl,s4,hfd4,Z,hcl⟩;have hle:=Z.le;refine ⟨_,rfl,Pf C F (fun _=>.bl true) ⟨rfl,hfd4,br,fun p ss hp hpm hsrt=>⟨p,_,rfl,.inl ⟨SqL.of Zd,fun l hl=>k (.ref l) _ ss (((J.sm.trans s4).trans (Zb hp)).trans (Zb hl)) ⟨l,rfl,Zd⟩ (Zev (hpm.nodup_iff.mpr Z.nd) hsrt) (by rw[hpm.length_eq];lia) fun x=>?_⟩⟩⟩⟩;rw[hpm.mem_iff];exact⟨Z.rch x,fun z=>Rch.closed Z.fst hcl z⟩
end
def Zdp {F:VA VI}:∀ {ks:VA VI},F.Nodup->(∀ x∈F,x∈ks)->F.length<=ks.length:=by
 induction F with
 | nil=>simp
 | cons x F i =>
  intro ks h e;have a:=Q9.mp h;have d:=e x Qo ..;have:=i a.2 fun y f=>(Ua fun(q:y=x)=>a.1 (q▸f)).mpr (e y (Qm _ f));rw[Wx d]at this;have b:=Ws d;rw[QI];exact Kn b this
def ZmZ {F ks:VA VI} (g:F.Nodup) (e:∀ x∈F,x∈ks) (h:F.length=ks.length):∀ x∈ks,x∈F:=by
 intro x c;apply NT;intro f;have:=Zdp g fun y b=>(Ua fun(q:y=x)=>f (q▸b)).mpr (e y b);rw[Wx c]at this;exact (V1 this (Ws c) h).elim
def ZiW {ss:VA VI} (h:(ss.map fun x=>x.cps.toList).Pairwise (· < ·)):ss.Nodup:=by
 rw[Wt]at h;refine h.imp fun {a b} q e=>?_;subst e;exact Uo _ q
def Rch.pt {es:Es} (h:Rch (e::es) (bg e.1) x):∃ a∈e::es,bg a.1=x\/en a.1=x:=by
 cases h with
 | here=>simp
 | step _ k =>
  obtain⟨a,c,⟨_,q⟩ | ⟨_,q⟩⟩:=k;exact⟨a,c,.inr q⟩;exact⟨a,c,.inl q⟩
def Zjj {es:Es} {ss i:VA VI} (n:ss.Nodup) (j:∀ x,x∈ss↔Rch (e::es) (bg e.1) x) (n2:i.Nodup) (l:∀ x,x∈i↔∃ d∈e::es,bg d.1=x\/en d.1=x) :
  ss.length=i.length↔∀ d∈e::es,Rch (e::es) (bg e.1) (bg d.1):=by
 have g:=fun x k=>(l x).mpr ((j x).mp k).pt;constructor;intro o d c;exact(j _).mp (ZmZ n g o _ ((l _).mpr ⟨d,c,.inl rfl⟩));intro h;have:∀ x∈i,x∈ss:=fun x k=>by
  obtain⟨d,c,q | q⟩:=(l x).mp k;exact q▸(j _).mpr (h d c);exact(j _).mpr (.step (h d c) ⟨d,c,.inl ⟨rfl,q⟩⟩)
 exact Vw (Zdp n g) (Zdp n2 this)
section
variable {P:Oh} {w:Ol} {K:VB} {mg:VI->VE VG} {base:Nu}
abbrev Zgi:Mv:=top 22
abbrev Zm8:VA VI:=["H"]
def Zk2:Zp Zm8 ["H"] (Zf Zgi):=⟨rfl,rfl,rfl,bo,rfl,bh,bh⟩
def Zf1:Sp:=fun vs H Q _=>∃ (v:V) (e:VI×VN) (es:Es),vs=[v]/\HeapV H v (e::es)/\Zie (e::es)/\∀ H' (b:NY),Same H H'->(b=true↔∀ e'∈e::es,Rch (e::es) (bg e.1) (bg e'.1))->Q (.bl b) H'
def ZiU (D:HasDef K mg "hangs" Zgi ["H"]) (B:Blt mg) (a:FOk P w K mg base 3 "part_of" ["H"] ZjN) (c:FOk P w K mg base 3 "points_of" ["H"] Zd9):FOk P w K mg base 4 "hangs" ["H"] Zf1:=by
 refine D.ok Zk2 (fun F H Q E h=>?_) fun f I A m s H F Q E r h=>?_;obtain⟨v,e,q,rfl,_⟩:=h;rfl;apply Lb;intros;obtain⟨v,e,q,rfl,x,u,k⟩:=h;refine ⟨_,Zj (Zu (Zaa Zbt (Zk Zn rfl B.len ZG (Za (ZH a r (Za (pv 0) Ze)) Ze)) (Zk Zn rfl B.len ZG (Za (ZH c r (Za (pv 0) Ze)) Ze)) (Zz _))),⟨_,rfl,v,e,q,rfl,x,u,fun N J z t g p y j=>?_⟩⟩;obtain⟨O,rfl,n⟩:=id g;refine⟨_,z.length,rfl,.inr ⟨_,SqT.of n,bo⟩,_,rfl,v,_,rfl,x.same t,u,fun L R G C o b=>?_⟩;obtain⟨M,rfl,l⟩:=id o;refine ⟨_,G.length,rfl,.inr ⟨_,SqT.of l,bo⟩,⟨rfl,k _ _ (t.trans C) ?_⟩⟩;rw[ZdI,←Zjj (ZiW p) j b.pts.nd b.pts.mem,FU];lia
end
abbrev nV (i:VC):V:=V.int (i:VN)
def ZoU (H:Hp) (b:VH) (t:VI×VI):Prop:=∃ s:VI,H b=some (.tup [.str t.1,.str s,.str t.2])
def TyA (H:Hp) (vs:VA V) (ts:Ts):Prop:=vs.length=ts.length/\∀ (i:VC) (t:VI×VI),ts[i]?=some t->∃ b,vs[i]?=some (.ref b)/\ZoU H b t
def TiesV (H:Hp) (v:V) (ts:Ts):Prop:=∃ a vs,v= .ref a/\SeqAt' H a vs/\TyA H vs ts
def TyA.same (h:TyA H vs ts) (s:Same H a):TyA a vs ts:=⟨h.1,fun i t e=>by
 obtain⟨b,d,m,c⟩:=h.2 i t e;exact⟨b,d,m,s _ _ c⟩⟩
def TiesV.same (h:TiesV H v ts) (s:Same H d):TiesV d v ts:=by
 obtain⟨a,b,e,f,c⟩:=h;exact⟨a,b,e,f.same s,c.same s⟩
def TyA.at (h:TyA H vs ts) (hi:i<ts.length):∃ b s,atI vs i=some (.ref b)/\H b=some (.tup [.str (frm ts i),.str s,.str (tow ts i)]):=by
 obtain⟨b,e,s,f⟩:=h.2 i _ (Qa hi);refine⟨b,s,Xh e,?_⟩;unfold frm tow
 grind
def Zh7 {v:V}:atI (xs++[v]) (-1)=some v:=by
 unfold atI ixN;rw[if_neg be,VD (by rw[Qg,Qp];exact V2)];simp only[RB,Qg,Qp];rw[show((-1)+((xs.length+1:VC):VN)).toNat=xs.length by exact V3];simp
structure NJ (H H2:Hp) (d:VH) (ks:VA VI) (adr:VI->VH) (r:VI->VA VC):Prop where
 sm:Same H H2
 dn:H d=none
 dd:H2 d=some (.dK (rD ks adr))
 nd:ks.Nodup
 row:∀ P∈ks,H2 (adr P)=some (.lst ((r P).map nV))
 fresh:∀ P∈ks,H (adr P)=none
 inj:∀ P∈ks,∀ P'∈ks,adr P=adr P'->P=P'
 out:∀ P,P∉ks->r P=[]
noncomputable def ZkC (r:VI->VA VC) (P:VI) (y:VC):VI->VA VC:=fun x=>if x=P then r P++[y]else r x
def NJ.ne (J:NJ H c d ks a r) (b:P∈ks):a P≠d:=fun e=>by
 have:=J.row P b;rw[e,J.dd]at this
 simp_all
def NJ.old (J:NJ H i d ks g r) (a:P∈ks) (k:i p=none) :
  NJ H (upd (upd i p (.lst [])) (g P) (.lst ((r P).map nV++[nV y]))) d (Yn ks P) g (ZkC r P y):=by
 have m:Yn ks P=ks:=by unfold Yn;rw[VD a]
 rw[m];have h:=Zb (o:=.lst []) k;refine⟨fun b u j=>?_,J.dn,?_,J.nd,fun Q f=>?_,J.fresh,J.inj,fun Q f=>?_⟩;rw[Zi fun e=>by rw[e,J.fresh P a]at j;grind];exact h _ _ (J.sm b u j);exact Zi (VS (J.ne a))▸h _ _ J.dd;unfold ZkC;by_cases c:Q=P
 subst c;rw[Zd,VD rfl,QK];rfl;rw[if_neg c,Zi fun e=>c (J.inj Q f P a e)];exact h _ _ (J.row Q f);unfold ZkC;rw[if_neg fun e:Q=P=>f (e▸a)];exact J.out Q f
def NJ.new (J:NJ H w d ks k r) (v:P∉ks) (o:w p=none) :
  NJ H (upd (upd (upd w p (.lst [])) d (.dK (rD (ks++[P]) fun x=>if x=P then p else k x))) p (.lst ([]++[nV y]))) d (Yn ks P) (fun x=>if x=P then p else k x) (ZkC r P y):=by
 have B:Yn ks P=ks++[P]:=by unfold Yn;rw[if_neg v]
 rw[B];have s:d≠p:=fun e=>by rw[←e,J.dd]at o;grind
 have j:∀ Q∈ks,k Q≠p:=fun Q i e=>by have:=J.row Q i;simp_all
 have m:∀ Q,Q∈ks++[P]->Q∈ks\/Q=P:=fun Q h=>bp
 refine⟨fun b u t=>?_,J.dn,?_,?_,fun Q i=>?_,fun Q i=>?_,fun Q i l g e=>?_,fun Q i=>?_⟩
 have q:=J.sm b u t;rw[Zi (Zh q o),Zi (Zh t J.dn),Zi (Zh q o)];omega
 rw[Zi s,Zd]
 exact WT.mpr ⟨J.nd,bo,fun a C b t e=>bp⟩
 unfold ZkC;by_cases c:Q=P
 subst c;rw[VD rfl,VD rfl,Zd,J.out Q v];rfl
 rw[if_neg c,if_neg c];have g:=(m Q i).resolve_right c;rw[Zi (j Q g),Zi (J.ne g),Zi (j Q g)];exact J.row Q g
 by_cases c:Q=P
 rw[VD c];cases A:H p with
 | none=>rfl
 | some u=>have:=J.sm p u A;rw[o]at this;cases this
 exact if_neg c▸J.fresh Q ((m Q i).resolve_right c)
 by_cases c:Q=P
 by_cases n:l=P
 simp_all
 rw[VD c,if_neg n]at e;exact VM e.symm (j l ((m l g).resolve_right n))
 by_cases n:l=P
 simp_all
 rw[if_neg c,if_neg n]at e;exact J.inj Q ((m Q i).resolve_right c) l ((m l g).resolve_right n) e
 have q:¬ Q=P:=fun z=>i (by simp[z]);unfold ZkC;exact if_neg q▸J.out Q (fun z=>i (QM _ z))
def NoR (H:Hp) (v:V) (d:VH) (ts:Ts) (j:VC):L2.St->Hp->Prop:=fun σ H2=>(∃ z2:VE V,σ=[some v,some (.ref d),z2])/\∃ ks adr r,NJ H H2 d ks adr r/\ks.length<=j/\∀ P,r P=((US (ts.length-j) j).filter fun i=>decide (frm ts i=P)).reverse
section
variable {P:Oh} {w:Ol} {K:VB} {mg:VI->VE VG} {base:Nu}
abbrev XQ:Mv:=top 24
abbrev Zdr:VA VI:=["ties","numbers","number"]
def scNumbersOut:Zp Zdr ["ties"] (Zf XQ):=⟨rfl,rfl,rfl,bh,rfl,bh,bh⟩
def ZmB:Sp:=fun vs H Q _=>∃ (v:V) (ts:Ts),vs=[v]/\TiesV H v ts/\ts.length<=400/\∀ d H' ks adr,NJ H H' d ks adr (rows ts)->Q (.ref d) H'
def ZaA (D:HasDef K mg "numbers_out" XQ ["ties"]) (B:Blt mg):FOk P w K mg base 1 "numbers_out" ["ties"] ZmB:=by
 refine D.ok scNumbersOut (fun t H Q E h=>?_) (fun f cdv A R s H t Q E hr h=>?_)
 obtain⟨v,g,rfl,_⟩:=h;rfl
 apply Lb;intros;apply La;intros;obtain⟨v,g,rfl,hV,V,k⟩:=h;obtain⟨a,t,rfl,Z,C⟩:=id hV;refine⟨_,(Zc (Zm 1 scNumbersOut.nd Xy)
  (Zc (Z1 VP rfl (ZgB rfl B.range (Za (Zo YL (Zk Zn rfl B.len ZG (Za (pv 0) Ze)) Zg) (Za (XC YA Zg) (Za (XC YA Zg) Ze)))) (Zw 2 scNumbersOut.nd)
   (Zj (Z4 (XS F.plainAttrs_list F.slot_list_append F.type_list_append Yj (Zdg (pv 1) (ZA ix_tup (ZA (Zah K) (pv 0) (pv 2)) Zg) (ZC Ze) ⟨rfl,rfl,rfl,rfl⟩) (Za (pv 2) Ze)))))
  (Zj (Zu (pv 1))))),?_⟩
 apply J1;intros;intro d Y;have s1:=Zb (o:=.dK []) Y;have L:=C.1;refine⟨_,rfl,.ref a,_,rfl,Zhg (Z.same s1),_,_,rfl,rfl,_,rfl,_,rfl,_,_,rfl,⟨br,br,be,be⟩,?_⟩;rw[show((t.length:VN)-1-(-1)).toNat=g.length by lia];refine Zfl (fun j σ G=>NoR H (.ref a) d g j σ G) ⟨⟨none,rfl⟩,[],fun _=>d,fun _=>[],⟨s1,Y,Zd,Ub,(fun P h=>by cases h),(fun P h=>bq),(fun P h=>bo),fun _ _=>rfl⟩,Qh _,fun P=>bo⟩ ?_ ?_
 rintro j σ G hj ⟨⟨z2,rfl⟩,u,n,r,J,N,m⟩;have hi:g.length-1-j<g.length:=bq
 refine Lk (C.at hi) fun b sg e1 e2=>?_;have M:((t.length:VN)-1-(j:VN))=((g.length-1-j:VC):VN):=bq
 have S:∀ P,(r P).length<=j:=fun P=>by
  rw[m,Q5];have:=UL (fun i=>decide (frm g i=P)) (US (g.length-j) j);rw[List.length_range']at this;exact this
 have eR:US (g.length-(j+1)) (j+1)=(g.length-1-j)::US (g.length-j) j:=by
  rw[List.range'_succ,show g.length-(j+1)=g.length-1-j by lia,show g.length-1-j+1=g.length-j by lia]
 have I:∀ O l,NJ H O d (Yn u (frm g (g.length-1-j))) l (ZkC r (frm g (g.length-1-j)) (g.length-1-j))->NoR H (.ref a) d g (j+1) [some (.ref a),some (.ref d),some (.int ((t.length:VN)-1-(j:VN)))] O:=fun O l J4=>by
  refine⟨⟨_,rfl⟩,Pf _ l _ ⟨J4,?_,fun P=>?_⟩⟩
  have:=YU u (frm g (g.length-1-j));exact Kl N this
  rw[eR,Wo];unfold ZkC;by_cases c:P=frm g (g.length-1-j)
  rw[VD c,VD (VR c.symm),U0,←c,m]
  rw[if_neg c,if_neg (fun z=>c (MC z).symm),m]
 refine⟨_,rfl,d,rfl,.inl ⟨_,.inl J.dd⟩,_,rfl,_,rfl,?_⟩;rw[M];refine Zb7 ((Z.same J.sm)) e1 ⟨b,_,0,.str (frm g (g.length-1-j)),rfl,rfl,SqT.of (J.sm _ _ e2),rfl,Zl (show 0<=1000 by decide),fun p y=>?_⟩;rw[←M];refine⟨_,VJ (frm g (g.length-1-j)),Zb y _ _ J.dd,rfl,by rw[Zgt];exact ZB (Mu M V N L),fun v o=>?_,fun o=>?_⟩
 rw[Jw]at o;by_cases c:frm g (g.length-1-j)∈u
 rw[VD c]at o;cases o;have q:=Zb (o:=.lst []) y _ _ (J.row _ c);refine⟨.inl ⟨rfl,_,SqL.of q⟩,_,rfl,Pf (n _) _ (.int ((t.length:VN)-1-(j:VN))) ⟨rfl,rfl,q,?_,?_⟩⟩
 rw[Qd];have:=S (frm g (g.length-1-j));exact ZB (Mu M V this L)
 have:=I _ _ (J.old (y:=g.length-1-j) c y);rw[M]at this ⊢
 simp_all
 rw[if_neg c]at o;cases o
 rw[Jw]at o;by_cases c:frm g (g.length-1-j)∈u
 rw[VD c]at o;cases o
 have U:p≠d:=fun e=>by rw[e,J.dd]at y;cases y
 rw[Zj2 c];have W:(upd (upd G p (.lst [])) d (.dK (rD (u++[frm g (g.length-1-j)]) fun x=>if x=frm g (g.length-1-j)then p else n x))) p=some (.lst []):=by rw[Zi U,Zd]
 refine⟨.inl ⟨rfl,_,SqL.of W⟩,_,rfl,p,[],.int ((t.length:VN)-1-(j:VN)),rfl,rfl,W,ZB be,?_⟩;have:=I _ _ (J.new (y:=g.length-1-j) c y);rw[M]at this ⊢
 simp_all
 rintro σ G ⟨⟨z2,rfl⟩,u,n,r,J,N,m⟩;have er:r=rows g:=funext fun P=>by
  rw[m,Wv];unfold rows;rw[List.range_eq_range']
 rw[er]at J;exact⟨_,rfl,k d G u n J⟩
def ZnN (H:Hp) (v:V) (X:VA VC):Prop:=∃ q,v= .ref q/\H q=some (.tup (X.map nV))
def Zkz:∀ {Y X},(∃ v,Ch ts u (X++Y) v)->∃ v,Ch ts u X v
 | [],X,h=>by simp_all
 | y::Y,X,h=>by
  rw[show X++y::Y=X++[y]++Y by simp]at h;obtain⟨v,h⟩:=Zkz h;exact⟨_,h.pop.1⟩
def Ch.det {u v w} (h:Ch ts u X v) (h':Ch ts u X w):v=w:=by
 induction h with
 | nil u=>cases h';rfl
 | cons e h d=>cases h' with | cons c h'=>simp_all
abbrev Zgh:Mv:=top 25
noncomputable abbrev Zm7:VA VI:=["ties","begin","numbers","point","number"]
def scIsWay:Zp Zm7 ["ties","begin","numbers"] (Zf Zgh):=⟨rfl,rfl,rfl,bh,rfl,bh,bh⟩
def ZfZ:Sp:=fun vs H Q _=>∃ (v x:V) (b:VI) (ts:Ts) (X:VA VC),vs=[v,.str b,x]/\TiesV H v ts/\ZnN H x X/\(∀ i∈X,i<ts.length)/\∀ c:NY,(c=true↔X.length=ts.length/\∃ f,Ch ts b X f)->Q (.bl c) H
def ZgW (D:HasDef K mg "is_way" Zgh ["ties","begin","numbers"]) (B:Blt mg):FOk P w K mg base 1 "is_way" ["ties","begin","numbers"] ZfZ:=by
 refine D.ok scIsWay (fun J H Q E h=>?_) (fun f M A t s H J Q E S h=>?_)
 obtain⟨v,x,b,c,X,rfl,_⟩:=h;rfl
 apply Lb;intros;obtain⟨v,x,b,c,X,rfl,⟨a,J,rfl,u,m⟩,⟨q,rfl,r⟩,N,k⟩:=h;refine⟨_,(Zc (Ya (Zt Zdi (Zk Zn rfl B.len ZG (Za (pv 2) Ze)) (Zk Zn rfl B.len ZG (Za (pv 0) Ze)) (Zz _)) (Zj (Zu YV)) ZD)
  (Zc (Zm 3 scIsWay.nd (pv 1))
  (Zc (Z1 VP rfl (Yv (pv 2)) (Zw 4 scIsWay.nd)
   (Zc (Ya (Zt Zdi (ZA ix_tup (ZA (Zah K) (pv 0) (pv 4)) Zg) (pv 3) (Zz _)) (Zj (Zu YV)) ZD)
  (Zj (Zm 3 scIsWay.nd (ZA ix_tup (ZA (Zah K) (pv 0) (pv 4)) Zg)))))
  (Zj (Zu YV))))),?_⟩
 apply Dd;intros;refine⟨_,rfl,.ref q,_,rfl,.inr ⟨_,SqT.of r,rfl⟩,_,rfl,.ref a,_,rfl,Zhg u,rfl,_,rfl,?_⟩;rw[Qd,m.1];by_cases C:X.length=c.length
 refine Ys (by rw[ZhB bq];rfl) ?_;refine⟨_,rfl,_,rfl,q,rfl,⟨_,SqT.of r⟩,Xc (K:=K) (a:=q) (xs:=X.map nV) (fun i σ p=>(∃ (d:VI) (z:VE V),σ=[some (.ref a),some (.str b),some (.ref q),some (.str d),z]/\Ch c b (X.take i) d)/\p=H)
  ⟨⟨b,none,rfl,.nil _⟩,rfl⟩ (fun i σ p _ ⟨_,e⟩=>by exact e▸SqT.of r) ?_ ?_⟩
 rintro i x σ p O ⟨⟨d,z,rfl,j⟩,rfl⟩;obtain⟨g,rfl⟩:=ZfN O;refine Lk (m.at (N X[i] (QH g))) fun I R F G=>?_;have n:X.take (i+1)=X.take i++[X[i]]:=QO g;refine⟨_,rfl,_,rfl,Zb7 u F ⟨I,_,0,.str (frm c X[i]),rfl,rfl,SqT.of G,rfl,_,rfl,rfl,_,rfl,?_⟩⟩;by_cases o:frm c X[i]=d
 exact Ys (by rw[o];simp) ⟨_,rfl,_,rfl,Zb7 u F ⟨I,_,2,.str (tow c X[i]),rfl,rfl,SqT.of G,rfl,⟨⟨tow c X[i],_,rfl,by exact n▸j.snoc o⟩,rfl⟩⟩⟩
 refine Xu (by simp[o]) (k false ⟨fun z=>(by grind),fun z=>?_⟩);obtain⟨_,f,_⟩:=z;have:=Zkz (ts:=c) (u:=b) (X:=X.take (i+1)) (Y:=X.drop (i+1)) ⟨f,by rw[Wj];omega⟩;obtain⟨T,l⟩:=this;rw[n]at l;exact VM (l.pop.1.det j) o
 rintro σ p ⟨⟨d,z,rfl,j⟩,rfl⟩;rw[Qd,Q8]at j;exact k true ⟨fun _=>⟨C,d,j⟩,fun _=>rfl⟩
 refine Xu (by rw[ZhA bq];rfl) (k false ⟨fun z=>(by grind),fun z=>VM z.1 C⟩)
end
structure WJ (H:Hp) (d g bk:VH) (ks:VA VI) (adr:VI->VH) (H4:Hp) (r:VI->VA VC) (G B:VA VC):Prop where
 sm:Same H H4
 dd:H4 d=some (.dK (rD ks adr))
 row:∀ P∈ks,H4 (adr P)=some (.lst ((r P).map nV))
 gg:H4 g=some (.lst (G.map nV))
 bb:H4 bk=some (.lst (B.map nV))
 gn:H g=none
 bn:H bk=none
 fresh:∀ P∈ks,H (adr P)=none
 inj:∀ P∈ks,∀ P'∈ks,adr P=adr P'->P=P'
 ag:∀ P∈ks,adr P≠g
 ab:∀ P∈ks,adr P≠bk
 gb:g≠bk
 out:∀ P,P∉ks->r P=[]
def WJ.same (J:WJ H d g e ks a b r G B) (s:Same b f):WJ H d g e ks a f r G B where
 sm:=J.sm.trans s
 dd:=s _ _ J.dd
 row:=fun P c=>s _ _ (J.row P c)
 gg:=s _ _ J.gg
 bb:=s _ _ J.bb
 gn:=J.gn
 bn:=J.bn
 fresh:=J.fresh
 inj:=J.inj
 ag:=J.ag
 ab:=J.ab
 gb:=J.gb
 out:=J.out
def WJ.setRow (J:WJ H d g l ks h k r G B) (f:a∈ks):WJ H d g l ks h (upd k (h a) (.lst (X.map nV))) (Zia r a X) G B where
 sm:=fun b u j=>by
  exact Zi (Zh j (J.fresh a f))▸J.sm b u j
 dd:=by
  exact Zi (Zdo J.dd (J.row a f) bo)▸J.dd
 row:=fun P i=>by
  unfold Zia;by_cases c:P=a
  subst c;rw[VD rfl,Zd];rw[if_neg c,Zi fun e=>c (J.inj P i a f e)];exact J.row P i
 gg:=by
  exact Zi (VS (J.ag a f))▸J.gg
 bb:=by
  exact Zi (VS (J.ab a f))▸J.bb
 gn:=J.gn
 bn:=J.bn
 fresh:=J.fresh
 inj:=J.inj
 ag:=J.ag
 ab:=J.ab
 gb:=J.gb
 out:=fun P i=>by
  unfold Zia;rw[if_neg fun e:P=a=>i (e▸f)];exact J.out P i
def WJ.setG (J:WJ H d g h ks a f r G B):WJ H d g h ks a (upd f g (.lst (X.map nV))) r X B where
 sm:=fun b u e=>by
  exact Zi (Zh e J.gn)▸J.sm b u e
 dd:=by
  exact Zi (Zdo J.dd J.gg bo)▸J.dd
 row:=fun P c=>by
  exact Zi (J.ag P c)▸J.row P c
 gg:=Zd
 bb:=by
  exact Zi (VS J.gb)▸J.bb
 gn:=J.gn
 bn:=J.bn
 fresh:=J.fresh
 inj:=J.inj
 ag:=J.ag
 ab:=J.ab
 gb:=J.gb
 out:=J.out
def WJ.setB (J:WJ H d g c ks a h r G B):WJ H d g c ks a (upd h c (.lst (X.map nV))) r G X where
 sm:=fun b u f=>by
  exact Zi (Zh f J.bn)▸J.sm b u f
 dd:=by
  exact Zi (Zdo J.dd J.bb bo)▸J.dd
 row:=fun P e=>by
  exact Zi (J.ab P e)▸J.row P e
 gg:=by
  exact Zi J.gb▸J.gg
 bb:=Zd
 gn:=J.gn
 bn:=J.bn
 fresh:=J.fresh
 inj:=J.inj
 ag:=J.ag
 ab:=J.ab
 gb:=J.gb
 out:=J.out
def WJ.got (J:WJ H d g j ks b f r G B) (a) (h:f p=none):∃ l,(XU (rD ks b) (VJ a)).getD (.ref p)= .ref l/\(upd f p (.lst [])) l=some (.lst ((r a).map nV)):=by
 rw[Jw];by_cases c:a∈ks
 exact VD c▸⟨_,rfl,Zb h _ _ (J.row a c)⟩;exact if_neg c▸⟨p,rfl,by rw[Zd,J.out a c];rfl⟩
section
variable {P:Oh} {w:Ol} {K:VB} {mg:VI->VE VG} {base:Nu}
abbrev Zgb:Mv:=top 26
noncomputable abbrev Zm0:VA VI:=["ties","begin","left","gone","backwards","point","numbers"]
def scWayOf:Zp Zm0 ["ties","begin"] (Zf Zgb):=⟨rfl,rfl,rfl,bh,rfl,bh,bh⟩
def ZmA:Sp:=fun vs H Q _=>∃ (v:V) (b:VI) (ts:Ts),vs=[v,.str b]/\TiesV H v ts/\ts.length<=400/\(Eul ts b (wayX ts b)->∀ x H',Same H H'->ZnN H' x (wayX ts b)->Q x H')/\(¬ Zid ts b->∀ H',Same H H'->Q .non H')
def ZgN (D:HasDef K mg "way_of" Zgb ["ties","begin"]) (B:Blt mg) (g31_:FOk P w K mg base 1 "numbers_out" ["ties"] ZmB) (g25_:FOk P w K mg base 1 "is_way" ["ties","begin","numbers"] ZfZ):FOk P w K mg base 2 "way_of" ["ties","begin"] ZmA:=by
 refine D.ok scWayOf (fun vs H Q E h=>?_) (fun f cdv A outer s H vs Q E hr h=>?_)
 obtain⟨v,b,n,rfl,_⟩:=h;rfl
 apply Lb;intros;apply La;intros;obtain⟨v,b,n,rfl,hV,hlen,k1,k2⟩:=h;have hu:=ZdE hr;obtain⟨a,vs,rfl,hs,hty⟩:=id hV;refine ⟨_,(Zc (Zm 2 scWayOf.nd (ZH g31_ hr (Za (pv 0) Ze)))
  (Zc (Zm 3 scWayOf.nd (ZC Ze))
  (Zc (Zm 4 scWayOf.nd (ZC Ze))
  (Zc (Zm 5 scWayOf.nd (pv 1))
  (Zc (Y6 VP (PW.pt (JB (Zt Zcj (Zk Zn rfl B.len ZG (Za (YE hu (pv 2) (pv 5) (ZC Ze) ⟨rfl,rfl,rfl,rfl⟩) Ze)) Zg (Zz _)) (Jx (Zt Zcj (Zk Zn rfl B.len ZG (Za (pv 3) Ze)) Zg (Zz _)))))
   (Zj (Ya (Zt Zcj (Zk Zn rfl B.len ZG (Za (YE hu (pv 2) (pv 5) (ZC Ze) ⟨rfl,rfl,rfl,rfl⟩) Ze)) Zg (Zz _)) (Zc (Z4 (XS F.plainAttrs_list F.slot_list_append F.type_list_append Yj (pv 3) (Za (YJ F.plainAttrs_list F.slot_list_pop F.type_list_pop Yg (Zdh hu (pv 2) (pv 5) (fun _ _=>rfl))) Ze)))
  (Zj (Zm 5 scWayOf.nd (ZA ix_tup (ZA (Zah K) (pv 0) (ZA ix_list (pv 3) (XC YA Zg))) Zg)))) (Zc (Z4 (XS F.plainAttrs_list F.slot_list_append F.type_list_append Yj (pv 4) (Za (YJ F.plainAttrs_list F.slot_list_pop F.type_list_pop Yg (pv 3)) Ze)))
  (Zj (Zm 5 scWayOf.nd (ZA ix_tup (ZA (Zah K) (pv 0) (ZA ix_list (pv 4) (XC YA Zg))) Zg)))))))
  (Zc (Zm 6 scWayOf.nd (Yw Z7 rfl B.tuple YX (Za (ZmL (pv 4) (XC YA Zg)) Ze)))
  (Zc (Ya (YI (ZH g25_ hr (Za (pv 0) (Za (pv 1) (Za (pv 6) Ze))))) (Zj (Zu (pv 6))) ZD)
  (Zj (Zu Xp))))))))),⟨_,rfl,.ref a,n,rfl,hV,hlen,fun d H1 ks adr J=>⟨Zl (show 0<=1000 by decide),fun g hg=>⟨Zl (show 0<=1000 by decide),fun bk hbk=>?_⟩⟩⟩⟩;have hgb:g≠bk:=fun e=>by rw[←e,Zd]at hbk;simp_all
 have hbk1:H1 bk=none:=by rw[Zi (VS hgb)]at hbk;omega
 have W0:WJ H d g bk ks adr (upd (upd H1 g (.lst [])) bk (.lst [])) (rows n) [] []:=by
  have ss:=(Zb (o:=.lst []) hg).trans (Zb (o:=.lst []) hbk);exact⟨J.sm.trans ss,ss _ _ J.dd,fun P hP=>ss _ _ (J.row P hP),by rw[Zi hgb,Zd];rfl,Zd,J.sm.free hg,J.sm.free hbk1,J.fresh,J.inj,(fun P hP e=>by have:=J.row P hP;simp_all),(fun P hP e=>by have:=J.row P hP;simp_all),hgb,J.out⟩
 generalize upd (upd H1 g (.lst [])) bk (.lst [])=H3 at W0;refine⟨_,rfl,?_⟩
 try dsimp only[Js]
 apply Dd;intros;show Zd1 (ZaG _ _) _ _ _ _;refine Z0 (fun σ H4=>∃ (o:VI) (r:VI->VA VC) (q:VA VC),σ=[some (.ref a),some (.str b),some (.ref d),some (.ref g),some (.ref bk),some (.str o),none]/\WJ H d g bk ks adr H4 r [] q/\WI n b o r [] q/\r o=[]/\q.reverse=wayX n b) (fun R hR=>?_) ?_
 refine⟨fun m σ H4=>∃ (o:VI) (r:VI->VA VC) (G q:VA VC),σ=[some (.ref a),some (.str b),some (.ref d),some (.ref g),some (.ref bk),some (.str o),none]/\WJ H d g bk ks adr H4 r G q/\WI n b o r G q/\m=2*(n.length-(G.length+q.length))+G.length/\wlk n m r o G q=wlk n (2*n.length) (rows n) b [] [],
  ⟨_,b,rows n,[],[],rfl,W0,WI.start (Zgo n) (Zef n),rfl,bo⟩,?_⟩
 rintro m σ H4 ⟨o,r,G,q,rfl,J4,hW,hm,hw⟩;have hl4:=hW.len;have hrl:=hW.in_len o;refine⟨_,rfl,d,rfl,.inl ⟨_,.inl J4.dd⟩,_,rfl,Zl (show 0<=1000 by decide),fun p hp=>?_⟩;have s5:=Zb (o:=.lst []) hp;obtain⟨l,el,hl⟩:=J4.got o hp;have J5:=J4.same s5;refine⟨_,.inl ⟨_,VJ o,.inl J5.dd,rfl,rfl⟩,?_⟩;rw[el];generalize upd H4 p (.lst [])=H5 at J5 hl;clear hp s5 el J4 H4;refine⟨.ref l,_,rfl,.inl ⟨_,SqL.of hl,rfl⟩,_,_,rfl,rfl,_,rfl,?_⟩;rw[Qd];rcases WF (r o)with e0 | ⟨X,i,e0⟩
 refine Ys (by rw[e0];simp) ⟨_,rfl,.ref g,_,rfl,.inl ⟨_,SqL.of J5.gg,rfl⟩,_,_,rfl,rfl,_,rfl,?_⟩;rw[Qd];rcases WF G with rfl | ⟨X,i,rfl⟩
 refine Ys bo (hR _ _ ⟨o,r,q,rfl,J5,hW,e0,?_⟩);rw[ZdT e0]at hw;unfold wayX;rw[←hw]
 rw[WN]at *;refine Xu bo ?_;have hi:i<n.length:=hW.lt i bo;refine Lk (hty.at hi) fun b0 sg f1 f2=>?_;rw[Qg,Qp]at hm hl4;refine ⟨fun σ' H'=>∃ m',m'<m/\∃ (o:VI) (r:VI->VA VC) (G q:VA VC),σ'=[some (.ref a),some (.str b),some (.ref d),some (.ref g),some (.ref bk),some (.str o),none]/\WJ H d g bk ks adr H' r G q/\WI n b o r G q/\m'=2*(n.length-(G.length+q.length))+G.length/\wlk n m' r o G q=wlk n (2*n.length) (rows n) b [] [],fun _ _ z=>z,⟨_,rfl,d,rfl,.inl ⟨_,.inl J5.dd⟩,_,rfl,Zl (show 0<=1000 by decide),fun p hp=>?_⟩⟩;have s5:=Zb (o:=.lst []) hp;obtain⟨l',el,hl'⟩:=J5.got o hp;have J6:=J5.same s5;refine⟨_,.inl ⟨_,VJ o,.inl J6.dd,rfl,rfl⟩,?_⟩;rw[el];generalize upd H5 p (.lst [])=H6 at J6 hl';refine⟨.ref l',_,rfl,.inl ⟨_,SqL.of hl',rfl⟩,_,_,rfl,rfl,_,rfl,?_⟩;rw[Qd];refine Ys (by rw[e0];simp) ⟨_,rfl,.inl ⟨rfl,_,SqL.of J6.bb⟩,_,rfl,.inl ⟨rfl,_,SqL.of J6.gg⟩,g,_,nV i,rfl,rfl,J6.gg,bo,?_⟩;rw[show((X++[i]).map nV).dropLast=X.map nV by simp];have J7:=J6.setG (X:=X);refine Pf bk _ (nV i) ⟨rfl,rfl,J7.bb,by rw[Qd];exact ZB bq,?_⟩;rw[show q.map nV++[nV i]=(q++[i]).map nV by simp];have J8:=J7.setB (X:=q++[i]);refine ⟨_,rfl,_,rfl,_,rfl,Pg bk _ (-1) (nV i) ⟨rfl,rfl,SqL.of J8.bb,by rw[QK,WM];exact Zh7,Zb7 (hs.same J8.sm) f1 ⟨b0,_,0,.str (frm n i),rfl,rfl,SqT.of (J8.sm _ _ f2),rfl,⟨2*(n.length-(X.length+(q++[i]).length))+X.length,?_,frm n i,r,X,q++[i],rfl,J8,hW.pop e0,rfl,?_⟩⟩⟩⟩
 ·rw[Qg,Qp];lia
 ·rw[←hw,show m=2*(n.length-(X.length+(q++[i]).length))+X.length+1 by rw[Qg,Qp];lia,ZdS e0]
 rw[WN]at e0;refine Xu (by rw[e0];simp) (Xu rfl ?_);have hik:i∈r o:=by rw[e0];simp
 have hpk:o∈ks:=NT fun c=>by rw[J5.out o c]at hik;cases hik
 have hi:i<n.length:=((hW.row o i).mp hik).1;obtain⟨b0,sg,f1,f2⟩:=hty.at hi;have hW2:=hW.push e0;have hl5:=hW2.len;rw[Qg,Qp]at hl5;refine ⟨fun σ' H'=>∃ m',m'<m/\∃ (o:VI) (r:VI->VA VC) (G q:VA VC),σ'=[some (.ref a),some (.str b),some (.ref d),some (.ref g),some (.ref bk),some (.str o),none]/\WJ H d g bk ks adr H' r G q/\WI n b o r G q/\m'=2*(n.length-(G.length+q.length))+G.length/\wlk n m' r o G q=wlk n (2*n.length) (rows n) b [] [],fun _ _ z=>z,⟨_,rfl,d,rfl,.inl ⟨_,.inl J5.dd⟩,_,rfl,Zl (show 0<=1000 by decide),fun p hp=>?_⟩⟩;have s5:=Zb (o:=.lst []) hp;obtain⟨l',el,hl'⟩:=J5.got o hp;have J6:=J5.same s5;refine⟨_,.inl ⟨_,VJ o,.inl J6.dd,rfl,rfl⟩,?_⟩;rw[el];generalize upd H5 p (.lst [])=H6 at J6 hl';refine⟨.ref l',_,rfl,.inl ⟨_,SqL.of hl',rfl⟩,_,_,rfl,rfl,_,rfl,?_⟩;rw[Qd];refine Xu (by rw[e0];simp) ?_;have hrow:=J6.row o hpk;rw[e0]at hrow;refine⟨_,rfl,.inl ⟨rfl,_,SqL.of J6.gg⟩,_,rfl,_,rfl,d,.ref (adr o),rfl,.inl ⟨_,VJ o,.inl J6.dd,rfl,by rw[Jw,VD hpk]⟩,.inl ⟨rfl,_,SqL.of hrow⟩,Pf (adr o) _ (nV i) ⟨rfl,rfl,hrow,bo,?_⟩⟩;rw[show((X++[i]).map nV).dropLast=X.map nV by rw[QK,WM,List.dropLast_concat]];have J7:=J6.setRow (X:=X) hpk;refine Pf g _ (nV i) ⟨rfl,rfl,J7.gg,by rw[Qd];exact ZB br,?_⟩;rw[show G.map nV++[nV i]=(G++[i]).map nV by rw[QK,WM]];have J8:=J7.setG (X:=G++[i]);refine ⟨_,rfl,_,rfl,_,rfl,Pg g _ (-1) (nV i) ⟨rfl,rfl,SqL.of J8.gg,by rw[QK,WM];exact Zh7,Zb7 (hs.same J8.sm) f1 ⟨b0,_,2,.str (tow n i),rfl,rfl,SqT.of (J8.sm _ _ f2),rfl,⟨2*(n.length-((G++[i]).length+q.length))+(G++[i]).length,?_,tow n i,Zia r o X,G++[i],q,rfl,J8,hW2,rfl,?_⟩⟩⟩⟩
 rw[Qg,Qp];omega
 rw[←hw,show m=2*(n.length-((G++[i]).length+q.length))+(G++[i]).length+1 by rw[Qg,Qp];omega,ZbZ e0]
 rintro σ H4 ⟨o,r,q,rfl,J4,hW,e0,ew⟩;refine ⟨_,rfl,_,rfl,bk,_,rfl,SqL.of J4.bb,rfl,fun p hp=>⟨p,_,rfl,.inl ⟨SqL.of Zd,fun l hl=>?_⟩⟩⟩;have s5:=(J4.sm.trans (Zb (o:=.lst (q.map nV).reverse) hp)).trans (Zb (o:=.tup (q.map nV).reverse) hl);have hT:ZnN (upd (upd H4 p (.lst (q.map nV).reverse)) l (.tup (q.map nV).reverse)) (.ref l) (wayX n b):=⟨l,rfl,by rw[Zd,←ew,RC]⟩
 refine⟨_,rfl,_,rfl,_,rfl,Pe (.ref a) (.ref l) b n (wayX n b) ⟨rfl,hV.same s5,hT,fun i hi=>?_,fun c hc=>?_⟩⟩
 rw[←ew,Ud]at hi;exact hW.lt i (by simpa using hi)
 refine⟨_,rfl,?_⟩;cases c with
 | true =>
  obtain⟨h1,f,h2⟩:=hc.mp rfl;rw[←ew]at h1 h2;rw[Q5]at h1;have hE:=hW.eul h1 h2;rw[ew]at hE;exact Xu rfl ⟨_,rfl,k1 hE _ _ s5 hT⟩
 | false =>
  refine Ys rfl (k2 (fun hg=>?_) _ s5);have hE:=hW.done e0 hg;rw[ew]at hE;have:=hc.mpr ⟨by rw[hE.1.length_eq,QU],hE.2⟩;cases this
end
end Sh
namespace L2
def ZaQ:MtR X "list.extend" Zgs:=Zg9
end L2
namespace Sh
open PySem L2 PyProof.Rows
seal PE PS PSs PT PW L2.PA PI PG PGs PO PC PCs OpR UnR CallR MtR IxR SlR
structure Hpy (es:Es) (L:VC):Prop where
 fine:Zie es
 ne:es≠[]
 len:∀ e∈es,e.1.length=L
 l1:1<=L
 l3:L<=300
 pos:∀ e∈es,1<=e.2
 tot:(flatE es).length<=350
 srt:((es.map (·.1)).map fun x=>x.cps.toList).Pairwise (· < ·)
 cd:∀ e∈es,Cd e.1.cps.toList
def TyS (H:Hp) (us:VA V) (T:VA VI):Prop:=us.length=T.length/\∀ (i:VC) (x:VI),T[i]?=some x->∃ b,us[i]?=some (.ref b)/\H b=some (.tup [.str (bg x),.str (tx [lst x]),.str (en x)])
def TyS.same (h:TyS H d T) (s:TSame H a):TyS a d T:=⟨h.1,fun i x e=>by
 obtain⟨b,f,c⟩:=h.2 i x e;exact⟨b,f,s _ _ c⟩⟩
def TyS.rep (h:TyS H j T) (d:H b=some (.tup [.str (bg x),.str (tx [lst x]),.str (en x)])) (n):TyS H (j++Qw n (.ref b)) (T++Qw n x):=by
 refine⟨by simp[h.1],fun i y e=>?_⟩;by_cases f:i<T.length
 rw[QF f]at e;obtain⟨c,k,g⟩:=h.2 i y e;exact⟨c,by rw[QF (by exact h.1▸f)];omega,g⟩;rw[QC (Kr f)]at e;have a:=(Qj.mp e).1;rw[Wb]at a;rw[(Uh.mp (We e)).2];refine⟨b,?_,d⟩;rw[QC (by exact h.1▸Kr f),h.1,Wz,VD a]
def ZjA {l} {c:α}:atI (l++[c]) (-1)=some c:=by
 unfold atI ixN;rw[if_neg be,VD (by rw[Qg,Qp];exact V2)];simp only[RB,Qg,Qp];rw[show((-1)+((l.length+1:VC):VN)).toNat=l.length by exact V3];simp
def Zne (h:1<=x.length):atI x.cps.toList (-1)=some (lst x):=by
 exact ZeM h▸ZjA
def X9 {α:Type} (n) (a:α):(Qw n [a]).flatten=Qw n a:=by
 simp
def ZaZ:(flatE (es.take n)).length<=(flatE es).length:=by
 have:flatE es=flatE (es.take n)++flatE (es.drop n):=by
  unfold flatE;rw[←Rn,Wj]
 rw[this,Qg];exact Kb
def ZpQ (H:Hp) (x:V) (ts:Ts) (b:VI):Prop:=(Eul ts b (wayX ts b)/\ZnN H x (wayX ts b))\/(¬ Zid ts b/\x= .non)
def Zih {Q:V->Hp->Prop} (h:∀ x a,Same H a->ZpQ a x ts b->Q x a):(Eul ts b (wayX ts b)->∀ x a,Same H a->ZnN a x (wayX ts b)->Q x a)/\(¬ Zid ts b->∀ a,Same H a->Q .non a) :=
 ⟨fun e x a s t=>h x a s (.inl ⟨e,t⟩),fun g a s=>h _ a s (.inr ⟨g,rfl⟩)⟩
section
variable {P:Oh} {w:Ol} {K:VB} {mg:VI->VE VG} {base:Nu}
abbrev Zc4:Mv:=top 14
abbrev ZlA:VA VI:=["H","ties","piece","many"]
def scTiesOf:Zp ZlA ["H"] (Zf Zc4):=⟨rfl,rfl,rfl,bh,rfl,bh,bh⟩
def Zd6:Sp:=fun vs H Q _=>∃ (v:V) (es:Es) (L:VC),vs=[v]/\HeapV H v es/\Hpy es L/\∀ q us H',Same H H'->H' q=some (.lst us)->TyS H' us (flatE es)->Q (.ref q) H'
def Ze2 (D:HasDef K mg "ties_of" Zc4 ["H"]) (C:FOk P w K mg base 1 "begin_of" ["piece"] Zc2) (z:FOk P w K mg base 1 "end_of" ["piece"] Zf2):FOk P w K mg base 2 "ties_of" ["H"] Zd6:=by
 refine D.ok scTiesOf (fun M H Q E h=>?_) (fun f cdv A U s H M Q E hr h=>?_)
 obtain⟨v,g,L,rfl,_⟩:=h;rfl
 apply Lb;intros;apply La;intros;obtain⟨v,g,L,rfl,⟨q,M,rfl,hq,m⟩,W,k⟩:=h;refine ⟨_,(Zc (Zm 1 scTiesOf.nd (ZC Ze))
  (Zc (Z1 VP rfl (Yv (pv 0)) (ZW 2 K rfl (Zq (Zw 2 scTiesOf.nd) (Zq (Zw 3 scTiesOf.nd) ZV)))
   (Zj (Z4 (XS F.plainAttrs_list F.slot_list_extend F.type_list_extend ZaQ (pv 1) (Za (Zo Xi (ZC (Za (J2 (Za (ZH C hr (Za (pv 2) Ze)) (Za (ZA Zcy (pv 2) (XC YA Zg)) (Za (ZH z hr (Za (pv 2) Ze)) Ze)))) Ze)) (pv 3)) Ze)))))
  (Zj (Zu (pv 1))))),⟨Zl (show 0<=1000 by decide),fun l hl=>?_⟩⟩;have s1:=Zb (o:=.lst []) hl;refine⟨_,rfl,q,rfl,⟨_,SqT.of (s1 _ _ hq)⟩,?_⟩;refine Xc (K:=K) (a:=q) (xs:=M) (fun i σ o=>∃ (Y S:VE V) (r:VA V),σ=[some (.ref q),some (.ref l),Y,S]/\Same H o/\o l=some (.lst r)/\TyS o r (flatE (g.take i)))
  ⟨none,none,[],rfl,s1,Zd,⟨rfl,fun i x e=>by cases e⟩⟩ (fun i σ o _ ⟨_,_,_,_,y,_⟩=>SqT.of (y _ _ hq)) ?_ ?_
 rintro i x σ o hi ⟨Y,S,r,rfl,y,d,a⟩;have B:i<M.length:=(Qj.mp hi).1;have c:i<g.length:=by exact m.1▸B
 apply La;intros;obtain⟨b,e1,e2⟩:=m.2 i g[i] (Qa c);rw[hi]at e1;cases e1;obtain⟨n,O⟩:=W.fine.long g[i] (QH c);have hm:=W.fine.many g[i] (QH c);have R:=W.tot;have ht1:=ZaZ (es:=g) (n:=i);have hul:=a.1;refine⟨b,_,rfl,SqT.of (y _ _ e2),rfl,_,_,rfl,_,_,rfl,rfl,?_⟩;rw[(QO c),Za0];generalize g[i]=e at *;refine⟨_,rfl,.inl ⟨rfl,_,SqL.of d⟩,_,rfl,e.1,rfl,n,O,_,rfl,_,rfl,Pf e.1 _ _ ⟨rfl,rfl,Z2 O,Zne n,_,rfl,e.1,rfl,n,O,Zl (show 3<=1000 by decide),fun t ht=>?_⟩⟩;have X:=Zb (o:=.tup [.str (bg e.1),.str (tx [lst e.1]),.str (en e.1)]) ht;refine⟨Zl (show 1<=1000 by decide),fun p hp=>?_⟩;have J:=Zb (o:=.lst [.ref t]) hp;refine⟨_,rfl,Pf p e.2 _ ⟨rfl,rfl,Zd,bq,bq,Zl (by simp only[Qp];exact Nr hm),fun p2 T=>?_⟩⟩;rw[X9];have N:=Zb (o:=.lst (Qw e.2.toNat (V.ref t))) T;have G:=N _ _ (J _ _ (X _ _ d));refine Pg l p2 _ _ ⟨rfl,rfl,G,Zd,?_,?_⟩
 rw[Wb];refine Zx ?_;lia
 have ts:=YB (ys:=r++Qw e.2.toNat (V.ref t)) G;exact Pf _ _ _ ⟨rfl,fun b u Z=>by exact Zi (Zh Z hl)▸N _ _ (J _ _ (X _ _ (y b u Z))),Zd,((a.same (((X.trans J).trans N).tup.trans ts)).rep (ts _ _ (N _ _ (J _ _ Zd))) _)⟩
 rintro σ o ⟨Y,S,r,rfl,y,d,a⟩;rw[m.1,Q8]at a;exact⟨_,rfl,k l r o y d a⟩
abbrev XX:Mv:=top 27
abbrev Zcr:VA VI:=["ties","begin","numbers"]
def scTextFrom:Zp Zcr ["ties","begin"] (Zf XX):=⟨rfl,rfl,rfl,bh,rfl,bh,bh⟩
abbrev Zbm:Mv:=top 18
abbrev Zg4:VA VI:=["H"]
def Ziu:Zp Zg4 ["H"] (Zf Zbm):=⟨rfl,rfl,rfl,bo,rfl,bh,bh⟩
def ZjS:Sp:=fun vs H Q _=>∃ (v:V) (es:Es),vs=[v]/\HeapV H v es/\Zie es/\∀ v' H' ss,Same H H'->HeapV H' v' (ups (fun y=>-mo es y) ss)->SPts es ss->Q v' H'
def Ze9 (D:HasDef K mg "ends_of" Zbm ["H"]) (B:Blt mg) (l:FOk P w K mg base 2 "more_out" ["H"] JQ):FOk P w K mg base 3 "ends_of" ["H"] ZjS:=by
 refine D.ok Ziu (fun o H Q E h=>?_) (fun f cdv A R s H o Q E t h=>?_)
 obtain⟨v,g,rfl,_⟩:=h;rfl
 apply Lb;intros;obtain⟨v,g,rfl,hV,Z,k⟩:=h;refine ⟨_,(Zj (Zu (Yw Z7 rfl B.tuple YX (Za (Yd (Zf Zbm) Zg4 ["point","more"] [] rfl (Xn (Zk (Xf rfl) rfl B.sorted XA (Za (Zbr (ZH l t (Za (pv 0) Ze))) Ze))) (fun _ _ _ _ _=>ZW 2 K rfl (Zq (Yz 0) (Zq (Yz 1) ZV))) (fun _ _ _ _ _=>Jm (Zt Zdj (pv 1) Zg (Zz _))) (fun _ _ _ _ _=>(J2 (Za (pv 0) (Za (XC YA (pv 1)) Ze))))) Ze)))),⟨_,rfl,v,g,rfl,hV,Z,fun d H1 ks s1 U u=>⟨d,_,rfl,U,fun p Y=>?_⟩⟩⟩;have G:=u.len;have X:=Z.few;refine Pg p d ks (fun x=>.int (mo g x)) ⟨rfl,Zd,Zb Y _ _ U,u.nd,Tl X G,fun D1 H2 o a s2 j n m hl hv=>⟨D1,rfl,⟨_,SqL.of m⟩,ZbD a.length (fun i=>o.getD i .non) (fun i=>decide (0<(fun y=>-mo g y) (a.getD i ""))) (fun i v H=>Zk9 (a.getD i "") ((fun y=>-mo g y) (a.getD i "")) v H) (Zl (Sg G j.length_eq X)) (fun i v H H' z=>Lh fun b C I=>⟨b,C,z _ _ I⟩) (by have:=ZbH (K:=K) (SqL.of m);rw[hl]at this;trivial) ?_ ?_⟩⟩
 intro i H3 Qt Qf W z V T;obtain⟨b,C,I⟩:=hv i a[i] (Qa W);have ev:o.getD i .non= .ref b:=by rw[Qb,C];rfl
 have F:a.getD i "" = a[i]:=by rw[Qb,Qa W];rfl
 rw[F]at V T;rw[ev];refine ⟨b,_,rfl,SqT.of (z _ _ I),rfl,_,_,rfl,_,_,rfl,rfl,⟨_,rfl,_,_,rfl,rfl,_,rfl,?_⟩⟩;by_cases c:0<(fun y=>-mo g y) a[i]
 refine Xu (VR bp) (⟨_,rfl,_,rfl,_,rfl,Zl (show 2<=1000 by decide),fun r t=>V (VR c) _ _ (Zb t) ⟨r,rfl,Zd⟩⟩)
 exact Ys (VO (by have c:=c;dsimp only at c;lia)) (T (VO c) _ (Same.refl _))
 intro D2 e H3 O hR J hD2 N;refine⟨D2,e,rfl,.inl ⟨SqL.of N,fun q hq=>?_⟩⟩;have S:=Zb (o:=.tup e) hq;exact k (.ref q) _ a (((s1.trans (Zb Y)).trans s2).trans (J.trans S)) ⟨q,e,rfl,Zd,(ZmS O hR).same S.tup⟩ (SPts.of u j n)
end
abbrev T3:=VA (VI×VI×VI)
noncomputable def Zmc (x:VI):VI×VI×VI:=(bg x,tx [lst x],en x)
def tsT (T:T3):Ts:=T.map fun t=>(t.1,t.2.2)
noncomputable def ZcX (T:T3) (X:VA VC):VA VC:=X.flatMap fun i=>(T.getD i ("","","")).2.1.cps.toList
noncomputable def tf (T:T3) (b:VI):VE VI:=by
 classical
 exact if Zid (tsT T) b then some (tx (b.cps.toList++ZcX T (wayX (tsT T) b)))else none
def ZfH (h:Zid (tsT T) b):tf T b=some (tx (b.cps.toList++ZcX T (wayX (tsT T) b))):=VD h
def Zmr (h:¬ Zid (tsT T) b):tf T b=none:=if_neg h
end Sh
namespace Sh
open PySem L2 PyProof.Rows
seal PE PS PSs PT PW L2.PA PI PG PGs PO PC PCs OpR UnR CallR MtR IxR SlR
noncomputable def Zot:VE VI->V
 | some s=>.str s
 | none=>.non
def TyL (H:Hp) (us:VA V) (T:T3):Prop:=us.length=T.length/\∀ (i:VC) (t:VI×VI×VI),T[i]?=some t->∃ b,us[i]?=some (.ref b)/\H b=some (.tup [.str t.1,.str t.2.1,.str t.2.2])
def TyL.same (h:TyL H d T) (s:TSame H a):TyL a d T:=⟨h.1,fun i x e=>by
 obtain⟨b,f,c⟩:=h.2 i x e;exact⟨b,f,s _ _ c⟩⟩
def TyL.tyA (h:TyL H a T):TyA H a (tsT T):=⟨by unfold tsT;rw[h.1,Qd],fun i t e=>by
 unfold tsT at e;rw[Qi]at e;obtain⟨x,c,rfl⟩:=WB.mp e;obtain⟨b,f,d⟩:=h.2 i x c;exact⟨b,f,_,d⟩⟩
def TyL.of (h:TyS H a F):TyL H a (F.map Zmc):=⟨by rw[h.1,Qd],fun i t e=>by
 rw[Qi]at e;obtain⟨x,b,rfl⟩:=WB.mp e;exact h.2 i x b⟩
def TyL.snoc (h:TyL H n T) (f:H b=some (.tup [.str t.1,.str t.2.1,.str t.2.2])):TyL H (n++[.ref b]) (T++[t]):=by
 refine⟨by simp[h.1],fun i y e=>?_⟩;by_cases j:i<T.length
 rw[QF j]at e;obtain⟨c,o,g⟩:=h.2 i y e;exact⟨c,by rw[QF (by exact h.1▸j)];omega,g⟩;have k:=(Qj.mp e).1;rw[Qg,Qp]at k;have d:i=T.length:=V5 k j
 subst d;rw[QC (Qh _),Wv]at e;cases e;exact⟨b,by rw[←h.1,QC (Qh _),Wv];rfl,f⟩
def Zfi:∀ l,(TV "" l).cps.toList=l.flatMap fun x=>x.cps.toList:=by
 have m:∀ l,(R0 "" l).cps.toList=l.flatMap fun x=>x.cps.toList:=by
  intro l;induction l with
  | nil=>rfl
  | cons c r k =>
   cases r with
   | nil=>simp[R0]
   | cons d q =>
    have e:R0 "" (c::d::q)=c ++ "" ++ R0 "" _:=rfl;have j:("" : VI).cps.toList=[]:=rfl;have i:∀ a b:VI,(a++b).cps.toList=a.cps.toList++b.cps.toList:=fun a b=>by
     have:=XE a.cps.toList b.cps.toList;rw[tx_eta,tx_eta]at this;rw[this,ZI]
    rw[e,i,i,k,j];simp
 intro l;have:TV "" l=R0 "" l:=StrLaws.glued_eq_join _ _
 simp_all
section
variable {P:Oh} {w:Ol} {K:VB} {mg:VI->VE VG} {base:Nu}
def Zo4:Sp:=fun vs H Q _=>∃ (q:VH) (b:VI) (us:VA V) (T:T3),vs=[.ref q,.str b]/\H q=some (.lst us)/\TyL H us T/\T.length<=400/\(∀ t∈T,t.2.1.length<=100)/\b.length<=100/\∀ H',Same H H'->Q (Zot (tf T b)) H'
def ZhM {α:Type} {g:α->VA VC}:∀ {l:VA α},(∀ x∈l,(g x).length<=100)->(l.flatMap g).length<=100*l.length
 | [],_=>by simp
 | x::l,h=>by
  rw[List.flatMap_cons,Qg,QI];have:=h x Qo;have:=ZhM fun y b=>h y (Qm _ b);exact Kt ‹_› this
def ZfK:∀ {l:VA VI},(∀ x∈l,x.length<=100)->(l.map (·.length)).sum<=100*l.length
 | [],_=>by simp
 | x::l,h=>by
  rw[Q3,Wc,QI];have:=h x Qo;have:=ZfK fun y c=>h y (Qm _ c);exact Kt ‹_› this
def Zck (D:HasDef K mg "text_from" XX ["ties","begin"]) (B:Blt mg) (n:FOk P w K mg base 2 "way_of" ["ties","begin"] ZmA):FOk P w K mg base 3 "text_from" ["ties","begin"] Zo4:=by
 refine D.ok scTextFrom (fun vs H Q E h=>?_) (fun f cdv A y s H vs Q E hr h=>?_)
 obtain⟨q,b,L,T,rfl,_⟩:=h;rfl
 apply Lb;intros;apply La;intros;obtain⟨q,b,L,T,rfl,S,l,hT,hL,hb,k⟩:=h;refine⟨_,(Zc (Zm 2 scTextFrom.nd (ZH n hr (Za (pv 0) (Za (pv 1) Ze))))
  (Zc (Ya (Zt ZgL (pv 2) Xp (Zz _)) (Zj (Zu Xp)) ZD)
  (Zj (Zu (Zo Z6 (pv 1) (XS F.plainAttrs_str F.slot_str_join F.type_str_join Zg7 J9 (Za (Yd (Zf XX) Zcr ["number"] [0] rfl (Yv (pv 2)) (fun _ _ _ _ _=>Yz 0) (fun _ _ _ _ _=>YK) (fun _ _ _ _ _=>(ZA (ZlW K) (ZA (ZeF K) (pv 1) (pv 0)) Zg))) Ze))))))),?_⟩
 apply J1;intros;have z:(tsT T).length=T.length:=by unfold tsT;simp
 refine⟨_,rfl,_,rfl,.ref q,b,tsT T,rfl,⟨q,L,rfl,.inl S,l.tyA⟩,Kk hT z,Zih fun x H1 p J=>?_⟩;rcases J with ⟨G,qn,rfl,j⟩ | ⟨hn,rfl⟩
 rotate_left
 rw[Zmr hn]at k;exact⟨_,rfl,rfl,_,rfl,Xu bo (k H1 p)⟩
 rw[ZfH G.good]at k;have hXl:(wayX (tsT T) b).length=T.length:=by rw[G.1.length_eq,QU,z]
 have W:∀ i∈wayX (tsT T) b,i<T.length:=fun i d=>by
  have:=Qu.mp (G.1.mem_iff.mp d);exact K8 z this
 generalize wayX (tsT T) b=X at *;refine ⟨_,rfl,rfl,_,rfl,Ys bo ⟨_,rfl,rfl,_,rfl,qn,rfl,⟨_,SqT.of j⟩,X5 X.length (fun i=>(X.map nV).getD i .non) (fun i v _=>v= .str (T.getD (X.getD i 0) ("","","")).2.1) (Zl br) (fun _ _ _ _ _ r=>r) (by have:=Jz (SqT.of (K:=K) j);rw[Qd]at this;trivial) ?_ ?_⟩⟩
 intro i U Qe d hs kq;rw[ZhH d];have m:=W X[i] (QH d);obtain⟨O,e1,e2⟩:=l.2 X[i] T[X[i]] (Qa m);refine⟨_,rfl,_,rfl,Pg q L (X[i]) (.ref O) ⟨rfl,rfl,SqL.of (hs _ _ (p _ _ S)),Xh e1,Pg O _ 1 _ ⟨rfl,rfl,SqT.of (hs _ _ (p _ _ e2)),rfl,kq _ _ (Same.refl _) ?_⟩⟩⟩;rw[Qb (l:=X),Qa d,WW,Qb,Qa m];rfl
 intro D1 t U C u I hD1 e;have ev:t=(X.map fun i=>(T.getD i ("","","")).2.1).map V.str:=by
  rw[Ww];refine ZkJ C fun i v hv c hc=>?_;rw[u i v hv,Qb (l:=X),hc];rfl
 rw[ev]at e;have R:∀ x∈X.map fun i=>(T.getD i ("","","")).2.1,x.length<=100:=fun x J=>by
  obtain⟨i,d,rfl⟩:=Q6.mp J;rw[Qb,Qa (W i d)];exact hL _ (QH _)
 have N:=ZfK R;rw[Qd]at N;refine Pf ("") D1 _ ⟨rfl,rfl,SqL.of e,?_,?_⟩
 have:("" : VI).length=0:=rfl;rw[this,Nat.mul_zero];lia
 have ej:TV "" (X.map fun i=>(T.getD i ("","","")).2.1)=tx (ZcX T X):=by
  rw[←tx_eta (TV _ _),Zfi,List.flatMap_map];rfl
 rw[ej];have hll:(ZcX T X).length<=100*X.length:=ZhM fun i d=>by
  exact R _ (Q6.mpr ⟨i,d,rfl⟩)
 refine⟨_,_,rfl,rfl,?_,?_⟩
 rw[Zs];refine Zx ?_;lia
 exact show b++tx (ZcX T X)=tx (b.cps.toList++ZcX T X)by rw[←XE,tx_eta]▸k U (p.trans I)
noncomputable def Zib (a b:VA VC) (m:VC):NY:=decide (a.drop m=b.take (b.length-m))
abbrev Jk:Mv:=top 29
abbrev Zfa:VA VI:=["one","other","many"]
def scLettersTo:Zp Zfa ["one","other"] (Zf Jk):=⟨rfl,rfl,rfl,bh,rfl,bh,bh⟩
def Least (a b:VA VC) (m:VC):Prop:=m<=a.length/\Zib a b m=true/\∀ j,j<m->Zib a b j=false
def Zb4:Sp:=fun vs H Q _=>∃ a b:VA VC,vs=[.str (tx a),.str (tx b)]/\a.length=b.length/\a.length<=1000/\∀ m:VC,Least a b m->Q (.int m) H
def ZeV {m:VC} (h:a.length=b.length) (g:m<=a.length):TZ (tx b) (NH (tx a) (some (0+m)) none)=Zib a b m:=by
 have e:(NH (tx a) (some (0+m)) none).cps.toList=a.drop m:=by
  rw[Yc Ku (by rw[Zs];lia)];congr 1;lia
 have f:(NH (tx a) (some (0+m)) none).length=a.length-m:=by
  rw[←ZF,e,Wi]
 rw[Zb3,f,ZI,Zs,Uv];unfold Zib;simp[Q0,NO,FU];constructor;rintro⟨_,q⟩
 simp_all
 intro q;exact⟨Kv h,bp⟩
def Zbu (D:HasDef K mg "letters_to" Jk ["one","other"]) (B:Blt mg):FOk P w K mg base 1 "letters_to" ["one","other"] Zb4:=by
 refine D.ok scLettersTo (fun u H Q E h=>?_) (fun f t A o s H u Q E v h=>?_)
 obtain⟨a,b,rfl,_⟩:=h;rfl
 apply Lb;intros;obtain⟨a,b,rfl,d,x,k⟩:=h;refine⟨_,(Zc (Z1 VP rfl (ZY rfl B.range (Za (Zk Zn rfl B.len ZG (Za (pv 0) Ze)) Ze)) (Zw 2 scLettersTo.nd)
   (Zj (Ya (YI (XS F.plainAttrs_str F.slot_str_startswith F.type_str_startswith Zg6 (pv 1) (Za (Zr ZP (pv 0) (Zv (pv 2)) Zy) Ze))) (Zj (Zu (pv 2))) ZD)))
  (Zj (Zu (Zk Zn rfl B.len ZG (Za (pv 0) Ze))))),?_⟩
 apply Db;intros;have n:(tx a).length<=Od:=by rw[Zs];exact Zx (Ks x)
 refine ⟨_,rfl,.str (tx a),a.length,rfl,⟨n,(Zs a).symm⟩,_,rfl,br,br,Yy (fun i σ p=>p=H/\(∃ z:VE V,σ=[some (.str (tx a)),some (.str (tx b)),z])/\∀ j,j<i->Zib a b j=false) ⟨rfl,⟨none,rfl⟩,fun j q=>VM q (Wn _)⟩ ?_ ?_⟩
 rintro i σ p y ⟨rfl,⟨z,rfl⟩,m⟩;refine⟨_,rfl,rfl,_,rfl,_,rfl,_,rfl,_,rfl,n,tx b,_,rfl,rfl,_,rfl,?_⟩;rw[ZeV d (V4 y)];refine Zkq (fun e=>?_) (fun e=>?_)
 refine⟨_,rfl,?_⟩;have:=k i ⟨V4 y,e,m⟩;rw[U2];omega
 refine⟨rfl,⟨_,rfl⟩,fun j q=>?_⟩;by_cases c:j<i
 simp_all
 have:j=i:=V5 q c
 simp_all
 rintro σ p ⟨rfl,⟨z,rfl⟩,m⟩;refine ⟨_,rfl,.str (tx a),a.length,rfl,⟨n,(Zs a).symm⟩,k a.length ⟨Qh _,?_,m⟩⟩;unfold Zib;rw[d,Wv,←d];simp
abbrev Zc8:Mv:=top 38
def Zit:Zp ["_law_found"] ["_law_found"] (Zf Zc8):=⟨rfl,rfl,rfl,bo,rfl,bh,bh⟩
def ZfO:Sp:=fun vs H Q _=>∃ (x:V) (n:RY),vs=[x]/\TyB H x n/\Q (.bl (n == "int")) H
def Ze4 (D:HasDef K mg "_law_whole" Zc8 ["_law_found"]) (B:Blt mg):FOk P w K mg base 1 "_law_whole" ["_law_found"] ZfO:=by
 refine D.ok Zit (fun d H Q E h=>?_) fun f g A b s H d Q E i h=>?_;obtain⟨x,n,rfl,_⟩:=h;rfl;refine Lw h fun x n j a k=>?_;subst j;refine ⟨_,Zj (Zu (ZmR (Zk YN rfl B.isi ZaF (Za (pv 0) (Za (Zcf rfl B.int ZoR) Ze)))
  (ZmM (ZmN (Zk YN rfl B.isi ZaF (Za (pv 0) (Za (Zcf rfl B.bool ZnK) Ze))))))),⟨_,rfl,x,_,n,rfl,be,a,_,rfl,Zkq (fun e=>?_) fun e=>?_⟩⟩;refine⟨_,rfl,x,_,n,rfl,be,a,_,rfl,?_⟩;rw[(Zhx n a.mem).1 e];omega;rw[(Zhx n a.mem).2 e]at k;omega
end
def SB (D:VH) (H H':Hp):Prop:=∀ b u,b≠D->H b=some u->H' b=some u
def SB.refl (D) (H):SB D H H:=fun _ _ _ e=>e
def SB.trans (a:SB D H g) (b:SB D g f):SB D H f:=fun c u d e=>b c u d (a c u d e)
def Zk4 (s:Same H a):SB D H a:=fun b u _ e=>s b u e
def SB.upd:SB D H (upd H D o):=fun b u a e=>by rw[Zi a];omega
def DK (H:Hp) (D:VH) (n:VC):Prop:=∃ ns:VA VN,H D=some (.lst (ns.map V.int))/\n<=ns.length/\∀ x∈ns,0<=x/\x<10 ^ 18
def DK.same (h:DK H D n) (s:Same H a):DK a D n:=by
 obtain⟨b,e,r⟩:=h;exact⟨b,s _ _ e,r⟩
def DK.less (h:DK H D n) (b:m<=n):DK H D m:=by
 obtain⟨a,e,r,t⟩:=h;exact⟨a,e,Vx r b,t⟩
def DK.pop (h:DK H D (n+1)):∃ (ns:VA VN) (c:VN),H D=some (.lst ((ns++[c]).map V.int))/\0<=c/\c<10 ^ 18/\DK (upd H D (.lst (ns.map V.int))) D n:=by
 obtain⟨ns,e,l,b⟩:=h;rcases WF ns with z | ⟨r,c,z⟩
 rw[z]at l;simp at l;rw[WN]at z;subst z;have a:=b c bo;rw[Qg,Qp]at l;exact⟨r,c,e,a.1,a.2,r,Zd,br,fun x d=>b x (QM _ d)⟩
def Ye (ns) (c):((ns++[c]).map V.int)[((ns++[c]).map V.int).length-1]?=some (V.int c):=by
 simp
def Yf (ns) (c):((ns++[c]).map V.int).dropLast=ns.map V.int:=by
 simp
def Zeh:∀ ns:VA VN,RepA H (ns.map ML) (ns.map V.int)
 | []=>by rfl
 | p::a=>⟨.int p,a.map V.int,rfl,by rfl,Zeh a⟩
def YZ {ns:VA VN} (h:H a=some (.lst (ns.map V.int))):RepD H (.list (ns.map ML)) (.ref a):=⟨a,_,rfl,h,Zeh ns⟩
def ZeA:∀ ns:VA VN,MD (ns.map ML)=true
 | []=>by rfl
 | p::a=>by
  rw[Q3,MD,ZeA a];rfl
def Za1:∀ ns:VA VN,MR (ns.map ML)<=1
 | []=>by simp[MR]
 | p::a=>by
  have:=Za1 a
  assumption
def Yp (ns:VA VN):MN (.list (ns.map ML))=true:=by
 unfold MN;rw[Q0];constructor;exact ZeA ns;refine VR ?_;have:=Za1 ns;rw[Fc];lia
def ZeH (ns:VA VN):FQ (.list (ns.map ML)) (.list (([]).map ML))=ns.isEmpty:=by
 cases ns with
 | nil=>rfl
 | cons n r=>rfl
def Jh (a:0<=i) (b:i<=z.length):NH (tx z) (some i) none=tx (z.drop i.toNat):=by
 apply ZZ;rw[Yc a (by assumption),ZI,ZI]
section
variable {P:Oh} {w:Ol} {K:VB} {mg:VI->VE VG} {base:Nu}
abbrev Zda:Mv:=top 39
noncomputable abbrev ZlF:VA VI:=["_law_row","_law_k","_law_cell"]
def scLMixed:Zp ZlF ["_law_row","_law_k"] (Zf Zda):=⟨rfl,rfl,rfl,bh,rfl,bh,bh⟩
def ZfS:Sp:=fun vs H Q _=>∃ (r:VH) (ns:VA VN) (k:VN),vs=[.ref r,.int k]/\H r=some (.lst (ns.map V.int))/\ns.length<=63/\0<=k/\k<1000/\∀ n H',0<=n->n<2147483629->Same H H'->Q (.int n) H'
def Ze6 (D:HasDef K mg "_law_mixed" Zda ["_law_row","_law_k"]) (B:Blt mg):FOk P w K mg base 1 "_law_mixed" ["_law_row","_law_k"] ZfS:=by
 refine D.ok scLMixed (fun vs H Q E h=>?_) (fun f J A n s H vs Q E hr h=>?_)
 obtain⟨r,j,k,rfl,_⟩:=h;rfl
 apply Lb;intros;apply La;intros;obtain⟨r,j,k,rfl,p,hn,k0,k1,kk⟩:=h;refine ⟨_,(Zc (Zm 2 scLMixed.nd (Zo ZJ (Zo Xq Zg (pv 1)) Zg))
  (Zc (Ya (Zt (Zeo hr.units) (pv 0) (ZC Ze) (Zz _)) (Zj (Zm 2 scLMixed.nd (Zo ZJ (Zo ZJ (Zo ZM (ZA ix_list (pv 0) (Zo ZM (pv 1) (Zk Zn rfl B.len ZG (Za (pv 0) Ze)))) Zg) (Zo Xq (Zo Yq (pv 1) (Zk Zn rfl B.len ZG (Za (pv 0) Ze))) Zg)) Zg))) ZD)
  (Zc (Zm 2 scLMixed.nd (Zo ZM (Zo ZJ (Zo ZJ (Zo Xq (pv 2) Zg) (Zo Xq (Zo Xq (pv 1) (pv 1)) Zg)) Zg) Zg))
  (Zj (Zu (Zo ZM (Zo ZJ (Zo ZJ (Zo Xq (pv 2) (pv 2)) (Zo Xq (Zo Xq (Zo Xq (pv 1) (pv 1)) (pv 1)) Zg)) Zg) Zg)))))),⟨_,rfl,_,_,rfl,rfl,.inl ⟨be,be⟩,_,_,rfl,rfl,?_⟩⟩;dsimp only;refine Z0 (fun σ v=>Same H v/\∃ c:VN,σ=[some (.ref r),some (.int k),some (.int c)]) (fun R F=>?_) ?_
 refine⟨_,rfl,Zl (show 0<=1000 by decide),fun p0 l=>?_⟩;have m:=Zb (o:=.lst []) l;have d:=m _ _ p;refine⟨.list (j.map ML),_,YZ d,YZ (ns:=[]) Zd,Yp j,Yp [],_,rfl,?_⟩;cases j with
 | nil=>exact Ys rfl (F _ _ ⟨m,_,rfl⟩)
 | cons x z =>
  refine Xu rfl ?_;have hms:(x::z).length≠0:=bo
  generalize x::z=I at *;have g:(0:VN)<((I.map V.int).length:VN):=by rw[Qd];lia
  have q:=ZU k g;exact ⟨_,rfl,_,rfl,_,rfl,.ref r,_,rfl,.inl ⟨_,SqL.of d,rfl⟩,_,_,rfl,rfl,g,Pg r _ _ _ ⟨rfl,rfl,SqL.of d,(Zdy (ns:=I) q.1 (by have:=q.2;rw[Qd]at this ⊢;exact this)),_,_,rfl,rfl,br,_,rfl,_,rfl,.ref r,_,rfl,.inl ⟨_,SqL.of d,rfl⟩,_,_,rfl,rfl,⟨g,by rw[Qd];lia⟩,_,_,rfl,rfl,.inr ⟨be,be⟩,_,_,rfl,rfl,_,_,rfl,rfl,F _ _ ⟨m,_,rfl⟩⟩⟩
 rintro σ v ⟨s2,c,rfl⟩;refine⟨_,rfl,_,_,rfl,rfl,.inr ⟨be,be⟩,_,rfl,_,rfl,_,_,rfl,rfl,.inl ⟨bq,bq⟩,_,_,rfl,rfl,.inr ⟨be,be⟩,_,_,rfl,rfl,_,_,rfl,rfl,_,_,rfl,rfl,br,?_⟩;have m1:=ZU (c*48271+k*k*16807+3) (show(0:VN)<2147483647 by decide);dsimp only;generalize (c*48271+k*k*16807+3) % 2147483647=y at m1;have u:=ZU (y*y+k*k*k*69621+5) (show(0:VN)<2147483629 by decide);exact ⟨_,rfl,_,rfl,_,_,rfl,rfl,.inl ⟨bq,bq⟩,_,rfl,_,rfl,_,_,rfl,rfl,.inl ⟨bq,bq⟩,_,rfl,_,_,rfl,rfl,.inr ⟨bq,bq⟩,_,_,rfl,rfl,.inr ⟨be,be⟩,_,_,rfl,rfl,_,_,rfl,rfl,_,_,rfl,rfl,br,kk _ _ u.1 u.2 s2⟩
abbrev JV:Mv:=top 41
noncomputable abbrev Zg3:VA VI:=["_law_deck_here","_law_few","_law_some","_law_number","_law_found","_law_k","_law_at"]
def scLLetters:Zp Zg3 ["_law_deck_here","_law_few"] (Zf JV):=⟨rfl,rfl,rfl,bh,rfl,bh,bh⟩
def ZfU:Sp:=fun vs H Q _=>∃ (D:VH) (few n:VC),vs=[.ref D,.int few]/\2<=few/\few<=26/\DK H D (n+1)/\∀ (z:VA VC) H',SB D H H'->DK H' D n->z.length=few->Cd z->Q (.str (tx z)) H'
def ZnM:("abcdefghijklmnopqrstuvwxyz")=tx ((Qz 26).map (· + 97)):=by rfl
def Zcn (D:HasDef K mg "_law_letters" JV ["_law_deck_here","_law_few"]) (B:Blt mg):FOk P w K mg base 1 "_law_letters" ["_law_deck_here","_law_few"] ZfU:=by
 refine D.ok scLLetters (fun vs H Q E h=>?_) (fun f Y A L s H vs Q E hr h=>?_)
 obtain⟨D,b,n,rfl,_⟩:=h;rfl
 apply Lb;intros;obtain⟨m,b,n,rfl,f2,W,U,k⟩:=h;refine⟨_,(Zc (Zm 2 scLLetters.nd J9)
  (Zc (Zm 3 scLLetters.nd (YJ F.plainAttrs_list F.slot_list_pop F.type_list_pop Yg (pv 0)))
  (Zc (Zm 4 scLLetters.nd J9)
  (Zc (Z1 VP rfl (ZY rfl B.range (Za (Zk (Zav rfl) rfl B.min Zjz (Za (pv 1) (Za Zg Ze))) Ze)) (Zw 5 scLLetters.nd)
   (Zc (Zm 6 scLLetters.nd (Zo ZM (pv 3) (Zk Zn rfl B.len ZG (Za (pv 2) Ze))))
  (Zc (Zm 4 scLLetters.nd (Zo Z6 (pv 4) (ZA Zcy (pv 2) (pv 6))))
  (Zc (Zm 3 scLLetters.nd (Zo Yq (pv 3) (Zk Zn rfl B.len ZG (Za (pv 2) Ze))))
  (Zj (Zm 2 scLLetters.nd (Zo Z6 (Zr ZP (pv 2) Zy (Zv (pv 6))) (Zr ZP (pv 2) (Zv (Zo ZJ (pv 6) Zg)) Zy))))))))
  (Zj (Zu (Zo Z6 (pv 4) (Zr ZP (pv 2) Zy (Zv (Zo YL (pv 1) (Zk Zn rfl B.len ZG (Za (pv 4) Ze)))))))))))),?_⟩
 apply De;intros;obtain⟨u,c,r,c0,c1,p⟩:=U.pop;refine⟨_,rfl,.inl ⟨rfl,_,SqL.of r⟩,m,_,.int c,rfl,rfl,r,Ye u c,?_⟩;rw[Yf];have N:SB m H (upd H m (.lst (u.map V.int))):=SB.upd;generalize upd H m (.lst (u.map V.int))=X at N p;rw[ZnM];have C:(if (6:VN)<(b:VN)then (6:VN)else (b:VN)).toNat=min b 6:=br
 refine⟨_,rfl,_,6,rfl,_,rfl,bq,bq,?_⟩;rw[C];refine Yy (n:=min b 6) (fun i σ I=>I=X/\∃ (y x:VA VC) (l:VN) (v J:VE V),σ=[some (.ref m),some (.int b),some (.str (tx y)),some (.int l),some (.str (tx x)),v,J]/\y.length=26-i/\x.length=i/\Cd y/\Cd x)
  ⟨rfl,(Qz 26).map (· + 97),[],c,none,none,rfl,bo,rfl,fun c e=>by obtain⟨j,hj,rfl⟩:=Q6.mp e;have:=Qu.mp hj;lia,fun c e=>by grind⟩ ?_ ?_
 rintro i σ I hi ⟨rfl,y,x,l,v,J,rfl,Z,M,o,G⟩;have g:(0:VN)<((tx y).length:VN):=by rw[Zs];omega
 have d:∀ O,ZkD K (.str (tx y)) O (tx y).length:=fun O=>⟨Z8 (Sk Z),rfl⟩
 have t:=ZU l g;refine⟨_,rfl,_,rfl,.str (tx y),_,rfl,d _,_,_,rfl,rfl,g,?_⟩;dsimp only;generalize l % ((tx y).length:VN)=S at t;rw[Zs]at t;refine⟨_,rfl,_,rfl,_,rfl,Pf (tx y) _ _ ⟨rfl,rfl,Z8 (Sk Z),Zh8 t.1 bq,_,_,rfl,rfl,?_,?_⟩⟩
 rw[Zs];exact Zl (by show x.length+1<=1000;omega)
 rw[show({cps:=#[y.getD S.toNat 0]}:VI)=tx [y.getD S.toNat 0]from rfl,XE];refine ⟨_,rfl,_,rfl,.str (tx y),_,rfl,d _,_,_,rfl,rfl,⟨g,by rw[Zs];omega⟩,⟨_,rfl,_,rfl,_,rfl,_,rfl,Z8 (Sk Z),_,rfl,_,rfl,_,_,rfl,rfl,_,rfl,_,rfl,Z8 (Sk Z),?_⟩⟩;rw[Z5 t.1,Jh br bq];refine⟨_,_,rfl,rfl,?_,?_⟩
 rw[Zs,Zs,QD,Wi];exact Zl (qG t Z)
 rw[XE];refine⟨rfl,Pe _ _ _ _ _ ⟨rfl,?_,by rw[Qg,M];rfl,fun c e=>?_,fun c e=>?_⟩⟩
 rw[Qg,QD,Wi,qF t,Z];rfl
 rcases QA.mp e with q | q
 exact o c (QZ q)
 exact o c (Wm q)
 rcases QA.mp e with q | q
 exact G c q
 rw[Qq.mp q];refine o _ ?_;rw[Qb,Qa (Sl t)];simp
 rintro σ I ⟨rfl,y,x,l,v,J,rfl,Z,M,o,G⟩;refine⟨_,rfl,_,rfl,_,rfl,_,rfl,.str (tx x),_,rfl,⟨Z8 bq,rfl⟩,_,_,rfl,rfl,_,rfl,_,rfl,Z8 (Sk Z),?_⟩;rw[Z5 (by rw[Zs];omega)];refine⟨_,_,rfl,rfl,?_,?_⟩
 rw[Zs,Zs,QD,qH W M Z];exact Zl (Nat.le_trans W (by decide))
 rw[XE];refine k _ _ N p ?_ fun c e=>?_
 rw[Qg,QD,Zs,qH W M Z]
 rcases QA.mp e with q | q
 exact G c q
 exact o c (QZ q)
abbrev Zc9:Mv:=top 42
noncomputable abbrev ZlE:VA VI:=["_law_deck_here","_law_some","_law_long_here","_law_made","_law_number","_law_k"]
def scLSigns:Zp ZlE ["_law_deck_here","_law_some","_law_long_here"] (Zf Zc9):=⟨rfl,rfl,rfl,bh,rfl,bh,bh⟩
def Zbd:Sp:=fun vs H Q _=>∃ (D:VH) (y:VA VC) (L n:VC),vs=[.ref D,.str (tx y),.int L]/\1<=y.length/\y.length<=100/\Cd y/\L<=300/\DK H D (n+(L+11) / 12)/\∀ (z:VA VC) H',SB D H H'->DK H' D n->z.length=L->Cd z->Q (.str (tx z)) H'
def Ze5 (D:HasDef K mg "_law_signs" Zc9 ["_law_deck_here","_law_some","_law_long_here"]) (B:Blt mg):FOk P w K mg base 1 "_law_signs" ["_law_deck_here","_law_some","_law_long_here"] Zbd:=by
 refine D.ok scLSigns (fun vs H Q E h=>?_) (fun f cdv A X s H vs Q E hr h=>?_)
 obtain⟨D,y,L,n,rfl,_⟩:=h;rfl
 apply La;intros;obtain⟨d,y,L,n,rfl,y1,y2,yc,hL,hD,k⟩:=h;refine⟨_,(Zc (Zm 3 scLSigns.nd J9)
  (Zc (Y6 VP (Zt Zdj (Zk Zn rfl B.len ZG (Za (pv 3) Ze)) (pv 2) (Zz _))
   (Zc (Zm 4 scLSigns.nd (YJ F.plainAttrs_list F.slot_list_pop F.type_list_pop Yg (pv 0)))
  (Zj (Z1 VP rfl (ZY rfl B.range (Za (Zk (Zav rfl) rfl B.min Zjz (Za Zg (Za (Zo YL (pv 2) (Zk Zn rfl B.len ZG (Za (pv 3) Ze))) Ze))) Ze)) (Zw 5 scLSigns.nd)
   (Zc (Zm 3 scLSigns.nd (Zo Z6 (pv 3) (ZA Zcy (pv 1) (Zo ZM (pv 4) (Zk Zn rfl B.len ZG (Za (pv 1) Ze))))))
  (Zj (Zm 4 scLSigns.nd (Zo Yq (pv 4) (Zk Zn rfl B.len ZG (Za (pv 1) Ze))))))))))
  (Zj (Zu (pv 3))))),?_⟩
 have J:(0:VN)<((tx y).length:VN):=by rw[Zs];exact Tq y1
 have j:∀ C,ZkD K (.str (tx y)) C (tx y).length:=fun C=>⟨Z8 (Da y2),rfl⟩
 dsimp only[Js];apply J1;intros;rw[show("" : VI)=tx []from rfl];show Zd1 (ZaG _ _) _ _ _ _;refine Z0 (fun σ l=>∃ (z:VA VC) (x r:VE V),σ=[some (.ref d),some (.str (tx y)),some (.int L),some (.str (tx z)),x,r]/\SB d H l/\DK l d n/\z.length=L/\Cd z) (fun R hR=>?_) ?_
 ·refine⟨fun m σ l=>∃ (z:VA VC) (x r:VE V),σ=[some (.ref d),some (.str (tx y)),some (.int L),some (.str (tx z)),x,r]/\SB d H l/\DK l d (n+(L-z.length+11) / 12)/\z.length<=L/\Cd z/\m=L-z.length,
   ⟨_,[],none,none,rfl,SB.refl _ _,hD,QN _,(fun c hc=>by grind),rfl⟩,?_⟩
  rintro m σ l ⟨z,x,r,rfl,v,t,hz,W,hm⟩;have o:∀ C,ZkD K (.str (tx z)) C (tx z).length:=fun C=>⟨Z8 br,rfl⟩
  refine⟨_,rfl,.str (tx z),_,rfl,o _,_,rfl,_,_,rfl,rfl,_,rfl,?_⟩;rw[Zs];by_cases c:z.length<L
  rotate_left
  have e:z.length=L:=Vk hz c
  refine Ys (VO (Sn c)) (hR _ _ ⟨z,x,r,rfl,v,t.less Kb,e,W⟩)
  refine Xu (VR (Sa c)) ⟨fun G C=>∃ m',m'<m/\∃ (z:VA VC) (x r:VE V),G=[some (.ref d),some (.str (tx y)),some (.int L),some (.str (tx z)),x,r]/\SB d H C/\DK C d (n+(L-z.length+11) / 12)/\z.length<=L/\Cd z/\m'=L-z.length,fun _ _ z=>z,?_⟩;apply Db;intros;have Z:DK l d (n+(L-z.length+11) / 12-1+1):=t.less (qD c);refine Ll Z.pop fun ns cc O c0 c1 T=>⟨_,rfl,.inl ⟨rfl,_,SqL.of O⟩,d,_,.int cc,rfl,rfl,O,Ye ns cc,?_⟩;rw[Yf];have S:SB d H (upd l d (.lst (ns.map V.int))):=v.trans SB.upd;generalize upd l d (.lst (ns.map V.int))=H6 at S T;have I:(if (L:VN)-((tx z).length:VN)<12 then (L:VN)-((tx z).length:VN)else 12).toNat=min (L-z.length) 12:=by rw[Zs];lia
  refine⟨_,rfl,_,rfl,.str (tx z),_,rfl,o _,_,_,rfl,rfl,12,_,rfl,_,rfl,bq,bq,?_⟩;rw[I];refine Yy (n:=min (L-z.length) 12) (fun i σ Y=>Y=H6/\∃ (u:VA VC) (M:VN) (r:VE V),σ=[some (.ref d),some (.str (tx y)),some (.int L),some (.str (tx u)),some (.int M),r]/\u.length=z.length+i/\Cd u)
   ⟨rfl,z,cc,r,rfl,rfl,W⟩ ?_ ?_
  rintro i σ Y hi ⟨rfl,u,M,g,rfl,U,uc⟩;have p:=ZU M J;have N:(M % ((tx y).length:VN)).toNat<y.length:=by rw[Zs]at p ⊢;exact Sl p
  refine⟨_,rfl,_,rfl,_,rfl,_,rfl,.str (tx y),_,rfl,j _,_,_,rfl,rfl,J,Pf (tx y) _ _ ⟨rfl,rfl,Z8 (Da y2),(Zh8 (z:=y) (i:=M % ((tx y).length:VN)) p.1 br),_,_,rfl,rfl,?_,?_⟩⟩
  rw[Zs];exact Zl (by show u.length+1<=1000;omega)
  generalize M % ((tx y).length:VN)=ix at N;rw[show({cps:=#[y.getD ix.toNat 0]}:VI)=tx [y.getD ix.toNat 0]from rfl,XE];refine ⟨_,rfl,_,rfl,.str (tx y),_,rfl,j _,_,_,rfl,rfl,⟨J,by rw[Zs];lia⟩,⟨rfl,_,_,_,rfl,by rw[Qg,U];rfl,fun c hc=>?_⟩⟩;rcases QA.mp hc with q | q
  exact uc c q
  rw[Qq.mp q];refine yc _ ?_;rw[Qb,Qa N];simp
  rintro σ Y ⟨rfl,u,M,g,rfl,U,uc⟩;exact ⟨_,hm▸qC c U,Pf u _ _ ⟨rfl,S,T.less (qA c U),qB c U,uc,rfl⟩⟩
 rintro σ l ⟨z,x,r,rfl,v,t,hz,W⟩;exact⟨_,rfl,k z l v t hz W⟩
abbrev Zgg:Mv:=top 40
noncomputable abbrev Zm6:VA VI:=["_law_script","_law_many","_law_row","_law_left","_law_found","_law_k","_law_number"]
def scLDeck:Zp Zm6 ["_law_script","_law_many"] (Zf Zgg):=⟨rfl,rfl,rfl,bh,rfl,bh,bh⟩
def ZjT (K:VB):Sp:=fun vs H Q _=>∃ (a:VH) (ns:VA VN) (m:VC),vs=[.ref a,.int m]/\SqL K H a (ns.map V.int)/\ns.length<=63/\m<=600/\∀ D H',Same H H'->DK H' D m->Q (.ref D) H'
def ZgV (D:HasDef K mg "_law_deck" Zgg ["_law_script","_law_many"]) (B:Blt mg) (g8_:FOk P w K mg base 1 "_law_mixed" ["_law_row","_law_k"] ZfS):FOk P w K mg base 2 "_law_deck" ["_law_script","_law_many"] (ZjT K):=by
 refine D.ok scLDeck (fun vs H Q E h=>?_) (fun f cdv A outer s H vs Q E hr h=>?_)
 obtain⟨a,N,m,rfl,_⟩:=h;rfl
 apply Lb;intros;apply La;intros;obtain⟨a,N,m,rfl,ha,hn,hm,k⟩:=h;refine ⟨_,(Zc (Zm 2 scLDeck.nd (Yw ZcL rfl B.list Zh5 (Za (Zr XN (pv 0) Zy (Zv Zg)) Ze)))
  (Zc (Zm 3 scLDeck.nd (ZC Ze))
  (Zc (Ya (PW.pt (Zgu (Zt (Zeo hr.units) (pv 2) (ZC Ze) (Zz _)) (Zde (Zt Zbt (Zo ZM (ZA ix_list (pv 2) Zg) Zg) Zg (Zz _))))) (Zj (Zm 3 scLDeck.nd (Zo XH (ZC (Za (Zo Yq (ZA ix_list (pv 2) Zg) Zg) Ze)) (Zr XN (pv 2) (Zv Zg) Zy)))) ZD)
  (Zc (Zm 4 scLDeck.nd (ZC Ze))
  (Zc (Z1 VP rfl (ZY rfl B.range (Za (pv 1) Ze)) (Zw 5 scLDeck.nd)
   (Zc (Zm 6 scLDeck.nd (ZH g8_ hr (Za (pv 2) (Za (pv 5) Ze))))
  (Zc (Ya (PW.pt (Zgu (Zt (Zeo hr.units) (pv 3) (ZC Ze) (Zz _)) (Zde (Zt Zci (ZA ix_list (pv 3) (Zo ZM (pv 5) (Zk Zn rfl B.len ZG (Za (pv 3) Ze)))) (J2 (Za Zg (Za (XC YA Zg) Ze))) rfl)))) (Zc (Zm 6 scLDeck.nd (Zo ZM (ZA ix_list (pv 3) (Zo ZM (pv 5) (Zk Zn rfl B.len ZG (Za (pv 3) Ze)))) (Zo Zkb Zg Zg)))
  (Zj (Zcc (Zo ZiM (ZA ix_list (pv 3) (Zo ZM (pv 5) (Zk Zn rfl B.len ZG (Za (pv 3) Ze)))) (Zo Zkb Zg Zg)) (Zce (pv 3) (Zo ZM (pv 5) (Zk Zn rfl B.len ZG (Za (pv 3) Ze))) YD)))) ZD)
  (Zj (Z4 (XS F.plainAttrs_list F.slot_list_append F.type_list_append Yj (pv 4) (Za (pv 6) Ze)))))))
  (Zj (Zu (Zdf rfl rfl B.list rfl B.rev (pv 4))))))))),⟨_,rfl,_,rfl,a,_,rfl,ha,fun p1 hp1=>?_⟩⟩;rw[ZoO (N.map V.int) (by rw[Qd];exact hn)];refine⟨p1,_,rfl,.inl (SqL.of Zd),fun r hr1=>?_⟩;have s1:=(Zb (o:=.lst (N.map V.int)) hp1).trans (Zb (o:=.lst (N.map V.int)) hr1);have d:(upd (upd H p1 (.lst (N.map V.int))) r (.lst (N.map V.int))) r=some (.lst (N.map V.int)):=Zd;generalize upd (upd H p1 (.lst (N.map V.int))) r (.lst (N.map V.int))=H1 at s1 d;refine⟨Zl (show 0<=1000 by decide),fun q y=>?_⟩;have s2:=Zb (o:=.lst []) y;have hlr:q≠r:=fun e=>bp
 have M:H q=none:=s1.free y;have hrow2:=s2 _ _ d;have hlf2:(upd H1 q (.lst [])) q=some (.lst (([]:VA VN).map V.int)):=Zd;have s12:=s1.trans s2;generalize upd H1 q (.lst [])=H2 at s12 hrow2 hlf2;clear s2 y s1 d hr1 hp1;dsimp only;refine Z0 (fun σ H3=>∃ (q:VH) (j:VA VN),σ=[some (.ref a),some (.int m),some (.ref r),some (.ref q),none,none,none]/\Same H H3/\H3 r=some (.lst (N.map V.int))/\H3 q=some (.lst (j.map V.int))/\j.length<=64/\H q=none/\q≠r) (fun R hR=>?_) ?_
 refine⟨_,rfl,Zl (show 0<=1000 by decide),fun p0 hp0=>?_⟩;have s3:=Zb (o:=.lst []) hp0;have g:=s3 _ _ hrow2;have hlf3:=s3 _ _ hlf2;refine⟨.list (N.map ML),.list (([]:VA VN).map ML),YZ g,YZ (ns:=[]) Zd,Yp N,Yp [],_,rfl,?_⟩;rw[ZeH];have s13:=s12.trans s3;generalize upd H2 p0 (.lst [])=H3 at s13 g hlf3;cases N with
 | nil=>exact Ys rfl (Ys rfl (hR _ _ ⟨q,[],rfl,s13,g,hlf3,be,M,hlr⟩))
 | cons x xs =>
  refine Xu rfl ?_;have h0:atI ((x::xs).map V.int) 0=some (.int x):=Jq be rfl;refine⟨_,rfl,Pg r _ 0 (.int x) ⟨rfl,rfl,SqL.of g,h0,_,_,rfl,rfl,br,rfl,_,rfl,?_⟩⟩;by_cases c:x % 2=1
  rotate_left
  exact Ys (ZhA c) (hR _ _ ⟨q,[],rfl,s13,g,hlf3,be,M,hlr⟩)
  refine Xu (ZhB c) ⟨_,rfl,r,_,0,.int x,rfl,rfl,SqL.of g,h0,_,_,rfl,rfl,⟨be,be⟩,Zl (show 1<=1000 by decide),fun q1 hq1=>?_⟩;have t1:=Zb (o:=.lst [.int (x / 2)]) hq1;refine⟨_,rfl,_,rfl,r,_,rfl,SqL.of (t1 _ _ g),fun q2 hq2=>?_⟩;rw[show Zfr ((x::xs).map V.int) (some 1) none=xs.map V.int from ZeK (i:=1) bo];have t2:=Zb (o:=.lst (xs.map V.int)) hq2;refine Pg q1 q2 _ _ ⟨rfl,rfl,t2 _ _ Zd,Zd,Zl (by rw[Qd,Qp];rw[QI]at hn;omega),fun q3 hq3=>?_⟩;have t3:=Zb (o:=.lst ([.int (x / 2)]++xs.map V.int)) hq3;have L:=t3 _ _ (t2 _ _ (t1 _ _ g));refine hR _ _ ⟨q3,x / 2::xs,rfl,s13.trans ((t1.trans t2).trans t3),L,Zd,by rw[QI]at hn ⊢;omega,s13.free ((t1.trans t2).free hq3),fun e=>?_⟩;rw[e,(t1.trans t2) _ _ g]at hq3
  simp_all
 clear hlf2 hrow2 s12 hlr M;clear q H2;rintro σ H3 ⟨q,j,rfl,s3,d,y,J,M,hlr⟩;apply J1;intros;refine⟨Zl (show 0<=1000 by decide),fun fd I=>?_⟩;have t4:=Zb (o:=.lst []) I;have hfr:fd≠r:=fun e=>bp
 have hfl:fd≠q:=fun e=>bp
 have hfn:H fd=none:=s3.free I;refine⟨_,rfl,_,rfl,br,br,?_⟩;rw[QX];refine Yy (n:=m) (fun i σ H5=>∃ (j fs:VA VN) (z5 z6:VE V),σ=[some (.ref a),some (.int m),some (.ref r),some (.ref q),some (.ref fd),z5,z6]/\Same H H5/\H5 r=some (.lst (N.map V.int))/\H5 q=some (.lst (j.map V.int))/\j.length<=64/\H5 fd=some (.lst (fs.map V.int))/\fs.length=i/\∀ x∈fs,0<=x/\x<10 ^ 18)
  ⟨j,[],none,none,rfl,s3.trans t4,t4 _ _ d,t4 _ _ y,J,Zd,rfl,fun x hx=>by cases hx⟩ ?_ ?_
 clear t4 I y d s3 J;clear j H3;rintro i σ H5 hi ⟨j,fs,z5,z6,rfl,s5,d,y,J,I,hfs,hfb⟩;refine⟨_,rfl,_,rfl,Pf r N (0+(i:VN)) ⟨rfl,d,hn,Ku,br,fun n0 H6 b0 b1 s6=>?_⟩⟩;have s56:=s5.trans s6;have L:=s6 _ _ d;have hlf6:=s6 _ _ y;have hfd6:=s6 _ _ I;dsimp only;refine Z0 (fun σ H7=>∃ (j:VA VN) (n:VN),σ=[some (.ref a),some (.int m),some (.ref r),some (.ref q),some (.ref fd),some (.int (0+(i:VN))),some (.int n)]/\Same H H7/\H7 r=some (.lst (N.map V.int))/\H7 q=some (.lst (j.map V.int))/\j.length<=64/\H7 fd=some (.lst (fs.map V.int))/\0<=n/\n<10 ^ 18) (fun R hR=>?_) ?_
 refine⟨_,rfl,Zl (show 0<=1000 by decide),fun p0 hp0=>?_⟩;have t7:=Zb (o:=.lst []) hp0;have G:=t7 _ _ hlf6;have S:=t7 _ _ L;have hfd7:=t7 _ _ hfd6;refine⟨.list (j.map ML),.list (([]:VA VN).map ML),YZ G,YZ (ns:=[]) Zd,Yp j,Yp [],_,rfl,?_⟩;rw[ZeH];have s57:=s56.trans t7;generalize upd H6 p0 (.lst [])=H7 at s57 G S hfd7;by_cases hne:j.length=0
 rw[Wa.mp hne]at G ⊢;exact Ys rfl (Ys rfl (hR _ _ ⟨[],n0,rfl,s57,S,G,be,hfd7,b0,bq⟩))
 refine Xu (by cases j with | nil=>exact VM rfl hne | cons _ _=>rfl) ?_;have hlp:(0:VN)<((j.map V.int).length:VN):=by rw[Qd];lia
 have mb:=ZU (0+(i:VN)) hlp;have hat:=Zdy (ns:=j) (i:=(0+(i:VN)) % ((j.map V.int).length:VN)) mb.1 (by have:=mb.2;rw[Qd]at this ⊢;exact this);refine⟨_,rfl,_,rfl,_,rfl,.ref q,_,rfl,.inl ⟨_,SqL.of G,rfl⟩,_,_,rfl,rfl,hlp,Pg q _ _ _ ⟨rfl,rfl,SqL.of G,hat,_,rfl,Zl (show 2<=1000 by decide),fun t ht=>?_⟩⟩;have t8:=Zb (o:=.tup [.int 0,.int (-1)]) ht;have v:=t8 _ _ G;have O:=t8 _ _ S;have hfd8:=t8 _ _ hfd7;have s58:=s57.trans t8;refine⟨t,_,rfl,.inr (SqT.of Zd),rfl,rfl,_,rfl,?_⟩;generalize upd H7 t (.tup [.int 0,.int (-1)])=H8 at s58 v O hfd8;refine Zkq (fun _=>⟨_,rfl,_,rfl,_,rfl,.ref q,_,rfl,.inl ⟨_,SqL.of v,rfl⟩,_,_,rfl,rfl,hlp,q,_,_,_,rfl,rfl,SqL.of v,hat,_,_,rfl,rfl,⟨be,be,be⟩,_,_,rfl,rfl,(by show(0:VN)<10 ^ 18;decide),?_⟩) (fun _=>hR _ _ ⟨j,n0,rfl,s58,O,v,J,hfd8,b0,bq⟩);have md:=ZU (j.getD ((0+(i:VN)) % ((j.map V.int).length:VN)).toNat 0) (show(0:VN)<10 ^ 18 by decide);refine ⟨_,rfl,_,rfl,_,rfl,.ref q,_,rfl,.inl ⟨_,SqL.of v,rfl⟩,_,_,rfl,rfl,hlp,Pg q _ _ _ ⟨rfl,rfl,SqL.of v,hat,_,_,rfl,rfl,⟨be,be,be⟩,_,_,rfl,rfl,⟨be,bh⟩,⟨_,rfl,_,rfl,_,rfl,.ref q,_,rfl,.inl ⟨_,SqL.of v,rfl⟩,_,_,rfl,rfl,hlp,q,_,_,((0+(i:VN)) % ((j.map V.int).length:VN)).toNat,rfl,rfl,v,?_,?_⟩⟩⟩
 unfold ixN;rw[VD mb.1,VD mb.2]
 refine hR _ _ ⟨j.set ((0+(i:VN)) % ((j.map V.int).length:VN)).toNat ((j.getD ((0+(i:VN)) % ((j.map V.int).length:VN)).toNat 0).fdiv (10 ^ 18)),_,rfl,fun b u hb=>?_,?_,?_,?_,?_,md.1,md.2⟩
 exact Zi (Zh hb M)▸s58 b u hb
 exact Zi (VS hlr)▸O
 rw[Zd,List.map_set];rfl
 rw[RE];exact J
 exact Zi hfl▸hfd8
 clear hlf6 L hfd6 s56 s6 y J I s5 d b0 b1;clear j H6 n0;rintro σ H7 ⟨j,n,rfl,s7,d,y,J,I,n0,n1⟩;refine ⟨_,rfl,.inl ⟨rfl,_,SqL.of I⟩,_,rfl,Pf fd _ (.int n) ⟨rfl,rfl,I,by rw[Qd];exact ZB br,⟨j,fs++[n],_,_,rfl,fun b u hb=>?_,?_,?_,J,?_,by rw[Qg,hfs];rfl,fun x hx=>?_⟩⟩⟩
 exact Zi (Zh hb hfn)▸s7 b u hb
 exact Zi (VS hfr)▸d
 exact Zi (VS hfl)▸y
 rw[Zd,QK];rfl
 rcases QA.mp hx with z | z
 exact hfb x z
 exact Qq.mp z▸⟨n0,n1⟩
 rintro σ H5 ⟨j,fs,z5,z6,rfl,s5,d,y,J,I,hfs,hfb⟩;exact ⟨_,rfl,fd,_,rfl,SqL.of I,fun Dk hDk=>k Dk _ (s5.trans (Zb hDk)) ⟨fs.reverse,by rw[Zd,RC],by rw[Q5];exact Nt hfs,fun x hx=>hfb x (Ud.mp hx)⟩⟩
end
def Zjl {ns:VA VN} (h:j<ns.length):ns.getD j 0∈ns:=by
 rw[Qb,Qa h];simp
def Znd {ns:VA VN} {i:VN} {lo hi} (c:0<=i) (b:i<ns.length) (d:∀ x∈ns,lo<=x/\x<=hi) (e:0<=lo):∃ v:VC,atI (ns.map V.int) i=some (.int v)/\lo<=v/\v<=hi:=by
 have:=d _ (Zjl (ns:=ns) (j:=i.toNat) (Kg c b));refine⟨(ns.getD i.toNat 0).toNat,?_,bq,bq⟩;rw[Zdy c b,Rm bq]
section
variable {P:Oh} {w:Ol} {K:VB} {mg:VI->VE VG} {base:Nu}
abbrev Zgf:Mv:=top 43
noncomputable abbrev Zm5:VA VI:=["_law_deck_here","_law_most","_law_some","_law_signs_here","_law_way","_law_cell"]
def scLText:Zp Zm5 ["_law_deck_here","_law_most"] (Zf Zgf):=⟨rfl,rfl,rfl,bh,rfl,bh,bh⟩
def ZjL:Sp:=fun vs H Q _=>∃ (D:VH) (most n:VC),vs=[.ref D,.int most]/\1<=most/\most<=63/\DK H D (n+30)/\∀ (z:VA VC) H',SB D H H'->DK H' D n->1<=z.length->z.length<=63->Cd z->Q (.str (tx z)) H'
def ZgR (D:HasDef K mg "_law_text" Zgf ["_law_deck_here","_law_most"]) (B:Blt mg) (g5_:FOk P w K mg base 1 "_law_letters" ["_law_deck_here","_law_few"] ZfU) (g12_:FOk P w K mg base 1 "_law_signs" ["_law_deck_here","_law_some","_law_long_here"] Zbd):FOk P w K mg base 2 "_law_text" ["_law_deck_here","_law_most"] ZjL:=by
 refine D.ok scLText (fun vs H Q E h=>?_) (fun f cdv A outer s H vs Q E hr h=>?_)
 ·obtain⟨D,most,n,rfl,_⟩:=h;rfl
 ·apply Lb;intros;apply La;intros;obtain⟨Dk,most,n,rfl,m1,m3,hD,k⟩:=h;refine ⟨_,(Zc (Zm 2 scLText.nd (ZH g5_ hr (Za (pv 0) (Za (ZA ix_list (ZC (Za Zg (Za Zg (Za Zg (Za Zg (Za Zg Ze)))))) (Zo ZM (YJ F.plainAttrs_list F.slot_list_pop F.type_list_pop Yg (pv 0)) Zg)) Ze))))
   (Zc (Zm 3 scLText.nd (ZH g12_ hr (Za (pv 0) (Za (pv 2) (Za (Zo ZJ Zg (Zo ZM (YJ F.plainAttrs_list F.slot_list_pop F.type_list_pop Yg (pv 0)) (pv 1))) Ze)))))
   (Zc (Zm 4 scLText.nd (Zo ZM (YJ F.plainAttrs_list F.slot_list_pop F.type_list_pop Yg (pv 0)) Zg))
   (Zc (Zm 5 scLText.nd (YJ F.plainAttrs_list F.slot_list_pop F.type_list_pop Yg (pv 0)))
   (Zc (Ya (Zt Zbt (pv 4) Zg (Zz _)) (Zj (Zm 3 scLText.nd (Zr ZP (Zo Zlr (Zr ZP (pv 3) Zy (Zv (Zo ZJ Zg (Zo ZM (pv 5) Zg)))) Zg) Zy (Zv (Zo ZJ Zg (Zo ZM (Zo Yq (pv 5) Zg) Zg)))))) ZD)
   (Zc (Ya (Zt Zbt (pv 4) Zg (Zz _)) (Zj (Zm 3 scLText.nd (Zo Z6 (Zr ZP (pv 3) Zy (Zv Zg)) (XS F.plainAttrs_str F.slot_str_join F.type_str_join Zg7 J9 (Za (Ze1 rfl rfl B.list rfl B.rev (Zr ZP (pv 3) Zy (Zv Zg))) Ze))))) ZD)
   (Zc (Ya (Zt Zbt (pv 4) Zg (Zz _)) (Zj (Zm 3 scLText.nd (Zo Z6 (Zr ZP (pv 3) Zy (Zv Zg)) (Zr ZP (pv 3) Zy (Zv (Zo ZJ Zg (Zo ZM (pv 5) Zg))))))) ZD)
   (Zj (Zu (pv 3)))))))))),⟨_,rfl,Zl (show 5<=1000 by decide),fun p hp=>?_⟩⟩;have s1:=Zb (o:=.lst [.int 2,.int 2,.int 3,.int 4,.int 26]) hp;have hD1:DK (upd H p (.lst [.int 2,.int 2,.int 3,.int 4,.int 26])) Dk (n+29+1):=hD.same s1;have hp1:(upd H p (.lst [.int 2,.int 2,.int 3,.int 4,.int 26])) p=some (.lst (([2,2,3,4,26]:VA VN).map V.int)):=Zd;have hpD:p≠Dk:=fun e=>by
   obtain⟨_⟩:=hD
   simp_all
  have sb1:SB Dk H (upd H p (.lst [.int 2,.int 2,.int 3,.int 4,.int 26])):=(Zk4 s1)
  generalize upd H p (.lst [.int 2,.int 2,.int 3,.int 4,.int 26])=H1 at hD1 hp1 sb1;apply La;intros;obtain⟨ns,c,hDn,c0,c1,hD2⟩:=hD1.pop;refine⟨_,rfl,.inl ⟨rfl,_,SqL.of hDn⟩,Dk,_,.int c,rfl,rfl,hDn,Ye ns c,?_⟩;rw[Yf];have hp2:(upd H1 Dk (.lst (ns.map V.int))) p=some (.lst (([2,2,3,4,26]:VA VN).map V.int)):=by rw[Zi hpD];omega
  have sb2:=sb1.trans (SB.upd (o:=.lst (ns.map V.int)));generalize upd H1 Dk (.lst (ns.map V.int))=H2 at hD2 hp2 sb2;have m5:=ZU c (show(0:VN)<5 by decide);refine Lp (Znd (ns:=[2,2,3,4,26]) (lo:=2) (hi:=26) m5.1 m5.2 be be) fun few hat fl fh=>⟨_,_,rfl,rfl,br,p,_,_,_,rfl,rfl,SqL.of hp2,hat,Dk,few,n+28,rfl,br,br,hD2,fun y H3 sb3 hD3 hy yc=>?_⟩;have sb13:=sb2.trans sb3;have hD3':DK H3 Dk (n+27+1):=hD3;apply La;intros;obtain⟨ns2,c2,hDn2,_,_,hD4⟩:=hD3'.pop;refine⟨_,rfl,_,rfl,_,rfl,.inl ⟨rfl,_,SqL.of hDn2⟩,Dk,_,.int c2,rfl,rfl,hDn2,Ye ns2 c2,?_⟩;rw[Yf];have sb4:=sb13.trans (SB.upd (H:=H3) (o:=.lst (ns2.map V.int)));generalize upd H3 Dk (.lst (ns2.map V.int))=H4 at hD4 sb4;have mm:=ZU c2 (show(0:VN)<(most:VN)by exact Tq m1);obtain⟨L,eL⟩:∃ L:VC,1+c2 % (most:VN)=(L:VN):=⟨(1+c2 % (most:VN)).toNat,bq⟩
  refine⟨_,rfl,_,_,rfl,rfl,(Tq m1),_,_,rfl,rfl,Pg Dk y L (n+2) ⟨(by rw[←eL];rfl),bq,bq,yc,br,hD4.less br,fun z H5 sb5 hD5 hz zc=>?_⟩⟩;have sb15:=sb4.trans sb5;have hD5':DK H5 Dk (n+1+1):=hD5;refine Ll hD5'.pop fun ns3 c3 hDn3 _ _ hD6=>⟨_,rfl,.inl ⟨rfl,_,SqL.of hDn3⟩,Dk,_,.int c3,rfl,rfl,hDn3,Ye ns3 c3,?_⟩;rw[Yf];have sb6:=sb15.trans (SB.upd (H:=H5) (o:=.lst (ns3.map V.int)));generalize upd H5 Dk (.lst (ns3.map V.int))=H6 at hD6 sb6;refine⟨_,_,rfl,rfl,br,?_⟩;refine Ll hD6.pop fun ns4 c4 hDn4 _ _ hD7=>?_;refine⟨_,rfl,.inl ⟨rfl,_,SqL.of hDn4⟩,Dk,_,.int c4,rfl,rfl,hDn4,Ye ns4 c4,?_⟩;rw[Yf];have sb7:=sb6.trans (SB.upd (H:=H6) (o:=.lst (ns4.map V.int)));generalize upd H6 Dk (.lst (ns4.map V.int))=H7 at hD7 sb7;have z1:1<=z.length:=bq
  have z3:z.length<=63:=br
  dsimp only;clear hD6 hD5 hD5' hD4 hD3 hD3' hD2 hDn hDn2 hDn3 hDn4 sb6 sb15 sb5 sb4 sb13 sb3 sb2 sb1 hp2 hp1 hat;generalize c3 % 6=wy;refine Z0 (fun σ H8=>∃ z:VA VC,σ=[some (.ref Dk),some (.int most),some (.str (tx y)),some (.str (tx z)),some (.int wy),some (.int c4)]/\H8=H7/\1<=z.length/\z.length<=63/\Cd z) (fun R hR=>?_) ?_
  ·refine⟨_,rfl,rfl,_,rfl,Zkq (fun e=>?_) (fun e=>hR _ _ ⟨z,rfl,rfl,z1,z3,zc⟩)⟩;have m60:=ZU (c4 / 7) (show(0:VN)<60 by decide);refine⟨_,rfl,_,rfl,_,_,rfl,rfl,br,_,_,rfl,rfl,_,rfl,_,rfl,Z8 (No z3),?_⟩;dsimp only;rw[Z5 (Np (ZU c4 (show(0:VN)<7 by decide)))];have hz':(z.take (1+c4 % 7).toNat).length<=7/\1<=(z.take (1+c4 % 7).toNat).length:=by
    rw[QD];omega
   have hyc:Cd (z.take (1+c4 % 7).toNat):=fun c hc=>zc c (QZ hc);generalize z.take (1+c4 % 7).toNat=u at hz' hyc;have em:CJ (tx u) 50=tx ((Qw 50 u).flatten):=by
    apply ZZ;rw[Zg5 be (by rw[Zs];lia),ZI,ZI];rfl
   refine⟨_,_,rfl,rfl,L2.mulOk_of be be (by rw[Zs];lia),?_⟩;rw[em];have hrl:=Zla 50 u;refine⟨_,rfl,_,_,rfl,rfl,⟨be,be⟩,_,_,rfl,rfl,br,_,_,rfl,rfl,_,rfl,_,rfl,Z8 br,?_⟩;dsimp only;rw[Z5 br];refine hR _ _ ⟨_,rfl,rfl,?_,?_,fun c hc=>?_⟩
   ·rw[QD];lia
   ·rw[QD];lia
   ·obtain⟨q,hq,hcq⟩:=RD.mp (QZ hc);rw[(Uh.mp hq).2]at hcq;exact hyc c hcq
  clear z1 z3 zc hz;clear z;rintro σ H8 ⟨z,rfl,rfl,z1,z3,zc⟩;refine Z0 (fun σ H9=>∃ z:VA VC,σ=[some (.ref Dk),some (.int most),some (.str (tx y)),some (.str (tx z)),some (.int wy),some (.int c4)]/\Same H8 H9/\1<=z.length/\z.length<=63/\Cd z) (fun R hR=>?_) ?_
  ·refine⟨_,rfl,rfl,_,rfl,Zkq (fun e=>?_) (fun e=>hR _ _ ⟨z,rfl,Same.refl _,z1,z3,zc⟩)⟩;refine⟨_,rfl,_,rfl,_,rfl,Z8 (No z3),rfl,_,rfl,_,rfl,_,rfl,Z8 (No z3),_,rfl,?_,fun p hp=>?_⟩
   ·rw[Z5 be];exact Z8 (by rw[QD];lia)
   rw[Z5 be,ZI];have hz':(z.take (30:VN).toNat).length<=30/\1<=(z.take (30:VN).toNat).length:=by
    rw[QD];have:(30:VN).toNat=30:=rfl;lia
   have hyc:Cd (z.take (30:VN).toNat):=fun c hc=>zc c (QZ hc);generalize z.take (30:VN).toNat=u at hz' hyc;have em:(u.reverse.map fun c=>V.str (tx [c]))=(u.reverse.map fun c=>tx [c]).map V.str:=bo
   refine Pf ("") p (u.reverse.map fun c=>tx [c]) ⟨rfl,rfl,SqL.of (by rw[Zd,em]),ZiN u.reverse (by rw[Q5];lia),?_⟩;rw[Zhu];refine⟨_,_,rfl,rfl,?_,?_⟩
   ·rw[Zs,Zs,Q5];exact Zl bq
   rw[XE];refine hR _ _ ⟨_,rfl,(Zb (o:=.lst (u.reverse.map fun c=>V.str (tx [c]))) hp),?_,?_,fun c hc=>?_⟩
   ·exact Qg▸Nq hz'
   ·rw[Qg,Q5];omega
   ·rcases QA.mp hc with q | q
    ·exact hyc c q
    ·exact hyc c (Ud.mp q)
  clear z1 z3 zc;clear z;rintro σ H9 ⟨z,rfl,s9,z1,z3,zc⟩;refine Z0 (fun σ H10=>∃ z:VA VC,σ=[some (.ref Dk),some (.int most),some (.str (tx y)),some (.str (tx z)),some (.int wy),some (.int c4)]/\H10=H9/\1<=z.length/\z.length<=63/\Cd z) (fun R hR=>?_) ?_
  ·refine⟨_,rfl,rfl,_,rfl,Zkq (fun e=>?_) (fun e=>hR _ _ ⟨z,rfl,rfl,z1,z3,zc⟩)⟩;refine⟨_,rfl,_,rfl,_,rfl,Z8 (No z3),_,rfl,_,rfl,_,_,rfl,rfl,(by show(0:VN)<6;decide),_,_,rfl,rfl,_,rfl,_,rfl,Z8 (No z3),?_⟩;dsimp only;rw[Z5 be,Z5 (Np (ZU c4 (show(0:VN)<6 by decide)))];have b1:(z.take (40:VN).toNat).length<=40/\1<=(z.take (40:VN).toNat).length:=by
    rw[QD];have:(40:VN).toNat=40:=rfl;lia
   have b2:(z.take (1+c4 % 6).toNat).length<=6:=by
    rw[QD];lia
   refine⟨_,_,rfl,rfl,?_,?_⟩
   ·rw[Zs,Zs];exact Zl bq
   rw[XE];refine hR _ _ ⟨_,rfl,rfl,?_,?_,fun c hc=>?_⟩
   ·exact Qg▸Nq b1
   ·rw[Qg];omega
   ·rcases QA.mp hc with q | q
    ·exact zc c (QZ q)
    ·exact zc c (QZ q)
  clear z1 z3 zc;clear z;rintro σ H10 ⟨z,rfl,rfl,z1,z3,zc⟩;exact⟨_,rfl,k z _ (sb7.trans (Zk4 s9)) (hD7.same s9) z1 z3 zc⟩
end
end Sh
namespace L2
open PySem PySem.Spec PyProof.Rows
structure HasN (K:VB) (C:VH) (m qual:VI) (st:Mv) (ps:VA VI) (cd:VG):Prop where
 ex:∃ (f:VH) (oc:VG) (od:VE VH) (dV kV doc pm:VG) (an:VE VH) (ct:VG) (osl:VL (VE VG)),K.lookup f=some ⟨oc,od,.func (ND m qual (Z9 st) (ZO st) (Zf st) dV kV doc pm an cd ct),osl⟩/\MB K cd qual=true/\Zmg K C m f /\
  Binds K (ND m qual (Z9 st) (ZO st) (Zf st) dV kV doc pm an cd ct) ps []
structure HasJ (K:VB) (C:VH) (qual:VI) (st:Mv) (ps:VA VI):Prop where
 ex:∃ (f:VH) (oc:VG) (od:VE VH) (dV kV doc pm cd:VG) (an:VE VH) (ct:VG) (osl:VL (VE VG)),K.lookup f=some ⟨oc,od,.func (ND "__init__" qual (Z9 st) (ZO st) (Zf st) dV kV doc pm an cd ct),osl⟩/\MB K cd qual=true/\Mk K C f /\
  Binds K (ND "__init__" qual (Z9 st) (ZO st) (Zf st) dV kV doc pm an cd ct) ps []
structure MOk (P:Oh) (w:Ol) (K:VB) (mg:VI->VE VG) (base:Nu) (C:VH) (k:VC) (m:VI) (ps:VA VI) (sp:Sp):Prop where
 ex:∃ f fd,FnOk P w K mg base CX0 k f fd ps sp/\Zmg K C m f/\Binds K fd ps []
structure IOk0 (P:Oh) (w:Ol) (K:VB) (mg:VI->VE VG) (base:Nu) (C:VH) (k:VC) (ps:VA VI) (sp:Sp):Prop where
 ex:∃ f fd,FnOk P w K mg base CX0 k f fd ps sp/\Mk K C f/\Binds K fd ps []
section
variable {P:Oh} {w:Ol} {K:VB} {mg:VI->VE VG} {base:Nu} {C:VH} {m qual:VI} {st:Mv} {N ps:VA VI} {j k:VC} {sp:Sp} 
def HasN.ok (D:HasN K C m qual st ps l) (S:Zp N ps (Zf st)) (i:∀ vs H Q E,sp vs H Q E->vs.length=ps.length)
  (d:∀ (f) (A) (a) (s) (vs) (H) (Q) (E),Room k (A.deeper (Gc qual (Zf st) s.heap.objs.size f l))->sp vs H Q E ->
   ∃ t,PSs (Zfq CX0 P w K mg base N qual (Zf st) f l A a s H E).nox (ZO st) t/\t {nx:=fun _ r=>Q .non r,rt:=Q} (start N vs) H):MOk P w K mg base C (k+1) m ps sp:=by
 obtain⟨f,L,I,F,kV,z,M,J,G,y,o,j,B,b⟩:=D.ex;refine⟨f,_,Zjr o j S i fun A a s H vs Q E p e=>?_,B,b⟩;obtain⟨t,h,q⟩:=d f A a s vs H Q E p e;exact⟨t,h.nox,q⟩
def HasJ.ok (D:HasJ K C qual st ps) (S:Zp N ps (Zf st)) (i:∀ vs H Q E,sp vs H Q E->vs.length=ps.length)
  (d:∀ (f) (e) (A) (a) (s) (vs) (H) (Q) (E),Room k (A.deeper (Gc qual (Zf st) s.heap.objs.size f e))->sp vs H Q E ->
   ∃ t,PSs (Zfq CX0 P w K mg base N qual (Zf st) f e A a s H E).nox (ZO st) t/\t {nx:=fun _ p=>Q .non p,rt:=Q} (start N vs) H):IOk0 P w K mg base C (k+1) ps sp:=by
 obtain⟨f,I,z,B,kV,y,J,e,G,F,u,n,l,x,b⟩:=D.ex;refine⟨f,_,Zjr n l S i fun A a s H vs Q E o g=>?_,x,b⟩;obtain⟨t,h,q⟩:=d f e A a s vs H Q E o g;exact⟨t,h.nox,q⟩
def MOk.mono (G:MOk P w K mg base C j m ps sp) (h:j<=k):MOk P w K mg base C k m ps sp:=by
 obtain⟨f,fd,F,r⟩:=G.ex;exact⟨f,fd,F.mono h,r⟩
def IOk0.mono (G:IOk0 P w K mg base C j ps d) (h:j<=k):IOk0 P w K mg base C k ps d:=by
 obtain⟨f,c,F,r⟩:=G.ex;exact⟨f,c,F.mono h,r⟩
end
section
variable {X:Cx} {C:VH} {m:VI} {ps:VA VI} {k:VC} {sp:Sp} {p pos apos:SD} {e o:Expr} {es:VA Expr} {ta:TE} {t:TA} {x:VI}
def Zll {q} (G:MOk X.prog X.w X.K X.mg X.base C k m ps sp) (r:Room k X.A) (c:Cls X.K C) (w:PE X o ta) (n:PA X (e::es) t)
  (i:Oi (e::es) X.env=(false,NQ e X.env)::Oi es X.env:=by rfl) (j:(OE pos (Oi es X.env)).any (·.1)=false:=by rfl)
  (s:NQ (.Call (.Attribute o m apos) (e::es) [] pos) X.env=(do
   let l ←NQ o X.env
   GR apos.atName
   let (f,g) ←Gi [l] (Gv l m q)
   GT pos f g (OE pos (Oi (e::es) X.env)) (Ga pos (OR [] X.env))):=by rfl) :
  PE X (.Call (.Attribute o m apos) (e::es) [] pos) (Zii C m sp [] E0 ta t):=by
 obtain⟨f,z,F,x,b⟩:=G.ex;exact Zli w c x F r b .nil ZiL n i j s
def Zlk (G:MOk X.prog X.w X.K X.mg X.base C k m ps sp) (g:Room k X.A) (c:Cls X.K C) (j:PE X o h)
  (n:NQ (.Call (.Attribute o m apos) [] [] pos) X.env=(do
   let e ←NQ o X.env
   GR apos.atName
   let (f,d) ←Gi [e] (Gv e m q)
   GT pos f d (OE pos (Oi [] X.env)) (Ga pos (OR [] X.env))):=by rfl) :
  PE X (.Call (.Attribute o m apos) [] [] pos) (Zii C m sp [] E0 h Zmu):=by
 have⟨f,p,F,i,b⟩:=G.ex;exact ZiI j c i F g b .nil ZiL n
def ZmO (G:IOk0 X.prog X.w X.K X.mg X.base C k ps sp) (g:Room (k+1) X.A) (m:X.mg x=some (.ref C)) (h:PA X (e::es) t) (l:Gl X x:=by rfl) (a:(x==("__debug__"))=false:=by decide) (j:Oi (e::es) X.env=(false,NQ e X.env)::Oi es X.env:=by rfl) (c:(OE pos (Oi es X.env)).any (·.1)=false:=by rfl) :
  PE X (.Call (.Name x p) (e::es) [] pos) (Zmv C sp [] E0 t):=by
 obtain⟨f,o,F,i,b⟩:=G.ex;exact Zlj i F g l m b .nil ZiL h a j c
end
def ZcJ (q:VI) (c:VH):HO:=.ext fun h=>h.CodeRec (.ref c) q
def Zfw (P:VH) (q:VI) (pos:SD) (H:Hp):Prop :=
 H P=some (.tbl #[])\/∃ c,H P=some (.tbl #[OD pos.line,OD pos.col,.ref c])/\H c=some (ZcJ q c)
def Zl9 (P:VH) (H H':Hp):Prop:=∀ b o,b≠P->H b=some o->H' b=some o
structure Tab (mg:VI->VE VG) (base:Nu) (c P:VH):Prop where
 hd:Dq base c P
 ba:base.BuiltinsAt mg P
 ng:Oj≠P
 nb:base.get? P=none
def ZdN (x:Dq h c P) (k:∀ b o,h.get? b=some o->h'.get? b=some o):Dq h' c P:=by
 obtain⟨o,i,f,j,a,m,d,g,l,e,r⟩:=x;exact⟨o,i,_,j,_,m,d,_,l,k _ _ e,r⟩
def Zfs {h h':Nu} (x:h.BuiltinsAt a P) (k:∀ b o,h.get? b=some o->h'.get? b=some o):h'.BuiltinsAt a P:=by
 obtain⟨i,o,g,c,e,f,d,r⟩:=x;exact⟨i,o,g,c,e,f,k _ _ d,r⟩
def Zjx (x:h.CodeRec (.ref c) q):ObjOk P w H h c (ZcJ q c):=by
 refine⟨x,?_,fun g f p k=>?_⟩;obtain⟨d,o,a,t,e,b,_⟩:=x
 simp_all
 obtain⟨d,o,a,t,e,b,r⟩:=p;cases e;exact⟨_,o,a,t,rfl,k _ b,r⟩
section
variable {X:Cx} {pins:VA (VH×MQ)} {σ:St} {H:Hp} {s:VF}
def Inv.table {P c:VH} (I:Inv X pins σ H s) (t:H P=some (.tbl i)) (k:∀ b o,b≠P->s.heap.get? b=some o->h'.get? b=some o) (w:h'.get? P=some (FW (i++d)))
  (C:s.heap.objs.size<=c) (x:h'.CodeRec (.ref c) q):Inv X pins σ (upd (upd H P (.tbl (i++d))) c (ZcJ q c)) {s with heap:=h',toks:=t'}:=by
 have m:∀ {b o},H b=some o->b<s.heap.objs.size:=fun e=>I.hok.lt e;have f:∀ {b},b<s.heap.objs.size->b≠c:=fun e z=>br
 have j:∀ {b},H b=none->b≠P:=fun n z=>bp
 have g:∀ {b o},H b=some o->(b=P/\o= .tbl i)\/(b≠P/\upd (upd H P (.tbl (i++d))) c (ZcJ q c) b=some o):=fun {b o} e=>by
  by_cases z:b=P
  subst z;rw[t]at e;cases e;simp
  exact .inr ⟨z,by rw[Zi (f (m e)),Zi z];omega⟩
 refine I.un ⟨fun b o e n _ _=>k b o (j n) e,fun b o e n _ _=>⟨o.slots,k b o (j n) e⟩,fun b o e n _=>by rw[Zi (f (Ql e)),Zi (j n)];omega,fun b o e _=>?_,fun b B e=>?_,fun b o u e=>?_,fun b v e=>?_⟩ fun a o e=>?_
 by_cases z:b=P
 simp_all
 simp_all
 rcases g e with ⟨_,z⟩ | ⟨_,z⟩
 grind
 omega
 rcases g e with ⟨_,z⟩ | ⟨_,z⟩
 grind
 omega
 rcases g e with ⟨y,z⟩ | ⟨_,z⟩
 cases z;subst y;exact⟨d,by rw[Zi (f (m e)),Zd]⟩
 simp_all
 by_cases z:a=c
 subst z;rw[Zd]at e;cases e;exact Zjx x
 rw[Zi z]at e;by_cases l:a=P
 subst l;rw[Zd]at e;cases e;exact w
 rw[Zi l]at e;refine(I.hok a o e).stay (fun b u h q=>k b u ?_ q) (fun b r=>?_) fun b B r=>?_
 rcases h with rfl | h
 exact l
 intro A;subst A;rw[t]at h;cases h
 rcases g r with ⟨_,z⟩ | ⟨_,z⟩
 cases z
 exact z
 rcases g r with ⟨_,z⟩ | ⟨_,z⟩
 cases z
 exact z
def Zmd (f:VH) (fo:VG->MQ):HO:=.ext fun h=>∃ ct,h.get? f=some (fo ct)
def Zhm (e:h.get? f=some (b a)):ObjOk P w H h f (Zmd f b) :=
 ⟨⟨a,e⟩,⟨_,e⟩,fun _ _ ⟨a,p⟩ k=>⟨a,k _ p⟩⟩
end
noncomputable abbrev Zme (X:Cx) (args:G0) (body:Expr) (scope:Scope) (cl:VA (VI×VH)) (c:VH):VG->MQ :=
 PySem.W.kla_obj "<lambda>" (X.env.qual++("<lambda>" : VI)) args body scope cl ((X.mg "__name__").getD .none) c
def Zpm (X:Cx) (P:VH) (args:G0) (body:Expr) (scope:Scope) (pos:SD) (cl:VA (VI×VH)):TE:=fun _ H Q=>Zfw P (X.env.qual++("<lambda>" : VI)) pos H /\
 ∀ f c H',Zl9 P H H'->Zfw P (X.env.qual++("<lambda>" : VI)) pos H'->H' c=some (ZcJ (X.env.qual++("<lambda>" : VI)) c)->H' f=some (Zmd f (Zme X args body scope cl c))->Q (.ref f) H'
def ZmP (T:Tab X.mg X.base c P) (q:X.env.code= .ref c) (n:G9 a X.env=pure v) (A:defaultsOf d X.env=([],[]):=by rfl) :
  PE X (.Lambda d body a pos) (Zpm X P d body a pos v):=by
 intro J s σ H Q I h;obtain⟨g,k⟩:=h;refine PySem.W.kla_eval A ?_;have G:s.heap.Ns Oj X.mg:=by
  obtain⟨o,L,R,e,r⟩:=I.ok.mod.glob;exact⟨o,L,R,I.bk _ _ e,r⟩
 have C:=ZdN T.hd I.bk;have B:=Zfs T.ba I.bk;rcases g with g | ⟨f,g,p⟩
 refine PySem.W.kla_makeFunction n I.ok.glob G q C (I.hok P _ g) NN rfl T.ng B fun f m i t y j l M S=>?_;have F:∀ {b o},H b=some o->b≠i.objs.size:=fun e=>Zh e (I.hok.fresh (QR j (WP l)));have E:∀ {b o},H b=some o->b≠f:=fun e=>Zh e (I.hok.fresh j);refine⟨.ref i.objs.size,_,((I.table (t':=t) g (fun b o x e=>y b o x e) S j M).laid (h':=i.push (Zme X d body a v f m)) (t':=t) (fun b u e=>Qc _ e) (Qh _) (Zhm (Qk _ rfl))),rfl,k _ f _ (fun b o x e=>?_) (.inr ⟨f,?_,?_⟩) ?_ Zd⟩
 rw[Zi (F e),Zi (E e),Zi x];omega
 rw[Zi (F g),Zi (E g),Zd];simp
 rw[Zi (QB l),Zd]
 rw[Zi (QB l),Zd]
 refine PySem.W.kla_makeFunctionHit (cv:=.ref f) n I.ok.glob G q C (I.hok P _ g) ?_ ?_ B fun m i t y N=>?_
 first | exact NN | omega | omega | decide
 exact codeAmong_snoc [] NN rfl
 have w:∀ {b o},H b=some o->upd H i.objs.size (Zmd i.objs.size (Zme X d body a v f)) b=some o:=fun {b o} e=>by
  rw[Zi (Zh e (I.hok.fresh N))];omega
 exact⟨.ref i.objs.size,_,((I.kept (t':=t) y).laid (h':=i.push (Zme X d body a v f m)) (t':=t) (fun b u e=>Qc _ e) (Qh _) (Zhm (Qk _ rfl))),rfl,k _ f _ (fun b o _ e=>w e) (.inr ⟨f,w g,w p⟩) (w p) Zd⟩
abbrev Kp (h h':Nu):Prop:=∀ b o,h.get? b=some o->h'.get? b=some o
def ZcW (kf:VC->VN) (n i:VC):Prop:=i<n/\∀ j,j<n->kf i<=kf j/\(j<i->kf i<kf j)
section
variable {prog:Oh} {w:Ol} {A:NC} {R:GU->VF->Prop} {it f:VH} {fp wr:VA VH} {n:VC} {Pv:VC->VG->Prop} {Sv:VC->Nu->Prop} {s:VF}
def ZjE (prog:Oh) (w:Ol) (A:NC) (s:VF) (f:VH) (Pv:VC->VG->Prop) (kf:VC->VN):Prop :=
 ∀ i v h tk,Pv i v->Kp s.heap h->Oe (Oc prog w) A.in1 (call (.ref f) [v]) (fun u q=>∃ t h' tk',u= .int (kf i) t/\q={s with heap:=h',toks:=tk'}/\Kp h h') (fun _ _=>False) {s with heap:=h,toks:=tk}
def Zfb (W:CD prog w A.in1 it fp wr n Pv Sv) (d) (hk:ZjE prog w A s f Pv d) (B) (T:B∉fp) (a:∀ b o,s.heap.get? b=some o->b∉wr/\b≠B)
  (hR:∀ i v h tk,ZcW d n i->Pv i v->Kp s.heap h->R (.ok (.ret v)) {s with heap:=h,toks:=tk}):∀ (k j i) (C) (h) (tk) (D) (c),j+1+k=n->Sv (j+1) h->Kp s.heap h ->
  h.get? B=some {cls:=.type "list",dict:=none,data:=.seq #[C,.int (d i) D] c,slots:=#[]}->ZcW d (j+1) i->Pv i C ->
  OF (Oc prog w) A (.builtin "min.loop" ⟨[.ref it,.ref f,.ref B],[]⟩) R {s with heap:=h,toks:=tk}:=by
 have X:B∉wr:=fun z=>T (W.sub _ z);intro k;induction k with
 | zero =>
  intro j i C h tk D c r st J E y p;have r:j+1=n:=bq
  refine Ov F.entry_min_loop ?_;rw[MW F.plain_min_loop _];show Oe _ A.in1 (CC (.ref B) >>= _) _ _ _;refine Oa (Ow E rfl (Oa (O8 (W.done _ _ _ (r▸st) fun O tk g=>?_))));have N:=g B _ X E;exact Oa (OC N rfl (Oa (O5 (Ob (hR i C _ tk (r▸y) p fun b o e=>(QG _ _ (VS (a b o e).2)).trans (g b o (a b o e).1 (J b o e)))))))
 | succ k ih =>
  intro j i C h tk D c r st J E y p;have r:j+1<n:=By r
  refine Ov F.entry_min_loop ?_;rw[MW F.plain_min_loop _];show Oe _ A.in1 (CC (.ref B) >>= _) _ _ _;refine Oa (Ow E rfl (Oa (O8 (W.item (j+1) _ _ _ r st fun v O Q pv P g=>?_))));have M:Kp s.heap O:=fun b o e=>g b o (a b o e).1 (J b o e);refine Oa (O8 (On (Os (hk (j+1) v O Q pv M) (fun u q hq=>?_) fun _ _ z=>z.elim)));refine Lu hq fun tv h3 tk3 r0 r1 I=>?_;subst r0;subst r1;have m:=I _ _ (g B _ X E);have H:=W.frame _ _ _ P fun b _ o e=>I b o e;refine Oa (O8 (On (Oa (CmpOf.ints_lt (prog:=prog) (w:=w) (A:=A.in1) (P:=fun z u=>∃ t,u= .int (if z=0 then d (j+1)else d i) t) (fun z=>if z=0 then d (j+1)else d i) (fun z u x=>x) 0 1 _ _ _ _ _ ⟨tv,rfl⟩ ⟨D,rfl⟩ (Oa (On (ON (Oa (O5 (Ob ?_))))))))));show Oe _ A.in1 (if decide (d (j+1)<d i)=true then _ else _) _ _ _;by_cases U:d (j+1)<d i
  rw[VD (VR U)];refine Oa (OC m rfl (Oa (O5 ?_)));rw[Zkg];refine Ob ⟨Oy F.plain_min_loop _,ih (j+1) (j+1) v _ _ tv _ (Bz ‹_›) (W.frame _ _ _ H fun b hb2 o e=>?_) (fun b o e=>?_) (QQ _ m rfl) ⟨Kx,fun z hz=>?_⟩ pv⟩
  exact(QG _ _ (fun z:B=b=>T bp)).trans e
  exact(QG _ _ (VS (a b o e).2)).trans (I _ _ (M b o e))
  by_cases ez:z=j+1
  simp_all
  have:=(y.2 z bq).1;omega
  rw[if_neg (by rw[VO U];simp)];refine Oa (O5 ?_);rw[Zkg];refine Ob ⟨Oy F.plain_min_loop _,ih (j+1) i C _ _ D c (Bz ‹_›) H (fun b o e=>I _ _ (M b o e)) m ⟨by have:=y.1;omega,fun z hz=>?_⟩ p⟩;by_cases ez:z=j+1
  subst ez;exact⟨Bl U,fun q=>by have:=y.1;omega⟩
  exact y.2 z bq
def Zh3
  (h:Oe (Oc prog w) A.in1 (GL x) (fun S a=>∃ J y l n G H C c,S= .ref J/\CD prog w A.in1 J y l n G H/\H 0 a.heap/\(∀ b∈y,b<a.heap.objs.size)/\0<n/\ZjE prog w A c f G C/\Kp c.heap a.heap/\(∀ b o,c.heap.get? b=some o->b∉l)/\a={c with heap:=a.heap,toks:=a.toks} /\
   (∀ i v h tk,ZcW C n i->G i v->Kp c.heap h->Q v {c with heap:=h,toks:=tk})) E s) :
  Oe (Oc prog w) A (call (.builtin "min") [x] [(("key"),.ref f)]) Q E s:=by
 refine kmb_tree F.kind_min F.plain_min F.entry_min (kmk_min_key _ _) (Oa (Ou (rfl) (Oa (Ob (Oa (Os h (fun S a D=>La ?_) fun _ _ e=>e))))));intros;obtain⟨J,y,l,n,G,H,C,c,rfl,W,st,O,hn,U,T,V,t,r⟩:=D;refine Oa (Ot ?_);have M:a.heap.objs.size∉y:=fun hm=>Q2 _ (O _ hm);have nW:a.heap.objs.size∉l:=fun z=>M (W.sub _ z);refine Ob ⟨Oy F.plain_min_loop _,?_⟩;generalize Y:a.heap.objs.size=B at *;have X:(a.heap.push {cls:=.type "list",data:=.seq #[]}).get? B=some {cls:=.type "list",dict:=none,data:=.seq #[] 0,slots:=#[]}:=by exact Y▸Qk _ rfl
 have P:∀ b o,a.heap.get? b=some o->(a.heap.push {cls:=.type "list",data:=.seq #[]}).get? b=some o:=fun b o e=>Qc _ e;have g:∀ b o,c.heap.get? b=some o->b∉l/\b≠B:=fun b o e=>⟨V b o e,by exact Y▸QB (Ql (T _ _ e))⟩
 rw[t];refine Ov F.entry_min_loop (Oa (Ow X rfl (Oa (O8 (W.item 0 _ _ _ hn (W.frame _ _ _ st fun b _ o e=>P b o e) fun v D N pv L j=>?_)))));have R:Kp c.heap D:=fun b o e=>j b o (V b o e) (P _ _ (T b o e));apply Pl;intros;refine Oa (O8 (On (Os (U 0 v D N pv R) (fun u q hq=>Lu hq fun Z h3 tk3 r0 K I=>?_) fun _ _ z=>z.elim)));subst r0;subst K;have m:=I _ _ (j B _ nW X);refine Oa (OC m rfl (Ob ⟨Oy F.plain_min_loop _,Zfb (s:=c) W C U B M g (fun i v h tk hF p k=>r i v h tk hF p k) (n-1) 0 0 v _ _ Z _ bq (W.frame _ _ _ (W.frame _ _ _ L fun b _ o e=>I b o e) fun b hb2 o e=>?_) (fun b o e=>?_) (QQ _ m rfl) ⟨Kx,fun z hz=>?_⟩ pv⟩))
 exact(QG _ _ (fun z:B=b=>M (by rw[z];omega))).trans e
 exact(QG _ _ (VS (g b o e).2)).trans (I _ _ (R b o e))
 have ez:z=0:=br
 subst ez;lia
end
section
variable {X:Cx} {pins:VA (VH×MQ)} {σ:St} {H:Hp} {s:VF} {f c cs a b C dx:VH} {fs:VA (VI×V)} {sp:VA V} {args:G0} {fld y:VI} {scope:Scope} {p1 p2 p3 p4:SD} {Pv:VC->VG->Prop} {kf:VC->VN} {i:VC}
structure ZnO (args:G0) (fld y:VI) (scope:Scope) (p1 p2 p3 p4:SD):Prop where
 bind:∀ (q:VI) (cl:VA (VI×VH)) (pm cdv ct v:VG),GV (PySem.W.kla_fn "<lambda>" q args (.Subscript (.Attribute (.Name "self" p1) fld p2) (.Name y p3) p4) scope cl pm cdv ct) ⟨[v],[]⟩=pure [(y,v)]
 kind:scope.kind= .function
 co:scope.isCoroutine=false
 gen:scope.isGenerator=false
 nc:∀ x∈scope.names,x.2≠.cell
 loc:scope.names.lookup y=some .local
 free:scope.names.lookup ("self" : VI)=some .free
 ab:∀ env,OO (.Name "self" p1) fld env (NQ (.Name "self" p1) env)=NQ (.Name "self" p1) env
 db:(y==("__debug__" : VI))=false
 ix:∀ o u,GJ (.Name y p3) false o u=Vi [o,u] (GC o u)
def ZlR (I:Inv X pins σ H s) (L:ZnO args fld y scope p1 p2 p3 p4) (R:X.A.in1.depth<GD)
  (hf:H f=some (Zmd f (Zme X args (.Subscript (.Attribute (.Name "self" p1) fld p2) (.Name y p3) p4) scope [(("self"),cs)] c))) (hc:H c=some (ZcJ (X.env.qual++("<lambda>")) c))
  (hN:X.N[i]?=some "self") (F:σ[i]?=some (some (.ref a))) (hk:X.env.scope.names.lookup ("self" : VI)=some .cell) (hcs:X.env.cells.lookup ("self" : VI)=some cs)
  (ea:H a=some (.ins C dx fs)) (cl:Cls X.K C) (na:NoAttr X.K C fld) (lk:fs.lookup fld=some (.ref b)) (hb:H b=some (.lst sp))
  (k:∀ i v,Pv i v->∃ (col:VN) (t:Tok),v= .int col t/\0<=col/\col<2 ^ 63/\sp[col.toNat]?=some (.int (kf i))):ZjE X.prog X.w X.A s f Pv kf:=by
 intro z v h w pv kp;apply Pl;intros;have B:Inv X pins σ H {s with heap:=h,toks:=w}:=I.kept (t':=w) kp;refine Ll (k z v pv) fun col t r0 h0 K Q=>?_;subst r0;obtain⟨⟨ct,ef⟩,_⟩:=(show ObjOk X.prog X.w H h f (Zmd f _)from B.hok f _ hf)
 obtain⟨cr,_⟩:=(show ObjOk X.prog X.w H h c (ZcJ _ c)from B.hok c _ hc)
 obtain⟨m,hn,hl⟩:=B.loc;obtain⟨u,ru,lu⟩:=hl i "self" _ hN F (.inr (.inl hk));cases (show u= .ref a from ru);have j:h.IsCell cs (some (.ref a)):=by
  rcases lu with ⟨q,_⟩ | ⟨_,c2,e2,q⟩
  have q':X.env.scope.names.lookup ("self" : VI)=some .local:=q
  simp_all
  simp_all
 refine Gj (PySem.W.kla_callFunE R ef rfl L.co L.gen rfl cr (Ou (L.bind _ _ _ _ _ _) (Df L.nc (fun x hx=>?_) (fun p G sb=>?_) L.kind)))
 have E:x=(y,RW col t):=bp
 subst E;exact L.loc
 have P:Kp h p:=fun b o e=>(sb.2 b (QB (Ql e))).trans (Qc _ e);have A:Inv X pins σ H {s with heap:=p,toks:=w}:=B.kept (t':=w) P;refine ⟨A.nolimit,PySem.W.kla_codeExpr (GP (Zh6 (L.ab _) (Pl ?_)))⟩;intros;have d:p.IsCell cs (some (.ref a)):=by
  obtain⟨o,e,r⟩:=j;exact⟨o,P _ _ e,r⟩
 refine GO (Dw L.kind L.free (c:=cs) (v:=.ref a) rfl d (Lp (Zaj A.hok ea) fun mA O r _=>Lm (RelO.some_of (v:=.ref b) (o:=mA fld) (by exact lk▸r fld)) fun ub D M=>?_));cases (show ub= .ref b from M);refine ZhG (s:={s with heap:=p,toks:=_}) A.kIn O (cl.get fld) cl.hd na D (ZcA (v:=.ref b) rfl) (GO (KZ (m:=fun x=>UE x [(y,RW col t)].reverse) (v:=.int col t) L.kind L.loc G ?_ ?_) L.db)
 simp
 refine Lp (A.list (show SqL X.K H b sp from .inl (.inl hb))) fun S rv pl _=>Lm (rv.get Q) fun uv J N=>?_;obtain⟨T,rfl⟩:=(show ∃ T,uv=RW (kf z) T from N)
 exact item_listR (items:=S.toArray) pl.isList h0 K (by simpa using J) ⟨T,p,_,rfl,rfl,P⟩ (L.ix _ _)
def Zoc (X:Cx) (P:VH) (q:VI) (lpos:SD) (fld:VI) (i:VC) (ta:TA):TE:=fun σ H Q=>ta σ H fun vs H1=>∃ (l a C dx b:VH) (fs:VA (VI×V)) (cols:VA VC) (kk:VC->VN) (sp:VA V),
 vs=[.ref l]/\H1 l=some (.lst (cols.map fun c=>V.int (c:VC)))/\0<cols.length/\σ[i]?=some (some (.ref a))/\H1 a=some (.ins C dx fs)/\Cls X.K C/\NoAttr X.K C fld/\fs.lookup fld=some (.ref b)/\H1 b=some (.lst sp) /\
 (∀ c∈cols,c<2 ^ 62/\sp[c]?=some (.int (kk c)))/\Zfw P q lpos H1 /\
 ∀ j c H2,Zl9 P H1 H2->Zfw P q lpos H2->ZcW (fun z=>kk (cols.getD z 0)) cols.length j->cols[j]?=some c->Q (.int (c:VC)) H2
def Zlh {p pos kp A} (hc:X.calm=true) (hg:Gl X "min") (hm:X.mg "min" = none) (ha:PA X [e] ta) (T:Tab X.mg X.base cc P) (hcd:X.env.code= .ref cc) (hcl:G9 scope X.env=pure [(("self" : VI),cs)])
  (L:ZnO args fld y scope p1 p2 p3 p4) (hdp:X.A.in1.depth<GD) (hN:X.N[i]?=some "self") (hk:X.env.scope.names.lookup ("self" : VI)=some .cell) (hcs:X.env.cells.lookup ("self" : VI)=some cs)
  (hdf:defaultsOf args X.env=([],[]):=by rfl)
  (he:OE pos (Oi [e] X.env)=(false,NQ e X.env)::OE pos (Oi [] X.env):=by rfl) (hpl:(OE pos (Oi [e] X.env)).any (·.1)=false:=by rfl) :
  PE X (.Call (.Name "min" p) [e] [⟨some "key",.Lambda args (.Subscript (.Attribute (.Name "self" p1) fld p2) (.Name y p3) p4) scope A,kp⟩] pos) (Zoc X P (X.env.qual++("<lambda>")) A fld i ta):=by
 intro F s σ H Q I h;refine OA (YQ I hg hm Zjz (callWith_kw (thn (ha pos F s σ H _ I h) fun us s1 ⟨vs,H1,I1,r1,q1⟩=>?_) he hpl));obtain⟨l,a,C,dx,b,fs,q,kk,sp,rfl,hl,hn0,hσ,ea,cl,na,lk,hb,hsp,ht,k⟩:=q1;obtain⟨u,rfl,rfl⟩:=XL r1;refine thn (Zle (nm:=some "key") (kpos:=kp) (ZmP (pos:=A) (body:=.Subscript (.Attribute (.Name "self" p1) fld p2) (.Name y p3) p4) T hcd hcl hdf) ZmG pos F s1 σ H1 (fun zs E=>∃ f c,zs=[.ref f]/\Zl9 P H1 E/\Zfw P (X.env.qual++("<lambda>" : VI)) A E/\E c=some (ZcJ (X.env.qual++("<lambda>" : VI)) c) /\
  E f=some (Zmd f (Zme X args (.Subscript (.Attribute (.Name "self" p1) fld p2) (.Name y p3) p4) scope [(("self" : VI),cs)] c))) I1 ⟨ht,fun f c E B t2 K e2=>⟨f,c,rfl,B,t2,K,e2⟩⟩) fun ws B ⟨zs,E,I2,r2,q2⟩=>?_
 obtain⟨f,c,rfl,hs,ht2,hc2,hf2⟩:=q2;obtain⟨dv,rfl,rfl⟩:=XL r2;have up:∀ {b:VH} {o:HO},(∀ ps,o≠.tbl ps)->H1 b=some o->E b=some o:=fun {b o} no e=>hs b o (fun z=>by
  subst z;rcases ht with z | ⟨_,z,_⟩
  rw[z]at e;cases e;simp_all
  rw[z]at e;cases e;exact no _ rfl) e
 show Oe _ _ (call (.builtin "min") [.ref l] [(("key" : VI),.ref f)]) _ _ B;obtain⟨w,rv,pl,_⟩:=I2.list (show SqL X.K E l _ from .inl (.inl (up (fun _ z=>by cases z) hl)));have hln:=rv.length;rw[Qd]at hln;have hlt:l<B.heap.objs.size:=by
  obtain⟨o,n,e,_⟩:=pl;exact Ql e
 have key:ZjE X.prog X.w X.A B f (fun i v=>w.toArray[i]?=some v) (fun z=>kk (q.getD z 0)):=by
  refine ZlR I2 L hdp hf2 hc2 hN hσ hk hcs (up (fun _ z=>by cases z) ea) cl na lk (up (fun _ z=>by cases z) hb) fun z v pv=>?_;have K:w[z]?=some v:=by simpa using pv
  have hi:z<w.length:=(Qj.mp K).1;cases G:q[z]? with
  | none=>exact VM (WD.mp G) (by omega)
  | some d =>
   obtain⟨u',M,ru⟩:=rv.get (i:=z) (x:=.int (d:VC)) (by rw[Qi,G];rfl);rw[K]at M;cases M;obtain⟨t,rfl⟩:=(show ∃ t,v=RW (d:VC) t from ru)
   obtain⟨h1,h2⟩:=hsp d (We G);refine⟨_,t,rfl,by omega,by omega,?_⟩;rw[Qb,G];simpa using h2
 refine Zh3 (OU pl.isList ⟨B.heap.objs.size,[B.heap.objs.size,l],[B.heap.objs.size],w.toArray.size,_,_,_,B,rfl,DS (A:=X.A.in1) (I2.ok.hd hc) _ _ (QB hlt) w.toArray,
  ⟨⟨_,Qk _ rfl,rfl,rfl⟩,pl.isList.push _⟩,?_,?_,key,fun b o e=>Qc _ e,fun b o e hm=>?_,rfl,fun j v h tk hF pv kp2=>?_⟩)
 intro b hb;show b<(B.heap.push _).objs.size;rw[Wu];have:b=B.heap.objs.size\/b=l:=by simpa using hb
 rcases this with z | z
 exact z▸UI _
 exact z▸WZ hlt
 simp only[Qy];omega
 have:b=B.heap.objs.size:=by simpa using hm
 subst this;exact Q2 _ (Ql e)
 have K:w[j]?=some v:=by simpa using pv
 have hF':ZcW (fun z=>kk (q.getD z 0)) q.length j:=by
  have:w.toArray.size=q.length:=by simp only[Qy];omega
  rw[this]at hF;exact hF
 cases G:q[j]? with
 | none=>exact VM (WD.mp G) (by have:=hF'.1;omega)
 | some d =>
  obtain⟨u',M,ru⟩:=rv.get (i:=j) (x:=.int (d:VC)) (by rw[Qi,G];rfl);rw[K]at M;cases M;exact⟨.int (d:VC),E,I2.kept (t':=tk) kp2,ru,k j d E hs ht2 hF' G⟩
end
def Zey (n) (xs) (t) (N:n<=Od)
  (E:∀ H,Same p H->(∀ i,i<n->J.go i H/\∀ x h,J.yld i H x h->h=H/\x=xs i)/\J.stop n H)
  (step:∀ i H (A) (B:Hp->Prop),i<n->Same p H->(t i=true->A (xs i) H)->(t i=false->B H)->g (xs i) (lcS k mp σ) H fun l G=>M l G fun b w=>if b=true then C l w A else B w)
  (q:∀ D h,Same p h->p D=none->h D=some (.lst (((Qz n).filter t).map xs))->Q (.ref D) h):Jy k mp σ g M C J p Q:=by
 intro D s;refine⟨fun i m f H=>m=n-i/\i<=n/\f=((Qz i).filter t).map xs/\Same p H/\H D=some (.lst f),⟨n,bo,QN _,rfl,Zb s,Zd⟩,?_⟩;rintro i m f H ⟨rfl,O,rfl,j,d⟩;obtain⟨v,L⟩:=E H j;by_cases a:i<n
 refine .inr ⟨(v i a).1,fun x z y=>La ?_⟩;intros;obtain⟨F,I⟩:=(v i a).2 x z y;subst F I;refine step i z _ _ a j (fun u=>⟨d,?_,_,Xo a,rfl,a,?_,fun b o e=>?_,Zd⟩) (fun u=>⟨_,Xo a,rfl,a,?_,j,d⟩);rw[Qd];have:=UL t (Qz i);rw[QU]at this;lia;rw[WE,WH];simp[u];exact Zi (Zh e s)▸j b o e;rw[WE,WH];simp[u];have e:i=n:=Vk O a
 subst e;exact .inl ⟨L,q D H j s d⟩
def X6:Zpe X (fun o i H Q=>∃ p xs,∃ k:VC,∃ z,o= .ref p/\i= .int k/\H p=some (.lst xs)/\xs[k]?=some z/\Q z H):=by
 intro c s σ H o i y x Q I l j h;obtain⟨p,xs,k,z,rfl,rfl,d,b,q⟩:=h;cases l;obtain⟨t,rfl⟩:=j;refine Lw (I.lst d) fun g n r f v=>?_;obtain⟨w,e,a⟩:=r.get b;have m:=Zad;have u:=(Qj.mp b).1;exact wpAny_getItem_list ⟨_,f,rfl,n,rfl⟩ Tw br (by simpa using e) ⟨z,H,I,a,q⟩
def Zlm (K) (d:PE X e c) (b:OO e f X.env (NQ e X.env)=NQ e X.env) (h:X.K=K:=by rfl):PE X (.Attribute e f pos) (Zo3 K c f):=by
 subst h;exact ZQ d b
end L2
namespace Sh
open PySem L2 PyProof.Rows
seal PE PS PSs PT PW L2.PA PI PG PGs PO PC PCs OpR UnR CallR MtR IxR SlR
def arr (n:VC) (f:VC->V):VA V:=(Qz n).map f
def ZX (n) (f):(arr n f).length=n:=by unfold arr;simp
def Yi (f) (h:i<n):(arr n f)[i]?=some (f i):=by
 unfold arr;rw[Qi,Wd h];rfl
def YT (f) (h:i<n):atI (arr n f) i=some (f i):=Xh (Yi f h)
def ZcU (h:∀ i,i<n->f i=g i):arr n f=arr n g:=Wl fun i a=>h i (Qu.mp a)
noncomputable def fup {α:Type} (f:VC->α) (i:VC) (x:α):VC->α:=fun j=>if j=i then x else f j
def ZR (f) (i) (x:α):fup f i x i=x:=VD rfl
def ZT (f) (x:α) (h:j≠i):fup f i x j=f j:=if_neg h
def Zl6 (f) (x) (h:i<n):(arr n f).set i x=arr n (fup f i x):=by
 refine QY fun j=>?_;rw[List.getElem?_set];by_cases e:i=j
 subst e;rw[VD rfl,ZX,VD h,Yi _ h,ZR];rw[if_neg e];by_cases a:j<n
 rw[Yi _ a,Yi _ a,ZT _ _ (VS e)];rw[Qr (by rw[ZX];exact Kr a),Qr (by rw[ZX];exact Kr a)]
def Zdc (n) (x):Qw n x=arr n fun _=>x:=by
 refine QY fun j=>?_;by_cases a:j<n
 rw[Yi _ a,Wz,VD a];rw[Qr (by exact Wb▸Kr a),Qr (by rw[ZX];exact Kr a)]
def Xt (h:j<n):ixN n j=some j:=by
 unfold ixN;rw[VD Tw,VD (Sa h),QX]
noncomputable def oI:VE VN->V
 | some k=>.int k
 | none=>.non
noncomputable def oN:VE VC->V
 | some k=>.int k
 | none=>.non
structure Pst where
 rp:VC->VN
 cp:VC->VN
 ra:VC->VE VC
 sp:VC->VE VN
 cf:VC->VE VC
 re:VC->NY
noncomputable def enc (S:Pst):VC->VC->V
 | 0,i=>.int (S.rp i)
 | 1,i=>.int (S.cp i)
 | 2,i=>oN (S.ra i)
 | 3,i=>oI (S.sp i)
 | 4,i=>oN (S.cf i)
 | _,i=>.bl (S.re i)
noncomputable def fnm:VC->VI
 | 0=>"row_prices"
 | 1=>"column_prices"
 | 2=>"row_at"
 | 3=>"spares"
 | 4=>"came_from"
 | _=>"reached"
noncomputable def Znc:VA VI:=["pair_row","start_search","unreached","look_from","reach_nearest","raise_prices","pair_back"]
structure Adr where
 dx:VH
 cst:VH
 rows:VA VH
 b:VC->VH
 fs:VA (VI×V)
structure PairS (C:VH) (m:VC) (H:Hp) (a:VH) (A:Adr) (n:VC) (cost:VC->VC->VN) (v:VC->VC->V):Prop where
 ob:H a=some (.ins C A.dx A.fs)
 lc:A.fs.lookup ("costs" : VI)=some (.ref A.cst)
 lk:∀ k,k<m->A.fs.lookup (fnm k)=some (.ref (A.b k))
 lm:∀ x∈Znc,A.fs.lookup x=none
 hc:H A.cst=some (.lst (A.rows.map V.ref))
 rl:A.rows.length=n
 hr:∀ i,i<n->H (A.rows.getD i 0)=some (.lst (arr n fun j=>.int (cost i j)))
 hv:∀ k,k<m->H (A.b k)=some (.lst (arr n (v k)))
 nd:∀ k k',k<m->k'<m->A.b k=A.b k'->k=k'
 nc:∀ k,k<m->A.b k≠A.cst
 nr:∀ k,k<m->A.b k∉A.rows
structure PgC (K:VB) (mg:VI->VE VG) (C:VH):Prop where
 cl:Cls K C
 nc:NoAttr K C "costs"
 no:∀ k,k<6->NoAttr K C (fnm k)
 mgC:mg "Pairing" = some (.ref C)
def Btl (l:VA VH) (H H':Hp):Prop:=∀ x u,x∉l->H x=some u->H' x=some u
def Btl.trans (a:Btl l H c) (b:Btl l c d):Btl l H d:=fun x u n e=>b x u n (a x u n e)
def Btl.of (s:Same H a):Btl l H a:=fun x u _ e=>s x u e
def Btl.mono (h:Btl l H a) (s:∀ x∈l,x∈b):Btl b H a:=fun x u n e=>h x u (fun z=>n (s x z)) e
def YW (h:Btl l H a) (b:x∈l):Btl l H (upd a x o):=fun y u n e=>by
 rw[Zi fun z=>n bp];exact h y u n e
section
variable {C:VH} {m:VC} {H H':Hp} {a:VH} {A:Adr} {n:VC} {cost:VC->VC->VN} {v:VC->VC->V}
def PairS.put (h:PairS C m H a A n cost v) (b:k<m) (g) (c:Btl [A.b k] H H') (s:H' (A.b k)=some (.lst (arr n g))):PairS C m H' a A n cost (fup v k g):=by
 have q:∀ {x u},H x=some u->(∀ p,u≠.lst p)->x∉[A.b k]:=fun {x u} e r z=>by
  rw[Qq.mp z,h.hv k b]at e;cases e
  simp_all
 refine⟨c _ _ (q h.ob fun _ z=>by grind) h.ob,h.lc,h.lk,h.lm,c _ _ (fun z=>h.nc k b (Qq.mp z).symm) h.hc,h.rl,fun i o=>c _ _ (fun z=>h.nr k b ?_) (h.hr i o),fun j d=>?_,h.nd,h.nc,h.nr⟩;rw[←Qq.mp z,Qb,Qa (by exact h.rl▸o)];simp;by_cases e:j=k
 subst e;rw[ZR];omega;exact ZT _ _ e▸c _ _ (fun z=>e (h.nd j k d b (Qq.mp z))) (h.hv j d)
def PairS.btl (h:PairS C m H a A n cost v) (k:Btl l H H') (o:∀ x u,x∈l->H x=some u->(∀ ys,u≠.lst ys)/\∀ c d f,u≠.ins c d f):PairS C m H' a A n cost v:=by
 have b:∀ {x ys},H x=some (.lst ys)->H' x=some _:=fun {x ys} e=>k _ _ (fun z=>(o x _ z e).1 _ rfl) e;exact⟨k _ _ (fun z=>(o a _ z h.ob).2 _ _ _ rfl) h.ob,h.lc,h.lk,h.lm,b h.hc,h.rl,fun i q=>b (h.hr i q),fun j p=>b (h.hv j p),h.nd,h.nc,h.nr⟩
def PairS.same (h:PairS C m H a A n cost v) (s:Same H H'):PairS C m H' a A n cost v:=h.btl (l:=[]) (fun x u _ e=>s x u e) fun _ _ z=>nomatch z
def PairS.setI (h:PairS C m H a A n cost v) (b:k<m) (hi:i<n) (x):PairS C m (upd H (A.b k) (.lst ((arr n (v k)).set i x))) a A n cost (fup v k (fup (v k) i x)) :=
 h.put b _ (YW (fun _ _ _ e=>e) bo) (by rw[Zd,Zl6 _ _ hi])
end
def ZoL (S) (i) (x):fup (enc S) 3 (fup (enc S 3) i (oI x))=enc {S with sp:=fup S.sp i x}:=by
 funext k j
 match k with
 | 0=>rfl
 | 1=>rfl
 | 2=>rfl
 | 3 =>
  show fup (enc S) 3 _ 3 j=oI (fup S.sp i x j);rw[ZR];unfold fup;split <;> rfl
 | 4=>rfl
 | k+5=>rfl
def ZpK (S) (i) (x):fup (enc S) 4 (fup (enc S 4) i (oN x))=enc {S with cf:=fup S.cf i x}:=by
 funext k j
 match k with
 | 0=>rfl
 | 1=>rfl
 | 2=>rfl
 | 3=>rfl
 | 4 =>
  show fup (enc S) 4 _ 4 j=oN (fup S.cf i x j);rw[ZR];unfold fup;split <;> rfl
 | k+5=>rfl
def Zpc (S) (i) (x):fup (enc S) 0 (fup (enc S 0) i (.int x))=enc {S with rp:=fup S.rp i x}:=by
 funext k j
 match k with
 | 0 =>
  show fup (enc S) 0 _ 0 j= .int (fup S.rp i x j);rw[ZR];unfold fup;split <;> rfl
 | 1=>rfl
 | 2=>rfl
 | 3=>rfl
 | 4=>rfl
 | k+5=>rfl
def ZpM (S) (i) (x):fup (enc S) 1 (fup (enc S 1) i (.int x))=enc {S with cp:=fup S.cp i x}:=by
 funext k j
 match k with
 | 0=>rfl
 | 1 =>
  show fup (enc S) 1 _ 1 j= .int (fup S.cp i x j);rw[ZR];unfold fup;split <;> rfl
 | 2=>rfl
 | 3=>rfl
 | 4=>rfl
 | k+5=>rfl
def ZpL (S) (i) (x):fup (enc S) 2 (fup (enc S 2) i (oN x))=enc {S with ra:=fup S.ra i x}:=by
 funext k j
 match k with
 | 0=>rfl
 | 1=>rfl
 | 2 =>
  show fup (enc S) 2 _ 2 j=oN (fup S.ra i x j);rw[ZR];unfold fup;split <;> rfl
 | 3=>rfl
 | 4=>rfl
 | k+5=>rfl
def ZpJ (S) (i) (x):∀ k,k<6->fup (enc S) 5 (fup (enc S 5) i (.bl x)) k=enc {S with re:=fup S.re i x} k:=by
 intro k a
 funext j
 match k,a with
 | 0,_=>rfl
 | 1,_=>rfl
 | 2,_=>rfl
 | 3,_=>rfl
 | 4,_=>rfl
 | 5,_ =>
  show fup (enc S) 5 _ 5 j= .bl (fup S.re i x j);rw[ZR];unfold fup;split <;> rfl
def PairS.ext (h:PairS C m H a A n cost v) (e:∀ k,k<m->∀ i,i<n->v k i=w k i):PairS C m H a A n cost w :=
 ⟨h.ob,h.lc,h.lk,h.lm,h.hc,h.rl,h.hr,fun k b=>by rw[h.hv k b,ZcU (e k b)],h.nd,h.nc,h.nr⟩
def ZlZ:∀ k,k<6->∀ j,j<6->fnm k=fnm j->k=j:=bh
def Zjp:∀ k,k<6->∀ x∈Znc,¬ x=fnm k:=bh
def Zjq:∀ k,k<6->¬ (("costs")=fnm k):=bh
def PairS.field (h:PairS C m H a A n cost v) (w:m<6) (g) (y:H r=none) (F:upd H r G b=none) :
  PairS C (m+1) (upd (upd (upd H r G) b (.lst (arr n g))) a (.ins C A.dx (XG (fnm m) (.ref b) A.fs))) a {A with fs:=XG (fnm m) (.ref b) A.fs,b:=fup A.b m b} n cost (fup v m g):=by
 have p:H b=none:=by
  by_cases z:b=r
  simp_all
  rw[Zi z]at F;omega
 have E:∀ {x B},H x=some (.lst B)->(upd (upd (upd H r G) b (.lst (arr n g))) a (.ins C A.dx (XG (fnm m) (.ref b) A.fs))) x=some (.lst B):=fun {x B} e=>by
  rw[Zi (Zdo e h.ob bo),Zi (Zh e p),Zi (Zh e y)];omega
 have u:b≠a:=fun z=>by rw[z,h.ob]at p;grind
 have d:∀ {k},k<m->fup A.b m b k=A.b k:=fun c=>ZT _ _ (Ki c);have I:∀ {k},k<m->A.b k≠b:=fun c=>Zh (h.hv _ c) p;have l:∀ {k},k<m+1->k<m\/k=m:=fun c=>br
 refine⟨Zd,?_,fun k c=>?_,fun x M=>?_,E h.hc,h.rl,fun i L=>E (h.hr i L),fun k c=>?_,fun k J c t e=>?_,fun k c=>?_,fun k c=>?_⟩
 rw[Yr,if_neg (Zjq m w)];exact h.lc
 show(XG _ _ _).lookup _=some (.ref (fup A.b m b k));rw[Yr];rcases l c with q | q
 rw[if_neg (fun z=>by have:=ZlZ k (Kh w q) m w z;exact (V6 q this).elim),d q];exact h.lk k q
 subst q;rw[VD rfl,ZR]
 rw[Yr,if_neg (Zjp m w x M)];exact h.lm x M
 rcases l c with q | q
 show upd _ _ _ (fup A.b m b k)=_;rw[d q,ZT _ _ (Ki q)];exact E (h.hv k q)
 subst q;show upd _ _ _ (fup A.b k b k)=_;rw[ZR,ZR,Zi u,Zd]
 have o:fup A.b m b k=fup A.b m b J:=e;rcases l c with q | q <;> rcases l t with j | j
 rw[d q,d j]at o;exact h.nd k J q j o
 subst j;rw[d q,ZR]at o;exact VM o (I q)
 subst q;rw[d j,ZR]at o;exact VM o.symm (I j)
 exact K9 q j
 show fup A.b m b k≠_;rcases l c with q | q
 exact d q▸h.nc k q
 subst q;rw[ZR];exact(Zh h.hc p).symm
 show fup A.b m b k∉_;rcases l c with q | q
 exact d q▸h.nr k q
 subst q;rw[ZR];intro z;obtain⟨i,L,e⟩:=WC z;have:=h.hr i (by rw[←h.rl];omega)
 simp_all
def ZnR (A A':Adr):Prop:=A'.dx=A.dx/\A'.cst=A.cst/\A'.rows=A.rows/\(∀ k,k<3->A'.b k=A.b k)/\A'.fs.length<=A.fs.length+3
noncomputable def JP (S:Pst):Pst:={S with sp:=fun _=>none,cf:=fun _=>none,re:=fun _=>false}
section
variable {P:Oh} {w:Ol} {K:VB} {mg:VI->VE VG} {base:Nu} {C:VH} {cd:VG}
abbrev Yu (i:VC):Mv:=ZlX (top 30) i
def unr (n:VC) (re:VC->NY):VA VC:=(Qz n).filter fun c=>!re c
def Zoj:Zp ["self"] ["self"] (Zf (Yu 3)):=⟨rfl,rfl,rfl,bo,rfl,bh,bh⟩
def ZkT (C:VH):Sp:=fun vs H Q _=>∃ (a:VH) (A:Adr) (n:VC) (cost:VC->VC->VN) (S:Pst),vs=[.ref a]/\n<=1000/\PairS C 6 H a A n cost (enc S)/\∀ D H',Same H H'->H D=none->H' D=some (.lst ((unr n S.re).map fun(c:VC)=>V.int (c:VC)))->Q (.ref D) H'
def ZmU (D:HasN K C "unreached" "Pairing.unreached" (Yu 3) ["self"] F) (B:Blt mg) (T:PgC K mg C):MOk P w K mg base C 1 "unreached" ["self"] (ZkT C):=by
 refine D.ok Zoj (fun y H Q E h=>?_) fun f A j s y H Q E J h=>?_
 obtain⟨a,A,n,d,S,rfl,_⟩:=h;rfl
 apply Lb;intros;apply La;intros;obtain⟨a,G,n,d,S,rfl,t,g,k⟩:=h;refine ⟨_,(Zj (Zu (Yd (Zf (Yu 3)) ["self"] ["column"] [0] rfl (ZY rfl B.range (Za (Zk Zn rfl B.len ZG (Za (ZQ (pv 0) rfl) Ze)) Ze)) (fun _ _ _ _ _=>Yz 0)
  (fun _ _ _ _ _=>Jm (Xm (YI (ZA (ZeF K) (Zlm K (pv 1) rfl) (pv 0) fun _ _=>rfl)))) fun _ _ _ _ _=>pv 0))),⟨_,rfl,a,C,_,_,_,rfl,g.ob,T.cl,T.nc,g.lc,_,_,rfl,.inl ⟨_,SqL.of g.hc,rfl⟩,?_⟩⟩;rw[Qd,g.rl];refine ⟨_,rfl,br,br,Zey n _ (fun c=>!S.re c) (Zl t) ZbG (fun i M L I r q u z=>?_) fun m p v x o=>?_⟩
 have b:=g.same q;refine⟨_,rfl,Pe a C _ _ _ ⟨rfl,b.ob,T.cl,T.no 5 be,b.lk 5 be,_,rfl,Pg _ _ _ (.bl (S.re i)) ⟨rfl,rfl,SqL.of (b.hv 5 be),?_,_,rfl,?_⟩⟩⟩
 rw[U2];exact YT _ r
 cases e:S.re i with
 | true=>exact Ys bo (z (by rw[e];rfl))
 | false=>exact Xu bo ⟨_,rfl,u (by rw[e];rfl)⟩
 refine k m p v x ?_;rw[o];unfold unr;simp
def ZbK {P:Oh} {w:Ol} {base:Nu} {σ:L2.St} (T:PgC K mg C) (hn:n<=1000) (f:σ[0]?=some (some (.ref a))) (hm:m<6) (x:V) {R:Hp->Prop} (d:PairS C m g a b n cost v1) (hl:b.fs.length<=990)
  (kR:∀ q H2,q.dx=b.dx->q.cst=b.cst->q.rows=b.rows->(∀ k,k<m->q.b k=b.b k)->q.fs.length<=b.fs.length+1->Btl [a] g H2->g (q.b m)=none->PairS C (m+1) H2 a q n cost (fup v1 m fun _=>x)->R H2) :
  1<=Od/\∀ p,g p=none->∃ v,σ[0]?=some (some v)/\∃ s i dx t v',v= .ref s/\upd g p (.lst [x]) s=some (.ins i dx t)/\Cls K i/\NoAttr K i "costs"/\t.lookup ("costs" : VI)=some v'/\∃ z,∃ j:VC,[v']=[z]/\ZkD K z (upd g p (.lst [x])) j /\
     ∃ l r xs,V.ref p= .ref l/\V.int j= .int r/\upd g p (.lst [x]) l=some (.lst xs)/\-(2 ^ 63)<=r/\r<2 ^ 63/\xs.length*r.toNat<=Od/\∀ h,upd g p (.lst [x]) h=none->∃ v,σ[0]?=some (some v)/\∃ s i dx t,v= .ref s/\upd (upd g p (.lst [x])) h (.lst (Qw r.toNat xs).flatten) s=some (.ins i dx t)/\Cls K i/\NoAttr K i (fnm m)/\t.length<1000 /\
      R (upd (upd (upd g p (.lst [x])) h (.lst (Qw r.toNat xs).flatten)) s (.ins i dx (XG (fnm m) (.ref h) t))):=by
 refine⟨Zeq,fun p A=>⟨_,f,a,C,_,_,_,rfl,by rw[Zi (Zh d.ob A)];exact d.ob,T.cl,T.nc,d.lc,_,b.rows.length,rfl,.inl ⟨_,SqL.of (by rw[Zi (Zh d.hc A)];exact d.hc),by rw[Qd]⟩,p,_,_,rfl,rfl,Zd,br,by rw[d.rl];lia,?_,fun h o=>?_⟩⟩
 rw[QX,d.rl];exact Zl (by simp;exact hn)
 have n2:g h=none:=by
  by_cases z:h=p
  exact z▸A
  rw[Zi z]at o;exact o
 refine⟨_,f,Pg a C b.dx b.fs ⟨rfl,?_,T.cl,T.no m hm,V8 hl,?_⟩⟩
 rw[Zi (Zh d.ob n2),Zi (Zh d.ob A)];exact d.ob
 rw[QX,d.rl,X9,Zdc];refine kR {b with fs:=XG (fnm m) (.ref h) b.fs,b:=fup b.b m h} _ rfl rfl rfl (fun k hk=>ZT _ _ (Ki hk)) ?_ (fun y u hy e=>?_) ?_ (d.field hm (fun _=>x) A o)
 show(XG _ _ _).length<=_;exact (YM (fnm m) (.ref h) b.fs)
 rw[Zi (fun z=>hy (by rw[z];simp)),Zi (Zh e n2),Zi (Zh e A)];exact e
 show g (fup b.b m h m)=none;rw[ZR];exact n2
def Zk1:Zp ["self"] ["self"] (Zf (Yu 2)):=⟨rfl,rfl,rfl,bo,rfl,bh,bh⟩
def ZfP (C:VH):Sp:=fun vs H Q _=>∃ (a:VH) (A:Adr) (n:VC) (cost:VC->VC->VN) (S:Pst),vs=[.ref a]/\n<=1000/\A.fs.length<=900/\PairS C 3 H a A n cost (enc S) /\
 ∀ A' H',ZnR A A'->Btl [a] H H'->(∀ k,3<=k->k<6->H (A'.b k)=none)->PairS C 6 H' a A' n cost (enc (JP S))->Q .non H'
def ZiO (D:HasN K C "start_search" "Pairing.start_search" (Yu 2) ["self"] cd) (B:Blt mg) (T:PgC K mg C):MOk P w K mg base C 1 "start_search" ["self"] (ZfP C):=by
 refine D.ok Zk1 (fun vs H Q E h=>?_) (fun f A p s vs H Q E hr h=>?_)
 obtain⟨a,A,n,c,S,rfl,_⟩:=h;rfl
 apply La;intros;obtain⟨a,Ad,n,c,S,rfl,q,X,G,k⟩:=h;refine ⟨_,(Zc (JX (pv 0) (Zo Xi (ZC (Za Xp Ze)) (Zk Zn rfl B.len ZG (Za (ZQ (pv 0) rfl) Ze))) rfl)
  (Zc (JX (pv 0) (Zo Xi (ZC (Za Xp Ze)) (Zk Zn rfl B.len ZG (Za (ZQ (pv 0) rfl) Ze))) rfl)
  (Zj (JX (pv 0) (Zo Xi (ZC (Za YV Ze)) (Zk Zn rfl B.len ZG (Za (ZQ (pv 0) rfl) Ze))) rfl)))),ZbK (P:=P) (w:=w) (base:=base) T q rfl (m:=3) be .non G br fun A1 o d1 c1 r1 U l1 y W t=>ZbK (P:=P) (w:=w) (base:=base) T q rfl (m:=4) be .non t br fun R H2 d2 c2 r2 b2 l2 r Z J=>ZbK (P:=P) (w:=w) (base:=base) T q rfl (m:=5) be (.bl false) J br fun I O d3 c3 r3 b3 l3 N F M=>k I O ⟨bp,bp,bp,fun j m=>by rw[b3 j bq,b2 j bq,U j m],br⟩ (y.trans (r.trans N)) (fun j h3 V=>?_) (M.ext fun j m i hi=>?_)⟩
 have g:∀ {x},x≠a->o x=none->H x=none:=fun {x} l z=>by
  cases e:H x with
  | none=>rfl
  | some u=>rw[y x u (by simpa using l) e]at z;omega
 have b:∀ {x},x≠a->H2 x=none->o x=none:=fun {x} l z=>by
  cases e:o x with
  | none=>rfl
  | some u=>rw[r x u (by simpa using l) e]at z;omega
 have Y:A1.b 3≠a:=fun z=>by rw[z,G.ob]at W;grind
 have L:R.b 4≠a:=fun z=>by rw[z,t.ob]at Z;grind
 have d:I.b 5≠a:=fun z=>by rw[z,J.ob]at F;grind
 match j,h3,V with
 | 3,_,_=>simp_all
 | 4,_,_=>simp_all
 | 5,_,_=>exact g d (b d F)
 match j,m with
 | 0,_=>rfl
 | 1,_=>rfl
 | 2,_=>rfl
 | 3,_=>rfl
 | 4,_=>rfl
 | 5,_=>rfl
end
noncomputable def YS (o:VE VN) (x:VN):NY:=match o with
 | none=>true
 | some k=>decide (x<k)
noncomputable def red (cost:VC->VC->VN) (S:Pst) (r c:VC):VN:=cost r c-S.rp r-S.cp c
noncomputable def Y9 (cost:VC->VC->VN) (r:VC) (bf:VE VC) (l:VA VC) (S:Pst):Pst :=
 {S with sp:=fun c=>if decide (c∈l)&&YS (S.sp c) (red cost S r c)then some (red cost S r c)else S.sp c,cf:=fun c=>if decide (c∈l)&&YS (S.sp c) (red cost S r c)then bf else S.cf c}
noncomputable def YF (n:VC) (cost:VC->VC->VN) (r:VC) (bf:VE VC) (S:Pst):Pst:=Y9 cost r bf (unr n S.re) S
def Zhe (cost) (r) (bf) (S):Y9 cost r bf [] S=S:=by
 rfl
def Zct (h:c∉l):(Y9 cost r bf l S).sp c=S.sp c/\(Y9 cost r bf l S).cf c=S.cf c:=by
 unfold Y9;simp[h]
def Zi8 (a:YS (S.sp c) (red cost S r c)=false):Y9 cost r bf (l++[c]) S=Y9 cost r bf l S:=by
 have e:∀ j,(decide (j∈l++[c])&&YS _ _)=(decide (j∈l)&&YS _ _):=fun j=>by
  by_cases z:j=c
  subst z;rw[a];simp;simp[z]
 unfold Y9;simp only[e]
def Zhd (b:YS (S.sp c) (red cost S r c)=true) :
  Y9 cost r bf (l++[c]) S={Y9 cost r bf l S with sp:=fup (Y9 cost r bf l S).sp c (some (red cost S r c)),cf:=fup (Y9 cost r bf l S).cf c bf}:=by
 have e:∀ j,j≠c->(decide (j∈l++[c])&&YS (S.sp j) (red cost S r j))=(decide (j∈l)&&YS (S.sp j) (red cost S r j)):=fun j z=>by simp[z]
 have a:(decide (c∈l++[c])&&YS (S.sp c) (red cost S r c))=true:=by rw[b];simp
 unfold Y9;congr 1
 funext j
 by_cases z:j=c
 subst z;rw[ZR,a];rfl;rw[ZT _ _ z,e j z]
 funext j
 by_cases z:j=c
 subst z;rw[ZR,a];rfl;rw[ZT _ _ z,e j z]
section
variable {P:Oh} {w:Ol} {K:VB} {mg:VI->VE VG} {base:Nu} {C:VH} {cd:VG}
noncomputable abbrev Zov:VA VI:=["self","row","before","column","spare"]
def scLook:Zp Zov ["self","row","before"] (Zf (Yu 4)):=⟨rfl,rfl,rfl,bh,rfl,bh,bh⟩
def ZjO (C:VH):Sp:=fun vs H Q _=>∃ (a:VH) (A:Adr) (n:VC) (cost:VC->VC->VN) (S:Pst) (r:VC) (bf:VE VC),vs=[.ref a,.int r,oN bf]/\n<=1000/\r<n/\PairS C 6 H a A n cost (enc S) /\
 ∀ H',Btl [A.b 3,A.b 4] H H'->PairS C 6 H' a A n cost (enc (YF n cost r bf S))->Q .non H'
def Zlt (D:HasN K C "look_from" "Pairing.look_from" (Yu 4) ["self","row","before"] cd) (B:Blt mg) (T:PgC K mg C) (O:MOk P w K mg base C 1 "unreached" ["self"] (ZkT C)):MOk P w K mg base C 2 "look_from" ["self","row","before"] (ZjO C):=by
 refine D.ok scLook (fun vs H Q E h=>?_) (fun f A outer s vs H Q E hr h=>?_)
 obtain⟨a,A,n,b,S,r,o,rfl,_⟩:=h;rfl
 apply Lb;intros;apply La;intros;obtain⟨a,l,n,b,S,r,o,rfl,hn,R,I,k⟩:=h;refine ⟨_,(Zj (Z1 VP rfl (Xn (Zlk O hr T.cl (pv 0))) (Zw 3 scLook.nd)
  (Zc (Zm 4 scLook.nd (Zo YL (Zo YL (ZA ix_list (ZA ix_list (ZQ (pv 0) rfl) (pv 1)) (pv 3)) (ZA ix_list (ZQ (pv 0) rfl) (pv 1))) (ZA ix_list (ZQ (pv 0) rfl) (pv 3))))
  (Zj (Ya (PW.pt (JB (Zt ZgL (ZA ix_list (ZQ (pv 0) rfl) (pv 3)) Xp (Zz _)) (Jx (Zt Zdj (pv 4) (ZA ix_list (ZQ (pv 0) rfl) (pv 3)) (Zz _)))))
   (Zc (Zcc (pv 4) (Zce (ZQ (pv 0) rfl) (pv 3) YD)) (Zj (Zcc (pv 2) (Zce (ZQ (pv 0) rfl) (pv 3) YD)))) ZD))))),⟨.ref a,rfl,a,_,_,rfl,I.ob,I.lm _ be,a,l,n,b,S,rfl,hn,I,fun N H1 s1 nD1 J=>?_⟩⟩;generalize Y:unr n S.re=u at *;have unl:∀ c∈u,c<n:=fun c F=>by
  rw[←Y]at F;exact Qu.mp (Wf.mp F).1
 have und:u.Nodup:=by exact Y▸Wp.filter _
 have nD:∀ k,k<6->N≠l.b k:=fun k hk z=>by rw[z,I.hv k hk]at nD1;simp_all
 refine⟨N,rfl,⟨_,SqL.of J⟩,JH (K:=K) (a:=N) (xs:=u.map fun(c:VC)=>V.int (c:VC)) (fun i σ p=>(∃ G U:VE V,σ=[some (.ref a),some (.int r),some (oN o),G,U])/\p N=some (.lst (u.map fun(c:VC)=>V.int (c:VC)))/\Btl [l.b 3,l.b 4] H p/\PairS C 6 p a l n b (enc (Y9 b r o (u.take i) S)))
  ⟨⟨none,none,rfl⟩,J,Btl.of s1,by rw[UR,Zhe];exact I.same s1⟩ (fun i σ p _ ⟨_,h,_⟩=>SqL.of h) ?_ ?_⟩
 rintro i x σ p hi ⟨⟨G,U,rfl⟩,v,X,d⟩;rw[Qi]at hi;apply La;intros;obtain⟨c,F,rfl⟩:=WB.mp hi;have hiu:i<u.length:=(Qj.mp F).1;have hcu:c∈u:=We F;have g:=unl c hcu;have hct:c∉u.take i:=fun z=>by
  obtain⟨j,hj,e⟩:=WC z;rw[QD]at hj;rw[List.getElem_take]at e;have e2:=(Qj.mp F).2;exact Wh.mp und j i bq hiu bq br
 have L:u.take (i+1)=u.take i++[c]:=by rw[List.take_succ,F];rfl
 obtain⟨_⟩:=Zct (cost:=b) (r:=r) (bf:=o) (S:=S) hct;generalize t:Y9 b r o (u.take i) S=m at *;have erp:m.rp=S.rp:=by rw[←t];rfl
 have Z:m.cp=S.cp:=by rw[←t];rfl
 have hat:atI (l.rows.map V.ref) (r:VN)=some (.ref (l.rows.getD r 0)):=Xh (by
  rw[Qi,Qb,Qa (by rw[d.rl];exact R)];rfl)
 have v0:enc m 0 r= .int (S.rp r):=by show V.int (m.rp r)=_;rw[erp]
 have v1:enc m 1 c= .int (S.cp c):=by show V.int (m.cp c)=_;rw[Z]
 have v3:enc m 3 c=oI (S.sp c):=by show oI (m.sp c)=_;grind
 refine ⟨.ref a,rfl,a,C,_,_,_,rfl,d.ob,T.cl,T.nc,d.lc,_,rfl,_,_,_,_,rfl,rfl,SqL.of d.hc,hat,_,rfl,_,_,_,_,rfl,rfl,SqL.of (d.hr r R),YT _ g,
  .ref a,rfl,a,C,_,_,_,rfl,d.ob,T.cl,T.no 0 be,d.lk 0 be,_,rfl,_,_,_,_,rfl,rfl,SqL.of (d.hv 0 be),YT _ R,_,_,rfl,v0,.ref a,rfl,a,C,_,_,_,rfl,d.ob,T.cl,T.no 1 be,d.lk 1 be,_,rfl,_,_,_,_,rfl,rfl,SqL.of (d.hv 1 be),YT _ g,_,_,rfl,v1,⟨.ref a,rfl,a,C,_,_,_,rfl,d.ob,T.cl,T.no 3 be,d.lk 3 be,_,rfl,_,_,_,_,rfl,rfl,SqL.of (d.hv 3 be),YT _ g,?_⟩⟩;rw[v3];refine⟨rfl,_,rfl,?_⟩;have go:YS (S.sp c) (red b S r c)=true->(∃ G U:VE V,[some (V.ref a),some (.int r),some (oN o),some (.int (c:VC)),some (.int (red b S r c))]=[some (.ref a),some (.int r),some (oN o),G,U])/\(upd (upd p (l.b 3) (.lst ((arr n (enc m 3)).set c (.int (red b S r c))))) (l.b 4) (.lst ((arr n (enc m 4)).set c (oN o)))) N=some (.lst (u.map fun(c:VC)=>V.int (c:VC))) /\
   Btl [l.b 3,l.b 4] H (upd (upd p (l.b 3) (.lst ((arr n (enc m 3)).set c (.int (red b S r c))))) (l.b 4) (.lst ((arr n (enc m 4)).set c (oN o))))/\PairS C 6 (upd (upd p (l.b 3) (.lst ((arr n (enc m 3)).set c (.int (red b S r c))))) (l.b 4) (.lst ((arr n (enc m 4)).set c (oN o)))) a l n b (enc (Y9 b r o (u.take (i+1)) S)):=fun y=>by
  refine⟨⟨_,_,rfl⟩,by rw[Zi (nD 4 be),Zi (nD 3 be)];exact v,YW (YW X bo) bo,?_⟩;have q:=d.setI (k:=3) be g (oI (some (red b S r c)));rw[ZoL]at q;have q2:=q.setI (k:=4) be g (oN o);rw[ZpK]at q2;rw[L,Zhd y,t]
  trivial
 have M:=d.setI (k:=3) be g (oI (some (red b S r c)));rw[ZoL]at M;cases e:S.sp c with
 | none =>
  have y:YS (S.sp c) (red b S r c)=true:=by rw[e];rfl
  refine Xu (by rfl) (ZnW ?_);exact⟨_,rfl,.ref a,rfl,Pe a C _ _ _ ⟨rfl,d.ob,T.cl,T.no 3 be,d.lk 3 be,_,rfl,Pg _ _ _ c ⟨rfl,rfl,d.hv 3 be,by rw[ZX];exact Xt g,_,rfl,.ref a,rfl,Pe a C _ _ _ ⟨rfl,M.ob,T.cl,T.no 4 be,d.lk 4 be,_,rfl,Pg _ _ _ c ⟨rfl,rfl,M.hv 4 be,by rw[ZX];exact Xt g,go y⟩⟩⟩⟩⟩
 | some kk =>
  refine Ys (by rfl) ⟨_,rfl,.ref a,rfl,a,C,_,_,_,rfl,d.ob,T.cl,T.no 3 be,d.lk 3 be,_,rfl,_,_,_,_,rfl,rfl,SqL.of (d.hv 3 be),YT _ g,_,_,rfl,v3.trans (by rw[e];rfl),_,rfl,?_⟩;cases W:decide (red b S r c<kk)with
  | true =>
   have y:YS (S.sp c) (red b S r c)=true:=by exact e▸W
   refine Xu W ?_;exact⟨_,rfl,.ref a,rfl,Pe a C _ _ _ ⟨rfl,d.ob,T.cl,T.no 3 be,d.lk 3 be,_,rfl,Pg _ _ _ c ⟨rfl,rfl,d.hv 3 be,by rw[ZX];exact Xt g,_,rfl,.ref a,rfl,Pe a C _ _ _ ⟨rfl,M.ob,T.cl,T.no 4 be,d.lk 4 be,_,rfl,Pg _ _ _ c ⟨rfl,rfl,M.hv 4 be,by rw[ZX];exact Xt g,go y⟩⟩⟩⟩⟩
  | false =>
   have y:YS (S.sp c) (red b S r c)=false:=by exact e▸W
   refine Ys W ⟨⟨_,_,rfl⟩,v,X,?_⟩;rw[L,Zi8 y,t];exact d
 rintro σ p ⟨⟨G,U,rfl⟩,v,X,d⟩;refine k p X ?_;rw[Qd,Q8]at d;unfold YF;exact Y▸d
end
noncomputable def rz (step:VN) (S:Pst) (c:VC):Pst:=match S.re c,S.ra c,S.sp c with
 | true,some r,_=>{S with rp:=fup S.rp r (S.rp r+step),cp:=fup S.cp c (S.cp c-step)}
 | false,_,some k=>{S with sp:=fup S.sp c (some (k-step))}
 | _,_,_=>S
def rzs (step:VN) (S:Pst) (i:VC):Pst:=(Qz i).foldl (rz step) S
noncomputable def Yo (n r:VC) (step:VN) (S:Pst):Pst:=rzs step {S with rp:=fup S.rp r (S.rp r+step)} n
def XZ (step) (S) (i):rzs step S (i+1)=rz step (rzs step S i) i:=by
 unfold rzs;rw[WE,List.foldl_append];rfl
def Zgm {step} (a:S.re c=true) (b:S.ra c=some r):rz step S c={S with rp:=fup S.rp r (S.rp r+step),cp:=fup S.cp c (S.cp c-step)}:=by
 unfold rz
 simp_all
def Zgk {step k} (a:S.re c=false) (b:S.sp c=some k):rz step S c={S with sp:=fup S.sp c (some (k-step))}:=by
 unfold rz
 simp_all
def Zgl (step) (S) (c):(rz step S c).re=S.re/\(rz step S c).ra=S.ra/\(rz step S c).cf=S.cf/\∀ j,j≠c->(rz step S c).sp j=S.sp j:=by
 unfold rz;split
 simp;exact⟨rfl,rfl,rfl,fun j a=>ZT _ _ a⟩;simp
def Y5 (step) (S):∀ i,(rzs step S i).re=S.re/\(rzs step S i).ra=S.ra/\(rzs step S i).cf=S.cf/\∀ j,i<=j->(rzs step S i).sp j=S.sp j
 | 0=>⟨rfl,rfl,rfl,fun _ _=>rfl⟩
 | i+1=>by
  obtain⟨a,f,c,d⟩:=Y5 step S i;obtain⟨h,b,g,e⟩:=Zgl step _ i;rw[XZ];exact⟨h.trans a,b.trans f,g.trans c,fun j k=>(e j br).trans (d j (K4 k))⟩
section
variable {P:Oh} {w:Ol} {K:VB} {mg:VI->VE VG} {base:Nu} {C:VH} {cd:VG}
abbrev Zm2:VA VI:=["self","row","step","column"]
def scRaise:Zp Zm2 ["self","row","step"] (Zf (Yu 6)):=⟨rfl,rfl,rfl,bh,rfl,bh,bh⟩
def ZfR (C:VH):Sp:=fun vs H Q _=>∃ (a:VH) (A:Adr) (n:VC) (cost:VC->VC->VN) (S:Pst) (r:VC) (step:VN),vs=[.ref a,.int r,.int step]/\n<=1000/\r<n/\PairS C 6 H a A n cost (enc S) /\
 (∀ c,c<n->S.re c=true->∃ r,r<n/\S.ra c=some r)/\(∀ c,c<n->S.re c=false->∃ k,S.sp c=some k) /\
 ∀ H',Btl [A.b 0,A.b 1,A.b 3] H H'->PairS C 6 H' a A n cost (enc (Yo n r step S))->Q .non H'
def ZiQ (D:HasN K C "raise_prices" "Pairing.raise_prices" (Yu 6) ["self","row","step"] cd) (B:Blt mg) (T:PgC K mg C):MOk P w K mg base C 1 "raise_prices" ["self","row","step"] (ZfR C):=by
 refine D.ok scRaise (fun vs H Q E h=>?_) (fun f A N s vs H Q E hr h=>?_)
 obtain⟨a,A,n,j,S,r,step,rfl,_⟩:=h;rfl
 apply Lb;intros;obtain⟨a,d,n,j,S,r,step,rfl,hn,t,y,J,M,k⟩:=h;refine⟨_,(Zc (Zbq (ZQ (pv 0) rfl) (pv 1) X6 (pv 2) Zks YD)
  (Zj (Z1 VP rfl (ZY rfl B.range (Za (Zk Zn rfl B.len ZG (Za (ZQ (pv 0) rfl) Ze)) Ze)) (Zw 3 scRaise.nd)
  (Zj (Ya (YI (ZA ix_list (ZQ (pv 0) rfl) (pv 3)))
   (Zc (Zbq (ZQ (pv 0) rfl) (ZA ix_list (ZQ (pv 0) rfl) (pv 3)) X6 (pv 2) Zks YD) (Zj (Zbq (ZQ (pv 0) rfl) (pv 3) X6 (pv 2) Zkr YD)))
   (Zj (Zbq (ZQ (pv 0) rfl) (pv 3) X6 (pv 2) Zkr YD))))))),?_⟩
 apply Db;intros;have u:=y.setI (k:=0) be t (.int (S.rp r+step));rw[Zpc]at u;refine⟨.ref a,rfl,Pe a C _ _ _ ⟨rfl,y.ob,T.cl,T.no 0 be,y.lk 0 be,_,rfl,Pg _ _ r _ ⟨rfl,rfl,y.hv 0 be,Yi _ t,_,rfl,_,_,rfl,rfl,Pg _ _ _ r ⟨rfl,rfl,y.hv 0 be,by rw[ZX];exact Xt t,?_⟩⟩⟩⟩;have Y:Btl [d.b 0,d.b 1,d.b 3] H (upd H (d.b 0) (.lst ((arr n (enc S 0)).set r (.int (S.rp r+step))))):=YW (fun _ _ _ e=>e) bo;have Z:∀ G,Btl [d.b 0,d.b 1,d.b 3] H G->PairS C 6 G a d n j (enc (rzs step {S with rp:=fup S.rp r (S.rp r+step)} n))->Q .non G:=k;have v:∀ c,c<n->({S with rp:=fup S.rp r (S.rp r+step)}:Pst).re c=true->∃ m,m<n/\({S with rp:=fup S.rp r (S.rp r+step)}:Pst).ra c=some m:=J;have x:∀ c,c<n->({S with rp:=fup S.rp r (S.rp r+step)}:Pst).re c=false->∃ k,({S with rp:=fup S.rp r (S.rp r+step)}:Pst).sp c=some k:=M;generalize ({S with rp:=fup S.rp r (S.rp r+step)}:Pst)=I at *;refine⟨.ref a,rfl,Pe a C _ _ _ ⟨rfl,u.ob,T.cl,T.nc,u.lc,_,_,rfl,.inl ⟨_,SqL.of u.hc,rfl⟩,?_⟩⟩;rw[Qd,u.rl];refine ⟨_,rfl,br,bq,Yy (fun i σ z=>(∃ O:VE V,σ=[some (.ref a),some (.int r),some (.int step),O])/\Btl [d.b 0,d.b 1,d.b 3] H z/\PairS C 6 z a d n j (enc (rzs step I i))) ⟨⟨none,rfl⟩,Y,u⟩ ?_ ?_⟩
 rintro i σ z l ⟨⟨O,rfl⟩,F,b⟩;have l:i<n:=br
 have⟨q1,X,q3,q4⟩:=Y5 step I i;rw[XZ];generalize rzs step I i=g at *;rw[U2];refine⟨.ref a,rfl,Pe a C _ _ _ ⟨rfl,b.ob,T.cl,T.no 5 be,b.lk 5 be,_,rfl,Pg _ _ _ (.bl (g.re i)) ⟨rfl,rfl,SqL.of (b.hv 5 be),YT _ l,_,rfl,?_⟩⟩⟩;cases e:g.re i with
 | true =>
  have⟨m,o,p⟩:=v i l bp;rw[←X]at p;have v2:enc g 2 i= .int (m:VC):=by show oN (g.ra i)=_;rw[p];rfl
  have q:=b.setI (k:=0) be o (.int (g.rp m+step));rw[Zpc]at q;have W:=q.setI (k:=1) be l (.int (g.cp i-step));rw[(ZpM ({g with rp:=fup g.rp m (g.rp m+step)}:Pst) i (g.cp i-step))]at W;refine ZnW ⟨.ref a,rfl,a,C,_,_,_,rfl,b.ob,T.cl,T.no 0 be,b.lk 0 be,.ref a,rfl,a,C,_,_,_,rfl,b.ob,T.cl,T.no 2 be,b.lk 2 be,_,rfl,_,_,_,_,rfl,rfl,SqL.of (b.hv 2 be),(YT _ l).trans (by rw[v2]),_,_,m,_,rfl,rfl,b.hv 0 be,Yi _ o,_,rfl,_,_,rfl,rfl,_,_,_,m,rfl,rfl,b.hv 0 be,by rw[ZX];exact Xt o,
   .ref a,rfl,a,C,_,_,_,rfl,q.ob,T.cl,T.no 1 be,b.lk 1 be,_,rfl,_,_,i,_,rfl,rfl,q.hv 1 be,Yi _ l,_,rfl,_,_,rfl,rfl,_,_,_,i,rfl,rfl,q.hv 1 be,by rw[ZX];exact Xt l,⟨_,rfl⟩,YW (YW F bo) bo,?_⟩
  rw[Zgm e p];omega
 | false =>
  have⟨R,L⟩:=x i l bp;rw[←q4 i (Qh _)]at L;have v3:enc g 3 i= .int R:=by show oI (g.sp i)=_;rw[L];rfl
  have q:=b.setI (k:=3) be l (oI (some (R-step)));rw[ZoL]at q;refine ZoE ⟨.ref a,rfl,a,C,_,_,_,rfl,b.ob,T.cl,T.no 3 be,b.lk 3 be,_,rfl,_,_,i,_,rfl,rfl,b.hv 3 be,(Yi _ l).trans (by rw[v3]),_,rfl,_,_,rfl,rfl,_,_,_,i,rfl,rfl,b.hv 3 be,by rw[ZX];exact Xt l,⟨_,rfl⟩,YW F bo,?_⟩;rw[Zgk e L]
  trivial
 rintro σ z ⟨⟨O,rfl⟩,F,b⟩;exact Z z F b
end
def ChL (cf:VC->VE VC):VE VC->VA VC->Prop
 | none,[]=>DZ
 | some c,d::l=>c=d/\ChL cf (cf c) l
 | _,_=>False
noncomputable def Zeg (row:VC) (ra:VC->VE VC):VE VC->VE VC
 | none=>some row
 | some b=>ra b
noncomputable def Xg (cf:VC->VE VC) (row:VC):VA VC->(VC->VE VC)->VC->VE VC
 | [],ra=>ra
 | c::l,ra=>Xg cf row l (fup ra c (Zeg row ra (cf c)))
def ChL.det:∀ {o} {l a},ChL e o l->ChL e o a->l=a
 | none,[],[],_,_=>rfl
 | none,[],_::_,_,h=>by simp[ChL]at h
 | none,_::_,_,h,_=>by simp[ChL]at h
 | some c,[],_,h,_=>by simp[ChL]at h
 | some c,_::_,[],_,h=>by simp[ChL]at h
 | some c,d::l,i::a,h,g=>by
  obtain⟨rfl,b⟩:=h;obtain⟨rfl,f⟩:=g;rw[ChL.det b f]
section
variable {P:Oh} {w:Ol} {K:VB} {mg:VI->VE VG} {base:Nu} {C:VH} {cd:VG}
noncomputable abbrev ZoA:VA VI:=["self","row","last","column","before"]
def scBack:Zp ZoA ["self","row","last"] (Zf (Yu 7)):=⟨rfl,rfl,rfl,bh,rfl,bh,bh⟩
def Zf3 (C:VH):Sp:=fun vs H Q _=>∃ (a:VH) (A:Adr) (n:VC) (cost:VC->VC->VN) (S:Pst) (r last:VC) (l:VA VC),vs=[.ref a,.int r,.int last]/\n<=1000/\PairS C 6 H a A n cost (enc S)/\ChL S.cf (some last) l/\(∀ c∈l,c<n) /\
 ∀ H',Btl [A.b 2] H H'->PairS C 6 H' a A n cost (enc {S with ra:=Xg S.cf r l S.ra})->Q .non H'
def ZiR (D:HasN K C "pair_back" "Pairing.pair_back" (Yu 7) ["self","row","last"] cd) (T:PgC K mg C):MOk P w K mg base C 1 "pair_back" ["self","row","last"] (Zf3 C):=by
 refine D.ok scBack (fun vs H Q E h=>?_) (fun f A W s vs H Q E hr h=>?_)
 obtain⟨a,A,n,t,S,r,i,l,rfl,_⟩:=h;rfl
 apply Lb;intros;apply La;intros;obtain⟨a,v,n,t,S,r,i,l,rfl,hn,hP,U,R,k⟩:=h;refine⟨_,(Zc (Zm 3 scBack.nd (pv 2))
  (Zj (Y6 VP (Zt ZgK (pv 3) Xp (Zz _))
  (Zc (Zm 4 scBack.nd (ZA ix_list (ZQ (pv 0) rfl) (pv 3)))
  (Zc (Zcc (ZiJ (Zt ZgL (pv 4) Xp (Zz _)) (pv 1) (ZA ix_list (ZQ (pv 0) rfl) (pv 4))) (Zce (ZQ (pv 0) rfl) (pv 3) YD))
  (Zj (Zm 3 scBack.nd (pv 4)))))))),?_⟩
 apply Db;intros;refine⟨_,rfl,fun m σ z=>∃ (o:VE VC) (p:VA VC) (g:VC->VE VC) (J:VE V),σ=[some (.ref a),some (.int r),some (.int i),some (oN o),J]/\ChL S.cf o p/\m=p.length/\(∀ c∈p,c<n)/\Btl [v.b 2] H z/\PairS C 6 z a v n t (enc {S with ra:=g})/\Xg S.cf r p g=Xg S.cf r l S.ra,
  ⟨l.length,some i,l,S.ra,none,rfl,U,rfl,R,fun _ _ _ e=>e,hP,rfl⟩,?_⟩
 rintro m σ z ⟨o,p,g,J,rfl,O,rfl,B,Y,j,eq⟩;match o,p,O with
 | none,[],_ =>
  refine⟨_,rfl,rfl,_,rfl,Ys (by rfl) (k z Y ?_)⟩;rw[←eq]
  trivial
 | some c,d::I,O =>
  obtain⟨rfl,F⟩:=O;have u:=B c Qo;have v4:enc ({S with ra:=g}:Pst) 4 c=oN (S.cf c):=rfl;have X:=j.setI (k:=2) be u (oN (Zeg r g (S.cf c)));rw[(ZpL ({S with ra:=g}:Pst) c (Zeg r g (S.cf c)))]at X;refine⟨_,rfl,rfl,_,rfl,Xu (by rfl) ⟨_,fun σ' H' q=>q,?_⟩⟩;apply J1;intros;have G:(upd z (v.b 2) (.lst ((arr n (enc ({S with ra:=g}:Pst) 2)).set c (oN (Zeg r g (S.cf c))))))=(upd z (v.b 2) (.lst ((arr n (enc ({S with ra:=g}:Pst) 2)).set c (oN (Zeg r g (S.cf c))))))->∃ Z,Z<(c::I).length/\∃ (o:VE VC) (p:VA VC) (y:VC->VE VC) (J:VE V),[some (V.ref a),some (.int r),some (.int i),some (oN (S.cf c)),some (oN (S.cf c))]=[some (.ref a),some (.int r),some (.int i),some (oN o),J]/\ChL S.cf o p/\Z=p.length/\(∀ c∈p,c<n)/\Btl [v.b 2] H (upd z (v.b 2) (.lst ((arr n (enc ({S with ra:=g}:Pst) 2)).set c (oN (Zeg r g (S.cf c))))))/\PairS C 6 (upd z (v.b 2) (.lst ((arr n (enc ({S with ra:=g}:Pst) 2)).set c (oN (Zeg r g (S.cf c)))))) a v n t (enc {S with ra:=y})/\Xg S.cf r p y=Xg S.cf r l S.ra:=fun _ =>
   ⟨I.length,bo,S.cf c,I,fup g c (Zeg r g (S.cf c)),_,rfl,F,rfl,fun x hx=>B x (Qm _ hx),YW Y bo,X,eq⟩
  refine ⟨.ref a,rfl,Pe a C _ _ _ ⟨rfl,j.ob,T.cl,T.no 4 be,j.lk 4 be,_,rfl,Pg _ _ _ _ ⟨rfl,rfl,SqL.of (j.hv 4 be),(YT _ u).trans (NA some v4),⟨_,rfl,rfl,_,rfl,?_⟩⟩⟩⟩;cases e:S.cf c with
  | none =>
   refine Xu (by rfl) ⟨_,rfl,.ref a,rfl,a,C,_,_,_,rfl,j.ob,T.cl,T.no 2 be,j.lk 2 be,_,rfl,_,_,_,c,rfl,rfl,j.hv 2 be,by rw[ZX];exact Xt u,_,rfl,?_⟩;have:=G rfl;rw[e]at this
   trivial
  | some b =>
   have N:b<n:=by
    rw[e]at F;match I,F with
    | d2::l3,M =>
     obtain⟨rfl,_⟩:=M;exact B b bo
   refine Ys (by rfl) ⟨.ref a,rfl,a,C,_,_,_,rfl,j.ob,T.cl,T.no 2 be,j.lk 2 be,_,rfl,_,_,_,_,rfl,rfl,SqL.of (j.hv 2 be),YT _ N,.ref a,rfl,a,C,_,_,_,rfl,j.ob,T.cl,T.no 2 be,j.lk 2 be,_,rfl,_,_,_,c,rfl,rfl,j.hv 2 be,by rw[ZX];exact Xt u,_,rfl,?_⟩;have:=G rfl;rw[e]at this
   trivial
end
def IsNear (n:VC) (S:Pst) (c:VC) (k:VN):Prop:=c<n/\S.re c=false/\S.sp c=some k/\∀ d,d<n->S.re d=false->∃ k',S.sp d=some k'/\k<=k'/\(d<c->k<k')
def IsNear.det (h:IsNear n S c k) (h':IsNear n S d i):c=d/\k=i:=by
 obtain⟨l,p,j,e⟩:=h;obtain⟨g,f,o,m⟩:=h';obtain⟨x,a,_⟩:=e d g f;obtain⟨y,b,_⟩:=m c l p;rw[o]at a;rw[j]at b;cases a;cases b;lia
noncomputable def Znh:SD:=match ZO (Yu 5)with
 | .Assign _ (.Call _ _ [⟨_,.Lambda _ _ _ p,_⟩] _) _::_=>p
 | _=>⟨0,0,0,0⟩
noncomputable def ZpC:VI:=(("Pairing.reach_nearest" : VI)++(".<locals>." : VI))++("<lambda>" : VI)
abbrev TbOk (Pt:VH) (H:Hp):Prop:=Zfw Pt ZpC Znh H
noncomputable def Yk (n row c:VC) (k:VN) (S:Pst):Pst:={Yo n row k S with re:=fup (Yo n row k S).re c true}
section
variable {P:Oh} {w:Ol} {K:VB} {mg:VI->VE VG} {base:Nu} {C cc Pt:VH}
abbrev Zm1:VA VI:=["self","row","nearest"]
def scReach:Zp Zm1 ["self","row"] (Zf (Yu 5)):=⟨rfl,rfl,rfl,bh,rfl,bh,bh⟩
def ZfQ (C Pt:VH):Sp:=fun vs H Q _=>∃ (a:VH) (A:Adr) (n:VC) (cost:VC->VC->VN) (S:Pst) (r:VC),vs=[.ref a,.int r]/\n<=1000/\r<n/\PairS C 6 H a A n cost (enc S)/\TbOk Pt H /\
 (∀ c,c<n->S.re c=true->∃ r,r<n/\S.ra c=some r)/\(∀ c,c<n->S.re c=false->∃ k,S.sp c=some k)/\(∃ c,c<n/\S.re c=false) /\
 ∀ c k H',IsNear n S c k->Btl [Pt,A.b 0,A.b 1,A.b 3,A.b 5] H H'->TbOk Pt H'->PairS C 6 H' a A n cost (enc (Yk n r c k S))->Q (.int (c:VC)) H'
def ZiP (D:HasN K C "reach_nearest" "Pairing.reach_nearest" (Yu 5) ["self","row"] (.ref cc)) (B:Blt mg) (T:PgC K mg C) (Tb:Tab mg base cc v) (Z:MOk P w K mg base C 1 "unreached" ["self"] (ZkT C)) (X:MOk P w K mg base C 1 "raise_prices" ["self","row","step"] (ZfR C)) :
  MOk P w K mg base C 2 "reach_nearest" ["self","row"] (ZfQ C v):=by
 refine D.ok scReach (fun vs H Q E h=>?_) (fun f A outer s vs H Q E hr h=>?_)
 obtain⟨a,A,n,m,S,r,rfl,_⟩:=h;rfl
 apply Lb;intros;apply La;intros;obtain⟨a,o,n,m,S,r,rfl,hn,hrn,hP,ht,hre,p,⟨c0,hc0,hr0⟩,k⟩:=h;refine ⟨_,(Zc (Zm 2 scReach.nd (Zlh (i:=0) (cs:=s.heap.objs.size+1) (P:=v) (cc:=cc) (fld:="spares") (y:="column") rfl rfl B.min (Za (Zlk Z hr T.cl (pv 0)) Ze) Tb rfl rfl ⟨fun _ _ _ _ _ _=>rfl,rfl,rfl,rfl,bo,rfl,rfl,fun _=>rfl,be,fun _ _=>rfl⟩ hr.depth rfl rfl rfl))
  (Zc (Z4 (Zll X hr T.cl (pv 0) (Za (pv 1) (Za (ZA ix_list (ZQ (pv 0) rfl) (pv 2)) Ze))))
  (Zc (Zcc YV (Zce (ZQ (pv 0) rfl) (pv 2) YD))
  (Zj (Zu (pv 2)))))),⟨.ref a,rfl,a,_,_,rfl,hP.ob,hP.lm _ be,a,o,n,m,S,rfl,hn,hP,fun D1 H1 N nD1 hD1=>?_⟩⟩;have Y:=hP.same N;have t1:TbOk v H1:=by
  rcases ht with z | ⟨c,z,z2⟩
  exact .inl (N _ _ z)
  exact .inr ⟨c,N _ _ z,N _ _ z2⟩
 have mu:∀ {c},c∈unr n S.re↔c<n/\S.re c=false:=fun {c}=>by
  unfold unr;rw[Wf,Qu];simp
 refine Ph D1 a C _ _ _ (unr n S.re) (fun c=>(S.sp c).getD 0) _ ⟨rfl,hD1,Ws (mu.mpr ⟨hc0,hr0⟩),rfl,Y.ob,T.cl,T.no 3 be,Y.lk 3 be,Y.hv 3 be,fun c hc=>?_,t1,fun j c H2 sx t2 hF ej=>?_⟩
 obtain⟨h1,h2⟩:=mu.mp hc;obtain⟨G,R⟩:=p c h1 h2;refine⟨br,(Yi _ h1).trans ?_⟩;show some (oI (S.sp c))=some (V.int ((S.sp c).getD 0));rw[R];rfl
 obtain⟨l,F⟩:=mu.mp (We ej);obtain⟨G,R⟩:=p c l F;have gd:∀ {z d:VC},(unr n S.re)[z]?=some d->(unr n S.re).getD z 0=d:=fun {z d} e=>by rw[Qb,e];rfl
 have hN:IsNear n S c G:=by
  refine⟨l,F,R,fun d hd W=>?_⟩;obtain⟨k',U⟩:=p d hd W;obtain⟨z,hz,ez⟩:=WC (mu.mpr ⟨hd,W⟩);have J:(unr n S.re)[z]?=some d:=bp
  have q:=hF.2 z hz;simp only[gd ej,gd J,R,U,WW]at q;refine⟨k',U,q.1,fun hdc=>q.2 ?_⟩;have srt:(unr n S.re).Pairwise (· < ·):=Ul.filter _;rcases WS z j with y | y | y
  exact y
  subst y;rw[ej]at J;cases J;exact (Mw hdc).elim
  have:=Wh.mp srt j z hF.1 hz y;rw[ez,(Qj.mp ej).2]at this;lia
 have O:∀ x u,x∈[v]->H1 x=some u->(∀ t,u≠.lst t)/\∀ c d f,u≠.ins c d f:=fun x u M e=>by
  rw[Qq.mp M]at e;rcases t1 with z | ⟨_,z,_⟩
  rw[z]at e;cases e;simp
  rw[z]at e;cases e;simp
 have B2:Btl [v] H1 H2:=fun x u M e=>sx x u (by simpa using M) e;have I:=Y.btl B2 O;have v3:enc S 3 c= .int G:=by show oI (S.sp c)=_;rw[R];rfl
 refine ⟨.ref a,rfl,Pf a _ _ ⟨rfl,I.ob,I.lm _ be,_,rfl,.ref a,rfl,Pe a C _ _ _ ⟨rfl,I.ob,T.cl,T.no 3 be,I.lk 3 be,_,rfl,Pg _ _ _ _ ⟨rfl,rfl,SqL.of (I.hv 3 be),(YT _ l).trans (NA some v3),Pi a o n m S r G ⟨rfl,hn,hrn,I,hre,p,fun H3 B3 P3=>⟨.ref a,rfl,a,C,_,_,_,rfl,P3.ob,T.cl,T.no 5 be,P3.lk 5 be,_,rfl,_,_,_,c,rfl,rfl,P3.hv 5 be,by rw[ZX];exact Xt l,_,rfl,?_⟩⟩⟩⟩⟩⟩;have npb:∀ {k},k<6->v≠o.b k:=fun {k} hk z=>by
  have:=(O v _ bo (by exact z▸Y.hv k hk)).1 _ rfl;omega
 have t3:TbOk v (upd H3 (o.b 5) (.lst ((arr n (enc (Yo n r G S) 5)).set c (.bl true)))):=by
  have nb:∀ {x u},H2 x=some u->(∀ t,u≠.lst t)->x∉[o.b 0,o.b 1,o.b 3]/\x≠o.b 5:=fun {x u} e no=>by
   have q:∀ {k},k<6->x≠o.b k:=fun {k} hk z=>by rw[z,I.hv k hk]at e;cases e;exact no _ rfl
   refine⟨fun z=>?_,q be⟩;simp only[Qs,Q7,or_false]at z;rcases z with z | z | z
   exact q be z
   exact q be z
   exact q be z
  have up:∀ {x u},H2 x=some u->(∀ t,u≠.lst t)->upd H3 (o.b 5) (.lst ((arr n (enc (Yo n r G S) 5)).set c (.bl true))) x=some u:=fun {x u} e no=>by
   exact Zi (nb e no).2▸B3 x u (nb e no).1 e
  rcases t2 with z | ⟨c',z,z2⟩
  exact .inl (up z fun _ y=>by cases y)
  exact .inr ⟨c',up z fun _ y=>(by cases y),up z2 fun _ y=>(by cases y)⟩
 refine k c G _ hN (YW ((Btl.of N).trans ((B2.mono bo).trans (B3.mono ?_))) bo) t3 ((P3.setI (k:=5) be l (.bl true)).ext fun k' hk' i hi=>?_)
 intro x M;simp only[Qs,Q7,or_false]at M ⊢;rcases M with z | z | z
 exact .inr (.inl z)
 exact .inr (.inr (.inl z))
 exact .inr (.inr (.inr (.inl z)))
 rw[ZpJ _ _ _ k' hk'];rfl
end
section
variable {n row:VC} {cost:VC->VC->VN} {S:Pst} {step:VN}
def Zpg (n:VC) (ra:VC->VE VC):Prop:=∀ c d r,c<n->d<n->ra c=some r->ra d=some r->c=d
def Zee (h:S.re c=false):(rz step S c).rp=S.rp/\(rz step S c).cp=S.cp:=by
 unfold rz
 grind
def Zk8 (h:S.re c=true):(rz step S c).sp=S.sp:=by
 unfold rz
 grind
def Za5 (h:S.re i=true->S.ra i≠some r):(∃ c,c<i+1/\S.re c=true/\S.ra c=some r)↔∃ c,c<i/\S.re c=true/\S.ra c=some r:=by
 constructor;rintro⟨c,b,a,d⟩;by_cases e:c=i
 simp_all
 exact⟨c,Ky b e,a,d⟩;rintro⟨c,b,a⟩;exact⟨c,Kz b,a⟩
def ZjX (d:Zpg n S.ra) (b:∀ c,c<n->S.re c=true->∃ r,S.ra c=some r):∀ i,i<=n->∀ r,((∃ c,c<i/\S.re c=true/\S.ra c=some r)->(rzs step S i).rp r=S.rp r+step)/\((¬ ∃ c,c<i/\S.re c=true/\S.ra c=some r)->(rzs step S i).rp r=S.rp r)
 | 0,_,r=>⟨Lh fun c h _=>VM h (Wn _),fun _=>rfl⟩
 | i+1,u,r=>by
  obtain⟨f,a⟩:=ZjX d b i (K4 u) r;obtain⟨t,m,_⟩:=Y5 step S i;rw[XZ];cases e:S.re i with
  | true =>
   obtain⟨g,j⟩:=b i u e;rw[Zgm bp (by rw[m];omega)];by_cases z:r=g
   subst z;have l:¬ ∃ c,c<i/\S.re c=true/\S.ra c=some r:=fun⟨c,s,_,k⟩=>by
    have:=d c i r br br k j;lia
   refine⟨fun _=>?_,fun h=>VM ⟨i,Kx,e,j⟩ h⟩;show fup _ r _ r=_;rw[ZR,a l]
   have o:=Za5 (S:=S) (i:=i) (r:=r) fun _ q=>bp
   rw[o];show(_->fup _ g _ r=_)/\(_->fup _ g _ r=_);exact ZT _ _ z▸⟨f,a⟩
  | false =>
   rw[(Za5 (S:=S) (i:=i) (r:=r) fun q=>by rw[e]at q;cases q),(Zee bp).1];exact⟨f,a⟩
def ZjY (b:∀ c,c<n->S.re c=true->∃ r,S.ra c=some r):∀ i,i<=n->∀ c,(c<i->S.re c=true->(rzs step S i).cp c=S.cp c-step)/\((c<i->S.re c=false)->(rzs step S i).cp c=S.cp c)
 | 0,_,c=>⟨fun h=>VM h (Wn _),fun _=>rfl⟩
 | i+1,m,c=>by
  obtain⟨d,a⟩:=ZjY b i (K4 m) c;obtain⟨l,f,_,_⟩:=Y5 step S i;rw[XZ];cases e:S.re i with
  | true =>
   obtain⟨k,o⟩:=b i m e;rw[Zgm bp (by rw[f];omega)];show(_->_->fup _ i _ c=_)/\(_->fup _ i _ c=_);by_cases z:c=i
   subst z;rw[ZR,a fun h=>VM h (Q2 _)];exact⟨fun _ _=>rfl,fun h=>bp⟩;rw[ZT _ _ z]
   grind
  | false =>
   rw[(Zee bp).2];refine⟨fun h g=>?_,fun h=>a fun q=>h (Kz q)⟩;by_cases z:c=i
   simp_all
   exact d (Ky h z) g
def ZjW:∀ i,i<=n->∀ c,(c<i->S.re c=false->∀ k,S.sp c=some k->(rzs step S i).sp c=some (k-step))/\(S.re c=true->(rzs step S i).sp c=S.sp c)
 | 0,_,c=>⟨fun h=>VM h (Wn _),fun _=>rfl⟩
 | i+1,o,c=>by
  obtain⟨b,a⟩:=ZjW i (K4 o) c;obtain⟨l,j,_,e⟩:=Y5 step S i;obtain⟨_,_,_,f⟩:=Zgl step _ i;rw[XZ];by_cases z:c=i
  subst z;refine⟨fun _ d k m=>?_,fun d=>?_⟩;rw[Zgk bp (by rw[e c (Qh _)];omega)];exact ZR _ _ _;rw[Zk8 bp]
  simp_all
  rw[f c z];exact⟨fun h=>b (Ky h z),a⟩
def Tree (n row:VC) (S:Pst) (r:VC):Prop:=r=row\/∃ c,c<n/\S.re c=true/\S.ra c=some r
structure Mat (n:VC) (cost:VC->VC->VN) (row:VC) (S:Pst):Prop where
 feas:∀ i j,i<n->j<n->0<=red cost S i j
 tight:∀ j i,j<n->S.ra j=some i->i<row/\red cost S i j=0
 inj:Zpg n S.ra
 all:∀ i,i<row->∃ j,j<n/\S.ra j=some i
structure Sea (n:VC) (cost:VC->VC->VN) (row:VC) (S:Pst) (rk:VC->VC) (t:VC):Prop where
 mat:Mat n cost row S
 hre:∀ c,c<n->S.re c=true->∃ r,r<row/\S.ra c=some r
 sp:∀ c,c<n->S.re c=false->∃ k r,S.sp c=some k/\Zeg row S.ra (S.cf c)=some r/\Tree n row S r/\red cost S r c=k/\(∀ r',Tree n row S r'->k<=red cost S r' c)/\∀ b,S.cf c=some b->b<n/\S.re b=true
 rt:∀ c,c<n->S.re c=true->rk c<t/\∃ r,Zeg row S.ra (S.cf c)=some r/\Tree n row S r/\red cost S r c=0/\∀ b,S.cf c=some b->b<n/\S.re b=true/\rk b<rk c
structure Rea (n:VC) (cost:VC->VC->VN) (row:VC) (S:Pst) (rk:VC->VC) (t c:VC):Prop where
 mat:Mat n cost row S
 hc:c<n
 rc:S.re c=true
 hre:∀ d,d<n->S.re d=true->d≠c->∃ r,r<row/\S.ra d=some r
 sp:∀ d,d<n->S.re d=false->∃ k r,S.sp d=some k/\Zeg row S.ra (S.cf d)=some r/\Tree n row S r/\red cost S r d=k/\(∀ r',Tree n row S r'->(∀ q,S.ra c=some q->r'≠q)->k<=red cost S r' d)/\∀ b,S.cf d=some b->b<n/\S.re b=true
 rt:∀ d,d<n->S.re d=true->rk d<t/\∃ r,Zeg row S.ra (S.cf d)=some r/\Tree n row S r/\red cost S r d=0/\∀ b,S.cf d=some b->b<n/\S.re b=true/\rk b<rk d
def Tree.lt (h:Mat n cost row S) (d:row<n) (t:Tree n row S r):r<n:=by
 rcases t with rfl | ⟨c,a,_,b⟩
 exact d;have:=(h.tight c r a b).1;exact Kh d this
def Zlx (h:Sea n cost row S rk t) (s:row<n):∃ c,c<n/\S.re c=false:=by
 by_cases z:∃ c,c<n/\S.re c=false
 omega;have d:=fun c f=>h.hre c f (by
  simp_all)
 have o:((Qz n).map fun c=>(S.ra c).getD 0).Nodup:=by
  refine Wt.mpr (RT (fun {x y} b i q e=>?_) Ul);have⟨l,_,a⟩:=d x (Qu.mp b);have⟨r,_,k⟩:=d y (Qu.mp i);rw[a,k]at e;cases e;have:=h.mat.inj x y l (Qu.mp b) (Qu.mp i) a k;exact (V6 q this).elim
 have:=ZaO o fun x b=>by
  obtain⟨c,f,rfl⟩:=Q6.mp b;have⟨l,m,a⟩:=d c (Qu.mp f);rw[a];exact Qu.mpr m
 rw[Qd,QU,QU]at this;exact (V7 this s).elim
def JT (h:Mat n cost row S):Sea n cost row (YF n cost row none (JP S)) (fun _=>0) 0:=by
 have e:∀ {c},c<n->c∈unr n (JP S).re:=fun {c} a=>Wf.mpr ⟨Qu.mpr a,rfl⟩;have f:∀ {c},c<n->(YF n cost row none (JP S)).sp c=some _/\(YF n cost row none (JP S)).cf c=none:=fun {c} a=>by
  unfold YF Y9;simp only[e a,decide_true,RL];exact⟨rfl,rfl⟩
 refine⟨⟨h.feas,h.tight,h.inj,h.all⟩,fun c _ a=>(by cases a),fun c a _=>?_,fun c _ a=>by cases a⟩;obtain⟨i,g⟩:=f a;refine⟨_,row,i,by rw[g];rfl,.inl rfl,rfl,fun j t=>?_,fun b o=>bp⟩;rcases t with rfl | ⟨d,_,q,_⟩
 exact Uu _;cases q
end
section
variable {n row:VC} {cost:VC->VC->VN} {S:Pst} {step:VN} {rk:VC->VC} {t:VC}
def JW (h:Sea n cost row S rk t) (w:row<n):(Yo n row step S).re=S.re/\(Yo n row step S).ra=S.ra/\(Yo n row step S).cf=S.cf /\
  (∀ r,Tree n row S r->(Yo n row step S).rp r=S.rp r+step)/\(∀ r,¬ Tree n row S r->(Yo n row step S).rp r=S.rp r) /\
  (∀ c,c<n->S.re c=true->(Yo n row step S).cp c=S.cp c-step)/\(∀ c,c<n->S.re c=false->(Yo n row step S).cp c=S.cp c) /\
  (∀ c,c<n->S.re c=false->∀ k,S.sp c=some k->(Yo n row step S).sp c=some (k-step)):=by
 have f:∀ c,c<n->S.re c=true->∃ r,S.ra c=some r:=fun c a b=>let ⟨r,_,e⟩:=h.hre c a b;⟨r,e⟩;have g:¬ ∃ c,c<n/\S.re c=true/\S.ra c=some row:=fun⟨c,a,_,m⟩=>Q2 _ (h.mat.tight c row a m).1;obtain⟨s,l,p,_⟩:=Y5 step _ n;have rp:=ZjX (step:=step) (S:={S with rp:=fup S.rp row (S.rp row+step)}) h.mat.inj f n (Qh _);have cp:=ZjY (step:=step) (S:={S with rp:=fup S.rp row (S.rp row+step)}) f n (Qh _);refine⟨s,l,p,fun r i=>?_,fun r i=>?_,fun c a b=>(cp c).1 a b,fun c a b=>(cp c).2 fun _=>b,fun c a b k o=>((ZjW (step:=step) (S:={S with rp:=fup S.rp row (S.rp row+step)}) n (Qh _)) c).1 a b k o⟩;by_cases z:r=row
 subst z;refine((rp r).2 g).trans ?_;show fup S.rp r _ r=_;rw[ZR];rcases i with q | q
 lia;refine((rp r).1 q).trans ?_;show fup S.rp row _ r+step=_;rw[ZT _ _ z];refine((rp r).2 fun q=>i (.inr q)).trans ?_;show fup S.rp row _ r=_;rw[ZT _ _ fun z=>i (.inl z)]
def Zb8 (h:Sea n cost row S rk t) (hr:row<n) (hN:IsNear n S c k):Rea n cost row (Yk n row c k S) (fup rk c t) (t+1) c:=by
 obtain⟨Y,B,U,hcm⟩:=hN;obtain⟨f1,f2,f3,f4,f5,f6,f7,f8⟩:=JW (step:=k) h hr;obtain⟨k0,r0,s1,s2,V,s4,s5,s6⟩:=h.sp c Y B;rw[U]at s1;cases s1;have k_nn:0<=k:=by exact s4▸h.mat.feas r0 c (V.lt h.mat hr) Y
 generalize x:Yo n row k S=G at *;have l:(Yk n row c k S).ra=S.ra:=by unfold Yk;rw[x];omega
 have u:(Yk n row c k S).cf=S.cf:=by unfold Yk;rw[x];omega
 have f:(Yk n row c k S).re=fup S.re c true:=by unfold Yk;rw[x];show fup G.re c true=_;grind
 have esp:(Yk n row c k S).sp=G.sp:=by unfold Yk;rw[x]
 have g:∀ r d,red cost (Yk n row c k S) r d=red cost G r d:=fun r d=>by unfold Yk;rw[x];rfl
 have H:∀ {r d},d<n->Tree n row S r->S.re d=true->red cost G r d=red cost S r d:=fun {r d} o v a=>by
  unfold red;rw[f4 r v,f6 d o a];lia
 have A:∀ {r d},d<n->Tree n row S r->S.re d=false->red cost G r d=red cost S r d-k:=fun {r d} o v a=>by
  unfold red;rw[f4 r v,f7 d o a];lia
 have Z:∀ {r d},d<n->¬ Tree n row S r->S.re d=true->red cost G r d=red cost S r d+k:=fun {r d} o v a=>by
  unfold red;rw[f5 r v,f6 d o a];lia
 have P:∀ {r d},d<n->¬ Tree n row S r->S.re d=false->red cost G r d=red cost S r d:=fun {r d} o v a=>by
  unfold red;simp_all
 have p:∀ {r},Tree n row S r->Tree n row (Yk n row c k S) r:=fun {r} v=>by
  rcases v with q | ⟨d,O,C,F⟩
  exact .inl q
  refine .inr ⟨d,O,?_,bp⟩;rw[f];by_cases z:d=c
  simp_all
  exact ZT _ _ z▸C
 have I:∀ {r},Tree n row (Yk n row c k S) r->(∀ q,S.ra c=some q->r≠q)->Tree n row S r:=fun {r} v R=>by
  rcases v with q | ⟨d,O,C,F⟩
  exact .inl q
  rw[l]at F;rw[f]at C;by_cases z:d=c
  rw[z]at F;exact VM rfl (R r F)
  rw[ZT _ _ z]at C;exact .inr ⟨d,O,C,F⟩
 refine⟨⟨fun i j hi s=>?_,fun j i s e=>?_,by exact l▸h.mat.inj,fun i hi=>by exact l▸h.mat.all i hi⟩,Y,by rw[f,ZR],fun d o a m=>?_,fun d o a=>?_,fun d o a=>?_⟩
 rw[g];have q:=h.mat.feas i j hi s;by_cases N:Tree n row S i
 cases w:S.re j with
 | true=>exact H s N w▸q
 | false =>
  rw[A s N w];obtain⟨k',_,J,_,_,_,W,_⟩:=h.sp j s w;obtain⟨k2,Q,D,_⟩:=hcm j s w;rw[J]at Q;cases Q;have:=W i N;lia
 cases w:S.re j with
 | true=>rw[Z s N w];exact Nb q k_nn
 | false=>exact P s N w▸q
 rw[l]at e;obtain⟨J,D⟩:=h.mat.tight j i s e;refine⟨J,?_⟩;rw[g];cases w:S.re j with
 | true=>exact H s (.inr ⟨j,s,w,e⟩) w▸D
 | false =>
  rw[P s ?_ w]
  exact D
  rintro(z | ⟨d,O,C,F⟩)
  exact (V6 J z).elim
  have:=h.mat.inj d j i O s F e;rw[this,w]at C;cases C
 rw[f,ZT _ _ m]at a;exact l▸h.hre d o a
 have m:d≠c:=fun z=>by rw[z,f,ZR]at a;cases a
 rw[f,ZT _ _ m]at a;apply La;intros;obtain⟨kd,r,J,D,T,X,W,g6⟩:=h.sp d o a;refine⟨kd-k,r,by exact esp▸f8 d o a kd J,by rw[l,u];exact D,p T,by rw[g,A o T a,X],fun r' v R=>?_,fun b E=>?_⟩
 have L:=I v (by rw[l]at R;exact R);rw[g,A o L a];have:=W r' L;lia
 rw[u]at E;obtain⟨K,y⟩:=g6 b E;refine⟨K,?_⟩;rw[f];by_cases z:b=c
 rw[z,ZR]
 exact ZT _ _ z▸y
 by_cases m:d=c
 subst m;refine⟨by rw[ZR];exact Kx,r0,by rw[l,u];exact s2,p V,by rw[g,A o V B,s4];lia,fun b E=>?_⟩;rw[u]at E;obtain⟨K,y⟩:=s6 b E;have z:b≠d:=fun z=>by rw[z,B]at y;cases y
 refine⟨K,by rw[f,ZT _ _ z];exact y,?_⟩;rw[ZT _ _ z,ZR];exact(h.rt b K y).1
 rw[f,ZT _ _ m]at a;apply La;intros;obtain⟨g0,r,J,D,T,X⟩:=h.rt d o a;refine⟨by rw[ZT _ _ m];exact Kz g0,r,by rw[l,u];exact J,p D,by rw[g,H o D a];exact T,fun b E=>?_⟩;rw[u]at E;obtain⟨K,y,q3⟩:=X b E;have z:b≠c:=fun z=>by rw[z,B]at y;cases y
 exact⟨K,by rw[f,ZT _ _ z];exact y,by rw[ZT _ _ z,ZT _ _ m];exact q3⟩
def Zbo (h:Rea n cost row S rk t c) (m:S.ra c=some r):Sea n cost row (YF n cost r (some c) S) rk t:=by
 have E:Tree n row S r:=.inr ⟨c,h.hc,h.rc,m⟩;have p:∀ {d},d<n->S.re d=false->d∈unr n S.re:=fun {d} i a=>by
  exact Wf.mpr ⟨Qu.mpr i,by rw[a];rfl⟩
 have o:∀ {d},S.re d=true->d∉unr n S.re:=fun {d} a z=>by
  unfold unr at z
  simp_all
 refine⟨⟨h.mat.feas,h.mat.tight,h.mat.inj,h.mat.all⟩,fun d i a=>?_,fun d i a=>?_,fun d i a=>?_⟩
 by_cases z:d=c
 rw[z];exact⟨r,(h.mat.tight c r h.hc m).1,m⟩
 exact h.hre d i a z
 have f:S.re d=false:=a;apply La;intros;obtain⟨x,u,w,B,v,s,A,F⟩:=h.sp d i f;cases l:YS (S.sp d) (red cost S r d)with
 | true =>
  have g:(YF n cost r (some c) S).sp d=some (red cost S r d)/\(YF n cost r (some c) S).cf d=some c:=by
   unfold YF Y9;simp only[p i f,decide_true,RL,l];simp
  refine⟨_,r,g.1,by rw[g.2];trivial,E,rfl,fun k j=>?_,fun b e=>?_⟩
  by_cases z:k=r
  exact z▸Uu _
  have q:=A k j (fun q e=>by rw[m]at e;cases e;exact z);rw[w]at l;have:=MC l;show red cost S r d<=red cost S k d;lia
  rw[g.2]at e;cases e;exact⟨h.hc,h.rc⟩
 | false =>
  have g:(YF n cost r (some c) S).sp d=S.sp d/\(YF n cost r (some c) S).cf d=S.cf d:=by
   unfold YF Y9;simp only[l,Bool.and_false];simp
  refine⟨x,u,bp,by rw[g.2];trivial,v,s,fun k j=>?_,fun b e=>?_⟩
  by_cases z:k=r
  rw[w]at l;have:=of_decide_eq_false l;rw[z];show x<=red cost S r d;exact Bl this
  exact A k j (fun q e=>by rw[m]at e;cases e;exact z)
  rw[g.2]at e;exact F b e
 have f:S.re d=true:=a;have g:(YF n cost r (some c) S).cf d=S.cf d:=(Zct (o f)).2;apply La;intros;obtain⟨C,u,w,B,v,s⟩:=h.rt d i f;refine⟨C,u,by rw[g];trivial,B,v,fun b e=>?_⟩;rw[g]at e;exact s b e
end
section
variable {n row:VC} {cost:VC->VC->VN} {S:Pst} {rk:VC->VC} {t c:VC}
def ZbP:∀ {o} {l},ChL cf o l->∀ x∈l,∀ b,cf x=some b->b∈l
 | none,[],_,x,hx,_,_=>by simp at hx
 | some c,d::l,h,x,hx,b,e=>by
  obtain⟨rfl,h2⟩:=h;rcases Qs.mp hx with rfl | hx
  rw[e]at h2;match l,h2 with
  | d2::l2,h3 =>
   obtain⟨rfl,_⟩:=h3;simp
  exact Qm _ (ZbP h2 x hx b e)
def ch_prev:∀ {o} {l},ChL i o l->∀ j∈l,o=some j\/∃ x∈l,i x=some j
 | none,[],_,x,b=>by simp at b
 | some c,d::l,h,j,a=>by
  obtain⟨rfl,g⟩:=h;rcases Qs.mp a with rfl | a
  simp;rcases ch_prev g j a with e | ⟨x,b,e⟩
  exact .inr ⟨c,Qo,e⟩;exact .inr ⟨x,Qm _ b,e⟩
def ZhZ:∀ {o} {l},ChL a o l->o≠none->∃ x∈l,a x=none
 | none,[],_,h=>VM rfl h
 | some c,d::l,h,_=>by
  obtain⟨rfl,f⟩:=h;cases e:a c with
  | none=>exact⟨c,Qo,e⟩
  | some b =>
   obtain⟨x,g,q⟩:=ZhZ f (by rw[e];simp);exact⟨x,Qm _ g,q⟩
def ZkA:∀ {o} {l},ChL j o l->l.Nodup->∀ x∈l,∀ y∈l,j x=j y->x=y
 | none,[],_,_,x,r,_,_,_=>by simp_all
 | some c,d::l,h,C,x,r,y,t,e=>by
  obtain⟨rfl,k⟩:=h;obtain⟨B,a⟩:=Q9.mp C
  -- what the head leads to is led to by nothing of the tail
  have p:∀ z∈l,j c≠j z:=fun z g q=>by
   cases s:j c with
   | none =>
    rw[s]at k;match l,k with
    | [],_=>simp_all
   | some b =>
    rw[s]at k q;match l,k,a,g with
    | E::v,w,m,g =>
     obtain⟨rfl,n⟩:=w;obtain⟨A,F⟩:=Q9.mp m;rcases Qs.mp g with rfl | g
     rw[←q]at n;match v,n with
     | I::G,D =>
      obtain⟨rfl,_⟩:=D
      simp_all
     exact A (ZbP n z g b q.symm)
  rcases Qs.mp r with H | f
  rcases Qs.mp t with u | i
  exact K9 H u
  simp_all
  rcases Qs.mp t with u | i
  rw[u]at e;exact VM e.symm (p x f);exact ZkA k a x f y i e
def ZdO:∀ {o} {l} {ra},ChL f o l->l.Nodup->(∀ x∈l,Xg f row l ra x=Zeg row ra (f x))/\∀ x,x∉l->Xg f row l ra x=ra x
 | none,[],_,_,_=>⟨fun x a=>by simp_all,fun _ _=>rfl⟩
 | some c,d::l,ra,h,m=>by
  obtain⟨rfl,k⟩:=h;obtain⟨g,i⟩:=Q9.mp m;obtain⟨n,j⟩:=ZdO k i;refine⟨fun x a=>?_,fun x a=>?_⟩;rcases Qs.mp a with rfl | a
  show Xg f row l _ x=_;rw[j x g,ZR];show Xg f row l _ x=_;rw[n x a];cases e:f x with
  | none=>rfl
  | some b =>
   have p:=ZbP k x a b e;exact ZT _ _ fun z=>g bp
  show Xg f row l _ x=_;exact j x (fun z=>a (Qm _ z))▸ZT _ _ fun z=>a (by rw[z];simp)
def Zj7 (h:∀ d,d<n->S.re d=true->∀ b,S.cf d=some b->b<n/\S.re b=true/\rk b<rk d):∀ (m d),rk d<=m->d<n->S.re d=true->∃ l,ChL S.cf (some d) l/\(∀ x∈l,x<n/\S.re x=true/\rk x<=rk d)/\l.Nodup:=by
 intro m;induction m with
 | zero =>
  intro d k f c;cases e:S.cf d with
  | none=>exact⟨[d],⟨rfl,by exact e▸NN⟩,fun x a=>bp,bo⟩
  | some b =>
   have:=(h d f c b e).2.2;omega
 | succ m o =>
  intro d k f c;cases e:S.cf d with
  | none=>exact⟨[d],⟨rfl,by exact e▸NN⟩,fun x a=>bp,bo⟩
  | some b =>
   obtain⟨t,p,w⟩:=h d f c b e;obtain⟨l,v,i,r⟩:=o b br t p;refine⟨d::l,⟨rfl,bp⟩,fun x a=>?_,Q9.mpr ⟨fun z=>by have:=(i d z).2.2;exact (V7 this w).elim,r⟩⟩;rcases Qs.mp a with rfl | a
   exact⟨f,c,Qh _⟩;obtain⟨q,s,u⟩:=i x a;exact⟨q,s,br⟩
def Zei (h:Rea n cost row S rk t c) (T:S.ra c=none):∃ l,ChL S.cf (some c) l/\(∀ x∈l,x<n)/\Mat n cost (row+1) {S with ra:=Xg S.cf row l S.ra}:=by
 refine Lp (Zj7 (S:=S) (rk:=rk) (fun d O R b e=>let ⟨_,_,_,_,_,q⟩:=h.rt d O R;q b e) _ c (Qh _) h.hc h.rc) fun l v o J=>?_;obtain⟨w,D⟩:=ZdO (row:=row) (ra:=S.ra) v J;have a:∀ {x i},Zeg row S.ra (S.cf x)=some i->x∈l->(S.cf x=none/\i=row)\/∃ b,S.cf x=some b/\b∈l/\S.ra b=some i/\i<row:=fun {x i} e f=>by
  cases F:S.cf x with
  | none=>rw[F]at e;cases e;simp
  | some b =>
   rw[F]at e;have u:=ZbP v x f b F;exact .inr ⟨b,rfl,u,e,(h.mat.tight b i (o b u).1 e).1⟩
 refine⟨l,v,fun x f=>(o x f).1,⟨h.mat.feas,fun j i E e=>?_,fun x y i f s k g=>?_,fun i V=>?_⟩⟩
 have e:Xg S.cf row l S.ra j=some i:=e;show i<row+1/\red cost S i j=0;by_cases z:j∈l
 rw[w j z]at e;obtain⟨_,r,L,_,Q,_⟩:=h.rt j E (o j z).2.1;rw[e]at L;cases L;refine⟨?_,Q⟩;rcases a e z with ⟨_,q⟩ | ⟨_,_,_,_,q⟩ <;> lia
 rw[D j z]at e;obtain⟨_⟩:=h.mat.tight j i E e;lia
 have k:Xg S.cf row l S.ra x=some i:=k;have g:Xg S.cf row l S.ra y=some i:=g;have A:∀ {x y},x<n->y<n->x∈l->y∉l->Xg S.cf row l S.ra x=some i->Xg S.cf row l S.ra y=some i->False:=fun {x y} f s m p k g=>by
  rw[w x m]at k;rw[D y p]at g;rcases a k m with ⟨_,q⟩ | ⟨b,_,u,q,_⟩
  have:=(h.mat.tight y i s g).1;exact (V6 this q).elim
  have:=h.mat.inj b y i (o b u).1 s q g
  simp_all
 by_cases m:x∈l <;> by_cases p:y∈l
 rw[w x m]at k;rw[w y p]at g;refine ZkA v J x m y p ?_;rcases a k m with ⟨K,q⟩ | ⟨b,K,u,q,U⟩ <;> rcases a g p with ⟨B,H⟩ | ⟨I,B,G,H,M⟩
 simp_all
 exact (V6 M q).elim
 exact (V6 U H).elim
 rw[K,B,h.mat.inj b I i (o b u).1 (o I G).1 q H]
 exact(A f s m p k g).elim
 exact(A s f p m g k).elim
 rw[D x m]at k;rw[D y p]at g;exact h.mat.inj x y i f s k g
 show ∃ j,j<n/\Xg S.cf row l S.ra j=some i;by_cases z:i=row
 obtain⟨x,f,e⟩:=ZhZ v bo;refine⟨x,(o x f).1,?_⟩;rw[w x f,e,z];rfl
 obtain⟨j,E,e⟩:=h.mat.all i (Ky V z);by_cases P:j∈l
 rcases ch_prev v j P with q | ⟨x,f,q⟩
 simp_all
 refine⟨x,(o x f).1,?_⟩;rw[w x f,q];exact e
 grind
inductive Sr (n:VC) (cost:VC->VC->VN) (row:VC) (S:Pst):VC->VC->Pst->Prop
 | start {c:VC} {k:VN} (h:IsNear n (YF n cost row none (JP S)) c k):Sr n cost row S 0 c (Yk n row c k (YF n cost row none (JP S)))
 | step {m c r d:VC} {S1:Pst} {k:VN} (h:Sr n cost row S m c S1) (e:S1.ra c=some r) (h2:IsNear n (YF n cost r (some c) S1) d k):Sr n cost row S (m+1) d (Yk n row d k (YF n cost r (some c) S1))
def Sr.det:∀ {m c g} {i f},Sr n cost row S m c i->Sr n cost row S m g f->c=g/\i=f:=by
 intro m;induction m with
 | zero =>
  intro c g i f h d;cases h with
  | start h =>
   cases d with
   | start d =>
    obtain⟨rfl,rfl⟩:=h.det d;simp
 | succ m p =>
  intro c g i f h d;cases h with
  | step a e q =>
   cases d with
   | step b l o =>
    obtain⟨rfl,rfl⟩:=p a b;rw[e]at l;cases l;obtain⟨rfl,rfl⟩:=q.det o;simp
def Sr.down (h:Sr n cost row S (m+1) c f):∃ d b r,Sr n cost row S m d b/\b.ra d=some r:=by
 cases h with
 | step a e _=>exact⟨_,_,_,a,e⟩
def Sr.downs (h:Sr n cost row S m c k) (l:j<m):∃ d a r,Sr n cost row S j d a/\a.ra d=some r:=by
 induction m generalizing c k with
 | zero=>exact (K1 l).elim
 | succ m i =>
  obtain⟨d,a,r,b,e⟩:=h.down;by_cases z:j=m
  subst z;exact⟨d,a,r,b,e⟩;exact i b (Ky l z)
def PRow (n:VC) (cost:VC->VC->VN) (row:VC) (S S':Pst):Prop:=∃ m c S1 l,Sr n cost row S m c S1/\S1.ra c=none/\ChL S1.cf (some c) l/\S'={S1 with ra:=Xg S1.cf row l S1.ra}
def PRow.det (h:PRow n cost row S o) (h':PRow n cost row S k):o=k:=by
 obtain⟨m,c,T,l,f,w,q,rfl⟩:=h;obtain⟨g,v,s,t,a,u,j,rfl⟩:=h';have e:m=g:=by
  rcases WS m g with z | z | z
  obtain⟨d,i,r,b,p⟩:=a.downs z;obtain⟨rfl,rfl⟩:=f.det b
  simp_all
  exact z;obtain⟨d,i,r,b,p⟩:=f.downs z;obtain⟨rfl,rfl⟩:=a.det b
  simp_all
 subst e;obtain⟨rfl,rfl⟩:=f.det a;rw[ChL.det q j]
def Sr.rea (g:Mat n cost row S) (a:row<n) (h:Sr n cost row S m c d):∃ rk t,Rea n cost row d rk t c:=by
 induction h with
 | start h=>exact⟨_,_,Zb8 (JT g) a h⟩
 | step _ e i f =>
  obtain⟨rk,t,b⟩:=f;exact⟨_,_,Zb8 (Zbo b e) a i⟩
def PRow.mat (d:Mat n cost row S) (f:row<n) (h:PRow n cost row S i):Mat n cost (row+1) i:=by
 obtain⟨m,c,T,l,j,e,a,rfl⟩:=h;obtain⟨o,t,g⟩:=j.rea d f;obtain⟨k,b,_,p⟩:=Zei g e;rw[ChL.det a b];omega
inductive PAll (n:VC) (cost:VC->VC->VN) (S:Pst):VC->Pst->Prop
 | zero:PAll n cost S 0 S
 | succ {i:VC} {S1 S2:Pst} (h:PAll n cost S i S1) (h2:PRow n cost i S1 S2):PAll n cost S (i+1) S2
def PAll.det:∀ {i} {e d},PAll n cost S i e->PAll n cost S i d->e=d:=by
 intro i;induction i with
 | zero =>
  intro e d h f;cases h;cases f;rfl
 | succ i l =>
  intro e d h f;cases h with
  | succ a k =>
   cases f with
   | succ b j =>
    obtain rfl:=l a b;exact k.det j
noncomputable def S00:Pst:=⟨fun _=>0,fun _=>0,fun _=>none,fun _=>none,fun _=>none,fun _=>false⟩
def PAll.mat (o:∀ i j,i<n->j<n->0<=cost i j):∀ {i} {b},i<=n->PAll n cost S00 i b->Mat n cost i b:=by
 intro i b a h;induction h with
 | zero =>
  refine⟨fun i j a k=>?_,fun j i _ e=>(by cases e),fun c d r _ _ e=>(by cases e),fun i a=>VM a (Wn _)⟩;have:=o i j a k;show 0<=cost i j-0-0;lia
 | succ _ l m=>exact l.mat (m (K4 a)) a
end
def ZeU (h:TbOk i H) (B:Btl l H b) (j:∀ x u,x∈l->H x=some u->(∃ ys,u= .lst ys)\/∃ c d f,u= .ins c d f):TbOk i b:=by
 have a:∀ {x u},H x=some u->(∀ ys,u≠.lst ys)->(∀ c d f,u≠.ins c d f)->b x=some u:=fun {x u} e m k=>B x u fun z=>by
  rcases j x u z e with ⟨ys,q⟩ | ⟨c,d,f,q⟩
  simp_all
  simp_all e
 rcases h with z | ⟨c,z,g⟩
 exact .inl (a z fun _ y=>by grind fun _ _ _ y=>by grind);exact .inr ⟨c,a z fun _ y=>by grind fun _ _ _ y=>by grind,a g (fun _ y=>by cases y) fun _ _ _ y=>by cases y⟩
def PairS.less (h:PairS C m H a A n cost v) (f:c<=m):PairS C c H a A n cost v :=
 ⟨h.ob,h.lc,fun k b=>h.lk k (Sm f b),h.lm,h.hc,h.rl,h.hr,fun k b=>h.hv k (Sm f b),fun k e b d=>h.nd k e (Sm f b) (Sm f d),fun k b=>h.nc k (Sm f b),fun k b=>h.nr k (Sm f b)⟩
def Ziy (n row c) (k) (S):(Yk n row c k S).re=fup S.re c true:=by
 unfold Yk Yo;rw[(Y5 _ _ n).1]
def Zmm (g:c<n) (f:b c=false):(unr n (fup b c true)).length<(unr n b).length:=by
 have e:unr n (fup b c true)=(unr n b).filter fun x=>decide (x≠c):=by
  unfold unr;rw[List.filter_filter];refine Rv fun x _=>?_;by_cases z:x=c
  subst z;rw[ZR];simp;rw[ZT _ _ z];simp[z]
 exact e▸List.length_filter_lt_length_iff_exists.mpr ⟨c,Wf.mpr ⟨Qu.mpr g,by rw[f];rfl⟩,bo⟩
section
variable {P:Oh} {w:Ol} {K:VB} {mg:VI->VE VG} {base:Nu} {C Pt:VH} {cd:VG}
abbrev ZpA:VA VI:=["self","row","column"]
def scRowP:Zp ZpA ["self","row"] (Zf (Yu 1)):=⟨rfl,rfl,rfl,bh,rfl,bh,bh⟩
def ZjM (C Pt:VH):Sp:=fun vs H Q _=>∃ (a:VH) (A:Adr) (n:VC) (cost:VC->VC->VN) (S:Pst) (r:VC),vs=[.ref a,.int r]/\n<=1000/\r<n/\A.fs.length<=900/\PairS C 3 H a A n cost (enc S)/\TbOk Pt H/\Mat n cost r S /\
 ∀ A' S' H',ZnR A A'->PRow n cost r S S'->Btl [Pt,a,A.b 0,A.b 1,A.b 2] H H'->TbOk Pt H'->PairS C 3 H' a A' n cost (enc S')->Q .non H'
def Zls (D:HasN K C "pair_row" "Pairing.pair_row" (Yu 1) ["self","row"] cd) (T:PgC K mg C) (g39_:MOk P w K mg base C 2 "start_search" ["self"] (ZfP C)) (g29_:MOk P w K mg base C 2 "look_from" ["self","row","before"] (ZjO C))
  (g36_:MOk P w K mg base C 2 "reach_nearest" ["self","row"] (ZfQ C Pt)) (g16_:MOk P w K mg base C 2 "pair_back" ["self","row","last"] (Zf3 C)):MOk P w K mg base C 3 "pair_row" ["self","row"] (ZjM C Pt):=by
 refine D.ok scRowP (fun vs H Q E h=>?_) (fun f A outer s vs H Q E hr h=>?_)
 obtain⟨a,A,n,b,S,r,rfl,_⟩:=h;rfl
 apply Lb;intros;obtain⟨a,Ad,n,b,S,r,rfl,hn,hrn,hfl,hP,ht,hM,k⟩:=h;refine ⟨_,(Zc (Z4 (Zlk g39_ hr T.cl (pv 0)))
  (Zc (Z4 (Zll g29_ hr T.cl (pv 0) (Za (pv 1) (Za Xp Ze))))
  (Zc (Zm 2 scRowP.nd (Zll g36_ hr T.cl (pv 0) (Za (pv 1) Ze)))
  (Zc (Y6 VP (Zt ZgK (ZA ix_list (ZQ (pv 0) rfl) (pv 2)) Xp (Zz _))
   (Zc (Z4 (Zll g29_ hr T.cl (pv 0) (Za (ZA ix_list (ZQ (pv 0) rfl) (pv 2)) (Za (pv 2) Ze))))
   (Zj (Zm 2 scRowP.nd (Zll g36_ hr T.cl (pv 0) (Za (pv 1) Ze))))))
  (Zj (Z4 (Zll g16_ hr T.cl (pv 0) (Za (pv 1) (Za (pv 2) Ze))))))))),⟨.ref a,rfl,a,_,_,rfl,hP.ob,hP.lm _ be,a,Ad,n,b,S,rfl,hn,hfl,hP,fun g H1 up1 B1 nb P1=>?_⟩⟩;refine Lj (id up1) fun ud uc ur ub _=>?_;have t1:TbOk Pt H1:=ZeU ht B1 fun x u hx e=>.inr (by rw[Qq.mp hx,hP.ob]at e;cases e;simp);have isl:∀ {H4:Hp} {i:Pst},PairS C 6 H4 a g n b (enc i)->∀ {l:VA VH},(∀ x∈l,∃ j,j<6/\x=g.b j)->∀ x u,x∈l->H4 x=some u->(∃ ys,u= .lst ys)\/∃ c d f,u= .ins c d f:=fun {H4 i} P4 {l} hl x u hx e=>by
  obtain⟨j,hj,rfl⟩:=hl x hx;rw[P4.hv j hj]at e;cases e;simp
 have LL:∀ {l:VA VH},(∀ x∈l,x=Pt\/∃ j,j<6/\x=g.b j)->∀ x∈l,x∈[Pt,g.b 0,g.b 1,g.b 2,g.b 3,g.b 4,g.b 5]:=fun {l} hl x hx=>by
  rcases hl x hx with z | ⟨j,hj,z⟩
  rw[z];simp
  match j,hj with
  | 0,_=>rw[z];simp
  | 1,_=>rw[z];simp
  | 2,_=>rw[z];simp
  | 3,_=>rw[z];simp
  | 4,_=>rw[z];simp
  | 5,_=>rw[z];simp
 -- reach behind a look
 have go:∀ {H4 H5:Hp} {i:Pst} {q:VC} {bf:VE VC},PairS C 6 H4 a g n b (enc i)->TbOk Pt H4->(∃ rk t,Sea n b r (YF n b q bf i) rk t)->Btl [g.b 3,g.b 4] H4 H5 ->
   TbOk Pt H5/\(∀ c,c<n->(YF n b q bf i).re c=true->∃ r,r<n/\(YF n b q bf i).ra c=some r)/\(∀ c,c<n->(YF n b q bf i).re c=false->∃ k,(YF n b q bf i).sp c=some k)/\(∃ c,c<n/\(YF n b q bf i).re c=false) /\
   ∀ H6,Btl [Pt,g.b 0,g.b 1,g.b 3,g.b 5] H5 H6->Btl [Pt,g.b 0,g.b 1,g.b 2,g.b 3,g.b 4,g.b 5] H4 H6:=by
  intro H4 H5 i q bf P4 t4 hS B5;obtain⟨rk,t,hS⟩:=hS;have t5:=ZeU t4 B5 (isl P4 fun x hx=>by
   simp only[Qs,Q7,or_false]at hx;rcases hx with z | z
   exact⟨3,be,z⟩
   exact⟨4,be,z⟩)
  refine⟨t5,fun c h1 h2=>?_,fun c h1 h2=>?_,Zlx hS hrn,fun H6 B6=>(B5.mono (LL ?_)).trans (B6.mono (LL ?_))⟩
  obtain⟨r1,h3,h4⟩:=hS.hre c h1 h2;exact⟨r1,Kh hrn h3,h4⟩
  obtain⟨_⟩:=hS.sp c h1 h2
  simp_all
  intro x hx;simp only[Qs,Q7,or_false]at hx;rcases hx with z | z
  exact .inr ⟨3,be,z⟩
  exact .inr ⟨4,be,z⟩
  intro x hx;simp only[Qs,Q7,or_false]at hx;rcases hx with z | z | z | z | z
  simp_all
  exact .inr ⟨0,be,z⟩
  exact .inr ⟨1,be,z⟩
  exact .inr ⟨3,be,z⟩
  exact .inr ⟨5,be,z⟩
 refine ⟨.ref a,rfl,Pf a _ _ ⟨rfl,P1.ob,P1.lm _ be,_,rfl,Pi a g n b _ r none ⟨rfl,hn,hrn,P1,fun H2 B2 P2=>⟨.ref a,rfl,a,_,_,rfl,P2.ob,P2.lm _ be,_,rfl,?_⟩⟩⟩⟩;refine Lj (go P1 t1 ⟨_,_,JT hM⟩ B2) fun y1 y2 y3 y4 y5=>?_;refine Pj a g n b _ r ⟨rfl,hn,hrn,P2,y1,y2,y3,y4,fun c kk H3 hN B3' t3 P3=>?_⟩;refine⟨fun m σ H4=>∃ (j d:VC) (i:Pst),σ=[some (.ref a),some (.int r),some (.int (d:VC))]/\Sr n b r S j d i/\PairS C 6 H4 a g n b (enc i)/\TbOk Pt H4/\Btl [Pt,g.b 0,g.b 1,g.b 2,g.b 3,g.b 4,g.b 5] H1 H4/\m=(unr n i.re).length,
  ⟨_,0,c,_,rfl,.start hN,P3,t3,(y5 H3 B3'),rfl⟩,?_⟩
 rintro m σ H4 ⟨j,d,i,rfl,hSr,P4,t4,B4,rfl⟩;obtain⟨rk,t,hR⟩:=hSr.rea hM hrn;have hd:=hR.hc;have v2:enc i 2 d=oN (i.ra d):=rfl;refine⟨.ref a,rfl,Pe a C _ _ _ ⟨rfl,P4.ob,T.cl,T.no 2 be,P4.lk 2 be,_,rfl,Pg _ _ _ _ ⟨rfl,rfl,SqL.of (P4.hv 2 be),YT _ hd,rfl,_,rfl,?_⟩⟩⟩;cases e:i.ra d with
 | some q =>
  have hq:q<n:=by have:=(hR.mat.tight d q hd e).1;lia
  refine Xu (by rw[v2,e];rfl) ⟨fun σ' H'=>∃ m',m'<(unr n i.re).length/\∃ (j d:VC) (i:Pst),σ'=[some (.ref a),some (.int r),some (.int (d:VC))]/\Sr n b r S j d i/\PairS C 6 H' a g n b (enc i)/\TbOk Pt H'/\Btl [Pt,g.b 0,g.b 1,g.b 2,g.b 3,g.b 4,g.b 5] H1 H'/\m'=(unr n i.re).length,fun _ _ z=>z,⟨.ref a,rfl,a,_,_,rfl,P4.ob,P4.lm _ be,.ref a,rfl,a,C,_,_,_,rfl,P4.ob,T.cl,T.no 2 be,P4.lk 2 be,_,rfl,_,_,_,_,rfl,rfl,SqL.of (P4.hv 2 be),(YT _ hd).trans (NA some (v2.trans (by rw[e];rfl:oN (i.ra d)= .int (q:VC)))),_,rfl,a,g,n,b,i,q,some d,rfl,hn,hq,P4,fun H5 B5 P5=>⟨.ref a,rfl,a,_,_,rfl,P5.ob,P5.lm _ be,_,rfl,?_⟩⟩⟩;refine Lj (go P4 t4 ⟨_,_,Zbo hR e⟩ B5) fun w1 w2 w3 w4 w5=>?_;refine Pj a g n b _ r ⟨rfl,hn,hrn,P5,w1,w2,w3,w4,fun c2 kk2 H6 hN2 B6 t6 P6=>⟨_,?_,j+1,c2,_,rfl,.step hSr e hN2,P6,t6,B4.trans (w5 H6 B6),rfl⟩⟩;rw[Ziy];exact Zmm hN2.1 hN2.2.1
 | none =>
  refine Lp (Zei hR e) fun l l1 l2 _=>?_;refine Ys (by rw[v2,e];rfl) ⟨.ref a,rfl,a,_,_,rfl,P4.ob,P4.lm _ be,_,rfl,_,rfl,a,g,n,b,i,r,d,l,rfl,hn,P4,l1,l2,fun H5 B5 P5=>k g _ H5 up1 ⟨j,d,i,l,hSr,e,l1,rfl⟩ (fun x u hx e2=>?_) (ZeU t4 B5 (isl P4 fun x hx=>⟨2,be,Qq.mp hx⟩)) (P5.less be)⟩;simp only[Qs,Q7,or_false,T5]at hx;obtain⟨x1,x2,x3,x4,x5⟩:=hx;have n3:∀ k,3<=k->k<6->x≠g.b k:=fun k h1 h2 z=>by rw[z,nb k h1 h2]at e2;cases e2
  have y2:=B4 x u (by
   simp only[Qs,Q7,or_false,T5];exact⟨x1,by exact ub 0 be▸x3,by exact ub 1 be▸x4,by exact ub 2 be▸x5,n3 3 be be,n3 4 be be,n3 5 be be⟩) (B1 x u (by simpa using x2) e2)
  exact B5 x u (by simp only[Qq];exact ub 2 be▸x5) y2
end
def Zan {K} {σ:L2.St} (T:PgC K mg C) (hn:n<=1000) (hσ:σ[0]?=some (some (.ref a))) (q:σ[1]?=some (some (.ref cst))) (hm:m<6) (x:V) {R:Hp->Prop} (g:PairS C m f a b n cost v1) (r:b.cst=cst) (hl:b.fs.length<=990)
  (kR:∀ i H2,i.dx=b.dx->i.cst=b.cst->i.rows=b.rows->(∀ k,k<m->i.b k=b.b k)->i.fs.length<=b.fs.length+1->Btl [a] f H2->f (i.b m)=none->PairS C (m+1) H2 a i n cost (fup v1 m fun _=>x)->R H2) :
  1<=Od/\∀ p,f p=none->∃ v,σ[1]?=some (some v)/\∃ z,∃ j:VC,[v]=[z]/\ZkD K z (upd f p (.lst [x])) j /\
     ∃ l o xs,V.ref p= .ref l/\V.int j= .int o/\upd f p (.lst [x]) l=some (.lst xs)/\-(2 ^ 63)<=o/\o<2 ^ 63/\xs.length*o.toNat<=Od/\∀ c,upd f p (.lst [x]) c=none->∃ v,σ[0]?=some (some v)/\∃ a' w dx fs,v= .ref a'/\upd (upd f p (.lst [x])) c (.lst (Qw o.toNat xs).flatten) a'=some (.ins w dx fs)/\Cls K w/\NoAttr K w (fnm m)/\fs.length<1000 /\
      R (upd (upd (upd f p (.lst [x])) c (.lst (Qw o.toNat xs).flatten)) a' (.ins w dx (XG (fnm m) (.ref c) fs))):=by
 refine⟨Zeq,fun p s=>⟨_,q,_,b.rows.length,rfl,.inl ⟨_,SqL.of (by rw[←r,Zi (Zh g.hc s)];exact g.hc),by rw[Qd]⟩,p,_,_,rfl,rfl,Zd,br,by rw[g.rl];lia,?_,fun c h=>?_⟩⟩
 rw[QX,g.rl];exact Zl (by simp;exact hn)
 have A:f c=none:=by
  by_cases z:c=p
  exact z▸s
  rw[Zi z]at h;exact h
 refine⟨_,hσ,Pg a C b.dx b.fs ⟨rfl,?_,T.cl,T.no m hm,V8 hl,?_⟩⟩
 rw[Zi (Zh g.ob A),Zi (Zh g.ob s)];exact g.ob
 rw[QX,g.rl,X9,Zdc];refine kR {b with fs:=XG (fnm m) (.ref c) b.fs,b:=fup b.b m c} _ rfl rfl rfl (fun k hk=>ZT _ _ (Ki hk)) ?_ (fun y u hy e=>?_) ?_ (g.field hm (fun _=>x) s h)
 show(XG _ _ _).length<=_;exact (YM (fnm m) (.ref c) b.fs)
 rw[Zi (fun z=>hy (by rw[z];simp)),Zi (Zh e A),Zi (Zh e s)];exact e
 show f (fup b.b m c m)=none;rw[ZR];exact A
section
variable {P:Oh} {w:Ol} {K:VB} {mg:VI->VE VG} {base:Nu} {C Pt:VH}
abbrev Zoz:VA VI:=["self","costs","row"]
def scInitP:Zp Zoz ["self","costs"] (Zf (Yu 0)):=⟨rfl,rfl,rfl,bh,rfl,bh,bh⟩
structure ZkE (H:Hp) (cst:VH) (rows:VA VH) (n:VC) (cost:VC->VC->VN):Prop where
 hc:H cst=some (.lst (rows.map V.ref))
 rl:rows.length=n
 hr:∀ i,i<n->H (rows.getD i 0)=some (.lst (arr n fun j=>.int (cost i j)))
def Zf0 (C Pt:VH):Sp:=fun vs H Q _=>∃ (a dx cst:VH) (rows:VA VH) (n:VC) (cost:VC->VC->VN),vs=[.ref a,.ref cst]/\H a=some (.ins C dx [])/\ZkE H cst rows n cost/\n<=200/\(∀ i j,i<n->j<n->0<=cost i j)/\TbOk Pt H /\
 ∀ A S H',PAll n cost S00 n S->Btl [Pt,a] H H'->TbOk Pt H'->PairS C 3 H' a A n cost (enc S)->Q .non H'
def ZiT (D:HasJ K C "Pairing.__init__" (Yu 0) ["self","costs"]) (B:Blt mg) (T:PgC K mg C) (F:MOk P w K mg base C 3 "pair_row" ["self","row"] (ZjM C S)):IOk0 P w K mg base C 4 ["self","costs"] (Zf0 C S):=by
 refine D.ok scInitP (fun vs H Q E h=>?_) (fun f cd A outer s vs H Q E hr h=>?_)
 obtain⟨a,q,b,rows,n,c,rfl,_⟩:=h;rfl
 apply Lb;intros;apply La;intros;obtain⟨a,q,b,rows,n,c,rfl,N,g,Y,hnn,ht,k⟩:=h;refine ⟨_,(Zc (JX (pv 0) (pv 1) rfl)
  (Zc (JX (pv 0) (Zo Xi (ZC (Za Zg Ze)) (Zk Zn rfl B.len ZG (Za (pv 1) Ze))) rfl)
  (Zc (JX (pv 0) (Zo Xi (ZC (Za Zg Ze)) (Zk Zn rfl B.len ZG (Za (pv 1) Ze))) rfl)
  (Zc (JX (pv 0) (Zo Xi (ZC (Za Xp Ze)) (Zk Zn rfl B.len ZG (Za (pv 1) Ze))) rfl)
  (Zj (Z1 VP rfl (ZY rfl B.range (Za (Zk Zn rfl B.len ZG (Za (pv 1) Ze)) Ze)) (Zw 2 scInitP.nd)
   (Zj (Z4 (Zll F hr T.cl (pv 0) (Za (pv 2) Ze)))))))))),⟨_,rfl,.ref a,rfl,a,C,q,_,rfl,N,T.cl,T.nc,bo,?_⟩⟩;have P0:PairS C 0 (upd H a (.ins C q (XG "costs" (.ref b) []))) a ⟨q,b,rows,fun _=>0,XG "costs" (.ref b) []⟩ n c (enc S00):=by
  have up:∀ {x W},H x=some (.lst W)->upd H a (.ins C q (XG "costs" (.ref b) [])) x=some (.lst W):=fun {x W} e=>by
   rw[Zi (Zdo e N bo)];omega
  refine⟨Zd,?_,fun k d=>VM d (Wn _),fun x o=>?_,up g.hc,g.rl,fun i y=>up (g.hr i y),fun k d=>VM d (Wn _),fun k _ d=>VM d (Wn _),fun k d=>VM d (Wn _),fun k d=>VM d (Wn _)⟩
  rfl
  show(XG _ _ _).lookup _=none;rw[Yr,if_neg]
  rfl
  intro z;subst z;revert o;decide +kernel
 have M:Btl [a] H (upd H a (.ins C q (XG "costs" (.ref b) []))):=YW (fun _ _ _ e=>e) bo;generalize upd H a (.ins C q (XG "costs" (.ref b) []))=H0 at *;refine Zan T (Bv Y) rfl rfl (m:=0) be (.int 0) P0 rfl (by show(XG _ _ _).length<=_;have:=YM ("costs" : VI) (.ref b) ([]:VA (VI×V));simp only[WR]at this;lia) fun A1 H1 d1 c1 r1 b1 l1 Z f1 P1=>?_;have l1':A1.fs.length<=2:=by
  assumption
 refine Zan T (Bv Y) rfl rfl (m:=1) be (.int 0) P1 c1 br fun A2 H2 d2 c2 r2 b2 l2 B2 f2 P2=>Zan T (Bv Y) rfl rfl (m:=2) be .non P2 (c2.trans c1) br fun G L d3 c3 r3 b3 l3 B3 f3 P3=>?_;have Ba:Btl [a] H L:=M.trans (Z.trans (B2.trans B3));have m:∀ {O Hy:Hp} {x:VH},Btl [a] O Hy->x≠a->Hy x=none->O x=none:=fun {O Hy x} B o z=>by
  cases e:O x with
  | none=>rfl
  | some u=>rw[B x u (by simpa using o) e]at z;omega
 have na1:A1.b 0≠a:=fun z=>by rw[z,P0.ob]at f1;grind
 have X:A2.b 1≠a:=fun z=>by rw[z,P1.ob]at f2;grind
 have na3:G.b 2≠a:=fun z=>by rw[z,P2.ob]at f3;grind
 have nb:∀ k,k<3->H (G.b k)=none:=fun k d=>by
  match k,d with
  | 0,_=>rw[b3 0 be,b2 0 be];exact m M na1 f1
  | 1,_=>exact b3 1 be▸m (M.trans Z) X f2
  | 2,_=>exact m (M.trans (Z.trans B2)) na3 f3
 have r:PairS C 3 L a G n c (enc S00):=P3.ext fun j hj i y=>by
  match j,hj with
  | 0,_=>rfl
  | 1,_=>rfl
  | 2,_=>rfl
 have t3:TbOk S L:=ZeU ht Ba fun x u o e=>.inr (by rw[Qq.mp o,N]at e;cases e;exact⟨_,_,_,rfl⟩);have I:L b=some (.lst (rows.map V.ref)):=Ba _ _ (by simp only[Qq];exact Zdo g.hc N (by intro z;cases z)) g.hc;refine⟨_,rfl,_,_,rfl,.inl ⟨_,SqL.of I,rfl⟩,?_⟩;rw[Qd,g.rl];refine ⟨_,rfl,br,br,Yy (fun i σ t=>∃ (z2:VE V) (p:Adr) (v:Pst),σ=[some (.ref a),some (.ref b),z2]/\p.fs.length<=4+3*i/\(∀ k,k<3->p.b k=G.b k)/\PAll n c S00 i v/\Btl [S,a] H t/\TbOk S t/\PairS C 3 t a p n c (enc v)) ⟨none,G,S00,rfl,br,fun _ _=>rfl,.zero,Ba.mono bo,t3,r⟩ ?_ ?_⟩
 rintro i σ t y ⟨z2,p,v,rfl,hl4,b4,l,B4,U,r⟩;have y:i<n:=by simpa using y
 rw[U2];refine ⟨.ref a,rfl,Pf a _ _ ⟨rfl,r.ob,r.lm _ be,_,rfl,Pj a p n c v i ⟨rfl,Bv Y,y,br,r,U,l.mat hnn (Vm y),fun A5 S5 H5 up5 hR B5 t5 P5=>Lj up5 fun _ _ _ ub _=>⟨_,A5,S5,rfl,br,fun k d=>(ub k d).trans (b4 k d),.succ l hR,fun x u o e=>B5 x u ?_ (B4 x u o e),t5,P5⟩⟩⟩⟩;simp only[Qs,Q7,or_false,T5]at o ⊢;have nk:∀ k,k<3->x≠p.b k:=fun k d z=>by rw[b4 k d]at z;rw[z,nb k d]at e;cases e
 exact⟨o.1,o.2,nk 0 be,nk 1 be,nk 2 be⟩
 rintro σ t ⟨z2,p,v,rfl,hl4,b4,l,B4,U,r⟩;rw[QX]at l;exact k p v t l B4 U r
end
end Sh
namespace L2
open PySem PySem.Spec PyProof.Rows
def ne1 (c n) (h:c=n+1) (k:c<n):False:=br
def le1 (c n) (h:c=n+1):n<=c:=br
def Za3:∀ (names) (n) (acc) (h),names.filter (fun y=>y.2==NX)=[]->Gw n names acc=acc/\Va h names=h
 | [],_,_,_,_=>⟨rfl,rfl⟩
 | (x,k)::r,n,acc,h,e=>by
  unfold Gw Va;by_cases hk:(k==NX)=true
  rw[Wo,VD hk]at e;cases e;rw[if_neg hk,if_neg hk];rw[Wo,if_neg hk]at e;exact Za3 r n acc h e
def Zat:∀ (a) (n) (b) (h),a.filter (fun y=>y.2==NX)=[(z,j)] ->
  Gw n a b=(z,n)::b/\Va h a=h.push {cls:=.type "cell",data:=.cell none}
 | [],_,_,_,e=>by grind
 | (x,k)::r,n,b,h,e=>by
  unfold Gw Va;by_cases c:(k==NX)=true
  rw[Wo,VD c]at e;injection e with d g
  injection d with f i
  subst f;rw[VD c,VD c];exact Za3 r _ _ _ g;rw[if_neg c,if_neg c];rw[Wo,if_neg c]at e;exact Zat r n b h e
def Zl2 {code}
  (hz:a.names.filter (fun y=>y.2==NX)=[(z,m)])
  (l:Q (newEnv a s.heap.objs.size d ((z,s.heap.objs.size+1)::c) g f code (some e) b) {s with heap:=(s.heap.push {cls:=.type "dict",data:=.dict #[]}).push {cls:=.type "cell",data:=.cell none}}) :
  Oe M A (GF a d c [] g f code (some e) b) Q E s:=by
 simp[GF,UU,Dt];refine Oa (wpAny_alloc (Oa (wpAny_layCells _ fun k i h=>by simp _ _ _ _ ?_)));rw[Wu ..,(Zat a.names _ _ (s.heap.push {cls:=.type "dict",data:=.dict #[]}) hz).1,(Zat a.names 0 [] _ hz).2];exact Oa (Ob (Ob l))
structure Zfx (sc scope:Scope) (N xs:VA VI) (mp:VA VC) (z:VI):Prop where
 kind:scope.kind= .function
 one:scope.names.filter (fun y=>y.2==NX)=[(z,.cell)]
 zc:scope.names.lookup z=some .cell
 names:∀ y∈scope.names,y.2= .local->scope.names.lookup y.1=some .local
 fr:∀ y∈scope.names,y.2= .free->sc.names.lookup y.1=some .cell\/sc.names.lookup y.1=some .free
 out:∀ j∈mp,scope.names.lookup (N.getD j "")=some .free
 nd:(lcN N xs mp).Nodup
noncomputable def Zhi (sc scope:Scope) (N xs:VA VI) (mp:VA VC) (z:VI):NY :=
 decide (scope.kind= .function)&&decide (scope.names.filter (fun y=>y.2==NX)=[(z,.cell)])&&decide (scope.names.lookup z=some .cell)&&scope.names.all (fun y=>decide (y.2= .local->scope.names.lookup y.1=some .local)) &&
  scope.names.all (fun y=>decide (y.2= .free->sc.names.lookup y.1=some .cell\/sc.names.lookup y.1=some .free)) &&
  mp.all (fun j=>decide (scope.names.lookup (N.getD j "")=some .free))&&decide (lcN N xs mp).Nodup
def Zhh (h:Zhi d a N xs k z=true):Zfx d a N xs k z:=by
 simp only[Zhi,Q0,UJ,NO]at h;obtain⟨⟨⟨⟨⟨⟨j,g⟩,c⟩,f⟩,b⟩,e⟩,i⟩:=h;exact⟨j,g,c,f,b,e,i⟩
noncomputable abbrev ZbX (X:Cx) (z:VI) (M:VA VI) (scope:Scope) (cl:VA (VI×VH)) (C:VH) (s₀:VF) (H₀:Hp) (fp:VA VH):Cx where
 prog:=X.prog
 w:=X.w
 K:=X.K
 mg:=X.mg
 base:=X.base
 A:=X.A
 N:=M
 s₀:=s₀
 H₀:=H₀
 env:=Ve scope cl C X.env
 outer:=X.stack
 stack:=X.stack
 ex:=fp
 fn:=fun x=>x==z
 calm:=X.calm
 pn:=[]
 xe:=fun _ _=>False
section
variable {X:Cx} {pins:VA (VH×MQ)} {σ:St} {H₀:Hp} {s₀:VF} {scope sc:Scope} {N xs:VA VI} {mp:VA VC} {fp:VA VH} {z:VI}
def Zcv (I:Inv X pins σ H₀ s₀) (b:X.env.scope=sc) (S:Zfx sc scope N xs mp z):∀ y∈scope.names,y.2= .free->∃ c,X.env.cells.lookup y.1=some c:=fun y i e=>by
 refine I.ok.has y.1 ?_;have q:=S.fr y i e;rw[←b]at q;exact q
def Zhj (I:Inv X pins σ H₀ s₀) (b:X.env.scope=sc) (S:Zfx sc scope N xs mp z) {n} {c} (e:(Yb X.env scope.names []).lookup n=some c):X.env.cells.lookup n=some c :=
 Zas scope.names [] (Zcv I b S) (fun _ _ z=>nomatch z) n c e
def lcC_look {c a:VH} (e:((z,a)::d).lookup n=some c):(n=z/\c=a)\/(n≠z/\d.lookup n=some c):=by
 rw[WG]at e;cases b:n==z with
 | true =>
  rw[b]at e;cases e;exact .inl ⟨MY b,rfl⟩
 | false =>
  rw[b]at e;exact .inr ⟨fun q=>bp,e⟩
def ZlQ (I:Inv X pins σ H₀ s₀) (hsc:X.env.scope=sc) (S:Zfx sc scope N xs mp z) (J:∀ b∈fp,XB X pins H₀ b)
  (hx:∀ b∈fp,∃ A,s₀.heap.get? b=some A) (L:h₁.Ns s₀.heap.objs.size m) (M:h₁.IsCell (s₀.heap.objs.size+1) none) (O:∀ b u,s₀.heap.get? b=some u->h₁.get? b=some u) :
  Inv (ZbX X z (lcN N xs mp) scope ((z,s₀.heap.objs.size+1)::Yb X.env scope.names []) s₀.heap.objs.size s₀ H₀ fp) [] (Qw (xs.length+mp.length) none) H₀ {s₀ with heap:=h₁,toks:=tk}:=by
 have g:=@Zhj X pins σ H₀ s₀ scope sc N xs mp z I hsc S;have F:∀ x c,X.env.cells.lookup x=some c->c<s₀.heap.objs.size:=fun x c e=>by
  have⟨v,A,K,_⟩:=I.cell x c e;exact Ql K
 refine⟨⟨I.ok.mod,S.kind,I.ok.glob,I.ok.blt,Qh _,fun x y c e1 E=>?_,fun x hk=>?_,fun x c h e=>?_,I.ok.hd,I.ok.frames,.inl rfl,
  fun b t=>⟨?_,fun x c e=>?_⟩,fun b o e=>I.bs b o e,QR I.ok.bsz I.sz,fun b o e t=>?_,fun b t z=>?_,I.stack,I.stkFree⟩,
  rfl,I.bare,Un.kept O,⟨m,L,fun i x v _ E _=>?_⟩,fun x c e=>?_,I.hok.fresh (Qh _),fun x c e=>?_,fun p hp=>VM (show p∈([]:VA (VH×MQ))from hp) bo,I.hok.kept O,?_⟩
 rcases lcC_look e1 with ⟨n,f⟩ | ⟨n,f⟩ <;> rcases lcC_look E with ⟨h3,H⟩ | ⟨h3,H⟩
 simp_all
 exact(ne1 _ _ f (F y c (g H))).elim
 exact(ne1 _ _ H (F x c (g f))).elim
 exact I.ok.inj x y c (g f) (g H)
 by_cases r:x=z
 refine⟨s₀.heap.objs.size+1,?_⟩;show((z,s₀.heap.objs.size+1)::Yb X.env scope.names []).lookup x=some (s₀.heap.objs.size+1);rw[WG,r];simp
 have C:(x==z)=false:=by simpa using r
 have j:(Gd scope X.env).names.lookup x=some .cell\/(Gd scope X.env).names.lookup x=some .free:=hk;rw[YO]at j;cases e:scope.names.lookup x with
 | none=>rw[e]at j;rcases j with z | z <;> cases z
 | some k =>
  have D:(x,k)∈scope.names:=NM e;have hkf:k= .free:=by
   rw[e]at j;have n1:k≠.cell:=fun q=>by
    have:(x,k)∈scope.names.filter (fun y=>y.2==NX):=Wf.mpr ⟨D,by rw[q];rfl⟩;rw[S.one]at this
    simp_all
   simp only[Wg,SJ]at j;unfold ZjZ at j;split at j
   simp_all
   simp_all
  subst hkf;show ∃ c,((z,s₀.heap.objs.size+1)::Yb X.env scope.names []).lookup x=some c;rw[WG,C];exact WQ.mp (Xv scope.names [] x (.inl D))
 have r:x=z:=MY h;rcases lcC_look e with ⟨n,f⟩ | ⟨n,f⟩
 exact le1 _ _ f
 exact VM r n
 have⟨A,e⟩:=hx b t;exact QB (Ql e)
 rcases lcC_look e with ⟨n,f⟩ | ⟨n,f⟩
 have⟨A,e⟩:=hx b t;intro q;rw[q]at f;exact ne1 _ _ f (Ql e)
 exact(J b t).2.2.2.2.1 x c (g f)
 rcases(J b t).2.2.2.1 with z | z
 exact I.ok.noex b o e z
 exact VM (QP (Ql (I.ok.bs b o e).1) z) (Q2 _)
 rcases Qs.mp (I.stkSub b z)with e | e
 exact(J b t).2.1 e
 exact(J b t).2.2.1 e
 rw[Wz]at E;split at E <;> cases E
 rcases lcC_look e with ⟨n,f⟩ | ⟨n,f⟩
 exact f▸⟨none,M⟩
 have⟨v,A,K,hd⟩:=I.cell x c (g f);exact⟨v,A,O c A K,hd⟩
 rcases lcC_look e with ⟨n,f⟩ | ⟨n,f⟩
 exact f▸I.hok.fresh (Ui _)
 exact I.freeC x c (g f)
 show(Qw (xs.length+mp.length) none:St).length=(lcN N xs mp).length;simp[lcN]
def Zcu {G:St} (I:Inv X pins σ H₀ s₀) (B:X.env.scope=sc) (hN:X.N=N) (S:Zfx sc scope N xs mp z) (hf:∀ b∈fp,XB X pins H₀ b)
  (J:Inv (ZbX X z (lcN N xs mp) scope ((z,T)::Yb X.env scope.names []) C s₀ H₀ fp) pY G H s'):Inv (ZbX X z (lcN N xs mp) scope ((z,T)::Yb X.env scope.names []) C s₀ H₀ fp) pY (lcS xs.length mp σ) H s':=by
 obtain⟨m,hn,_⟩:=J.loc;refine⟨J.ok,J.os,J.bare,J.base,⟨m,hn,fun i x v e1 n e3=>?_⟩,J.cell,J.free,J.freeC,J.pin,J.hok,?_⟩
 have f:(lcN N xs mp)[i]?=some x:=e1;unfold lcN at f;unfold lcS at n;by_cases M:i<xs.length
 rw[QF (by simpa using M),Wz,VD M]at n;cases n
 rw[QC (by simpa using M),Wb,Qi]at n;rw[QC (Kr M),Qi]at f;apply La;intros;cases L:mp[i-xs.length]? with
 | none=>rw[L]at n;apply La;intros;cases n
 | some j =>
  rw[L]at f n;have A:N.getD j "" = x:=VQ f;have g:(σ[j]?).getD none=some v:=VQ n;have o:σ[j]?=some (some v):=by
   cases q:σ[j]? with
   | none=>rw[q]at g;cases g
   | some z=>rw[q]at g;exact NA some g
  have hj:j<N.length:=by
   have h1:=(Qj.mp o).1;rw[I.len,hN]at h1;exact h1
  have eN:N[j]?=some x:=by
   simp_all
  have E:scope.names.lookup x=some .free:=by exact A▸S.out j (We L)
  have y:(x,MA)∈scope.names:=NM E;have F:X.env.scope.names.lookup x=some .cell\/X.env.scope.names.lookup x=some .free:=by
   exact B▸S.fr _ y rfl
  obtain⟨mX,hnX,Y⟩:=I.loc;obtain⟨u,r,lk⟩:=Y j x v bp o (.inr F);rcases lk with ⟨k,_⟩ | ⟨k,c,P,s⟩
  have k':X.env.scope.names.lookup x=some .local:=k;rw[k']at F;rcases F with z | z <;> cases z
  refine⟨u,r,.inr ⟨?_,c,?_,?_⟩⟩
  show(Gd scope X.env).names.lookup x=some .cell\/(Gd scope X.env).names.lookup x=some .free;rw[YO,E];simp only[Wg];unfold ZjZ;split
  ·simp
  simp
  obtain⟨c',e'⟩:=WQ.mp (Xv (env:=X.env) scope.names [] x (.inl y));have D:=Zhj I B S e';rw[P]at D;cases D;have V:(x==z)=false:=by
   cases q:x==z with
   | false=>rfl
   | true =>
    rw[MY q,S.zc]at E;cases E
  show((z,T)::Yb X.env scope.names []).lookup x=some c;rw[WG,V];omega
  obtain⟨ob,W,U⟩:=s;obtain⟨sl,q⟩:=J.base.any W (I.freeC x c P) fun z=>(hf c z).2.2.2.2.1 x c P rfl;exact⟨_,q,U⟩
 show(lcS xs.length mp σ).length=(lcN N xs mp).length;simp[lcS,lcN]
def Zjc {g:St} (I:Inv X pins σ H₀ s₀) (e:∀ b∈fp,XB X pins H₀ b)
  (J:Inv (ZbX X z M scope j C s₀ H₀ fp) k g H i):Inv X pins σ H i :=
 I.call' J.os J.base J.hok J.bare fun b d=>⟨(e b d).2.2.2.1,(e b d).2.1,(e b d).2.2.2.2.1,(e b d).2.2.2.2.2⟩
end
section
variable {X:Cx} {pins:VA (VH×MQ)} {σ:St} {elt tgt iter:Expr} {ifs:VA Expr} {scope sc:Scope} {pos:SD} {N xs:VA VI} {mp:VA VC} {wi:TI} {g:TG} {tc:TT} {te:TE} {z:VI}
def ZlP {RR:VG->VH->GU->VF->Prop}
  (R:X.env.scope=sc) (hN:X.N=N) (S:Zfx sc scope N xs mp z) (F:X.calm=true)
  (hg:∀ cl C w s j,PG (ZbX X z (lcN N xs mp) scope cl C w s j) tgt g) (hc:∀ cl C w s j,PCs (ZbX X z (lcN N xs mp) scope cl C w s j) ifs tc) (he:∀ cl C w s j,PE (ZbX X z (lcN N xs mp) scope cl C w s j) elt te)
  (I2:Inv X pins σ I d) (T:Zic X.prog X.w X.K tgt J j it tn) (st2:tn 0 d.heap) (f2:∀ b∈j,XB X pins I b) (h:Jy xs.length mp σ g tc te J I Qv)
  (hRR:∀ (D C) (G) (l) (m),G.heap.Ns C m->Inv X pins σ l G->XB X pins l C->Qv (.ref D) l->RR (.ref D) C (.ok .next) G) :
  Oe (Oc X.prog X.w) X.A (newList []) (fun f c=>Oe (Oc X.prog X.w) X.A (GF scope X.env.globals (Yb X.env scope.names []) [] X.env.qual none .none (some X.env)) (fun M Y =>
   OF (Oc X.prog X.w) X.A (.compStart (.ListComp elt [⟨tgt,iter,ifs,0⟩] scope pos) 0 (.ref it) f {M with scope:=Gd scope X.env}) (RR f M.locals) Y) E c) E d:=by
 have hD:I d.heap.objs.size=none:=I2.hok.fresh (Qh _);apply La;intros;obtain⟨W,⟨m0,w0⟩,turn⟩:=h d.heap.objs.size hD;refine Ot (Zl2 S.one ?_);dsimp only;have fpD:∀ b∈j,b≠d.heap.objs.size:=fun b k=>by
  obtain⟨o,e,_⟩:=T.obj _ _ st2 b k;exact QB (Ql e)
 have V:Inv X pins σ (upd I d.heap.objs.size (.lst [])) {d with heap:=d.heap.push {cls:=.type "list",dict:=none,data:=.seq ([]:VA VG).toArray}} :=
  I2.laid (t':=d.toks) (fun b u e=>Qc _ e) (Qh _) ⟨QN _,[],0,.nil,Qk _ rfl⟩
 have f3:∀ b∈j,XB X pins (upd I d.heap.objs.size (.lst [])) b:=fun b k=>⟨by exact Zi (fpD b k)▸(f2 b k).1,(f2 b k).2⟩
 generalize hs3:({d with heap:=d.heap.push {cls:=.type "list",dict:=none,data:=.seq ([]:VA VG).toArray}}:VF)=c at V;have hh3:d.heap.push {cls:=.type "list",dict:=none,data:=.seq ([]:VA VG).toArray}=c.heap:=by rw[←hs3]
 have kp3:∀ b o,d.heap.get? b=some o->c.heap.get? b=some o:=fun b o e=>by exact hh3▸Qc _ e
 rw[hh3];have K:((c.heap.push {cls:=.type "dict",data:=.dict #[]}).push {cls:=.type "cell",data:=.cell none}).Ns c.heap.objs.size (fun _=>none):=(Heap.Ns.new c.heap (.type "dict")).push _;have L:((c.heap.push {cls:=.type "dict",data:=.dict #[]}).push {cls:=.type "cell",data:=.cell none}).IsCell (c.heap.objs.size+1) none:=⟨{cls:=.type "cell",data:=.cell none},by
  have:((c.heap.push {cls:=.type "dict",data:=.dict #[]}).push {cls:=.type "cell",data:=.cell none}).get? (c.heap.push {cls:=.type "dict",data:=.dict #[]}).objs.size=some {cls:=.type "cell",data:=.cell none}:=Qk _ rfl
  simp_all,rfl⟩
 have P:∀ b u,c.heap.get? b=some u->((c.heap.push {cls:=.type "dict",data:=.dict #[]}).push {cls:=.type "cell",data:=.cell none}).get? b=some u:=fun b u e=>Qc _ (Qc _ e);generalize hh1:(c.heap.push {cls:=.type "dict",data:=.dict #[]}).push {cls:=.type "cell",data:=.cell none}=h1 at K L P;have st3:tn 0 c.heap:=T.keep _ _ _ st2 fun b _ o e=>kp3 b o e;have x3:∀ b∈j,∃ o,c.heap.get? b=some o:=fun b k=>by
  obtain⟨o,e,_⟩:=T.obj _ _ st3 b k
  simp_all
 have st4:tn 0 h1:=T.keep _ _ _ st3 fun b _ o e=>P b o e;have I4:=fun tk=>Zcu V R hN S f3 (ZlQ (tk:=tk) V R S f3 x3 K L P);have key:∀ Y:VF,Y={c with heap:=h1,toks:=Y.toks}->OF (Oc X.prog X.w) X.A (.compLoop (.ListComp elt [⟨tgt,iter,ifs,0⟩] scope pos) 0 (.ref it) (.ref d.heap.objs.size) (Ve scope ((z,c.heap.objs.size+1)::Yb X.env scope.names []) c.heap.objs.size X.env))
   (RR (.ref d.heap.objs.size) c.heap.objs.size) Y:=by
  intro Y hs4;have B:∀ {l:Hp},(∀ b∈j,l b=none)->∀ b∈j,XB (ZbX X z (lcN N xs mp) scope ((z,c.heap.objs.size+1)::Yb X.env scope.names []) c.heap.objs.size c (upd I d.heap.objs.size (.lst [])) j) [] l b:=fun hn b k =>
   ⟨hn b k,((I4 0).ok.exf b k).1,(I4 0).ok.exfs b k,.inl k,((I4 0).ok.exf b k).2,fun p hp=>VM (show p∈([]:VA (VH×MQ))from hp) bo⟩
  refine Zar (fun n G=>∃ i f l,Inv (ZbX X z (lcN N xs mp) scope ((z,c.heap.objs.size+1)::Yb X.env scope.names []) c.heap.objs.size c (upd I d.heap.objs.size (.lst [])) j) [] (lcS xs.length mp σ) l G/\tn i G.heap/\(∀ b∈j,l b=none)/\W i n f l) ?_ m0
   ⟨0,[],_,(by exact hs4▸I4 _),(by rw[hs4];omega),fun b k=>(f3 b k).1,w0⟩
  rintro n s6 ⟨i,f,H6,I6,st6,fr6,w6⟩;rcases turn i n f H6 w6 with ⟨stop,q⟩ | ⟨go,step⟩
  refine thn (T.done (ZbX X z (lcN N xs mp) scope ((z,c.heap.objs.size+1)::Yb X.env scope.names []) c.heap.objs.size c (upd I d.heap.objs.size (.lst [])) j) rfl rfl rfl F i [] s6 _ H6 _ I6 (B fr6) st6 stop) fun r s7 ⟨hr,I7⟩=>?_;subst hr;apply La;intros;obtain⟨m7,hn7,_⟩:=I7.loc;exact hRR _ _ s7 H6 m7 hn7 (Zjc V f3 I7) (V.fpOk (Qh _) I7.free) q
  refine thn (T.item (ZbX X z (lcN N xs mp) scope ((z,c.heap.objs.size+1)::Yb X.env scope.names []) c.heap.objs.size c (upd I d.heap.objs.size (.lst [])) j) rfl rfl rfl F i [] s6 _ H6 _ I6 (B fr6) st6 go) fun r s7=>Lh fun u hr h7=>?_;subst hr;refine thn h7 fun _ s8 ⟨x,H8,I8,r8,y8,Q,fr8⟩=>?_;have again:∀ {σ':St} {l:Hp} {G:VF},Inv (ZbX X z (lcN N xs mp) scope ((z,c.heap.objs.size+1)::Yb X.env scope.names []) c.heap.objs.size c (upd I d.heap.objs.size (.lst [])) j) ([]++Zcd j s8.heap) σ' l G->(∃ m H,m<n/\W (i+1) m H l) ->
    ∃ m,m<n/\∃ i f l,Inv (ZbX X z (lcN N xs mp) scope ((z,c.heap.objs.size+1)::Yb X.env scope.names []) c.heap.objs.size c (upd I d.heap.objs.size (.lst [])) j) [] (lcS xs.length mp σ) l G/\tn i G.heap/\(∀ b∈j,l b=none)/\W i m f l:=by
   intro σ' l G J ⟨m,H,hm,w'⟩;refine⟨m,hm,i+1,H,l,Zcu V R hN S f3 J.unpinned,T.keep _ _ _ Q fun b k o e=>(J.pin (b,o) (QJ _ (QJ _ (YG k e)))).1,fun b k=>?_,w'⟩;obtain⟨o,e,_⟩:=T.obj _ _ Q b k;exact(J.pin (b,o) (QJ _ (QJ _ (YG k e)))).2.1
  refine thn (hg _ _ _ _ _ _ s8 _ H8 x u _ (I8.pinned (B fr8) (T.obj _ _ Q)) r8 (step x H8 y8)) fun _ s9 ⟨O,H9,I9,q9⟩=>thn (hc _ _ _ _ _ _ s9 O H9 _ I9 q9) fun b s10=>Lg fun H10 I10 q10=>?_;cases b with
  | false =>
   exact Lm q10 fun m' hm w'=>again I10 ⟨m',f,hm,w'⟩
  | true =>
   refine thn (he _ _ _ _ _ _ s10 O H10 _ I10 q10) fun yv s11 ⟨v,Z,I11,r11,hDa,hz,m',hm,w'⟩=>thn (X1 _ s11 O Z (.ref d.heap.objs.size) [v] (.ref d.heap.objs.size) [yv] (fun _ H12=>H12=upd Z d.heap.objs.size (.lst (f++[v]))) I11 rfl (.cons r11 .nil) ⟨_,f,v,rfl,rfl,hDa,hz,rfl⟩) fun _ s12=>Le fun _ H12 I12 _ e12=>?_;subst e12;exact again I12 ⟨m',_,hm,w'⟩
 subst hs3;exact LY (key _ rfl) (T.self X.A 0 _ _ _ st4 (key _ rfl))
def Zgv {l n} (z) (Y) (N xs) (y) (O:X.N.Nodup) (Q:X.N[i]?=some x) (hx:Loc X.env.scope x) (p:X.calm=true) (hi:PI X tgt iter wi) (hg:∀ F C f d u,PG (ZbX X z (lcN N xs y) scope F C f d u) tgt g)
  (K:∀ F C f d u,PCs (ZbX X z (lcN N xs y) scope F C f d u) ifs tc) (he:∀ F C f d u,PE (ZbX X z (lcN N xs y) scope F C f d u) elt te)
  (S:Zhi Y scope N xs y z=true:=by decide +kernel) (R:Gu (.ListComp elt [⟨tgt,iter,ifs,0⟩] scope pos) (some (.Name x l)) n.line X.env=pure true:=by rfl)
  (w:X.env.scope=Y:=by rfl) (hN:X.N=N:=by rfl) (E:∀ x,Gn iter X.env x=pure x:=by intro _;rfl) (hf:X.fn x=true\/X.env.scope.names.lookup x=some .local:=by first | exact .inl rfl | exact .inr rfl | assumption) :
  PS X (.Assign [.Name x l] (.ListComp elt [⟨tgt,iter,ifs,0⟩] scope pos) n) (ZnU (tLc xs.length y wi g tc te) (Js i)):=by
 intro G s σ H D I h;have L:=Zhh S;rw[KO _ _ _ _ R];refine Oa (Gp (Oa ?_));refine Oa (Os (RQ rfl E (Xe (Zcv I w L)) L.kind L.names
  (thn (hi G s σ H _ I h) fun v s1 h1=>thn h1 fun itv s2 h2=>?_)) (fun _ s' hq=>Ob (Ob hq)) fun _ _ e=>e)
 have⟨it,u,tn,J,H2,e,I2,T,V,f2,h3⟩:=h2;subst e;refine ZlP w hN L p hg K he I2 T V f2 h3 ?_;intro D' C s' H' m hn I' r q;refine LA (JO I' O Q hx (v:=.ref D') rfl (fun s'' W ⟨a,B,ha⟩=>?_) hf);have Z:C≠a:=by
  rcases ha with z | z
  exact z▸r.2.1;exact fun e=>r.2.2.2.2.1 x a z e.symm
 refine⟨m,hn.sameBut B Z,fun h' U=>⟨_,H',W.turned (fun b o hb e=>U.extBut b o hb e) r.1 r.2.1 r.2.2.2.1 r.2.2.2.2.1 r.2.2.2.2.2,q⟩⟩
end
def ZmJ {X} {z} {a} {h} {C} {c} {b} {k} (i) {pos} (n:(lcN N xs e).Nodup:=by decide +kernel) (hi:(lcN N xs e)[i]?=some z:=by rfl)
  (l:(ZbX X z (lcN N xs e) a h C c b k).env.scope.names.lookup z=some .cell:=by rfl):PG (ZbX X z (lcN N xs e) a h C c b k) (.Name z pos) (Js i):=Zw _ n hi (.inr l) (.inl (Fj z))
end L2
namespace Sh
open PySem L2 PyProof.Rows
seal PE PS PSs PT PW L2.PA PI PG PGs PO PC PCs OpR UnR CallR MtR IxR SlR
def Least.det (h:Least a b m) (h':Least a b c):m=c:=by
 rcases WS m c with z | z | z
 have:=h'.2.2 m z;rw[h.2.1]at this;simp_all;exact z;have:=h.2.2 c z;rw[h'.2.1]at this;simp_all
noncomputable def ltr (x y:VI):VC:=by
 classical
 exact if h:∃ m,Least x.cps.toList y.cps.toList m then h.choose else 0
def Zkh (h:Least x.cps.toList y.cps.toList m):ltr x y=m:=by
 unfold ltr;have e:∃ m,Least x.cps.toList y.cps.toList m:=⟨m,h⟩
 exact FE e▸e.choose_spec.det h
noncomputable def lbl (x y:VI):VI:=tx (y.cps.toList.drop (y.length-ltr x y))
section
variable {P:Oh} {w:Ol} {K:VB} {mg:VI->VE VG} {base:Nu}
def ZkU:Sp:=fun vs H Q _=>∃ x y:VI,vs=[.str x,.str y]/\x.length=y.length/\x.length<=1000/\(Least x.cps.toList y.cps.toList (ltr x y)->Q (.int (ltr x y:VC)) H)
def ZmV (G:FOk P w K mg base k "letters_to" ["one","other"] Zb4):FOk P w K mg base k "letters_to" ["one","other"] ZkU:=by
 obtain⟨f,d,F,b,m,c⟩:=G.ex;refine⟨f,d,F.imp fun i H Q E h=>?_,b,m,c⟩;obtain⟨x,y,rfl,e,l,k⟩:=h;refine⟨_,_,by rfl,by assumption,by assumption,fun m a=>?_⟩;have q:=Zkh a
 simp_all
abbrev Zc5:Mv:=top 31
abbrev ZlB:VA VI:=["rows","points","point","many"]
def scSpread:Zp ZlB ["rows"] (Zf Zc5):=⟨rfl,rfl,rfl,bh,rfl,bh,bh⟩
def Zd7:Sp:=fun vs H Q _=>∃ (v:V) (es:Es),vs=[v]/\HeapV H v es/\(∀ e∈es,0<=e.2/\e.2<=1000)/\(flatE es).length<=1000/\∀ q H',Same H H'->H q=none->H' q=some (.lst ((flatE es).map V.str))->Q (.ref q) H'
def ZgO (D:HasDef K mg "spread" Zc5 ["rows"]):FOk P w K mg base 1 "spread" ["rows"] Zd7:=by
 refine D.ok scSpread (fun n H Q E h=>?_) (fun f R A o s H n Q E hr h=>?_)
 obtain⟨v,d,rfl,_⟩:=h;rfl
 apply Lb;intros;apply La;intros;obtain⟨v,d,rfl,⟨q,n,rfl,C,g⟩,Z,hfl,k⟩:=h;refine ⟨_,(Zc (Zm 1 scSpread.nd (ZC Ze))
  (Zc (Z1 VP rfl (Yv (pv 0)) (ZW 2 K rfl (Zq (Zw 2 scSpread.nd) (Zq (Zw 3 scSpread.nd) ZV)))
   (Zj (Z4 (XS F.plainAttrs_list F.slot_list_extend F.type_list_extend ZaQ (pv 1) (Za (Zo Xi (ZC (Za (pv 2) Ze)) (pv 3)) Ze)))))
  (Zj (Zu (pv 1))))),⟨Zl be,fun l z=>?_⟩⟩;have I:=Zb (o:=.lst []) z;refine⟨_,rfl,q,rfl,⟨_,SqT.of (I _ _ C)⟩,?_⟩;refine Xc (K:=K) (a:=q) (xs:=n) (fun i σ m=>∃ (B r:VE V),σ=[some (.ref q),some (.ref l),B,r]/\Same H m/\m l=some (.lst ((flatE (d.take i)).map V.str)))
  ⟨none,none,rfl,I,Zd⟩ (fun i σ m _=>Li fun _ _ _ j _=>SqT.of (j _ _ C)) ?_ ?_
 rintro i x σ m N ⟨B,r,rfl,j,a⟩;have c:i<d.length:=by exact g.1▸((Qj.mp N).1)
 apply La;intros;obtain⟨b,L,U⟩:=g.2 i d[i] (Qa c);rw[N]at L;cases L;have O:=Z d[i] (QH c);have W:=ZaZ (es:=d) (n:=i);refine⟨b,_,rfl,SqT.of (j _ _ U),rfl,_,_,rfl,_,_,rfl,rfl,?_⟩;rw[(QO c),Za0];generalize d[i]=e at *;refine⟨_,rfl,.inl ⟨rfl,_,SqL.of a⟩,_,rfl,Zl (show 1<=1000 by decide),fun p X=>?_⟩;have J:=Zb (o:=.lst [.str e.1]) X;refine⟨_,rfl,Pf p e.2 _ ⟨rfl,rfl,Zd,bq,bq,Zl (by simp only[Qp];exact Nr O),fun S t=>?_⟩⟩;rw[X9];have M:=Zb (o:=.lst (Qw e.2.toNat (V.str e.1))) t;refine Pg l S _ _ ⟨rfl,rfl,(M _ _ (J _ _ a)),Zd,?_,?_⟩
 rw[Wb,Qd];refine Zx ?_;lia
 refine⟨_,_,rfl,fun b u G=>by exact Zi (Zh G z)▸M _ _ (J _ _ (j b u G)),?_⟩;rw[Zd,QK,WY]
 rintro σ m ⟨B,r,rfl,j,a⟩;rw[g.1,Q8]at a;exact⟨_,rfl,k l m j z a⟩
abbrev Zk7:Mv:=top 33
abbrev Zox:VA VI:=["end","begin","many"]
def scLink:Zp Zox ["end","begin"] (Zf Zk7):=⟨rfl,rfl,rfl,bh,rfl,bh,bh⟩
def ZjP:Sp:=fun vs H Q _=>∃ (x y:VI),vs=[.str x,.str y]/\x.length=y.length/\x.length<=1000/\∀ p H',Same H H'->H' p=some (.tup [.str x,.str (lbl x y),.str y])->Q (.ref p) H'
def Zlu (D:HasDef K mg "link" Zk7 ["end","begin"]) (B:Blt mg) (a:FOk P w K mg base 1 "letters_to" ["one","other"] ZkU):FOk P w K mg base 2 "link" ["end","begin"] ZjP:=by
 refine D.ok scLink (fun o H Q E h=>?_) fun f r A d s H o Q E m h=>?_
 obtain⟨x,y,rfl,_⟩:=h;rfl
 apply Lb;intros;obtain⟨x,y,rfl,e,l,k⟩:=h;refine ⟨_,Zc (Zm 2 scLink.nd (ZH a m (Za (pv 0) (Za (pv 1) Ze))))
  (Zj (Zu (J2 (Za (pv 0) (Za (Zr ZP (pv 1) (Zv (Zo YL (Zk Zn rfl B.len ZG (Za (pv 1) Ze)) (pv 2))) Zy) (Za (pv 1) Ze)))))),⟨_,rfl,_,rfl,x,y,rfl,e,l,fun n=>?_⟩⟩;have c:=n.1;rw[ZF]at c;have j:NH y (some (y.length-(ltr x y))) none=lbl x y:=by
  have:=Jh (z:=y.cps.toList) (i:=y.length-(ltr x y)) bq (by rw[ZF];lia);rw[tx_eta]at this;rw[this];congr 2;exact K5
 refine⟨_,rfl,_,rfl,?_⟩;have g:y.length<=Od:=Zx br;exact ⟨_,rfl,_,_,rfl,⟨g,rfl⟩,_,rfl,_,_,rfl,rfl,_,rfl,y,rfl,g,_,rfl,Zl (show 3<=1000 by decide),fun p i=>j▸k p _ (Zb i) Zd⟩
noncomputable def Zpu:Scope:={kind:=.function,names:=[(".0",.local),("end",.cell),("begins",.cell)],isGenerator:=false,isCoroutine:=false,more:=[]}
def ZiG (K) (b:PE X l a) (h:X.K=K:=by rfl):PI X c l (Znw K a):=by
 subst h;exact Xn b
abbrev Xx:Mv:=top 32
abbrev ZaP:VA VI:=["ends","begins","rows"]
def scCostTable:Zp ZaP ["ends","begins"] (Zf Xx):=⟨rfl,rfl,rfl,bh,rfl,bh,bh⟩
noncomputable def Ym (E Bg:VA VI) (i j:VC):VN:=if i<E.length/\j<Bg.length then (ltr (E.getD i "") (Bg.getD j ""):VC)else 0
def ZjU:Sp:=fun vs H Q _=>∃ (e b:VH) (E Bg:VA VI) (L:VC),vs=[.ref e,.ref b]/\H e=some (.lst (E.map V.str))/\H b=some (.lst (Bg.map V.str))/\E.length=Bg.length/\E.length<=900/\L<=1000/\(∀ x∈E,x.length=L)/\(∀ x∈Bg,x.length=L) /\
 ∀ cst rows H',Same H H'->ZkE H' cst rows (Bg.length+1) (Ym E Bg)->Q (.ref cst) H'
def Zbv (D:HasDef K mg "cost_table" Xx ["ends","begins"]) (B:Blt mg) (z:FOk P w K mg base 1 "letters_to" ["one","other"] ZkU):FOk P w K mg base 2 "cost_table" ["ends","begins"] ZjU:=by
 refine D.ok scCostTable (fun vs H Q E h=>?_) (fun f cdv A outer s H vs Q E hr h=>?_)
 obtain⟨e,b,E,a,L,rfl,_⟩:=h;rfl
 apply Lb;intros;obtain⟨e,b,Es,a,L,rfl,he,hb,y,h9,hL,hE,hB,k⟩:=h;refine⟨_,(Zc (Zgv (i:=2) "end" (Zf Xx) ZaP ["end"] [1] scCostTable.nd rfl (.inl rfl) rfl (Xn (pv 0)) (fun _ _ _ _ _=>ZmJ 0) (fun _ _ _ _ _=>YK) (fun _ _ _ _ _=>(Zo XH (Yd Zpu ["end","begins"] ["begin"] [0] rfl (ZiG K (pv 1)) (fun _ _ _ _ _=>Yz 0) (fun _ _ _ _ _=>YK) (fun _ _ _ _ _=>(ZH z hr (Za (pv 1) (Za (pv 0) Ze))))) (ZC (Za Zg Ze)))))
  (Zj (Zu (Zo XH (pv 2) (ZC (Za (Zo Xi (ZC (Za Zg Ze)) (Zo ZJ (Zk Zn rfl B.len ZG (Za (pv 1) Ze)) Zg)) Ze)))))),?_⟩
 apply Db;intros;have gE:∀ {i},i<Es.length->(Es.map V.str).getD i .non= .str (Es.getD i "")/\Es.getD i ""∈Es:=fun {i} t=>by
  rw[Qb,Qb,Qi,Qa t];simp
 have gB:∀ {i},i<a.length->(a.map V.str).getD i .non= .str (a.getD i "")/\a.getD i ""∈a:=fun {i} t=>by
  rw[Qb,Qb,Qi,Qa t];simp
 refine⟨_,rfl,e,rfl,⟨_,SqL.of he⟩,Zja Es.length (fun i=>(Es.map V.str).getD i .non) (fun i=>arr (a.length+1) fun j=>.int (Ym Es a i j)) (Zl br) (by have:=ZbH (K:=K) (SqL.of he);rw[Qd]at this;trivial) ?_ ?_⟩
 intro i H1 Qe t hs kq;obtain⟨g1,g2⟩:=gE t;rw[g1];refine⟨_,rfl,b,rfl,⟨_,SqL.of (hs _ _ hb)⟩,X5 a.length (fun j=>(a.map V.str).getD j .non) (fun j v _=>v= .int (Ym Es a i j)) (Zl br) (fun _ _ _ _ _ r=>r) (by have:=ZbH (K:=K) (SqL.of (hs _ _ hb));rw[Qd]at this;omega) ?_ ?_⟩
 intro j H2 Qf hj n kf;obtain⟨q1,q2⟩:=gB hj;rw[q1];refine⟨_,rfl,_,rfl,Es.getD i "",a.getD j "",rfl,by rw[hE _ g2,hB _ q2],by exact hE _ g2▸hL,fun hLe=>kf _ _ (Same.refl _) ?_⟩;unfold Ym;rw[VD ⟨t,hj⟩]
 intro D1 vs1 H2 o hr1 n hD1 d;refine⟨Zl (show 1<=1000 by decide),fun p hp=>?_⟩;have x:=Zb (o:=.lst [.int 0]) hp;refine ⟨D1,p,_,_,rfl,rfl,x _ _ d,Zd,by exact o▸Zl (show a.length+1<=1000 by lia),fun m g=>kq m _ (n.trans (x.trans (Zb (o:=.lst (vs1++[V.int 0])) g))) (n.free (x.free g)) ?_⟩;rw[Zd];congr 2;refine QY fun j=>?_;by_cases hj:j<a.length
 rw[Yi _ (Kz hj),QF (Kj hj o),Qa (Kj hj o),hr1 j _ (Qa (Kj hj o))]
 by_cases hj2:j=a.length
 subst hj2;rw[Yi _ Kx,QC (Kf o),o,Wv];unfold Ym;rw[if_neg br];rfl
 rw[Qr (by rw[Qg,o];simp;exact K6 hj hj2),Qr (by rw[ZX];exact K6 hj hj2)]
 intro D1 u H1 l hrow hs1 hD1 d;refine⟨_,rfl,Zl (show 1<=1000 by decide),fun p hp=>?_⟩;have x:=Zb (o:=.lst [.int 0]) hp;refine⟨_,rfl,.ref b,(a.map V.str).length,rfl,.inl ⟨_,SqL.of (x _ _ (hs1 _ _ hb)),rfl⟩,_,_,rfl,rfl,Pf p _ _ ⟨rfl,rfl,Zd,br,by rw[Qd];omega,?_,fun m g=>?_⟩⟩
 rw[Qd];exact Zl (by simp only[Qp];lia)
 refine⟨Zl (show 1<=1000 by decide),fun p3 hp3=>?_⟩;have t3:=Zb (o:=.lst [.ref m]) hp3;have sA:=x.trans ((Zb (o:=.lst (Qw (((a.map V.str).length:VN)+1).toNat [V.int 0]).flatten) g).trans t3);refine Pg D1 p3 _ _ ⟨rfl,rfl,sA _ _ d,Zd,by rw[Qd,l];exact Zl (show Es.length+1<=1000 by lia),fun p4 hp4=>?_⟩;have t4:=Zb (o:=.lst (u.map V.ref++[.ref m])) hp4;refine k p4 (u++[m]) _ (hs1.trans (sA.trans t4)) ⟨by rw[Zd,QK];rfl,by rw[Qg,l,y];rfl,fun i t=>?_⟩;by_cases q:i<Es.length
 have ei:(u++[m]).getD i 0=u[i]'(Kj q l):=by
  rw[Qb,QF (Kj q l),Qa (Kj q l)];rfl
 exact ei▸t4 _ _ (sA _ _ (hrow i _ (Qa (Kj q l))).2.2)
 have e2:i=u.length:=br
 have ei:(u++[m]).getD i 0=m:=by
  rw[Qb,e2,QC K7,Wv];rfl
 rw[ei];refine t4 _ _ (t3 _ _ ?_);rw[Zd,Qd,show((a.length:VN)+1).toNat=a.length+1 by lia,X9,Zdc];congr 2;refine ZcU fun j _=>?_;unfold Ym;rw[if_neg br]
end
end Sh
namespace L2
def ZlH:MtR X "list.append" Zdd:=X1
end L2
namespace Sh
open PySem L2 PyProof.Rows
seal PE PS PSs PT PW L2.PA PI PG PGs PO PC PCs OpR UnR CallR MtR IxR SlR
noncomputable def Zfg (E Bg:VA VI) (ra:VC->VE VC) (j:VC):T3:=match ra j with
 | some r=>if r<E.length then [(E.getD r "",lbl (E.getD r "") (Bg.getD j ""),Bg.getD j "")]else []
 | none=>[]
noncomputable def lnk (E Bg:VA VI) (ra:VC->VE VC) (i:VC):T3:=(Qz i).flatMap (Zfg E Bg ra)
def ZbA (E a) (ra) (i):lnk E a ra (i+1)=lnk E a ra i++Zfg E a ra i:=by
 unfold lnk;rw[WE];simp
def ZdB (E b) (ra):∀ i,(lnk E b ra i).length<=i
 | 0=>by simp[lnk]
 | i+1=>by
  rw[ZbA,Qg];have:=ZdB E b ra i;have:(Zfg E b ra i).length<=1:=by
   unfold Zfg;split
   split <;> simp
   simp
  lia
section
variable {P:Oh} {w:Ol} {K:VB} {mg:VI->VE VG} {base:Nu} {C:VH}
abbrev Zbk:Mv:=top 34
noncomputable abbrev ZiZ:VA VI:=["pairing","ends","begins","links","column","begin","row"]
def scLinksOf:Zp ZiZ ["pairing","ends","begins"] (Zf Zbk):=⟨rfl,rfl,rfl,bh,rfl,bh,bh⟩
def ZfT (C:VH):Sp:=fun vs H Q _=>∃ (a e b:VH) (A:Adr) (cost:VC->VC->VN) (S:Pst) (E Bg:VA VI) (L:VC),vs=[.ref a,.ref e,.ref b]/\PairS C 3 H a A (Bg.length+1) cost (enc S)/\H e=some (.lst (E.map V.str))/\H b=some (.lst (Bg.map V.str))/\E.length=Bg.length/\E.length<=900/\L<=1000/\(∀ x∈E,x.length=L)/\(∀ x∈Bg,x.length=L) /\
 (∀ j,j<Bg.length->∃ r,S.ra j=some r)/\∀ q us H',Same H H'->H' q=some (.lst us)->TyL H' us (lnk E Bg S.ra Bg.length)->Q (.ref q) H'
def Zdl (D:HasDef K mg "links_of" Zbk ["pairing","ends","begins"]) (B:Blt mg) (T:PgC K mg C) (q:FOk P w K mg base 2 "link" ["end","begin"] ZjP):FOk P w K mg base 3 "links_of" ["pairing","ends","begins"] (ZfT C):=by
 refine D.ok scLinksOf (fun vs H Q E h=>?_) (fun f cdv A outer s H vs Q E hr h=>?_)
 obtain⟨a,e,b,A,G,S,E,m,L,rfl,_⟩:=h;rfl
 apply Lb;intros;apply La;intros;obtain⟨a,e,b,Ad,G,S,Es,m,L,rfl,hP,he,hb,hlen,h9,hL,hE,hB,hra,k⟩:=h;refine⟨_,(Zc (Zm 3 scLinksOf.nd (ZC Ze))
  (Zc (Z1 VP rfl (Zlg rfl B.enum (Za (pv 2) Ze)) (ZW 2 K rfl (Zq (Zw 4 scLinksOf.nd) (Zq (Zw 5 scLinksOf.nd) ZV)))
   (Zc (Zm 6 scLinksOf.nd (ZA ix_list (ZQ (pv 0) rfl) (pv 4)))
   (Zj (Ya (Zt Zdj (pv 6) (Zk Zn rfl B.len ZG (Za (pv 1) Ze)) (Zz _)) (Zj (Z4 (XS F.plainAttrs_list F.slot_list_append F.type_list_append ZlH (pv 3) (Za (ZH q hr (Za (ZA ix_list (pv 1) (pv 6)) (Za (pv 5) Ze))) Ze)))) ZD))))
  (Zj (Zu (pv 3))))),?_⟩
 apply J1;intros;refine⟨Zl (show 0<=1000 by decide),fun l hl=>?_⟩;have s1:=Zb (o:=.lst []) hl;refine⟨_,rfl,b,rfl,⟨_,SqL.of (s1 _ _ hb)⟩,?_⟩;refine Zjo (K:=K) (a:=b) (xs:=m.map V.str) (fun i σ n=>∃ (z4 z5 z6:VE V) (j:VA V),σ=[some (.ref a),some (.ref e),some (.ref b),some (.ref l),z4,z5,z6]/\Same H n/\n l=some (.lst j)/\TyL n j (lnk Es m S.ra i))
  ⟨none,none,none,[],rfl,s1,Zd,⟨rfl,fun i x e=>by cases e⟩⟩ (fun i σ n _ ⟨_,_,_,_,_,z,_⟩=>SqL.of (z _ _ hb)) ?_ ?_
 rintro i x σ n t hi ht ⟨z4,z5,z6,j,rfl,z,g,c⟩;rw[Qi]at hi;apply La;intros;obtain⟨y,hy,rfl⟩:=WB.mp hi;have J:i<m.length:=(Qj.mp hy).1;have gy:m.getD i "" = y:=by rw[Qb,hy];rfl
 have o:=Zb (o:=.tup [.int i,.str y]) ht;have v:=z.trans o;obtain⟨r,er⟩:=hra i J;have P3:=hP.same v;have v2:enc S 2 i= .int (r:VC):=by show oN (S.ra i)=_;rw[er];rfl
 refine⟨t,_,rfl,SqT.of Zd,rfl,_,_,rfl,_,_,rfl,rfl,.ref a,rfl,a,C,_,_,_,rfl,P3.ob,T.cl,T.no 2 be,P3.lk 2 be,_,rfl,_,_,_,_,rfl,rfl,SqL.of (P3.hv 2 be),(YT _ (Kz J)).trans (NA some v2),_,rfl,_,rfl,.ref e,(Es.map V.str).length,rfl,.inl ⟨_,SqL.of (v _ _ he),rfl⟩,_,_,rfl,rfl,_,rfl,?_⟩;rw[Qd,ZbA];by_cases d:r<Es.length
 have e1:Zfg Es m S.ra i=[(Es.getD r "",lbl (Es.getD r "") y,y)]:=by unfold Zfg;rw[er];show(if r<Es.length then _ else _)=_;rw[VD d,gy]
 have ge:Es[r]?=some (Es.getD r ""):=by rw[Qb,Qa d];rfl
 have me:=hE _ (We ge);refine Xu (VR (Sa d)) ⟨_,rfl,.inl ⟨rfl,_,SqL.of (o _ _ g)⟩,_,rfl,_,rfl,e,_,_,.str (Es.getD r ""),rfl,rfl,SqL.of (v _ _ he),Xh (by rw[Qi,ge];rfl),_,rfl,Es.getD r "",y,rfl,K9 me (hB y (We hy)),Kk hL me,fun p H4 s4 O=>?_⟩;have I:=s4 _ _ (o _ _ g);have hul:=c.1;have:=ZdB Es m S.ra i;refine Pf l j (.ref p) ⟨rfl,rfl,I,ZB br,?_⟩;have tl:=YB (ys:=j++[V.ref p]) I;exact Pg _ _ _ _ ⟨rfl,fun x u hx=>Zi (Zh hx hl)▸s4 _ _ (v x u hx),Zd,e1▸((c.same ((o.trans s4).tup.trans tl)).snoc (t:=(Es.getD r "",lbl (Es.getD r "") y,y)) (tl _ _ O))⟩
 have e1:Zfg Es m S.ra i=[]:=by unfold Zfg;rw[er];show(if r<Es.length then _ else _)=_;rw[if_neg d]
 refine Ys (VO (Sn d)) ⟨_,_,_,j,rfl,v,o _ _ g,?_⟩;rw[e1,WK];exact c.same o.tup
 rintro σ n ⟨z4,z5,z6,j,rfl,z,g,c⟩;rw[Qd]at c;exact⟨_,rfl,k l j n z g c⟩
end
end Sh
namespace L2
open PySem PySem.Spec PyProof.Rows
def ZeP:Gk (.type "zip") (SW "__len__")=pure none:=by rfl
def ZcY:Gk (.type "zip") (SW "__length_hint__")=pure none:=by rfl
def XJ (h:Nu) (z TI TO:VH) (f0:VG) (b:NY):Prop:=h.get? z=some {cls:=.type "zip",data:=.fields #[f0,.bool b,.bool false,.ref TI,.ref TO]}
section
variable {prog:Oh} {w:Ol} {A:NC} {E:VG->VF->Prop} {s:VF}
def ZhN {z TI TO c:VH} (d:XJ s.heap z TI TO (OD c) b) (h:∀ a,XJ a z TI TO (OD c) true->NV z s.heap a->R false {s with heap:=a}) :
  Oe (Oc prog w) A (if (DN b != DN true)=true then do
   GI (.ref z) 1 (.bool true)
   pure false
  else pure false) R E s:=by
 cases b with
 | true =>
  exact Ob (h s.heap d ⟨rfl,fun _ _=>rfl⟩)
 | false =>
  exact Oa (Oq d bo fun a e f=>Ob (h a e f))
def ZkH {z TI TO i j p m f:VH} {Q:VG->VF->Prop} (D:Gg z TI TO i j p m) (l:XJ s.heap z TI TO (OD f) b) (T:s.heap.get? f=some X) (J:OI s.heap TI (.ref i) (.ref j))
  (O:s.heap.IsListIter i p k) (H:s.heap.IsListIter j m k) (S:s.heap.IsList p xs) (t2:s.heap.IsList m ys) (I:xs[k]?=some x) (R:ys[k]?=some y)
  (q:∀ g,XJ g z TI TO (OD f) true->g.IsListIter i p (k+1)->g.IsListIter j m (k+1)->OI g s.heap.objs.size x y->(∀ c o,c≠z->c≠i->c≠j->s.heap.get? c=some o->g.get? c=some o)->Q (.ref s.heap.objs.size) {s with heap:=g}) :
  Oe (Oc prog w) A (NP.«zip.__next__» ⟨[.ref z],[]⟩) (fun r N=>∃ v,r= .done (.ret v)/\Q v N) E s:=by
 show Oe _ _ (field (.ref z) 2 >>= _) _ _ _;apply Pk;intros;refine Oa (Oo l rfl (x:=.bool false) rfl (Oa (Oo l rfl (x:=.ref TI) rfl (Oa (Ow J rfl ((Oa (Oa (Oo l rfl (x:=OD f) rfl ?_)))))))));show Oe _ _ (loadIfAlive ((f:VN)).toNat >>= _) _ _ _;refine Oa (Fd T (Oa (Oo l rfl (x:=.bool b) rfl (ZhN l fun W K d=>Oa (Oa (Oa (On (Oa (R4 (O.extBut d.extBut D.i1z) (S.extBut d.extBut D.l1z) I fun Y u h=>Ob (Ob (Oa (Oa (On (Oa (R4 ((H.extBut d.extBut D.i2z).extBut h.extBut D.i12.symm) ((t2.extBut d.extBut D.l2z).extBut h.extBut D.l2i1) R fun t C n=>Ob (Ob (Ob (Oa (GG ?_ (show 2<=Od by decide))))))))))))))))))));have F:t.objs.size=s.heap.objs.size:=by rw[n.1,h.1,d.1]
 have P:XJ t z TI TO (OD f) true:=n.extBut _ _ D.i2z.symm (h.extBut _ _ D.i1z.symm K);rw[F];have M:OI (t.push {cls:=.type "tuple",data:=.seq #[x,y]}) s.heap.objs.size x y:=by exact F▸Qk _ rfl
 refine Ob ⟨_,rfl,q _ (Qc _ P) ((u.extBut n.extBut D.i12).at fun o e=>Qc _ e) (C.at fun o e=>Qc _ e) M fun c o G U L e=>Qc _ (n.extBut _ _ L (h.extBut _ _ U (d.extBut _ _ G e)))⟩
def Zml {z TI TO d j h k i:VH} (m:A.handled=none) (D:Gg z TI TO d j h k) (a:XJ s.heap z TI TO (OD i) b) (v:s.heap.get? i=some J) (y:OI s.heap TI (.ref d) (.ref j))
  (F:s.heap.IsListIter d h B) (l:s.heap.IsList h xs) (p:xs[B]?=none)
  (q:∀ g e,(∀ c o,c≠z->c≠d->s.heap.get? c=some o->g.get? c=some o)->(∃ o,g.get? e=some o/\o.cls= .type "StopIteration")->E (.ref e) {s with heap:=g}) :
  Oe (Oc prog w) A (NP.«zip.__next__» ⟨[.ref z],[]⟩) Q E s:=by
 show Oe _ _ (field _ 2 >>= _) _ _ _;refine Oa (Oo a rfl rfl (Oa (Oo a rfl (x:=.ref TI) rfl (Oa (Ow y rfl ((Oa (Oa (Oo a rfl rfl ?_)))))))));show Oe _ _ _ _ _ _;exact Oa (Fd v (Oa (Oo a rfl rfl (ZhN a fun K I f=>Oa (Oa (Oa (On (Oa (wpAny_nextOf_list_end m (F.extBut f.extBut D.i1z) (l.extBut f.extBut D.l1z) p fun u e n=>Lh fun t C G=>q u e (fun c o r H x=>n _ _ H (f.extBut _ _ r x)) ⟨t,C,G⟩)))))))))
def ZiE {z TI TO d a h f j:VH} (D:Gg z TI TO d a h f) (i:XJ s.heap z TI TO (OD j) b) (t:s.heap.get? j=some H) (u:OI s.heap TI (.ref d) (.ref a))
  (p:s.heap.IsListIter d h e) (k:s.heap.IsListIter a f e) (C:s.heap.IsList h xs) (t2:s.heap.IsList f ys) (r:xs[e]?=some x) (B:ys[e]?=some y)
  (q:∀ g,XJ g z TI TO (OD j) true->g.IsListIter d h (e+1)->g.IsListIter a f (e+1)->OI g s.heap.objs.size x y->(∀ c o,c≠z->c≠d->c≠a->s.heap.get? c=some o->g.get? c=some o)->Q (some (.ref s.heap.objs.size)) {s with heap:=g}) :
  Oe (Oc prog w) A (Gb (.ref z)) Q E s:=by
 exact Oa (Ox (VW ⟨_,i,rfl⟩ F.slot_zip_next (Om F.slot_zip_next ⟨_,i,rfl⟩ F.entry_zip_next (ZkH D i t u p k C t2 r B fun g G m n l v=>Ob (q g G m n l v)) (F.args_zip_next_1 _))))
def Zld {z TI TO a i f j h:VH} (m:A.handled=none) (D:Gg z TI TO a i f j) (d:XJ s.heap z TI TO (OD h) b) (x:s.heap.get? h=some B) (n:OI s.heap TI (.ref a) (.ref i))
  (v:s.heap.IsListIter a f u) (l:s.heap.IsList f xs) (p:xs[u]?=none) (q:∀ g,(∀ c o,c≠z->c≠a->s.heap.get? c=some o->g.get? c=some o)->Q none {s with heap:=g}):Oe (Oc prog w) A (Gb (.ref z)) Q E s:=by
 refine Oa (Ox (VW ⟨_,d,rfl⟩ F.slot_zip_next (Om F.slot_zip_next ⟨_,d,rfl⟩ F.entry_zip_next (Zml m D d x n v l p fun g e k=>Lh fun r y t=>?_) (F.args_zip_next_1 _))));exact Oa (OH ⟨r,y,t⟩ O7 (Ob (q _ k)))
def Zig (a:s.TypeIs (.ref z) "zip") (h:Q true s):Oe (Oc prog w) A (MH (.ref z)) Q E s:=by
 exact Oa (OG a ZeP (Oa (OG a ZcY (Ob h))))
def ZdL {z TI TO} (x:Gr s.heap z TI TO f0)
  (h:∀ m c1,(∀ b o,s.heap.get? b=some o->m.get? b=some o)->m.get? s.heap.objs.size=some {cls:=.type "list",data:=.seq #[] c1}->OF (Oc prog w) A (.builtin "list.extend.loop" ⟨[.ref s.heap.objs.size,.ref z,.ref s.heap.objs.size],[]⟩) (fun r p=>∃ j c,r= .ok (.ret (.ref s.heap.objs.size))/\p.heap.get? s.heap.objs.size=some {cls:=.type "list",data:=.seq j c}/\Q j.toList p) {s with heap:=m}) :
  Oe (Oc prog w) A (Vj (.ref z)) Q E s:=by
 refine Oa (Dm (Ov F.entry_proto_collect (Oa (Ot (Ob ⟨Oy F.plain_list_iadd _,Ov F.entry_list_iadd ?_⟩)))));apply Pl;intros;have n:Gr (s.heap.push {cls:=.type "list",data:=.seq #[]}) z TI TO f0:=Qc _ x;have t:(s.heap.push {cls:=.type "list",data:=.seq #[]}).get? s.heap.objs.size=some _:=Qk _ rfl;have kS:∀ b o,s.heap.get? b=some o->(s.heap.push {cls:=.type "list",data:=.seq #[]}).get? b=some o:=fun b o e=>Qc _ e;have u:∀ b o,s.heap.get? b=some o->b≠s.heap.objs.size:=fun b o e=>QB (Ql e);show Oe _ A.in1 (MI _ (.ref z) (.ref s.heap.objs.size)) _ _ _;refine Oa (Gf (T:="zip") ⟨_,n,rfl⟩ ?_);have m:NG (.ref s.heap.objs.size) (.ref z)=false:=by simp[NG];exact Uc (Ql x)
 have h2:(NB "zip" == NB "list")=false:=be
 have B:(NB "zip" == NB "tuple")=false:=be
 simp only[m,h2,B,UH,WX,TU];refine Oa (LO n (Oa (On (Zig ⟨_,n,rfl⟩ (Oa (OL (Oa (Oa (OC t rfl ?_)))))))));have f:=QQ (NF (·.push NI)) t rfl;refine OC (hz:=by seq_fits) f rfl ?_;have i:=QQ (NF (·.pop)) f rfl;refine Ob ⟨Oy F.plain_extend_loop _,OM (h _ _ (fun b o e=>(QG _ _ (VS (u b o e))).trans ((QG _ _ (VS (u b o e))).trans (kS b o e))) i) fun r p y=>?_⟩;obtain⟨j,c,rfl,e,q⟩:=y;exact Oa (G7 e (Ob q))
def ZaD {z TI TO} (l:Gr s.heap z TI TO u)
  (h:∀ j k,(∀ b o,s.heap.get? b=some o->j.get? b=some o)->j.get? s.heap.objs.size=some {cls:=.type "list",data:=.seq #[] k}->OF (Oc prog w) A.in1.in1 (.builtin "list.extend.loop" ⟨[.ref s.heap.objs.size,.ref z,.ref s.heap.objs.size],[]⟩) (fun r i=>∃ f c,r= .ok (.ret (.ref s.heap.objs.size))/\i.heap.get? s.heap.objs.size=some {cls:=.type "list",data:=.seq f c}/\f.size<=Od/\Q (.ref i.heap.objs.size) {i with heap:=i.heap.push {cls:=.type "tuple",data:=.seq f}}) {s with heap:=j}) :
  Oe (Oc prog w) A (call (.type "tuple") [.ref z]) Q E s:=by
 refine Dp F.called_tuple (F.typeCall_tuple_1 _) F.entry_object_init (Q₁:=fun g a=>a.TypeIs g "tuple"/\Q g a) ?_ fun g a d=>?_
 refine KG ((Oa (Ou (F.newCall_tuple_1 (.ref z)) (Ob ⟨Oy F.plain_tuple_new _,Ov F.entry_tuple_new (Oa (show Oe _ _ _ _ _ _ from Ob (GB rfl (Oa (Ou sub_tuple_self (GB rfl (GB rfl (Oa (Ou madeHere_tuple (Oa (Ou init_tuple_lookup (Dr rfl (Oa (Dr rfl (Ob (Oa (Ou (by rfl) (Dr rfl (Oa (Oa (Gf (T:="zip") ⟨_,l,rfl⟩ (Ob (GB rfl (Oa (ZdL l fun j k p n=>OM (h j k p n) fun r i m=>?_)))))))))))))))))))))))))⟩))));apply La;intros;obtain⟨f,c,rfl,e,t,q⟩:=m;exact ⟨f,c,rfl,e,Oa (Ob (Oa (Ot (Ob ⟨⟨_,Qk _ rfl,rfl⟩,bq⟩) (by assumption))))⟩
 exact⟨d.1,F.args_object_init_2 g _,object_init_meets F.called_tuple.init.lookup F.called_tuple.made be prog w A.in1 _ a ⟨d.1,rfl,d.2⟩⟩
end
def ZdU:∀ (a) (b),a.length=b.length->(∀ (i:VC) (w) (u),a[i]?=some w->b[i]?=some u->RelV w u)->Vals a b
 | [],[],_,_=>.nil
 | w::a,u::b,g,h=>.cons (h 0 w u rfl rfl) (ZdU a b (by simp_all) fun i f e d c=>h (i+1) f e d c)
structure ZL (h:Nu) (n:VC) (a b:VH) (i:VC) (T0:VH):Prop where
 zz:(i=0/\Gr h (n+4) (n+2) (n+3) .none/\∃ u v,OI h (n+3) u v)\/(0<i/\∃ bb,XJ h (n+4) (n+2) (n+3) (OD T0) bb)
 pI:OI h (n+2) (.ref n) (.ref (n+1))
 j1:h.IsListIter n a i
 j2:h.IsListIter (n+1) b i
section
variable {X:Cx} {pins:VA (VH×MQ)} {σ:St} {H:Hp} {s:VF} {A:NC}
def ZPs (H:Hp) (xs ys:VA V) (acc:VL VG) (i:VC):Prop:=acc.size=i/\∀ j,j<i->∃ T x y,acc[j]?=some (.ref T)/\xs[j]?=some x/\ys[j]?=some y/\H T=some (.tup [x,y])
def ZbJ {n:VC} (b:∀ c∈[n+4,n+2,n+3,n,n+1],XB X pins a c) (e:a c=some o):c∉[n+4,n+3,n,n+1]:=fun z=>by
 have:c∈[n+4,n+2,n+3,n,n+1]:=by
  simp[Qs,Q7,or_false]at z ⊢;rcases z with z | z | z | z
  simp_all
  simp_all
  simp_all
  simp_all
 rw[(b c this).1]at e
 grind
def ZkG {n i:VC} (I:Inv X pins σ r {s with heap:=h}) (P:r a=some (.lst xs)) (J:r b=some (.lst ys)) (S:∀ c∈[n+4,n+2,n+3,n,n+1],XB X pins r c) (d:ZL h n a b i p) (hT:0<i->∃ vs,r p=some (.tup vs))
  (ex:xs[i]?=some x) (ey:ys[i]?=some y)
  (q:∀ g z m f,ZL g n a b (i+1) z->(z=h.objs.size\/(0<i/\z=p))->RelV x m->RelV y f->OI g h.objs.size m f->(∀ c o,c≠n+4->c≠n+3->c≠n->c≠n+1->h.get? c=some o->g.get? c=some o)->Q (some (.ref h.objs.size)) {s with heap:=g}) :
  Oe (Oc X.prog X.w) A (Gb (.ref (n+4))) Q E {s with heap:=h}:=by
 obtain⟨its,U,K,_⟩:=I.list (SqL.of P);obtain⟨W,F,L,_⟩:=I.list (SqL.of J);obtain⟨m,k,T⟩:=U.get ex;obtain⟨f,l,H⟩:=F.get ey;have D:=apart (ZbJ S P) (ZbJ S J);have N:n+2≠n+4:=So
 have V:n+2≠n+3:=Sq
 have R:n+2≠n:=Ss
 have M:n+2≠n+1:=Su
 rcases d.zz with ⟨rfl,G,u,v,pO⟩ | ⟨O,bb,G⟩
 exact wpAny_pyNext_zip_item D G d.pI pO d.j1 d.j2 K.isList L.isList (by simpa using k) (by simpa using l) fun g C o1 w t B _ j=>q g h.objs.size m f ⟨.inr ⟨CM _,_,C⟩,j _ _ N V R M d.pI,w,t⟩ (.inl rfl) T H B j
 obtain⟨vs,eT⟩:=hT O;refine L8 ((I.hok p _ eT)) fun _ _ _ r0 _=>?_;obtain⟨oT,gT,_⟩:=r0
 exact ZiE D G gT d.pI d.j1 d.j2 K.isList L.isList (by simpa using k) (by simpa using l) fun g C w t B j=>q g p m f ⟨.inr ⟨CM _,_,C⟩,j _ _ N R M d.pI,w,t⟩ (.inr ⟨O,rfl⟩) T H B fun c o c1 _ Z Y e=>j c o c1 Z Y e
def Zmk {n:VC} (t:A.handled=none) (I:Inv X pins σ f {s with heap:=h}) (m:f a=some (.lst xs)) (k:f b=some (.lst ys)) (p:∀ c∈[n+4,n+2,n+3,n,n+1],XB X pins f c) (d:ZL h n a b xs.length l) (J:0<xs.length->∃ vs,f l=some (.tup vs))
  (q:∀ g,(∀ c o,c≠n+4->c≠n+3->c≠n->c≠n+1->h.get? c=some o->g.get? c=some o)->Q none {s with heap:=g}):Oe (Oc X.prog X.w) A (Gb (.ref (n+4))) Q E {s with heap:=h}:=by
 obtain⟨x,F,r,_⟩:=I.list (SqL.of m);obtain⟨z,C,w,_⟩:=I.list (SqL.of k);have M:=F.length;have D:=apart (ZbJ p m) (ZbJ p k);rcases d.zz with ⟨P,j,u,v,K⟩ | ⟨H,O,j⟩
 exact wpAny_pyNext_zip_end t D j d.pI K d.j1 d.j2 r.isList w.isList (.inl (by simp;exact Nt M)) fun g i=>q g i;obtain⟨vs,L⟩:=J H;refine L8 ((I.hok l _ L)) fun _ _ _ r0 _=>?_;obtain⟨N,G,_⟩:=r0
 exact Zld t D j G d.pI d.j1 r.isList (by simp;exact Nt M) fun g i=>q g fun c o B _ y _ e=>i c o B y e
def Zif {n:VC} {a b S:VH} {xs ys} {res} (hh:A.handled=none) (hxy:ys.length=xs.length) (hxs:xs.length<=Od) (ha:H a=some (.lst xs)) (l:H b=some (.lst ys)) (J:∀ c∈[n+4,n+2,n+3,n,n+1],c≠S)
  (hR:∀ H' h' w c',Inv X pins σ H' {s with heap:=h'}->Same H H'->XB X pins H' S->h'.get? S=some {cls:=.type "list",data:=.seq w c'}->ZPs H' xs ys w xs.length->R (.ok (.ret res)) {s with heap:=h'}) :
  ∀ (k i) (m) (h) (t) (c) (T0),xs.length-i=k->i<=xs.length->Inv X pins σ m {s with heap:=h}->Same H m->(∀ c∈[n+4,n+2,n+3,n,n+1],XB X pins m c)->XB X pins m S->ZL h n a b i T0->(0<i->∃ vs,m T0=some (.tup vs)) ->
   h.get? S=some {cls:=.type "list",data:=.seq t c}->ZPs m xs ys t i->OF (Oc X.prog X.w) A (.builtin "list.extend.loop" ⟨[.ref S,.ref (n+4),res],[]⟩) R {s with heap:=h}:=by
 intro k;induction k with
 | zero =>
  intro i m h t c T0 hk hi I G K E zl hT hS y;have e:i=xs.length:=bq
  subst e;refine Ov F.entry_extend_loop ?_;rw[MW F.plain_extend_loop _];show Oe _ A.in1 (Gb (.ref (n+4)) >>= _) _ _ _;refine Oa (Zmk (A:=A.in1) hh I (G _ _ ha) (G _ _ l) K zl hT fun g L=>Ob ?_);have r:∀ {c},c∉[n+4,n+2,n+3,n,n+1]->c≠n+4/\c≠n+3/\c≠n/\c≠n+1:=fun {c} hc=>by
   simp only[Qs,Q7,or_false,T5]at hc;exact Mx hc
  have nS:S∉[n+4,n+2,n+3,n,n+1]:=fun z=>J S z rfl;refine Lx (r nS) fun q1 q2 q3 q4=>?_;exact hR m g t c (Inv.turnedM (s:={s with heap:=h}) (t':=s.toks) (ch:=[n+4,n+2,n+3,n,n+1]) I (fun b o l e=>L b o (r l).1 (r l).2.1 (r l).2.2.1 (r l).2.2.2 e) K) G E (L S _ q1 q2 q3 q4 hS) y
 | succ k ih =>
  intro i m h t c T0 hk hi I G K E zl hT hS y;have D:i<xs.length:=bq
  have x:i<ys.length:=Kj D hxy
  refine Ov F.entry_extend_loop ?_;rw[MW F.plain_extend_loop _];show Oe _ A.in1 (Gb (.ref (n+4)) >>= _) _ _ _;refine Oa (ZkG (A:=A.in1) I (G _ _ ha) (G _ _ l) K zl hT (Qa D) (Qa x) fun g T1 x' y' u hT1 rx ry pT L=>?_);have r:∀ {c},c∉[n+4,n+2,n+3,n,n+1]->c≠n+4/\c≠n+3/\c≠n/\c≠n+1:=fun {c} hc=>by
   simp only[Qs,Q7,or_false,T5]at hc;exact Mx hc
  have nS:S∉[n+4,n+2,n+3,n,n+1]:=fun z=>J S z rfl;apply La;intros;obtain⟨q1,q2,q3,q4⟩:=r nS;have hS2:=L S _ q1 q2 q3 q4 hS;have hfr:m h.objs.size=none:=I.hok.fresh (Qh _);have I2:Inv X pins σ (upd m h.objs.size (.tup [xs[i],ys[i]])) {s with heap:=g}:=Inv.laidM (s:={s with heap:=h}) (a:=h.objs.size) (t':=s.toks) (o:=.tup [xs[i],ys[i]]) (ch:=[n+4,n+2,n+3,n,n+1]) I (fun b o l e=>L b o (r l).1 (r l).2.1 (r l).2.2.1 (r l).2.2.2 e) K (Qh _)
   ⟨(show 2<=Od by rw[Oz];decide),[x',y'],.cons rx (.cons ry .nil),⟨_,pT,rfl,_,rfl⟩,fun o q=>by rw[pT]at q;cases q;rfl⟩
  have s2:Same m (upd m h.objs.size (.tup [xs[i],ys[i]])):=Zb hfr;have ltz:∀ b∈[n+4,n+2,n+3,n,n+1],b<h.objs.size:=fun b l=>by
   have z4:n+4<h.objs.size:=by
    rcases zl.zz with ⟨_,M,_⟩ | ⟨_,_,M⟩
    exact Ql M
    exact Ql M
   have hb':b=n+4\/b=n+2\/b=n+3\/b=n\/b=n+1:=by simpa using l
   lia
  have up:∀ {b},b<h.objs.size->XB X pins m b->XB X pins (upd m h.objs.size (.tup [xs[i],ys[i]])) b:=fun {b} l f=>⟨by exact Zi (QB l)▸f.1,f.2⟩
  have hf2:∀ b∈[n+4,n+2,n+3,n,n+1],XB X pins (upd m h.objs.size (.tup [xs[i],ys[i]])) b:=fun b l=>up (ltz b l) (K b l);have C:=up (Ql hS) E;show Oe _ A.in1 (updateSeq S (·.push (.ref h.objs.size)) >>= _) _ _ _;refine Oa (OC (hz:=by rw[y.1];exact Me hxs D) (_hz':=by rw[WL,y.1];lia) hS2 rfl ?_);have kS:∀ b o,b≠S->g.get? b=some o->(g.update S (NF (·.push (Value.ref h.objs.size)))).get? b=some o:=fun b o l e=>(QG _ _ (VS l)).trans e;refine Ob ⟨Oy F.plain_extend_loop _,ih (i+1) _ _ _ _ T1 br D (Inv.turnedM (s:={s with heap:=g}) (t':=s.toks) (ch:=[S]) I2 (fun b o l e=>kS b o (by simpa using l) e) (fun b l=>by exact Qq.mp l▸C)) (G.trans s2) hf2 C ?_ (fun _=>?_) (QQ _ hS2 rfl) ⟨by simp[y.1],fun j hj=>?_⟩⟩
  have d:∀ {c},c∈[n+4,n+2,n+3,n,n+1]->∀ o,g.get? c=some o->(g.update S (NF (·.push (Value.ref h.objs.size)))).get? c=some o:=fun {c} hc o e=>kS c o (J c hc) e;refine⟨?_,d bo _ u.pI,u.j1.at fun o e=>d bo o e,u.j2.at fun o e=>d bo o e⟩;apply La;intros;rcases u.zz with ⟨z,_⟩ | ⟨z,bb,M⟩
  lia
  exact .inr ⟨z,bb,d bo _ M⟩
  rcases hT1 with z | ⟨z,z2⟩
  exact z▸⟨_,Zd⟩
  obtain⟨vs,e⟩:=hT z;exact z2▸⟨vs,s2 _ _ e⟩
  apply La;intros;by_cases ej:j=i
  subst ej;exact⟨h.objs.size,xs[j],ys[j],by simp[←y.1],Qa D,Qa x,Zd⟩
  obtain⟨T,x1,y1,e1,e2,e3,e4⟩:=y.2 j (Ky hj ej);refine⟨T,x1,y1,?_,e2,e3,s2 _ _ e4⟩;rw[Array.getElem?_push,if_neg (by exact y.1▸ej)];exact e1
end
def Zn7 (ta:TA):TE:=fun σ H Q=>ta σ H fun vs H1=>∃ (a b:VH) (xs ys:VA V),vs=[.ref a,.ref b]/\H1 a=some (.lst xs)/\H1 b=some (.lst ys)/\ys.length=xs.length /\
 ∀ (p:VH) (vs':VA V) (H2:Hp),Same H1 H2->H1 p=none->H2 p=some (.tup vs')->vs'.length=xs.length->(∀ (j:VC) (x y:V),xs[j]?=some x->ys[j]?=some y->∃ T:VH,vs'[j]?=some (.ref T)/\H2 T=some (.tup [x,y]))->Q (.ref p) H2
def ZgF {S C D k} (N:X.calm=true) (U:Gl X "tuple") (hmt:X.mg "tuple" = none) (Z:Gl X "zip") (hmz:X.mg "zip" = none) (ha:PA X [l,n] ta)
  (E:Oi [.Call (.Name "zip" C) [l,n] [] k] X.env=[(false,NQ (.Call (.Name "zip" C) [l,n] [] k) X.env)]:=by rfl) (hs2:Oi [l,n] X.env=(false,NQ l X.env)::Oi [n] X.env:=by rfl) (P:(OE k (Oi [n] X.env)).any (·.1)=false:=by rfl) :
  PE X (.Call (.Name "tuple" S) [.Call (.Name "zip" C) [l,n] [] k] [] D) (Zn7 ta):=by
 intro m s σ H Q I h;refine OA (YQ I U hmt YX (VY ?_ E rfl) (by decide) (by decide));rw[E];refine NL (OA (YQ I Z hmz ZnG (VY (thn (ha k m s σ H _ I h) fun us f ⟨vs,L,A,r1,q1⟩=>?_) hs2 P) (by decide) (by decide)));obtain⟨a,b,p,ys,rfl,h1,h2,O,q⟩:=q1;obtain⟨u,u',rfl,rfl,rfl⟩:=ZeR r1;obtain⟨its,rv,S,R⟩:=A.list (SqL.of h1);obtain⟨jts,rw',C,_⟩:=A.list (SqL.of h2);refine call_zip_2 S.isList C.isList fun g z1 z2 z3 z4 z5 Y kk=>NZ ?_;have J:p.length<=Od:=R;refine ZaD z1 fun g1 c1 r l=>?_;have hS:({f with heap:=g}:VF).heap.objs.size=f.heap.objs.size+5:=Y;rw[hS]at l ⊢;have I2:Inv X m σ L {f with heap:=g1}:=A.kept (t':=f.toks) fun b o e=>r b o (kk b o e);have fp:∀ {c:VH},f.heap.objs.size<=c->XB X m L c:=fun B=>A.fpOk B (A.hok.fresh B);refine Zif (A:=X.A.in1.in1) (X:=X) (pins:=m) (σ:=σ) (H:=L) (s:=f) (n:=f.heap.objs.size) (a:=a) (b:=b) (xs:=p) (ys:=ys) (show X.A.in1.in1.handled=none from I.ok.hd N) O J h1 h2 (fun c N=>?_) (fun H' t d c' I' s' fS eS K=>?_) p.length 0 L g1 #[] c1 0 rfl (QN _) I2 (Same.refl _) (fun c N=>?_) (fp (Ut _ _)) ⟨.inl ⟨rfl,r _ _ z1,_,_,r _ _ z3⟩,r _ _ z2,z4.at fun o e=>r _ o e,z5.at fun o e=>r _ o e⟩ (fun z=>VM z (Q2 _)) l ⟨rfl,fun j hj=>VM hj (Wn _)⟩
 have W:c=f.heap.objs.size+4\/c=f.heap.objs.size+2\/c=f.heap.objs.size+3\/c=f.heap.objs.size\/c=f.heap.objs.size+1:=by simp_all
 omega
 refine⟨d,c',rfl,eS,by rw[K.1];omega,?_⟩;have F:(d.toList.map fun v=>match v with | Value.ref T=>V.ref T | _=>V.non).length=p.length:=by rw[Qd,Qx,K.1]
 have G:∀ (j:VC) (x y:V),p[j]?=some x->ys[j]?=some y->∃ T:VH,d[j]?=some (Value.ref T)/\H' T=some (.tup [x,y]):=fun j x y ex ey=>by
  obtain⟨T,x1,y1,l,n,_⟩:=K.2 j (Qj.mp ex).1
  simp_all
 have hf:H' t.objs.size=none:=I'.hok.fresh (Qh _);have s2:=Zb (o:=.tup (d.toList.map fun v=>match v with | Value.ref T=>V.ref T | _=>V.non)) hf;refine⟨.ref t.objs.size,_,I'.laid (s:={f with heap:=t}) (t':=f.toks) (a:=t.objs.size) (o:=.tup (d.toList.map fun v=>match v with | Value.ref T=>V.ref T | _=>V.non)) (h':=t.push {cls:=.type "tuple",data:=.seq d}) (fun b u e=>Qc _ e) (Qh _) ?_,rfl,q t.objs.size _ _ (s'.trans s2) (s'.free hf) Zd F fun j x y ex ey=>?_⟩
 refine ⟨by omega,d.toList,ZdU _ _ (by simp) fun i w u l n=>?_,⟨_,Qk _ rfl,rfl,0,by simp⟩,Zbx rfl rfl⟩;have hi:i<p.length:=by exact F▸(Qj.mp l).1
 obtain⟨T,_,_,eT,_⟩:=K.2 i hi;rw[←QW,n]at eT;cases eT;rw[Qi,n]at l;cases l;rfl
 obtain⟨T,l,n⟩:=G j x y ex ey;refine⟨T,?_,s2 _ _ n⟩;rw[Qi,QW,l];rfl
 have W:c=f.heap.objs.size+4\/c=f.heap.objs.size+2\/c=f.heap.objs.size+3\/c=f.heap.objs.size\/c=f.heap.objs.size+1:=by simpa using N
 exact fp (by omega)
open PySem PySem.Spec PyProof.Rows PySem.Builtin.Str
def ZkK {us} (r:Vals xs us):∀ {i:VC} {x} {u},xs[i]?=some x->us[i]?=some u->RelV x u:=by
 induction r with
 | nil=>simp
 | cons r1 r2 ih =>
  grind
end L2
namespace L2
open PySem PySem.Spec PyProof.Rows PySem.Builtin.Str
def Zg8 (K) (J:X.K=K:=by rfl):MtR X "list.index" (fun x vs H Q=>∃ (p:VH) (xs:VA VN) (y:VN) (j:VC),x= .ref p/\vs=[.int y]/\SqL K H p (xs.map V.int)/\xs[j]?=some y/\(∀ i,i<j->xs[i]?≠some y)/\Q (.int j) H):=by
 subst J;intro A s σ H x vs v Z Q I L S h;obtain⟨p,xs,y,j,rfl,rfl,C,u,k,q⟩:=h;cases L;obtain⟨N,rfl,W⟩:=XL S;obtain⟨a,r,U,f⟩:=I.list C;have d:=r.length;rw[Qd]at d;have E:(xs.map V.int).all ZbL=true:=UJ.mpr fun z f=>by
  obtain⟨w,_,rfl⟩:=Q6.mp f;rfl
 have b:∀ (m:VC) (o:m<a.toArray.size),eqU (.int y) a.toArray[m]=(xs.getD m 0==y):=fun m o=>by
  have g:m<a.length:=by omega
  have P:m<xs.length:=by omega
  have T:(xs.map V.int)[m]?=some (V.int xs[m]):=by simp
  rw[show a.toArray[m]=a[m]from rfl,ZhQ (ZkK r T (Qa g)) rfl,Qb,Qa P];rfl
 have Y:=(Qj.mp u).1;have O:=Oz;obtain⟨⟨M,G,l,F⟩,t,D,n,B⟩:=id U.isList;subst D B;refine Gz PySem.F.slot_list_index ⟨_,t,rfl⟩ PySem.F.entry_list_index (PySem.F.args_list_index_2 _ _) (SeqAt.list_indexAt p a.toArray n G F N _ j (by simpa using (by omega)) (by rw[Qd]at f;omega) ?_ ?_) ⟨t,fun w hw=>JG W rfl r E w (by simp_all),⟨.int _,H,I.tok _,⟨_,rfl⟩,q⟩⟩
 rw[b,Qb,u];simp
 intro m o e;rw[b];have:=k m e;rw[Ru];intro c
 simp_all
open PySem PySem.Spec PyProof.Rows
end L2
namespace Sh
open PySem L2 PyProof.Rows
seal PE PS PSs PT PW L2.PA PI PG PGs PO PC PCs OpR UnR CallR MtR IxR SlR
noncomputable def prE (Ps:VA VI) (u:VC->VN):Es:=(Qz Ps.length).map fun i=>(Ps.getD i "",u i)
def Zl4 (f) (h:m<=n):Zfr (arr n f) none (some m)=arr m f:=by
 rw[Zky (by rw[ZX];exact h)];refine QY fun j=>?_;by_cases a:j<m
 rw[U1 a,Yi _ (Sm h a),Yi _ a];rw[Qr (by rw[QD];lia),Qr (by rw[ZX];exact Kr a)]
section
variable {P:Oh} {w:Ol} {K:VB} {mg:VI->VE VG} {base:Nu}
abbrev Zc6:Mv:=top 35
noncomputable abbrev ZlC:VA VI:=["points","prices"]
def Zis:Zp ZlC ["points","prices"] (Zf Zc6):=⟨rfl,rfl,rfl,bh,rfl,bh,bh⟩
def Zd8:Sp:=fun vs H Q _=>∃ (a b:VH) (Ps:VA VI) (u:VC->VN) (n:VC),vs=[.ref a,.ref b]/\H a=some (.lst (Ps.map V.str))/\H b=some (.lst (arr n fun i=>.int (u i)))/\Ps.length<=n/\∀ v H',Same H H'->HeapV H' v (prE Ps u)->Q v H'
def ZgP (D:HasDef K mg "priced" Zc6 ["points","prices"]) (B:Blt mg):FOk P w K mg base 1 "priced" ["points","prices"] Zd8:=by
 refine D.ok Zis (fun I H Q E h=>?_) fun f J A o s H I Q E O h=>?_;obtain⟨a,b,j,u,n,rfl,_⟩:=h;rfl;apply Lb;intros;apply La;intros;obtain⟨a,b,j,u,n,rfl,v,N,y,k⟩:=h;refine ⟨_,Zj (Zu (ZgF rfl rfl B.tuple rfl B.zip (Za (pv 0) (Za (Zr XN (pv 1) Zy (Zv (Zk Zn rfl B.len ZG (Za (pv 0) Ze)))) Ze)))),⟨_,rfl,_,rfl,_,rfl,_,_,rfl,.inl ⟨_,SqL.of v,rfl⟩,_,rfl,b,_,rfl,SqL.of N,fun p M=>?_⟩⟩;rw[Qd,Zl4 _ y];have x:=Zb (o:=.lst (arr j.length fun i=>.int (u i))) M;refine Pg a p _ _ ⟨rfl,x _ _ v,Zd,by rw[ZX,Qd],fun q m L C _ z l g=>k _ L (x.trans C) ⟨q,m,rfl,z,?_,fun i e r=>?_⟩⟩;rw[l];unfold prE;simp;unfold prE at r;rw[Qi]at r;obtain⟨R,d,rfl⟩:=WB.mp r;have c:=by
  have:=(Qj.mp d).1;simpa using this
 rw[Wd c]at d;cases d;obtain⟨T,G,F⟩:=g i (.str (j.getD i "")) _ (by rw[Qi,Qb,Qa c];rfl) (Yi _ c);exact⟨T,G,F⟩
end
def Xd:∀ {es},(∀ e∈es,0<=e.2)->((flatE es).length)=sm es
 | [],_=>rfl
 | e::es,h=>by
  have b:=Xd fun x c=>h x (Qm _ c);have:=h e Qo;rw[YH,Qg,Wb];unfold sm at b ⊢;rw[Q3,Wc];lia
def Y3 (h:e∈ups f ss):e.1∈ss/\0<e.2/\e.2=f e.1:=by
 obtain⟨x,b,rfl⟩:=Q6.mp h;obtain⟨a,c⟩:=Wf.mp b;exact⟨a,MC c,rfl⟩
noncomputable def Ef (es:Es) (ss:VA VI):VA VI:=flatE (ups (fun y=>-mo es y) ss)
def Bf (es:Es) (ss:VA VI):VA VI:=flatE (ups (mo es) ss)
def ZS (h:x∈flatE (ups f ss)):x∈ss/\0<f x:=by
 obtain⟨e,a,rfl⟩:=(Y2 fun e a=>by have:=(Y3 a).2.1;lia x).mp h;obtain⟨g,d,c⟩:=Y3 a
 simp_all
section
variable {es:Es} {ss:VA VI} {L:VC}
def Zjw (hS:SPts es ss):(Ef es ss).length=(Bf es ss).length:=by
 have h1:=Xd (es:=ups (fun y=>-mo es y) ss) fun e he=>by have:=(Y3 he).2.1;exact Tm this
 have h2:=Xd (es:=ups (mo es) ss) fun e he=>by have:=(Y3 he).2.1;exact Tm this
 have h3:=ZfC (mo es) ss;have h4:=ZjI hS.pts.nd fun e he=>⟨(hS.pts.mem _).mpr ⟨e,he,.inl rfl⟩,(hS.pts.mem _).mpr ⟨e,he,.inr rfl⟩⟩
 unfold Ef Bf;lia
noncomputable def Zj9 (es:Es) (p:VI):VN:=(es.map fun e=>e.2*ind (bg e.1=p)).sum
def Zkt (p) [Fh p]:0<=ind p/\ind p<=1:=by
 unfold ind;lia
def Zdt:∀ {es},(∀ e∈es,0<=e.2)->∀ p,mo es p<=Zj9 es p/\0<=Zj9 es p
 | [],_,p=>by simp[mo,Zj9]
 | e::es,h,p=>by
  have d:=Zdt (fun x f=>h x (Qm _ f)) p;have c:=h e Qo;have a:=RI c (Zkt (bg e.1=p)).1;have b:=RI c (Zkt (en e.1=p)).1;rw[Zdv];unfold Zj9 at d ⊢;rw[Q3,Wc];unfold mo1;omega
def ZdY (a:ks.Nodup):∀ {es},(∀ e∈es,0<=e.2)->tot (Zj9 es) ks<=sm es
 | [],_=>by
  have:Zj9 []=fun _=>0:=by rfl
  rw[this,Za9];exact Uu _
 | e::es,h=>by
  have b:=ZdY a fun x d=>h x (Qm _ d);have f:=h e Qo;have c:Zj9 (e::es)=fun p=>e.2*ind (bg e.1=p)+Zj9 es p:=by
   rfl
  rw[c,Zbb,Zba e.2 _ ks a];unfold sm at b ⊢;rw[Q3,Wc];lia
def ZnF (c:SPts es ss) (b:∀ e∈es,0<=e.2):(Bf es ss).length<=(flatE es).length:=by
 have i:=Xd (es:=ups (mo es) ss) fun e d=>by have:=(Y3 d).2.1;exact Tm this
 have h:=Xd b;have f:=ZjG (fun x=>(Zdt b x).1) (fun x=>(Zdt b x).2) ss;have g:=ZdY c.pts.nd b;unfold Bf;lia
def Zcb (b:SPts es ss) (f:∀ e∈es,e.1.length=L) (g:1<=L):∀ x∈ss,x.length=L-1:=fun x c=>by
 obtain⟨e,d,q⟩:=(b.pts.mem x).mp c;have:=f e d;rcases q with q | q
 rw[←q];unfold bg;rw[Zs,UN,ZF,this];rw[←q];unfold en;rw[Zs,Wi,ZF,this]
end
section
variable {n:VC} {cost:VC->VC->VN} {S:Pst}
def Xs (h:Mat n cost n S):∀ j,j<n->∃ r,r<n/\S.ra j=some r:=fun j s=>by
 cases e:S.ra j with
 | some r=>exact⟨r,(h.tight j r s e).1,rfl⟩
 | none =>
  have k:=h.all;have v:((Qz n).map fun i=>if l:i<n then (k i l).choose else 0).Nodup:=by
   refine Wt.mpr (RT (fun {x y} m t q z=>?_) Ul);have d:=Qu.mp m;have g:=Qu.mp t;rw[FE d,FE g]at z;have a:=(k x d).choose_spec.2;have b:=(k y g).choose_spec.2;rw[z,b]at a;cases a;exact (Mw q).elim
  have:=ZaO (ks:=(Qz n).erase j) v fun x m=>by
   obtain⟨i,l,rfl⟩:=Q6.mp m;have f:=Qu.mp l;rw[FE f];obtain⟨a,b⟩:=(k i f).choose_spec;exact (List.Nodup.mem_erase_iff Wp).mpr ⟨fun z=>bp,Qu.mpr a⟩
  rw[Qd,Wx (Qu.mpr s),QU]at this;exact (My this s).elim
end
def Zi9 (f:VC->NY):∀ k,f k=true->∃ m,m<=k/\f m=true/\∀ j,j<m->f j=false:=by
 intro k;induction k using Nat.strongRecOn with
 | ind k a =>
  grind
def X2 (h:x.length=y.length):Least x.cps.toList y.cps.toList (ltr x y):=by
 have d:x.cps.toList.length=y.cps.toList.length:=by assumption
 obtain⟨m,b,a,c⟩:=Zi9 (Zib x.cps.toList y.cps.toList) x.cps.toList.length (by
  unfold Zib;rw[←d,Wv];simp)
 have q:Least x.cps.toList y.cps.toList m:=⟨b,a,c⟩
 rw[Zkh q];omega
def Zhc (h:x.length=y.length) (a:x≠y):1<=ltr x y:=by
 by_cases e:ltr x y=0
 exfalso;have b:=(X2 h).2.1;rw[e]at b;have c:=MC b;rw[Rb,Nat.sub_zero,Q8]at c;apply a;rw[←tx_eta x,←tx_eta y,c];exact Vu e
def Zeu (h:x.length=y.length):ltr x y<=x.length:=by
 have:=(X2 h).1
 assumption
section
variable {E Bg:VA VI} {S:Pst} {L:VC}
def Jt (i j):0<=Ym E a i j:=by
 unfold Ym;lia
def Zfu (m:E.length=Bg.length) (u:∀ x∈E,x.length=L) (p:∀ x∈Bg,x.length=L) (f:∀ x∈E,∀ y∈Bg,x≠y) (d:Mat (Bg.length+1) (Ym E Bg) (Bg.length+1) S) (D:0<Bg.length) (l:j<Bg.length+1) (e:S.ra j=some E.length):j<Bg.length:=by
 by_cases z:j<Bg.length
 exact z
 have k:j=Bg.length:=V5 l z
 subst k;obtain⟨r,v,h⟩:=Xs d 0 (Kz D);have g:r<E.length:=by
  by_cases q:r<E.length
  exact q
  have s:r=E.length:=Sw v m q
  subst s;have:=d.inj 0 Bg.length _ (Kz D) Kx h e;exact (V6 D this).elim
 have o:=(d.tight 0 r (Kz D) h).2;have t:=(d.tight _ _ l e).2;have n:=d.feas r Bg.length (Tf m g) Kx;have i:=d.feas E.length 0 (Th m) (Kz D);have C:1<=Ym E Bg r 0:=by
  unfold Ym;have a:E.getD r ""∈E:=by rw[Qb,Qa g];simp
  have b:Bg.getD 0 ""∈Bg:=bp
  have:=Zhc (by rw[u _ a,p _ b]) (f _ a _ b);lia
 have B:Ym E Bg r Bg.length=0:=by unfold Ym;lia
 have A:Ym E Bg E.length 0=0:=by unfold Ym;lia
 have w:Ym E Bg E.length Bg.length=0:=by unfold Ym;lia
 unfold red at o t n i;lia
end
noncomputable def TF (es:Es) (ss:VA VI) (S:Pst):T3:=(flatE es).map Zmc++lnk (Ef es ss) (Bf es ss) S.ra (Bf es ss).length
noncomputable def stF (e0:VI×VN) (Bg:VA VI) (j:VC):VI:=if Bg.length=0 then bg e0.1 else Bg.getD j ""
structure ZjF (es:Es) (ss:VA VI) (S:Pst) (j:VC):Prop where
 pts:SPts es ss
 all:PAll ((Bf es ss).length+1) (Ym (Ef es ss) (Bf es ss)) S00 ((Bf es ss).length+1) S
 at_:0<(Bf es ss).length->j<(Bf es ss).length/\S.ra j=some (Ef es ss).length
def ZpV (H:Hp) (v:V) (e0:VI×VN) (es:Es):Prop:=∃ q p1 p2 ss S j,v= .ref q/\ZjF es ss S j/\H q=some (.tup [Zot (tf (TF es ss S) (stF e0 (Bf es ss) j)),p1,p2])/\HeapV H p1 (prE (Ef es ss) S.rp)/\HeapV H p2 (prE (Bf es ss) S.cp)
def ZbW (e0:VI×VN) (es:Es):Prop:=∀ e'∈es,Rch es (bg e0.1) (bg e'.1)
def TbOk.same (h:TbOk a H) (s:Same H b):TbOk a b:=ZeU (l:=[]) h (fun x u _ e=>s x u e) fun _ _ z=>nomatch z
def HeapV.btl (h:HeapV H v es) (B:Btl l H c) (g:∀ x u,x∈l->H x=some u->∀ ys,u≠.tup ys):HeapV c v es:=by
 obtain⟨q,j,e,m,a⟩:=h;have d:∀ {x ys},H x=some _->c x=some (.tup ys):=fun {x ys} e=>B x _ (fun z=>g x _ z e _ rfl) e;exact⟨q,j,e,d m,a.1,fun i x q=>let ⟨b,k,f⟩:=a.2 i x q;⟨b,k,d f⟩⟩
def ZdA (h:t∈lnk E Bg ra i) (hi:i<=Bg.length):∃ x∈E,∃ y∈Bg,t=(x,lbl x y,y):=by
 obtain⟨j,hj,hm⟩:=UK.mp h;have hj':=Qu.mp hj;unfold Zfg at hm;cases e:ra j with
 | none=>simp_all
 | some r =>
  rw[e]at hm;have hm:t∈if r<E.length then [(E.getD r "",lbl _ _,Bg.getD j "")]else []:=hm
  by_cases hr:r<E.length
  rw[VD hr]at hm;exact⟨_,Yl hr,_,Yl (Sm hi hj'),Qq.mp hm⟩
  simp_all
def ZdD (h:x.length=y.length):(lbl x y).length=ltr x y:=by
 unfold lbl;have:=Zeu h;rw[Zs,Wi,ZF];lia
def Zf5:∀ {es},(∀ e∈es,0<=e.2)->∀ e∈es,e.2<=sm es
 | [],_,e,a=>by grind
 | x::es,h,e,a=>by
  have f:=h x Qo;have c:=Zf5 fun y b=>h y (Qm _ b);have d:=by
   have:=Xd fun y b=>h y (Qm _ b);omega
  unfold sm at c d ⊢;rw[Q3,Wc];rcases Qs.mp a with rfl | a
  lia;have:=c e a;lia
def TyL.app (h:TyL H f T) (h':TyL H a g):TyL H (f++a) (T++g):=by
 refine⟨by rw[Qg,Qg,h.1,h'.1],fun i t e=>?_⟩;by_cases d:i<T.length
 rw[QF d]at e;obtain⟨b,j,c⟩:=h.2 i t e;exact⟨b,by rw[QF (by rw[h.1];exact d)];omega,c⟩;rw[QC (Kr d)]at e;obtain⟨b,j,c⟩:=h'.2 _ t e;exact⟨b,by rw[QC (by rw[h.1];exact Kr d),h.1];omega,c⟩
section
variable {P:Oh} {w:Ol} {K:VB} {mg:VI->VE VG} {base:Nu} {C Pt CA:VH} {bm:VA VG}
abbrev Zdb:Mv:=top 36
noncomputable abbrev ZlG:VA VI:=["H","ends","begins","pairing","start","text"]
def scFilled:Zp ZlG ["H"] (Zf Zdb):=⟨rfl,rfl,rfl,bh,rfl,bh,bh⟩
def Zbe (Pt CA:VH):Sp:=fun vs H Q E=>∃ (v:V) (e0:VI×VN) (es0:Es) (L:VC),vs=[v]/\HeapV H v (e0::es0)/\Hpy (e0::es0) L/\L<=100/\(flatE (e0::es0)).length<=190/\TbOk Pt H /\
 (ZbW e0 (e0::es0)->∀ v' H',Btl [Pt] H H'->TbOk Pt H'->ZpV H' v' e0 (e0::es0)->Q v' H')/\(¬ ZbW e0 (e0::es0)->∀ H',Same H H'->E (.ref CA) none H')
def ZgX (D:HasDef K mg "filled" Zdb ["H"]) (B:Blt mg) (T:PgC K mg C) (c:XCls K mg "Apart" CA bm) (g23_:FOk P w K mg base 6 "hangs" ["H"] Zf1) (g38_:FOk P w K mg base 6 "spread" ["rows"] Zd7) (g21_:FOk P w K mg base 6 "ends_of" ["H"] ZjS) (g18_:FOk P w K mg base 6 "begins_of" ["H"] Zec)
  (g24_:IOk0 P w K mg base C 5 ["self","costs"] (Zf0 C Pt)) (g19_:FOk P w K mg base 6 "cost_table" ["ends","begins"] ZjU) (g17_:FOk P w K mg base 6 "begin_of" ["piece"] Zc2) (g40_:FOk P w K mg base 6 "text_from" ["ties","begin"] Zo4) (g42_:FOk P w K mg base 6 "ties_of" ["H"] Zd6)
  (g28_:FOk P w K mg base 6 "links_of" ["pairing","ends","begins"] (ZfT C)) (g34_:FOk P w K mg base 6 "priced" ["points","prices"] Zd8):Zmj P w K mg base 7 "filled" ["H"] (Zbe Pt CA):=by
 refine D.okX scFilled (fun vs H Q E h=>?_) (fun f cdv A outer s vs H Q E L hr h=>?_)
 obtain⟨v,k,g,L,rfl,_⟩:=h;rfl
 apply Lb;intros;apply La;intros;obtain⟨v,k,g,Ln,rfl,hV,hy,hL,htot,ht,kQ,kE⟩:=h;refine ⟨_,(Zc (Ya (Xm (YI (ZH g23_ hr (Za (pv 0) Ze)))) (Zj (ZiB L c rfl (Za J9 Ze))) ZD)
  (Zc (Zm 1 scFilled.nd (ZH g38_ hr (Za (ZH g21_ hr (Za (pv 0) Ze)) Ze)))
  (Zc (Zm 2 scFilled.nd (ZH g38_ hr (Za (ZH g18_ hr (Za (pv 0) Ze)) Ze)))
  (Zc (Zm 3 scFilled.nd (ZmO g24_ hr T.mgC (Za (ZH g19_ hr (Za (pv 1) (Za (pv 2) Ze))) Ze)))
  (Zc (Zm 4 scFilled.nd (ZH g17_ hr (Za (ZA ix_tup (ZA ix_tup (pv 0) Zg) Zg) Ze)))
  (Zc (Ya (Zt Zcj (Zk Zn rfl B.len ZG (Za (pv 2) Ze)) Zg (Zz _)) (Zj (Zm 4 scFilled.nd (ZA ix_list (pv 2) (XS F.plainAttrs_list F.slot_list_index F.type_list_index (Zg8 K) (ZQ (pv 3) rfl) (Za (Zk Zn rfl B.len ZG (Za (pv 1) Ze)) Ze))))) ZD)
  (Zc (Zm 5 scFilled.nd (ZH g40_ hr (Za (Zo XH (ZH g42_ hr (Za (pv 0) Ze)) (ZH g28_ hr (Za (pv 3) (Za (pv 1) (Za (pv 2) Ze))))) (Za (pv 4) Ze))))
  (Zj (Zu (J2 (Za (pv 5) (Za (ZH g34_ hr (Za (pv 1) (Za (ZQ (pv 3) rfl) Ze))) (Za (ZH g34_ hr (Za (pv 2) (Za (ZQ (pv 3) rfl) Ze))) Ze))))))))))))),⟨_,rfl,v,k,g,rfl,hV,hy.fine,fun H1 b s1 hb=>⟨_,rfl,?_⟩⟩⟩;apply La;intros;cases b with
 | false =>
  refine ZnW ⟨(show 1<=Od by rw[Oz];decide),kE (fun q=>?_) H1 s1⟩;have:=hb.mpr q
  simp_all
 | true =>
  have hh:ZbW k (k::g):=hb.mp rfl;refine ZoE ?_;have h0:∀ e∈k::g,0<=e.2:=fun e he=>(hy.fine.many e he).1;refine⟨_,rfl,v,k::g,rfl,hV.same s1,hy.fine,fun v2 H2 l s2 hV2 hS=>?_⟩;have hEB:=Zjw hS;have hBl:=ZnF hS h0;have hEl:(Ef (k::g) l).length<=190:=br
  have bd:∀ {f:VI->VN},(flatE (ups f l)).length<=190->∀ e∈ups f l,0<=e.2/\e.2<=1000:=fun {f} hl e he=>by
   have h1:=(Y3 he).2.1;have h2:=Zf5 (es:=ups f l) (fun x hx=>by have:=(Y3 hx).2.1;exact Tm this) e he;have h3:=Xd (es:=ups f l) fun x hx=>by have:=(Y3 hx).2.1;exact Tm this
   lia
  refine⟨v2,_,rfl,hV2,bd hEl,by unfold Ef at hEl;exact Sx hEl,fun qe H3 s3 nqe hqe=>?_⟩;have s13:=(s1.trans s2).trans s3;refine⟨_,rfl,v,k::g,rfl,hV.same s13,hy.fine,fun v4 H4 ss' s4 hV4 hS'=>?_⟩;obtain rfl:=hS.one hS';have hBl':(flatE (ups (mo (k::g)) l)).length<=190:=by have:=hBl;unfold Bf at this;exact Vx htot this
  refine⟨v4,_,rfl,hV4,bd hBl',Sx hBl',fun qb H5 s5 nqb hqb=>?_⟩;have s35:=s4.trans s5;have s15:=s13.trans s35;have hqe5:H5 qe=some (.lst ((Ef (k::g) l).map V.str)):=s35 _ _ hqe;replace hqb:H5 qb=some (.lst ((Bf (k::g) l).map V.str)):=hqb;have plen:=Zcb hS hy.len hy.l1;have hEp:∀ x∈Ef (k::g) l,x.length=Ln-1:=fun x hx=>plen x (ZS hx).1;have hBp:∀ x∈Bf (k::g) l,x.length=Ln-1:=fun x hx=>plen x (ZS hx).1;refine⟨_,rfl,_,rfl,Pe qe qb (Ef (k::g) l) (Bf (k::g) l) (Ln-1) ⟨rfl,hqe5,hqb,hEB,Sy hEl,Sz hL,hEp,hBp,fun cst rows H6 s6 hc6=>?_⟩⟩;intro x dx nx ndx hdx;have sN:Same H6 (upd (upd H6 dx (.own x)) x (.ins C dx [])):=fun y u e=>by
   rw[Zi (Zh e nx),Zi (Zh e ndx)];omega
  have tN:TbOk Pt (upd (upd H6 dx (.own x)) x (.ins C dx [])):=(ht.same (s15.trans s6)).same sN;refine Pj x dx cst rows _ _ ⟨rfl,Zd,⟨sN _ _ hc6.hc,hc6.rl,fun i hi=>sN _ _ (hc6.hr i hi)⟩,br,fun i j _ _=>Jt i j,tN,fun Ad S H7 hA B7 t7 P7=>⟨rfl,?_⟩⟩;have B67:Btl [Pt] H6 H7:=fun y u hy e=>B7 y u (by
   simp only[Qs,Q7,or_false,T5]at hy ⊢;exact⟨hy,Zh e nx⟩) (sN y u e)
  have B07:Btl [Pt] H H7:=(Btl.of (s15.trans s6)).trans B67;have ntup:∀ {H':Hp},TbOk Pt H'->∀ y u,y∈[Pt]->H' y=some u->(∀ ys,u≠.tup ys)/\∀ ys,u≠.lst ys:=fun {H'} tb y u hy e=>by
   rw[Qq.mp hy]at e;rcases tb with z | ⟨_,z,_⟩
   rw[z]at e;cases e;simp
   rw[z]at e;cases e;simp
  have t6:TbOk Pt H6:=ht.same (s15.trans s6);have hV7:HeapV H7 v (k::g):=hV.btl B07 fun y u hy e=>(ntup ht y u hy e).1;have up7:∀ {y ys},H6 y=some (.lst ys)->H7 y=some (.lst ys):=fun {y ys} e=>B67 y _ (fun z=>(ntup t6 y _ z e).2 _ rfl) e;have hqe7:=up7 (s6 _ _ hqe5);have hqb7:=up7 (s6 _ _ hqb);apply La;intros;obtain⟨q,vs,rfl,hq,hpa⟩:=id hV7;obtain⟨b0,b1,b2⟩:=hpa.2 0 k rfl;have l0:=hy.fine.long k Qo;have hM:=hA.mat (fun i j _ _=>Jt i j) (Qh _);have hall:=Xs hM;refine⟨_,rfl,q,vs,0,.ref b0,rfl,rfl,SqT.of hq,Xh b1,b0,_,0,_,rfl,rfl,SqT.of b2,rfl,k.1,rfl,l0.1,l0.2,?_⟩
  try dsimp only[Js]
  apply J1;intros;show Zd1 (ZkN _ _ _) _ _ _ _;refine Z0 (fun σ H'=>∃ j,ZjF (k::g) l S j/\H'=H7/\σ=[some (.ref q),some (.ref qe),some (.ref qb),some (.ref x),some (.str (stF k (Bf (k::g) l) j)),none]) (fun R hR=>?_) ?_
  refine⟨_,rfl,.ref qb,((Bf (k::g) l).map V.str).length,rfl,.inl ⟨_,SqL.of hqb7,rfl⟩,_,_,rfl,rfl,_,rfl,?_⟩;rw[Qd];by_cases hm:0<(Bf (k::g) l).length
  obtain⟨j,hj,ej⟩:=hM.all (Ef (k::g) l).length (Th hEB);have hj2:=Zfu hEB hEp hBp (fun y hy z hz e=>by
   have a:=(ZS hy).2;have b:=(ZS hz).2;rw[e]at a;exact (S0 b a).elim) hM hm hj ej
  have erow:arr ((Bf (k::g) l).length+1) (enc S 2)=((Qz ((Bf (k::g) l).length+1)).map fun i=>(((S.ra i).getD 0:VC):VN)).map V.int:=by
   unfold arr;rw[Ww];refine Wl fun i hi=>?_;obtain⟨r,_,er⟩:=hall i (Qu.mp hi);show oN (S.ra i)=V.int (((S.ra i).getD 0:VC):VN);rw[er];rfl
  have hrow:=P7.hv 2 be;rw[erow]at hrow;have gx:∀ i,i<(Bf (k::g) l).length+1->((Qz ((Bf (k::g) l).length+1)).map fun i=>(((S.ra i).getD 0:VC):VN))[i]?=some (((S.ra i).getD 0:VC):VN):=fun i hi=>by
   rw[Qi,Wd hi];rfl
  refine Xu (VR br) ⟨_,rfl,.ref x,rfl,x,C,_,_,_,rfl,P7.ob,T.cl,T.no 2 be,P7.lk 2 be,.inl ⟨rfl,_,SqL.of hrow⟩,_,rfl,.ref qe,((Ef (k::g) l).map V.str).length,rfl,.inl ⟨_,SqL.of hqe7,rfl⟩,_,_,_,j,rfl,rfl,SqL.of hrow,?_,fun i hi=>?_,qb,_,_,.str ((Bf (k::g) l).getD j ""),rfl,rfl,SqL.of hqb7,?_,?_⟩
  rw[gx j hj,ej,Qd];rfl
  rw[gx i (S6 hj2 hi)];intro e;obtain⟨r,_,er⟩:=hall i (S6 hj2 hi);rw[er,Qd]at e;have e':(r:VN)=((Ef (k::g) l).length:VN):=VQ e;have e2:r=(Ef (k::g) l).length:=br
  rw[e2]at er;have:=hM.inj i j _ (S6 hj2 hi) hj er ej;exact (V6 hi this).elim
  exact Xh (by rw[Qi,Qb,Qa hj2];rfl)
  refine hR _ _ ⟨j,⟨hS,hA,fun _=>⟨hj2,ej⟩⟩,rfl,?_⟩;unfold stF;rw[if_neg (Tc hm)];rfl
  refine Ys (VO br) (hR _ _ ⟨0,⟨hS,hA,fun z=>VM z hm⟩,rfl,?_⟩);unfold stF;rw[VD (Td hm)];rfl
  rintro σ H8 ⟨j,hF,rfl,rfl⟩;refine ⟨_,rfl,Pf (.ref q) (k::g) Ln ⟨rfl,hV7,hy,fun qt us H9 s9 hqt hty=>⟨_,rfl,_,rfl,_,rfl,x,qe,qb,Ad,_,S,Ef (k::g) l,Bf (k::g) l,Ln-1,rfl,(P7.same s9),s9 _ _ hqe7,s9 _ _ hqb7,hEB,Sy hEl,Sz hL,hEp,hBp,fun j hj=>let ⟨r,_,e⟩:=hall j (Kz hj);⟨r,e⟩,fun ql us2 HA sA hql hty2=>?_⟩⟩⟩;have hll:=ZdB (Ef (k::g) l) (Bf (k::g) l) S.ra (Bf (k::g) l).length;have hus:=hty.1;have hus2:=hty2.1;refine Pg qt ql _ _ ⟨rfl,rfl,sA _ _ hqt,hql,Zl bq,fun p hp=>?_⟩;have sB:=Zb (o:=.lst (us++us2)) hp;have hTl:(TF (k::g) l S).length<=400:=by
   unfold TF;rw[Qg,Qd];lia
  have stl:(stF k (Bf (k::g) l) j).length<=100:=by
   unfold stF;by_cases hm:(Bf (k::g) l).length=0
   rw[VD hm];have:=plen (bg k.1) ((hS.pts.mem _).mpr ⟨k,Qo,.inl rfl⟩);exact S7 hL this
   rw[if_neg hm];have:=hBp _ (Yl (hF.at_ (V9 hm)).1);exact S7 hL this
  have lab:∀ t∈TF (k::g) l S,t.2.1.length<=100:=fun t ht'=>by
   unfold TF at ht';rcases QA.mp ht' with z | z
   obtain⟨y,_,rfl⟩:=Q6.mp z;show(tx [lst y]).length<=100;rw[Zs];exact(show 1<=100 by decide)
   obtain⟨y,hy1,z1,hz1,rfl⟩:=ZdA z (Qh _);show(lbl y z1).length<=100;have e1:=hEp y hy1;have e2:=hBp z1 hz1;rw[ZdD (K9 e1 e2)];have:=Zeu (x:=y) (y:=z1) (K9 e1 e2);lia
  refine⟨_,rfl,Pg p _ (us++us2) (TF (k::g) l S) ⟨rfl,Zd,(((TyL.of hty).same sA.tup).app hty2).same sB.tup,hTl,lab,stl,fun HC sC=>?_⟩⟩;have s8C:=s9.trans (sA.trans (sB.trans sC));have PC:=P7.same s8C;refine⟨_,rfl,_,rfl,.ref x,rfl,Pe x C _ _ _ ⟨rfl,PC.ob,T.cl,T.no 0 be,PC.lk 0 be,Pe qe _ (Ef (k::g) l) S.rp _ ⟨rfl,s8C _ _ hqe7,PC.hv 0 be,Kv hEB,fun v1 HD sD hp1=>?_⟩⟩⟩;have s8D:=s8C.trans sD;have PD:=P7.same s8D;refine ⟨_,rfl,.ref x,rfl,Pe x C _ _ _ ⟨rfl,PD.ob,T.cl,T.no 1 be,PD.lk 1 be,Pe qb _ (Bf (k::g) l) S.cp _ ⟨rfl,s8D _ _ hqb7,PD.hv 1 be,Kb,fun v2 HE sE hp2=>⟨Zl (show 3<=1000 by decide),fun pp hpp=>?_⟩⟩⟩⟩;have sF:=Zb (o:=.tup [Zot (tf (TF (k::g) l S) (stF k (Bf (k::g) l) j)),v1,v2]) hpp;have s8F:=s8D.trans (sE.trans sF);exact kQ hh _ _ (B07.trans (Btl.of s8F)) (t7.same s8F) ⟨pp,v1,v2,l,S,j,rfl,hF,Zd,hp1.same (sE.trans sF),hp2.same sF⟩
end
def ZfA:∀ (m) (k) (r) (G B),WI ts b k r G B->2*ts.length<=m+G.length+2*B.length->∃ d o n,WI ts b d o [] n/\o d=[]/\wlk ts m r k G B=n
 | m,k,r,G,B,h,p=>by
  have q:=h.len;rcases WF _ with e | ⟨X,i,e⟩
  rcases WF G with f | ⟨Y,j,f⟩
  subst f;exact Pf k r B ⟨h,e,ZdT e⟩;rw[WN]at f;subst f;have g:=h.pop e;cases m with
  | zero =>
   rw[Qg,Qp]at q p;omega
  | succ m =>
   rw[ZdS e];refine ZfA m _ _ _ _ g ?_;rw[Qg,Qp]at p ⊢;lia
  rw[WN]at e;have g:=h.push e;have l:=g.len;rw[Qg,Qp]at l;cases m with
  | zero=>omega
  | succ m =>
   rw[ZbZ e];refine ZfA m _ _ _ _ g ?_;rw[Qg,Qp];lia
def ZkI (g:Zid ts b):Eul ts b (wayX ts b):=by
 obtain⟨c,r,B,h,e,a⟩:=ZfA (2*ts.length) b _ [] [] (WI.start (Zgo ts) (Zef ts)) br;unfold wayX;exact a▸h.done e g
noncomputable def XM (n:VC) (f:VC->VN):VN:=((Qz n).map f).sum
def Z3 (n) (f):XM (n+1) f=XM n f+f n:=by
 unfold XM;rw[WE,QK];simp
def Je (h:∀ i,i<n->f i=g i):XM n f=XM n g:=by
 unfold XM;rw[Wl fun i a=>h i (Qu.mp a)]
def Zik (n) (f g):XM n (fun i=>f i+g i)=XM n f+XM n g:=by
 induction n with
 | zero=>rfl
 | succ n ih=>rw[Z3,Z3,Z3];lia
def Zd3 (n) (f g):XM n (fun i=>f i-g i)=XM n f-XM n g:=by
 induction n with
 | zero=>rfl
 | succ n c=>rw[Z3,Z3,Z3];lia
def Zb1 (h:∀ i,i<n->f i=0):XM n f=0:=by
 induction n with
 | zero=>rfl
 | succ n c=>rw[Z3,c fun i d=>h i (Kz d),h n Kx];rfl
def Zij (j:k<n) (h:∀ i,i<n->i≠k->f i=0):XM n f=f k:=by
 induction n with
 | zero=>exact (K1 j).elim
 | succ n d =>
  rw[Z3];by_cases e:k=n
  subst e;rw[Zb1 fun i g=>h i (Kz g) (Ki g)];exact Ty;rw[d (Ky j e) fun i g a=>h i (Kz g) a,h n Kx fun z=>e z.symm];lia
def ZgD {l m:VA VN} (p:l.Perm m):l.sum=m.sum:=by
 induction p with
 | nil=>rfl
 | cons x _ f=>rw[Wc,Wc,f]
 | swap x y l=>rw[Wc,Wc,Wc,Wc];exact Se
 | trans _ _ a b=>exact Sf b a
def ZfL {r:VC->VC} (m:∀ i,i<n->r i<n) (d:∀ i j,i<n->j<n->r i=r j->i=j) (f):XM n (fun i=>f (r i))=XM n f:=by
 have l:((Qz n).map r).Nodup:=by
  refine Wt.mpr (RT (fun {x y} a k q z=>?_) Ul);have:=d x y (Qu.mp a) (Qu.mp k) z;exact (V6 q this).elim
 have b:∀ x∈(Qz n).map r,x∈Qz n:=fun x a=>by
  obtain⟨i,s,rfl⟩:=Q6.mp a;exact Qu.mpr (m i (Qu.mp s))
 have p:=by
  refine Y0 l Wp fun x=>⟨b x,fun a=>?_⟩
  by_cases z:x∈(Qz n).map r
  omega;have:=ZaO (ks:=(Qz n).erase x) l fun y k=>(List.Nodup.mem_erase_iff Wp).mpr ⟨fun e=>z (by rw[←e];omega),b y k⟩;rw[Qd,Wx a,QU]at this;have:=Qu.mp a;exact (My ‹_› this).elim
 have q:=ZgD (p.map f);rw[Ww]at q;exact q
def Zb2 (E:VA VI) (f):(E.map f).sum=XM E.length fun i=>f (E.getD i ""):=by
 conv=>lhs;rw[←XI E]
 rw[Ww];rfl
def ZlL (E Bg) (ra) (φ) (i):((lnk E Bg ra i).map φ).sum=XM i fun j=>((Zfg E Bg ra j).map φ).sum:=by
 induction i with
 | zero=>rfl
 | succ i ih=>rw[ZbA,QK,Uf,ih,Z3]
def Zao:∀ {ss},ss.Nodup->((flatE (ups f ss)).map fun x=>dl x p).sum=if p∈ss/\0<f p then f p else 0
 | [],_=>rfl
 | x::ss,c=>by
  obtain⟨g,j⟩:=Q9.mp c;have b:=Zao (f:=f) (p:=p) j;by_cases d:0<f x
  have e:ups f (x::ss)=(x,f x)::ups f ss:=by unfold ups;simp_all
  rw[e,YH,QK,Uf,b,WY,ZfJ];by_cases a:p=x
  subst a;rw[if_neg fun z=>g z.1,VD ⟨Qo,d⟩,ZhR];lia;have:dl x p=0:=if_neg fun z=>a z.symm;rw[this];simp[a];have e:ups f (x::ss)=ups f ss:=by unfold ups;simp_all
  rw[e,b];by_cases a:p=x
  subst a;lia;simp[a]
section
variable {e0:VI×VN} {es:Es} {ss:VA VI} {S:Pst} {j L:VC}
structure PrF (E Bg:VA VI) (S:Pst) (j r:VC):Prop where
 mat:Mat (Bg.length+1) (Ym E Bg) (Bg.length+1) S
 len:E.length=Bg.length
 hj:j<Bg.length
 ej:S.ra j=some E.length
 hr:r<E.length
 er:S.ra Bg.length=some r
def PrF.row (h:PrF E c S j r) {i} (hi:i<c.length) (b:i≠j):∃ q,q<E.length/\S.ra i=some q:=by
 obtain⟨q,d,a⟩:=Xs h.mat i (Kz hi);refine⟨q,?_,a⟩;by_cases z:q<E.length
 exact z;have e:q=E.length:=by have:=h.len;exact Sw d this z
 rw[e]at a;exact VM (h.mat.inj i j _ (Kz hi) (by have:=h.hj;exact Kz this) a h.ej) b
def PrF.links (h:PrF E d S j r) (φ) (a) (b) (o:∀ q i,q<E.length->i<d.length->S.ra i=some q->φ (E.getD q "",lbl (E.getD q "") (d.getD i ""),d.getD i "")=a q+b i) :
  ((lnk E d S.ra d.length).map φ).sum=(XM E.length a-a r)+(XM d.length b-b j):=by
 have y:=h.len;rw[ZlL];have A:∀ i,i<d.length->((Zfg E d S.ra i).map φ).sum=(if (S.ra i).getD 0<E.length then a ((S.ra i).getD 0)else 0)+(b i-if i=j then b j else 0):=fun i k=>by
  by_cases z:i=j
  subst z;unfold Zfg;rw[h.ej];show((if E.length<E.length then _ else _:T3).map φ).sum=(if E.length<E.length then _ else _)+_;rw[if_neg (Q2 _),VD rfl];show 0=_;lia
  obtain⟨q,u,s⟩:=h.row k z;unfold Zfg;rw[s];show((if q<E.length then _ else _:T3).map φ).sum=(if q<E.length then a q else _)+_;rw[VD u,if_neg z];show φ _+0=_;rw[o q i u k s];lia
 rw[Je A,Zik,Zd3];have G:XM d.length (fun i=>if i=j then b j else 0)=b j:=(Zij h.hj fun i _ n=>if_neg n).trans (VD rfl);have w:XM (d.length+1) (fun i=>if (S.ra i).getD 0<E.length then a ((S.ra i).getD 0)else 0)=XM (d.length+1) fun q=>if q<E.length then a q else 0:=by
  refine ZfL (fun i k=>?_) (fun i t k m e=>?_) fun q=>if q<E.length then a q else 0
  obtain⟨q,x,p⟩:=Xs h.mat i k
  simp_all
  obtain⟨q,x,p⟩:=Xs h.mat i k;obtain⟨C,v,l⟩:=Xs h.mat t m;rw[p,l]at e;cases (e);exact h.mat.inj i t q k m p l
 rw[Z3,Z3,h.er]at w;have B:XM d.length (fun q=>if q<E.length then a q else 0)=XM E.length a:=by exact y▸Je fun q H=>VD H
 have F:(if (some r).getD 0<E.length then a ((some r).getD 0)else 0)=a r:=VD h.hr;have D:(if d.length<E.length then a d.length else 0)=0:=if_neg br;lia
def Zgw (d:ZjF es ss S j) (h:0<(Bf es ss).length):∃ r,PrF (Ef es ss) (Bf es ss) S j r:=by
 have f:=d.all.mat (fun i j _ _=>Jt i j) (Qh _);obtain⟨a,b⟩:=d.at_ h;obtain⟨r,l,g⟩:=Xs f (Bf es ss).length Kx;have k:=Zjw d.pts;refine⟨r,f,k,a,b,?_,g⟩;by_cases z:r<(Ef es ss).length
 exact z;have e:r=(Ef es ss).length:=Sw l k z
 rw[e]at g;have:=f.inj j _ _ (Kz a) Kx b g;exact (V6 a this).elim
def ZkL (es) (ss) (S):tsT (TF es ss S)=tsE es++(lnk (Ef es ss) (Bf es ss) S.ra (Bf es ss).length).map fun t=>(t.1,t.2.2):=by
 unfold tsT TF tsE;rw[QK,Ww];rfl
def Zkf (c:SPts es ss) (p):mo es p+(if p∈ss/\0 < -mo es p then -mo es p else 0)-(if p∈ss/\0<mo es p then mo es p else 0)=0:=by
 by_cases a:p∈ss
 by_cases g:0<mo es p
 rw[if_neg bq,VD ⟨a,g⟩];lia;by_cases f:0 < -mo es p
 rw[VD ⟨a,f⟩];omega;omega;have:=Zdu fun e d=>⟨fun z=>a ((c.pts.mem p).mpr ⟨e,d,.inl z⟩),fun z=>a ((c.pts.mem p).mpr ⟨e,d,.inr z⟩)⟩
 omega
def ZkB (c:∀ e∈es,0<=e.2) (p):bal (tsT (TF es ss S)) (Qz (tsT (TF es ss S)).length) p=mo es p+((lnk (Ef es ss) (Bf es ss) S.ra (Bf es ss).length).map fun t=>dl t.1 p-dl t.2.2 p).sum:=by
 rw[JJ _ p _ (Qh _),Q8,ZkL,QK,Uf,Ww];congr 1;have q:=JJ (tsE es) p _ (Qh _);rw[Q8]at q;exact q▸ZoB c p
def Ziz (h:RchT ts a p):RchT (ts++d) a p:=by
 induction h with
 | here=>exact .here
 | step _ k f =>
  obtain⟨i,g,q⟩:=k;have e:(ts++d).getD i ("","")=ts.getD i ("",""):=by rw[Qb,Qb,QF g]
  refine .step f ⟨i,by rw[Qg];exact Kz g,?_⟩;unfold frm tow at q ⊢;rw[e];omega
def Zjt {C:Es} (V:es=e0::C) (w:Hpy es L) (H:ZjF es ss S j) (O:ZbW e0 es):Zid (tsT (TF es ss S)) (stF e0 (Bf es ss) j):=by
 have N:=fun e l=>(w.fine.many e l).1;have k:=H.pts;have s:=k.pts.nd;have I:e0∈es:=bp
 have v:stF e0 (Bf es ss) j∈ss:=by
  unfold stF;by_cases h:(Bf es ss).length=0
  exact VD h▸(k.pts.mem _).mpr ⟨e0,I,.inl rfl⟩
  exact if_neg h▸(ZS (Yl (H.at_ (V9 h)).1)).1
 -- all points hang together
 have g:∀ p∈ss,Rch es (bg e0.1) p:=fun p E=>by
  obtain⟨e,l,q⟩:=(k.pts.mem p).mp E;rcases q with q | q
  exact q▸O e l
  exact .step (O e l) ⟨e,l,.inl ⟨rfl,q⟩⟩
 have B:∀ p∈ss,RchT (tsT (TF es ss S)) (stF e0 (Bf es ss) j) p:=fun p E=>by
  rw[ZkL];exact Ziz (Zon w.pos ((g _ v).symm.trans (g p E)))
 have D:∀ i,i<(tsT (TF es ss S)).length->frm (tsT (TF es ss S)) i∈ss:=fun i u=>by
  unfold frm;rw[Qb,Qa u,WW];have h:=QH u;generalize (tsT (TF es ss S))[i]=t at h;rw[ZkL]at h;rcases QA.mp h with z | z
  obtain⟨x,A,rfl⟩:=Q6.mp z;obtain⟨e,l,rfl⟩:=(Y2 w.pos x).mp A;exact(k.pts.mem _).mpr ⟨e,l,.inl rfl⟩
  obtain⟨t3,Z,rfl⟩:=Q6.mp z;obtain⟨x,A,y,Y,rfl⟩:=ZdA Z (Qh _);exact(ZS A).1
 refine⟨?_,fun i u=>B _ (D i u)⟩;by_cases h:0<(Bf es ss).length
 obtain⟨r,W⟩:=Zgw H h;refine⟨(Ef es ss).getD r "",fun p=>?_⟩;have T:XM (Ef es ss).length (fun q=>dl ((Ef es ss).getD q "") p)=if p∈ss/\0 < -mo es p then -mo es p else 0:=by
  exact Zb2 (Ef es ss) (fun x=>dl x p)▸Zao s
 have Q:XM (Bf es ss).length (fun i=>-dl ((Bf es ss).getD i "") p) = -(if p∈ss/\0<mo es p then mo es p else 0):=by
  have R:((Bf es ss).map fun x=>dl x p).sum=if p∈ss/\0<mo es p then mo es p else 0:=Zao s
  have K:=Zd3 (Bf es ss).length (fun _=>0) (fun i=>dl ((Bf es ss).getD i "") p);rw[Zb1 fun _ _=>rfl,←(Zb2 (Bf es ss) (fun x=>dl x p)),R]at K;rw[←Je (f:=fun i=>(0:VN)-dl ((Bf es ss).getD i "") p) fun i _=>Ta,K];exact Ta
 have M:=Zkf k p;have F:stF e0 (Bf es ss) j=(Bf es ss).getD j "":=by
  unfold stF;rw[if_neg (Tc h)]
 rw[ZkB N,(W.links (fun t=>dl t.1 p-dl t.2.2 p) (fun q=>dl ((Ef es ss).getD q "") p) (fun i=>-dl ((Bf es ss).getD i "") p) (fun q i _ _ _=>by rfl)),T,Q,F];lia
 have n:(Bf es ss).length=0:=Td h
 have G:(Ef es ss).length=0:=by rw[Zjw k];exact Td h
 refine⟨stF e0 (Bf es ss) j,fun p=>?_⟩;have M:=Zkf k p;have a:((Ef es ss).map fun x=>dl x p).sum=if p∈ss/\0 < -mo es p then -mo es p else 0:=Zao s
 have b:((Bf es ss).map fun x=>dl x p).sum=if p∈ss/\0<mo es p then mo es p else 0:=Zao s
 rw[Wa.mp G]at a;rw[(Wa.mp n)]at b;have U:lnk (Ef es ss) (Bf es ss) S.ra (Bf es ss).length=[]:=by rw[n];rfl
 rw[ZkB N,U];simp only[List.map_nil,RM]at M ⊢;lia
end
noncomputable def cw (w:VA VC):VA VC->VC
 | []=>0
 | x::z=>(if (x::z).take w.length=w then 1 else 0)+cw w z
def Zkx (w):∀ (a z),cw w z<=cw w (a++z)
 | [],z=>Qh _
 | x::a,z=>by
  show _<=(if _ then 1 else 0)+cw w (a++z);have:=Zkx w a z;exact Nv this
noncomputable def XD (T:T3) (i:VC):VA VC:=(T.getD i ("","","")).2.1.cps.toList
def Zcw (T) (i) (X):ZcX T (i::X)=XD T i++ZcX T X:=by
 rfl
structure ZjD (L:VC) (t:VI×VI×VI):Prop where
 l1:t.1.length=L-1
 l2:t.2.2.length=L-1
 ne:1<=t.2.1.length
 dr:(t.1.cps.toList++t.2.1.cps.toList).drop t.2.1.length=t.2.2.cps.toList
def Zmq (g:1<=L) (c:x.length=L):ZjD L (Zmc x):=by
 have e:(bg x).length=L-1:=by unfold bg;rw[Zs,UN,ZF,c]
 have f:(en x).length=L-1:=by unfold en;rw[Zs,Wi,ZF,c]
 refine⟨e,f,by show 1<=(tx _).length;rw[Zs];simp,?_⟩;show((bg x).cps.toList++(tx _).cps.toList).drop (tx _).length=(en x).cps.toList;rw[ZI,←(ZeM (x:=x) (Ml g c))];rfl
def ZlM (d:x.length=L-1) (e:y.length=L-1) (b:x≠y):ZjD L (x,lbl x y,y):=by
 have a:x.length=y.length:=K9 d e
 have c:=ZdD a;have f:=Zeu a;refine⟨d,e,by exact c▸Zhc a b,?_⟩;rw[c,List.drop_append_of_le_length (by assumption),(MC (X2 a).2.1)];unfold lbl;rw[ZI,ZF];simp
section
variable {L:VC} {T:T3}
def Zim (E:∀ t∈T,ZjD L t) (w) (N:w.length=L) (M:1<=L) {u v} {X} (c:Ch (tsT T) u X v):(∀ i∈X,i<T.length)->u.length=L-1 ->
  (X.filter fun i=>decide (XD T i≠[]/\(XD T i).length=1/\(frm (tsT T) i).cps.toList++XD T i=w)).length<=cw w (u.cps.toList++ZcX T X):=by
 induction c with
 | nil u=>simp
 | @cons i X u v e c F =>
  intro x K;have j:=x i Qo;have H:T.getD i ("","","")=T[i]:=by rw[Qb,Qa j];rfl
  have s:=E T[i] (QH j);have y:frm (tsT T) i=T[i].1:=by
   unfold frm tsT;rw[Qb,Qi,Qa j];rfl
  have p:tow (tsT T) i=T[i].2.2:=by
   unfold tow tsT;rw[Qb,Qi,Qa j];rfl
  have n:XD T i=T[i].2.1.cps.toList:=by unfold XD;rw[H]
  have A:(XD T i).length=T[i].2.1.length:=by rw[n,ZF]
  have m:=F (fun k J=>x k (Qm _ J)) (by exact p▸s.l2);have o:u.cps.toList++ZcX T (i::X)=(u.cps.toList++XD T i).take (XD T i).length++((tow (tsT T) i).cps.toList++ZcX T X):=by
   rw[Zcw,←QL,←QL,p,←s.dr,←e,y,←n,←A];simp
  rw[o];by_cases l:XD T i≠[]/\(XD T i).length=1/\(frm (tsT T) i).cps.toList++XD T i=w
  rw[List.filter_cons_of_pos (by simpa using l),QI];obtain⟨_,C,r⟩:=l;rw[e]at r;have h:(u.cps.toList++XD T i).length=L:=by rw[r];exact N
  rw[C];match I:(u.cps.toList++XD T i).take 1,(show((u.cps.toList++XD T i).take 1).length=1 by rw[QD,h];exact Te M)with
  | [a],_ =>
   show _<=(if (a::((tow (tsT T) i).cps.toList++ZcX T X)).take w.length=w then 1 else 0)+cw w ((tow (tsT T) i).cps.toList++ZcX T X);have D:a::(tow (tsT T) i).cps.toList=w:=by
    have q:=Wj 1 (u.cps.toList++XD T i);rw[I]at q;have d:(u.cps.toList++XD T i).drop 1=(tow (tsT T) i).cps.toList:=by rw[p,←s.dr,←e,y,←n,←A,C]
    rw[d]at q;rw[←r,←q];rfl
   rw[VD (by rw[←List.cons_append,D,List.take_left'  rfl])];lia
  rw[List.filter_cons_of_neg (by simpa using l)];exact QR m (Zkx w _ _)
end
def ZdK (l:VA VI) (x):((Qz l.length).filter fun i=>decide (l.getD i "" = x)).length=l.count x:=by
 conv=>rhs;rw[←XI l]
 rw[List.count_eq_countP,List.countP_map,Ur];rfl
def ZgC {l m:VA VC} (p:l.Perm m):l.sum=m.sum:=by
 grind
def ZeB (T):∀ X,(ZcX T X).length=(X.map fun i=>(XD T i).length).sum
 | []=>rfl
 | i::X=>by rw[Zcw,Qg,ZeB T X,Q3,Wc]
section
variable {e0:VI×VN} {es:Es} {ss:VA VI} {S:Pst} {j L:VC}
noncomputable def lkc (es:Es) (ss:VA VI) (S:Pst):VN:=((lnk (Ef es ss) (Bf es ss) S.ra (Bf es ss).length).map fun t=>(t.2.1.length:VN)).sum
structure Zph (e0:VI×VN) (es:Es) (ss:VA VI) (S:Pst) (j L:VC) (z:VA VC):Prop where
 txt:tf (TF es ss S) (stF e0 (Bf es ss) j)=some (tx z)
 cd:Cd z
 has:∀ e∈es,e.2<=(cw e.1.cps.toList z:VC)
 len:(z.length:VN)=(flatE es).length+L-1+lkc es ss S
def Zjs {es0:Es} (hes:es=e0::es0) (k:Hpy es L) (P:ZjF es ss S j) (hh:ZbW e0 es):∃ z,Zph e0 es ss S j L z:=by
 have g:=Zjt hes k P hh;obtain⟨D,v,F⟩:=(ZkI g);have hS:=P.pts;have u:=Zcb hS k.len k.l1;have e0m:e0∈es:=bp
 have M:stF e0 (Bf es ss) j∈ss:=by
  unfold stF;by_cases hm:(Bf es ss).length=0
  exact VD hm▸(hS.pts.mem _).mpr ⟨e0,e0m,.inl rfl⟩
  exact if_neg hm▸(ZS (Yl (P.at_ (V9 hm)).1)).1
 have E:=u _ M;have fl:∀ x∈flatE es,x.length=L:=fun x w=>by
  obtain⟨e,s,rfl⟩:=(Y2 k.pos x).mp w;exact k.len e s
 have fcd:∀ x∈flatE es,Cd x.cps.toList:=fun x w=>by
  obtain⟨e,s,rfl⟩:=(Y2 k.pos x).mp w;exact k.cd e s
 have K:∀ p∈ss,Cd p.cps.toList:=fun p D=>by
  obtain⟨e,s,q⟩:=(hS.pts.mem p).mp D;have:=k.cd e s;rcases q with q | q
  rw[←q];unfold bg;rw[ZI];exact fun c F=>this c (List.dropLast_subset _ F)
  rw[←q];unfold en;rw[ZI];exact fun c F=>this c (Wm F)
 have hT:∀ t∈TF es ss S,ZjD L t/\Cd t.2.1.cps.toList:=fun t O=>by
  unfold TF at O;rcases QA.mp O with q | q
  obtain⟨x,w,rfl⟩:=Q6.mp q;refine⟨Zmq k.l1 (fl x w),?_⟩;show Cd (tx [lst x]).cps.toList;rw[ZI];intro c r;rw[Qq.mp r];have e:=ZeM (x:=x) (by exact fl x w▸k.l1);exact fcd x w _ (by rw[e];simp)
  obtain⟨x,w,y,hy',rfl⟩:=ZdA q (Qh _);obtain⟨a1,a2⟩:=ZS w;obtain⟨b1,_⟩:=ZS hy';refine⟨ZlM (u x a1) (u y b1) fun z=>by rw[z]at a2;exact (S0 ‹_› a2).elim,?_⟩;show Cd (lbl x y).cps.toList;unfold lbl;rw[ZI];exact fun c r=>K y b1 c (Wm r)
 have hN:(flatE es).length<=(TF es ss S).length:=by unfold TF;rw[Qg,Qd];exact Kb
 have tl:(tsT (TF es ss S)).length=(TF es ss S).length:=by unfold tsT;simp
 rw[tl]at D;have hX:∀ i∈wayX (tsT (TF es ss S)) (stF e0 (Bf es ss) j),i<(TF es ss S).length:=fun i o=>Qu.mp (D.mem_iff.mp o);have gT:∀ i,i<(flatE es).length->(TF es ss S).getD i ("","","")=Zmc ((flatE es).getD i ""):=fun i o=>by
  unfold TF;rw[Qb,QF (by rw[Qd];exact o),Qi,Qb,Qa o];rfl
 refine⟨(stF e0 (Bf es ss) j).cps.toList++ZcX (TF es ss S) (wayX (tsT (TF es ss S)) (stF e0 (Bf es ss) j)),ZfH g,?_,fun e s=>?_,?_⟩
 intro c r;rcases QA.mp r with q | q
 exact K _ M c q
 unfold ZcX at q;obtain⟨i,o,G⟩:=UK.mp q;rw[Qb,Qa (hX i o)]at G;exact(hT _ (QH (hX i o))).2 c G
 have q:=Zim (fun t O=>(hT t O).1) e.1.cps.toList (by rw[ZF];exact k.len e s) k.l1 F hX E;have q2:=(D.filter fun i=>decide (XD (TF es ss S) i≠[]/\(XD (TF es ss S) i).length=1/\(frm (tsT (TF es ss S)) i).cps.toList++XD (TF es ss S) i=e.1.cps.toList)).length_eq;have q3:=((List.range_sublist.mpr hN).filter fun i=>decide (XD (TF es ss S) i≠[]/\(XD (TF es ss S) i).length=1/\(frm (tsT (TF es ss S)) i).cps.toList++XD (TF es ss S) i=e.1.cps.toList)).length_le;have q4:((Qz (flatE es).length).filter fun i=>decide ((flatE es).getD i "" = e.1)).length<=((Qz (flatE es).length).filter fun i=>decide (XD (TF es ss S) i≠[]/\(XD (TF es ss S) i).length=1/\(frm (tsT (TF es ss S)) i).cps.toList++XD (TF es ss S) i=e.1.cps.toList)).length:=by
  rw[←Ur,←Ur];refine List.countP_mono_left fun i o h=>?_;have J:=Qu.mp o;have h':=MC h;have lc:XD (TF es ss S) i=[lst e.1]:=by unfold XD;rw[gT i J,h'];rfl
  have fr:frm (tsT (TF es ss S)) i=bg e.1:=by
   unfold frm tsT;have:(C0 (fun t:VI×VI×VI=>(t.1,t.2.2)) (TF es ss S)).getD i ("","")=(fun t:VI×VI×VI=>(t.1,t.2.2)) ((TF es ss S).getD i ("","","")):=by
    rw[Qb,Qb,Qi,Qa (Sm hN J)];rfl
   rw[this,gT i J,h'];rfl
  refine VR ⟨by rw[lc];simp,by rw[lc];rfl,?_⟩;rw[lc,fr];exact(ZeM (by exact k.len e s▸k.l1)).symm
 have q5:=ZdK (flatE es) e.1;have q6:=ZhX (es:=es) (by
  have:=k.srt;exact(Wt.mp this).imp fun {a b} h z=>by rw[z]at h;exact VM h (Uo _)) (fun e s=>(k.fine.many e s).1) e s
 lia
 rw[Qg,ZF,E,ZeB,ZgC (D.map fun i=>(XD (TF es ss S) i).length)];have e1:((Qz (TF es ss S).length).map fun i=>(XD (TF es ss S) i).length)=(TF es ss S).map fun t=>t.2.1.length:=by
  refine QY fun i=>?_;by_cases o:i<(TF es ss S).length
  rw[Qi,Wd o,Qi,Qa o];show some (XD (TF es ss S) i).length=some _;unfold XD;rw[Qb,Qa o,ZF];rfl
  rw[Qr (by simp;exact Kr o),Qr (by simp;exact Kr o)]
 rw[e1];unfold TF lkc;rw[QK,Uf,Ww];have e2:((flatE es).map ((fun t:VI×VI×VI=>t.2.1.length) ∘ Zmc)).sum=(flatE es).length:=by
  rw[show((fun t:VI×VI×VI=>t.2.1.length) ∘ Zmc)=fun _=>1 from by funext x;exact Zs _];generalize flatE es=l;induction l with
  | nil=>rfl
  | cons x l ih=>rw[Q3,Wc,ih,QI];lia
 rw[e2];have e3:∀ l:T3,(((l.map fun t=>t.2.1.length).sum:VC):VN)=(l.map fun t=>(t.2.1.length:VN)).sum:=fun l=>by
  induction l with
  | nil=>rfl
  | cons t l ih=>rw[Q3,Wc,Q3,Wc,←ih];lia
 rw[←e3];have:=k.l1;lia
def Zew (h:(Bf es ss).length=0):lkc es ss S=0:=by
 unfold lkc;rw[h];rfl
def ZaR (k:Hpy es L) (p:ZjF es ss S j) (c:PrF (Ef es ss) (Bf es ss) S j r):lkc es ss S=(XM (Ef es ss).length S.rp-S.rp r)+(XM (Bf es ss).length S.cp-S.cp j)/\(∀ q,q<(Ef es ss).length->S.rp q<=S.rp r)/\∀ i,i<(Bf es ss).length->S.cp i<=S.cp j:=by
 have w:=c.len;have o:=(c.mat.tight _ _ Kx c.er).2;have n:=(c.mat.tight j _ (Kz c.hj) c.ej).2;have g:∀ q,Ym (Ef es ss) (Bf es ss) q (Bf es ss).length=0:=fun q=>by unfold Ym;lia
 have m:∀ i,Ym (Ef es ss) (Bf es ss) (Ef es ss).length i=0:=fun i=>by unfold Ym;lia
 unfold red at o n;rw[g]at o;rw[m]at n;refine⟨?_,fun q h=>?_,fun i l=>?_⟩;refine c.links _ S.rp S.cp fun q i h l e=>?_;have s:=(c.mat.tight i q (Kz l) e).2;unfold red at s;have x:Ym (Ef es ss) (Bf es ss) q i=(ltr ((Ef es ss).getD q "") ((Bf es ss).getD i "")):=by unfold Ym;lia
 have d:=Zcb p.pts k.len k.l1;have v:((Ef es ss).getD q "").length=L-1:=d _ (ZS (Yl h)).1;have t:((Bf es ss).getD i "").length=L-1:=d _ (ZS (Yl l)).1;rw[ZdD (K9 v t)];lia;have f:=c.mat.feas q (Bf es ss).length (Tf w h) Kx;unfold red at f;rw[g]at f;lia;have f:=c.mat.feas (Ef es ss).length i (Th w) (Kz l);unfold red at f;rw[m]at f;lia
end
structure Pcl (ps:VA VI) (L:VC):Prop where
 ne:ps≠[]
 few:ps.length<=190
 len:∀ x∈ps,x.length=L
 l1:1<=L
 l3:L<=100
 cd:∀ x∈ps,Cd x.cps.toList
def ZaY {g:VI->VC}:∀ {ss:VA VI},ss.Nodup->(flatE (ss.map fun x=>(x,(g x)))).count y=if y∈ss then g y else 0
 | [],_=>by rfl
 | x::ss,nd=>by
  have nd':=Q9.mp nd;rw[Q3,YH,UD,ZaY nd'.2,Ri];by_cases c:y=x
  subst c;rw[if_neg nd'.1,VD bo];simp;rw[if_neg (by simpa using VS c)];simp[c]
def ZhL {a ss:VA VI} (e:ss.Nodup) (d:∀ x,x∈ss↔x∈a):(flatE (ss.map fun x=>(x,(a.count x)))).Perm a:=by
 rw[List.perm_iff_count];intro y;rw[ZaY e];split
 rfl;rename_i c;rw[WU fun z=>c ((d y).mpr z)]
def Zlp {c ss:VA VI} (h:Pcl c L) (k:ss.Nodup) (j:∀ x,x∈ss↔x∈c) (p:(ss.map fun x=>x.cps.toList).Pairwise (· < ·)):Hpy (ss.map fun x=>(x,(c.count x))) L/\(flatE (ss.map fun x=>(x,(c.count x)))).length=c.length:=by
 have l:=(ZhL k j).length_eq;have q:=h.few;have o:=h.l3;have n:=h.l1;have a:∀ e∈ss.map fun x=>(x,(c.count x:VN)),e.1∈c/\e.2=c.count e.1:=fun e b=>by
  obtain⟨x,g,rfl⟩:=Q6.mp b;exact⟨(j x).mp g,rfl⟩
 refine⟨⟨⟨?_,fun e b=>?_,fun e b=>?_⟩,fun z=>?_,fun e b=>h.len _ (a e b).1,n,br,fun e b=>?_,br,?_,fun e b=>h.cd _ (a e b).1⟩,l⟩;rw[Qd];have:=Zdp k fun x g=>(j x).mp g;lia;rw[(a e b).2];have:=List.count_le_length (a:=e.1) (l:=c);lia;have:=h.len _ (a e b).1;lia;have r:ss=[]:=bp
 obtain⟨_⟩:=List.exists_mem_of_ne_nil _ h.ne
 simp_all
 rw[(a e b).2];have:=List.count_pos_iff.mpr (a e b).1;lia
 grind
section
variable {P:Oh} {w:Ol} {K:VB} {mg:VI->VE VG} {base:Nu}
abbrev Zgd:Mv:=top 45
abbrev Zm4:VA VI:=["_law_pieces","_law_found","_law_piece"]
def scLheap:Zp Zm4 ["_law_pieces"] (Zf Zgd):=⟨rfl,rfl,rfl,bh,rfl,bh,bh⟩
def ZfY:Sp:=fun vs H Q _=>∃ (a:VH) (ps:VA VI) (L:VC),vs=[.ref a]/\H a=some (.lst (ps.map V.str))/\Pcl ps L/\∀ v H' e0 es,Same H H'->HeapV H' v (e0::es)->Hpy (e0::es) L->(flatE (e0::es)).length<=190->Q v H'
def ZgU (D:HasDef K mg "_law_heap" Zgd ["_law_pieces"]) (B:Blt mg):FOk P w K mg base 1 "_law_heap" ["_law_pieces"] ZfY:=by
 refine D.ok scLheap (fun vs H Q E h=>?_) (fun f cdv A outer s H vs Q E hr h=>?_)
 ·obtain⟨a,ps,L,rfl,_⟩:=h;rfl
 ·apply Lb;intros;obtain⟨a,ps,L,rfl,ha,hP,k⟩:=h;have hu:=ZdE hr;refine⟨_,(Zc (Zm 1 scLheap.nd Xy)
   (Zc (Z1 VP rfl (Xn (pv 0)) (Zw 2 scLheap.nd)
    (Zj (Y7 hu (pv 1) (pv 2) (Zo ZJ (YE hu (pv 1) (pv 2) Zg ⟨rfl,rfl,rfl,rfl⟩) Zg) rfl)))
   (Zj (Zu (Yw Z7 rfl B.tuple YX (Za (Zk (Xf rfl) rfl B.sorted XA (Za (Zbr (pv 1)) Ze)) Ze)))))),?_⟩
  apply J1;intros;intro d hd;have hs0:Same H (upd H d (.dK [])):=Zb hd;have hf:=hP.few;refine⟨_,rfl,a,rfl,⟨_,SqL.of (hs0 _ _ ha)⟩,JH (K:=K) (a:=a) (xs:=ps.map V.str) (fun i σ H2=>(∃ z:VE V,σ=[some (.ref a),some (.ref d),z])/\Same H H2/\∃ ks:VA VI,ks.Nodup/\(∀ x,x∈ks↔x∈ps.take i)/\H2 d=some (.dK (gD ks fun x=>((ps.take i).count x:VC))))
   ⟨⟨none,rfl⟩,hs0,[],Ub,fun x=>Iff.rfl,Zd⟩ (fun i σ H2 _ ⟨_,s2,_⟩=>SqL.of (s2 _ _ ha)) ?_ ?_⟩
  ·rintro i x σ H2 hi ⟨⟨z,rfl⟩,s2,ks,nd,hk,hdd⟩;have hi':i<ps.length:=by
    have:=(Qj.mp hi).1;rw[Qd]at this;exact this
   rw[Qi,Qa hi']at hi;have ex:x=V.str ps[i]:=(VQ hi).symm;subst ex;have het:ps.take (i+1)=ps.take i++[ps[i]]:=QO hi';have hkl:=Zdp nd fun x hx=>(hk x).mp hx;rw[QD]at hkl;generalize ps[i]=y at *;have hg:=Zal (ks:=ks) (g:=fun x=>((ps.take i).count x:VC)) (y:=y) fun m=>by
    rw[WU fun q=>m ((hk _).mpr q)];rfl
   refine⟨_,rfl,d,rfl,.inl ⟨_,.inl hdd⟩,_,rfl,_,DGet.kk (k:=VJ y) hdd,_,_,hg,rfl,_,rfl,_,rfl,d,_,rfl,DPut.kk (k:=VJ y) hdd ?_,?_⟩
   ·rw[ZaX];exact ZB br
   ·refine⟨⟨_,rfl⟩,fun b o e=>?_,Yn ks y,Jv nd,fun x=>?_,?_⟩
    ·rw[Zi (Zh e hd)];exact s2 b o e
    ·rw[addK_mem,hk,het,QA,Qq]
    ·rw[Zd,ZaW];refine NA (fun l=>some (HO.dK l)) (X7 fun x _=>?_);rw[het,UD];by_cases c:x=y
     ·subst c;rw[VD rfl,Uy];exact Tt
     ·rw[if_neg c,Rj,if_neg (by simpa using VS c)];rfl
  ·rintro σ H2 ⟨⟨z,rfl⟩,s2,ks,nd,hk,hdd⟩;rw[Qd,Q8]at hk hdd;have hkl:=Zdp nd fun x hx=>(hk x).mp hx;refine⟨_,rfl,d,_,rfl,hdd,fun p hp=>⟨p,d,ks,fun x=>.int (ps.count x:VC),rfl,Zd,Zb hp _ _ hdd,nd,br,fun D1 H1 vs ss hs1 hperm hsrt hD1 hl hv=>?_⟩⟩;refine⟨D1,vs,rfl,.inl ⟨SqL.of hD1,fun l hl0=>?_⟩⟩;obtain⟨hy,hfl⟩:=Zlp hP (hperm.nodup_iff.mpr nd) (fun x=>by rw[hperm.mem_iff,hk]) hsrt;have hV:HeapV (upd H1 l (.tup vs)) (.ref l) (ss.map fun x=>(x,(ps.count x:VN))):=⟨l,vs,rfl,Zd,by rw[Qd];exact hl,fun i q e=>by
    rw[Qi]at e;cases ex:ss[i]? with
    | none=>simp_all
    | some x =>
     rw[ex]at e;cases e;obtain⟨b,e1,e2⟩:=hv i x ex;exact⟨b,e1,Zb hl0 _ _ e2⟩⟩
   have hS:=((s2.trans (Zb hp)).trans hs1).trans (Zb (o:=.tup vs) hl0);have hne:=hy.ne;generalize (ss.map fun x=>(x,(ps.count x:VN)))=es at hV hy hfl hne;cases es with
   | nil=>exact VM rfl hne
   | cons e0 es=>exact k _ _ e0 es hS hV hy (Kk hf hfl)
end
end Sh
namespace L2
open PySem PySem.Spec PyProof.Rows PySem.W
def Zen (l:X.A.units+64<O6):OpR X (OJ .NotEq) (fun x y H Q=>∃ a b xs,x= .ref a/\y= .ref b/\H a=some (.lst xs)/\H b=some (.lst [])/\Q (.bl (!xs.isEmpty)) H):=by
 intro d s σ H x y v u Q I w t h;obtain⟨a,b,xs,rfl,rfl,p,o,q⟩:=h;cases w;cases t;obtain⟨_,B,n,r,g⟩:=(I.hok a _ p)
 obtain⟨_,f,c,m,k⟩:=(I.hok b _ o)
 cases m;cases xs with
 | nil =>
  cases r;exact SeqAt.RcNeAt.lists (e:=fun _=>true) ⟨_,g,rfl,n,rfl⟩ ⟨_,k,rfl,c,rfl⟩ rfl (Wq (Ut _ _) l) (fun j A _=>VM A (Wn _)) X.prog X.w X.xe _ ⟨V.bl _,H,I,rfl,q⟩
 | cons x xs =>
  refine SeqAt.RcNeAt.lists_lengths ⟨_,g,rfl,n,rfl⟩ ⟨_,k,rfl,c,rfl⟩ ?_ (Wq (Ut _ _) l) X.prog X.w X.xe _ ⟨V.bl _,H,I,rfl,q⟩;rw[bne_iff_ne];intro e;rw[Qy,←r.length]at e;cases e
def Zep (o:X.A.units+64<O6):OpR X (OJ .Eq) (fun x y H Q=>∃ a b xs,x= .ref a/\y= .ref b/\H a=some (.lst xs)/\H b=some (.lst [])/\Q (.bl xs.isEmpty) H):=by
 intro m s σ H x y v u Q I B z h;obtain⟨a,b,xs,rfl,rfl,A,t,q⟩:=h;cases B;cases z;obtain⟨_,w,n,r,g⟩:=(I.hok a _ A)
 obtain⟨_,i,f,p,l⟩:=(I.hok b _ t)
 cases p;cases xs with
 | nil =>
  cases r;exact SeqAt.RcAt.lists (e:=fun _=>true) ⟨_,g,rfl,n,rfl⟩ ⟨_,l,rfl,f,rfl⟩ rfl (Wq (Ut _ _) o) (fun j D _=>VM D (Wn _)) X.prog X.w X.xe _ ⟨V.bl _,H,I,rfl,q⟩
 | cons x xs =>
  refine SeqAt.RcAt.lists_lengths ⟨_,g,rfl,n,rfl⟩ ⟨_,l,rfl,f,rfl⟩ ?_ (Wq (Ut _ _) o) X.prog X.w X.xe _ ⟨V.bl _,H,I,rfl,q⟩;rw[bne_iff_ne];intro e;rw[Qy,←r.length]at e;cases e
end L2
namespace Sh
open PySem L2 PyProof.Rows
seal PE PS PSs PT PW L2.PA PI PG PGs PO PC PCs OpR UnR CallR MtR IxR SlR
def Zh9 (F) (x):Yn F x=F\/F.length<(Yn F x).length:=by
 unfold Yn;split
 simp;simp
section
variable {P:Oh} {w:Ol} {K:VB} {mg:VI->VE VG} {base:Nu}
abbrev Zbl:Mv:=top 46
abbrev Zg2:VA VI:=["_law_heap_here","_law_known","_law_many","_law_piece","_law_times"]
def scLhangs:Zp Zg2 ["_law_heap_here"] (Zf Zbl):=⟨rfl,rfl,rfl,bh,rfl,bh,bh⟩
def Zeb:Sp:=fun vs H Q _=>∃ (v:V) (e:VI×VN) (es:Es),vs=[v]/\HeapV H v (e::es)/\Zie (e::es)/\∀ H' (b:NY),Same H H'->(b=true↔ZbW e (e::es))->Q (.bl b) H'
def Ze8 (D:HasDef K mg "_law_hangs" Zbl ["_law_heap_here"]) (B:Blt mg):FOk P w K mg base 1 "_law_hangs" ["_law_heap_here"] Zeb:=by
 refine D.ok scLhangs (fun vs H Q E h=>?_) (fun f cdv A outer s H vs Q E hr h=>?_)
 ·obtain⟨v,e,es,rfl,_⟩:=h;rfl
 ·apply Lb;intros;apply La;intros;obtain⟨v,e,es0,rfl,hV,hF,k⟩:=h;have hu:=ZdE hr;obtain⟨q,vs,rfl,hq,hpa⟩:=id hV;refine⟨_,(Zc (Zm 1 scLhangs.nd (ZgG (Zel (Zr ZP (ZA ix_tup (ZA ix_tup (pv 0) Zg) Zg) Zy (Zv (XC YA Zg))) YV Zgy) rfl rfl (RA _ _) be))
   (Zc (Zm 2 scLhangs.nd Zg)
   (Zc (Y6 VP (Zt Zdj (pv 2) (Zk ZcM rfl B.len ZG (Za (pv 1) Ze)) (Zz _))
    (Zc (Zm 2 scLhangs.nd (Zk ZcM rfl B.len ZG (Za (pv 1) Ze)))
   (Zj (Z1 VP rfl (Yv (pv 0)) (ZW 2 K rfl (Zq (Zw 3 scLhangs.nd) (Zq (Zw 4 scLhangs.nd) ZV)))
    (Zj (Ya (PW.pt (JB (Zek (Zj8 hu (Zr ZP (pv 3) Zy (Zv (XC YA Zg))) (pv 1))) (Jx (Zek (Zj8 hu (Zr ZP (pv 3) (Zv Zg) Zy) (pv 1)))))) (Zc (Y7 hu (pv 1) (Zr ZP (pv 3) Zy (Zv (XC YA Zg))) YV rfl)
   (Zj (Y7 hu (pv 1) (Zr ZP (pv 3) (Zv Zg) Zy) YV rfl))) ZD))))))
   (Zj (Zu (Zaa (Zep hr.units) (Yd (Zf Zbl) Zg2 ["_law_piece","_law_times"] [1] rfl (Yv (pv 0)) (fun _ _ _ _ _=>ZW 2 K rfl (Zq (Yz 0) (Zq (Yz 1) ZV))) (fun _ _ _ _ _=>Jm (Zek (Zcg hu (Zr ZP (pv 0) Zy (Zv (XC YA Zg))) (pv 2)))) (fun _ _ _ _ _=>(pv 0))) (ZC Ze) (Zz _))))))),?_⟩
  apply Dd;intros;obtain⟨b0,eb0,hb0⟩:=hpa.2 0 e rfl;obtain⟨l1,l2⟩:=hF.long e (Qo ..);have hf2:=hF.few;have hhead:e∈e::es0:=Qo ..;generalize hes:e::es0=es at *;intro d hd;have sd:=Zb (o:=.dK []) hd;refine⟨_,rfl,Pg q vs 0 (.ref b0) ⟨rfl,rfl,SqT.of (sd _ _ hq),Jq be eb0,Pg b0 _ 0 (.str e.1) ⟨rfl,rfl,SqT.of (sd _ _ hb0),rfl,_,rfl,_,rfl,_,rfl,Z2 l2,?_⟩⟩⟩;refine⟨Zd,[((VJ (bg e.1):Key),V.bl true)],by rw[←XV l1];rfl,bo,?_⟩;rw[Jd];have s2:Same H (upd H d (.dK (Xr [] [((VJ (bg e.1):Key),V.bl true)]))):=Zb hd;have hd2:(upd H d (.dK (Xr [] [((VJ (bg e.1):Key),V.bl true)]))) d=some (.dK (bD [bg e.1])):=Zd;generalize upd H d (.dK (Xr [] [((VJ (bg e.1):Key),V.bl true)]))=H2 at s2 hd2;have sh:∀ {H4:Hp} (o:HO),Same H H4->Same H (upd H4 d o):=fun o s b u hb=>by
   exact Zi (Zh hb hd)▸s b u hb
  have hkl:(es.map (fun x=>bg x.1)++es.map fun x=>en x.1).length<=602:=by
   rw[Qg,Qd,Qd];lia
  have hb:∀ x∈es,bg x.1∈es.map (fun x=>bg x.1)++es.map fun x=>en x.1:=fun x hx=>QM _ (Ro hx);have hn:∀ x∈es,en x.1∈es.map (fun x=>bg x.1)++es.map fun x=>en x.1:=fun x hx=>QJ _ (Ro hx);generalize hks:(es.map (fun x=>bg x.1)++es.map fun x=>en x.1)=ks at hkl hb hn
  try dsimp only[Js]
  show Zd1 (ZaG _ _) _ _ _ _;refine Z0 (fun σ H4=>∃ (F:VA VI) (z2 z3 z4:VE V),σ=[some (.ref q),some (.ref d),z2,z3,z4]/\Same H H4/\H4 d=some (.dK (bD F))/\Wk es (bg e.1) ks F []/\∀ x∈es,(bg x.1∈F\/en x.1∈F)->bg x.1∈F/\en x.1∈F) (fun R hR=>?_) ?_
  ·refine⟨fun m σ H4=>∃ (F:VA VI) (n:VC) (z3 z4:VE V),σ=[some (.ref q),some (.ref d),some (.int (n:VN)),z3,z4]/\Same H H4/\H4 d=some (.dK (bD F))/\Wk es (bg e.1) ks F []/\(n<F.length\/∀ x∈es,(bg x.1∈F\/en x.1∈F)->bg x.1∈F/\en x.1∈F)/\m=1000-n,
    ⟨_,[bg e.1],0,none,none,rfl,s2,hd2,⟨bo,bo,(fun x hx=>by exact Qq.mp hx▸.here),(fun x hx=>by cases hx),fun x hx=>by exact Qq.mp hx▸hb e hhead⟩,.inl bo,rfl⟩,?_⟩
   rintro m σ H4 ⟨F,n,z3,z4,rfl,s4,hd4,hW,hor,hm⟩;have hle:=hW.le;refine⟨_,rfl,_,rfl,d,_,rfl,hd4,_,_,rfl,rfl,_,rfl,?_⟩;rw[Zaw];by_cases c:¬ n<F.length
   ·refine Ys (VO (Sn c)) (hR _ _ ⟨F,_,z3,z4,rfl,s4,hd4,hW,hor.resolve_left c⟩)
   have c:=Classical.not_not.mp c;refine Xu (VR br) ?_;refine⟨fun σ' H'=>∃ m',m'<m/\∃ (F:VA VI) (n:VC) (z3 z4:VE V),σ'=[some (.ref q),some (.ref d),some (.int (n:VN)),z3,z4]/\Same H H'/\H' d=some (.dK (bD F))/\Wk es (bg e.1) ks F []/\(n<F.length\/∀ x∈es,(bg x.1∈F\/en x.1∈F)->bg x.1∈F/\en x.1∈F)/\m'=1000-n,fun _ _ z=>z,?_⟩;apply Db;intros;refine⟨_,rfl,d,_,rfl,hd4,?_⟩;rw[Zaw];refine⟨_,rfl,q,rfl,⟨_,SqT.of (s4 _ _ hq)⟩,?_⟩;refine Xc (K:=K) (a:=q) (xs:=vs) (fun j σ' H'=>∃ (F':VA VI) (z3 z4:VE V),σ'=[some (.ref q),some (.ref d),some (.int (F.length:VN)),z3,z4]/\Same H H'/\H' d=some (.dK (bD F'))/\Wk es (bg e.1) ks F' []/\(F'=F\/F.length<F'.length)/\(∀ x∈F,x∈F')/\∀ x∈es.take j,(bg x.1∈F\/en x.1∈F)->bg x.1∈F'/\en x.1∈F')
    ⟨F,z3,z4,rfl,s4,hd4,hW,.inl rfl,fun x hx=>hx,fun x hx=>bp⟩
    (fun i σ' H' _ ⟨_,_,_,_,s6,_⟩=>SqT.of (s6 _ _ hq)) ?_ ?_
   ·rintro i x σ' H6 hi ⟨F6,z3',z4',rfl,s6,hd6,hW6,hor6,hsub6,hcl6⟩;have hiv:i<vs.length:=(Qj.mp hi).1;have hie:i<es.length:=by exact hpa.1▸hiv
    apply La;intros;obtain⟨b,e1,e2⟩:=hpa.2 i es[i] (Qa hie);rw[hi]at e1;cases e1;obtain⟨m1,m2⟩:=hF.long es[i] (QH hie);have het:es.take (i+1)=es.take i++[es[i]]:=QO hie;have hmem:es[i]∈es:=QH hie;refine⟨b,_,rfl,SqT.of (s6 _ _ e2),rfl,_,_,rfl,_,_,rfl,rfl,?_⟩;generalize es[i]=y at *;have hle6:=hW6.le;have eb:=XV m1;have ee:=Zbg m1;have stay:(bg y.1∈F6\/en y.1∈F6)->bg y.1∈Yn (Yn F6 (bg y.1)) (en y.1)/\Wk es (bg e.1) ks (Yn (Yn F6 (bg y.1)) (en y.1)) []:=fun hh=>by
     have r1:Rch es (bg e.1) (bg y.1)/\Rch es (bg e.1) (en y.1):=by
      rcases hh with z | z
      ·exact⟨hW6.rch _ z,.step (hW6.rch _ z) ⟨y,hmem,.inl ⟨rfl,rfl⟩⟩⟩
      ·exact⟨.step (hW6.rch _ z) ⟨y,hmem,.inr ⟨rfl,rfl⟩⟩,hW6.rch _ z⟩
     refine⟨by simp[addK_mem],Jv (Jv hW6.nd),by simp[addK_mem,hW6.fst],fun x hx=>?_,(fun x hx=>by grind),fun x hx=>?_⟩
     ·rcases addK_mem.mp hx with z | z
      ·rcases addK_mem.mp z with z | z
       ·exact hW6.rch _ z
       ·exact z▸r1.1
      ·exact z▸r1.2
     ·rcases addK_mem.mp hx with z | z
      ·rcases addK_mem.mp z with z | z
       ·exact hW6.inn _ z
       ·exact z▸hb y hmem
      ·exact z▸hn y hmem
    have fin:(bg y.1∈F6\/en y.1∈F6)->∃ (F':VA VI) (z3 z4:VE V),[some (.ref q),some (.ref d),some (.int (F.length:VN)),some (V.str y.1),some (.int y.2)]=[some (.ref q),some (.ref d),some (.int (F.length:VN)),z3,z4]/\Same H (upd H6 d (.dK (bD (Yn (Yn F6 (bg y.1)) (en y.1)))))/\(upd H6 d (.dK (bD (Yn (Yn F6 (bg y.1)) (en y.1))))) d=some (.dK (bD F'))/\Wk es (bg e.1) ks F' []/\(F'=F\/F.length<F'.length)/\(∀ x∈F,x∈F')/\∀ x∈es.take (i+1),(bg x.1∈F\/en x.1∈F)->bg x.1∈F'/\en x.1∈F':=fun hh=>by
     refine Pf _ _ _ ⟨rfl,sh _ s6,Zd,(stay hh).2,?_,fun x hx=>by simp[addK_mem,hsub6 x hx],fun x hx hx2=>?_⟩
     ·have h1:=Zh9 F6 (bg y.1);have h2:=Zh9 (Yn F6 (bg y.1)) (en y.1);rcases h1 with h1 | h1 <;> rcases h2 with h2 | h2
      ·rw[h2,h1];exact hor6
      ·right
       rw[h1]at h2 ⊢;rcases hor6 with z | z
       ·rw[z]at h2 ⊢;exact h2
       ·exact Kh h2 z
      ·right
       rw[h2];rcases hor6 with z | z
       ·rw[z]at h1 ⊢;exact h1
       ·exact Kh h1 z
      ·right
       rcases hor6 with z | z
       ·exact z▸Kh h2 h1
       ·lia
     ·rw[het]at hx;rcases QA.mp hx with z | z
      ·have:=hcl6 x z hx2;simp[addK_mem,this.1,this.2]
      ·rw[Qq.mp z];simp[addK_mem]
    refine⟨_,rfl,_,rfl,_,rfl,_,rfl,Z2 m2,?_⟩;refine⟨_,rfl,d,XU (bD F6) (VJ (bg y.1)),rfl,.inl ⟨_,VJ (bg y.1),.inl hd6,by rw[←eb];rfl,rfl⟩,?_⟩;rw[ZcS];by_cases c1:bg y.1∈F6
    ·rw[VD c1];refine⟨_,rfl,Xu rfl (Xu rfl ?_)⟩;refine⟨_,rfl,_,rfl,_,rfl,_,rfl,_,rfl,Z2 m2,d,_,rfl,.inl ⟨_,VJ (bg y.1),hd6,by rw[←eb];rfl,by rw[Zaw];exact ZB (S8 hkl hle6),rfl⟩,?_⟩;rw[ZcT];have hd7:(upd H6 d (.dK (bD (Yn F6 (bg y.1))))) d=some (.dK (bD (Yn F6 (bg y.1)))):=Zd;have hal:=YU F6 (bg y.1);refine⟨_,rfl,_,rfl,_,rfl,_,rfl,Z2 m2,d,_,rfl,.inl ⟨_,VJ (en y.1),hd7,by rw[←ee];rfl,by rw[Zaw];exact ZB (S9 hkl hle6 hal),rfl⟩,?_⟩;rw[ZcT,Jd];exact fin (.inl c1)
    rw[if_neg c1];refine⟨_,rfl,Ys rfl ⟨_,rfl,_,rfl,_,rfl,Z2 m2,_,rfl,d,XU (bD F6) (VJ (en y.1)),rfl,.inl ⟨_,VJ (en y.1),.inl hd6,by rw[←ee];rfl,rfl⟩,?_⟩⟩;rw[ZcS];by_cases c2:en y.1∈F6
    ·rw[VD c2];refine⟨_,rfl,Xu rfl ?_⟩;refine⟨_,rfl,_,rfl,_,rfl,_,rfl,_,rfl,Z2 m2,d,_,rfl,.inl ⟨_,VJ (bg y.1),hd6,by rw[←eb];rfl,by rw[Zaw];exact ZB (S8 hkl hle6),rfl⟩,?_⟩;rw[ZcT];have hd7:(upd H6 d (.dK (bD (Yn F6 (bg y.1))))) d=some (.dK (bD (Yn F6 (bg y.1)))):=Zd;refine⟨_,rfl,_,rfl,_,rfl,_,rfl,Z2 m2,d,_,rfl,.inl ⟨_,VJ (en y.1),hd7,by rw[←ee];rfl,by rw[Zaw];exact ZB (S9 hkl hle6 (YU F6 (bg y.1))),rfl⟩,?_⟩;rw[ZcT,Jd];exact fin (.inr c2)
    rw[if_neg c2];refine⟨_,rfl,Ys rfl ⟨F6,_,_,rfl,s6,hd6,hW6,hor6,hsub6,fun x hx hx2=>?_⟩⟩;rw[het]at hx;rcases QA.mp hx with z | z
    ·exact hcl6 x z hx2
    ·rw[Qq.mp z]at hx2 ⊢;rcases hx2 with w | w
     ·exact VM (hsub6 _ w) c1
     ·exact VM (hsub6 _ w) c2
   ·rintro σ' H6 ⟨F6,z3',z4',rfl,s6,hd6,hW6,hor6,hsub6,hcl6⟩;rw[hpa.1,Q8]at hcl6;refine⟨_,?_,F6,F.length,_,_,rfl,s6,hd6,hW6,?_,rfl⟩
    ·omega
    ·rcases hor6 with z | z
     ·subst z;exact .inr hcl6
     ·exact .inl z
  ·rintro σ H4 ⟨F,z2,z3,z4,rfl,s4,hd4,hW,hcl⟩;have hle:=hW.le;have hall:∀ x,x∈F↔Rch es (bg e.1) x:=fun x=>⟨hW.rch x,fun z=>Rch.closed (F:=fun x=>x∈F) hW.fst (fun P' hP y hy=>by
    obtain⟨x',hx',⟨q1,q2⟩ | ⟨q1,q2⟩⟩:=hy
    ·exact q2▸(hcl x' hx' (.inl (q1▸hP))).2
    ·exact q2▸(hcl x' hx' (.inr (q1▸hP))).1) z⟩
   refine⟨_,rfl,q,rfl,⟨_,SqT.of (s4 _ _ hq)⟩,ZbD vs.length (fun i=>vs.getD i .non) (fun i=>decide (bg (es.getD i ("",0)).1∉F)) (fun _ _ _=>DZ) (Zl (by rw[hpa.1];exact Na hf2)) (fun _ _ _ _ _ _=>trivial) (Jz (SqT.of (s4 _ _ hq))) ?_ ?_⟩
   ·intro i H5 Qt Qf hi hs ht hf;have hie:i<es.length:=by exact hpa.1▸hi
    obtain⟨b,e1,e2⟩:=hpa.2 i es[i] (Qa hie);have eg:es.getD i ("",0)=es[i]:=by rw[Qb,Qa hie];rfl
    have eu:vs.getD i .non= .ref b:=by rw[Qb,e1];rfl
    obtain⟨m1,m2⟩:=hF.long es[i] (QH hie);rw[eg]at ht hf;rw[eu];refine⟨b,_,rfl,SqT.of (hs _ _ (s4 _ _ e2)),rfl,_,_,rfl,_,_,rfl,rfl,?_⟩;generalize es[i]=y at *;refine⟨_,rfl,_,rfl,_,rfl,_,rfl,Z2 m2,?_⟩;rw[(XV m1)];refine⟨_,rfl,d,_,rfl,DGet.kk (k:=VJ (bg y.1)) (hs _ _ hd4),?_⟩;rw[ZcS];by_cases c:bg y.1∈F
    ·exact VD c▸⟨_,rfl,ZoE (hf (VO fun n=>n c) _ (Same.refl _))⟩
    ·exact if_neg c▸⟨_,rfl,ZnW ⟨_,rfl,ht (VR c) _ _ (Same.refl _) trivial⟩⟩
   ·intro D1 us H5 hl _ hs hD1 hDl;refine⟨QN _,fun p0 hp0=>?_⟩;have s0:=Zb (o:=.lst []) hp0;refine⟨D1,p0,_,rfl,rfl,s0 _ _ hDl,Zd,?_⟩;refine k _ _ ((s4.trans hs).trans s0) ?_;have e0:us.isEmpty=true↔((Qz vs.length).filter fun i=>decide (bg (es.getD i ("",0)).1∉F))=[]:=by
     rw[List.isEmpty_iff,←Wa,hl,Wa]
    rw[e0,List.filter_eq_nil_iff];constructor
    ·intro hx t ht;obtain⟨i,hi,e⟩:=WC ht;have:=hx i (Qu.mpr (by exact hpa.1▸hi));rw[Qb,Qa hi,WW,e]at this;exact(hall _).mp (NT fun n=>this (VR n))
    ·intro hx i hi;have hi':i<es.length:=by exact hpa.1▸Qu.mp hi
     rw[Qb,Qa hi',WW];have:=(hall _).mpr (hx es[i] (QH hi'));intro n;exact MC n this
end
def ZdW (g) (ss) (y):flatE (ups g (ss++[y]))=flatE (ups g ss)++Qw (g y).toNat y:=by
 unfold ups;rw[WH];unfold flatE;by_cases c:0<g y
 simp_all
 simp_all
def ZdV:(flatE (ups g (ss.take n))).length<=(flatE (ups g ss)).length:=by
 conv=>rhs;rw[←Wj n ss]
 unfold ups;rw[WH,QK];unfold flatE;rw[Rn,Qg];exact Kb
section
variable {P:Oh} {w:Ol} {K:VB} {mg:VI->VE VG} {base:Nu}
abbrev Zgc:Mv:=top 47
noncomputable abbrev Zm3:VA VI:=["_law_heap_here","_law_way","_law_more_here","_law_piece","_law_times","_law_found","_law_point"]
def scLmore:Zp Zm3 ["_law_heap_here","_law_way"] (Zf Zgc):=⟨rfl,rfl,rfl,bh,rfl,bh,bh⟩
def ZfW:Sp:=fun vs H Q _=>∃ (v:V) (es:Es) (wy:VN) (g:VI->VN),vs=[v,.int wy]/\HeapV H v es/\Zie es/\(wy=1\/wy = -1)/\(∀ x,wy*mo es x=g x)/\(∀ ss,SPts es ss->(flatE (ups g ss)).length<=1000/\∀ x∈ss,-1000<=g x)/\∀ (l:VH) (H':Hp) (ss:VA VI),Same H H'->SPts es ss->H' l=some (.lst ((flatE (ups g ss)).map V.str))->Q (.ref l) H'
def ZgS (D:HasDef K mg "_law_more" Zgc ["_law_heap_here","_law_way"]) (B:Blt mg):FOk P w K mg base 1 "_law_more" ["_law_heap_here","_law_way"] ZfW:=by
 refine D.ok scLmore (fun vs H Q E h=>?_) (fun f cdv A outer s H vs Q E hr h=>?_)
 obtain⟨v,m,j,g,rfl,_⟩:=h;rfl
 apply Lb;intros;apply La;intros;obtain⟨v,m,j,g,rfl,⟨q,vs,rfl,hq,I⟩,hF,hw,hgw,hlo,k⟩:=h;have hu:=ZdE hr;refine⟨_,(Zc (Zm 2 scLmore.nd Xy)
  (Zc (Z1 VP rfl (Yv (pv 0)) (ZW 2 K rfl (Zq (Zw 3 scLmore.nd) (Zq (Zw 4 scLmore.nd) ZV)))
   (Zc (Y7 hu (pv 2) (Zr ZP (pv 3) Zy (Zv (XC YA Zg))) (Zo ZJ (YE hu (pv 2) (Zr ZP (pv 3) Zy (Zv (XC YA Zg))) Zg ⟨rfl,rfl,rfl,rfl⟩) (Zo Xq (pv 4) (pv 1))) rfl)
  (Zj (Y7 hu (pv 2) (Zr ZP (pv 3) (Zv Zg) Zy) (Zo YL (YE hu (pv 2) (Zr ZP (pv 3) (Zv Zg) Zy) Zg ⟨rfl,rfl,rfl,rfl⟩) (Zo Xq (pv 4) (pv 1))) rfl))))
  (Zc (Zm 5 scLmore.nd (ZC Ze))
  (Zc (Z1 VP rfl (Xn (Zk (Ja rfl) rfl B.sorted XA (Za (pv 2) Ze))) (Zw 6 scLmore.nd)
   (Zj (Zm 5 scLmore.nd (Zo XH (pv 5) (Zo Xi (ZC (Za (pv 6) Ze)) (Zdh hu (pv 2) (pv 6) (fun _ _=>rfl)))))))
  (Zj (Zu (pv 5))))))),?_⟩
 apply De;intros;intro d hd;have s1:=Zb (o:=.dK []) hd;have g0:∀ l:Es,∀ x,(j*mo l x)=(fun y=>j*mo l y) x:=fun _ _=>rfl;refine⟨_,rfl,q,rfl,⟨_,SqT.of (s1 _ _ hq)⟩,?_⟩;refine Xc (K:=K) (a:=q) (xs:=vs) (fun i σ F=>(∃ z3 z4:VE V,σ=[some (.ref q),some (.int j),some (.ref d),z3,z4,none,none])/\Same H F/\∃ r,Pts (m.take i) r/\F d=some (.dK (gD r fun y=>j*mo (m.take i) y)))
  ⟨⟨none,none,rfl⟩,s1,[],Pts.nil,Zd⟩ (fun i σ F _ ⟨_,O,_⟩=>SqT.of (O _ _ hq)) ?_ ?_
 rintro i x σ F R ⟨⟨z3,z4,rfl⟩,O,r,G,o⟩;have hiv:i<vs.length:=(Qj.mp R).1;have N:i<m.length:=by rw[←I.1];exact hiv
 apply La;intros;obtain⟨b,e1,e2⟩:=I.2 i m[i] (Qa N);rw[R]at e1;cases e1;obtain⟨l1,l2⟩:=hF.long m[i] (QH N);have U:=G.len;have hfew:=hF.few;rw[QD]at U;refine⟨b,_,rfl,SqT.of (O _ _ e2),rfl,_,_,rfl,_,_,rfl,rfl,?_⟩;apply Db;intros;have z:m.take (i+1)=m.take i++[m[i]]:=QO N;generalize m[i]=e at *;have hz:e.1.length<=Od:=Z2 l2;have cm:CMul e.2 j:=.inr br;have sb:NH e.1 none (some (-1))=bg e.1:=XV l1;have se:NH e.1 (some 1) none=en e.1:=Zbg l1;refine⟨_,rfl,d,rfl,.inl ⟨_,.inl o⟩,_,rfl,_,rfl,_,rfl,_,rfl,hz,?_⟩;rw[sb];refine⟨_,DGet.kk (k:=VJ (bg e.1)) o,_,rfl,_,rfl,_,_,rfl,rfl,cm,_,_,(Zal (ks:=r) (g:=fun y=>j*mo (m.take i) y) (y:=bg e.1) fun hP=>by rw[G.zero hP];simp),rfl,_,rfl,_,rfl,_,rfl,_,rfl,_,rfl,hz,?_⟩;rw[sb];refine⟨d,_,rfl,DPut.kk (k:=VJ (bg e.1)) o (by rw[ZaX];exact ZB (Ti hfew U)),?_⟩;rw[ZaW];have t:(upd F d (.dK (gD (Yn r (bg e.1)) fun x=>if x=bg e.1 then j*mo (m.take i) (bg e.1)+e.2*j else j*mo (m.take i) x))) d=some (.dK (gD (Yn r (bg e.1)) fun x=>if x=bg e.1 then j*mo (m.take i) (bg e.1)+e.2*j else j*mo (m.take i) x)):=Zd;have hg2:=Zal (ks:=Yn r (bg e.1)) (g:=fun x=>if x=bg e.1 then j*mo (m.take i) (bg e.1)+e.2*j else j*mo (m.take i) x) (y:=en e.1) fun hP=>by
  rw[addK_mem,T5]at hP;rw[if_neg hP.2,G.zero hP.1];simp
 have hal:=YU r (bg e.1);refine⟨_,rfl,d,rfl,.inl ⟨_,.inl t⟩,_,rfl,_,rfl,_,rfl,hz,?_⟩;rw[se];refine⟨_,DGet.kk (k:=VJ (en e.1)) t,_,rfl,_,rfl,_,_,rfl,rfl,cm,_,_,hg2,rfl,_,rfl,_,rfl,_,rfl,_,rfl,hz,?_⟩;rw[se];refine ⟨d,_,rfl,DPut.kk (k:=VJ (en e.1)) t (by rw[ZaX];exact ZB (Tj U hal hfew)),⟨⟨_,_,rfl⟩,fun c u hc=>?_,Yn (Yn r (bg e.1)) (en e.1),by exact z▸G.step e,?_⟩⟩
 rw[Jd,Zi (Zh hc hd)];exact O c u hc
 rw[Zd,ZaW,z];refine NA (fun l=>some (HO.dK l)) (X7 fun x _=>?_);rw[Zha,Int.mul_add,Int.mul_comm e.2 j];unfold mo1 ind;by_cases c1:x=en e.1
 subst c1;rw[VD rfl,VD rfl];by_cases C:en e.1=bg e.1
 ·rw[VD C,VD C.symm,C,Rw,Int.sub_self];lia
 ·rw[if_neg C,if_neg (VS C),Rw,U3,CF,Int.mul_neg];exact Tk
 rw[if_neg c1,if_neg (VS c1)];by_cases C:x=bg e.1
 ·subst C;rw[VD rfl,VD rfl,Rw,U3,DW]
 ·rw[if_neg C,if_neg (VS C),U3,DW,U3];lia
 rintro σ F ⟨⟨z3,z4,rfl⟩,O,r,G,o⟩;rw[I.1,Q8]at G o;have U:=G.len;have hfew:=hF.few;rw[X7 fun x _=>hgw x]at o;refine⟨QN _,fun l0 hl0=>?_⟩;have s3:=Zb (o:=.lst []) hl0;refine⟨_,rfl,Pf d r (fun x=>.int (g x)) ⟨rfl,s3 _ _ o,Tl hfew U,fun p a hp M hsrt=>?_⟩⟩;have hS:SPts m a:=SPts.of G M (Zev (M.nodup_iff.mpr G.nd) hsrt);obtain⟨h1,h2⟩:=hlo a hS;have s4:=s3.trans (Zb (o:=.lst (a.map V.str)) hp);have sp:(upd (upd F l0 (.lst [])) p (.lst (a.map V.str))) p=some (.lst (a.map V.str)):=Zd;have sl:(upd (upd F l0 (.lst [])) p (.lst (a.map V.str))) l0=some (.lst []):=Zb hp _ _ Zd;generalize upd (upd F l0 (.lst [])) p (.lst (a.map V.str))=H3 at *;have s5:Same H H3:=O.trans s4;refine ⟨p,rfl,⟨_,SqL.of sp⟩,JH (K:=K) (a:=p) (xs:=a.map V.str) (fun i σ S=>(∃ (l:VH) (z6:VE V),σ=[some (.ref q),some (.int j),some (.ref d),z3,z4,some (.ref l),z6]/\S l=some (.lst ((flatE (ups g (a.take i))).map V.str)))/\Same H3 S) ⟨⟨l0,none,rfl,sl⟩,Same.refl _⟩ (fun i σ S _ ⟨_,T⟩=>SqL.of (T _ _ sp)) ?_ ?_⟩
 rintro i x σ S R ⟨⟨l,z6,rfl,hl⟩,T⟩;have J:i<a.length:=by
  have:=(Qj.mp R).1;rw[Qd]at this;exact this
 rw[Qi,Qa J]at R;have ex:x=V.str a[i]:=(VQ R).symm;subst ex;have hm:a[i]∈a:=QH J;have z:a.take (i+1)=a.take i++[a[i]]:=QO J;have hb:=ZdV (g:=g) (ss:=a) (n:=i);have hb2:=ZdV (g:=g) (ss:=a) (n:=i+1);generalize a[i]=y at *;have hy:=h2 y hm;have hyks:y∈r:=M.mem_iff.mp hm;rw[z,ZdW,Qg,Wb]at hb2;refine⟨_,rfl,_,rfl,Zl (show 1<=1000 by decide),fun p1 hp1=>?_⟩;have s7:=Zb (o:=.lst [V.str y]) hp1;have hgt:DGet (upd S p1 (.lst [V.str y])) d (kV (VJ y)) (some (.int (g y))):=.inl ⟨_,VJ y,.inl (s7 _ _ (T _ _ (s4 _ _ o))),rfl,by rw[ZhI,VD hyks]⟩;refine⟨_,rfl,_,rfl,d,_,rfl,hgt,Pf p1 (g y) _ ⟨rfl,rfl,Zd,br,br,Zl (by rw[Qp];lia),fun p2 hp2=>?_⟩⟩;have s8:=s7.trans (Zb (o:=.lst (Qw (g y).toNat [V.str y]).flatten) hp2);refine Pg l p2 _ _ ⟨rfl,rfl,s8 _ _ hl,Zd,Zl (by rw[Qd,Zae,Qp];lia),fun p3 hp3=>⟨⟨p3,_,rfl,?_⟩,T.trans (s8.trans (Zb hp3))⟩⟩;rw[Zd,z,ZdW,QK,WY];refine NA (fun l=>some (HO.lst (_++l))) ?_;generalize (g y).toNat=n;induction n with
 | zero=>rfl
 | succ n ih=>rw[WV,UB,ih,WV];rfl
 rintro σ S ⟨⟨l,z6,rfl,hl⟩,T⟩;rw[Qd,Q8]at hl;exact⟨_,rfl,k _ _ a (s5.trans T) hS hl⟩
end
end Sh
namespace L2
open PySem PySem.Spec PyProof.Rows
section
variable {prog:Oh} {w:Ol} {A:NC} {E:VG->VF->Prop} {s:VF}
def ZkF {z TI TO h f p m} {Q:VG->VF->Prop} (D:Gg z TI TO h f p m) (l:Gr s.heap z TI TO .none) (pI:OI s.heap TI (.ref h) (.ref f)) (pO:OI s.heap TO u v)
  (j1:s.heap.IsTupleIter h p L) (Y:s.heap.IsListIter f m n2) (t1:s.heap.IsTuple p xs) (t2:s.heap.IsList m ys) (ex:xs[L]?=some x) (ey:ys[n2]?=some y)
  (q:∀ g,Gr g z TI TO (OD s.heap.objs.size)->OI g TO x y->g.IsTupleIter h p (L+1)->g.IsListIter f m (n2+1)->OI g s.heap.objs.size x y->(∀ c o,c≠z->c≠TO->c≠h->c≠f->s.heap.get? c=some o->g.get? c=some o)->Q (.ref s.heap.objs.size) {s with heap:=g}) :
  Oe (Oc prog w) A (NP.«zip.__next__» ⟨[.ref z],[]⟩) (fun G s'=>∃ v,G= .done (.ret v)/\Q v s') E s:=by
 show Oe _ _ (field (.ref z) 2 >>= _) _ _ _;apply Pk;intros;refine Oa (Oo l rfl (x:=.bool false) rfl (Oa (Oo l rfl (x:=.ref TI) rfl (Oa (Ow pI rfl ((Oa (Oa (Oo l rfl (x:=.none) rfl (Ob (Oa (OL (Oa (Oo l rfl (x:=.ref TO) rfl (Oa (Oq l bo fun g1 z1 d=>Oa (Oa (Oa (DI (Oa (Zlw (j1.extBut d.extBut D.i1z) (t1.extBut d.extBut D.l1z) ex fun Z F k=>Ob ?_)))))))))))))))))))));have V:OI Z TO u v:=k.extBut _ _ D.TOi1 (d.extBut _ _ D.TOz pO);refine Oa (Ow V rfl (Oa (Ds V fun g3 o3 j=>Oa (O5 (Ob (Oa (Oa (DI (Oa (R4 (((Y.extBut d.extBut D.i2z).extBut k.extBut D.i12.symm).extBut j.extBut D.TOi2.symm) (((t2.extBut d.extBut D.l2z).extBut k.extBut D.l2i1).extBut j.extBut D.l2TO) ey fun g4 H r=>Ob (Pl ?_)))))))))));intros;have U:OI g4 TO x v:=r.extBut _ _ D.TOi2 o3;refine Oa (Ow U rfl (Oa (Ds U fun b t n=>Oa (O5 (Ob (Ob ?_))))));replace t:OI b TO x y:=t;refine Oa (Ow t rfl (Oa (GG ?_)));have R:b.objs.size=s.heap.objs.size:=by rw[n.1,r.1,j.1,k.1,d.1]
 have S:Gr b z TI TO .ellipsis:=n.extBut _ _ D.TOz.symm (r.extBut _ _ D.i2z.symm (j.extBut _ _ D.TOz.symm (k.extBut _ _ D.i1z.symm z1)));have k5:∀ c o,c≠z->c≠TO->c≠h->c≠f->s.heap.get? c=some o->b.get? c=some o:=fun c o i B I J e=>n.extBut _ _ B (r.extBut _ _ J (j.extBut _ _ B (k.extBut _ _ I (d.extBut _ _ i e))));have M:b.IsTupleIter h p (L+1):=((F.extBut j.extBut D.TOi1.symm).extBut r.extBut D.i12).extBut n.extBut D.TOi1.symm;have N:b.IsListIter f m (n2+1):=H.extBut n.extBut D.TOi2.symm;have X:z<b.objs.size:=Ql S;refine(Oa ?_);have z6:Gr (b.push {cls:=.type "tuple",data:=.seq #[x,y]}) z TI TO .ellipsis:=Qc _ S;refine Oa (Oq z6 bo fun g7 z7 P=>Oq z7 bo fun K W O=>?_);have C:∀ c o,c≠z->b.get? c=some o->K.get? c=some o:=fun c o i e=>O.extBut _ _ i (P.extBut _ _ i (Qc _ e));have T:OI K b.objs.size x y:=O.extBut _ _ (Uc X) (P.extBut _ _ (Uc X) (Qk _ rfl));rw[R]at W T;exact Ob ⟨.ref b.objs.size,rfl,R▸q K W (C _ _ D.TOz t) (M.at fun o e=>C _ o D.i1z e) (N.at fun o e=>C _ o D.i2z e) T fun c o i B I J e=>C c o i (k5 c o i B I J e)⟩
def ZiD {z TI TO b a e d} (D:Gg z TI TO b a e d) (f:Gr s.heap z TI TO .none) (p:OI s.heap TI (.ref b) (.ref a)) (C:OI s.heap TO u v)
  (r:s.heap.IsTupleIter b e h) (i:s.heap.IsListIter a d n2) (G:s.heap.IsTuple e xs) (t2:s.heap.IsList d ys) (m:xs[h]?=some x) (n:ys[n2]?=some y)
  (q:∀ g,Gr g z TI TO (OD s.heap.objs.size)->OI g TO x y->g.IsTupleIter b e (h+1)->g.IsListIter a d (n2+1)->OI g s.heap.objs.size x y->(∀ c o,c≠z->c≠TO->c≠b->c≠a->s.heap.get? c=some o->g.get? c=some o)->Q (some (.ref s.heap.objs.size)) {s with heap:=g}) :
  Oe (Oc prog w) A (Gb (.ref z)) Q E s:=by
 exact Oa (Ox (VW ⟨_,f,rfl⟩ F.slot_zip_next (Om F.slot_zip_next ⟨_,f,rfl⟩ F.entry_zip_next (ZkF D f p C r i G t2 m n fun g H B k l j t=>Ob (q g H B k l j t)) (F.args_zip_next_1 _))))
end
def ZnP (a b:VH):It :=
 ⟨fun i H=>∃ xs x ys y,H a=some (.tup xs)/\xs[i]?=some x/\H b=some (.lst ys)/\ys[i]?=some y,fun i H v H'=>∃ t x y,H t=none/\v= .ref t/\H'=upd H t (.tup [x,y])/\(∀ xs,H a=some (.tup xs)->xs[i]?=some x)/\∀ ys,H b=some (.lst ys)->ys[i]?=some y,
  fun i H=>∃ xs,H a=some (.tup xs)/\xs.length<=i⟩
def ZoZ (a b:VH) (n:VC) (i:VC) (h:Nu):Prop:=Gr h (n+4) (n+2) (n+3) .none/\OI h (n+2) (.ref n) (.ref (n+1))/\(∃ u v,OI h (n+3) u v)/\h.IsTupleIter n a i/\h.IsListIter (n+1) b i
def ZfE {K} (a b) (n:VC):Zic P w K (.Tuple elts k pos) (ZnP a b) [n+4,n+2,n+3,n,n+1] (n+4) (ZoZ a b n) where
 mem:=bo
 obj:=fun i h ⟨f,p,⟨u,v,A⟩,⟨o4,Y,c4,d4⟩,⟨o5,e5,c5,d5⟩⟩ c d=>by
  have d:c=n+4\/c=n+2\/c=n+3\/c=n\/c=n+1:=bp
  rcases d with z | z | z | z | z
  subst z;exact⟨_,f,fun v z=>bp⟩
  subst z;exact⟨_,p,fun v z=>bp⟩
  subst z;exact⟨_,A,fun v z=>bp⟩
  subst z;exact⟨o4,Y,fun v z=>bp⟩
  subst z;exact⟨o5,e5,fun v z=>bp⟩
 keep:=fun i h C ⟨f,p,⟨u,v,A⟩,F,J⟩ l=>⟨l _ bo _ f,l _ bo _ p,⟨u,v,l _ bo _ A⟩,F.at fun o e=>l n bo o e,J.at fun o e=>l (n+1) bo o e⟩
 item:=by
  intro X M N Q d i G s σ H E I D ⟨f,p,⟨u,v,A⟩,F,J⟩ hg;subst M N Q;apply La;intros;obtain⟨xs,x,ys,y,t,hx,U,hy⟩:=hg;obtain⟨_,r,W,R,_⟩:=(show ObjOk X.prog X.w H s.heap a (.tup xs)from I.hok a _ t)
  obtain⟨jts,Z,p2,_⟩:=I.list (SqL.of U);obtain⟨L,O,rx⟩:=W.get hx;obtain⟨V,hy',ry⟩:=Z.get hy;have m:∀ c o,H c=some o->c∉[n+4,n+2,n+3,n,n+1]:=fun c o e z=>by rw[(D c z).1]at e;grind
  have j:∀ c,c∉[n+4,n+2,n+3,n,n+1]->c∉[n+4,n+3,n,n+1]:=fun c h z=>h (by simp at z ⊢;lia);refine ZiD (apart (j a (m a _ t)) (j b (m b _ U))) f p A F J (show s.heap.IsTuple a r.toArray from R) p2.isList (x:=L) (y:=V) (by simpa using O) (by simpa using hy') fun g z1 o1 j1 j2 t1 l=>⟨_,rfl,wpAny_letOwnedTupleGo_zip z1 fun g2 z2 sb=>?_⟩;have B:∀ c o,c≠n+4->g.get? c=some o->g2.get? c=some o:=fun c o d e=>(sb.2 c d).trans e;have nz:s.heap.objs.size≠n+4:=Uc (Ql f);have t2:=B _ _ nz t1;have lt3:n+3<s.heap.objs.size:=Ql A;have d1:n+3≠n+4:=br
  have d2:n≠n+4:=br
  have d3:n+1≠n+4:=br
  have e1:n+2≠n+4:=So
  have e2:n+2≠n+3:=Sq
  have e3:n+2≠n:=Ss
  have Y:n+2≠n+1:=Su
  refine⟨.ref s.heap.objs.size,_,Inv.laidM (s:=s) (a:=s.heap.objs.size) (t':=s.toks) (o:=.tup [x,y]) (ch:=[n+4,n+2,n+3,n,n+1]) I (fun c o d e=>?_) (fun c d=>D c d) (Qh _) ?_,rfl,⟨_,x,y,I.hok.fresh (Qh _),rfl,rfl,fun xs' C=>?_,fun ys' C=>?_⟩,⟨z2,B _ _ e1 (l _ _ e1 e2 e3 Y p),⟨L,V,B _ _ d1 o1⟩,j1.at fun o e=>B _ o d2 e,j2.at fun o e=>B _ o d3 e⟩,fun c d=>?_⟩
  simp only[Qs,Q7,or_false,T5]at d;exact B c o d.1 (l c o d.1 d.2.2.1 d.2.2.2.1 d.2.2.2.2 e)
  exact⟨(show 2<=Od by rw[Oz];decide),[L,V],.cons rx (.cons ry .nil),⟨_,t2,rfl,_,rfl⟩,fun o q=>by rw[t2]at q;cases q;rfl⟩
  rw[t]at C;cases C;exact hx
  rw[U]at C;cases C;exact hy
  rw[Zi]
  exact(D c d).1
  have S:c=n+4\/c=n+2\/c=n+3\/c=n\/c=n+1:=by simpa using d
  have T:n+4<s.heap.objs.size:=Ql f;exact QB (show(c:VC)<s.heap.objs.size by rcases S with z | z | z | z | z <;> (rw[z];first | omega | exact Wq br T))
 done:=by
  intro X M N Q d i G s σ H E I D ⟨f,p,⟨u,v,A⟩,F,J⟩ hg;subst M N Q;obtain⟨xs,t,_⟩:=hg;refine L8 ((show ObjOk X.prog X.w H s.heap a (.tup xs)from I.hok a _ t)) fun _ r W R _=>?_
  have m:a∉[n+4,n+2,n+3,n,n+1]:=fun z=>by rw[(D a z).1]at t;cases t
  have j:a∉[n+4,n+3,n,n+1]:=fun z=>m (by simp at z ⊢;rcases z with z | z | z | z <;> simp[z]);exact ZmE (I.ok.hd d) (apart j j) f p F (show s.heap.IsTuple a r.toArray from R) (by simp;exact Kd ‹_› W.length) fun g l=>⟨rfl,Inv.turnedM (t':=s.toks) (ch:=[n+4,n+2,n+3,n,n+1]) I (fun c o d e=>l c o (fun z=>d (by simp[z])) (fun z=>d (by simp[z])) e) D⟩
 self:=fun _ _ _ _ _ ⟨f,_⟩ h=>LO f h
noncomputable abbrev Zn6 (h:Nu) (p:VH):Nu:=h.push {cls:=.type "tuple_iterator",data:=.fields #[.ref p,.int 0 0]}
noncomputable abbrev Zn5 (h:Nu) (p r:VH):Nu:=(Zn6 h p).push {cls:=.type "list_iterator",data:=.fields #[.ref r,.int 0 0]}
noncomputable abbrev Zn4 (h:Nu) (p r:VH):Nu:=(Zn5 h p r).push {cls:=.type "tuple",data:=.seq #[.ref h.objs.size,.ref (Zn6 h p).objs.size]}
noncomputable abbrev Zn3 (h:Nu) (p r:VH):Nu:=(Zn4 h p r).push {cls:=.type "tuple",data:=.seq #[.none,.none]}
noncomputable abbrev Zmb (h:Nu) (p r:VH):Nu:=(Zn3 h p r).push {cls:=.type "zip",data:=.fields #[.none,.bool false,.bool false,.ref (Zn5 h p r).objs.size,.ref (Zn4 h p r).objs.size]}
def Zfc (p r) (xs ys):Meets (NP.«zip.__new__» ⟨[.type "zip",.ref p,.ref r],[]⟩) (fun _ R s=>s.heap.IsTuple p xs/\s.heap.IsList r ys/\R (.ok (.ret (.ref (Zn3 s.heap p r).objs.size))) {s with heap:=Zmb s.heap p r}) :=
 .of_wp fun c w A R s h=>by
  obtain⟨k,d,f,i,os⟩:=s;obtain⟨e,g,h⟩:=h;have b:=sub_zip;have j:Heap.IsList (Shared.heap ⟨k.push {cls:=.type "tuple_iterator",data:=.fields #[.ref p,.int 0 0]},d,f,i,os⟩) r ys:=g.push _
  wp_walk using DP e,OU j
  exact⟨_,rfl,h⟩
def Zh0 (t:s.heap.IsTuple p xs) (t2:s.heap.IsList r ys)
  (q:∀ g,ZoZ p r s.heap.objs.size 0 g->(∀ c o,s.heap.get? c=some o->g.get? c=some o)->Q (.ref (s.heap.objs.size+4)) {s with heap:=g}):Oe (Oc prog w) A (call (.type "zip") [.ref p,.ref r]) Q E s:=by
 refine callType_new F.called_zip be (F.typeCall_zip_2 _ _) (F.newCall_zip_2 _ _) (fun d=>F.args_object_init_3 d _ _) F.entry_zip_new (Zfc p r xs ys) ⟨t,t2,?_⟩;have i:(Zn6 s.heap p).objs.size=s.heap.objs.size+1:=Wu ..;have h:(Zn5 s.heap p r).objs.size=s.heap.objs.size+2:=bo
 have m:(Zn4 s.heap p r).objs.size=s.heap.objs.size+3:=bo
 have l:(Zn3 s.heap p r).objs.size=s.heap.objs.size+4:=bo
 have f:(Zmb s.heap p r).get? _=some _:=Qk _ rfl;have n:(Zmb s.heap p r).get? _=some _:=Qc _ (Qk _ rfl);have k:(Zmb s.heap p r).get? _=some _:=Qc _ (Qc _ (Qk _ rfl));have j:(Zmb s.heap p r).get? _=some _:=Qc _ (Qc _ (Qc _ (Qk _ rfl)));have u:(Zmb s.heap p r).get? s.heap.objs.size=some _:=Qc _ (Qc _ (Qc _ (Qc _ (Qk _ rfl))));rw[h,m,l]at f;rw[i,h]at k;rw[m]at n;rw[i]at j;exact l▸⟨⟨_,f,rfl⟩,q _ ⟨f,k,⟨_,_,n⟩,⟨_,u,rfl,rfl⟩,⟨_,j,rfl,rfl⟩⟩ fun c o e=>Qc _ (Qc _ (Qc _ (Qc _ (Qc _ e))))⟩
def ZoG (ta:TA):TI:=fun σ H R=>ta σ H fun vs H1=>∃ a b xs ys,vs=[.ref a,.ref b]/\H1 a=some (.tup xs)/\H1 b=some (.lst ys)/\R (ZnP a b) H1
def Zlf {m} {E} {j} {p pos} (N:Gl X "zip") (J:X.mg "zip" = none) (F:PA X (l::n) B) (A:Oi (l::n) X.env=(false,NQ l X.env)::Oi n X.env:=by rfl) (t:(OE pos (Oi n X.env)).any (·.1)=false:=by rfl) :
  PI X (.Tuple m E j) (.Call (.Name "zip" p) (l::n) [] pos) (ZoG B):=by
 intro k s σ H R I h;refine Call_ (YQ I N J ZnG (VY (thn (F pos k s σ H _ I h) fun Q d ⟨S,w,f,D,x⟩=>?_) A t));obtain⟨a,b,U,W,rfl,C,O,q⟩:=x;obtain⟨u,V,rfl,rfl,rfl⟩:=ZeR D;obtain⟨_,y,Y,G,_⟩:=(f.hok a _ C)
 obtain⟨P,K,M,_⟩:=f.list (SqL.of O);refine Zh0 G M.isList fun g st v=>LO st.1 ⟨_,_,_,_,w,rfl,f.kept fun c o e=>v c o e,ZfE a b d.heap.objs.size,st,fun c T=>?_,q⟩;have r:c=d.heap.objs.size+4\/c=d.heap.objs.size+2\/c=d.heap.objs.size+3\/c=d.heap.objs.size\/c=d.heap.objs.size+1:=by simp_all
 have i:d.heap.objs.size<=c:=by rcases r with z | z | z | z | z <;> (simp_all)
 exact f.fpOk i (f.hok.fresh i)
def Zjn {g:TG} {l:TS} {D:Zfy} (d:VC->St->Hp->Prop) (v:ys.length=xs.length) (s:d 0 σ H) (A:∀ i σ H,i<=xs.length->d i σ H->H a=some (.tup xs)/\H b=some (.lst ys))
  (C:∀ i x y σ H t,xs[i]?=some x->ys[i]?=some y->H t=none->d i σ H->g (.ref t) σ (upd H t (.tup [x,y])) fun c j=>l {D with nx:=d (i+1),ct:=d (i+1),bk:=D.nx} c j) (u:∀ σ H,d xs.length σ H->D.nx σ H) :
  ∃ W:VC->VC->St->Hp->Prop,(∃ m,W 0 m σ H)/\∀ i m σ H,W i m σ H ->
   ((ZnP a b).stop i H/\D.nx σ H)\/((ZnP a b).go i H/\∃ N,(∀ h f,N h f->∃ n,n<m/\W (i+1) n h f)/\∀ x f,(ZnP a b).yld i H x f->g x σ f fun c j=>l {D with nx:=N,ct:=N,bk:=D.nx} c j):=by
 refine⟨fun i m σ H=>m=xs.length-i/\i<=xs.length/\d i σ H,⟨xs.length,bo,QN _,s⟩,?_⟩;rintro i m σ H ⟨rfl,w,p⟩;obtain⟨q,r⟩:=A i σ H w p;by_cases k:i<xs.length
 refine .inr ⟨⟨xs,xs[i],ys,ys[i],q,bo,r,bo⟩,_,fun h f B=>⟨_,Xo k,rfl,k,B⟩,fun x f y=>?_⟩;obtain⟨t,x,y,E,rfl,rfl,_⟩:=y
 simp_all
 have e:i=xs.length:=Vk w k
 subst e;exact .inl ⟨⟨xs,q,Qh _⟩,u σ H p⟩
end L2
namespace Sh
open PySem L2 PyProof.Rows
seal PE PS PSs PT PW L2.PA PI PG PGs PO PC PCs OpR UnR CallR MtR IxR SlR
section
variable {P:Oh} {w:Ol} {K:VB} {mg:VI->VE VG} {base:Nu}
abbrev Zk6:Mv:=top 48
abbrev Zow:VA VI:=["_law_one","_law_other","_law_many"]
def scLltr:Zp Zow ["_law_one","_law_other"] (Zf Zk6):=⟨rfl,rfl,rfl,bh,rfl,bh,bh⟩
def ZjR:Sp:=fun vs H Q _=>∃ x y:VI,vs=[.str x,.str y]/\x.length=y.length/\x.length<=1000/\Q (.int (ltr x y:VC)) H
def ZiS (D:HasDef K mg "_law_letters_to" Zk6 ["_law_one","_law_other"]) (B:Blt mg):FOk P w K mg base 1 "_law_letters_to" ["_law_one","_law_other"] ZjR:=by
 refine D.ok scLltr (fun vs H Q E h=>?_) (fun f cdv A outer s H vs Q E hr h=>?_)
 ·obtain⟨x,y,rfl,_⟩:=h;rfl
 ·apply Lb;intros;obtain⟨x,y,rfl,hl,h1,k⟩:=h;refine⟨_,(Zc (Zm 2 scLltr.nd Zg)
   (Zc (Y6 VP (Zt Zdi (Zr ZP (pv 0) (Zv (pv 2)) Zy) (Zr ZP (pv 1) Zy (Zv (Zo YL (Zk Zn rfl B.len ZG (Za (pv 1) Ze)) (pv 2)))) (Zz _))
    (Zj (Zm 2 scLltr.nd (Zo ZJ (pv 2) Zg))))
   (Zj (Zu (pv 2))))),?_⟩
  apply J1;intros;have hLe:=X2 hl;have hz:x.length<=Od:=Z2 h1;have hz2:y.length<=Od:=Z2 (Kd h1 hl);show Zd1 (ZaG _ _) _ _ _ _;refine Z0 (fun σ H4=>H4=H/\σ=[some (.str x),some (.str y),some (.int (ltr x y:VC))]) (fun R hR=>?_) ?_
  ·refine⟨fun m σ H4=>∃ i:VC,i<=ltr x y/\H4=H/\σ=[some (.str x),some (.str y),some (.int i)]/\m=ltr x y-i,⟨_,0,QN _,rfl,rfl,rfl⟩,?_⟩;rintro m σ H4 ⟨i,hi,rfl,rfl,rfl⟩;have hll:=hLe.1;rw[ZF]at hll;refine⟨_,rfl,_,rfl,_,rfl,_,rfl,hz,_,rfl,_,rfl,.str y,y.length,rfl,⟨hz2,rfl⟩,_,rfl,_,_,rfl,rfl,?_⟩;refine⟨_,rfl,_,rfl,hz2,rfl,_,rfl,?_⟩;have e1:(NH x (some (i:VN)) none).cps.toList=x.cps.toList.drop i:=by
    rw[Yc Tw bq,QX]
   have e2:(NH y none (some ((y.length:VN)-i))).cps.toList=y.cps.toList.take (y.cps.toList.length-i):=by
    rw[XF bq,ZF];congr 1;exact K5
   have e3:(NH x (some (i:VN)) none=NH y none (some ((y.length:VN)-i)))↔Zib x.cps.toList y.cps.toList i=true:=by
    unfold Zib;rw[decide_eq_true_iff,←e1,←e2];exact⟨fun z=>by rw[z],fun z=>ZZ z⟩
   by_cases c:i=ltr x y
   ·have e4:=e3.mpr (by rw[c];exact hLe.2.1);refine Ys (by simp[e4]) (hR _ _ ⟨rfl,by rw[c]⟩)
   ·have e4:¬ (NH x (some (i:VN)) none=NH y none (some ((y.length:VN)-i))):=fun z=>by
     have:=e3.mp z;rw[hLe.2.2 i (Bi hi c)]at this
     simp_all
    refine Xu (by simp[e4]) ⟨_,fun _ _ z=>z,_,rfl,_,_,rfl,rfl,?_⟩;exact⟨ltr x y-(i+1),bq,i+1,br,rfl,rfl,rfl⟩
  ·rintro σ H4 ⟨rfl,rfl⟩;exact⟨_,rfl,k⟩
abbrev Zbj:Mv:=top 49
noncomputable abbrev ZiY:VA VI:=["_law_found","_law_due","_law_pair","_law_point"]
def scLprices:Zp ZiY ["_law_found","_law_due"] (Zf Zbj):=⟨rfl,rfl,rfl,bh,rfl,bh,bh⟩
def Zb5:Sp:=fun vs H Q _=>∃ (v:V) (l:VH) (Ps:VA VI) (u:VC->VN),vs=[v,.ref l]/\HeapV H v (prE Ps u)/\H l=some (.lst (Ps.map V.str))/\∀ H',Same H H'->Q (.bl true) H'
def Zgx (b) (u):(prE b u).length=b.length:=by unfold prE;simp
def JY (h):(prE a u)[i]?=some (a[i],u i):=by
 unfold prE;rw[Qi,Wd h,Wg,Qb,Qa h];rfl
def Zdm (D:HasDef K mg "_law_prices" Zbj ["_law_found","_law_due"]) (B:Blt mg) (g15_:FOk P w K mg base 1 "_law_whole" ["_law_found"] ZfO):FOk P w K mg base 2 "_law_prices" ["_law_found","_law_due"] Zb5:=by
 refine D.ok scLprices (fun vs H Q E h=>?_) (fun f cdv A outer s H vs Q E hr h=>?_)
 ·obtain⟨v,l,Ps,u,rfl,_⟩:=h;rfl
 ·apply Lb;intros;obtain⟨v,l,Ps,u,rfl,⟨q,vs,rfl,hq,hpa⟩,hl,k⟩:=h;refine⟨_,(Zc (Ya (PW.pt (JB (Xm (YI (Zk YN rfl B.isi ZaF (Za (pv 0) (Za (Zcf rfl B.tuple YX) Ze))))) (Jx (Zt Zdi (Zk Zn rfl B.len ZG (Za (pv 0) Ze)) (Zk Zn rfl B.len ZG (Za (pv 1) Ze)) (Zz _))))) (Zj (Zu YV)) ZD)
   (Zc (Z1 VP rfl (Zlf rfl B.zip (Za (pv 0) (Za (pv 1) Ze))) (ZW 2 K rfl (Zq (Zw 2 scLprices.nd) (Zq (Zw 3 scLprices.nd) ZV)))
    (Zc (Ya (PW.pt (JB (Xm (YI (Zk YN rfl B.isi ZaF (Za (pv 2) (Za (Zcf rfl B.tuple YX) Ze))))) (JB (Zt Zdi (Zk Zn rfl B.len ZG (Za (pv 2) Ze)) Zg (Zz _)) (JB (Xm (YI (Zk YN rfl B.isi ZaF (Za (ZA ix_tup (pv 2) Zg) (Za (Zcf rfl B.str ZnH) Ze))))) (Jx (Zt Zdi (ZA ix_tup (pv 2) Zg) (pv 3) (Zz _))))))) (Zj (Zu YV)) ZD)
   (Zj (Ya (Xm (YI (ZH g15_ hr (Za (ZA ix_tup (pv 2) Zg) Ze)))) (Zj (Zu YV)) ZD))))
   (Zj (Zu YV)))),?_⟩
  apply J1;intros;have hvl:=hpa.1;rw[Zgx]at hvl;refine⟨_,rfl,Pf (.ref q) ("tuple") ("tuple") ⟨rfl,be,.tup hq,_,rfl,Ys be ?_⟩⟩;refine⟨_,rfl,.ref q,_,rfl,.inr ⟨_,SqT.of hq,rfl⟩,_,rfl,.ref l,_,rfl,.inl ⟨_,SqL.of hl,rfl⟩,rfl,_,rfl,Ys (by rw[Qd,hvl];simp) ?_⟩;refine⟨_,rfl,_,rfl,q,l,vs,_,rfl,hq,hl,?_⟩;refine Zjn (xs:=vs) (ys:=Ps.map V.str) (fun i σ H2=>(∃ z2 z3:VE V,σ=[some (.ref q),some (.ref l),z2,z3])/\Same H H2) (by rw[Qd,hvl]) ⟨⟨none,none,rfl⟩,Same.refl _⟩ (fun i σ H2 _ ⟨_,s2⟩=>⟨s2 _ _ hq,s2 _ _ hl⟩) ?_ ?_
  ·rintro i x y σ H2 t hx hy ht ⟨⟨z2,z3,rfl⟩,s2⟩;have hi:i<Ps.length:=by rw[←hvl];exact(Qj.mp hx).1
   refine Lm (hpa.2 i _ (JY hi)) fun b e1 e2=>?_;rw[hx]at e1;cases e1;rw[Qi,Qa hi]at hy;cases hy;have s3:=s2.trans (Zb (o:=.tup [.ref b,.str Ps[i]]) ht);refine⟨t,_,rfl,SqT.of Zd,rfl,_,_,rfl,_,_,rfl,rfl,?_⟩;apply Db;intros;have hb:=s3 _ _ e2;refine⟨_,rfl,Pf (.ref b) ("tuple") ("tuple") ⟨rfl,be,.tup hb,_,rfl,Ys be ?_⟩⟩;refine⟨_,rfl,.ref b,_,rfl,.inr ⟨_,SqT.of hb,rfl⟩,rfl,_,rfl,Ys bo ?_⟩;refine⟨_,rfl,Pg b _ 0 _ ⟨rfl,rfl,SqT.of hb,rfl,Pf (.str _) ("str") ("str") ⟨rfl,be,.str _,_,rfl,Ys be ?_⟩⟩⟩;refine⟨_,rfl,Pg b _ 0 _ ⟨rfl,rfl,SqT.of hb,rfl,_,rfl,rfl,_,rfl,Ys bo ?_⟩⟩;refine⟨_,rfl,Pg b _ 1 _ ⟨rfl,rfl,SqT.of hb,rfl,⟨.int (u i),"int",rfl,.int _,?_⟩⟩⟩;exact⟨_,rfl,Ys be ⟨⟨_,_,rfl⟩,s3⟩⟩
  ·rintro σ H2 ⟨⟨z2,z3,rfl⟩,s2⟩;exact k H2 s2
end
def JR {i L:VC} {a b:VN} (e:a=i) (d:b=i+L) (h:i+L<=z.length):NH (tx z) (some a) (some b)=tx ((z.drop i).take L):=by
 subst e d;apply ZZ;rw[JS Tw Ku (by rw[Zs];lia),ZI];congr 1;lia
def ZeJ:∀ {z},z.length<w.length->cw w z=0
 | [],_=>rfl
 | x::z,h=>by
  rw[QI]at h;show(if _ then 1 else 0)+cw w z=0;rw[ZeJ (Nx h),if_neg fun e=>?_];have:=NA Uj e;rw[QD,QI]at this;lia
def ZiK (h:L<=z.length):pcs (x::z) L=tx ((x::z).take L)::pcs z L:=by
 unfold pcs;rw[QI,show z.length+1-L+1=z.length-L+1+1 by lia,List.range_succ_eq_map,Q3,Ww];rfl
def Zkw (f:1<=w.length):∀ {z},w.length<=z.length->cw w z<=(pcs z w.length).count (tx w)
 | [],h=>QN _
 | x::z,h=>by
  show(if _ then 1 else 0)+cw w z<=_;by_cases c:w.length<=z.length
  rw[ZiK c,List.count_cons];have:=Zkw f c;by_cases e:(x::z).take w.length=w
  rw[VD e,e,VD bo];lia;rw[if_neg e];lia;rw[ZeJ br];have d:pcs (x::z) w.length=[tx ((x::z).take w.length)]:=by
   unfold pcs;rw[QI,show z.length+1-w.length+1=1 by omega];rfl
  rw[d];by_cases e:(x::z).take w.length=w
  rw[VD e,e,Uy];lia;rw[if_neg e];lia
def Zlo (h):(pcs z L)[i]=tx ((z.drop i).take L):=by
 simp[pcs]
def Zlv (h:97<=c/\c<=122):decide (c∈(("abcdefghijklmnopqrstuvwxyz" : VI)).cps.toList)=true:=by
 obtain⟨k,b,rfl⟩:∃ k,k<26/\c=97+k:=⟨c-97,bq,bq⟩
 have:∀ k:Fin 26,decide (97+k.1∈("abcdefghijklmnopqrstuvwxyz" : VI).cps.toList)=true:=bh
 exact this ⟨k,b⟩
section
variable {P:Oh} {w:Ol} {K:VB} {mg:VI->VE VG} {base:Nu}
abbrev JU:Mv:=top 50
noncomputable abbrev Zds:VA VI:=["_law_text_here","_law_heap_here","_law_letters_here","_law_long_here","_law_stands","_law_at","_law_piece"]
def scLholds:Zp Zds ["_law_text_here","_law_heap_here"] (Zf JU):=⟨rfl,rfl,rfl,bh,rfl,bh,bh⟩
def Zea:Sp:=fun vs H Q _=>∃ (z:VA VC) (v:V) (e0:VI×VN) (es:Es) (L:VC),vs=[.str (tx z),v]/\HeapV H v (e0::es)/\Hpy (e0::es) L/\Cd z/\L<=z.length/\z.length<=100000/\(∀ e∈e0::es,e.2<=(cw e.1.cps.toList z:VC))/\∀ H',Same H H'->Q (.bl true) H'
def Ze7 (D:HasDef K mg "_law_holds" JU ["_law_text_here","_law_heap_here"]) (B:Blt mg):FOk P w K mg base 1 "_law_holds" ["_law_text_here","_law_heap_here"] Zea:=by
 refine D.ok scLholds (fun vs H Q E h=>?_) (fun f cdv A outer s H vs Q E hr h=>?_)
 obtain⟨z,v,e0,es,L,rfl,_⟩:=h;rfl
 apply Lb;intros;apply La;intros;obtain⟨z,v,e0,es0,L,rfl,⟨q,vs,rfl,hq,hpa⟩,hy,hcd,hL,hzl,hcw,k⟩:=h;have hu:=ZdE hr;refine⟨_,(Zc (Zm 2 scLholds.nd J9)
  (Zc (Ya (PW.pt (JB (Xm (YI (Zk YN rfl B.isi ZaF (Za (pv 0) (Za (Zcf rfl B.str ZnH) Ze))))) (Jx (Zt (Zen hr.units) (Yd (Zf JU) Zds ["_law_sign"] [2] rfl (ZmH (pv 0)) (fun _ _ _ _ _=>Yz 0) (fun _ _ _ _ _=>Jm (Zt Zch (pv 0) (pv 1) rfl)) (fun _ _ _ _ _=>(pv 0))) (ZC Ze) (Zz _))))) (Zj (Zu YV)) ZD)
  (Zc (Zm 3 scLholds.nd (Zk Zn rfl B.len ZG (Za (ZA ix_tup (ZA ix_tup (pv 1) Zg) Zg) Ze)))
  (Zc (Zm 4 scLholds.nd Xy)
  (Zc (Z1 VP rfl (ZY rfl B.range (Za (Zo ZJ (Zo YL (Zk Zn rfl B.len ZG (Za (pv 0) Ze)) (pv 3)) Zg) Ze)) (Zw 5 scLholds.nd)
   (Zc (Zm 6 scLholds.nd (Zr ZP (pv 0) (Zv (pv 5)) (Zv (Zo ZJ (pv 5) (pv 3)))))
  (Zj (Y7 hu (pv 4) (pv 6) (Zo ZJ (YE hu (pv 4) (pv 6) Zg ⟨rfl,rfl,rfl,rfl⟩) Zg) rfl))))
  (Zj (Zu (Zaa (Zep hr.units) (Yd (Zf JU) Zds ["_law_piece","_law_times"] [4] rfl (Yv (pv 1)) (fun _ _ _ _ _=>ZW 2 K rfl (Zq (Yz 0) (Zq (Yz 1) ZV))) (fun _ _ _ _ _=>Jm (Zt Zdj (YE hu (pv 2) (pv 0) Zg ⟨rfl,rfl,rfl,rfl⟩) (pv 1) (Zz _))) (fun _ _ _ _ _=>(pv 0))) (ZC Ze) (Zz _))))))))),?_⟩
 apply Dc;intros;have hz:(tx z).length<=Od:=by rw[Zs];exact Zx (Bw hzl)
 obtain⟨b0,eb0,hb0⟩:=hpa.2 0 e0 rfl;have hl0:=hy.len e0 Qo;have h1:=hy.l1;have h3:=hy.l3;have hfew:=hy.fine.few;generalize hes:e0::es0=es at *;refine ⟨_,rfl,.str (tx z),"str","str",rfl,be,.str _,_,rfl,Ys be ⟨_,rfl,tx z,rfl,Zey (tx z).cps.size (fun i=>.str ⟨#[(tx z).cps.getD i 0]⟩) (fun i=>false) hz Znt ?_ ?_⟩⟩
 intro i H1 Qt Qf hi hs ht hf;refine⟨_,rfl,_,rfl,_,_,rfl,rfl,_,rfl,?_⟩;have hc:(tx z).cps.getD i 0∈z:=by
  have hi':i<z.length:=by assumption
  have:(tx z).cps.getD i 0=z[i]:=by simp[tx,hi']
  rw[this];simp
 rw[Zpt,Zlv (hcd _ hc)];exact Ys rfl (hf rfl)
 intro D1 H1 hs1 hD1 hDl;refine⟨QN _,fun p0 hp0=>?_⟩;have s0:=Zb (o:=.lst []) hp0;have hE:(((Qz (tx z).cps.size).filter fun i=>false).map fun i=>V.str ⟨#[(tx z).cps.getD i 0]⟩)=[]:=bo
 rw[hE]at hDl;refine Pf D1 p0 _ ⟨rfl,rfl,s0 _ _ hDl,Zd,_,rfl,Ys rfl ?_⟩;have s1:=hs1.trans s0;generalize upd H1 p0 (.lst [])=H2 at *;refine⟨_,rfl,q,vs,0,.ref b0,rfl,rfl,SqT.of (s1 _ _ hq),Jq be eb0,b0,_,0,.str e0.1,rfl,rfl,SqT.of (s1 _ _ hb0),rfl,.str e0.1,e0.1.length,rfl,⟨Zx br,rfl⟩,?_⟩;intro d hd;refine⟨_,rfl,.str (tx z),(tx z).length,rfl,⟨hz,rfl⟩,_,rfl,_,_,rfl,rfl,_,_,rfl,rfl,_,rfl,?_⟩;have htz:(tx z).length=z.length:=Zs z;rw[htz,hl0];refine⟨br,br,?_⟩;rw[show((z.length:VN)-L+1).toNat=z.length-L+1 by exact T6 hL];have hpl:=Zbs z L;refine Yy (n:=z.length-L+1) (fun i σ H3=>(∃ z5 z6:VE V,σ=[some (.str (tx z)),some (.ref q),some (.str "abcdefghijklmnopqrstuvwxyz"),some (.int L),some (.ref d),z5,z6])/\Same H2 H3/\∃ ks:VA VI,ks.Nodup/\(∀ x,x∈ks↔x∈(pcs z L).take i)/\H3 d=some (.dK (gD ks fun x=>(((pcs z L).take i).count x:VC))))
  ⟨⟨none,none,rfl⟩,(Zb (o:=.dK []) hd),[],Ub,fun x=>Iff.rfl,Zd⟩ ?_ ?_
 rintro i σ H3 hi ⟨⟨z5,z6,rfl⟩,s3,ks,nd,hk,hdd⟩;have hsl:NH (tx z) (some (0+(i:VN))) (some (0+(i:VN)+L))=tx ((z.drop i).take L):=JR Ty Tz (T7 hi hL);have hip:i<(pcs z L).length:=Kj hi hpl
 have het:(pcs z L).take (i+1)=(pcs z L).take i++[tx ((z.drop i).take L)]:=by
  rw[QO hip];congr 2;exact Zlo hip
 have hkl:=Zdp nd fun x hx=>(hk x).mp hx;rw[QD]at hkl;refine⟨_,rfl,_,rfl,_,rfl,_,rfl,_,rfl,_,_,rfl,rfl,_,rfl,_,rfl,hz,?_⟩
 try rw[hsl]
 generalize tx ((z.drop i).take L)=y at *;have hg:=Zal (ks:=ks) (g:=fun x=>(((pcs z L).take i).count x:VC)) (y:=y) fun m=>by
  show((((pcs z L).take i).count y:VC):VN)=0;rw[WU fun q=>m ((hk _).mpr q)];rfl
 refine⟨_,rfl,d,rfl,.inl ⟨_,.inl hdd⟩,_,rfl,_,DGet.kk (k:=VJ y) hdd,_,_,hg,rfl,_,rfl,_,rfl,d,_,rfl,DPut.kk (k:=VJ y) hdd ?_,?_⟩
 rw[ZaX,Oz];lia
 refine⟨⟨_,_,rfl⟩,fun b o e=>?_,Yn ks y,Jv nd,fun x=>?_,?_⟩
 ·exact Zi (Zh e hd)▸s3 b o e
 ·rw[addK_mem,hk,het,QA,Qq]
 ·rw[Zd,ZaW];refine NA (fun l=>some (HO.dK l)) (X7 fun x _=>?_);rw[het,UD];by_cases c:x=y
  ·subst c;rw[VD rfl,Uy];exact Tt
  ·rw[if_neg c,Rj,if_neg (by simpa using VS c)];rfl
 rintro σ H3 ⟨⟨z5,z6,rfl⟩,s3,ks,nd,hk,hdd⟩;rw[←hpl,Q8]at hk hdd;have s4:=s1.trans s3;refine⟨_,rfl,q,rfl,⟨_,SqT.of (s4 _ _ hq)⟩,ZbD vs.length (fun i=>vs.getD i .non) (fun i=>false) (fun _ _ _=>DZ) (Zl (by rw[hpa.1];exact Na hfew)) (fun _ _ _ _ _ _=>trivial) (Jz (SqT.of (s4 _ _ hq))) ?_ ?_⟩
 intro i H5 Qt Qf hi hs ht hf;have hie:i<es.length:=by rw[←hpa.1];exact hi
 obtain⟨b,e1,e2⟩:=hpa.2 i es[i] (Qa hie);have eu:vs.getD i .non= .ref b:=by rw[Qb,e1];rfl
 have hc1:=hcw es[i] (QH hie);have hc2:=hy.len es[i] (QH hie);rw[eu];refine⟨b,_,rfl,SqT.of (hs _ _ (s4 _ _ e2)),rfl,_,_,rfl,_,_,rfl,rfl,?_⟩;generalize es[i]=y at *;have hle:y.2<=((pcs z L).count y.1:VC):=by
  have h5:y.1.cps.toList.length=L:=by assumption
  have:=Zkw (w:=y.1.cps.toList) (Ml h1 h5) (z:=z) (Kk hL h5);rw[h5,show tx y.1.cps.toList=y.1 from ZZ (ZI _)]at this;lia
 have hg:=Zal (ks:=ks) (g:=fun x=>((pcs z L).count x:VC)) (y:=y.1) fun m=>by
  show(((pcs z L).count y.1:VC):VN)=0;rw[WU fun q=>m ((hk _).mpr q)];rfl
 exact ⟨_,rfl,d,rfl,.inl ⟨_,.inl (hs _ _ hdd)⟩,_,rfl,_,DGet.kk (k:=VJ y.1) (hs _ _ hdd),_,rfl,_,_,hg,rfl,_,rfl,Ys (VO (Bx hle)) (hf rfl _ (Same.refl _))⟩
 intro D1 us H5 hl _ hs hD1 hDl;refine⟨QN _,fun p0 hp0=>?_⟩;have s0:=Zb (o:=.lst []) hp0;refine⟨D1,p0,_,rfl,rfl,s0 _ _ hDl,Zd,?_⟩;have hn:us=[]:=Wa.mp (by rw[hl];simp);subst hn;exact k _ ((s4.trans hs).trans s0)
end
section
variable {n row:VC} {cost:VC->VC->VN} {S:Pst} {rk:VC->VC} {t:VC}
structure Ngt (n:VC) (S:Pst):Prop where
 neg:∀ c,c<n->S.cp c<=0
 zer:∀ c,c<n->S.ra c=none->S.cp c=0
def Zcq (h:Sea n cost row S rk t) (l:row<n) (o:IsNear n S c k) (g:Ngt n S):Ngt n (Yk n row c k S):=by
 obtain⟨j,b,f,A⟩:=o;obtain⟨B,y,H,I,E,w,m,_⟩:=JW h l;obtain⟨u,p,i,C,v,s,D,F⟩:=h.sp c j b;rw[f]at i;cases i;have u:0<=k:=by exact s▸h.mat.feas p c (v.lt h.mat l) j
 refine⟨fun d a=>?_,fun d a e=>?_⟩;show(Yo n row k S).cp d<=0;have:=g.neg d a;cases z:S.re d with
 | true=>rw[w d a z];lia
 | false=>rw[m d a z];exact this
 have e:(Yo n row k S).ra d=none:=e;rw[y]at e;show(Yo n row k S).cp d=0;cases z:S.re d with
 | true =>
  obtain⟨r,_,q⟩:=h.hre d a z
  simp_all
 | false=>exact m d a z▸g.zer d a e
def Sr.ngt (h0:Mat n cost row S) (hr:row<n) (g:Ngt n S) (h:Sr n cost row S m c S1):Ngt n S1:=by
 induction h with
 | start h=>exact Zcq (JT h0) hr h ⟨g.neg,g.zer⟩
 | step hs e h2 ih =>
  obtain⟨rk,t,hR⟩:=hs.rea h0 hr;exact Zcq (Zbo hR e) hr h2 ⟨ih.neg,ih.zer⟩
def PRow.ngt (k:Mat n cost row S) (f:row<n) (g:Ngt n S) (h:PRow n cost row S p):Ngt n p/\∃ c,c<n/\p.cp c=0:=by
 obtain⟨m,c,T,l,s,w,y,rfl⟩:=h;have j:=s.ngt k f g;obtain⟨A,t,a⟩:=s.rea k f;obtain⟨v,o,u,x⟩:=Zj7 (fun d i f b e=>let ⟨_,_,_,_,_,q⟩:=a.rt d i f;q b e) _ c (Qh _) a.hc a.rc;rw[ChL.det y o];obtain⟨_⟩:=ZdO (row:=row) (ra:=T.ra) o x;refine⟨⟨j.neg,fun d i e=>j.zer d i ?_⟩,c,a.hc,j.zer c a.hc w⟩;have e:=e;by_cases z:d∈v
 obtain⟨_⟩:=a.rt d i (u d z).2.1
 simp_all
 simp_all
def PAll.ngt (m:∀ i j,i<n->j<n->0<=cost i j):∀ {i} {d},i<=n->PAll n cost S00 i d->Ngt n d/\(0<i->∃ c,c<n/\d.cp c=0):=by
 intro i d o h;induction h with
 | zero=>exact⟨⟨fun c _=>Uu _,fun c _ _=>rfl⟩,fun z=>VM z (Q2 _)⟩
 | succ k g l =>
  obtain⟨a,b⟩:=g.ngt (k.mat m (K4 o)) o (l (K4 o)).1;exact⟨a,fun _=>b⟩
def ZiC (l:∀ i j,i<n->j<n->0<=cost i j/\cost i j<=M) (u:0<n) (h:PAll n cost S00 n S):(∀ i,i<n->0<=S.rp i/\S.rp i<=M)/\∀ j,j<n->-M<=S.cp j/\S.cp j<=0:=by
 have k:=h.mat (fun i j a b=>(l i j a b).1) (Qh _);obtain⟨g,q⟩:=h.ngt (fun i j a b=>(l i j a b).1) (Qh _);obtain⟨c,m,w⟩:=q u;have p:∀ i,i<n->0<=S.rp i/\S.rp i<=M:=fun i o=>by
  obtain⟨j,d,e⟩:=k.all i o;have t:=(k.tight j i d e).2;have f:=k.feas i c o m;have:=g.neg j d;have:=l i j o d;have:=l i c o m;unfold red at t f;omega
 refine⟨p,fun j d=>⟨?_,g.neg j d⟩⟩;obtain⟨r,s,v⟩:=Xs k j d;have t:=(k.tight j r d v).2;have:=p r s;have:=l r j s d;unfold red at t;omega
end
def prL (n:VC) (u:VC->VN):VA VN:=(Qz n).map u
def prL_mem:x∈prL n u↔∃ i,i<n/\u i=x:=by
 unfold prL;simp
def Zd2:∀ {ns:VA VN},(∀ n∈ns,-M<=n/\n<=M)->-(ns.length*M)<=ns.sum/\ns.sum<=ns.length*M
 | [],_=>by simp
 | x::ns,h=>by
  have b:=h x Qo;have c:=Zd2 fun n a=>h n (Qm _ a);rw[Wc,QI,Int.natCast_add,Int.add_mul];lia
def Zdz {ns:VA VN} (c:0<=M) (f:M<=1000) (i:ns.length<=1000) (h:∀ n∈ns,-M<=n/\n<=M):(∀ n∈ns,Vg n)/\∀ k,Vg (ns.take k).sum:=by
 refine⟨fun n b=>?_,fun k=>?_⟩;have:=h n b;constructor <;> lia;obtain⟨_⟩:=Zd2 (ns:=ns.take k) fun n b=>h n (QZ b);have e:((ns.take k).length:VN)<=1000:=by rw[QD];lia
 have g:=Int.mul_le_mul e f c be;constructor <;> lia
def Zkc:∀ {l:VA VN},(∀ x∈l,0<=x)->0<=l.sum
 | [],_=>Uu _
 | x::l,h=>by
  have:=h x Qo;have:=Zkc fun y a=>h y (Qm _ a);rw[Wc];exact Nb ‹_› this
structure Tld (es:Es) (ss:VA VI) (S:Pst) (L:VC) (z:VA VC):Prop where
 len0:(Ef es ss).length=(Bf es ss).length
 few:(Bf es ss).length<=190
 lo:L<=z.length
 hi:z.length<=100000
 feas:∀ i j,i<(Ef es ss).length->j<(Bf es ss).length->S.rp i+S.cp j<=(ltr ((Ef es ss).getD i "") ((Bf es ss).getD j ""):VC)
 rb:∀ x∈prL (Ef es ss).length S.rp,-100<=x/\x<=100
 cb:∀ x∈prL (Bf es ss).length S.cp,-100<=x/\x<=100
 due0:(Bf es ss).length=0->(z.length:VN)=(flatE es).length+L-1
 due:∀ m1 m2,0<(Bf es ss).length->m1∈prL (Ef es ss).length S.rp->(∀ x∈prL (Ef es ss).length S.rp,x<=m1)->m2∈prL (Bf es ss).length S.cp->(∀ x∈prL (Bf es ss).length S.cp,x<=m2) ->
  (z.length:VN)=(flatE es).length+L-1+(prL (Ef es ss).length S.rp).sum+(prL (Bf es ss).length S.cp).sum-m1-m2
def Zmp (q:Hpy es L) (hL:L<=100) (X:(flatE es).length<=190) (hp:0<(flatE es).length) (h:ZjF es ss S j) (Q:Zph e0 es ss S j L z):Tld es ss S L z:=by
 have E:=h.pts;have Z:∀ e∈es,0<=e.2:=fun e he=>(q.fine.many e he).1;have U:=Zjw E;have hle:=ZnF E Z;have d:=Zcb E q.len q.l1;have N:∀ i,i<(Ef es ss).length->((Ef es ss).getD i "").length=L-1:=fun i n=>d _ (ZS (f:=fun y=>-mo es y) (Yl n)).1;have Y:∀ i,i<(Bf es ss).length->((Bf es ss).getD i "").length=L-1:=fun i n=>d _ (ZS (f:=mo es) (Yl n)).1;have k:∀ i j,0<=Ym (Ef es ss) (Bf es ss) i j/\Ym (Ef es ss) (Bf es ss) i j<=100:=fun i j=>by
  refine⟨Jt i j,?_⟩;unfold Ym;split
  rename_i c;have:=Zeu (x:=(Ef es ss).getD i "") (y:=(Bf es ss).getD j "") (by rw[N i c.1,Y j c.2]);rw[N i c.1]at this;omega
  lia
 obtain⟨M,I⟩:=ZiC (M:=100) (fun i j _ _=>k i j) N7 h.all;have o:∀ x∈prL (Ef es ss).length S.rp,-100<=x/\x<=100:=fun x p=>by
  obtain⟨i,n,rfl⟩:=prL_mem.mp p;have:=M i (Tf U n);exact Mz this
 have s:∀ x∈prL (Bf es ss).length S.cp,-100<=x/\x<=100:=fun x p=>by
  obtain⟨i,n,rfl⟩:=prL_mem.mp p;have:=I i (Kz n);lia
 have A:=Q.len;have W:0<=lkc es ss S:=by
  unfold lkc;refine Zkc fun x p=>?_;obtain⟨t,_,rfl⟩:=Q6.mp p;exact Tw
 have u:∀ m l,0<(Bf es ss).length->m∈prL (Ef es ss).length S.rp->(∀ x∈prL (Ef es ss).length S.rp,x<=m)->l∈prL (Bf es ss).length S.cp->(∀ x∈prL (Bf es ss).length S.cp,x<=l) ->
  lkc es ss S=(prL (Ef es ss).length S.rp).sum+(prL (Bf es ss).length S.cp).sum-m-l:=fun m l g D C v w=>by
  obtain⟨r,f⟩:=Zgw h g;obtain⟨F,V,q3⟩:=ZaR q h f;obtain⟨R,H,rfl⟩:=prL_mem.mp D;obtain⟨T,B,rfl⟩:=prL_mem.mp v;have c1:=V R H;have c2:=q3 T B;have c3:=C _ (prL_mem.mpr ⟨r,f.hr,rfl⟩);have c4:=w _ (prL_mem.mpr ⟨j,f.hj,rfl⟩);unfold XM at F;unfold prL;lia
 have P:lkc es ss S<=50000:=by
  by_cases g:0<(Bf es ss).length
  obtain⟨r,f⟩:=Zgw h g;obtain⟨F,_⟩:=ZaR q h f;have O:=(Zd2 o).2;have K:=(Zd2 s).2;have v:=M r (by have:=f.hr;exact Tf U this);have w:=I j (by have:=f.hj;exact Kz this);unfold prL at O K;rw[Qd,QU]at O K;unfold XM at F;lia
  rw[Zew (Td g)];lia
 refine⟨U,Vx X hle,bq,bq,fun i j n hj=>?_,o,s,fun g=>?_,fun m l g D C v w=>?_⟩
 have:=(h.all.mat (fun i j _ _=>Jt i j) (Qh _)).feas i j (Tf U n) (Kz hj);unfold red Ym at this;dsimp only at this;lia
 rw[Zew g]at A;lia
 have:=u m l g D C v w;lia
noncomputable def ZhE (hp:Es):FP:=.tuple (hp.map fun e=>.tuple [.str e.1,.int e.2])
def Zj1:∀ {a} {vs},PA H vs a->RepA H (a.map fun e=>.tuple [.str e.1,.int e.2]) vs
 | [],vs,h=>Wa.mp h.1
 | e::r,[],h=>by simpa using h.1
 | e::r,v::vs,h=>by
  obtain⟨b,l,f⟩:=h.2 0 e rfl;have d:v= .ref b:=bp
  refine⟨v,vs,rfl,?_,Zj1 ⟨by simpa using h.1,fun i y g=>?_⟩⟩;exact ⟨b,_,d,f,⟨_,_,rfl,by rfl,⟨_,_,rfl,by rfl,by rfl⟩⟩⟩;obtain⟨j,k,c⟩:=h.2 (i+1) y bp
  simp_all
def Zj0 (h:HeapV H v b):RepD H (ZhE b) v:=by
 obtain⟨a,d,rfl,c,b⟩:=h;unfold ZhE;exact⟨a,d,rfl,c,Zj1 b⟩
def Zd4 (h:Cd x.cps.toList):CN x=true:=by
 unfold CN;rw[←Array.all_toList,UJ];intro c hc;have:=h c hc;exact VR br
def Zhk:∀ {l:Es},(∀ e∈l,Cd e.1.cps.toList)->MD (l.map fun e=>CO [.str e.1,.int e.2])=true/\MR (l.map fun e=>CO [.str e.1,.int e.2])<=1
 | [],_=>by simp[MD,MR]
 | e::r,h=>by
  obtain⟨a,d⟩:=Zhk fun y b=>h y (Qm _ b);rw[Q3,MD,a];refine⟨by simp[FY,MD,(Zd4 (h e Qo))],?_⟩;simp[Fc,MR];lia
noncomputable def ZnX (z:VA VC) (a b:Es):FP:=.tuple [.str (tx z),ZhE a,ZhE b]
def ZeW (hz:Cd z) (g:∀ e∈a,Cd e.1.cps.toList) (f:∀ e∈b,Cd e.1.cps.toList):MN (ZnX z a b)=true:=by
 obtain⟨h,j⟩:=Zhk g;obtain⟨d,i⟩:=Zhk f;unfold MN ZnX ZhE;rw[Q0];constructor;simp[FY,MD,(Zd4 (x:=tx z) (by assumption)),h,d];refine VR ?_;simp[Fc,MR];lia
def Zgp (d:H q=some (.tup [.str (tx z),c,e])) (g:HeapV H c a) (f:HeapV H e b):RepD H (ZnX z a b) (.ref q):=by
 unfold ZnX;exact ⟨q,_,rfl,d,⟨_,_,rfl,by rfl,⟨_,_,rfl,Zj0 g,⟨_,_,rfl,Zj0 f,by rfl⟩⟩⟩⟩
def Zj5 (h:∀ x∈a,Cd x.cps.toList):∀ e∈prE a u,Cd e.1.cps.toList:=fun e c=>by
 obtain⟨i,d,rfl⟩:=Q6.mp c;exact h _ (Yl (Qu.mp d))
def Zor (b:SPts es ss) (h:∀ e∈es,Cd e.1.cps.toList):∀ x∈ss,Cd x.cps.toList:=fun x g c a=>by
 obtain⟨e,f,q⟩:=(b.pts.mem x).mp g;refine h e f c ?_;rcases q with rfl | rfl
 unfold bg at a;exact QZ (Re▸a);exact Wm a
def Zl1 (h:ZjF es ss S j) (h':ZjF es ss' S' j') (e0):ss'=ss/\S'=S/\stF e0 (Bf es ss) j'=stF e0 (Bf es ss) j:=by
 obtain rfl:=h'.pts.one h.pts;obtain rfl:=h'.all.det h.all;refine⟨rfl,rfl,?_⟩;unfold stF;split
 rfl;obtain⟨a1,a2⟩:=h.at_ (V9 ‹_›);obtain⟨b1,b2⟩:=h'.at_ br;rw[(h.all.mat (fun i j _ _=>Jt i j) (Qh _)).inj j' j _ (Kz b1) (Kz a1) b2 a2]
def Zbz (b:vs.length=n) (h:∀ i v,vs[i]?=some v->v=V.int (f i)):vs=(prL n f).map V.int:=by
 apply QY;intro i;unfold prL
 grind
def Znb (h:x∈ss):g x<=(flatE (ups g ss)).length:=by
 by_cases c:0<g x
 have b:∀ e∈ups g ss,0<=e.2:=fun e d=>by have:=(Y3 d).2.1;exact Tm this
 have:=Zf5 b _ (Q6.mpr ⟨x,Wf.mpr ⟨h,VR c⟩,rfl⟩);rw[Xd b];omega;lia
section
variable {P:Oh} {w:Ol} {K:VB} {mg:VI->VE VG} {base:Nu} {Pt CA:VH}
abbrev ZaJ:Mv:=top 51
noncomputable abbrev Zes:VA VI:=["_law_heap_here","_law_found","_law_end","_law_price","_law_begin","_law_other","_law_due","_law_prices_here","_law_others"]
def scLtold:Zp Zes ["_law_heap_here"] (Zf ZaJ):=⟨rfl,rfl,rfl,bh,rfl,bh,bh⟩
def ZfV (Pt:VH):Sp:=fun vs H Q _=>∃ (v:V) (e0:VI×VN) (es0:Es) (L:VC),vs=[v]/\HeapV H v (e0::es0)/\Hpy (e0::es0) L/\L<=100/\(flatE (e0::es0)).length<=190/\TbOk Pt H/\ZbW e0 (e0::es0)/\∀ H',TbOk Pt H'->Q (.bl true) H'
def ZgQ (D:HasDef K mg "_law_told" ZaJ ["_law_heap_here"]) (B:Blt mg) (g22_:Zmj P w K mg base 7 "filled" ["H"] (Zbe Pt CA)) (g4_:FOk P w K mg base 7 "_law_holds" ["_law_text_here","_law_heap_here"] Zea) (g10_:FOk P w K mg base 7 "_law_prices" ["_law_found","_law_due"] Zb5)
  (g9_:FOk P w K mg base 7 "_law_more" ["_law_heap_here","_law_way"] ZfW) (g6_:FOk P w K mg base 7 "_law_letters_to" ["_law_one","_law_other"] ZjR):FOk P w K mg base 8 "_law_told" ["_law_heap_here"] (ZfV Pt):=by
 refine D.ok scLtold (fun vs H Q E h=>?_) (fun f cdv A outer s H vs Q E hr h=>?_)
 ·obtain⟨v,e0,es0,L,rfl,_⟩:=h;rfl
 ·apply Lb;intros;apply La;intros;obtain⟨v,e0,es0,L,rfl,hV,hy,hL,hfl,hTb,hH,k⟩:=h;refine⟨_,(Zc (Zm 1 scLtold.nd (Zj6 g22_ hr (Za (pv 0) Ze)))
   (Zc (Ya (PW.pt (JB (Xm (YI (Zk YN rfl B.isi ZaF (Za (pv 1) (Za (Zcf rfl B.tuple YX) Ze))))) (JB (Zt Zdi (Zk Zn rfl B.len ZG (Za (pv 1) Ze)) Zg (Zz _)) (JB (Xm (YI (ZH g4_ hr (Za (ZA ix_tup (pv 1) Zg) (Za (pv 0) Ze))))) (Jx (Zt (Zeo hr.units) (Zj6 g22_ hr (Za (pv 0) Ze)) (pv 1) (Zz _))))))) (Zj (Zu YV)) ZD)
   (Zc (Ya (PW.pt (JB (Xm (YI (ZH g10_ hr (Za (ZA ix_tup (pv 1) Zg) (Za (ZH g9_ hr (Za (pv 0) (Za (XC YA Zg) Ze))) Ze))))) (Jx (Xm (YI (ZH g10_ hr (Za (ZA ix_tup (pv 1) Zg) (Za (ZH g9_ hr (Za (pv 0) (Za Zg Ze))) Ze)))))))) (Zj (Zu YV)) ZD)
   (Zc (Z1 VP rfl (Yv (ZA ix_tup (pv 1) Zg)) (ZW 2 K rfl (Zq (Zw 2 scLtold.nd) (Zq (Zw 3 scLtold.nd) ZV)))
    (Zj (Z1 VP rfl (Yv (ZA ix_tup (pv 1) Zg)) (ZW 2 K rfl (Zq (Zw 4 scLtold.nd) (Zq (Zw 5 scLtold.nd) ZV)))
    (Zj (Ya (Zt Zcj (Zo ZJ (pv 3) (pv 5)) (ZH g6_ hr (Za (pv 2) (Za (pv 4) Ze))) (Zz _)) (Zj (Zu YV)) ZD)))))
   (Zc (Zm 6 scLtold.nd (Zo YL (Zo ZJ (Zk (Zau rfl) rfl B.sum Zl5 (Za (Yd (Zf ZaJ) Zes ["_law_piece","_law_times"] [] rfl (Yv (pv 0)) (fun _ _ _ _ _=>ZW 2 K rfl (Zq (Yz 0) (Zq (Yz 1) ZV))) (fun _ _ _ _ _=>YK) (fun _ _ _ _ _=>(pv 1))) Ze)) (Zk Zn rfl B.len ZG (Za (ZA ix_tup (ZA ix_tup (pv 0) Zg) Zg) Ze))) Zg))
   (Zc (JF (i:=7) (Zf ZaJ) Zes ["_law_end","_law_price"] [] scLtold.nd rfl (.inl rfl) rfl (Yv (ZA ix_tup (pv 1) Zg)) (fun _ _ _ _ _=>ZW 2 K rfl (Zq (Yz 0) (Zq (Yz 1) ZV))) (fun _ _ _ _ _=>YK) (fun _ _ _ _ _=>(pv 1)))
   (Zc (JF (i:=8) (Zf ZaJ) Zes ["_law_begin","_law_price"] [] scLtold.nd rfl (.inl rfl) rfl (Yv (ZA ix_tup (pv 1) Zg)) (fun _ _ _ _ _=>ZW 2 K rfl (Zq (Yz 0) (Zq (Yz 1) ZV))) (fun _ _ _ _ _=>YK) (fun _ _ _ _ _=>(pv 1)))
   (Zc (Ya (Zt (Zen hr.units) (pv 7) (ZC Ze) (Zz _)) (Zj (Zm 6 scLtold.nd (Zo YL (Zo YL (Zo ZJ (Zo ZJ (pv 6) (Zk (Zau rfl) rfl B.sum Zl5 (Za (pv 7) Ze))) (Zk (Zau rfl) rfl B.sum Zl5 (Za (pv 8) Ze))) (Zk (ZcK rfl) rfl B.max ZnI (Za (pv 7) Ze))) (Zk (ZcK rfl) rfl B.max ZnI (Za (pv 8) Ze))))) ZD)
   (Zj (Zu (Zaa Zbt (Zk Zn rfl B.len ZG (Za (ZA ix_tup (pv 1) Zg) Ze)) (pv 6) (Zz _)))))))))))),?_⟩
  apply Dg;intros;have hTn:∀ {H1:Hp},TbOk Pt H1->∀ x u,x∈[Pt]->H1 x=some u->∀ ys,u≠.tup ys:=fun {H1} ht x u hx e ys z=>by
   rw[Qq.mp hx]at e;rcases ht with q | ⟨c,q,_⟩ <;> (simp_all)
  refine⟨_,rfl,v,e0,es0,L,rfl,hV,hy,hL,hfl,hTb,fun _ v1 H1 b1 t1 F1=>?_,fun n=>VM hH n⟩;obtain⟨q,p1,p2,ss,S,j,rfl,hF,hq,hp1,hp2⟩:=F1;obtain⟨z,hT⟩:=Zjs rfl hy hF hH;have hfp:0<(flatE (e0::es0)).length:=by
   have:=hy.pos e0 Qo;rw[YH,Qg,Wb];lia
  have hD:=Zmp hy hL hfl hfp hF hT;have hV1:=hV.btl b1 (hTn hTb);rw[hT.txt]at hq;have hq:H1 q=some (.tup [.str (tx z),p1,p2]):=hq;refine⟨_,rfl,.ref q,"tuple","tuple",rfl,be,.tup hq,_,rfl,Ys be ?_⟩;refine⟨_,rfl,.ref q,_,rfl,.inr ⟨_,SqT.of hq,rfl⟩,rfl,_,rfl,Ys bo ?_⟩;refine⟨_,rfl,Pg q _ 0 _ ⟨rfl,rfl,SqT.of hq,rfl,_,rfl,Pe z v e0 es0 L ⟨rfl,hV1,hy,hT.cd,hD.lo,hD.hi,hT.has,fun H2 s2=>?_⟩⟩⟩;refine⟨_,rfl,Ys be ?_⟩;have hV2:=hV1.same s2;have hq2:=s2 _ _ hq;have hp12:=hp1.same s2;have hp22:=hp2.same s2;have t2:=t1.same s2;refine⟨_,rfl,Pg v e0 es0 L ⟨rfl,hV2,hy,hL,hfl,t2,fun _ v3 H3 b3 t3 F3=>?_,fun n=>VM hH n⟩⟩;apply La;intros;obtain⟨q',p1',p2',ss',S',j',rfl,hF',hq',hp1',hp2'⟩:=F3;obtain⟨rfl,rfl,ej⟩:=Zl1 hF hF' e0;rw[ej,hT.txt]at hq';have hq':H3 q'=some (.tup [.str (tx z),p1',p2']):=hq';have hV3:=hV2.btl b3 (hTn t2);have hq3:H3 q=some (.tup [.str (tx z),p1,p2]):=b3 _ _ (fun m=>hTn t2 _ _ m hq2 _ rfl) hq2;have hp13:=hp12.btl b3 (hTn t2);have hp23:=hp22.btl b3 (hTn t2);have hS:=hF.pts;have scd:=Zor hS hy.cd;have ecd:∀ x∈Ef (e0::es0) ss',Cd x.cps.toList:=fun x hx=>scd x (ZS (f:=fun y=>-mo (e0::es0) y) hx).1;have bcd:∀ x∈Bf (e0::es0) ss',Cd x.cps.toList:=fun x hx=>scd x (ZS (f:=mo (e0::es0)) hx).1;have hsh:=ZeW hT.cd (Zj5 (u:=S'.rp) ecd) (Zj5 (u:=S'.cp) bcd);refine⟨_,rfl,_,_,Zgp hq' hp1' hp2',Zgp hq3 hp13 hp23,hsh,hsh,?_⟩;rw[SeqAt.eqv_refl _ (SeqAt.canLay_of_shaped hsh)];refine⟨_,rfl,Ys rfl ?_⟩;have b13:Btl [Pt] H H3:=(b1.trans (Btl.of s2)).trans b3;clear hp1' hp2' hq' b3 b13 hp12 hp22 hq2 hV2 t2 s2 hp1 hp2 hq hV1 b1 t1;have h0:∀ e∈e0::es0,0<=e.2:=fun e he=>(hy.fine.many e he).1;have elen:(Ef (e0::es0) ss').length<=190:=by have:=hD.len0;have:=hD.few;exact Kk this ‹_›
  have gE:∀ ss,SPts (e0::es0) ss->(flatE (ups (fun y=>-mo (e0::es0) y) ss)).length<=1000/\∀ x∈ss,-1000<=-mo (e0::es0) x:=fun ss hs=>by
   obtain rfl:=hs.one hS;refine⟨QR elen be,fun x hx=>?_⟩;have:=Znb (g:=mo (e0::es0)) hx;have:=hD.few;unfold Bf at this;lia
  have gB:∀ ss,SPts (e0::es0) ss->(flatE (ups (mo (e0::es0)) ss)).length<=1000/\∀ x∈ss,-1000<=mo (e0::es0) x:=fun ss hs=>by
   obtain rfl:=hs.one hS;refine⟨QR hD.few be,fun x hx=>?_⟩;have:=Znb (g:=fun y=>-mo (e0::es0) y) hx;unfold Ef at elen;lia
  refine⟨_,rfl,q,_,1,p1,rfl,rfl,SqT.of hq3,rfl,_,rfl,_,rfl,v,e0::es0,-1,fun y=>-mo (e0::es0) y,rfl,hV3,hy.fine,.inr rfl,fun x=>bo,gE,fun l1 H4 ss4 s4 hs4 hl1=>?_⟩;obtain rfl:=hs4.one hS;refine Pg p1 l1 _ S'.rp ⟨rfl,hp13.same s4,hl1,fun H5 s5=>?_⟩;refine⟨_,rfl,Ys be ?_⟩;have s35:=s4.trans s5;refine⟨_,rfl,Pg q _ 2 p2 ⟨rfl,rfl,SqT.of (s35 _ _ hq3),rfl,_,rfl,Pg v (e0::es0) 1 (mo (e0::es0)) ⟨rfl,hV3.same s35,hy.fine,.inl rfl,fun x=>Int.one_mul _,gB,fun l2 H6 ss6 s6 hs6 hl2=>?_⟩⟩⟩;obtain rfl:=hs6.one hS;refine Pg p2 l2 _ S'.cp ⟨rfl,hp23.same (s35.trans s6),hl2,fun H7 s7=>?_⟩;refine⟨_,rfl,Ys be ?_⟩;have s37:=(s35.trans s6).trans s7;have hq7:=s37 _ _ hq3;have hV7:=hV3.same s37;have hp17:=hp13.same s37;have hp27:=hp23.same s37;have t7:=t3.same s37;clear hq3 hV3 hp13 hp23 s37 s7 s6 s35 s5 s4 t3 hl1 hl2;obtain⟨q1,us1,rfl,hq1,hpa1⟩:=hp17;obtain⟨q2,us2,rfl,hq2,hpa2⟩:=hp27;have ul1:=hpa1.1;have ul2:=hpa2.1;rw[Zgx]at ul1 ul2;refine⟨_,rfl,q,_,1,.ref q1,rfl,rfl,SqT.of hq7,rfl,q1,rfl,⟨_,SqT.of hq1⟩,?_⟩;have plen:=Zcb hS hy.len hy.l1;refine Xc (K:=K) (a:=q1) (xs:=us1) (fun i σ H8=>(∃ a b c d:VE V,σ=[some v,some (.ref q),a,b,c,d,none,none,none])/\Same H7 H8) ⟨⟨none,none,none,none,rfl⟩,Same.refl _⟩ (fun i σ H8 _ ⟨_,s8⟩=>SqT.of (s8 _ _ hq1)) ?_ ?_
  ·rintro i x σ H8 hi ⟨⟨a,b,c,d,rfl⟩,s8⟩;have hie:i<(Ef (e0::es0) ss6).length:=by rw[←ul1];exact(Qj.mp hi).1
   apply La;intros;obtain⟨b',e1,e2⟩:=hpa1.2 i _ (JY hie);rw[hi]at e1;cases e1;refine⟨b',_,rfl,SqT.of (s8 _ _ e2),rfl,_,_,rfl,_,_,rfl,rfl,?_⟩;refine⟨_,rfl,Pg q _ 2 (.ref q2) ⟨rfl,rfl,SqT.of (s8 _ _ hq7),rfl,q2,rfl,⟨_,SqT.of (s8 _ _ hq2)⟩,?_⟩⟩;refine Xc (K:=K) (a:=q2) (xs:=us2) (fun i' σ H9=>(∃ c d:VE V,σ=[some v,some (.ref q),some (.str (Ef (e0::es0) ss6)[i]),some (.int (S'.rp i)),c,d,none,none,none])/\Same H7 H9) ⟨⟨_,_,rfl⟩,s8⟩ (fun i' σ H9 _ ⟨_,s9⟩=>SqT.of (s9 _ _ hq2)) ?_ ?_
   ·rintro i' x' σ H9 hi' ⟨⟨c',d',rfl⟩,s9⟩;have hie':i'<(Bf (e0::es0) ss6).length:=by rw[←ul2];exact(Qj.mp hi').1
    apply La;intros;obtain⟨b'',f1,f2⟩:=hpa2.2 i' _ (JY hie');rw[hi']at f1;cases f1;have hfe:=hD.feas i i' hie hie';have g1:(Ef (e0::es0) ss6).getD i "" = (Ef (e0::es0) ss6)[i]:=by rw[Qb,Qa hie];rfl
    have g2:(Bf (e0::es0) ss6).getD i' "" = (Bf (e0::es0) ss6)[i']:=by rw[Qb,Qa hie'];rfl
    rw[g1,g2]at hfe;have m1:=plen _ (ZS (f:=fun y=>-mo (e0::es0) y) (QH hie)).1;have m2:=plen _ (ZS (f:=mo (e0::es0)) (QH hie')).1;refine⟨b'',_,rfl,SqT.of (s9 _ _ f2),rfl,_,_,rfl,_,_,rfl,rfl,?_⟩;refine⟨_,rfl,_,rfl,_,_,rfl,rfl,_,rfl,_,rfl,_,_,rfl,by rw[m1,m2],bq,?_⟩;exact⟨_,_,rfl,rfl,_,rfl,Ys (VO (Int.not_lt.mpr hfe)) ⟨⟨_,_,rfl⟩,s9⟩⟩
   ·rintro σ H9 ⟨⟨c',d',rfl⟩,s9⟩;exact⟨⟨_,_,_,_,rfl⟩,s9⟩
  ·rintro σ H8 ⟨⟨a,b,c,d,rfl⟩,s8⟩;have hV8:=hV7.same s8;refine Lw (id hV8) fun qh vh r0 hqh hpah=>?_;subst r0;have hvl:=hpah.1;have hfew:=hy.fine.few;have hq18:=s8 _ _ hq1;have hq28:=s8 _ _ hq2;have hpa18:=hpa1.same s8.tup;have hpa28:=hpa2.same s8.tup;have hq8:=s8 _ _ hq7;have t8:=t7.same s8;clear hq1 hq2 hpa1 hpa2 hq7 s8 t7 hV7 hV;obtain⟨b0,eb0,hb0⟩:=hpah.2 0 e0 rfl;have hl0:=hy.len e0 Qo;have hl3:=hy.l3;refine⟨_,rfl,qh,rfl,⟨_,SqT.of hqh⟩,X5 vh.length (fun i=>vh.getD i .non) (fun i v _=>v= .int ((e0::es0).getD i ("",0)).2) (Zl (Si hfew hvl)) (fun _ _ _ _ _ r=>r) (Jz (SqT.of hqh)) ?_ ?_⟩
   ·intro i H9 Qe hi hs kq;have hie:i<(e0::es0).length:=K8 hvl hi
    obtain⟨b',e1,e2⟩:=hpah.2 i _ (Qa hie);have eu:vh.getD i .non= .ref b':=by rw[Qb,e1];rfl
    rw[eu];refine⟨b',_,rfl,SqT.of (hs _ _ e2),rfl,_,_,rfl,_,_,rfl,rfl,_,rfl,kq _ _ (Same.refl _) ?_⟩;rw[Qb,Qa hie];rfl
   intro D1 ws H9 hwl hwR s9 _ hD1;have ew:ws=(prL vh.length fun i=>((e0::es0).getD i ("",0)).2).map V.int:=Zbz hwl hwR;have esum:prL vh.length (fun i=>((e0::es0).getD i ("",0)).2)=(e0::es0).map (·.2):=by
    unfold prL;rw[hvl];apply QY;intro i;rw[Qi,Qi];by_cases hi:i<(e0::es0).length
    ·rw[Wd hi,Qa hi,Wg,Wg,Qb,Qa hi];rfl
    ·rw[Qr (by simp at hi ⊢;exact hi),Qr (Kr hi)];rfl
   rw[esum]at ew;have hsm:=Xd h0;unfold sm at hsm;obtain⟨lg1,lg2⟩:=Zdz (M:=1000) (ns:=(e0::es0).map (·.2)) be be (by rw[Qd];exact Na hfew) fun n hn=>by
    obtain⟨e,he,rfl⟩:=Q6.mp hn;have:=hy.fine.many e he;exact Mz this
   refine⟨D1,_,rfl,SqL.of (by rw[hD1,ew]),lg1,lg2,?_⟩;refine⟨_,rfl,Pg qh vh 0 (.ref b0) ⟨rfl,rfl,SqT.of (s9 _ _ hqh),Jq be eb0,Pg b0 _ 0 (.str e0.1) ⟨rfl,rfl,SqT.of (s9 _ _ hb0),rfl,.str e0.1,e0.1.length,rfl,⟨Zx (Tu hL hl0),rfl⟩,?_⟩⟩⟩;refine⟨_,_,rfl,rfl,_,_,rfl,rfl,?_⟩;have hl1:=hD.len0;refine⟨_,rfl,Pg q _ 1 (.ref q1) ⟨rfl,rfl,SqT.of (s9 _ _ hq8),rfl,q1,rfl,⟨_,SqT.of (s9 _ _ hq18)⟩,X5 us1.length (fun i=>us1.getD i .non) (fun i v _=>v= .int (S'.rp i)) (Zl br) (fun _ _ _ _ _ r=>r) (Jz (SqT.of (s9 _ _ hq18))) ?_ ?_⟩⟩
   ·intro i HA Qe hi hs kq;obtain⟨b',e1,e2⟩:=hpa18.2 i _ (JY (by rw[←ul1];exact hi));have eu:us1.getD i .non= .ref b':=by rw[Qb,e1];rfl
    rw[eu];exact⟨b',_,rfl,SqT.of (hs _ _ (s9 _ _ e2)),rfl,_,_,rfl,_,_,rfl,rfl,_,rfl,kq _ _ (Same.refl _) rfl⟩
   intro D2 xs1 HA hxl hxR sA _ hD2;have ex1:xs1=(prL us1.length S'.rp).map V.int:=Zbz hxl hxR;rw[ul1]at ex1;have s9A:=s9.trans sA;refine⟨_,rfl,Pg q _ 2 (.ref q2) ⟨rfl,rfl,SqT.of (s9A _ _ hq8),rfl,q2,rfl,⟨_,SqT.of (s9A _ _ hq28)⟩,X5 us2.length (fun i=>us2.getD i .non) (fun i v _=>v= .int (S'.cp i)) (Zl (by have:=hD.few;lia)) (fun _ _ _ _ _ r=>r) (Jz (SqT.of (s9A _ _ hq28))) ?_ ?_⟩⟩
   ·intro i HB Qe hi hs kq;obtain⟨b',e1,e2⟩:=hpa28.2 i _ (JY (by rw[←ul2];exact hi));have eu:us2.getD i .non= .ref b':=by rw[Qb,e1];rfl
    rw[eu];exact⟨b',_,rfl,SqT.of (hs _ _ (s9A _ _ e2)),rfl,_,_,rfl,_,_,rfl,rfl,_,rfl,kq _ _ (Same.refl _) rfl⟩
   intro D3 xs2 HB hyl hyR sB _ hD3;have ex2:xs2=(prL us2.length S'.cp).map V.int:=Zbz hyl hyR;rw[ul2]at ex2;have s9B:=s9A.trans sB;have hD2B:=sB _ _ hD2;refine⟨_,rfl,QN _,fun p0 hp0=>?_⟩;have s0:=Zb (o:=.lst []) hp0;refine⟨D2,p0,_,rfl,rfl,s0 _ _ hD2B,Zd,?_⟩;have hD2C:=s0 _ _ hD2B;have hD3C:=s0 _ _ hD3;have hq8C:=s0 _ _ (s9B _ _ hq8);have bC:TbOk Pt (upd HB p0 (.lst [])):=t8.same (s9B.trans s0);generalize upd HB p0 (.lst [])=HC at *;have hzs:(tx z).length<=Od:=by rw[Zs];exact Zx (by have:=hD.hi;exact Bw this)
   rw[ex1]at hD2C;rw[ex2]at hD3C;have fin:∀ due:VN,due=z.length->Zo2 (tOp rEq (tCB (fun xs H_1 Q=>∃ x n,xs=[x]/\ZkD K x H_1 n/\Q (V.int ↑n) H_1) (ZkP (tOp (ZnV K) (ZnT 1) (tC (V.int 0))) Zmu)) (ZnT 6)) {nx:=fun x H'=>Q V.non H',rt:=Q} [some (.ref qh),some (.ref q),a,b,c,d,some (.int due),some (.ref D2),some (.ref D3)] HC:=fun due hdue=>by
    refine⟨_,rfl,Pg q _ 0 (.str (tx z)) ⟨rfl,rfl,SqT.of hq8C,rfl,.str (tx z),(tx z).length,rfl,⟨hzs,rfl⟩,_,rfl,rfl,?_⟩⟩;rw[Zs,hdue,VR rfl];exact k _ bC
   refine⟨_,rfl,?_⟩;by_cases hm:(Bf (e0::es0) ss6).length=0
   ·have en:xs1=[]:=by
     rw[ex1];unfold prL;rw[show(Ef (e0::es0) ss6).length=0 by exact Sd hm hl1];rfl
    rw[en];refine Ys rfl (fin _ ?_);have:=hD.due0 hm;lia
   ·have en:(!xs1.isEmpty)=true:=by
     cases xs1 with
     | nil=>simp at hxl;lia
     | cons x l=>rfl
    rw[en];refine Xu rfl ?_;have n1:prL (Ef (e0::es0) ss6).length S'.rp≠[]:=fun z=>by
     have:=NA Uj z;unfold prL at this;rw[Qd,QU,WR]at this;lia
    have n2:prL (Bf (e0::es0) ss6).length S'.cp≠[]:=fun z=>by
     have:=NA Uj z;unfold prL at this;rw[Qd,QU,WR]at this;lia
    obtain⟨a1,a2⟩:=Zdz (M:=100) be be (by unfold prL;rw[Qd,QU];exact Sx elen) hD.rb;obtain⟨c1,c2⟩:=Zdz (M:=100) be be (by unfold prL;rw[Qd,QU];have:=hD.few;lia) hD.cb;refine⟨_,rfl,_,rfl,D2,_,rfl,SqL.of hD2C,a1,a2,_,_,rfl,rfl,_,rfl,D3,_,rfl,SqL.of hD3C,c1,c2,_,_,rfl,rfl,_,rfl,D2,_,rfl,SqL.of hD2C,n1,fun m1 hm1 hx1=>⟨_,_,rfl,rfl,_,rfl,D3,_,rfl,SqL.of hD3C,n2,fun m2 hm2 hx2=>⟨_,_,rfl,rfl,fin _ ?_⟩⟩⟩;have:=hD.due m1 m2 (V9 hm) hm1 hx1 hm2 hx2;lia
end
end Sh
namespace L2
open PySem PySem.Spec PyProof.Rows
abbrev TB:=(Hp->Prop)->XK->St->Hp->Prop
def PB (X:Cx) (body:VA Mv) (tb:TB):Prop:=∀ (pins:VA (VH×MQ)) (s:VF) (σ:St) (H:Hp) (nx:Hp->Prop) (E:XK) (Qn:VF->Prop) (QE:VG->VF->Prop),Inv X pins σ H s->(∀ s' H',Inv X pins σ H' s'->nx H'->Qn s') ->
 (∀ e s1 s2 H1,Inv X pins σ H1 s1->CXx X.prog X.w X.stack H1 s1 E e s2->QE e s2)->tb nx E σ H->Oe (Oc X.prog X.w) X.A (execs body X.env) (fun f s'=>match f with | .next=>Qn s' | _=>False) QE s
def ZoS (sp:Sp) (t:TA):TB:=fun nx E σ H=>t σ H fun vs H1=>sp vs H1 (fun _ H2=>nx H2) E
def Zlq {p a c} (G:Zmj X.prog X.w X.K X.mg X.base k name O Q) (hr:Room k X.A) (L:∀ E,PA (X.wish E) (e::es) t) (hg:Gl X name:=by rfl)
  (l:(name==("__debug__"))=false:=by decide) (Y:Oi (e::es) X.env=(false,NQ e X.env)::Oi es X.env:=by rfl) (n:(OE a (Oi es X.env)).any (·.1)=false:=by rfl)
  (x:Gu (.Call (.Name name p) (e::es) [] a) none c.line X.env=pure false:=by rfl):PB X [.Expr (.Call (.Name name p) (e::es) [] a) c] (ZoS Q t):=by
 intro g s σ H nx E Qn A I P J h;obtain⟨f,fd,F,b,V,w⟩:=G.ex;refine Gs (FI (OA (Jo I hg V (RV I.ok.mod.kin w (thn (L A a g s σ H _ (I.wish A) h) fun m y ⟨W,D,i,r,q⟩=>⟨i.unwish.kIn,?_⟩) Y n) l)) I.quiet x);have j:=i.unwish;have T:m.length=O.length:=by exact r.length▸F.len _ _ _ _ q
 have d:=b y m j.kIn (by simpa using T);rw[WK]at d;refine Gj (OM (F.run X.A X.stack y D _ m W _ _ hr j.env0 d r q) fun rs S z=>?_);cases rs with
 | ok N =>
  cases N with
  | ret u =>
   obtain⟨v,H2,R,rv,U⟩:=j.after z;exact OY (P _ _ R U)
  | next=>assumption
  | brk=>assumption
  | cont=>assumption
 | error M=>exact J M y S D j z
def Zms (K:VB) (mg:VI->VE VG) (C2:VH) (tb:TB) (i:VC) (hs:VH->MQ->TS):TS:=fun D σ H=>tb (fun H2=>D.nx σ H2)
 (fun cls _ H2=>(∃ y C bm,cls= .ref C/\XCls K mg y C bm/\bm.contains (.ref C2)=true)/\∀ ea oe,oe.cls=cls->H2 ea=none->hs ea oe (ZlY D i) (σ.set i (some (.ref ea))) H2) σ H
def Zlc {np U pos} (i)
  (hcalm:X.calm=true) (j:X.stack=X.env::X.outer) (W:X.env.frame=some X.env.locals) (Y:PB X body tb) (c:XCls X.K X.mg x C2 bm2)
  (g:∀ a oe pn,(a,oe)∈pn->PSs (X.caught a pn) (b₀::J) (hs a oe)) (hN:X.N.Nodup) (hi:X.N[i]?=some n:=by rfl) (M:X.env.scope.names.lookup n=some .local:=by rfl) (hgx:Gl X x:=by rfl)
  (hdx:(x==("__debug__"))=false:=by decide) :
  PS X (.Try body [.ExceptHandler (some (.Name x np)) (some n) (b₀::J) U] [] [] pos) (Zms X.K X.mg C2 tb i hs):=by
 intro d s σ H D I h;refine wpAny_Try_except (Os (Y d s σ H _ _ (fun s'=>Oe (Oc X.prog X.w) X.A (execs [] X.env) (SP X d D) X.xe s') _ I (fun s' H2 I2 q2=>OY ⟨σ,H2,I2,q2⟩) ?_ h) (fun f s' q=>by cases f <;> first | exact q | exact q.elim) fun _ _ z=>z);intro ev s1 R H1 I1 hq;obtain⟨a,cls,a0,H',B,rfl,os,bare,V,hok,N,c1,c2,c3,⟨y,C,bm,rfl,cy,P⟩,hE⟩:=hq;have fl0:CK B (X.env::X.outer) a (.ref C) a0 R.heap:=by simp_all
 have S:a∉L2.frs X.stack:=fun hm=>by
  obtain⟨_,o,l,hd⟩:=N.2.2.1.mem hm;obtain⟨_,_,_,oe,_⟩:=N
  simp_all
 have hfrs:L2.frs X.stack=X.env.locals::X.fs:=by exact j▸ZeG W
 have k:a≠X.env.locals:=fun z=>S (by simp_all);have Q:a∉X.fs:=fun z=>S (by simp_all);have nH:H' a=none:=by
  cases w:H' a with
  | none=>rfl
  | some u =>
   obtain⟨o,l⟩:=c1 a u w;rw[N.2.1]at l;cases l
 have T:∀ (h9:Nu) (tk:VC),B.StaysIn h9->R.heap.UpToSlots h9->Inv X d σ H' {R with heap:=h9,toks:=tk}:=fun h9 tk Y up=>by
  refine I1.call' (ch:=[]) os ⟨fun b o q n t _=>Y b o (c2 b o q n t),fun b o q n t _=>?_,V.free,fun b o q _=>?_,V.tups,V.frzs,V.tbls⟩ (hok.stays c1 N.1 Y) bare (fun b z=>nomatch z)
  obtain⟨sl,q2⟩:=V.slot b o q n t (by simp);obtain⟨_,o',l,hd⟩:=N.2.2.1.mem (b:=b) t;rw[q2]at l;cases l;obtain⟨sl2,w⟩:=up b _ q2 hd;exact⟨sl2,w⟩
  by_cases t:b∈L2.frs X.stack
  obtain⟨_,o',l,hd⟩:=N.2.2.1.mem (b:=b) t;obtain⟨sl2,w⟩:=up b _ l hd;exact⟨_,w⟩
  obtain⟨o',w⟩:=c3 b o q t;exact⟨o',Y b o' w⟩
 refine wpAny_looks_onW (by exact j▸I1.ok.frames) W fl0 fun h2 O up2=>wpAny_landsW O fun h3 K up3=>?_;have m:=up2.trans up3;obtain⟨oe3,ws3,Z,G,hd3,_⟩:=K.first;have I3:=T h3 R.toks K.1 m;obtain⟨N1,nm1,qn1,bs1,hdct1,sn1,sub1,ab1,col1,dd1,k01,k11,k21,k31,k51,mN1,hC1,_⟩:=cy.at I3.kIn;obtain⟨N2,nm2,qn2,bs2,hdct2,sn2,sub2,ab2,col2,dd2,k02,k12,k22,k32,k52,mN2,hC2,_,_,T2⟩:=c.at I3.kIn;refine wpAny_handleBy_cons (codeAny_handlers_test (Jo (I3.caught (oe:=oe3) Z nH k Q (fun v z=>by rw[hd3]at z;cases z)) hgx c.bound (ZaC hC1 hC2 Z G (T2.hasType PySem.F.excBase_ValueError.hasBase) P (codeAny_handlers_suite_as (lands_againW K fun h4 fl4 up4=>?_))) hdx)) (by intro z;cases z);obtain⟨e,ws4,he4,A,hd4,_⟩:=fl4.first;have J4:=(T h4 R.toks fl4.1 (m.trans up4)).caught (oe:=e) he4 nH k Q (fun v z=>by rw[hd4]at z;cases z);refine Zbc (X:=X.caught a (X.pn++d++[(a,e)])) J4 hN hi (.inl M) (v:=.ref a) rfl (fun s5 J5=>Os (g a e _ (QJ _ (Qq.mpr rfl)) [] s5 _ H' (ZlY D i) J5 (hE a e A nH)) (fun fl6 s6 q6=>?_) (fun _ _ z=>z.elim)) (.inr M);cases fl6 with
 | next =>
  obtain⟨p,F,r,L⟩:=q6;exact X0 (r.uncaught I.ok) hN hi M fun s7 E=>⟨_,F,E,L⟩
 | brk =>
  obtain⟨p,F,r,L⟩:=q6;exact X0 (r.uncaught I.ok) hN hi M fun s7 E=>⟨_,F,E,L⟩
 | cont =>
  obtain⟨p,F,r,L⟩:=q6;exact X0 (r.uncaught I.ok) hN hi M fun s7 E=>⟨_,F,E,L⟩
 | ret u =>
  obtain⟨v6,p,F,r,r6,L⟩:=q6;exact X0 (r.uncaught I.ok) hN hi M fun s7 E=>⟨v6,_,F,E,r6,L⟩
end L2
namespace Sh
open PySem L2 PyProof.Rows
seal PE PS PSs PT PW L2.PA PI PG PGs PO PC PCs OpR UnR CallR MtR IxR SlR PB
structure ZoX (K:VB) (mg:VI->VE VG) (S C A1 A2 A3 A4 A5 A6 A7 A8:VH):Prop where
 sh:XCls K mg "ShredError" S (Zke K S)
 ap:XCls K mg "Apart" C (Zke K C)
 up1:(Zke K C).contains (.ref S)=true
 at1:ZbV K C
 v1:MS K (.ref C) (.type "ValueError")=some true
 o1:FZ K (.ref C) [.ref A1,.ref A2,.ref A3,.ref A4,.ref A5,.ref A6,.ref A7,.ref A8]=some false
 g1:mg "NoText" = some (.ref A1)
 g2:mg "NoHeap" = some (.ref A2)
 g3:mg "NoPiece" = some (.ref A3)
 g4:mg "NoLine" = some (.ref A4)
 g5:mg "NoTexts" = some (.ref A5)
 g6:mg "NoNumber" = some (.ref A6)
 g7:mg "NoDeed" = some (.ref A7)
 g8:mg "Unlike" = some (.ref A8)
 vn:mg "ValueError" = none
def Zmn {K} (a) (R:Hp->Prop) (d:∀ (l) (E),(∀ f,R f->E a none f)->j l E σ H)
  (c:∀ e,R e->(∃ y C g,a= .ref C/\XCls K m y C g/\g.contains (.ref h)=true)/\∀ b oe,oe.cls=a->e b=none->k b oe (ZlY D i) (σ.set i (some (.ref b))) e):Zms K m h j i k D σ H:=d _ _ c
section
variable {P:Oh} {w:Ol} {K:VB} {mg:VI->VE VG} {base:Nu} {S CA Pt A1 A2 A3 A4 A5 A6 A7:VH}
abbrev Zk5:Mv:=top 52
abbrev Zou:VA VI:=["_law_heap_here","_law_own","error"]
def scLref:Zp Zou ["_law_heap_here"] (Zf Zk5):=⟨rfl,rfl,rfl,bh,rfl,bh,bh⟩
def ZjQ (Pt:VH):Sp:=fun vs H Q _=>∃ (v:V) (e0:VI×VN) (es0:Es) (L:VC),vs=[v]/\HeapV H v (e0::es0)/\Hpy (e0::es0) L/\L<=100/\(flatE (e0::es0)).length<=190/\TbOk Pt H/\¬ ZbW e0 (e0::es0)/\∀ H',TbOk Pt H'->Q (.bl true) H'
def Zcm (D:HasDef K mg "_law_refused" Zk5 ["_law_heap_here"]) (B:Blt mg) (a:ZoX K mg S CA A1 A2 A3 A4 A5 A6 A7 y) (G1:Zmj P w K mg base 7 "filled" ["H"] (Zbe Pt CA)):FOk P w K mg base 8 "_law_refused" ["_law_heap_here"] (ZjQ Pt):=by
 refine D.ok scLref (fun vs H Q E h=>?_) (fun f cdv A outer s H vs Q E hr h=>?_)
 obtain⟨v,e0,j,L,rfl,_⟩:=h;rfl
 apply Lb;intros;apply La;intros;obtain⟨v,e0,j,L,rfl,hV,hy,hL,hfl,l,hH,k⟩:=h;refine ⟨_,(Zc (Zm 1 scLref.nd (ZC Ze))
  (Zlb (Zlc 2 rfl rfl rfl (Zlq G1 hr (fun _=>Za (pv 0) Ze)) a.sh (fun ea oe pn hm =>
   (Zc (Zm 1 scLref.nd (ZC (Za (Zk (ZcN hm) rfl B.isi ZaF (Za (pv 2) (Za (Y8 (v:=.ref CA) rfl a.ap.bound rfl) Ze))) (Za (Zk (ZcN hm) rfl B.isi ZaF (Za (pv 2) (Za (Zcf rfl a.vn ZpO) Ze))) Ze))))
   (Zj (Z4 (ZmQ K F.plainAttrs_list F.slot_list_append F.type_list_append Yj (pv 1) (Za (Zk (Zh4 hm) rfl B.isi ZaF (Za (pv 2) (Za (J2 (Za (Y8 (v:=.ref A1) rfl a.g1 rfl) (Za (Y8 (v:=.ref A2) rfl a.g2 rfl) (Za (Y8 (v:=.ref A3) rfl a.g3 rfl) (Za (Y8 (v:=.ref A4) rfl a.g4 rfl) (Za (Y8 (v:=.ref A5) rfl a.g5 rfl) (Za (Y8 (v:=.ref A6) rfl a.g6 rfl) (Za (Y8 (v:=.ref A7) rfl a.g7 rfl) (Za (Y8 (v:=.ref y) rfl a.g8 rfl) Ze))))))))) Ze))) Ze)))))) scLref.nd)
  (Zj (Zu (Zaa (ZmT hr.units) (pv 1) (ZC (Za YV (Za YV (Za YV Ze)))) (Zz _)))))),⟨QN _,fun p0 hp0=>?_⟩⟩;have m:=Zb (o:=.lst []) hp0;generalize upd H p0 (.lst [])=H00 at m;refine⟨fun σ H'=>∃ p a0 a2,σ=[a0,some (.ref p),a2]/\Same H H'/\H' p=some (.lst ([true,true,false].map V.bl)),?_,?_⟩
 refine Zmn (.ref CA) (Same H00) (fun nx E hE=>?_) (fun H1 hs1=>?_)
 exact⟨_,rfl,v,e0,j,L,rfl,hV.same m,hy,hL,hfl,l.same m,fun z=>VM z hH,fun _=>hE⟩
 refine ⟨⟨_,_,_,rfl,a.ap,a.up1⟩,fun ea oe d hne=>⟨_,rfl,.ref CA,CA,.ref CA,true,rfl,d,a.at1,rfl,Zjd,_,rfl,.ty "ValueError",CA,_,true,rfl,d,a.at1,rfl,a.v1,(show 2<=Od by decide),fun p r=>?_⟩⟩;have u:=Zb (o:=.lst [.bl true,.bl true]) r;refine⟨_,rfl,.inl ⟨rfl,_,SqL.of Zd⟩,_,rfl,(show 8<=Od by decide),fun t ht=>?_⟩;have s2:=Zb (o:=.tup [.ref A1,.ref A2,.ref A3,.ref A4,.ref A5,.ref A6,.ref A7,.ref y]) ht;refine Pg t CA ([A1,A2,A3,A4,A5,A6,A7,y]) false ⟨rfl,d,a.at1,Zd,a.o1,Pf p _ _ ⟨rfl,rfl,s2 _ _ Zd,(show 2<Od by decide),⟨p,_,_,rfl,fun b o e=>?_,?_⟩⟩⟩
 have e1:=hs1 b o (m b o e);exact Zi (Zh e1 r)▸s2 b o (u b o e1)
 rw[Zd];rfl
 rintro σ H' ⟨p,a0,a2,rfl,sH,r⟩;refine⟨_,rfl,(show 3<=Od by decide),fun q hq=>?_⟩;have u:=Zb (o:=.lst ([true,true,false].map V.bl)) hq;have i:MN (.list ([true,true,false].map Fp))=true:=by rfl
 exact ⟨_,_,Zca (bs:=[true,true,false]) (u _ _ r),Zca (bs:=[true,true,false]) Zd,i,i,k _ (l.same (sH.trans u))⟩
end
def Pcl.of (h:Pcl ps L) (ne:ps'≠[]) (fw:ps'.length<=190) (hm:∀ x∈ps',x∈ps\/(x.length=L/\Cd x.cps.toList)):Pcl ps' L :=
 ⟨ne,fw,fun x hx=>(hm x hx).elim (h.len x) (·.1),h.l1,h.l3,fun x hx=>(hm x hx).elim (h.cd x) (·.2)⟩
section
variable {P:Oh} {w:Ol} {K:VB} {mg:VI->VE VG} {base:Nu}
abbrev Zok:Mv:=top 44
noncomputable abbrev ZpB:VA VI:=["_law_pieces","_law_deck_here","_law_text_here","_law_cell","_law_way","_law_at","_law_piece","_law_place","_law_sign","_law_odd"]
def scLch:Zp ZpB ["_law_pieces","_law_deck_here","_law_text_here"] (Zf Zok):=⟨rfl,rfl,rfl,bh,rfl,bh,bh⟩
def ZmC:Sp:=fun vs H Q _=>∃ (a D:VH) (ps:VA VI) (z:VA VC) (L n:VC),vs=[.ref a,.ref D,.str (tx z)]/\H a=some (.lst (ps.map V.str))/\Pcl ps L/\ps.length+2<=190/\1<=z.length/\z.length<=63/\Cd z/\DK H D (n+1) /\
 ∀ a' ps' H',SB D H H'->DK H' D n->H' a'=some (.lst (ps'.map V.str))->Pcl ps' L->ps'.length<=ps.length+2->Q (.ref a') H'
def Zco (D:HasDef K mg "_law_changed" Zok ["_law_pieces","_law_deck_here","_law_text_here"]) (B:Blt mg):FOk P w K mg base 1 "_law_changed" ["_law_pieces","_law_deck_here","_law_text_here"] ZmC:=by
 refine D.ok scLch (fun vs H Q E h=>?_) (fun f cdv A outer s H vs Q E hr h=>?_)
 obtain⟨a,D,ps,z,L,n,rfl,_⟩:=h;rfl
 apply Lb;intros;apply La;intros;obtain⟨a,Dk,ps,z,L,n,rfl,ha,hP,h190,z1,z63,zc,hD,k⟩:=h;refine⟨_,(Zc (Zm 3 scLch.nd (YJ F.plainAttrs_list F.slot_list_pop F.type_list_pop Yg (pv 1)))
  (Zc (Zm 4 scLch.nd (Zo ZM (pv 3) Zg))
  (Zc (Zm 5 scLch.nd (Zo ZM (Zo Yq (pv 3) Zg) (Zk Zn rfl B.len ZG (Za (pv 0) Ze))))
  (Zc (Ya (PW.pt (Zgu (Zt Zbt (pv 4) Zg (Zz _)) (Zde (Zt Zcj (Zk Zn rfl B.len ZG (Za (pv 0) Ze)) Zg (Zz _))))) (Zj (Zu (Zo XH (Zr XN (pv 0) Zy (Zv (pv 5))) (Zr XN (pv 0) (Zv (Zo ZJ (pv 5) Zg)) Zy)))) ZD)
  (Zc (Ya (Zt Zdj (pv 4) Zg (Zz _)) (Zj (Zu (Zo XH (pv 0) (Zo Xi (ZC (Za (ZA ix_list (pv 0) (pv 5)) Ze)) (pv 4))))) ZD)
  (Zc (Zm 6 scLch.nd (ZA ix_list (pv 0) (pv 5)))
  (Zc (Zm 3 scLch.nd (Zo Yq (Zo Yq (pv 3) Zg) (Zk Zn rfl B.len ZG (Za (pv 0) Ze))))
  (Zc (Zm 7 scLch.nd (Zo ZM (pv 3) (Zk Zn rfl B.len ZG (Za (pv 6) Ze))))
  (Zc (Zm 8 scLch.nd (ZA Zcy (pv 2) (Zo ZM (Zo Yq (pv 3) (Zk Zn rfl B.len ZG (Za (pv 6) Ze))) (Zk Zn rfl B.len ZG (Za (pv 2) Ze)))))
  (Zc (Zm 9 scLch.nd (Zo Z6 (Zo Z6 (Zr ZP (pv 6) Zy (Zv (pv 7))) (pv 8)) (Zr ZP (pv 6) (Zv (Zo ZJ (pv 7) Zg)) Zy)))
  (Zj (Zu (Zo XH (Zo XH (Zr XN (pv 0) Zy (Zv (pv 5))) (ZC (Za (pv 9) Ze))) (Zr XN (pv 0) (Zv (Zo ZJ (pv 5) Zg)) Zy)))))))))))))),?_⟩
 apply Dh;intros;have h1:1<=ps.length:=List.length_pos_iff.mpr hP.ne;have l1:=hP.l1;have l3:=hP.l3;apply La;intros;obtain⟨ns,c,hDn,c0,c1,hD2⟩:=hD.pop;have haD:a≠Dk:=fun e=>by
  rw[e,hDn]at ha;have:=VQ ha;injection this with this
  cases ps with
  | nil=>simp_all
  | cons x l =>
   cases ns with
   | nil=>simp_all
   | cons y m=>simp_all
 refine⟨_,rfl,.inl ⟨rfl,_,SqL.of hDn⟩,Dk,_,.int c,rfl,rfl,hDn,Ye ns c,?_⟩;rw[Yf];have sb:SB Dk H (upd H Dk (.lst (ns.map V.int))):=SB.upd;have ha2:(upd H Dk (.lst (ns.map V.int))) a=some (.lst (ps.map V.str)):=by rw[Zi haD];omega
 generalize upd H Dk (.lst (ns.map V.int))=H2 at hD2 sb ha2;clear hD hDn;have hpl:(ps.map V.str).length=ps.length:=Qd ..;refine ⟨_,rfl,_,_,rfl,rfl,br,⟨_,rfl,_,_,rfl,rfl,(by constructor <;> decide),_,rfl,.ref a,_,rfl,.inl ⟨_,SqL.of ha2,rfl⟩,_,_,rfl,rfl,(To h1 hpl),?_⟩⟩;rw[hpl];have m1:=Uw (c / 5) (show(ps.length:VN)≠0 by exact Tp h1);have m2:=Ug (c / 5) (show(0:VN)<ps.length by exact Tq h1);have w1:=Uw c (show(5:VN)≠0 by decide);have w2:=Ug c (show(0:VN)<5 by decide);obtain⟨i,ei⟩:∃ i:VC,c / 5 % (ps.length:VN)=i:=⟨(c / 5 % (ps.length:VN)).toNat,Tr m1⟩
 dsimp only;rw[ei]at m1 m2 ⊢;have hi:i<ps.length:=Vq m2
 have hat:atI (ps.map V.str) (i:VN)=some (.str ps[i]):=Zax bo;have hpm:ps[i]∈ps:=QH hi;have ct:Zfr (ps.map V.str) none (some (i:VN))=(ps.take i).map V.str:=by rw[Zky bq,List.map_take]
 have cf:Zfr (ps.map V.str) (some ((i:VN)+1)) none=(ps.drop (i+1)).map V.str:=by rw[show(i:VN)+1=((i+1:VC):VN)by exact Tt,ZeK bq,List.map_drop]
 have hdl:(ps.drop (i+1)).length=ps.length-(i+1):=Wi ..;have htl:(ps.take i).length=i:=by rw[QD];lia
 generalize ps[i]=x at *;have xl:=hP.len x hpm;have xc:=hP.cd x hpm;generalize c % 5=wy at *;show Zd1 (ZkN _ _ _) _ _ _ _;refine Z0 (fun σ H3=>H3=H2/\σ=[some (.ref a),some (.ref Dk),some (.str (tx z)),some (.int c),some (.int wy),some (.int i),none,none,none,none]) (fun R hR=>?_) ?_
 refine⟨_,rfl,rfl,_,rfl,?_⟩;by_cases cw0:wy=0
 refine Xu (ZhB cw0) ⟨_,rfl,.ref a,_,rfl,.inl ⟨_,SqL.of ha2,rfl⟩,_,_,rfl,rfl,_,rfl,?_⟩;rw[hpl];by_cases c2:1<ps.length
 ·refine Xu (VR bq) ⟨_,rfl,_,rfl,_,rfl,a,_,rfl,SqL.of ha2,fun p1 hp1=>?_⟩;rw[ct];have s1:=Zb (o:=.lst ((ps.take i).map V.str)) hp1;refine⟨_,rfl,_,rfl,_,_,rfl,rfl,_,rfl,a,_,rfl,SqL.of (s1 _ _ ha2),fun p2 hp2=>?_⟩;rw[cf];have s2:=Zb (o:=.lst ((ps.drop (i+1)).map V.str)) hp2;refine Pg p1 p2 _ _ ⟨rfl,rfl,s2 _ _ Zd,Zd,Zl (by rw[Qd,Qd];omega),fun p3 hp3=>?_⟩;have s3:=(s1.trans s2).trans (Zb (o:=.lst ((ps.take i).map V.str++(ps.drop (i+1)).map V.str)) hp3);refine k p3 (ps.take i++ps.drop (i+1)) _ (sb.trans (Zk4 s3)) (hD2.same s3) (by rw[Zd,QK]) (hP.of (fun z=>?_) ?_ fun y hy=>.inl ?_) ?_
  ·have:=NA Uj z;rw[Qg,WR]at this;omega
  ·rw[Qg];omega
  ·rcases QA.mp hy with z | z
   ·exact QZ z
   ·exact Wm z
  ·rw[Qg];lia
 ·exact Ys (VO bq) (hR _ _ ⟨rfl,rfl⟩)
 exact Ys (ZhA cw0) (Ys rfl (hR _ _ ⟨rfl,rfl⟩))
 rintro σ H3 ⟨rfl,rfl⟩;show Zd1 (ZkN _ _ _) _ _ _ _;refine Z0 (fun σ H4=>H4=H3/\σ=[some (.ref a),some (.ref Dk),some (.str (tx z)),some (.int c),some (.int wy),some (.int i),none,none,none,none]) (fun R hR=>?_) ?_
 refine⟨_,rfl,_,_,rfl,rfl,_,rfl,?_⟩;by_cases cw3:wy<3
 refine Xu (VR cw3) ⟨_,rfl,_,rfl,_,rfl,a,_,i,_,rfl,rfl,SqL.of ha2,hat,Zl (show 1<=1000 by decide),fun p1 hp1=>?_⟩;have s1:=Zb (o:=.lst [.str x]) hp1;refine⟨_,rfl,Pf p1 wy _ ⟨rfl,rfl,Zd,br,br,Zl (by rw[Qp];omega),fun p2 hp2=>?_⟩⟩;have s2:=s1.trans (Zb (o:=.lst (Qw wy.toNat [V.str x]).flatten) hp2);have ef:(Qw wy.toNat [V.str x]).flatten=(Qw wy.toNat x).map V.str:=by
  rw[WY];generalize wy.toNat=n;induction n with
  | zero=>rfl
  | succ n ih=>rw[WV,UB,ih,WV];rfl
 refine Pg a p2 _ _ ⟨rfl,rfl,s2 _ _ ha2,Zd,Zl (by rw[Zae,Qd,Qp];omega),fun p3 hp3=>?_⟩;have s3:=s2.trans (Zb (o:=.lst (ps.map V.str++(Qw wy.toNat [V.str x]).flatten)) hp3);refine k p3 (ps++Qw wy.toNat x) _ (sb.trans (Zk4 s3)) (hD2.same s3) (by rw[Zd,QK,ef]) (hP.of (fun z=>?_) ?_ fun y hy=>.inl ?_) ?_
 ·have:=NA Uj z;rw[Qg,WR]at this;lia
 ·rw[Qg,Wb];omega
 ·rcases QA.mp hy with z | z
  ·exact z
  ·exact (Uh.mp z).2▸hpm
 ·rw[Qg,Wb];omega
 exact Ys (VO cw3) (hR _ _ ⟨rfl,rfl⟩)
 rintro σ H4 ⟨rfl,rfl⟩;refine ⟨_,rfl,_,rfl,Pg a _ i _ ⟨rfl,rfl,SqL.of ha2,hat,⟨_,rfl,_,_,rfl,rfl,(by constructor <;> decide),_,rfl,.ref a,_,rfl,.inl ⟨_,SqL.of ha2,rfl⟩,_,_,rfl,rfl,(by rw[hpl];constructor <;> lia),?_⟩⟩⟩;rw[hpl];have hxs:x.length<=Od:=Zx (Tu l3 xl);have hzs:(tx z).length<=Od:=by rw[Zs];exact Zx (Tv z63)
 refine⟨_,rfl,_,rfl,.str x,x.length,rfl,⟨hxs,rfl⟩,_,_,rfl,rfl,(by show(0:VN)<_;exact To l1 xl),?_⟩;dsimp only;generalize c / 5 / (ps.length:VN)=cl;have q1:=Uw cl (show(x.length:VN)≠0 by lia);have q2:=Ug cl (show(0:VN)<x.length by exact To l1 xl);obtain⟨p,ep⟩:∃ p:VC,cl % (x.length:VN)=p:=⟨(cl % (x.length:VN)).toNat,Tr q1⟩
 rw[ep]at q1 q2 ⊢;have r1:=Uw (cl / (x.length:VN)) (show(z.length:VN)≠0 by exact Tp z1);have r2:=Ug (cl / (x.length:VN)) (show(0:VN)<z.length by exact Tq z1);obtain⟨r,er⟩:∃ r:VC,cl / (x.length:VN) % (z.length:VN)=r:=⟨(cl / (x.length:VN) % (z.length:VN)).toNat,Tr r1⟩
 have hrz:r<z.length:=br
 refine⟨_,rfl,_,rfl,_,rfl,.str x,x.length,rfl,⟨hxs,rfl⟩,_,_,rfl,rfl,(by constructor <;> lia),_,rfl,.str (tx z),(tx z).length,rfl,⟨hzs,rfl⟩,_,_,rfl,rfl,(by show(0:VN)<_;rw[Zs];exact Tq z1),?_⟩;rw[Zs];dsimp only;rw[er];refine Pf (tx z) r (z[r]) ⟨rfl,rfl,hzs,Zax (by rw[ZI,Qa hrz]),?_⟩;have ex:x=tx x.cps.toList:=(ZZ (ZI _)).symm;have hxl:x.cps.toList.length=x.length:=ZF ..;have sl1:NH x none (some (p:VN))=tx (x.cps.toList.take p):=by
  conv=>lhs;rw[ex]
  rw[Z5 Tw,QX]
 have sl2:NH x (some ((p:VN)+1)) none=tx (x.cps.toList.drop (p+1)):=by
  conv=>lhs;rw[ex]
  rw[Jh br (by rw[hxl];exact q2)];congr 2
 have e1:(⟨#[z[r]]⟩:VI)=tx [z[r]]:=rfl;have t1:(x.cps.toList.take p).length=p:=by rw[QD];lia
 have t2:(x.cps.toList.drop (p+1)).length=x.length-(p+1):=by rw[Wi,hxl]
 refine⟨_,rfl,_,rfl,_,rfl,_,rfl,hxs,_,rfl,?_⟩;rw[sl1,e1];refine⟨_,_,rfl,rfl,Zx (by rw[Zs,Zs,Qp];lia),?_⟩;rw[XE];refine⟨_,rfl,_,rfl,_,_,rfl,rfl,_,rfl,_,rfl,hxs,?_⟩;rw[sl2];refine⟨_,_,rfl,rfl,Zx (by rw[Zs,Zs,Qg,Qp];lia),?_⟩;rw[XE];have odl:(tx (x.cps.toList.take p++[z[r]]++x.cps.toList.drop (p+1))).length=L:=by
  rw[Zs,Qg,Qg,Qp];lia
 have odc:Cd (tx (x.cps.toList.take p++[z[r]]++x.cps.toList.drop (p+1))).cps.toList:=fun y hy=>by
  rw[ZI]at hy;rcases QA.mp hy with h | h
  rcases QA.mp h with h | h
  exact xc y (QZ h)
  exact Qq.mp h▸zc _ (QH hrz)
  exact xc y (Wm h)
 generalize tx (x.cps.toList.take p++[z[r]]++x.cps.toList.drop (p+1))=od at odl odc ⊢;refine⟨_,rfl,_,rfl,_,rfl,a,_,rfl,SqL.of ha2,fun p1 hp1=>?_⟩;rw[ct];refine⟨_,rfl,Zl (show 1<=1000 by decide),fun p2 hp2=>?_⟩;have s2:=Zb (o:=.lst [.str od]) hp2;refine Pg p1 p2 _ _ ⟨rfl,rfl,s2 _ _ Zd,Zd,Zl (by rw[Qd,Qp];lia),fun p3 hp3=>?_⟩;have s3:=((Zb (o:=.lst ((ps.take i).map V.str)) hp1).trans s2).trans (Zb (o:=.lst ((ps.take i).map V.str++[.str od])) hp3);refine⟨_,rfl,_,rfl,_,_,rfl,rfl,_,rfl,a,_,rfl,SqL.of (s3 _ _ ha2),fun p4 hp4=>?_⟩;rw[cf];have s4:=Zb (o:=.lst ((ps.drop (i+1)).map V.str)) hp4;refine Pg p3 p4 _ _ ⟨rfl,rfl,s4 _ _ Zd,Zd,Zl (by rw[Qg,Qd,Qd,Qp];omega),fun p5 hp5=>?_⟩;have s5:=(s3.trans s4).trans (Zb (o:=.lst ((ps.take i).map V.str++[.str od]++(ps.drop (i+1)).map V.str)) hp5);refine k p5 (ps.take i++[od]++ps.drop (i+1)) _ (sb.trans (Zk4 s5)) (hD2.same s5) (by rw[Zd,QK,QK];rfl) (hP.of (fun z=>?_) ?_ fun y hy=>?_) ?_
 have:=NA Uj z;rw[Qg,Qg,Qp,WR]at this;lia
 rw[Qg,Qg,Qp];omega
 rcases QA.mp hy with h | h
 rcases QA.mp h with h | h
 ·exact .inl (QZ h)
 ·exact Qq.mp h▸.inr ⟨odl,odc⟩
 exact .inl (Wm h)
 rw[Qg,Qg,Qp];omega
end
def ZgI (e:L<=z.length) (hz:Cd z):∀ x∈pcs z L,x.length=L/\Cd x.cps.toList:=fun x b=>by
 obtain⟨i,a,rfl⟩:=Q6.mp b;have:=Qu.mp a;exact ⟨by rw[Zs,QD,Wi];lia,fun c d=>hz c (Wm (QZ d))⟩
def ZcG (n) (l):(Qw n (l.map V.str)).flatten=((Qw n l).flatten).map V.str:=by
 simp
def Zet (d:n=z.length-L+1) (c:vs.length=n) (h:∀ i v,vs[i]?=some v->v=V.str (tx ((z.drop i).take L))):vs=(pcs z L).map V.str:=by
 apply QY;intro i;unfold pcs
 grind
section
variable {P:Oh} {w:Ol} {K:VB} {mg:VI->VE VG} {base:Nu}
abbrev Zed:Mv:=top 53
abbrev Zkd:VA VI:=["_law_deck_here","_law_some","_law_cell","_law_long_here","_law_text_here"]
def scLlong:Zp Zkd ["_law_deck_here"] (Zf Zed):=⟨rfl,rfl,rfl,bh,rfl,bh,bh⟩
def ZfX:Sp:=fun vs H Q _=>∃ (D:VH) (n:VC),vs=[.ref D]/\DK H D (n+7)/\∀ a ps L H',SB D H H'->DK H' D n->H' a=some (.lst (ps.map V.str))->Pcl ps L->ps.length<=72->Q (.ref a) H'
def ZgT (D:HasDef K mg "_law_long" Zed ["_law_deck_here"]) (B:Blt mg) (g5_:FOk P w K mg base 1 "_law_letters" ["_law_deck_here","_law_few"] ZfU) (g12_:FOk P w K mg base 1 "_law_signs" ["_law_deck_here","_law_some","_law_long_here"] Zbd):FOk P w K mg base 2 "_law_long" ["_law_deck_here"] ZfX:=by
 refine D.ok scLlong (fun vs H Q E h=>?_) (fun f cdv A outer s H vs Q E hr h=>?_)
 obtain⟨D,n,rfl,_⟩:=h;rfl
 apply Lb;intros;obtain⟨Dk,n,rfl,hD,k⟩:=h;refine ⟨_,(Zc (Zm 1 scLlong.nd (ZH g5_ hr (Za (pv 0) (Za (ZA ix_list (ZC (Za Zg (Za Zg Ze))) (Zo ZM (YJ F.plainAttrs_list F.slot_list_pop F.type_list_pop Yg (pv 0)) Zg)) Ze))))
  (Zc (Zm 2 scLlong.nd (YJ F.plainAttrs_list F.slot_list_pop F.type_list_pop Yg (pv 0)))
  (Zc (Zm 3 scLlong.nd (Zo ZJ Zg (Zo ZM (pv 2) Zg)))
  (Zc (Zm 4 scLlong.nd (ZH g12_ hr (Za (pv 0) (Za (pv 1) (Za (Zo ZJ (pv 3) (Zo ZM (Zo Yq (pv 2) Zg) Zg)) Ze)))))
  (Zj (Zu (Zo Xi (Yd (Zf Zed) Zkd ["_law_at"] [3,4] rfl (ZY rfl B.range (Za (Zo ZJ (Zo YL (Zk Zn rfl B.len ZG (Za (pv 4) Ze)) (pv 3)) Zg) Ze)) (fun _ _ _ _ _=>Yz 0) (fun _ _ _ _ _=>YK) (fun _ _ _ _ _=>(Zr ZP (pv 2) (Zv (pv 0)) (Zv (Zo ZJ (pv 0) (pv 1)))))) (Zo ZJ Zg (Zo ZM (Zo Yq (pv 2) Zg) Zg))))))))),⟨_,rfl,Zl (show 2<=1000 by decide),fun p hp=>?_⟩⟩;have s1:=Zb (o:=.lst [.int 3,.int 26]) hp;have hD1:DK (upd H p (.lst [.int 3,.int 26])) Dk (n+6+1):=hD.same s1;have hp1:(upd H p (.lst [.int 3,.int 26])) p=some (.lst (([3,26]:VA VN).map V.int)):=Zd;have hpD:p≠Dk:=fun e=>by
  obtain⟨_⟩:=hD
  simp_all
 have sb1:SB Dk H (upd H p (.lst [.int 3,.int 26])):=(Zk4 s1)
 generalize upd H p (.lst [.int 3,.int 26])=H1 at hD1 hp1 sb1;apply La;intros;obtain⟨ns,c,hDn,c0,c1,hD2⟩:=hD1.pop;refine⟨_,rfl,.inl ⟨rfl,_,SqL.of hDn⟩,Dk,_,.int c,rfl,rfl,hDn,Ye ns c,?_⟩;rw[Yf];have hp2:(upd H1 Dk (.lst (ns.map V.int))) p=some (.lst (([3,26]:VA VN).map V.int)):=by rw[Zi hpD];omega
 have sb2:=sb1.trans (SB.upd (o:=.lst (ns.map V.int)));generalize upd H1 Dk (.lst (ns.map V.int))=H2 at hD2 hp2 sb2;have m5:=ZU c (show(0:VN)<2 by decide);apply La;intros;obtain⟨few,hat,_⟩:=Znd (ns:=[3,26]) (lo:=2) (hi:=26) m5.1 m5.2 be be;refine⟨_,_,rfl,rfl,br,p,_,_,_,rfl,rfl,SqL.of hp2,hat,Dk,few,n+5,rfl,bq,bq,hD2,fun y H3 sb3 hD3 hy yc=>?_⟩;have hD3':DK H3 Dk (n+4+1):=hD3;apply La;intros;obtain⟨ns2,cl,hDn2,k0,k1,hD4⟩:=hD3'.pop;refine⟨_,rfl,.inl ⟨rfl,_,SqL.of hDn2⟩,Dk,_,.int cl,rfl,rfl,hDn2,Ye ns2 cl,?_⟩;rw[Yf];have sb4:=(sb2.trans sb3).trans (SB.upd (H:=H3) (o:=.lst (ns2.map V.int)));generalize upd H3 Dk (.lst (ns2.map V.int))=H4 at hD4 sb4;have m1:=ZU cl (show(0:VN)<28 by decide);have m3:=ZU (cl / 28) (show(0:VN)<3 by decide);have m19:=ZU (cl / 84) (show(0:VN)<19 by decide);obtain⟨L,eL⟩:∃ L:VC,13+cl % 28=(L:VN):=⟨(13+cl % 28).toNat,bq⟩
 obtain⟨L2,eL2⟩:∃ L2:VC,(L:VN)+cl / 28 % 3=(L2:VN):=⟨((L:VN)+cl / 28 % 3).toNat,bq⟩
 refine⟨_,rfl,_,_,rfl,rfl,br,_,_,rfl,rfl,?_⟩;dsimp only;rw[eL];refine⟨_,rfl,_,rfl,_,rfl,_,rfl,_,_,rfl,rfl,(by constructor <;> decide),_,_,rfl,rfl,br,_,_,rfl,rfl,?_⟩;dsimp only;rw[eL2];refine Pg Dk y L2 n ⟨rfl,bq,bq,yc,bq,hD4.less bq,fun z H5 sb5 hD5 hz zc=>?_⟩;have hzs:(tx z).length<=Od:=by rw[Zs];exact Zx bq
 refine⟨_,rfl,.str (tx z),(tx z).length,rfl,⟨hzs,rfl⟩,_,rfl,_,_,rfl,rfl,_,_,rfl,rfl,_,rfl,?_⟩;rw[Zs];refine⟨bq,bq,?_⟩;rw[show((z.length:VN)-L+1).toNat=z.length-L+1 by omega];refine X5 (z.length-L+1) (fun i=>.int (0+i)) (fun i v _=>v= .str (tx ((z.drop i).take L))) (Zx bq) (fun _ _ _ _ _ r=>r) ZbG ?_ ?_
 intro i H6 Qe hi hs kq;exact ⟨_,rfl,_,rfl,_,rfl,_,rfl,_,rfl,_,_,rfl,rfl,_,rfl,_,rfl,hzs,kq _ _ (Same.refl _) (NA V.str (JR Ty Tz bq))⟩
 intro D1 vs H6 hl hR s6 _ hD1;rw[Zet rfl hl hR]at hD1;refine⟨_,rfl,_,_,rfl,rfl,(by constructor <;> decide),_,_,rfl,rfl,br,_,_,rfl,rfl,?_⟩;have hpl:=Zbs z L;have hcut:((6+cl / 84 % 19:VN)).toNat<=24:=bq
 have hm0:6<=((6+cl / 84 % 19:VN)).toNat:=bq
 have hml:(pcs z L).length*((6+cl / 84 % 19:VN)).toNat<=3*24:=Ra br hcut;refine Pf D1 (6+cl / 84 % 19) _ ⟨rfl,rfl,hD1,bq,bq,Zl (by rw[Qd];lia),fun p7 hp7=>?_⟩;rw[ZcG];have s7:=s6.trans (Zb (o:=.lst (((Qw (6+cl / 84 % 19).toNat (pcs z L)).flatten).map V.str)) hp7);have hfl:((Qw (6+cl / 84 % 19).toNat (pcs z L)).flatten).length<=72:=by
  rw[Zae,CI];omega
 have hmem:∀ x∈(Qw (6+cl / 84 % 19).toNat (pcs z L)).flatten,x∈pcs z L:=fun x hx=>by
  obtain⟨_⟩:=RD.mp hx
  simp_all
 have hall:=ZgI (z:=z) (L:=L) bq zc;refine k p7 _ L _ ((sb4.trans sb5).trans (Zk4 s7)) (hD5.same s7) Zd ⟨fun e=>?_,br,fun x hx=>(hall x (hmem x hx)).1,bq,bq,fun x hx=>(hall x (hmem x hx)).2⟩ hfl;have:=NA Uj e;rw[Zae,WR,hpl]at this;have:6*1<=(6+cl / 84 % 19).toNat*(z.length-L+1):=Ra hm0 T4;omega
end
end Sh
namespace L2
open PySem PySem.Spec PyProof.Rows
def ZlN {lo} (n) (Dk) (R:VC->V->Prop) (I:VC->Hp->Prop) (hn:n<=Od) (hd:H1 Dk≠none) (h0:I 0 H1) (hu:∀ i H D o,D≠Dk->I i H->I i (upd H D o))
  (step:∀ i H (Qe),i<n->(∀ b u,b≠Dk->H1 b=some u->H b=some u)->I i H->(∀ v H6,(∀ b u,b≠Dk->H b=some u->H6 b=some u)->I (i+1) H6->R i v->Qe v H6)->g (.int (lo+i)) (lcS k mp σ) H fun σ4 H4=>te σ4 H4 Qe)
  (done:∀ D vs H',vs.length=n->(∀ (i) (v),vs[i]?=some v->R i v)->(∀ b u,b≠Dk->H1 b=some u->H' b=some u)->I n H'->H1 D=none->H' D=some (.lst vs)->Q (.ref D) H'):Jy k mp σ g ZnS te (Itr lo n) H1 Q:=by
 intro D hD;have hne:D≠Dk:=fun z=>hd (z▸hD);refine⟨fun i m acc H=>m=n-i/\i<=n/\acc.length=i/\(∀ b u,b≠Dk->H1 b=some u->H b=some u)/\I i H/\H D=some (.lst acc)/\∀ (j:VC) (v:V),acc[j]?=some v->R j v,⟨n,bo,QN _,rfl,fun b u _ e=>by rw[Zi (Zh e hD)];omega,hu _ _ _ _ hne h0,Zd,fun j v e=>bp⟩,?_⟩;rintro i m acc H ⟨rfl,hi,hl,hs,hI,hDa,hr⟩;by_cases hlt:i<n
 ·refine .inr ⟨hlt,fun x H3 y=>?_⟩;obtain⟨e1,e2⟩:=y;subst e1 e2;refine step i H3 _ hlt hs hI fun v H6 s6 i6 r6=>⟨s6 _ _ hne hDa,Nc hn hlt hl,n-(i+1),Xo hlt,rfl,hlt,by rw[Qg,hl];rfl,fun b u hb e=>?_,hu _ _ _ _ hne i6,Zd,fun j u e=>?_⟩
  ·rw[Zi (Zh e hD)];exact s6 _ _ hb (hs b u hb e)
  ·rcases WS j acc.length with h | h | h
   ·rw[QF h]at e;exact hr j u e
   ·subst h;rw[QC (Qh _),Wv]at e;cases e;rw[hl]
    grind
   ·rw[Qr (by rw[Qg,Qp];exact h)]at e;cases e
 ·have:i=n:=Vk hi hlt
  subst this;exact .inl ⟨Qh _,done D acc H hl hr hs hI hD hDa⟩
end L2
namespace Sh
open PySem L2 PyProof.Rows
seal PE PS PSs PT PW L2.PA PI PG PGs PO PC PCs OpR UnR CallR MtR IxR SlR
def ZjJ:∀ (vs),(∀ (i:VC) (v),vs[i]?=some v->∃ z,v= .str (tx z)/\z.length=L/\Cd z)->∃ a:VA VI,vs=a.map V.str/\∀ x∈a,x.length=L/\Cd x.cps.toList
 | [],_=>⟨[],rfl,fun x b=>by grind⟩
 | v::vs,h=>by
  obtain⟨z,rfl,c,d⟩:=h 0 v rfl;obtain⟨a,rfl,_⟩:=ZjJ vs fun i v e=>h (i+1) v bp;refine⟨tx z::a,rfl,fun x b=>?_⟩;rcases Qs.mp b with rfl | b
  exact⟨by assumption,by assumption⟩
  simp_all
def Zc1 (h:TbOk d H) (g:SB c H i) (f:DK H c n):TbOk d i:=by
 obtain⟨j,e,_⟩:=f;refine ZeU (l:=[c]) h (fun x u a e=>g x u (fun z=>a (by rw[z];simp)) e) fun x u a b=>.inl ?_;rw[Qq.mp a,e]at b;cases b;simp
section
variable {P:Oh} {w:Ol} {K:VB} {mg:VI->VE VG} {base:Nu} {Pt:VH}
abbrev Zge:Mv:=top 54
noncomputable abbrev Zoy:VA VI:=["_law_script","_law_deck_here","_law_text_here","_law_cell","_law_long_here","_law_pieces","_law_changes","_law_k","_law_heap_here"]
def scLaw:Zp Zoy ["_law_script"] (Zf Zge):=⟨rfl,rfl,rfl,bh,rfl,bh,bh⟩
def ZkV (Pt:VH) (K:VB):Sp:=fun vs H Q _=>∃ (a:VH) (ns:VA VN),vs=[.ref a]/\SqL K H a (ns.map V.int)/\ns.length<=63/\TbOk Pt H/\∀ H',Q (.bl true) H'
def ZmW (Fl:Fun K "law" "law" Zge fa fd) (B:Blt mg) (g1_:FOk P w K mg base 8 "_law_deck" ["_law_script","_law_many"] (ZjT K)) (g13_:FOk P w K mg base 8 "_law_text" ["_law_deck_here","_law_most"] ZjL) (g12_:FOk P w K mg base 8 "_law_signs" ["_law_deck_here","_law_some","_law_long_here"] Zbd)
  (g7_:FOk P w K mg base 8 "_law_long" ["_law_deck_here"] ZfX) (g0_:FOk P w K mg base 8 "_law_changed" ["_law_pieces","_law_deck_here","_law_text_here"] ZmC) (g3_:FOk P w K mg base 8 "_law_heap" ["_law_pieces"] ZfY) (g2_:FOk P w K mg base 8 "_law_hangs" ["_law_heap_here"] Zeb)
  (g14_:FOk P w K mg base 8 "_law_told" ["_law_heap_here"] (ZfV Pt)) (g11_:FOk P w K mg base 8 "_law_refused" ["_law_heap_here"] (ZjQ Pt)):FnOk P w K mg base CX0 9 fa fd ["_law_script"] (ZkV Pt K):=by
 refine Fl.ok scLaw (fun vs H Q E h=>?_) (fun cdv A outer s H vs Q E hr h=>?_)
 ·obtain⟨a,ns,rfl,_⟩:=h;rfl
 ·refine L9 h fun a ns r0 ha hl hTb k=>?_;subst r0;refine⟨_,(Zc (Zm 1 scLaw.nd (ZH g1_ hr (Za (pv 0) (Za Zg Ze))))
   (Zc (Zm 2 scLaw.nd (ZH g13_ hr (Za (pv 1) (Za Zg Ze))))
   (Zc (Zm 3 scLaw.nd (YJ F.plainAttrs_list F.slot_list_pop F.type_list_pop Yg (pv 1)))
   (Zc (Zm 4 scLaw.nd (Zk (Zav rfl) rfl B.min Zjz (Za (Zk Zn rfl B.len ZG (Za (pv 2) Ze)) (Za (Zo ZJ Zg (Zo ZM (pv 3) Zg)) Ze))))
   (Zc (JF (i:=5) (Zf Zge) Zoy ["_law_at"] [2,4] scLaw.nd rfl (.inl rfl) rfl (ZY rfl B.range (Za (Zo ZJ (Zo YL (Zk Zn rfl B.len ZG (Za (pv 2) Ze)) (pv 4)) Zg) Ze)) (fun _ _ _ _ _=>Yz 0) (fun _ _ _ _ _=>YK) (fun _ _ _ _ _=>(Zr ZP (pv 1) (Zv (pv 0)) (Zv (Zo ZJ (pv 0) (pv 2))))))
   (Zc (Ya (Zt Zbt (Zo ZM (Zo Yq (pv 3) Zg) Zg) Zg (Zz _)) (Zj (JF (i:=5) (Zf Zge) Zoy ["_law_k"] [1,2,4] scLaw.nd rfl (.inl rfl) rfl (ZY rfl B.range (Za (Zo ZJ Zg (Zo ZM (YJ F.plainAttrs_list F.slot_list_pop F.type_list_pop Yg (pv 1)) Zg)) Ze)) (fun _ _ _ _ _=>Yz 0) (fun _ _ _ _ _=>YK) (fun _ _ _ _ _=>(ZH g12_ hr (Za (pv 1) (Za (pv 2) (Za (pv 3) Ze))))))) ZD)
   (Zc (Zm 6 scLaw.nd (Zo ZM (YJ F.plainAttrs_list F.slot_list_pop F.type_list_pop Yg (pv 1)) Zg))
   (Zc (Ya (Zt Zbt (Zo ZM (Zo Yq (pv 3) Zg) Zg) Zg (Zz _)) (Zc (Zm 5 scLaw.nd (ZH g7_ hr (Za (pv 1) Ze)))
   (Zj (Zm 6 scLaw.nd (Zo ZM (pv 6) Zg)))) ZD)
   (Zc (Z1 VP rfl (ZY rfl B.range (Za (pv 6) Ze)) (Zw 7 scLaw.nd)
    (Zj (Zm 5 scLaw.nd (ZH g0_ hr (Za (pv 5) (Za (pv 1) (Za (pv 2) Ze)))))))
   (Zc (Zm 8 scLaw.nd (ZH g3_ hr (Za (pv 5) Ze)))
   (Zc (Ya (YI (ZH g2_ hr (Za (pv 8) Ze))) (Zj (Zu (ZH g14_ hr (Za (pv 8) Ze)))) ZD)
   (Zj (Zu (ZH g11_ hr (Za (pv 8) Ze))))))))))))))),?_⟩
  apply Dj;intros;refine⟨_,rfl,a,ns,100,rfl,ha,hl,be,fun Dk H1 s1 hD1=>?_⟩;have t1:=hTb.same s1;refine⟨_,rfl,Pf Dk 63 70 ⟨rfl,be,be,hD1,fun z H2 sb2 hD2 z1 z63 zc=>?_⟩⟩;have t2:=Zc1 t1 sb2 hD1;clear hD1 sb2 t1 s1 ha hTb;refine Ll ((show DK H2 Dk (69+1)from hD2).pop) fun ns1 c hDn c0 c1 hD3=>?_;refine⟨_,rfl,.inl ⟨rfl,_,SqL.of hDn⟩,Dk,_,.int c,rfl,rfl,hDn,Ye ns1 c,?_⟩;rw[Yf];have t3:TbOk Pt (upd H2 Dk (.lst (ns1.map V.int))):=Zc1 t2 SB.upd hD2;generalize upd H2 Dk (.lst (ns1.map V.int))=H3 at hD3 t3;clear hD2 hDn t2;have hzs:(tx z).length<=Od:=by rw[Zs];exact Zx (Tv z63)
  have m6:=ZU c (show(0:VN)<6 by decide);refine⟨_,rfl,.str (tx z),(tx z).length,rfl,⟨hzs,rfl⟩,_,rfl,_,_,rfl,rfl,br,_,_,rfl,rfl,_,_,rfl,?_⟩;rw[Zs];obtain⟨L,eL⟩:∃ L:VC,(if 1+c % 6<(z.length:VN)then 1+c % 6 else (z.length:VN))=(L:VN):=⟨(if 1+c % 6<(z.length:VN)then 1+c % 6 else (z.length:VN)).toNat,br⟩
  have hL1:1<=L/\L<=6/\L<=z.length:=by
   omega
  obtain⟨L1,L6,Lz⟩:=hL1;rw[eL];refine⟨_,rfl,.str (tx z),(tx z).length,rfl,⟨hzs,rfl⟩,_,rfl,_,_,rfl,rfl,_,_,rfl,rfl,_,rfl,?_⟩;rw[Zs];refine⟨br,br,?_⟩;rw[show((z.length:VN)-L+1).toNat=z.length-L+1 by exact T6 Lz];refine X5 (z.length-L+1) (fun i=>.int (0+i)) (fun i v _=>v= .str (tx ((z.drop i).take L))) (Zx br) (fun _ _ _ _ _ r=>r) ZbG ?_ ?_
  ·intro i H6 Qe hi hs kq;refine⟨_,rfl,_,rfl,_,rfl,_,rfl,_,rfl,_,_,rfl,rfl,_,rfl,_,rfl,hzs,?_⟩;exact kq _ _ (Same.refl _) (NA V.str (JR Ty Tz (T7 hi Lz)))
  intro D1 vs H4 hvl hR s4 _ hD1;rw[Zet rfl hvl hR]at hD1;have t4:=t3.same s4;have hD4:=hD3.same s4;have hpl:=Zbs z L;have hall:=ZgI Lz zc;have hP1:Pcl (pcs z L) L:=⟨fun e=>bp,br,fun x hx=>(hall x hx).1,L1,T8 L6,fun x hx=>(hall x hx).2⟩
  clear hD3 t3 s4 hvl hR
  try simp
  show Zd1 (ZkN _ _ _) _ _ _ _;refine Z0 (fun σ H5=>∃ (p:VH) (ps:VA VI),σ=[some (.ref a),some (.ref Dk),some (.str (tx z)),some (.int c),some (.int L),some (.ref p),none,none,none]/\H5 p=some (.lst (ps.map V.str))/\Pcl ps L/\ps.length<=63/\DK H5 Dk 52/\TbOk Pt H5) (fun R hR=>?_) ?_
  ·refine⟨_,rfl,_,_,rfl,rfl,(by constructor <;> decide),_,_,rfl,rfl,br,rfl,_,rfl,?_⟩;refine Zkq (fun e=>?_) (fun e=>hR _ _ ⟨D1,_,rfl,hD1,hP1,br,hD4.less be,t4⟩);refine Ll ((show DK H4 Dk (68+1)from hD4).pop) fun ns2 c2 hDn2 k0 k1 hD5=>?_;refine⟨_,rfl,.inl ⟨rfl,_,SqL.of hDn2⟩,Dk,_,.int c2,rfl,rfl,hDn2,Ye ns2 c2,?_⟩;rw[Yf];have t5:TbOk Pt (upd H4 Dk (.lst (ns2.map V.int))):=Zc1 t4 SB.upd hD4;generalize upd H4 Dk (.lst (ns2.map V.int))=H5 at hD5 t5;have m16:=ZU c2 (show(0:VN)<16 by decide);refine⟨_,_,rfl,rfl,br,_,_,rfl,rfl,_,rfl,bq,bq,?_⟩;obtain⟨N,eN⟩:∃ N:VC,(1+c2 % 16:VN).toNat=N:=⟨_,rfl⟩
   rw[eN];have hdk:H5 Dk≠none:=by
    obtain⟨xs,hx,_⟩:=hD5;rw[hx];simp
   refine ZlN N Dk (fun _ v=>∃ z:VA VC,v= .str (tx z)/\z.length=L/\Cd z) (fun i H=>DK H Dk (52+(16-i))) (Zl bq) hdk hD5 (fun i H D o hne hI=>?_) (fun i H6 Qe hi sb6 hI kq=>?_) (fun D5 vs5 H6 hl5 hR5 sb6 hI5 hn5 hD6=>?_)
   ·obtain⟨xs,hx,h2⟩:=hI;exact⟨xs,by rw[Zi (VS hne)];omega,h2⟩
   ·exact⟨_,rfl,_,rfl,_,rfl,Pg Dk z L (52+(16-(i+1))) ⟨rfl,z1,br,zc,br,hI.less br,fun z H6 sb6 hD6 zl zc=>kq _ _ sb6 hD6 ⟨z,rfl,zl,zc⟩⟩⟩
   obtain⟨ps,eps,hps⟩:=ZjJ (L:=L) vs5 hR5;subst eps;rw[Qd]at hl5;refine hR _ _ ⟨D5,ps,rfl,hD6,⟨fun e=>?_,bq,fun x hx=>(hps x hx).1,L1,T8 L6,fun x hx=>(hps x hx).2⟩,bq,hI5.less Kb,Zc1 t5 sb6 hD5⟩;rw[e]at hl5;simp at hl5;omega
  rintro σ H5 ⟨p,ps,rfl,hp,hP,hps,hD5,t5⟩;clear hD1 hP1 hD4 t4 hall hpl;refine Ll ((show DK H5 Dk (51+1)from hD5).pop) fun ns3 c3 hDn3 k0 k1 hD6=>?_;have hpD:p≠Dk:=fun e=>by
   rw[e,hDn3]at hp;have:=VQ hp;injection this with this
   cases ps with
   | nil=>simp_all
   | cons x l =>
    cases ns3 with
    | nil=>simp at this
    | cons y m=>simp at this
  refine⟨_,rfl,.inl ⟨rfl,_,SqL.of hDn3⟩,Dk,_,.int c3,rfl,rfl,hDn3,Ye ns3 c3,?_⟩;rw[Yf];have t6:TbOk Pt (upd H5 Dk (.lst (ns3.map V.int))):=Zc1 t5 SB.upd hD5;have hp6:(upd H5 Dk (.lst (ns3.map V.int))) p=some (.lst (ps.map V.str)):=by rw[Zi hpD];exact hp
  generalize upd H5 Dk (.lst (ns3.map V.int))=H6 at hD6 t6 hp6;clear hD5 t5 hp hDn3;have m15:=ZU c3 (show(0:VN)<15 by decide);refine⟨_,_,rfl,rfl,(by show(0:VN)<15;decide),?_⟩;obtain⟨m,em⟩:∃ m:VC,c3 % 15=(m:VN):=⟨(c3 % 15).toNat,T9 m15⟩
  dsimp only;rw[em]at m15 ⊢
  try dsimp only[Js]
  show Zd1 (ZkN _ _ _) _ _ _ _;refine Z0 (fun σ H7=>∃ (p:VH) (ps:VA VI) (L' m:VC),σ=[some (.ref a),some (.ref Dk),some (.str (tx z)),some (.int c),some (.int L),some (.ref p),some (.int m),none,none]/\H7 p=some (.lst (ps.map V.str))/\Pcl ps L'/\m<=14/\ps.length+2*m<=100/\DK H7 Dk 44/\TbOk Pt H7) (fun R hR=>?_) ?_
  ·refine⟨_,rfl,_,_,rfl,rfl,(by constructor <;> decide),_,_,rfl,rfl,(by show(0:VN)<6;decide),rfl,_,rfl,?_⟩;refine Zkq (fun e=>?_) (fun e=>hR _ _ ⟨p,ps,L,m,rfl,hp6,hP,bq,br,hD6.less be,t6⟩);refine⟨_,rfl,Dk,44,rfl,hD6,fun a' ps' L' H7 sb7 hD7 ha' hP' hl'=>?_⟩;refine⟨_,rfl,_,_,rfl,rfl,(by show(0:VN)<3;decide),?_⟩;have m3:=ZU (m:VN) (show(0:VN)<3 by decide);obtain⟨m',em'⟩:∃ m':VC,(m:VN) % 3=(m':VN):=⟨((m:VN) % 3).toNat,T9 m3⟩
   dsimp only;rw[em']at m3 ⊢;exact hR _ _ ⟨a',ps',L',m',rfl,ha',hP',bq,bq,hD7,Zc1 t6 sb7 hD6⟩
  rintro σ H7 ⟨p,ps,L',m,rfl,hp,hP,hm,hps,hD7,t7⟩;clear hp6 hD6 t6;refine⟨_,rfl,_,rfl,br,br,?_⟩;rw[QX];refine Yy (n:=m) (fun i σ H8=>∃ (p:VH) (ps:VA VI) (z7:VE V),σ=[some (.ref a),some (.ref Dk),some (.str (tx z)),some (.int c),some (.int L),some (.ref p),some (.int m),z7,none]/\H8 p=some (.lst (ps.map V.str))/\Pcl ps L'/\ps.length+2*(m-i)<=100/\DK H8 Dk (44-i)/\TbOk Pt H8)
   ⟨p,ps,none,rfl,hp,hP,bq,hD7,t7⟩ ?_ ?_
  ·rintro i σ H8 hi ⟨p,ps,z7,rfl,hp,hP,hps,hD8,t8⟩;refine⟨_,rfl,_,rfl,_,rfl,Pj p Dk ps z L' (44-(i+1)) ⟨rfl,hp,hP,br,z1,z63,zc,hD8.less br,fun a' ps' H9 sb9 hD9 ha' hP' hl'=>?_⟩⟩;exact Pf a' ps' _ ⟨rfl,ha',hP',br,hD9,Zc1 t8 sb9 hD8⟩
  rintro σ H8 ⟨p,ps,z7,rfl,hp,hP,hps,hD8,t8⟩;refine⟨_,rfl,Pf p ps L' ⟨rfl,hp,hP,fun v H9 e0 es s9 hV hy hfl=>?_⟩⟩;have t9:=t8.same s9
  try dsimp only[Js]
  show Zd1 (ZkN _ _ _) _ _ _ _;refine Z0 (fun σ H10=>∃ z7,σ=[some (.ref a),some (.ref Dk),some (.str (tx z)),some (.int c),some (.int L),some (.ref p),some (.int m),z7,some v]/\HeapV H10 v (e0::es)/\TbOk Pt H10/\¬ ZbW e0 (e0::es)) (fun R hR=>?_) ?_
  ·refine⟨_,rfl,Pf v e0 es ⟨rfl,hV,hy.fine,fun H10 b s10 hb=>?_⟩⟩;cases b with
   | true=>exact⟨_,rfl,Xu rfl ⟨_,rfl,v,e0,es,L',rfl,hV.same s10,hy,hP.l3,hfl,t9.same s10,hb.mp rfl,fun H' _=>k H'⟩⟩
   | false=>exact⟨_,rfl,Ys rfl (hR _ _ ⟨_,rfl,hV.same s10,t9.same s10,fun h=>by cases hb.mpr h⟩)⟩
  rintro σ H10 ⟨z7,rfl,hV10,t10,hn⟩;exact⟨_,rfl,Pg v e0 es L' ⟨rfl,hV10,hy,hP.l3,hfl,t10,hn,fun H' _=>k H'⟩⟩
end
end Sh
namespace L2
open PySem PySem.Spec PyProof.Rows PySem.W
def Zhl {K}
  (KX:K.In c.heap) (A:c.heap.Ns Oj L) (f:c.heap.Ns GN mb) (hbb:∀ x:VI,x≠"__name__"->mb x=Op x) (S:c.heap.NoLimit) (hg:c.gens= #[])
  (hbm:∃ y E,L "__builtins__" = some (.ref y)/\y≠GN/\c.heap.get? y=some E/\E.cls= .type "module"/\E.dict=some GN/\E.data= .plain)
  (p:c.heap.get? g=some (tabObj #[])) (hPK:K.lookup g=none) (T:codeHdIn K cc g=true)
  (U:c.heap.get? a=some {cls:=.type "list",data:=.seq vs.toArray}) (hi:Vd vs ns) (hl:ns.length<=Od) (hr:Room k GS)
  (F:∀ base,K.In base->base.Ns Oj L->Tab L base cc g->FnOk P w K L base CX k fa fd [x] sp) (N:∀ (s) (u),G4 s fd ⟨[u],[]⟩ [(x,u)])
  (hsp:∀ H,H g=some (.tbl #[])->SqL K H a (ns.map V.int)->sp [.ref a] H (fun v _=>v= .bl true) fun _ _ _=>False)
  (hCX:∀ H e t,CX [] H c (fun _ _ _=>False) e t->False) :
  OF (Oc P w) GS (.call (.ref fa) ⟨[.ref a],[]⟩) (fun r t=>r= .ok (.ret (.bool true))/\OldK c.heap t.heap/\t.os=c.os/\Gh t.gens) c:=by
 have rv:=Zb0 hi;have W:a≠g:=fun z=>by
  simp_all
 have I:∀ H:Hp,(∀ b,H b=none\/(b=a/\∃ o xs,H b=some (.frz o (.lst xs)))\/(b=g/\H b=some (.tbl #[])))->H g=some (.tbl #[])->SqL K H a (ns.map V.int)->HOk P w H c.heap->(H a≠none->K.lookup a=none) ->
   OF (Oc P w) GS (.call (.ref fa) ⟨[.ref a],[]⟩) (fun r t=>r= .ok (.ret (.bool true))/\OldK c.heap t.heap/\t.os=c.os/\Gh t.gens) c:=by
  intro H hO B hS X hK;have i:∀ {b:VH} {o:MQ},c.heap.get? b=some o->H b=none->(ZhD c.heap H).get? b=some o:=fun e n=>Zji e n;have noA:∀ {b:VH} {o:MQ} {R:VL DictEntry} {Q:VC},c.heap.get? b=some o->o.data= .dict R Q->H b=none:=fun {b o R Q} e d=>by
   rcases hO b with q | ⟨rfl,_⟩ | ⟨rfl,_⟩
   omega
   rw[U]at e;cases e
   simp_all
   rw[p]at e;cases e
   grind
  have C:∀ {b:VH} {m:VI->VE VG},c.heap.Ns b m->(ZhD c.heap H).Ns b m:=fun {b m} ⟨o,R,Q,e,d,r⟩=>⟨o,R,Q,i e (noA e d),d,r⟩
  have M:K.In (ZhD c.heap H):=fun b o e=>i (KX b o e) (by
   rcases hO b with q | ⟨rfl,_,_,q⟩ | ⟨rfl,q⟩
   omega
   rw[hK (by rw[q];simp)]at e;cases e
   simp_all)
  have hM:Mod K L (ZhD c.heap H):=⟨M,C A,⟨mb,C f,hbb⟩,let ⟨mc,h1,h2⟩:=S;⟨mc,C h1,h2⟩⟩
  have e0:Env0 P w K L (ZhD c.heap H) GS [] c H:=⟨rfl,hM,fun b o e=>Zg0 e,TH (ZhC _ _),trivial,fun b f=>VM (show b∈([]:VA VH)from f) bo,X,.of_eq hg⟩
  have hgP:Oj≠g:=fun q=>by
   obtain⟨o,R,Q,e,hd,_⟩:=A;rw[q,p]at e;cases e;cases hd
  have hT:Tab L (ZhD c.heap H) cc g:=by
   refine⟨codeHd_of_K M T,?_,hgP,?_⟩
   obtain⟨y,E,b1,b2,J,b4,b5,b6⟩:=hbm;have Y:y≠g:=fun q=>by
    rw[q,p]at J;cases J;cases b4
   have hbG:y≠Oj:=fun q=>by
    obtain⟨o,R,Q,e,hd,_⟩:=A;rw[q,e]at J;cases J;rw[hd]at b6;cases b6
   have hbH:H y=none:=by
    rcases hO y with q | ⟨q,_⟩ | ⟨q,_⟩
    exact q
    rw[q,U]at J;cases J;exact VM (show NB "list" = NB "module" from b4) bo
    exact VM q Y
   exact⟨y,E,b1,b2,hbG,Y,i J hbH,b4,b5,b6⟩
   cases e:(ZhD c.heap H).get? g with
   | none=>rfl
   | some o=>rw[(Zg0 e).2]at B;cases B
  refine OM ((F _ M (C A) hT).run GS [] c H ⟨[.ref a],[]⟩ [.ref a] [.ref a] _ _ hr e0 (N c (.ref a)) (.cons rfl .nil) (hsp H B hS)) fun r t h=>?_;cases r with
  | error e=>exact(hCX H e t h).elim
  | ok fl =>
   cases fl with
   | next=>exact R9 h
   | brk=>exact R9 h
   | cont=>exact R9 h
   | ret u =>
    obtain⟨v,H',os,Z,un,D,r',q⟩:=h;have q':v= .bl true:=q;subst q';obtain rfl:u=DN true:=r';have kp:∀ b o,b≠g->c.heap.get? b=some o->t.heap.get? b=some o:=fun b o f e=>by
     rcases hO b with q | ⟨rfl,E,xs,z⟩ | ⟨q,_⟩
     exact un.keep b o e q (by intro z;exact VM (show b∈([]:VA VH)from z) bo) bo
     obtain⟨e1,_⟩:=X b _ z;obtain⟨e2,_⟩:=D b _ (un.frzs b E _ z);rw[e]at e1;cases e1;exact e2
     exact VM q f
    obtain⟨G,hm⟩:=un.tbls g _ B;have hP':t.heap.get? g=some {cls:=.none,data:=.fields (#[]++G)}:=D g _ hm;refine⟨rfl,⟨fun b o e=>?_,fun b o e=>?_⟩,os,Z⟩
    by_cases f:b=g
    subst f;rw[p]at e;cases e;refine .inr (.inl ⟨?_,rfl,#[],G,rfl,hP'⟩);obtain⟨o,vs,_,_,_,_,_,_,_,e1,e2,e3,e4,_⟩:=codeHd_of_K KX T;exact⟨cc,o,vs,e1,e2,e3,e4⟩
    exact .inl (kp b o f e)
    by_cases f:b=g
    subst f;exact⟨_,hP'⟩
    exact⟨o,kp b o f e⟩
 cases hk:K.lookup a with
 | some o =>
  have e:=KX a o hk;rw[U]at e;cases e;refine I (fun b=>if b=g then some (.tbl #[])else none) (fun b=>?_) (VD rfl) (.inr ⟨_,vs.toArray,_,hk,rfl,rfl,rfl,by rw[Qy,hi.length];exact hl,by simpa using rv⟩) (fun b u z=>?_) fun z=>VM (if_neg W) z
  by_cases f:b=g
  exact .inr (.inr ⟨f,VD f⟩)
  exact .inl (if_neg f)
  by_cases f:b=g
  have O:=(VD f).symm.trans z;cases O;exact f▸p
  have O:=(if_neg f).symm.trans z;cases O
 | none =>
  refine I (fun b=>if b=a then some (.frz {cls:=.type "list",data:=.seq vs.toArray} (.lst (ns.map V.int)))else if b=g then some (.tbl #[])else none) (fun b=>?_) ((if_neg (VS W)).trans (VD rfl)) (.inl (.inr ⟨{cls:=.type "list",data:=.seq vs.toArray},VD rfl⟩)) (fun b u z=>?_) fun _=>hk
  by_cases f:b=a
  exact .inr (.inl ⟨f,_,_,VD f⟩)
  by_cases l:b=g
  exact .inr (.inr ⟨l,(if_neg f).trans (VD l)⟩)
  exact .inl ((if_neg f).trans (if_neg l))
  by_cases f:b=a
  have O:=(VD f).symm.trans z;cases O;subst f;exact⟨U,by rw[Qd];exact hl,vs,_,rv,U⟩
  have z:=(if_neg f).symm.trans z;by_cases l:b=g
  have O:=(VD l).symm.trans z;cases O;exact l▸p
  cases ((if_neg l).symm.trans z)
def walk_ofT {l:KJ} {K:Params->VB} {P:Ol->CXT} {N:Ol->Sp}
  (Z:l.most=some n) (D:n<=Od) (C:d.params.defaults=[]) (hr:Room k GS)
  (Q:∀ (w) (h),T w h->(K w.params).In h/\h.get? p=some (tabObj #[]))
  (F:∀ (w) (c) (m) (h),(K w.params).In h->h.Ns Oj c->c d.name=some (.ref m) ->
   ∃ (z:Ge) (cc:VH),(K w.params).lookup p=none/\codeHdIn (K w.params) cc p=true/\(∀ (s) (u),G4 s z ⟨[u],[]⟩ [(x,u)]) /\
    ∀ base,(K w.params).In base->base.Ns Oj c->Tab c base cc p->FnOk l.prog w (K w.params) c base (P w) k m z [x] (N w))
  (t:∀ (w) (H) (a) (ns:VA VN),ns.length<=n->H p=some (.tbl #[])->SqL (K w.params) H a (ns.map V.int)->N w [.ref a] H (fun v _=>v= .bl true) fun _ _ _=>False)
  (I:∀ (w) (H) (s) (e) (A),P w [] H s (fun _ _ _=>False) e A->False) :
  Cw q y XP T l.row.toRowW d [] (fun f vs=>FN f vs):=by
 refine Att.attach_call Z C fun w L i c mb m o pm cd doc a vs ns G Y ho hd M E j g b W=>?_;obtain⟨O,r⟩:=Q w _ Y;exact Ll (F w c m _ O G.T.g E) fun z cc J B U S=>Zhl O G.T.g G.T.b G.T.builtins G.T.nolimit W G.T.bmain r J B j g (QR b D) hr S U (fun H R X=>t w H a ns b R X) fun H e A=>I w H i e A
end L2
namespace Sh
open PySem L2
def blt_mk (X:K.In h) (G:h.Ns Oj s) (r:VT K Oj "isinstance" = some none) (p:VT K Oj "int" = some none) (q:VT K Oj "bool" = some none) (n:VT K Oj "str" = some none) (m:VT K Oj "tuple" = some none) (o:VT K Oj "list" = some none) (j:VT K Oj "len" = some none) (t:VT K Oj "range" = some none) (k:VT K Oj "all" = some none) (l:VT K Oj "min" = some none) (g:VT K Oj "sorted" = some none) (b:VT K Oj "reversed" = some none) (e:VT K Oj "zip" = some none) (i:VT K Oj "sum" = some none) (d:VT K Oj "set" = some none) (f:VT K Oj "dict" = some none) (a:VT K Oj "max" = some none) (c:VT K Oj "enumerate" = some none):Blt s :=
 ⟨VU X G r,VU X G p,VU X G q,VU X G n,VU X G m,VU X G o,VU X G j,VU X G t,VU X G k,VU X G l,VU X G g,VU X G b,VU X G e,VU X G i,VU X G d,VU X G f,VU X G a,VU X G c⟩
def er_mk (X:K.In h) (G:h.Ns Oj A)
  (m:VT K Oj "ShredError" = some (some (.ref S))) (v:VT K Oj "Apart" = some (some (.ref C))) (w:VT K Oj "NoText" = some (some (.ref g))) (l:VT K Oj "NoHeap" = some (some (.ref d))) (p:VT K Oj "NoPiece" = some (some (.ref j))) (r:VT K Oj "NoLine" = some (some (.ref f))) (t:VT K Oj "NoTexts" = some (some (.ref a))) (x:VT K Oj "NoNumber" = some (some (.ref b))) (u:VT K Oj "NoDeed" = some (some (.ref e))) (k:VT K Oj "Unlike" = some (some (.ref c)))
  (z:VT K Oj "ValueError" = some none) (n:RS K S Zo0 "ValueError.__new__" = true) (i:RS K C Zo0 "ValueError.__new__" = true) (o:RP K C (.ref S)=some true) (q:(S==C)=false) (s:ZbV K C)
  (y:MS K (.ref C) (.type "ValueError")=some true) (B:FZ K (.ref C) [.ref g,.ref d,.ref j,.ref f,.ref a,.ref b,.ref e,.ref c]=some false):ZoX K A S C g d j f a b e c :=
 ⟨Zfz (NS X G m) n,Zfz (NS X G v) i,up_of o i q,s,y,B,NS X G w,NS X G l,NS X G p,NS X G r,NS X G t,NS X G x,NS X G u,NS X G k,VU X G z⟩
def pg_mk (X:K.In h) (G:h.Ns Oj p) (i:VT K Oj "Pairing" = some (some (.ref C))) (g:MX K C Str.empty=true) (o:RZ K C=true) (l:LB K C=true) (d:VZ K (.ref C) "__setattr__" = some (some (.builtin "object.__setattr__")))
  (a:VZ K (.ref C) "costs" = some none) (c:VZ K (.ref C) "row_prices" = some none) (e:VZ K (.ref C) "column_prices" = some none) (n:VZ K (.ref C) "row_at" = some none) (b:VZ K (.ref C) "spares" = some none) (m:VZ K (.ref C) "came_from" = some none) (j:VZ K (.ref C) "reached" = some none):PgC K p C :=
 ⟨⟨g,o,l,d⟩,a,fun k f=>by
  match k,f with
  | 0,_=>trivial
  | 1,_=>trivial
  | 2,_=>trivial
  | 3,_=>trivial
  | 4,_=>trivial
  | 5,_=>trivial,NS X G i⟩
section
variable {K:VB} {C f:VH} {m qual:VI} {st:Mv} {ps:VA VI} {oc dV kV doc pm cdv ct:VG} {od an:VE VH} {osl:VL (VE VG)}
def hasN_mk (a:VZ K (.ref C) m=some (some (.ref f))) (i:TK K (.ref f)=true) (l:K.lookup f=some ⟨oc,t,.func (ND m qual (Z9 st) (ZO st) (Zf st) dV kV doc pm r cdv ct),h⟩) (c:MB K cdv qual=true) (k:NU K (.ref f)=true)
  (b:∀ j,j.length=ps.length->GV (ND m qual (Z9 st) (ZO st) (Zf st) dV kV doc pm r cdv ct) ⟨j,[]⟩=pure (ps.zip j)):HasN K C m qual st ps cdv :=
 ⟨f,oc,t,dV,kV,doc,pm,r,ct,h,l,c,⟨a,i,k⟩,Binds.all b⟩
def hasJ_mk (mk:KC K C=true) (kc:NU K (.ref C)=true) (a:VZ K (.ref C) "__init__" = some (some (.ref f))) (i:TK K (.ref f)=true) (l:K.lookup f=some ⟨oc,od,.func (ND "__init__" qual (Z9 st) (ZO st) (Zf st) dV kV doc pm an cdv ct),osl⟩) (c:MB K cdv qual=true)
  (b:∀ us,us.length=ps.length->GV (ND "__init__" qual (Z9 st) (ZO st) (Zf st) dV kV doc pm an cdv ct) ⟨us,[]⟩=pure (ps.zip us)):HasJ K C qual st ps :=
 ⟨f,oc,od,dV,kV,doc,pm,cdv,an,ct,osl,l,c,⟨mk,a,i,kc⟩,Binds.all b⟩
end
def all_mk {l:KJ} (X:K.In h) (G:h.Ns Oj mg) (hfa:mg "law" = some (.ref fa)) {oc kV dc pm cd ct}
  (B:Blt mg) (Er:ZoX K mg S CA A1 A2 A3 A4 A5 A6 A7 A8) (Tg:PgC K mg C) (J0:HasJ K C "Pairing.__init__" (Yu 0) ["self","costs"]) (M1:HasN K C "pair_row" "Pairing.pair_row" (Yu 1) ["self","row"] d1) (M2:HasN K C "start_search" "Pairing.start_search" (Yu 2) ["self"] d2) (M3:HasN K C "unreached" "Pairing.unreached" (Yu 3) ["self"] d3) (M4:HasN K C "look_from" "Pairing.look_from" (Yu 4) ["self","row","before"] d4) (M5:HasN K C "reach_nearest" "Pairing.reach_nearest" (Yu 5) ["self","row"] (.ref cc)) (M6:HasN K C "raise_prices" "Pairing.raise_prices" (Yu 6) ["self","row","step"] d6) (M7:HasN K C "pair_back" "Pairing.pair_back" (Yu 7) ["self","row","last"] d7) (hPK:K.lookup 274=none) (hcd:LP K cc 274=true)
  (D0:HasDef K mg "begin_of" Zbn ["piece"])
  (D1:HasDef K mg "end_of" Zgj ["piece"])
  (D2:HasDef K mg "ties_of" Zc4 ["H"])
  (D3:HasDef K mg "points_of" Xl ["H"])
  (D4:HasDef K mg "more_out" Zbi ["H"])
  (D5:HasDef K mg "begins_of" XY ["H"])
  (D6:HasDef K mg "ends_of" Zbm ["H"])
  (D7:HasDef K mg "tied_points" XO ["H"])
  (D8:HasDef K mg "part_of" Zc7 ["H"])
  (D9:HasDef K mg "hangs" Zgi ["H"])
  (D10:HasDef K mg "numbers_out" XQ ["ties"])
  (D11:HasDef K mg "is_way" Zgh ["ties","begin","numbers"])
  (D12:HasDef K mg "way_of" Zgb ["ties","begin"])
  (D13:HasDef K mg "text_from" XX ["ties","begin"])
  (D14:HasDef K mg "letters_to" Jk ["one","other"])
  (D15:HasDef K mg "spread" Zc5 ["rows"])
  (D16:HasDef K mg "cost_table" Xx ["ends","begins"])
  (D17:HasDef K mg "link" Zk7 ["end","begin"])
  (D18:HasDef K mg "links_of" Zbk ["pairing","ends","begins"])
  (D19:HasDef K mg "priced" Zc6 ["points","prices"])
  (D20:HasDef K mg "filled" Zdb ["H"])
  (D21:HasDef K mg "_law_whole" Zc8 ["_law_found"])
  (D22:HasDef K mg "_law_mixed" Zda ["_law_row","_law_k"])
  (D23:HasDef K mg "_law_deck" Zgg ["_law_script","_law_many"])
  (D24:HasDef K mg "_law_letters" JV ["_law_deck_here","_law_few"])
  (D25:HasDef K mg "_law_signs" Zc9 ["_law_deck_here","_law_some","_law_long_here"])
  (D26:HasDef K mg "_law_text" Zgf ["_law_deck_here","_law_most"])
  (D27:HasDef K mg "_law_changed" Zok ["_law_pieces","_law_deck_here","_law_text_here"])
  (D28:HasDef K mg "_law_heap" Zgd ["_law_pieces"])
  (D29:HasDef K mg "_law_hangs" Zbl ["_law_heap_here"])
  (D30:HasDef K mg "_law_more" Zgc ["_law_heap_here","_law_way"])
  (D31:HasDef K mg "_law_letters_to" Zk6 ["_law_one","_law_other"])
  (D32:HasDef K mg "_law_prices" Zbj ["_law_found","_law_due"])
  (D33:HasDef K mg "_law_holds" JU ["_law_text_here","_law_heap_here"])
  (D34:HasDef K mg "_law_told" ZaJ ["_law_heap_here"])
  (D35:HasDef K mg "_law_refused" Zk5 ["_law_heap_here"])
  (D36:HasDef K mg "_law_long" Zed ["_law_deck_here"])
  (a0:VT K Oj "law" = some (some (.ref f0))) (l0:K.lookup f0=some ⟨oc,od,.func (ND "law" "law" (Z9 Zge) (ZO Zge) (Zf Zge) .none kV dc pm an cd ct),sl⟩) (c0:MB K cd "law" = true) (k0:NU K (.ref f0)=true) :
  ∃ (fd:Ge) (cc:VH),K.lookup 274=none/\LP K cc 274=true/\(∀ (s) (v),G4 s fd ⟨[v],[]⟩ [("_law_script",v)])/\∀ base:Nu,K.In base->base.Ns Oj mg->Tab mg base cc 274->FnOk l.prog w K mg base CX0 9 fa fd ["_law_script"] (ZkV 274 K):=by
 cases (hfa.symm.trans (NS X G a0));refine⟨ND "law" "law" (Z9 Zge) (ZO Zge) (Zf Zge) .none kV dc pm an cd ct,cc,hPK,hcd,fun s v=>.of_eq rfl,fun base _ _ Tb=>?_⟩;have W0:=Zdn (P:=l.prog) (w:=w) (base:=base) D0;have W1:=ZgY (P:=l.prog) (w:=w) (base:=base) D1;have W4:=Zdk (P:=l.prog) (w:=w) (base:=base) D4 W0 W1;have W8:=Ze3 (P:=l.prog) (w:=w) (base:=base) D8 B (W0.mono be) (Zaz (P:=l.prog) (w:=w) (base:=base) D7 W0 W1);have W9:=ZiU (P:=l.prog) (w:=w) (base:=base) D9 B W8 ((Zcl (P:=l.prog) (w:=w) (base:=base) D3 B W0 W1).mono be);have W12:=ZgN (P:=l.prog) (w:=w) (base:=base) D12 B (ZaA (P:=l.prog) (w:=w) (base:=base) D10 B) (ZgW (P:=l.prog) (w:=w) (base:=base) D11 B);have W99:=ZmV (P:=l.prog) (w:=w) (base:=base) (Zbu (P:=l.prog) (w:=w) (base:=base) D14 B);have W18:=Zdl (P:=l.prog) (w:=w) (base:=base) D18 B Tg (Zlu (P:=l.prog) (w:=w) (base:=base) D17 B W99);have W103:=ZmU (P:=l.prog) (w:=w) (base:=base) M3 B Tg;have W105:=ZiP (P:=l.prog) (w:=w) (base:=base) M5 B Tg Tb W103 (ZiQ (P:=l.prog) (w:=w) (base:=base) M6 B Tg);have W101:=Zls (P:=l.prog) (w:=w) (base:=base) M1 Tg ((ZiO (P:=l.prog) (w:=w) (base:=base) M2 B Tg).mono be) (Zlt (P:=l.prog) (w:=w) (base:=base) M4 B Tg W103) W105 ((ZiR (P:=l.prog) (w:=w) (base:=base) M7 Tg).mono be);have W20:=ZgX (P:=l.prog) (w:=w) (base:=base) D20 B Tg Er.ap (W9.mono be) ((ZgO (P:=l.prog) (w:=w) (base:=base) D15).mono be) ((Ze9 (P:=l.prog) (w:=w) (base:=base) D6 B W4).mono be) ((Zcp (P:=l.prog) (w:=w) (base:=base) D5 B W4).mono be) ((ZiT (P:=l.prog) (w:=w) (base:=base) J0 B Tg W101).mono be) ((Zbv (P:=l.prog) (w:=w) (base:=base) D16 B W99).mono be) (W0.mono be) ((Zck (P:=l.prog) (w:=w) (base:=base) D13 B W12).mono be) ((Ze2 (P:=l.prog) (w:=w) (base:=base) D2 W0 W1).mono be) (W18.mono be) ((ZgP (P:=l.prog) (w:=w) (base:=base) D19 B).mono be);have W23:=ZgV (P:=l.prog) (w:=w) (base:=base) D23 B (Ze6 (P:=l.prog) (w:=w) (base:=base) D22 B);have W24:=Zcn (P:=l.prog) (w:=w) (base:=base) D24 B;have W25:=Ze5 (P:=l.prog) (w:=w) (base:=base) D25 B;have W30:=ZgS (P:=l.prog) (w:=w) (base:=base) D30 B;have W31:=ZiS (P:=l.prog) (w:=w) (base:=base) D31 B;have W32:=Zdm (P:=l.prog) (w:=w) (base:=base) D32 B (Ze4 (P:=l.prog) (w:=w) (base:=base) D21 B);have W33:=Ze7 (P:=l.prog) (w:=w) (base:=base) D33 B;have W34:=ZgQ (P:=l.prog) (w:=w) (base:=base) D34 B W20 (W33.mono be) (W32.mono be) (W30.mono be) (W31.mono be);have W35:=Zcm (P:=l.prog) (w:=w) (base:=base) D35 B Er W20;have W36:=ZgT (P:=l.prog) (w:=w) (base:=base) D36 B W24 W25;exact ZmW (ZhJ (st:=Zge) l0 c0 k0) B (W23.mono be) ((ZgR (P:=l.prog) (w:=w) (base:=base) D26 B W24 W25).mono be) (W25.mono be) (W36.mono be) ((Zco (P:=l.prog) (w:=w) (base:=base) D27 B).mono be) ((ZgU (P:=l.prog) (w:=w) (base:=base) D28 B).mono be) ((Ze8 (P:=l.prog) (w:=w) (base:=base) D29 B).mono be) W34 W35
def walk {l:KJ} {K:Params->VB} (t:l.most=some 63) (g:d.params.defaults=[])
  (o:∀ (w) (h),m w h->(K w.params).In h/\h.get? 274=some (FW #[]))
  (F:∀ (w) (b) (i) (h),(K w.params).In h->h.Ns Oj b->b d.name=some (.ref i) ->
   ∃ (j:Ge) (cc:VH),(K w.params).lookup 274=none/\LP (K w.params) cc 274=true/\(∀ (s) (u),G4 s j ⟨[u],[]⟩ [("_law_script",u)])/\∀ base,(K w.params).In base->base.Ns Oj b->Tab b base cc 274->FnOk l.prog w (K w.params) b base CX0 9 i j ["_law_script"] (ZkV 274 (K w.params))) :
  Cw q e v m l.row.toRowW d [] (fun f vs=>FN f vs) :=
 L2.walk_ofT t be g ⟨rfl,be,be⟩ o F (fun _ _ a r k p n=>⟨a,r,rfl,n,k,.inl p,fun _=>rfl⟩) fun _ _ _ _ _ z=>z
end Sh
namespace PySem.W.Fast
def tw15893169717362351074:=()
def tw14233391764740090452:=()
def tw10394528550122983486:=()
def tw5734311081335462527:=()
def tw15125977523719371459:=()
def tw18418578891562326017:=()
def tw1512914514459424297:=()
def tw16525245618606592530:=()
def tw134499826756713864:=()
def tw14741681947696556941:=()
def tw7580561437718944039:=()
def tw14695583530904522781:=()
def tw14585647271008508820:=()
def tw10215368294624593440:=()
def tw5912851981414429182:=()
def tw16355664428721015263:=()
def tw14385067090812805104:=()
def tw9732796432615969392:=()
def tw13771147556941298848:=()
def tw10848985553894310146:=()
def tw2939561337677550006:=()
def tw4522095910806199739:=()
def tw14985995132815057929:=()
def tw12776913958379254155:=()
def tw9211368560034941396:=()
def tw17130248291991422671:=()
def tw6232324424201787294:=()
def tw15913443981576061082:=()
def tw12089920327795030291:=()
def tw3365650186588602782:=()
def tw607557836497866181:=()
def tw18037653886859995052:=()
def tw150804433509641848:=()
def tw14548994370554053976:=()
def tw5780336199682770687:=()
def tw9904212420357822618:=()
def tw8338375251142595356:=()
def tw2097721381183098117:=()
def tw454165265599924901:=()
def tw16721759585814534215:=()
def tw11726721440527185598:=()
def tw7841117890059848590:=()
def tw1417299181832774259:=()
def tw13035898346919089112:=()
def tw9366258095410751075:=()
def tw9642459372246307334:=()
def tw14214612293210715935:=()
def tw12587506341693496765:=()
def tw9667428635939104851:=()
def tw2812332033693516437:=()
def tw16805782228354592190:=()
def tw6523602839855938767:=()
def tw865454947540566079:=()
def tw16605611667217477474:=()
def tw12183443062753581502:=()
def tw10113778177338269721:=()
def tw17969946449619783077:=()
def tw10479962222633559231:=()
def tw7835376944475665381:=()
def tw12626428141240536097:=()
def tw7416970518776186634:=()
def tw724275833706153886:=()
def tw12442629911753205527:=()
def tw8852835074412986692:=()
def tw12557032333697476988:=()
def tw7706918405127866398:=()
def tw1135238750967149086:=()
def tw12825191612754067667:=()
def tw13338402775931548955:=()
def tw14732755144790289098:=()
def tw4385637147934775068:=()
def tw7774449991663779593:=()
def tw16906741757913199734:=()
def tw9013380830483744560:=()
def tw12050083871698750043:=()
def tw8230384135724706298:=()
def tw9626910136478437976:=()
def tw18351839358208220363:=()
def tw12493270643004189133:=()
def tw15610328934780834555:=()
def tw11710606093601753909:=()
def tw9045956484330106217:=()
def tw12229962989874947264:=()
def tw8094942859103181989:=()
def tw8333812520491385249:=()
def tw11434099591905783810:=()
def tw5421412317940029369:=()
def tw16734191634398444128:=()
def tw13994625345930913072:=()
def tw3598809979795747793:=()
def tw5651899959293431274:=()
def tw7819934334484313681:=()
def tw12409025304122337338:=()
def tw1516394660548636448:=()
def tw12435271726011582733:=()
def tw6826905015075414629:=()
def tw16099670806869026382:=()
def tw17867996120287241672:=()
def tw3691529130244026069:=()
def tw12459507076778790734:=()
def tw17250697793235120222:=()
def tw13650813916763501555:=()
def tw12157987217352246045:=()
def tw370628483983654117:=()
def tw5433119662205860718:=()
def tw294401837855468285:=()
def tw6900814575143550636:=()
def tw2528572606424976162:=()
def tw4425291734145140666:=()
def tw17323436149814244332:=()
def tw16865506914834353348:=()
def tw17988805941686548201:=()
def tw16106452216099422129:=()
def tw11288158855006919625:=()
def tw8431783518722019113:=()
def tw15523422418207911251:=()
def tw18113483901414642517:=()
def tw7793817977714526685:=()
def tw16829491185590766556:=()
def tw10171535189346108191:=()
def tw816371220243517662:=()
def tw8802718251781444527:=()
def tw14914699553224708350:=()
def tw8055349221168637177:=()
def tw10097345641739205412:=()
def tw15094071123616572266:=()
def tw11909167005955671832:=()
def tw9508881741249908610:=()
def tw10808268347534509331:=()
def tw9601399203807067727:=()
def tw6310936858824043928:=()
def tw12789271411884319947:=()
def tw7668406718816699509:=()
def tw6676224096960082383:=()
def tw14629262922800882933:=()
def tw513909073489486357:=()
def tw8496034708954497280:=()
def tw4027235076731761532:=()
def tw13197582863778165970:=()
def tw10641683711709786426:=()
def tw7191216822457979662:=()
def tw11895315983018856744:=()
def tw2109230370306474611:=()
def tw15463536030057939286:=()
def tw11671583959564169267:=()
def tw7982244109993795075:=()
def tw4840492462595176131:=()
def tw15138700614941949454:=()
def tw5821888891564814983:=()
def tw5598246706039871489:=()
def tw9797336039455374442:=()
def tw1342766568501905727:=()
end PySem.W.Fast
def Pa{P:VA α->Prop}(f:∀x,P [x]):∀u:VA α,u.length=1->P u
 |[x],_=>f x
def Pb{P:VA α->Prop}(f:∀x y,P [x,y]):∀u:VA α,u.length=2->P u
 |[x,y],_=>f x y
def Pd{P:VA α->Prop}(f:∀x y z,P [x,y,z]):∀u:VA α,u.length=3->P u
 |[x,y,z],_=>f x y z
open PySem PySem.W PyProof.Rows
set_option maxRecDepth 100000 in
theorem PySem.Challenge.cw_shredjoin_k72_whole_filled_holds : PySem.Challenge.rw_shredjoin_k72_whole_filled.Holds := by
 w_on; o_law; k_head; (case hw => w_witness2)
 k_fill
 refine Sh.walk (l := PySem.Challenge.rw_shredjoin_k72_whole_filled) rfl rfl (fun w h Y => ⟨PySem.W.km_in_of Y, PySem.W.km_tabs_of Y _ (List.mem_singleton.mpr rfl)⟩) ?F
 case F =>
  intro w mg fa h KX G hmg
  refine' Sh.all_mk KX G hmg ?B ?Er ?Tg ?J0 ?M1 ?M2 ?M3 ?M4 ?M5 ?M6 ?M7 ?hPK ?hcd ?D0 ?D1 ?D2 ?D3 ?D4 ?D5 ?D6 ?D7 ?D8 ?D9 ?D10 ?D11 ?D12 ?D13 ?D14 ?D15 ?D16 ?D17 ?D18 ?D19 ?D20 ?D21 ?D22 ?D23 ?D24 ?D25 ?D26 ?D27 ?D28 ?D29 ?D30 ?D31 ?D32 ?D33 ?D34 ?D35 ?D36 ?a0 ?l0 ?c0 ?k0
  case B =>
   refine' Sh.blt_mk KX G ?z0 ?z1 ?z2 ?z3 ?z4 ?z5 ?z6 ?z7 ?z8 ?z9 ?z10 ?z11 ?z12 ?z13 ?z14 ?z15 ?z16 ?z17
   (case z0 => k_is); (case z1 => k_is); (case z2 => k_is); (case z3 => k_is); (case z4 => k_is); (case z5 => k_is); (case z6 => k_is); (case z7 => k_is); (case z8 => k_is); (case z9 => k_is); (case z10 => k_is); (case z11 => k_is); (case z12 => k_is); (case z13 => k_is); (case z14 => k_is); (case z15 => k_is); (case z16 => k_is); (case z17 => k_is)
  case Er =>
   refine' Sh.er_mk KX G ?s0 ?t1 ?g1 ?g2 ?g3 ?g4 ?g5 ?g6 ?g7 ?g8 ?vn ?qs ?q1 ?u1 ?n1 ?h1 ?v1 ?o1
   (case s0 => k_is); (case t1 => k_is)
   (case g1 => k_is); (case g2 => k_is); (case g3 => k_is); (case g4 => k_is); (case g5 => k_is); (case g6 => k_is); (case g7 => k_is); (case g8 => k_is)
   (case vn => k_is); (case qs => k_exc); (case q1 => k_exc)
   (case u1 => k_is); (case n1 => decide)
   (case h1 =>
    refine' L2.xattr_mk ?ga ?gx ?gc ?sp ?tk ?mo ?mb ?cl
    (case ga => k_is); (case gx => k_is); (case gc => k_is); (case sp => k_is); (case tk => k_is); (case mo => k_is); (case mb => k_is); (case cl => k_is))
   (case v1 => kit_is); (case o1 => kit_is)
  case Tg =>
   refine' Sh.pg_mk KX G ?aC ?pg ?hd ?po ?sa ?nc ?no0 ?no1 ?no2 ?no3 ?no4 ?no5
   (case aC => k_is); (case pg => k_is); (case hd => k_is); (case po => k_is); (case sa => k_is); (case nc => k_is); (case no0 => k_is); (case no1 => k_is); (case no2 => k_is); (case no3 => k_is); (case no4 => k_is); (case no5 => k_is)
  case J0 =>
   refine' Sh.hasJ_mk ?mk ?kc ?a ?i ?l ?c ?b
   (case mk => k_is); (case kc => k_is); (case a => k_is); (case i => k_is); (case l => k_is); (case c => k_is)
   case b => exact Pb fun _ _=>rfl
  case M1 | M5 =>
   refine' Sh.hasN_mk ?a ?i ?l ?c ?k ?b
   (case a => k_is); (case i => k_is); (case l => k_is); (case c => k_is); (case k => k_is)
   case b => exact Pb fun _ _=>rfl
  case M2 | M3 =>
   refine' Sh.hasN_mk ?a ?i ?l ?c ?k ?b
   (case a => k_is); (case i => k_is); (case l => k_is); (case c => k_is); (case k => k_is)
   case b => exact Pa fun _=>rfl
  case M4 | M6 | M7 =>
   refine' Sh.hasN_mk ?a ?i ?l ?c ?k ?b
   (case a => k_is); (case i => k_is); (case l => k_is); (case c => k_is); (case k => k_is)
   case b => exact Pd fun _ _ _=>rfl
  case D0 | D1 | D2 | D3 | D4 | D5 | D6 | D7 | D8 | D9 | D10 | D15 | D20 | D21 | D28 | D29 | D34 | D35 | D36 =>
   refine' L2.hasDef_mk KX G ?a ?l ?c ?k ?b
   (case a => k_is); (case l => k_is); (case c => k_is); (case k => k_is)
   case b => exact fun _ _ _ _ _ _=>Pa fun _=>rfl
  case D11 | D18 | D25 | D27 =>
   refine' L2.hasDef_mk KX G ?a ?l ?c ?k ?b
   (case a => k_is); (case l => k_is); (case c => k_is); (case k => k_is)
   case b => exact fun _ _ _ _ _ _=>Pd fun _ _ _=>rfl
  case D12 | D13 | D14 | D16 | D17 | D19 | D22 | D23 | D24 | D26 | D30 | D31 | D32 | D33 =>
   refine' L2.hasDef_mk KX G ?a ?l ?c ?k ?b
   (case a => k_is); (case l => k_is); (case c => k_is); (case k => k_is)
   case b => exact fun _ _ _ _ _ _=>Pb fun _ _=>rfl
  case hPK => kernel_rfl
  case hcd => kernel_rfl
  (case a0 => k_is); (case l0 => k_is); (case c0 => k_is); (case k0 => k_is)
#print axioms PySem.Challenge.cw_shredjoin_k72_whole_filled_holds
