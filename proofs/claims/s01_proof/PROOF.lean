import PyProof.Rows.All
import Wide.All
import OpenK.AllK
import Wide.FinOn
import PyProof.EqAt
import PyProof.EqKinds
import PyProof.TupleCall
import KE.BitLaws
import KE.KDictList
import Open.SpecLaws
import KE.OsHead
import KE.OsGo
import PySem.Challenge.RW_coarserflows_s01_answers
set_option linter.all false
set_option maxRecDepth 100000
set_option maxHeartbeats 8000000
theorem S.{u}{a:Sort u}{x:a}:x=x:=rfl
def N:=@if_neg
def ak:=@if_pos
def bN:=@congrArg
def bT:=@decide_eq_false
def ck:=@decide_eq_true
def eP:=@if_true
def eQ:=@of_decide_eq_true
def fy:=@or_false
def hc:=@decide_eq_decide
def iQ:=@beq_eq_false_iff_ne
def iS:=@beq_iff_eq
def iT:=@if_false
def ka:=@decide_eq_true_eq
def nR:=@decide_eq_true_iff
def pR:=@not_or
def uE:=@bne_iff_ne
def uH:=@false_or
def F7:=@beq_self_eq_true
open Array renaming getElem?_eq_getElem->yL,getElem?_eq_none->Q8,getElem?_toList->QT,isEmpty_iff->RD,length_toList->q9,mem_toList_iff->QD,toList->Fh
open Bool renaming and_assoc->Sk,and_eq_true->bz,and_eq_true_iff->SE,eq_iff_iff->iR,false->ao,false_and->ua,false_eq_true->nB,false_ne_true->d5,false_or->yF,noConfusion->iq,not_true->RJ,or_eq_true->yE,true->I,true_and->rG
open Classical renaming byContradiction->F1,propDecidable->Gg
open False renaming elim->g7
open ForIn renaming forIn->ui
open ForInStep renaming yield->pS
open Iff renaming rfl->zb
open Int renaming ofNat->zh,toNat_natCast->uf
open List renaming all_append->za,all_cons->jA,all_eq_true->j9,all_map->Sj,any_cons->ug,any_eq_true->Gu,append_assoc->cv,append_inj->mi,append_nil->bZ,append_of_mem->Gy,cons_append->dk,contains_cons->Rq,contains_iff_mem->ir,countP->GC,countP_append->Sd,countP_eq_length_filter->R9,countP_le_length->Sw,countP_map->uJ,drop_drop->GR,drop_eq_getElem_cons->Sm,drop_eq_nil_of_le->zp,drop_zero->nT,ext_getElem?->Sq,filter->GP,filterMap->Sl,filterMap_append->uL,filterMap_cons->kQ,filterMap_nil->zj,filter_append->nM,filter_congr->kW,filter_cons->il,filter_eq_nil_iff->Rx,filter_eq_self->Gf,filter_map->rv,filter_nil->uK,filter_sublist->Gr,find?_append->Ss,find?_cons->gi,find?_eq_none->nF,find?_some->mh,flatMap_append->kZ,flatMap_cons->cp,flatMap_nil->et,foldl_cons->R1,forIn_cons->FH,forIn_nil->uj,getD_eq_getElem?_getD->GL,getElem?_append_left->Fz,getElem?_append_right->hT,getElem?_drop->GQ,getElem?_eq_getElem->gj,getElem?_eq_none->FK,getElem?_eq_some_iff->cM,getElem?_inj->Gp,getElem?_map->bh,getElem?_modify->uO,getElem?_replicate->QJ,getElem?_set->Sr,getElem?_set_ne->t5,getElem?_set_self->t4,head?_cons->R0,length->cN,length_append->bB,length_cons->dG,length_drop->l8,length_eq_zero_iff->mc,length_filterMap_le->iZ,length_filter_le->i2,length_flatMap->Ge,length_map->ag,length_modify->rH,length_nil->jB,length_range'->uF,length_range->p7,length_replicate->QK,length_reverse->Sn,length_take->dW,lookup->nv,lookup_cons->pQ,map->rE,map_append->aW,map_congr_left->gF,map_cons->aV,map_filterMap->zi,map_flatMap->pY,map_id'->rz,map_id->nN,map_map->eh,map_nil->fx,map_take->So,mem_append->bS,mem_append_left->gQ,mem_append_right->eH,mem_cons->bb,mem_cons_of_mem->bM,mem_cons_self->bY,mem_eraseDups->RQ,mem_filter->dA,mem_filterMap->nu,mem_flatMap->dH,mem_iff_getElem?->hV,mem_map->bE,mem_map_of_mem->d8,mem_of_find?_eq_some->fL,mem_of_getElem?->cH,mem_range'_1->Gz,mem_range->lZ,mem_singleton->bf,nil_append->cV,nodup_append->gU,nodup_cons->eB,nodup_nil->gT,nodup_range->Gh,not_mem_nil->ej,of_mem_zip->Fv,perm_ext_iff_of_nodup->uI,range'->cu,range'_append_1->kf,range'_succ->nH,range->eY,range_eq_range'->y8,range_succ->p4,replicate->Fw,reverse_cons->zq,set_set->nV,size_toArray->e0,sum_append->ze,sum_cons->fz,sum_nil->Gn,take_add_one->dm,take_append_drop->zo,take_append_of_le_length->Sv,take_length->dB,take_nil->Su,take_of_length_le->j8,take_zero->hx,toList_toArray->FY
open List.Nodup renaming sublist->Gq
open List.Pairwise renaming nil->TY
open List.Perm renaming length_eq->Um,of_eq->Us,trans->Ur
open List.Sublist renaming refl->Ue
open List.cons renaming inj->rp
open Min renaming min->h3
open Nat renaming add_assoc->p1,add_comm->y7,add_le_add_right->p6,add_sub_cancel->RB,add_zero->ke,le_of_eq->uc,le_of_lt->ym,le_of_not_lt->Rn,le_of_succ_le->uk,le_refl->aX,le_succ_of_le->GN,le_trans->cq,lt_irrefl->j3,lt_of_lt_of_le->gP,lt_of_not_le->pV,lt_succ_iff_lt_or_eq->kh,lt_succ_of_lt->FI,lt_succ_self->rb,min_eq_left->i1,min_eq_right->nU,ne_of_gt->QB,ne_of_lt->fI,not_lt_zero->k7,strongRecOn->RV,sub_self->kY,sub_zero->RA,succ_mul->RU,zero_add->y0,zero_le->cP
open Ne renaming symm->eO
open NeutralIO renaming bytes->Se
open Option renaming bind_eq_some_iff->fA,bind_some->gV,getD_none->QO,getD_some->nQ,isSome_iff_exists->rh,isSome_map->kT,isSome_some->QX,map_eq_none_iff->R8,map_eq_some_iff->cm,map_some->ma,none->O,some->Y,toList_some->GB
open Option.some renaming inj->a8,injEq->yM
open Or renaming inl->yR,inr->F0
open PUnit renaming unit->nG
open Prod renaming ext->mm
open Prod.mk renaming injEq->uB
open Pure renaming pure->df
open PyFlat renaming call->GD,calls->zk,played->GI,row->Sg,rows->i0,told->GH
open PyProof.Rows renaming AllBare->j4,Constant_none->Qr,IntsAre->rk,Subscript_->FC,callWith_builtin1->Tp,callWith_type1->Fi,envOfC->eI,iadd_int->QC,isTrue_plain->Qy,isnot_none_gen->Qv,join_list->TR,join_tuple->TU,notIn_str->TV,subscriptTail->FD,subscriptTail_builtinR->QM
open PySem renaming Addr->Z,Around->b4,BindsTo->rg,CmpOp->nr,DictEntry->g8,Env->eg,ExceptHandler->rq,Expr->aZ,FuncData->bc,GenState->Fe,Heap->aE,Keyword->rj,MeetsIn->F6,Model->kR,NameKind->ht,Obj->aL,Operator->t8,Paired->cO,Params->kc,Pos->b3,Program->az,PyData->l9,Scope->eZ,Sem->fw,Shared->aj,Stmt->a6,Str->aa,Tok->dz,Value->J,Within->Fb,World->aw,assign->t7,assignEach->pI,atKey->fV,atKey_none_of_get->yW,atKey_of_get->yX,attributeBase->j7,backTo->fc,backToKw->l4,behindInMarks->nt,beq_builtin_none->Sx,binaryOp->yq,bindArgs->yv,bindC->l7,bindL->l6,bootBuiltins->t2,boot_len->dD,builtinsNs->Fd,cLine->cG,call->gR,callWith->rf,call_list_seq->QQ,call_meets->FG,call_meetsIn->uo,callerA->pU,cellsFrom->fK,codeAny->pM,codeAny_mono->yw,compEnvC->iU,compPost->FN,compareOp->fJ,comprehension->QZ,dictSetDefault->F8,dictSetHashed->yU,dictWalkPlain->Sz,entryOfKey->jy,entry_at->yY,eval->iW,evalArgs_none->QR,evalPart_none->QL,excClassObj->yT,firstArgMember->Rk,foldedSetIterable->yp,getAttr->Fl,getItem->nz,getMethod->pL,hashInt->E9,holding->l1,inplaceOp->t9,isSubtype_dict_dict->RI,keywordEach->l5,leaving->Fx,letOwnedTupleGo->yn,mainGlobals->fb,mem_of_lookup->hS,model->aM,newFunctionEnv->QW,not_mem_keys_of_get->Ru,notedBy->rn,nums_intItems->QV,operate->FE,placesWithHash->Sy,pushCells->nA,pushCells_keeps->yC,pyIter->yo,pyNext->pK,rawInt->ra,recursionLimit->QG,sizeLine->aR,sizeLine_eq->yr,size_of_entries->mb,sliceBounds->pO,slot_dict_contains->GS,slot_list_getitem->QN,standAt->pH,starEach->cw,storeName->Ff,storedH->hU,storedH_new->uu,storedH_old->F4,subscripted->yx,swapsWith->l2,sysModules->er,tupleKind->ij,tupleKind_room_in1->nD,typeIs_str->yy,typeLookup->FA,typeOf->yz,valueAt->nC,wpAny->aF,wpAny_Assign_Subscript->Q4,wpAny_Call_Name_kw->ue,wpAny_Call_method->FQ,wpAny_Compare1->Qw,wpAny_Dict_empty->Q5,wpAny_Name->Fg,wpAny_assign_Name->QA,wpAny_attempt->Q9,wpAny_bind->aI,wpAny_callSpecial?_slot->FV,wpAny_call_entry->ro,wpAny_dictEntries->kb,wpAny_dictEpoch->uq,wpAny_dictFind_heap->Rt,wpAny_execs_cons->Qz,wpAny_execs_nil->t6,wpAny_fieldsOf->Rc,wpAny_getItem_heap->FO,wpAny_getItem_of->Q1,wpAny_holding->nE,wpAny_isInstance->FW,wpAny_isOneOf_keyiter->Rg,wpAny_isSubtype_exc->Rr,wpAny_isTrue_Compare1->Qx,wpAny_loadName_cell->Qq,wpAny_loadName_local->Qp,wpAny_loadPart_at->F3,wpAny_mono->g6,wpAny_newObj_type->yD,wpAny_notIn_of->Q2,wpAny_notOrdered_dict->yI,wpAny_passesOwn->pJ,wpAny_pure->bu,wpAny_pyIter_enum->Rl,wpAny_pyIter_slot->FT,wpAny_rule->uv,wpAny_setField->Rh,wpAny_setItem_heap->Q3,wpAny_specialOf->um,wpAny_standAt->QY,wpAny_truthy_bool->pG,wpAny_typeNameOfWhole_keyiter->yJ,wpAny_typeNameOf_keyiter->yK,wpAny_typeOf->RF,wpAny_updateDictKeys->Rv
open PySem.Around renaming under->Fs
open PySem.Builtin renaming len->T6
open PySem.Builtin.Dict renaming addKeywords->RK,dictSlotNone->TQ,entriesForEmpty->Ry,keyAndDefault->T7,merge->RG,mergeDict->F5,pendingCount->T5,pendingKey?->Uy,quietEq->Rz,readDirectly->RH,selfAndRest->RE,showsAll->FU,updateFrom->yZ
open PySem.Builtin.Dict_items renaming ownsTuple->Rf
open PySem.Builtin.List renaming listTooLong->FF
open PySem.Builtin.Range renaming rangeSize->SS
open PySem.Builtin.Tuple renaming tupleHashOf->Ux
open PySem.Calls renaming Name_function_global->Qs,callWith_builtin->pP,evalArgs_plain->uh,spliced_cons->pN,spliced_nil->ud
open PySem.Challenge renaming pw_coarserflows_s01_answers->Uw
open PySem.CmpOp renaming In->Qt,NotIn->Qu
open PySem.Code renaming frames->QH,isFrame->Ft
open PySem.Data renaming dict->SG,seq->zw
open PySem.DictEntry renaming refKey->Tj
open PySem.EqMixed renaming eq_bool_str->S1,eq_int_str->S3,eq_str_bool->S5,eq_str_int->S6,ne_bool_str->Td,ne_int_str->Tf,ne_str_bool->Th,ne_str_int->Ti
open PySem.EqNone renaming eq_bool_none->SY,eq_int_none->S2,eq_none_bool->SV,eq_none_int->SW,eq_none_none->SU,eq_none_str->SX,eq_str_none->S4,ne_bool_none->Tc,ne_int_none->Te,ne_none_bool->S8,ne_none_int->S9,ne_none_none->S7,ne_none_str->Ta,ne_str_none->Tg
open PySem.F renaming args_dict_get_3->Q7,args_dict_keyiterator_iter_1->RP,args_dict_keyiterator_next_1->Rb,entry_dict_get->Q6,entry_dict_keyiterator_iter->RO,entry_dict_keyiterator_next->Ra,excBase_Exception->kd,plainAttrs_dict->FR,plainAttrs_list->fB,plainAttrs_str->Rm,slot_dict_get->FP,slot_dict_getitem->yG,slot_dict_iter->yH,slot_dict_keyiterator_iter->y1,slot_dict_keyiterator_next->pT,slot_dict_len->RM,slot_dict_setdefault->RN,slot_dict_update->RL,slot_list_append->gh,slot_list_extend->yA,slot_list_pop->QU,type_list_append->gH,type_list_extend->GO
open PySem.Heap renaming FlyingW->yS,SameBut->ik,get?_push_of_some->fe,get?_push_size->gD,get?_update_self->ur,lt_size->dN,size_push->jz
open PySem.Heap.DictOf renaming new->TN
open PySem.Heap.DictOfH renaming new->T4
open PySem.Heap.IsSliceOf renaming new->Tq
open PySem.Heap.SameBut renaming refl->RC,update->iV
open PySem.Heap.UpToSlots renaming of_keeps->TZ
open PySem.IsL renaming update->TM
open PySem.IsTupleKey renaming typeIs->T1
open PySem.NameKind renaming cell->FJ,free->rm
open PySem.Obj renaming data_mapDict->Rw,data_mapDictKeys->rr,data_mapFields->Rj,isFreed_of_dict->yV,mapFields->Ri,mapSeq->QS
open PySem.Paired renaming length->bL,snoc->Q0
open PySem.PassesOwn renaming leaving->zr,never->dY
open PySem.PyData renaming eqv->yB
open PySem.SeqAt renaming EqAt->QP,shaped->rl
open PySem.SeqAt.EqAt renaming bool_bool->Tw,bool_int->Tx,bool_none->Tv,bool_str->Tz,int_bool->TC,int_int->TF,int_none->TB,int_str->Qk,none_bool->Ts,none_int->Tt,none_str->Tu,same->Tr,str_bool->TJ,str_int->Ql,str_none->TH,str_str->TK
open PySem.Str renaming join->FX,ofString->dO
open PySem.StrLaws renaming found_one->TX
open PySem.Txt renaming isalpha->yP,isdigit->yO,join->yN
open PySem.Unicode renaming isAlpha->Si,isDigit->Sh
open PySem.Value renaming bool->Qm,bytes->Qn,float->Qo,int->pC,isInt->Qi,isStrOf->Qj,none->j2,ref->b5,str->yk,type->pD
open PySem.Value.type renaming inj->SF
open PySem.W renaming Frag->ah,OpenLaw->FZ,WData->eJ,WRecords->SA,WalkOS->SI,WellAll->kU,callWith_K->Fu,callWith_K0->QI,cellsFrom_some->Fy,codeIn->ri,emptyDict->l3,enter_call->Rp,excIn->gS,findIn->j5,fnOf->ny,funFrames_hide->F2,handedIn->QE,hasDictIn->Fj,hideAll->pF,hideAll_get->tY,hideAll_none->tZ,instObj->nq,isFn->ub,keepIn->kS,length_le_weightAllW->SD,lookIn->yt,makesIn->Fp,methodCall_KW->Fq,methodObj->Fc,mg_of->mr,nsIn->mq,of_hideAll->yl,plainGet->yu,plainGet_of->Fn,plainOver->QF,takerIn->Fo
open PySem.W.Codec renaming app->uP,denoteAll->zu,encAll->rJ,withinAll->SH
open PySem.W.Looks renaming here->Tn
open PySem.W.ReadsAllW renaming cons->UA,nil->Uz
open PySem.W.WData renaming int->yQ,weightAll->zv
open PySem.W.WShape renaming has->Ro
open PySem.Within renaming cons->To
open PyVacfaf renaming answers->uN,answers_asked->GJ,shape->gG,whole->ml
open SizeOf renaming sizeOf->gk
open Std.Legacy.Range renaming forIn_eq_forIn_range'->T2,size->T3
open Sum renaming inl->nk,inr->kP
open True renaming intro->j6
open UInt8 renaming le_iff_toNat_le->RZ,ofNat->ek,ofNat_toNat->zl,toNat->iw,toNat_inj->uD,toNat_lt->zm,toNat_ofNat'->y9
open Vacfaa renaming Abs->cx,Arrow->Sb,Expr->ae,INPUT->dq,LONG->Ua,NUMBER->Ub,Name->dC,RESERVED->nP,Text->ai,ascii->ay,binderOf->g9,bindersIn->pZ,bindersOf->uC,closing->RY,decimal->d7,deepOf->dI,funsOf->zd,gluedBy->Gm,inBrackets->Gj,isClosed->hW,isDigit->iY,isName->gE,isProgram->me,isSmall->kX,labelOf->af,labelsOf->bJ,nodeAt->mf,nodesOf->aH,numberOf->y6,programOf->hX,read->ha,spaced->uG,textOf->bj,tokensOf->dn,valueOf->hY
open Vacfaa.Abs renaming fn->Gb,pair->T9,ref->T8
open Vacfaa.Abs.fn renaming injEq->Uo
open Vacfaa.Abs.pair renaming injEq->Up
open Vacfaa.Abs.ref renaming injEq->Uq
open Vacfaa.Expr renaming app->R4,fn->pW,fst->R5,get->R7,ifz->Ui,letE->Ga,new->y3,num->Uc,pair->y2,set->Uj,snd->R6,var->hZ
open Vacfaa.Expr.var renaming injEq->Ud
open Vacfab renaming Fact->hu,Place->aB,Table->iX,Way->md,arrowsIn->rD,bodyOf->uw,broughtBy->RR,has->y5,inOrder->y4,labelled->b0,leastOf->d6,mostFacts->pX,neededBy->nK,placesOf->aq,roundsFrom->uz,seedsIn->uy,seedsOf->ru,setAt->nJ,sortsOf->bq,waysIn->ip,waysOf->ux
open Vacfab.Fact.mk renaming injEq->RT
open Vacfab.Place renaming first->Uk,inside->Ul,name->RW,node->Gd
open Vacfab.Way.mk renaming injEq->F9
open Vacfaf renaming Call->k6,Classes->nO,Look->p3,Out_->mn,Shift->rB,State->nS,allOf->nL,aloneAt->kg,askedFor->ff,changedTo->rA,changesOf->k4,classOf->cI,classesFrom->ry,classesOf->hb,does->fM,exprOf->Gi,funPlaces->Gw,isTold->bp,joined->iu,lookFor->R3,lookFrom->zc,lookOn->jC,lookedFor->jD,moved->eR,movedAbs->zg,movedFact->iv,movedPlace->rC,onNode->rI,onRung->zt,putAt->cQ,refPlaces->Gx,roundOf->Gv,rungOf->mj,sameKind->uA,shiftOf->e1,sizeAt->zf,start->GK,step->hv,tableBy->rx,toldPlaces->Sa,toldSet->GA
open Vacfaf.Look renaming places->Ug,table->Uh
open VacfafNeutral renaming asked->Uv,asked1->Sf,callOf->Uu,encode->Ut,natural->rF,step->p5,text?->GG,whole60->uM
open PySem PySem.Spec PyProof.Rows
namespace L2
abbrev Key:=Sum Int aa
def nW:Key->J->Bool
 |.inl k,v=>Qi k v
 |.inr x,v=>Qj x v
def GU(A:aw):Key->Int
 |.inl k=>E9 k
 |.inr x=>hashStr A x
def ki:∀{M:Key} {v:J},nW M v=I->(∃D A,M=nk D/\v=pC D A)\/(∃G A,M=kP G/\v=yk G A)
 |.inl D,v,a=>by obtain⟨A,N⟩:=Value.isInt_shape (k:=D) (v:=v) a;exact .inl ⟨D,A,S,N⟩
 |.inr G,v,a=>by obtain⟨A,N⟩:=Value.isStrOf_shape (x:=G) (v:=v) a;exact .inr ⟨G,A,S,N⟩
def GV(A:Int)(D:dz):nW (.inl A) (.int A D)=I:=by simp [nW,Qi]
def GW(A:aa)(D:dz):nW (.inr A) (.str A D)=I:=by simp [nW,Qj]
def GX(A D:Int):decide ((nk A:Key)=nk D)=(A==D):=by
 by_cases G:A=D
 .subst G;simp
 .have M:¬(nk A:Key)=nk D:=λN=>G (Sum.inl.inj N);rw [bT M];exact(iQ.mpr G).symm
def GY(A D:aa):decide ((kP A:Key)=kP D)=decide (A=D):=by
 by_cases G:A=D
 .subst G;simp
 .have M:¬(kP A:Key)=kP D:=λN=>G (Sum.inr.inj N);rw [bT M,bT G]
def GZ(A:Int)(D:aa):decide ((nk A:Key)=kP D)=ao:=bT (λG=>nomatch G)
def G0(A:aa)(D:Int):decide ((kP A:Key)=nk D)=ao:=bT (λG=>nomatch G)
def eC(c:az)(U:aw):PySem.KeyKind c U Key where
 is:=nW
 hash:=GU U
 inj:=λv g h d b=>by
  rcases ki d with⟨M,G,rfl,rfl⟩|⟨N,G,rfl,rfl⟩
  .rcases ki b with⟨Q,u,rfl,D⟩|⟨y,u,rfl,D⟩
   .injection D with a _;rw [a]
   .exact nomatch D
  .rcases ki b with⟨Q,u,rfl,D⟩|⟨y,u,rfl,D⟩
   .exact nomatch D
   .injection D with a _;rw [a]
 byValue:=λe v A=>by rcases ki A with⟨M,G,rfl,rfl⟩|⟨N,G,rfl,rfl⟩<;>rfl
 pyHash:=λT A=>by
  rcases ki T with⟨M,G,rfl,rfl⟩|⟨N,G,rfl,rfl⟩
  .exact wpAny_pyHash_int A
  .exact wpAny_pyHash_str A
 eqBool:=λf T A=>by
  rcases ki f with⟨M,G,rfl,rfl⟩|⟨N,G,rfl,rfl⟩
  .rcases ki T with⟨Q,u,rfl,rfl⟩|⟨y,u,rfl,rfl⟩
   .rw [GX]at A;exact wpAny_eqBool_int A
   .rw [GZ]at A;exact Qk M G y u _ _ _ _ A
  .rcases ki T with⟨Q,u,rfl,rfl⟩|⟨y,u,rfl,rfl⟩
   .rw [G0]at A;exact Ql N G Q u _ _ _ _ A
   .rw [GY]at A;exact wpAny_eqBool_str A
 «strs»:=λe N G v A=>by
  rcases ki A with⟨M,u,rfl,D⟩|⟨y,u,rfl,D⟩
  .exact nomatch D
  .injection D with a _;subst a;cases v<;>rfl
def G1(G:az)(M:aw)(A:Int)(D:dz):(eC G M).is (.inl A) (.int A D)=I:=GV A D
def G2(G:az)(M:aw)(A:aa)(D:dz):(eC G M).is (.inr A) (.str A D)=I:=GW A D
inductive V where
 |br|bl (A:Bool)|int (i:Int)|str (x:aa)|fW (A:Array UInt8)|p8 (A:UInt64)|ref (a:Z)|ty (n:String)
 deriving DecidableEq
def RelV:V->J->Prop
 |.br,u=>u=j2
 |.bl b,u=>u=Qm b
 |.int i,u=>∃A,u=pC i A
 |.str x,u=>∃A,u=yk x A
 |.fW b,u=>∃A,u=Qn b A
 |.p8 b,u=>∃A,u=Qo b A
 |.ref a,u=>u=b5 a
 |.ty n,u=>u=pD n
abbrev Vals:List V->List J->Prop:=cO RelV
variable{ul:List V}{t1:List J}
def Vals.length(G:Vals ul t1):ul.length=t1.length:=bL G
def Vals.get:∀{A:List V} {D:List J} {i:Nat} {x:V},Vals A D->A[i]?=Y x->∃u,D[i]?=Y u/\RelV x u
 |_,_,_,_,.nil,a=>by simp at a
 |_,_,0,_,.cons b _,a=>by simp at a;subst a;exact⟨_,S,b⟩
 |_,_,i+1,x,.cons _ c,a=>by obtain⟨u,G,M⟩:=Vals.get (i:=i) (x:=x) c (by simpa using a);exact⟨u,by simpa using G,M⟩
def Vals.append:∀{A D:List V} {G M:List J},Vals A G->Vals D M->Vals (A++D) (G++M)
 |_,_,_,_,.nil,a=>a
 |_,_,_,_,.cons b c,a=>.cons b (Vals.append c a)
def Vals.take:∀{D:List V} {G:List J} (A:Nat),Vals D G->Vals (D.take A) (G.take A)
 |_,_,0,_=>.nil
 |_,_,_+1,.nil=>.nil
 |_,_,A+1,.cons a b=>.cons a (Vals.take A b)
def Vals.drop:∀{D:List V} {G:List J} (A:Nat),Vals D G->Vals (D.drop A) (G.drop A)
 |_,_,0,a=>a
 |_,_,_+1,.nil=>.nil
 |_,_,A+1,.cons _ b=>Vals.drop A b
def fg:Option V->Option J->Prop
 |some v,Y u=>RelV v u
 |none,O=>True
 |_,_=>False
variable{s2:Type}
def KV:List (s2×V)->List (s2×J)->Prop:=cO λ(D:s2×V) (G:s2×J)=>D.1=G.1/\RelV D.2 G.2
def kV:Key->V
 |.inl i=>.int i
 |.inr x=>.str x
inductive HO where
 |lst (A:List V)
 |tup (A:List V)
 |dK (D:List (Key×V))|dT (D:List (List Key×V))
 |set (G:Int->Bool) (n:Nat)
 |ins (M N:Z) (fs:List (aa×V))
 |own (x:Z)
 |xd (fs:List (aa×V))
 |met (Q x:Z)
 |rK (S T:Int)
 |bO (o:aL) (u:HO)
 |k8 (ps:Array J)
 |ext (U:aE->Prop)
abbrev G:=Z->Option HO
def upd(H:G)(D:Z)(o:HO):G:=λA=>if A=D then Y o else H A
variable{d:Z}
def M{H:G}{o:HO}:upd H d o d=Y o:=by unfold upd;rw [ak S]
variable{p:Z}
def Q{H:G}{o:HO}(M:d≠p):upd H p o d=H d:=by unfold upd;rw [N M]
def gW{H:G}{o u:HO}:upd (upd H d o) d u=upd H d u:=by funext a;unfold upd;split<;>rfl
def cW{H:G}{o u:HO}(N:H d=Y o)(M:H p=Y u)(Q:o≠u):d≠p:=by intro S;subst S;rw [N]at M;exact Q (a8 M)
def cB{H:G}{o:HO}(N:H d=Y o)(M:H p=O):d≠p:=by intro Q;subst Q;rw [N]at M;cases M
section
variable (P:az) (w:aw)
def dZ(H:G)(D:aE)(A:Z):HO->Prop
 |.lst M=>M.length<=aR/\∃(S:List J) (T:Nat),Vals M S/\D.get? A=Y {cls:=.type "list",data:=.seq S.toArray T}
 |.tup M=>M.length<=aR/\∃S:List J,Vals M S/\IsTup D A S.toArray
 |.dK a=>a.length<=aR/\(A==er)=ao/\∃e,KV a e/\D.DictOf (eC P w) A e
 |.dT a=>a.length<=aR/\(A==er)=ao/\∃M:List (List Key×Z×J),
   cO (λ(U:List Key×V) (c:List Key×Z×J)=>U.1=c.1/\H c.2.1=Y (.tup (U.1.map kV))/\RelV U.2 c.2.2) a M/\
   ∃o f i,D.get? A=Y o/\o.ExactDict/\o.data=.dict f i/\f.toList=M.map (jy (ij (eC P w)))/\(M.map (·.1)).Nodup
 |.set j T=>D.SetOf (intKind P w) A j T
 |.ins k b fs=>H b=Y (.own A)/\fs.length<=1000/\b≠A/\D.get? A=Y (nq k b)/\
   ∃Q,D.Ns1 b Q/\(∀N,fg (fs.lookup N) (Q N))/\Fb Q (fs.map (·.1))
 |.own _=>∃o,D.get? A=Y o
 |.xd fs=>∃Q,D.Ns1 A Q/\∀N,fg (fs.lookup N) (Q N)
 |.rK lo l=>∃m u v,D.get? A=Y {cls:=.type "range",data:=.fields #[.int lo m,.int l u,.int 1 v]}
 |.bO o u=>D.get? A=Y o/\dZ H D A u
 |.k8 ps=>D.get? A=Y {cls:=.none,data:=.fields ps}
 |.met N x=>D.get? A=Y (Fc (.ref N) (.ref x))
 |.ext d=>d D/\(∃o,D.get? A=Y o)/\∀g h:aE,d g->(∀o,g.get? A=Y o->h.get? A=Y o)->d h
def dr(H:G)(D:aE):Prop:=∀A o,H A=Y o->dZ P w H D A o
end
variable{B:aE}{l:az}{m:aw}{H:G}{o:HO}
def dZ.lt(D:dZ l m H B d o):d<B.objs.size:=by
 cases o with
 |lst b=>obtain⟨_,_,_,_,A⟩:=D;exact dN A
 |tup b=>obtain⟨_,_,_,G⟩:=D;exact G.lt
 |dK c=>obtain⟨_,_,_,_,o,_,_,A,_⟩:=D;exact dN A
 |dT c=>obtain⟨_,_,_,_,o,_,_,A,_⟩:=D;exact dN A
 |set h n=>obtain⟨o,_,_,_,A,_⟩:=D;exact dN A
 |ins e f fs=>obtain⟨_,_,_,A,_⟩:=D;exact dN A
 |own y=>obtain⟨_,A⟩:=D;exact dN A
 |xd fs=>obtain⟨_,⟨_,_,_,A,_⟩,_⟩:=D;exact dN A
 |rK lo g=>obtain⟨_,_,_,A⟩:=D;exact dN A
 |bO i u=>obtain⟨A,_⟩:=D;exact dN A
 |k8 ps=>exact dN (show B.get? d=Y _ from D)
 |met j y=>exact dN (show B.get? d=Y _ from D)
 |ext k=>obtain⟨_,⟨_,A⟩,_⟩:=D;exact dN A
variable{Do:Type}
def Paired.cb{G M:s2->Do->Prop}:∀{N:List s2} {Q:List Do},cO G N Q->(∀d S,G d S->M d S)->cO M N Q
 |_,_,.nil,_=>.nil
 |_,_,.cons c a,b=>.cons (b _ _ c) (Paired.cb a b)
variable{LT:aE}{q:G}
def dZ.i3(G:dZ l m H B d o)(D:∀Q u,(Q=d\/H Q=Y (.own d))->B.get? Q=Y u->LT.get? Q=Y u)(h':∀Q,H Q=Y (.own d)->q Q=Y (.own d)) (r:∀Q h,H Q=Y (.tup h)->q Q=Y (.tup h)):dZ l m q LT d o:=by
 induction o with
 |lst h=>obtain⟨M,f,k,N,A⟩:=G;exact⟨M,f,k,N,D _ _ (.inl S) A⟩
 |tup h=>obtain⟨M,f,N,T,A,c⟩:=G;exact⟨M,f,N,T,D _ _ (.inl S) A,c⟩
 |dK s=>obtain⟨M,y,t,N,T,U,b,A,c⟩:=G;exact⟨M,y,t,N,T,U,b,D _ _ (.inl S) A,c⟩
 |dT s=>
  obtain⟨M,y,h,N,T,U,b,A,c⟩:=G;exact⟨M,y,h,Paired.cb N λP e M=>⟨M.1,r _ _ M.2.1,M.2.2⟩,T,U,b,D _ _ (.inl S) A,c⟩
 |set C k=>obtain⟨T,U,b,g,A,c⟩:=G;exact⟨T,U,b,g,D _ _ (.inl S) A,c⟩
 |ins E F fs=>
  obtain⟨w,M,x,A,i,⟨j,U,b,z,c⟩,N⟩:=G;exact⟨h' _ w,M,x,D _ _ (.inl S) A,i,⟨j,U,b,D _ _ (.inr w) z,c⟩,N⟩
 |own y=>obtain⟨T,A⟩:=G;exact⟨T,D _ _ (.inl S) A⟩
 |xd fs=>obtain⟨i,⟨j,U,b,A,c⟩,N⟩:=G;exact⟨i,⟨j,U,b,D _ _ (.inl S) A,c⟩,N⟩
 |rK lo K=>obtain⟨g,u,v,A⟩:=G;exact⟨g,u,v,D _ _ (.inl S) A⟩
 |bO T u a=>obtain⟨A,e⟩:=G;exact⟨D _ _ (.inl S) A,a e⟩
 |k8 ps=>
  have A:B.get? d=Y {cls:=.none,data:=.fields ps}:=G;show LT.get? d=Y {cls:=.none,data:=.fields ps}
  exact D d _ (.inl S) A
 |met n y=>
  have A:B.get? d=Y (Fc (.ref n) (.ref y)):=G;show LT.get? d=Y (Fc (.ref n) (.ref y))
  exact D d _ (.inl S) A
 |ext L=>obtain⟨P,⟨o,A⟩,p⟩:=G;exact⟨p _ _ P λo e=>D _ _ (.inl S) e,⟨o,D _ _ (.inl S) A⟩,p⟩
def dr.lt(A:dr l m H B)(D:H d=Y o):d<B.objs.size:=(A d o D).lt
def dr.fresh(A:dr l m H B)(D:B.objs.size<=d):H d=O:=by
 cases b:H d with
 |none=>rfl
 |some u=>exact absurd (gP (A.lt b) D) (j3 _)
def dr.kept(G:dr l m H B)(M:∀D u,B.get? D=Y u->LT.get? D=Y u):dr l m H LT:=λd o N=>
 (G d o N).i3 (λD u _ A=>M D u A) (λ_ A=>A) λ_ _ A=>A
variable{h':aE}{a:Z}
def dr.laid(N:dr l m H B)(U:∀D u,B.get? D=Y u->h'.get? D=Y u)(b:B.objs.size<=a)(d:dZ l m (upd H a o) h' a o):dr l m (upd H a o) h':=λD u G=>by
 have S:=N.fresh b;by_cases T:D=a
 .subst T;rw [M]at G;cases G;exact d
 .rw [Q T]at G;exact(N D u G).i3 (λc v _ A=>U c v A) (λc A=>by rw [Q (cB A S)];exact A) λc e A=>by rw [Q (cB A S)];exact A
def Rd(H:G)(A:Z)(u:HO):Prop:=H A=Y u\/∃o,H A=Y (.bO o u)
def Rd.ok{H:G}{u:HO}(A:Rd H d u)(S:dr l m H B):dZ l m H B d u:=by
 rcases A with A|⟨o,A⟩
 .exact S d u A
 .obtain⟨_,T⟩:=S d _ A;exact T
def cX:Option HO->Prop
 |some (.lst _)=>True
 |some (.dK _)=>True
 |some (.dT _)=>True
 |some (.set _ _)=>True
 |some (.ins _ _ _)=>True
 |some (.ext _)=>True
 |_=>False
variable{Da:HO}{x e:Z}
def dr.write(j:dr l m H B)(T:cX (H x))(f:e=x\/H e=Y (.own x))(k:∀G u,G≠e->B.get? G=Y u->h'.get? G=Y u)(P:∃u,h'.get? e=Y u)(w:dZ l m (upd H x Da) h' x Da):dr l m (upd H x Da) h':=λG u N=>by
 have g:∀c y,H c=Y (.own y)->c≠x:=λc y D A=>by subst A;rw [D]at T;exact T
 have n:∀c U,H c=Y (.tup U)->c≠x:=λc U D A=>by subst A;rw [D]at T;exact T
 by_cases a:G=x
 .subst a;rw [M]at N;cases N;exact w
 .rw [Q a]at N;by_cases b:G=e
  .have i:H G=Y (.own x):=by
    rcases f with A|A
    .exact absurd (b.trans A) a
    .rw [b];exact A
   rw [N]at i;cases i;obtain⟨v,o⟩:=P;exact⟨v,by rw [b];exact o⟩
  .refine(j G u N).i3 (λc v d D=>k c v ?_ D) (λc D=>by rw [Q (g c G D)];exact D) λc U D=>by rw [Q (n c U D)];exact D
   rcases d with rfl|d
   .exact b
   .rintro rfl;rcases f with A|A
    .exact g c G d A
    .rw [d]at A;cases A;exact a S
structure Un(fs ex:List Z)(H D:G)(M N:aE):Prop where
 keep:∀A o,M.get? A=Y o->H A=O->A∉fs->A∉ex->N.get? A=Y o
 slot:∀A o,M.get? A=Y o->H A=O->A∈fs->A∉ex->∃S,N.get? A=Y {o with slots:=S}
 free:∀A o,M.get? A=Y o->H A=O->A∉ex->D A=O
 there:∀A o,M.get? A=Y o->A∉ex->∃T,N.get? A=Y T
 kj:∀A Q,H A=Y (.tup Q)->D A=Y (.tup Q)
 i4:∀A o u,H A=Y (.bO o u)->D A=Y (.bO o u)
 kl:∀A ps,H A=Y (.k8 ps)->∃U,D A=Y (.k8 (ps++U))
variable{Re:aL}{wf UE:List Z}
def Un.any(u:Un wf UE H q B LT)(G:B.get? d=Y Re)(M:H d=O)(N:d∉UE):∃S,LT.get? d=Y {Re with slots:=S}:=by
 by_cases Q:d∈wf
 .exact u.slot d Re G M Q N
 .exact⟨Re.slots,u.keep d Re G M Q N⟩
def Un.kept(M:∀D u,B.get? D=Y u->LT.get? D=Y u):Un wf UE H H B LT:=
 ⟨λD G A _ _ _=>M D G A,λD G A _ _ _=>⟨G.slots,M D G A⟩,λ_ _ _ N _=>N,λD G A _=>⟨G,M D G A⟩,λ_ _ A=>A,λ_ _ _ A=>A,λ_ Q A=>⟨#[],by rw [A];simp⟩⟩
def Un.refl:Un wf UE H H B B:=Un.kept λ_ _ A=>A
def Un.laid(G:∀D u,B.get? D=Y u->h'.get? D=Y u)(N:B.objs.size<=a)(M:H a=O):Un wf UE H (upd H a o) B h' where
 keep:=λD u A _ _ _=>G D u A
 slot:=λD u A _ _ _=>⟨u.slots,G D u A⟩
 free:=λD u A S _=>by rw [Q (fI (gP (dN A) N))];exact S
 there:=λD u A _=>⟨u,G D u A⟩
 kj:=λD T A=>by rw [Q (cB A M)];exact A
 i4:=λD u T A=>by rw [Q (cB A M)];exact A
 kl:=λD U A=>⟨#[],by rw [Q (cB A M),A];simp⟩
def Un.write(N:cX (H x))(f:e=x\/H e=Y (.own x))(T:∀A u,A≠e->B.get? A=Y u->h'.get? A=Y u)(g:∃u,h'.get? e=Y u):Un wf UE H (upd H x o) B h':=by
 have b:∀A,H A=O->A≠x:=λA G M=>by subst M;rw [G]at N;exact N
 have c:∀A,H A=O->A≠e:=λA G M=>by
  subst M;rcases f with S|S
  .exact b A G S
  .rw [G]at S;cases S
 have U:∀A u,H A=Y u->¬cX (Y u)->A≠x:=λA u D i M=>by subst M;rw [D]at N;exact i N
 refine⟨λA u D G _ _=>T A u (c A G) D,λA u D G _ _=>⟨u.slots,T A u (c A G) D⟩,λA u D G _=>by rw [Q (b A G)];exact G,λA u D _=> ?_,
  λA j D=>by rw [Q (U A _ D λM=>M)];exact D,λA u j D=>by rw [Q (U A _ D λM=>M)];exact D,λA k D=>⟨#[],by rw [Q (U A _ D λM=>M),D];simp⟩⟩
 by_cases d:A=e
 .subst d;exact g
 .exact⟨u,T A u d D⟩
def rL(A:aE)(H:G):List Z:=(eY A.objs.size).filter λD=>(H D).isSome
def km(A:aE)(H:G):aE:=pF A (rL A H)
def G4(A:aE)(H:G):(km A H).objs.size=A.objs.size:=PySem.W.hideAll_size _ _
def G5{H:G}{o:aL}(N:B.get? d=Y o)(Q:H d=O):(km B H).get? d=Y o:=
 tY _ N λS=>by have M:(H d).isSome=I:=(dA.mp S).2;rw [Q]at M;simp at M
def G6{H:G}{o:aL}(M:(km B H).get? d=Y o):B.get? d=Y o/\H d=O:=by
 have N:B.get? d=Y o:=yl (rL B H) M;refine⟨N, ?_⟩;cases a:H d with
 |none=>rfl
 |some x=>
  have Q:d∈rL B H:=dA.mpr ⟨lZ.mpr (dN N),by simp [a]⟩;have T:(km B H).get? d=O:=tZ (rL B H) Q
  rw [T]at M;cases M
def G7(G D:aE)(M:Z):List (Z×aL):=(eY D.objs.size).filterMap λA=>if A=M\/(G.get? A).isSome=I then O else(D.get? A).map λo=>(A,o)
def rest(A D:aE)(G M:Z):List (Z×aL):=(G7 A D G).filter λN=>decide (N.1≠M)
structure Mod(K:ah)(U:aa->Option J)(base:aE):Prop where
 p9:K.In base
 glob:base.Ns fb U
 blt:∃A,base.Ns Fd A/\∀x:aa,x≠"__name__"->A x=t2 x
 nolimit:base.NoLimit
structure Cx where
 prog:az
 w:aw
 K:ah
 U:aa->Option J
 base:aE
 A:b4
 N:List aa
 d9:aj
 jE:G
 env:eg
 outer:List eg
 stack:List eg
 ex:List Z
 fn:aa->Bool
 calm:Bool
 pn:List (Z×aL)
 xe:J->aj->Prop
def ea(A:List eg):List Z:=A.filterMap (·.frame)
abbrev Cx.fs(A:Cx):List Z:=ea A.outer
def nX(A:eZ)(D:aa):Prop:=A.names.lookup D=Y .local\/A.names.lookup D=Y .cell\/A.names.lookup D=Y .free
def Loc(A:eZ)(D:aa):Prop:=A.names.lookup D=Y .local\/A.names.lookup D=Y .cell
def Look(D:eg)(G:aE)(M:aa->Option J)(A:aa)(u:J):Prop:=
 (D.kindOf A=Y .local/\M A=Y u)\/((D.kindOf A=Y .cell\/D.kindOf A=Y .free)/\∃c,D.cells.lookup A=Y c/\G.IsCell c (Y u))
structure Cx.Ok(A:Cx):Prop where
 mod:Mod A.K A.U A.base
 kind:A.env.scope.kind=.function
 glob:A.env.globals=fb
 blt:A.env.builtins=Fd
 above:A.d9.heap.objs.size<=A.env.locals
 inj:∀x y c,A.env.cells.lookup x=Y c->A.env.cells.lookup y=Y c->x=y
 has:∀x,(A.env.kindOf x=Y .cell\/A.env.kindOf x=Y .free)->∃c,A.env.cells.lookup x=Y c
 mu:∀x c,A.fn x=I->A.env.cells.lookup x=Y c->A.d9.heap.objs.size<=c
 hd:A.calm=I->A.A.handled=O
 frames:A.A.frames=Y A.stack
 nY:A.stack=A.outer\/(A.stack=A.env::A.outer/\A.env.frame=Y A.env.locals)
 nZ:∀D∈A.ex,D≠A.env.locals/\∀x c,A.env.cells.lookup x=Y c->c≠D
 bs:∀D o,A.base.get? D=Y o->A.d9.heap.get? D=Y o/\A.jE D=O
 iy:A.base.objs.size<=A.d9.heap.objs.size
 mv:∀D o,A.base.get? D=Y o->D∉A.ex
 mw:∀D∈A.ex,D∉A.fs
 funs:A.d9.heap.FunFrames A.base A.outer
 kn:∀D∈A.fs,A.jE D=O
structure Inv(A:Cx)(N:List (Z×aL))(M:List (Option V))(H:G)(D:aj):Prop where
 ok:A.Ok
 os:D.os=A.d9.os
 bare:j4 D.gens
 base:Un A.fs A.ex A.jE H A.d9.heap D.heap
 loc:∃m,D.heap.Ns A.env.locals m/\∀(i:Nat) (x:aa) (v:V),A.N[i]?=Y x->M[i]?=Y (Y v)->nX A.env.scope x->∃u,RelV v u/\Look A.env D.heap m x u
 cell:∀x c,A.env.cells.lookup x=Y c->∃v,D.heap.IsCell c v
 free:H A.env.locals=O
 gI:∀x c,A.env.cells.lookup x=Y c->H c=O
 pin:∀p∈A.pn++N,D.heap.get? p.1=Y p.2/\H p.1=O/\p.1≠A.env.locals/\p.1∉A.fs/\∀v,p.2.data≠.cell v
 bg:dr A.prog A.w H D.heap
 len:M.length=A.N.length
variable{h:Cx}
def Cx.Ok.G8(D:h.Ok){o:aL}(G:h.base.get? d=Y o):d∉h.fs:=λM=>by have:=(D.funs.mem M).1;rw [G]at this;cases this
variable{t:aj}{pp:List (Z×aL)}{GE:List (Option V)}
def Inv.bs(D:Inv h pp GE H t):∀A o,h.base.get? A=Y o->t.heap.get? A=Y o/\H A=O:=λA o G=>
 ⟨D.base.keep A o (D.ok.bs A o G).1 (D.ok.bs A o G).2 (D.ok.G8 G) (D.ok.mv A o G),D.base.free A o (D.ok.bs A o G).1 (D.ok.bs A o G).2 (D.ok.mv A o G)⟩
def Inv.bk(D:Inv h pp GE H t):∀A o,h.base.get? A=Y o->t.heap.get? A=Y o:=λA o G=>(D.bs A o G).1
def Inv.mod(A:Inv h pp GE H t):Mod h.K h.U h.base:=A.ok.mod
def Inv.fh(A:Inv h pp GE H t):h.K.In t.heap:=A.ok.mod.p9.keeps A.bk
def Inv.fr(A:Inv h pp GE H t):∃D,Fr h.base h.env.locals t.heap D:=
 let⟨D,G,_⟩:=A.loc
 ⟨D,G,A.bk,cq A.ok.iy A.ok.above⟩
def Inv.lt(A:Inv h pp GE H t):h.env.locals<t.heap.objs.size:=let⟨_,D,_⟩:=A.loc;D.lt
def Inv.sz(A:Inv h pp GE H t):h.d9.heap.objs.size<=t.heap.objs.size:=cq A.ok.above (ym A.lt)
def Inv.G9(A:Inv h pp GE H t)(G:t.heap.objs.size<=d):d∉h.fs:=λM=>by obtain⟨_,o,N,_⟩:=A.ok.funs.mem M;exact absurd (gP (dN N) (cq A.sz G)) (j3 _)
def Inv.uQ(D:Inv h pp GE H t):∀A c,h.env.cells.lookup A=Y c->c≠h.env.locals:=λA c N Q=>by obtain⟨v,o,G,M⟩:=D.cell A c N;obtain⟨U,⟨a,b,d,S,T,_⟩,_⟩:=D.loc;rw [Q,S]at G;cases G;rw [T]at M;cases M
def Inv.funs(G:Inv h pp GE H t):t.heap.FunFrames h.base h.outer:=by
 have U:∀(D:List eg),(∀M∈ea D,M∈h.fs)->h.d9.heap.FunFrames h.base D->t.heap.FunFrames h.base D:=by
  intro D;induction D with
  |nil=>intro _ _;trivial
  |cons env j a=>
   intro T b;obtain⟨c,⟨A,o,N,d,e,f⟩,g⟩:=b;have Q:A∈h.fs:=T A (by unfold ea;rw [kQ,N];exact bY)
   obtain⟨k,X⟩:=G.base.slot A o e (G.ok.kn A Q) Q λi=>G.ok.mw A i Q;exact⟨c,⟨A,_,N,d,X,f⟩,a (λM S=>T M (by unfold ea;rw [kQ,N];exact bM _ S)) g⟩
 exact U h.outer (λ_ S=>S) G.ok.funs
def Inv.stack(A:Inv h pp GE H t):t.heap.FunFrames h.base h.stack:=by
 rcases A.ok.nY with D|⟨D,a⟩
 .rw [D];exact A.funs
 .rw [D];obtain⟨M,G,_⟩:=A.loc;refine .cons (by rw [A.ok.kind];decide) a G ?_ A.funs;exact Heap.get?_none_of_le (cq A.ok.iy A.ok.above)
def Inv.rM(M:Inv h pp GE H t):∀G∈ea h.stack,G∈h.env.locals::h.fs:=λG A=>by
 rcases M.ok.nY with D|⟨D,a⟩
 .rw [D]at A;exact bM _ A
 .rw [D]at A;unfold ea at A;rw [kQ,a]at A;exact A
def Inv.rN(A:Inv h pp GE H t):∀D∈ea h.stack,H D=O:=λD G=>by
 rcases bb.mp (A.rM D G)with M|G
 .rw [M];exact A.free
 .obtain⟨_,o,N,_⟩:=A.ok.funs.mem G;exact A.base.free D o N (A.ok.kn D G) λQ=>A.ok.mw D Q G
variable{r:Nat}
def Inv.step{g':Array Fe}{d':Drawn}{ch:List Z}(G:Inv h pp GE H t)(g:∀A∈ch,(A∈h.ex\/h.d9.heap.objs.size<=A)/\A≠h.env.locals/\(∀M c,h.env.cells.lookup M=Y c->c≠A)/\∀T∈h.pn++pp,T.1≠A)(p:∀A o,A≠h.env.locals->A∉h.fs->A∉ch->t.heap.get? A=Y o->H A=O->B.get? A=Y o)(w:∀A o,A≠h.env.locals->A∈h.fs->A∉ch->t.heap.get? A=Y o->H A=O->∃σ,B.get? A=Y {o with slots:=σ}) (l:∀A o,A∉ch->t.heap.get? A=Y o->H A=O->q A=O)(K:∀A o,A∉ch->t.heap.get? A=Y o->∃s,B.get? A=Y s)(L:∀A b,H A=Y (.tup b)->q A=Y (.tup b)) (P:∀A o u,H A=Y (.bO o u)->q A=Y (.bO o u)) (R:∀A m,H A=Y (.k8 m)->∃V,q A=Y (.k8 (m++V)))(W:∀e,t.heap.Ns h.env.locals e->B.Ns h.env.locals e) (ab:dr h.prog h.w q B) (ad:j4 g'):Inv h pp GE q {t with heap:=B,gens:=g',drawn:=d',toks:=r}:=by
 have x:∀A o,h.d9.heap.get? A=Y o->A≠h.env.locals:=λA o D=>fI (gP (dN D) G.ok.above);have n:∀A o,h.d9.heap.get? A=Y o->A∉h.ex->A∉ch:=λA o D N d=>by
  rcases(g A d).1 with Q|Q
  .exact N Q
  .exact absurd (gP (dN D) Q) (j3 _)
 have y:∀M c,h.env.cells.lookup M=Y c->∀v,t.heap.IsCell c v->B.IsCell c v:=λM c D v ⟨o,f,F⟩=>by
  have i:c∉ch:=λQ=>(g c Q).2.2.1 M c D S;by_cases z:c∈h.fs
  .obtain⟨σ,al⟩:=w c o (G.uQ M c D) z i f (G.gI M c D);exact⟨_,al,F⟩
  .exact⟨o,p c o (G.uQ M c D) z i f (G.gI M c D),F⟩
 refine⟨G.ok,G.os,ad,⟨λA o D U d N=> ?_,λA o D U d N=> ?_,λA o D U N=> ?_,λA o D N=> ?_,λA b D=>L A b (G.base.kj A b D),λA o b D=>P A o b (G.base.i4 A o b D),λA m D=> ?_⟩, ?_,λM c D=> ?_, ?_,λM c D=> ?_,λT X=> ?_,ab,G.len⟩
 .exact p A o (x A o D) d (n A o D N) (G.base.keep A o D U d N) (G.base.free A o D U N)
 .obtain⟨σ,a⟩:=G.base.slot A o D U d N;obtain⟨am,j⟩:=w A _ (x A o D) d (n A o D N) a (G.base.free A o D U N);exact⟨am,j⟩
 .obtain⟨s,a⟩:=G.base.there A o D N;exact l A s (n A o D N) a (G.base.free A o D U N)
 .obtain⟨s,a⟩:=G.base.there A o D N;exact K A s (n A o D N) a
 .obtain⟨an,a⟩:=G.base.kl A m D;obtain⟨ap,j⟩:=R A _ a;exact⟨an++ap,by rw [j,Array.append_assoc]⟩
 .obtain⟨e,as,a0⟩:=G.loc;refine⟨e,W e as,λa1 M v a j a2=> ?_⟩;obtain⟨u,a3,h'⟩:=a0 a1 M v a j a2;refine⟨u,a3, ?_⟩;rcases h' with h'|⟨k,c,D,Q⟩
  .exact .inl h'
  .exact .inr ⟨k,c,D,y M c D _ Q⟩
 .obtain⟨v,Q⟩:=G.cell M c D;exact⟨v,y M c D v Q⟩
 .obtain⟨e,⟨o,_,_,f,_⟩,_⟩:=G.loc;exact l _ o (λQ=>(g _ Q).2.1 rfl) f G.free
 .obtain⟨v,o,f,F⟩:=G.cell M c D;exact l c o (λQ=>(g c Q).2.2.1 M c D S) f (G.gI M c D)
 .obtain⟨D,U,C,E,a4⟩:=G.pin T X;have i:T.1∉ch:=λQ=>(g T.1 Q).2.2.2 T X S
  exact⟨p T.1 T.2 C E i D U,l T.1 T.2 i D U,C,E,a4⟩
def Inv.un{t':Nat}(M:Inv h pp GE H t)(u:Un h.fs [] H q t.heap h')(T:dr h.prog h.w q h'):Inv h pp GE q {t with heap:=h',toks:=t'}:=by
 obtain⟨f,⟨o,g,X,Q,i⟩,_⟩:=id M.loc;obtain⟨j,U⟩:=u.any Q M.free (by simp);exact M.step (g':=t.gens) (d':=t.drawn) (ch:=[]) (λ_ a=>nomatch a) (λA o _ N _ D G=>u.keep A o D G N (by simp)) (λA o _ N _ D G=>u.slot A o D G N (by simp)) (λA o _ D G=>u.free A o D G (by simp)) (λA o _ D=>u.there A o D (by simp)) u.kj u.i4 u.kl (λk b=>by obtain⟨l,c,d,S,e⟩:=b;rw [Q]at S;cases S;exact⟨_,c,d,U,e⟩) T M.bare
def Inv.call{g':Array Fe}{t':Nat}{d':Drawn}{ch:List Z}(N:Inv h pp GE H t)(u:Un (ea h.stack) ch H q t.heap h')(d:dr h.prog h.w q h')(e:j4 g')(U:∀A∈ch,(A∈h.ex\/h.d9.heap.objs.size<=A)/\A≠h.env.locals/\(∀f c,h.env.cells.lookup f=Y c->c≠A)/\∀g∈h.pn++pp,g.1≠A):Inv h pp GE q {t with heap:=h',gens:=g',drawn:=d',toks:=t'}:=by
 obtain⟨m,⟨o,n,p,a,s⟩,_⟩:=id N.loc;obtain⟨r,Q⟩:=u.any a N.free λT=>(U _ T).2.1 rfl;exact N.step (ch:=ch) U (λA o Q X D G M=>u.keep A o G M (λT=>(bb.mp (N.rM A T)).elim Q X) D) (λA o _ _ D G M=>u.any G M D) (λA o D G M=>u.free A o G M D) (λA o D G=>u.there A o G D) u.kj u.i4 u.kl (λσ i=>by obtain⟨v,j,k,b,l⟩:=i;rw [a]at b;cases b;exact⟨_,j,k,Q,l⟩) d e
def Inv.turned{t':Nat}(T:Inv h pp GE H t)(Q:∀A o,A≠d->t.heap.get? A=Y o->B.get? A=Y o)(b:H d=O)(U:d≠h.env.locals)(M:d∈h.ex\/h.d9.heap.objs.size<=d) (e:∀f c,h.env.cells.lookup f=Y c->c≠d) (g:∀X∈h.pn++pp,X.1≠d):Inv h pp GE H {t with heap:=B,toks:=t'}:=by
 have a:∀A u,H A=Y u->A≠d:=λA u D G=>by rw [G,b]at D;cases D
 refine T.step (g':=t.gens) (d':=t.drawn) (ch:=[d]) (λA i=> ?_) (λA o _ _ N D _=>Q A o (λG=>N (by simp [G])) D) (λA o _ _ N D _=>⟨o.slots,Q A o (λG=>N (by simp [G])) D⟩) (λ_ _ _ _ j=>j)
  (λA o N D=>⟨o,Q A o (λG=>N (by simp [G])) D⟩) (λ_ _ D=>D) (λ_ _ _ D=>D) (λA q D=>⟨#[],by rw [D];simp⟩) (λr k=> ?_) (λA u D=> ?_) T.bare
 .have D:A=d:=by simpa using i
  subst D;exact⟨M,U,e,g⟩
 .obtain⟨o,l,m,n,p⟩:=k;exact⟨o,l,m,Q _ o (eO U) n,p⟩
 .refine(T.bg A u D).i3 (λc v N S=>Q c v ?_ S) (λ_ S=>S) λ_ _ S=>S;rcases N with G|G
  .rw [G];exact a A u D
  .exact a c _ G
def Inv.tok(A:Inv h pp GE H t)(D:Nat):Inv h pp GE H {t with toks:=D}:=A.un (h':=t.heap) (t':=D) Un.refl A.bg
def Inv.kept{t':Nat}(A:Inv h pp GE H t)(D:∀G u,t.heap.get? G=Y u->B.get? G=Y u):Inv h pp GE H {t with heap:=B,toks:=t'}:=A.un (Un.kept D) (A.bg.kept D)
def Inv.laid{a:Z}{o:HO}{t':Nat}(A:Inv h pp GE H t)(G:∀M u,t.heap.get? M=Y u->h'.get? M=Y u)(D:t.heap.objs.size<=a)(N:dZ h.prog h.w (upd H a o) h' a o):Inv h pp GE (upd H a o) {t with heap:=h',toks:=t'}:=A.un (Un.laid G D (A.bg.fresh D)) (A.bg.laid G D N)
def Inv.write{x e:Z}{o:HO}{t':Nat}(D:Inv h pp GE H t)(G:cX (H x))(M:e=x\/H e=Y (.own x))(N:∀A u,A≠e->t.heap.get? A=Y u->h'.get? A=Y u)(Q:∃u,h'.get? e=Y u)(S:dZ h.prog h.w (upd H x o) h' x o):Inv h pp GE (upd H x o) {t with heap:=h',toks:=t'}:=D.un (Un.write G M N Q) (D.bg.write G M N Q S)
variable{Vs:List (Option V)}
def Inv.weak(A:Inv h pp Vs H t)(M:GE.length=Vs.length)(N:∀(D:Nat) v,GE[D]?=Y (Y v)->Vs[D]?=Y (Y v)):Inv h pp GE H t:=
 ⟨A.ok,A.os,A.bare,A.base,let⟨Q,S,T⟩:=A.loc;⟨Q,S,λD U v a b c=>T D U v a (N D v b) c⟩,A.cell,A.free,A.gI,A.pin,A.bg,M.trans A.len⟩
variable{Vt:List (Z×aL)}
def Inv.zx(A:Inv h Vt GE H t)(M:∀D∈pp,t.heap.get? D.1=Y D.2/\H D.1=O/\D.1≠h.env.locals/\D.1∉h.fs/\∀v,D.2.data≠.cell v):Inv h pp GE H t:=
 ⟨A.ok,A.os,A.bare,A.base,A.loc,A.cell,A.free,A.gI,λD N=>(bS.mp N).elim (λQ=>A.pin D (gQ _ Q)) (M D),A.bg,A.len⟩
variable{t0:List aa}{AT:Nat}{op:aa}
def uR(N:t0.Nodup)(Q:t0[r]?=Y op)(S:t0[AT]?=Y op):r=AT:=by obtain⟨a,T⟩:=cM.mp Q;obtain⟨b,U⟩:=cM.mp S;exact(List.getElem_inj N).mp (T.trans U.symm)
variable{KK:Unit->aj->Prop}{No:kR}{ss:b4}{s5:J->aj->Prop}
def zy{v:V}{u:J}(A:Inv h pp GE H t)(ad:h.N.Nodup)(l:h.N[r]?=Y op)(U:Loc h.env.scope op)(al:RelV v u)(am:∀w,Inv h pp (GE.set r (Y v)) H w->(∃f,ik f t.heap w.heap/\(f=h.env.locals\/h.env.cells.lookup op=Y f))->KK () w) (bi:h.fn op=I\/h.env.scope.names.lookup op=Y .local:=by first|exact .inl rfl|exact .inr rfl|assumption):aF No ss (Ff h.env op u) KK s5 t:=by
 obtain⟨bk,x,an⟩:=id A.loc;have bl:(h.env.scope.kind==.class||(h.env.scope.kind==.module&&h.env.locals !=h.env.globals))=ao:=by rw [A.ok.kind];rfl
 have ap:r<GE.length:=by rw [A.len];exact(cM.mp l).1
 have z:=A.uQ;have as:∀{f:Z} {B:aE},(∃o,t.heap.get? f=Y o/\H f=O)->ik f t.heap B->dr h.prog h.w H B:=λ{f B} bm G M bn D=>by
  obtain⟨_,_,a0⟩:=bm;refine(A.bg M bn D).i3 (λc p T a=>(G.2 c ?_).trans a) (λ_ a=>a) λ_ _ a=>a;rintro rfl;rcases T with rfl|T
  .rw [a0]at D;cases D
  .rw [a0]at T;cases T
 rcases U with g|g
 .refine wpAny_storeName_local g x (λB bs G=> ?_) bl;obtain⟨bt,_,_,bv,_⟩:=id x;refine am _ ⟨A.ok,A.os,A.bare,⟨λM o D b Q U=> ?_,λM o D b Q U=> ?_,A.base.free,λM o D U=> ?_,A.base.kj,A.base.i4,A.base.kl⟩,⟨_,bs,λm y X N e C=> ?_⟩,λy c D=> ?_,A.free,A.gI,λj E=> ?_,as ⟨bt,bv,A.free⟩ G,by simpa using A.len⟩ ⟨_,G,.inl S⟩
  .exact(G.2 M (fI (gP (dN D) A.ok.above))).trans (A.base.keep M o D b Q U)
  .obtain⟨F,N⟩:=A.base.slot M o D b Q U;exact⟨F,(G.2 M (fI (gP (dN D) A.ok.above))).trans N⟩
  .obtain⟨K,N⟩:=A.base.there M o D U;exact⟨K,(G.2 M (fI (gP (dN D) A.ok.above))).trans N⟩
  .by_cases i:m=r
   .subst i;rw [l]at N;cases N;rw [t4 ap]at e;cases e;exact⟨u,al,.inl ⟨g,by simp⟩⟩
   .rw [t5 (eO i)]at e;obtain⟨L,P,a⟩:=an m y X N e C;refine⟨L,P, ?_⟩;rcases a with⟨n,D⟩|⟨n,c,D,d⟩
    .refine .inl ⟨n, ?_⟩;have:y≠op:=λD=>i (uR ad N (D▸l))
     simp [this,D]
    .exact .inr ⟨n,c,D,d.sameBut G (z y c D)⟩
  .obtain⟨p,d⟩:=A.cell y c D;exact⟨p,d.sameBut G (z y c D)⟩
  .obtain⟨D,b,q,R,s⟩:=A.pin j E;exact⟨(G.2 j.1 q).trans D,b,q,R,s⟩
 .have W:h.fn op=I:=by
   rcases bi with d|d
   .exact d
   .rw [d]at g;cases g
  obtain⟨c,T⟩:=A.ok.has op (.inl g);obtain⟨p,d⟩:=A.cell op c T;refine wpAny_storeName_cell A.ok.kind g T d (λB a1 G=> ?_);obtain⟨a2,a3,ca⟩:=id d;refine am {t with heap:=B} ⟨A.ok,A.os,A.bare,⟨λM o D b Q U=> ?_,λM o D b Q U=> ?_,A.base.free,λM o D U=> ?_,A.base.kj,A.base.i4,A.base.kl⟩,⟨bk,x.sameBut G (eO (z op c T)),λm y X N e C=> ?_⟩,λy k D=> ?_,A.free,A.gI,λj E=> ?_,as ⟨a2,a3,A.gI op c T⟩ G,by simpa using A.len⟩ ⟨c,G,.inr T⟩
  .exact(G.2 M (fI (gP (dN D) (A.ok.mu op c W T)))).trans (A.base.keep M o D b Q U)
  .obtain⟨F,N⟩:=A.base.slot M o D b Q U;exact⟨F,(G.2 M (fI (gP (dN D) (A.ok.mu op c W T)))).trans N⟩
  .obtain⟨K,N⟩:=A.base.there M o D U;exact⟨K,(G.2 M (fI (gP (dN D) (A.ok.mu op c W T)))).trans N⟩
  .by_cases i:m=r
   .subst i;rw [l]at N;cases N;rw [t4 ap]at e;cases e;exact⟨u,al,.inr ⟨.inl g,c,T,a1⟩⟩
   .rw [t5 (eO i)]at e;obtain⟨L,P,a⟩:=an m y X N e C;refine⟨L,P, ?_⟩;rcases a with a|⟨n,k,D,cd⟩
    .exact .inl a
    .refine .inr ⟨n,k,D,cd.sameBut G ?_⟩;rintro rfl;exact i (uR ad N (A.ok.inj _ _ _ D T▸l))
  .by_cases a4:k=c
   .subst a4;exact⟨_,a1⟩
   .obtain⟨ce,ch⟩:=A.cell y k D;exact⟨ce,ch.sameBut G a4⟩
  .obtain⟨D,b,q,R,s⟩:=A.pin j E;refine⟨(G.2 j.1 ?_).trans D,b,q,R,s⟩;intro a;rw [a,a3]at D;have ci:a2=j.2:=a8 D
   exact s p (by rw [<-ci];exact ca)
def uS{v:V}{u:J}(U:Inv h pp GE H t)(a:h.N.Nodup)(b:h.N[r]?=Y op)(c:Loc h.env.scope op)(d:RelV v u)(e:∀D,Inv h pp (GE.set r (Y v)) H D->KK () D) (f:h.fn op=I\/h.env.scope.names.lookup op=Y .local:=by first|exact .inl rfl|exact .inr rfl|assumption):aF No ss (Ff h.env op u) KK s5 t:=
 zy U a b c d (λD g _=>e D g) f
def Inv.qa{s':aj}{ch:List Z}(D:Inv h pp GE H t)(G:s'.os=t.os)(u:Un (ea h.stack) ch H q t.heap s'.heap)(M:dr h.prog h.w q s'.heap)(N:j4 s'.gens)(Q:∀A∈ch,(A∈h.ex\/h.d9.heap.objs.size<=A)/\A≠h.env.locals/\(∀S c,h.env.cells.lookup S=Y c->c≠A)/\∀T∈h.pn++pp,T.1≠A):Inv h pp GE q s':=by
 obtain⟨B,U,a,b,d⟩:=s';have e:d=t.os:=G
 subst e;exact D.call (g':=U) (t':=b) (d':=a) u M N Q
abbrev XK:=J->Option Z->G->Prop
abbrev St:=List (Option V)
abbrev VK:=V->G->Prop
abbrev TE:=St->G->VK->Prop
abbrev TT:=St->G->(Bool->G->Prop)->Prop
abbrev TA:=St->G->(List V->G->Prop)->Prop
structure Ends where
 nx:St->G->Prop
 rt:VK
 bk:St->G->Prop:=λ_ _=>False
 ct:St->G->Prop:=λ_ _=>False
abbrev TS:=Ends->St->G->Prop
def EP(D:Cx)(G:List (Z×aL))(M:St)(N:VK)(u:J)(Q:aj):Prop:=∃v A,Inv D G M A Q/\RelV v u/\N v A
def TP(D:Cx)(M:List (Z×aL))(N:St)(Q:Bool->G->Prop)(S:Bool)(T:aj):Prop:=∃A,Inv D M N A T/\Q S A
def AP(M:Cx)(N:List (Z×aL))(Q:St)(S:List V->G->Prop)(T:List J)(U:aj):Prop:=∃A D,Inv M N Q D U/\Vals A T/\S A D
def SP(G:Cx)(M:List (Z×aL))(N:Ends)(S:Flow)(Q:aj):Prop:=
 match S with
 |.next=>∃D A,Inv G M D A Q/\N.nx D A
 |.brk=>∃D A,Inv G M D A Q/\N.bk D A
 |.cont=>∃D A,Inv G M D A Q/\N.ct D A
 |.ret u=>∃v D A,Inv G M D A Q/\RelV v u/\N.rt v A
def PE(A:Cx)(S:aZ)(T:TE):Prop:=
 ∀(M:List (Z×aL)) (N:aj) (D:St) (H:G) (Q:VK),Inv A M D H N->T D H Q->aF (aM A.prog A.w) A.A (eval S A.env) (EP A M D Q) A.xe N
def PT(A:Cx)(M:aZ)(T:TT):Prop:=
 ∀(N:List (Z×aL)) (Q:aj) (D:St) (H:G) (S:Bool->G->Prop),Inv A N D H Q->T D H S->aF (aM A.prog A.w) A.A (isTrue M A.env (eval M A.env)) (TP A N D S) A.xe Q
def PW(A:Cx)(S:aZ)(T:TT):Prop:=
 ∀(U:fw J) (M:List (Z×aL)) (N:aj) (D:St) (H:G) (Q:Bool->G->Prop),Inv A M D H N->T D H Q->aF (aM A.prog A.w) A.A (isTrue S A.env U) (TP A M D Q) A.xe N
variable{P:aZ}{Hp:TT}
def PW.pt(M:PW h P Hp):PT h P Hp:=M _
def PA(A:Cx)(S:List aZ)(T:TA):Prop:=
 ∀(U:b3) (M:List (Z×aL)) (N:aj) (D:St) (H:G) (Q:List V->G->Prop),Inv A M D H N->T D H Q->aF (aM A.prog A.w) A.A (spliced (fc U (cw S A.env))) (AP A M D Q) A.xe N
def PS(A:Cx)(S:a6)(T:TS):Prop:=
 ∀(D:List (Z×aL)) (M:aj) (N:St) (H:G) (Q:Ends),Inv A D N H M->T Q N H->aF (aM A.prog A.w) A.A (exec S A.env) (SP A D Q) A.xe M
def gm(A:Cx)(S:List a6)(T:TS):Prop:=
 ∀(D:List (Z×aL)) (M:aj) (N:St) (H:G) (Q:Ends),Inv A D N H M->T Q N H->aF (aM A.prog A.w) A.A (execs S A.env) (SP A D Q) A.xe M
def aN{G:fw s2}{M N:s2->aj->Prop}(a:aF No ss G M s5 t)(b:∀U t,M U t->N U t):aF No ss G N s5 t:=g6 a b λ_ _ c=>c
variable{py:St}{sB:aZ}{sc:TE}{U3:V->V->G->Prop}
def bin{c:TE}(X:PE h P sc)(i:PE h sB c){H:G}(j:Inv h pp py H t)(k:sc py H λD T=>c py T λy M=>U3 D y M) {f:s2->aj->Prop} {g:J->J->fw s2}(l:∀v u Q D y M,Inv h pp py M Q->RelV D v->RelV y u->U3 D y M->aF (aM h.prog h.w) h.A (g v u) f h.xe Q):aF (aM h.prog h.w) h.A (eval P h.env) (λv m=>aF (aM h.prog h.w) h.A (eval sB h.env) (λu n=>aF (aM h.prog h.w) h.A (g v u) f h.xe n) h.xe m) h.xe t:=by refine aN (X pp t py H _ j k) λv o ⟨D,T,p,q,r⟩=> ?_;refine aN (i pp o py T _ p r) λu Q ⟨y,M,s,A,w⟩=> ?_;exact l v u Q D y M s q A w
def jF(A:Nat):TE:=λD H G=>∃v,D[A]?=Y (Y v)/\G v H
def tC(v:V):TE:=λ_ H A=>A v H
variable{pv:b3}
def Ha(U:h.N[r]?=Y op)(d:nX h.env.scope op)(N:(op==("__debug__":aa))=ao:=by decide)(e:(op==("__classdict__":aa))=ao:=by decide):PE h (.Name op pv) (jF r):=by
 intro f g D H i G Q;obtain⟨v,j,Q⟩:=Q;obtain⟨p,k,l⟩:=G.loc;obtain⟨u,m,n⟩:=l r op v U j d;have S:EP h f D i u g:=⟨v,H,G,m,Q⟩
 rcases n with⟨A,o⟩|⟨A,c,a,b⟩
 .exact Fg (Qp G.ok.kind A k o S) N
 .rcases A with A|A
  .exact Fg (Qq G.ok.kind A a b S) N
  .exact Fg (wpAny_loadName_free G.ok.kind A a b S e) N
def cK{i a b}:PE h (.Constant (.int i) a b) (tC (.int i)):=λ_ _ _ H _ A D=>wpAny_Constant_int ⟨.int i,H,A.tok _,⟨_,S⟩,D⟩
def hy{a b c}:PE h (.Constant (.bool a) b c) (tC (.bl a)):=λ_ _ _ H _ A D=>Constant_bool ⟨.bl a,H,A,S,D⟩
def uT{a b}:PE h (.Constant .none a b) (tC .br):=λ_ _ _ H _ A D=>Qr ⟨.br,H,A,S,D⟩
def dP{x a b}:PE h (.Constant (.str x) a b) (tC (.str x)):=λ_ _ _ H _ A D=>Calls.Constant_str ⟨.str x,H,A.tok _,⟨_,S⟩,D⟩
def Gl(X:Cx)(A:aa):Prop:=X.env.kindOf A=Y .globalImplicit
variable{IN:J->aj->Prop}
def n0{H:G}{u:J}(D:Inv h pp py H t)(a:Gl h op)(b:h.U op=Y u)(c:s5 u t)(d:(op==("__debug__":aa))=ao:=by decide):aF (aM h.prog h.w) h.A (eval (.Name op pv) h.env) s5 IN t:=
 Qs D.ok.kind a (Calls.loadGlobal_global (by rw [D.ok.glob];exact D.mod.glob.keeps D.bk) b c) d
def rO{H:G}{u:J}(D:Inv h pp py H t)(a:Gl h op)(b:h.U op=O)(c:t2 op=Y u)(d:s5 u t)(e:op≠"__name__":=by decide) (f:(op==("__debug__":aa))=ao:=by decide):aF (aM h.prog h.w) h.A (eval (.Name op pv) h.env) s5 IN t:=by obtain⟨i,g,A⟩:=D.mod.blt;exact Qs D.ok.kind a (Calls.loadGlobal_builtin (by rw [D.ok.glob];exact D.mod.glob.keeps D.bk) b (by rw [D.ok.blt];exact g.keeps D.bk) ((A op e).trans c) d) f
def el{v:V}{u:J}(M:Gl h op)(N:h.U op=Y u)(Q:RelV v u)(S:(op==("__debug__":aa))=ao:=by decide):PE h (.Name op pv) (tC v):=
 λ_ _ _ H _ D T=>n0 D M N ⟨v,H,D,Q,T⟩ S
def PC(X:Cx)(Q:nr)(a b:aZ)(S:TE):Prop:=
 ∀(D:List (Z×aL)) (M:aj) (A:St) (H:G) (N:VK),Inv X D A H M->S A H N->
  aF (aM X.prog X.w) X.A (eval a X.env) (λv T=>aF (aM X.prog X.w) X.A (eval b X.env) (λu U=>aF (aM X.prog X.w) X.A (fJ Q v u) (EP X D A N) X.xe U) X.xe T) X.xe M
def zz(b:aZ){A:nr}(D:A≠.In)(G:A≠.NotIn):nt A b=ao:=by
 have M:(A==Qt)=ao:=by cases A<;>first|rfl|exact absurd rfl D
 have N:(A==Qu)=ao:=by cases A<;>first|rfl|exact absurd rfl G
 cases b<;>simp [nt,M,N]
def Hb(ta:TE):TE:=λA H D=>ta A H λG M=>D (.bl (!decide (G=.br))) M
variable{v1:V}
def RelV.Hc{v:J}(A:RelV v1 v):(v==j2)=decide (v1=.br):=by
 cases v1 with
 |br=>cases A;rfl
 |bl _=>cases A;rfl
 |int _=>obtain⟨G,rfl⟩:=A;rfl
 |str _=>obtain⟨G,rfl⟩:=A;rfl
 |fW _=>obtain⟨G,rfl⟩:=A;rfl
 |p8 _=>obtain⟨G,rfl⟩:=A;rfl
 |ref _=>cases A;rfl
 |ty _=>cases A;rfl
def Hd{c d}(A:PE h P sc):PC h .IsNot P (.Constant .none c d) (Hb sc):=by intro D G M H g N Q;refine aN (A D G M H _ N Q) λv X ⟨i,T,U,e,f⟩=> ?_;exact Qr (Qv ⟨.bl _,T,U,by rw [e.Hc];rfl,f⟩)
def tB(A:TE):TT:=λD H G=>A D H λM N=>∃c,M=.bl c/\G c N
def He{A:nr}(G:PC h A sB P sc)(M:nt A P=ao:=by first|exact zz _ (by decide) (by decide)|rfl):PE h (.Compare sB [A] [P] pv) sc:=λN Q T H U c hw=>Qw (G N Q T H U c hw) M
def i5{A:nr}(M:PC h A sB P sc)(D:nt A P=ao:=by first|exact zz _ (by decide) (by decide)|rfl):PT h (.Compare sB [A] [P] pv) (tB sc):=by intro N Q T H j U hw;refine Qx (aN (M N Q T H _ U hw) λv k D=>aN D λu l d=>aN d λc m ⟨n,e,f,g,b⟩=> ?_) D;obtain⟨o,rfl,i⟩:=b;cases g;exact pG ⟨e,f,i⟩
def ko(M:PE h P sc)(N:∀G,isTrue P h.env G=(do let v<-G;pH P.pos;l1 [v] (truthy v)):=by intro _;rfl):PT h P (tB sc):=by intro Q T U H i c hw;refine Qy (aN (M Q T U H _ c hw) λv j ⟨k,d,e,f,g⟩=> ?_) (N _);obtain⟨l,rfl,A⟩:=g;cases f;exact pG ⟨d,e,A⟩
def Hf(M u:TT):TT:=λA H D=>M A H λc G=>if c=I then u A G D else D ao G
def Hg(M u:TT):TT:=λA H D=>M A H λc G=>if c=I then D I G else u A G D
def Hh(A:TT):TT:=λD H G=>A D H λc M=>G (!c) M
def uU(D:PT h P Hp):PW h (.BoolOp .And [P] pv) Hp:=by
 intro U G M N H Q S T;refine isTrue_and (aN (D G M N H Q S T) λc d A=> ?_);cases c with
 |true=>exact isTrue_and_nil A
 |false=>exact A
def uV(D:PT h P Hp):PW h (.BoolOp .Or [P] pv) Hp:=by
 intro U G M N H Q S T;refine isTrue_or (aN (D G M N H Q S T) λc d A=> ?_);cases c with
 |false=>exact isTrue_or_nil A
 |true=>exact A
variable{Vh:TT}{tz:List aZ}
def uW(Q:PT h P Hp)(S:PW h (.BoolOp .And (sB::tz) pv) Vh):PW h (.BoolOp .And (P::sB::tz) pv) (Hf Hp Vh):=by
 intro T A U D H d e f;refine isTrue_and (aN (Q A U D H _ e f) λc g ⟨G,M,N⟩=> ?_);cases c with
 |true=>exact S T A g D G d M N
 |false=>exact⟨G,M,N⟩
def uX(Q:PT h P Hp)(S:PW h (.BoolOp .Or (sB::tz) pv) Vh):PW h (.BoolOp .Or (P::sB::tz) pv) (Hg Hp Vh):=by
 intro T A U D H d e f;refine isTrue_or (aN (Q A U D H _ e f) λc g ⟨G,M,N⟩=> ?_);cases c with
 |true=>exact⟨G,M,N⟩
 |false=>exact S T A g D G d M N
def rQ(A:PT h P Hp):PT h (.UnaryOp .Not P pv) (Hh Hp):=by intro D G M H N Q S;exact isTrue_not (A D G M H (λc T=>N (!c) T) Q S)
def Hi(ta tb:TE):TE:=λA H D=>ta A H λM G=>∃c,M=.bl c/\if c=I then tb A G D else D (.bl ao) G
def zA{c}(D:PE h P sc):PE h (.BoolOp c [P] pv) sc:=λG M N H Q S hw=>BoolOp_one (D G M N H Q S hw)
variable{xz:TE}
def rR(Q:PE h P sc)(T:PE h (.BoolOp .And (sB::tz) pv) xz):PE h (.BoolOp .And (P::sB::tz) pv) (Hi sc xz):=by
 intro D U G H d e f;refine BoolOp_and (aN (Q D U G H _ e f) λv g ⟨i,M,N,X,A⟩=> ?_);obtain⟨c,rfl,A⟩:=A;cases X;refine pG ?_;cases c with
 |true=>exact T D g G M d N A
 |false=>exact⟨.bl ao,M,N,S,A⟩
def au(K:ah)(H:G)(D:Z)(M:List V):Prop:=
 Rd H D (.lst M)\/
  ∃(o:aL) (A:Array J) (N:Nat),K.lookup D=Y o/\o.cls=.type "list"/\o.dict=O/\o.data=.seq A N/\A.size<=aR/\Vals M A.toList
def av(K:ah)(H:G)(D:Z)(M:List V):Prop:=
 Rd H D (.tup M)\/
  ∃(o:aL) (A:Array J) (N:Nat),K.lookup D=Y o/\o.cls=.type "tuple"/\o.data=.seq A N/\A.size<=aR/\Vals M A.toList
def Hj:J->Option V
 |.none=>Y .br
 |.bool b=>Y (.bl b)
 |.int i _=>Y (.int i)
 |.str x _=>Y (.str x)
 |.bytes b _=>Y (.fW b)
 |.float b _=>Y (.p8 b)
 |.ref a=>Y (.ref a)
 |.type n=>Y (.ty n)
 |_=>O
def RelV.abs{u:J}(A:RelV v1 u):Hj u=Y v1:=by
 cases v1 with
 |br=>cases A;rfl
 |bl _=>cases A;rfl
 |int _=>obtain⟨G,rfl⟩:=A;rfl
 |str _=>obtain⟨G,rfl⟩:=A;rfl
 |fW _=>obtain⟨G,rfl⟩:=A;rfl
 |p8 _=>obtain⟨G,rfl⟩:=A;rfl
 |ref _=>cases A;rfl
 |ty _=>cases A;rfl
def RelV.inj{y:V}{u:J}(D:RelV v1 u)(G:RelV y u):v1=y:=a8 (D.abs.symm.trans G.abs)
def Vals.inj:∀{A D:List V} {G:List J},Vals A G->Vals D G->A=D
 |_,_,_,.nil,.nil=>rfl
 |_,_,_,.cons a b,.cons c d=>by rw [a.inj c,Vals.inj b d]
def au.of{K:ah}(A:H d=Y (.lst ul)):au K H d ul:=.inl (.inl A)
def av.of{K:ah}(A:H d=Y (.tup ul)):av K H d ul:=.inl (.inl A)
def Inv.list(Q:Inv h pp py H t)(G:au h.K H d ul):∃A:List J,Vals ul A/\PlainL t.heap d A.toArray/\ul.length<=aR:=by
 rcases G with G|⟨o,A,M,b,c,hd,a,e,D⟩
 .obtain⟨T,A,M,D,N⟩:=G.ok Q.bg;exact⟨A,D,⟨_,M,N,S,S,S⟩,T⟩
 .refine⟨A.toList,D,⟨o,M,Q.fh d o b,c,hd,by simpa using a⟩, ?_⟩;have N:=D.length
  simp only [q9]at N;omega
def Inv.tuple(M:Inv h pp py H t)(G:av h.K H d ul):∃A:List J,Vals ul A/\IsTup t.heap d A.toArray/\ul.length<=aR:=by
 rcases G with G|⟨o,A,n,b,c,a,e,D⟩
 .obtain⟨N,A,D,Q⟩:=G.ok M.bg;exact⟨A,D,Q,N⟩
 .refine⟨A.toList,D,⟨o,M.fh d o b,c,n,by simpa using a⟩, ?_⟩;have S:=D.length
  simp only [q9]at S;omega
variable{UU:List V}
def Inv.zB(A:Inv h pp py H t)(M:au h.K H d ul)(N:au h.K H d UU):ul=UU:=by
 obtain⟨Q,S,⟨o,e,T,_,_,U⟩,_⟩:=A.list M;obtain⟨b,c,⟨f,g,D,_,_,G⟩,_⟩:=A.list N;rw [T]at D;cases D;rw [U]at G;injection G with X _;have:Q=b:=by simpa using bN Fh X
 subst this;exact S.inj c
def Inv.Hk(A:Inv h pp py H t)(M:av h.K H d ul)(N:av h.K H d UU):ul=UU:=by
 obtain⟨Q,S,⟨o,T,_,e,U⟩,_⟩:=A.tuple M;obtain⟨b,c,⟨f,D,_,g,G⟩,_⟩:=A.tuple N;rw [T]at D;cases D;rw [U]at G;injection G with X _;have:Q=b:=by simpa using bN Fh X
 subst this;exact S.inj c
abbrev Cx.jG(A:Cx)(D:J->aj->Prop):Cx:={A with xe:=D}
abbrev Cx.qb(A:Cx):Cx:=A.jG λ_ _=>False
def Cx.Ok.jG(A:h.Ok)(G:J->aj->Prop):(h.jG G).Ok:=
 ⟨A.mod,A.kind,A.glob,A.blt,A.above,A.inj,A.has,A.mu,A.hd,A.frames,A.nY,A.nZ,A.bs,A.iy,A.mv,A.mw,A.funs,A.kn⟩
def Cx.Ok.k9(A:(h.jG s5).Ok):h.Ok:=
 ⟨A.mod,A.kind,A.glob,A.blt,A.above,A.inj,A.has,A.mu,A.hd,A.frames,A.nY,A.nZ,A.bs,A.iy,A.mv,A.mw,A.funs,A.kn⟩
def Inv.jG(A:Inv h pp py H t)(E:J->aj->Prop):Inv (h.jG E) pp py H t:=⟨A.ok.jG E,A.os,A.bare,A.base,A.loc,A.cell,A.free,A.gI,A.pin,A.bg,A.len⟩
def Inv.k9(A:Inv (h.jG s5) pp py H t):Inv h pp py H t:=⟨A.ok.k9,A.os,A.bare,A.base,A.loc,A.cell,A.free,A.gI,A.pin,A.bg,A.len⟩
variable{xL:Ends}
def SP.k9{Q:Flow}(N:SP (h.jG s5) pp xL Q t):SP h pp xL Q t:=by
 cases Q with
 |next=>obtain⟨A,D,G,M⟩:=N;exact⟨A,D,G.k9,M⟩
 |brk=>obtain⟨A,D,G,M⟩:=N;exact⟨A,D,G.k9,M⟩
 |cont=>obtain⟨A,D,G,M⟩:=N;exact⟨A,D,G.k9,M⟩
 |ret u=>obtain⟨v,A,D,G,U,M⟩:=N;exact⟨v,A,D,G.k9,U,M⟩
variable{Pi:List a6}{Id:TS}
def gm.qb(G:gm h.qb Pi Id):gm h Pi Id:=λpp t py H M N hw=>
 g6 (G pp t py H M (N.jG _) hw) (λ_ _ Q=>Q.k9) λ_ _ S=>g7 S
def Hl:TS:=λA D H=>A.nx D H
def Hm(t u:TS):TS:=λA D H=>t {A with nx:=u A} D H
def bP:gm h [] Hl:=λ_ _ A H _ D G=>t6 ⟨A,H,D,G⟩
variable{wE:a6}{u:TS}
def ar(M:PS h wE Id)(N:gm h Pi u):gm h (wE::Pi) (Hm Id u):=by
 intro G Q S H D T U;refine Qz (aN (M G Q S H {D with nx:=u D} T U) λa b A=> ?_);cases a with
 |next=>
  obtain⟨c,d,f,A⟩:=A;exact N G b c d D f A
 |ret v=>exact A
 |brk=>exact A
 |cont=>exact A
def ax(D:PS h wE Id):gm h [wE] Id:=by
 intro G M N H Q S T;refine Qz (aN (D G M N H Q S T) λU a A=> ?_);cases U with
 |next=>exact t6 A
 |ret v=>exact A
 |brk=>exact A
 |cont=>exact A
def Hn:TS:=λA D H=>A.ct D H
def Ho:PS h (.Continue pv) Hn:=λ_ _ A H _ D G=>wpAny_Continue ⟨A,H,D,G⟩
def Inv.quiet{H:G}(N:Inv h pp py H t):interactive h.env=ao:=by simp [interactive,N.ok.kind]
def Hq(te:TE):TS:=λD A H=>te A H λ_ G=>D.nx A G
def cL(G:PE h P sc)(M:l2 P O pv.line h.env=df ao:=by rfl):PS h (.Expr P pv) (Hq sc):=by intro N Q A H c D T;exact wpAny_Expr_any (aN (G N Q A H _ D T) λv d ⟨f,U,a,g,b⟩=>⟨A,U,a,b⟩) D.quiet M
def Hr(te:TE):TS:=λA D H=>te D H A.rt
def aQ(D:PE h P sc):PS h (.Return (Y P) pv) (Hr sc):=by intro G M A H c N Q;exact wpAny_Return_some (aN (D G M A H _ N Q) λv d ⟨S,T,U,a,b⟩=>⟨S,A,T,U,a,b⟩)
def Hs:TS:=λA _ H=>A.rt .br H
def Ht:PS h (.Return O pv) Hs:=λ_ _ A H _ D G=>wpAny_Return_none ⟨.br,A,H,D,S,G⟩
def Hu(c:TT)(t u:TS):TS:=λD A H=>c A H λM G=>if M=I then t D A G else u D A G
variable{Vu:List a6}
def bH{c:aZ}(b:PT h c Hp)(d:gm h Pi Id)(f:gm h Vu u):PS h (.If c Pi Vu pv) (Hu Hp Id u):=by
 intro A g D H Q X i;refine wpAny_If (aN (b A g D H _ X i) λj S ⟨T,U,a⟩=> ?_);cases j with
 |true=>exact d A S D T Q U a
 |false=>exact f A S D T Q U a
abbrev TG:=V->St->G->(St->G->Prop)->Prop
abbrev lg:=List V->St->G->(St->G->Prop)->Prop
def PG(A:Cx)(U:aZ)(a:TG):Prop:=
 ∀(D:List (Z×aL)) (M:aj) (N:St) (H:G) (v:V) (u:J) (Q:St->G->Prop),Inv A D N H M->RelV v u->a v N H Q->
  aF (aM A.prog A.w) A.A (t7 U A.env u) (λ_ b=>∃S T,Inv A D S T b/\Q S T) A.xe M
def qc(A:Cx)(b:List aZ)(c:lg):Prop:=
 ∀(D:List (Z×aL)) (M:aj) (N:St) (H:G) (Q:List V) (S:List J) (T:St->G->Prop),Inv A D N H M->Vals Q S->c Q N H T->
  aF (aM A.prog A.w) A.A (assignInOrder ((pI b A.env).map (·.2)) S) (λ_ d=>∃U a,Inv A D U a d/\T U a) A.xe M
abbrev uY:=V->V->G->VK->Prop
def Hv(A:Cx)(T:t8)(U:uY):Prop:=
 ∀(D:List (Z×aL)) (M:aj) (N:St) (H:G) (Q y:V) (v u:J) (S:VK),Inv A D N H M->RelV Q v->RelV y u->U Q y H S->
  aF (aM A.prog A.w) A.A (t9 T v u) (EP A D N S) A.xe M
def lh(A:Nat):TG:=λv D H G=>G (D.set A (Y v)) H
def Hw(G:h.N.Nodup)(M:h.N[r]?=Y op)(N:Loc h.env.scope op)(Q:h.fn op=I\/h.env.scope.names.lookup op=Y .local:=by first|exact .inl rfl|exact .inr rfl|assumption):PG h (.Name op pv) (lh r):=by intro c d e H v u f T U a;exact QA (uS T G M N U (λg b=>⟨_,H,b,a⟩) Q)
def Hx:lg:=λA D H G=>A=[]/\G D H
def Hy(D:TG)(u:lg):lg:=λG M H N=>∃v A,G=v::A/\D v M H λQ S=>u A Q S N
def lj:qc h [] Hx:=by intro Q S D H T U a G M A;obtain⟨N,A⟩:=A;subst N;cases M;exact assignInOrder_nil ⟨D,H,G,A⟩
variable{Fa:TG}
def gX{u:lg}(T:PG h P Fa)(U:qc h tz u)(a:(pI (P::tz) h.env).map (·.2)=t7 P h.env::(pI tz h.env).map (·.2):=by rfl):qc h (P::tz) (Hy Fa u):=by
 intro Q b c H m n d e G M;obtain⟨v,o,f,M⟩:=M;subst f;cases G with
 |cons G g=>
  rw [a];refine assignInOrder_cons (aN (T Q b c H _ _ _ e G M) λ_ X ⟨i,j,k,l⟩=> ?_);exact U Q X i j _ _ d k g l
def zC(K:ah)(G:Nat)(M:lg):TG:=λv N H Q=>∃D A,v=.ref D/\av K H D A/\A.length=G/\M A N H Q
def ll{G:lg}(c:h.calm=I)(d:qc h tz G)(e:(pI tz h.env).length=r:=by rfl) (f:(pI tz h.env).findIdx? (·.1)=O:=by rfl):PG h (.Tuple tz AT pv) (zC h.K r G):=by
 intro N Q T H v u g D X hw;obtain⟨s,i,j,k,l,hw⟩:=hw;subst j;cases X;obtain⟨t,U,m,w⟩:=D.tuple k;refine assign_Tuple_tuple (D.ok.hd c) m (by simp [e,<-l,U.length]) f λn p=> ?_;have q:Inv h N T H {Q with heap:=n}:=D.kept (t':=Q.toks) λA o a=>p A o (fI (dN a)) a
 exact d N _ T H i _ g q (by simpa using U) hw
def uZ(D:TE)(G:TG):TS:=λM A H=>D A H λN Q=>G N A Q M.nx
variable{v4:b3}
def Hz(Q:h.N.Nodup)(T:h.N[r]?=Y op)(U:Loc h.env.scope op)(a:PE h P sc)(b:l2 P (Y (.Name op pv)) v4.line h.env=df ao:=by rfl)(c:h.fn op=I\/h.env.scope.names.lookup op=Y .local:=by first|exact .inl rfl|exact .inr rfl|assumption):PS h (.Assign [.Name op pv] P v4) (uZ sc (lh r)):=by intro d e f H n g X;refine wpAny_Assign_Name (aN (a d e f H _ g X) λv o ⟨y,i,j,k,l⟩=> ?_) b;exact uS j Q T U k (λp m=>⟨_,i,m,l⟩) c
def HA(D:Nat)(M:TE)(N:uY):TS:=λQ A H=>∃G,A[D]?=Y (Y G)/\M A H λy S=>N G y S λT U=>Q.nx (A.set D (Y T)) U
def zD{i:Nat}{Q:t8}{f:uY}(m:h.N.Nodup)(g:h.N[i]?=Y op)(T:Loc h.env.scope op)(n:PE h P sc)(o:Hv h Q f)(p:h.fn op=I\/h.env.scope.names.lookup op=Y .local:=by first|exact .inl rfl|exact .inr rfl|assumption):PS h (.AugAssign (.Name op pv) Q P v4) (HA i sc f):=by
 intro U A j H q M a;obtain⟨v,r,a⟩:=a;obtain⟨an,s,t⟩:=M.loc;have w:nX h.env.scope op:=by rcases T with G|G;exact .inl G;exact .inr (.inl G)
 obtain⟨u,b,x⟩:=t i op v g r w;refine wpAny_AugAssign_Name ?_;have k:aF (aM h.prog h.w) h.A (eval P h.env) (λd z=>aF (aM h.prog h.w) h.A (t9 Q u d) (λb B=>aF (aM h.prog h.w) h.A (Ff h.env op b) (λ_=>SP h U q .next) h.xe B) h.xe z) h.xe A:=by refine aN (n U A j H _ M a) λd C ⟨y,E,F,K,L⟩=> ?_;refine aN (o U C j E v y u d _ F b K L) λap as ⟨a0,X,R,V,W⟩=> ?_;exact uS R m g T V (λa1 ab=>⟨_,X,ab,W⟩) p
 rcases x with⟨D,ad⟩|⟨D,c,al,am⟩
 .exact Qp M.ok.kind D s ad k
 .rcases D with D|D
  .exact Qq M.ok.kind D al am k
  .rcases T with G|G
   .have:h.env.scope.names.lookup op=Y .free:=D;rw [G]at this;cases this
   .have:h.env.scope.names.lookup op=Y .free:=D;rw [G]at this;cases this
def HB(c:TT)(b:TS):TS:=λM A H=>∃N:Nat->St->G->Prop,(∃D,N D A H)/\∀D A H,N D A H->
 c A H λd S=>if d=I then∃Q:St->G->Prop,(∀T U,Q T U->∃a,a<D/\N a T U)/\b {M with nx:=Q,ct:=Q,bk:=M.nx} A S else M.nx A S
def n6{c:aZ}(j:PassesOwn (aM h.prog h.w) h.A h.env h.xe)(q:PT h c Hp)(r:gm h Pi Id):PS h (.While c Pi [] pv) (HB Hp Id):=by
 intro T R s H V t u;obtain⟨w,⟨x,y⟩,z⟩:=u;refine wpAny_While (codeAny_whileLoop (λU B=>∃k l,Inv h T k l B/\w U k l) ?_ x ⟨s,H,t,y⟩);rintro U C ⟨G,m,E,F⟩;refine pJ j (aN (q T C G m _ E (z U G m F)) λK L ⟨n,o,M⟩=> ?_);cases K with
 |true=>
  obtain⟨W,p,M⟩:=M;rw [ak S];refine pJ j (aN (r T L G n _ o M) λP ab Q=> ?_);cases P with
  |next=>
   obtain⟨A,D,a,b⟩:=Q;obtain⟨d,e,f⟩:=p A D b;exact⟨d,e,A,D,a,f⟩
  |cont=>
   obtain⟨A,D,a,b⟩:=Q;obtain⟨d,e,f⟩:=p A D b;exact⟨d,e,A,D,a,f⟩
  |brk=>exact Q
  |ret v=>exact Q
 |false=>
  rw [N d5];exact t6 ⟨G,n,o,M⟩
structure It where
 go:Nat->G->Prop
 hg:Nat->G->V->G->Prop
 stop:Nat->G->Prop
def i6(D:Cx)(M:List (Z×aL))(H:G)(A:Z):Prop:=
 H A=O/\A≠D.env.locals/\A∉D.fs/\(A∈D.ex\/D.d9.heap.objs.size<=A)/\(∀N c,D.env.cells.lookup N=Y c->c≠A)/\∀Q∈D.pn++M,Q.1≠A
def Inv.n7{H:G}(A:Inv h pp py H t)(D:t.heap.objs.size<=d)(b:q d=O):i6 h pp q d:=by
 refine⟨b,QB (gP A.lt D),A.G9 D,.inr (cq A.sz D),λM c e N=> ?_,λf g N=> ?_⟩
 .obtain⟨v,Q⟩:=A.cell M c e;exact absurd (gP Q.lt (by rw [N];exact D)) (j3 _)
 .exact absurd (gP (dN (A.pin f g).1) (by rw [N];exact D)) (j3 _)
structure Turn(S:az)(w:aw)(K:ah)(l:aZ)(d:It)(T:List Z)(U:Z)(tn:Nat->aE->Prop):Prop where
 mem:U∈T
 obj:∀i b,tn i b->∀N∈T,∃o,b.get? N=Y o/\∀v,o.data≠.cell v
 keep:∀i b h,tn i b->(∀N∈T,∀o,b.get? N=Y o->h.get? N=Y o)->tn i h
 item:∀(D:Cx),D.prog=S->D.w=w->D.K=K->D.calm=I->∀(i:Nat) (Q:List (Z×aL)) (M:aj) (c:St) (H:G) (a:J->aj->Prop),Inv D Q c H M->(∀N∈T,i6 D Q H N)->tn i M.heap->d.go i H->
  aF (aM S w) D.A (pK (.ref U)) (λe f=>∃u,e=Y u/\
   aF (aM S w) D.A (yn l (.ref U) u) (λ_ j=>∃x g,Inv D Q c g j/\RelV x u/\d.hg i H x g/\tn (i+1) j.heap/\∀N∈T,g N=O) a f) a M
 done:∀(D:Cx),D.prog=S->D.w=w->D.K=K->D.calm=I->∀(i:Nat) (Q:List (Z×aL)) (M:aj) (c:St) (H:G) (a:J->aj->Prop),Inv D Q c H M->(∀N∈T,i6 D Q H N)->tn i M.heap->d.stop i H->
  aF (aM S w) D.A (pK (.ref U)) (λe f=>e=O/\Inv D Q c H f) a M
 self:∀(A:b4) (i:Nat) (M:aj) (k:J->aj->Prop) (a:J->aj->Prop),tn i M.heap->k (.ref U) M->aF (aM S w) A (yo (.ref U)) k a M
abbrev TI:=St->G->(It->G->Prop)->Prop
def u0(A:Cx)(M:List (Z×aL))(a:St)(b:aZ)(c:It->G->Prop)(d:J)(N:aj):Prop:=
 ∃(Q:Z) (S:List Z) (T:Nat->aE->Prop) (U:It) (D:G),d=.ref Q/\Inv A M a D N/\Turn A.prog A.w A.K b U S Q T/\T 0 N.heap/\(∀e∈S,i6 A M D e)/\c U D
def PI(A:Cx)(S T:aZ)(U:TI):Prop:=
 ∀(M:List (Z×aL)) (N:aj) (D:St) (H:G) (Q:It->G->Prop),Inv A M D H N->U D H Q->
  aF (aM A.prog A.w) A.A (eval T A.env) (λv a=>aF (aM A.prog A.w) A.A (yo v) (u0 A M D S Q) A.xe a) A.xe N
def qd{s:aj}{u:J}{o:aL}{n:String}{U:Array J}(b:s.heap.get? d=Y o)(c:o.cls=.type n)(A:o.data=.fields U)(e:["enumerate","zip","dict_itemiterator","dict_reverseitemiterator","odict_iterator","itertools.zip_longest","itertools.pairwise"].contains n=ao) (D:KK () s):aF No ss (yn P (.ref d) u) KK s5 s:=by
 unfold yn;cases P<;>first
  |exact bu D
  |(cases u<;>first
    |exact bu D
    |(refine aI (wpAny_load b ?_)
      rw [c,A];show aF No ss (if(["enumerate","zip","dict_itemiterator","dict_reverseitemiterator","odict_iterator","itertools.zip_longest","itertools.pairwise"].contains n&&U[0]?==Y (ra _))=I then _ else _) KK s5 s
      rw [N (by intro a;rw [e,ua]at a;cases a)];exact bu D))
def hA(K:ah)(G:Z):It:=
 ⟨λD H=>∃A M,au K H G A/\A[D]?=Y M,λD H M N=>N=H/\∀A,au K H G A->A[D]?=Y M,λD H=>∃A,au K H G A/\A.length<=D⟩
def qe(K:ah)(G:Z):It:=
 ⟨λD H=>∃A M,av K H G A/\A[D]?=Y M,λD H M N=>N=H/\∀A,av K H G A->A[D]?=Y M,λD H=>∃A,av K H G A/\A.length<=D⟩
def kq(G:Int)(D:Nat):It:=⟨λA _=>A<D,λA H M N=>N=H/\M=.int (G+A),λA _=>D<=A⟩
def HC{K:ah}(t G:Z):Turn l m K P (hA K t) [G] G (λT U=>U.IsListIter G t T)where
 mem:=by simp
 obj:=λT U D M N=>by
  have A:M=G:=by simpa using N
  subst A;obtain⟨o,A,c,f⟩:=D;exact⟨o,A,λv w=>by rw [f]at w;cases w⟩
 keep:=λT U b D E=>D.at λo A=>E G (by simp) o A
 item:=by
  intro x g hw h y T z a B H R Q d D i;subst g hw h;obtain⟨V,X,e,j⟩:=i;obtain⟨ab,k,F,ad⟩:=Q.list e;obtain⟨u,al,am⟩:=k.get j;obtain⟨L,n,an,p,q,r⟩:=d G (by simp);refine wpAny_pyNext_list_item D F.isList (x:=u) (by simpa using al) λb C ap=> ?_;have as:Inv x z B H {a with heap:=b}:=Q.turned (t':=a.toks) (λM o N A=>(ap.2 M N).trans A) L n p q r
  obtain⟨o,A,c,f⟩:=id C;exact⟨u,S,qd (s:={a with heap:=b}) A c f (by decide) ⟨X,H,as,am,⟨S,λa2 a0=>by rw [Q.zB a0 e];exact j⟩,C,λM N=>(d M N).1⟩⟩
 done:=by
  intro x g hw h y T z a B H R Q d D i;subst g hw h;obtain⟨V,e,j⟩:=i;obtain⟨ab,k,F,ad⟩:=Q.list e;obtain⟨L,n,an,p,q,r⟩:=d G (by simp);have a3:=k.length
  exact wpAny_pyNext_list_end (Q.ok.hd y) D F.isList (by simp;omega) λb a1=>⟨S,Q.turned (t':=a.toks) (λM o N A=>a1 M o N A) L n p q r⟩
 self:=λ_ _ _ _ _ D U=>wpAny_pyIter_listiter D U
def HD{K:ah}(b G:Z):Turn l m K P (qe K b) [G] G (λU a=>a.IsTupleIter G b U)where
 mem:=by simp
 obj:=λU a D M N=>by
  have A:M=G:=by simpa using N
  subst A;obtain⟨o,A,c,g⟩:=D;exact⟨o,A,λv x=>by rw [g]at x;cases x⟩
 keep:=λU a d D R=>D.at λo A=>R G (by simp) o A
 item:=by
  intro y h hw i z U B Q C H V T e D j;subst h hw i;obtain⟨X,ab,f,k⟩:=j;obtain⟨F,L,n,ad⟩:=T.tuple f;obtain⟨u,al,am⟩:=L.get k;obtain⟨p,q,an,r,t,w⟩:=e G (by simp);refine wpAny_pyNext_tuple_item D (show Q.heap.IsTuple b F.toArray from n) (x:=u) (by simpa using al) λd E ap=> ?_;have as:Inv y B C H {Q with heap:=d}:=T.turned (t':=Q.toks) (λM o N A=>(ap.2 M N).trans A) p q r t w
  obtain⟨o,A,c,g⟩:=id E;exact⟨u,S,qd (s:={Q with heap:=d}) A c g (by decide) ⟨ab,H,as,am,⟨S,λa2 a0=>by rw [T.Hk a0 f];exact k⟩,E,λM N=>(e M N).1⟩⟩
 done:=by
  intro y h hw i z U B Q C H V T e D j;subst h hw i;obtain⟨X,f,k⟩:=j;obtain⟨F,L,n,ad⟩:=T.tuple f;obtain⟨p,q,an,r,t,w⟩:=e G (by simp);have a3:=L.length
  exact wpAny_pyNext_tuple_end (T.ok.hd z) D (show Q.heap.IsTuple b F.toArray from n) (by simp;omega) λd a1=>⟨S,T.turned (t':=Q.toks) (λM o N A=>a1 M o N A) p q r t w⟩
 self:=λ_ _ _ _ _ D a=>wpAny_pyIter_tupleiter D a
def HE{y:aw}{K:ah}(G:Z)(b:Int)(c:Nat):Turn l y K P (kq b c) [G] G (λA Q=>IsRangeIter Q G (b+(A:Nat)*1) ((c:Int)-(A:Nat)) 1)where
 mem:=by simp
 obj:=λA Q D M N=>by
  have T:M=G:=by simpa using N
  subst T;exact⟨_,D,λv B=>by have C:Data.fields _=Data.cell v:=B;cases C⟩
 keep:=λA Q d D E=>E G (by simp) _ D
 item:=by
  intro e g hw h i A r U t H F a f D j;subst g hw h;obtain⟨k,z,L,m,p,q⟩:=f G (by simp);have x:=Walks.range (prog:=e.prog) (w:=e.w) (a.ok.hd i) G b 1 c
  refine x.item A U _ _ j D λv d u R w V=> ?_;obtain⟨X,rfl⟩:=R;have ab:Inv e r t H {U with heap:=d,toks:=u}:=a.turned (λM o N T=>V M o (by simpa using N) T) k z m p q
  refine⟨_,S,qd (s:={U with heap:=d,toks:=u}) (n:="range_iterator") w S rfl (by decide) ⟨.int (b+A),H,ab,⟨X, ?_⟩,⟨S,S⟩,w,λM N=>(f M N).1⟩⟩;rw [Int.mul_one]
 done:=by intro e g hw h i A r U t H F a f D j;subst g hw h;obtain⟨k,z,L,m,p,q⟩:=f G (by simp);exact wpAny_pyNext_range_end (a.ok.hd i) D (by have:c<=A:=j;omega) λd ad=>⟨S,a.turned (t':=U.toks) (λM o N T=>ad M o N T) k z m p q⟩
 self:=λ_ _ _ _ _ D Q=>wpAny_pyIter_rangeiter D Q
def HF(K:ah)(G:TE):TI:=λM H N=>G M H λQ D=>∃A,Q=.ref A/\(∃S,au K D A S)/\N (hA K A) D
def HG(K:ah)(G:TE):TI:=λM H N=>G M H λQ D=>∃A,Q=.ref A/\(∃S,av K D A S)/\N (qe K A) D
def dy(T:PE h P sc):PI h sB P (HF h.K sc):=by
 intro U a b H m c d;refine aN (T U a b H _ c d) λv D ⟨n,e,G,f,g⟩=> ?_;obtain⟨X,A,⟨p,i⟩,j⟩:=g;subst A;cases f;obtain⟨q,r,k,s⟩:=G.list i;refine wpAny_pyIter_list k.isList ?_;refine⟨D.heap.objs.size,[D.heap.objs.size],_,_,e,S,G.kept (t':=D.toks) λQ o A=>fe _ A,HC X _,⟨_,gD _ S,S,S⟩,λQ l=> ?_,j⟩;have A:Q=D.heap.objs.size:=by simpa using l
 subst A;exact G.n7 (aX _) (G.bg.fresh (aX _))
def HH(U:PE h P sc):PI h sB P (HG h.K sc):=by
 intro a b c H n d e;refine aN (U a b c H _ d e) λv A ⟨p,f,G,g,X⟩=> ?_;obtain⟨Q,D,⟨q,i⟩,j⟩:=X;subst D;cases g;obtain⟨k,r,l,s⟩:=G.tuple i;refine wpAny_pyIter_tuple (show A.heap.IsTuple Q k.toArray from l) ?_;refine⟨A.heap.objs.size,[A.heap.objs.size],_,_,f,S,G.kept (t':=A.toks) λT o D=>fe _ D,HD Q _,⟨_,gD _ S,S,S⟩,λT m=> ?_,j⟩;have D:T=A.heap.objs.size:=by simpa using m
 subst D;exact G.n7 (aX _) (G.bg.fresh (aX _))
variable{v2:Int}{wP:dz}{U4:It->G->Prop}
def HI{H:G}{D:Int}{u v:dz}(f:Inv h pp py H t)(g: -(2^62)<=v2)(A:v2<2^62)(i: -(2^62)<=D)(j:D<2^62)(k:U4 (kq v2 (D-v2).toNat) H):aF (aM h.prog h.w) h.A (yo (.ref t.heap.objs.size)) (u0 h pp py P U4) s5 {t with heap:=t.heap.push {cls:=.type "range",data:=.fields #[.int v2 wP,.int D u,.int 1 v]},toks:=r}:=by
 refine wpAny_pyIter_range (IsRange.new ..) (small_one g A i j) ?_;have b:Inv h pp py H {t with heap:=t.heap.push {cls:=.type "range",data:=.fields #[.int v2 wP,.int D u,.int 1 v]},toks:=r}:=f.kept λc o Q=>fe _ Q
 refine⟨(t.heap.push {cls:=.type "range",data:=.fields #[.int v2 wP,.int D u,.int 1 v]}).objs.size,[(t.heap.push {cls:=.type "range",data:=.fields #[.int v2 wP,.int D u,.int 1 v]}).objs.size],_,_,H,S,b.kept (t':=r) λc o Q=>fe _ Q,HE _ v2 (D-v2).toNat, ?_,λc l=> ?_,k⟩
 .have m:v2+((0:Nat):Int)*1=v2:=by simp
  have n:(((D-v2).toNat:Nat):Int)-((0:Nat):Int)=SS v2 D 1:=by rw [rangeSize_one];split<;>omega
  show IsRangeIter _ _ (v2+((0:Nat):Int)*1) ((((D-v2).toNat:Nat):Int)-((0:Nat):Int)) 1;rw [m,n];exact gD _ S
 .have Q:c=(t.heap.push {cls:=.type "range",data:=.fields #[.int v2 wP,.int D u,.int 1 v]}).objs.size:=by simpa using l
  subst Q;exact b.n7 (aX _) (b.bg.fresh (aX _))
def HJ(D:TA):TI:=λG H M=>D G H λN Q=>∃A:Int,N=[.int A]/\ -(2^62)<=A/\A<2^62/\M (kq 0 A.toNat) Q
variable{Ix:TA}
def zE(T:Gl h "range")(U:h.U "range"=O)(a:PA h [P] Ix)(b:cw [P] h.env=[(ao,eval P h.env)]:=by rfl):PI h sB (.Call (.Name "range" v4) [P] [] pv) (HJ Ix):=by
 intro c d e H n N f;refine Call_ (rO N T U boot_range (Fi (aN (a pv c d e H _ N f) λo p ⟨q,r,g,X,D⟩=> ?_) b S));obtain⟨s,i,D,j,k⟩:=D;subst i;cases X with
 |cons l m=>
  cases m;obtain⟨t,rfl⟩:=l;exact call_range_1 (HI g (by omega) (by omega) D j (by simpa using k))
def HK(d:TI)(e:TG)(f:TS):TS:=λQ A H=>d A H λS g=>∃T:Nat->Nat->St->G->Prop,(∃N,T 0 N A g)/\∀D N A H,T D N A H->
 (S.stop D H/\Q.nx A H)\/(S.go D H/\∃U:St->G->Prop,(∀a M,U a M->∃b,b<N/\T (D+1) b a M)/\∀c M,S.hg D H c M->e c A M λh i=>f {Q with nx:=U,ct:=U,bk:=Q.nx} h i)
def qf(D:List Z)(G:aE):List (Z×aL):=D.filterMap λA=>(G.get? A).map λo=>(A,o)
def u1{o:aL}(M:d∈wf)(N:B.get? d=Y o):(d,o)∈qf wf B:=nu.mpr ⟨d,M,by rw [N];rfl⟩
def HL{A:Z×aL}(Q:A∈qf wf B):A.1∈wf/\B.get? A.1=Y A.2:=by
 obtain⟨N,S,D⟩:=nu.mp Q;cases a:B.get? N with
 |none=>rw [a]at D;cases D
 |some o=>
  rw [a]at D;have T:(N,o)=A:=a8 D
  subst T;exact⟨S,a⟩
def Inv.pinned{H:G}(U:Inv h pp py H t)(d:∀N∈wf,i6 h pp H N)(e:∀N∈wf,∃o,t.heap.get? N=Y o/\∀v,o.data≠.cell v):Inv h (pp++qf wf t.heap) py H t:=
 U.zx λQ f=>(bS.mp f).elim (λS=>U.pin Q (eH _ S)) λS=>by obtain⟨a,b⟩:=HL S;obtain⟨g,A,i,_⟩:=d Q.1 a;obtain⟨o,c,j⟩:=e Q.1 a;rw [b]at c;cases c;exact⟨b,g,A,i,j⟩
def Inv.rS{pins:List (Z×aL)}{H:G}(M:Inv h (pins++pp) py H t):Inv h pins py H t:=M.zx λQ S=>M.pin Q (eH _ (gQ _ S))
def d2{w:TI}{y:TS}(d:PassesOwn (aM h.prog h.w) h.A h.env h.xe)(z:h.calm=I)(an:PI h sB P w)(ap:PG h sB Fa)(D:gm h Pi y)(as:∀e,yp P h.env e=df e:=by intro _;rfl):PS h (.For sB P Pi [] pv) (HK w Fa y):=by
 intro c a0 B H c8 a1 a2;refine wpAny_For (aN (an c a0 B H _ a1 a2) λv c9 a3=>aN a3 λdb dd a4=> ?_) as;obtain⟨dl,f,C,dp,a5,g,bd,n,be,E,F,⟨bi,bk⟩,bl⟩:=a4;subst g;have p:∀{U:G},(∀A∈f,U A=O)->∀A∈f,i6 h c U A:=λbm A D=>⟨bm A D,(E A D).2⟩
 refine codeAny_forLoop_any (λl K=>∃a i U,Inv h c i U K/\C a K.heap/\(∀A∈f,U A=O)/\F a l i U) ?_ bi ⟨0,B,a5,bd,be,λA D=>(E A D).1,bk⟩;rintro l L ⟨a,j,m,X,R,V,bn⟩;rcases bl a l j m bn with⟨stop,bs⟩|⟨go,N,bt,step⟩
 .refine pJ d (aN (n.done h S rfl rfl z a c L j m h.xe X (p V) R stop) λbv ca ⟨q,cd⟩=> ?_);subst q;exact t6 ⟨j,m,cd,bs⟩
 .refine pJ d (aN (n.item h S rfl rfl z a c L j m h.xe X (p V) R go) λbv ca ⟨u,q,ce⟩=> ?_);subst q;refine pJ d (aN ce λ_ W ⟨e,ab,ch,ci,cl,r,cn⟩=> ?_);have co:=ch.pinned (p cn) (n.obj _ _ r)
  refine pJ d (aN (ap _ W j ab e u _ co ci (step e ab cl)) λ_ cr ⟨cs,ct,c0,c1⟩=> ?_);refine pJ d (aN (D _ cr cs ct _ c0 c1) λc2 s b=> ?_);have ad:∀{M:St} {Q:G},Inv h (c++qf f W.heap) M Q s->N M Q->∃al,al<l/\∃a i U,Inv h c i U s/\C a s.heap/\(∀A∈f,U A=O)/\F a al i U:=λ{M Q} T k=>by obtain⟨c3,c4,c5⟩:=bt M Q k;refine⟨c3,c4,a+1,M,Q,T.rS,n.keep _ _ _ r λA D o g=>(T.pin (A,o) (eH _ (eH _ (u1 D g)))).1,λA D=> ?_,c5⟩;obtain⟨o,g,ds⟩:=n.obj _ _ r A D;exact(T.pin (A,o) (eH _ (eH _ (u1 D g)))).2.1
  cases c2 with
  |next=>obtain⟨M,Q,T,k⟩:=b;exact ad T k
  |cont=>obtain⟨M,Q,T,k⟩:=b;exact ad T k
  |brk=>obtain⟨M,Q,T,b⟩:=b;exact⟨M,Q,T.rS,b⟩
  |ret v=>obtain⟨c6,M,Q,T,c7,b⟩:=b;exact⟨c6,M,Q,T.rS,c7,b⟩
def fC{K:ah}{xs:List V}{H:G}(M:Nat->St->G->Prop)(n:M 0 py H)(o:∀A py H,A<=xs.length->M A py H->au K H d xs)(p:∀A N py H,xs[A]?=Y N->M A py H->Fa N py H λb c=>Id {xL with nx:=M (A+1),ct:=M (A+1),bk:=xL.nx} b c) (q:∀py H,M xs.length py H->xL.nx py H):∃D:Nat->Nat->St->G->Prop,(∃Q,D 0 Q py H)/\∀A Q py H,D A Q py H->((hA K d).stop A H/\xL.nx py H)\/((hA K d).go A H/\∃e:St->G->Prop,(∀f T,e f T->∃l,l<Q/\D (A+1) l f T)/\∀N T,(hA K d).hg A H N T->Fa N py T λb c=>Id {xL with nx:=e,ct:=e,bk:=xL.nx} b c):=by
 refine⟨λA Q py H=>Q=xs.length-A/\A<=xs.length/\M A py H,⟨xs.length,by simp,cP _,n⟩, ?_⟩;rintro A Q py H ⟨rfl,r,g⟩;have h:=o A py H r g
 by_cases m:A<xs.length
 .refine .inr ⟨⟨xs,xs[A],h,by simp [m]⟩,M (A+1),λf T s=>⟨xs.length-(A+1),by omega,S,m,s⟩,λN T y=> ?_⟩;obtain⟨i,y⟩:=y;subst i;exact p A N py _ (y xs h) g
 .have i:A=xs.length:=by omega
  subst i;exact .inl ⟨⟨xs,h,aX _⟩,q py H g⟩
def HM{K:ah}{xs:List V}{H:G}(M:Nat->St->G->Prop)(n:M 0 py H)(o:∀A py H,A<=xs.length->M A py H->av K H d xs)(p:∀A N py H,xs[A]?=Y N->M A py H->Fa N py H λb c=>Id {xL with nx:=M (A+1),ct:=M (A+1),bk:=xL.nx} b c) (q:∀py H,M xs.length py H->xL.nx py H):∃D:Nat->Nat->St->G->Prop,(∃Q,D 0 Q py H)/\∀A Q py H,D A Q py H->((qe K d).stop A H/\xL.nx py H)\/((qe K d).go A H/\∃e:St->G->Prop,(∀f T,e f T->∃l,l<Q/\D (A+1) l f T)/\∀N T,(qe K d).hg A H N T->Fa N py T λb c=>Id {xL with nx:=e,ct:=e,bk:=xL.nx} b c):=by
 refine⟨λA Q py H=>Q=xs.length-A/\A<=xs.length/\M A py H,⟨xs.length,by simp,cP _,n⟩, ?_⟩;rintro A Q py H ⟨rfl,r,g⟩;have h:=o A py H r g
 by_cases m:A<xs.length
 .refine .inr ⟨⟨xs,xs[A],h,by simp [m]⟩,M (A+1),λf T s=>⟨xs.length-(A+1),by omega,S,m,s⟩,λN T y=> ?_⟩;obtain⟨i,y⟩:=y;subst i;exact p A N py _ (y xs h) g
 .have i:A=xs.length:=by omega
  subst i;exact .inl ⟨⟨xs,h,aX _⟩,q py H g⟩
def HN{H:G}(N:Nat->St->G->Prop)(n:N 0 py H)(o:∀A py H,A<r->N A py H->Fa (.int (v2+A)) py H λb c=>Id {xL with nx:=N (A+1),ct:=N (A+1),bk:=xL.nx} b c) (p:∀py H,N r py H->xL.nx py H):∃d:Nat->Nat->St->G->Prop,(∃Q,d 0 Q py H)/\∀A Q py H,d A Q py H->((kq v2 r).stop A H/\xL.nx py H)\/((kq v2 r).go A H/\∃e:St->G->Prop,(∀f T,e f T->∃l,l<Q/\d (A+1) l f T)/\∀g T,(kq v2 r).hg A H g T->Fa g py T λb c=>Id {xL with nx:=e,ct:=e,bk:=xL.nx} b c):=by
 refine⟨λA Q py H=>Q=r-A/\A<=r/\N A py H,⟨r,by simp,cP _,n⟩, ?_⟩;rintro A Q py H ⟨rfl,D,m⟩;by_cases h:A<r
 .refine .inr ⟨h,N (A+1),λf T q=>⟨r-(A+1),by omega,S,h,q⟩,λg T y=> ?_⟩;obtain⟨i,y⟩:=y;subst i y;exact o A py _ h m
 .have i:A=r:=by omega
  subst i;exact .inl ⟨aX _,p py H m⟩
abbrev R2:=V->V->G->VK->Prop
def eD(A:Cx)(T:J->J->fw J)(U:R2):Prop:=
 ∀(D:List (Z×aL)) (M:aj) (N:St) (H:G) (Q y:V) (v u:J) (S:VK),Inv A D N H M->RelV Q v->RelV y u->U Q y H S->
  aF (aM A.prog A.w) A.A (T v u) (EP A D N S) A.xe M
def u2(A:Cx)(T:J->fw J)(U:V->G->VK->Prop):Prop:=
 ∀(D:List (Z×aL)) (M:aj) (N:St) (H:G) (Q:V) (v:J) (S:VK),Inv A D N H M->RelV Q v->U Q H S->
  aF (aM A.prog A.w) A.A (T v) (EP A D N S) A.xe M
def hB(A:Cx)(U:J)(a:List V->G->VK->Prop):Prop:=
 ∀(D:List (Z×aL)) (M:aj) (N:St) (H:G) (Q:List V) (S:List J) (T:VK),Inv A D N H M->Vals Q S->a Q H T->
  aF (aM A.prog A.w) A.A (gR U S) (EP A D N T) A.xe M
def HP(A:Cx)(T:V->G->(Bool->G->Prop)->Prop):Prop:=
 ∀(D:List (Z×aL)) (M:aj) (N:St) (H:G) (Q:V) (v:J) (S:Bool->G->Prop),Inv A D N H M->RelV Q v->T Q H S->
  aF (aM A.prog A.w) A.A (truthy v) (TP A D N S) A.xe M
def rT(D:R2)(G M:TE):TE:=λA H N=>G A H λQ S=>M A S λy T=>D Q y T N
def HQ(A:V->G->VK->Prop)(D:TE):TE:=λM H N=>D M H λQ S=>A Q S N
def kr(G:Int->Int->V):R2:=λM y H N=>∃A D,M=.int A/\y=.int D/\N (G A D) H
def rU(D:Int->V):V->G->VK->Prop:=λM H N=>∃A,M=.int A/\N (D A) H
variable{UP:J->J->fw J}
def u3(f:PE h P sc)(g:PE h sB xz){H:G}(X:Inv h pp py H t)(i:sc py H λD T=>xz py T λy M=>U3 D y M)  (j:∀v u Q D y M,Inv h pp py M Q->RelV D v->RelV y u->U3 D y M->aF (aM h.prog h.w) h.A (UP v u) s5 h.xe Q):aF (aM h.prog h.w) h.A (eval P h.env) (λv k=>aF (aM h.prog h.w) h.A (eval sB h.env) (λu l=>aF (aM h.prog h.w) h.A (UP v u) s5 h.xe l) h.xe k) h.xe t:=by refine aN (f pp t py H _ X i) λv m ⟨D,T,n,o,p⟩=> ?_;refine aN (g pp m py T _ n p) λu Q ⟨y,M,q,r,s⟩=> ?_;exact j v u Q D y M q o r s
variable{ST:R2}
def hh{A:t8}(G:eD h (yq A) ST)(M:PE h P sc)(N:PE h sB xz):PE h (.BinOp P A sB pv) (rT ST sc xz):=by intro Q l S H T U d;exact wpAny_BinOp (u3 M N U d λv u e f y g X i j k=>G Q e S g f y v u T X i j k)
def u4{A:UnaryOp}{D:V->G->VK->Prop}(Q:u2 h (unaryOp A) D)(S:PE h P sc):PE h (.UnaryOp A P pv) (HQ D sc):=by intro M T N H U d e;exact UnaryOp_ (aN (S M T N H _ d e) λv f ⟨g,X,i,j,k⟩=>Q M f N X g v U i j k)
def u5{M:Int->Int->Int}(U:∀(A D:Int) (N u:dz) (G:aj) (Q:J->aj->Prop) (d:J->aj->Prop),Q (.int (M A D) G.toks) {G with toks:=G.toks+1}->aF (aM h.prog h.w) h.A (UP (.int A N) (.int D u)) Q d G):eD h UP (kr λA D=>.int (M A D)):=by intro k G l H m y v u Q e f g X;obtain⟨A,D,rfl,rfl,i⟩:=X;obtain⟨N,rfl⟩:=f;obtain⟨j,rfl⟩:=g;exact U A D N j G _ _ ⟨.int (M A D),H,e.tok _,⟨_,S⟩,i⟩
def rV{M:Int->Int->Bool}(U:∀(A D:Int) (N u:dz) (G:aj) (Q:J->aj->Prop) (d:J->aj->Prop),Q (.bool (M A D)) G->aF (aM h.prog h.w) h.A (UP (.int A N) (.int D u)) Q d G):eD h UP (kr λA D=>.bl (M A D)):=by intro k G l H m y v u Q e f g X;obtain⟨A,D,rfl,rfl,i⟩:=X;obtain⟨N,rfl⟩:=f;obtain⟨j,rfl⟩:=g;exact U A D N j G _ _ ⟨.bl (M A D),H,e,S,i⟩
def rW:eD h (yq .Add) (kr λA D=>.int (A+D)):=u5 λ_ _ _ _ _ _ _ G=>add_int G
def u6:eD h (yq .Sub) (kr λA D=>.int (A-D)):=u5 λ_ _ _ _ _ _ _ G=>sub_int G
def HR:eD h (t9 .Add) (kr λA D=>.int (A+D)):=u5 λ_ _ _ _ _ _ _ G=>QC G
def HS{Q:J->fw J}{G:Int->Int}(T:∀(A:Int) (M:dz) (D:aj) (N:J->aj->Prop) (U:J->aj->Prop),N (.int (G A) D.toks) {D with toks:=D.toks+1}->aF (aM h.prog h.w) h.A (Q (.int A M)) N U D):u2 h Q (rU λA=>.int (G A)):=by intro X D i H j v N d e f;obtain⟨A,rfl,g⟩:=f;obtain⟨M,rfl⟩:=e;exact T A M D _ _ ⟨.int (G A),H,d.tok _,⟨_,S⟩,g⟩
def u7:u2 h (unaryOp .USub) (rU λA=>.int (-A)):=HS λ_ _ _ _ _ D=>neg_int D
def zF:V->V->Bool
 |.br,.br=>I|.br,.int _=>I|.int _,.br=>I|.br,.bl _=>I|.bl _,.br=>I|.br,.str _=>I|.str _,.br=>I
 |.int _,.int _=>I|.bl _,.bl _=>I|.str _,.str _=>I|.fW _,.fW _=>I
 |.int _,.str _=>I|.str _,.int _=>I|.bl _,.str _=>I|.str _,.bl _=>I
 |_,_=>ao
def HU:R2:=λA y H D=>zF A y=I/\D (.bl (decide (A=y))) H
def HV:R2:=λA y H D=>zF A y=I/\D (.bl (!decide (A=y))) H
def zG{D:Int}:decide (V.int v2=V.int D)=(v2==D):=by rw [iR];simp
variable{SZ UM:Bool}
def zH:decide (V.bl SZ=V.bl UM)=(SZ==UM):=by rw [iR];simp
variable{Fk:aa}
def zI:decide (V.str op=V.str Fk)=(op==Fk):=by rw [iR];simp
def zJ{A D:Array UInt8}:decide (V.fW A=V.fW D)=(A.toList==D.toList):=by rw [iR];cases A;cases D;simp
variable{IR:VK}
def dS{H:G}(U:Inv h pp py H t)(d:IR (.bl SZ) H)(e:SZ=UM):EP h pp py IR (.bool UM) t:=by subst e;exact⟨.bl SZ,H,U,S,d⟩
def cU:eD h (fJ .Eq) HU:=by
 intro f g X H U y v u j A Q D e;obtain⟨N,G⟩:=e;cases U with
 |br=>
  cases Q;cases y with
  |br=>cases D;exact SU (dS A G (by simp))
  |bl d=>cases D;exact SV (dS A G (by simp))
  |int d=>obtain⟨M,rfl⟩:=D;exact SW (dS A G (by simp))
  |str d=>obtain⟨M,rfl⟩:=D;exact SX (dS A G (by simp))
  |_=>exact absurd (show ao=I from N) d5
 |bl i=>
  cases Q;cases y with
  |br=>cases D;exact SY (dS A G (by simp))
  |bl d=>cases D;exact eq_bool (dS A G zH)
  |str d=>obtain⟨M,rfl⟩:=D;exact S1 (dS A G (by simp))
  |_=>exact absurd (show ao=I from N) d5
 |int i=>
  obtain⟨T,rfl⟩:=Q;cases y with
  |br=>cases D;exact S2 (dS A G (by simp))
  |int d=>obtain⟨M,rfl⟩:=D;exact eq_int (dS A G zG)
  |str d=>obtain⟨M,rfl⟩:=D;exact S3 (dS A G (by simp))
  |_=>exact absurd (show ao=I from N) d5
 |str i=>
  obtain⟨T,rfl⟩:=Q;cases y with
  |br=>cases D;exact S4 (dS A G (by simp))
  |bl d=>cases D;exact S5 (dS A G (by simp))
  |int d=>obtain⟨M,rfl⟩:=D;exact S6 (dS A G (by simp))
  |str d=>obtain⟨M,rfl⟩:=D;exact eq_str (dS A G zI)
  |_=>exact absurd (show ao=I from N) d5
 |fW i=>
  obtain⟨T,rfl⟩:=Q;cases y with
  |fW d=>obtain⟨M,rfl⟩:=D;exact PySem.W.eq_bytes (dS A G zJ)
  |_=>exact absurd (show ao=I from N) d5
 |_=>cases y<;>exact absurd (show ao=I from N) d5
def qg:eD h (fJ .NotEq) HV:=by
 intro f g X H U y v u j A Q D e;obtain⟨N,G⟩:=e;cases U with
 |br=>
  cases Q;cases y with
  |br=>cases D;exact S7 (dS A G (by simp))
  |bl d=>cases D;exact S8 (dS A G (by simp))
  |int d=>obtain⟨M,rfl⟩:=D;exact S9 (dS A G (by simp))
  |str d=>obtain⟨M,rfl⟩:=D;exact Ta (dS A G (by simp))
  |_=>exact absurd (show ao=I from N) d5
 |bl i=>
  cases Q;cases y with
  |br=>cases D;exact Tc (dS A G (by simp))
  |bl d=>cases D;exact ne_bool (dS A G (bN not zH))
  |str d=>obtain⟨M,rfl⟩:=D;exact Td (dS A G (by simp))
  |_=>exact absurd (show ao=I from N) d5
 |int i=>
  obtain⟨T,rfl⟩:=Q;cases y with
  |br=>cases D;exact Te (dS A G (by simp))
  |int d=>obtain⟨M,rfl⟩:=D;exact ne_int (dS A G (bN not zG))
  |str d=>obtain⟨M,rfl⟩:=D;exact Tf (dS A G (by simp))
  |_=>exact absurd (show ao=I from N) d5
 |str i=>
  obtain⟨T,rfl⟩:=Q;cases y with
  |br=>cases D;exact Tg (dS A G (by simp))
  |bl d=>cases D;exact Th (dS A G (by simp))
  |int d=>obtain⟨M,rfl⟩:=D;exact Ti (dS A G (by simp))
  |str d=>obtain⟨M,rfl⟩:=D;exact ne_str (dS A G (bN not zI))
  |_=>exact absurd (show ao=I from N) d5
 |fW i=>
  obtain⟨T,rfl⟩:=Q;cases y with
  |fW d=>obtain⟨M,rfl⟩:=D;exact PySem.W.ne_bytes (dS A G (bN not zJ))
  |_=>exact absurd (show ao=I from N) d5
 |_=>cases y<;>exact absurd (show ao=I from N) d5
def rX:eD h (fJ .Lt) (kr λA D=>.bl (decide (A<D))):=rV λ_ _ _ _ _ _ _ G=>lt_int G
def u9:eD h (fJ .LtE) (kr λA D=>.bl (decide (A<=D))):=rV λ_ _ _ _ _ _ _ G=>le_int G
def va:eD h (fJ .Gt) (kr λA D=>.bl (decide (D<A))):=rV λ_ _ _ _ _ _ _ G=>gt_int G
def HW:eD h (fJ .GtE) (kr λA D=>.bl (decide (D<=A))):=rV λ_ _ _ _ _ _ _ G=>ge_int G
def HX:eD h (fJ .IsNot) (λA y H D=>y=.br/\D (.bl (!decide (A=.br))) H):=by
 intro U d e H A y v u D M G N Q;obtain⟨rfl,T⟩:=Q;cases N;refine Qv (dS M T ?_);cases A<;>first
  |(cases G;rfl)
  |(obtain⟨f,rfl⟩:=G;rfl)
def bU(b:aZ){A:nr}(D:A≠.In:=by decide)(G:A≠.NotIn:=by decide):nt A b=ao:=by
 have M:(A==Qt)=ao:=by cases A<;>first|rfl|exact absurd rfl D
 have N:(A==Qu)=ao:=by cases A<;>first|rfl|exact absurd rfl G
 cases b<;>simp [nt,M,N]
def n8{A:nr}(G:eD h (fJ A) ST)(M:PE h sB sc)(N:PE h P xz)(Q:nt A P=ao):PE h (.Compare sB [A] [P] pv) (rT ST sc xz):=by intro S m T H U d e;exact Qw (u3 M N d e λv u f g y X i j k l=>G S f T X g y v u U i j k l) Q
def HY(D:TE):TT:=λG H M=>D G H λN Q=>∃A,N=.bl A/\M A Q
variable{c:aZ}
def bQ{A:nr}(N:eD h (fJ A) ST)(Q:PE h sB sc)(S:PE h P xz)(T:nt A P=ao):PT h (.Compare sB [A] [P] pv) (HY (rT ST sc xz)):=by intro D U G H x d e;refine Qx (aN (Q D U G H _ d e) λv f ⟨g,X,i,j,k⟩=>aN (S D f G X _ i k) λu l ⟨y,m,n,o,p⟩=>aN (N D l G m g y v u _ n j o p) λc z ⟨B,q,r,s,C,t,w⟩=> ?_) T;subst t;cases s;exact pG ⟨q,r,w⟩
def HZ(N Q:R2)(ta tb tc:TE):TE:=λA H D=>ta A H λS T=>tb A T λy U=>N S y U λd G=>∃M,d=.bl M/\
 (if M=I then tc A G λe f=>Q y e f D else D (.bl ao) G)
variable{UV:TE}
def H3{G M:nr}{Q:R2}(f:eD h (fJ G) ST)(g:eD h (fJ M) Q)(b:PE h sB sc)(i:PE h P xz)(j:PE h c UV)(k:lastMarks [G,M] [P,c]=ao:=by with_unfolding_all rfl):PE h (.Compare sB [G,M] [P,c] pv) (HZ ST Q sc xz UV):=by
 intro A l D H m n o;refine Compare_chain (aN (b A l D H _ n o) λv p ⟨q,r,s,t,w⟩=>chain_link (aN (i A p D r _ s w) λu x ⟨y,z,B,T,C⟩=>aN (f A x D z q y v u _ B t T C) λam E ⟨an,U,d,F,K,L,e⟩=> ?_)) k;subst L;cases F;refine pG ?_;cases K with
 |false=>exact ite_ff ⟨.bl ao,U,d,S,e⟩
 |true=>exact ite_tt (chain_last (aN (j A E D U _ d e) λX R ⟨V,W,ab,ad,al⟩=>g A R D W y V u X m ab T ad al))
def zK(K:ah)(N:V)(H:G)(A:Bool):Prop:=
 match N with
 |.br=>A=ao
 |.bl P=>A=P
 |.int i=>A=(i !=0)
 |.str y=>y.length<=aR/\A=((y.length:Int) !=0)
 |.fW y=>y.size<=aR/\A=((y.size:Int) !=0)
 |.ref p=>(∃D,au K H p D/\A= !D.isEmpty)\/(∃D,av K H p D/\A= !D.isEmpty)\/∃M,H p=Y (.dK M)/\A= !M.isEmpty
 |_=>False
def H4{D:List (s2×V)}{G:List (s2×J)}(M:KV D G):(!G.isEmpty)= !D.isEmpty:=by cases M<;>rfl
def zL(G:Vals ul t1):(!t1.toArray.isEmpty)= !ul.isEmpty:=by cases G<;>simp
def n9:(aR:Nat)<2^63:=by rw [yr];decide
def H5:HP h (λg H j=>∃D,zK h.K g H D/\j D H):=by
 intro u n w H g v j G U o;obtain⟨D,Q,M⟩:=o;have x:=n9
 have z:aR=16777216:=yr;cases g with
 |br=>
  cases U;have A:D=ao:=Q
  subst A;exact truthy_none ⟨H,G,M⟩
 |bl P=>
  cases U;have A:D=P:=Q
  subst A;exact pG ⟨H,G,M⟩
 |int i=>
  obtain⟨k,rfl⟩:=U;have A:D=(i !=0):=Q
  subst A;exact PySem.P.truthy_int ⟨H,G,M⟩
 |str y=>
  obtain⟨k,rfl⟩:=U;obtain⟨q,A⟩:y.length<=aR/\D=((y.length:Int) !=0):=Q;subst A;exact PySem.P.truthy_str (by omega) ⟨H,G.tok _,M⟩
 |fW y=>
  obtain⟨k,rfl⟩:=U;obtain⟨q,A⟩:y.size<=aR/\D=((y.size:Int) !=0):=Q;subst A;exact PySem.W.truthy_bytes (by omega) ⟨H,G.tok _,M⟩
 |ref p=>
  cases U;have A:(∃T,au h.K H p T/\D= !T.isEmpty)\/(∃T,av h.K H p T/\D= !T.isEmpty)\/∃d,H p=Y (.dK d)/\D= !d.isEmpty:=Q
  rcases A with⟨T,e,A⟩|⟨T,e,A⟩|⟨d,e,A⟩
  .subst A;obtain⟨r,N,X,l⟩:=G.list e;have m:=N.length
   exact wpAny_truthy_list X.isList (by simp only [e0];omega) ⟨H,G.tok _,by rw [zL N];exact M⟩
  .subst A;obtain⟨r,N,X,l⟩:=G.tuple e;have m:=N.length
   exact truthy_tuple X (by simp only [e0];omega) ⟨H,G.tok _,by rw [zL N];exact M⟩
  .subst A;obtain⟨l,s,f,N,t⟩:d.length<=aR/\(p==er)=ao/\∃f,KV d f/\n.heap.DictOf (eC h.prog h.w) p f:=G.bg p _ e;have m:d.length=f.length:=bL N
   exact wpAny_truthy_dict s t (by omega) ⟨H,G.tok _,by rw [H4 N];exact M⟩
 |_=>exact(show False from Q).elim
def rY(T:PE h P sc)(U:∀M,isTrue P h.env M=(do let v<-M;pH P.pos;l1 [v] (truthy v))):PT h P (λA H D=>sc A H λG N=>∃Q,zK h.K G N Q/\D Q N):=by intro S d A H D e f;exact Qy (aN (T S d A H _ e f) λv g ⟨G,X,i,j,k⟩=>H5 S g A X G v D i j k) (U _)
def H6:eD h (t9 .Add) (λG y H M=>∃A D,G=.str A/\y=.str D/\A.length+D.length<=aR/\M (.str (A++D)) H):=by intro g X i H G y v u M N Q T U;obtain⟨A,D,rfl,rfl,d,e⟩:=U;obtain⟨j,rfl⟩:=Q;obtain⟨f,rfl⟩:=T;exact iadd_str (λf k=>⟨.str (A++D),H,N.tok _,⟨_,S⟩,e⟩) d
def vals1(G:Vals [v1] t1):∃u,t1=[u]/\RelV v1 u:=by
 cases G with
 |cons d e=>cases e;exact⟨_,S,d⟩
def vals2{y:V}(M:Vals [v1,y] t1):∃u G,t1=[u,G]/\RelV v1 u/\RelV y G:=by
 cases M with
 |cons d e=>
  cases e with
  |cons f g=>cases g;exact⟨_,_,S,d,f⟩
def H7(U:h.calm=I):hB h (.builtin "min") (λM H Q=>∃A D,M=[.int A,.int D]/\Q (.int (if D<A then D else A)) H):=by
 intro X i j H M k Q T d e;obtain⟨A,D,rfl,f⟩:=e;obtain⟨u,l,rfl,⟨m,rfl⟩,⟨n,rfl⟩⟩:=vals2 d;refine min_two_ints (T.ok.hd U) λo p g=>⟨_,H,T.kept g, ?_,f⟩
 by_cases G:D<A
 .rw [ak G,ak G];exact⟨_,S⟩
 .rw [N G,N G];exact⟨_,S⟩
def zM:hB h (.builtin "ord") (λD H G=>∃A,D=[.str A]/\A.length=1/\G (.int (A.cps.getD 0 0:Nat)) H):=by intro d e f H D g G M N Q;obtain⟨A,rfl,T,U⟩:=Q;obtain⟨u,rfl,X,rfl⟩:=vals1 N;exact ord_of_one T ⟨.int _,H,M.tok _,⟨_,S⟩,U⟩
structure mx(D:aE)(x A G:Z)(M:aa->Option J):Prop where
 obj:D.get? x=Y (nq G A)
 ns:D.Ns1 A M
 ne:A≠x
variable{z:aa->Option J}
def H8(U:B.Ns1 d z):∃S,B.get? d=Y S/\∀name,yt name S=Y (z name):=by
 obtain⟨o,T,i,a,b,c,_,G⟩:=U;refine⟨o,a,λname=> ?_⟩;have A:=G name
 unfold nsFind findBy at A;rw [<-Array.find?_toList]at A;unfold yt;rw [b];dsimp only;split
 .rename_i y D;rw [D]at A;exact bN Y A
 .rename_i D;rw [D]at A;have e:T.toList.any (·.refKey)=ao:=by
   rw [List.any_eq_false];intro y f;obtain⟨j,k,g⟩:=c y (QD.mp f);simp [Tj,g]
  have h:¬T.toList.any (·.refKey)=I:=by rw [e];exact d5
  rw [N h];exact bN Y A
variable{L:Z}
def mx.look(T:mx B p L d z):∃A,PySem.W.InstAt B p (nq d L) d (Y A)/\∀name,yt name A=Y (z name):=
 let⟨A,U,a⟩:=H8 T.ns
 ⟨A,⟨T.obj,S,S,U⟩,a⟩
variable{K:ah}{v:J}
def get_map(M:K.In t.heap)(N:mx t.heap p L d z)(Q:yu K d op=I)(T:Fj K d=I)(U:j5 K (.ref d) op=Y O) (a:z op=Y v) (b:QE v=I) (c:s5 v {t with toks:=t.toks+1}):aF (aM l m) ss (Fl (.ref p) op SZ) s5 IN t:=by obtain⟨g,s,e⟩:=N.look;exact PySem.W.get_value M s (Fn Q).1 (PySem.W.findObj_own T U S (by rw [e,a])) b c
variable{U5:J×List J->aj->Prop}{T0:fw Bool}{pr:Z}
def H9(N:K.In t.heap)(Q:mx t.heap d pr p z)(G:yu K p op=I)(T:j5 K (.ref p) op=Y (Y (.ref L))) (U:ub K (.ref L)=I) (a:z op=O) (b:U5 (.ref L,[.ref d]) t):aF (aM l m) ss (pL (.ref d) op T0) U5 s5 t:=by obtain⟨c,s,e⟩:=Q.look;exact PySem.W.method_fn N s (Fn G).1 (Fn G).2 T (iS.mp U) (by show(yt op c).map (·.isSome)=Y ao;rw [e,a];rfl) b
variable{s:aj}
def Ia(M:K.In s.heap)(D:mx s.heap L p d z)(a:j5 K (.ref d) "__setattr__"=Y (Y (.builtin "object.__setattr__"))) (b:QF K d=I) (c:Fo K d op=Y O) (C:Fj K d=I)(hw:Fb z t0) (hsz:t0.length<=aR)(e:∀G,mx G L p d (λy=>if y=op then Y v else z y)->ik p s.heap G->KK () {s with heap:=G,toks:=s.toks+2}):aF (aM l m) ss (setAttr (.ref L) op v) KK s5 s:=by
 obtain⟨N,S,n⟩:=D.look;refine PySem.W.set_plain M S a (PySem.W.osa_open (s:={s with toks:=s.toks+1}) (r:=O) M S b c λo=> ?_);obtain⟨Q,g,h⟩:=PySem.W.any_some C;have i:s.heap.get? L=Y ⟨.ref d,Y p,.plain,#[]⟩:=D.obj
 refine aI (bu (aI (aI (wpAny_loadPart i (aI (Tn (s:={s with toks:=s.toks+1}) (PySem.W.looks_clsIn M g) ?_))))));rw [h];refine bu (a:=Y p) (aI (bu (aI ?_)));refine wpAny_nsSet1 (s:={s with toks:=s.toks+1}) D.ns λG T U=> ?_;obtain⟨q,r,t,j,k,x⟩:=T.count (To op v hw);refine aI (wpAny_lookBehind j (by rw [k];exact pastItsLine_dict (cq x (by rw [dG];omega))) ?_);exact bu (e _ ⟨(U.2 _ (eO D.ne)).trans D.obj,T,D.ne⟩ U)
variable{UW:List (aa×J)}{UF:Result->aj->Prop}{f:Z}
def Ib(M:K.In t.heap)(Q:Fp K d=I)(T:j5 K (.ref d) "__init__"=Y (Y (.ref f))) (U:PySem.W.typeIn K (.ref f)=Y (.type "function"))(a:pM (aM l m) (ss.under (.builtin "type.__call__" ⟨.ref d::t1,UW⟩)) (.call (.ref f) ⟨.ref (t.heap.objs.size+1)::t1,UW⟩) (PySem.W.InitBack (t.heap.objs.size+1) UF) {t with heap:=(t.heap.push l3).push (nq d t.heap.objs.size)}):pM (aM l m) ss (.call (.ref d) ⟨t1,UW⟩) UF t:=by obtain⟨b,c,s,e,g⟩:=t;exact PySem.W.make_core (PySem.W.makes_of M Q) (PySem.W.looks_findIn M T) (λself=>PySem.W.bind_fn M self U) (.inl S) a
def aO(A:aa)(v:V):List (aa×V)->List (aa×V)
 |[]=>[(A,v)]
 |(a,x)::b=>if a=A then(a,v)::b else(a,x)::aO A v b
def zN(D A:aa)(v:V):∀U:List (aa×V),(aO D v U).lookup A=if A=D then Y v else U.lookup A
 |[]=>by
  show nv A [(D,v)]=_;by_cases G:A=D
  .have M:(A==D)=I:=iS.mpr G;simp only [nv,M,ak G]
  .have M:(A==D)=ao:=iQ.mpr G;simp only [nv,M,N G]
 |(k,x)::a=>by
  have b:=zN D A v a;rw [show aO D v ((k,x)::a)=(if k=D then(k,v)::a else(k,x)::aO D v a)from rfl];by_cases Q:k=D
  .rw [ak Q];by_cases G:A=k
   .have M:(A==k)=I:=iS.mpr G;simp only [nv,M,ak (G.trans Q)]
   .have M:(A==k)=ao:=iQ.mpr G;simp only [nv,M,N (λT:A=D=>G (T.trans Q.symm))]
  .rw [N Q];by_cases G:A=k
   .have M:(A==k)=I:=iS.mpr G;simp only [nv,M,N (λT:A=D=>Q (G.symm.trans T))]
   .have M:(A==k)=ao:=iQ.mpr G;simp only [nv,M];exact b
def vb(A:aa)(v:V):∀M:List (aa×V),A∈(aO A v M).map (·.1)/\∀D,D∈M.map (·.1)->D∈(aO A v M).map (·.1)
 |[]=>⟨by simp [aO],λD G=>by simp at G⟩
 |(k,x)::a=>by
  obtain⟨U,b⟩:=vb A v a;rw [show aO A v ((k,x)::a)=(if k=A then(k,v)::a else(k,x)::aO A v a)from rfl];by_cases Q:k=A
  .rw [ak Q];subst Q;exact⟨by simp,λD G=>by simpa using G⟩
  .rw [N Q];refine⟨?_,λD G=> ?_⟩
   .rw [aV];exact bM _ U
   .rw [aV]at G⊢;rcases bb.mp G with T|T
    .exact bb.mpr (.inl T)
    .exact bM _ (b D T)
def zO(A:aa)(v:V):∀D:List (aa×V),(aO A v D).length<=D.length+1
 |[]=>by simp [aO]
 |(k,x)::a=>by
  have M:=zO A v a;rw [show aO A v ((k,x)::a)=(if k=A then(k,v)::a else(k,x)::aO A v a)from rfl];by_cases G:k=A
  .rw [ak G,dG,dG];omega
  .rw [N G,dG,dG];omega
def fg.some_of{v:V}{o:Option J}(A:fg (Y v) o):∃u,o=Y u/\RelV v u:=by
 cases o with
 |none=>exact(show False from A).elim
 |some u=>exact⟨u,S,A⟩
def fg.none_of{o:Option J}(A:fg O o):o=O:=by
 cases o with
 |none=>rfl
 |some u=>exact(show False from A).elim
def Ic{v:V}{u:J}(D:RelV v u):QE u=I:=by
 cases v with
 |br=>cases (show u=j2 from D);rfl
 |bl b=>cases (show u=Qm b from D);rfl
 |int i=>obtain⟨A,G⟩:=(show∃A,u=pC i A from D);cases G;rfl
 |str x=>obtain⟨A,G⟩:=(show∃A,u=yk x A from D);cases G;rfl
 |fW b=>obtain⟨A,G⟩:=(show∃A,u=Qn b A from D);cases G;rfl
 |p8 b=>obtain⟨A,G⟩:=(show∃A,u=Qo b A from D);cases G;rfl
 |ref a=>cases (show u=b5 a from D);rfl
 |ty n=>cases (show u=pD n from D);rfl
variable{FM:List (aa×V)}
def vc(G:dr l m H B)(M:H d=Y (.ins L p FM)):∃A,mx B d p L A/\(∀D,fg (FM.lookup D) (A D))/\Fb A (FM.map (·.1))/\FM.length<=1000/\H p=Y (.own d):=by
 obtain⟨N,Q,S,T,A,U,b,c⟩:=(show dZ l m H B d (.ins L p FM)from G d _ M)
 exact⟨A,⟨T,U,S⟩,b,c,Q,N⟩
structure fi(K:ah)(A:Z):Prop where
 pg:yu K A Str.empty=I
 hd:Fj K A=I
 po:QF K A=I
 sa:j5 K (.ref A) "__setattr__"=Y (Y (.builtin "object.__setattr__"))
def fi.get{K:ah}(c:fi K d)(D:aa):yu K d D=I:=c.pg
def dE(K:ah)(A:Z)(D:aa):Prop:=j5 K (.ref A) D=Y O
def dE.Ie{K:ah}(G:dE K d op):Fo K d op=Y O:=by unfold Fo;rw [show j5 K (.ref d) op=Y O from G];rfl
structure Meth(K:ah)(D:Z)(m:aa)(A:Z):Prop where
 at_:j5 K (.ref D) m=Y (Y (.ref A))
 fn:ub K (.ref A)=I
 kp:kS K (.ref A)=I
section
variable {X:Cx} {pins:List (Z×aL)} {σ:St} {H:G} {s:aj} {a C dx:Z} {fs:List (aa×V)} {f:aa} {v:V} {A:b4} {E:J->aj->Prop}
def zP{Q:Bool}{G:J->aj->Prop}(D:Inv X pins σ H s)(S:H a=Y (.ins C dx fs))(c:fi X.K C)(T:dE X.K C f)(U:fs.lookup f=Y v)(b:∀u M,Inv X pins σ H M->RelV v u->G u M):aF (aM X.prog X.w) A (Fl (.ref a) f Q) G E s:=by obtain⟨d,e,g,_,_,_⟩:=vc D.bg S;obtain⟨u,h,N⟩:=fg.some_of (v:=v) (o:=d f) (by rw [<-U];exact g f);exact get_map D.fh e (c.get f) c.hd T h (Ic N) (b u _ (D.tok _) N)
end
def vd(N:Inv h pp py H t)(T:H d=Y (.ins p pr FM))(c:fi h.K p)(Q:Meth h.K p op L)(U:FM.lookup op=O)(b:U5 (.ref L,[.ref d]) t):aF (aM h.prog h.w) ss (pL (.ref d) op T0) U5 s5 t:=by
 obtain⟨D,e,g,_,_,_⟩:=vc N.bg T;have X:D op=O:=fg.none_of (by rw [<-U];exact g op)
 exact H9 N.fh e (c.get op) Q.at_ Q.fn X b
def zQ{y:V}{u:J}(M:Inv h pp py H t)(f:H d=Y (.ins p L FM))(c:fi h.K p)(k:dE h.K p op)(K:FM.length<1000)(l:RelV y u)(m:∀g,Inv h pp py (upd H d (.ins p L (aO op y FM))) g->KK () g):aF (aM h.prog h.w) ss (setAttr (.ref d) op u) KK s5 t:=by
 obtain⟨X,S,n,i,_,j⟩:=vc M.bg f;have a:(FM.map (·.1)).length<=aR:=by rw [ag,yr];omega
 refine Ia M.fh S c.sa c.po k.Ie c.hd i a λq T r=>m _ ?_;have C:∃o,q.get? L=Y o:=let⟨o,_,_,w,_⟩:=T.ns;⟨o,w⟩
 refine M.write (x:=d) (e:=L) (by rw [f];exact j6) (.inr j) (λz G B U=>(r.2 z B).trans U) C ?_;refine⟨by rw [Q S.ne];exact j, ?_,S.ne,T.obj,_,T.ns,λD=> ?_,λD F=> ?_⟩
 .have:=zO op y FM;omega
 .show fg ((aO op y FM).lookup D) (if D=op then Y u else X D);rw [zN];by_cases G:D=op
  .rw [ak G,ak G];exact l
  .rw [N G,N G];exact n D
 .by_cases G:D=op
  .rw [G];exact(vb op y FM).1
  .refine(vb op y FM).2 D (i D λU=>F ?_);show(if D=op then Y u else X D)=O
   rw [N G];exact U
variable{C:Z}
def Inv.made(T:Inv h pp py H t):Inv h pp py (upd (upd H t.heap.objs.size (.own (t.heap.objs.size+1))) (t.heap.objs.size+1) (.ins C t.heap.objs.size [])) {t with heap:=(t.heap.push l3).push (nq C t.heap.objs.size)}:=by
 have G:(t.heap.push l3).get? t.heap.objs.size=Y l3:=gD t.heap S;have U:((t.heap.push l3).push (nq C t.heap.objs.size)).get? (t.heap.objs.size+1)=Y (nq C t.heap.objs.size):=by have:=gD (t.heap.push l3) (o:=nq C t.heap.objs.size) S;rwa [jz]at this
 have b:(t.heap.push l3).Ns t.heap.objs.size (λ_=>O):=⟨l3,#[],_,G,S,(λs c=>absurd c (by simp)),λ_=>S⟩
 have d:=T.laid (a:=t.heap.objs.size) (o:=.own (t.heap.objs.size+1)) (h':=t.heap.push l3) (t':=t.toks) (λe u D=>fe _ D) (aX _) ⟨_,G⟩;refine d.laid (a:=t.heap.objs.size+1) (o:=.ins C t.heap.objs.size []) (t':=t.toks) (λe u D=>fe _ D) (uc (jz _ _)) ?_;have N:t.heap.objs.size≠t.heap.objs.size+1:=fI (rb _)
 refine⟨by rw [Q N,M],cP _,N,U,λ_=>O,(Heap.Ns1.of_empty b).at λo D=>fe _ D,λ_=>j6,λy g=>absurd rfl g⟩
def Ig{D:eg}(T:j7 P op D (eval P D)=eval P D)(U:aF (aM l m) ss (eval P D) (λo b=>aF (aM l m) ss (Fl o op I) IN s5 b) s5 t):aF (aM l m) ss (eval (.Attribute P op pv) D) IN s5 t:=
 Attribute_any_ U (by rw [arm_eval_Attribute,T])
def ve(K:ah)(Q:TE)(D:aa):TE:=λS H T=>Q S H λU G=>∃M A a N v,U=.ref M/\G M=Y (.ins A a N)/\fi K A/\dE K A D/\N.lookup D=Y v/\T v G
def Ih(K:ah)(T U:TE)(N:aa):TS:=λa D H=>U D H λy b=>T D b λc Q=>∃G A S M,c=.ref G/\Q G=Y (.ins A S M)/\fi K A/\dE K A N/\M.length<1000/\
 a.nx D (upd Q G (.ins A S (aO N y M)))
def zR(A:Cx)(T:t8)(U:V->V->G->VK->Prop):Prop:=
 ∀(D:List (Z×aL)) (M:aj) (N:St) (H:G) (Q y:V) (u v:J) (S:VK),Inv A D N H M->RelV Q u->RelV y v->U Q y H S->aF (aM A.prog A.w) A.A (t9 T u v) (EP A D N S) A.xe M
def Ii(K:ah)(b c:TE)(d:V->V->G->VK->Prop)(M:aa):TS:=λe N H=>b N H λf S=>∃D A g T v,f=.ref D/\S D=Y (.ins A g T)/\fi K A/\dE K A M/\T.lookup M=Y v/\
 c N S λy h=>d v y h λi U=>∃a Q,U D=Y (.ins A a Q)/\Q.length<1000/\e.nx N (upd U D (.ins A a (aO M i Q)))
def fX(A:PE h P sc)(D:j7 P op h.env (eval P h.env)=eval P h.env):PE h (.Attribute P op pv) (ve h.K sc op):=by intro G M N H n Q T;refine Ig D (aN (A G M N H _ Q T) λu p ⟨q,U,a,b,d,r,s,t,v,g,X,c,i,j,k⟩=> ?_);subst g;obtain rfl:u=b5 d:=b;exact zP a X c i j λw x l m=>⟨v,U,l,m,k⟩
section
variable {X:Cx} {o e h4:aZ} {f:aa} {pos lq zS:b3} {ta tv:TE}
def dQ(G:PE X o ta)(M:PE X h4 tv)(N:l2 h4 (Y (.Attribute o f lq)) pos.line X.env=df ao):PS X (.Assign [.Attribute o f lq] h4 pos) (Ih X.K ta tv f):=by intro D Q A H t T U;refine plainObj_wpAny_Assign_Attribute (aN (M D Q A H _ T U) λu a ⟨y,b,d,g,h⟩=>aN (G D a A b _ d h) λi v ⟨w,x,j,k,l,z,B,C,m,n,c,p,q,r⟩=> ?_) N;subst m;obtain rfl:i=b5 l:=k;exact zQ j n c p q g λE s=>⟨A,_,s,r⟩
def vf{M:t8}{N:V->V->G->VK->Prop}(T:PE X o ta)(U:PE X h4 tv)(a:zR X M N):PS X (.AugAssign (.Attribute o f zS) M h4 pos) (Ii X.K ta tv N f):=by intro D b A H ab d g;refine wpAny_AugAssign_AttributeAny (aN (T D b A H _ d g) λh ad ⟨al,i,j,k,l,am,an,ap,v,m,n,c,Q,p,q⟩=> ?_);subst m;obtain rfl:h=b5 l:=k;refine zP j n c Q p λu r s t=>aN (U D r A i _ s q) λw x ⟨y,z,B,C,E⟩=>aN (a D x A z v y u w _ B t C E) λas a0 ⟨a1,a2,F,K,a3,a4,L,P,R⟩=> ?_;exact zQ F L c Q P K λa5 W=>⟨A,_,W,R⟩
end
def Ij:V->V->G->VK->Prop:=λM y H N=>∃A D,M=.int A/\y=.int D/\N (.int (A+D)) H
def vg:zR h .Add Ij:=by
 rintro a b c H d y u v g N Q T ⟨A,D,rfl,rfl,U⟩;obtain⟨G,rfl⟩:=(show∃G,u=pC A G from Q)
 obtain⟨M,rfl⟩:=(show∃M,v=pC D M from T)
 exact QC ⟨.int (A+D),H,N.tok _,⟨_,S⟩,U⟩
def SK{H:G}(p:PE h P sc)(q:Inv h pp py H t)(r:sc py H λk b=>∃D N l d g,k=.ref D/\b D=Y (.ins N l d)/\fi h.K N/\Meth h.K N op g/\d.lookup op=O/\ ∀Q,Inv h pp py b Q->aF (aM h.prog h.w) h.A (rf pv (.ref g) [.ref D] (fc pv (cw tz h.env)) (l4 pv (l5 [] h.env))) s5 h.xe Q)(s:eval (.Call (.Attribute P op v4) tz [] pv) h.env=(do
   let m<-eval P h.env
   pH v4.atName
   let(Fk,first)<-l1 [m] (pL m op T0)
   rf pv Fk first (fc pv (cw tz h.env)) (l4 pv (l5 [] h.env)))):
  aF (aM h.prog h.w) h.A (eval (.Call (.Attribute P op v4) tz [] pv) h.env) s5 h.xe t:=by
 refine Fq (pl:=T0) (aN (p pp t py H _ q r) λu Q ⟨k,b,n,X,D,N,l,d,g,v,w,c,x,y,z⟩=> ?_) s;subst v;obtain rfl:u=b5 D:=X;exact vd n w c x y (z Q n)
structure dh(k:Nat)(A:b4):Prop where
 hd:A.handled=O
 dp:A.depth+3*k+5<QG
 un:A.units+16*k+200<cG
def dh.mono(A:dh AT ss)(N:r<=AT):dh r ss:=⟨A.hd,by have:=A.dp;omega,by have:=A.un;omega⟩
def dh.deeper(G:dh (r+1) ss)(M:eg):dh r (ss.deeper M):=
 ⟨G.hd,by have:=G.dp;show ss.depth+1+3*r+5<_;omega,by have:=G.un;show ss.units+3+16*r+200<_;omega⟩
def Ik:(ss.under (.builtin "type.__call__" ⟨.ref d::t1,UW⟩)).depth=ss.depth+1:=by
 first|rfl|simp [Fs,Code.weight,Code.isCreation,Code.isGuard,Code.isCaller,QH,Ft,guardIds]
def Il:(ss.under (.builtin "type.__call__" ⟨.ref d::t1,UW⟩)).units=ss.units+1:=by
 first|rfl|simp [Fs,Code.cUnits,QH,Ft]
def dh.make(A:dh (r+1) ss)(M:Z)(N:List J)(Q:List (aa×J)):dh r (ss.under (.builtin "type.__call__" ⟨.ref M::N,Q⟩)):=
 ⟨A.hd,by have:=A.dp;rw [Ik];omega,by have:=A.un;rw [Il];omega⟩
def dh.depth(G:dh r ss):ss.depth<QG:=by have:=G.dp;omega
def dh.units(G:dh r ss):ss.units+64<cG:=by have:=G.un;omega
def jH:TA:=λ_ H A=>A [] H
def jI(D:TE)(G:TA):TA:=λA H M=>D A H λN Q=>G A Q λS T=>M (N::S) T
def aC:PA h [] jH:=λ_ _ _ _ H G A D=>ud ⟨[],H,A,.nil,D⟩
def D(N:PE h P sc)(Q:PA h tz Ix)(T:cw (P::tz) h.env=(ao,eval P h.env)::cw tz h.env:=by rfl):PA h (P::tz) (jI sc Ix):=by
 intro pv A G M H n U a;rw [T];show aF _ _ (spliced ((ao,eval P h.env)::fc pv (cw tz h.env))) _ _ G
 refine pN (aN (N A G M H _ U a) λu b ⟨c,d,f,g,X⟩=> ?_);exact aN (Q pv A b M d _ f X) λo p ⟨i,j,k,l,m⟩=>⟨c::i,j,k,.cons g l,m⟩
def qh(t:TA):TE:=λM H N=>t M H λD G=>D.length<=aR/\∀A,G A=O->N (.ref A) (upd G A (.tup D))
def Im(t:TA):TE:=λM H N=>t M H λD G=>D.length<=aR/\∀A,G A=O->N (.ref A) (upd G A (.lst D))
def b6{x1}(Q:PA h tz Ix):PE h (.Tuple tz x1 pv) (qh Ix):=by
 intro T U a H i b c;refine wpAny_Tuple_spliced (aN (Q pv T U a H _ b c) λd A ⟨f,D,G,M,N,g⟩=>⟨by rw [<-M.length];exact N, ?_⟩);have X:D A.heap.objs.size=O:=G.bg.fresh (aX _)
 refine⟨.ref A.heap.objs.size,upd D A.heap.objs.size (.tup f),G.laid (t':=A.toks) (λj u P=>fe _ P) (aX _) ?_,S,g _ X⟩;exact⟨N,d,M,⟨_,gD _ S,S,_,S⟩⟩
def dg(Q:PA h tz Ix):PE h (.List tz pv) (Im Ix):=by
 intro T U a H i b c;refine wpAny_List_spliced (aN (Q pv T U a H _ b c) λd A ⟨f,D,G,M,N,g⟩=>⟨by rw [<-M.length];exact N, ?_⟩);have X:D A.heap.objs.size=O:=G.bg.fresh (aX _)
 refine⟨.ref A.heap.objs.size,upd D A.heap.objs.size (.lst f),G.laid (t':=A.toks) (λj u P=>fe _ P) (aX _) ?_,S,g _ X⟩;exact⟨N,d,0,M,gD _ S⟩
abbrev Sp:=List V->G->VK->XK->Prop
abbrev hj:=List eg->G->aj->XK->J->aj->Prop
structure my(N:az)(w:aw)(K:ah)(U:aa->Option J)(base:aE)(A:b4)(outer:List eg)(D:aj)(H:G):Prop where
 frames:A.frames=Y outer
 mod:Mod K U base
 bs:∀M o,base.get? M=Y o->D.heap.get? M=Y o/\H M=O
 iy:base.objs.size<=D.heap.objs.size
 funs:D.heap.FunFrames base outer
 kn:∀M∈ea outer,H M=O
 bg:dr N w H D.heap
 bare:j4 D.gens
def CE(N:List eg)(Q:az)(S:aw)(H:G)(M:aj)(T:VK)(u:J)(A:aj):Prop:=
 ∃v D,A.os=M.os/\j4 A.gens/\Un (ea N) [] H D M.heap A.heap/\dr Q S D A.heap/\RelV v u/\T v D
def CR(N:hj)(A:List eg)(Q:az)(S:aw)(H:G)(D:aj)(T:VK)(U:XK)(a:Result)(M:aj):Prop:=
 match a with
 |.ok (.ret u)=>CE A Q S H D T u M
 |.ok _=>False
 |.error b=>N A H D U b M
structure aS(S:az)(w:aw)(K:ah)(U:aa->Option J)(base:aE)(a:hj)(k:Nat)(b:Z)(c:bc)(ps:List aa)(sp:Sp):Prop where
 len:∀D H M N,sp D H M N->D.length=ps.length
 run:∀(A:b4) (outer:List eg) (Q:aj) (H:G) (args:Args) (T:List J) (D:List V) (M:VK) (N:XK),dh k A->my S w K U base A outer Q H->rg Q c args (ps.zip T)->Vals D T->sp D H M N->
  pM (aM S w) A (.call (.ref b) args) (CR a outer S w H Q M N) Q
variable{UG:List eg}
def my.make{K:ah}{H:G}(A:my l m K z B ss UG t H)(a:Z)(b:List J)(c:List (aa×J)):my l m K z B (ss.under (.builtin "type.__call__" ⟨.ref a::b,c⟩)) UG t H:=⟨by first|exact A.frames|(simpa [Fs,Code.envs,Ft,pushEnvs]using A.frames),A.mod,A.bs,A.iy,A.funs,A.kn,A.bg,A.bare⟩
def Inv.zT(A:Inv h pp py H t):my h.prog h.w h.K h.U h.base h.A h.stack t H:=
 ⟨A.ok.frames,A.ok.mod,A.bs,cq A.ok.iy A.sz,A.stack,A.rN,A.bg,A.bare⟩
variable{NE:aj}
def Inv.after{u:J}(D:Inv h pp py H t)(G:CE h.stack h.prog h.w H t IR u NE):EP h pp py IR u NE:=by obtain⟨v,M,N,Q,T,U,a,b⟩:=G;obtain⟨c,d,e,f,g⟩:=NE;obtain rfl:g=t.os:=N;exact⟨v,M,D.call (h':=c) (g':=d) (d':=e) (t':=f) (ch:=[]) T U Q (λi X=>absurd X (by simp)),a,b⟩
def vh(A:Sp)(D:List V)(G:XK)(M:TA):TE:=λN H Q=>M N H λS T=>A (S++D) T Q G
def rZ(Q:Z)(S:aa)(T:Sp)(U:List V)(a:XK)(b:TE)(c:TA):TE:=λA H d=>b A H λD G=>∃M e N,D=.ref M/\G M=Y (.ins Q e N)/\N.lookup S=O/\
 c A G λf g=>T (D::(f++U)) g d a
def r0(M:Z)(N:Sp)(Q:List V)(S:XK)(T:TA):TE:=λU H a=>T U H λb G=>∀A D,G A=O->G D=O->D≠A->
 N (.ref A::(b++Q)) (upd (upd G D (.own A)) A (.ins M D [])) (λv c=>v=.br/\a (.ref A) c) S
def Binds(K:ah)(N:bc)(D:List aa)(G:List J):Prop:=
 ∀(M:aj) (A:List J),K.In M.heap->(A++G).length=D.length->rg M N ⟨A,[]⟩ (D.zip (A++G))
variable{o0:bc}
def Binds.all{K:ah}(N:∀A:List J,A.length=t0.length->yv o0 ⟨A,[]⟩=df (t0.zip A)):Binds K o0 t0 []:=λQ A _ M=>by rw [bZ]at M⊢;exact .of_eq (N A M)
def Passes(Q:hj)(A:Cx)(S:XK):Prop:=∀(T:List (Z×aL)) (U:St) (H:G) (D:aj) (M:J) (N:aj),Inv A T U H D->Q A.stack H D S M N->A.xe M N
variable{FS:XK}{GM:hj}{BT:Sp}
def vi{H:G}{us:List J}{vs:List V}(U:aS h.prog h.w h.K h.U h.base GM r d o0 t0 BT)(c:dh r h.A)(X:Binds h.K o0 t0 t1)(g:Vals ul t1)(A:Passes GM h FS)(M:Inv h pp py H t) (T:Vals vs us) (a:BT (vs++ul) H IR FS):aF (aM h.prog h.w) h.A (gR (.ref d) us) (EP h pp py IR) h.xe t:=by
 have b:Vals (vs++ul) (us++t1):=T.append g;have i:(us++t1).length=t0.length:=by rw [<-b.length];exact U.len _ _ _ _ a
 refine wpAny_call (yw (U.run h.A h.stack t H ⟨us,[]⟩ (us++t1) (vs++ul) IR FS c M.zT (X t us M.fh i) b a) λT j D=> ?_);cases T with
 |error P=>exact A pp py H t P j M D
 |ok fl=>
  cases fl with
  |ret u=>exact M.after D
  |next=>exact g7 D
  |brk=>exact g7 D
  |cont=>exact g7 D
def Io(G:aS h.prog h.w h.K h.U h.base GM r d o0 t0 BT)(M:dh r h.A)(N:Gl h op)(Q:h.U op=Y (.ref d))(T:kS h.K (.ref d)=I)(U:Binds h.K o0 t0 t1)(a:Vals ul t1)(b:Passes GM h FS)(c:PA h (P::tz) Ix) (X:(op==("__debug__":aa))=ao:=by decide) (g:cw (P::tz) h.env=(ao,eval P h.env)::cw tz h.env:=by rfl) (x:(fc pv (cw tz h.env)).any (·.1)=ao:=by rfl):PE h (.Call (.Name op v4) (P::tz) [] pv) (vh BT ul FS Ix):=by intro i j l H s A n;refine ue (n0 A N Q ?_ X);refine Fu (h₀:=h.base) A.ok.mod.p9 T (aN (c pv i j l H _ A n) λu v ⟨w,y,D,q,e⟩=>⟨D.fh, ?_⟩) g x;exact vi G M U a b D q e
section
variable {X:Cx} {CX:hj} {k:Nat} {f C:Z} {fd:bc} {ps:List aa} {sp:Sp} {gJ:List V} {ds:List J} {E:XK} {x m:aa} {p pos fD:b3} {e o:aZ} {es:List aZ} {ta:TE} {t:TA}
def Ip{pl:fw Bool}(a:PE X o ta)(c:fi X.K C)(D:Meth X.K C m f)(b:aS X.prog X.w X.K X.U X.base CX k f fd ps sp)(d:dh k X.A)(g:Binds X.K fd ps ds)(h:Vals gJ ds)(i:Passes CX X E)(j:PA X (e::es) t)(l:cw (e::es) X.env=(ao,eval e X.env)::cw es X.env:=by rfl) (n:(fc pos (cw es X.env)).any (·.1)=ao:=by rfl)(q:eval (.Call (.Attribute o m fD) (e::es) [] pos) X.env=(do
   let G<-eval o X.env
   pH fD.atName
   let(f,first)<-l1 [G] (pL G m pl)
   rf pos f first (fc pos (cw (e::es) X.env)) (l4 pos (l5 [] X.env))):=by rfl):
  PE X (.Call (.Attribute o m fD) (e::es) [] pos) (rZ C m sp gJ E ta t):=by
 intro M r N H ab Q s;refine Fq (pl:=pl) (aN (a M r N H _ Q s) λu v ⟨x,w,T,y,A,ad,al,z,B,F,K⟩=> ?_) q;subst z;obtain rfl:u=b5 A:=y;refine vd T B c D F ?_;refine Fu (first:=[.ref A]) (h₀:=X.base) Q.ok.mod.p9 D.kp (aN (j pos M v N w _ T K) λL am ⟨P,an,U,R,V⟩=>⟨U.fh, ?_⟩) l n;exact vi (us:=.ref A::L) (vs:=.ref A::P) b d g h i U (.cons S R) V
def Iq{pl:fw Bool}(N:PE X o ta)(c:fi X.K C)(G:Meth X.K C m f)(Q:aS X.prog X.w X.K X.U X.base CX k f fd ps sp)(T:dh k X.A)(U:Binds X.K fd ps ds)(a:Vals gJ ds)(b:Passes CX X E)(d:eval (.Call (.Attribute o m fD) [] [] pos) X.env=(do
   let M<-eval o X.env
   pH fD.atName
   let(f,first)<-l1 [M] (pL M m pl)
   rf pos f first (fc pos (cw [] X.env)) (l4 pos (l5 [] X.env))):=by rfl):
  PE X (.Call (.Attribute o m fD) [] [] pos) (rZ C m sp gJ E ta jH):=by
 intro g h i H w j l;refine Fq (pl:=pl) (aN (N g h i H _ j l) λu y ⟨x,z,D,n,A,B,F,q,r,s,v⟩=> ?_) d;subst q;obtain rfl:u=b5 A:=n;refine vd D r c G s ?_;exact QI (first:=[.ref A]) D.fh G.kp (vi (us:=[.ref A]) (vs:=[.ref A]) Q T U a b D (.cons S .nil) v)
end
structure Mk(K:ah)(d p:Z):Prop where
 makes:Fp K d=I
 init:j5 K (.ref d) "__init__"=Y (Y (.ref p))
 fn:ub K (.ref p)=I
 kp:kS K (.ref d)=I
def zU{H:G}{us:List J}(b:Mk h.K C f)(g:aS h.prog h.w h.K h.U h.base GM r f o0 t0 BT)(j:dh (r+1) h.A)(l:Binds h.K o0 t0 t1)(n:Vals UU t1)(q:Passes GM h FS) (M:Inv h pp py H t) (c:Vals ul us)(A:∀op N,H op=O->H N=O->N≠op->BT (.ref op::(ul++UU)) (upd (upd H N (.own op)) op (.ins C N [])) (λv s=>v=.br/\IR (.ref op) s) FS):aF (aM h.prog h.w) h.A (gR (.ref C) us) (EP h pp py IR) h.xe t:=by
 have X:=A (t.heap.objs.size+1) t.heap.objs.size (M.bg.fresh (Nat.le_succ _)) (M.bg.fresh (aX _)) (fI (rb _));have Q:=Inv.made (C:=C) M
 have i:Vals (V.ref (t.heap.objs.size+1)::(ul++UU)) (b5 (t.heap.objs.size+1)::(us++t1)):=.cons S (c.append n);have w:(b5 (t.heap.objs.size+1)::us++t1).length=t0.length:=by have P:=i.length;rw [g.len _ _ _ _ X]at P;exact P.symm
 refine wpAny_call (Ib (f:=f) M.fh b.makes b.init (iS.mp b.fn) (yw (g.run _ h.stack _ _ ⟨b5 (t.heap.objs.size+1)::us,[]⟩ (b5 (t.heap.objs.size+1)::(us++t1)) _ _ FS (j.make C us []) (Q.zT.make C us []) (l _ (b5 (t.heap.objs.size+1)::us) Q.fh w) i X) λc y D=> ?_));cases c with
 |error P=>exact q pp py _ _ P y Q D
 |ok fl=>
  cases fl with
  |ret u=>
   obtain⟨v,z,B,F,K,L⟩:=Q.after D;subst K;exact⟨F,⟨V.ref (t.heap.objs.size+1),z,B,S,L⟩⟩
  |next=>exact g7 D
  |brk=>exact g7 D
  |cont=>exact g7 D
def Ir(D:Mk h.K d p)(M:aS h.prog h.w h.K h.U h.base GM r p o0 t0 BT)(N:dh (r+1) h.A)(Q:Gl h op)(T:h.U op=Y (.ref d))(U:Binds h.K o0 t0 t1)(a:Vals ul t1)(b:Passes GM h FS)(c:PA h (P::tz) Ix) (X:(op==("__debug__":aa))=ao:=by decide) (g:cw (P::tz) h.env=(ao,eval P h.env)::cw tz h.env:=by rfl) (x:(fc pv (cw tz h.env)).any (·.1)=ao:=by rfl):PE h (.Call (.Name op v4) (P::tz) [] pv) (r0 d BT ul FS Ix):=by intro i j l H s A n;refine ue (n0 A Q T ?_ X);refine Fu (h₀:=h.base) A.ok.mod.p9 D.kp (aN (c pv i j l H _ A n) λu v ⟨w,y,G,q,e⟩=>⟨G.fh, ?_⟩) g x;exact zU D M N U a b G q e
def Iu(D:Mk h.K d p)(G:aS h.prog h.w h.K h.U h.base GM r p o0 t0 BT)(M:dh (r+1) h.A)(N:Gl h op)(Q:h.U op=Y (.ref d))(S:Binds h.K o0 t0 t1)(T:Vals ul t1)(U:Passes GM h FS)(a:(op==("__debug__":aa))=ao:=by decide):PE h (.Call (.Name op pv) [] [] v4) (r0 d BT ul FS jH):=by intro c X g H x A b;refine ue (n0 A N Q ?_ a);exact QI A.fh D.kp (zU (us:=[]) D G M S T U A .nil b)
structure ob(N D:List aa)(A:eZ):Prop where
 kind:A.kind=.function
 co:A.isCoroutine=ao
 gen:A.isGenerator=ao
 nd:N.Nodup
 pre:N.take D.length=D
 par:∀x∈D,A.names.lookup x=Y .local\/A.names.lookup x=Y .cell
 Iv:∀y∈A.names,y.2≠.free
variable{Ty:aa->Option ht}
def zV:∀{G:List (aa×J)} {D:aa->Option J},(∀v,(op,v)∉G)->l6 Ty G D op=D op
 |[],_,_=>rfl
 |(n,v)::b,D,a=>by
  unfold l6;rw [zV λN hw=>a N (bM _ hw)];split
  .have:op≠n:=by rintro rfl;exact a v bY
   simp [this]
  .rfl
def zW:∀{G:List (aa×J)} {D:aa->Option J},(∀v,(op,v)∉G)->l7 Ty G D op=D op
 |[],_,_=>rfl
 |(n,v)::b,D,a=>by
  unfold l7;rw [zW λN hw=>a N (bM _ hw)];split
  .rfl
  .have:op≠n:=by rintro rfl;exact a v bY
   simp [this]
def zX{v:J}:∀{A:List aa} {D:List J} {i:Nat} {G:aa->Option J},A.Nodup->A[i]?=Y op->D[i]?=Y v->Ty op=Y .local->l6 Ty (A.zip D) G op=Y v
 |[],_,_,_,_,c,_,_=>by simp at c
 |_::_,[],_,_,_,_,c,_=>by simp at c
 |p::A,w::D,0,G,nd,a,b,d=>by
  simp at a b;subst a;subst b;show l6 Ty ((p,w)::A.zip D) G p=_
  unfold l6;rw [zV λv Q=>(eB.mp nd).1 (Fv Q).1,ak d];simp
 |p::A,w::D,i+1,G,nd,a,b,d=>by show l6 Ty ((p,w)::A.zip D) G op=_;unfold l6;exact zX (i:=i) (eB.mp nd).2 (by simpa using a) (by simpa using b) d
def zY{v:J}:∀{A:List aa} {D:List J} {i:Nat} {G:aa->Option J},A.Nodup->A[i]?=Y op->D[i]?=Y v->Ty op≠Y .local->l7 Ty (A.zip D) G op=Y v
 |[],_,_,_,_,c,_,_=>by simp at c
 |_::_,[],_,_,_,_,c,_=>by simp at c
 |p::A,w::D,0,G,nd,a,b,d=>by
  simp at a b;subst a;subst b;show l7 Ty ((p,w)::A.zip D) G p=_
  unfold l7;rw [zW λv S=>(eB.mp nd).1 (Fv S).1,N d];simp
 |p::A,w::D,i+1,G,nd,a,b,d=>by show l7 Ty ((p,w)::A.zip D) G op=_;unfold l7;exact zY (i:=i) (eB.mp nd).2 (by simpa using a) (by simpa using b) d
def start(D:List aa)(A:List V):St:=A.map Y++Fw (D.length-A.length) O
def iz(U:hj)(a:az)(b:aw)(K:ah)(f:aa->Option J)(g:aE)(h:List aa)(D:aa)(M:eZ)(N:Z)(Q:J)(c:b4)(S:List eg)(A:aj)(H:G)(d:XK):Cx where
 prog:=a
 w:=b
 K:=K
 U:=f
 base:=g
 A:=c.deeper (eI D M A.heap.objs.size N Q)
 N:=h
 d9:=A
 jE:=H
 env:=eI D M A.heap.objs.size N Q
 outer:=S
 stack:=eI D M A.heap.objs.size N Q::S
 ex:=[]
 calm:=I
 fn:=λ_=>I
 pn:=[]
 xe:=λe i=>aF (aM a b) (c.deeper (eI D M A.heap.objs.size N Q)) (Fx (eI D M A.heap.objs.size N Q) e) (λ_ T=>U S H A d e T) (λj T=>U S H A d j T) i
def zZ{A:eZ}{n:Nat}(G:A.names.lookup op=Y .cell):∃c,(fK n A.names []).lookup op=Y c:=by have M:=Fy A.names n [] (.inl G);exact rh.mp M
variable{KE:List aa}{wn:J}
def Iw{K:ah}{M:eZ}{o:Z}{H:G}(b:ob KE t0 M) (al:ss.handled=O) (D:my l m K z B ss UG t H) (a0:ul.length=t0.length) (am:Vals ul t1)(d:InCallC t t.heap.objs.size (l6 (eI op M t.heap.objs.size o wn).kindOf (t0.zip t1) λ_=>O) (fK (t.heap.objs.size+1) M.names []) (l7 (eI op M t.heap.objs.size o wn).kindOf (t0.zip t1) λ_=>O) NE):Inv (iz GM l m K z B KE op M o wn ss UG t H FS) [] (start KE ul) H NE:=by
 have a1:t0.length<=KE.length:=by have:=bN cN b.pre;rw [dW]at this;omega
 obtain⟨r,a2,rfl,R⟩:=d.done;have E:∀Q:Z,Q∉(iz GM l m K z B KE op M o wn ss UG t H FS).ex:=λQ g=>absurd (show Q∈([]:List Z)from g) (by simp)
 refine⟨⟨D.mod,b.kind,S,S,aX _,λy g c r A=> ?_,λy e=> ?_,λy c _ i=> ?_,λ_=>al,Around.frames_deeper D.frames,.inr ⟨S,S⟩,λQ g=>absurd g (E Q),D.bs,D.iy,λQ _ _=>E Q,λQ g=>absurd g (E Q),D.funs,D.kn⟩,rfl,D.bare,Un.kept R,⟨_,d.toInCall.ns,λj y v r A a3=> ?_⟩,λy c i=>⟨_,d.cell y c i⟩,D.bg.fresh (aX _),λy c i=> ?_,λan k=>absurd (show an∈([]:List (Z×aL))from k) (by simp),D.bg.kept R, ?_⟩
 .exact name_of_addr d.apart (hS r) (hS A)
 .have e:M.names.lookup y=Y .cell\/M.names.lookup y=Y .free:=e;rcases e with e|e
  .exact zZ e
  .exact absurd rfl (b.Iv _ (hS e))
 .exact ym (d.above y c (hS i))
 .have s:j<ul.length:=by
   unfold start at A;by_cases s:j<ul.length
   .exact s
   .rw [hT (by simpa using s)]at A;rw [QJ]at A;split at A<;>cases A
  have ap:ul[j]?=Y v:=by
   unfold start at A;rw [Fz (by simpa using s),bh]at A;cases N:ul[j]? with
   |none=>rw [N]at A;cases A
   |some a=>rw [N]at A;cases A;rfl
  obtain⟨u,X,as⟩:=am.get ap;have k:t0[j]?=Y y:=by rw [<-b.pre,List.getElem?_take_of_lt (by omega)];exact r
  have ab:t0.Nodup:=by rw [<-b.pre];exact b.nd.sublist (List.take_sublist _ _)
  refine⟨u,as, ?_⟩;rcases b.par y (cH k)with h|h
  .exact .inl ⟨h,zX ab k X h⟩
  .obtain⟨c,N⟩:=zZ (n:=t.heap.objs.size+1) h;refine .inr ⟨.inl h,c,N, ?_⟩;have ad:=d.cell y c N
   rw [zY ab k X (by show M.names.lookup y≠_;rw [h];decide)]at ad;exact ad
 .exact D.bg.fresh (ym (d.above y c (hS i)))
 .unfold start;show _=KE.length
  rw [bB,ag,QK];omega
variable{On Uf UB UC UQ:J}{Ps UK:Option Z}{UR:Array (Option J)}
def z0{K:ah}{L:Arguments}{D:eZ}{c:J}   (lk:K.lookup d=Y ⟨UQ,UK,.func (ny Fk op L Pi D wn On Uf UB Ps c UC),UR⟩) (a5:ri K c op=I) (k:ob t0 KE D)(am:∀N H Q T,BT N H Q T->N.length=KE.length)(bd:∀(f:b4) (g:List eg) (M:aj) (H:G) (N:List V) (Q:VK) (T:XK),dh r (f.deeper (eI op D M.heap.objs.size d c))->BT N H Q T->∃x,gm (iz GM l m K z B t0 op D d c f g M H T) Pi x/\x {nx:=λ_ U=>Q .br U,rt:=Q} (start t0 N) H):aS l m K z B GM (r+1) d (ny Fk op L Pi D wn On Uf UB Ps c UC) KE BT:=by
 refine⟨am,λf g M H args be N Q T j e bi bk an=> ?_⟩;have bl:=am _ _ _ _ an
 have ap:K.In M.heap:=e.mod.p9.keeps λb o i=>(e.bs b o i).1;have bm:M.heap.NoLimit:=e.mod.nolimit.keeps λb o i=>(e.bs b o i).1
 have bn:∀y∈KE.zip be,D.names.lookup y.1=Y .local\/(D.names.lookup y.1=Y .cell/\((fK (M.heap.objs.size+1) D.names []).lookup y.1).isSome=I):=λ⟨bs,v⟩ bt=>by
  rcases k.par bs (Fv bt).1 with A|A
  .exact .inl A
  .exact .inr ⟨A,Fy _ _ _ (.inl A)⟩
 refine codeAny_call_function j.depth (ap _ _ lk) S k.co k.gen S (PySem.W.codeRec_of ap a5) (bi _ _ _ _ ?_);refine wpAny_newFunctionEnv_cells k.kind bn λci bv as a0=> ?_;subst bv;refine⟨bm.keeps a0.toInCall.keep,codeAny_func ?_⟩;obtain⟨x,ca,cd⟩:=bd f g M H N Q T (j.deeper _) an;have ce:Inv (iz GM l m K z B t0 op D d c f g M H T) [] (start t0 N) H as:=Iw k j.hd e bl bk a0
 refine g6 (ca [] as (start t0 N) H _ ce cd) (λch C h=> ?_) λi C h=>h;have a1:∀{s:St} {U:G} {v:V} {u:J},Inv (iz GM l m K z B t0 op D d c f g M H T) [] s U C->RelV v u->Q v U->CE g l m H M Q u C:=
  λ{s U v u} a E A=>⟨v,U,a.os,a.bare,a.base,a.bg,E,A⟩
 cases ch with
 |ret u=>
  obtain⟨v,s,U,a,E,A⟩:=h;exact a1 a E A
 |next=>
  obtain⟨s,U,a,A⟩:=h;exact a1 (v:=V.br) (u:=j2) a S A
 |brk=>
  obtain⟨_,_,_,A⟩:=h;exact g7 A
 |cont=>
  obtain⟨_,_,_,A⟩:=h;exact g7 A
def z1(r:List V->G->VK->Prop)(t:TA):TE:=λA H D=>t A H λM N=>r M N D
variable{Ev:String}{Vj:List V->G->VK->Prop}
def cR(M:hB h (.builtin Ev) Vj)(N:Gl h op)(Q:h.U op=O)(U:t2 op=Y (.builtin Ev))(a:PA h (P::tz) Ix)(b:op≠"__name__":=by decide)(c:(op==("__debug__":aa))=ao:=by decide)(d:cw (P::tz) h.env=(ao,eval P h.env)::cw tz h.env:=by rfl) (f:(fc pv (cw tz h.env)).any (·.1)=ao:=by rfl):PE h (.Call (.Name op v4) (P::tz) [] pv) (z1 Vj Ix):=by intro A g D H X G i;refine ue (rO G N Q U ?_ b c);exact Tp (aN (a pv A g D H _ G i) λj k ⟨l,m,n,o,q⟩=>M A k D m l j X n o q) d f
def r1(M:hB h (.type Ev) Vj)(N:Gl h op)(Q:h.U op=O)(U:t2 op=Y (.type Ev))(a:PA h (P::tz) Ix)(b:op≠"__name__":=by decide)(c:(op==("__debug__":aa))=ao:=by decide)(d:cw (P::tz) h.env=(ao,eval P h.env)::cw tz h.env:=by rfl) (f:(fc pv (cw tz h.env)).any (·.1)=ao:=by rfl):PE h (.Call (.Name op v4) (P::tz) [] pv) (z1 Vj Ix):=by intro A g D H X G i;refine ue (rO G N Q U ?_ b c);exact Fi (aN (a pv A g D H _ G i) λj k ⟨l,m,n,o,q⟩=>M A k D m l j X n o q) d f
end L2
namespace HT
def gn(D G:Nat):Option Int->Nat
 |none=>G
 |some v=>if v<0 then(v+(D:Int)).toNat else min v.toNat D
def r2(G M D:Nat):gn G M (Y (D:Int))=min D G:=by show(if(D:Int)<0 then((D:Int)+(G:Int)).toNat else min (D:Int).toNat G)=min D G;rw [N (by omega),uf]
end HT
namespace L2
abbrev TO:=St->G->(Option Int->G->Prop)->Prop
def PO(A:Cx)(T:Option aZ)(U:TO):Prop:=
 ∀(M:List (Z×aL)) (N:aj) (D:St) (H:G) (Q:Option Int->G->Prop),Inv A M D H N->U D H Q->
  aF (aM A.prog A.w) A.A (evalPart T A.env) (λu a=>∃o S,Inv A M D S a/\IsPart u o/\Q o S) A.xe N
def Iy:TO:=λ_ H A=>A O H
def Iz(D:TE):TO:=λG H M=>D G H λN Q=>∃A,N=.int A/\M (Y A) Q
variable{h:Cx}
def r3:PO h O Iy:=by intro G M N H Q A D;rw [QL];exact bu ⟨O,H,A,.none,D⟩
variable{P:aZ}{sc:TE}
def oe(D:PE h P sc):PO h (Y P) (Iz sc):=by intro G M N H f Q hw;rw [evalPart_some];refine aN (D G M N H _ Q hw) λu g ⟨X,T,U,a,b⟩=> ?_;obtain⟨A,rfl,c⟩:=b;obtain⟨d,rfl⟩:=a;exact⟨Y A,T,U,.int A d,c⟩
variable{U6 U7:Option aZ}
def z2(X:Cx)(b:V->Option Int->Option Int->G->VK->Prop):Prop:=
 ∀(D:List (Z×aL)) (A:aj) (M:St) (H:G) (N:V) (v Q S:J) (U6 U7:Option Int) (T:Z) (U:VK),Inv X D M H A->RelV N v->A.heap.IsSliceOf T Q S .none->IsPart Q U6->IsPart S U7->b N U6 U7 H U->
  ∃a c,FA (.type a) "__getitem__"=df (Y (.builtin c))/\A.TypeIs v a/\aF (aM X.prog X.w) X.A (nz v (.ref T)) (EP X D M U) X.xe A
def IA(D:V->Option Int->Option Int->G->VK->Prop)(te:TE)(tl th:TO):TE:=λA H M=>te A H λN Q=>tl A Q λS T=>th A T λu U=>D N S u U M
variable{pv v4:b3}
def qi{tl th:TO}{T:V->Option Int->Option Int->G->VK->Prop}(b:z2 h T)(c:PE h P sc)(d:PO h U6 tl)(f:PO h U7 th):PE h (.Subscript P (.Slice U6 U7 O pv) v4) (IA T sc tl th):=by
 intro D g M H U e i;refine FC (aN (c D g M H _ e i) λv j ⟨k,l,m,n,o⟩=> ?_);refine wpAny_Slice (aN (d D j M l _ m o) λN p ⟨q,r,s,t,w⟩=>aN (f D p M r _ s w) λQ A ⟨u,a,x,y,z⟩=> ?_);rw [QL];refine bu ?_;have B:Inv h D M a {A with heap:=A.heap.push {cls:=.type "slice",data:=.fields #[N,Q,.none]}}:=x.kept (t':=A.toks) λL X C=>fe _ C
 obtain⟨R,W,E,F,K⟩:=b D {A with heap:=A.heap.push {cls:=.type "slice",data:=.fields #[N,Q,.none]}} M a k v N Q q u A.heap.objs.size U B n (Tq ..) t y z;show aF (aM h.prog h.w) h.A (FD P (.Slice U6 U7 O pv) v (.ref A.heap.objs.size)) (EP h D M U) h.xe {A with heap:=A.heap.push {cls:=.type "slice",data:=.fields #[N,Q,.none]}}
 exact tail_any (ops:=[.ref A.heap.objs.size,v]) F E K (by with_unfolding_all rfl)
def gK(A:List V)(lo hi:Option Int):List V:=(A.drop (HT.gn A.length 0 lo)).take (HT.gn A.length A.length hi-HT.gn A.length 0 lo)
def IB(A:List V)(lo hi:Option Int):(gK A lo hi).length<=A.length:=by unfold gK;rw [dW,l8];omega
def lr(D:Nat)(A:Int):Option Nat:=if 0<=A then(if A<D then Y A.toNat else O)else if-(D:Int)<=A then Y (A+D).toNat else O
variable{s2:Type}
def ku(D:List s2)(G:Int):Option s2:=(lr D.length G).bind λM=>D[M]?
variable{v2:Int}{r AT:Nat}
def IC(A:lr r v2=Y AT):seqIndex? v2 r=Y AT/\AT<r/\ -(r:Int)<=v2/\v2<r:=by
 unfold lr at A;by_cases S:0<=v2
 .rw [ak S]at A;by_cases G:v2<r
  .rw [ak G]at A;have T:v2.toNat=AT:=a8 A
   exact⟨by rw [seqIndex_of S G,T],by omega,by omega,G⟩
  .rw [N G]at A;cases A
 .rw [N S]at A;by_cases G: -(r:Int)<=v2
  .rw [ak G]at A;have T:(v2+r).toNat=AT:=a8 A
   exact⟨by rw [seqIndex_neg (by omega) G,T],by omega,G,by omega⟩
  .rw [N G]at A;cases A
def vj{A:List s2}{v:s2}(G:ku A v2=Y v):∃M,seqIndex? v2 A.length=Y M/\A[M]?=Y v/\M<A.length/\ -(A.length:Int)<=v2/\v2<A.length:=by
 unfold ku at G;cases a:lr A.length v2 with
 |none=>rw [a]at G;cases G
 |some M=>
  rw [a]at G;obtain⟨Q,S,T,U⟩:=IC a;exact⟨M,Q,G,S,T,U⟩
def e2{A:List s2}{j:Nat}{v:s2}(G:A[j]?=Y v):ku A (j:Int)=Y v:=by
 have N:j<A.length:=(cM.mp G).1;have M:lr A.length (j:Int)=Y j:=by unfold lr;rw [ak (by omega),ak (by omega)];simp
 unfold ku;rw [M];exact G
def vk(A:List s2)(v:s2):ku (A++[v]) (-1)=Y v:=by
 have G:(A++[v]).length=A.length+1:=by simp
 have M:lr (A++[v]).length (-1)=Y A.length:=by unfold lr;rw [G,N (by decide),ak (by omega)];congr 1;omega
 unfold ku;rw [M];show(A++[v])[A.length]?=Y v
 simp
def ID(D:aZ):Prop:=∀o A,yx D ao o A=FE [o,A] (nz o A)
def qj(A:Cx)(U:R2):Prop:=
 ∀(a D:aZ) (M:List (Z×aL)) (N:aj) (Q:St) (H:G) (S y:V) (v u:J) (T:VK),Inv A M Q H N->RelV S v->RelV y u->U S y H T->
  yx D ao v u=FE [v,u] (nz v u)->aF (aM A.prog A.w) A.A (FD a D v u) (EP A M Q T) A.xe N
def lu(A:Cx)(a:String)(b:V->List V->G->VK->Prop):Prop:=
 ∀(D:List (Z×aL)) (M:aj) (N:St) (H:G) (Q:V) (S:List V) (v:J) (T:List J) (U:VK),Inv A D N H M->RelV Q v->Vals S T->b Q S H U->
  aF (aM A.prog A.w) A.A (gR (.builtin a) (v::T)) (EP A D N U) A.xe M
variable{sB:aZ}{ST:R2}{xz:TE}
def cc(D:qj h ST)(G:PE h sB sc)(M:PE h P xz)(N:ID P):PE h (.Subscript sB P pv) (rT ST sc xz):=by intro Q k S H T U c;exact FC (u3 G M U c λv u d e y f g X i j=>D sB P Q d S f e y v u T g X i j (N _ _))
def IE(K:ah):R2:=λM y H N=>∃A D G v,M=.ref A/\y=.int G/\au K H A D/\ku D G=Y v/\N v H
def z3(K:ah):R2:=λM y H N=>∃A D G v,M=.ref A/\y=.int G/\av K H A D/\ku D G=Y v/\N v H
def IF:R2:=λG y H M=>∃A D c,G=.str A/\y=.int D/\A.length<=aR/\ku A.cps.toList D=Y c/\M (.str ⟨#[c]⟩) H
def di:qj h (IE h.K):=by
 intro C E T j U H F y v u c d k l m e;obtain⟨K,L,G,n,rfl,rfl,o,p,q⟩:=m;cases k;obtain⟨P,rfl⟩:=l;obtain⟨r,A,M,R⟩:=d.list o;obtain⟨f,D,s,V,t,w⟩:=vj p;obtain⟨N,g,x⟩:=A.get s;have z:=A.length
 have W:=n9;have X:EP h T U c N j:=⟨n,H,d,x,q⟩
 by_cases i:0<=G
 .have Q:G.toNat=f:=by
   rw [seqIndex_of i w]at D;exact a8 D
  exact item_listR M.isList i (by omega) (by rw [Q];simpa using g) X e
 .have Q:(G+(r.toArray.size:Int)).toNat=f:=by
   rw [seqIndex_neg (by omega) t]at D;rw [e0,<-z];exact a8 D
  exact QM (x:=N) M.isList.typeIs QN.lookup
   (wpAny_getItem_list_neg (Q:=λA B=>A=N/\EP h T U c A B) M.isList (by omega) (by rw [e0]<;>omega) (by omega) (by rw [Q];simpa using g) ⟨S,X⟩) e
def kv:qj h (z3 h.K):=by
 intro s t G U M H w y v u N Q c d e f;obtain⟨x,z,B,g,rfl,rfl,X,i,j⟩:=e;cases c;obtain⟨C,rfl⟩:=d;obtain⟨E,A,T,F⟩:=Q.tuple X;obtain⟨k,l,m,K,L,P⟩:=vj i;obtain⟨D,n,o⟩:=A.get m;have p:=A.length
 have R:=n9;have q:EP h G M N D U:=⟨g,H,Q,o,j⟩
 exact QM (x:=D) T.typeIs slot_tuple_getitem.lookup
  (getItem_tuple (j:=k) (Q:=λA r=>A=D/\EP h G M N A r) T (by omega) (by omega) (by rw [e0,<-p];exact l) (by simpa using n) ⟨S,q⟩) f
def IG:qj h IF:=by
 intro n o p M q H r y v u s N Q T U d;obtain⟨A,D,c,rfl,rfl,t,e,f⟩:=U;obtain⟨g,rfl⟩:=Q;obtain⟨w,rfl⟩:=T;obtain⟨x,G,X,z,i,j⟩:=vj e;have k:A.cps.toList.length=A.length:=by simp [Str.length]
 rw [k]at G i j;have B:=n9
 exact tail_any (yy M A g) slot_str_getitem.lookup (getItem_str (c:=c) (by
  have l:decide (D< -(2^63:Int))=ao:=bT (by omega);have m:decide (D>=2^63)=ao:=bT (by omega)
  rw [l,m,Bool.or_false]) (by rw [G];simpa using X) ⟨.str ⟨#[c]⟩,H,N.tok _,⟨_,S⟩,f⟩) d
def IH(D G:Option Int)(A:Nat):(pO D G O A).1=((HT.gn A 0 D:Nat):Int)/\(pO D G O A).2.1=((HT.gn A A G:Nat):Int)/\(pO D G O A).2.2=1:=by
 refine⟨?_, ?_,S⟩
 .cases D with
  |none=>simp [pO,HT.gn]
  |some i=>
   simp only [pO,HT.gn,QO,show(1:Int)>0 by decide,eP];by_cases M:i<0
   .simp only [M,eP]<;>omega
   .simp only [M,iT]<;>omega
 .cases G with
  |none=>simp [pO,HT.gn]
  |some i=>
   simp only [pO,HT.gn,QO,show(1:Int)>0 by decide,eP];by_cases M:i<0
   .simp only [M,eP]<;>omega
   .simp only [M,iT]<;>omega
def II(A:List J)(D G:Option Int):slicePick A.toArray D G O=((A.drop (HT.gn A.length 0 D)).take (HT.gn A.length A.length G-HT.gn A.length 0 D)).toArray:=by obtain⟨M,N,Q⟩:=IH D G A.toArray.size;unfold slicePick;rw [M,N,Q];simp only [sliceRange_one,pick_run,e0]<;>rfl
def IJ(K:ah):V->Option Int->Option Int->G->VK->Prop:=λM N Q H S=>∃P D,M=.ref P/\au K H P D/\∀A,H A=O->S (.ref A) (upd H A (.lst (gK D N Q)))
def qk:z2 h (IJ h.K):=by
 intro k Q l H m v n p D G q r M c d e f g;obtain⟨P,A,rfl,X,N⟩:=g;cases c;obtain⟨s,T,U,i⟩:=M.list X;have j:=T.length
 refine⟨"list",_,QN.lookup,U.isList.typeIs, ?_⟩;refine wpAny_getItem_list_slice U.isList d e f .none (by simp) ?_ (by rw [e0]<;>omega);rw [II,<-j];refine⟨.ref Q.heap.objs.size,_,M.laid (t':=Q.toks) (o:=.lst (gK A D G)) (λsB t N=>fe _ N) (aX _) ?_,S,N _ (M.bg.fresh (aX _))⟩;exact⟨cq (IB A D G) i,_,0,(T.drop (HT.gn A.length 0 D)).take (HT.gn A.length A.length G-HT.gn A.length 0 D),gD _ S⟩
def jJ:V->Bool
 |.br=>I
 |.bl _=>I
 |.int _=>I
 |.str _=>I
 |_=>ao
def jK:V->V->Bool
 |.br,.br=>I
 |.bl P,.bl sB=>P==sB
 |.bl P,.int sB=>(if P then 1 else 0)==sB
 |.int P,.bl sB=>P==(if sB then 1 else 0)
 |.int P,.int sB=>P==sB
 |.str P,.str sB=>P==sB
 |_,_=>ao
variable{v1:V}{ss:b4}{t:aj}
def IK{y:V}{u v:J}(N:RelV y u)(A:RelV v1 v)(c:jJ y=I)(Q:jJ v1=I):QP ss t u v (jK y v1):=by
 cases y with
 |br=>
  cases N;cases v1 with
  |br=>cases A;exact Tr _
  |bl P=>cases A;exact Ts P
  |int P=>obtain⟨D,rfl⟩:=A;exact Tt P D
  |str P=>obtain⟨D,rfl⟩:=A;exact Tu P D
  |_=>exact absurd (show ao=I from Q) d5
 |bl sB=>
  cases N;cases v1 with
  |br=>cases A;exact Tv sB
  |bl P=>cases A;exact Tw sB P
  |int P=>obtain⟨D,rfl⟩:=A;exact Tx sB P D
  |str P=>obtain⟨D,rfl⟩:=A;exact Tz sB P D
  |_=>exact absurd (show ao=I from Q) d5
 |int sB=>
  obtain⟨G,rfl⟩:=N;cases v1 with
  |br=>cases A;exact TB sB G
  |bl P=>cases A;exact TC sB G P
  |int P=>obtain⟨D,rfl⟩:=A;exact TF sB G P D
  |str P=>obtain⟨D,rfl⟩:=A;exact Qk sB G P D
  |_=>exact absurd (show ao=I from Q) d5
 |str sB=>
  obtain⟨G,rfl⟩:=N;cases v1 with
  |br=>cases A;exact TH sB G
  |bl P=>cases A;exact TJ sB G P
  |int P=>obtain⟨D,rfl⟩:=A;exact Ql sB G P D
  |str P=>obtain⟨D,rfl⟩:=A;exact TK sB G P D
  |_=>exact absurd (show ao=I from Q) d5
 |_=>exact absurd (show ao=I from c) d5
def hk(A:V)(u:J):Bool:=match u with
 |.none=>jK .br A
 |.bool P=>jK (.bl P) A
 |.int i _=>jK (.int i) A
 |.str c _=>jK (.str c) A
 |_=>ao
def z4{y:V}{u:J}(A:RelV y u)(G:jJ y=I):hk v1 u=jK y v1:=by
 cases y with
 |br=>cases A;rfl
 |bl P=>cases A;rfl
 |int i=>obtain⟨M,rfl⟩:=A;rfl
 |str c=>obtain⟨M,rfl⟩:=A;rfl
 |_=>exact absurd (show ao=I from G) d5
def ql:∀{A:List V} {D:List J},Vals A D->A.all jJ=I->D.any (hk v1)=A.any λy=>jK y v1
 |_,_,.nil,_=>rfl
 |y::A,u::D,.cons d e,c=>by rw [jA,bz]at c;rw [ug,ug,z4 d c.1,ql e c.2]
def qm{v:J}(N:RelV v1 v)(Q:jJ v1=I):∀{G:List V} {M:List J},Vals G M->G.all jJ=I->∀u∈M,QP ss t u v (hk v1 u)
 |_,_,.nil,_=>λu A=>by cases A
 |y::G,u::M,.cons d e,c=>λf A=>by
  rw [jA,bz]at c;rcases bb.mp A with rfl|A
  .rw [z4 d c.1];exact IK d N c.1 Q
  .exact qm N Q e c.2 f A
def iA(A:V)(D:List V):Bool:=D.any λy=>jK y A
def vl(K:ah)(M:Bool):R2:=λD y H N=>∃G A,y=.ref G/\(au K H G A\/av K H G A)/\jJ D=I/\A.all jJ=I/\N (.bl (if M then !iA D A else iA D A)) H
def vm:eD h (fJ .In) (vl h.K ao):=by
 intro i j k H A y v u l N c f g;obtain⟨m,n,rfl,D,d,Q,e⟩:=g;cases f;rcases D with D|D
 .obtain⟨G,M,T,X⟩:=N.list D;refine SeqAt.in_listAt (hk A) T.isList (λU hw=>qm c d M Q U (by simpa using hw)) ⟨.bl _,H,N,S, ?_⟩;rw [show G.toArray.any (hk A)=G.any (hk A)by simp,ql M Q];exact e
 .obtain⟨G,M,T,X⟩:=N.tuple D;refine SeqAt.in_tupleAt (hk A) T (λU hw=>qm c d M Q U (by simpa using hw)) ⟨.bl _,H,N,S, ?_⟩;rw [show G.toArray.any (hk A)=G.any (hk A)by simp,ql M Q];exact e
def z5:eD h (fJ .NotIn) (vl h.K I):=by
 intro i j k H A y v u l N c f g;obtain⟨m,n,rfl,D,d,Q,e⟩:=g;cases f;rcases D with D|D
 .obtain⟨G,M,T,X⟩:=N.list D;refine SeqAt.notIn_listAt (hk A) T.isList (λU hw=>qm c d M Q U (by simpa using hw)) ⟨.bl _,H,N,S, ?_⟩;rw [show G.toArray.any (hk A)=G.any (hk A)by simp,ql M Q];exact e
 .obtain⟨G,M,T,X⟩:=N.tuple D;refine SeqAt.notIn_tupleAt (hk A) T (λU hw=>qm c d M Q U (by simpa using hw)) ⟨.bl _,H,N,S, ?_⟩;rw [show G.toArray.any (hk A)=G.any (hk A)by simp,ql M Q];exact e
def en:hB h (.builtin "len") (λU H c=>∃G A,U=[.ref G]/\(au h.K H G A\/av h.K H G A)/\c (.int A.length) H):=by
 intro k d l H U m c M f g;obtain⟨G,A,rfl,D,e⟩:=g;obtain⟨u,rfl,X⟩:=vals1 f;cases X;have n:=n9
 rcases D with D|D
 .obtain⟨i,N,Q,j⟩:=M.list D;have T:=N.length
  exact Calls.call_len_list Q.isList (by simp only [e0]<;>omega) ⟨.int A.length,H,M.tok _,⟨d.toks+1,by rw [e0,T]⟩,e⟩
 .obtain⟨i,N,Q,j⟩:=M.tuple D;have T:=N.length
  exact len_tuple Q (by simp only [e0]<;>omega) ⟨.int A.length,H,M.tok _,⟨d.toks+1,by rw [e0,T]⟩,e⟩
def vn:hB h (.builtin "len") (λD H G=>∃A,D=[.str A]/\A.length<=aR/\G (.int A.length) H):=by
 intro U c d H D e G M N Q;obtain⟨A,rfl,f,T⟩:=Q;obtain⟨u,rfl,g,rfl⟩:=vals1 N;have X:=n9
 exact len_str (by omega) ⟨.int A.length,H,M.tok _,⟨_,S⟩,T⟩
def IL:hB h (.type "list") (λm H g=>∃Q G,m=[.ref Q]/\(au h.K H Q G\/av h.K H Q G)/\∀X,H X=O->g (.ref X) (upd H X (.lst G))):=by
 intro q T r H m z g f s t;obtain⟨Q,G,rfl,U,v⟩:=t;obtain⟨u,rfl,w⟩:=vals1 s;cases w;have n:∀(D:List J),Vals G D->G.length<=aR->∀(A:aE) (M:Nat),(∀P p,T.heap.get? P=Y p->A.get? P=Y p)->
   A.get? T.heap.objs.size=Y {cls:=.type "list",dict:=O,data:=.seq D.toArray M,slots:= #[]}->EP h q r g (.ref T.heap.objs.size) {T with heap:=A}:=λD N c A M d e=>
  ⟨.ref T.heap.objs.size,_,f.laid (t':=T.toks) d (aX _) (show dZ h.prog h.w _ A _ (.lst G)from⟨c,D,M,N,e⟩),S,v _ (f.bg.fresh (aX _))⟩
 rcases U with U|U
 .obtain⟨D,N,i,c⟩:=f.list U;have x:=N.length
  obtain⟨o,j,k,y,l⟩:=i.isList;exact QQ Q (.inl S) j k l (λA M d e=>n D N c A M d e) (by simp only [e0]<;>omega)
 .obtain⟨D,N,i,c⟩:=f.tuple U;have x:=N.length
  obtain⟨o,j,k,y,l⟩:=i;exact QQ Q (.inr S) j k l (λA M d e=>n D N c A M d e) (by simp only [e0]<;>omega)
def vo(K:ah)(A:String)(M:V)(H:G):Prop:=match M with
 |.str _=>A="str"
 |.int _=>A="int"
 |.ref p=>(A="list"/\∃N,au K H p N)\/(A="tuple"/\∃o,K.lookup p=Y o/\o.cls=.type "tuple"/\o.dict=O)\/
   (A="dict"/\((∃D,H p=Y (.dK D))\/∃D,H p=Y (.dT D)))\/(A="set"/\∃Q S,H p=Y (.set Q S))
 |_=>False
variable{Ev:String}{pp:List (Z×aL)}{py:St}
def z6{H:G}{v:J}(Q:Inv h pp py H t)(e:RelV v1 v)(U:vo h.K Ev v1 H):t.TypeIs v Ev/\∀P,v=.ref P->∃k,t.heap.get? P=Y k/\k.dict=O:=by
 cases v1 with
 |str f=>
  obtain⟨g,rfl⟩:=e;cases (show Ev="str"from U);exact⟨yy t f g,λ_ A=>nomatch A⟩
 |int i=>
  obtain⟨g,rfl⟩:=e;cases (show Ev="int"from U);exact⟨typeIs_int t i g,λ_ A=>nomatch A⟩
 |ref p=>
  cases e;rcases U with⟨rfl,u,q⟩|⟨rfl,o,D,r,a⟩|⟨rfl,D⟩|⟨rfl,w,s,D⟩
  .obtain⟨x,_,l,_⟩:=Q.list q;refine⟨l.isList.typeIs,λP A=> ?_⟩;cases A;obtain⟨o,s,A,c,a,_⟩:=l;exact⟨o,A,a⟩
  .refine⟨⟨o,Q.fh p o D,r⟩,λP A=> ?_⟩;cases A;exact⟨o,Q.fh _ o D,a⟩
  .have f:∃o,t.heap.get? p=Y o/\o.ExactDict:=by
    rcases D with⟨N,D⟩|⟨N,D⟩
    .obtain⟨_,_,_,_,o,_,_,A,M,_⟩:=Q.bg p _ D;exact⟨o,A,M⟩
    .obtain⟨_,_,_,_,o,_,_,A,M,_⟩:=Q.bg p _ D;exact⟨o,A,M⟩
   obtain⟨o,A,M⟩:=f;refine⟨⟨o,A,M.1⟩,λP j=> ?_⟩;cases j;exact⟨o,A,M.2.1⟩
  .obtain⟨o,_,_,_,A,M,_⟩:=Q.bg p _ D;refine⟨⟨o,A,M.1⟩,λP j=> ?_⟩;cases j;exact⟨o,A,M.2.1⟩
 |_=>exact g7 U
def IM(K:ah)(M:String)(N:V->List V->G->VK->Prop)(Q:TE):TE:=λS H T=>Q S H λA D=>vo K M A D/\N A [] D T
def IP(K:ah)(N:String)(Q:V->List V->G->VK->Prop)(S:TE)(T:TA):TE:=λA H U=>S A H λD M=>vo K N D M/\T A M λc d=>Q D c d U
variable{Tk:String}{op:aa}{UN:V->List V->G->VK->Prop}{o:aZ}
def IQ(N:PlainAttrs Ev)(Q:Slot Ev op Tk)(U:yz (.builtin Tk)=df (.type "method_descriptor"))(c:lu h Tk UN)(d:PE h o sc)(f:j7 o op h.env (eval o h.env)=eval o h.env:=by rfl) (g:(pv.endLine==v4.line)=I:=by rfl):PE h (.Call (.Attribute o op pv) [] [] v4) (IM h.K Ev UN sc):=by intro A X D H i j k;refine wpAny_Call_method0_late f g (aN (d A X D H _ j k) λv l ⟨m,n,G,M,p,q⟩=> ?_);obtain⟨s,u⟩:=z6 G M p;exact⟨Ev,Tk,N,Q,U,s,u,pP S (QR (c A l D n m [] v [] i G M .nil q))⟩
variable{tz:List aZ}{Ix:TA}
def fj(U:PlainAttrs Ev)(c:Slot Ev op Tk)(d:yz (.builtin Tk)=df (.type "method_descriptor"))(f:lu h Tk UN)(g:PE h o sc)(e:PA h (P::tz) Ix)(i:j7 o op h.env (eval o h.env)=eval o h.env:=by rfl)(j:((fc pv (cw (P::tz) h.env)).all (λA=> !A.1)&&(l4 pv (l5 [] h.env)).all (λA=>A.1.isSome) &&decide ((P::tz).length+([]:List rj).length+(if([]:List rj).isEmpty then 0 else 1)<30))=I:=by rfl)(k:(v4.endLine==pv.line)=I:=by rfl) (l:cw (P::tz) h.env=(ao,eval P h.env)::cw tz h.env:=by rfl) (m:(fc pv (cw tz h.env)).any (·.1)=ao:=by rfl):PE h (.Call (.Attribute o op v4) (P::tz) [] pv) (IP h.K Ev UN sc Ix):=by
 intro D n G H p q s;refine wpAny_Call_method_late i j k S (aN (g D n G H _ q s) λv u ⟨A,w,M,N,x,y⟩=> ?_);obtain⟨z,B⟩:=z6 M N x;refine⟨Ev,Tk,U,c,d,z,B, ?_⟩;have Q:=e pv D u G w _ M y
 rw [l]at Q⊢;refine pP (by show(ao||(fc pv (cw tz h.env)).any (·.1))=ao;rw [m]<;>rfl) (uh ?_);exact aN Q λC E ⟨F,K,L,X,R⟩=>f D E G K A F v C p L N X R
def vp(A:Cx)(a:String)(b:V->List V->G->VK->Prop):Prop:=
 ∀(D:List (Z×aL)) (M:aj) (N:St) (H:G) (Q:V) (S:List V) (v:J) (T:List J) (U:VK),Inv A D N H M->RelV Q v->Vals S T->b Q S H U->
  aF (aM A.prog A.w) A.A (gR (.builtin a) (v::T)) (EP A D N U) A.xe M
def Vals.one:∀{A:V} {D:List J},Vals [A] D->∃u,D=[u]/\RelV A u
 |_,_,.cons a .nil=>⟨_,S,a⟩
def Vals.zero:∀{A:List J},Vals [] A->A=[]
 |_,.nil=>rfl
variable{ul:List V}{t1:List J}
def Vals.dropLast(G:Vals ul t1):Vals ul.dropLast t1.dropLast:=by
 induction G with
 |nil=>exact .nil
 |cons a b c=>
  cases b with
  |nil=>exact .nil
  |cons d e=>exact .cons a c
def IS(A:List s2):A.eraseIdx (A.length-1)=A.dropLast:=by
 induction A with
 |nil=>rfl
 |cons a b d=>
  cases b with
  |nil=>rfl
  |cons c b=>
   have G:(a::c::b).length-1=((c::b).length-1)+1:=by
    have M:(a::c::b).length=b.length+2:=rfl;have N:(c::b).length=b.length+1:=rfl
    omega
   rw [G,List.eraseIdx_cons_succ,d]
   all_goals rfl
variable{d:Z}{UU:List V}{H:G}
def Inv.vq{og:List J}{A:Array J->Array J}(Q:Inv h pp py H t)(T:H d=Y (.lst UU))(U:t.heap.get? d=Y {cls:=.type "list",data:=.seq t1.toArray r}) (a:A t1.toArray=og.toArray) (c:Vals ul og) (l:ul.length<=aR):Inv h pp py (upd H d (.lst ul)) {t with heap:=t.heap.update d (QS A),toks:=AT}:=by have D:=TM U A;rw [a]at D;refine Q.write (x:=d) (e:=d) (by rw [T];exact trivial) (.inl S) (λs u f g=>(Heap.get?_update_other t.heap (QS A) (eO f)).trans g) ⟨_,D⟩ ?_;exact⟨l,og,_,c,D⟩
def Inv.IT{t':Nat}(D:Inv h pp py H t)(G:Vals ul t1)(M:ul.length<=aR):Inv h pp py (upd H t.heap.objs.size (.lst ul)) {t with heap:=t.heap.push {cls:=.type "list",data:=.seq t1.toArray},toks:=t'}:=
 D.laid (λ_ _ N=>fe _ N) (aX _) ⟨M,t1,0,G,gD _ S⟩
def Inv.fresh(A:Inv h pp py H t):H t.heap.objs.size=O:=A.bg.fresh (aX _)
def Inv.oh(M:Inv h pp py H t)(N:H d=Y (.lst ul)):ul.length<=aR/\∃(A:List J) (D:Nat),Vals ul A/\ul.length=A.length/\t.heap.get? d=Y {cls:=.type "list",data:=.seq A.toArray D}:=by obtain⟨Q,A,D,G,S⟩:=M.bg d _ N;exact⟨Q,A,D,G,G.length,S⟩
def IU(D:r<=aR):FF r=ao:=by unfold FF;exact bT (by omega)
def IV:V->List V->G->VK->Prop:=λM N H Q=>∃A D y,M=.ref A/\N=[y]/\H A=Y (.lst D)/\D.length<aR/\Q .br (upd H A (.lst (D++[y])))
def fY:vp h "list.append" IV:=by intro e f g H X i v j k D N Q T;obtain⟨U,l,y,rfl,rfl,G,m,a⟩:=T;cases N;obtain⟨u,rfl,b⟩:=Q.one;obtain⟨n,M,c,d,o,A⟩:=D.oh G;refine FG gh ⟨_,A,S⟩ F.entry_list_append (F.args_list_append_2 _ _) (PySem.list_append U M.toArray c u (by rw [e0];omega)) ⟨A, ?_⟩;refine⟨.br,_,D.vq (og:=M++[u]) G A (by simp) (d.append (.cons b .nil)) ?_,S,a⟩;rw [bB,List.length_singleton];omega
def IW:V->List V->G->VK->Prop:=λQ S H T=>∃A N D M,Q=.ref A/\S=[.ref N]/\H A=Y (.lst D)/\H N=Y (.lst M)/\D.length+M.length<=aR/\T .br (upd H A (.lst (D++M)))
def vr:vp h "list.extend" IW:=by
 intro l m n H o p v q r G Q T U;obtain⟨a,b,s,t,rfl,rfl,N,c,w,d⟩:=U;cases Q;obtain⟨u,rfl,e⟩:=T.one;cases e;obtain⟨x,A,f,g,y,M⟩:=G.oh N;obtain⟨z,D,X,i,B,j⟩:=G.oh c;have hsz:A.toArray.size+D.toArray.size<=aR:=by rw [e0,e0];omega
 have k:¬(!A.toArray.isEmpty&&FF (A.toArray.size+D.toArray.size))=I:=by rw [IU hsz,Bool.and_false];exact d5
 refine FG yA ⟨_,M,S⟩ F.entry_list_extend (F.args_list_extend_2 _ _)
  (AutoSeq1.list_extend_list_list_0 a A.toArray f b D.toArray X k (by rw [e0];omega) (by omega)) ⟨M,j, ?_⟩
 refine⟨.br,_,G.vq (og:=A++D) N M (by simp) (g.append i) ?_,S,d⟩;rw [bB];omega
def IX:V->List V->G->VK->Prop:=λM N H Q=>∃D A y,M=.ref D/\N=[]/\H D=Y (.lst A)/\A[A.length-1]?=Y y/\Q y (upd H D (.lst A.dropLast))
def IY:vp h "list.pop" IX:=by
 intro j k l H m n v o p G Q T U;obtain⟨a,q,y,rfl,rfl,M,b,c⟩:=U;cases Q;have d:=T.zero
 subst d;obtain⟨r,A,e,N,f,D⟩:=G.oh M;obtain⟨u,g,X⟩:=N.get b;have i:A.toArray[A.toArray.size-1]?=Y u:=by show A.toArray[A.length-1]?=Y u;rw [<-QT,<-f];exact g
 refine FG QU ⟨_,D,S⟩ F.entry_list_pop (F.args_list_pop_1 _) (MeetsSeq.list_pop_last a A.toArray e u i (by rw [e0];omega)) ⟨D, ?_⟩;refine⟨y,_,G.vq (og:=A.dropLast) M D ?_ N.dropLast ?_,X,c⟩
 .show A.toArray.eraseIdxIfInBounds (A.toArray.size-1)=A.dropLast.toArray;rw [e0,List.eraseIdxIfInBounds_toArray,IS]
 .rw [List.length_dropLast];omega
def IZ:R2:=λQ y H S=>∃M N A D,Q=.ref M/\y=.ref N/\H M=Y (.lst A)/\H N=Y (.lst D)/\A.length+D.length<=aR/\∀G,H G=O->S (.ref G) (upd H G (.lst (A++D)))
def lx:eD h (yq .Add) IZ:=by
 intro X M i H j y v u k A N Q T;obtain⟨l,m,n,o,rfl,rfl,U,a,p,b⟩:=T;cases N;cases Q;obtain⟨q,D,r,c,s,d⟩:=A.oh U;obtain⟨t,G,w,e,x,f⟩:=A.oh a;refine PySem.P.add_list d f ?_ (by rw [e0,e0];omega);have g:D.toArray++G.toArray=(D++G).toArray:=by simp
 rw [g];exact⟨.ref _,_,A.IT (t':=M.toks) (c.append e) (by rw [bB];omega),S,b _ A.fresh⟩
def Vals.ints:∀{D:List Int} {A:List J},Vals (D.map V.int) A->rk A D
 |[],A,a=>by rw [fx]at a;cases a;exact IntsAre.nil
 |n::D,A,a=>by
  rw [aV]at a;cases a with
  |cons b c=>
   obtain⟨G,rfl⟩:=b;exact IntsAre.cons n G (Vals.ints c)
def Vals.z7(A:Vals [V.ref d] t1):t1=[b5 d]:=by
 cases A with
 |cons A a=>
  cases a;cases A;rfl
variable{zn:List Int}{s5 IN:J->aj->Prop}{l:az}{m:aw}
def I0(b:ss.handled=O)(N:t.heap.IsList d t1.toArray)(S:rk t1 zn)(c:∀D G M,(∀T o,t.heap.get? T=Y o->D.get? T=Y o)->s5 (.int zn.sum M) {t with heap:=D,toks:=G}):aF (aM l m) ss (gR (.builtin "sum") [.ref d]) s5 IN t:=by
 obtain⟨s,U⟩:=S.allInts.items;have a:numsOf (intItems s).toList=zn:=by rw [<-U];exact S.numsOf
 rw [QV]at a;rw [U]at N;refine PySem.sum_intListG b N λD G M e=> ?_;have:=c D G M e
 rw [preSum_eq,j8 (by simp),a];exact this
def I1(e:ss.handled=O)(U:t.heap.IsList d t1.toArray)(a:rk t1 zn)(f:0<zn.length)(g:∀D M N h,(∀b o,t.heap.get? b=Y o->D.get? b=Y o)->N∈zn->(∀T,T∈zn->T<=N)->s5 (.int N h) {t with heap:=D,toks:=M}):aF (aM l m) ss (gR (.builtin "max") [.ref d]) s5 IN t:=by
 obtain⟨G,c⟩:=a.allInts.items;have s:numsOf (intItems G).toList=zn:=by rw [<-c];exact a.numsOf
 rw [QV]at s;subst s;rw [c]at U;have hsz:0<G.size:=by simpa using f
 refine PySem.max_intList e U hsz λv D M i j=> ?_;obtain⟨k,rfl⟩:=intItems_at i;obtain⟨r,A⟩:=argBest_gt (numAt G) (G.size-1);refine g D M _ k j ?_ λT n=> ?_
 .rw [numAt_eq];exact PySem.getD_mem (by rw [ag,q9];omega)
 .obtain⟨p,q,rfl⟩:=mem_getD n;rw [ag,q9]at q;rw [<-numAt_eq];exact A p (by omega)
def I2(K:ah):List V->G->VK->Prop:=λM H N=>∃(A:Z) (D:List Int),M=[V.ref A]/\au K H A (D.map V.int)/\N (.int D.sum) H
def I3(K:ah):List V->G->VK->Prop:=λN H Q=>∃(M:Z) (A:List Int),N=[V.ref M]/\au K H M (A.map V.int)/\0<A.length/\∀D,D∈A->(∀y,y∈A->y<=D)->Q (.int D) H
def z8(D:h.calm=I):hB h (.builtin "sum") (I2 h.K):=by intro b c d H e f g A G M;obtain⟨X,i,rfl,N,Q⟩:=M;obtain⟨j,T,U,_⟩:=A.list N;rw [Vals.z7 G];exact I0 (A.ok.hd D) U.isList T.ints λk l m a=>⟨.int _,H,A.kept a,⟨_,S⟩,Q⟩
def I4(D:h.calm=I):hB h (.builtin "max") (I3 h.K):=by intro f g X H i j k A G M;obtain⟨l,m,rfl,N,Q,T⟩:=M;obtain⟨n,U,a,_⟩:=A.list N;rw [Vals.z7 G];exact I1 (A.ok.hd D) a.isList U.ints Q λo p b q c d e=>⟨.int _,H,A.kept c,⟨_,S⟩,T b d e⟩
mutual
inductive Dp (K:ah) (H:G):V->l9->Prop
 |br:Dp K H .br .none
 |bl (b:Bool):Dp K H (.bl b) (.bool b)
 |int (i:Int):Dp K H (.int i) (.int i)
 |str (x:aa):Dp K H (.str x) (.str x)
 |lst {a:Z} {xs:List V} {ds:List l9}:au K H a xs->oi K H xs ds->Dp K H (.ref a) (.list ds)
 |tup {a:Z} {xs:List V} {ds:List l9}:av K H a xs->oi K H xs ds->Dp K H (.ref a) (.tuple ds)
inductive oi (K:ah) (H:G):List V->List l9->Prop
 |nil:oi K H [] []
 |cons {v:V} {c:List V} {d:l9} {ds:List l9}:Dp K H v d->oi K H c ds->oi K H (v::c) (d::ds)
end
mutual
theorem Dp.reads(a:Inv h pp py H t):∀(d:l9) (v:V) (u:J),Dp h.K H v d->RelV v u->∃D,Reads t.heap u d D
 |.none,_,_,X,r=>by
  cases X
  cases r
  exact⟨_,Reads.none⟩
 |.bool b,_,_,X,r=>by
  cases X
  cases r
  exact⟨_,Reads.bool b⟩
 |.int i,_,_,X,r=>by
  cases X
  obtain⟨G,rfl⟩:=r
  exact⟨_,Reads.int i G⟩
 |.str x,_,_,X,r=>by
  cases X
  obtain⟨G,rfl⟩:=r
  exact⟨_,Reads.str x G⟩
 |.list A,_,_,X,r=>by
  cases X with
  |lst c e=>
   cases r
   obtain⟨M,N,⟨o,n,Q,T,_,hd⟩,_⟩:=a.list c
   obtain⟨D,U⟩:=Dp.readsAll a A _ M e N
   exact⟨_,Reads.list Q T hd U⟩
 |.tuple A,_,_,X,r=>by
  cases X with
  |tup c e=>
   cases r
   obtain⟨M,N,⟨o,Q,T,n,hd⟩,_⟩:=a.tuple c
   obtain⟨D,U⟩:=Dp.readsAll a A _ M e N
   exact⟨_,Reads.tuple Q T hd U⟩
 |.dict _,_,_,X,_=>by cases X
theorem Dp.readsAll(a:Inv h pp py H t):∀(A:List l9) (f:List V) (g:List J),oi h.K H f A->Vals f g->∃D,ReadsAll t.heap g A D
 |[],_,_,X,r=>by
  cases X
  cases r
  exact⟨_,ReadsAll.nil⟩
 |d::A,_,_,X,r=>by
  cases X with
  |cons j k=>
   cases r with
   |cons l m=>
    obtain⟨D,p⟩:=Dp.reads a d _ _ j l
    obtain⟨bs,q⟩:=Dp.readsAll a A _ _ k m
    exact⟨_,ReadsAll.cons p q⟩
end
def vt(K:ah):R2:=λG y H M=>∃A D,Dp K H G A/\Dp K H y D/\rl A=I/\rl D=I/\M (.bl (yB A D)) H
def z9(K:ah):R2:=λG y H M=>∃A D,Dp K H G A/\Dp K H y D/\rl A=I/\rl D=I/\M (.bl (!yB A D)) H
def vu(D:h.A.units+64<cG):eD h (fJ .Eq) (vt h.K):=by intro X i j H G y v u k A M N Q;obtain⟨T,U,a,b,c,d,e⟩:=Q;obtain⟨l,f⟩:=Dp.reads A T G v a M;obtain⟨m,g⟩:=Dp.reads A U y u b N;exact SeqAt.compareEq_shaped f g c d D ⟨.bl _,H,A,S,e⟩
def I5(D:h.A.units+64<cG):eD h (fJ .NotEq) (z9 h.K):=by intro X i j H G y v u k A M N Q;obtain⟨T,U,a,b,c,d,e⟩:=Q;obtain⟨l,f⟩:=Dp.reads A T G v a M;obtain⟨m,g⟩:=Dp.reads A U y u b N;exact SeqAt.compareNe_shaped f g c d D ⟨.bl _,H,A,S,e⟩
abbrev Aa(A:aE)(c:Z)(v:Option J):Prop:=A.IsCell c v
def I6(D G:eZ):eZ:=
 {D with names:=D.names.map λ(A,M)=>if(M==.free&&G.kind==.function&&G.names.lookup A==Y .cell)then(A,.cell)else(A,M)}
def fE(A:List (aa×Z)):List (aa×ht)->List (aa×Z)->List (aa×Z)
 |[],a=>a
 |(n,k)::b,a=>if k==.free then fE A b ((n,(A.lookup n).getD 0)::a)else fE A b a
def Ab(D:eg)(T:aa×ht->List (aa×Z)->fw (ForInStep (List (aa×Z))))(a:∀A M c,T (A,M) c=if M==.free then(do let f<-cellOf D A;df (.yield ((A,f)::c)))else df (.yield c)):∀(U:List (aa×ht)) (G:List (aa×Z)),(∀y∈U,y.2=.free->∃c,D.cells.lookup y.1=Y c)->ui U G T=df (fE D.cells U G)
 |[],G,_=>by rw [uj];rfl
 |(A,M)::g,G,b=>by
  rw [FH,a];have d:=λG=>Ab D T a g G λy h=>b y (bM _ h)
  unfold fE;by_cases Q:(M==rm)=I
  .rw [ak Q,ak Q];obtain⟨c,e⟩:=b (A,M) bY (by simpa using Q);have i:cellOf D A=df c:=by unfold cellOf;rw [e]
   rw [i];have j:(D.cells.lookup A).getD 0=c:=by rw [e];rfl
   rw [j];exact d _
  .rw [N Q,N Q];exact d _
def I7{A:eZ}{D:eg}(G:∀y∈A.names,y.2=.free->∃c,D.cells.lookup y.1=Y c):closureFor A D=df (fE D.cells A.names []):=by simp only [closureFor];rw [Ab D _ (λM N c=>S) A.names [] G];rfl
def mem_lookup:∀{G:List (aa×s2)} {A:aa} {c:s2},(A,c)∈G->∃M,G.lookup A=Y M
 |(k,v)::b,A,c,h=>by
  rw [pQ];cases a:A==k with
  |true=>exact⟨_,S⟩
  |false=>
   rcases bb.mp h with N|h
   .cases N;simp at a
   .exact mem_lookup h
variable{US:List (aa×Z)}
def r5:∀{Q:List (aa×ht)} {G:List (aa×Z)} {D:aa} {c:Z},(D,c)∈fE US Q G->(D,c)∈G\/((D,.free)∈Q/\c=(US.lookup D).getD 0)
 |[],_,_,_,A=>.inl A
 |(m,k)::d,G,D,c,A=>by
  unfold fE at A;split at A
  .rename_i M;have M:k=.free:=by simpa using M
   rcases r5 A with A|⟨a,b⟩
   .rcases bb.mp A with T|A
    .cases T;exact .inr ⟨M▸bY,S⟩
    .exact .inl A
   .exact .inr ⟨bM _ a,b⟩
  .rcases r5 A with A|⟨a,b⟩
   .exact .inl A
   .exact .inr ⟨bM _ a,b⟩
def vv:∀{M:List (aa×ht)} {A:List (aa×Z)} {D:aa×Z},D∈A->D∈fE US M A
 |[],_,_,a=>a
 |(m,k)::b,A,D,a=>by
  unfold fE;split
  .exact vv (bM _ a)
  .exact vv a
def vw{cells:List (aa×Z)}:∀{D:List (aa×ht)} {acc:List (aa×Z)} {A:aa},(A,.free)∈D->(A,(cells.lookup A).getD 0)∈fE cells D acc
 |(m,k)::a,acc,A,h=>by
  unfold fE;rcases bb.mp h with G|h
  .cases G;exact vv bY
  .split
   .exact vw h
   .exact vw h
def qn:∀{Q:List (aa×ht)} {D:aE} {T:List (aa×Z)} {M:aa} {c:Z},(M,c)∈fK D.objs.size Q T->(M,c)∈T\/((M,.cell)∈Q/\D.objs.size<=c/\Aa (nA D Q) c O)
 |[],_,_,_,_,D=>.inl D
 |(n,k)::e,D,T,M,c,A=>by
  unfold fK at A;unfold nA;split at A
  .rename_i G;rw [ak G];have G:k=.cell:=by simpa using G
   rw [<-jz D {cls:=.type "cell",data:=.cell O}]at A;rcases qn A with A|⟨b,a,d⟩
   .rcases bb.mp A with U|A
    .cases U;exact .inr ⟨G▸bY,aX _,_,yC e _ _ _ (gD _ S),S⟩
    .exact .inl A
   .rw [jz]at a;exact .inr ⟨bM _ b,uk a,d⟩
  .rename_i G;rw [N G];rcases qn A with A|⟨b,a,d⟩
   .exact .inl A
   .exact .inr ⟨bM _ b,a,d⟩
def r6:∀{names:List (aa×ht)} {n:Nat} {A:List (aa×Z)} {D:aa×Z},D∈A->D∈fK n names A
 |[],_,_,_,a=>a
 |(m,k)::b,n,A,D,a=>by
  unfold fK;split
  .exact r6 (bM _ a)
  .exact r6 a
def vx:∀{D:List (aa×ht)} {n:Nat} {acc:List (aa×Z)} {A:aa},(A,.cell)∈D->∃c,(A,c)∈fK n D acc
 |(m,k)::a,n,acc,A,h=>by
  unfold fK;rcases bb.mp h with G|h
  .cases G;exact⟨n,r6 bY⟩
  .split
   .exact vx h
   .exact vx h
def vy:∀{f:List (aa×ht)} {h:aE} {D:List (aa×Z)} {A y:aa} {c:Z},(∀Q∈D,Q.2<h.objs.size)->(∀A y c,(A,c)∈D->(y,c)∈D->A=y)->(A,c)∈fK h.objs.size f D->(y,c)∈fK h.objs.size f D->A=y
 |[],_,_,_,_,_,_,d,b,a=>d _ _ _ b a
 |(n,k)::j,h,D,A,y,c,e,d,b,a=>by
  unfold fK at b a;split at b
  .rename_i T;rw [ak T]at a;rw [<-jz h {cls:=.type "cell",data:=.cell O}]at b a;refine vy (h:=h.push _) (λQ U=> ?_) (λA y c G M=> ?_) b a
   .rw [jz];rcases bb.mp U with rfl|U
    .exact rb _
    .exact FI (e Q U)
   .rcases bb.mp G with g|G<;>rcases bb.mp M with i|M
    .cases g;cases i;rfl
    .cases g;exact absurd (e _ M) (j3 _)
    .cases i;exact absurd (e _ G) (j3 _)
    .exact d _ _ _ G M
  .rename_i T;rw [N T]at a;exact vy e d b a
variable{Ps:Option Z}{wn:J}{p:Z}{No:kR}
def I8{D:eZ}{U:eg}{b:eg->aj->Prop}(g:b (newEnv D t.heap.objs.size d (fK (t.heap.objs.size+1) D.names US) op Ps wn (Y U) p) {t with heap:=nA (t.heap.push {cls:=.type "dict",data:=.dict #[]}) D.names}):aF No ss (QW D d US [] op Ps wn (Y U) p) b s5 t:=by simp only [QW,QX,eP];refine aI (wpAny_alloc ?_);refine aI (wpAny_layCells _ (λh i c=>S) D.names US _ _ ?_);rw [show({t with heap:=t.heap.push {cls:=.type "dict",data:=.dict #[]}}:aj).heap.objs.size=t.heap.objs.size+1 from jz ..];rw [uj];exact aI (bu (bu g))
def vz{G:eZ}:∀{d:List (aa×ht)} {T:aa} {M:ht},(d.map λ(D,M)=>if(M==rm&&G.kind==.function&&G.names.lookup D==Y .cell)then(D,FJ)else(D,M)).lookup T=Y M->∃U,d.lookup T=Y U/\(M=U\/(U=.free/\M=.cell))
 |[],_,_,c=>by simp at c
 |(D,b)::e,T,M,c=>by
  have f:= @vz G e T M;have A:nv T ((if(b==rm&&G.kind==.function&&G.names.lookup D==Y .cell)=I then(D,FJ)else(D,b))::(e.map _))=Y M:=c
  cases a:T==D with
  |true=>
   simp only [pQ,a];by_cases Q:(b==rm&&G.kind==.function&&G.names.lookup D==Y .cell)=I
   .rw [ak Q]at A;simp only [pQ,a]at A;cases A;simp only [bz,iS]at Q;exact⟨b,S,.inr ⟨Q.1.1,S⟩⟩
   .rw [N Q]at A;simp only [pQ,a]at A;cases A;exact⟨_,S,.inl S⟩
  |false=>
   simp only [pQ,a];by_cases Q:(b==rm&&G.kind==.function&&G.names.lookup D==Y .cell)=I
   .rw [ak Q]at A;simp only [pQ,a]at A;exact f A
   .rw [N Q]at A;simp only [pQ,a]at A;exact f A
structure qo(N:List aa)(D A:eZ)(own:List (aa×Nat)):Prop where
 kind:A.kind=.function
 uniq:∀y∈A.names,A.names.lookup y.1=Y y.2
 ix:∀p∈own,N[p.2]?=Y p.1
 free:∀y∈A.names,y.2=.free->D.names.lookup y.1=Y .cell\/D.names.lookup y.1=Y .free
 own:∀y∈A.names,y.2=.local\/y.2=.cell->y.1∈own.map (·.1)\/y.1∉N
def wipe(A:St):List Nat->St
 |[]=>A
 |v::a=>(wipe A a).set v O
def vA(A:St):∀D:List Nat,(wipe A D).length=A.length
 |[]=>rfl
 |v::D=>by unfold wipe;rw [List.length_set,vA A D]
def vB:∀{D:List Nat},(wipe py D)[r]?=Y (Y v1)->py[r]?=Y (Y v1)/\r∉D
 |[],a=>⟨a,by simp⟩
 |v::D,a=>by
  unfold wipe at a;by_cases M:v=r
  .subst M;by_cases Q:v<(wipe py D).length
   .rw [t4 Q]at a;cases a
   .rw [FK (by simpa using Q)]at a;cases a
  .rw [t5 M]at a;obtain⟨S,T⟩:=vB a;exact⟨S,by simp only [bb,pR];exact⟨λU=>M U.symm,T⟩⟩
abbrev Cx.fZ(A:Cx)(D:aj)(H:G)(M:eZ)(N:eg)(Q:List Z):Cx:={A with d9:=D,jE:=H,env:=N,outer:=A.stack,ex:=Q,fn:=λS=>M.names.lookup S==Y .cell,pn:=[],xe:=λ_ _=>False}
variable{wf:List Z}{UH:List (aa×Nat)}
def I9{G:eZ}(M:Inv h pp py H t)(g:qo h.N h.env.scope G UH)(an:h.N.Nodup)(q:∀Q∈wf,i6 h pp H Q/\Q<t.heap.objs.size):Inv (h.fZ t H G (iU G (fK (t.heap.objs.size+1) G.names (fE h.env.cells G.names [])) t.heap.objs.size h.env) wf) [] (wipe py (UH.map (·.2))) H {t with heap:=nA (t.heap.push {cls:=.type "dict",data:=.dict #[]}) G.names}:=by
 have ap:∀y∈G.names,y.2=.free->∃c,h.env.cells.lookup y.1=Y c:=λy e A=>by
  rcases g.free y e A with N|N
  .exact M.ok.has _ (.inl N)
  .exact M.ok.has _ (.inr N)
 generalize u:iU G (fK (t.heap.objs.size+1) G.names (fE h.env.cells G.names [])) t.heap.objs.size h.env=a;have x:∀Q o,t.heap.get? Q=Y o->(nA (t.heap.push {cls:=.type "dict",data:=.dict #[]}) G.names).get? Q=Y o:=λQ o A=>yC _ _ _ _ (fe _ A)
 have z:a.locals=t.heap.objs.size:=by rw [<-u];rfl
 have m:a.cells=fK (t.heap.objs.size+1) G.names (fE h.env.cells G.names []):=by rw [<-u];rfl
 have P:a.scope=I6 G h.env.scope:=by rw [<-u];rfl
 rw [<-jz t.heap {cls:=.type "dict",data:=.dict #[]}]at m;have v:∀{y c},(y,c)∈fE h.env.cells G.names []->h.env.cells.lookup y=Y c/\c<t.heap.objs.size:=λ{y c} U=>by
  rcases r5 U with U|⟨T,rfl⟩
  .cases U
  .obtain⟨c,ab⟩:=ap _ T S;rw [ab];obtain⟨B,D⟩:=M.cell _ _ ab;exact⟨S,D.lt⟩
 have R:∀{y c},a.cells.lookup y=Y c->(h.env.cells.lookup y=Y c/\c<t.heap.objs.size)\/(t.heap.objs.size+1<=c/\Aa (nA (t.heap.push {cls:=.type "dict",data:=.dict #[]}) G.names) c O):=λ{y c} A=>by
  rw [m]at A;rcases qn (hS A)with U|⟨_,f,as⟩
  .exact .inl (v U)
  .rw [jz]at f;exact .inr ⟨f,as⟩
 have ad:∀{y},G.names.lookup y=Y .free->∃c,a.cells.lookup y=Y c/\h.env.cells.lookup y=Y c:=λ{y} C=>by
  have e:(y,rm)∈G.names:=hS C;obtain⟨E,b⟩:=mem_lookup (r6 (names:=G.names) (n:=(t.heap.push {cls:=.type "dict",data:=.dict #[]}).objs.size) (vw (cells:=h.env.cells) (acc:=[]) e));rw [<-m]at b;refine⟨E,b, ?_⟩;rw [m]at b;rcases qn (hS b)with U|⟨T,_,_⟩
  .exact(v U).1
  .have:=g.uniq _ T;rw [C]at this;cases this
 have a0:(h.fZ t H G a wf).Ok:=by
  refine⟨M.ok.mod,by show a.scope.kind=_;rw [P];exact g.kind,by show a.globals=_;rw [<-u];exact M.ok.glob,by show a.builtins=_;rw [<-u];exact M.ok.blt,by show t.heap.objs.size<=a.locals;rw [z];exact aX _,
   λy D c X i=> ?_,λy e=> ?_,λy c D A=> ?_,M.ok.hd,M.ok.frames,.inl S,λQ j=>⟨?_,λy c A D=> ?_⟩,M.bs,cq M.ok.iy M.sz,λQ o A j=> ?_,λQ j D=> ?_,M.stack,M.rN⟩
  .have X:a.cells.lookup y=Y c:=X;have i:a.cells.lookup D=Y c:=i
   rw [m]at X i;refine vy (λk r=> ?_) (λy D c a1 Q=>M.ok.inj y D c (v a1).1 (v Q).1) (hS X) (hS i);rw [jz];exact FI (v (y:=k.1) (c:=k.2) r).2
  .show∃c,a.cells.lookup y=Y c;have s:∀N,a.kindOf y=Y N->(N=.cell\/N=.free)->∃c,a.cells.lookup y=Y c:=λN p V=>by
    unfold Env.kindOf at p;rw [P]at p;obtain⟨l,A,w⟩:=vz p;have:l=.cell\/l=.free:=by
     rcases w with rfl|⟨rfl,_⟩
     .exact V
     .exact .inr S
    rcases this with rfl|rfl
    .obtain⟨c,U⟩:=vx (n:=(t.heap.push {cls:=.type "dict",data:=.dict #[]}).objs.size) (acc:=fE h.env.cells G.names []) (hS A);obtain⟨E,b⟩:=mem_lookup U;exact⟨E,by rw [m];exact b⟩
    .obtain⟨c,T,_⟩:=ad A;exact⟨c,T⟩
   rcases e with e|e
   .exact s _ e (.inl S)
   .exact s _ e (.inr S)
  .have D:(G.names.lookup y==Y FJ)=I:=D;have D:G.names.lookup y=Y .cell:=by simpa using D
   have A:a.cells.lookup y=Y c:=A;rw [m]at A;rcases qn (hS A)with U|⟨_,f,_⟩
   .rcases r5 U with U|⟨T,_⟩
    .cases U
    .have F:=g.uniq _ T;rw [D]at F;cases F
   .rw [jz]at f;exact uk f
  .show Q≠a.locals;rw [z];exact fI (q Q j).2
  .have A:a.cells.lookup y=Y c:=A;rcases R A with⟨T,_⟩|⟨T,_⟩
   .exact(q Q j).1.2.2.2.2.1 y c T D
   .have f:t.heap.objs.size+1<=Q:=by rw [<-D];exact T
    exact absurd (gP (q Q j).2 (uk f)) (j3 _)
  .rcases(q Q j).1.2.2.2.1 with D|D
   .exact M.ok.mv Q o A D
   .exact absurd (gP (dN A) (cq M.ok.iy D)) (j3 _)
  .rcases bb.mp (M.rM Q D)with D|D
   .exact(q Q j).1.2.1 D
   .exact(q Q j).1.2.2.1 D
 refine⟨a0,S,M.bare,Un.kept x,⟨λ_=>O, ?_,λa2 y a3 X i d=> ?_⟩,λy c A=> ?_, ?_,λy c A=> ?_,λk r=> ?_,M.bg.kept x,by rw [vA];exact M.len⟩
 .show Heap.Ns _ a.locals _;rw [z];exact Heap.Ns.keeps (Heap.Ns.new ..) λQ o A=>yC _ _ _ _ A
 .obtain⟨i,a4⟩:=vB i;have K:G.names.lookup y=Y .free/\(a.kindOf y=Y .cell\/a.kindOf y=Y .free):=by
   have s:∀N,a.scope.names.lookup y=Y N->N=.local\/N=.cell\/N=.free->G.names.lookup y=Y .free/\(a.kindOf y=Y .cell\/a.kindOf y=Y .free):=λN p V=>by
    have al:=p;rw [P]at p;obtain⟨l,A,w⟩:=vz p;have am:¬(l=.local\/l=.cell):=λa5=>by
     rcases g.own _ (hS A) a5 with b|b
     .obtain⟨k,r,bd⟩:=bE.mp b;have d:=g.ix k r
      have:k.1=y:=bd;rw [this]at d;exact a4 (bE.mpr ⟨k,r,uR an d X⟩)
     .exact b (cH X)
    rcases w with rfl|⟨rfl,rfl⟩
    .rcases V with rfl|rfl|rfl
     .exact absurd (.inl S) am
     .exact absurd (.inr S) am
     .exact⟨A,.inr al⟩
    .exact⟨A,.inl al⟩
   have d:nX a.scope y:=d;rcases d with d|d|d
   .exact s _ d (.inl S)
   .exact s _ d (.inr (.inl S))
   .exact s _ d (.inr (.inr S))
  obtain⟨bi,bk,C⟩:=M.loc;have be:nX h.env.scope y:=(g.free _ (hS K.1) S).elim (λN=>.inr (.inl N)) (λN=>.inr (.inr N))
  obtain⟨B,w,F⟩:=C a2 y a3 X i be;refine⟨B,w,.inr ⟨K.2, ?_⟩⟩;obtain⟨c,T,f⟩:=ad K.1;rcases F with⟨N,_⟩|⟨_,E,b,D⟩
  .have N:h.env.scope.names.lookup y=Y .local:=N;rcases g.free _ (hS K.1) S with l|l<;>rw [show h.env.scope.names.lookup y=_ from l]at N<;>cases N
  .rw [f]at b;cases b;exact⟨c,T,D.keeps x⟩
 .have A:a.cells.lookup y=Y c:=A;rcases R A with⟨T,_⟩|⟨_,D⟩
  .obtain⟨B,D⟩:=M.cell y c T;exact⟨B,D.keeps x⟩
  .exact⟨_,D⟩
 .show H a.locals=O;rw [z];exact M.bg.fresh (aX _)
 .have A:a.cells.lookup y=Y c:=A;rcases R A with⟨T,_⟩|⟨T,_⟩
  .exact M.gI y c T
  .exact M.bg.fresh (uk T)
 .exact absurd (show k∈([]:List (Z×aL))++[]from r) (by simp)
variable{X:Cx}
def Ja{y:V}{v:J}(M:Inv X pp py H t)(N:H d=Y (.lst ul))(b:ul.length<aR)(c:RelV y v)(A:∀Q,Inv X pp py (upd H d (.lst (ul++[y]))) Q->s5 .none Q):aF (aM X.prog X.w) X.A (gR (.builtin "list.append") [.ref d,v]) s5 IN t:=by
 obtain⟨m,e,f,T,g⟩:=M.bg d _ N;have n:=T.length
 refine append_at (hsz:=by rw [e0];omega) g λh i U=> ?_;refine A {t with heap:=h} (M.write (t':=t.toks) (by rw [N];trivial) (.inl S) (λj u k l=>(i.2 j k).trans l) ⟨_,U⟩ ⟨by rw [bB];exact b,e++[v],f+1,T.append (.cons c .nil), ?_⟩);rw [U];simp
def qp(X:Cx)(M:List aZ)(N:TT):Prop:=
 ∀(pp:List (Z×aL)) (t:aj) (py:St) (H:G) (A:Bool->G->Prop),Inv X pp py H t->N py H A->
  aF (aM X.prog X.w) X.A (ui M I λc D=>if D=I then do let Q<-isTrue c X.env (eval c X.env);df (pS Q)else df (pS D)) (TP X pp py A) X.xe t
def hl:TT:=λ_ H A=>A I H
def hC:qp h [] hl:=λ_ _ _ H _ A D=>wpAny_tests_nil ⟨H,A,D⟩
variable{Hp:TT}
def kx{c:aZ}(D:PT h c Hp):qp h [c] Hp:=λpp t py H G M hw=>wpAny_tests_one (D pp t py H G M hw)
def oj{G:fw s2}{M N:s2->aj->Prop}(a:aF No ss G M (λ_ _=>False) t)(b:∀T t,M T t->N T t):aF No ss G N s5 t:=g6 a b λ_ _ c=>g7 c
variable{UF:Result->aj->Prop}{On:J}{Rs:aZ}
def Jb{q:eZ}{M:eg}(e:Nat->aj->Prop)(z:∀b t,e b t->aF (aM l m) ss (pK wn) (λd n=>match d with
   |none=>UF (.ok .next) n
   |some v=>aF (aM l m) ss (yn P wn v) (λ_ s=>aF (aM l m) ss (t7 P M v) (λ_ A=>aF (aM l m) ss (ui tz I λc d=>if d=I then do let f<-isTrue c M (eval c M);df (pS f)else df (pS d)) (λf o=>if f=I then aF (aM l m) ss (eval sB M) (λg u=>
       aF (aM l m) ss (gR (.builtin "list.append") [On,g]) (λ_ w=>∃h,h<b/\e h w) (rn (aM l m) ss M λN Q=>UF (.error N) Q) u) (rn (aM l m) ss M λN Q=>UF (.error N) Q) o
      else∃h,h<b/\e h o) (rn (aM l m) ss M λN Q=>UF (.error N) Q) A) (rn (aM l m) ss M λN Q=>UF (.error N) Q) s) (rn (aM l m) ss M λN Q=>UF (.error N) Q) n) (rn (aM l m) ss M λN Q=>UF (.error N) Q) t)
  (b:Nat) (B:e b t):
  pM (aM l m) ss (.compLoop (.ListComp sB [⟨P,Rs,tz,0⟩] q pv) 0 wn On M) UF t:=by
 refine codeAny_loop S e (λb t C=> ?_) b B;show aF _ ss ((compTurn (.ListComp sB [⟨P,Rs,tz,0⟩] q pv) 0 wn On M).onRaise (λg=>do noteFrame g M;theTreesLotGoes g)) _ _ t
 refine wpAny_noted ?_;rw [compTurn_list];refine aI (QY (aI (g6 (z b t C) (λd n x=> ?_) λ_ _ T=>T)));cases d with
 |none=>exact bu x
 |some v=>
  refine aI (g6 x (λ_ s E=> ?_) λ_ _ T=>T);refine aI (g6 E (λ_ A F=>aI (g6 F (λf o y=> ?_) λ_ _ T=>T)) λ_ _ T=>T);cases f with
  |false=>exact bu ⟨S,y⟩
  |true=>
   exact aI (aI (g6 y (λg u H=>aI (g6 H (λ_ w K=>bu (bu ⟨S,K⟩)) λ_ _ T=>T)) λ_ _ T=>T))
def r7(i:TI)(j:TG)(k:TT)(l:TE)(Q:List Nat):TE:=λS H m=>i S H λT d=>∀A,d A=O->∃U:Nat->Nat->G->Prop,(∃N,U 0 N (upd d A (.lst [])))/\∀D N H,U D N H->
 (T.stop D H/\m (.ref A) H)\/(T.go D H/\∃a:G->Prop,(∀M,a M->∃e,e<N/\U (D+1) e M)/\∀f M,T.hg D H f M->j f (wipe S Q) M λb n=>wipe b Q=wipe S Q/\k b n λo g=>if o=I then l b g λy h=>∃c,h A=Y (.lst c)/\c.length<aR/\a (upd h A (.lst (c++[y])))else a g)
variable{IR:VK}{Fa:TG}
def Ac{H:G}{K:aZ}{D:eZ}{bs:TI}{use:Option (J->fw Unit)}{Qf:J->aj->Prop}(cd:X.calm=I) (dK:X.N.Nodup) (a1:Inv X pp py H t) (dL:PI X sB P bs) (g:qo X.N X.env.scope D UH)(dT:∀(t:aj) (H:G) (i:Z) (F:List (aa×Z)) (M:List Z),PG (X.fZ t H D (iU D F i X.env) M) sB Fa) (dX:∀(t:aj) (H:G) (i:Z) (F:List (aa×Z)) (M:List Z),qp (X.fZ t H D (iU D F i X.env) M) tz Hp)(d0:∀(t:aj) (H:G) (i:Z) (F:List (aa×Z)) (M:List Z),PE (X.fZ t H D (iU D F i X.env) M) K sc) (d1:∀n,yp P X.env n=df n)(em:r7 bs Fa Hp sc (UH.map (·.2)) py H IR)(eq:∀b i d p U,Inv X pp py U d->IR (.ref b) U->d.heap.Ns i p->i6 X pp U i->FN (aM X.prog X.w) X.A X.xe use Qf (.ref b) i (.ok .next) d):aF (aM X.prog X.w) X.A (QZ (.ListComp K [⟨sB,P,tz,0⟩] D pv) D X.env v4 (newList []) ao (eval P X.env) use) Qf X.xe t:=by
 have es:∀y∈D.names,y.2=.free->∃c,X.env.cells.lookup y.1=Y c:=λy a2 T=>by
  rcases g.free y a2 T with a3|a3
  .exact a1.ok.has _ (.inl a3)
  .exact a1.ok.has _ (.inr a3)
 refine wpAny_comprehension_free (use:=use) S d1 (I7 es) g.kind (λy a2 T=>by rw [g.uniq y a2,T])
  (aN (dL pp t py H _ a1 em) λkk kp ev=>aN ev λks h ex=> ?_)
 obtain⟨ce,M,R,kt,l,T,ci,j,cl,cn,fa⟩:=ex;subst T;refine yD (I8 ?_) (by show 0<=aR;decide);generalize V:h.heap.objs.size=b;have fd:l b=O:=ci.bg.fresh (uc V)
 obtain⟨co,⟨fl,cr⟩,fm⟩:=fa b fd;generalize cs:({h with heap:=h.heap.push {cls:=.type "list",data:=.seq ([]:List J).toArray}}:aj)=a;have W:Inv X pp py (upd l b (.lst [])) a:=by rw [<-cs];refine ci.laid (t':=h.toks) (λA o T=>fe _ T) (uc V) ⟨cP _,[],0,.nil, ?_⟩;rw [<-V];exact gD _ S
 have ct:a.heap=h.heap.push {cls:=.type "list",data:=.seq ([]:List J).toArray}:=by rw [<-cs]
 have sz:∀A∈M,A<h.heap.objs.size:=λA N=>by obtain⟨o,T,_⟩:=j.obj _ _ cl A N;exact dN T
 have q:∀A∈M,i6 X pp (upd l b (.lst [])) A/\A<a.heap.objs.size:=λA N=>by have c0:=sz A N;refine⟨⟨?_,(cn A N).2⟩,by rw [ct,jz];exact FI c0⟩;rw [Q (by rw [<-V];exact fI c0)];exact(cn A N).1
 have fn:R 0 a.heap:=j.keep _ _ _ cl λA _ o T=>by rw [ct];exact fe _ T
 have ab:=I9 W g dK q;have a4:=dT a (upd l b (.lst [])) a.heap.objs.size (fK (a.heap.objs.size+1) D.names (fE X.env.cells D.names [])) M
 have a5:=dX a (upd l b (.lst [])) a.heap.objs.size (fK (a.heap.objs.size+1) D.names (fE X.env.cells D.names [])) M;have bd:=d0 a (upd l b (.lst [])) a.heap.objs.size (fK (a.heap.objs.size+1) D.names (fE X.env.cells D.names [])) M
 show pM _ _ (.compStart (.ListComp K [⟨sB,P,tz,0⟩] D pv) 0 (.ref ce) (.ref b) (iU D (fK (a.heap.objs.size+1) D.names (fE X.env.cells D.names [])) a.heap.objs.size X.env)) (FN (aM X.prog X.w) X.A X.xe use Qf (.ref b) a.heap.objs.size) {a with heap:=nA (a.heap.push {cls:=.type "dict",data:=.dict #[]}) D.names};have c1:∀A∈M,(upd l b (.lst [])) A=O:=λA N=>(q A N).1.1
 generalize fr:iU D (fK (a.heap.objs.size+1) D.names (fE X.env.cells D.names [])) a.heap.objs.size X.env=e at ab a4 a5 bd⊢;have c2:e.locals=a.heap.objs.size:=by subst fr;rfl
 generalize kw:upd l b (.lst [])=k at W ab a4 a5 bd cr c1 q;generalize fs:({a with heap:=nA (a.heap.push {cls:=.type "dict",data:=.dict #[]}) D.names}:aj)=c3 at ab⊢;have c4:R 0 c3.heap:=j.keep _ _ _ fn λA _ o T=>by rw [<-fs];exact yC _ _ _ _ (fe _ T)
 have be:∀{c5:St} {U:G} {d:aj},Inv (X.fZ a k D e M) [] c5 U d->(∀A∈M,U A=O)->∀A∈M,i6 (X.fZ a k D e M) [] U A:=λ{c5 U d} w x A N=>
  ⟨x A N,(w.ok.nZ A N).1,w.ok.mw A N,.inl N,λn c T=>(w.ok.nZ A N).2 n c T,λfT f0=>absurd (show fT∈([]:List (Z×aL))++[]from f0) (by simp)⟩
 have c6:pM (aM X.prog X.w) X.A (.compLoop (.ListComp K [⟨sB,P,tz,0⟩] D pv) 0 (.ref ce) (.ref b) e) (FN (aM X.prog X.w) X.A X.xe use Qf (.ref b) a.heap.objs.size) c3:=by
  refine Jb (λad d=>∃f U,Inv (X.fZ a k D e M) [] (wipe py (UH.map (·.2))) U d/\R f d.heap/\(∀A∈M,U A=O)/\co f ad U) ?_ fl ⟨0,k,ab,c4,c1,cr⟩;rintro ad c7 ⟨f,r,al,c8,c9,f1⟩;rcases fm f ad r f1 with⟨stop,f2⟩|⟨go,f4,f8,step⟩
  .have ga:=j.done (X.fZ a k D e M) S rfl rfl cd f [] c7 _ r (λ_ _=>False) al (be al c9) c8 stop;refine oj ga λge am ⟨bi,z⟩=> ?_;subst bi;have an:Inv X pp py r am:=W.qa (ch:=M) z.os z.base z.bg z.bare λA N=>⟨(q A N).1.2.2.2.1,(q A N).1.2.1,(q A N).1.2.2.2.2.1,(q A N).1.2.2.2.2.2⟩
   have gl:r a.heap.objs.size=O:=by have B:r e.locals=O:=z.free;rw [c2]at B;exact B
   obtain⟨p,x,_⟩:=z.loc;have x:am.heap.Ns e.locals p:=x
   rw [c2]at x;exact eq b a.heap.objs.size am p r an f2 x (W.n7 (aX _) gl)
  .have gt:=j.item (X.fZ a k D e M) S rfl rfl cd f [] c7 _ r (λ_ _=>False) al (be al c9) c8 go;refine oj gt λge am ⟨u,bi,g1⟩=> ?_;subst bi;refine oj g1 λ_ bk ⟨n,db,an,g2,g3,bl,hd⟩=> ?_;have he:=an.pinned (be an hd) (j.obj _ _ bl)
   refine oj (a4 _ bk _ db n u _ he g2 (step n db g3)) λ_ hf ⟨ap,hi,hm,dd,hz⟩=> ?_;refine oj (a5 _ hf ap hi _ hm hz) λA h0 ⟨h1,dl,as⟩=> ?_;have dp:∀{d:aj} {U:G},Inv (X.fZ a k D e M) ([]++qf M bk.heap) ap U d->f4 U->∃p,p<ad/\∃f U,Inv (X.fZ a k D e M) [] (wipe py (UH.map (·.2))) U d/\R f d.heap/\(∀A∈M,U A=O)/\co f p U:=λ{d U} w bm=>by
    obtain⟨h2,id,ii⟩:=f8 U bm;have ds:∀A∈M,∀o,bk.heap.get? A=Y o->d.heap.get? A=Y o/\U A=O:=λA N o T=>
     let B:=w.pin (A,o) (eH _ (eH _ (u1 N T)))
     ⟨B.1,B.2.1⟩
    have im:(wipe py (UH.map (·.2))).length=ap.length:=by rw [<-dd,vA]
    refine⟨h2,id,f+1,U,(w.rS (pins:=[])).weak im (λkV v T=> ?_),j.keep _ _ _ bl λA N o T=>(ds A N o T).1,λA N=> ?_,ii⟩
    .rw [<-dd]at T;exact(vB T).1
    .obtain⟨o,T,_⟩:=j.obj _ _ bl A N;exact(ds A N o T).2
   cases A with
   |false=>
    simp only [nB,iT]at as⊢;exact dp dl as
   |true=>
    simp only [eP]at as⊢;refine oj (bd _ h0 ap h1 _ dl as) λB k0 ⟨k1,k2,io,is,k3,it,ix,bm⟩=> ?_;exact Ja (X:=X.fZ a k D e M) io it ix is λk5 jp=>dp jp bm
 exact codeAny_compStart_list c6 (j.self X.A 0 _ _ _ c4 c6)
def f3{A:eZ}{own:List (aa×Nat)}{c:TI}(i:h.calm=I)(j:h.N.Nodup)(k:PI h P sB c)(l:qo h.N h.env.scope A own)(m:∀(D:aj) (H:G) (M:Z) (N:List (aa×Z)) (Q:List Z),PG (h.fZ D H A (iU A N M h.env) Q) P Fa) (n:∀(D:aj) (H:G) (M:Z) (N:List (aa×Z)) (Q:List Z),qp (h.fZ D H A (iU A N M h.env) Q) tz Hp)(p:∀(D:aj) (H:G) (M:Z) (N:List (aa×Z)) (Q:List Z),PE (h.fZ D H A (iU A N M h.env) Q) Rs sc) (q:∀g,yp sB h.env g=df g:=by intro _;rfl):PE h (.ListComp Rs [⟨P,sB,tz,0⟩] A pv) (r7 c Fa Hp sc (own.map (·.2))):=by
 intro ab D ad H al r s;rw [eval_ListComp];refine Ac i j r k l m n p q s λt M u v w x y z B=>⟨v,z,λam C=> ?_⟩
 obtain⟨E,F,an,K,L,X⟩:=B;exact⟨.ref t,w,x.turned (t':=u.toks) (λR o V W=>(C.2 R V).trans W) E F K L X,S,y⟩
variable{U0:b3}
def r8{i:Nat}{y:aa}{c:aZ}{A:eZ}{own:List (aa×Nat)}{f:TI}(B:h.calm=I)(q:h.N.Nodup)(C:h.N[i]?=Y y)(r:h.env.scope.names.lookup y=Y .local)(E:l2 (.ListComp c [⟨sB,P,tz,0⟩] A v4) (Y (.Name y pv)) U0.line h.env=df I) (F:PI h sB P f) (K:qo h.N h.env.scope A own)(L:∀(M:aj) (H:G) (N:Z) (U:List (aa×Z)) (a:List Z),PG (h.fZ M H A (iU A U N h.env) a) sB Fa) (X:∀(M:aj) (H:G) (N:Z) (U:List (aa×Z)) (a:List Z),qp (h.fZ M H A (iU A U N h.env) a) tz Hp)(R:∀(M:aj) (H:G) (N:Z) (U:List (aa×Z)) (a:List Z),PE (h.fZ M H A (iU A U N h.env) a) c sc) (W:∀e,yp P h.env e=df e:=by intro _;rfl):PS h (.Assign [.Name y pv] (.ListComp c [⟨sB,P,tz,0⟩] A v4) U0) (uZ (r7 f Fa Hp sc (own.map (·.2))) (lh i)):=by
 intro ab M s H t ad k;rw [exec_Assign_Name_used _ _ _ _ E];refine aI (QY (aI ?_));show aF _ h.A (do let _<-QZ (.ListComp c [⟨sB,P,tz,0⟩] A v4) A h.env (firstIterPos [⟨sB,P,tz,0⟩] v4) (newList []) ao (eval P h.env) (Y (t7 (.Name y pv) h.env))) _ _ M
 have k:r7 f Fa Hp sc (own.map (·.2)) s H (λe al=>lh i e s al t.nx):=k;refine aI (aN (Ac (Qf:=λ_ l=>SP h ab t .next l) B q ad F K L X R W k λu N l am an ap as a0 a1=> ?_) λ_ l a2=>bu (bu a2));show aF _ _ (t7 (.Name y pv) h.env (.ref u)) _ _ _
 refine QA (zy (v:=V.ref u) ap q C (.inl r) S (λa3 a4 ⟨w,a5,bd⟩=> ?_) (.inr r));obtain⟨be,x,bt,bi,z,bk⟩:=a1;have bl:N≠w:=by
  rcases bd with m|m
  .rw [m];exact x
  .exactλn=>z y w m n.symm
 refine⟨am,a0.sameBut a5 bl,λbv bm=> ?_⟩;exact⟨_,an,a4.turned (t':=a3.toks) (λbn o bs n=>(bm.2 bn bs).trans n) be x bi z bk,as⟩
def r9{T:List Comprehension}{D:eZ}{y:aa}{A:eg}(a:A.scope.kind=.function)(b:A.scope.names.lookup y=Y .local)(c:(v4.line==pv.line)=I)(d:(D.names.any λ(e,N)=>e==y&&(N==.local||N==.cell))=ao):l2 (.ListComp P T D pv) (Y (.Name y v4)) r A=df I:=by
 have f:A.kindOf y=Y .local:=b;have g:A.blockKind=.function:=by unfold Env.blockKind;rw [a];rfl
 unfold l2;simp only [g,f,d,Expr.pos,c];rfl
variable{wr:List Nat}{q:G}{Tl:G->Prop}
def Jc{o:TT}(M:Nat->G->Prop)(u:M 0 (upd q d (.lst [])))(v:∀A H,A<r->M A H->Fa (.int (v2+A)) (wipe py wr) H λN g=>wipe N wr=wipe py wr/\o N g λh c=>if h=I then sc N c λy D=>∃Q,D d=Y (.lst Q)/\Q.length<aR/\M (A+1) (upd D d (.lst (Q++[y])))else M (A+1) c) (w:∀H,M r H->Tl H):∃i:Nat->Nat->G->Prop,(∃T,i 0 T (upd q d (.lst [])))/\∀A T H,i A T H->((kq v2 r).stop A H/\Tl H)\/((kq v2 r).go A H/\∃j:G->Prop,(∀U,j U->∃s,s<T/\i (A+1) s U)/\∀k U,(kq v2 r).hg A H k U->Fa k (wipe py wr) U λN g=>wipe N wr=wipe py wr/\o N g λh c=>if h=I then sc N c λy D=>∃Q,D d=Y (.lst Q)/\Q.length<aR/\j (upd D d (.lst (Q++[y])))else j c):=by
 refine⟨λA T H=>T=r-A/\A<=r/\M A H,⟨r,by simp,cP _,u⟩, ?_⟩;rintro A T H ⟨rfl,z,t⟩;by_cases l:A<r
 .refine .inr ⟨l,M (A+1),λU x=>⟨r-(A+1),by omega,S,l,x⟩,λk U y=> ?_⟩;obtain⟨m,y⟩:=y;subst m y;exact v A _ l t
 .have m:A=r:=by omega
  subst m;exact .inl ⟨aX _,w H t⟩
def hD{K:ah}{xs:List V}{o:TT}(D:Nat->G->Prop)(u:D 0 (upd q d (.lst [])))(v:∀A H,A<=xs.length->D A H->au K H p xs)(w:∀A M H,xs[A]?=Y M->D A H->Fa M (wipe py wr) H λN g=>wipe N wr=wipe py wr/\o N g λh c=>if h=I then sc N c λy a=>∃Q,a d=Y (.lst Q)/\Q.length<aR/\D (A+1) (upd a d (.lst (Q++[y])))else D (A+1) c) (x:∀H,D xs.length H->Tl H):∃i:Nat->Nat->G->Prop,(∃T,i 0 T (upd q d (.lst [])))/\∀A T H,i A T H->((hA K p).stop A H/\Tl H)\/((hA K p).go A H/\∃j:G->Prop,(∀U,j U->∃s,s<T/\i (A+1) s U)/\∀M U,(hA K p).hg A H M U->Fa M (wipe py wr) U λN g=>wipe N wr=wipe py wr/\o N g λh c=>if h=I then sc N c λy a=>∃Q,a d=Y (.lst Q)/\Q.length<aR/\j (upd a d (.lst (Q++[y])))else j c):=by
 refine⟨λA T H=>T=xs.length-A/\A<=xs.length/\D A H,⟨xs.length,by simp,cP _,u⟩, ?_⟩;rintro A T H ⟨rfl,z,k⟩;have l:=v A H z k
 by_cases t:A<xs.length
 .refine .inr ⟨⟨xs,xs[A],l,by simp [t]⟩,D (A+1),λU B=>⟨xs.length-(A+1),by omega,S,t,B⟩,λM U y=> ?_⟩;obtain⟨m,y⟩:=y;subst m;exact w A M _ (y xs l) k
 .have m:A=xs.length:=by omega
  subst m;exact .inl ⟨⟨xs,l,aX _⟩,x H k⟩
def Ad(D:List aa)(N A:eZ)(G:List (aa×Nat)):Bool:=
 (match A.kind with|.function=>I|_=>ao)&&(A.names.all λy=>decide (A.names.lookup y.1=Y y.2))&&(G.all λM=>decide (D[M.2]?=Y M.1))&&
  (A.names.all λy=>match y.2 with
   |.free=>(match N.names.lookup y.1 with|some .cell=>I|some .free=>I|_=>ao)
   |.local=>decide (y.1∈G.map (·.1))||decide (y.1∉D)
   |.cell=>decide (y.1∈G.map (·.1))||decide (y.1∉D)
   |_=>I)
variable{t0:List aa}
def e3{Q S:eZ}(G:Ad t0 Q S UH=I):qo t0 Q S UH:=by
 unfold Ad at G;simp only [bz,j9,ka]at G;obtain⟨⟨⟨U,b⟩,c⟩,a⟩:=G;refine⟨?_,b,c,λy M A=> ?_,λy M A=> ?_⟩
 .split at U
  .assumption
  .cases U
 .have D:=a y M;simp only [A]at D;split at D<;>first|exact .inl (by assumption)|exact .inr (by assumption)|cases D
 .have D:=a y M;rcases A with A|A<;>(simp only [A,yE,ka]at D;exact D)
section
variable {κ:Type} [DecidableEq κ]
def cS(A:List (κ×V))(D:κ):Option V:=(A.find? λG=>decide (G.1=D)).map (·.2)
def putK(D:List (κ×V))(G:κ)(v:V):List (κ×V):=
 if(D.any λA=>decide (A.1=G))=I then D.map (λA=>if A.1=G then(A.1,v)else A)else D++[(G,v)]
def i7{p:κ×V}{D:List (κ×V)}{A:κ}(G:p.1=A):cS (p::D) A=Y p.2:=by simp [cS,gi,G]
def i8{p:κ×V}{D:List (κ×V)}{A:κ}(G:¬p.1=A):cS (p::D) A=cS D A:=by simp [cS,gi,G]
def om(A:κ):∀G:List (κ×V),(G.any λM=>decide (M.1=A))=(cS G A).isSome
 |[]=>rfl
 |p::a=>by
  rw [ug];by_cases D:p.1=A
  .simp only [i7 D,ck D,Bool.true_or,QX]
  .rw [i8 D,bT D,yF];exact om A a
def Ae(G D:κ)(y:V):∀T:List (κ×V),cS (T.map λQ=>if Q.1=G then(Q.1,y)else Q) D=(cS T D).map λa=>if D=G then y else a
 |[]=>rfl
 |p::b=>by
  have U:=Ae G D y b;rw [aV];by_cases M:p.1=G
  .rw [ak M];by_cases A:p.1=D
   .rw [i7 (p:=(p.1,y)) A,i7 A,ma,ak (A.symm.trans M)]
   .rw [i8 (p:=(p.1,y)) A,i8 A,U]
  .rw [N M];by_cases A:p.1=D
   .rw [i7 (p:=p) A,i7 A,ma,N (λc=>M (A.trans c))]
   .rw [i8 (p:=p) A,i8 A,U]
def Af(D G:κ)(y:V):∀Q:List (κ×V),cS Q D=O->cS (Q++[(D,y)]) G=if G=D then Y y else cS Q G
 |[],_=>by
  by_cases A:D=G
  .rw [ak A.symm];exact i7 (p:=(D,y)) A
  .rw [N (λM=>A M.symm)];exact i8 (p:=(D,y)) A
 |p::b,a=>by
  rw [dk];have S:¬p.1=D:=λM=>by rw [i7 M]at a;cases a
  rw [i8 S]at a;have T:=Af D G y b a
  by_cases A:p.1=G
  .rw [i7 A,i7 A,N (λM=>S (A.trans M))]
  .rw [i8 A,i8 A,T]
def Jd(D:List (κ×V))(G M:κ)(y:V):cS (putK D G y) M=if M=G then Y y else cS D M:=by
 unfold putK;by_cases A:(D.any λU=>decide (U.1=G))=I
 .rw [ak A,Ae];rw [om]at A;by_cases Q:M=G
  .obtain⟨T,a⟩:=rh.mp A;rw [ak Q,Q,a,ma,ak S]
  .rw [N Q];cases cS D M with
   |none=>rfl
   |some T=>rw [ma,N Q]
 .rw [N A];refine Af G M y D ?_;rw [om]at A;cases b:cS D G with
  |none=>rfl
  |some T=>rw [b]at A;exact(A S).elim
def sb(A:List (κ×V))(D:κ)(v:V):(putK A D v).length<=A.length+1:=by
 unfold putK;split
 .rw [ag];omega
 .rw [bB,dG,jB];omega
def Ag{A:List (κ×V)}{D:κ}(v:V)(G:cS A D=O):putK A D v=A++[(D,v)]:=by unfold putK;rw [om,G];exact N (by decide)
end
def fg.mz{o:Option V}{u:Option J}(A:fg o u):o.isSome=u.isSome:=by
 cases o with
 |none=>cases u with
  |none=>rfl
  |some _=>exact(show False from A).elim
 |some _=>cases u with
  |none=>exact(show False from A).elim
  |some _=>rfl
def fg.getD{o:Option V}{u:Option J}(A:fg o u)(M:RelV v1 wn):RelV (o.getD v1) (u.getD wn):=by
 cases o with
 |none=>cases u with
  |none=>exact M
  |some _=>exact(show False from A).elim
 |some _=>cases u with
  |none=>exact(show False from A).elim
  |some _=>exact A
section
variable {κ:Type} [DecidableEq κ]
def KV.val{N:List (κ×V)}{Q:List (κ×J)}(S:KV N Q)(A:κ):fg (cS N A) (nC Q A):=by
 unfold KV at S;induction S with
 |nil=>exact j6
 | @cons p a ps b c f d=>
  obtain⟨T,U⟩:=c;by_cases D:p.1=A
  .have G:a.1=A:=T.symm.trans D;have M:nC (a::b) A=Y a.2:=by simp [nC,gi,G]
   rw [i7 D,M];exact U
  .have G:¬a.1=A:=λe=>D (T.trans e);have M:nC (a::b) A=nC b A:=by simp [nC,gi,G]
   rw [i8 D,M];exact d
def KV.any{D:List (κ×V)}{G:List (κ×J)}(M:KV D G)(N:κ):(D.any λA=>decide (A.1=N))=G.any λA=>decide (A.1=N):=by
 unfold KV at M;induction M with
 |nil=>rfl
 |cons a c b=>rw [ug,ug,b,a.1]
def KV.vC{Q:List (κ×V)}{S:List (κ×J)}(T:KV Q S)(M:κ){y:V}{u:J}(U:RelV y u):KV (Q.map λA=>if A.1=M then(A.1,y)else A) (S.map λA=>if A.1=M then(A.1,u)else A):=by
 unfold KV at T⊢;induction T with
 |nil=>exact .nil
 | @cons p e ps f a g b=>
  rw [aV,aV];refine .cons ?_ b;obtain⟨D,c⟩:=a;by_cases G:p.1=M
  .rw [ak G,ak (D.symm.trans G)];exact⟨D,U⟩
  .rw [N G,N (λd=>G (D.trans d))];exact⟨D,c⟩
def KV.put{Q:List (κ×V)}{G:List (κ×J)}(M:KV Q G)(A:κ){y:V}{u:J}(T:RelV y u):KV (putK Q A y) (stored G A u):=by
 unfold putK stored;rw [M.any A];by_cases D:(G.any λU=>decide (U.1=A))=I
 .rw [ak D,ak D];exact M.vC A T
 .rw [N D,N D];exact Q0 M ⟨S,T⟩
def KV.length{A:List (κ×V)}{D:List (κ×J)}(G:KV A D):A.length=D.length:=bL G
end
def jL{k:Key}{u:J}(N:RelV (kV k) u):(eC l m).is k u=I:=by
 cases k with
 |inl i=>obtain⟨A,M⟩:=(show∃A,u=pC i A from N);subst M;exact G1 l m i A
 |inr x=>obtain⟨A,M⟩:=(show∃A,u=yk x A from N);subst M;exact G2 l m x A
def vD:∀{A:List Key} {D:List J},Vals (A.map kV) D->ItemsAre (eC l m) A D
 |[],_,a=>by rw [fx]at a;cases a;exact .nil
 |k::A,_,a=>by
  rw [aV]at a;cases a with
  |cons b c=>exact .cons (jL b) (vD c)
abbrev KT(H:G):List (List Key×V)->List (List Key×Z×J)->Prop:=cO λA D=>A.1=D.1/\H D.2.1=Y (.tup (A.1.map kV))/\RelV A.2 D.2.2
variable{Op:List (List Key×V)}{v0:List (List Key×Z×J)}
def KT.val{H:G}(U:KT H Op v0)(A:List Key):fg (cS Op A) ((fV v0 A).map (·.2)):=by
 induction U with
 |nil=>exact j6
 | @cons p a ps b c g d=>
  obtain⟨T,_,e⟩:=c;by_cases D:p.1=A
  .have M:a.1=A:=T.symm.trans D;have N:fV (a::b) A=Y a.2:=by simp [fV,gi,M]
   rw [i7 D,N];exact e
  .have M:¬a.1=A:=λf=>D (T.trans f);have N:fV (a::b) A=fV b A:=by simp [fV,gi,M]
   rw [i8 D,N];exact d
def KT.vC{H:G}(a:KT H Op v0)(M:List Key){y:V}{u:J}(b:RelV y u):KT H (Op.map λQ=>if Q.1=M then(Q.1,y)else Q) (v0.map (putAt M u)):=by
 induction a with
 |nil=>exact .nil
 | @cons p g ps h c i d=>
  rw [aV,aV];refine .cons ?_ d;obtain⟨A,U,e⟩:=c;unfold putAt;by_cases D:p.1=M
  .rw [ak D,ak (A.symm.trans D)];exact⟨A,U,b⟩
  .rw [N D,N (λf=>D (A.trans f))];exact⟨A,U,e⟩
def KT.put{H:G}(T:KT H Op v0)(A:List Key){b:Z}{y:V}{u:J}(a:H b=Y (.tup (A.map kV)))(U:RelV y u):KT H (putK Op A y) (hU v0 A b u):=by
 have c:(Op.any λd=>decide (d.1=A))=(fV v0 A).isSome:=by rw [om,(T.val A).mz,kT]
 unfold putK hU;rw [c];by_cases M:(fV v0 A).isSome=I
 .rw [ak M,ak M];exact T.vC A U
 .rw [N M,N M];exact Q0 T ⟨S,a,U⟩
def KT.keeps{H:G}(T:KT H Op v0)(U:∀Q S,H Q=Y (.tup S)->q Q=Y (.tup S)):KT q Op v0:=
 Paired.cb T λ_ _ A=>⟨A.1,U _ _ A.2.1,A.2.2⟩
variable{B:aE}
def Ah{u:HO}(A:dr l m H B)(D:Rd H d u):dZ l m H B d u:=D.ok A
variable{KF:List (Key×V)}
def oo(G:dr l m H B)(M:Rd H d (.dK KF)):KF.length<=aR/\(d==er)=ao/\∃D,KV KF D/\B.DictOf (eC l m) d D:=
 show dZ l m H B d (.dK KF)from Ah G M
def Je(G:dr l m H B)(M:H d=Y (.dK KF)):KF.length<=aR/\(d==er)=ao/\∃D,KV KF D/\B.DictOf (eC l m) d D:=oo G (.inl M)
variable{AC:List Key}
def qq(D:dr l m H B)(G:H d=Y (.tup (AC.map kV))):(ij (eC l m)).is B AC d:=by
 obtain⟨_,M,N,o,Q,S,T,U⟩:=(show dZ l m H B d (.tup (AC.map kV))from D d _ G)
 exact⟨o,M.toArray,T,Q,S,U,by simpa using vD N⟩
def oq(S:dr l m H B)(N:Rd H d (.dT Op)):Op.length<=aR/\(d==er)=ao/\ ∃M,KT H Op M/\B.DictOfH (ij (eC l m)) d M:=by
 obtain⟨G,y,M,T,o,e,f,g,i,j,k,P⟩:=(show dZ l m H B d (.dT Op)from Ah S N)
 refine⟨G,y,M,T,o,e,f,g,i,j,k,λA D=> ?_,P⟩;have w:∀{U:List (List Key×V)} {Q:List (List Key×Z×J)},KT H U Q->∀A∈Q,(ij (eC l m)).is B A.1 A.2.1:=by
  intro U Q b;induction b with
  |nil=>intro A D;exact nomatch D
  | @cons p b ps q c r n=>
   intro A D;rcases bb.mp D with N|D
   .subst N;exact qq S (by rw [<-c.1];exact c.2.1)
   .exact n A D
 exact w T A D
def Jf(G:dr l m H B)(M:H d=Y (.dT Op)):Op.length<=aR/\(d==er)=ao/\ ∃D,KT H Op D/\B.DictOfH (ij (eC l m)) d D:=oq G (.inl M)
def iC(H:G)(M:Z)(y:V)(N:Option V):Prop:=
 (∃A D,Rd H M (.dK A)/\y=kV D/\N=cS A D)\/∃A D Q,Rd H M (.dT A)/\y=.ref Q/\H Q=Y (.tup (D.map kV))/\N=cS A D
def mB(H:G)(M:Z)(y v:V)(N:G):Prop:=
 (∃A D,H M=Y (.dK A)/\y=kV D/\A.length<aR/\N=upd H M (.dK (putK A D v)))\/
 ∃A D Q,H M=Y (.dT A)/\y=.ref Q/\H Q=Y (.tup (D.map kV))/\A.length<aR/\N=upd H M (.dT (putK A D v))
def iC.k{H:G}{k:Key}(M:H d=Y (.dK KF)):iC H d (kV k) (cS KF k):=.inl ⟨KF,k,.inl M,S,S⟩
def mB.k{H:G}{k:Key}{v:V}(M:H d=Y (.dK KF))(N:KF.length<aR):mB H d (kV k) v (upd H d (.dK (putK KF k v))):=.inl ⟨KF,k,M,S,N,S⟩
def Inv.big(D:Inv h pp py H t):er<t.heap.objs.size:=by have G:fb<t.heap.objs.size:=(D.mod.glob.keeps D.bk).lt;exact Nat.lt_trans (by decide) G
section
variable {X:Cx} {pins:List (Z×aL)} {σ:St} {H:G} {s:aj} {a:Z} {y v:V} {u r:J} {o:Option V} {A:b4} {E:J->aj->Prop}
def Jg{c:J->aj->Prop}(g:A.units+1<cG)(G:Inv X pins σ H s)(h:iC H a y (Y v))(d:RelV y u)(e:∀D f,Inv X pins σ H f->RelV v D->c D f):aF (aM X.prog X.w) A (nz (.ref a) u) c E s:=by
 rcases h with⟨i,M,N,Q,S⟩|⟨i,M,j,N,Q,k,S⟩
 .subst Q;obtain⟨l,m,n,T,U⟩:=oo G.bg N;obtain⟨D,hw,b⟩:=fg.some_of (v:=v) (o:=nC n M) (by rw [S];exact T.val M);exact Q1 (jL d) U.mapOf hw (e D _ (G.tok _) b)
 .subst Q;cases (show u=b5 j from d);obtain⟨l,m,p,T,U⟩:=oq G.bg N;obtain⟨D,hw,b⟩:=fg.some_of (v:=v) (o:=(fV p M).map (·.2)) (by rw [S];exact T.val M);obtain⟨w,q,t⟩:=cm.mp hw;refine FO (nD g) (qq G.bg k) U q ?_;rw [t];exact e D _ (G.tok _) b
def Jh{b:J->aj->Prop}(g:A.units+1<cG)(D:Inv X pins σ H s)(h:iC H a y o)(c:RelV y u)(d:∀e,Inv X pins σ H e->b (.bool (!o.isSome)) e):aF (aM X.prog X.w) A (fJ .NotIn u (.ref a)) b E s:=by
 rcases h with⟨i,G,M,N,Q⟩|⟨i,G,j,M,N,k,Q⟩
 .subst N;obtain⟨l,S,m,T,U⟩:=oo D.bg M;refine Q2 (jL c) S U.mapOf ?_;rw [<-(T.val G).mz,<-Q];exact d _ (D.tok _)
 .subst N;cases (show u=b5 j from c);obtain⟨l,S,n,T,U⟩:=oq D.bg M;refine wpAny_notIn_heap (nD g) (qq D.bg k) S U ?_;have f:=(T.val G).mz
  rw [kT]at f;rw [<-f,<-Q];exact d _ (D.tok _)
end
variable{Da:HO}
def vE(Q:Inv h pp py H t)(T:cX (H d))(U:ik d t.heap B)(b:∃M,B.get? d=Y M)(c:dZ h.prog h.w (upd H d Da) B d Da):Inv h pp py (upd H d Da) {t with heap:=B,toks:=r}:=
 Q.write (x:=d) (e:=d) T (.inl S) (λa M f g=>(U.2 a f).trans g) b c
def Ji{M:List (Key×J)}(U:KF.length<=aR)(b:(d==er)=ao)(c:KV KF M)(D:B.DictOf (eC l m) d M):dZ l m q B d (.dK KF):=⟨U,b,M,c,D⟩
variable{KK:Unit->aj->Prop}{y v:V}{u:J}
def Jj(C:ss.units+1<cG)(S:Inv h pp py H t)(F:mB H d y v q)(p:RelV y u)(m:RelV v wn)(n:∀w,Inv h pp py q w->KK () w):aF (aM h.prog h.w) ss (setItem (.ref d) u wn) KK s5 t:=by
 rcases F with⟨T,D,M,f,K,g⟩|⟨T,D,L,M,f,x,K,g⟩
 .subst f g;obtain⟨U,a,P,b,i⟩:=Je S.bg M;have j:P.length<=aR:=by rw [<-b.length];exact U
  have k:(putK T D v).length<=aR:=by have:=sb T D v;omega
  refine wpAny_setItem_pairs (hsz:=j) (jL p) i λz X l=>n _ ?_;have R:∃N,z.get? d=Y N:=let⟨N,_,_,e,_⟩:=X;⟨N,e⟩
  exact vE S (by rw [M];exact j6) l R (Ji k a (b.put D m) X)
 .subst f g;cases (show u=b5 L from p);obtain⟨U,a,V,b,i⟩:=Jf S.bg M;have j:V.length<=aR:=by rw [<-bL b];exact U
  have k:(putK T D v).length<=aR:=by have:=sb T D v;omega
  refine Q3 (hsz:=j) (nD C) (qq S.bg x) i λz X l=>n _ ?_;obtain⟨N,W,ab,e,ad,al,am,_,an⟩:=X;refine vE S (by rw [M];exact j6) l ⟨N,e⟩ ⟨k,a,_,(b.put D x m).keeps λc ap B=> ?_,N,W,ab,e,ad,al,am,an⟩;rw [Q (cW B M (λU=>nomatch U))];exact B
def ot(G:aZ):Prop:=∀A D,yx G ao A D=FE [A,D] (nz A D)
def sd{U:eg}(A:FA (.type Ev) "__getitem__"=df (Y (.builtin Tk))) (n:ot P)(p:aF (aM l m) ss (eval sB U) (λo h=>aF (aM l m) ss (eval P U) (λS T=>T.TypeIs o Ev/\aF (aM l m) ss (nz o S) IN s5 T) s5 h) s5 t):aF (aM l m) ss (eval (.Subscript sB P pv) U) IN s5 t:=by
 refine FC (g6 p (λo h q=>g6 q (λS T c=> ?_) λ_ _ N=>N) λ_ _ N=>N);obtain⟨i,c⟩:=c;unfold FD;refine aI ?_;rw [getitemInPython_of_ne i.not_modules];refine aI (um i A ?_);have d:aF (aM l m) ss (yx P ao o S) (λe j=>aF (aM l m) ss (letTemporaryGo sB o e>>=λ_=>df e) IN s5 j) s5 T:=by rw [n o S];exact wpAny_operating (g6 c (λe j r=>aI (wpAny_letTemporaryGo (bu r))) λ_ _ N=>N)
 first
  |exact bu (aI d)
  |exact aI (bu (aI d))
  |exact aI d
def Jk{H:G}{y:V}{o:Option V}(Q:Inv h pp py H t)(a:iC H d y o):t.TypeIs (.ref d) "dict":=by
 rcases a with⟨b,c,A,_,_⟩|⟨b,c,M,A,_,_,_⟩
 .obtain⟨_,_,e,_,D⟩:=oo Q.bg A;exact D.typeIs
 .obtain⟨_,_,f,_,D⟩:=oq Q.bg A;exact D.typeIs
def Jl(M N:TE):TE:=λA H Q=>M A H λS T=>N A T λy D=>∃G v,S=.ref G/\iC D G y (Y v)/\Q v D
def Jm(M N:TE):TE:=λA H Q=>M A H λy S=>N A S λT D=>∃G o,T=.ref G/\iC D G y o/\Q (.bl (!o.isSome)) D
def Jn(M N Q:TE):TS:=λS A H=>Q A H λv T=>M A T λU a=>N A a λy b=>∃D G,U=.ref D/\mB b D y v G/\S.nx A G
def Ai(N:h.A.units+1<cG)(Q:PE h o sc)(T:PE h P xz)(U:ot P):PE h (.Subscript o P pv) (Jl sc xz):=by intro A a D H s b c;refine sd yG.lookup U (aN (Q A a D H _ b c) λu d ⟨t,f,g,X,j⟩=>aN (T A d D f _ g j) λw x ⟨y,k,G,l,m,v,n,M,p⟩=> ?_);subst n;obtain rfl:u=b5 m:=X;exact⟨Jk G M,Jg N G M l λz B q r=>⟨v,k,q,r,p⟩⟩
def Jo(G:h.A.units+1<cG)(M:PE h P xz)(N:PE h o sc):PC h .NotIn P o (Jm xz sc):=by intro A Q D H r T U;refine aN (M A Q D H _ T U) λs a ⟨y,b,c,d,f⟩=>aN (N A a D b _ c f) λu t ⟨v,g,X,j,k,l,m,n,p⟩=> ?_;subst m;obtain rfl:u=b5 k:=j;exact Jh G X n d λw q=>⟨.bl (!l.isSome),g,q,S,p⟩
variable{UV:TE}
def se(G:h.A.units+1<cG)(M:PE h o sc)(N:PE h P xz)(Q:PE h sB UV)(T:l2 sB (Y (.Subscript o P v4)) pv.line h.env=df ao):PS h (.Assign [.Subscript o P v4] sB pv) (Jn sc xz UV):=by intro D U A H B a b;refine Q4 (aN (Q D U A H _ a b) λC c ⟨v,d,f,g,i⟩=>aN (M D c A d _ f i) λu j ⟨E,k,l,m,n⟩=>aN (N D j A k _ l n) λF K ⟨y,L,p,q,r,s,t,w,x⟩=> ?_) T;subst t;obtain rfl:u=b5 r:=m;exact Jj G p w q g λX z=>⟨A,s,z,x⟩
def Jp{H:G}(A:aE)(N:er<A.objs.size):dZ l m H (A.push {cls:=.type "dict",data:=.dict #[]}) A.objs.size (.dK []):=
 ⟨cP _,iQ.mpr (eO (fI N)),[],.nil,TN A⟩
def Jq:TE:=λ_ H D=>∀A,H A=O->D (.ref A) (upd H A (.dK []))
def vF:PE h (.Dict [] [] pv) Jq:=λN A Q H T D G=>
 Q5 ⟨.ref A.heap.objs.size,_,D.laid (a:=A.heap.objs.size) (o:=.dK []) (t':=A.toks) (λ_ _ M=>fe _ M) (aX _) (Jp A.heap D.big),S,G _ (D.bg.fresh (aX _))⟩
def vG:List (TE×TE)->St->G->(List (V×V)->G->Prop)->Prop
 |[],_,H,a=>a [] H
 |(tk,c)::d,b,H,a=>tk b H λA D=>c b D λy M=>vG d b M λN Q=>a ((A,y)::N) Q
abbrev VV:List (V×V)->List (J×J)->Prop:=cO λA D=>RelV A.1 D.1/\RelV A.2 D.2
def vH(A:Cx)(U:b3)(a:List (Option aZ))(b:List aZ)(c:List (TE×TE)):Prop:=
 ∀(M:List (Z×aL)) (N:aj) (D:St) (H:G) (Q:List (V×V)->G->Prop),Inv A M D H N->vG c D H Q->
  aF (aM A.prog A.w) A.A (evalPairs (pairTrees a b A.env U)) (λd e=>∃S T,Inv A M D T e/\VV S d/\Q S T) A.xe N
def Jr:vH h pv [] [] []:=λN Q S H T G M=>pairTrees_nil_walk ⟨[],H,G,.nil,M⟩
def Js{v:aZ}{Q:List (Option aZ)}{a:List (TE×TE)}(b:PE h P sc)(c:PE h v xz)(d:vH h pv Q tz a):vH h pv (Y P::Q) (v::tz) ((sc,xz)::a):=λD e G H B f g=>
 pairTrees_cons_walk (aN (b D e G H _ f g) λu A ⟨i,j,k,l,m⟩=>aN (c D A G j _ k m) λC n ⟨y,o,p,q,r⟩=>aN (d D n G o _ p r) λE F ⟨s,t,w,x,z⟩=>⟨(i,y)::s,t,w,.cons ⟨l,q⟩ x,z⟩)
structure M1(A:Cx)(o:aZ)(m:aa)(M:b3)(D:aZ)(G:b3):Prop where
 base:j7 o m A.env (eval o A.env)=eval o A.env
 bF:((fc G (cw [D] A.env)).all (λx=> !x.1)&&(l4 G (l5 [] A.env)).all (λx=>x.1.isSome)
  &&decide (([D]:List aZ).length+([]:List rj).length+(if([]:List rj).isEmpty then 0 else 1)<30))=I
 line:(M.endLine==G.line)=I
 trees:fc G (cw [D] A.env)=[(ao,eval D A.env)]
structure M2(A:Cx)(o:aZ)(m:aa)(N:b3)(D G:aZ)(M:b3):Prop where
 base:j7 o m A.env (eval o A.env)=eval o A.env
 bF:((fc M (cw [D,G] A.env)).all (λx=> !x.1)&&(l4 M (l5 [] A.env)).all (λx=>x.1.isSome)
  &&decide (([D,G]:List aZ).length+([]:List rj).length+(if([]:List rj).isEmpty then 0 else 1)<30))=I
 line:(N.endLine==M.line)=I
 trees:fc M (cw [D,G] A.env)=[(ao,eval D A.env),(ao,eval G A.env)]
def Aj(H:G)(D:Z):Prop:=(∃A,Rd H D (.dK A))\/∃A,Rd H D (.dT A)
def Jt{H:G}(c:Inv h pp py H t)(g:Aj H d):t.TypeIs (.ref d) "dict"/\(∀N,b5 d=.ref N->∃A,t.heap.get? N=Y A/\A.dict=O)/\(d==er)=ao:=by
 rcases g with⟨M,S⟩|⟨M,S⟩
 .obtain⟨_,T,i,_,D⟩:=oo c.bg S;refine⟨D.typeIs,λN U=> ?_,T⟩;cases U;obtain⟨A,_,_,a,b,_⟩:=D;exact⟨A,a,b.2.1⟩
 .obtain⟨_,T,j,_,D⟩:=oq c.bg S;refine⟨D.typeIs,λN U=> ?_,T⟩;cases U;obtain⟨A,_,_,a,b,_⟩:=D;exact⟨A,a,b.2.1⟩
section
variable {X:Cx} {pins:List (Z×aL)} {σ:St} {H:G} {s:aj} {a:Z} {y d:V} {u r:J} {o:Option V} {A:b4} {E:J->aj->Prop}
def Ju{b:J->aj->Prop}(j:A.units+1<cG)(D:Inv X pins σ H s)(k:iC H a y o)(c:RelV y u)(e:RelV d r)(f:∀g h,Inv X pins σ H h->RelV (o.getD d) g->b g h):aF (aM X.prog X.w) A (gR (.builtin "dict.get") [.ref a,u,r]) b E s:=by
 rcases k with⟨l,M,N,Q,S⟩|⟨l,M,i,N,Q,m,S⟩
 .subst Q;obtain⟨n,T,q,U,G⟩:=oo D.bg N;refine uo FP G.typeIs Q6 (Q7 _ _ _) (meets_dict_get_default (eC X.prog X.w) a (jL c) T r) ⟨_,G.mapOf,f _ _ (D.tok _) ?_⟩;rw [S];exact(U.val M).getD e
 .subst Q;cases (show u=b5 i from c);obtain⟨n,T,p,U,G⟩:=oq D.bg N;refine uo FP G.typeIs Q6 (Q7 _ _ _) (meetsH_dict_get_default (ij (eC X.prog X.w)) a i T r) ⟨nD j,M,p,qq D.bg m,G,f _ _ (D.tok _) ?_⟩;rw [S];exact(U.val M).getD e
end
def Jv(N Q S:TE):TE:=λA H T=>N A H λU G=>∃D,U=.ref D/\Aj G D/\Q A G λy a=>S A a λb M=>∃o,iC M D y o/\T (o.getD b) M
def Jw(N:h.A.units+1<cG)(Q:PE h o sc)(T:PE h P xz)(U:PE h sB UV)(A:M2 h o "get" pv P sB v4):PE h (.Call (.Attribute o "get" pv) [P,sB] [] v4) (Jv sc xz UV):=by intro D a G H K b c;refine FQ A.base A.bF A.line FR FP PySem.F.type_dict_get (aN (Q D a G H _ b c) λu d ⟨L,g,M,e,i,j,k,l⟩=> ?_);subst j;obtain rfl:u=b5 i:=e;obtain⟨m,n,_⟩:=Jt M k;refine⟨m,n, ?_⟩;rw [A.trees];refine pP S (uh (pN (aN (T D d G g _ M l) λX p ⟨y,q,r,s,t⟩=>pN (aN (U D p G q _ r t) λR V ⟨W,v,w,x,ab,z,B⟩=>ud ?_))));exact Ju N w z s x λad al C E=>⟨_,v,C,E,B⟩
def Inv.Jx{ch:List Z}(f:Inv h pp py H t)(a:∀A o,A∉ch->t.heap.get? A=Y o->B.get? A=Y o)(b:∀A∈ch,i6 h pp H A)(s:t.heap.objs.size<=d)(k:dZ h.prog h.w (upd H d Da) B d Da):Inv h pp py (upd H d Da) {t with heap:=B,toks:=r}:=by
 have e:H d=O:=f.bg.fresh s;have i:∀A u,H A=Y u->A∉ch:=λA u D N=>by have G:=(b A N).1;rw [G]at D;cases D
 refine f.step (g':=t.gens) (d':=t.drawn) (ch:=ch) (λA T=>⟨(b A T).2.2.2.1,(b A T).2.1,(b A T).2.2.2.2.1,(b A T).2.2.2.2.2⟩) (λA o _ _ U D _=>a A o U D) (λA o _ _ U D _=>⟨o.slots,a A o U D⟩)
  (λA o _ D l=> ?_) (λA o U D=>⟨o,a A o U D⟩) (λA m D=> ?_) (λA o u D=> ?_) (λA w D=>⟨#[], ?_⟩) (λx n=> ?_) (λA u D=> ?_) f.bare
 .rw [Q (fI (gP (dN D) s))];exact l
 .rw [Q (cB D e)];exact D
 .rw [Q (cB D e)];exact D
 .rw [Q (cB D e),D];simp
 .obtain⟨o,p,q,X,g⟩:=n;exact⟨o,p,q,a _ o (λN=>(b _ N).2.1 rfl) X,g⟩
 .by_cases T:A=d
  .subst T;rw [M]at D;cases D;exact k
  .rw [Q T]at D;refine(f.bg A u D).i3 (λc v U G=>a c v ?_ G) (λc G=>by rw [Q (cB G e)];exact G) λc m G=>by rw [Q (cB G e)];exact G
   rcases U with N|N
   .rw [N];exact i A u D
   .exact i c _ N
variable{h':aE}
def Inv.lock{u:HO}(c:Inv h pp py H t)(T:H d=Y u)(U:cX (Y u)):∃M,Inv h pp py (upd H d (.bO M u)) t:=by
 have N:=c.bg d u T;have G:∃M,t.heap.get? d=Y M:=by
  cases u with
  |lst f=>obtain⟨_,_,_,_,A⟩:=N;exact⟨_,A⟩
  |dK g=>obtain⟨_,_,_,_,o,_,_,A,_⟩:=N;exact⟨o,A⟩
  |dT g=>obtain⟨_,_,_,_,o,_,_,A,_⟩:=N;exact⟨o,A⟩
  |set i n=>obtain⟨o,_,_,_,A,_⟩:=N;exact⟨o,A⟩
  |ins j k fs=>obtain⟨_,_,_,A,_⟩:=N;exact⟨_,A⟩
  |ext l=>obtain⟨_,⟨_,A⟩,_⟩:=N;exact⟨_,A⟩
  |_=>exact g7 U
 obtain⟨M,A⟩:=G;have s:dZ h.prog h.w (upd H d (.bO M u)) t.heap d (.bO M u):=by
  refine⟨A,N.i3 (λa v _ D=>D) (λa D=> ?_) λa f D=> ?_⟩
  .rw [Q (λb=>by rw [b,T]at D;cases D;exact U)];exact D
  .rw [Q (λb=>by rw [b,T]at D;cases D;exact U)];exact D
 exact⟨M,c.write (x:=d) (e:=d) (t':=t.toks) (h':=t.heap) (by rw [T];exact U) (.inl S) (λa v _ D=>D) ⟨M,A⟩ s⟩
def Inv.qr{u:HO}(N:Inv h pp py H t)(Q:H d=Y u)(S:cX (Y u)):∀D G,h.jE d≠Y (.bO D G):=λD G T=>by have M:=N.base.i4 d D G T;rw [Q]at M;cases M;exact S
variable{Re:aL}
def Inv.unlock{u:HO}(N:Inv h pp py H t)(f:H d=Y (.bO Re u))(m:∀g X,h.jE d≠Y (.bO g X)):Inv h pp py (upd H d u) t:=by
 have a:∀G o,H G=Y o->(∀g X,o≠.bO g X)->G≠d:=λG o A n T=>by rw [T,f]at A;cases A;exact n _ _ S
 have e:∀G,H G=O->G≠d:=λG A T=>by rw [T,f]at A;cases A
 refine⟨N.ok,N.os,N.bare,⟨N.base.keep,N.base.slot,λG o A U k=> ?_,N.base.there,λG i A=> ?_,λG o b A=> ?_,λG p A=> ?_⟩,N.loc,N.cell, ?_,λb c A=> ?_,λq r=> ?_,λG o A=> ?_,N.len⟩
 .rw [Q (e G (N.base.free G o A U k))];exact N.base.free G o A U k
 .have D:=N.base.kj G i A;rw [Q (a G _ D (λ_ _ T=>nomatch T))];exact D
 .have D:=N.base.i4 G o b A;rw [Q (λT=>by rw [T]at A;exact m _ _ A)];exact D
 .obtain⟨σ,D⟩:=N.base.kl G p A;exact⟨σ,by rw [Q (a G _ D (λ_ _ T=>nomatch T))];exact D⟩
 .rw [Q (e _ N.free)];exact N.free
 .rw [Q (e c (N.gI b c A))];exact N.gI b c A
 .obtain⟨A,U,w⟩:=N.pin q r;exact⟨A,by rw [Q (e _ U)];exact U,w⟩
 .by_cases j:G=d
  .rw [j,M]at A;cases A;rw [j];obtain⟨_,b⟩:=N.bg d _ f;exact b.i3 (λc v _ D=>D) (λc D=>by rw [Q (a c _ D (λ_ _ T=>nomatch T))];exact D) λc i D=>by rw [Q (a c _ D (λ_ _ T=>nomatch T))];exact D
  .rw [Q j]at A;exact(N.bg G o A).i3 (λc v _ D=>D) (λc D=>by rw [Q (a c _ D (λ_ _ T=>nomatch T))];exact D) λc i D=>by rw [Q (a c _ D (λ_ _ T=>nomatch T))];exact D
def Jy(Q:TS):TS:=λN S H=>∃D u,H D=Y u/\cX (Y u)/\∀G,Q ⟨λM A=>A D=Y (.bO G u)/\N.nx M (upd A D u),λv A=>A D=Y (.bO G u)/\N.rt v (upd A D u),λM A=>A D=Y (.bO G u)/\N.bk M (upd A D u),λM A=>A D=Y (.bO G u)/\N.ct M (upd A D u)⟩ S (upd H D (.bO G u))
def Jz(M:TE):TE:=λN H Q=>∃A u,H A=Y u/\cX (Y u)/\∀D,M N (upd H A (.bO D u)) λv G=>G A=Y (.bO D u)/\Q v (upd G A u)
variable{wE:a6}{Id:TS}
def mC(b:PS h wE Id):PS h wE (Jy Id):=by
 intro c d e H k N hw;obtain⟨l,u,Q,S,hw⟩:=hw;obtain⟨f,g⟩:=N.lock Q S;refine aN (b c d e _ _ g (hw f)) λU m A=> ?_;cases U with
 |next=>obtain⟨D,T,G,M,A⟩:=A;exact⟨D,_,G.unlock M (N.qr Q S),A⟩
 |brk=>obtain⟨D,T,G,M,A⟩:=A;exact⟨D,_,G.unlock M (N.qr Q S),A⟩
 |cont=>obtain⟨D,T,G,M,A⟩:=A;exact⟨D,_,G.unlock M (N.qr Q S),A⟩
 |ret v=>obtain⟨i,D,T,G,j,M,A⟩:=A;exact⟨i,D,_,G.unlock M (N.qr Q S),j,A⟩
def Ak(Q:PE h P sc):PE h P (Jz sc):=by intro S T U H A G hw;obtain⟨i,u,M,N,hw⟩:=hw;obtain⟨a,b⟩:=G.lock M N;refine aN (Q S T U _ _ b (hw a)) λv j ⟨c,k,d,e,f,g⟩=> ?_;exact⟨c,_,d.unlock f (G.qr M N),e,g⟩
variable{U4:It->G->Prop}
def vI{H:G}{D:It}{M:Nat->aE->Prop}{tk:Nat}(N:Inv h pp py H t)(o:aL)(d:Turn h.prog h.w h.K P D [t.heap.objs.size] t.heap.objs.size M) (e:M 0 (t.heap.push o)) (f:U4 D H):u0 h pp py P U4 (.ref t.heap.objs.size) {t with heap:=t.heap.push o,toks:=tk}:=by
 refine⟨t.heap.objs.size,[t.heap.objs.size],M,D,H,S,N.kept λc A Q=>fe _ Q,d,e,λc g=> ?_,f⟩;have Q:c=t.heap.objs.size:=by simpa using g
 subst Q;exact N.n7 (aX _) (N.bg.fresh (aX _))
def qt(D:aa):It:=⟨λA _=>A<D.cps.size,λA H v G=>G=H/\∃c,D.cps[A]?=Y c/\v=.str ⟨#[c]⟩,λA _=>D.cps.size<=A⟩
def Al{K:ah}(G:Z)(T:aa)(h:dz)(d:String)(i:d="str_ascii_iterator"\/d="str_iterator"):Turn l m K P (qt T) [G] G (λM U=>U.IsStrIter G d T h M)where
 mem:=by simp
 obj:=λM U D N Q=>by
  have A:N=G:=by simpa using Q
  subst A;obtain⟨o,A,c,V⟩:=D;exact⟨o,A,λv x=>by rw [V]at x;cases x⟩
 keep:=λM U e D X=>let⟨o,ab,ad⟩:=D;⟨o,X G (by simp) o ab,ad⟩
 item:=by
  intro f q hw r g M y b z H B a j D t;subst q hw r;obtain⟨k,L,al,R,n,p⟩:=j G (by simp);have am:Walks f.prog f.w f.A G [G] [G] T.cps.size (SignAt T) (λM U=>U.IsStrIter G d T h M):=by
   rcases i with A|A
   .rw [A];exact Walks.strAscii (a.ok.hd g) G T h
   .rw [A];exact Walks.strWide (a.ok.hd g) G T h
  have an:["enumerate","zip","dict_itemiterator","dict_reverseitemiterator","odict_iterator","itertools.zip_longest","itertools.pairwise"].contains d=ao:=by
   rcases i with A|A
   .rw [A];decide
   .rw [A];decide
  refine am.item M b _ _ t D λv e C ap E as=> ?_;obtain⟨c,u,a0,rfl⟩:=ap;have a1:Inv f y z H {b with heap:=e,toks:=C}:=a.turned (λN o Q A=>as N o (by simpa using Q) A) k L R n p
  obtain⟨a4,A,a2,a3⟩:=id E;exact⟨_,S,qd (s:={b with heap:=e,toks:=C}) A a2 a3 an ⟨.str ⟨#[c]⟩,H,a1,⟨u,S⟩,⟨S,c,a0,S⟩,E,λN Q=>(j N Q).1⟩⟩
 done:=by
  intro f q hw r g M y b z H B a j D t;subst q hw r;obtain⟨k,L,al,R,n,p⟩:=j G (by simp);have F:T.cps[M]?=O:=Q8 t
  rcases i with A|A
  .rw [A]at D;exact wpAny_pyNext_ascii_end (a.ok.hd g) D F λe w=>⟨S,a.turned (t':=b.toks) (λN o Q A=>w N o Q A) k L R n p⟩
  .rw [A]at D;exact wpAny_pyNext_wide_end (a.ok.hd g) D F λe w=>⟨S,a.turned (t':=b.toks) (λN o Q A=>w N o Q A) k L R n p⟩
 self:=λa5 M b bd B D U=>by
  rcases i with A|A
  .rw [A]at D;exact wpAny_pyIter_striter_ascii D U
  .rw [A]at D;exact wpAny_pyIter_striter_wide D U
def JA(D:TE):TI:=λG H M=>D G H λv N=>∃A,v=.str A/\M (qt A) N
def Am(c:PE h P sc):PI h sB P (JA sc):=by
 intro d e f H k g D;refine aN (c d e f H _ g D) λv N ⟨y,l,Q,i,A,j,T⟩=> ?_;subst j;obtain⟨U,rfl⟩:=i;cases a:A.cps.all (· <128)
 .exact wpAny_pyIter_wide a (vI (tk:=N.toks) Q _ (Al _ A U "str_iterator" (.inr S)) ⟨_,gD _ S,S,S⟩ T)
 .exact wpAny_pyIter_ascii a (vI (tk:=N.toks) Q _ (Al _ A U "str_ascii_iterator" (.inl S)) ⟨_,gD _ S,S,S⟩ T)
variable{Gc:Array g8}
def An{o:aL}(b:(d==er)=ao)(G:t.heap.get? d=Y o)(c:o.ExactDict)(a:o.data=.dict Gc r)(s:s5 (.ref t.heap.objs.size) {t with heap:=t.heap.push {cls:=.type "dict_keyiterator",data:=.fields #[.ref d,.int 0 0,.int Gc.size 0,.int r 0]}}):aF (aM l m) ss (yo (.ref d)) s5 IN t:=by
 have M:t.TypeIs (.ref d) "dict":=⟨o,G,c.1⟩
 refine FT M yH (ro yH M F.entry_dict_iter ?_ (F.args_dict_iter_1 _));unfold Builtin.«dict.__iter__»;refine aI ?_;unfold TQ;refine aI (yI M ?_);show aF _ _ (df (b5 d)) _ _ t
 refine bu ?_;show aF _ _ (FU d>>=_) _ _ t
 unfold FU;rw [N (by rw [b];exact d5)];refine aI (bu ?_);refine aI (kb G a ?_);refine aI (uq G a ?_);refine aI (yD (bu ⟨_,S,"dict_keyiterator",_,⟨_,gD _ S,S⟩,pT.lookup, ?_⟩));simpa [ra]using s
variable{UX:Nat}{s:aj}
def Ao{f:g8}{g:Option J->aj->Prop}(M:s.heap.IsKeyIter d p r AT UX)(h:s.heap.get? p=Y Re)(i:Re.data=.dict Gc UX)(hsz:Gc.size=AT) (k:Gc[r]?=Y f) (G:∀c,c.IsKeyIter d p (r+1) AT UX->ik d s.heap c->g (Y f.key) {s with heap:=c}):aF (aM l m) ss (pK (.ref d)) g s5 s:=by
 obtain⟨o,D,Q,b⟩:=id M;unfold pK;refine aI (Q9 (FV (name:=dO "__next__") M.typeIs pT (ro pT M.typeIs Ra ?_ (Rb _))));refine aI (bu ?_);refine aI ?_;refine aI ?_
 first|refine aI (yJ M.typeIs (bu ?_))|refine aI (yK M.typeIs (bu ?_))
 refine aI (Rc D b ?_);have n:Rf "dict_keyiterator"=ao:=by decide
 simp only [n,nB,iT];show aF _ _ (if(b5 p==j2)=I then _ else _) _ _ s
 rw [N (show¬((b5 p==j2)=I)from d5)];refine aI (bu ?_);refine aI (kb h i ?_);rw [N (by rw [hsz];simp)];refine aI (bu ?_);refine aI (uq h i ?_);rw [N (by simp)];refine bu ?_;obtain⟨T,q⟩:=Array.getElem?_eq_some_iff.mp k;simp only [show¬((r:Int)<0)from by omega,iT,uf,yL T];refine aI ?_
 first|refine aI (yJ M.typeIs (bu ?_))|refine aI (yK M.typeIs (bu ?_))
 refine aI (Rg M.typeIs ?_);show aF _ _ (setField (.ref d) 1 (ra ((r:Int)+1))>>=_) _ _ s
 refine aI (Rh D b (by simp) ?_);have j:(s.heap.update d (Ri (·.setIfInBounds 1 (ra ((r:Int)+1))))).IsKeyIter d p (r+1) AT UX:=
  ⟨_,ur _ D (Obj.isFreed_of_fields (Rj b _)),(Obj.cls_mapFields ..).trans Q,by rw [Rj b];simp [ra]⟩
 refine aI (nE ?_);refine aI (Rg (s:={s with heap:=s.heap.update d (Ri (·.setIfInBounds 1 (ra ((r:Int)+1))))}) j.typeIs ?_);show aF _ _ (df Gc[r].key) _ _ _
 rw [q];exact bu (bu ⟨_,S,bu (G _ j (iV ..))⟩)
def Ap{w:aw}{T a:Nat}{b:aL}{c:Option J->aj->Prop}(i:ss.handled=O)(D:t.heap.IsKeyIter d p r T a)(s:t.heap.get? p=Y b)(e:b.data=.dict Gc a)(hsz:Gc.size=T) (j:T<=r) (k:∀f,Heap.ExtBut d t.heap f->c O {t with heap:=f}):aF (aM l w) ss (pK (.ref d)) c s5 t:=by
 obtain⟨o,g,n,h⟩:=id D;unfold pK;refine aI (Q9 (FV (name:=dO "__next__") D.typeIs pT (ro pT D.typeIs Ra ?_ (Rb _))));refine aI (bu ?_);refine aI ?_;refine aI ?_
 first|refine aI (yJ D.typeIs (bu ?_))|refine aI (yK D.typeIs (bu ?_))
 refine aI (Rc g h ?_);have G:Rf "dict_keyiterator"=ao:=by decide
 simp only [G,nB,iT];show aF _ _ (if(b5 p==j2)=I then _ else _) _ _ t
 rw [N (show¬((b5 p==j2)=I)from d5)];refine aI (bu ?_);refine aI (kb s e ?_);rw [N (by rw [hsz];simp)];refine aI (bu ?_);refine aI (uq s e ?_);rw [N (by simp)];refine bu ?_;have m:Gc.size<=r:=by rw [hsz];exact j
 simp only [show¬((r:Int)<0)from by omega,iT,uf,Q8 m];refine aI ?_
 first|refine aI (yJ D.typeIs (bu ?_))|refine aI (yK D.typeIs (bu ?_))
 show aF _ _ (setField (.ref d) 0 .none>>=_) _ _ t;refine aI (Rh g h (by simp) ?_);show aF _ _ (newExc (.type "StopIteration") []>>=_) _ _ _
 refine aI ?_;simp only [newExc,newTuple];refine aI (yD ?_ (by size_fits));refine aI (m:=Rk _ _) (wpAny_of_eq (a:=j2) (by first|rfl|(simp only [Rk];rfl)) ?_);refine yD ?_ (by size_fits);simp only [raiseNew];refine aI (wpAny_handled ?_);rw [show ss.in1.handled=O from i];refine aI (bu (wpAny_throw ?_));refine aI (FW (T:="StopIteration") (b:=I) ⟨_,gD _ S,S⟩ isSubtype_stop ?_);exact bu (k _ (((iV ..).extBut.push _).push _))
variable{Do:Type}
def Aq{a:s2->Do->Prop}{Q:List s2}{T:List Do}(b:cO a Q T):∀{D:Nat} {G:s2},Q[D]?=Y G->∃M,T[D]?=Y M/\a G M:=by
 induction b with
 |nil=>intro D G A;simp at A
 | @cons G M Q T c e d=>
  intro D f A;cases D with
  |zero=>
   simp only [List.getElem?_cons_zero,yM]at A;subst A;exact⟨M,S,c⟩
  |succ g=>
   simp only [List.getElem?_cons_succ]at A⊢;exact d A
variable{Vv:Array g8}
def Ar{o:aL}(Q:o.data=.dict Gc r)(N:o.data=.dict Vv AT):Vv=Gc/\AT=r:=by rw [Q]at N;cases N;exact⟨S,S⟩
def ly(K:ah)(M:Z):It:=
 ⟨λD H=>∃(A:List V) (G:V),au K H M A/\A[D]?=Y G,λD H v Q=>∃N G,v=.ref N/\H N=O/\Q=upd H N (.tup [.int (D:Nat),G])/\∀A,au K H M A->A[D]?=Y G,λD H=>∃A:List V,au K H M A/\A.length<=D⟩
def JB{K:ah}(C b T:Z):Turn l m K (.Tuple tz r pv) (ly K C) [b,T] b (λD e=>(∃f,IsEnum e b T ((D:Nat):Int) f)/\e.IsListIter T C D/\b≠T)where
 mem:=by simp
 obj:=λD e c N U=>by
  obtain⟨⟨f,a⟩,⟨o,X,n,am⟩,_⟩:=c;have p:N=b\/N=T:=by simpa using U
  rcases p with M|M
  .rw [M];exact⟨_,a,λv G=>nomatch G⟩
  .rw [M];exact⟨o,X,λv G=>by rw [am]at G;cases G⟩
 keep:=λD e q c E=>let⟨⟨f,a⟩,an,g⟩:=c;⟨⟨f,E b (by simp) _ a⟩,an.at λo G=>E T (by simp) o G,g⟩
 item:=by
  intro h ab hw s n D F A L H P d i c t;subst ab hw s;obtain⟨⟨f,a⟩,j,g⟩:=c;obtain⟨ap,k,V,w⟩:=t;obtain⟨as,x,y,a0⟩:=d.list V;obtain⟨u,a1,a2⟩:=x.get w;have R:b<A.heap.objs.size:=dN a
  have a3:T<A.heap.objs.size:=by obtain⟨_,G,_⟩:=j;exact dN G
  refine wpAny_pyNext_enum_item a j y.isList (x:=u) (by simpa using a1) g λq X a4 a5 hsz bd=> ?_;refine⟨_,S,wpAny_letOwnedTupleGo_enum (s:={A with heap:=q,toks:=A.toks+1}) X λz be B=> ?_⟩;have bi:z.get? A.heap.objs.size=Y {cls:=.type "tuple",data:=.seq #[.int D A.toks,u]}:=(B.2 _ (QB R)).trans a5
  have bk:dZ h.prog h.w (upd H A.heap.objs.size (.tup [.int (D:Nat),k])) z A.heap.objs.size (.tup [.int (D:Nat),k]):=
   ⟨by show 2<=aR;decide,[.int D A.toks,u],.cons ⟨_,S⟩ (.cons a2 .nil),⟨_,bi,S,_,S⟩⟩
  have bl:Inv h F L (upd H A.heap.objs.size (.tup [.int (D:Nat),k])) {A with heap:=z,toks:=A.toks+1}:=
   d.Jx (ch:=[b,T]) (λN bm U G=>(B.2 N (λM=>U (by simp [M]))).trans (bd N bm (λM=>U (by simp [M])) (λM=>U (by simp [M])) G)) i (aX _) bk
  refine⟨.ref A.heap.objs.size,_,bl,S,⟨_,k,S,d.bg.fresh (aX _),S,λcn bn=>by rw [d.zB bn V];exact w⟩,⟨⟨u, ?_⟩,a4.at λo G=>(B.2 T (eO g)).trans G,g⟩,λN U=> ?_⟩
  .have bs:((D+1:Nat):Int)=(D:Int)+1:=by omega
   rw [bs];exact be
  .have bt:N<A.heap.objs.size:=by
    have p:N=b\/N=T:=by simpa using U
    rcases p with M|M
    .rw [M];exact R
    .rw [M];exact a3
   rw [Q (fI bt)];exact(i N U).1
 done:=by
  intro h ab hw s n D F A L H P d i c t;subst ab hw s;obtain⟨⟨f,a⟩,j,g⟩:=c;obtain⟨ap,V,w⟩:=t;obtain⟨as,x,y,a0⟩:=d.list V;obtain⟨bv,ca,co,cd,ce,ci⟩:=i T (by simp);have cr:=x.length
  exact wpAny_pyNext_enum_end (d.ok.hd n) a j y.isList (by simp;omega) λq cl=>⟨S,d.turned (t':=A.toks) (λN o U G=>cl N o U G) bv ca cd ce ci⟩
 self:=λcs D A ct P c e=>let⟨⟨_,a⟩,_⟩:=c;Rl a e
def JC(K:ah)(G:TA):TI:=λM H N=>G M H λQ D=>∃A S,Q=[.ref A]/\au K D A S/\N (ly K A) D
def sf(k:Gl h "enumerate")(l:h.U "enumerate"=O)(m:PA h [P] Ix)(n:cw [P] h.env=[(ao,eval P h.env)]:=by rfl):PI h (.Tuple tz r U0) (.Call (.Name "enumerate" v4) [P] [] pv) (JC h.K Ix):=by
 intro a o b H L c p;refine Call_ (rO c k l boot_enumerate (Fi (aN (m pv a o b H _ c p) λD A ⟨R,d,M,q,G⟩=> ?_) n S));obtain⟨s,V,t,u,v⟩:=G;subst t;cases q with
 |cons w x=>
  cases x;cases w;obtain⟨W,X,y,ab⟩:=M.list u;refine call_enumerate_list y.isList λz e B hsz C=>Rl e ?_;have E:Inv h a b d {A with heap:=z}:=M.kept (t':=A.toks) C
  refine⟨A.heap.objs.size+1,[A.heap.objs.size+1,A.heap.objs.size],_,_,d,S,E,JB s (A.heap.objs.size+1) A.heap.objs.size,⟨⟨.none,e⟩,B,Nat.succ_ne_self _⟩,λN F=> ?_,v⟩;have K:N=A.heap.objs.size+1\/N=A.heap.objs.size:=by simpa using F
  have f:A.heap.objs.size<=N:=by
   rcases K with Q|Q
   .rw [Q];exact Nat.le_add_right _ _
   .rw [Q];exact aX _
  exact M.n7 f (M.bg.fresh f)
end L2
namespace TL
open PySem.Builtin PySem.Builtin.Str PySem.StrLaws
abbrev tl(A:aa):List Nat:=A.cps.toList
def pre(A D:List Nat):Bool:=D.take A.length==A
def par(A:List Nat):List Nat->List Nat->Option (List Nat×List Nat)
 |_,[]=>O
 |acc,c::a=>if pre A (c::a)=I then Y (acc,(c::a).drop A.length)else par A (acc++[c]) a
def join_eq(y:aa)(A:List aa):yN y A=FX y A:=glued_eq_join y A
end TL
namespace L2
def vJ:∀{A:List aa} {D:List J},Vals (A.map V.str) D->StrsAre D A
 |[],_,.nil=>.nil
 |y::A,_,.cons a b=>by obtain⟨G,rfl⟩:=a;exact .cons y G (vJ b)
variable{h:Cx}
def JD:lu h "str.join" (λd e H f=>∃G M,∃A:List aa,d=.str G/\e=[.ref M]/\(au h.K H M (A.map V.str)\/av h.K H M (A.map V.str))/\ (A.map (·.length)).sum+A.length*G.length<=16777216/\f (.str (yN G A)) H):=by
 intro p q r H d e v s f N X T Q;obtain⟨G,M,A,rfl,rfl,D,g,Q⟩:=Q;obtain⟨t,rfl⟩:=X;cases T with
 |cons i T=>
  cases T;cases i;rcases D with D|D
  .obtain⟨U,a,⟨o,j,k,l,_,m⟩,_⟩:=N.list D;exact TR (items:=U.toArray) ⟨o,k,l,j,m⟩ (by rw [FY];exact vJ a) g λb c=>⟨.str _,H,N.tok c,⟨b,S⟩,Q⟩
  .obtain⟨U,a,n,_⟩:=N.tuple D;exact TU (items:=U.toArray) n (by rw [FY];exact vJ a) g λb c=>⟨.str _,H,N.tok c,⟨b,S⟩,Q⟩
variable{Ev:String}
def As{C:aa->Prop}{g:aa->V}(b:∀(A:aa) (M:dz) (G:aj) (D:J->aj->Prop),C A->(∀(u:J) (N:Nat),RelV (g A) u->D u {G with toks:=N})->aF (aM h.prog h.w) h.A (gR (.builtin Ev) [.str A M]) D h.xe G):lu h Ev (λU a H D=>∃A,U=.str A/\a=[]/\C A/\D (g A) H):=by intro i G j H U a v k D c d e Q;obtain⟨A,rfl,rfl,f,Q⟩:=Q;obtain⟨M,rfl⟩:=d;cases e;exact b A M G _ f λu N X=>⟨g A,H,c.tok N,X,Q⟩
def JE:lu h "str.isdigit" (λD G H M=>∃A,D=.str A/\G=[]/\True/\M (.bl (yO A)) H):=
 As (C:=λ_=>True) (g:=λA=>.bl (yO A)) λ_ _ N _ _ Q=>PySem.SC.isdigit (Q _ N.toks S)
def JF:lu h "str.isalpha" (λD G H M=>∃A,D=.str A/\G=[]/\True/\M (.bl (yP A)) H):=
 As (C:=λ_=>True) (g:=λA=>.bl (yP A)) λ_ _ N _ _ Q=>PySem.SC.isalpha (Q _ N.toks S)
def JG(D:V->List V->G->VK->Prop)(to:TE):TE:=λM H N=>to M H λA Q=>(∃S,A=.str S)/\D A [] Q N
def Au(M:V->List V->G->VK->Prop)(to te:TE):TE:=λA H N=>to A H λD Q=>(∃S,D=.str S)/\te A Q λy T=>M D [y] T N
variable{op:aa}{pv v4:b3}{UN:V->List V->G->VK->Prop}{P o:aZ}{sc:TE}
def Av(b:Slot "str" op Ev)(c:yz (.builtin Ev)=df (.type "method_descriptor"))(d:lu h Ev UN)(f:PE h o sc)(g:j7 o op h.env (eval o h.env)=eval o h.env:=by rfl) (X:(pv.endLine==v4.line)=I:=by rfl):PE h (.Call (.Attribute o op pv) [] [] v4) (JG UN sc):=by intro T i U H j k l;refine PySem.Call_method0 g X (aN (f T i U H _ k l) λv m ⟨q,n,p,a,D⟩=> ?_);obtain⟨⟨r,rfl⟩,D⟩:=D;obtain⟨s,rfl⟩:=_root_.id a;exact⟨"str",_,Rm,b,c,yy _ _ _,(λ_ P=>nomatch P),pP S (QR (d T m U n _ [] _ [] j p a .nil D))⟩
variable{xz:TE}
def JH(b:Slot "str" op Ev)(c:yz (.builtin Ev)=df (.type "method_descriptor"))(d:lu h Ev UN)(f:PE h o sc)(g:PE h P xz)(X:cw [P] h.env=[(ao,eval P h.env)]:=by rfl) (i:j7 o op h.env (eval o h.env)=eval o h.env:=by rfl) (j:(pv.endLine==v4.line)=I:=by rfl):PE h (.Call (.Attribute o op pv) [P] [] v4) (Au UN sc xz):=by intro D k M H l m n;refine PySem.Call_method1 i X j (aN (f D k M H _ m n) λv p ⟨B,q,r,a,N⟩=> ?_);obtain⟨⟨C,rfl⟩,N⟩:=N;obtain⟨E,rfl⟩:=_root_.id a;refine⟨"str",_,Rm,b,c,yy _ _ _,(λ_ P=>nomatch P),pP S (uh (pN ?_))⟩;exact aN (g D p M q _ r N) λu s ⟨y,t,w,x,z⟩=>ud (d D s M t _ [y] _ [u] l w a (.cons x .nil) z)
def JI(Q:PE h o sc)(T:PE h P xz)(U:cw [P] h.env=[(ao,eval P h.env)]:=by rfl)(a:j7 o "join" h.env (eval o h.env)=eval o h.env:=by rfl)(b:(pv.endLine==v4.line)=I:=by rfl):PE h (.Call (.Attribute o "join" pv) [P] [] v4) (Au (λc d H f=>∃D G,∃A:List aa,c=.str D/\d=[.ref G]/\(au h.K H G (A.map V.str)\/av h.K H G (A.map V.str))/\ (A.map (·.length)).sum+A.length*D.length<=16777216/\f (.str (yN D A)) H) sc xz):=
 JH F.slot_str_join F.type_str_join JD Q T U a b
def JJ:eD h (fJ .NotIn) (λD y H G=>∃(c:Nat) (A:aa),D=.str ⟨#[c]⟩/\y=.str A/\G (.bl (!decide (c∈A.cps.toList))) H):=by intro a b d H D y v u G M N Q T;obtain⟨c,A,rfl,rfl,U⟩:=T;obtain⟨e,rfl⟩:=N;obtain⟨f,rfl⟩:=Q;exact TV (dS M U (bN Bool.not (TX A c).symm))
end L2
namespace JK
open PySem.W PySem.Calls
variable{Sc:kc}{B:aE}
def JL:∀(A:List Int) (G:List J),kU Sc B G (A.map yQ)->rk G A:=by
 intro A;induction A with
 |nil=>
  intro G D;rw [fx]at D;cases D;exact .nil
 |cons n A b=>
  intro G D;rw [aV]at D;cases D with
  |cons a c=>
   cases a;exact .cons _ _ (b _ c)
variable{r:Nat}{t1:List J}
def JM{N:FZ}(d:N.most=Y r){args:List eJ}(U:N.row.toRowW.claim.pre args=I) (f:kU Sc B t1 args):∃a b A,t1=[b5 a]/\args=[WData.list (A.map yQ)]/\B.get? a=Y {cls:=.type "list",data:=.seq b.toArray}/\rk b A/\A.length<=r:=by
 have g:WShape.hasAll [] args [.list .int]=I:=(pre_splitW U).1;have c:N.pre.holds [] {args:=args}=I:=(pre_splitW U).2
 obtain⟨q,D,rfl,h,i⟩:=hasAllW_cons g;obtain rfl:=hasAllW_nil i;obtain⟨s,rfl,j⟩:=hasW_list h;obtain⟨A,rfl⟩:=items_int j;have k:A.length<=r:=by
  unfold OpenLaw.pre at c;have G:(WTm.not (.lt (.lit (.int (r:Int))) (.len (.arg 0)))).holds [] {args:=[.list (A.map .int)]}=I:=by have G:=(holds_andW c).1;rw [d]at G;exact G
  have M:=condW_of G (w_not (w_lt w_lit (w_len_list (w_arg S))));rw [ag]at M;refine Rn λt=> ?_;have l:(r:Int)<((A.length:Nat):Int):=by omega
  first
   |(rw [ck l]at M;exact absurd M (by decide))
   |(simp at M;omega)
 cases f with
 |cons m n=>
  cases n;cases m with
  |list o p=>exact⟨_,_,A,S,S,o,JL A _ p,k⟩
def JN(A:FZ)(args:List eJ):A.row.toRowW.claim.post args (.bool I) args=I:=
 postW_of (r:=A.row.toRowW) (X:=(I==I))
  (show Ro [] (.bool I) .bool=I by first|rfl|decide|simp [Ro,WShape.arms,WShape.armsAll])
  (show(WTm.eq .res (.lit (.bool I))).value [] {args:=args,res:=Y (.bool I),after:=args}=Y (.bool (I==I))from w_eq_bool (w_res S) w_lit) S
variable{op:aa}{l:az}{t0:List aa}{U1:(aa->Option J)->aE->Prop}{UL:aw->aE->Prop}
def attach{d:FZ}{n:Nat}{A:DefRec}(z:d.most=Y n) (B:A.params.defaults=[])(C:∀T G U v:J,yv (docDef A.name A.params A.body A.scope T G U) ⟨[v],[]⟩=df [(op,v)])(E:A.scope.names.lookup op=Y .local\/A.scope.names.lookup op=Y .cell)(F:A.scope.kind=.function) (H:A.scope.isCoroutine=ao) (K:A.scope.isGenerator=ao)(L:∀(b:aw) (j D c:aj) (e k:aa->Option J) (M:Z) (o:aL) (T G U:J) (N:Z) (a:List J) (f:List Int),Ground l t0 [] U1 b j e k D.heap->UL b D.heap->D.heap.get? M=Y o->o.data=.func (docDef A.name A.params A.body A.scope T G U)->D.heap.CodeRec G A.name->e A.name=Y (.ref M)->D.heap.get? N=Y {cls:=.type "list",data:=.seq a.toArray}->rk a f->f.length<=n->c.gens= #[]->c.os=D.os->Fr D.heap D.heap.objs.size c.heap (l6 (eI A.name A.scope D.heap.objs.size M G).kindOf [(op,.ref N)] λ_=>O)->Cl D.heap.objs.size (fK (D.heap.objs.size+1) A.scope.names []) c.heap (l7 (eI A.name A.scope D.heap.objs.size M G).kindOf [(op,.ref N)] λ_=>O)->aF (aM d.prog b) (pU.deeper (eI A.name A.scope D.heap.objs.size M G)) (execs A.body (eI A.name A.scope D.heap.objs.size M G)) (λg h=>g=.ret (.bool I)/\OldK D.heap h.heap/\h.os=D.os/\j4 h.gens) (λ_ _=>False) c):WalkO l t0 U1 UL d.row.toRowW A [] (λg a=>gR g a):=by
 intro b j D e k s P M o T G U R V t u w x W X args be bi ab bk bl ad bm;obtain rfl:R=.none:=Dflts.none x B;obtain rfl:V=.none:=Dflts.noKw x;obtain⟨N,a,f,rfl,rfl,al,am,an⟩:=JM z ab ad;refine Rp ?_;refine call_cells_ret (o:=o) (by rw [depth_caller];decide) t (fd_plain u) s.T.nolimit w (C T G U (.ref N)) (λy ap=> ?_) (λas a0 a1 a2=> ?_) H K F
 .obtain rfl:y=(op,b5 N):=bf.mp ap;rcases E with i|i
  .exact .inl i
  .exact .inr ⟨i,Fy _ _ _ (.inl i)⟩
 .refine g6 (L b j D {D with heap:=as,toks:=a0} e k M o T G U N a f s P t (fd_plain u) w W al am an X S a1 a2) (λg h Q=> ?_) (λ_ _ Q=>Q);obtain⟨rfl,a3,a4,a5⟩:=Q;exact⟨.inl ⟨.bool I,.bool I,[],S,λ_=>S,.bool I,JN d _,λ_=>⟨TY,λ_ bd=>(nomatch bd)⟩⟩,a3,a4,a5⟩
end JK
namespace L2
def inClass(A:a6)(D:Nat):a6:=match A with
 |.ClassDef _ _ _ a _ _ _ _ _ _ _=>a.getD D (.Pass ⟨0,0,0,0⟩)
 |_=>.Pass ⟨0,0,0,0⟩
def ou(A:a6):Arguments:=match A with
 |.FunctionDef _ a _ _ _ _ _ _ _ _=>a
 |_=>{posonlyargs:=[],args:=[],vararg:=O,kwonlyargs:=[],kw_defaults:=[],kwarg:=O,defaults:=[]}
def jM(A:a6):List a6:=match A with
 |.FunctionDef _ _ a _ _ _ _ _ _ _=>a
 |_=>[]
def ei(A:a6):eZ:=match A with
 |.FunctionDef _ _ _ _ _ _ a _ _ _=>a
 |_=>{kind:=.function,names:=[],isGenerator:=ao,isCoroutine:=ao}
abbrev aD:hj:=λ_ _ _ _ _ _=>False
abbrev E0:XK:=λ_ _ _=>False
variable{h:Cx}
def cy:Passes aD h E0:=λ_ _ _ _ _ _ _ D=>D.elim
structure a7(K:ah)(x D:aa)(A:a6)(G:Z)(M:bc):Prop where
 ex:∃(Q:J) (S:Option Z) (kV T U:J) (a:Option Z) (N ct:J) (b:Array (Option J)),
  M=ny x D (ou A) (jM A) (ei A) .none kV T U a N ct/\K.lookup G=Y ⟨Q,S,.func M,b⟩/\ri K N D=I
 kp:kS K (.ref G)=I
variable{wE:a6}{d:Z}{op Fk:aa}{t0 KE:List aa}{BT:Sp}{o0:bc}{r:Nat}{l:az}{m:aw}{z:aa->Option J}{B:aE}{K:ah}
def a7.ok(Q:a7 K Fk op wE d o0)(e:ob t0 KE (ei wE))(n:∀A H D M,BT A H D M->A.length=KE.length)(o:∀(T:J) (a:b4) (h:List eg) (b:aj) (H:G) (A:List V) (D:VK) (M:XK),dh r (a.deeper (eI op (ei wE) b.heap.objs.size d T))->BT A H D M->∃c,gm (iz aD l m K z B t0 op (ei wE) d T a h b H M).qb (jM wE) c/\c {nx:=λ_ p=>D .br p,rt:=D} (start t0 A) H):aS l m K z B aD (r+1) d o0 KE BT:=by obtain⟨v,x,y,g,N,C,T,E,F,rfl,lk,q⟩:=Q.ex;refine z0 lk q e n λa h b H A D M f s=> ?_;obtain⟨c,t,u⟩:=o T a h b H A D M f s;exact⟨c,t.qb,u⟩
def a7.binds{c:aa}(g:a7 K c op wE d o0)(h:∀(G M N:J) (Q:Option Z) (T a:J) (b:List J),b.length=t0.length->yv (ny c op (ou wE) (jM wE) (ei wE) .none G M N Q T a) ⟨b,[]⟩=df (t0.zip b)):Binds K o0 t0 []:=by obtain⟨i,j,G,M,N,Q,T,a,k,rfl,lk,l⟩:=g.ex;exact .all (h G M N Q T a)
variable{wn On Uf UB UC UQ:J}{Ps UK:Option Z}{UR:Array (Option J)}
def ov(h:K.lookup d=Y ⟨UQ,UK,.func (ny Fk op (ou wE) (jM wE) (ei wE) .none On Uf UB Ps wn UC),UR⟩)(c:ri K wn op=I) (i:kS K (.ref d)=I):a7 K Fk op wE d (ny Fk op (ou wE) (jM wE) (ei wE) .none On Uf UB Ps wn UC):=⟨⟨UQ,UK,On,Uf,UB,Ps,wn,UC,UR,S,h,c⟩,i⟩
variable{pv:b3}
def T(D:Nat)(M:h.N[D]?=Y op:=by rfl)(N:nX h.env.scope op:=by first|exact yR rfl|exact F0 (yR rfl)|exact F0 (F0 rfl))(Q:(op==("__debug__":aa))=ao:=by decide)(U:(op==("__classdict__":aa))=ao:=by decide):PE h (.Name op pv) (jF D):=Ha M N Q U
variable{SB UD:Prop}
def b1(G:SB):if ao=I then UD else SB:=by rw [N d5];exact G
def cf(G:SB):if I=I then SB else UD:=by rw [ak S];exact G
def eb{c:Prop}[Decidable c](M:c->SB)(Q:¬c->UD):if c then SB else UD:=by
 by_cases A:c
 .rw [ak A];exact M A
 .rw [N A];exact Q A
def JO{c:Prop}[Decidable c](G:c)(M:SB):if(!decide c)=I then UD else SB:=by rw [ck G];exact b1 M
end L2
open L2
namespace L3
structure Aw(H:G)(N:aE)(a A S:Z):Prop where
 ex:∃D M Q ts a0,N.get? a=Y D/\(D.cls=.ref S/\M[0]?=Y a0)/\D.data=.fields M/\M[1]?=Y (.ref A)/\A≠a/\N.get? A=Y Q/\Q.data=.fields ts/\ts[3]?=Y .none
 fa:H a=O
 fT:H A=O
def bA(T:az)(U:aw):hj:=λa H D b c A=>∃(N Q S:Z) (M:G),c=.ref N/\A.os=D.os/\j4 A.gens/\Un (ea a) [] H M D.heap A.heap/\dr T U M A.heap/\
 Aw M A.heap N Q S/\D.heap.get? N=O/\D.heap.get? Q=O/\b (.ref S) O M
variable{B:aE}{d:Z}{l:az}{m:aw}
def dZ.got{H:G}{o:HO}(D:dZ l m H B d o):∃Q,B.get? d=Y Q:=by
 cases o with
 |lst a=>obtain⟨_,_,_,_,A⟩:=D;exact⟨_,A⟩
 |tup a=>obtain⟨_,_,_,Q,A,_⟩:=D;exact⟨_,A⟩
 |dK b=>obtain⟨_,_,_,_,o,_,_,A,_⟩:=D;exact⟨_,A⟩
 |dT b=>obtain⟨_,_,_,_,o,_,_,A,_⟩:=D;exact⟨_,A⟩
 |set c n=>obtain⟨o,_,_,_,A,_⟩:=D;exact⟨_,A⟩
 |ins M e fs=>obtain⟨_,_,_,A,_⟩:=D;exact⟨_,A⟩
 |own y=>exact D
 |xd fs=>obtain⟨_,⟨_,_,_,A,_⟩,_⟩:=D;exact⟨_,A⟩
 |rK lo f=>obtain⟨_,_,_,A⟩:=D;exact⟨_,A⟩
 |bO Q u=>obtain⟨A,_⟩:=D;exact⟨_,A⟩
 |k8 ps=>exact⟨_,show B.get? d=Y _ from D⟩
 |met g y=>exact⟨_,show B.get? d=Y _ from D⟩
 |ext h=>obtain⟨_,A,_⟩:=D;exact A
variable{q:G}{t:aj}{h:Cx}{pp:List (Z×aL)}{s4:L2.St}
def Ax(D:Inv h pp s4 q t){o:HO}(G:q d=Y o):∃M,t.heap.get? d=Y M:=dZ.got (D.bg d o G)
def JP(G:Inv h pp s4 q t)(M:t.heap.get? d=O):q d=O:=by
 cases a:q d with
 |none=>rfl
 |some o=>
  obtain⟨N,D⟩:=Ax G a;rw [M]at D;cases D
def Ay(N:Inv h pp s4 q t)(bt:h.stack=h.env::h.outer)(R:h.ex=[])(bv:h.env.frame=Y h.env.locals){ls:List Z}(y:∀A∈ls,q A=O/\h.d9.heap.get? A=O){b k:Z}{z:J}{d:aE}{B:XK}(V:q b=O) (ab:h.d9.heap.get? b=O)(ad:yS (pF t.heap (ls++ea h.stack)) h.outer b (.ref k) z d) (al:t.heap.UpToSlots d) (am:B (.ref k) O q):bA h.prog h.w h.outer h.jE h.d9 B (.ref b) {t with heap:=d}:=by
 obtain⟨an,ca,ap,as,a0,Q,a1,C,a2,a3,a4,a5,i,bd,E,F,be⟩:=ad;have l:∀A,A∈ea h.stack->A=h.env.locals\/A∈h.fs:=λA T=>bb.mp (N.rM A T)
 have m:∀A o,t.heap.get? A=Y o->A∉ls->A∉ea h.stack->d.get? A=Y o:=λA o D e U=>an A o (tY _ D λG=>(bS.mp G).elim e U);have H:∀A u,q A=Y u->A∉ls/\A∉ea h.stack:=λA u D=>⟨λG=>(by rw [(y A G).1]at D;cases D),λG=>(by rw [N.rN A G]at D;cases D)⟩
 have n:∀A o,h.d9.heap.get? A=Y o->A≠h.env.locals:=λA o D=>fI (gP (dN D) N.ok.above);have p:∀A o,h.d9.heap.get? A=Y o->A∉ls:=λA o D G=>by rw [(y A G).2]at D;cases D
 have f:∀A:Z,A∉h.ex:=λA G=>by rw [R]at G;cases G
 have K:∀A o,A∈h.fs->t.heap.get? A=Y o->∃L,d.get? A=Y {o with slots:=L}:=λA o T D=>by obtain⟨_,bi,g,σ⟩:=N.funs.mem T;rw [D]at g;cases g;exact al A o D σ
 have bk:q Q=O:=by
  cases M:q Q with
  |none=>rfl
  |some u=>
   obtain⟨j,r⟩:=Ax N M;obtain⟨e,U⟩:=H Q u M;rw [tY _ r λG=>(bS.mp G).elim e U]at i;cases i
 have bl:h.d9.heap.get? Q=O:=by
  cases M:h.d9.heap.get? Q with
  |none=>rfl
  |some j=>
   obtain⟨s,a⟩:=N.base.there Q j M (f Q);have G:Q∈ea h.stack:=by refine F1 λU=> ?_;rw [tY _ a λG=>(bS.mp G).elim (p Q j M) U]at i;cases i
   rcases l Q G with D|D
   .exact absurd D (n Q j M)
   .obtain⟨_,bi,g,σ⟩:=ap.mem D;rw [E]at g;cases g;exact absurd F (σ C)
 refine⟨b,Q,k,q,S,N.os,N.bare,⟨λA o D X T H1=> ?_,λA o D X T H1=> ?_,λA o D X H1=>N.base.free A o D X (f A),λA o D H1=> ?_,N.base.kj,N.base.i4,N.base.kl⟩,λA u D=> ?_,⟨⟨as,a0,a1,C,z,a2,a3,a4,a5,bd,E,F,be⟩,V,bk⟩,ab,bl,am⟩
 .refine m A o (N.base.keep A o D X T (f A)) (p A o D) λG=> ?_;rcases l A G with M|M
  .exact n A o D M
  .exact T M
 .obtain⟨L,a⟩:=N.base.slot A o D X T (f A);obtain⟨P,w⟩:=K A _ T a;exact⟨P,w⟩
 .obtain⟨s,a⟩:=N.base.there A o D (f A);by_cases T:A∈h.fs
  .obtain⟨P,w⟩:=K A _ T a;exact⟨_,w⟩
  .exact⟨s,m A s a (p A o D) λG=>(l A G).elim (n A o D) T⟩
 .refine(N.bg A u D).i3 (λc v bm r=> ?_) (λ_ M=>M) λ_ _ M=>M;have bn:∃x,q c=Y x:=by
   rcases bm with M|M
   .exact⟨u,by rw [M];exact D⟩
   .exact⟨_,M⟩
  obtain⟨x,bs⟩:=bn;obtain⟨e,U⟩:=H c x bs;exact m c v r e U
variable{p L:Z}{FS:XK}{No:kR}{s5:J->aj->Prop}
def JQ(N:Inv h pp s4 q t)(Q:h.stack=h.env::h.outer)(e:h.ex=[])(a:h.env.frame=Y h.env.locals)(f:Aw q t.heap d p L)(c:h.d9.heap.get? d=O)(g:h.d9.heap.get? p=O)(A:FS (.ref L) O q) :aF No h.A (Fx h.env (.ref d)) (λ_ k=>bA h.prog h.w h.outer h.jE h.d9 FS (.ref d) k) s5 t:=by
 obtain⟨⟨l,m,n,D,S,r,s,b,u,v,w,x,y⟩,X,z⟩:=f;have B:∀T∈h.stack,∀G,T.frame=Y G->G∈[d,p]++ea h.stack:=λT C G U=>eH _ (nu.mpr ⟨T,C,U⟩)
 have E:yS (pF t.heap ([d,p]++ea h.stack)) (h.env::h.outer) d (.ref L) S t.heap:=
  ⟨λG o M=>yl _ M,tZ _ (by simp),by rw [<-Q];exact F2 N.stack B,l,m,p,n,D,r,s,b,u,tZ _ (by simp),v,w,x,y⟩
 refine wpAny_leaves_onW (Q▸N.ok.frames) a E λK F H=> ?_;refine Ay N Q e a (ls:=[d,p]) (λG U=> ?_) X c F H A;rcases bb.mp U with M|M
 .rw [M];exact⟨X,c⟩
 .rw [bf.mp M];exact⟨z,g⟩
variable{t1:List J}
def JR{X:Cx}(A:Inv X pp s4 q t)(N:X.stack=X.env::X.outer)(a:X.ex=[])(b:X.env.frame=Y X.env.locals){c:Z}(M:Heap.MadeExcOf t.heap B d (.ref c) t1)(h:FS (.ref c) O q) :aF No X.A (Fx X.env (.ref d)) (λ_ k=>bA X.prog X.w X.outer X.jE X.d9 FS (.ref d) k) s5 {t with heap:=B}:=by
 have l:∀Q∈X.stack,∀G,Q.frame=Y G->G∈([]:List Z)++ea X.stack:=λQ m G T=>eH _ (nu.mpr ⟨Q,m,T⟩);refine wpAny_leaves_madeW (base:=pF t.heap ([]++ea X.stack)) (h:=t.heap) (N▸A.ok.frames) b (λG o U=>yl _ U) (by rw [<-N];exact F2 A.stack l) M λD r n _ _ p=> ?_;refine Ay A N a b (ls:=[]) (λG T=>nomatch T) (JP A M.new) ?_ n ((TZ M.keeps).trans p) h;cases U:X.d9.heap.get? d with
 |none=>rfl
 |some o=>
  obtain⟨s,f⟩:=A.base.there d o U (by rw [a];simp);rw [M.new]at f;cases f
abbrev f5:List J:=[.type "Exception",.type "BaseException",.type "object"]
variable{Ev:String}
def vK{K:ah}(G:K.In B)(A:gS K d t1 Ev=I):∃g h N Q S T U a b c r s t u v w mN,B.get? d=Y (yT N Q d h S g T U a b c r s t u v w Ev)/\B.Ns h mN/\mN "__init__"=O/\OwnTail B t1 g:=by
 unfold gS at A;split at A
 .rename_i x y i z;split at A
  .rename_i V D j k l m C n o E;simp only [bz,iS,Bool.not_eq_true']at A;obtain⟨⟨⟨⟨⟨F,H⟩,p⟩,L⟩,M⟩,q⟩:=A;subst F H;obtain⟨N,S,X,P,Q,T,U,a,b,c,ab⟩:=y;dsimp only at o p M q;subst o p;have R:i= #[j,k,l,m,Y (.builtin C),n]:=by
    cases i with
    |mk ad=>exact bN Array.mk E
   subst R;exact⟨D,P,N,Q,S,T,U,a,b,c,x,j,k,l,m,n,_,G _ _ z,.of_isNs (PySem.W.isNs_of_in G M),PySem.W.nsMap_none_of_in G M q,PySem.W.tail_of_in G L⟩
  .cases A
 .cases A
variable{r:Nat}{Re:aL}{ss:b4}{op Fk Vw:aa}{pr s3:Z}{UY Vk:List J}{SZ UM Vx:Bool}{t0 KE:List aa}{Vl Vy:Option Bool}{Ps UK:Option Z}{Vm Vn Vo Vp Vq Vz VA VB:Option J}{Tk:String}
def JS{N:Array Fe}{Q:Drawn}{T:OsState}{b:Bool->aj->Prop}  {c:List J}   {o:List J}    {u v:Option J} {y:aa}     {H:List J} {K:Bool}    (A:B.get? p=Y (yT op Fk p pr UY c SZ t0 o UM Vl Ps Vm Vn u v Vo Ev)) (e:B.get? d=Y (yT y Vw d s3 Vk t1 Vx KE H K Vy UK Vp Vq Vz VA VB Tk))(al:B.get? L=Y Re) (am:Re.cls=.ref p) (an:t1.contains (.type "BaseException")=I) (ap:(b5 p::c).contains (.ref d)=ao)(as:b ao ⟨B,N,Q,r,T⟩):aF No ss (excMatches (.ref L) (.ref d)) b s5 ⟨B,N,Q,r,T⟩:=by
 have a0:(b5 d::t1).contains (.type "BaseException")=I:=by rw [Rq,an,Bool.or_true]
 have a1:=tc_notTuple;unfold excMatches
 repeat (first|(with_reducible refine F3 al ?_;rw [am])|with_reducible refine F3 e ?_|with_reducible refine F3 A ?_|(with_reducible refine Rr e ?_;rw [a0])|(with_reducible refine Rr A ?_;rw [ap])|wp_step)
 exact as
variable{wE:a6}{BT:Sp}{o0:bc}{z:aa->Option J}{K:ah}
def JT{c:aa}(Q:a7 K op c wE d o0)(P:ob t0 KE (ei wE))(n:∀A H D M,BT A H D M->A.length=KE.length)(o:∀(T:J) (a:b4) (g:List eg) (b:aj) (H:G) (A:List V) (D:VK) (M:XK),dh r (a.deeper (eI c (ei wE) b.heap.objs.size d T))->BT A H D M->∃j,gm (iz (bA l m) l m K z B t0 c (ei wE) d T a g b H M) (jM wE) j/\j {nx:=λ_ p=>D .br p,rt:=D} (start t0 A) H):aS l m K z B (bA l m) (r+1) d o0 KE BT:=by obtain⟨t,u,v,x,y,e,T,N,C,rfl,lk,q⟩:=Q.ex;exact z0 lk q P n λa g b H A D M w s=>o T a g b H A D M w s
def _root_.L2.a7.go(o:a7 K Fk op wE d o0)(e:List aa)(p:∀(T:J) (a:b4) (h:List eg) (b:aj) (H:G) (A:List V) (D:VK) (N:XK),dh r (a.deeper (eI op (ei wE) b.heap.objs.size d T))->BT A H D N->e.Nodup->(a.deeper (eI op (ei wE) b.heap.objs.size d T)).units+1<cG->20000<aR->∃k,gm (iz aD l m K z B e op (ei wE) d T a h b H N).qb (jM wE) k/\k {nx:=λ_ q=>D .br q,rt:=D} (start e A) H)(M:ob e t0 (ei wE):=by exact⟨S,S,S,by decide+kernel,S,by decide+kernel,by decide+kernel⟩)(f:∀A H D N,BT A H D N->A.length=t0.length:=by intro _ _ _ _ c;repeat (first|(obtain⟨rfl,_⟩:=c;rfl)|obtain⟨_,c⟩:=c)):aS l m K z B aD (r+1) d o0 t0 BT:=
 o.ok M f λT a h b H A D N Q c=>p T a h b H A D N Q c M.nd (by have:=Q.un;omega) (by decide)
def _root_.L2.a7.eu(o:a7 K Fk op wE d o0)(e:List aa)(p:∀(T:J) (a:b4) (h:List eg) (b:aj) (H:G) (A:List V) (D:VK) (N:XK),dh r (a.deeper (eI op (ei wE) b.heap.objs.size d T))->BT A H D N->e.Nodup->(a.deeper (eI op (ei wE) b.heap.objs.size d T)).units+1<cG->20000<aR->∃k,gm (iz (bA l m) l m K z B e op (ei wE) d T a h b H N) (jM wE) k/\k {nx:=λ_ q=>D .br q,rt:=D} (start e A) H)(M:ob e t0 (ei wE):=by exact⟨S,S,S,by decide+kernel,S,by decide+kernel,by decide+kernel⟩)(P:∀A H D N,BT A H D N->A.length=t0.length:=by intro _ _ _ _ c;repeat (first|(obtain⟨rfl,_⟩:=c;rfl)|obtain⟨_,c⟩:=c)):aS l m K z B (bA l m) (r+1) d o0 t0 BT:=
 JT o M P λT a h b H A D N Q c=>p T a h b H A D N Q c M.nd (by have:=Q.un;omega) (by decide)
variable{wn:J}{UG:List eg}
def dt{c:List aa}{e:eZ}{H:G}:Passes (bA l m) (iz (bA l m) l m K z B c op e d wn ss UG t H FS) FS:=by
 intro f D C j Q E T k;obtain⟨P,w,F,L,rfl,n,p,q,r,s,N,u,v⟩:=k;have x:=T.qa n q r p (ch:=[]) λ_ M=>nomatch M
 have a:∀A,j.heap.get? A=O->t.heap.get? A=O:=λA Q=>by
  cases M:t.heap.get? A with
  |none=>rfl
  |some o=>
   obtain⟨R,b⟩:=T.base.there A o M (λy=>nomatch y);rw [Q]at b;cases b
 exact JQ x S rfl rfl s (a P N) (a w u) v
def JU(A:Z)(D:XK):TS:=λ_ _ H=>D (.ref A) O H
variable{pv v4 U0:b3}{VC:String}
def jN{b:eZ}{c:Z}{H:G}{N:XK}(o:ExcBaseFacts Ev Tk VC t1) (p:f5.contains (.type Ev)=I) (q:gS K d f5 Tk=I)(r:Gl (iz (bA l m) l m K z B t0 Fk b c wn ss UG t H N) op) (s:z op=Y (.ref d)) (D:ss.handled=O) (u:(op==("__debug__":aa))=ao:=by decide):PS (iz (bA l m) l m K z B t0 Fk b c wn ss UG t H N) (.Raise (Y (.Call (.Name op pv) [] [] v4)) O U0) (JU d N):=by
 intro a3 a4 a5 bd be Q v;obtain⟨x,y,M,A,C,E,L,R,V,X,ab,ad,al,am,an,ap,mN,as,a0,a1,i⟩:=vK Q.fh q;refine wpAny_Raise_call_subU (C:=d) (nm:=M) (q:=A) (N:=y) (bs:=C) (bm:=x) (hdct:=E) (sn:=L) (sub:=R) (ab:=V) (col:=X) (dd:=ab) (k0:=ad) (k1:=al) (k2:=am) (k3:=an) (k5:=ap)
  o p kd (mN:=mN) (i.hasType (by decide)) (show(ss.deeper _).handled=O from D) S a1 (n0 Q r s ⟨S, ?_⟩ u)
 exact evalArgs_empty ⟨S,cP _,as,a0,i,λbi bk a2=>JR Q S rfl rfl a2 v⟩
def mroIn(K:ah)(A:Z):Bool:=match K.lookup A with
 |some ⟨_,_,.cls a,_⟩=>a.mro==.ref A::f5
 |_=>ao
def JV{K:ah}(N:K.In B)(A:mroIn K d=I)(n:B.get? d=Y (yT op Fk d p UY t1 SZ t0 Vk UM Vl Ps Vm Vn Vo Vp Vq Ev)):t1=f5:=by
 unfold mroIn at A;split at A
 .rename_i c r s t o;have D:=(N _ _ o).symm.trans n
  cases D;have q:=iS.mp A
  exact(rp q).2
 .cases A
variable{sK:G}{s':aj}
def land(a:Inv h pp s4 sK t)(i:s'.os=t.os)(j:j4 s'.gens)(Q:Un (ea h.stack) [] sK q t.heap s'.heap)(k:dr h.prog h.w q s'.heap)(x:q d=O)(y:q p=O)(z:t.heap.get? d=O) (X:t.heap.get? p=O)  (E:(pF s'.heap ([d,p]++ea h.stack)).StaysIn B) (F:s'.heap.UpToSlots B):Inv h pp s4 q {s' with heap:=B}:=by
 have l:Inv h pp s4 q s':=a.qa i Q k j (ch:=[]) λ_ G=>nomatch G
 have e:∀A o,s'.heap.get? A=Y o->A≠d->A≠p->A∉ea h.stack->B.get? A=Y o:=λA o D H K L=>E A o (tY _ D λN=>by
  rcases bS.mp N with N|N
  .rcases bb.mp N with N|N
   .exact H N
   .exact K (bf.mp N)
  .exact L N)
 have m:∀A o,t.heap.get? A=Y o->A≠d:=λA o D G=>by rw [G,z]at D;cases D
 have n:∀A o,t.heap.get? A=Y o->A≠p:=λA o D G=>by rw [G,X]at D;cases D
 have T:∀A o,A∈ea h.stack->s'.heap.get? A=Y o->∃σ,B.get? A=Y {o with slots:=σ}:=λA o M D=>by obtain⟨_,ad,r,P⟩:=l.stack.mem M;rw [D]at r;cases r;exact F A o D P
 refine a.qa (s':={s' with heap:=B}) i ⟨λA o D f M b=> ?_,λA o D f M b=> ?_,Q.free,λA o D b=> ?_,Q.kj,Q.i4,Q.kl⟩ (λA u D=> ?_) j (ch:=[]) λ_ G=>nomatch G
 .exact e A o (Q.keep A o D f M b) (m A o D) (n A o D) M
 .obtain⟨σ,S⟩:=Q.slot A o D f M b;obtain⟨s,g⟩:=T A _ M S;exact⟨s,g⟩
 .obtain⟨H2,S⟩:=Q.there A o D b;by_cases M:A∈ea h.stack
  .obtain⟨s,g⟩:=T A _ M S;exact⟨_,g⟩
  .exact⟨H2,e A H2 S (m A o D) (n A o D) M⟩
 .refine(k A u D).i3 (λc v R V=> ?_) (λ_ G=>G) λ_ _ G=>G;have ab:∃w,q c=Y w:=by
   rcases R with G|G
   .exact⟨u,by rw [G];exact D⟩
   .exact⟨_,G⟩
  obtain⟨w,U⟩:=ab;refine e c v V (λG=> ?_) (λG=> ?_) λG=> ?_
  .rw [G,x]at U;cases U
  .rw [G,y]at U;cases U
  .rw [l.rN c G]at U;cases U
abbrev Cx.ky(A:Cx)(D:b4)(G:List (Z×aL)):Cx:={A with A:=D,calm:=ao,pn:=G,xe:=λ_ _=>False}
abbrev Cx.ow(A:Cx)(D:List (Z×aL))(G:J->aj->Prop):Cx:={A with pn:=D,xe:=G}
def JW(A:h.Ok)(G:ss.frames=h.A.frames)(M:List (Z×aL)):(Cx.ky h ss M).Ok:=
 ⟨A.mod,A.kind,A.glob,A.blt,A.above,A.inj,A.has,A.mu,(λN=>nomatch N),G.trans A.frames,A.nY,A.nZ,A.bs,A.iy,A.mv,A.mw,A.funs,A.kn⟩
def JX(A:h.Ok)(D:List (Z×aL))(G:J->aj->Prop):(Cx.ow h D G).Ok:=
 ⟨A.mod,A.kind,A.glob,A.blt,A.above,A.inj,A.has,A.mu,A.hd,A.frames,A.nY,A.nZ,A.bs,A.iy,A.mv,A.mw,A.funs,A.kn⟩
variable{H:G}
def Az(A:Inv h pp s4 H t)(M:ss.frames=h.A.frames):Inv (Cx.ky h ss (h.pn++pp)) [] s4 H t:=
 ⟨JW A.ok M _,A.os,A.bare,A.base,A.loc,A.cell,A.free,A.gI,λN G=>A.pin N (by rw [bZ]at G;exact G),A.bg,A.len⟩
def sg(D:h.Ok)(A:Inv (Cx.ky h ss (h.pn++pp)) [] s4 H t):Inv h pp s4 H t:=
 ⟨D,A.os,A.bare,A.base,A.loc,A.cell,A.free,A.gI,λM N=>A.pin M (by rw [bZ];exact N),A.bg,A.len⟩
def JY(A:Inv h pp s4 H t)(G:J->aj->Prop):Inv (Cx.ow h (h.pn++pp) G) [] s4 H t:=
 ⟨JX A.ok _ _,A.os,A.bare,A.base,A.loc,A.cell,A.free,A.gI,λM D=>A.pin M (by rw [bZ]at D;exact D),A.bg,A.len⟩
variable{Vt:List (Z×aL)}
def qu(D:h.Ok)(A:Inv (Cx.ow h (h.pn++pp) s5) Vt s4 H t):Inv h pp s4 H t:=
 ⟨D,A.os,A.bare,A.base,A.loc,A.cell,A.free,A.gI,λN Q=>A.pin N (gQ _ Q),A.bg,A.len⟩
variable{xL:Ends}
def JZ(N:h.Ok){S:Flow}(Q:SP (Cx.ky h ss (h.pn++pp)) [] xL S t):SP h pp xL S t:=by
 cases S with
 |next=>obtain⟨A,D,G,M⟩:=Q;exact⟨A,D,sg N G,M⟩
 |brk=>obtain⟨A,D,G,M⟩:=Q;exact⟨A,D,sg N G,M⟩
 |cont=>obtain⟨A,D,G,M⟩:=Q;exact⟨A,D,sg N G,M⟩
 |ret u=>obtain⟨v,A,D,G,a,M⟩:=Q;exact⟨v,A,D,sg N G,a,M⟩
def sh(N:h.Ok){fl:Flow}(Q:SP (Cx.ow h (h.pn++pp) s5) [] xL fl t):SP h pp xL fl t:=by
 cases fl with
 |next=>obtain⟨A,D,G,M⟩:=Q;exact⟨A,D,qu N G,M⟩
 |brk=>obtain⟨A,D,G,M⟩:=Q;exact⟨A,D,qu N G,M⟩
 |cont=>obtain⟨A,D,G,M⟩:=Q;exact⟨A,D,qu N G,M⟩
 |ret u=>obtain⟨v,A,D,G,U,M⟩:=Q;exact⟨v,A,D,qu N G,U,M⟩
inductive PH (A:Cx):List rq->List (Z×TS)->Prop
 |nil:PH A [] []
 |cons {x:aa} {np pos:b3} {b:a6} {ky:List a6} {rest:List rq} {a:Z} {t:TS} {rs:List (Z×TS)} {newId:String}:
   Gl A x->A.U x=Y (.ref a)->gS A.K a f5 newId=I->mroIn A.K a=I->(x==("__debug__":aa))=ao->
   (∀(D:b4) (pn:List (Z×aL)),gm (Cx.ky A D pn) (b::ky) t)->PH A rest rs->PH A (.ExceptHandler (Y (.Name x np)) O (b::ky) pos::rest) ((a,t)::rs)
def catchR(A:Nat)(D:Ends):List (Z×TS)->Z->G->Prop
 |[],_,_=>False
 |(b,c)::d,a,H=>if a=b then c D (Fw A O) H else catchR A D d a H
def AA(D:Nat)(G:List (Z×TS))(M:Ends):XK:=λc _ H=>∃A,c=.ref A/\catchR D M G A H
def J0(D:Nat)(G:XK->TS)(M:List (Z×TS)):TS:=λA N H=>G (AA D M A) A N H
def J1{H:G}:∀{Q:List rq} {N:List (Z×TS)},PH h Q N->catchR r xL N d H->∃a,gS h.K d f5 a=I/\mroIn h.K d=I:=by
 intro Q N S;induction S with
 |nil=>intro A;exact A.elim
 |cons e f f6 b hd g S c=>
  intro A;unfold catchR at A;split at A
  .rename_i D;subst D;exact⟨_,f6,b⟩
  .exact c A
variable{NE:aj}
def J2(a:Inv h pp s4 sK NE)(C:t.os=NE.os)(i:j4 t.gens)(j:Un (ea h.stack) [] sK q NE.heap t.heap)(k:dr h.prog h.w q t.heap)(l:q d=O)(m:q L=O)(n:NE.heap.get? d=O) (o:NE.heap.get? L=O)  (y:gS h.K p f5 Ev=I) (z:mroIn h.K p=I) (T:∀M:J,(h.A.mark (Y M)).frames=h.A.frames):∀{e:List rq} {U:List (Z×TS)},PH h e U->∀{Q:aE},yS (pF t.heap ([d,L]++ea h.stack)) (h.env::h.outer) d (.ref p) wn Q->t.heap.UpToSlots Q->catchR h.N.length xL U p q->aF (aM h.prog h.w) h.A (handleBy (.ref d) h.env e) (SP h pp xL) h.xe {t with heap:=Q}:=by
 intro e U D;induction D with
 |nil=>intro Q _ _ G;exact G.elim
 | @cons x ap as a1 ky rest r a2 U a3 B E f6 a4 hd F D H=>
  intro Q b f G;have c:=land a C i j k l m n o b.1 f
  have K:=Az c (T (.ref d));refine wpAny_handleBy_cons (codeAny_handlers_test (n0 K B E ?_ hd)) (by intro A;cases A);obtain⟨a5,bd,be,bi,bk,bl,bm,bn,bs,bt,bv,ca,cd,ce,ch,ci,mN,g,cl,cn,X⟩:=vK c.fh y;obtain⟨co,cr,cs,ct,c0,c1,c2,c3,c4,c5,c6,c7,c8,c9,db,dd,dl,P,dp,ds,R⟩:=vK c.fh f6;obtain⟨dx,s,w⟩:=b.there;unfold catchR at G;by_cases M:p=r
  .subst M;rw [ak S]at G;refine wpAny_excMatches_sub_self g s w (X.hasType (by decide)) (codeAny_handlers_suite ?_);refine lands_againW b λV ab ad=> ?_;have u:=land a C i j k l m n o ab.1 (f.trans ad)
   have al:Inv h pp (Fw h.N.length O) q {t with heap:=V}:=u.weak (by rw [QK];exact u.len.symm) λdK v A=>by
    rw [QJ]at A;split at A
    .cases A
    .cases A
   exact g6 (F (h.A.mark (Y (.ref d))) (h.pn++pp) [] _ _ q xL (Az al (T (.ref d))) G) (λdL dT A=>JZ a.ok A) λ_ _ A=>A.elim
  .rw [N M]at G;have am:=JV c.fh z g
   refine JS g P s w (R.hasType (by decide)) ?_ (H b f G);rw [am];have an:(b5 r==b5 p)=ao:=by rw [iQ];intro A;cases A;exact M S
   rw [Rq,an];rfl
variable{Pi:List a6}
def J3{U:rq}{b:List rq}{c:List (Z×TS)}{T:XK->TS}(i:h.stack=h.env::h.outer)(x:h.env.frame=Y h.env.locals)(a:∀(j:List (Z×aL)) (k:J->aj->Prop) (l:XK),Passes (bA h.prog h.w) (Cx.ow h j k) l->gm (Cx.ow h j k) Pi (T l))(m:PH h (U::b) c):PS h (.Try Pi (U::b) [] [] pv) (J0 h.N.length T c):=by
 intro pp y s4 H xL G z;refine wpAny_Try_except ?_;refine g6 (a (h.pn++pp) (λM t=>aF (aM h.prog h.w) h.A (noteFrame M h.env) (λ_ e=>aF (aM h.prog h.w) h.A (setFlight M O) (λ_ B=>aF (aM h.prog h.w) h.A (handleBy M h.env (U::b)) (SP h pp xL) h.xe B) h.xe e) h.xe t) (AA h.N.length c xL) ?_ [] y s4 H xL (JY G _) z) (λE e A=> ?_) λM e A=>A
 .intro cd n q t M NE F K;obtain⟨d,p,L,sK,rfl,D,g,r,s,X,P,R,N⟩:=K;obtain⟨ce,V,N⟩:=N;cases V;obtain⟨ci,ab,ad⟩:=J1 m N;have σ:Inv h pp n q t:=qu G.ok F
  have v:Inv h pp n sK NE:=σ.qa D r s g (ch:=[]) λ_ A=>nomatch A
  obtain⟨⟨al,am,an,ap,wn,as,a1,a2,a3,a4,a5,bd,be⟩,bi,bk⟩:=X;have bl:∀f∈h.stack,∀Q,f.frame=Y Q->Q∈[d,p]++ea h.stack:=λf bm Q a=>eH _ (nu.mpr ⟨f,bm,a⟩)
  have bn:yS (pF NE.heap ([d,p]++ea h.stack)) (h.env::h.outer) d (.ref L) wn NE.heap:=
   ⟨λQ o A=>yl _ A,tZ _ (by simp),by rw [<-i];exact F2 v.stack bl,al,am,p,an,ap,as,a1,a2,a3,tZ _ (by simp),a4,a5,bd,be⟩
  refine wpAny_looks_onW (i▸v.ok.frames) x bn λcl bs bt=> ?_;refine wpAny_landsW bs λcn bv ca=> ?_;exact J2 σ D g r s bi bk P R ab ad (λ_=>S) m bv (bt.trans ca) N
 .cases E with
  |next=>exact t6 (sh G.ok A)
  |brk=>exact sh (fl:=.brk) G.ok A
  |cont=>exact sh (fl:=.cont) G.ok A
  |ret u=>exact sh (fl:=.ret u) G.ok A
abbrev bV:=List (List Key×Z×V)
abbrev eS:bV->List (List Key×Z×J)->Prop:=cO λA D=>A.1=D.1/\A.2.1=D.2.1/\RelV A.2.2 D.2.2
def qv(N:az)(Q:aw)(D:Z)(A:bV)(S:aE):Prop:=A.length<=aR/\(D==er)=ao/\(A.map (·.1)).Nodup/\
 ∃G,eS A G/\∃o M T,S.get? D=Y o/\o.ExactDict/\o.data=.dict M T/\M.toList=G.map (jy (ij (eC N Q)))
def dX(A:az)(D:aw)(G:Z)(M:bV):HO:=.ext (qv A D G M)
def b7(K:ah)(H:G)(D:bV):Prop:=∀A∈D,av K H A.2.1 (A.1.map kV)
def cg(A:bV)(D:List Key):Option V:=(A.find? λG=>decide (G.1=D)).map (·.2.2)
def cz(D:bV)(G:List Key)(M:Z)(v:V):bV:=if(cg D G).isSome then D.map (λA=>if A.1=G then(A.1,A.2.1,v)else A)else D++[(G,M,v)]
variable{LT:aE}{pu:bV}
def J4(A:qv l m d pu B)(D:∀o,B.get? d=Y o->LT.get? d=Y o):qv l m d pu LT:=by obtain⟨G,M,N,Q,S,o,T,U,b,c⟩:=A;exact⟨G,M,N,Q,S,o,T,U,D o b,c⟩
def si(A:qv l m d pu B):dZ l m H B d (dX l m d pu):=
 ⟨A,(let⟨_,_,_,_,_,o,_,_,D,_⟩:=A;⟨o,D⟩),λN Q G M=>J4 G M⟩
def sj(A:dZ l m H B d (dX l m d pu)):qv l m d pu B:=A.1
variable{v0:List (List Key×Z×J)}
def eS.keys(D:eS pu v0):pu.map (·.1)=v0.map (·.1):=by
 induction D with
 |nil=>rfl
 |cons B _ b=>rw [aV,aV,B.1,b]
def eS.val(M:eS pu v0)(A:List Key):fg (cg pu A) ((fV v0 A).map (·.2)):=by
 induction M with
 |nil=>exact j6
 | @cons p c ps d B _ b=>
  unfold cg fV at b⊢;rw [gi,gi,<-B.1];by_cases G:p.1=A
  .rw [ck G];exact B.2.2
  .rw [bT G];exact b
def eS.mem(Q:eS pu v0):∀A∈v0,∃D∈pu,D.1=A.1/\D.2.1=A.2.1:=by
 induction Q with
 |nil=>intro A G;cases G
 | @cons D c ps d B _ b=>
  intro A G;rcases bb.mp G with M|M
  .subst M;exact⟨D,bY,B.1,B.2.1⟩
  .obtain⟨S,T,U⟩:=b A M;exact⟨S,bM _ T,U⟩
def eS.put(M:eS pu v0)(A:List Key)(b:Z){v:V}{u:J}(U:RelV v u):eS (cz pu A b v) (hU v0 A b u):=by
 have d:(cg pu A).isSome=(fV v0 A).isSome:=by have:=(M.val A).mz;rwa [kT]at this
 unfold cz hU;rw [d];by_cases D:(fV v0 A).isSome=I
 .rw [ak D,ak D];clear d D;induction M with
  |nil=>exact .nil
  | @cons p e ps i B _ c=>
   refine .cons ?_ c;unfold putAt;simp only [<-B.1];by_cases f:p.1=A
   .simp only [ak f];exact⟨j6,B.2.1,U⟩
   .simp only [N f];exact B
 .rw [N D,N D];have g:∀{Q:bV} {T:List (List Key×Z×J)},eS Q T->eS (Q++[(A,b,v)]) (T++[(A,b,u)]):=by
   intro Q T e;induction e with
   |nil=>exact .cons ⟨S,S,U⟩ .nil
   |cons B _ c=>exact .cons B c
  exact g M
def vL(aU:bV)(A:List Key)(D:Z)(v:V):(cz aU A D v).length<=aU.length+1:=by
 unfold cz;split
 .rw [ag];omega
 .rw [bB];exact aX _
variable{AC:List Key}{aU:bV}
def lz{K:ah}(A:b7 K H aU)(v:V)(b:av K H d (AC.map kV)):b7 K H (cz aU AC d v):=by
 unfold cz;split
 .intro Q D;obtain⟨T,U,rfl⟩:=bE.mp D;split
  .exact A T U
  .exact A T U
 .intro Q D;rcases bS.mp D with G|G
  .exact A Q G
  .rw [bf.mp G];exact b
def b7.same{K:ah}(N:b7 K H pu)(Q:∀D M,av K H D M->av K q D M):b7 K q pu:=λS T=>Q _ _ (N S T)
variable{ul:List V}
def bC{K:ah}{o:HO}{c:Z}(A:cX (H d)\/H d=O)(h:av K H c ul):av K (upd H d o) c ul:=by
 have T:∀u,H c=Y u->(∀N,u=.tup N->c≠d):=λu U N b G=>by
  subst G;rw [U,b]at A;rcases A with A|A
  .exact A
  .cases A
 rcases h with(h|⟨D,h⟩)|h
 .exact .inl (.inl (by rw [Q (T _ h _ S)];exact h))
 .refine .inl (.inr ⟨D, ?_⟩);have:c≠d:=λG=>by
   subst G;rw [h]at A;rcases A with A|A
   .exact A
   .cases A
  rw [Q this];exact h
 .exact .inr h
def lA(D:Inv h pp s4 H t)(G:av h.K H d (AC.map kV)):(ij (eC h.prog h.w)).is t.heap AC d:=by obtain⟨M,N,⟨o,Q,c,S,T⟩,_⟩:=D.tuple G;exact⟨o,M.toArray,S,Q,c,T,by simpa using vD N⟩
def jO(M:Inv h pp s4 H t)(N:H d=Y (dX h.prog h.w d pu))(Q:b7 h.K H pu):pu.length<=aR/\(d==er)=ao/\∃D,eS pu D/\t.heap.DictOfH (ij (eC h.prog h.w)) d D:=by
 obtain⟨S,T,U,D,G,o,c,X,e,f,g,a⟩:=sj (M.bg d _ N);refine⟨S,T,D,G,o,c,X,e,f,g,a,λi j=> ?_,by rw [<-G.keys];exact U⟩;obtain⟨l,m,n,p⟩:=G.mem i j;have:=lA M (Q l m)
 rw [n,p]at this;exact this
variable{IN:J->aj->Prop}{v:V}
def J5(Q:ss.units+1<cG)(G:Inv h pp s4 H t)(S:H d=Y (dX h.prog h.w d pu))(T:b7 h.K H pu)(U:av h.K H p (AC.map kV))(c:cg pu AC=Y v)(X:∀D N,Inv h pp s4 H N->RelV v D->s5 D N):aF (aM h.prog h.w) ss (nz (.ref d) (.ref p)) s5 IN t:=by obtain⟨l,m,e,f,g⟩:=jO G S T;obtain⟨D,hw,k⟩:=fg.some_of (v:=v) (o:=(fV e AC).map (·.2)) (by rw [<-c];exact f.val AC);obtain⟨n,i,j⟩:=cm.mp hw;refine FO (nD Q) (lA G U) g i ?_;rw [j];exact X D _ (G.tok _) k
def AB(Q:ss.units+1<cG)(D:Inv h pp s4 H t)(S:H d=Y (dX h.prog h.w d pu))(T:b7 h.K H pu)(U:av h.K H p (AC.map kV))(c:∀M,Inv h pp s4 H M->s5 (.bool (cg pu AC).isSome) M):aF (aM h.prog h.w) ss (fJ .In (.ref p) (.ref d)) s5 IN t:=by
 obtain⟨g,X,a,e,f⟩:=jO D S T;refine wpAny_in_heap (nD Q) (lA D U) X f ?_;have N:=(e.val AC).mz
 rw [kT]at N;rw [<-N];exact c _ (D.tok _)
def sk{t':Nat}{sl:bV}(S:Inv h pp s4 H t)(T:H d=Y (dX h.prog h.w d pu))(U:sl.length<=aR)(c:(d==er)=ao)(M:eS sl v0)(X:B.DictOfH (ij (eC h.prog h.w)) d v0) (e:ik d t.heap B):Inv h pp s4 (upd H d (dX h.prog h.w d sl)) {t with heap:=B,toks:=t'}:=by obtain⟨N,f,g,Q,a,i,j,_,l⟩:=X;refine vE S (by rw [T];exact j6) e ⟨N,Q⟩ (si ⟨U,c,by rw [M.keys];exact l,v0,M,N,f,g,Q,a,i,j⟩)
variable{KK:Unit->aj->Prop}
def J6(S:ss.units+1<cG)(D:Inv h pp s4 H t)(M:H p=Y (dX h.prog h.w p pu))(T:b7 h.K H pu)(U:av h.K H d (AC.map kV))(n:pu.length<aR)(c:RelV v wn)(X:∀N,Inv h pp s4 (upd H p (dX h.prog h.w p (cz pu AC d v))) N->KK () N):aF (aM h.prog h.w) ss (setItem (.ref p) (.ref d) wn) KK s5 t:=by
 obtain⟨e,f,g,Q,b⟩:=jO D M T;have i:g.length<=aR:=by rw [<-bL Q];exact e
 have j:(cz pu AC d v).length<=aR:=by have:=vL pu AC d v;omega
 exact Q3 (hsz:=i) (nD S) (lA D U) b λo l m=>X _ (sk D M j f (Q.put AC d c) l m)
def vM(N:Inv h pp s4 H t)(Q:H d=Y (dX h.prog h.w d pu)):t.TypeIs (.ref d) "dict"/\(∀p,b5 d=.ref p->∃D,t.heap.get? p=Y D/\D.dict=O)/\(d==er)=ao:=by obtain⟨U,S,c,a,e,o,f,g,G,M,b,i⟩:=sj (N.bg d _ Q);exact⟨⟨o,G,M.1⟩,λp T=>by cases T;exact⟨o,G,M.2.1⟩,S⟩
def AD(A:Cx)(H:G)(M:Z)(y:V)(o:Option V):Prop:=∃D N Q,H M=Y (dX A.prog A.w M D)/\b7 A.K H D/\y=.ref Q/\av A.K H Q (N.map kV)/\o=cg D N
def J7(M:Cx)(N Q:TE):TE:=λA H S=>N A H λT U=>Q A U λy D=>∃G v,T=.ref G/\AD M D G y (Y v)/\S v D
def J8(M:Cx)(N Q:TE):TE:=λA H S=>N A H λy T=>Q A T λU D=>∃G o,U=.ref G/\AD M D G y o/\S (.bl o.isSome) D
def J9(A:Cx)(T U a:TE):TS:=λb G H=>a G H λv c=>T G c λd e=>U G e λy M=>∃D N S Q,d=.ref D/\M D=Y (dX A.prog A.w D N)/\b7 A.K M N/\y=.ref Q/\av A.K M Q (S.map kV)/\N.length<aR/\
 b.nx G (upd M D (dX A.prog A.w D (cz N S Q v)))
def Ka(D:Cx):TE:=λ_ H G=>∀A,H A=O->G (.ref A) (upd H A (dX D.prog D.w A []))
variable{P o:aZ}{sc xz:TE}
def fk(N:h.A.units+1<cG)(Q:PE h o sc)(T:PE h P xz)(U:ot P):PE h (.Subscript o P pv) (J7 h sc xz):=by intro A a D H B b c;refine sd yG.lookup U (aN (Q A a D H _ b c) λu d ⟨C,e,f,g,i⟩=>aN (T A d D e _ f i) λj E ⟨y,k,G,l,m,v,n,⟨K,L,p,M,q,r,s,t⟩,w⟩=> ?_);subst n r;obtain rfl:u=b5 m:=g;cases (show j=b5 p from l);exact⟨(vM G M).1,J5 N G M q s t.symm λX R x z=>⟨v,k,x,z,w⟩⟩
def vN(G:h.A.units+1<cG)(M:PE h P xz)(N:PE h o sc):PC h .In P o (J8 h xz sc):=by intro A Q D H z T U;refine aN (M A Q D H _ T U) λa b ⟨y,c,d,e,f⟩=>aN (N A b D c _ d f) λu B ⟨C,g,X,j,k,E,l,⟨m,n,p,q,r,s,t,v⟩,w⟩=> ?_;subst l s v;obtain rfl:u=b5 k:=j;cases (show a=b5 p from e);exact AB G X q r t λF x=>⟨.bl (cg m n).isSome,g,x,S,w⟩
variable{sB:aZ}{UV:TE}
def i9(G:h.A.units+1<cG)(M:PE h o sc)(N:PE h P xz)(Q:PE h sB UV)(T:l2 sB (Y (.Subscript o P v4)) pv.line h.env=df ao):PS h (.Assign [.Subscript o P v4] sB pv) (J9 h sc xz UV):=by intro D U A H K a b;refine Q4 (aN (Q D U A H _ a b) λL c ⟨v,d,e,f,g⟩=>aN (M D c A d _ e g) λu i ⟨X,j,k,l,m⟩=>aN (N D i A j _ k m) λn R ⟨y,V,p,q,r,W,ab,s,t,w,x,z,B,C,E⟩=> ?_) T;subst t z;obtain rfl:u=b5 r:=l;cases (show n=b5 s from q);exact J6 G p w x B C f λad F=>⟨A,_,F,E⟩
def kz:PE h (.Dict [] [] pv) (Ka h):=λN A Q H T D G=>
 Q5 ⟨.ref A.heap.objs.size,_,D.laid (a:=A.heap.objs.size) (o:=dX h.prog h.w A.heap.objs.size []) (t':=A.toks) (λ_ _ M=>fe _ M) (aX _) (si ⟨cP _,iQ.mpr (eO (fI D.big)),gT,[],.nil,_,#[],0,gD _ S,⟨S,S,S⟩,S,S⟩),S,G _ (D.bg.fresh (aX _))⟩
structure KD(K:ah)(G:az)(w:aw)(a:Z)(M:List (Key×V)):Prop where
 at_:∀A:aE,K.In A->∃D,KV M D/\A.DictOf (eC G w) a D
 ns:(a==er)=ao
def KGet(A:Cx)(M:Z)(y:V)(o:Option V):Prop:=∃D G,KD A.K A.prog A.w M D/\y=kV G/\o=cS D G
def Kb(G:Cx)(M N:TE):TE:=λA H Q=>M A H λS T=>N A T λy U=>∃D v,S=.ref D/\KGet G D y (Y v)/\Q v U
def Kc(G:Cx)(M N:TE):TE:=λA H Q=>M A H λy S=>N A S λT U=>∃D o,T=.ref D/\KGet G D y o/\Q (.bl o.isSome) U
def Kd(G:Cx)(M N:TE):TE:=λA H Q=>M A H λy S=>N A S λT U=>∃D o,T=.ref D/\KGet G D y o/\Q (.bl (!o.isSome)) U
def vO(Q:PE h o sc)(T:PE h P xz)(U:ot P):PE h (.Subscript o P pv) (Kb h sc xz):=by intro A a D H x b c;refine sd yG.lookup U (aN (Q A a D H _ b c) λu d ⟨z,e,f,g,X⟩=>aN (T A d D e _ f X) λB C ⟨y,j,G,k,l,v,m,⟨E,M,n,p,q⟩,r⟩=> ?_);subst m p;obtain rfl:u=b5 l:=g;obtain⟨s,t,N⟩:=n.at_ _ G.fh;obtain⟨K,hw,w⟩:=fg.some_of (v:=v) (o:=nC s M) (by rw [q];exact t.val M);exact⟨N.typeIs,Q1 (jL k) N.mapOf hw ⟨v,j,G.tok _,w,r⟩⟩
def vP(Q:PE h P xz)(T:PE h o sc):PC h .In P o (Kc h xz sc):=by intro A U D H t a b;refine aN (Q A U D H _ a b) λv c ⟨y,d,e,f,g⟩=>aN (T A c D d _ e g) λu w ⟨x,X,G,j,k,z,l,⟨m,M,N,n,p⟩,q⟩=> ?_;subst l n p;obtain rfl:u=b5 k:=j;obtain⟨B,r,s⟩:=N.at_ _ G.fh;refine wpAny_in_of (jL f) N.ns s.mapOf ?_;rw [<-(r.val M).mz];exact⟨.bl (cS m M).isSome,X,G.tok _,S,q⟩
def AE(Q:PE h P xz)(T:PE h o sc):PC h .NotIn P o (Kd h xz sc):=by intro A U D H t a b;refine aN (Q A U D H _ a b) λv c ⟨y,d,e,f,g⟩=>aN (T A c D d _ e g) λu w ⟨x,X,G,j,k,z,l,⟨m,M,N,n,p⟩,q⟩=> ?_;subst l n p;obtain rfl:u=b5 k:=j;obtain⟨B,r,s⟩:=N.at_ _ G.fh;refine Q2 (jL f) N.ns s.mapOf ?_;rw [<-(r.val M).mz];exact⟨.bl (!(cS m M).isSome),X,G.tok _,S,q⟩
section
variable (P:az) (w:aw) (K:ah) (U:aa->Option J) (base:aE) (CX:hj) (k:Nat)
structure bx(x:aa)(ps:List aa)(sp:Sp):Prop where
 ex:∃A D,aS P w K U base CX k A D ps sp/\Binds K D ps []/\U x=Y (.ref A)/\kS K (.ref A)=I
structure cC(A:Z)(m:aa)(ps:List aa)(sp:Sp):Prop where
 ex:∃D G,aS P w K U base CX k D G ps sp/\Binds K G ps []/\Meth K A m D
 cl:fi K A
structure iD(x:aa)(A:Z)(ps:List aa)(sp:Sp):Prop where
 ex:∃D G,aS P w K U base CX k D G ps sp/\Binds K G ps []/\Mk K A D
 gl:U x=Y (.ref A)
end
variable{tz:List aZ}{GM:hj}{Ix:TA}
def gL(c:bx h.prog h.w h.K h.U h.base GM r op t0 BT)(A:dh r h.A)(D:Passes GM h FS)(G:PA h (P::tz) Ix)(M:Gl h op:=by rfl)(N:(op==("__debug__":aa))=ao:=by decide)(Q:cw (P::tz) h.env=(ao,iW P h.env)::cw tz h.env:=by rfl) (T:(fc pv (cw tz h.env)).any (·.1)=ao:=by rfl):PE h (.Call (.Name op v4) (P::tz) [] pv) (vh BT [] FS Ix):=by obtain⟨f,g,U,a,b,d⟩:=c.ex;exact Io U A M b d a .nil D G N Q T
variable{T0:fw Bool}{E:XK}
def eK(M:PE h o sc)(c:cC h.prog h.w h.K h.U h.base GM r d op t0 BT)(N:dh r h.A)(Q:Passes GM h E)(T:PA h (P::tz) Ix)(U:cw (P::tz) h.env=(ao,iW P h.env)::cw tz h.env:=by rfl) (a:(fc pv (cw tz h.env)).any (·.1)=ao:=by rfl)(b:iW (.Call (.Attribute o op v4) (P::tz) [] pv) h.env=(do
   let D<-iW o h.env
   pH v4.atName
   let(G,first)<-l1 [D] (pL D op T0)
   rf pv G first (fc pv (cw (P::tz) h.env)) (l4 pv (l5 [] h.env))):=by rfl):PE h (.Call (.Attribute o op v4) (P::tz) [] pv) (rZ d op BT [] E sc Ix):=by
 obtain⟨G,e,X,f,g⟩:=c.ex;exact Ip (pl:=T0) M c.cl g X N f .nil Q T U a b
def dR(M:PE h o sc)(c:cC h.prog h.w h.K h.U h.base GM r d op t0 BT)(N:dh r h.A)(Q:Passes GM h E)(T:iW (.Call (.Attribute o op v4) [] [] pv) h.env=(do
   let D<-iW o h.env
   pH v4.atName
   let(G,first)<-l1 [D] (pL D op T0)
   rf pv G first (fc pv (cw [] h.env)) (l4 pv (l5 [] h.env))):=by rfl):PE h (.Call (.Attribute o op v4) [] [] pv) (rZ d op BT [] E sc jH):=by
 obtain⟨G,X,U,a,b⟩:=c.ex;exact Iq (pl:=T0) M c.cl b U N a .nil Q T
def iE(c:iD h.prog h.w h.K h.U h.base GM r op d t0 BT)(A:dh (r+1) h.A)(D:Passes GM h E)(G:PA h (P::tz) Ix)(M:Gl h op:=by rfl)(N:(op==("__debug__":aa))=ao:=by decide)(Q:cw (P::tz) h.env=(ao,iW P h.env)::cw tz h.env:=by rfl) (T:(fc pv (cw tz h.env)).any (·.1)=ao:=by rfl):PE h (.Call (.Name op v4) (P::tz) [] pv) (r0 d BT [] E Ix):=by obtain⟨X,f,U,a,b⟩:=c.ex;exact Ir b U A M c.gl a .nil D G N Q T
def Ke(c:iD h.prog h.w h.K h.U h.base GM r op d t0 BT)(A:dh (r+1) h.A)(D:Passes GM h E)(G:Gl h op:=by rfl)(M:(op==("__debug__":aa))=ao:=by decide):PE h (.Call (.Name op pv) [] [] v4) (r0 d BT [] E jH):=by obtain⟨U,a,N,Q,T⟩:=c.ex;exact Iu T N A G c.gl Q .nil D M
def bo(D:Nat)(M:h.N.Nodup)(N:PE h P sc)(Q:h.N[D]?=Y op:=by rfl)(T:Loc h.env.scope op:=by first|exact .inl rfl|exact .inr rfl)(U:l2 P (Y (.Name op v4)) pv.line h.env=df ao:=by rfl)(a:h.fn op=I\/h.env.scope.names.lookup op=Y .local:=by first|exact .inl rfl|exact .inr rfl|assumption):PS h (.Assign [.Name op v4] P pv) (uZ sc (lh D)):=Hz M Q T N U a
def bW(A:Nat)(D:h.N.Nodup)(G:h.N[A]?=Y op:=by rfl)(M:Loc h.env.scope op:=by first|exact .inl rfl|exact .inr rfl)(N:h.fn op=I\/h.env.scope.names.lookup op=Y .local:=by first|exact .inl rfl|exact .inr rfl|assumption):PG h (.Name op pv) (lh A):=Hw D G M N
def aK(A:Nat)(G:PE h (.Name op pv) (jF A):=by exact L2.T _)(M:cw [.Name op pv] h.env=[(ao,iW (.Name op pv) h.env)]:=by rfl):PA h [.Name op pv] (jI (jF A) jH):=D G aC M
def aG(A:Nat)(D:PE h (.Name op pv) (jF A):=by exact L2.T _)(G:j7 (.Name op pv) Fk h.env (iW (.Name op pv) h.env)=iW (.Name op pv) h.env:=by rfl):PE h (.Attribute (.Name op pv) Fk v4) (ve h.K (jF A) Fk):=fX D G
def bG(c:bx h.prog h.w h.K h.U h.base aD r op t0 BT)(T:dh r h.A)(U:PA h (P::tz) Ix)(a:Gl h op:=by rfl)(b:(op==("__debug__":aa))=ao:=by decide)(d:cw (P::tz) h.env=(ao,iW P h.env)::cw tz h.env:=by rfl) (e:(fc pv (cw tz h.env)).any (·.1)=ao:=by rfl):PE h (.Call (.Name op v4) (P::tz) [] pv) (vh BT [] E0 Ix):=gL c T cy U a b d e
variable{v2:Int}
def b8{a}(D:h.U op=Y (.int v2 a))(G:Gl h op:=by rfl)(M:(op==("__debug__":aa))=ao:=by decide):PE h (.Name op pv) (tC (.int v2)):=el G D ⟨_,S⟩ M
def hn{a}(D:h.U op=Y (.str Fk a))(G:Gl h op:=by rfl)(M:(op==("__debug__":aa))=ao:=by decide):PE h (.Name op pv) (tC (.str Fk)):=el G D ⟨_,S⟩ M
def _root_.L2.dh.mo(M:dh r ss)(G:Nat)(N:G<=r:=by decide):dh G ss:=M.mono N
def gY(D G:List (List Key×Z×J)):List (List Key×Z×J):=G.foldl (λM A=>hU M A.1 A.2.1 A.2.2) D
def h5(D G:bV):bV:=G.foldl (λM A=>cz M A.1 A.2.1 A.2.2) D
def Kf(M D:List (List Key×Z×J))(G:Nat)(A:List Key×Z×J)(N:D[G]?=Y A):gY M (D.take (G+1))=hU (gY M (D.take G)) A.1 A.2.1 A.2.2:=by simp [gY,dm,N,List.foldl_append]
def Kg(A:List (List Key×Z×J))(D:List Key)(G:Z)(v:J):(hU A D G v).length<=A.length+1:=by
 unfold hU;split
 .rw [ag];omega
 .rw [bB];exact aX _
def AF:∀(D A:List (List Key×Z×J)),(gY A D).length<=A.length+D.length
 |[],A=>aX _
 |x::a,A=>by
  have G:=AF a (hU A x.1 x.2.1 x.2.2);have M:=Kg A x.1 x.2.1 x.2.2
  show(gY (hU A x.1 x.2.1 x.2.2) a).length<=_;rw [dG];omega
def Kh(G:AC∉v0.map (·.1)):fV v0 AC=O:=by
 unfold fV;rw [nF.mpr λM N=>by intro Q;exact G (bE.mpr ⟨M,N,eQ Q⟩)]
 rfl
def vQ:∀(D A:List (List Key×Z×J)),((A++D).map (·.1)).Nodup->gY A D=A++D
 |[],A,_=>by simp [gY]
 |x::b,A,a=>by
  have G:x.1∉A.map (·.1):=by rw [aW,aV,gU]at a;exactλM=>a.2.2 _ M _ bY S
  show gY (hU A x.1 x.2.1 x.2.2) b=_;rw [uu (Kh G),vQ b (A++[(x.1,x.2.1,x.2.2)]) (by simpa using a)];simp
def eS.merge:∀{G:bV} {M:List (List Key×Z×J)},eS G M->∀{D:bV} {A:List (List Key×Z×J)},eS D A->eS (h5 D G) (gY A M)
 |_,_,.nil,_,_,b=>b
 |_,_,.cons (a:=p) (b:=a) c d,D,A,b=>by
  show eS (h5 (cz D p.1 p.2.1 p.2.2) _) (gY (hU A a.1 a.2.1 a.2.2) _);have N:hU A a.1 a.2.1 a.2.2=hU A p.1 p.2.1 a.2.2:=by rw [c.1,c.2.1]
  rw [N];exact eS.merge d (b.put p.1 p.2.1 c.2.2)
def AG:∀(D A:bV),(h5 A D).length<=A.length+D.length
 |[],A=>aX _
 |x::a,A=>by
  have G:=AG a (cz A x.1 x.2.1 x.2.2);have M:=vL A x.1 x.2.1 x.2.2
  show(h5 (cz A x.1 x.2.1 x.2.2) a).length<=_;rw [dG];omega
def qw{K:ah}{H:G}:∀{more A:bV},b7 K H A->b7 K H more->b7 K H (h5 A more)
 |[],A,a,_=>a
 |x::c,A,a,b=>qw (more:=c) (lz a x.2.2 (b x bY)) λD M=>b D (bM _ M)
section
variable {prog:az} {w:aw} {knd:HeapKind prog w (List Key)} {A:b4} {E:J->aj->Prop} {s:aj}
def Ki{U g:Z}{a:List (List Key×Z×J)}{Q:List Key}{v:J}{j:Unit->aj->Prop}(p:knd.room A)(k:knd.is s.heap Q g)(q:s.heap.DictOfH knd U a)(l:∀h,h.DictOfH knd U (hU a Q g v)->ik U s.heap h->j () {s with heap:=h}) (hsz:a.length<=aR):aF (aM prog w) A (yU U (.ref g) (knd.hash Q) v) j E s:=by
 obtain⟨u,m,n,M,o,D,b,i,N⟩:=q;unfold yU
 try with_reducible refine nE ?_
 refine aI (Rt p k M D b i N (λc=> ?_) λx z d=> ?_)
 .have r:Q∉a.map (·.1):=Ru c;have sz:m.size<=aR:=by have G:=mb b;omega
  refine aI (uv (Rv (hz:=sz) M D (l _ ⟨_,_,n+1,ur _ M (yV (rr D _)),o.mapDictKeys _,rr D _, ?_, ?_, ?_⟩ (iV ..))))
  .rw [uu (yW c)];simp [b,jy]
  .rw [uu (yW c)];intro e T;rcases bS.mp T with G|G
   .exact knd.keeps (i e G) M D (iV ..)
   .rw [bf.mp G];exact knd.keeps k M D (iV ..)
  .rw [uu (yW c),aW,gU];refine⟨N,by simp,λe T y f=> ?_⟩;rw [aV,fx,bf]at f;rw [f];exactλG=>r (by rw [show Q=e from G.symm];exact T)
 .refine aI (uv (aI (wpAny_updateDict M D (wpAny_point (l _ ⟨_,_,n,ur _ M (yV (Rw D _)),o.mapDict _,Rw D _, ?_, ?_, ?_⟩ (iV ..))))))
  .rw [F4 (yX N d)];have G:=modify_map_putAt (jy knd) (λt:g8=>{t with val:=v}) Q v (λ_ _=>S) N d
   rw [<-b]at G;obtain⟨B⟩:=m;simpa using G
  .rw [F4 (yX N d)];intro e T;obtain⟨y,f,rfl⟩:=bE.mp T;unfold putAt;split<;>exact knd.keeps (i y f) M D (iV ..)
  .rw [F4 (yX N d),keys_map_putAt];exact N
end
abbrev tk(prog:az)(w:aw):HeapKind prog w (List Key):=ij (eC prog w)
def qx(prog:az)(w:aw)(D:List (List Key×Z×J)):Prop:=(D.map λG=>(tk prog w).hash G.1).Nodup
def AH:∀{M:List g8},(M.map (·.hash)).Nodup->∀D,(M.filter λG=>G.hash==D).length<=1
 |[],_,_=>by simp
 |a::c,b,D=>by
  rw [aV,eB]at b;have Q:=AH b.2 D
  rw [il];split
  .rename_i G;have:(c.filter λG=>G.hash==D)=[]:=Rx.mpr λN S T=>by
    have U:a.hash=D:=by simpa using G
    have d:N.hash=D:=by simpa using T
    exact b.1 (bE.mpr ⟨N,S,d.trans U.symm⟩)
   rw [this];exact aX _
  .exact Q
variable{s2:Type}
def AI(D:s2->PUnit->fw (ForInStep PUnit)){T:PUnit->aj->Prop}:∀(U:List s2),(∀G∈U,aF No ss (D G nG) (λM b=>M=.yield nG/\b=t) s5 t)->T nG t->aF No ss (ui U nG D) T s5 t
 |[],_,a=>by rw [uj];exact bu a
 |G::M,c,a=>by rw [FH];refine aI (g6 (c G bY) (λy b N=> ?_) λ_ _ N=>N);obtain⟨d,e⟩:=N;rw [d,e];exact AI D M (λy f=>c y (bM _ f)) a
def Kj:FA (.type "tuple") "__eq__"=df (Y (.builtin "tuple.__eq__")):=PySem.F.slot_tuple_eq.lookup
variable{Gc:Array g8}
def Kk{o:aL}{c:Nat}{T:Array g8->aj->Prop}(w:t.heap.get? d=Y o)(e:o.data=.dict Gc c)(U:Gc.toList=v0.map (jy (tk l m))) (f:∀D∈v0,(tk l m).is t.heap D.1 D.2.1) (g:qx l m v0) (h:T Gc t):aF (aM l m) ss (Ry Ev d) T s5 t:=by
 unfold Ry;refine aI (kb w e ?_);refine aI ?_;rw [<-Array.forIn_toList];refine AI _ _ (λs a=> ?_) (bu h);rw [U]at a;obtain⟨D,i,rfl⟩:=bE.mp a;have j:=f D i
 have k:(Gc.toList.map (·.hash)).Nodup:=by rw [U,eh];exact g
 have G:¬(Gc.filter λy=>y.hash==(jy (tk l m) D).hash).size>1:=by
  have n:=AH k (jy (tk l m) D).hash;have:(Gc.filter λy=>y.hash==(jy (tk l m) D).hash).size=(Gc.toList.filter λy=>y.hash==(jy (tk l m) D).hash).length:=by rw [<-Array.toList_filter,q9]
  omega
 show aF _ _ (Rz (.ref D.2.1)>>=_) _ _ t;refine aI ?_;unfold Rz;refine aI (um (T:="tuple") (T1 (knd:=eC l m) j) Kj (bu ?_));rw [ak (by decide),N G];exact bu ⟨S,S⟩
variable{TD:List (List Key×Z×J)}
def vR{o:Z}(T:B.DictOfH (tk l m) d TD)(U:B.DictOfH (tk l m) o v0)(a:d≠o)(Q:ik d B LT):LT.DictOfH (tk l m) o v0:=by obtain⟨p,q,r,b,_,c,_⟩:=T;obtain⟨w,e,f,g,h,i,j,k,D⟩:=U;exact⟨w,e,f,(Q.2 o (eO a)).trans g,h,i,j,λG n=>(tk l m).keeps (k G n) b c Q,D⟩
def AJ{o:Z}(R:ss.units<cG)(f:d≠o)(V:(o==er)=ao)(g:t.heap.DictOfH (tk l m) d TD) (j:t.heap.DictOfH (tk l m) o v0) (W:TD=[]->qx l m v0) (hsz:TD.length+v0.length<=aR)(p:∀D,D.DictOfH (tk l m) d (gY TD v0)->D.DictOfH (tk l m) o v0->ik d t.heap D->KK () {t with heap:=D}):aF (aM l m) ss (F5 Ev d o) KK s5 t:=by
 obtain⟨bn,X,ab,k,ad,h,al,bs,bt⟩:=id g;obtain⟨am,T,bv,w,ca,i,q,r,C⟩:=id j;have F:T.size=v0.length:=mb q
 unfold F5;rw [N (show¬(d==o)=I by simpa using f)];unfold FU;rw [N (show¬(o==er)=I by rw [V];exact d5)];refine aI (bu (aI (kb w i ?_)));have walk:∀{U:Unit->aj->Prop},(∀D,D.DictOfH (tk l m) d (gY TD v0)->ik d t.heap D->U () {t with heap:=D})->aF (aM l m) ss (do
   let an<-dictEpoch o;let ap<-dictEntries o
   ui [:ap.size] nG λM (_:PUnit)=>(do
     let as<-dictEntries o
     match as[M]? with
      |some Q=>do
       l1 [Q.key,Q.val] (yU d Q.key Q.hash Q.val)
       let a0<-dictEpoch o
       if(a0 !=an)=I then do
         (unsupported (toString Ev++toString ":source-changed-during-callback"):fw PUnit)
         df (pS nG)
        else df (pS nG)
      |_=>do
       (unsupported "internal:dict-merge":fw PUnit)
       df (pS nG):fw (ForInStep PUnit))
   df ()) U s5 t:=by
  intro U a1;refine aI (uq w i (aI (kb w i (aI ?_))));rw [T2];simp only [T3,RA,RB,Nat.div_one];refine wpAny_forIn_list _ (λleft _ u=>∃D M,u={t with heap:=D}/\left=cu M (T.size-M)/\M<=T.size/\D.DictOfH (tk l m) d (gY TD (v0.take M))/\ik d t.heap D) _ ?_ ?_ _ _
   ⟨t.heap,0,S,by simp,cP _,g,RC _ _⟩
  .rintro b left a2 u ⟨D,M,rfl,c,H,G,a⟩;have a3:M<T.size:=pV λn=>by
    rw [Nat.sub_eq_zero_of_le n]at c;cases c
   have e:T.size-M=(T.size-(M+1))+1:=by omega
   rw [e,nH]at c;obtain⟨rfl,c⟩:=rp c;have K:D.get? o=Y am:=(a.2 o (eO f)).trans w
   refine aI (kb K i ?_);obtain⟨y,v⟩:∃y,v0[b]?=Y y:=⟨v0[b]'(by omega),gj _⟩
   have a4:T[b]?=Y (jy (tk l m) y):=by rw [yY q,v];rfl
   rw [a4];show aF _ _ (l1 [b5 y.2.1,y.2.2] (yU d (.ref y.2.1) ((tk l m).hash y.1) y.2.2)>>=_) _ _ _
   have sz:(gY TD (v0.take b)).length<=aR:=by
    have cd:=AF (v0.take b) TD;have ce:(v0.take b).length<=v0.length:=by rw [dW];omega
    omega
   refine aI (nE (Ki (knd:=tk l m) R ((tk l m).keeps (r y (cH v)) k h a) G (λa5 bd L=> ?_) sz));refine aI (uq ((L.2 o (eO f)).trans K) i ?_);rw [N (by simp)];exact bu ⟨a5,b+1,S,c,a3,by rw [Kf TD v0 b y v];exact bd,a.trans L⟩
  .rintro a2 u ⟨D,M,rfl,c,H,G,a⟩;have e:M=T.size:=Nat.le_antisymm H (Rn λn=>by
    have e:T.size-M=(T.size-(M+1))+1:=by omega
    rw [e,nH]at c;cases c)
   refine bu (a1 D ?_ a);rw [e,F,dB]at G;exact G
 dsimp only;split
 .refine aI (kb k h ?_);split
  .rename_i be;have x:TD=[]:=by
    have bi:X= #[]:=RD.mp be;have n:=mb al
    rw [bi]at n;exact mc.mp n.symm
   refine aI (Kk w i q r (W x) ?_);have P:gY TD v0=v0:=by rw [x,vQ v0 [] (by simpa using C)];rfl
   split
   .have sz:T.size<=aR+1:=by omega
    refine aI (wpAny_updateDictKeysTo k h (bu (p _ ?_ (vR g j f (iV ..)) (iV ..))) sz);rw [P];exact⟨_,_,ab+1,ur _ k (yV (rr h _)),ad.mapDictKeys _,rr h _,q,λb bk=>(tk l m).keeps (r b bk) k h (iV ..),C⟩
   .rename_i bl;have e:T= #[]:=RD.mp (by simpa using bl)
    have bm:v0=[]:=mc.mp (by rw [<-F,e];rfl);refine bu (p _ ?_ j (RC _ _));rw [P,bm,<-x];exact g
  .exact walk λD G a=>p D G (vR g j f a) a
 .exact walk λD G a=>p D G (vR g j f a) a
def Kl(G:az)(M:aw)(A o:Z)(f:(o==er)=ao):F6 G M (Builtin.«dict.update» ⟨[.ref A,.ref o],[]⟩) (λd b D=>d.in1.units<cG/\∃Q T,D.heap.DictOfH (tk G M) A Q/\D.heap.DictOfH (tk G M) o T/\Q.length+T.length<=aR/\(Q=[]->qx G M T)/\ ((A=o/\b (.ok (.ret .none)) D)\/(A≠o/\∀U,U.DictOfH (tk G M) A (gY Q T)->ik A D.heap U->b (.ok (.ret .none)) {D with heap:=U}))):=
 .of_wp λd b D ⟨g,Q,T,e,a,hsz,h,i⟩=>by
  unfold Builtin.«dict.update»;refine aI ?_;unfold RE;refine aI (yI e.typeIs ?_);show aF _ _ (df (A,[b5 o])) _ _ D
  refine bu ?_;show aF _ _ (yZ "dict.update" A (.ref o) [] .none) _ _ D
  unfold yZ;refine aI (RF a.typeIs ?_);rw [N (by decide)];refine aI ?_;unfold RG;refine aI ?_;unfold RH;refine aI (FW a.typeIs RI ?_);simp only [RJ,nB,iT];refine aI (um a.typeIs yH.lookup (bu ?_));simp only [F7,eP];refine aI (bu ?_);rcases i with⟨j,c⟩|⟨ne,c⟩
  .subst j;unfold F5;rw [ak (by simp)];refine aI (uv (bu ?_));exact aI (bu (bu ⟨.none,S,c⟩))
  .refine AJ g ne f e a h hsz λU k m l=> ?_;show aF _ _ (RK A []>>=_) _ _ _
   exact aI (bu (bu ⟨.none,S,c U k l⟩))
def jP(A:az)(D:aw)(G:bV):Prop:=(G.map λM=>(tk A D).hash M.1).Nodup
def AK(T:eS pu v0)(N:jP l m pu):qx l m v0:=by
 unfold jP at N;unfold qx;have U:(pu.map λQ=>(tk l m).hash Q.1)=v0.map λQ=>(tk l m).hash Q.1:=by
  clear N;induction T with
  |nil=>rfl
  |cons a _ b=>rw [aV,aV,b,a.1]
 rw [<-U];exact N
def x_update{more:bV}(X:ss.units+1<cG)(G:Inv h pp s4 H t)(T:H d=Y (dX h.prog h.w d pu))(e:b7 h.K H pu)(f:H p=Y (dX h.prog h.w p more))(g:b7 h.K H more)(hsz:pu.length+more.length<=aR) (a:pu=[]->jP h.prog h.w more)(U:(d=p->∀D,Inv h pp s4 H D->s5 .none D)/\(d≠p->∀D,Inv h pp s4 (upd H d (dX h.prog h.w d (h5 pu more))) D->s5 .none D)):aF (aM h.prog h.w) ss (gR (.builtin "dict.update") [.ref d,.ref p]) s5 IN t:=by
 obtain⟨q,i,j,Q,c⟩:=jO G T e;obtain⟨r,k,l,S,m⟩:=jO G f g;refine uo RL c.typeIs PySem.F.entry_dict_update (PySem.F.args_dict_update_2 _ _) (Kl h.prog h.w d p k) ⟨X,j,l,c,m,by rw [<-bL Q,<-bL S];exact hsz,λn=>AK S (a ?_), ?_⟩
 .have:=bL Q;rw [n]at this;exact mc.mp this
 .by_cases M:d=p
  .exact .inl ⟨M,U.1 M t G⟩
  .refine .inr ⟨M,λs o b=>U.2 M _ ?_⟩;exact sk (t':=t.toks) G T (cq (AG more pu) hsz) i (eS.merge S Q) o b
def Km(A:Cx)(a b:TE):TE:=λS H T=>a S H λc U=>∃D,c=.ref D/\(∃G,U D=Y (dX A.prog A.w D G))/\b S U λy M=>∃G N Q,y=.ref N/\M D=Y (dX A.prog A.w D G)/\b7 A.K M G/\
 M N=Y (dX A.prog A.w N Q)/\b7 A.K M Q/\G.length+Q.length<=aR/\(G=[]->jP A.prog A.w Q)/\(D=N->T .br M)/\(D≠N->T .br (upd M D (dX A.prog A.w D (h5 G Q))))
def sm{o:aZ}(e:h.A.units+1<cG)(f:PE h o sc)(g:PE h P xz)(D:M1 h o "update" pv P v4):PE h (.Call (.Attribute o "update" pv) [P] [] v4) (Km h sc xz):=by intro b G c H ad i j;refine FQ D.base D.bF D.line FR RL PySem.F.type_dict_update (aN (f b G c H _ i j) λu k ⟨al,l,d,m,n,p,⟨am,q⟩,r⟩=> ?_);subst p;obtain rfl:u=b5 n:=m;obtain⟨s,t,_⟩:=vM d q;refine⟨s,t, ?_⟩;rw [D.trees];refine pP S (uh (pN (aN (g b k c l _ d r) λv an ⟨y,w,x,z,ap,B,as,C,E,K,L,A,R,V,W,X⟩=>ud ?_)));subst C;cases (show v=b5 B from z);exact x_update e x E K L A R V ⟨λM ab N=>⟨.br,w,N,S,W M⟩,λM ab N=>⟨.br,_,N,S,X M⟩⟩
def Kn(x:ss.units+2<cG)(M:Inv h pp s4 H t)(y:H d=Y (dX h.prog h.w d pu))(z:b7 h.K H pu)(B:jP h.prog h.w pu)(C:∀Q n,H Q=O->Inv h pp s4 (upd H Q (dX h.prog h.w Q pu)) n->s5 (.ref Q) n):aF (aM h.prog h.w) ss (gR (.type "dict") [.ref d]) s5 IN t:=by
 obtain⟨p,K,T,U,f⟩:=jO M y z;have L:=M.big
 have P:=M.bg.fresh (aX t.heap.objs.size);refine callType_codes (Q₁:=λq r=>q=.ref t.heap.objs.size/\r={t with heap:=t.heap.push {cls:=.type "dict",data:=.dict #[]}}) PySem.F.kt_called_dict (PySem.F.kt_typeCall_dict_1 _) PySem.F.entry_dict_init (kt_code_dict_new _ ⟨S,S⟩) ?_;rintro q r ⟨rfl,rfl⟩;have g:(t.heap.push {cls:=.type "dict",data:=.dict #[]}).DictOfH (tk h.prog h.w) t.heap.objs.size []:=T4 t.heap
 have X:(t.heap.push {cls:=.type "dict",data:=.dict #[]}).DictOfH (tk h.prog h.w) d T:=by obtain⟨e,s,i,D,j,k,l,b,G⟩:=f;refine⟨e,s,i,fe _ D,j,k,l,λR V=> ?_,G⟩;obtain⟨W,ab,ad,al,am,an,ap⟩:=b R V;exact⟨W,ab,ad,fe _ al,am,an,ap⟩
 have as:t.heap.objs.size≠d:=λu=>by obtain⟨e,_,_,D,_⟩:=f;exact absurd (dN D) (by rw [u];exact j3 _)
 refine⟨g.typeIs,PySem.F.args_dict_init_2 _ _, ?_⟩;unfold Builtin.«dict.__init__»;refine aI ?_;unfold RE;refine aI (yI g.typeIs ?_);show aF _ _ (df (t.heap.objs.size,[b5 d])) _ _ _
 refine bu ?_;show aF _ _ (yZ "dict.__init__" t.heap.objs.size (.ref d) [] .none) _ _ _
 unfold yZ;refine aI (RF X.typeIs ?_);rw [N (by decide)];refine aI ?_;unfold RG;refine aI ?_;unfold RH;refine aI (FW X.typeIs RI ?_);simp only [RJ,nB,iT];refine aI (um X.typeIs yH.lookup (bu ?_));simp only [F7,eP];refine aI (bu ?_);have a0:(T.map (·.1)).Nodup:=let⟨_,_,_,_,_,_,_,_,G⟩:=f;G
 refine AJ (by show ss.units+1+1<cG;exact x) as K g X (λ_=>AK U B) (by rw [jB,y0,<-bL U];exact p) λa2 v a3 a1=> ?_;show aF _ _ (RK t.heap.objs.size []>>=_) _ _ _
 rw [vQ T [] (by simpa using a0),cV]at v;refine aI (bu (bu ⟨S,C _ _ P ?_⟩));obtain⟨e,s,i,D,j,k,l,b,G⟩:=v;refine M.laid (a:=t.heap.objs.size) (o:=dX h.prog h.w t.heap.objs.size pu) (t':=t.toks) (λc u w=> ?_) (aX _) (si ⟨p,iQ.mpr (eO (fI L)),by rw [U.keys];exact G,T,U,e,s,i,D,j,k,l⟩);exact(a1.2 c (fI (dN w))).trans (fe _ w)
def AL(T:h.A.units+2<cG):hB h (.type "dict") (λN H Q=>∃M G,N=[.ref M]/\H M=Y (dX h.prog h.w M G)/\b7 h.K H G/\jP h.prog h.w G/\∀D,H D=O->Q (.ref D) (upd H D (dX h.prog h.w D G))):=by intro j k l H N m Q U a b;obtain⟨M,G,rfl,c,d,e,f⟩:=b;obtain⟨u,rfl,g⟩:=vals1 a;cases g;exact Kn T U c d e λD n A i=>⟨.ref D,_,i,S,f D A⟩
def Ko(M:az)(N:aw)(D:Z)(S:(D==er)=ao):F6 M N (Builtin.«dict.__len__» ⟨[.ref D],[]⟩) (λ_ Q A=>∃G,A.heap.DictOfH (tk M N) D G/\Q (.ok (.ret (.int G.length A.toks))) {A with toks:=A.toks+1}):=
 .of_wp λd Q A ⟨G,T,U⟩=>by
  obtain⟨e,f,g,a,h,b,c,i,j⟩:=T;show aF _ _ (dictSize D>>=_) _ _ A
  unfold dictSize;refine aI (aI (kb a b (bu ?_)));show aF _ _ (T5 D>>=_) _ _ A
  refine aI (wpAny_pendingCount_other S (wpAny_ret_mkInt ?_));rw [ke,mb c];exact U
def Kp{Q:aw}(c:(d==er)=ao)(T:t.heap.DictOfH (tk l Q) d v0)(A:v0.length<=aR)(e:s5 (.int v0.length (t.toks+1)) {t with toks:=t.toks+1+1}):aF (aM l Q) ss (gR (.builtin "len") [.ref d]) s5 IN t:=by
 have f:(v0.length:Int)<2^63:=by rw [yr]at A;omega
 refine Calls.call_function_entry kind_len plain_len entry_len (args_len1 _) ?_;unfold T6;refine aI (m:=oneArg "len" _) (bu ?_);refine aI (m:=callSpecial? (.ref d) (dO "__len__")) (FV (name:=dO "__len__") T.typeIs RM (uo RM T.typeIs PySem.F.entry_dict_len (PySem.F.args_dict_len_1 _) (Ko l Q d c) ⟨v0,T, ?_⟩));show aF _ _ _ _ _ {t with toks:=t.toks+1}
 refine aI (nE (bu (aI (wpAny_letGo ?_))));show aF _ _ (if((v0.length:Nat):Int)<0 then _ else _) _ _ _
 rw [N (by omega)];show aF _ _ (if((v0.length:Nat):Int)>=2^63 then _ else _) _ _ _
 rw [N (by omega)];exact aI (wpAny_mkInt (bu ⟨_,S,e⟩))
def ox:hB h (.builtin "len") (λM H N=>∃G A,M=[.ref G]/\H G=Y (dX h.prog h.w G A)/\b7 h.K H A/\N (.int A.length) H):=by intro j U k H M l N Q a b;obtain⟨G,A,rfl,c,d,e⟩:=b;obtain⟨u,rfl,f⟩:=vals1 a;cases f;obtain⟨g,D,m,T,i⟩:=jO Q c d;refine Kp D i (by rw [<-bL T];exact g) ?_;exact⟨.int A.length,H,Q.tok _,⟨U.toks+1,by rw [bL T]⟩,e⟩
variable{s:aj}
def Kq{v:J}(h:ss.units<cG)(c:(tk l m).is s.heap AC p)(M:s.heap.DictOfH (tk l m) d v0)(hsz:v0.length<=aR)(n:∀T,fV v0 AC=Y T->s5 T.2 {s with toks:=s.toks+(tk l m).draws AC})(o:fV v0 AC=O->∀w,w.DictOfH (tk l m) d (v0++[(AC,p,v)])->ik d s.heap w->s5 v {s with heap:=w,toks:=s.toks+(tk l m).draws AC}):aF (aM l m) ss (F8 d (.ref p) v) s5 IN s:=by
 obtain⟨x,S,q,N,r,G,U,i,e⟩:=M;unfold F8
 try with_reducible refine nE ?_
 refine aI ((tk l m).pyHash h c (aI (Rt (s:={s with toks:=s.toks+(tk l m).draws AC}) h c N G U i e (λj=> ?_) λt T k=> ?_)))
 .have u:AC∉v0.map (·.1):=Ru j;have sz:S.size<=aR:=by have Q:=mb U;omega
  refine aI (uv (aI (Rv (hz:=sz) (s:={s with toks:=s.toks+(tk l m).draws AC}) N G (bu (o (yW j) _ ⟨_,_,q+1,ur _ N (yV (rr G _)),r.mapDictKeys _,rr G _, ?_, ?_, ?_⟩ (iV ..))))))
  .simp [U,jy]
  .intro f g;rcases bS.mp g with Q|Q
   .exact(tk l m).keeps (i f Q) N G (iV ..)
   .rw [bf.mp Q];exact(tk l m).keeps c N G (iV ..)
  .rw [aW,gU];refine⟨e,by simp,λf g y D=> ?_⟩;rw [aV,fx,bf]at D;rw [D];exactλQ=>u (by rw [show AC=f from Q.symm];exact g)
 .refine aI (kb (s:={s with toks:=s.toks+(tk l m).draws AC}) N G ?_);rw [yY U t,k];exact aI (uv (bu (n T (yX e k))))
def Kr(prog:az)(w:aw)(D Q:Z)(v:J)(d:(D==er)=ao):F6 prog w (Builtin.«dict.setdefault» ⟨[.ref D,.ref Q,v],[]⟩) (λss a t=>ss.in1.units<cG/\∃G M,(tk prog w).is t.heap G Q/\t.heap.DictOfH (tk prog w) D M/\M.length<=aR/\ (∀U,fV M G=Y U->a (.ok (.ret U.2)) {t with toks:=t.toks+(tk prog w).draws G})/\(fV M G=O->∀T,T.DictOfH (tk prog w) D (M++[(G,Q,v)])->ik D t.heap T->a (.ok (.ret v)) {t with heap:=T,toks:=t.toks+(tk prog w).draws G})):=
 .of_wp λss a t ⟨e,G,M,f,c,hsz,g,h⟩=>by
  unfold Builtin.«dict.setdefault»;refine aI ?_;unfold T7;refine aI (yI c.typeIs ?_);show aF _ _ (df (D,b5 Q,Y v)) _ _ t
  refine bu ?_;show aF _ _ (if(D==er)=I then _ else(F8 D (.ref Q) v>>=_)) _ _ t
  rw [N (by rw [d];exact d5)];exact aI (Kq e f c hsz (λU b=>bu ⟨_,S,g U b⟩) λb T i j=>bu ⟨_,S,h b T i j⟩)
def iF{k:List Key}(D:Z)(v:V)(G:cg pu k=O):cz pu k D v=pu++[(k,D,v)]:=by unfold cz;rw [G];rfl
def Ks(k:ss.units+1<cG)(N:Inv h pp s4 H t)(T:H p=Y (dX h.prog h.w p pu))(i:b7 h.K H pu)(j:av h.K H d (AC.map kV))(x:pu.length<aR)(l:RelV v wn)(m:∀G,cg pu AC=Y G->∀U M,Inv h pp s4 H M->RelV G U->s5 U M) (n:cg pu AC=O->∀M,Inv h pp s4 (upd H p (dX h.prog h.w p (cz pu AC d v))) M->s5 wn M):aF (aM h.prog h.w) ss (gR (.builtin "dict.setdefault") [.ref p,.ref d,wn]) s5 IN t:=by
 obtain⟨o,X,b,S,e⟩:=jO N T i;have D:=S.val AC
 refine uo RN e.typeIs PySem.F.entry_dict_setdefault (PySem.F.args_dict_setdefault_3 _ _ _) (Kr h.prog h.w p d wn X) ⟨k,AC,b,lA N j,e,by rw [<-bL S];exact o,λy q=> ?_,λf z a u=> ?_⟩
 .rw [q]at D;cases c:cg pu AC with
  |none=>rw [c]at D;exact D.elim
  |some G=>
   rw [c]at D;exact m G c _ _ (N.tok _) D
 .rw [f]at D;cases c:cg pu AC with
  |some G=>rw [c]at D;exact D.elim
  |none=>
   have g:=S.put AC d l;rw [uu f]at g;have w:(cz pu AC d v).length<=aR:=by have:=vL pu AC d v;omega
   exact n c _ (sk N T w X g a u)
def Kt(A:Cx)(b c d:TE):TE:=λQ H T=>b Q H λe U=>∃G,e=.ref G/\(∃D,U G=Y (dX A.prog A.w G D))/\c Q U λy f=>d Q f λv M=>∃D N S,y=.ref S/\M G=Y (dX A.prog A.w G D)/\b7 A.K M D/\
 av A.K M S (N.map kV)/\D.length<aR/\(∀a,cg D N=Y a->T a M)/\(cg D N=O->T v (upd M G (dX A.prog A.w G (cz D N S v))))
def Ku{o:aZ}{c:TE}(i:h.A.units+1<cG)(j:PE h o sc)(k:PE h P xz)(l:PE h sB c)(D:M2 h o "setdefault" pv P sB v4):PE h (.Call (.Attribute o "setdefault" pv) [P,sB] [] v4) (Kt h sc xz c):=by intro N m Q H a3 n p;refine FQ D.base D.bF D.line FR RN PySem.F.type_dict_setdefault (aN (j N m Q H _ n p) λu q ⟨a4,r,f,s,t,w,⟨a5,x⟩,z⟩=> ?_);subst w;obtain rfl:u=b5 t:=s;obtain⟨B,C,_⟩:=vM f x;refine⟨B,C, ?_⟩;rw [D.trees];refine pP S (uh (pN (aN (k N q Q r _ f z) λE K ⟨y,L,A,R,V⟩=>pN (aN (l N K Q L _ A V) λbd be ⟨v,W,X,g,bi,bk,ab,ad,al,am,an,ap,as,a0⟩=>ud ?_))));subst ad;cases (show E=b5 ab from R);exact Ks i X al am an ap g (λG T bl a1 U a2=>⟨G,W,U,a2,as G T⟩) λT a1 U=>⟨v,_,U,g,a0 T⟩
def AM(A:Z)(o:aL)(D:aE):Prop:=D.get? A=Y o
def Kv(i:ss.handled=O)(D N:Z)(s:N≠D){o:aL}(j:o.data=.dict Gc r):Walks l m ss D [D,N] [D] Gc.size (λG v=>∃M,Gc[G]?=Y M/\M.key=v) (λG k=>k.IsKeyIter D N G Gc.size r/\AM N o k)where
 sub:=λc T=>by rw [bf.mp T];exact bY
 frame:=λ_ _ _ A Q=>⟨A.1.at λd U=>Q D bY d U,Q N (bM _ bY) o A.2⟩
 item:=λG a h n t A b=>by
  obtain⟨M,p⟩:∃M,Gc[G]?=Y M:=⟨Gc[G],yL t⟩
  refine Ao A.1 A.2 j S p λe u q=> ?_;exact b M.key e a.toks ⟨M,p,S⟩ ⟨u,(q.2 N s).trans A.2⟩ λc d T U=>(q.2 c λf=>T (by rw [f];exact bf.mpr S)).trans U
 done:=λa h n A b=>Ap i A.1 A.2 j S (aX _) λe x=>b e a.toks λc d T U=>x c d (λf=>T (by rw [f];exact bf.mpr S)) U
 self:=λG a h n A b=>by
  have g:=A.1.typeIs;refine FT g y1 (ro y1 g RO ?_ (RP _));show aF _ _ (ret (.ref D)) _ _ a
  exact bu ⟨_,S,"dict_keyiterator",_,g,pT.lookup,b⟩
variable{prog:az}{w:aw}
def Kw(U:(d==er)=ao){o:aL}(G:o.ExactDict)(Q:o.data=.dict Gc r):PySem.W.KdlSrc prog w "dict" d d Gc.size (λb v=>∃T,Gc[b]?=Y T/\T.key=v) (AM d o)where
 type:=λ_ A=>⟨o,A,G.1⟩
 there:=λ_ A=>⟨dN A,dN A⟩
 keep:=λ_ _ A c=>c d (.inl S) o A
 notList:=by decide
 notTuple:=by decide
 hint:=λ_ _ _ _ A N=>PySem.W.kdl_hint_dict ⟨o,A,G.1⟩ N
 iter:=λ_ e D A=>⟨_,_,(λ_ _ N=>An U A G Q N),Kv D _ d (fI (dN A)) Q,⟨⟨_,gD _ S,S,S⟩,fe _ A⟩⟩
def Kx(t:h.calm=I):hB h (.type "list") (λj H k=>∃b Q,j=[.ref b]/\H b=Y (dX h.prog h.w b Q)/\∀A,H A=O->k (.ref A) (upd H A (.lst (Q.map λN=>V.ref N.2.1)))):=by
 intro bi l bk H j bl k d x z;obtain⟨b,Q,rfl,B,C⟩:=z;obtain⟨u,rfl,E⟩:=vals1 x;cases E;obtain⟨m,F,bm,M,n,o,K,bn,L,P,R,e⟩:=sj (d.bg b _ B);have X:K.size=Q.length:=by rw [mb e,bL n]
 refine PySem.W.kdl_call (Kw (prog:=h.prog) (w:=h.w) F P R) (d.ok.hd t) L (by rw [X];exact m) λbs ab T c ad U al=> ?_;have am:Vals (Q.map λN=>V.ref N.2.1) T.toList:=by
  obtain⟨p,an⟩:=al;have ap:∀(D:Nat) (G:List Key×Z×J),M[D]?=Y G->T.toList[D]?=Y (.ref G.2.1):=λD G f=>by
   have q:D<T.size:=by rw [p,mb e];exact(cM.mp f).1
   obtain⟨as,r,a0⟩:=an D T[D] (yL q);rw [yY e D,f]at r;have a1:as=jy (ij (eC h.prog h.w)) G:=(a8 r).symm
   rw [QT,yL q,<-a0,a1];rfl
  have a2:T.toList.length=M.length:=by rw [q9,p,mb e]
  have a3:∀(i:List (List Key×Z×V)) (g:List (List Key×Z×J)) (A:List J),eS i g->A.length=g.length->(∀(D:Nat) (G:List Key×Z×J),g[D]?=Y G->A[D]?=Y (.ref G.2.1))->Vals (i.map λN=>V.ref N.2.1) A:=by
   intro i g A a4;induction a4 generalizing A with
   |nil=>
    intro U _;rw [mc.mp U];exact .nil
   | @cons N G ps bt f _ a5=>
    intro U s;cases A with
    |nil=>cases U
    |cons v A=>
     have bd:v=.ref G.2.1:=a8 (s 0 G S);refine .cons ?_ (a5 A (by simpa using U) λD y be=>s (D+1) y be);rw [bd,<-f.2.1];rfl
  exact a3 Q M T.toList n a2 ap
 refine⟨.ref l.heap.objs.size,_,d.laid (a:=l.heap.objs.size) (o:=.lst (Q.map λN=>V.ref N.2.1)) (t':=ab) ad (aX _) ?_,S,C _ (d.bg.fresh (aX _))⟩;exact⟨by rw [ag];exact m,T.toList,c,am,by simpa using U⟩
def lB(M:az)(N:aw)(G:Z)(o:aL)(A:bV):It:=
 ⟨λD H=>H G=Y (.bO o (dX M N G A))/\D<A.length,λD H S T=>T=H/\∃Q,A[D]?=Y Q/\S=.ref Q.2.1,λD H=>H G=Y (.bO o (dX M N G A))/\A.length<=D⟩
def vS{H:G}{o:aL}(j:Inv h pp s4 H t)(k:H d=Y (.bO o (dX h.prog h.w d pu))):(d==er)=ao/\t.heap.get? d=Y o/\o.ExactDict/\∃(D:Array g8) (T:Nat),o.data=.dict D T/\D.size=pu.length/\∀(M:Nat) (U:List Key×Z×V),pu[M]?=Y U->∃b:g8,D[M]?=Y b/\b.key=.ref U.2.1:=by
 obtain⟨c,l,_⟩:=j.bg d _ k;obtain⟨N,m,u,v,A,w,D,T,e,n,p,f⟩:=l;rw [c]at e;cases e;refine⟨m,c,n,D,T,p,by rw [mb f,bL A],λM U q=> ?_⟩;obtain⟨x,r,y,s,_⟩:=Aq A q;have g:=yY f M
 rw [r]at g;refine⟨_,g, ?_⟩;rw [s];rfl
def Ky{y:aw}{K:ah}{o:aL}(M:Z)(C:o.data=.dict Gc r):Turn l y K P (lB l y d o pu) [M] M (λG a=>a.IsKeyIter M d G pu.length r)where
 mem:=by simp
 obj:=λG a A N Q=>by
  have D:N=M:=by simpa using Q
  subst D;obtain⟨f,D,c,i⟩:=A;exact⟨f,D,λv E=>by rw [i]at E;cases E⟩
 keep:=λG a g A as=>A.at λf D=>as M (by simp) f D
 item:=by
  intro L j hw k e G R T V H X U h A z;subst j hw k;obtain⟨m,n⟩:=z;obtain⟨p,q,a0,B,t,u⟩:=h M (by simp);obtain⟨a1,w,a2,a3,a4,b,hsz,ab⟩:=vS U m;obtain⟨rfl,rfl⟩:=Ar C b;obtain⟨x,ad⟩:∃x,pu[G]?=Y x:=⟨pu[G],gj n⟩
  obtain⟨a5,bd,be⟩:=ab G x ad;refine Ao A w b hsz bd λg al bi=> ?_;have bk:Inv L R V H {T with heap:=g}:=U.turned (t':=T.toks) (λN am Q D=>(bi.2 N Q).trans D) p q B t u
  obtain⟨f,D,c,i⟩:=id al;exact⟨a5.key,S,qd (s:={T with heap:=g}) D c i (by decide) ⟨.ref x.2.1,H,bk,be,⟨S,x,ad,S⟩,al,λN Q=>(h N Q).1⟩⟩
 done:=by intro L j hw k e G R T V H X U h A z;subst j hw k;obtain⟨m,n⟩:=z;obtain⟨p,q,a0,B,t,u⟩:=h M (by simp);obtain⟨a1,w,a2,a3,a4,b,hsz,ab⟩:=vS U m;obtain⟨rfl,rfl⟩:=Ar C b;exact Ap (U.ok.hd e) A w b hsz n λg bl=>⟨S,U.turned (t':=T.toks) (λN am Q D=>bl N am Q D) p q B t u⟩
 self:=λbm G T bn X A a=>by
  refine FT A.typeIs y1 (ro y1 A.typeIs RO ?_ (RP _));show aF _ _ (ret (.ref M)) _ _ T
  exact bu ⟨_,S,"dict_keyiterator",_,A.typeIs,pT.lookup,a⟩
def Kz(A:Cx)(N:TE):TI:=λQ H S=>N Q H λT G=>∃D o M,T=.ref D/\G D=Y (.bO o (dX A.prog A.w D M))/\S (lB A.prog A.w D o M) G
def lC(T:PE h P sc):PI h sB P (Kz h sc):=by intro U a b H n c d;refine aN (T U a b H _ c d) λu e ⟨p,q,M,f,g,o,r,A,i,j⟩=> ?_;subst A;obtain rfl:u=b5 g:=f;obtain⟨k,l,m,s,t,N,hsz,v⟩:=vS M i;refine An k l m N (vI (tk:=e.toks) M _ (Ky _ N) ⟨_,gD _ S,S, ?_⟩ j);rw [hsz]<;>rfl
end L3
open L3
namespace Cf
section
variable {α:Type} [DecidableEq α]
theorem qy:∀{D u:List α},D.Nodup->(∀A∈D,A∈u)->D.length<=u.length
 |[],u,_,_=>cP _
 |a::b,u,c,d=>by
  obtain⟨N,G⟩:=eB.mp c;have Q:=d a bY
  have M:∀A∈b,A∈u.erase a:=λA S=>by grind
  have:=qy G M;grind
def dU(u:List α)(A:α):List α:=if u.contains A=I then u else u++[A]
theorem kA{u:List α}{A y:α}:y∈dU u A↔y∈u\/y=A:=by unfold dU;grind
theorem AN{u:List α}{A:α}(D:u.Nodup):(dU u A).Nodup:=by unfold dU;grind
theorem AO{u:List α}{A:α}:u.length<=(dU u A).length:=by unfold dU;grind
theorem KA{u:List α}{A:α}(D:(dU u A).length=u.length):A∈u/\dU u A=u:=by grind [dU]
def cT(u:List α)(A:List α):List α:=A.foldl dU u
theorem ho:∀{D u:List α} {y:α},y∈cT u D↔y∈u\/y∈D
 |[],u,y=>by simp [cT]
 |a::b,u,y=>by
  show y∈cT (dU u a) b↔_;rw [ho,kA,bb];constructor
  .rintro((A|A)|A)
   .exact .inl A
   .exact .inr (.inl A)
   .exact .inr (.inr A)
  .rintro(A|A|A)
   .exact .inl (.inl A)
   .exact .inl (.inr A)
   .exact .inr A
def mD:∀{m u:List α},u.Nodup->(cT u m).Nodup
 |[],u,b=>b
 |a::c,u,b=>mD (m:=c) (AN b)
def mE:∀{m u:List α},u.length<=(cT u m).length
 |[],u=>aX _
 |a::b,u=>cq AO (mE (m:=b))
theorem oy:∀{m u:List α},(cT u m).length=u.length->(∀A∈m,A∈u)/\cT u m=u
 |[],u,_=>⟨λ_ D=>(nomatch D),S⟩
 |a::b,u,D=>by
  have c:u.length<=(dU u a).length:=AO;have d:(dU u a).length<=(cT (dU u a) b).length:=mE
  have M:(cT (dU u a) b).length=u.length:=D;have Q:(dU u a).length=u.length:=by omega
  let⟨e,N⟩:=KA Q;rw [N]at M;let⟨T,f⟩:=oy (m:=b) M
  refine⟨λA U=> ?_, ?_⟩
  .rcases bb.mp U with G|G
   .rwa [G]
   .exact T A G
  .show cT (dU u a) b=u;rwa [N]
end
variable{s2:Type}
theorem AQ[DecidableEq s2]{u:List s2}{D:s2}(G:D∈u):dU u D=u:=by simp_all [dU,ak]
theorem AR[DecidableEq s2]{u:List s2}{D:s2}(G:¬D∈u):dU u D=u++[D]:=by simp_all [dU,N]
abbrev Pred:=aB->cx->Prop
def du(Q:ae)(N:Pred)(S:ae)(A D:aB):Prop:=match S with
 |.var b _=>∃M,g9 Q b=Y M/\A=.name M/\D=.node b
 |.app b c a=>∃G,N (b0 c) (.fn G)/\((A=b0 a/\D=.name G)\/∃M,uw Q G=Y M/\A=.node M/\D=.node b)
 |.letE b _ d M=>(A=b0 d/\D=.name b)\/(A=b0 M/\D=.node b)
 |.ifz b _ a M=>(A=b0 a/\D=.node b)\/(A=b0 M/\D=.node b)
 |.pair b a M=>(A=b0 a/\D=.first b)\/(A=b0 M/\D=.second b)
 |.fst b d=>∃G,N (b0 d) (.pair G)/\A=.first G/\D=.node b
 |.snd b d=>∃G,N (b0 d) (.pair G)/\A=.second G/\D=.node b
 |.new b d=>A=b0 d/\D=.inside b
 |.get b d=>∃G,N (b0 d) (.ref G)/\A=.inside G/\D=.node b
 |.set b e d=>(A=b0 d/\D=.node b)\/∃G,N (b0 e) (.ref G)/\A=b0 d/\D=.inside G
 |_=>False
def d3(A:ae)(D:Pred)(G M:aB):Prop:=∃N∈aH A,du A D N G M
def fN(A:ae):Pred:=λD G=>(⟨D,G⟩:hu)∈ru A
def e4(A:iX):Pred:=λD G=>(⟨D,G⟩:hu)∈A
variable{j rc:ae}{wp Tm:Pred}{or v6:aB}
theorem du.mono(a:∀N Q,wp N Q->Tm N Q)(U:du rc wp j or v6):du rc Tm j or v6:=by
 cases j<;>simp [du]at U⊢<;>first
  |exact U
  |grind
  |grind
def d3.mono(T:∀M N,wp M N->Tm M N)(U:d3 j wp or v6):d3 j Tm or v6:=
 let⟨a,b,hw⟩:=U;⟨a,b,hw.mono T⟩
variable{ut:cx}
def iG{G:iX}:ut∈nJ G or↔e4 G or ut:=by
 unfold nJ e4;rw [bE];constructor
 .rintro⟨M,N,rfl⟩;let⟨U,Q⟩:=dA.mp N
  have:M.place=or:=by simpa using Q
  rwa [<-this]
 .intro T;exact⟨⟨or,ut⟩,dA.mpr ⟨T,by simp⟩,S⟩
theorem AS{U:iX}:(∃D,(⟨or,v6,D⟩:md)∈ip rc U j)↔du rc (e4 U) j or v6:=by
 cases j with
 |num D n=>simp [ip,du]
 |var D y=>
  grind [ip,du]
 |fn D y d=>simp [ip,du]
 |app D i a=>
  simp [ip,du,dH];constructor
  .rintro⟨N,v,G,hw⟩;cases v with
   |fn A=>
    refine⟨A,iG.mp G, ?_⟩;grind
   |num=>cases hw
   |pair A=>cases hw
   |ref A=>cases hw
  .rintro⟨A,M,Q⟩;refine⟨D,.fn A,iG.mpr M, ?_⟩;grind
 |letE D y b d=>
  simp [ip,du,bb,ej,fy,F9];grind
 |ifz D c a d=>
  simp [ip,du,bb,ej,fy,F9];grind
 |pair D a d=>
  simp [ip,du,bb,ej,fy,F9];grind
 |fst D b=>
  simp [ip,du,dH];constructor
  .rintro⟨N,v,G,hw⟩;cases v with
   |pair A=>
    refine⟨A,iG.mp G, ?_⟩;grind
   |num=>cases hw
   |fn A=>cases hw
   |ref A=>cases hw
  .rintro⟨A,M,rfl,rfl⟩;exact⟨D,.pair A,iG.mpr M,bf.mpr S⟩
 |snd D b=>
  simp [ip,du,dH];constructor
  .rintro⟨N,v,G,hw⟩;cases v with
   |pair A=>
    refine⟨A,iG.mp G, ?_⟩;grind
   |num=>cases hw
   |fn A=>cases hw
   |ref A=>cases hw
  .rintro⟨A,M,rfl,rfl⟩;exact⟨D,.pair A,iG.mpr M,bf.mpr S⟩
 |new D b=>simp [ip,du]
 |get D b=>
  simp [ip,du,dH];constructor
  .rintro⟨N,v,G,hw⟩;cases v with
   |ref A=>
    refine⟨A,iG.mp G, ?_⟩;grind
   |num=>cases hw
   |fn A=>cases hw
   |pair A=>cases hw
  .rintro⟨A,M,rfl,rfl⟩;exact⟨D,.ref A,iG.mpr M,bf.mpr S⟩
 |set D k b=>
  simp [ip,du,bb,dH];constructor
  .rintro⟨N,hw|⟨v,G,hw⟩⟩
   .grind
   .cases v with
    |ref A=>
     have:=bf.mp hw;injection this with g h l;exact .inr ⟨A,iG.mp G,g,h⟩
    |num=>cases hw
    |fn A=>cases hw
    |pair A=>cases hw
  .rintro(⟨rfl,rfl⟩|⟨A,M,rfl,rfl⟩)
   .grind
   .exact⟨D,.inr ⟨.ref A,iG.mpr M,bf.mpr S⟩⟩
 |add D a d=>simp [ip,du]
theorem oz{G:iX}:(∃A,(⟨or,v6,A⟩:md)∈ux j G)↔d3 j (e4 G) or v6:=by
 unfold ux d3;constructor
 .rintro⟨A,Q⟩;rw [RQ,dH]at Q;let⟨S,T,hw⟩:=Q
  exact⟨S,T,AS.mp ⟨A,hw⟩⟩
 .rintro⟨S,T,hw⟩;let⟨A,U⟩:=AS.mpr hw
  grind [RQ]
def oA{N:iX}:(⟨or,ut⟩:hu)∈nK j N↔fN j or ut\/∃G,d3 j (e4 N) G or/\e4 N G ut:=by
 unfold nK;rw [bS,dH];constructor
 .rintro(Q|⟨U,hw,T⟩)
  .exact .inl Q
  .unfold RR at T;rw [bE]at T;let⟨h,a,b⟩:=T
   injection b with c d;subst c d;exact .inr ⟨U.src,oz.mp ⟨U.by_,hw⟩,iG.mp a⟩
 .rintro(Q|⟨G,hw,e⟩)
  .exact .inl Q
  .let⟨f,g⟩:=oz.mpr hw;refine .inr ⟨⟨G,or,f⟩,g, ?_⟩;unfold RR;rw [bE];exact⟨ut,iG.mpr e,S⟩
structure oB(D:ae)(A:Pred):Prop where
 iH:∀p a,fN D p a->A p a
 way:∀G d a,d3 D A G d->A G a->A d a
def gM(D:ae):Pred:=λG M=>∀A:Pred,oB D A->A G M
def qz(M:ae):oB M (gM M):=
 ⟨λN A D G c=>c.iH N A D,λQ S A T D G c=>c.way Q S A (T.mono λN a U=>U G c) (D G c)⟩
theorem least_le(c:oB j wp)(N:gM j or ut):wp or ut:=N wp c
def KC{A:iX}(M:∀N∈nK j A,N∈A):oB j (e4 A):=
 ⟨λU Q D=>M _ (oA.mpr (.inl D)),λD a Q S T=>M _ (oA.mpr (.inr ⟨D,S,T⟩))⟩
def h6(A:ae):Pred:=λD G=>D∈aq A/\G∈bq A
theorem h7:or∈aq j↔(∃N∈aH j,or=b0 N)\/(∃A,or=.name A/\((∃y G,pW A y G∈aH j)\/∃y M G,Ga A y M G∈aH j))\/(∃A,(or=.first A\/or=.second A)/\∃Q G,y2 A Q G∈aH j)\/∃A,or=.inside A/\∃M,y3 A M∈aH j:=by unfold aq;simp [bS,dH];grind
theorem ja:ut∈bq j↔ut=.num\/(∃A y G,ut=.fn A/\pW A y G∈aH j)\/(∃A M y,ut=.pair A/\y2 A M y∈aH j)\/∃A N,ut=.ref A/\y3 A N∈aH j:=by unfold bq;grind
variable{r:Nat}
theorem vT(M:Gb r∈bq j):∃y G,pW r y G∈aH j:=by rcases ja.mp M with A|⟨a,y,G,A,b⟩|⟨a,x,y,A,b⟩|⟨a,d,A,b⟩<;>cases A;grind
theorem AU(M:T8 r∈bq j):∃G,y3 r G∈aH j:=by rcases ja.mp M with A|⟨a,y,c,A,b⟩|⟨a,x,y,A,b⟩|⟨a,G,A,b⟩<;>cases A;grind
theorem AV(M:T9 r∈bq j):∃N G,y2 r N G∈aH j:=by rcases ja.mp M with A|⟨a,y,G,A,b⟩|⟨a,x,y,A,b⟩|⟨a,d,A,b⟩<;>cases A;grind
theorem gp(D:j∈aH rc):Gd (af j)∈aq rc:=h7.mpr (.inl ⟨j,D,S⟩)
theorem oC(a:∀c b,wp c b->b∈bq j)(A:d3 j wp v6 or):or∈aq j:=by
 let⟨f,G,A⟩:=A;have D:=gp G
 cases f<;>simp [du]at A<;>try exact A.elim
 .obtain⟨Q,_,_,rfl⟩:=A;exact D
 .obtain⟨M,T,⟨_,rfl⟩|⟨Q,_,_,rfl⟩⟩:=A
  .let⟨y,Q,g⟩:=vT (a _ _ T);exact h7.mpr (.inr (.inl ⟨M,S,.inl ⟨y,Q,g⟩⟩))
  .exact D
 .rcases A with⟨_,rfl⟩|⟨_,rfl⟩
  .exact h7.mpr (.inr (.inl ⟨_,S,.inr ⟨_,_,_,G⟩⟩))
  .exact D
 .rcases A with⟨_,rfl⟩|⟨_,rfl⟩<;>exact D
 .rcases A with⟨_,rfl⟩|⟨_,rfl⟩
  .exact h7.mpr (.inr (.inr (.inl ⟨_,.inl S,_,_,G⟩)))
  .exact h7.mpr (.inr (.inr (.inl ⟨_,.inr S,_,_,G⟩)))
 .obtain⟨M,_,_,rfl⟩:=A;exact D
 .obtain⟨M,_,_,rfl⟩:=A;exact D
 .obtain⟨_,rfl⟩:=A;exact h7.mpr (.inr (.inr (.inr ⟨_,S,_,G⟩)))
 .obtain⟨M,_,_,rfl⟩:=A;exact D
 .rcases A with⟨_,rfl⟩|⟨M,T,_,rfl⟩
  .exact D
  .let⟨or,h⟩:=AU (a _ _ T);exact h7.mpr (.inr (.inr (.inr ⟨_,S,_,h⟩)))
def lD(A:fN j or ut):h6 j or ut:=by
 unfold fN ru at A;rw [dH]at A;let⟨Q,G,A⟩:=A
 have D:=gp G;cases Q<;>simp [uy,bf,ej,RT]at A<;>try exact A.elim
 .obtain⟨rfl,rfl⟩:=A;exact⟨D,ja.mpr (.inl S)⟩
 .split at A
  .rw [bf,RT]at A;obtain⟨rfl,rfl⟩:=A;exact⟨D,ja.mpr (.inl S)⟩
  .cases A
 .obtain⟨rfl,rfl⟩:=A;exact⟨D,ja.mpr (.inr (.inl ⟨_,_,_,S,G⟩))⟩
 .obtain⟨rfl,rfl⟩:=A;exact⟨D,ja.mpr (.inr (.inr (.inl ⟨_,_,_,S,G⟩)))⟩
 .obtain⟨rfl,rfl⟩:=A;exact⟨D,ja.mpr (.inr (.inr (.inr ⟨_,_,S,G⟩)))⟩
 .obtain⟨rfl,rfl⟩:=A;exact⟨D,ja.mpr (.inl S)⟩
def AW(e:ae):oB e (h6 e):=⟨λ_ _ A=>lD A,λ_ _ _ D A=>⟨oC (λ_ _ G=>G.2) D,A.2⟩⟩
theorem vU(G:gM j or ut):h6 j or ut:=least_le (AW j) G
theorem AX:(⟨or,ut⟩:hu)∈nL j↔h6 j or ut:=by unfold nL h6;grind
theorem AY(A:Nat):∀D:List s2,(D.map λ_=>A).sum=D.length*A
 |[]=>by simp
 |a::b=>by rw [aV,fz,AY A b,dG,RU];omega
theorem AZ(e:ae):(nL e).length=pX e:=by grind [nL,pX,Ge,AY]
variable{e:ae}
theorem A0:∀(Q:Nat) (A:iX),A.Nodup->(∀D∈A,gM e D.place D.abs)->pX e<Q+A.length->(∀D∈uz e Q A,gM e D.place D.abs)/\∀D∈nK e (uz e Q A),D∈uz e Q A
 |0,A,a,b,f=>by
  have:A.length<=(nL e).length:=qy a λD U=>by
   have:=vU (b D U);let⟨G,M⟩:=D
   exact AX.mpr this
  grind [AZ]
 |Q+1,A,a,b,f=>by
  have g:Vacfab.roundOf e A=cT A (nK e A):=rfl;unfold uz;rw [g];by_cases c:(cT A (nK e A)).length=A.length
  .rw [ak c];grind [oy]
  .rw [N c];have:=mE (m:=nK e A) (u:=A)
   refine A0 Q _ (mD a) (λD U=> ?_) (by omega);rcases ho.mp U with T|T
   .grind
   .let⟨G,M⟩:=D;have d:∀G M,e4 A G M->gM e G M:=λG M h=>b ⟨G,M⟩ h
    rcases oA.mp T with T|⟨i,w,j⟩
    .exact(qz e).iH G M T
    .exact(qz e).way i G M (w.mono d) (d _ _ j)
theorem A1:e4 (uz e (pX e+1) []) or ut↔gM e or ut:=by let⟨M,N⟩:=A0 (e:=e) (pX e+1) [] gT (λS Q=>nomatch Q) (by simp);exact⟨λA=>M _ A,λA=>least_le (KC N) A⟩
theorem KG{G:iX}:(⟨or,ut⟩:hu)∈y4 j G↔h6 j or ut/\e4 G or ut:=by unfold y4 h6 e4 y5;grind
theorem KH:e4 (d6 j) or ut↔gM j or ut:=by
 unfold d6;show(⟨or,ut⟩:hu)∈_↔_
 grind [KG,A1,vU]
def eT(A:ae)(G:aB->cx->Bool):iX:=(aq A).flatMap λD=>((bq A).filter (G D)).map λM=>⟨D,M⟩
variable{Do:Type}
theorem vV(c:s2->Bool)(A:s2->Do):∀Q:List s2,(Q.filterMap λD=>if c D=I then Y (A D)else O)=(Q.filter c).map A
 |[]=>rfl
 |D::a=>by
  rw [kQ,il];by_cases G:c D=I
  .rw [ak G,ak G,aV,vV c A a]
  .rw [N G,N G,vV c A a]
theorem KI(A:ae)(D:iX):y4 A D=eT A (y5 D):=by grind [y4,eT,vV]
def filter_flatMap(c:Do->Bool)(A:s2->List Do):∀M:List s2,(M.flatMap A).filter c=M.flatMap λN=>(A N).filter c
 |[]=>rfl
 |N::a=>by rw [cp,cp,nM,filter_flatMap c A a]
def vW(A:ae)(D:hu->Bool):(nL A).filter D=eT A λG M=>D ⟨G,M⟩:=by unfold nL eT;rw [filter_flatMap];congr 1;funext G;rw [rv];rfl
def KJ(A:ae):nL A=eT A λ_ _=>I:=by rw [<-vW A λ_=>I];exact(Gf.mpr λ_ _=>S).symm
variable{SL Vf:aB->cx->Bool}
theorem KL(S:∀A∈aq j,∀D∈bq j,SL A D=Vf A D):eT j SL=eT j Vf:=by
 unfold eT;have:∀M:List aB,(∀A∈M,∀D∈bq j,SL A D=Vf A D)->(M.flatMap λA=>((bq j).filter (SL A)).map λD=>(⟨A,D⟩:hu))=M.flatMap λA=>((bq j).filter (Vf A)).map λD=>(⟨A,D⟩:hu):=by
  intro M;induction M with
  |nil=>grind
  |cons A a b=>
   grind [kW,bY]
 grind
theorem KN:e4 (eT j SL) or ut↔h6 j or ut/\SL or ut=I:=by unfold eT e4 h6;grind
theorem vX(c:(aq j).Nodup)(M:aB->cx->Bool)(d:or∈aq j):nJ (eT j M) or=(bq j).filter (M or):=by
 unfold nJ eT;rw [filter_flatMap,pY];have U:∀D:aB,(((((bq j).filter (M D)).map λT=>(⟨D,T⟩:hu)).filter λN=>N.place==or).map λN=>N.abs)=if D=or then(bq j).filter (M or)else []:=by
  intro D;by_cases a:D=or
  .subst a;rw [ak S,rv];have:((λN:hu=>N.place==D)∘λT=>(⟨D,T⟩:hu))=λ_=>I:=by
    funext T;simp
   rw [this,Gf.mpr λ_ _=>S,eh];exact nN _
  .simp_all [rv]
 have b:=funext U;rw [b];have e:∀(Q:List aB),Q.Nodup->(Q.flatMap λD=>if D=or then(bq j).filter (M or)else [])=if or∈Q then(bq j).filter (M or)else []:=by
  intro Q;induction Q with
  |nil=>grind
  |cons D f g=>
   grind
 grind
theorem KO(A:ae)(D:aB->cx->Bool):(eT A D).length=((aq A).map λG=>((bq A).filter (D G)).length).sum:=by grind [eT,Ge]
noncomputable def gq(A:ae):aB->cx->Bool:=λD G=> @decide (gM A D G) (Gg _)
def qA:gq j or ut=I↔gM j or ut:=by simp_all [gq]
theorem oD(A:ae):d6 A=eT A (gq A):=by unfold d6;rw [KI];refine KL λD _ G _=> ?_;rw [iR,qA,<-A1];unfold y5 e4;grind
def KP(D:iX):Vacfaf.kindsOf j D=eT j λG M=>(nJ D G).any (uA M):=vW j _
def A2(D:nO):rx j D=eT j λG M=>(cI D G).any λN=>(ru j).contains ⟨N,M⟩:=vW j _
def kids:ae->List ae
 |.num _ _=>[]
 |.var _ _=>[]
 |.fn _ _ d=>[d]
 |.app _ e a=>[e,a]
 |.letE _ _ b d=>[b,d]
 |.ifz _ c f b=>[c,f,b]
 |.pair _ a d=>[a,d]
 |.fst _ b=>[b]
 |.snd _ b=>[b]
 |.new _ b=>[b]
 |.get _ b=>[b]
 |.set _ g b=>[g,b]
 |.add _ a d=>[a,d]
theorem e5(A:ae):aH A=A::(kids A).flatMap aH:=by cases A<;>simp [aH,kids]
theorem hE(A:ae):A∈aH A:=by grind [e5]
theorem h8{y:ae}(D:y∈kids j):gk y<gk j:=by
 cases j<;>simp [kids,bb,ej,fy]at D<;>try grind
 all_goals grind
theorem so:∀{A D:ae},D∈aH A->∀y∈aH D,y∈aH A:=by
 intro A;induction b:gk A using RV generalizing A with
 |_ n a=>
  intro D G y N;rw [e5]at G;rcases bb.mp G with M|M
  .grind
  .let⟨Q,U,T⟩:=dH.mp M;have:=a (gk Q) (by grind [h8]) S T y N
   grind [e5]
theorem jb{y:ae}(G:rc∈aH j)(M:y∈kids rc):y∈aH j:=
 so G y (by grind [e5])
theorem KQ:∀(T:ae) (G:List (dC×Nat)) (D N:Nat),(D,Y N)∈pZ G T->(∃Q∈G,Q.2=N)\/(∃y M,pW N y M∈aH T)\/∃y M c,Ga N y M c∈aH T:=by
 intro T;induction T with
 |num D n=>intro G D N A;cases A
 |var D x=>
  intro G U N A;simp [pZ,bf,uB]at A;obtain⟨rfl,A⟩:=A;cases j:G.find? (λQ=>Q.1==x)with
  |none=>grind
  |some Q=>
   grind
 |fn D x N b=>
  intro G U g A;rcases b _ _ _ A with⟨Q,e,rfl⟩|A|A
  .rcases bb.mp e with rfl|e
   .grind [hE]
   grind
  all_goals grind [e5,kids]
 |letE D x M N f d=>
  intro G U g A;rcases bS.mp A with A|A
  .grind [e5,kids]
  .rcases d _ _ _ A with⟨Q,e,rfl⟩|A|A
   .rcases bb.mp e with rfl|e
    .grind [hE]
    grind
   all_goals grind [e5,kids]
 |app D h a f d|pair D h a f d|set D h a f d|add D h a f d=>
  intro G U g A;rcases bS.mp A with A|A
  all_goals grind [e5,kids]
 |ifz D c k M f d l=>
  intro G U g A;rcases bS.mp A with A|A
  all_goals grind [e5,kids]
 |fst D M b|snd D M b|new D M b|get D M b=>
  intro G U g A;rcases b _ _ _ A with A|⟨y,i,A⟩|⟨y,i,m,A⟩
  all_goals grind [e5,kids]
variable{AT:Nat}
theorem KR(A:g9 j AT=Y r):RW r∈aq j:=by
 unfold g9 at A;cases a:(uC j).find? λM=>M.1==AT with
 |none=>grind
 |some M=>
  rw [a]at A;let⟨Q,U⟩:=M
  cases A;rcases KQ j [] Q r (fL a)with⟨M,T,_⟩|A|A
  .cases T
  .exact h7.mpr (.inr (.inl ⟨r,S,.inl A⟩))
  .exact h7.mpr (.inr (.inl ⟨r,S,.inr A⟩))
theorem KS(A:uw j AT=Y r):Gd r∈aq j:=by
 unfold uw at A;split at A
 .rename_i Q y S N;cases A;have T:=fL N
  grind [gp,jb,kids]
 .cases A
theorem jQ{y:ae}(G:rc∈aH j)(M:y∈kids rc):b0 y∈aq j:=gp (jb G M)
theorem qB{c:Pred}(a:∀f M,c f M->M∈bq j)(A:d3 j c v6 or):v6∈aq j:=by
 let⟨g,T,A⟩:=A;cases g<;>simp [du]at A<;>try exact A.elim
 .obtain⟨N,e,rfl,_⟩:=A;exact KR e
 .obtain⟨D,G,⟨rfl,_⟩|⟨N,e,rfl,_⟩⟩:=A
  all_goals grind [jQ,kids,KS]
 .rcases A with⟨rfl,_⟩|⟨rfl,_⟩<;>exact jQ T (by simp [kids])
 .rcases A with⟨rfl,_⟩|⟨rfl,_⟩<;>exact jQ T (by simp [kids])
 .rcases A with⟨rfl,_⟩|⟨rfl,_⟩<;>exact jQ T (by simp [kids])
 .obtain⟨D,G,rfl,_⟩:=A;let⟨M,N,Q⟩:=AV (a _ _ G)
  exact h7.mpr (.inr (.inr (.inl ⟨D,.inl S,M,N,Q⟩)))
 .obtain⟨D,G,rfl,_⟩:=A;let⟨M,N,Q⟩:=AV (a _ _ G)
  exact h7.mpr (.inr (.inr (.inl ⟨D,.inr S,M,N,Q⟩)))
 .obtain⟨rfl,_⟩:=A;grind [jQ,kids]
 .obtain⟨D,G,rfl,_⟩:=A;let⟨or,Q⟩:=AU (a _ _ G)
  exact h7.mpr (.inr (.inr (.inr ⟨D,S,or,Q⟩)))
 .rcases A with⟨rfl,_⟩|⟨D,G,rfl,_⟩<;>exact jQ T (by simp [kids])
theorem KU(a:∀A∈aH j,∀D,wp (b0 A) D->Tm (b0 A) D)(G:d3 j wp or v6):d3 j Tm or v6:=by
 let⟨A,U,G⟩:=G;refine⟨A,U, ?_⟩;have c:∀y∈kids A,∀D,wp (b0 y) D->Tm (b0 y) D:=λy b=>a y (jb U b)
 cases A<;>simp [du]at G⊢<;>first
  |exact G
  |grind [kids]
  |grind [kids]
theorem A3{M:s2->Do}:∀{D:List s2},(D.map M).Nodup->D.Nodup
 |[],_=>gT
 |a::c,b=>by rw [aV,eB]at b;exact eB.mpr ⟨λN=>b.1 (bE.mpr ⟨a,N,S⟩),A3 b.2⟩
structure e6(A:ae):Prop where
 cY:bJ A=eY (bJ A).length
def A4(A:me j=I):e6 j:=by unfold me at A;simp [bz,iS]at A;exact⟨A.2.1⟩
section
variable {e:ae} (L:e6 e)
include L
theorem e6.at{A:Nat}{D:ae}(G:(aH e)[A]?=Y D):af D=A:=by
 have M:(bJ e)[A]?=Y (af D):=by unfold bJ;rw [bh,G];rfl
 rw [L.cY,List.getElem?_range (by grind)]at M
 grind
theorem e6.get{x:ae}(A:x∈aH e):(aH e)[af x]?=Y x:=by let⟨i,D⟩:=hV.mp A;rwa [L.at D]
theorem e6.uniq{A y:ae}(D:A∈aH e)(G:y∈aH e)(M:af A=af y):A=y:=by have N:=L.get D;rw [M,L.get G]at N;grind
theorem e6.nodeAt(A:Nat):mf e A=(aH e)[A]?:=by
 unfold mf;cases a:(aH e)[A]? with
 |none=>
  rw [nF];intro D G M;have:af D=A:=by simpa using M
  have S:=L.get G;grind
 |some D=>
  have N:=cH a;have Q:=L.at a
  cases b:(aH e).find? λy=>af y==A with
  |none=>
   grind
  |some y=>
   have:af y=A:=by simpa using(mh b)
   rw [L.uniq (fL b) N (this.trans Q.symm)]
theorem e6.nodup:(aH e).Nodup:=by have A:(bJ e).Nodup:=L.cY▸Gh;grind [bJ,A3]
theorem sr{N:Type}{D:ae->List N}(S:∀A,(D A).Nodup)(T:∀A y,A∈aH e->y∈aH e->∀M,M∈D A->M∈D y->A=y):((aH e).flatMap D).Nodup:=by
 have:∀G:List ae,G.Nodup->(∀A∈G,A∈aH e)->(G.flatMap D).Nodup:=by
  intro G;induction G with
  |nil=>grind
  |cons A a b=>
   grind
 exact this _ L.nodup λ_ Q=>Q
theorem e6.places:(aq e).Nodup:=by
 unfold aq;have u:∀G y,G∈aH e->y∈aH e->af G=af y->G=y:=λG y N Q c=>L.uniq N Q c
 simp only;rw [gU];refine⟨sr L (λG=>by simp) λG y N Q S D A=> ?_, ?_,λb T S M U=> ?_⟩
 .have a:=bf.mp A;rw [bf.mp D]at a;injection a with a;grind
 .rw [gU];refine⟨sr L (λG=>by grind) λG y N Q S D A=> ?_, ?_,λb T S M U=> ?_⟩
  .cases G<;>simp [ej,bf]at D<;>try exact D.elim
   all_goals (cases y<;>simp [ej,bf]at A<;>try exact A.elim)
   all_goals (rw [D]at A;injection A with A;exact u _ _ N Q A)
  .rw [gU];refine⟨sr L (λG=>by grind) λG y N Q S D A=> ?_,sr L (λG=>by grind) λG y N Q S D A=> ?_,λb T S M U=> ?_⟩
   .cases G<;>simp [ej,bb,fy]at D<;>try exact D.elim
    all_goals (cases y<;>simp [ej,bb,fy]at A<;>try exact A.elim)
    all_goals (rcases D with D|D<;>rcases A with A|A<;>rw [D]at A<;>first|(injection A with A;exact u _ _ N Q A)|cases A)
   .cases G<;>simp [ej,bf]at D<;>try exact D.elim
    all_goals (cases y<;>simp [ej,bf]at A<;>try exact A.elim)
    all_goals (rw [D]at A;injection A with A;exact u _ _ N Q A)
   grind
  .subst U;let⟨G,_,D⟩:=dH.mp T
   rcases bS.mp M with M|M
   all_goals grind
 .subst U;let⟨G,_,D⟩:=dH.mp T
  have D:=bf.mp D;rcases bS.mp M with M|M
  .let⟨y,_,A⟩:=dH.mp M;cases y<;>simp [ej,bf]at A<;>try exact A.elim
   all_goals (rw [D]at A;cases A)
  .rcases bS.mp M with M|M
   .let⟨y,_,A⟩:=dH.mp M;cases y<;>simp [ej,bb,fy]at A<;>try exact A.elim
    all_goals (rcases A with A|A<;>rw [D]at A<;>cases A)
   .let⟨y,_,A⟩:=dH.mp M;cases y<;>simp [ej,bf]at A<;>try exact A.elim
    all_goals (rw [D]at A;cases A)
end
def size(A:ae):Nat:=(aH A).length
theorem size_eq(A:ae):size A=1+((kids A).map size).sum:=by unfold size;rw [e5,dG,Ge];omega
theorem size_pos(A:ae):0<size A:=by grind [size_eq]
def aT:Nat->ae->ae
 |n,.num _ k=>.num n k
 |n,.var _ x=>.var n x
 |n,.fn _ x b=>.fn n x (aT (n+1) b)
 |n,.app _ e a=>.app n (aT (n+1) e) (aT (n+1+size e) a)
 |n,.letE _ x d b=>.letE n x (aT (n+1) d) (aT (n+1+size d) b)
 |n,.ifz _ c f d=>.ifz n (aT (n+1) c) (aT (n+1+size c) f) (aT (n+1+size c+size f) d)
 |n,.pair _ a b=>.pair n (aT (n+1) a) (aT (n+1+size a) b)
 |n,.fst _ d=>.fst n (aT (n+1) d)
 |n,.snd _ d=>.snd n (aT (n+1) d)
 |n,.new _ d=>.new n (aT (n+1) d)
 |n,.get _ d=>.get n (aT (n+1) d)
 |n,.set _ g d=>.set n (aT (n+1) g) (aT (n+1+size g) d)
 |n,.add _ a b=>.add n (aT (n+1) a) (aT (n+1+size a) b)
def A5:size (.num r AT)=1:=rfl
variable{EQ:dC}
def A6:size (.var r EQ)=1:=rfl
theorem oE:size (.fn r EQ j)=1+size j:=by grind [size_eq,kids]
theorem oF:size (.app r j rc)=1+size j+size rc:=by grind [size_eq,kids]
theorem oG:size (.letE r EQ j rc)=1+size j+size rc:=by grind [size_eq,kids]
theorem oH{c:ae}:size (.ifz r c j rc)=1+size c+size j+size rc:=by grind [size_eq,kids]
theorem oI:size (.pair r j rc)=1+size j+size rc:=by grind [size_eq,kids]
theorem oJ:size (.fst r j)=1+size j:=by grind [size_eq,kids]
theorem oK:size (.snd r j)=1+size j:=by grind [size_eq,kids]
theorem oL:size (.new r j)=1+size j:=by grind [size_eq,kids]
theorem oM:size (.get r j)=1+size j:=by grind [size_eq,kids]
theorem oN:size (.set r j rc)=1+size j+size rc:=by grind [size_eq,kids]
theorem oO:size (.add r j rc)=1+size j+size rc:=by grind [size_eq,kids]
def fO(A:UInt8):Bool:=A==40||(A==41||A==32)
def jc(A:ai):Bool:= !A.isEmpty&&A.all λD=> !fO D
def ends(A:ai):Prop:=A=[]\/∃D G,A=D::G/\fO D=I
def A7:∀(A D G:ai),(A.all λM=> !fO M)=I->dn D (A++G)=dn (D++A) G
 |[],D,G,_=>by simp
 |M::A,D,G,a=>by simp_all [fO,dn,A7]
variable{sw Pv:ai}
theorem KW(hw:Pv.isEmpty=ao)(G:ends sw):dn Pv sw=Pv::dn [] sw:=by
 rcases G with rfl|⟨b,sw,rfl,a⟩
 .grind [dn]
 .unfold fO at a;simp [yE,iS]at a;unfold dn;grind
theorem vY(G:jc sw=I)(M:ends Pv):dn [] (sw++Pv)=sw::dn [] Pv:=by simp_all [jc,A7,KW]
def jd(A:ai):dn [] (40::A)=[40]::dn [] A:=by rw [dn,ak (.inl S)];rfl
def je(A:ai):dn [] (41::A)=[41]::dn [] A:=by rw [dn,ak (.inr S)];rfl
theorem lE(A:ai):dn [] (32::A)=dn [] A:=by rw [dn,N (by decide),ak S];rfl
def fo(A:ai):ends (41::A):=.inr ⟨41,A,S,by decide⟩
theorem ew(A:ai):ends (32::A):=.inr ⟨32,A,S,by decide⟩
theorem lF{x:dC}(A:gE x=I):jc x=I:=by
 unfold gE at A;simp only [bz]at A;let⟨D,_,G,_⟩:=A
 unfold jc;rw [bz];refine⟨D,j9.mpr λM N=> ?_⟩;have:=j9.mp G M N
 unfold kX at this;simp [bz,ka]at this;grind [fO]
def KX:∀A:Fin 100,jc (d7 A)=I/\y6 (d7 A)=Y A.val/\d7 A≠[41]/\d7 A≠[40]/\(nP.contains (d7 A))=ao:=by decide+kernel
theorem kB{n:Nat}(A:n<=99):jc (d7 n)=I/\y6 (d7 n)=Y n/\d7 n≠[41]/\d7 n≠[40]/\(nP.contains (d7 n))=ao:=KX ⟨n,by omega⟩
theorem name_num(D:gE EQ=I):y6 EQ=O:=by
 unfold gE at D;simp only [bz]at D;let⟨Q,_,G,_⟩:=D
 unfold y6;rw [N];rintro⟨_,M,_⟩;cases EQ with
 |nil=>simp at Q
 |cons a b=>
  rw [jA,bz]at G M;have S:=G.1
  have T:=M.1;unfold kX at S;unfold iY at T;grind
def A8(D:gE EQ=I):nP.contains EQ=ao:=by simp_all [gE]
def su(D:gE EQ=I):EQ≠[41]/\EQ≠[40]:=by have:=lF D;constructor<;>(intro G;subst G;exact absurd this (by decide))
def toks:ae->List ai
 |.num _ n=>[d7 n]
 |.var _ x=>[x]
 |.fn _ x d=>[40]::ay "fun"::x::(toks d++[[41]])
 |.app _ e a=>[40]::(toks e++(toks a++[[41]]))
 |.letE _ x b d=>[40]::ay "let"::x::(toks b++(toks d++[[41]]))
 |.ifz _ c f b=>[40]::ay "if"::(toks c++(toks f++(toks b++[[41]])))
 |.pair _ a d=>[40]::ay "pair"::(toks a++(toks d++[[41]]))
 |.fst _ b=>[40]::ay "fst"::(toks b++[[41]])
 |.snd _ b=>[40]::ay "snd"::(toks b++[[41]])
 |.new _ b=>[40]::ay "new"::(toks b++[[41]])
 |.get _ b=>[40]::ay "get"::(toks b++[[41]])
 |.set _ g b=>[40]::ay "set"::(toks g++(toks b++[[41]]))
 |.add _ a d=>[40]::ay "add"::(toks a++(toks d++[[41]]))
theorem iI(G:jc sw=I)(D:ai):dn [] (sw++32::D)=sw::dn [] D:=by grind [vY,ew,lE]
open Vacfaf (isTold)in
theorem KY:∀(M:ae),bp M=I->∀D,ends D->dn [] (bj M++D)=toks M++dn [] D:=by
 intro M;induction M with
 |num b n=>
  intro A D G;have:n<=99:=eQ A
  exact vY (kB this).1 G
 |var b x=>intro A D G;exact vY (lF A) G
 |fn b x g h=>
  intro A D G;simp only [bp,bz]at A;show dn [] (40::(ay "fun"++([32]++(x++([32]++bj g)))++[41])++D)=_
  simp only [dk,cv,cV];rw [jd,iI (by decide),iI (lF A.1),h A.2.2 _ (fo D),je];simp [toks]
 |app b i a e f=>
  intro A D G;simp only [bp,bz]at A;show dn [] (40::(bj i++([32]++bj a)++[41])++D)=_
  simp_all [jd,ew,lE,fo,je,toks]
 |letE b x d g e f=>
  intro A D G;simp only [bp,bz]at A;show dn [] (40::(ay "let"++([32]++(x++([32]++(bj d++([32]++bj g)))))++[41])++D)=_
  simp only [dk,cv,cV];rw [jd,iI (by decide),iI (lF A.1),e A.2.2.1 _ (ew _),lE,f A.2.2.2 _ (fo D),je];simp [toks]
 |ifz b c j d e f k=>
  intro A D G;simp only [bp,bz]at A;show dn [] (40::(ay "if"++([32]++(bj c++([32]++(bj j++([32]++bj d)))))++[41])++D)=_
  simp only [dk,cv,cV];rw [jd,iI (by decide),e A.1 _ (ew _),lE,f A.2.1 _ (ew _),lE,k A.2.2 _ (fo D),je];simp [toks]
 |pair b a g e f=>
  intro A D G;simp only [bp,bz]at A;show dn [] (40::(ay "pair"++([32]++(bj a++([32]++bj g)))++[41])++D)=_
  simp only [dk,cv,cV];rw [jd,iI (by decide),e A.1 _ (ew _),lE,f A.2 _ (fo D),je];simp [toks]
 |set b a g e f=>
  intro A D G;simp only [bp,bz]at A;show dn [] (40::(ay "set"++([32]++(bj a++([32]++bj g)))++[41])++D)=_
  simp only [dk,cv,cV];rw [jd,iI (by decide),e A.1 _ (ew _),lE,f A.2 _ (fo D),je];simp [toks]
 |add b a g e f=>
  intro A D G;simp only [bp,bz]at A;show dn [] (40::(ay "add"++([32]++(bj a++([32]++bj g)))++[41])++D)=_
  simp only [dk,cv,cV];rw [jd,iI (by decide),e A.1 _ (ew _),lE,f A.2 _ (fo D),je];simp [toks]
 |fst b d h=>
  intro A D G;show dn [] (40::(ay "fst"++([32]++bj d)++[41])++D)=_
  simp only [dk,cv,cV];rw [jd,iI (by decide),h A _ (fo D),je];simp [toks]
 |snd b d h=>
  intro A D G;show dn [] (40::(ay "snd"++([32]++bj d)++[41])++D)=_
  simp only [dk,cv,cV];rw [jd,iI (by decide),h A _ (fo D),je];simp [toks]
 |new b d h=>
  intro A D G;show dn [] (40::(ay "new"++([32]++bj d)++[41])++D)=_
  simp only [dk,cv,cV];rw [jd,iI (by decide),h A _ (fo D),je];simp [toks]
 |get b d h=>
  intro A D G;show dn [] (40::(ay "get"++([32]++bj d)++[41])++D)=_
  simp only [dk,cv,cV];rw [jd,iI (by decide),h A _ (fo D),je];simp [toks]
def KZ:∀A:ae,bp A=I->∃G M,toks A=G::M/\G≠[41]/\nP.contains G=ao:=by
 intro A D;cases A
 case num a n=>exact⟨_,_,S,(kB (eQ D)).2.2.1,(kB (eQ D)).2.2.2.2⟩
 case var a x=>exact⟨_,_,S,(su D).1,A8 D⟩
 all_goals exact⟨_,_,S,by decide,by decide⟩
def K0(D:nP.contains sw=ao):sw≠ay "fun"/\sw≠ay "let"/\sw≠ay "if"/\sw≠ay "pair"/\sw≠ay "fst"/\sw≠ay "snd"/\sw≠ay "new"/\sw≠ay "get"/\sw≠ay "set"/\sw≠ay "add":=by refine⟨?_, ?_, ?_, ?_, ?_, ?_, ?_, ?_, ?_, ?_⟩<;>(intro G;subst G;exact absurd D (by decide))
theorem jf(M A:ae)(D:Nat)(G:List ai):RY ⟨M,D,[41]::G⟩ A=Y ⟨A,D,G⟩:=by unfold RY;simp
theorem K1:∀(U:ae),bp U=I->∀A D G,dI U<A->ha A D (toks U++G)=Y ⟨aT D U,D+size U,G⟩:=by
 intro U;induction U with
 |num b k=>
  intro M A D G T;let⟨_,m,n,o,_⟩:=kB (eQ M)
  obtain⟨A,rfl⟩:∃Q,A=Q+1:=⟨A-1,by omega⟩
  show ha (A+1) D (d7 k::G)=_;rw [Vacfaa.read.eq_def];dsimp only;rw [N n,ak o];simp only [m];rfl
 |var b x=>
  intro M A D G T;obtain⟨A,rfl⟩:∃Q,A=Q+1:=⟨A-1,by omega⟩
  show ha (A+1) D (x::G)=_;rw [Vacfaa.read.eq_def];dsimp only;rw [N (su M).1,ak (su M).2];simp only [name_num M];rfl
 |fn b x e f=>
  intro M A D G T;obtain⟨A,rfl⟩:∃Q,A=Q+1:=⟨A-1,by omega⟩
  simp only [bp,bz]at M;simp only [dI]at T;show ha (A+1) D ([40]::ay "fun"::x::(toks e++[[41]])++G)=_
  simp only [dk,cv,cV];rw [Vacfaa.read.eq_def];dsimp only;rw [N (show¬([40]:ai)=[41]by decide),N (show¬([40]:ai)≠[40]by simp)];simp only [eP];grind [aT,jf,oE]
 |app b Q a g h=>
  intro M A D G T;obtain⟨A,rfl⟩:∃Q,A=Q+1:=⟨A-1,by omega⟩
  simp only [bp,bz]at M;simp only [dI]at T;let⟨i,C,j,E,p⟩:=KZ Q M.1
  let⟨q,r,s,t,u,v,w,y,z,B⟩:=K0 p;show ha (A+1) D ([40]::(toks Q++(toks a++[[41]]))++G)=_
  have l:=g M.1 A (D+1) (toks a++([41]::G)) (by omega);rw [j]at l;simp only [dk]at l;rw [j];simp only [dk,cv,cV];rw [Vacfaa.read.eq_def];dsimp only;rw [N (show¬([40]:ai)=[41]by decide),N (show¬([40]:ai)≠[40]by simp)];simp only [N q,N r,N s,N t,N u,N v,N w,N y,N z,N B];grind [jf,oF,aT]
 |letE b x d e g h=>
  intro M A D G T;obtain⟨A,rfl⟩:∃Q,A=Q+1:=⟨A-1,by omega⟩
  simp only [bp,bz]at M;simp only [dI]at T;show ha (A+1) D ([40]::ay "let"::x::(toks d++(toks e++[[41]]))++G)=_
  simp only [dk,cv,cV];rw [Vacfaa.read.eq_def];dsimp only;rw [N (show¬([40]:ai)=[41]by decide),N (show¬([40]:ai)≠[40]by simp)];simp only [N (show ay "let"≠ay "fun"by decide),eP];grind [jf,oG,aT]
 |ifz b c i d g h F=>
  intro M A D G T;obtain⟨A,rfl⟩:∃Q,A=Q+1:=⟨A-1,by omega⟩
  simp only [bp,bz]at M;simp only [dI]at T;show ha (A+1) D ([40]::ay "if"::(toks c++(toks i++(toks d++[[41]])))++G)=_
  simp only [dk,cv,cV];rw [Vacfaa.read.eq_def];dsimp only;rw [N (show¬([40]:ai)=[41]by decide),N (show¬([40]:ai)≠[40]by simp)];simp only [N (show ay "if"≠ay "fun"by decide),N (show ay "if"≠ay "let"by decide),eP];grind [jf,oH,aT]
 |pair b a e g h=>
  intro M A D G T;obtain⟨A,rfl⟩:∃Q,A=Q+1:=⟨A-1,by omega⟩
  simp only [bp,bz]at M;simp only [dI]at T;show ha (A+1) D ([40]::ay "pair"::(toks a++(toks e++[[41]]))++G)=_
  simp only [dk,cv,cV];rw [Vacfaa.read.eq_def];dsimp only;rw [N (show¬([40]:ai)=[41]by decide),N (show¬([40]:ai)≠[40]by simp)];simp only [N (show ay "pair"≠ay "fun"by decide),N (show ay "pair"≠ay "let"by decide),N (show ay "pair"≠ay "if"by decide),eP];grind [jf,oI,aT]
 |set b a e g h=>
  intro M A D G T;obtain⟨A,rfl⟩:∃Q,A=Q+1:=⟨A-1,by omega⟩
  simp only [bp,bz]at M;simp only [dI]at T;show ha (A+1) D ([40]::ay "set"::(toks a++(toks e++[[41]]))++G)=_
  simp only [dk,cv,cV];rw [Vacfaa.read.eq_def];dsimp only;rw [N (show¬([40]:ai)=[41]by decide),N (show¬([40]:ai)≠[40]by simp)];simp only [N (show ay "set"≠ay "fun"by decide),N (show ay "set"≠ay "let"by decide),N (show ay "set"≠ay "if"by decide),N (show ay "set"≠ay "pair"by decide),N (show ay "set"≠ay "fst"by decide),N (show ay "set"≠ay "snd"by decide),N (show ay "set"≠ay "new"by decide),N (show ay "set"≠ay "get"by decide),eP];grind [jf,oN,aT]
 |add b a e g h=>
  intro M A D G T;obtain⟨A,rfl⟩:∃Q,A=Q+1:=⟨A-1,by omega⟩
  simp only [bp,bz]at M;simp only [dI]at T;show ha (A+1) D ([40]::ay "add"::(toks a++(toks e++[[41]]))++G)=_
  simp only [dk,cv,cV];rw [Vacfaa.read.eq_def];dsimp only;rw [N (show¬([40]:ai)=[41]by decide),N (show¬([40]:ai)≠[40]by simp)];simp only [N (show ay "add"≠ay "fun"by decide),N (show ay "add"≠ay "let"by decide),N (show ay "add"≠ay "if"by decide),N (show ay "add"≠ay "pair"by decide),N (show ay "add"≠ay "fst"by decide),N (show ay "add"≠ay "snd"by decide),N (show ay "add"≠ay "new"by decide),N (show ay "add"≠ay "get"by decide),N (show ay "add"≠ay "set"by decide),eP];grind [jf,oO,aT]
 |fst b d f=>
  intro M A D G T;obtain⟨A,rfl⟩:∃Q,A=Q+1:=⟨A-1,by omega⟩
  simp only [dI]at T;show ha (A+1) D ([40]::ay "fst"::(toks d++[[41]])++G)=_
  simp only [dk,cv,cV];rw [Vacfaa.read.eq_def];dsimp only;rw [N (show¬([40]:ai)=[41]by decide),N (show¬([40]:ai)≠[40]by simp)];simp only [N (show ay "fst"≠ay "fun"by decide),N (show ay "fst"≠ay "let"by decide),N (show ay "fst"≠ay "if"by decide),N (show ay "fst"≠ay "pair"by decide),eP];rw [f M A (D+1) _ (by omega)];grind [jf,oJ,aT]
 |snd b d f=>
  intro M A D G T;obtain⟨A,rfl⟩:∃Q,A=Q+1:=⟨A-1,by omega⟩
  simp only [dI]at T;show ha (A+1) D ([40]::ay "snd"::(toks d++[[41]])++G)=_
  simp only [dk,cv,cV];rw [Vacfaa.read.eq_def];dsimp only;rw [N (show¬([40]:ai)=[41]by decide),N (show¬([40]:ai)≠[40]by simp)];simp only [N (show ay "snd"≠ay "fun"by decide),N (show ay "snd"≠ay "let"by decide),N (show ay "snd"≠ay "if"by decide),N (show ay "snd"≠ay "pair"by decide),N (show ay "snd"≠ay "fst"by decide),eP];rw [f M A (D+1) _ (by omega)];grind [jf,oK,aT]
 |new b d f=>
  intro M A D G T;obtain⟨A,rfl⟩:∃Q,A=Q+1:=⟨A-1,by omega⟩
  simp only [dI]at T;show ha (A+1) D ([40]::ay "new"::(toks d++[[41]])++G)=_
  simp only [dk,cv,cV];rw [Vacfaa.read.eq_def];dsimp only;rw [N (show¬([40]:ai)=[41]by decide),N (show¬([40]:ai)≠[40]by simp)];simp only [N (show ay "new"≠ay "fun"by decide),N (show ay "new"≠ay "let"by decide),N (show ay "new"≠ay "if"by decide),N (show ay "new"≠ay "pair"by decide),N (show ay "new"≠ay "fst"by decide),N (show ay "new"≠ay "snd"by decide),eP];rw [f M A (D+1) _ (by omega)];grind [jf,oL,aT]
 |get b d f=>
  intro M A D G T;obtain⟨A,rfl⟩:∃Q,A=Q+1:=⟨A-1,by omega⟩
  simp only [dI]at T;show ha (A+1) D ([40]::ay "get"::(toks d++[[41]])++G)=_
  simp only [dk,cv,cV];rw [Vacfaa.read.eq_def];dsimp only;rw [N (show¬([40]:ai)=[41]by decide),N (show¬([40]:ai)≠[40]by simp)];simp only [N (show ay "get"≠ay "fun"by decide),N (show ay "get"≠ay "let"by decide),N (show ay "get"≠ay "if"by decide),N (show ay "get"≠ay "pair"by decide),N (show ay "get"≠ay "fst"by decide),N (show ay "get"≠ay "snd"by decide),N (show ay "get"≠ay "new"by decide),eP];rw [f M A (D+1) _ (by omega)];grind [jf,oM,aT]
theorem sv:∀(A:ae) (D:Nat),size (aT D A)=size A:=by
 intro A;induction A with
 |num b k=>intro D;rfl
 |var b x=>intro D;rfl
 |fn b x g h=>grind [aT,oE]
 |app b i a e f=>grind [aT,oF]
 |letE b x i a e f=>grind [aT,oG]
 |ifz b c j d e f l=>grind [aT,oH]
 |pair b i a e f=>grind [aT,oI]
 |fst b g h=>grind [aT,oJ]
 |snd b g h=>grind [aT,oK]
 |new b g h=>grind [aT,oL]
 |get b g h=>grind [aT,oM]
 |set b i a e f=>grind [aT,oN]
 |add b i a e f=>grind [aT,oO]
theorem A9:∀(A:ae) (D:Nat),dI (aT D A)=dI A:=by
 intro A;induction A with
 |num a k=>intro D;rfl
 |var a x=>intro D;rfl
 |_=>grind [aT,dI]
theorem dJ(A:ae):bJ A=af A::(kids A).flatMap bJ:=by unfold bJ;rw [e5,aV,pY]
theorem hp(A:ae):(bJ A).length=size A:=by unfold bJ size;grind
theorem lG:∀(Q:ae) (A:Nat),bJ (aT A Q)=cu A (size Q):=by
 have D:∀A T:Nat,A::cu (A+1) T=cu A (1+T):=λA T=>by rw [y7 1 T,nH]
 have N:∀A G M:Nat,cu A G++cu (A+G) M=cu A (G+M):=λA G M=>by rw [<-kf]
 intro Q;induction Q with
 |num a k=>intro A;rfl
 |var a x=>intro A;rfl
 |fn a x M f=>intro A;rw [dJ];simp only [aT,kids,af,oE,cp,et,bZ,f,D]
 |fst a M f=>intro A;rw [dJ];simp only [aT,kids,af,oJ,cp,et,bZ,f,D]
 |snd a M f=>intro A;rw [dJ];simp only [aT,kids,af,oK,cp,et,bZ,f,D]
 |new a M f=>intro A;rw [dJ];simp only [aT,kids,af,oL,cp,et,bZ,f,D]
 |get a M f=>intro A;rw [dJ];simp only [aT,kids,af,oM,cp,et,bZ,f,D]
 |app a g G b e=>intro A;rw [dJ];simp only [aT,kids,af,oF,cp,et,bZ,b,e];rw [N,D,p1]
 |letE a x g G b e=>intro A;rw [dJ];simp only [aT,kids,af,oG,cp,et,bZ,b,e];rw [N,D,p1]
 |pair a g G b e=>intro A;rw [dJ];simp only [aT,kids,af,oI,cp,et,bZ,b,e];rw [N,D,p1]
 |set a g G b e=>intro A;rw [dJ];simp only [aT,kids,af,oN,cp,et,bZ,b,e];rw [N,D,p1]
 |add a g G b e=>intro A;rw [dJ];simp only [aT,kids,af,oO,cp,et,bZ,b,e];rw [N,D,p1]
 |ifz a c i d b e h=>
  intro A;rw [dJ];simp only [aT,kids,af,oH,cp,et,bZ,b,e,h];rw [N (A+1+size c),N (A+1),D,p1,p1]
theorem vZ:∀(N:ae) (G:Nat),bJ N=cu G (size N)->aT G N=N:=by
 have h:∀(G:Nat) (N:ae) (m:List Nat) (i:Nat),bJ N++m=cu G i->size N<=i->bJ N=cu G (size N)/\m=cu (G+size N) (i-size N):=λG N m i D n=>by grind [kf,mi,hp]
 have Q:∀(N:ae) (G:Nat),bJ N=cu G (size N)->af N=G/\(kids N).flatMap bJ=cu (G+1) (size N-1):=λN G D=>by
  rw [dJ]at D;obtain⟨i,n⟩:∃i,size N=i+1:=⟨size N-1,by grind [size_pos]⟩
  grind [nH]
 intro N;induction N with
 |num b k=>intro G D;let⟨M,_⟩:=Q _ _ D;cases M;rfl
 |var b k=>intro G D;let⟨M,_⟩:=Q _ _ D;cases M;rfl
 |fn b x j g=>
  intro G D;let⟨M,A⟩:=Q _ _ D
  cases M;simp only [kids,cp,et,bZ,oE]at A;rw [aT,g _ (A.trans (by congr 1;omega))];rfl
 |fst b j g=>
  intro G D;let⟨M,A⟩:=Q _ _ D
  cases M;simp only [kids,cp,et,bZ,oJ]at A;rw [aT,g _ (A.trans (by congr 1;omega))];rfl
 |snd b j g=>
  intro G D;let⟨M,A⟩:=Q _ _ D
  cases M;simp only [kids,cp,et,bZ,oK]at A;rw [aT,g _ (A.trans (by congr 1;omega))];rfl
 |new b j g=>
  intro G D;let⟨M,A⟩:=Q _ _ D
  cases M;simp only [kids,cp,et,bZ,oL]at A;rw [aT,g _ (A.trans (by congr 1;omega))];rfl
 |get b j g=>
  intro G D;let⟨M,A⟩:=Q _ _ D
  cases M;simp only [kids,cp,et,bZ,oM]at A;rw [aT,g _ (A.trans (by congr 1;omega))];rfl
 |app b l a e f=>
  intro G D;let⟨M,A⟩:=Q _ _ D
  cases M;simp only [kids,cp,et,bZ,oF]at A;let⟨T,U⟩:=h _ _ _ _ A (by omega)
  rw [aT,e _ T,f _ (U.trans (by congr 1;omega))];rfl
 |letE b x l a e f=>
  intro G D;let⟨M,A⟩:=Q _ _ D
  cases M;simp only [kids,cp,et,bZ,oG]at A;let⟨T,U⟩:=h _ _ _ _ A (by omega)
  rw [aT,e _ T,f _ (U.trans (by congr 1;omega))];rfl
 |pair b l a e f=>
  intro G D;let⟨M,A⟩:=Q _ _ D
  cases M;simp only [kids,cp,et,bZ,oI]at A;let⟨T,U⟩:=h _ _ _ _ A (by omega)
  rw [aT,e _ T,f _ (U.trans (by congr 1;omega))];rfl
 |set b l a e f=>
  intro G D;let⟨M,A⟩:=Q _ _ D
  cases M;simp only [kids,cp,et,bZ,oN]at A;let⟨T,U⟩:=h _ _ _ _ A (by omega)
  rw [aT,e _ T,f _ (U.trans (by congr 1;omega))];rfl
 |add b l a e f=>
  intro G D;let⟨M,A⟩:=Q _ _ D
  cases M;simp only [kids,cp,et,bZ,oO]at A;let⟨T,U⟩:=h _ _ _ _ A (by omega)
  rw [aT,e _ T,f _ (U.trans (by congr 1;omega))];rfl
 |ifz b c r d e f o=>
  intro G D;let⟨M,A⟩:=Q _ _ D
  cases M;simp only [kids,cp,et,bZ,oH]at A;let⟨T,U⟩:=h _ _ _ _ A (by omega)
  let⟨p,q⟩:=h _ _ _ _ U (by omega);rw [aT,e _ T,f _ p,o _ (q.trans (by congr 1;omega))];rfl
theorem K2:∀(G:ae) (D:List dC),hW D G=I->bp G=I:=by
 intro G;induction G with
 |num b k=>intro D A;exact A
 |var b x=>intro D A;simp [hW,bz]at A;exact A.1
 |fn b x e f=>intro D A;simp [hW,bp,bz]at A⊢;grind
 |letE b x d e g h=>intro D A;simp [hW,bp,bz]at A⊢;grind
 |ifz b c j d g h l=>intro D A;simp [hW,bp,bz]at A⊢;grind
 |fst b e f|snd b e f|new b e f|get b e f=>intro D A;exact f D A
 |app b i a g h|pair b i a g h|set b i a g h|add b i a g h=>intro D A;simp [hW,bp,bz]at A⊢;grind
theorem K3:∀A:ae,dI A<(toks A).length:=by intro A;induction A<;>simp [dI,toks,dG,bB,jB]<;>omega
theorem qC(D:bp j=I):ha ((dn [] (bj j)).length+1) 0 (dn [] (bj j))=Y ⟨aT 0 j,size j,[]⟩:=by
 have G:=KY j D [] (.inl S);rw [bZ]at G;have M:dn [] ([]:ai)=[]:=rfl
 rw [M,bZ]at G;have N:=K1 j D ((toks j).length+1) 0 [] (by grind [K3])
 grind
theorem K4(D:me j=I):aT 0 j=j:=by have G:=(A4 D).cY;grind [hp,y8,vZ]
theorem qD:hX sw=Y j↔me j=I/\bj j=sw:=by
 unfold hX;constructor
 .intro M;simp only at M;cases a:ha ((dn [] sw).length+1) 0 (dn [] sw)with
  |none=>grind
  |some b=>
   grind
 .rintro⟨G,rfl⟩;have N:bp j=I:=by
   unfold me at G;rw [bz]at G;exact K2 _ _ G.1
  simp_all [qC,K4]
theorem Ba:Gi sw=Y j↔bp j=I/\bj j=sw/\aT 0 j=j:=by
 unfold Gi;constructor
 .intro A;simp only at A;cases a:ha ((dn [] sw).length+1) 0 (dn [] sw)with
  |none=>grind
  |some b=>
   rw [a]at A;simp only [gV]at A;split at A
   .rename_i M;cases A;simp [bz,iS]at M;let⟨_,N,Q⟩:=M
    subst Q;rw [qC N]at a;grind
   .cases A
 .rintro⟨N,rfl,T⟩;simp_all [qC]
theorem v3{y:ae}(D:bp j=I)(G:bp y=I)(M:bj j=bj y):aT 0 j=aT 0 y:=by
 have N:=qC D;have Q:=qC G
 grind
def bX:ai->ai->List ai
 |w,[]=>if w.isEmpty=I then []else [w]
 |w,a::b=>if fO a=I then(if w.isEmpty=I then []else [w])++([a]::bX [] b)else bX (w++[a]) b
theorem qE:∀(A D:ai),(bX D A).flatten=D++A
 |[],D=>by unfold bX;grind
 |b::A,D=>by
  unfold bX;split
  .rw [List.flatten_append,List.flatten_cons,qE A []];grind
  .rw [qE A (D++[b])];simp
def Bb:∀(A D G:ai),(A.all λM=> !fO M)=I->bX D (A++G)=bX (D++A) G
 |[],D,G,_=>by simp
 |M::A,D,G,a=>by simp_all [bX,Bb]
def K5(hw:Pv.isEmpty=ao)(G:ends sw):bX Pv sw=Pv::bX [] sw:=by
 rcases G with rfl|⟨a,sw,rfl,b⟩
 all_goals simp_all [bX]
def hF(G:jc sw=I)(M:ends Pv):bX [] (sw++Pv)=sw::bX [] Pv:=by simp_all [jc,Bb,K5]
def dj{A:UInt8}(G:fO A=I)(D:ai):bX [] (A::D)=[A]::bX [] D:=by simp_all [bX]
inductive Fm where
 |num|used|given|call|fn|letE|ifz|pair|fst|snd|new|get|set|add
deriving DecidableEq
def arity:Fm->Nat
 |.num=>0|.used=>0|.given=>0|.call=>2|.fn=>1|.letE=>2|.ifz=>3|.pair=>2|.fst=>1|.snd=>1|.new=>1|.get=>1|.set=>2|.add=>2
def dV(A:Fm):Bool:=match A with
 |.num=>I
 |.used=>I
 |.given=>I
 |_=>ao
def isBinder(A:Fm):Bool:=match A with
 |.fn=>I
 |.letE=>I
 |_=>ao
def fF:Fm->ai
 |.fn=>ay "fun"|.letE=>ay "let"|.ifz=>ay "if"|.pair=>ay "pair"|.fst=>ay "fst"|.snd=>ay "snd"|.new=>ay "new"|.get=>ay "get"|.set=>ay "set"|.add=>ay "add"
 |_=>[]
def ec(A:ai):Option Fm:=[Fm.fn,.letE,.ifz,.pair,.fst,.snd,.new,.get,.set,.add].find? λD=>fF D==A
def isNum(A:ai):Bool:=A==[48]||(!A.isEmpty&&(A.all iY&&(decide (A.length<=2)&&A.head? !=Y 48)))
def h9(A:ai):Bool:= !A.isEmpty&&(A.all kX&&(decide (A.length<=4)&&(ec A).isNone))
structure Info where
 aJ:Fm
 word:ai
 parent:Option Nat
 parts:List Nat
deriving DecidableEq
structure RS where
 ws:List ai
 nodes:List Info
 around:List Nat
def eo:List ai->Option (Fm×ai×List ai)
 |[]=>Y (.call,[],[])
 |w::a=>match ec w with
  |none=>Y (.call,[],w::a)
  |some k=>if isBinder k=I then(match a with
   |b::x::c=>if b=[32]then(if x=dq\/h9 x=ao then O else Y (k,x,c))else O
   |_=>O)else Y (k,[],a)
def head:List ai->Option (Fm×ai×List ai)
 |[]=>O
 |w::a=>if w=[40]then eo a else if isNum w=I then Y (.num,w,a)else if w=dq then Y (.given,[],a)else if h9 w=I then Y (.used,w,a)else O
def pass(A:ai):List ai->Option (List ai)
 |[]=>O
 |w::a=>if w=A then Y a else O
def attach(A:List Info)(G:List Nat)(M:Nat):List Info:=match G with
 |[]=>A
 |p::_=>A.modify p λD=>{D with parts:=D.parts++[M]}
def begin_(A:RS):Option RS:=if A.nodes.length=30\/8<A.around.length then O else(head A.ws).map λD=>
 ⟨D.2.2,attach A.nodes A.around A.nodes.length++[⟨D.1,D.2.1,A.around.head?,[]⟩],if dV D.1=I then A.around else A.nodes.length::A.around⟩
def hG(D:RS):Option RS:=match D.around with
 |[]=>O
 |p::A=>match D.nodes[p]? with
  |none=>O
  |some i=>if i.parts.length=arity i.aJ then(pass [41] D.ws).map λG=>⟨G,D.nodes,A⟩
   else((if i.aJ≠.call\/i.parts≠[]then pass [32] D.ws else Y D.ws)).bind λG=>begin_ ⟨G,D.nodes,p::A⟩
def jg:Nat->RS->Option RS
 |0,a=>if a.around=[]then Y a else O
 |n+1,a=>if a.around=[]then Y a else(hG a).bind (jg n)
def loop(A:RS):Option RS:=jg A.ws.length A
variable{wl UT:List ai}
theorem Bc(M:pass sw wl=Y UT):UT.length<wl.length:=by
 cases wl with
 |nil=>cases M
 |cons w a=>
  grind [pass]
variable{U2:Fm×ai×List ai}
theorem K6(A:head wl=Y U2):U2.2.2.length<wl.length:=by
 cases wl with
 |nil=>cases A
 |cons w a=>
  simp [head]at A;split at A
  .cases a with
   |nil=>cases A;simp
   |cons v b=>
    grind [eo]
  grind
def K7{D G:RS}(A:begin_ D=Y G):G.ws.length<D.ws.length:=by
 unfold begin_ at A;split at A
 .cases A
 .obtain⟨N,M,rfl⟩:=cm.mp A;exact K6 M
theorem qF{G S':RS}(A:hG G=Y S'):S'.ws.length<G.ws.length:=by
 unfold hG at A;split at A
 .cases A
 .split at A
  .cases A
  .split at A
   .obtain⟨M,D,rfl⟩:=cm.mp A;exact Bc D
   .let⟨M,D,N⟩:=fA.mp A;have:=K7 N
    split at D
    .have:=Bc D;grind
    grind
theorem v5:∀(D:Nat) (A:RS),A.ws.length<=D->jg D A=loop A
 |0,A,c=>by grind [loop]
 |D+1,A,c=>by
  unfold loop;cases d:A.ws.length with
  |zero=>
   unfold jg;by_cases G:A.around=[]
   .grind
   .rw [N G,N G];cases b:hG A with
    |none=>rfl
    |some a=>have:=qF b;omega
  |succ m=>
   show(if A.around=[]then Y A else(hG A).bind (jg D))=if A.around=[]then Y A else(hG A).bind (jg m);by_cases G:A.around=[]
   .grind
   .rw [N G,N G];cases b:hG A with
    |none=>rfl
    |some a=>
     have:=qF b;show jg D a=jg m a
     rw [v5 D a (by omega),v5 m a (by omega)]
theorem qG(A:RS):loop A=if A.around=[]then Y A else(hG A).bind loop:=by
 by_cases D:A.around=[]
 .rw [ak D];unfold loop;cases A.ws.length<;>(simp_all [jg])
 .rw [N D];unfold loop;cases c:A.ws.length with
  |zero=>
   unfold jg;rw [N D];cases a:hG A with
   |none=>rfl
   |some b=>have:=qF a;omega
  |succ m=>
   show(if A.around=[]then Y A else(hG A).bind (jg m))=_;rw [N D];cases a:hG A with
   |none=>rfl
   |some b=>
    have:=qF a;grind [v5]
def aA:ae->Fm
 |.num _ _=>.num
 |.var _ x=>if x=dq then .given else .used
 |.fn _ _ _=>.fn
 |.app _ _ _=>.call
 |.letE _ _ _ _=>.letE
 |.ifz _ _ _ _=>.ifz
 |.pair _ _ _=>.pair
 |.fst _ _=>.fst
 |.snd _ _=>.snd
 |.new _ _=>.new
 |.get _ _=>.get
 |.set _ _ _=>.set
 |.add _ _ _=>.add
def wordOf:ae->ai
 |.num _ n=>d7 n
 |.var _ x=>if x=dq then []else x
 |.fn _ x _=>x
 |.letE _ x _ _=>x
 |_=>[]
def cZ(D:Option Nat)(A:ae):Info:=⟨aA A,wordOf A,D,(kids A).map af⟩
def infos:Option Nat->ae->List Info
 |p,.num b n=>[cZ p (.num b n)]
 |p,.var b x=>[cZ p (.var b x)]
 |p,.fn b x e=>cZ p (.fn b x e)::infos (Y b) e
 |p,.app b f a=>cZ p (.app b f a)::(infos (Y b) f++infos (Y b) a)
 |p,.letE b x d e=>cZ p (.letE b x d e)::(infos (Y b) d++infos (Y b) e)
 |p,.ifz b c g d=>cZ p (.ifz b c g d)::(infos (Y b) c++(infos (Y b) g++infos (Y b) d))
 |p,.pair b a e=>cZ p (.pair b a e)::(infos (Y b) a++infos (Y b) e)
 |p,.fst b d=>cZ p (.fst b d)::infos (Y b) d
 |p,.snd b d=>cZ p (.snd b d)::infos (Y b) d
 |p,.new b d=>cZ p (.new b d)::infos (Y b) d
 |p,.get b d=>cZ p (.get b d)::infos (Y b) d
 |p,.set b h d=>cZ p (.set b h d)::(infos (Y b) h++infos (Y b) d)
 |p,.add b a e=>cZ p (.add b a e)::(infos (Y b) a++infos (Y b) e)
def oP(D:Option Nat)(A:ae):infos D A=cZ D A::(kids A).flatMap (infos (Y (af A))):=by cases A<;>simp [infos,kids,af]
theorem e7:∀(A:ae) (D:Option Nat),(infos D A).length=size A:=by intro A;induction A<;>intro D<;>simp [infos,dG,bB,jB,A5,A6,oE,oF,oG,oH,oI,oJ,oK,oL,oM,oN,oO, *]<;>omega
def lH(G:Fm)(A:Nat)(D:ai)(M:List ae):Option ae:=match G,M with
 |.num,[]=>Y (.num A (hY D))
 |.used,[]=>Y (.var A D)
 |.given,[]=>Y (.var A dq)
 |.fn,[b]=>Y (.fn A D b)
 |.call,[a,b]=>Y (.app A a b)
 |.letE,[a,b]=>Y (.letE A D a b)
 |.ifz,[a,b,c]=>Y (.ifz A a b c)
 |.pair,[a,b]=>Y (.pair A a b)
 |.fst,[a]=>Y (.fst A a)
 |.snd,[a]=>Y (.snd A a)
 |.new,[a]=>Y (.new A a)
 |.get,[a]=>Y (.get A a)
 |.set,[a,b]=>Y (.set A a b)
 |.add,[a,b]=>Y (.add A a b)
 |_,_=>O
def hH(D:Nat->List ai->Option (ae×List ai))(G:Fm):Nat->Nat->Nat->List ai->Option (List ae×List ai)
 |0,_,_,ws=>Y ([],ws)
 |k+1,a,b,ws=>(if G≠.call\/a≠0 then pass [32] ws else Y ws).bind λN=>(D b N).bind λA=>(hH D G k (a+1) (b+size A.1) A.2).bind λM=>Y (A.1::M.1,M.2)
def gZ:Nat->Nat->Nat->List ai->Option (ae×List ai)
 |0,_,_,_=>O
 |fuel+1,d,a,ws=>if a=30\/8<d then O else(head ws).bind λA=>
  if dV A.1=I then(lH A.1 a A.2.1 []).map λD=>(D,A.2.2)
  else(hH (gZ fuel (d+1)) A.1 (arity A.1) 0 (a+1) A.2.2).bind λG=>(pass [41] G.2).bind λM=>(lH A.1 a A.2.1 G.1).map λD=>(D,M)
variable{UZ:Nat->List ai->Option (ae×List ai)}
def v7{U:Fm}:∀{D M N:Nat} {Q:List ai} {G:List ae×List ai},hH UZ U D M N Q=Y G->G.1.length=D
 |0,_,_,_,_,A=>by cases A;rfl
 |D+1,M,N,Q,G,A=>by
  simp only [hH]at A;obtain⟨b,_,A⟩:=fA.mp A;let⟨c,_,A⟩:=fA.mp A
  let⟨d,a,A⟩:=fA.mp A;cases A;simp [v7 a]
def Bd{G:Fm}{l:Nat}{x:ai}{A:List ae}(D:A.length=arity G):∃M,lH G l x A=Y M:=by
 cases G<;>simp only [arity]at D<;>first
  |(obtain rfl:=mc.mp D;exact⟨_,rfl⟩)
  |(match A,D with|[a],_=>exact⟨_,rfl⟩)
  |(match A,D with|[a,b],_=>exact⟨_,rfl⟩)
  |(match A,D with|[a,b,c],_=>exact⟨_,rfl⟩)
structure Made(D:Fm)(G:Nat)(x:ai)(M:List ae)(A:ae):Prop where
 fm:aA A=D
 wd:wordOf A=x
 ks:kids A=M
 lb:af A=G
def Be(D:Fm)(A:ai):Prop:=match D with
 |.num=>d7 (hY A)=A
 |.used=>A≠dq
 |.fn=>True
 |.letE=>True
 |_=>A=[]
def lI{D:Fm}{T:List ae}(M:lH D r sw T=Y j)(A:Be D sw):Made D r sw T j:=by
 unfold lH at M;split at M<;>cases M<;>first
  |exact⟨rfl,rfl,rfl,rfl⟩
  |exact⟨rfl,A.symm,rfl,rfl⟩
  |exact⟨rfl,A,rfl,rfl⟩
  |exact⟨N A,N A,rfl,rfl⟩
  |exact⟨ak rfl,(ak rfl).trans A.symm,rfl,rfl⟩
theorem sx:∀N:ai,isNum N=I->d7 (hY N)=N/\hY N<=99:=by
 have k:∀A D:UInt8,iY A=I->iY D=I->A≠48->d7 (hY [A,D])=[A,D]/\hY [A,D]<=99:=by
  have:∀A D:Fin 10,A≠0->d7 (hY [ek (48+A.val),ek (48+D.val)])=[ek (48+A.val),ek (48+D.val)]/\hY [ek (48+A.val),ek (48+D.val)]<=99:=by decide+kernel
  intro A D M Q g;unfold iY at M Q;simp only [bz,ka,RZ]at M Q;have T:(48:UInt8).toNat=48:=rfl
  have U:(57:UInt8).toNat=57:=rfl;rw [T,U]at M Q;have a:A=ek (48+(A.toNat-48)):=by apply uD.mp;rw [y9];omega
  have h:D=ek (48+(D.toNat-48)):=by apply uD.mp;rw [y9];omega
  have:=this ⟨A.toNat-48,by omega⟩ ⟨D.toNat-48,by omega⟩ (by
   intro i;have:=bN Fin.val i
   simp [Fin.val_zero]at this;apply g;apply uD.mp;grind)
  simp [<-a,<-h]at this;exact this
 have j:∀A:UInt8,iY A=I->d7 (hY [A])=[A]/\hY [A]<=99:=by
  have:∀A:Fin 10,d7 (hY [ek (48+A.val)])=[ek (48+A.val)]/\hY [ek (48+A.val)]<=99:=by decide+kernel
  intro A M;unfold iY at M;simp only [bz,ka,RZ]at M;have T:(48:UInt8).toNat=48:=rfl
  have U:(57:UInt8).toNat=57:=rfl;rw [T,U]at M;have a:A=ek (48+(A.toNat-48)):=by apply uD.mp;rw [y9];omega
  have:=this ⟨A.toNat-48,by omega⟩;simp only [<-a]at this;exact this
 intro N G;unfold isNum at G;rw [yE]at G;rcases G with G|G
 .rw [eq_of_beq G];exact j 48 (by decide)
 .simp only [bz,ka]at G;let⟨d,b,e,f⟩:=G
  match N,d,b,e,f with
  |[],d,_,_,_=>grind
  |[A],_,b,_,_=>grind
  |[A,D],_,b,_,f=>
   grind
  |A::D::c::l,_,_,e,_=>grind
def qH(A:head wl=Y U2):Be U2.1 U2.2.1:=by
 cases wl with
 |nil=>cases A
 |cons w a=>
  simp [head]at A;split at A
  .cases a with
   |nil=>cases A;rfl
   |cons v c=>
    simp [eo]at A;split at A
    .cases A;rfl
    .rename_i N Q;have T:=fL Q
     split at A
     .rename_i G;split at A
      .split at A
       .split at A
        .cases A
        .cases A;cases N<;>first|trivial|exact absurd G (by decide)
       .cases A
      .cases A
     .rename_i G;cases A;cases N<;>first|rfl|(simp at T;done)|exact absurd rfl G
  .split at A
   .rename_i U;cases A;exact(sx _ U).1
   .split at A
    .cases A;rfl
    .rename_i b;split at A
     .cases A;exact b
     .cases A
theorem oQ(A:List Info)(D:List Nat)(G:Nat):(attach A D G).length=A.length:=by unfold attach;grind
theorem sy(N:s2->s2):∀(A:List s2) (D:s2) (G:List s2),(A++D::G).modify A.length N=A++N D::G
 |[],D,G=>rfl
 |b::A,D,G=>by show b::(A++D::G).modify A.length N=_;rw [sy N A D G];rfl
def K8:∀{Q S D:Nat} {T:List ai} {G:ae} {U:List ai},gZ Q S D T=Y (G,U)->af G=D
 |0,_,_,_,_,_,A=>by cases A
 |Q+1,S,D,T,G,U,A=>by
  simp only [gZ]at A;split at A
  .cases A
  .obtain⟨c,a,A⟩:=fA.mp A;split at A
   .let⟨b,M,N⟩:=cm.mp A;cases N;exact(lI M (qH a)).lb
   .let⟨d,e,A⟩:=fA.mp A;let⟨f,g,A⟩:=fA.mp A
    let⟨b,M,N⟩:=cm.mp A;cases N;exact(lI M (qH a)).lb
theorem K9{pE:Nat->List ai->Option (ae×List ai)}{d1:Nat}(h:∀a G Q U,pE a G=Y (Q,U)->af Q=a)(i:∀(a:Nat) (G:List ai) (d:List Info) (A:List Nat),d1=A.length->a=d.length->(begin_ ⟨G,d,A⟩).bind loop=(pE a G).bind λc=>loop ⟨c.2,attach d A a++infos A.head? c.1,A⟩){fm:Fm} {x:ai} {p:Option Nat} {N0:List Info} {A:List Nat} (j:d1=A.length+1):∀(b T:Nat) (G:List ai) (M:List Nat) (D:List Info),M.length=T->T+b=arity fm->loop ⟨G,N0++⟨fm,x,p,M⟩::D,N0.length::A⟩=(hH pE fm b T (N0.length+1+D.length) G).bind λe=>(pass [41] e.2).bind λU=>loop ⟨U,N0++⟨fm,x,p,M++e.1.map af⟩::(D++e.1.flatMap (infos (Y N0.length))),A⟩:=by
 intro b;induction b with
 |zero=>
  intro T G M D g k;rw [qG,N (by simp)];have f:(N0++(⟨fm,x,p,M⟩:Info)::D)[N0.length]?=Y ⟨fm,x,p,M⟩:=by rw [hT (aX _),kY];rfl
  simp [hG,f];rw [ak (by grind)];simp [hH,gV];cases pass [41] G with
  |none=>rfl
  |some U=>simp
 |succ b l=>
  intro T G M D g k;rw [qG,N (by simp)];have f:(N0++(⟨fm,x,p,M⟩:Info)::D)[N0.length]?=Y ⟨fm,x,p,M⟩:=by rw [hT (aX _),kY];rfl
  simp [hG,f];rw [N (show¬M.length=arity fm by omega)];have m:(if fm≠.call\/M≠[]then pass [32] G else Y G)=(if fm≠.call\/T≠0 then pass [32] G else Y G):=by
   by_cases s:fm≠.call\/T≠0
   .grind
   .grind
  simp [hH];rw [m];cases t:(if fm≠.call\/T≠0 then pass [32] G else Y G)with
  |none=>rfl
  |some U=>
   simp [gV];have n:(N0++(⟨fm,x,p,M⟩:Info)::D).length=N0.length+1+D.length:=by simp;omega
   rw [i (N0.length+1+D.length) U (N0++⟨fm,x,p,M⟩::D) (N0.length::A) (by simpa using j) n.symm];cases o:pE (N0.length+1+D.length) U with
   |none=>rfl
   |some c=>
    let⟨Q,q⟩:=c;simp [gV,R0];have r:attach (N0++(⟨fm,x,p,M⟩:Info)::D) (N0.length::A) (N0.length+1+D.length)++infos (Y N0.length) Q=N0++⟨fm,x,p,M++[af Q]⟩::(D++infos (Y N0.length) Q):=by simp [attach];rw [sy,h _ _ _ _ o];simp
    rw [r,l (T+1) q (M++[af Q]) (D++infos (Y N0.length) Q) (by simp [g]) (by omega)];have u:N0.length+1+(D++infos (Y N0.length) Q).length=N0.length+1+D.length+size Q:=by rw [bB,e7];omega
    grind
theorem sim:∀(a c T:Nat) (U:List ai) (M:List Info) (D:List Nat),9<=a+c->c=D.length->T=M.length->(begin_ ⟨U,M,D⟩).bind loop=(gZ a c T U).bind λG=>loop ⟨G.2,attach M D T++infos D.head? G.1,D⟩
 |0,c,T,U,M,D,i,hd,e=>by unfold begin_;rw [ak (.inr (by grind))];rfl
 |a+1,c,T,U,M,D,i,hd,e=>by
  unfold begin_;simp only [gZ];rw [hd,e];by_cases f:M.length=30\/8<D.length
  .grind
  .rw [N f,N f];cases j:head U with
   |none=>rfl
   |some G=>
    simp only [ma,gV];have g:=qH j
    by_cases b:dV G.1=I
    .rw [ak b,ak b];have k:([]:List ae).length=arity G.1:=by
      cases m:G.1<;>rw [m]at b<;>first|rfl|exact absurd b (by decide)
     let⟨n,d⟩:=Bd (l:=M.length) (x:=G.2.1) k;have Q:=lI d g
     rw [d];simp [ma,gV];rw [oP,Q.ks];unfold cZ;rw [Q.fm,Q.wd,Q.ks];rfl
    .rw [N b,N b];have h:=K9 (pE:=gZ a (D.length+1)) (d1:=D.length+1) (λ_ _ _ _ o=>K8 o) (λT U M q r s=>sim a (D.length+1) T U M q (by omega) r s)
      (fm:=G.1) (x:=G.2.1) (p:=D.head?) (N0:=attach M D M.length) (A:=D) S (arity G.1) 0 G.2.2 [] [] S (by omega)
     rw [oQ]at h;have t:attach M D M.length++[(⟨G.1,G.2.1,D.head?,[]⟩:Info)]=attach M D M.length++(⟨G.1,G.2.1,D.head?,[]⟩:Info)::[]:=rfl
     rw [t,h];simp [jB,ke,cV];cases u:hH (gZ a (D.length+1)) G.1 (arity G.1) 0 (M.length+1) G.2.2 with
     |none=>rfl
     |some v=>
      simp [gV];cases w:pass [41] v.2 with
      |none=>rfl
      |some y=>
       simp [gV];let⟨n,d⟩:=Bd (l:=M.length) (x:=G.2.1) (v7 u)
       have Q:=lI d g;rw [d];simp [ma,gV];rw [oP,Q.ks,Q.lb];unfold cZ;rw [Q.fm,Q.wd,Q.ks]
def runM(D:List ai):Option (List Info):=((begin_ ⟨D,[],[]⟩).bind loop).bind λA=>if A.ws=[]then Y A.nodes else O
def La(A:List ai):runM A=(gZ 9 0 0 A).bind λD=>if D.2=[]then Y (infos O D.1)else O:=by
 unfold runM;rw [sim 9 0 0 A [] [] (by omega) S rfl];cases gZ 9 0 0 A with
 |none=>rfl
 |some D=>
  simp [gV,attach,List.head?_nil,cV];rw [qG,ak S];rfl
def hI(A:Fm)(D:ai):List ai:=if dV A=I then(if A=.given then [dq]else [D])else if A=.call then [[40]]else if isBinder A=I then [[40],fF A,[32],D]else [[40],fF A]
def dv(A:Fm):Nat->List (List ai)->List ai
 |_,[]=>[]
 |j,w::a=>(if A≠.call\/j≠0 then [[32]]else [])++(w++dv A (j+1) a)
def aY:ae->List ai
 |.num _ n=>[d7 n]
 |.var _ x=>[x]
 |.fn _ x d=>[40]::ay "fun"::[32]::x::[32]::(aY d++[[41]])
 |.app _ e a=>[40]::(aY e++[32]::(aY a++[[41]]))
 |.letE _ x b d=>[40]::ay "let"::[32]::x::[32]::(aY b++[32]::(aY d++[[41]]))
 |.ifz _ c f b=>[40]::ay "if"::[32]::(aY c++[32]::(aY f++[32]::(aY b++[[41]])))
 |.pair _ a d=>[40]::ay "pair"::[32]::(aY a++[32]::(aY d++[[41]]))
 |.fst _ b=>[40]::ay "fst"::[32]::(aY b++[[41]])
 |.snd _ b=>[40]::ay "snd"::[32]::(aY b++[[41]])
 |.new _ b=>[40]::ay "new"::[32]::(aY b++[[41]])
 |.get _ b=>[40]::ay "get"::[32]::(aY b++[[41]])
 |.set _ g b=>[40]::ay "set"::[32]::(aY g++[32]::(aY b++[[41]]))
 |.add _ a d=>[40]::ay "add"::[32]::(aY a++[32]::(aY d++[[41]]))
theorem qI(D:ae):dV (aA D)=I↔(∃A G,D=.num A G)\/∃A M,D=.var A M:=by
 cases D with
 |num A G=>exact⟨λ_=>.inl ⟨A,G,S⟩,λ_=>S⟩
 |var A M=>
  refine⟨λ_=>.inr ⟨A,M,S⟩,λ_=> ?_⟩;simp [aA];split<;>rfl
 |_=>exact⟨λN=>iq (show ao=I from N),λN=>by grind⟩
def Bg(Q:dV (aA j)=I):aY j=hI (aA j) (wordOf j):=by
 rcases(qI j).mp Q with⟨D,U,rfl⟩|⟨D,x,rfl⟩
 .rfl
 .by_cases G:x=dq
  .have M:aA (.var D x)=.given:=ak G;rw [M,G];rfl
  .have M:aA (.var D x)=.used:=N G;have T:wordOf (.var D x)=x:=N G
   rw [M,T];rfl
theorem oR(D:¬dV (aA j)=I):aY j=hI (aA j) (wordOf j)++(dv (aA j) 0 ((kids j).map aY)++[[41]]):=by
 cases j with
 |num a n=>exact absurd rfl D
 |var a x=>exact absurd ((qI _).mpr (.inr ⟨a,x,S⟩)) D
 |_=>simp [aY,aA,wordOf,hI,dV,isBinder,fF,kids,dv]
theorem kw_none{t:ai}:(ec t).isNone= !nP.contains t:=by
 have A:nP=[Fm.fn,.letE,.ifz,.pair,.fst,.snd,.new,.get,.set,.add].map fF:=by decide
 grind [ec]
theorem oS(A:ai):h9 A=gE A:=by grind [h9,gE,kw_none,Ua]
theorem Bh(D:r<=99):isNum (d7 r)=I/\hY (d7 r)=r:=by
 have:∀r:Fin 100,isNum (d7 r)=I/\hY (d7 r)=r.val:=by decide+kernel
 exact this ⟨r,by omega⟩
def oT:ae->Bool
 |.num _ n=>decide (n<=99)
 |.var _ x=>gE x
 |.fn _ x _=>gE x&&x !=dq
 |.letE _ x _ _=>gE x&&x !=dq
 |_=>I
def mF(A:ae):bp A=I↔oT A=I/\∀G∈kids A,bp G=I:=by cases A<;>(try exact⟨λD=>⟨D,λ_ M=>(nomatch M)⟩,λD=>D.1⟩)<;>simp [bp,oT,kids,Ub,bz,bb,ej,fy,forall_eq_or_imp,forall_eq,false_implies,implies_true,and_true,true_and,and_assoc,uE]
theorem Bi(G:rc∈kids j):dI rc<dI j:=by
 cases j<;>simp [kids,bb,ej,fy]at G<;>try exact G.elim
 all_goals grind [dI]
 all_goals grind
def Lb(G:∀M∈kids j,dI M<=r):dI j<=r+1:=by cases j<;>simp [kids,bb,ej,fy,forall_eq_or_imp,forall_eq]at G<;>simp [dI]<;>omega
def Bj(D:dV (aA j)=I):dI j=0/\size j=1/\kids j=[]:=by rcases(qI j).mp D with⟨G,M,rfl⟩|⟨G,x,rfl⟩<;>exact⟨rfl,rfl,rfl⟩
theorem qJ:pass sw wl=Y UT↔wl=sw::UT:=by
 cases wl with
 |nil=>simp [pass]
 |cons w a=>
  grind [pass]
theorem Lc{G:Fm}(D:head wl=Y (G,sw,UT)):wl=hI G sw++UT/\(G=.num->isNum sw=I)/\(G=.used->h9 sw=I)/\(isBinder G=I->h9 sw=I/\sw≠dq):=by
 cases wl with
 |nil=>cases D
 |cons w a=>
  simp [head]at D;split at D
  .rename_i d;subst d;cases a with
   |nil=>cases D;exact⟨S,(λA=>nomatch A),(λA=>nomatch A),λA=>absurd A (by decide)⟩
   |cons v a=>
    simp [eo]at D;split at D
    .cases D;exact⟨S,(λA=>nomatch A),(λA=>nomatch A),λA=>absurd A (by decide)⟩
    .rename_i e b;have f:=fL b
     have c:fF e=v:=by simpa using mh b
     split at D
     .rename_i N;split at D
      .split at D
       .rename_i g;split at D
        .cases D
        .rename_i h;cases D;subst g c;refine⟨?_, ?_, ?_,λ_=>⟨?_,λA=>h (.inl A)⟩⟩
         .cases G<;>first|rfl|exact absurd N (by decide)
         .intro A;simp_all
         all_goals grind
       .cases D
      .cases D
     .rename_i N;cases D;subst c;refine⟨?_, ?_, ?_,λA=>absurd A N⟩
      .cases G<;>first|rfl|(simp at f;done)|exact absurd rfl N
      .intro A;simp_all
      .intro A;simp_all
  .split at D
   .rename_i T;cases D;exact⟨S,λ_=>T,(λA=>nomatch A),λA=>absurd A (by decide)⟩
   .split at D
    .rename_i i;cases D;rw [i];exact⟨S,(λA=>nomatch A),(λA=>nomatch A),λA=>absurd A (by decide)⟩
    .split at D
     .rename_i T;cases D;exact⟨S,(λA=>nomatch A),λ_=>T,λA=>absurd A (by decide)⟩
     .cases D
structure Reads(d D:Nat)(A:ae):Prop where
 told:bp A=I
 deep:d+dI A<=8
 sz:D+size A<=30
 qK:bJ A=cu D (size A)
theorem v8{e:Fm}(g:∀A N M Q,A<=30->UZ A N=Y (M,Q)->N=aY M++Q/\Reads r A M):∀(b T A:Nat) (N:List ai) (G:List ae) (Q:List ai),A<=30->hH UZ e b T A N=Y (G,Q)->N=dv e T (G.map aY)++Q/\(∀M∈G,bp M=I/\r+dI M<=8)/\G.flatMap bJ=cu A ((G.map size).sum)/\(G≠[]->A+(G.map size).sum<=30)
 |0,T,A,N,G,Q,a,D=>by cases D;exact⟨S,(λ_ c=>nomatch c),S,λc=>absurd rfl c⟩
 |b+1,T,A,N,G,Q,a,D=>by
  simp only [hH]at D;obtain⟨s,h,D⟩:=fA.mp D;let⟨⟨M,k⟩,l,D⟩:=fA.mp D
  let⟨⟨i,m⟩,n,D⟩:=fA.mp D;cases D;let⟨o,U⟩:=g _ _ _ _ a l
  let⟨p,t,q,u⟩:=v8 g b (T+1) (A+size M) k i m U.sz n;refine⟨?_,λv j=> ?_, ?_,λ_=> ?_⟩
  .simp [aV,dv];split at h
   .rename_i a;rw [ak a,qJ.mp h,o,p];simp
   grind
  .rcases bb.mp j with rfl|j
   .exact⟨U.told,U.deep⟩
   grind
  .rw [cp,U.qK,q,aV,fz,kf]
  .rw [aV,fz];by_cases d:i=[]
   .subst d;have:=U.sz
    simp;omega
   grind
theorem sA:∀(f T N:Nat) (a:List ai) (D:ae) (b:List ai),N<=30->gZ f T N a=Y (D,b)->a=aY D++b/\Reads T N D
 |0,_,_,_,_,_,_,A=>by cases A
 |f+1,T,N,a,D,b,F,A=>by
  simp only [gZ]at A;split at A
  .cases A
  .rename_i H;obtain⟨⟨i,j,K⟩,k,A⟩:=fA.mp A;let⟨q,r,L,l⟩:=Lc k
   have m:=qH k;dsimp only at A;have n:∀{U:List ae} {D:ae},lH i N j U=Y D->oT D=I:=by
    intro U D M;unfold lH at M;split at M<;>cases M<;>simp only [oT]
    .exact ck (sx j (r S)).2
    .rw [<-oS];grind
    .decide
    .let⟨s,t⟩:=l S;grind [oS]
    .let⟨s,t⟩:=l S;grind [oS]
   split at A
   .rename_i g;let⟨u,M,c⟩:=cm.mp A
    cases c;have G:=lI M m
    have e:dV (aA D)=I:=by rwa [G.fm]
    let⟨P,v,w⟩:=Bj e;refine⟨by rwa [Bg e,G.fm,G.wd],(mF D).mpr ⟨n M,by grind⟩,by omega, ?_, ?_⟩
    .grind
    .rw [dJ,w,v,G.lb];rfl
   .rename_i g;let⟨⟨U,R⟩,o,A⟩:=fA.mp A
    let⟨V,p,A⟩:=fA.mp A;let⟨u,M,c⟩:=cm.mp A
    cases c;have G:=lI M m
    have e:¬dV (aA D)=I:=by rwa [G.fm]
    let⟨x,y,z,W⟩:=v8 (λN a D b B A=>sA f (T+1) N a D b B A) _ _ _ _ _ _ (by omega) o;have h:=v7 o
    dsimp only at M p G;have C:U≠[]:=by intro c;rw [c]at h;cases E:i<;>rw [E]at h g<;>first|(simp [arity]at h;done)|exact absurd rfl g
    have hsz:Cf.size D=1+(U.map Cf.size).sum:=by rw [size_eq,G.ks]
    refine⟨?_,(mF D).mpr ⟨n M,λd Q=> ?_⟩, ?_, ?_, ?_⟩
    .rw [oR e,G.fm,G.wd,G.ks];rw [q,x,qJ.mp p];simp
    .rw [G.ks]at Q;grind
    .have Q:∀d∈kids D,dI d<=7-T:=λd Q=>by
      rw [G.ks]at Q;grind
     have X:T<=7:=by
      let⟨d,Q⟩:=List.exists_mem_of_ne_nil U C;have:=(y d Q).2
      omega
     have:=Lb Q;omega
    .grind
    .rw [dJ,G.ks,G.lb,z,hsz,y7 1,nH]
def Ld:∀A:ae,bp A=I->∃G Q,aY A=G::Q/\ec G=O:=by
 intro A M;have N:∀D:ai,nP.contains D=ao->ec D=O:=λD T=>by have:=kw_none (t:=D);simp_all
 cases A
 case num a n=>exact⟨_,_,S,N _ (kB (eQ M)).2.2.2.2⟩
 case var a x=>exact⟨_,_,S,N _ (A8 M)⟩
 all_goals exact⟨_,_,S,by decide⟩
theorem Le(D:gE sw=I):isNum sw=ao:=by
 cases a:isNum sw with
 |false=>rfl
 |true=>
  have:=(sx sw a).1;grind [name_num,kB,sx]
theorem Bk(f:bp j=I)(A:List ai)(g:aA j=.call->∃G M,A=G::M/\ec G=O):head (hI (aA j) (wordOf j)++A)=Y (aA j,wordOf j,A):=by
 obtain⟨hw,_⟩:=(mF j).mp f;cases j with
 |num b n=>
  have h:n<=99:=eQ hw;show head (d7 n::A)=Y (.num,d7 n,A)
  simp_all [head,kB,Bh]
 |var b x=>
  have hw:gE x=I:=hw;by_cases Q:x=dq
  .have T:aA (.var b x)=.given:=ak Q;have U:wordOf (.var b x)=[]:=ak Q
   rw [T,U];show head (dq::A)=Y (.given,[],A)
   rw [head,N (by decide),N (by decide),ak S]
  .have T:aA (.var b x)=.used:=N Q;have U:wordOf (.var b x)=x:=N Q
   rw [T,U];show head (x::A)=Y (.used,x,A)
   simp_all [head,su,Le,oS]
 |fn b x e=>
  simp only [oT,bz,uE]at hw;show head ([40]::ay "fun"::[32]::x::A)=Y (.fn,x,A)
  rw [head,ak S];simp only [eo,show ec (ay "fun")=Y .fn by decide,isBinder,eP];simp_all [oS]
 |letE b x d e=>
  simp only [oT,bz,uE]at hw;show head ([40]::ay "let"::[32]::x::A)=Y (.letE,x,A)
  rw [head,ak S];simp only [eo,show ec (ay "let")=Y .letE by decide,isBinder,eP];simp_all [oS]
 |app b i a=>
  obtain⟨G,M,rfl,D⟩:=g S;show head ([40]::G::M)=Y (.call,[],G::M)
  rw [head,ak S];grind [eo]
 |ifz b c k d=>show head ([40]::ay "if"::A)=_;rw [head,ak S];simp [eo,show ec (ay "if")=Y .ifz by decide,isBinder,aA,wordOf]
 |pair b a e=>show head ([40]::ay "pair"::A)=_;rw [head,ak S];simp [eo,show ec (ay "pair")=Y .pair by decide,isBinder,aA,wordOf]
 |fst b a=>show head ([40]::ay "fst"::A)=_;rw [head,ak S];simp [eo,show ec (ay "fst")=Y .fst by decide,isBinder,aA,wordOf]
 |snd b a=>show head ([40]::ay "snd"::A)=_;rw [head,ak S];simp [eo,show ec (ay "snd")=Y .snd by decide,isBinder,aA,wordOf]
 |new b a=>show head ([40]::ay "new"::A)=_;rw [head,ak S];simp [eo,show ec (ay "new")=Y .new by decide,isBinder,aA,wordOf]
 |get b a=>show head ([40]::ay "get"::A)=_;rw [head,ak S];simp [eo,show ec (ay "get")=Y .get by decide,isBinder,aA,wordOf]
 |set b a e=>show head ([40]::ay "set"::A)=_;rw [head,ak S];simp [eo,show ec (ay "set")=Y .set by decide,isBinder,aA,wordOf]
 |add b a e=>show head ([40]::ay "add"::A)=_;rw [head,ak S];simp [eo,show ec (ay "add")=Y .add by decide,isBinder,aA,wordOf]
theorem Lf(M:bp j=I):lH (aA j) (af j) (wordOf j) (kids j)=Y j/\(kids j).length=arity (aA j):=by
 cases j with
 |num a n=>
  have T:n<=99:=eQ M;refine⟨?_,S⟩;show Y (Uc a (hY (d7 n)))=_
  grind [Bh]
 |var a x=>
  by_cases D:x=dq
  .have G:aA (.var a x)=.given:=ak D;rw [G,D];exact⟨S,S⟩
  .have G:aA (.var a x)=.used:=N D;have Q:wordOf (.var a x)=x:=N D
   rw [G,Q];exact⟨S,S⟩
 |_=>exact⟨S,S⟩
theorem Bl{N:Fm}:∀(D:List ae) (G M:Nat) (Q:List ai),(∀(A:ae) (c:Nat) (T:List ai),A∈D->bJ A=cu c (size A)->M<=c->c+size A<=M+(D.map size).sum->UZ c (aY A++T)=Y (A,T))->D.flatMap bJ=cu M ((D.map size).sum)->hH UZ N D.length G M (dv N G (D.map aY)++Q)=Y (D,Q)
 |[],G,M,Q,_,_=>rfl
 |A::D,G,M,Q,H,a=>by
  rw [cp,aV,fz]at a;have b:cu M (size A+(D.map size).sum)=cu M (size A)++cu (M+size A) ((D.map size).sum):=by rw [kf]
  rw [b]at a;let⟨d,e⟩:=mi a (by rw [hp,uF])
  simp only [dG,aV,dv,hH];have f:(if N≠.call\/G≠0 then pass [32] ((if N≠.call\/G≠0 then [[32]]else [])++(aY A++dv N (G+1) (D.map aY))++Q)else Y ((if N≠.call\/G≠0 then [[32]]else [])++(aY A++dv N (G+1) (D.map aY))++Q))=Y (aY A++(dv N (G+1) (D.map aY)++Q)):=by
   by_cases g:N≠.call\/G≠0
   .simp [ak g];exact qJ.mpr (by simp)
   .grind
  rw [f];simp [gV];rw [H A M _ bY d (aX _) (by grind)];simp [gV];rw [Bl D (G+1) (M+size A) Q (λh c T i j k l=>H h c T (bM _ i) j (by omega) (by grind)) e];rfl
theorem Bm:∀(U:Nat) (A:ae),gk A<=U->∀(M b Q:Nat) (D:List ai),Reads b Q A->dI A<M->gZ M b Q (aY A++D)=Y (A,D):=by
 intro U;induction U with
 |zero=>intro A g;cases A<;>simp at g
 |succ U k=>
  intro A g M b Q D G y;obtain⟨M,rfl⟩:∃l,M=l+1:=⟨M-1,by omega⟩
  have z:af A=Q:=by
   have:=G.qK;rw [dJ]at this;obtain⟨h,m⟩:∃h,size A=h+1:=⟨size A-1,by grind [size_pos]⟩
   rw [m,nH]at this;exact(rp this).1
  have hsz:=size_pos A;have B:=G.sz
  have C:=G.deep;let⟨E,n⟩:=Lf G.told
  simp only [gZ];rw [N (by omega)];by_cases T:dV (aA A)=I
  .rw [Bg T,Bk G.told D (λo=>by rw [o]at T;exact absurd T (by decide))];simp_all [Bj]
  .rw [oR T];have i:=((mF A).mp G.told).2
   have p:head (hI (aA A) (wordOf A)++(dv (aA A) 0 ((kids A).map aY)++([41]::D)))=Y (aA A,wordOf A,dv (aA A) 0 ((kids A).map aY)++([41]::D)):=by
    refine Bk G.told _ λq=> ?_;cases A with
    |app r d a=>
     let⟨s,e,F,t⟩:=Ld d (i d (by simp [kids]));refine⟨s,e++(dv .call 1 [aY a]++([41]::D)), ?_,t⟩;show dv .call 0 [aY d,aY a]++([41]::D)=_
     grind [dv]
    |var r x=>
     grind [aA]
    |_=>cases q
   have u:hI (aA A) (wordOf A)++(dv (aA A) 0 ((kids A).map aY)++[[41]])++D=hI (aA A) (wordOf A)++(dv (aA A) 0 ((kids A).map aY)++([41]::D)):=by simp
   rw [u,p];simp only [gV];rw [N T,<-n];have v:(kids A).flatMap bJ=cu (Q+1) (((kids A).map size).sum):=by have:=G.qK;rw [dJ,size_eq,y7 1,nH]at this;exact(rp this).2
   have H:=size_eq A;rw [Bl (kids A) 0 (Q+1) ([41]::D) (λj c e f w K L=> ?_) v]
   .simp only [gV];rw [qJ.mpr S];grind
   .have P:=Bi f;have R:=h8 f
    exact k j (by omega) M (b+1) c e ⟨i j f,by omega,by omega,w⟩ (by omega)
def Lg:∀(S:ae),bp S=I->∀D,ends D->bX [] (bj S++D)=aY S++bX [] D:=by
 have N:fO 40=I:=by decide
 have Q:fO 41=I:=by decide
 have G:fO 32=I:=by decide
 intro S;induction S with
 |num b n=>intro A D M;exact hF (kB (eQ A)).1 M
 |var b x=>intro A D M;exact hF (lF A) M
 |fn b x g h=>
  intro A D M;simp only [bp,bz]at A;show bX [] (40::(ay "fun"++([32]++(x++([32]++bj g)))++[41])++D)=_
  simp only [dk,cv,cV];rw [dj N,hF (by decide) (ew _),dj G,hF (lF A.1) (ew _),dj G,h A.2.2 _ (fo D),dj Q];simp [aY]
 |app b i a e f=>
  intro A D M;simp only [bp,bz]at A;show bX [] (40::(bj i++([32]++bj a)++[41])++D)=_
  simp_all [dj,ew,fo,aY]
 |letE b x d g e f=>
  intro A D M;simp only [bp,bz]at A;show bX [] (40::(ay "let"++([32]++(x++([32]++(bj d++([32]++bj g)))))++[41])++D)=_
  simp only [dk,cv,cV];rw [dj N,hF (by decide) (ew _),dj G,hF (lF A.1) (ew _),dj G,e A.2.2.1 _ (ew _),dj G,f A.2.2.2 _ (fo D),dj Q];simp [aY]
 |ifz b c j d e f k=>
  intro A D M;simp only [bp,bz]at A;show bX [] (40::(ay "if"++([32]++(bj c++([32]++(bj j++([32]++bj d)))))++[41])++D)=_
  simp only [dk,cv,cV];rw [dj N,hF (by decide) (ew _),dj G,e A.1 _ (ew _),dj G,f A.2.1 _ (ew _),dj G,k A.2.2 _ (fo D),dj Q];simp [aY]
 |pair b a g e f=>
  intro A D M;simp only [bp,bz]at A;show bX [] (40::(ay "pair"++([32]++(bj a++([32]++bj g)))++[41])++D)=_
  simp only [dk,cv,cV];rw [dj N,hF (by decide) (ew _),dj G,e A.1 _ (ew _),dj G,f A.2 _ (fo D),dj Q];simp [aY]
 |set b a g e f=>
  intro A D M;simp only [bp,bz]at A;show bX [] (40::(ay "set"++([32]++(bj a++([32]++bj g)))++[41])++D)=_
  simp only [dk,cv,cV];rw [dj N,hF (by decide) (ew _),dj G,e A.1 _ (ew _),dj G,f A.2 _ (fo D),dj Q];simp [aY]
 |add b a g e f=>
  intro A D M;simp only [bp,bz]at A;show bX [] (40::(ay "add"++([32]++(bj a++([32]++bj g)))++[41])++D)=_
  simp only [dk,cv,cV];rw [dj N,hF (by decide) (ew _),dj G,e A.1 _ (ew _),dj G,f A.2 _ (fo D),dj Q];simp [aY]
 |fst b d h=>
  intro A D M;show bX [] (40::(ay "fst"++([32]++bj d)++[41])++D)=_
  simp only [dk,cv,cV];rw [dj N,hF (by decide) (ew _),dj G,h A _ (fo D),dj Q];simp [aY]
 |snd b d h=>
  intro A D M;show bX [] (40::(ay "snd"++([32]++bj d)++[41])++D)=_
  simp only [dk,cv,cV];rw [dj N,hF (by decide) (ew _),dj G,h A _ (fo D),dj Q];simp [aY]
 |new b d h=>
  intro A D M;show bX [] (40::(ay "new"++([32]++bj d)++[41])++D)=_
  simp only [dk,cv,cV];rw [dj N,hF (by decide) (ew _),dj G,h A _ (fo D),dj Q];simp [aY]
 |get b d h=>
  intro A D M;show bX [] (40::(ay "get"++([32]++bj d)++[41])++D)=_
  simp only [dk,cv,cV];rw [dj N,hF (by decide) (ew _),dj G,h A _ (fo D),dj Q];simp [aY]
def e8(A:UInt8):Bool:=fO A||(iY A||kX A)
def norm(A:UInt8):UInt8:=if e8 A=I then A else 63
theorem Lh(D:(sw.all kX)=I):(sw.all e8)=I:=by grind [e8]
theorem v9(D:gE EQ=I):(EQ.all e8)=I:=by simp_all [gE,Lh]
def Li(D:r<=99):((d7 r).all e8)=I:=by
 have:∀r:Fin 100,((d7 r).all e8)=I:=by decide+kernel
 exact this ⟨r,by omega⟩
theorem wa:∀(Q:ae),bp Q=I->((bj Q).all e8)=I:=by
 have N:∀A:List ai,(∀M∈A,(M.all e8)=I)->((Gj A).all e8)=I:=by
  intro A U;have h:((uG A).all e8)=I:=by
   unfold uG;induction A with
   |nil=>rfl
   |cons M i b=>
    cases i with
    |nil=>exact U M bY
    |cons u j=>
     show((M++([32]++Gm [32] (u::j))).all e8)=I;rw [za,za,U M bY,b λT k=>U T (bM _ k)];decide
  show((40::(uG A++[41])).all e8)=I;rw [jA,za,h];decide
 intro Q;induction Q with
 |num A n=>intro D;exact Li (eQ D)
 |var A T=>intro D;exact v9 D
 |fn A T l b=>
  intro D;simp [bp,bz]at D;refine N _ λM G=> ?_;simp [bb,ej,fy]at G;rcases G with rfl|rfl|rfl
  .decide
  all_goals grind [v9]
 |letE A T d l e f=>
  intro D;simp [bp,bz]at D;refine N _ λM G=> ?_;simp [bb,ej,fy]at G;rcases G with rfl|rfl|rfl|rfl
  .decide
  all_goals grind [v9]
 |ifz A c M d e f m=>
  intro D;simp [bp,bz]at D;refine N _ λM G=> ?_;simp [bb,ej,fy]at G;rcases G with rfl|rfl|rfl|rfl
  .decide
  all_goals grind
 |app A g a e f=>
  intro D;simp [bp,bz]at D;refine N _ λM G=> ?_;grind
 |pair A g a e f|set A g a e f|add A g a e f=>
  intro D;simp [bp,bz]at D;refine N _ λM G=> ?_;simp [bb,ej,fy]at G;rcases G with rfl|rfl|rfl
  .decide
  all_goals grind
 |fst A d b|snd A d b|new A d b|get A d b=>
  intro D;refine N _ λM G=> ?_;simp [bb,ej,fy]at G;rcases G with rfl|rfl
  .decide
  .exact b D
def Bn(D:(sw.all e8)=I):sw.map norm=sw:=by
 rw [j9]at D;have:sw.map norm=sw.map id:=gF λG M=>by simp_all [norm]
 simp_all
theorem Bo:∀{A u:ai},A.map norm=u->(u.all e8)=I->A=u
 |[],u,a,_=>by grind
 |b::A,[],a,_=>by cases a
 |b::A,c::u,a,d=>by
  rw [jA,bz]at d;rw [aV]at a;obtain⟨D,G⟩:=rp a;rw [Bo G d.2];have:b=c:=by
   unfold norm at D;split at D
   .exact D
   .rw [<-D]at d;exact absurd d.1 (by decide)
  rw [this]
theorem wb(D:bp j=I):bX [] (bj j)=aY j:=by
 have:=Lg j D [] (.inl S);rw [bZ]at this;rw [this];show aY j++[]=aY j
 grind
variable{wS:List Info}
theorem wc:runM (bX [] (sw.map norm))=Y wS↔∃A,bp A=I/\bj A=sw/\size A<=30/\dI A<=8/\aT 0 A=A/\wS=infos O A:=by
 rw [La];constructor
 .intro a;let⟨⟨A,f⟩,G,M⟩:=fA.mp a
  split at M
  .rename_i b;subst b;cases M;let⟨T,D⟩:=sA 9 0 0 _ A [] (by omega) G
   rw [bZ]at T;have U:=bN List.flatten T
   rw [qE,cV,<-wb D.told,qE,cV]at U;refine⟨A,D.told,(Bo U (wa A D.told)).symm,by have:=D.sz;omega,by have:=D.deep;omega,vZ A 0 D.qK,S⟩
  .cases M
 .rintro⟨A,G,rfl,g,h,d,rfl⟩;rw [Bn (wa A G),wb G];have e:bJ A=cu 0 (size A):=by
   have:=lG A 0;rw [d]at this;exact this
  have c:=Bm (gk A) A (aX _) 9 0 0 [] ⟨G,by omega,by omega,e⟩ (by omega);grind
def up(A:List Info)(D:ai):Nat->Nat->Option Nat->Option Nat
 |0,_,_=>O
 |_+1,_,O=>O
 |f+1,a,Y o=>match A[o]? with
  |none=>O
  |some i=>if i.word=D/\i.parts.getLast?=Y a then Y o else up A D f o i.parent
structure jh(ns:List Info)(p:Option Nat)(A:ae):Prop where
 top:ns[af A]?=Y (cZ p A)
 oU:∀y∈aH A,∀k∈kids y,ns[af k]?=Y (cZ (Y (af y)) k)
variable{UI:Option Nat}
def jh.sub(M:jh wS UI j)(N:rc∈kids j):jh wS (Y (af j)) rc:=
 ⟨M.oU j (hE j) rc N,λy S=>M.oU y (so (jb (hE j) N) y S)⟩
def Lj(U:wS[af j]?=Y (cZ UI j))(Q:∀G∈kids j,jh wS (Y (af j)) G):jh wS UI j:=by
 refine⟨U,λy A G T=> ?_⟩;rw [e5]at A;rcases bb.mp A with rfl|A
 .exact(Q G T).top
 .let⟨a,b,A⟩:=dH.mp A;exact(Q a b).oU y A G T
variable{wr:List Nat}
theorem sC(N:bJ j++wr=cu r AT)(Q:size j<=AT):bJ j=cu r (size j)/\wr=cu (r+size j) (AT-size j):=by grind [kf,mi,hp]
theorem kC(G:bJ j=cu r (size j)):af j=r/\(kids j).flatMap bJ=cu (r+1) (((kids j).map size).sum):=by grind [dJ,size_eq,nH]
theorem Ll:∀(N:Nat) (A:ae),gk A<=N->∀(D:Nat) (Q:Option Nat) (pre post:List Info),pre.length=D->bJ A=cu D (size A)->jh (pre++(infos Q A++post)) Q A:=by
 intro N;induction N with
 |zero=>intro A d;cases A<;>simp at d
 |succ N o=>
  intro A d D Q pre post e i;let⟨f,j⟩:=kC i
  refine Lj ?_ ?_
  .rw [f,oP,hT (by omega),e,kY];rfl
  .rw [oP,f];have walk:∀(G:List ae) (c:Nat) (T:List Info) (U:List Info),(∀M∈G,M∈kids A)->T.length=c->G.flatMap bJ=cu c ((G.map size).sum)->∀M∈G,jh (T++(G.flatMap (infos (Y D))++U)) (Y D) M:=by
    intro G;induction G with
    |nil=>grind
    |cons a p k=>
     intro c T U g q h M b;rw [cp,aV,fz]at h;let⟨r,s⟩:=sC h (by omega)
     rw [cp];rcases bb.mp b with rfl|b
     .have t:=h8 (g M bY);grind
     .have:=k (c+size a) (T++infos (Y D) a) U (λl m=>g l (bM _ m)) (by grind [e7]) (by grind) M b;grind
   have:=walk (kids A) (D+1) (pre++[cZ Q A]) post (λ_ n=>n) (by simp [e]) j;grind
theorem sD(D:aT 0 j=j):jh (infos O j) O j:=by
 have G:bJ j=cu 0 (size j):=by have:=lG j 0;rw [D]at this;exact this
 have:=Ll (gk j) j (aX _) 0 O [] [] S G;grind
structure Row(A:ae)(n:Nat):Prop where
 row:bJ A=cu n (size A)
def Row.lb(G:Row j r):af j=r:=(kC G.row).1
def inScope(D:List (dC×Nat))(G:ai):Option Nat:=(D.find? λA=>A.1==G).map λA=>A.2
theorem Bp(D:List (dC×Nat))(G A:dC)(M:Nat):inScope ((G,M)::D) A=if G=A then Y M else inScope D A:=by grind [inScope]
def oV(M:List Info)(N:Option Nat)(Q:List (dC×Nat))(D:ae):Prop:=∀A:ai,A≠[]->∀G,af D<G->up M A G (af D) N=inScope Q A
variable{UO Va:List (dC×Nat)}
def sE(b:jh wS UI j)(c:oV wS UI Va j)(e:af j<af rc)(d:∀D:ai,D≠[]->inScope UO D=if wordOf j=D/\((kids j).map af).getLast?=Y (af rc)then Y (af j)else inScope Va D):oV wS (Y (af j)) UO rc:=by
 intro D hw a f;obtain⟨N,rfl⟩:∃N,a=N+1:=⟨a-1,by omega⟩
 rw [up,b.top];show(if wordOf j=D/\((kids j).map af).getLast?=Y (af rc)then Y (af j)else up wS D N (af j) UI)=inScope UO D
 rw [d D hw,c D hw N (by omega)]
def qL(N:Row j r)(Q:kids j=[rc]):Row rc (r+1):=by have A:=(kC N.row).2;rw [Q]at A;simp [cp,et,bZ,aV,fx,fz,Gn,ke]at A;exact⟨A⟩
theorem qM{N:ae}(Q:Row rc r)(S:kids rc=[j,N]):Row j (r+1)/\Row N (r+1+size j):=by
 have G:=(kC Q.row).2;rw [S]at G;simp [cp,et,bZ,aV,fx,fz,Gn,ke]at G;let⟨T,U⟩:=sC G (by omega)
 exact⟨⟨T⟩,⟨U.trans (by grind)⟩⟩
theorem Lm{N c:ae}(Q:Row N r)(S:kids N=[j,rc,c]):Row j (r+1)/\Row rc (r+1+size j)/\Row c (r+1+size j+size rc):=by
 have M:=(kC Q.row).2;rw [S]at M;simp [cp,et,bZ,aV,fx,fz,Gn,ke]at M;let⟨T,U⟩:=sC M (by omega)
 let⟨a,b⟩:=sC U (by omega);exact⟨⟨T⟩,⟨a⟩,⟨b.trans (by grind)⟩⟩
theorem hq(Q:jh wS UI j)(S:oV wS UI UO j)(T:af j<af rc)(hw:wordOf j=[]):oV wS (Y (af j)) UO rc:=
 sE Q S T λU a=>by grind
theorem gr{k:ae}{o:Option Nat}(S:k∈kids j)(T:∃D G,hZ r D∈aH k/\wS[r]?=Y (cZ G (.var r D))/\∀M,r<M->D≠[]->up wS D M r G=o):∃D G,hZ r D∈aH j/\wS[r]?=Y (cZ G (.var r D))/\∀M,r<M->D≠[]->up wS D M r G=o:=by grind [so,jb,hE]
theorem Ln{u:List Info}:∀(t:ae) (D:Nat) (g:Option Nat) (T:List (dC×Nat)),Row t D->jh u g t->oV u g T t->∀A o,(A,o)∈pZ T t->∃i w,hZ A i∈aH t/\u[A]?=Y (cZ w (.var A i))/\∀v,A<v->i≠[]->up u i v A w=o:=by
 intro t;induction t with
 |num A D=>intro D g T Q M U A o G;cases G
 |var A i=>
  intro D g T Q M U e o G;simp only [pZ,bf,uB]at G;obtain⟨rfl,rfl⟩:=G;exact⟨i,g,hE _,M.top,λv B C=>U i C v B⟩
 |fn A i b r=>
  intro D g T Q M U e o G;have f:=qL Q S
  have q:A=D:=Q.lb;have s:af (.fn A i b)<af b:=by rw [f.lb];show A<D+1;omega
  refine gr (k:=b) (by simp [kids]) (r (D+1) _ ((i,A)::T) f (M.sub (by simp [kids])) (sE M U s λx hw=> ?_) e o G);grind [Bp,wordOf,kids,af]
 |letE A i d b l m=>
  intro D g T Q M U e o G;obtain⟨h,f⟩:=qM Q S;have q:A=D:=Q.lb
  have H:=size_pos d;have n:af (.letE A i d b)<af d:=by rw [h.lb];show A<D+1;omega
  have p:af (.letE A i d b)<af b:=by rw [f.lb];show A<D+1+size d;omega
  rcases bS.mp G with G|G
  .refine gr (k:=d) (by simp [kids]) (l (D+1) _ T h (M.sub (by simp [kids])) (sE M U n λx hw=> ?_) e o G);rw [N];rintro⟨_,y⟩;simp only [kids,aV,fx,List.getLast?_cons_cons,List.getLast?_singleton,yM]at y;rw [h.lb,f.lb]at y;omega
  .refine gr (k:=b) (by simp [kids]) (m (D+1+size d) _ ((i,A)::T) f (M.sub (by simp [kids])) (sE M U p λx hw=> ?_) e o G);grind [Bp,wordOf,kids,af]
 |fst A d r=>
  intro D g T Q M U e o G;have h:=qL Q S
  have q:A=D:=Q.lb;have s:af (.fst A d)<af d:=by rw [h.lb];show A<D+1;omega
  exact gr (k:=d) (by simp [kids]) (r (D+1) _ T h (M.sub (by simp [kids])) (hq M U s S) e o G)
 |snd A d r=>
  intro D g T Q M U e o G;have h:=qL Q S
  have q:A=D:=Q.lb;have s:af (.snd A d)<af d:=by rw [h.lb];show A<D+1;omega
  exact gr (k:=d) (by simp [kids]) (r (D+1) _ T h (M.sub (by simp [kids])) (hq M U s S) e o G)
 |new A d r=>
  intro D g T Q M U e o G;have h:=qL Q S
  have q:A=D:=Q.lb;have s:af (.new A d)<af d:=by rw [h.lb];show A<D+1;omega
  exact gr (k:=d) (by simp [kids]) (r (D+1) _ T h (M.sub (by simp [kids])) (hq M U s S) e o G)
 |get A d r=>
  intro D g T Q M U e o G;have h:=qL Q S
  have q:A=D:=Q.lb;have s:af (.get A d)<af d:=by rw [h.lb];show A<D+1;omega
  exact gr (k:=d) (by simp [kids]) (r (D+1) _ T h (M.sub (by simp [kids])) (hq M U s S) e o G)
 |app A a b l m=>
  intro D g T Q M U e o G;obtain⟨j,f⟩:=qM Q S;have q:A=D:=Q.lb
  have n:af (.app A a b)<af a:=by rw [j.lb];show A<D+1;omega
  have p:af (.app A a b)<af b:=by rw [f.lb];show A<D+1+size a;omega
  rcases bS.mp G with G|G
  .exact gr (k:=a) (by simp [kids]) (l (D+1) _ T j (M.sub (by simp [kids])) (hq M U n S) e o G)
  .exact gr (k:=b) (by simp [kids]) (m (D+1+size a) _ T f (M.sub (by simp [kids])) (hq M U p S) e o G)
 |pair A a b l m=>
  intro D g T Q M U e o G;obtain⟨j,f⟩:=qM Q S;have q:A=D:=Q.lb
  have n:af (.pair A a b)<af a:=by rw [j.lb];show A<D+1;omega
  have p:af (.pair A a b)<af b:=by rw [f.lb];show A<D+1+size a;omega
  rcases bS.mp G with G|G
  .exact gr (k:=a) (by simp [kids]) (l (D+1) _ T j (M.sub (by simp [kids])) (hq M U n S) e o G)
  .exact gr (k:=b) (by simp [kids]) (m (D+1+size a) _ T f (M.sub (by simp [kids])) (hq M U p S) e o G)
 |set A a b l m=>
  intro D g T Q M U e o G;obtain⟨j,f⟩:=qM Q S;have q:A=D:=Q.lb
  have n:af (.set A a b)<af a:=by rw [j.lb];show A<D+1;omega
  have p:af (.set A a b)<af b:=by rw [f.lb];show A<D+1+size a;omega
  rcases bS.mp G with G|G
  .exact gr (k:=a) (by simp [kids]) (l (D+1) _ T j (M.sub (by simp [kids])) (hq M U n S) e o G)
  .exact gr (k:=b) (by simp [kids]) (m (D+1+size a) _ T f (M.sub (by simp [kids])) (hq M U p S) e o G)
 |add A a b l m=>
  intro D g T Q M U e o G;obtain⟨j,f⟩:=qM Q S;have q:A=D:=Q.lb
  have n:af (.add A a b)<af a:=by rw [j.lb];show A<D+1;omega
  have p:af (.add A a b)<af b:=by rw [f.lb];show A<D+1+size a;omega
  rcases bS.mp G with G|G
  .exact gr (k:=a) (by simp [kids]) (l (D+1) _ T j (M.sub (by simp [kids])) (hq M U n S) e o G)
  .exact gr (k:=b) (by simp [kids]) (m (D+1+size a) _ T f (M.sub (by simp [kids])) (hq M U p S) e o G)
 |ifz A a b c l m E=>
  intro D g T Q M U e o G;obtain⟨j,f,z⟩:=Lm Q S;have q:A=D:=Q.lb
  have n:af (.ifz A a b c)<af a:=by rw [j.lb];show A<D+1;omega
  have p:af (.ifz A a b c)<af b:=by rw [f.lb];show A<D+1+size a;omega
  have F:af (.ifz A a b c)<af c:=by rw [z.lb];show A<D+1+size a+size b;omega
  rcases bS.mp G with G|G
  .exact gr (k:=a) (by simp [kids]) (l (D+1) _ T j (M.sub (by simp [kids])) (hq M U n S) e o G)
  .rcases bS.mp G with G|G
   .exact gr (k:=b) (by simp [kids]) (m (D+1+size a) _ T f (M.sub (by simp [kids])) (hq M U p S) e o G)
   .exact gr (k:=c) (by simp [kids]) (E (D+1+size a+size b) _ T z (M.sub (by simp [kids])) (hq M U F S) e o G)
theorem Bq:∀(T:ae) (M:List (dC×Nat)) (D:Nat) (G:dC),hZ D G∈aH T->∃o,(D,o)∈pZ M T:=by
 intro T;induction T with
 |num D n=>grind [aH]
 |var D y=>
  intro M N G A;simp [aH,bf,Ud]at A;obtain⟨rfl,rfl⟩:=A;exact⟨_,bf.mpr S⟩
 |fn D y b f=>
  intro M N G A;simp [aH,bb,reduceCtorEq,uH]at A;exact f _ N G A
 |fst D b f|snd D b f|new D b f|get D b f=>
  intro M N G A;simp [aH,bb,reduceCtorEq,uH]at A;exact f M N G A
 |letE D y a b d e=>
  intro M N G A;simp [aH,bb,reduceCtorEq,uH,bS]at A;rcases A with A|A
  .let⟨o,Q⟩:=d M N G A;exact⟨o,gQ _ Q⟩
  .let⟨o,Q⟩:=e ((y,D)::M) N G A;exact⟨o,eH _ Q⟩
 |app D a b d e|pair D a b d e|set D a b d e|add D a b d e=>
  intro M N G A;simp [aH,bb,reduceCtorEq,uH,bS]at A;rcases A with A|A
  .let⟨o,Q⟩:=d M N G A;exact⟨o,gQ _ Q⟩
  .let⟨o,Q⟩:=e M N G A;exact⟨o,eH _ Q⟩
 |ifz D a b c d e g=>
  intro M N G A;simp [aH,bb,reduceCtorEq,uH,bS]at A;rcases A with A|A|A
  .let⟨o,Q⟩:=d M N G A;exact⟨o,gQ _ Q⟩
  .let⟨o,Q⟩:=e M N G A;exact⟨o,eH _ (gQ _ Q)⟩
  .let⟨o,Q⟩:=g M N G A;exact⟨o,eH _ (eH _ Q)⟩
theorem Lo(U:aT 0 j=j)(A:bp j=I)(a:hZ r EQ∈aH j):∃T,(infos O j)[r]?=Y (cZ T (.var r EQ))/\∀M,r<M->EQ≠[]->up (infos O j) EQ M r T=g9 j r:=by
 have c:bJ j=cu 0 (size j):=by have:=lG j 0;rw [U]at this;exact this
 have d:e6 j:=⟨by grind [y8]⟩
 have e:oV (infos O j) O [] j:=λk hw M N=>by
  obtain⟨b,rfl⟩:∃b,M=b+1:=⟨M-1,by omega⟩
  rfl
 have f:=Ln j 0 O [] ⟨c⟩ (sD U) e;let⟨o,g⟩:=Bq j [] r EQ a
 unfold g9;cases N:(uC j).find? λQ=>Q.1==r with
 |none=>
  rw [nF]at N;exact absurd (by simp) (N (r,o) g)
 |some Q=>
  have h:Q.1=r:=by simpa using mh N
  let⟨l,m⟩:=Q;subst h;let⟨y,T,i,n,p⟩:=f _ _ (fL N)
  have q:=d.uniq i a S;grind
def cJ:List (dC×Nat)->ae->List (Nat×dC×Option Nat)
 |_,.num _ _=>[]
 |s,.var e x=>[(e,x,inScope s x)]
 |s,.fn e x d=>cJ ((x,e)::s) d
 |s,.app _ f a=>cJ s f++cJ s a
 |s,.letE e x b d=>cJ s b++cJ ((x,e)::s) d
 |s,.ifz _ c g b=>cJ s c++(cJ s g++cJ s b)
 |s,.pair _ a d=>cJ s a++cJ s d
 |s,.fst _ b=>cJ s b
 |s,.snd _ b=>cJ s b
 |s,.new _ b=>cJ s b
 |s,.get _ b=>cJ s b
 |s,.set _ h b=>cJ s h++cJ s b
 |s,.add _ a d=>cJ s a++cJ s d
theorem we:∀(A:ae) (D:List (dC×Nat)),pZ D A=(cJ D A).map λG=>(G.1,G.2.2):=by intro A;induction A<;>intro D<;>simp [pZ,cJ,aW,aV,fx,inScope, *]
def sF:∀(Q:ae) (M:List (dC×Nat)) (D:Nat) (G:dC) (o:Option Nat),(D,G,o)∈cJ M Q->hZ D G∈aH Q:=by
 intro Q;induction Q with
 |num D n=>intro M N G o A;cases A
 |var D y=>
  intro M N G o A;simp [cJ,bf,uB]at A;obtain⟨rfl,rfl,_⟩:=A;exact hE _
 |fn D y b f=>intro M N G o A;exact bM _ (f _ _ _ _ A)
 |fst D b f|snd D b f|new D b f|get D b f=>intro M N G o A;exact bM _ (f _ _ _ _ A)
 |letE D y a b d e=>
  intro M N G o A;rcases bS.mp A with A|A
  .exact bM _ (gQ _ (d _ _ _ _ A))
  .exact bM _ (eH _ (e _ _ _ _ A))
 |app D a b d e|pair D a b d e|set D a b d e|add D a b d e=>
  intro M N G o A;rcases bS.mp A with A|A
  .exact bM _ (gQ _ (d _ _ _ _ A))
  .exact bM _ (eH _ (e _ _ _ _ A))
 |ifz D a b c d e g=>
  intro M N G o A;rcases bS.mp A with A|A
  .exact bM _ (gQ _ (d _ _ _ _ A))
  .rcases bS.mp A with A|A
   .exact bM _ (eH _ (gQ _ (e _ _ _ _ A)))
   .exact bM _ (eH _ (eH _ (g _ _ _ _ A)))
theorem Lp(A:List (dC×Nat))(D:dC):(inScope A D).isSome=I↔D∈A.map (·.1):=by grind [inScope]
def fp(D:List (dC×Nat))(G:ae):Prop:=∀M A o,(M,A,o)∈cJ D G->A=dq\/o.isSome=I
def qN:(∀G A o,(G,A,o)∈cJ UO j++cJ Va rc->A=dq\/o.isSome=I)↔fp UO j/\fp Va rc:=by
 constructor
 .intro T;exact⟨λG A o D=>T G A o (gQ _ D),λG A o D=>T G A o (eH _ D)⟩
 .rintro⟨U,a⟩ G A o D;rcases bS.mp D with D|D
  .exact U G A o D
  .exact a G A o D
theorem Lq:∀(N:ae) (A:List (dC×Nat)),hW (A.map (·.1)++[dq]) N=I↔bp N=I/\fp A N:=by
 intro N;induction N with
 |num D n=>
  intro A;exact⟨λQ=>⟨Q,λ_ _ _ G=>(nomatch G)⟩,λQ=>Q.1⟩
 |var D M=>
  intro A;simp only [hW,bp,bz,ir,bS,bf];refine and_congr zb ?_;rw [<-Lp];constructor
  .intro Q j k o G;grind [cJ]
  .intro Q;exact(Q D M _ (bf.mpr S)).symm
 |fn D M b g=>
  intro A;have:=g ((M,D)::A)
  simp only [aV,dk]at this;simp only [hW,bp,bz,this,and_assoc];exact zb
 |letE D M d b e f=>
  intro A;have T:=f ((M,D)::A)
  simp only [aV,dk]at T;simp only [hW,bp,bz,e A,T];have N:fp A (.letE D M d b)↔fp A d/\fp ((M,D)::A) b:=qN
  grind
 |fst D b g=>intro A;exact g A
 |snd D b g=>intro A;exact g A
 |new D b g=>intro A;exact g A
 |get D b g=>intro A;exact g A
 |app D a b e f=>
  intro A;simp only [hW,bp,bz,e A,f A];have N:fp A (.app D a b)↔fp A a/\fp A b:=qN
  grind
 |pair D a b e f=>
  intro A;simp only [hW,bp,bz,e A,f A];have N:fp A (.pair D a b)↔fp A a/\fp A b:=qN
  grind
 |set D a b e f=>
  intro A;simp only [hW,bp,bz,e A,f A];have N:fp A (.set D a b)↔fp A a/\fp A b:=qN
  grind
 |add D a b e f=>
  intro A;simp only [hW,bp,bz,e A,f A];have N:fp A (.add D a b)↔fp A a/\fp A b:=qN
  grind
 |ifz D a b c e f h=>
  intro A;simp only [hW,bp,bz,e A,f A,h A];have N:fp A (.ifz D a b c)↔fp A a/\fp A b/\fp A c:=by
   constructor
   .intro Q;exact⟨λD M o G=>Q D M o (gQ _ G),λD M o G=>Q D M o (eH _ (gQ _ G)),λD M o G=>Q D M o (eH _ (eH _ G))⟩
   .rintro⟨U,T,i⟩ D M o G;rcases bS.mp G with G|G
    .exact U D M o G
    .rcases bS.mp G with G|G
     .exact T D M o G
     .exact i D M o G
  grind
theorem Lr(T:e6 j){o:Option Nat}(U:(r,EQ,o)∈cJ [] j):g9 j r=o\/∃Q,(r,EQ,Q)∈cJ [] j/\g9 j r=Q:=by
 unfold g9;cases a:(uC j).find? λG=>G.1==r with
 |none=>
  rw [nF]at a;refine absurd (by simp) (a (r,o) ?_);grind [uC,we]
 |some G=>
  right;have M:=fL a
  have b:G.1=r:=by simpa using mh a
  unfold uC at M;rw [we]at M;obtain⟨⟨d,e,f⟩,c,rfl⟩:=bE.mp M;subst b;have g:=T.uniq (sF j [] _ _ _ c) (sF j [] _ _ _ U) S
  grind
theorem Ls(G:e6 j):((cJ [] j).map (·.1)).Nodup:=by
 have:∀(j:ae) (D:List (dC×Nat)),((cJ D j).map (·.1)).Sublist (bJ j):=by
  intro j;induction j with
  |num b n=>intro D;exact List.nil_sublist _
  |var b x=>intro D;exact Ue _
  |fn b x d g=>grind [dJ,cJ,kids]
  |fst b d g=>grind [dJ,cJ,kids]
  |snd b d g=>grind [dJ,cJ,kids]
  |new b d g=>grind [dJ,cJ,kids]
  |get b d g=>grind [dJ,cJ,kids]
  |letE b x a d e f=>grind [dJ,cJ,kids]
  |app b a d e f=>grind [dJ,cJ,kids]
  |pair b a d e f=>grind [dJ,cJ,kids]
  |set b a d e f=>grind [dJ,cJ,kids]
  |add b a d e f=>grind [dJ,cJ,kids]
  |ifz b a d c e f h=>intro D;rw [dJ];grind [cJ,kids]
 have M:(bJ j).Nodup:=G.cY▸Gh;grind
theorem wg(M:e6 j){o:Option Nat}(N:(r,EQ,o)∈cJ [] j):g9 j r=o:=by
 rcases Lr M N with G|⟨d,a,G⟩
 .exact G
 .rw [G];have e:=Ls M
  let⟨T,U⟩:=hV.mp N;let⟨b,c⟩:=hV.mp a
  have f:((cJ [] j).map (·.1))[T]?=Y r:=by rw [bh,U];rfl
  have g:((cJ [] j).map (·.1))[b]?=Y r:=by rw [bh,c];rfl
  grind [Gp]
theorem Br(A:ae)(D:List (dC×Nat))(N:hZ r EQ∈aH A)(U:e6 A)(b:D=[]):∃o,(r,EQ,o)∈cJ D A:=by
 let⟨o,Q⟩:=Bq A D r EQ N;rw [we]at Q;let⟨⟨c,d,e⟩,a,T⟩:=bE.mp Q
 simp [uB]at T;obtain⟨rfl,rfl⟩:=T;have f:=U.uniq (sF A D _ _ _ a) N S
 grind
theorem Bs:me j=I↔bp j=I/\aT 0 j=j/\size j<=30/\dI j<=8/\∀D G,hZ D G∈aH j->G=dq\/(g9 j D).isSome=I:=by
 have N:bJ j=eY (bJ j).length↔aT 0 j=j:=by
  rw [hp,y8];constructor
  .exact vZ j 0
  .grind [lG]
 have c:=Lq j [];simp [fx,cV]at c;unfold me;simp [bz,iS,ka];rw [c,N,hp];constructor
 .rintro⟨⟨Q,T⟩,M,U,a⟩;have b:e6 j:=⟨N.mpr M⟩
  refine⟨Q,M,U,a,λD G e=> ?_⟩;let⟨o,d⟩:=Br j [] e b S
  rw [wg b d];exact T D G o d
 .rintro⟨Q,M,U,a,T⟩;have b:e6 j:=⟨N.mpr M⟩
  refine⟨⟨Q,λD G o f=> ?_⟩,M,U,a⟩;have:=T D G (sF j [] D G o f)
  grind [wg]
theorem Lu:∀(T:ae) (M:List (dC×Nat)),bp T=I->(∀A∈M,A.1≠dq)->∀D o,(D,dq,o)∈cJ M T->o=O:=by
 intro T;induction T with
 |num D n=>intro M G Q N o A;cases A
 |var D x=>
  intro M G Q N o A;simp [cJ,bf,uB]at A;obtain⟨_,rfl,rfl⟩:=A;grind [inScope]
 |fn D x b e=>
  intro M G Q N o A;simp [bp,bz,uE]at G;refine e ((x,D)::M) G.2.2 (λy U=> ?_) N o A;grind
 |letE D x d b f g=>
  intro M G Q N o A;simp [bp,bz,uE]at G;rcases bS.mp A with A|A
  all_goals grind
 |fst D b e|snd D b e|new D b e|get D b e=>intro M G Q N o A;exact e M G Q N o A
 |app D a b f g|pair D a b f g|set D a b f g|add D a b f g=>
  intro M G Q N o A;simp [bp,bz]at G;rcases bS.mp A with A|A
  all_goals grind
 |ifz D a b c f g h=>
  intro M G Q N o A;simp [bp,bz]at G;rcases bS.mp A with A|A
  all_goals grind
def Lv(D:ae)(G:aB->aB->Prop):Pred:=λM N=>∃A,G M A/\fN D A N
structure sG(G:ae)(A:aB->aB->Prop):Prop where
 refl:∀p,A p p
 symm:∀p D,A p D->A D p
 trans:∀p D M,A p D->A D M->A p M
 way:∀N d,d3 G (Lv G A) N d->A N d
def Eqv(D:ae)(G M:aB):Prop:=∀A,sG D A->A G M
def kD(N:ae):sG N (Eqv N):=
 ⟨λD A c=>c.refl D,λD G M A c=>c.symm D G (M A c),λD G Q S T A c=>c.trans D G Q (S A c) (T A c),λU a b A c=>c.way U a (b.mono λD e ⟨G,M,d⟩=>⟨G,M A c,d⟩)⟩
structure Part(ps:List aB)(A:nO):Prop where
 cover:∀p,p∈ps↔∃c∈A,p∈c
 apart:∀c∈A,∀d∈A,∀p,p∈c->p∈d->c=d
 nd:A.Nodup
 ne:∀c∈A,∃p,p∈c
def jR(A:nO)(D G:aB):Prop:=∃c∈A,D∈c/\G∈c
variable{At:List aB}
theorem Part.of(D:Part At cs)(G:or∈At):cI cs or∈cs/\or∈cI cs or:=by
 let⟨c,M,N⟩:=(D.cover or).mp G;unfold cI;cases a:cs.find? λc=>c.contains or with
 |none=>
  grind
 |some d=>
  grind
def Part.is{cs:nO}(D:Part At cs){c:List aB}(G:c∈cs)(M:or∈c):cI cs or=c:=
 let⟨N,Q⟩:=D.of ((D.cover or).mpr ⟨c,G,M⟩);D.apart _ N _ G or Q M
def Part.same(A:Part At cs)(M:or∈At):jR cs or v6↔v6∈cI cs or:=by
 constructor
 .rintro⟨c,N,Q,T⟩;rwa [A.is N Q]
 .intro S;exact⟨_,(A.of M).1,(A.of M).2,S⟩
theorem wh{cs:nO}{A:md}(D:cI cs A.src=cI cs A.dst):iu cs A=cs:=by simp_all [iu]
def wi{cs:nO}{A:md}(D:¬cI cs A.src=cI cs A.dst):iu cs A=(cs.filter λc=>c !=cI cs A.dst).map λc=>if c=cI cs A.src then cI cs A.src++cI cs A.dst else c:=by simp_all [iu]
section
variable {ps:List aB} {cs:nO}
theorem Bt(D:Part ps cs){A:md}(G:A.src∈ps)(Q:A.dst∈ps)(M:¬cI cs A.src=cI cs A.dst){c:List aB}:c∈iu cs A↔c=cI cs A.src++cI cs A.dst\/(c∈cs/\c≠cI cs A.src/\c≠cI cs A.dst):=by
 rw [wi M,bE];constructor
 .grind
 .rintro(rfl|⟨N,T,U⟩)
  .refine⟨cI cs A.src,dA.mpr ⟨(D.of G).1,by grind⟩, ?_⟩;grind
  .exact⟨c,dA.mpr ⟨N,by grind⟩,by grind⟩
end
theorem Lw{cs:nO}(D:Part At cs){A:md}(l:A.src∈At)(e:A.dst∈At):Part At (iu cs A):=by
 by_cases m:cI cs A.src=cI cs A.dst
 .grind [wh]
 let⟨f,j⟩:=D.of l;let⟨n,z⟩:=D.of e
 have g:= @Bt At cs D A l e m;refine⟨λG=> ?_,λc Q T o G a U=> ?_, ?_,λc Q=> ?_⟩
 .rw [D.cover G];constructor
  .rintro⟨c,Q,B⟩;by_cases h:c=cI cs A.src
   .simp_all
   .by_cases b:c=cI cs A.dst
    .simp_all
    grind
  grind
 .rcases g.mp Q with rfl|⟨c1,c2,c3⟩
  .rcases g.mp o with rfl|⟨i,p,q⟩
   .rfl
   .rcases bS.mp a with M|M
    .exact absurd (D.apart _ i _ f G U M) p
    .exact absurd (D.apart _ i _ n G U M) q
  .rcases g.mp o with rfl|⟨i,p,q⟩
   .rcases bS.mp U with M|M
    .exact absurd (D.apart _ c1 _ f G a M) c2
    .exact absurd (D.apart _ c1 _ n G a M) c3
   .exact D.apart _ c1 _ i G a U
 .rw [wi m];have s:∀d:List (List aB),d.Nodup->(∀c∈d,c∈cs)->(d.map λc=>if c=cI cs A.src then cI cs A.src++cI cs A.dst else c).Nodup:=by
   intro d;induction d with
   |nil=>grind
   |cons c C t=>
    intro u k;let⟨a,U⟩:=eB.mp u
    rw [aV,eB];refine⟨λv=> ?_,t U λT e=>k T (bM _ e)⟩;let⟨T,w,r⟩:=bE.mp v
    have x:=k T (bM _ w);have y:=k c bY
    have E:T=c:=by
     by_cases h:T=cI cs A.src
     .by_cases b:c=cI cs A.src
      .grind
      .rw [ak h,N b]at r;exact absurd (D.apart _ y _ f A.src (by grind) j) b
     .by_cases b:c=cI cs A.src
      .rw [N h,ak b]at r;exact absurd (D.apart _ x _ f A.src (by grind) j) h
      grind
    grind
  exact s _ (Gq Gr D.nd) λc Q=>(dA.mp Q).1
 .rcases g.mp Q with rfl|⟨c1,_,_⟩
  .exact⟨A.src,gQ _ j⟩
  .exact D.ne c c1
def Lx{cs:nO}(D:Part At cs){A:md}(N:A.src∈At)(G:A.dst∈At)(M:¬cI cs A.src=cI cs A.dst):(iu cs A).length<cs.length:=by
 rw [wi M,ag];have Q:=(D.of G).1
 simp_all
theorem Ly{cs:nO}(N:Part At cs){G:md}(a:G.src∈At)(b:G.dst∈At){M:aB->aB->Prop}(e:∀A D,M A D->M D A)(f:∀A D d,M A D->M D d->M A d)(Q:∀A D,jR cs A D->M A D)(hw:M G.src G.dst):∀A D,jR (iu cs G) A D->M A D:=by
 by_cases g:cI cs G.src=cI cs G.dst
 .grind [wh]
 rintro A D ⟨c,h,T,i⟩;let⟨j,k⟩:=N.of a
 let⟨l,m⟩:=N.of b;rcases(Bt N a b g).mp h with rfl|⟨c1,_,_⟩
 .have n:∀A,A∈cI cs G.src++cI cs G.dst->M A G.src:=λA T=>by
   rcases bS.mp T with U|U
   .exact Q _ _ ⟨_,j,U,k⟩
   .exact f _ _ _ (Q _ _ ⟨_,l,U,m⟩) (e _ _ hw)
  grind
 .exact Q _ _ ⟨c,c1,T,i⟩
variable{ps:List aB}
theorem Bu{N:aB->aB->Prop}(c:∀D G,N D G->N G D)(d:∀D G e,N D G->N G e->N D e):∀(M:List md) (cs:nO),Part ps cs->(∀A∈M,A.src∈ps/\A.dst∈ps/\N A.src A.dst)->(∀D G,jR cs D G->N D G)->Part ps (M.foldl iu cs)/\(∀D G,jR (M.foldl iu cs) D G->N D G)/\(M.foldl iu cs).length<=cs.length/\((M.foldl iu cs).length=cs.length->M.foldl iu cs=cs/\∀A∈M,cI cs A.src=cI cs A.dst)
 |[],cs,a,_,b=>⟨a,b,aX _,λ_=>⟨S,λ_ Q=>nomatch Q⟩⟩
 |A::M,cs,a,hw,b=>by
  obtain⟨T,U,f⟩:=hw A bY;let⟨h,i,j,k⟩:=Bu c d M (iu cs A) (Lw a T U) (λv g=>hw v (bM _ g)) (Ly a T U c d b f)
  rw [R1];by_cases Q:cI cs A.src=cI cs A.dst
  .grind [wh]
  .have:=Lx a T U Q;grind
def sH{Q:nO}:e4 (rx j Q) or ut↔h6 j or ut/\∃A∈cI Q or,fN j A ut:=by rw [A2,KN,Gu];refine and_congr zb ⟨λ⟨A,M,N⟩=>⟨A,M,ir.mp N⟩,λ⟨A,M,N⟩=>⟨A,M,ir.mpr N⟩⟩
def Lz{G:nO}(U:Part (aq j) G)(a:∀A M,jR G A M->Eqv j A M):∀D∈ux j (rx j G),D.src∈aq j/\D.dst∈aq j/\Eqv j D.src D.dst:=by
 intro D hw;have Q:=oz.mp ⟨D.by_,hw⟩
 have T:∀A N,e4 (rx j G) A N->N∈bq j:=λA N S=>(sH.mp S).1.2;refine⟨qB T Q,oC T Q,(kD j).way _ _ (Q.mono λA N S=> ?_)⟩;let⟨b,M,c,d⟩:=sH.mp S
 exact⟨M,a _ _ ((U.same b.1).mpr c),d⟩
def Bv:∀(b:Nat) (A:nO),Part (aq e) A->(∀D G,jR A D G->Eqv e D G)->A.length<b->Part (aq e) (ry e b A)/\∀D G,D∈aq e->G∈aq e->(jR (ry e b A) D G↔Eqv e D G)
 |0,_,_,_,U=>by omega
 |b+1,A,a,h,l=>by
  have m:=kD e;let⟨q,r,s,t⟩:=Bu (ps:=aq e) m.symm m.trans _ A a (Lz a h) h
  unfold ry;by_cases Q:(Gv e A).length=A.length
  .rw [ak Q];refine⟨a,λD G d E=>⟨h D G,λU=> ?_⟩⟩;let⟨_,u⟩:=t Q
   have v:sG e λD G=>D=G\/jR A D G:=by
    refine⟨λD=>.inl S,λD G U=> ?_,λD G F T M=> ?_,λi f w=> ?_⟩
    .rcases U with rfl|⟨c,Q,T,M⟩
     .grind
     .exact .inr ⟨c,Q,M,T⟩
    .rcases T with rfl|⟨c,Q,n,o⟩
     .exact M
     .rcases M with rfl|⟨f,hd,x,y⟩
      .exact .inr ⟨c,Q,n,o⟩
      .have:=a.apart _ Q _ hd G o x;subst this;exact .inr ⟨c,Q,n,y⟩
    .have j:d3 e (e4 (rx e A)) i f:=KU (λH z g U=>by
      let⟨G,T,M⟩:=U;have d:=gp z
      refine sH.mpr ⟨⟨d,(lD M).2⟩,G, ?_,M⟩;rcases T with rfl|T
      .exact(a.of d).2
      .exact(a.same d).mp T) w
     have p:∀D g,e4 (rx e A) D g->g∈bq e:=λD g U=>(sH.mp U).1.2;let⟨B,l⟩:=oz.mpr j
     have k:=u ⟨i,f,B⟩ l;exact .inr ((a.same (qB p j)).mpr (by rw [show cI A i=cI A f from k];exact(a.of (oC p j)).2))
   rcases U _ v with rfl|k
   .let⟨T,M⟩:=a.of d;exact⟨_,T,M,M⟩
   .exact k
  .rw [N Q];have C:(Gv e A).length<b:=by
    have:(Gv e A).length<=A.length:=s;omega
   exact Bv b _ q r C
theorem LA(N:At.Nodup):Part At (At.map λA=>[A]):=by
 refine⟨λA=> ?_,λc G Q T A U a=> ?_, ?_,λc G=> ?_⟩
 .constructor
  .intro M;exact⟨[A],bE.mpr ⟨A,M,S⟩,bf.mpr S⟩
  grind
 .grind
 .grind
 .obtain⟨b,_,rfl⟩:=bE.mp G;simp_all
theorem wj(n:e6 e):Part (aq e) (hb e)/\∀A M,A∈aq e->M∈aq e->(jR (hb e) A M↔Eqv e A M):=by
 let⟨U,o⟩:=Bv (e:=e) ((aq e).length+1) ((aq e).map λA=>[A]) (LA n.places) (λA M ⟨c,D,N,Q⟩=>by obtain⟨p,_,rfl⟩:=bE.mp D;rw [bf.mp N,bf.mp Q];exact(kD e).refl p) (by grind)
 have a:∀c∈ry e ((aq e).length+1) ((aq e).map λA=>[A]),∀M,M∈(aq e).filter c.contains↔M∈c:=λc D M=>by rw [dA];exact⟨λf=>ir.mp f.2,λf=>⟨(U.cover M).mpr ⟨c,D,f⟩,ir.mpr f⟩⟩
 have b:∀c,c∈hb e↔∃G∈ry e ((aq e).length+1) ((aq e).map λA=>[A]),c=(aq e).filter G.contains:=λc=>by grind [hb]
 refine⟨⟨λA=> ?_,λc D G T A N Q=> ?_, ?_,λc D=> ?_⟩,λA M g q=> ?_⟩
 .rw [U.cover A];grind
 .obtain⟨u,i,rfl⟩:=(b c).mp D;obtain⟨v,j,rfl⟩:=(b G).mp T;rw [U.apart _ i _ j A ((a _ i A).mp N) ((a _ j A).mp Q)]
 .unfold hb;have:∀d:List (List aB),d.Nodup->(∀c∈d,c∈ry e ((aq e).length+1) ((aq e).map λA=>[A]))->(d.map λc=>(aq e).filter c.contains).Nodup:=by
   intro d;induction d with
   |nil=>grind
   |cons c w r=>
    intro s h;let⟨N,Q⟩:=eB.mp s
    rw [aV,eB];refine⟨λt=> ?_,r Q λG T=>h G (bM _ T)⟩;let⟨G,k,x⟩:=bE.mp t
    have l:=h c bY;have m:=h G (bM _ k)
    let⟨A,g⟩:=U.ne c l;have:A∈G:=(a G m A).mp (by grind)
    exact N (U.apart _ m _ l A this g▸k)
  exact this _ U.nd λc D=>D
 .obtain⟨G,T,rfl⟩:=(b c).mp D;let⟨A,g⟩:=U.ne G T
  grind
 .rw [<-o A M g q];constructor
  .rintro⟨c,D,N,Q⟩;obtain⟨G,T,rfl⟩:=(b c).mp D;exact⟨G,T,(a G T A).mp N,(a G T M).mp Q⟩
  .rintro⟨c,D,N,Q⟩;exact⟨_,(b _).mpr ⟨c,D,S⟩,(a c D A).mpr N,(a c D M).mpr Q⟩
noncomputable def jS(e:ae)(A D:aB):Bool:= @decide (Eqv e A D) (Gg _)
def mG:jS j or v6=I↔Eqv j or v6:=by simp_all [jS]
def LB{c:List aB}(D:c∈hb j):∃A:List aB,c=(aq j).filter A.contains:=by
 unfold hb at D;let⟨A,_,G⟩:=bE.mp D
 exact⟨A,G.symm⟩
theorem wk(Q:e6 j){c:List aB}(D:c∈hb j)(M:or∈c):c=(aq j).filter (jS j or):=by
 let⟨N,T⟩:=wj Q;have U:=(N.cover or).mpr ⟨c,D,M⟩
 have h:∀G∈aq j,(G∈c↔jS j or G=I):=λG a=>by
  rw [mG,<-T or G U a];constructor
  .intro b;exact⟨c,D,M,b⟩
  .rintro⟨d,f,g,i⟩;rwa [N.apart _ D _ f or M g]
 obtain⟨d,rfl⟩:=LB D;grind [kW]
theorem sI(D:e6 j)(G:or∈aq j):cI (hb j) or=(aq j).filter (jS j or):=by
 let⟨M,N⟩:=wj D;let⟨Q,S⟩:=M.of G
 grind [wk]
theorem LC(Q:e6 j){r:aB->aB}(i:∀A∈aq j,r A∈aq j/\Eqv j A (r A))(f:∀A∈aq j,∀D∈aq j,Eqv j A D->r A=r D):(((aq j).filter λA=>decide (r A=A)).map λA=>(aq j).filter (jS j A)).Perm (hb j):=by
 let⟨T,s⟩:=wj Q;refine(uI ?_ T.nd).mpr λc=> ?_
 .have:∀G:List aB,G.Nodup->(∀A∈G,A∈aq j/\r A=A)->(G.map λA=>(aq j).filter (jS j A)).Nodup:=by
   intro G;induction G with
   |nil=>grind
   |cons A t e=>
    intro k U;let⟨u,l⟩:=eB.mp k
    rw [aV,eB];refine⟨λm=> ?_,e l λD a=>U D (bM _ a)⟩;let⟨D,a,n⟩:=bE.mp m
    let⟨g,v⟩:=U A bY;let⟨o,w⟩:=U D (bM _ a)
    have p:A∈(aq j).filter (jS j D):=by rw [n];exact dA.mpr ⟨g,mG.mpr ((kD j).refl A)⟩
    have:=f D o A g (mG.mp (dA.mp p).2);grind
  exact this _ (Gq Gr Q.places) λA M=>by grind
 .rw [bE];constructor
  .rintro⟨A,M,rfl⟩;have N:=(dA.mp M).1
   rw [<-sI Q N];exact(T.of N).1
  .intro b;let⟨A,M⟩:=T.ne c b
   have N:=(T.cover A).mpr ⟨c,b,M⟩;let⟨d,h⟩:=i A N
   have q:=(f A N (r A) d h).symm;refine⟨r A,dA.mpr ⟨d,ck q⟩, ?_⟩;have x:r A∈c:=by rw [wk Q b M];exact dA.mpr ⟨d,mG.mpr h⟩
   grind [wk]
theorem Bw:∀(D:List Nat) (A:Nat),A<=D.foldl max A/\∀y∈D,y<=D.foldl max A
 |[],A=>⟨aX _,λ_ G=>nomatch G⟩
 |x::a,A=>by obtain⟨M,N⟩:=Bw a (max A x);grind
theorem Bx:∀(D:List Nat) (A:Nat),D.foldl max A=A\/D.foldl max A∈D
 |[],A=>.inl S
 |x::a,A=>by
  rw [R1];rcases Bx a (max A x)with G|G
  .rw [G];by_cases M:A<=x
   .right;rw [Nat.max_eq_right M];exact bY
   .left;omega
  .exact .inr (bM _ G)
theorem LD(G:r∈wr)(M:∀y∈wr,y<=r):wr.foldl max 0=r:=by grind [Bw,Bx]
structure oW(M:ae)(N:aB)(A:aB->Prop)(D:Pred):Prop where
 here:A N
 asked:∀p,A p->∀Q∈ff M p,A Q
 way:∀G d,d3 M D G d->A d->A G
 iH:∀p a,fN M p a->A p->D p a
 sJ:∀G d a,d3 M D G d->D G a->A d->D d a
def hJ(D:ae)(G M:aB):Prop:=∀A N,oW D G A N->A M
def ji(D:ae)(G:aB):Pred:=λM N=>∀Q A,oW D G Q A->A M N
def mH(S:ae)(T:aB):oW S T (hJ S T) (ji S T):=
 ⟨λA D c=>c.here,λG M d e A D c=>c.asked G (M A D c) d e,λN U a M A D c=>c.way N U (a.mono λG Q b=>b A D c) (M A D c),λG Q N M A D c=>c.iH G Q N (M A D c),λN U Q a f g A D c=>c.sJ N U Q (a.mono λG Q b=>b A D c) (f A D c) (g A D c)⟩
theorem LF(A:or∈ff j v6):or∈aq j:=by
 unfold ff at A;have M:∀{S:Nat} {N y:ae},mf j S=Y N->y∈kids N->or=b0 y->or∈aq j:=λT U a=>by rw [a];exact jQ (fL T) U
 split at A
 .split at A
  .rename_i D;exact M D (by simp [kids]) (bf.mp A)
  .rename_i D;exact M D (by simp [kids]) (bf.mp A)
  .rename_i D;exact M D (by simp [kids]) (bf.mp A)
  .rename_i D;exact M D (by simp [kids]) (bf.mp A)
  .cases A
 all_goals grind [Gw,jQ,kids,Gx]
def wm(N:aB)(Q:N∈aq j):oW j N (λA=>A∈aq j) (h6 j):=
 ⟨Q,λA _ b S=>LF S,λT U D _=>qB (λ_ _ G=>G.2) D,λA a M _=>lD M,λT U a D M _=>⟨oC (λ_ _ G=>G.2) D,M.2⟩⟩
structure oX(j:ae)(A:aB)(k:p3):Prop where
 pn:k.places.Nodup
 tn:k.table.Nodup
 here:A∈k.places
 ps:∀p∈k.places,hJ j A p
 ts:∀D∈k.table,ji j A D.place D.abs
def mI(e:ae)(A:p3):List aB:=cT (cT A.places (A.places.flatMap (ff e))) (((ux e A.table).filter λD=>A.places.contains D.dst).map λD=>D.src)
def wo(e:ae)(A:p3):jC e A=⟨mI e A,cT A.table ((nK e A.table).filter λD=>(mI e A).contains D.place)⟩:=rfl
def LG{U:p3}(G:oX j or U):oX j or (jC j U):=by
 have a:=mH j or;have d:∀D M,e4 U.table D M->ji j or D M:=λD M i=>G.ts ⟨D,M⟩ i
 rw [wo];have g:∀D∈mI j U,hJ j or D:=λD A=>by
  unfold mI at A;rcases ho.mp A with A|A
  .rcases ho.mp A with A|A
   .exact G.ps D A
   .let⟨b,e,A⟩:=dH.mp A;exact a.asked b (G.ps b e) D A
  .obtain⟨c,hw,rfl⟩:=bE.mp A;let⟨Q,f⟩:=dA.mp hw
   exact a.way _ c.dst ((oz.mp ⟨c.by_,Q⟩).mono d) (G.ps _ (ir.mp f))
 refine⟨mD (mD G.pn),mD G.tn,ho.mpr (.inl (ho.mpr (.inl G.here))),g,λh T=> ?_⟩;rcases ho.mp T with T|T
 .exact G.ts h T
 .let⟨Q,f⟩:=dA.mp T;let⟨D,M⟩:=h
  have A:=g D (ir.mp f);rcases oA.mp Q with Q|⟨k,c,b⟩
  .exact a.iH D M Q A
  .exact a.sJ k D M (c.mono d) (d _ _ b) A
def LH(A:p3):A.places.length<=(jC e A).places.length/\A.table.length<=(jC e A).table.length/\((jC e A).places.length=A.places.length->(jC e A).table.length=A.table.length->jC e A=A):=by
 rw [wo];have M:=mE (u:=A.places) (m:=A.places.flatMap (ff e))
 have N:=mE (u:=cT A.places (A.places.flatMap (ff e))) (m:=((ux e A.table).filter λD=>A.places.contains D.dst).map λD=>D.src);refine⟨cq M N,mE,λG Q=> ?_⟩;have G:(mI e A).length=A.places.length:=G
 unfold mI at G;have S:(cT A.places (A.places.flatMap (ff e))).length=A.places.length:=by omega
 simp_all [mI,oy]
theorem LI{A:p3}(d:oX j or A)(G:jC j A=A):oW j or (λD=>D∈A.places) (e4 A.table):=by
 rw [wo]at G;have T:=bN Ug G
 have U:=bN Uh G;refine⟨d.here,λD a l f=> ?_,λM b N c=> ?_,λD g h a=> ?_,λM b g N i c=> ?_⟩
 .rw [<-T];exact ho.mpr (.inl (ho.mpr (.inr (dH.mpr ⟨D,a,f⟩))))
 .rw [<-T];let⟨e,k⟩:=oz.mpr N
  exact ho.mpr (.inr (bE.mpr ⟨⟨M,b,e⟩,dA.mpr ⟨k,ir.mpr c⟩,S⟩))
 .rw [<-U];exact ho.mpr (.inr (dA.mpr ⟨oA.mpr (.inl h),by grind⟩))
 .rw [<-U];exact ho.mpr (.inr (dA.mpr ⟨oA.mpr (.inr ⟨M,N,i⟩),by grind⟩))
theorem By(M:or∈aq e):∀(D:Nat) (A:p3),oX e or A->(aq e).length+pX e<D+(A.places.length+A.table.length)->oX e or (zc e D A)/\jC e (zc e D A)=zc e D A
 |0,A,a,b=>by
  have Q:=wm or M;have g:=qy a.pn λS c=>a.ps S c _ _ Q
  have h:=qy a.tn λT d=>by
   have:=a.ts T d _ _ Q;let⟨S,i⟩:=T
   exact AX.mpr this
  grind [AZ]
 |D+1,A,a,b=>by
  unfold zc;by_cases U:jC e A=A
  .grind
  .simp [N U];let⟨j,k,f⟩:=LH (e:=e) A
   have:(jC e A).places.length+(jC e A).table.length≠A.places.length+A.table.length:=λl=>U (f (by omega) (by omega));exact By M D _ (LG a) (by omega)
theorem Bz(T:or∈aq j):(∀A,A∈(R3 j or).places↔hJ j or A)/\∀A M,e4 (R3 j or).table A M↔ji j or A M:=by
 have U:oX j or ⟨[or],[]⟩:=⟨by simp,gT,bf.mpr S,λA a=>bf.mp a▸(mH j or).here,λd b=>nomatch b⟩
 let⟨N,c⟩:=By T ((aq j).length+pX j+1) ⟨[or],[]⟩ U (by grind)
 have Q:=LI N c;exact⟨λA=>⟨λG=>N.ps A G,λG=>G _ _ Q⟩,λA M=>⟨λG=>N.ts ⟨A,M⟩ G,λG=>G _ _ Q⟩⟩
noncomputable def wq(e:ae)(A D:aB):Bool:= @decide (hJ e A D) (Gg _)
def BB:wq j or v6=I↔hJ j or v6:=by simp_all [wq]
theorem LJ(D:or∈aq j):jD j or=(aq j).filter (wq j or):=by unfold jD;refine kW λG _=> ?_;rw [iR,BB,<-(Bz D).1 G];grind
theorem BC(i:e6 j)(e:hJ j v6 or):ji j v6 or ut↔gM j or ut:=by
 have a:=mH j v6;constructor
 .intro c;have k:=qz j
  exact c (λ_=>True) (gM j) ⟨trivial,λ_ _ _ _=>trivial,λ_ _ _ _=>trivial,λor ut N _=>k.iH or ut N,λN g ut D c _=>k.way N g ut D c⟩
 .intro c;have K:oB j (λor ut=>h6 j or ut/\(hJ j v6 or->ji j v6 or ut)):=by
   have l:=AW j;refine⟨λor ut N=>⟨l.iH or ut N,λe=>a.iH or ut N e⟩,λN g ut D c=>⟨l.way N g ut (D.mono λ_ _ p=>p.1) c.1,λb=> ?_⟩⟩;have m:d3 j (ji j v6) N g:=by
    let⟨Q,n,D⟩:=D;refine⟨Q,n, ?_⟩;have h:mf j (af Q)=Y Q:=by rw [i.nodeAt];exact i.get n
    cases Q<;>simp [du]at D⊢<;>try exact D
    .rename_i M q r;let⟨T,U,o⟩:=D
     refine⟨T,U.2 ?_,o⟩;rcases o with⟨_,rfl⟩|⟨_,_,_,rfl⟩
     .refine a.asked _ b _ ?_;unfold ff;let⟨y,u,s⟩:=vT U.1.2
      have t:(zd j).contains T=I:=by rw [ir];unfold zd;exact bE.mpr ⟨_,dA.mpr ⟨s,S⟩,S⟩
      simp [t,eP];unfold Gw;grind
     .refine a.asked _ b _ ?_;unfold ff;simp only [show mf j M=Y (R4 M q r)from h];grind
    .rename_i M Q;obtain⟨T,U,d,rfl⟩:=D;refine⟨T,U.2 (a.asked _ b _ ?_),d,S⟩;unfold ff;simp only [show mf j M=Y (R5 M Q)from h];grind
    .rename_i M Q;obtain⟨T,U,d,rfl⟩:=D;refine⟨T,U.2 (a.asked _ b _ ?_),d,S⟩;unfold ff;simp only [show mf j M=Y (R6 M Q)from h];grind
    .rename_i M Q;obtain⟨T,U,d,rfl⟩:=D;refine⟨T,U.2 (a.asked _ b _ ?_),d,S⟩;unfold ff;simp only [show mf j M=Y (R7 M Q)from h];grind
    .rename_i M v Q;rcases D with D|⟨T,U,d,rfl⟩
     .grind
     .refine .inr ⟨T,U.2 (a.asked _ b _ ?_),d,S⟩;grind [ff,Gx]
   exact a.sJ N g ut m (c.2 (a.way N g m b)) b
  grind [least_le]
theorem LK(D:e6 j)(G:or∈aq j):kg j or=(bq j).filter (gq j or):=by unfold kg;refine kW λM _=> ?_;rw [iR,qA,<-BC D (mH j or).here,<-(Bz G).2 or M];unfold y5 e4;grind
abbrev Pr:=Nat×Nat
abbrev Wy:=Pr×Pr
abbrev Tb:=List (Pr×List Pr)
def ba(A:Tb)(D:Pr):Option (List Pr):=(A.find? λy=>decide (y.1=D)).map (·.2)
def d4(D:Nat)(G:List Pr):List Nat:=G.filterMap λA=>if A.1=D then Y A.2 else O
structure Pg where
 nodes:List Info
 binders:List (Nat×Nat)
 sorts:List Pr
 places:List Pr
def lJ(A:Pg)(D:Nat):Option Nat:=(A.binders.find? λG=>decide (G.1=D)).map (·.2)
def eU(D:Pg)(A:Nat)(G:Fm)(M:List Nat):List Wy:=match G,M with
 |.used,_=>(match lJ D A with
  |some b=>[((1,b),(0,A))]
  |none=>[])
 |.letE,[d,b]=>[((0,d),(1,A)),((0,b),(0,A))]
 |.ifz,[_,c,e]=>[((0,c),(0,A)),((0,e),(0,A))]
 |.pair,[a,b]=>[((0,a),(2,A)),((0,b),(3,A))]
 |.new,[a]=>[((0,a),(4,A))]
 |.set,[_,d]=>[((0,d),(0,A))]
 |_,_=>[]
def mJ(A:Pg)(u:Nat):Nat:=(((A.nodes[u]?).map (·.parts)).getD []).headD 0
def jT(A:Pg)(D G:Nat)(M:List Nat):List Wy:=M.flatMap λu=>[((0,G),(1,u)),((0,mJ A u),(0,D))]
def fq(G:Pg)(A:Tb)(D:Nat)(M:Fm)(N:List Nat):List Wy:=match M,N with
 |.call,[c,d]=>jT G D d (d4 1 ((ba A (0,c)).getD []))
 |.fst,[c]=>(d4 2 ((ba A (0,c)).getD [])).map λu=>((2,u),(0,D))
 |.snd,[c]=>(d4 2 ((ba A (0,c)).getD [])).map λu=>((3,u),(0,D))
 |.get,[c]=>(d4 3 ((ba A (0,c)).getD [])).map λu=>((4,u),(0,D))
 |.set,[c,d]=>(d4 3 ((ba A (0,c)).getD [])).map λu=>((0,d),(4,u))
 |_,_=>[]
def qO(A:Pg)(G:Tb)(D:Nat):List Wy:=match A.nodes[D]? with
 |some i=>eU A D i.aJ i.parts++fq A G D i.aJ i.parts
 |none=>[]
def fG(A:Pg)(D:Tb)(G:Nat):List Wy:=(eY G).flatMap (qO A D)
structure wt(A:Pg)(tab:Tb):Prop where
 bF:A.nodes.length<=30
 full:∀(D:Nat) (i:Info),A.nodes[D]?=Y i->i.parts.length=arity i.aJ
 bound:∀(D:Nat) (i:Info),A.nodes[D]?=Y i->i.aJ=.used->(lJ A D).isSome=I
 tab:∀(D:Nat) (i:Info),A.nodes[D]?=Y i->∀c∈i.parts,∃ps,ba tab (0,c)=Y ps/\ps.length<=1000/\∀u∈d4 1 ps,∃G M N,A.nodes[u]?=Y G/\G.parts=M::N
variable{re:List Pr}
theorem iJ{u:Nat}:u∈d4 r re↔(r,u)∈re:=by unfold d4;grind
def A:aB->Pr
 |.node a=>(0,a)|.name a=>(1,a)|.first a=>(2,a)|.second a=>(3,a)|.inside a=>(4,a)
def a9:cx->Pr
 |.num=>(0,0)|.fn a=>(1,a)|.pair a=>(2,a)|.ref a=>(3,a)
theorem ed(M:A or=A v6):or=v6:=by cases or<;>cases v6<;>simp [A]at M<;>simp [M]
theorem mK{D:cx}(G:a9 ut=a9 D):ut=D:=by cases ut<;>cases D<;>simp [a9]at G<;>simp [G]
def mL(A:ae):List (Nat×Nat):=(aH A).filterMap λD=>match D with
 |.var a y=>if y=dq then O else(g9 A a).map λG=>(a,G)
 |_=>O
def de(D:ae):Pg:=⟨infos O D,mL D,(bq D).map a9,(aq D).map A⟩
structure bD(A:ae):Prop where
 told:bp A=I
 mM:aT 0 A=A
 bF:size A<=30
 deep:dI A<=8
 bound:∀D x,hZ D x∈aH A->x=dq\/(g9 A D).isSome=I
 free:∀D,hZ D dq∈aH A->g9 A D=O
 cY:e6 A
theorem qP(D:me j=I):bD j:=by
 let⟨M,N,Q,T,U⟩:=Bs.mp D;have G:=A4 D
 refine⟨M,N,Q,T,U,λb a=> ?_,G⟩;let⟨o,c⟩:=Br j [] a G S
 grind [wg,Lu]
theorem wu:rc∈aH j->rc=j\/∃y∈aH j,rc∈kids y:=by
 generalize b:gk j=n;induction n using RV generalizing j with
 |_ n a=>
  intro A;rw [e5]at A;rcases bb.mp A with A|A
  .grind
  .let⟨M,Q,N⟩:=dH.mp A;rcases a (gk M) (by grind [h8]) S N with A|⟨y,c,d⟩
   all_goals grind [hE,so,jb]
section
variable {e:ae} (G:bD e)
include G
theorem bD.info{A:ae}(M:A∈aH e):∃N,(infos O e)[af A]?=Y (cZ N A):=by
 have D:=sD G.mM;rcases wu M with rfl|⟨y,a,b⟩
 .exact⟨O,D.top⟩
 .exact⟨_,D.oU y a A b⟩
theorem bD.lt{A:ae}(D:A∈aH e):af A<size e:=(cM.mp (G.cY.get D)).1
theorem bD.node{l:Nat}(M:l<size e):∃A∈aH e,af A=l:=by
 obtain⟨A,D⟩:∃A,(aH e)[l]?=Y A:=⟨_,gj M⟩
 exact⟨A,cH D,G.cY.at D⟩
theorem bD.wx{A:Nat}{M:Info}(Q:(infos O e)[A]?=Y M):∃D∈aH e,af D=A/\∃N,M=cZ N D:=by
 have S:A<size e:=by have:=(cM.mp Q).1;rwa [e7]at this
 let⟨D,T,U⟩:=G.node S;let⟨N,a⟩:=G.info T
 grind
theorem bD.bind{A:Nat}{y:dC}(N:hZ A y∈aH e)(S:y≠dq):lJ (de e) A=g9 e A:=by
 let⟨Q,T⟩:=rh.mp ((G.bound A y N).resolve_left S);have U:(A,Q)∈mL e:=nu.mpr ⟨_,N,by grind⟩
 rw [T];unfold lJ;show((mL e).find? λM=>decide (M.1=A)).map (·.2)=Y Q
 cases a:(mL e).find? λM=>decide (M.1=A)with
 |none=>
  grind
 |some b=>
  let⟨M,c,D⟩:=nu.mp (fL a);split at D
  .rename_i d f;split at D
   .cases D
   .let⟨g,h,i⟩:=cm.mp D;grind
  .cases D
end
structure bI(D:ae)(tab:Tb)(G:Pred):Prop where
 keys:tab.map (·.1)=(aq D).map A
 row:∀p∈aq D,∃ps,ba tab (A p)=Y ps/\ps.Nodup/\(∀x∈ps,∃a∈bq D,x=a9 a)/\∀a,a9 a∈ps↔G p a
variable{pc:Tb}
theorem bI.sort(Q:bI j pc wp)(S:or∈aq j)(T:wp or ut):ut∈bq j:=by let⟨U,_,_,a,b⟩:=Q.row or S;grind [mK]
theorem bI.congr(Q:bI j pc wp)(U:∀A∈aq j,∀S,wp A S↔Tm A S):bI j pc Tm:=
 ⟨Q.keys,λA T=>by let⟨a,b,c,d,e⟩:=Q.row A T;grind⟩
theorem lK(A:ae):(bq A).length<=size A+1:=by simp_all [bq,size,iZ]
theorem sL(M:re.Nodup)(Q:∀G∈re,∃N∈bq j,G=a9 N):re.length<=size j+1:=by
 have:re.length<=((bq j).map a9).length:=qy M λG S=>by grind
 grind [lK]
theorem wy(M:bD j)(a:Gb r∈bq j):∃y D,pW r y D∈aH j/\uw j r=Y (af D)/\mJ (de j) r=af D/\∃Q,(infos O j)[r]?=Y (cZ Q (.fn r y D)):=by
 let⟨y,D,N⟩:=vT a;refine⟨y,D,N, ?_, ?_,M.info N⟩
 .unfold uw;rw [M.cY.nodeAt];have:=M.cY.get N
  have T:af (pW r y D)=r:=rfl;grind
 .let⟨Q,U⟩:=M.info N;unfold mJ;have T:af (pW r y D)=r:=rfl
  rw [T]at U;show(((infos O j)[r]?.map (·.parts)).getD []).headD 0=_
  rw [U];rfl
def bI.ok(A:bD j)(a:bI j pc wp):wt (de j) pc:=by
 refine⟨by show(infos O j).length<=30;rw [e7];exact A.bF,λQ b G=> ?_,λQ b G d=> ?_,λQ b G c k=> ?_⟩
 .obtain⟨D,M,_,T,rfl⟩:=A.wx G;show((kids D).map af).length=arity (aA D)
  rw [ag];cases D<;>first|rfl|(simp [aA];split<;>rfl)
 .obtain⟨D,M,e,T,rfl⟩:=A.wx G;cases D with
  |var f y=>
   have g:y≠dq:=λh=>by have:aA (.var f y)=.used:=d;simp_all [aA]
   have l:f=Q:=e;subst l;rw [A.bind M g];exact(A.bound _ y M).resolve_left g
  |_=>exact absurd d (λh=>nomatch h)
 .obtain⟨D,M,e,T,rfl⟩:=A.wx G;obtain⟨v,m,rfl⟩:=bE.mp k;have i:=gp (jb M m)
  let⟨n,o,p,q,r⟩:=a.row _ i;refine⟨n,o, ?_,λu s=> ?_⟩
  .have:=sL p q;have:=A.bF
   omega
  .let⟨y,w,_,_,_,T,t⟩:=wy A (a.sort i ((r (.fn u)).mp (iJ.mp s)));exact⟨_,_,_,t,S⟩
variable{s0 KB:Pr}
theorem BD(k:bD rc)(r:bI rc pc wp)(l:j∈aH rc):(s0,KB)∈eU (de rc) (af j) (aA j) ((kids j).map af)++fq (de rc) pc (af j) (aA j) ((kids j).map af)↔∃d e,s0=A d/\KB=A e/\du rc wp j d e:=by
 have f:∀s∈kids j,∃g,ba pc (0,af s)=Y g/\∀G,a9 G∈g↔wp (b0 s) G:=λs E=>by let⟨g,N,_,_,Q⟩:=r.row _ (gp (jb l E));exact⟨g,N,Q⟩
 cases j with
 |num a n=>simp [aA,eU,fq,du]
 |fn a y U=>simp [aA,eU,fq,du]
 |add a G U=>simp [aA,eU,fq,du]
 |var a y=>
  by_cases t:y=dq
  .subst t;simp [aA,eU,fq,du,k.free a l]
  .simp only [aA,t,iT,eU,fq,bZ,du,(S:af (hZ a y)=a)];rw [show af (hZ a y)=a from rfl,k.bind l t];cases m:g9 rc a with
   |none=>simp
   |some U=>
    constructor
    .intro D;have D:=bf.mp D
     injection D with N M;exact⟨.name U,.node a,N,M,U,S,S,S⟩
    .rintro⟨d,e,N,M,F,o,b,Q⟩;obtain rfl:=a8 o;subst b Q;rw [N,M];exact bf.mpr S
 |letE a y G U=>
  simp only [aA,kids,aV,fx,eU,fq,bZ,du,(S:af (Ga a y G U)=a)];constructor
  .intro D;rcases bb.mp D with D|D
   .injection D with N M;exact⟨b0 G,.name a,N,M,.inl ⟨S,S⟩⟩
   .have D:=bf.mp D;injection D with N M;exact⟨b0 U,.node a,N,M,.inr ⟨S,S⟩⟩
  .rintro⟨d,e,rfl,rfl,⟨rfl,rfl⟩|⟨rfl,rfl⟩⟩
   .exact bY
   .exact bM _ (bf.mpr S)
 |ifz a c G U=>
  simp only [aA,kids,aV,fx,eU,fq,bZ,du,(S:af (Ui a c G U)=a)];constructor
  .intro D;rcases bb.mp D with D|D
   .injection D with N M;exact⟨b0 G,.node a,N,M,.inl ⟨S,S⟩⟩
   .have D:=bf.mp D;injection D with N M;exact⟨b0 U,.node a,N,M,.inr ⟨S,S⟩⟩
  .rintro⟨d,e,rfl,rfl,⟨rfl,rfl⟩|⟨rfl,rfl⟩⟩
   .exact bY
   .exact bM _ (bf.mpr S)
 |pair a G U=>
  simp only [aA,kids,aV,fx,eU,fq,bZ,du,(S:af (y2 a G U)=a)];constructor
  .intro D;rcases bb.mp D with D|D
   .injection D with N M;exact⟨b0 G,.first a,N,M,.inl ⟨S,S⟩⟩
   .have D:=bf.mp D;injection D with N M;exact⟨b0 U,.second a,N,M,.inr ⟨S,S⟩⟩
  .rintro⟨d,e,rfl,rfl,⟨rfl,rfl⟩|⟨rfl,rfl⟩⟩
   .exact bY
   .exact bM _ (bf.mpr S)
 |new a G=>
  simp only [aA,kids,aV,fx,eU,fq,bZ,du,(S:af (y3 a G)=a)];constructor
  .intro D;have D:=bf.mp D
   injection D with N M;exact⟨b0 G,.inside a,N,M,S,S⟩
  .rintro⟨d,e,rfl,rfl,rfl,rfl⟩;exact bf.mpr S
 |fst a G=>
  let⟨g,N,Q⟩:=f G (by simp [kids]);simp only [aA,kids,aV,fx,eU,fq,cV,du,(S:af (R5 a G)=a),N,nQ,bE];constructor
  .rintro⟨u,T,D⟩;injection D with M b;exact⟨.first u,.node a,M.symm,b.symm,u,(Q (.pair u)).mp (iJ.mp T),S,S⟩
  .rintro⟨d,e,rfl,rfl,u,T,rfl,rfl⟩;exact⟨u,iJ.mpr ((Q (.pair u)).mpr T),S⟩
 |snd a G=>
  let⟨g,N,Q⟩:=f G (by simp [kids]);simp only [aA,kids,aV,fx,eU,fq,cV,du,(S:af (R6 a G)=a),N,nQ,bE];constructor
  .rintro⟨u,T,D⟩;injection D with M b;exact⟨.second u,.node a,M.symm,b.symm,u,(Q (.pair u)).mp (iJ.mp T),S,S⟩
  .rintro⟨d,e,rfl,rfl,u,T,rfl,rfl⟩;exact⟨u,iJ.mpr ((Q (.pair u)).mpr T),S⟩
 |get a G=>
  let⟨g,N,Q⟩:=f G (by simp [kids]);simp only [aA,kids,aV,fx,eU,fq,cV,du,(S:af (R7 a G)=a),N,nQ,bE];constructor
  .rintro⟨u,T,D⟩;injection D with M b;exact⟨.inside u,.node a,M.symm,b.symm,u,(Q (.ref u)).mp (iJ.mp T),S,S⟩
  .rintro⟨d,e,rfl,rfl,u,T,rfl,rfl⟩;exact⟨u,iJ.mpr ((Q (.ref u)).mpr T),S⟩
 |set a B G=>
  let⟨g,N,Q⟩:=f B (by simp [kids]);simp only [aA,kids,aV,fx,eU,fq,du,(S:af (Uj a B G)=a),N,nQ,bS,bE];constructor
  .rintro(D|⟨u,T,D⟩)
   .have D:=bf.mp D;injection D with M b;exact⟨b0 G,.node a,M,b,.inl ⟨S,S⟩⟩
   .injection D with M b;exact⟨b0 G,.inside u,M.symm,b.symm,.inr ⟨u,(Q (.ref u)).mp (iJ.mp T),S,S⟩⟩
  .rintro⟨d,e,rfl,rfl,⟨rfl,rfl⟩|⟨u,T,rfl,rfl⟩⟩
   .exact .inl (bf.mpr S)
   .exact .inr ⟨u,iJ.mpr ((Q (.ref u)).mpr T),S⟩
 |app a v G=>
  let⟨g,N,Q⟩:=f v (by simp [kids]);have C:b0 v∈aq rc:=gp (jb l (by simp [kids]))
  simp only [aA,kids,aV,fx,eU,fq,cV,du,(S:af (R4 a v G)=a),N,nQ,jT,dH];constructor
  .rintro⟨u,T,D⟩;have i:=(Q (.fn u)).mp (iJ.mp T)
   let⟨y,U,_,m,w,_⟩:=wy k (r.sort C i);rcases bb.mp D with D|D
   .injection D with M b;exact⟨b0 G,.name u,M,b,u,i,.inl ⟨S,S⟩⟩
   .injection (bf.mp D)with M b;exact⟨.node (af U),.node a,by rw [M,w];rfl,b,u,i,.inr ⟨_,m,S,S⟩⟩
  .rintro⟨d,e,rfl,rfl,u,i,⟨rfl,rfl⟩|⟨F,o,rfl,rfl⟩⟩
   .exact⟨u,iJ.mpr ((Q (.fn u)).mpr i),bY⟩
   .let⟨y,U,_,m,w,_⟩:=wy k (r.sort C i);rw [m]at o;obtain rfl:=a8 o;refine⟨u,iJ.mpr ((Q (.fn u)).mpr i),bM _ (bf.mpr ?_)⟩;rw [w];rfl
theorem BE(N:bD j)(k:bI j pc wp){c:Pr}:(s0,c)∈fG (de j) pc (de j).nodes.length↔∃Q S,s0=A Q/\c=A S/\d3 j wp Q S:=by
 have d:(de j).nodes.length=size j:=e7 j O;unfold fG;rw [dH];constructor
 .rintro⟨l,e,G⟩;rw [d,lZ]at e;let⟨T,M,f⟩:=N.node e
  let⟨g,m⟩:=N.info M;unfold qO at G;have n:(de j).nodes[l]?=Y (cZ g T):=by rwa [<-f]
  rw [n]at G;have G:=G
  rw [<-f]at G;let⟨Q,S,h,i,D⟩:=(BD N k M).mp G
  exact⟨Q,S,h,i,T,M,D⟩
 .rintro⟨Q,S,h,i,T,M,D⟩;refine⟨af T,by rw [d,lZ];exact N.lt M, ?_⟩;let⟨g,m⟩:=N.info M
  grind [qO,de,cZ,BD]
def fl(A:List ai):Nat:=(A.map cN).sum
def LL:fl []=0:=rfl
theorem oY(A:ai)(D:List ai):fl (A::D)=A.length+fl D:=by simp [fl]
theorem kE(A D:List ai):fl (A++D)=fl A+fl D:=by simp [fl]
theorem wz(A:List ai):A.flatten.length=fl A:=by
 induction A with
 |nil=>rfl
 |cons w a b=>grind [oY]
def restOf(A:List ae)(D:Nat):Nat:=(A.map λG=>1+fl (aY G)).sum+D
def dw:ae->Nat->List (Nat×Nat)
 |.num d n,b=>[(fl (aY (.num d n))+b,b)]
 |.var d x,b=>[(fl (aY (.var d x))+b,b)]
 |.fn d x f,b=>(fl (aY (.fn d x f))+b,b)::dw f (1+b)
 |.app d h a,b=>(fl (aY (.app d h a))+b,b)::(dw h (restOf [a] (1+b))++dw a (1+b))
 |.letE d x e f,b=>(fl (aY (.letE d x e f))+b,b)::(dw e (restOf [f] (1+b))++dw f (1+b))
 |.ifz d c g e,b=>(fl (aY (.ifz d c g e))+b,b)::(dw c (restOf [g,e] (1+b))++(dw g (restOf [e] (1+b))++dw e (1+b)))
 |.pair d a f,b=>(fl (aY (.pair d a f))+b,b)::(dw a (restOf [f] (1+b))++dw f (1+b))
 |.fst d e,b=>(fl (aY (.fst d e))+b,b)::dw e (1+b)
 |.snd d e,b=>(fl (aY (.snd d e))+b,b)::dw e (1+b)
 |.new d e,b=>(fl (aY (.new d e))+b,b)::dw e (1+b)
 |.get d e,b=>(fl (aY (.get d e))+b,b)::dw e (1+b)
 |.set d a f,b=>(fl (aY (.set d a f))+b,b)::(dw a (restOf [f] (1+b))++dw f (1+b))
 |.add d a f,b=>(fl (aY (.add d a f))+b,b)::(dw a (restOf [f] (1+b))++dw f (1+b))
def gs:List ae->Nat->List (Nat×Nat)
 |[],_=>[]
 |k::ks,a=>dw k (restOf ks a)++gs ks a
theorem oZ(A:ae)(D:Nat):dw A D=(fl (aY A)+D,D)::gs (kids A) (1+D):=by cases A<;>simp [dw,kids,gs,restOf]
theorem o1:∀(A:ae) (D:Nat),(dw A D).length=size A:=by intro A;induction A<;>intro D<;>simp [dw,dG,bB,jB,A5,A6,oE,oF,oG,oH,oI,oJ,oK,oL,oM,oN,oO, *]<;>omega
theorem LM(A D:List ae)(G:Nat):gs (A++D) G=gs A (restOf D G)++gs D G:=by
 induction A with
 |nil=>rfl
 |cons k ks a=>
  grind [restOf,gs]
structure RX where
 ws:List ai
 nodes:List Info
 around:List Nat
 sp:List (Nat×Nat)
def RX.rs(A:RX):RS:=⟨A.ws,A.nodes,A.around⟩
def fP(D:RX):Option RX:=(begin_ D.rs).map λA=>⟨A.ws,A.nodes,A.around,D.sp++[(fl D.ws,fl A.ws)]⟩
def ft(D:RX):Option RX:=match D.around with
 |[]=>O
 |p::A=>match D.nodes[p]? with
  |none=>O
  |some i=>if i.parts.length=arity i.aJ then(pass [41] D.ws).map λG=>⟨G,D.nodes,A,D.sp.modify p λM=>(M.1,fl G)⟩
   else((if i.aJ≠.call\/i.parts≠[]then pass [32] D.ws else Y D.ws)).bind λG=>fP ⟨G,D.nodes,p::A,D.sp⟩
def BF(A:RX):(fP A).map RX.rs=begin_ A.rs:=by unfold fP;cases begin_ A.rs<;>rfl
def wA(Q:RX):(ft Q).map RX.rs=hG Q.rs:=by
 let⟨A,G,M,T⟩:=Q;cases M with
 |nil=>rfl
 |cons p M=>
  show(match G[p]? with
  |none=>O
  |some i=>if i.parts.length=arity i.aJ then(pass [41] A).map λD=>(⟨D,G,M,T.modify p λU=>(U.1,fl D)⟩:RX)
   else((if i.aJ≠Fm.call\/i.parts≠[]then pass [32] A else Y A)).bind λD=>fP ⟨D,G,p::M,T⟩).map RX.rs=match G[p]? with
  |none=>O
  |some i=>if i.parts.length=arity i.aJ then(pass [41] A).map λD=>(⟨D,G,M⟩:RS)
   else((if i.aJ≠Fm.call\/i.parts≠[]then pass [32] A else Y A)).bind λD=>begin_ ⟨D,G,p::M⟩
  cases G[p]? with
  |none=>rfl
  |some i=>
   dsimp only;by_cases c:i.parts.length=arity i.aJ
   .rw [ak c,ak c];cases pass [41] A<;>rfl
   .rw [N c,N c];cases (if i.aJ≠Fm.call\/i.parts≠[]then pass [32] A else Y A)with
    |none=>rfl
    |some D=>exact BF _
def mO{A D:RX}(G:ft A=Y D):D.ws.length<A.ws.length:=by have:=wA A;rw [G]at this;exact qF (S':=D.rs) this.symm
def jj:Nat->RX->Option RX
 |0,a=>if a.around=[]then Y a else O
 |n+1,a=>if a.around=[]then Y a else(ft a).bind (jj n)
def ep(A:RX):Option RX:=jj A.ws.length A
theorem wB:∀(D:Nat) (A:RX),A.ws.length<=D->jj D A=ep A
 |0,A,c=>by grind [ep]
 |D+1,A,c=>by
  unfold ep;cases d:A.ws.length with
  |zero=>
   unfold jj;by_cases G:A.around=[]
   .grind
   .rw [N G,N G];cases b:ft A with
    |none=>rfl
    |some a=>have:=mO b;omega
  |succ m=>
   show(if A.around=[]then Y A else(ft A).bind (jj D))=if A.around=[]then Y A else(ft A).bind (jj m);by_cases G:A.around=[]
   .grind
   .rw [N G,N G];cases b:ft A with
    |none=>rfl
    |some a=>
     have:=mO b;show jj D a=jj m a
     rw [wB D a (by omega),wB m a (by omega)]
theorem mP(A:RX):ep A=if A.around=[]then Y A else(ft A).bind ep:=by
 by_cases D:A.around=[]
 .rw [ak D];unfold ep;cases A.ws.length<;>(simp_all [jj])
 .rw [N D];unfold ep;cases c:A.ws.length with
  |zero=>
   unfold jj;rw [N D];cases a:ft A with
   |none=>rfl
   |some b=>have:=mO a;omega
  |succ m=>
   show(if A.around=[]then Y A else(ft A).bind (jj m))=_;rw [N D];cases a:ft A with
   |none=>rfl
   |some b=>
    have:=mO a;grind [wB]
theorem LN:∀(G:Nat) (A:RX),A.ws.length<=G->(ep A).map RX.rs=loop A.rs:=by
 intro G;induction G with
 |zero=>
  intro A M;rw [mP,qG];by_cases D:A.around=[]
  .rw [ak D,ak (show A.rs.around=[]from D)];rfl
  .rw [N D,N (show¬A.rs.around=[]from D),<-wA];cases a:ft A with
   |none=>rfl
   |some b=>have:=mO a;omega
 |succ G c=>
  intro A M;rw [mP,qG];by_cases D:A.around=[]
  .rw [ak D,ak (show A.rs.around=[]from D)];rfl
  .rw [N D,N (show¬A.rs.around=[]from D),<-wA];cases a:ft A with
   |none=>rfl
   |some b=>
    have:=mO a;grind
def hK(D:List ai):Option (List Info×List (Nat×Nat)):=((fP ⟨D,[],[],[]⟩).bind ep).bind λA=>if A.ws=[]then Y (A.nodes,A.sp)else O
def wC(A:List ai):(hK A).map (·.1)=runM A:=by
 unfold hK runM;have D:begin_ ⟨A,[],[]⟩=(fP ⟨A,[],[],[]⟩).map RX.rs:=(BF ⟨A,[],[],[]⟩).symm
 rw [D];cases fP ⟨A,[],[],[]⟩with
 |none=>rfl
 |some b=>
  show((ep b).bind _).map _=(loop b.rs).bind _;rw [<-LN _ b (aX _)];cases ep b with
  |none=>rfl
  |some a=>
   show(if a.ws=[]then Y (a.nodes,a.sp)else O).map _=if a.rs.ws=[]then Y a.rs.nodes else O;by_cases c:a.ws=[]
   .rw [ak c,ak (show a.rs.ws=[]from c)];rfl
   .rw [N c,N (show¬a.rs.ws=[]from c)];rfl
theorem sM(G:Fm):∀(M:List ae) (A:Nat) (D:List ai),A≠0->fl (dv G A (M.map aY)++D)=restOf M (fl D)
 |[],A,D,a=>by simp [dv,restOf]
 |k::ks,A,D,a=>by simp only [aV,dv];rw [ak (.inr a),cv,cv,kE,kE,sM G ks (A+1) D (by omega)];grind [restOf,fl]
theorem LO{pE:Nat->List ai->Option (ae×List ai)}{d1:Nat}(u:∀(c:Nat) (Q:List ai) (h:List Info) (A:List Nat) (i:List (Nat×Nat)) (D:ae) (T:List ai),d1=A.length->c=h.length->i.length=h.length->c<=30->pE c Q=Y (D,T)->(fP ⟨Q,h,A,i⟩).bind ep=ep ⟨T,attach h A c++infos A.head? D,A,i++dw D (fl T)⟩)(o:∀(c:Nat) (Q:List ai) (D:ae) (T:List ai),c<=30->pE c Q=Y (D,T)->Q=aY D++T/\Reads d1 c D){fm:Fm} {x:ai} {p:Option Nat} {N0:List Info} {A:List Nat} {S0:List (Nat×Nat)} {s:Nat×Nat} (V:d1=A.length+1) (W:S0.length=N0.length):∀(e b:Nat) (Q:List ai) (M:List Nat) (G:List Info) (U:List (Nat×Nat)) (f:List ae) (g T:List ai),M.length=b->b+e=arity fm->U.length=G.length->N0.length+1+G.length<=30->hH pE fm e b (N0.length+1+G.length) Q=Y (f,g)->pass [41] g=Y T->ep ⟨Q,N0++⟨fm,x,p,M⟩::G,N0.length::A,S0++s::U⟩=ep ⟨T,N0++⟨fm,x,p,M++f.map af⟩::(G++f.flatMap (infos (Y N0.length))),A,S0++(s.1,fl T)::(U++gs f (fl g))⟩:=by
 intro e;induction e with
 |zero=>
  intro b Q M G U f g T q v w j a k;cases a;rw [mP,N (by simp)];have l:(N0++(⟨fm,x,p,M⟩:Info)::G)[N0.length]?=Y ⟨fm,x,p,M⟩:=by rw [hT (aX _),kY];rfl
  simp [ft,l];rw [ak (by grind),k];grind [sy,gs]
 |succ e y=>
  intro b Q M G U f g T q v w j a k;rw [mP,N (by simp)];have l:(N0++(⟨fm,x,p,M⟩:Info)::G)[N0.length]?=Y ⟨fm,x,p,M⟩:=by rw [hT (aX _),kY];rfl
  simp [ft,l];rw [N (show¬M.length=arity fm by omega)];have z:(if fm≠.call\/M≠[]then pass [32] Q else Y Q)=(if fm≠.call\/b≠0 then pass [32] Q else Y Q):=by
   by_cases X:fm≠.call\/b≠0
   .grind
   .grind
  simp [hH]at a;let⟨B,C,a⟩:=fA.mp a
  let⟨⟨D,d⟩,r,a⟩:=fA.mp a;let⟨⟨m,n⟩,E,a⟩:=fA.mp a
  cases a;rw [z,C];simp [gV];have F:(N0++(⟨fm,x,p,M⟩:Info)::G).length=N0.length+1+G.length:=by simp;omega
  have ab:(S0++s::U).length=N0.length+1+G.length:=by simp;omega
  rw [u (N0.length+1+G.length) B (N0++⟨fm,x,p,M⟩::G) (N0.length::A) (S0++s::U) D d (by grind) F.symm (by grind) j r];let⟨ad,t⟩:=o _ _ _ _ j r
  have H:af D=N0.length+1+G.length:=by exact(Row.mk t.qK:Row D _).lb
  simp only [R0];have K:attach (N0++(⟨fm,x,p,M⟩:Info)::G) (N0.length::A) (N0.length+1+G.length)++infos (Y N0.length) D=N0++⟨fm,x,p,M++[af D]⟩::(G++infos (Y N0.length) D):=by simp [attach];rw [sy,H];simp
  have al:N0.length+1+(G++infos (Y N0.length) D).length=N0.length+1+G.length+size D:=by rw [bB,e7];omega
  have L:(S0++s::U)++dw D (fl d)=S0++s::(U++dw D (fl d)):=by simp
  rw [K,L];have P:=t.sz
  have:=y (b+1) d (M++[af D]) (G++infos (Y N0.length) D) (U++dw D (fl d)) m n T (by simp [q]) (by omega) (by grind [o1]) (by grind) (by simp_all) k;rw [this];have am:fl d=restOf m (fl n):=by let⟨R,_⟩:=v8 o e (b+1) _ d m n P E;rw [R,sM _ _ _ _ (by omega)]
  grind [gs]
theorem BG:∀(d b U:Nat) (Q:List ai) (M:List Info) (G:List Nat) (e:List (Nat×Nat)) (c:ae) (a:List ai),b=G.length->U=M.length->e.length=M.length->U<=30->gZ d b U Q=Y (c,a)->(fP ⟨Q,M,G,e⟩).bind ep=ep ⟨a,attach M G U++infos G.head? c,G,e++dw c (fl a)⟩
 |0,_,_,_,_,_,_,_,_,_,_,_,_,D=>by cases D
 |d+1,b,U,Q,M,G,e,c,a,hd,o,R,y,D=>by
  have z:=sA (d+1) b U Q c a y D;simp only [gZ]at D;split at D
  .cases D
  .rename_i V;let⟨⟨f,q,h⟩,r,D⟩:=fA.mp D
   have t:=qH r;have B:begin_ (RX.rs ⟨Q,M,G,e⟩)=Y ⟨h,attach M G M.length++[⟨f,q,G.head?,[]⟩],if dV f=I then G else M.length::G⟩:=by unfold begin_ RX.rs;rw [N (by grind),r];rfl
   unfold fP;rw [B];simp [ma,gV];have u:fl Q=fl (aY c)+fl a:=by rw [z.1,kE]
   split at D
   .rename_i i;let⟨j,g,k⟩:=cm.mp D
    cases k;have T:=lI g t
    rw [ak i,oP,oZ,T.ks];unfold cZ;rw [T.fm,T.wd,T.ks,u,o];rfl
   .rename_i i;let⟨⟨C,v⟩,W,D⟩:=fA.mp D
    let⟨X,l,D⟩:=fA.mp D;let⟨j,g,k⟩:=cm.mp D
    cases k;have T:=lI g t
    dsimp only at l g T;rw [N i];have w:=LO (pE:=gZ d (b+1)) (d1:=b+1) (λU Q M E F j H m n K L P=>BG d (b+1) U Q M E F j H m n K L P) (λU Q c a m n=>sA d (b+1) U Q c a m n)
     (fm:=f) (x:=q) (p:=G.head?) (N0:=attach M G M.length) (A:=G) (S0:=e) (s:=(fl Q,fl h)) (by rw [hd]) (by grind [oQ]) (arity f) 0 h [] [] [] C v a S (by omega) S (by grind [oQ])
     (by grind [oQ]) l
    rw [oQ]at w;rw [w,oP,oZ,T.ks,T.lb];unfold cZ;rw [T.fm,T.wd,T.ks,u,o];have ab:fl v=1+fl a:=by rw [qJ.mp l,oY];rfl
    grind
theorem BH{N:List (Nat×Nat)}:hK (bX [] (sw.map norm))=Y (wS,N)↔∃A,bp A=I/\bj A=sw/\size A<=30/\dI A<=8/\aT 0 A=A/\wS=infos O A/\N=dw A 0:=by
 have e:∀A,bp A=I->size A<=30->dI A<=8->aT 0 A=A->hK (bX [] ((bj A).map norm))=Y (infos O A,dw A 0):=by
  intro A D T U Q;rw [Bn (wa A D),wb D];have a:bJ A=cu 0 (size A):=by have:=lG A 0;rw [Q]at this;exact this
  have c:=Bm (gk A) A (aX _) 9 0 0 [] ⟨D,by omega,by omega,a⟩ (by omega);rw [bZ]at c;unfold hK;rw [BG 9 0 0 _ [] [] [] A [] S rfl rfl (by omega) c,mP,ak S];simp [attach,fl]
 constructor
 .intro b;have d:runM (bX [] (sw.map norm))=Y wS:=by rw [<-wC,b];rfl
  let⟨A,D,f,T,U,Q,g⟩:=wc.mp d;grind
 grind
def LP:hK (bX [] (sw.map norm))=O↔runM (bX [] (sw.map norm))=O:=by rw [<-wC,R8]
theorem wD:∀A:ae,bj A=(aY A).flatten:=by intro A;induction A<;>simp_all [bj,aY,Gj,uG,Gm]
def text_len(A:ae):(bj A).length=fl (aY A):=by rw [wD,wz]
theorem sN{y:ae}(G:af j=r):cQ r y j=y:=by cases j<;>(grind [af,cQ])
def sO{y:ae}(M:af j≠r):aA (cQ r y j)=aA j/\wordOf (cQ r y j)=wordOf j/\kids (cQ r y j)=(kids j).map (cQ r y)/\af (cQ r y j)=af j:=by cases j<;>(have G:=M;simp [af]at G;simp [cQ,G,aA,wordOf,kids,af])
theorem o2{y:ae}:∀{D:ae},r∉bJ D->cQ r y D=D:=by
 intro D;induction D with
 |num b k=>grind [dJ,af,cQ]
 |var b k=>grind [dJ,af,cQ]
 |fn b x d g|fst b d g|snd b d g|new b d g|get b d g=>
  intro A;rw [dJ]at A;simp [kids,af,cp,et,bZ,bb,pR]at A;grind [cQ]
 |app b a d e f|pair b a d e f|set b a d e f|add b a d e f|letE b x a d e f=>
  intro A;rw [dJ]at A;simp [kids,af,cp,et,bZ,bb,bS,pR]at A;grind [cQ]
 |ifz b a d c e f h=>
  intro A;rw [dJ]at A;simp [kids,af,cp,et,bZ,bb,bS,pR]at A;grind [cQ]
theorem BI{y:ae}(G:bp y=I):∀{A:ae},bp A=I->bp (cQ r y A)=I:=by
 intro A;induction A with
 |num b k=>grind [cQ]
 |var b k=>grind [cQ]
 |fn b x d e|letE b x a d f e=>grind [cQ,bp]
 |fst b d e|snd b d e|new b d e|get b d e=>grind [cQ,bp]
 |app b a d f g|pair b a d f g|set b a d f g|add b a d f g=>grind [cQ,bp]
 |ifz b a d c f g h=>grind [cQ,bp]
def BJ(M:Fm):∀(D G:List (List ai)) (A:Nat),dv M A (D++G)=dv M A D++dv M (A+D.length) G
 |[],G,A=>rfl
 |w::D,G,A=>by simp only [dk,dv,BJ M D G (A+1),dG,cv];rw [show A+1+D.length=A+(D.length+1)by omega]
theorem LQ(M:Fm):∀(G:List ae) (D:Nat) (A:List ai),restOf G (fl A)<=fl (dv M D (G.map aY)++A)+1
 |[],D,A=>by simp [dv,restOf]
 |k::ks,D,A=>by grind [sM,dv,kE,restOf]
theorem LR(A:Fm)(D:ai)(G:¬dV A=I):1<=fl (hI A D):=by
 unfold hI;rw [N G];split
 .exact aX _
 grind [oY]
theorem BK(D:dV (aA j)=I):kids j=[]:=by rcases(qI j).mp D with⟨G,M,rfl⟩|⟨G,x,rfl⟩<;>rfl
theorem LS(A:ae)(D:Nat):restOf (kids A) (1+D)<=fl (aY A)+D+1:=by
 by_cases G:dV (aA A)=I
 .grind [BK,restOf]
 .rw [oR G,kE];have M:=LQ (aA A) (kids A) 0 [[41]]
  have N:fl [[41]]=1:=rfl;grind [restOf]
theorem LU:∀(Q:Nat) (D:ae),gk D<=Q->∀A G,G∈dw D A->G.1<=fl (aY D)+A:=by
 intro Q;induction Q with
 |zero=>intro D a;cases D<;>simp at a
 |succ Q b=>
  intro D a A G U;rw [oZ]at U;rcases bb.mp U with rfl|U
  .grind
  .have d:∀(M:List ae) (A:Nat),(∀T∈M,T∈kids D)->G∈gs M A->G.1+1<=restOf M A:=by
    intro M;induction M with
    |nil=>intro A _ N;cases N
    |cons T M e=>
     intro A c N;unfold restOf;simp [aV,fz];rcases bS.mp N with N|N
     .have:=b T (by have:=h8 (c T bY);omega) _ G N;grind [restOf]
     grind [restOf]
   grind [LS]
theorem LV(G:bp j=I):1<=fl (aY j):=by
 by_cases M:dV (aA j)=I
 .rcases(qI j).mp M with⟨N,D,rfl⟩|⟨N,x,rfl⟩
  .have:=(kB (n:=D) (eQ G)).1;unfold jc at this;simp [bz]at this;show 1<=fl [d7 D]
   rw [oY];cases hd:d7 D with
   |nil=>grind
   |cons a b=>simp;omega
  .have:=lF (x:=x) G;unfold jc at this;simp [bz]at this;show 1<=fl [x]
   rw [oY];cases hd:x with
   |nil=>grind
   |cons a b=>simp;omega
 grind [oR,kE,LR]
theorem LW:∀(T:Nat) (A:ae),gk A<=T->bp A=I->∀D G,G∈dw A D->D<G.1:=by
 intro T;induction T with
 |zero=>intro A a;cases A<;>simp at a
 |succ T c=>
  intro A a d D G U;rw [oZ]at U;rcases bb.mp U with rfl|U
  .grind [LV]
  .have e:∀(Q:List ae) (D:Nat),(∀M∈Q,M∈kids A)->G∈gs Q D->D<G.1:=by
    intro Q;induction Q with
    |nil=>intro D _ N;cases N
    |cons M Q f=>
     intro D b N;rcases bS.mp N with N|N
     .have:=c M (by have:=h8 (b M bY);omega) (((mF A).mp d).2 M (b M bY)) _ G N;grind [restOf]
     grind
   grind
theorem LX:∀(e:Nat) (A:ae),gk A<=e->∀b,bJ A=cu b (size A)->∀G∈aH A,∀Q,∃(f g:List (Nat×Nat)) (pre post:List ai),dw A Q=f++(dw G (fl post+Q)++g)/\f.length+b=af G/\aY A=pre++(aY G++post)/\(∀U∈g,U.1<=fl post+Q)/\(∀y,aY (cQ (af G) y A)=pre++(aY y++post))/\∀y,size (cQ (af G) y A)+size G=size A+size y:=by
 intro e;induction e with
 |zero=>intro A r;cases A<;>simp at r
 |succ e m=>
  intro A r b z G h Q;let⟨L,i⟩:=kC z
  rw [e5]at h;rcases bb.mp h with rfl|h
  .exact⟨[],[],[],[],by simp [fl],by grind,by simp,(λ_ M=>nomatch M),λy=>by rw [sN S];simp,λy=>by rw [sN S];omega⟩
  .let⟨c,n,s⟩:=dH.mp h;let⟨D,N,j⟩:=Gy n
   rw [j,kZ,cp,aW,ze,aV,fz]at i;have P:(D.flatMap bJ).length=(D.map size).sum:=by
    clear j i n;induction D with
    |nil=>rfl
    |cons a t m=>grind [hp]
   have B:cu (b+1) ((D.map size).sum+(size c+(N.map size).sum))=cu (b+1) (D.map size).sum++(cu (b+1+(D.map size).sum) (size c)++cu (b+1+(D.map size).sum+size c) (N.map size).sum):=by rw [kf,kf]
   rw [B]at i;let⟨R,k⟩:=mi i (by grind)
   let⟨k,V⟩:=mi k (by rw [hp,uF]);let⟨f,g,pre,post,W,X,ab,ad,al,C⟩:=m c (by have:=h8 n;omega) _ k G s (restOf N (1+Q))
   have am:¬dV (aA A)=I:=λU=>by grind [BK]
   have E:af G∈bJ c:=by unfold bJ;exact d8 s
   rw [k,Gz]at E;have u:∀T∈D,af G∉bJ T:=λT M U=>by have:af G∈D.flatMap bJ:=dH.mpr ⟨T,M,U⟩;grind
   have v:∀T∈N,af G∉bJ T:=λT M U=>by have:af G∈N.flatMap bJ:=dH.mpr ⟨T,M,U⟩;grind
   have an:∀y,aY (cQ (af G) y A)=hI (aA A) (wordOf A)++(dv (aA A) 0 (D.map aY++aY (cQ (af G) y c)::N.map aY)++[[41]]):=by
    intro y;let⟨w,x,o,_⟩:=sO (y:=y) (show af A≠af G by omega)
    rw [oR (by grind),w,x,o,j];have p:D.map (cQ (af G) y)=D:=(gF λT M=>o2 (u T M)).trans (rz D)
    have q:N.map (cQ (af G) y)=N:=(gF λT M=>o2 (v T M)).trans (rz N);rw [aW,aV,p,q,aW,aV]
   have split:∀d:List ai,dv (aA A) 0 (D.map aY++d::N.map aY)=dv (aA A) 0 (D.map aY)++((if aA A≠.call\/D.length≠0 then [[32]]else [])++(d++dv (aA A) (D.length+1) (N.map aY))):=by intro d;rw [BJ];simp only [dv,ag,y0]
   have F:fl (post++(dv (aA A) (D.length+1) (N.map aY)++[[41]]))+Q=fl post+restOf N (1+Q):=by
    rw [kE,sM _ _ _ _ (by omega)];have:fl [[41]]=1:=rfl
    unfold restOf;omega
   have ap:∀d:List ai,hI (aA A) (wordOf A)++(dv (aA A) 0 (D.map aY++(pre++(d++post))::N.map aY)++[[41]])=(hI (aA A) (wordOf A)++(dv (aA A) 0 (D.map aY)++((if aA A≠.call\/D.length≠0 then [[32]]else [])++pre)))++(d++(post++(dv (aA A) (D.length+1) (N.map aY)++[[41]]))):=by intro d;rw [split];simp only [cv]
   refine⟨(fl (aY A)+Q,Q)::(gs D (restOf (c::N) (1+Q))++f),g++gs N (1+Q),hI (aA A) (wordOf A)++(dv (aA A) 0 (D.map aY)++((if aA A≠.call\/D.length≠0 then [[32]]else [])++pre)),post++(dv (aA A) (D.length+1) (N.map aY)++[[41]]), ?_, ?_, ?_, ?_, ?_, ?_⟩
   .grind [oZ,LM,gs]
   .have as:∀(K:List ae) (Q:Nat),(gs K Q).length=(K.map size).sum:=by
     intro K;induction K with
     |nil=>intro Q;rfl
     |cons a t m=>grind [gs,o1]
    grind
   .grind [oR]
   .intro U H;rw [F];rcases bS.mp H with M|M
    .grind
    .have a0:∀(l:List ae) (Q:Nat),U∈gs l Q->U.1<=restOf l Q:=by
      intro l;induction l with
      |nil=>intro Q M;cases M
      |cons a t a1=>
       intro Q M;unfold restOf;simp only [aV,fz];rcases bS.mp M with M|M
       .have:=LU _ a (aX _) _ U M;grind [restOf]
       grind [restOf]
     grind
   .grind
   .intro y;let⟨w,x,o,_⟩:=sO (y:=y) (show af A≠af G by omega)
    have p:D.map (cQ (af G) y)=D:=(gF λT M=>o2 (u T M)).trans (rz D);have q:N.map (cQ (af G) y)=N:=(gF λT M=>o2 (v T M)).trans (rz N)
    have:=C y;rw [size_eq (cQ (af G) y A),size_eq A,o,j,aW,aV,p,q];grind
def dM(A:List (Pr×List Pr))(D:Pr)(G:List Pr):List (Pr×List Pr):=A.map λy=>if y.1=D then(y.1,G)else y
theorem BL(A:List (Pr×List Pr))(D:Pr)(G:List Pr):(dM A D G).map (·.1)=A.map (·.1):=by grind [dM,gF]
def wF(D:List Pr):∀{G:List (Pr×List Pr)},s0∉G.map (·.1)->dM G s0 D=G
 |[],_=>rfl
 |y::b,a=>by
  rw [aV,bb,pR]at a;show(if y.1=s0 then(y.1,D)else y)::dM b s0 D=_
  rw [N (λM=>a.1 M.symm),wF D a.2]
theorem o3(A:Pr):∀{U:List (Pr×List Pr)},s0∈U.map (·.1)->ba (dM U s0 re) A=if A=s0 then Y re else ba U A
 |[],a=>by cases a
 |y::G,a=>by
  unfold ba dM;rw [aV,gi,gi];have d:∀(G:List (Pr×List Pr)),A≠s0->((dM G s0 re).find? λy=>decide (y.1=A)).map (·.2)=(G.find? λy=>decide (y.1=A)).map (·.2):=by
   intro G M;induction G with
   |nil=>rfl
   |cons b G g=>
    grind [dM]
  by_cases Q:y.1=s0
  .rw [ak Q];by_cases M:A=s0
   .grind
   .rw [N M];have:¬y.1=A:=λe=>M (e.symm.trans Q)
    rw [bT this];exact d G M
  .rw [N Q];rw [aV,bb]at a;have f:=a.resolve_left λb=>Q b.symm
   by_cases c:y.1=A
   .grind
   .rw [bT c];exact o3 A f
theorem BM(M:ba pc s0=Y re):(s0,re)∈pc:=by
 unfold ba at M;let⟨y,N,Q⟩:=cm.mp M
 grind
def kF(M:ba pc s0=Y re):s0∈pc.map (·.1):=bE.mpr ⟨_,BM M,S⟩
theorem hL:∀{G:Tb} {A:Pr} {M:List Pr},(G.map (·.1)).Nodup->(A,M)∈G->ba G A=Y M
 |y::b,A,M,a,D=>by
  unfold ba;rw [aV,eB]at a;rw [gi];rcases bb.mp D with D|D
  .grind
  .have N:¬y.1=A:=λQ=>a.1 (by grind);rw [bT N];exact hL a.2 D
theorem LY(M:(pc.map (·.1)).Nodup)(N:ba pc s0=Y re):dM pc s0 re=pc:=by
 unfold dM;refine(gF λy Q=> ?_).trans (nN _);split
 .rename_i T;have:=hL M (show(s0,y.2)∈pc by grind)
  grind
 .rfl
def ey(A:Tb):Nat:=(A.map λy=>y.2.length).sum
theorem BN{qs:List Pr}:∀{D:Tb},(D.map (·.1)).Nodup->ba D s0=Y re->ey (dM D s0 qs)+re.length=ey D+qs.length
 |[],_,a=>by cases a
 |y::c,b,a=>by
  rw [aV,eB]at b;unfold ba at a;rw [gi]at a;show ey ((if y.1=s0 then(y.1,qs)else y)::dM c s0 qs)+_=_
  by_cases G:y.1=s0
  .rw [ck G]at a;have Q:y.2=re:=a8 a
   rw [ak G,wF qs (by grind),<-Q];grind [ey]
  .rw [bT G]at a;rw [N G];have:=BN b.2 a (qs:=qs)
   grind [ey]
theorem jk{A:s2->Do}(S:∀D M,A D=A M->D=M):∀{N:List s2},N.Nodup->(N.map A).Nodup
 |[],_=>gT
 |D::a,b=>by grind
def bI.nodup(A:bD j)(D:bI j pc wp):(pc.map (·.1)).Nodup:=by rw [D.keys];exact jk (λ_ _=>ed) A.cY.places
theorem bI.set(S:bI j pc Tm)(a:or∈aq j)(h:re.Nodup)(i:∀b∈re,∃D∈bq j,b=a9 D)(G:∀D,a9 D∈re↔wp or D)(k:∀M,M≠or->∀D,Tm M D↔wp M D):bI j (dM pc (A or) re) wp:=by
 have d:A or∈pc.map (·.1):=S.keys▸d8 a;refine⟨by rw [BL];exact S.keys,λM f=> ?_⟩;rw [o3 _ d];by_cases c:M=or
 .grind
 .rw [N λg=>c (ed g)];let⟨l,m,n,o,p⟩:=S.row M f
  grind
def BO(T:Pred)(G:aB)(M:cx->Prop):Pred:=λA D=>T A D\/(A=G/\M D)
variable{KM:List Pr}
theorem bI.merge(Q:bI j pc wp)(a:or∈aq j)(d:ba pc (A or)=Y re){U:cx->Prop}(g:∀b∈KM,∃D∈bq j,b=a9 D)(h:∀D,a9 D∈KM↔U D):bI j (dM pc (A or) (cT re KM)) (BO wp or U)/\((cT re KM).length=re.length->∀D,U D->wp or D):=by
 let⟨i,c,f,G,k⟩:=Q.row or a;rw [d]at c;obtain rfl:=a8 c;refine⟨Q.set a (mD f) (λb l=> ?_) (λD=> ?_) (λm n D=> ?_),λo D p=> ?_⟩
 all_goals grind [ho,BO,oy]
theorem wG:∀{l:List Nat} {A:Nat},(∀D∈l,D<=A)->l.sum<=l.length*A
 |[],_,_=>by simp
 |a::b,A,c=>by
  rw [fz,dG,RU];have:=wG (l:=b) λD G=>c D (bM _ G)
  grind [bY]
theorem places_len(e:ae):(aq e).length<=3*size e:=by
 have G:∀A:List ae,((A.flatMap λD=>[b0 D])++((A.flatMap λD=>match D with
  |.fn A _ _=>[RW A]
  |.letE A _ _ _=>[.name A]
  |_=>[])++((A.flatMap λD=>match D with
  |.pair A _ _=>[Uk A,.second A]
  |_=>[])++A.flatMap λD=>match D with
  |.new A _=>[Ul A]
  |_=>[]))).length<=3*A.length:=by
  intro A;induction A with
  |nil=>simp
  |cons D b a=>
   simp [cp,bB,dG,jB]at a⊢;grind
 exact G (aH e)
theorem bI.BP(G:bD j)(D:bI j pc wp):ey pc<=2790:=by
 have g:pc.length=(aq j).length:=by have:=bN cN D.keys;rwa [ag,ag]at this
 have h:=places_len j;have i:=G.bF
 have e:ey pc<=(pc.map λy=>y.2.length).length*31:=by
  refine wG λk Q=> ?_;obtain⟨y,M,rfl⟩:=bE.mp Q;have U:y.1∈(aq j).map A:=D.keys▸d8 M
  let⟨a,b,c⟩:=bE.mp U;let⟨l,N,d,f,_⟩:=D.row a b
  rw [c,hL (D.nodup G) (show(y.1,y.2)∈pc from M)]at N;rw [a8 N];have:=sL d f
  omega
 grind
structure Cut(A x:ae)(a D:ai):Prop where
 text:bj A=a++(bj x++D)
 span:(dw A 0)[af x]?=Y ((bj x).length+D.length,D.length)
 put:∀y,bj (cQ (af x) y A)=a++(bj y++D)
 size:∀y,Cf.size (cQ (af x) y A)+Cf.size x=Cf.size A+Cf.size y
 le:af x+Cf.size x<=Cf.size A
 back:∀G M,(dw A 0)[G]?=Y M->af x<=G->(M.1<=D.length↔af x+Cf.size x<=G)
theorem wH(T:bD j)(G:rc∈aH j):∃e f,Cut j rc e f:=by
 have g:bJ j=cu 0 (Cf.size j):=by have:=lG j 0;rw [T.mM]at this;exact this
 let⟨p,q,pre,post,N,h,r,s,t,i⟩:=LX _ j (aX _) 0 g rc G 0;have A:bp rc=I:=by
  have:∀(M:Nat) (j:ae),gk j<=M->bp j=I->∀rc∈aH j,bp rc=I:=by
   intro M;induction M with
   |zero=>intro j U;cases j<;>simp at U
   |succ M k=>
    intro j U a rc G;rw [e5]at G;rcases bb.mp G with rfl|G
    .exact a
    .let⟨b,d,l⟩:=dH.mp G;exact k b (by have:=h8 d;omega) (((mF j).mp a).2 b d) rc l
  exact this _ j (aX _) T.told rc G
 have m:=wz post;have n:=bN cN N
 rw [bB,bB,o1,o1]at n;rw [ke]at N h;refine⟨pre.flatten,post.flatten, ?_, ?_,λy=> ?_,i,by omega,λu o Q v=> ?_⟩
 .grind [wD]
 .simp_all [oZ,text_len]
 .grind [wD]
 .rw [m];rw [N,hT (by omega)]at Q;constructor
  .intro w;refine F1 λc=> ?_;rw [Fz (by grind [o1])]at Q;have:=LW _ rc (aX _) A _ o (cH Q)
   omega
  grind [hT,o1,cH]
def LZ:∀(D:Nat) (A:ae),gk A<=D->∀y∈aH A,dI y<=dI A:=by
 intro D;induction D with
 |zero=>intro A M;cases A<;>simp at M
 |succ D a=>
  intro A M y G;rw [e5]at G;rcases bb.mp G with rfl|G
  .grind
  .let⟨Q,N,T⟩:=dH.mp G;have:=a Q (by have:=h8 N;omega) y T
   have:=Bi N;omega
def L0{n:Nat}{y:ae}:∀(D:Nat) (A:ae),gk A<=D->n∈bJ A->y∈aH (cQ n y A):=by
 intro D;induction D with
 |zero=>intro A G;cases A<;>simp at G
 |succ D a=>
  intro A G M;by_cases N:af A=n
  .grind [sN,hE]
  .rw [dJ]at M;let⟨S,Q,T⟩:=dH.mp ((bb.mp M).resolve_left λU=>N U.symm)
   let⟨_,_,b,_⟩:=sO (y:=y) N;rw [e5,b];refine bM _ (dH.mpr ⟨_,d8 Q,a S (by have:=h8 Q;omega) T⟩)
theorem L4(N:bD j)(Q:rc∈aH j)(l:runM (bX [] (sw.map norm))=O):rA j (af rc) sw=O:=by
 let⟨m,o,T⟩:=wH N Q;unfold rA;cases b:Gi sw with
 |none=>rfl
 |some y=>
  let⟨U,c,d⟩:=Ba.mp b;show hX (bj (cQ (af rc) y j))=O
  cases e:hX (bj (cQ (af rc) y j))with
  |none=>rfl
  |some p=>
   exfalso;let⟨f,g⟩:=qD.mp e
   have M:=qP f;have a:=v3 M.told (BI U N.told) g
   have h:=bN Cf.size a;have i:=bN dI a
   rw [sv,sv]at h;rw [A9,A9]at i;have:=T.size y
   have:=T.le;have A:af rc∈bJ j:=by unfold bJ;exact d8 Q
   have:=LZ _ _ (aX _) y (L0 (n:=af rc) (y:=y) _ j (aX _) A);have:=M.bF
   have:=M.deep;have q:∃k,runM (bX [] (sw.map norm))=Y k:=⟨_,wc.mpr ⟨y,U,c,by omega,by omega,d,S⟩⟩
   grind
def L5(d:bD j)(k:rc∈aH j){Q:ai}(S:Cut j rc Pv Q)(f:runM (bX [] (sw.map norm))=Y wS):rA j (af rc) sw=hX (Pv++(sw++Q))/\ ∀M,hX (Pv++(sw++Q))=Y M->∃y,Cf.size M+Cf.size rc=Cf.size j+Cf.size y/\aT 0 M=aT 0 (cQ (af rc) y j):=by
 let⟨y,U,T,_,_,g,_⟩:=wc.mp f;have h:=Ba.mpr ⟨U,T,g⟩
 refine⟨?_,λM i=>⟨y, ?_⟩⟩
 .unfold rA;rw [h];show hX (bj (cQ (af rc) y j))=_
  rw [S.put,T]
 .let⟨A,a⟩:=qD.mp i;rw [<-T,<-S.put]at a;have b:=v3 (qP A).told (BI U d.told) a
  have c:=bN Cf.size b;rw [sv,sv]at c;rw [c];exact⟨S.size y,b⟩
def wI(M D:ae)(G:Int)(A:Nat):Option Int:=if A<af D then Y A else if af D+Cf.size D<=A then Y (A+G)else O
theorem L6(M:bD j)(Q:rc∈aH j){G:ae}{y:ae}(U:Cf.size G+Cf.size rc=Cf.size j+Cf.size y)(N:Nat):(eR (e1 j G (af rc)) N).map (λT:Nat=>(T:Int))=wI j rc ((Cf.size G:Int)-Cf.size j) N:=by
 have sz:zf j (af rc)=Cf.size rc:=by unfold zf;rw [M.cY.nodeAt,M.cY.get Q];rfl
 unfold eR e1 wI;rw [sz];have a:(aH G).length=Cf.size G:=rfl
 have b:(aH j).length=Cf.size j:=rfl;grind
variable{UX:Nat}
theorem BQ{A:rB}(N:eR A r=Y UX)(Q:eR A AT=Y UX)(S:∀r,A.at_+A.old<=r->A.at_<=r-A.old+A.new):r=AT:=by grind [eR]
def L7{A:rB}(g:∀h,A.at_+A.old<=h->A.at_<=h-A.old+A.new){U a i:hu}(G:iv A U=Y i)(M:iv A a=Y i):U=a:=by
 let⟨j,k⟩:=U;let⟨l,m⟩:=a
 unfold iv at G M;let⟨q,n,G⟩:=fA.mp G
 let⟨r,N,G⟩:=cm.mp G;let⟨s,o,M⟩:=fA.mp M
 let⟨t,Q,M⟩:=cm.mp M;subst G;injection M with b c;subst b c;have b:j=l:=by cases j<;>cases l<;>simp [rC,cm]at n o<;>let⟨d,T,D⟩:=n<;>let⟨p,e,f⟩:=o<;>subst D<;>cases f<;>rw [BQ T e g]
 have c:k=m:=by
  cases k<;>cases m<;>simp [zg,cm]at N Q<;>first
   |rfl
   |(let⟨d,T,D⟩:=N;let⟨p,e,f⟩:=Q;subst D;cases f<;>rw [BQ T e g])
   |(let⟨d,T,D⟩:=N;rw [<-D]at Q;cases Q)
   |(let⟨d,T,D⟩:=Q;rw [<-D]at N;cases N)
 rw [b,c]
theorem L8{A:s2->Option Do}(S:∀D M c,A D=Y c->A M=Y c->D=M):∀{N:List s2},N.Nodup->(N.filterMap A).Nodup
 |[],_=>gT
 |D::a,b=>by grind
theorem L9{s:rB}(T:∀M,s.at_+s.old<=M->s.at_<=M-s.old+s.new){A u:iX}(N:A.Nodup)(U:u.Nodup):(k4 s A u).came+(k4 s A u).kept=u.length:=by
 show(u.countP λD=> !(A.map (iv s)).contains (Y D))+((A.map (iv s)).countP λo=>o.any u.contains)=u.length;have a:((A.map (iv s)).countP λo=>o.any u.contains)=((A.filterMap (iv s)).filter u.contains).length:=by
  rw [uJ,<-R9];clear N;induction A with
  |nil=>rfl
  |cons Q b d=>
   grind
 have e:(u.filter λD=>(A.map (iv s)).contains (Y D)).length=((A.filterMap (iv s)).filter u.contains).length:=by refine Um ((uI (U.filter _) ((L8 (λQ f c=>L7 T) N).filter _)).mpr λg=> ?_);rw [dA,dA,nu];simp [ir,bE];exact and_comm
 rw [a,<-e,<-R9,y7];have h:∀(G:hu->Bool) (u:iX),u.countP G+u.countP (λD=> !G D)=u.length:=by
  intro G u;induction u with
  |nil=>rfl
  |cons Q b d=>
   grind
 grind
noncomputable def gu(A:ae)(D:Nat):aB->cx->Bool:=
 if D=0 thenλ_ _=>I else if D=1 thenλG M=>(nJ (d6 A) G).any (uA M)
 else if D=2 thenλG M=>(cI (hb A) G).any λN=>(ru A).contains ⟨N,M⟩else gq A
theorem sP(D:ae)(A:Nat):mj D A=eT D (gu D A):=by
 unfold mj gu;by_cases G:A=0
 .simp_all [KJ]
 .rw [N G,N G];by_cases M:A=1
  .simp_all [KP]
  .rw [N M,N M];by_cases Q:A=2
   .rw [ak Q,ak Q];exact A2 _
   simp_all [oD]
def gv(D:ae)(G:aB->cx->Bool):Pred:=λM A=>A∈bq D/\G M A=I
def qQ(A:ae):Option cx:=match A with
 |.fn a _ _=>Y (.fn a)
 |.pair a _ _=>Y (.pair a)
 |.new a _=>Y (.ref a)
 |_=>O
theorem Ma{y:ae}(G:qQ j=Y ut)(M:qQ y=Y ut):af j=af y:=by cases j<;>simp [qQ,yM,reduceCtorEq]at G<;>subst G<;>cases y<;>simp [qQ,yM,reduceCtorEq,Uo,Up,Uq]at M<;>exact M.symm
theorem sQ(G:bD j):(bq j).Nodup:=by
 refine eB.mpr ⟨λN=> ?_, ?_⟩
 .grind
 .have M:∀A:List ae,(A.map af).Nodup->(A.filterMap qQ).Nodup:=by
   intro A;induction A with
   |nil=>grind
   |cons x a b=>
    grind [Ma]
  refine M _ ?_;have:=G.cY.cY
  grind [bJ]
def wJ(e:bD j)(f:bI j pc (gv j SL))(g:or∈aq j):∃M,ba pc (A or)=Y M/\(((bq j).map a9).filter λa=>decide (a∈M))=((bq j).filter (SL or)).map a9/\M.length=((bq j).filter (SL or)).length:=by
 let⟨M,h,i,D,b⟩:=f.row or g;refine⟨M,h, ?_, ?_⟩
 .rw [rv];congr 1;refine kW λN T=> ?_;show decide (a9 N∈M)=SL or N
  rw [iR,nR,b];exact⟨λc=>c.2,λc=>⟨T,c⟩⟩
 .have:=(uI i (jk (λ_ _=>mK) ((sQ e).filter (SL or)))).mpr λa=> ?_
  .rw [this.length_eq,ag]
  .constructor
   .intro U;obtain⟨N,T,rfl⟩:=D a U;exact d8 (dA.mpr ((b N).mp U))
   .intro U;obtain⟨N,T,rfl⟩:=bE.mp U;exact(b N).mpr (dA.mp T)
theorem wK(c:bD j)(U:bI j pc (gv j SL)):ey pc=(eT j SL).length:=by
 rw [KO];unfold ey;have f:∀(Q:Tb) (M:List aB),Q.map (·.1)=M.map A->(∀y∈Q,y∈pc)->(∀S∈M,S∈aq j)->(Q.map λy=>y.2.length).sum=(M.map λS=>((bq j).filter (SL S)).length).sum:=by
  intro Q;induction Q with
  |nil=>simp_all
  |cons y l g=>
   intro M D d e;cases M with
   |nil=>cases D
   |cons S h=>
    rw [aV,aV]at D;injection D with i G;rw [aV,aV,fz,fz,g h G (λa b=>d a (bM _ b)) λa b=>e a (bM _ b)];let⟨M,k,_,m⟩:=wJ c U (e S bY)
    rw [<-i,hL (U.nodup c) (show(y.1,y.2)∈pc from d y bY)]at k;grind
 exact f pc _ U.keys (λ_ D=>D) λ_ D=>D
def ct(A:List Pr):List Int:=(A.length:Int)::A.flatMap λD=>[(D.1:Int),(D.2:Int)]
def told_set(A:List cx):(GA A).map zh=ct (A.map a9):=by
 unfold GA ct;rw [aV,ag];congr 1;induction A with
 |nil=>rfl
 |cons a c b=>
  rw [cp,aW,b,aV,cp];congr 1;cases a<;>rfl
def sR(D:List aB):(Sa D).map zh=ct (D.map A):=by
 unfold Sa ct;rw [aV,ag];congr 1;induction D with
 |nil=>rfl
 |cons a c b=>
  rw [cp,aW,b,aV,cp];congr 1;cases a<;>rfl
def cA(A:List Info)(c:Fm->Bool):List Nat:=(eY A.length).filter λD=>((A[D]?).map λG=>c G.aJ).getD ao
theorem mQ(T:bD j)(c:Fm->Bool):cA (infos O j) c=((aH j).filter λA=>c (aA A)).map af:=by
 unfold cA;have a:∀G<(infos O j).length,(((infos O j)[G]?).map λb=>c b.aJ).getD ao=(((aH j)[G]?).map λA=>c (aA A)).getD ao:=by
  intro G Q;rw [e7]at Q;let⟨A,N,d⟩:=T.node Q
  let⟨g,U⟩:=T.info N;have:=T.cY.get N
  rw [d]at U this;rw [U,this];rfl
 rw [kW (q:=λG=>(((aH j)[G]?).map λA=>c (aA A)).getD ao) λG Q=>a G (lZ.mp Q),e7];have gen:∀(M:Nat),M<=size j->(eY M).filter (λG=>(((aH j)[G]?).map λA=>c (aA A)).getD ao)=(((aH j).take M).filter λA=>c (aA A)).map af:=by
  intro M;induction M with
  |zero=>grind
  |succ M e=>
   intro f;obtain⟨A,N⟩:∃A,(aH j)[M]?=Y A:=⟨_,gj f⟩
   rw [p4,nM,e (by omega),dm,N,nM,aW];congr 1;simp [il,uK,N,ma,nQ,GB];have Q:=T.cY.at N
   grind
 simp_all [size]
def iK:Fm->Option Nat
 |.fn=>Y 1|.pair=>Y 2|.new=>Y 3|_=>O
def wL(A:List Info):List Pr:=(0,0)::(eY A.length).filterMap λD=>((A[D]?).bind λG=>iK G.aJ).map λM=>(M,D)
theorem Mb(Q:bD j):wL (infos O j)=(bq j).map a9:=by
 unfold wL bq;rw [aV];congr 1;rw [e7,zi];have gen:∀(G:Nat),G<=size j->(eY G).filterMap (λA=>(((infos O j)[A]?).bind λa=>iK a.aJ).map λb=>((b,A):Pr))=((aH j).take G).filterMap λM=>(match M with
   |.fn A _ _=>Y (Gb A)
   |.pair A _ _=>Y (.pair A)
   |.new A _=>Y (.ref A)
   |_=>O).map a9:=by
  intro G;induction G with
  |zero=>grind
  |succ G c=>
   intro d;obtain⟨M,N⟩:∃M,(aH j)[G]?=Y M:=⟨_,gj d⟩
   let⟨e,T⟩:=Q.info (cH N);have U:=Q.cY.at N
   rw [U]at T;rw [p4,uL,c (by omega),dm,N,uL];congr 1;simp [kQ,zj,T,gV,GB];subst U;have f:iK (cZ e M).aJ=iK (aA M):=rfl
   rw [f];cases M with
   |var A y=>
    grind [iK,aA]
   |_=>rfl
 have:=gen (size j) (aX _);rw [this];congr 1;exact dB
def jl(A:Fm):Bool:=match A with
 |.fn=>I|.letE=>I|_=>ao
def sS(D:List Info):List Pr:=(eY D.length).map (λA=>(0,A))++(cA D jl).map (λA=>(1,A))++(cA D λG=>decide (G=.pair)).flatMap (λA=>[(2,A),(3,A)])++(cA D λG=>decide (G=.new)).map λA=>(4,A)
def qR(c:ae->Bool)(D:Nat->List s2)(G:ae->List s2)(N:∀A,G A=if c A=I then D (af A)else []):∀Q:List ae,(((Q.filter c).map af).flatMap D)=Q.flatMap G
 |[]=>rfl
 |A::a=>by rw [cp,<-qR c D G N a,N A,il];split<;>simp
theorem BR(N:bD j):sS (infos O j)=(aq j).map A:=by
 unfold sS aq;rw [mQ N,mQ N,mQ N,e7];rw [aW,aW,aW,cv,cv];have Q:∀(T:Nat) (D:List Nat),(D.map λD=>((T,D):Pr))=D.flatMap λD=>[(T,D)]:=λT D=>by
  induction D with
  |nil=>rfl
  |cons a b c=>grind
 congr 1
 .have:(eY (size j))=(aH j).map af:=by
   have:=N.cY.cY;unfold bJ at this;rw [this,ag];rfl
  rw [this,Q,pY];have:=qR (λ_=>I) (λD=>[((0,D):Pr)]) (λG=>[A (b0 G)]) (λG=>by rw [ak S];rfl) (aH j)
  rw [Gf.mpr λ_ _=>S]at this;grind
 congr 1
 .rw [Q,pY];refine qR _ _ _ (λG=> ?_) _;cases G with
  |var D y=>
   grind [jl,aA]
  |_=>rfl
 congr 1
 .rw [pY];refine qR _ _ _ (λG=> ?_) _;cases G with
  |var D y=>
   grind [aA]
  |_=>rfl
 .rw [Q,pY];refine qR _ _ _ (λG=> ?_) _;cases G with
  |var D y=>
   grind [aA]
  |_=>rfl
def eV(D:List Pr):List Nat:=D.filterMap λA=>if A.1=1 then Y A.2 else O
def BS(D:List cx):eV (D.map a9)=D.filterMap λA=>match A with
  |.fn k=>Y k
  |_=>O:=by
 unfold eV;rw [List.filterMap_map];congr 1;funext A;cases A<;>rfl
def dF(A:List Info)(D:Nat):Nat:=(((A[D]?).map (·.parts)).getD []).headD 0
def hM(A:List Info)(G:Nat->List Nat):List Pr:=(cA A λM=>decide (M=.call)).flatMap λD=>(G (dF A D)).map λN=>(D,N)
theorem BU(Q:bD j)(N:aB->cx->Bool):(rD j (eT j N)).map (λG=>((G.site,G.fn):Pr))=hM (infos O j) λc=>eV (((bq j).filter (N (.node c))).map a9):=by
 unfold hM rD;rw [mQ Q,pY];have d:∀A:List ae,(∀M∈A,M∈aH j)->A.flatMap (λM=>rE (λG:Sb=>((G.site,G.fn):Pr)) (match M with
   |.app A a _=>(nJ (eT j N) (b0 a)).filterMap λv=>(match v with
    |.fn T=>Y ⟨A,T⟩
    |_=>O)
   |_=>[]))=(((A.filter λM=>decide (aA M=.call)).map af).flatMap λA=>(eV (((bq j).filter (N (.node (dF (infos O j) A)))).map a9)).map λT=>((A,T):Pr)):=by
  intro A;induction A with
  |nil=>grind
  |cons M l e=>
   intro U;rw [cp,e λy f=>U y (bM _ f),il];cases M with
   |app A a G=>
    have b:=U _ bY;let⟨g,h⟩:=Q.info b
    have i:dF (infos O j) A=af a:=by unfold dF;rw [show(infos O j)[A]?=Y (cZ g (.app A a G))from h];rfl
    rw [ak (by rfl),aV,cp];congr 1;have D:b0 a∈aq j:=gp (jb b (by simp [kids]))
    dsimp only;rw [show af (.app A a G)=A from rfl,i,BS,vX Q.cY.places N D];rw [zi,zi];congr 1;grind
   |var A y=>
    grind [aA]
   |_=>rfl
 exact d _ λ_ k=>k
def bR(G:Tb):Pred:=λM N=>∃D,ba G (A M)=Y D/\a9 N∈D
theorem bI.key(G:bI j pc wp)(M:s0∈pc.map (·.1)):∃N∈aq j,s0=A N:=by rw [G.keys]at M;grind
theorem bI.lL(D:bI j pc wp)(M:bR pc or ut):or∈aq j:=by
 let⟨Q,N,_⟩:=M;let⟨S,U,a⟩:=D.key (kF N)
 grind [ed]
theorem bI.mR(G:bI j pc wp)(M:or∈aq j)(D:cx):bR pc or D↔wp or D:=by
 let⟨N,Q,a,b,S⟩:=G.row or M;constructor
 .rintro⟨c,d,f⟩;grind
 .intro U;exact⟨N,Q,(S D).mpr U⟩
def bI.tt(A:bI j pc wp):bI j pc (bR pc):=A.congr λM D G=>(A.mR D G).symm
def bI.look(N:bI j pc wp)(Q:or∈aq j):∃G,ba pc (A or)=Y G/\G.Nodup/\(∀S∈G,∃M∈bq j,S=a9 M)/\∀M,a9 M∈G↔bR pc or M:=N.tt.row or Q
def bI.BV(d:bD j)(S:bI j pc (bR pc))(f:or∈aq j){qs:List Pr}(b:ba pc (A or)=Y re)(g:∀c∈qs,∃G∈bq j,c=a9 G):bI j (dM pc (A or) (cT re qs)) (bR (dM pc (A or) (cT re qs)))/\(∀Q G,bR (dM pc (A or) (cT re qs)) Q G↔bR pc Q G\/(Q=or/\a9 G∈qs))/\ ey (dM pc (A or) (cT re qs))+re.length=ey pc+(cT re qs).length/\((cT re qs).length=re.length->dM pc (A or) (cT re qs)=pc/\∀c∈qs,c∈re):=by
 let⟨a,_⟩:=S.merge f b (U:=λG=>a9 G∈qs) g λG=>zb;refine⟨a.tt,λQ G=> ?_,BN (S.nodup d) b,λM=>⟨?_,(oy M).1⟩⟩
 .constructor
  .intro M;exact(a.mR (a.lL M) G).mp M
  .intro M;have h:Q∈aq j:=by
    rcases M with M|⟨M,_⟩
    .exact S.lL M
    .grind
   exact(a.mR h G).mpr M
 .rw [(oy M).2];exact LY (S.nodup d) b
theorem bI.sub(A:bI j pc wp)(M:ba pc s0=Y re):∀N∈re,∃Q∈bq j,N=a9 Q:=by
 obtain⟨U,a,rfl⟩:=A.key (kF M);let⟨b,c,d,f,g⟩:=A.row U a
 grind
theorem bI.len(D:bI j pc wp)(N:bD j)(G:ba pc s0=Y re):re.length<=31/\re.Nodup:=by
 obtain⟨U,a,rfl⟩:=D.key (kF G);let⟨d,M,b,c,f⟩:=D.row U a
 rw [G]at M;obtain rfl:=a8 M;have:=sL b c
 have:=N.bF;grind
theorem sT(b:bD j)(M:bI j pc wp)(c:(s0,KB)∈fG (de j) pc (de j).nodes.length):∃D G,s0=A D/\KB=A G/\D∈aq j/\G∈aq j/\d3 j (bR pc) D G:=by
 let⟨D,G,d,f,g⟩:=(BE b M.tt).mp c;have h:∀U N,bR pc U N->N∈bq j:=λU N a=>M.tt.sort (M.lL a) a
 grind [qB,oC]
def sU(M:bD j)(N:bI j pc wp)(Q:d3 j (bR pc) or v6):(A or,A v6)∈fG (de j) pc (de j).nodes.length:=(BE M N.tt).mpr ⟨or,v6,S,S,Q⟩
def Mc(Q:bI j pc wp)(S:∀D A,fN j D A->bR pc D A)(U:∀D A,bR pc D A->gM j D A)(a:∀G M,d3 j (bR pc) G M->∀A,bR pc G A->bR pc M A):bI j pc (gv j (gq j)):=by
 refine Q.tt.congr λD b A=> ?_;unfold gv;rw [qA];constructor
 .intro N;exact⟨Q.tt.sort b N,U D A N⟩
 .intro N;exact N.2 _ ⟨S,λG M A c d=>a G M c A d⟩
structure jm(A:ae)(D:aB->aB):Prop where
 hN:∀p∈aq A,D p∈aq A
 rep:∀p∈aq A,D (D p)=D p
 eqv:∀p∈aq A,Eqv A p (D p)
def lM(D:ae)(G:aB->aB):Nat:=((aq D).filter λA=>decide (G A=A)).length
def joinR(A:aB->aB)(G M:aB):aB->aB:=λD=>if A D=M then G else A D
def jn(A:ae)(D:aB->aB):Pred:=λM N=>∃G∈aq A,D G=D M/\fN A G N
def Md(e:ae):jm e id:=⟨λ_ A=>A,λ_ _=>S,λD _=>(kD e).refl D⟩
variable{t3:aB->aB}
theorem Me(M:jm j t3)(b:v6∈aq j)(d:or∈aq j)(hw:Eqv j v6 or)(h:t3 v6≠t3 or):jm j (joinR t3 (t3 v6) (t3 or))/\lM j (joinR t3 (t3 v6) (t3 or))<lM j t3:=by
 have U:=kD j;refine⟨⟨λA S=> ?_,λA S=> ?_,λA S=> ?_⟩, ?_⟩
 .unfold joinR;split
  .exact M.hN v6 b
  .exact M.hN A S
 .unfold joinR;by_cases c:t3 A=t3 or
  .rw [ak c,M.rep v6 b,N h]
  .rw [N c,M.rep A S,N c]
 .unfold joinR;split
  .rename_i c;have f:=M.eqv A S
   rw [c]at f;exact U.trans _ _ _ f (U.trans _ _ _ (U.symm _ _ (M.eqv or d)) (U.trans _ _ _ (U.symm _ _ hw) (M.eqv v6 b)))
  .exact M.eqv A S
 .unfold lM;have q:∀A∈aq j,joinR t3 (t3 v6) (t3 or) A=A->t3 A=A/\A≠t3 or:=by
   intro A S T;unfold joinR at T;by_cases c:t3 A=t3 or
   .rw [ak c]at T;rw [<-T,M.rep v6 b]at c;grind
   .grind
  have i:∀Q:List aB,(∀A∈Q,A∈aq j)->(Q.filter λA=>decide (joinR t3 (t3 v6) (t3 or) A=A)).length<=(Q.filter λA=>decide (t3 A=A)).length/\(t3 or∈Q->(Q.filter λA=>decide (joinR t3 (t3 v6) (t3 or) A=A)).length<(Q.filter λA=>decide (t3 A=A)).length):=by
   intro Q;induction Q with
   |nil=>grind
   |cons A r R=>
    intro k;let⟨l,m⟩:=R λn o=>k n (bM _ o)
    rw [il,il];by_cases p:joinR t3 (t3 v6) (t3 or) A=A
    .grind
    .rw [N λa=>p (eQ a)];by_cases g:t3 A=A
     .grind
     .rw [N λa=>g (eQ a)];refine⟨l,λT=>m ((bb.mp T).resolve_left λa=>g ?_)⟩;rw [<-a,M.rep or d]
  exact(i _ λ_ T=>T).2 (M.hN or d)
def Mf(Q:jm j t3)(U:∀A D,wp A D->A∈aq j/\jn j t3 A D)(a:d3 j wp or v6):Eqv j or v6:=by
 have N:=kD j;refine N.way or v6 (a.mono λA D b=> ?_);let⟨c,T,d,f,g⟩:=U A D b
 refine⟨T, ?_,g⟩;have:=Q.eqv T d
 rw [f]at this;exact N.trans _ _ _ (Q.eqv A c) (N.symm _ _ this)
theorem Mg(h:jm j t3)(i:∀N Q,N∈aq j->Q∈aq j->d3 j (λA G=>A∈aq j/\jn j t3 A G) N Q->t3 N=t3 Q):∀A∈aq j,∀D∈aq j,Eqv j A D->t3 A=t3 D:=by
 intro A e D T a;have k:∀(A:aB) (G:cx),(A∈aq j/\jn j t3 A G)->G∈bq j:=λA G ⟨_,D,_,_,M⟩=>(lD M).2
 have c:sG j λA D=>A=D\/(A∈aq j/\D∈aq j/\t3 A=t3 D):=by
  refine⟨λA=>.inl S,λA D M=>M.imp Eq.symm λ⟨G,b,c⟩=>⟨b,G,c.symm⟩,λA D l m n=> ?_,λN Q d=> ?_⟩
  .grind
  .have o:d3 j (λA G=>A∈aq j/\jn j t3 A G) N Q:=d.mono λA G ⟨D,M,U⟩=>by
    have T:=(lD U).1;rcases M with rfl|⟨f,g,c1⟩
    .exact⟨T,A,T,S,U⟩
    .exact⟨f,D,g,c1.symm,U⟩
   grind [qB,oC]
 rcases a _ c with rfl|⟨_,_,M⟩
 all_goals grind
def Mh(b:bD j)(T:jm j t3)(c:∀or∈aq j,∀D∈aq j,Eqv j or D->t3 or=t3 D)(Q:or∈aq j)(G:cx):jn j t3 or G↔gv j (gu j 2) or G:=by
 have U:=kD j;have d:gu j 2 or G=((aq j).filter (jS j or)).any λD=>(ru j).contains ⟨D,G⟩:=by rw [<-sI b.cY Q];rfl
 unfold gv jn;rw [d,Gu];constructor
 .rintro⟨D,M,f,N⟩;refine⟨(lD N).2,D,dA.mpr ⟨M,mG.mpr ?_⟩,ir.mpr N⟩;have:=T.eqv D M
  rw [f]at this;exact U.trans _ _ _ (T.eqv or Q) (U.symm _ _ this)
 .rintro⟨_,D,M,N⟩;let⟨a,g⟩:=dA.mp M
  exact⟨D,a,(c or Q D a (mG.mp g)).symm,ir.mp N⟩
theorem wM(Q:bD j)(G:jm j t3)(U:∀or∈aq j,∀D∈aq j,Eqv j or D->t3 or=t3 D)(M:or∈aq j):((aq j).filter λD=>decide (t3 D=t3 or))=cI (hb j) or:=by
 have N:=kD j;rw [sI Q.cY M];refine kW λD S=> ?_;rw [iR,nR,mG];constructor
 .intro T;have:=G.eqv D S
  rw [T]at this;exact N.trans _ _ _ (G.eqv or M) (N.symm _ _ this)
 grind
def Mi(M:bD j)(N:jm j t3)(Q:∀A∈aq j,∀D∈aq j,Eqv j A D->t3 A=t3 D):((((aq j).filter λA=>decide (t3 A=A)).map λA=>((aq j).filter λD=>decide (t3 D=t3 A)).length)).Perm ((hb j).map cN):=by
 have S:=(LC M.cY (r:=t3) (λA G=>⟨N.hN A G,N.eqv A G⟩) Q).map cN;rw [eh]at S;refine Ur (Us (gF λA G=> ?_)) S;have T:=(dA.mp G).1
 show _=((aq j).filter (jS j A)).length;rw [wM M N Q T,sI M.cY T]
def wN(D:List Info)(G:Pr):List Pr:=match(D[G.2]?).map (·.aJ)with
 |none=>[]
 |some A=>if G.1=0/\(A=.call\/A=.fst\/A=.snd\/A=.get)then [(0,dF D G.2)]
  else if G.1=1/\A=.fn then(cA D λA=>decide (A=.call)).map λM=>(0,dF D M)
  else if G.1=4 then(cA D λA=>decide (A=.set)).map λM=>(0,dF D M)else []
section
variable {e:ae} (G:bD e)
include G
theorem bD.part{A D:ae}{r:List ae}(M:A∈aH e)(Q:kids A=D::r):dF (infos O e) (af A)=af D:=by
 let⟨S,N⟩:=G.info M;unfold dF;rw [N];show((kids A).map af).headD 0=_
 grind
theorem BW{N:Fm}(Q:ae->Option aB)(U:∀D∈aH e,Q D=if aA D=N then Y (.node (dF (infos O e) (af D)))else O):((aH e).filterMap Q).map A=(cA (infos O e) λa=>decide (a=N)).map λM=>(0,dF (infos O e) M):=by
 rw [mQ G,zi,eh];have g:∀M:List ae,(∀D∈M,D∈aH e)->(M.filterMap λb=>(Q b).map A)=(M.filter λD=>decide (aA D=N)).map ((λM=>((0,dF (infos O e) M):Pr))∘af):=by
  intro M;induction M with
  |nil=>grind
  |cons D h d=>
   intro T;rw [kQ,il,U D (T D bY),d λy f=>T y (bM _ f)];by_cases c:aA D=N
   .rw [ak c,ak (ck c)];rfl
   grind
 grind
theorem Mj:(Gw e).map A=(cA (infos O e) λM=>decide (M=.call)).map λD=>(0,dF (infos O e) D):=by
 refine BW G _ λQ T=> ?_;cases Q with
 |app D M a=>rw [ak (by rfl),G.part T (r:=[a]) S];rfl
 |var D y=>rw [N];grind [aA]
 |_=>rfl
theorem Ml:(Gx e).map A=(cA (infos O e) λM=>decide (M=.set)).map λD=>(0,dF (infos O e) D):=by
 refine BW G _ λQ T=> ?_;cases Q with
 |set D M a=>rw [ak (by rfl),G.part T (r:=[a]) S];rfl
 |var D y=>rw [N];grind [aA]
 |_=>rfl
theorem o4{Q:aB}(b:Q∈aq e):∃N∈aH e,af N=(A Q).2/\(∀M,Q=.inside M->aA N=.new)/\(∀M,Q=.first M\/Q=.second M->aA N=.pair)/\(∀M,Q=.name M->aA N=.fn\/aA N=.letE):=by
 rcases h7.mp b with⟨N,c,rfl⟩|⟨M,rfl,⟨y,a,h⟩|⟨y,d,a,h⟩⟩|h
 .exact⟨N,c,S,(λM D=>by cases D),(λM D=>by rcases D with D|D<;>cases D),λM D=>by cases D⟩
 .exact⟨_,h,S,(λM D=>by cases D),(λM D=>by grind),λM D=>.inl S⟩
 .exact⟨_,h,S,(λM D=>by cases D),(λM D=>by grind),λM D=>.inr S⟩
 .rcases h with⟨M,U,f,a,T⟩|⟨M,U,d,T⟩
  .rcases U with rfl|rfl
   .exact⟨_,T,S,(λM D=>by cases D),(λM D=>S),λM D=>by cases D⟩
   .exact⟨_,T,S,(λM D=>by cases D),(λM D=>S),λM D=>by cases D⟩
  .subst U;exact⟨_,T,S,(λM D=>S),(λM D=>by grind),λM D=>by cases D⟩
theorem Mm{T:aB}(k:T∈aq e):wN (infos O e) (A T)=(ff e T).map A:=by
 let⟨D,Q,h,q,s,t⟩:=o4 G k;let⟨u,l⟩:=G.info Q
 unfold wN;rw [<-h,l];show(if(A T).1=0/\(aA D=.call\/aA D=.fst\/aA D=.snd\/aA D=.get)then [(0,dF (infos O e) (af D))]
  else if(A T).1=1/\aA D=.fn then(cA (infos O e) λU=>decide (U=.call)).map λM=>(0,dF (infos O e) M)
  else if(A T).1=4 then(cA (infos O e) λU=>decide (U=.set)).map λM=>(0,dF (infos O e) M)else [])=_
 cases T with
 |node M=>
  have f:af D=M:=h;have m:mf e M=Y D:=by rw [G.cY.nodeAt,<-f];exact G.cY.get Q
  unfold ff;simp [m];cases D with
  |app b U a=>rw [ak ⟨S,.inl S⟩,G.part Q (r:=[a]) S];rfl
  |fst b d=>rw [ak ⟨S,.inr (.inl S)⟩,G.part Q (r:=[]) S];rfl
  |snd b d=>rw [ak ⟨S,.inr (.inr (.inl S))⟩,G.part Q (r:=[]) S];rfl
  |get b d=>rw [ak ⟨S,.inr (.inr (.inr S))⟩,G.part Q (r:=[]) S];rfl
  |var b y=>
   have:aA (.var b y)=.given\/aA (.var b y)=.used:=by simp only [aA];split<;>simp
   rcases this with this|this<;>rw [this]<;>rfl
  |_=>rfl
 |name M=>
  have f:=h;unfold ff;dsimp only;rw [N (λg=>by grind)];have j:(zd e).contains M=I↔aA D=.fn:=by
   rw [ir];unfold zd;rw [bE];constructor
   .rintro⟨y,i,n⟩;let⟨i,o⟩:=dA.mp i
    have:=G.cY.uniq i Q (n.trans f.symm);subst this;cases y<;>first|rfl|cases o
   .intro p;refine⟨D,dA.mpr ⟨Q, ?_⟩,f⟩;cases D with
    |fn b y v=>rfl
    |var b y=>grind [aA]
    |_=>cases p
  by_cases c:aA D=.fn
  .rw [ak ⟨S,c⟩,ak (j.mpr c),Mj G]
  .rw [N λg=>c g.2,N λg=>c (j.mp g)];rfl
 |inside M=>
  simp_all [ff,A,Ml]
 |first M=>rfl
 |second M=>rfl
end
theorem Mn(a:bD j)(i:bI j pc wp)(e:At.Nodup)(U:or∈aq j)(c:or∈At)(d:∀D∈At,hJ j or D)(k:∀D G,bR pc D G->ji j or D G)(l:∀D∈At,∀m∈ff j D,m∈At) (n:∀Q N,d3 j (bR pc) Q N->N∈At->Q∈At) (o:∀D G,fN j D G->D∈At->bR pc D G) (p:∀Q N G,d3 j (bR pc) Q N->bR pc Q G->N∈At->bR pc N G):((aq j).filter λD=>decide (D∈At))=jD j or/\At.length=(jD j or).length/\∃S,ba pc (A or)=Y S/\(((bq j).map a9).filter λq=>decide (q∈S))=(kg j or).map a9:=by
 have f:oW j or (λD=>D∈At) (bR pc):=⟨c,l,n,o,p⟩
 have g:∀D,D∈At↔hJ j or D:=λD=>⟨d D,λb=>b _ _ f⟩
 have r:∀D G,bR pc D G↔ji j or D G:=λD G=>⟨k D G,λb=>b _ _ f⟩
 have h:((aq j).filter λD=>decide (D∈At))=jD j or:=by rw [LJ U];refine kW λD _=> ?_;rw [iR,nR,BB];exact g D
 have v:∀D∈At,D∈aq j:=λD s=>d D s _ _ (wm or U);refine⟨h, ?_, ?_⟩
 .rw [<-h];refine((uI e (a.cY.places.filter _)).mpr λD=> ?_).length_eq;grind
 .let⟨S,t,w,x,u⟩:=i.tt.row or U;refine⟨S,t, ?_⟩;rw [LK a.cY U,rv];congr 1;refine kW λG y=> ?_;show decide (a9 G∈S)=gq j or G
  rw [iR,nR,qA,u,r];exact BC a.cY ((g or).mp c)
def BX(A D:cx):uA A D=I↔(a9 A).1=(a9 D).1:=by cases A<;>cases D<;>simp [uA,a9]
def Mo(f:bD j)(g:bI j pc (gv j (gq j)))(U:or∈aq j)(h:ba pc (A or)=Y re)(N:cx):(a9 N).1∈re.map (·.1)↔gu j 1 or N=I:=by
 let⟨l,b,m,i,c⟩:=g.row or U;rw [h]at b;obtain rfl:=a8 b;have D:gu j 1 or N=((bq j).filter (gq j or)).any (uA N):=by rw [<-vX f.cY.places _ U,<-oD];rfl
 rw [D,Gu,bE];constructor
 .rintro⟨k,d,Q⟩;obtain⟨G,e,rfl⟩:=i k d;exact⟨G,dA.mpr ((c G).mp d),(BX N G).mpr Q.symm⟩
 .rintro⟨G,e,Q⟩;exact⟨a9 G,(c G).mpr (dA.mp e),((BX N G).mp Q).symm⟩
def BY:∀(A:ae) (D:Nat),(aH (aT D A)).map aA=(aH A).map aA:=by intro A;induction A<;>intro D<;>simp_all [aT,aH,aA]
theorem Mp:∀(c:Nat) (G:ae),gk G<=c->∀Q,bJ G=cu Q (size G)->∀A∈aH G,∃U d:List Fm,(aH G).map aA=U++((aH A).map aA++d)/\U.length+Q=af A/\∀y,(aH (cQ (af A) y G)).map aA=U++((aH y).map aA++d):=by
 intro c;induction c with
 |zero=>intro G k;cases G<;>simp at k
 |succ c e=>
  intro G k Q n A f;let⟨t,g⟩:=kC n
  rw [e5]at f;rcases bb.mp f with rfl|f
  .exact⟨[],[],by simp,by grind,λy=>by rw [sN S];simp⟩
  .let⟨b,i,l⟩:=dH.mp f;let⟨D,N,m⟩:=Gy i
   rw [m,kZ,cp,aW,ze,aV,fz]at g;have u:(D.flatMap bJ).length=(D.map size).sum:=by
    clear m g i;induction D with
    |nil=>rfl
    |cons a o e=>grind [hp]
   have p:cu (Q+1) ((D.map size).sum+(size b+(N.map size).sum))=cu (Q+1) (D.map size).sum++(cu (Q+1+(D.map size).sum) (size b)++cu (Q+1+(D.map size).sum+size b) (N.map size).sum):=by rw [kf,kf]
   rw [p]at g;let⟨v,h⟩:=mi g (by grind)
   let⟨h,w⟩:=mi h (by rw [hp,uF]);let⟨U,d,x,z,B⟩:=e b (by have:=h8 i;omega) _ h A l
   have q:af A∈bJ b:=by unfold bJ;exact d8 l
   rw [h,Gz]at q;have r:∀M∈D,af A∉bJ M:=λM T j=>by have:af A∈D.flatMap bJ:=dH.mpr ⟨M,T,j⟩;grind
   have s:∀M∈N,af A∉bJ M:=λM T j=>by have:af A∈N.flatMap bJ:=dH.mpr ⟨M,T,j⟩;grind
   have C:∀K:List ae,((K.flatMap aH).map aA).length=(K.map size).sum:=by
    intro K;induction K with
    |nil=>rfl
    |cons a o e=>rw [cp,aW,bB,e,ag];rfl
   refine⟨aA G::((D.flatMap aH).map aA++U),d++(N.flatMap aH).map aA, ?_, ?_,λy=> ?_⟩
   .grind [e5,kZ]
   .grind
   .let⟨E,F,H,_⟩:=sO (y:=y) (show af G≠af A by omega);have L:D.map (cQ (af A) y)=D:=(gF λM T=>o2 (r M T)).trans (rz D)
    have P:N.map (cQ (af A) y)=N:=(gF λM T=>o2 (s M T)).trans (rz N);grind [af,e5,dk]
theorem Mq(T:bD j)(U:rc∈aH j){G y:ae}(o:bD G)(d:aT 0 G=aT 0 (cQ (af rc) y j))(M:eR (e1 j G (af rc)) r=Y AT)(p:r<size j):((aH G)[AT]?).map aA=((aH j)[r]?).map aA:=by
 have e:bJ j=cu 0 (Cf.size j):=by have:=lG j 0;rw [T.mM]at this;exact this
 let⟨f,g,b,q,h⟩:=Mp _ j (aX _) 0 e rc U;have c:(aH G).map aA=f++((aH y).map aA++g):=by rw [<-h y,<-BY (cQ (af rc) y j) 0,<-d,BY]
 have sz:zf j (af rc)=Cf.size rc:=by unfold zf;rw [T.cY.nodeAt,T.cY.get U];rfl
 have i:=bN cN b;have A:=bN cN c
 simp only [bB,ag]at i A;have k:(aH j).length=Cf.size j:=rfl
 have l:(aH G).length=Cf.size G:=rfl;have D:(aH rc).length=Cf.size rc:=rfl
 have s:(aH y).length=Cf.size y:=rfl;rw [<-bh,<-bh,b,c];unfold eR e1 at M;dsimp only at M;rw [sz,k,l]at M;by_cases m:r<af rc
 .grind
 .rw [N m]at M;by_cases n:r<af rc+Cf.size rc
  .grind
  .rw [N n]at M;have M:=a8 M
   rw [hT (by omega),hT (by rw [ag];omega),hT (by omega),hT (by grind)];congr 1;simp only [ag];omega
def Mr(D:Nat)(A:Fm):Bool:=match D with
 |0=>I|1=>jl A|2=>decide (A=.pair)|3=>decide (A=.pair)|4=>decide (A=.new)|_=>ao
theorem sV(M:bD j)(c:Fm->Bool):r∈cA (infos O j) c↔∃G∈aH j,af G=r/\c (aA G)=I:=by grind [mQ]
def BZ(U:bD j){c:Pr}:c∈(aq j).map A↔∃G∈aH j,af G=c.2/\Mr c.1 (aA G)=I:=by
 rw [<-BR U];unfold sS;simp only [bS,bE,dH,sV U,lZ,e7];let⟨f,T⟩:=c
 constructor
 .rintro(((⟨e,g,Q⟩|⟨e,⟨G,N,M,D⟩,Q⟩)|⟨e,⟨G,N,M,D⟩,Q⟩)|⟨e,⟨G,N,M,D⟩,Q⟩)
  .injection Q with a D;subst a D;let⟨G,N,M⟩:=U.node g
   exact⟨G,N,M,S⟩
  .injection Q with a b;subst a b;exact⟨G,N,M,D⟩
  .rcases bb.mp Q with Q|Q
   .injection Q with a b;subst a b;exact⟨G,N,M,D⟩
   .have Q:=bf.mp Q;injection Q with a b;subst a b;exact⟨G,N,M,D⟩
  .injection Q with a b;subst a b;exact⟨G,N,M,D⟩
 .rintro⟨G,N,M,D⟩;dsimp only at M D
  match f,D with
  |0,_=>exact .inl (.inl (.inl ⟨T,M▸U.lt N,S⟩))
  |1,D=>exact .inl (.inl (.inr ⟨T,⟨G,N,M,D⟩,S⟩))
  |2,D=>exact .inl (.inr ⟨T,⟨G,N,M,D⟩,bY⟩)
  |3,D=>exact .inl (.inr ⟨T,⟨G,N,M,D⟩,bM _ (bf.mpr S)⟩)
  |4,D=>exact .inr ⟨T,⟨G,N,M,D⟩,S⟩
def fu(D:Nat->Option Nat)(A:Pr):Option Pr:=(D A.2).map λG=>(A.1,G)
def f7(D:Nat->Option Nat)(A:Pr):Option Pr:=if A=(0,0)then Y A else fu D A
theorem wO(G:rB)(D:aB):fu (eR G) (A D)=(rC G D).map A:=by cases D<;>(grind [fu,rC,A,eR])
theorem Ms(G:rB)(A:cx):f7 (eR G) (a9 A)=(zg G A).map a9:=by
 cases A with
 |num=>rfl
 |fn a|pair a|ref a=>
  unfold f7;rw [N (by intro D;injection D with D _;cases D)];grind [fu,zg,a9,eR]
def jU(A:Nat->Option Nat)(D:Tb)(y:Pr×List Pr):Nat:=match fu A y.1 with
 |none=>0
 |some a=>(y.2.map (f7 A)).countP λo=>o.any λG=>decide (G∈(ba D a).getD [])
def hr(A:Nat->Option Nat)(D G:Tb):Nat:=(D.map (jU A G)).sum
def countP_flatMap(A:s2->List Do)(D:Do->Bool):∀N:List s2,(N.flatMap A).countP D=(N.map λQ=>(A Q).countP D).sum
 |[]=>rfl
 |Q::a=>by rw [cp,Sd,countP_flatMap A D a,aV,fz]
variable{Is:Tb}
theorem Mt(G:bD j)(ab:bD rc){s:rB}(w:∀D∈aq j,∀T,rC s D=Y T->T∈aq rc)(g:bI j pc (gv j (gq j)))(u:bI rc Is (gv rc (gq rc))):hr (eR s) pc Is=(k4 s (d6 j) (d6 rc)).kept:=by
 show _=((d6 j).map (iv s)).countP λo=>o.any (d6 rc).contains;have x:∀(D:aB) (M:cx),(d6 rc).contains ⟨D,M⟩=I↔gM rc D M:=λD M=>by rw [ir];exact KH
 rw [oD j];unfold eT hr;rw [uJ,countP_flatMap];have z:=g.nodup G
 have B:∀(a:Tb) (b:List aB),a.map (·.1)=b.map A->(∀y∈a,y∈pc)->(∀D∈b,D∈aq j)->(a.map (jU (eR s) Is)).sum=(b.map λD=>(((bq j).filter (gq j D)).map λM=>(⟨D,M⟩:hu)).countP ((λo=>o.any (d6 rc).contains)∘iv s)).sum:=by
  intro a;induction a with
  |nil=>simp_all
  |cons y ad C=>
   intro b Q k l;cases b with
   |nil=>cases Q
   |cons D E=>
    rw [aV,aV]at Q;injection Q with m F;rw [aV,aV,fz,fz,C E F (λe c=>k e (bM _ c)) λe c=>l e (bM _ c)];congr 1;have n:=l D bY
    let⟨h,p,H,K,q⟩:=g.row D n;rw [<-m,hL z (show(y.1,y.2)∈pc from k y bY)]at p;have L:y.2=h:=a8 p
    unfold jU;rw [m,wO,L];cases r:rC s D with
    |none=>
     symm;show GC _ _=0
     rw [List.countP_eq_zero];intro e c;obtain⟨M,_,rfl⟩:=bE.mp c;grind [iv]
    |some T=>
     have P:=w D n T r;let⟨t,R,al,am,V⟩:=u.row T P
     show GC (λo=>o.any λs=>decide (s∈(ba Is (A T)).getD [])) (h.map (f7 (eR s)))=_;rw [R,uJ,uJ];have W:h.Perm (((bq j).filter (gq j D)).map a9):=(uI H (jk (λ_ _=>mK) ((sQ G).filter (gq j D)))).mpr λX=>by
      constructor
      .intro f;obtain⟨M,i,rfl⟩:=K X f;exact d8 (dA.mpr ((q M).mp f))
      .intro f;obtain⟨M,i,rfl⟩:=bE.mp f;exact(q M).mpr (dA.mp i)
     rw [W.countP_eq,uJ];refine List.countP_congr λM i=> ?_;show((f7 (eR s) (a9 M)).any λs=>decide (s∈t))=I↔((iv s ⟨D,M⟩).any (d6 rc).contains)=I
     rw [Ms];unfold iv;rw [r];cases an:zg s M with
     |none=>simp
     |some v=>
      show decide (a9 v∈t)=I↔(d6 rc).contains ⟨T,v⟩=I;rw [nR,x,V];unfold gv;rw [qA];exact⟨λQ=>Q.2,λQ=>⟨(vU Q).2,Q⟩⟩
 exact B pc _ g.keys (λ_ Q=>Q) λ_ Q=>Q
def gw(A:ai):List Int:=A.map λD=>(D.toNat:Int)
def inR(A:Int):Prop:= -1000000000000000000<=A/\A<=1000000000000000000
def qS(A:List Int)(G:k6)(D:List Int):Prop:=match G with
 |.program b=>A=0::(b.length:Int)::(gw b++D)/\b.length<=2000
 |.show_=>A=1::D
 |.set a c=>A=2::a::c::D/\inR a/\inR c
 |.arrows a=>A=3::a::D/\inR a
 |.counts=>A=4::D
 |.class_ a=>A=5::a::D/\inR a
 |.classes=>A=6::D
 |.ask a=>A=7::a::D/\inR a
 |.funs a=>A=8::a::D/\inR a
 |.looked a=>A=9::a::D/\inR a
 |.change a b=>A=10::a::(b.length:Int)::(gw b++D)/\inR a/\b.length<=2000
 |.undo=>A=11::D
 |.size=>A=12::D
inductive Calls:List Int->List k6->Prop
 |nil:Calls [] []
 |cons {l:List Int} {k:k6} {r:List Int} {ks:List k6}:qS l k r->Calls r ks->Calls l (k::ks)
def toldOf:Vacfaf.Answer->List Int:=Ut
def qT:nS->List k6->List Int
 |_,[]=>[]
 |s,k::ks=>((toldOf (hv s k).2).length:Int)::(toldOf (hv s k).2++qT (hv s k).1 ks)
variable{zn:List Int}
theorem Mu(G:zn.all (λD=>rF D 8)=I):gw (zn.map λM=>ek M.toNat)=zn:=by
 unfold gw;rw [eh];refine(gF λD N=> ?_).trans (nN zn);have:=j9.mp G D N
 unfold rF at this;simp [bz,ka]at this;grind [y9]
theorem Mv(G:zn.all (λD=>rF D 8)=I):Se zn=I:=by grind [Se,rF]
variable{v2:Int}
def lN(D:uM v2=I):inR v2:=by simp_all [uM,inR]
variable{UJ:List Int}
theorem call_one{c:List (List Int)}(A:GD gG UJ=Y (c,zn))(a:Sf (ml c)=I):∃n,qS UJ n zn/\Uu (ml c)=Y n:=by
 cases UJ with
 |nil=>cases A
 |cons p M=>
  simp only [GD]at A;have o:∀{M:List Int} {b:List (List Int)} {d:List Int},i0 1 M=Y (b,d)->∃Q D,M=Q::(D++d)/\b=[D]/\Q=(D.length:Int):=by
   intro M b d A;cases M with
   |nil=>cases A
   |cons Q zn=>
    by_cases r:0<=Q/\Q.toNat<=zn.length
    .have e:Sg (Q::zn)=Y (zn.take Q.toNat,zn.drop Q.toNat):=ak r;simp only [i0,e]at A;injection A with A;injection A with i j;subst i j;refine⟨Q,zn.take Q.toNat,by simp_all,S, ?_⟩;grind
    simp_all [Sg,N,i0]
  have q:∀{D:List Int},((D.all (λ(k:Int)=>rF k 8))&&decide (D.length<=2000))=I->GG D=Y (D.map λT=>ek T.toNat)/\gw (D.map λT=>ek T.toNat)=D/\(D.map λT=>ek T.toNat).length<=2000:=by intro D A;simp only [bz,ka]at A;exact⟨ak (Mv A.1),Mu A.1,by grind⟩
  by_cases s:p=0
  .subst s;simp only [show gG 0=Y (0,1)from rfl,nT,hx]at A;rw [N (by omega)]at A;cases e:i0 1 M with
   |none=>grind
   |some y=>
    let⟨b,d⟩:=y;rw [e]at A;cases A;obtain⟨Q,D,rfl,rfl,rfl⟩:=o e;let⟨t,u,l⟩:=q a
    refine⟨.program (D.map λT=>ek T.toNat),⟨?_,l⟩, ?_⟩
    .grind
    .show(GG D).map _=_;grind
  by_cases i:p=1
  .subst i;simp only [show gG 1=Y (0,0)from rfl,i0,nT,hx]at A;rw [N (by omega)]at A;cases A;exact⟨.show_,S,S⟩
  by_cases j:p=2
  .subst j;simp only [show gG 2=Y (2,0)from rfl,i0]at A
   match M,A with
   |G::T::M,A=>
    rw [N (by simp)]at A;cases A;have f:(uM G&&uM T)=I:=a
    rw [bz]at f;exact⟨.set G T,⟨S,lN f.1,lN f.2⟩,S⟩
   |[G],A=>grind
   |[],A=>grind
  have g:∀{m:Int} {c:List (List Int)},(if M.length<1 then O else(match i0 0 (M.drop 1)with
   |none=>O
   |some (b,d)=>Y ((m::M.take 1)::b,d)))=Y (c,zn)->∃G,M=G::zn/\c=[[m,G]]:=by
   intro m c A
   match M,A with
   |G::M,A=>
    simp_all [i0]
   |[],A=>grind
  by_cases v:p=3
  .subst v;simp only [show gG 3=Y (1,0)from rfl]at A;obtain⟨G,rfl,rfl⟩:=g A;exact⟨.arrows G,⟨S,lN a⟩,S⟩
  by_cases w:p=4
  .subst w;simp only [show gG 4=Y (0,0)from rfl,i0,nT,hx]at A;rw [N (by omega)]at A;cases A;exact⟨.counts,S,S⟩
  by_cases x:p=5
  .subst x;simp only [show gG 5=Y (1,0)from rfl]at A;obtain⟨G,rfl,rfl⟩:=g A;exact⟨.class_ G,⟨S,lN a⟩,S⟩
  by_cases z:p=6
  .subst z;simp only [show gG 6=Y (0,0)from rfl,i0,nT,hx]at A;rw [N (by omega)]at A;cases A;exact⟨.classes,S,S⟩
  by_cases B:p=7
  .subst B;simp only [show gG 7=Y (1,0)from rfl]at A;obtain⟨G,rfl,rfl⟩:=g A;exact⟨.ask G,⟨S,lN a⟩,S⟩
  by_cases C:p=8
  .subst C;simp only [show gG 8=Y (1,0)from rfl]at A;obtain⟨G,rfl,rfl⟩:=g A;exact⟨.funs G,⟨S,lN a⟩,S⟩
  by_cases E:p=9
  .subst E;simp only [show gG 9=Y (1,0)from rfl]at A;obtain⟨G,rfl,rfl⟩:=g A;exact⟨.looked G,⟨S,lN a⟩,S⟩
  by_cases F:p=10
  .subst F;simp only [show gG 10=Y (1,1)from rfl]at A
   match M,A with
   |G::M,A=>
    rw [N (by simp)]at A;simp only [List.drop_succ_cons,nT,List.take_succ_cons,hx]at A;cases e:i0 1 M with
    |none=>grind
    |some y=>
     let⟨b,d⟩:=y;rw [e]at A;cases A;obtain⟨Q,D,rfl,rfl,rfl⟩:=o e;have f:(uM G&&((D.all (λ(k:Int)=>rF k 8))&&decide (D.length<=2000)))=I:=a
     rw [bz]at f;let⟨t,u,l⟩:=q f.2
     refine⟨.change G (D.map λT=>ek T.toNat),⟨?_,lN f.1,l⟩, ?_⟩
     .grind
     .show(GG D).map _=_;grind
   |[],A=>grind
  by_cases H:p=11
  .subst H;simp only [show gG 11=Y (0,0)from rfl,i0,nT,hx]at A;rw [N (by omega)]at A;cases A;exact⟨.undo,S,S⟩
  by_cases K:p=12
  .subst K;simp only [show gG 12=Y (0,0)from rfl,i0,nT,hx]at A;rw [N (by omega)]at A;cases A;exact⟨.size,S,S⟩
  simp_all [gG]
theorem Mw:∀(N:Nat) (G:List Int) (M:List (List (List Int))),zk gG N G=Y M->(M.map ml).all Sf=I->∃Q,Calls G Q/\Q.length=M.length/\∀A,GH (GI p5 A (M.map ml))=qT A Q:=by
 intro N;induction N with
 |zero=>
  intro G M D T;cases G with
  |nil=>cases D;exact⟨[],.nil,S,λ_=>S⟩
  |cons p b=>cases D
 |succ N g=>
  intro G M D T;cases G with
  |nil=>cases D;exact⟨[],.nil,S,λ_=>S⟩
  |cons p b=>
   unfold zk at D;cases d:GD gG (p::b)with
   |none=>grind
   |some y=>
    let⟨c,e⟩:=y;rw [d]at D;dsimp only at D;cases f:zk gG N e with
    |none=>grind
    |some a=>
     rw [f]at D;cases D;rw [aV,jA,bz]at T;let⟨U,h,i⟩:=call_one d T.1
     let⟨Q,j,m,k⟩:=g e a f T.2;refine⟨U::Q,.cons h j,by grind,λA=> ?_⟩;have l:p5 A (ml c)=((hv A U).1,toldOf (hv A U).2):=by unfold p5;rw [i];rfl
     show GH ((p5 A (ml c)).2::GI p5 (p5 A (ml c)).1 (a.map ml))=_;rw [l];show _::_++GH (GI p5 (hv A U).1 (a.map ml))=_
     rw [k];rfl
theorem Mx(G:GJ zn=I):∃D,Calls zn D/\D.length<=30/\uN zn=qT GK D/\(uN zn).length<=10000000:=by
 unfold GJ at G;cases a:zk gG zn.length zn with
 |none=>grind
 |some b=>
  rw [a]at G;simp [bz]at G;obtain⟨⟨⟨⟨_,S⟩,_⟩,M⟩,T⟩:=G;unfold Uv at M;simp only [bz]at M;let⟨D,N,U,Q⟩:=Mw _ zn b a M.1
  refine⟨D,N, ?_, ?_, ?_⟩
  .grind
  .unfold uN PyVacfaf.calls;rw [a];exact Q _
  simp_all [PyFlat.short]
def bw(A:ai):aa:=⟨(A.map iw).toArray⟩
def ia(A:ai):(bw A).length=A.length:=by show(A.map iw).toArray.size=A.length;simp
def kG{u:ai}:bw sw=bw u↔sw=u:=by
 constructor
 .intro D;have G:(sw.map iw).toArray=(u.map iw).toArray:=bN Str.cps D
  have M:sw.map iw=u.map iw:=by simpa using G
  exact List.map_inj_right (λQ S N=>uD.mp N)|>.mp M
 .intro D;rw [D]
def ib(D:ai):Bool:=D.all λA=>e8 A||A==63
def My:∀A:UInt8,(e8 A||A==63)=I->Sh A.toNat=iY A:=by
 have:∀D:Fin 256,(e8 (ek D.val)||ek D.val==63)=I->Sh D.val=iY (ek D.val):=by decide+kernel
 intro A G;have M:ek A.toNat=A:=zl
 have:=this ⟨A.toNat,zm A⟩;simp only [M]at this;exact this G
def Mz:∀A:UInt8,(e8 A||A==63)=I->Si A.toNat=kX A:=by
 have:∀D:Fin 256,(e8 (ek D.val)||ek D.val==63)=I->Si D.val=kX (ek D.val):=by decide+kernel
 intro A G;have M:ek A.toNat=A:=zl
 have:=this ⟨A.toNat,zm A⟩;simp only [M]at this;exact this G
def B0(G:Nat->Bool)(N:UInt8->Bool)(M:ib sw=I)(Q:∀A:UInt8,(e8 A||A==63)=I->G A.toNat=N A):(bw sw).cps.all G=sw.all N:=by
 show(sw.map iw).toArray.all G=sw.all N;unfold ib at M;rw [List.all_toArray,Sj];induction sw with
 |nil=>rfl
 |cons A b a=>
  rw [jA,bz]at M;rw [jA,jA,a M.2];show(G A.toNat&&_)=_
  rw [Q A M.1]
def MA(D:ib sw=I):yO (bw sw)=(!sw.isEmpty&&sw.all iY):=by unfold yO;rw [B0 _ _ D My,ia];cases sw<;>rfl
def MB(D:ib sw=I):yP (bw sw)=(!sw.isEmpty&&sw.all kX):=by unfold yP;rw [B0 _ _ D Mz,ia];cases sw<;>rfl
def top(A:Nat):a6:=Uw.main.body.getD A (.Pass ⟨0,0,0,0⟩)
abbrev B1:a6:=top 22
abbrev B2:a6:=top 23
def gN:List (Key×V):=[(.inr "fun",.int 1),(.inr "let",.int 2),(.inr "if",.int 3),(.inr "pair",.int 2),(.inr "fst",.int 1),(.inr "snd",.int 1),(.inr "new",.int 1),(.inr "get",.int 1),(.inr "set",.int 2),(.inr "add",.int 2),(.inr "a call",.int 2)]
def B3:Sp:=λD H G _=>∃A:ai,D=[.str (bw A)]/\ib A=I/\A.length<=10000/\G (.bl (isNum A)) H
def wQ:(dO "0")=bw [48]:=by decide+kernel
variable{z:aa->Option J}{d:Z}{o0:bc}{wP:dz}{l:az}{m:aw}{B:aE}{K:ah}
def MC(g:a7 K "is_number" "is_number" B1 d o0)(h:z "len"=O)(k:z "MOST_DIGITS"=Y (.int 2 wP)):aS l m K z B aD 1 d o0 ["word"] B3:=by
 refine g.go ["word"] λu x y P H U C E L e _ _ _=> ?_;obtain⟨A,rfl,i,n,D⟩:=e;have f:A.length<=aR:=cq n (by decide)
 refine⟨_,ar (bH (bQ cU (T 0) dP (bU _)) (ax (aQ hy)) bP) (ax (aQ (rR (Av PySem.F.slot_str_isdigit PySem.F.type_str_isdigit JE (T 0)) (rR (n8 u9 (cR vn (by rfl) h dD (aK 0)) (b8 k) (bU _)) (zA (n8 qg (cc IG (T 0) cK (λ_ _=>S)) dP (bU _))))))), ?_⟩;refine⟨_,S,S,_,S,eb (λQ=> ?_) (λQ=> ?_)⟩
 .have b:A=[48]:=by
   have:=eQ Q;injection this with this;rw [wQ]at this;exact kG.mp this
  subst b;exact D
 .have b:¬A=[48]:=λG=>Q (ck (by rw [G,<-wQ]));have o:isNum A=((!A.isEmpty&&A.all iY)&&(decide (A.length<=2)&&A.head? !=Y 48)):=by
   unfold isNum;rw [show(A==[48])=ao by simpa using b,yF,Sk]
  rw [o]at D;refine⟨_,S,⟨_,S⟩,_,S,S,j6,_,S, ?_⟩;rw [MA i];refine eb (λM=> ?_) (λM=> ?_)
  .rw [M,rG]at D;refine⟨_,S,_,S,by rw [ia];exact f,_,_,S,S,_,S, ?_⟩;rw [ia];have p:decide ((A.length:Int)<=2)=decide (A.length<=2):=by
    rw [hc];omega
   rw [p];refine eb (λc=> ?_) (λc=> ?_)
   .rw [c,rG]at D;cases A with
    |nil=>simp at M
    |cons a q=>
     refine⟨_,S,_,_,_,S,S,by rw [ia];exact f,e2 (j:=0) (v:=a.toNat) S,S, ?_⟩;have r:(!decide (V.str ⟨#[a.toNat]⟩=V.str (dO "0")))=((a::q).head? !=Y 48):=by
      rw [wQ];have:(V.str ⟨#[a.toNat]⟩=V.str (bw [48]))↔a=48:=by
       constructor
       .intro G;injection G with G;have:bw [a]=bw [48]:=G
        have:=kG.mp this;injection this
       .intro G;rw [G];rfl
      by_cases N:a=48
      .rw [ck (this.mpr N),N];rfl
      .rw [bT λG=>N (this.mp G)];simp [N]
     rw [r];exact D
   .have s:decide (A.length<=2)=ao:=by simpa using c
    rw [s,ua]at D;exact D
  .have t:(!A.isEmpty&&A.all iY)=ao:=by simpa using M
   rw [t,ua]at D;exact D
def MD:∀A:Fm,dV A=ao->A≠.call->cS gN (.inr (bw (fF A)))=Y (.int (arity A)):=by intro A D G;cases A<;>first|exact absurd D (by decide)|exact absurd rfl G|decide+kernel
def ME(m:ib sw=I)(T:¬(32:UInt8)∈sw)(N:ec sw=O):cS gN (.inr (bw sw))=O:=by
 unfold cS gN;unfold ec at N;rw [nF]at N;rw [nF.mpr]
 .rfl
 .intro n Q;simp only [bb,ej,fy]at Q;have D:∀M:Fm,M∈[Fm.fn,.letE,.ifz,.pair,.fst,.snd,.new,.get,.set,.add]->¬(kP (bw (fF M)):Key)=kP (bw sw):=λM a A=>by
   injection A with A;exact N M a (by rw [kG.mp A];simp)
  have b:dO "fun"=bw (fF .fn):=by decide+kernel
  have c:dO "let"=bw (fF .letE):=by decide+kernel
  have d:dO "if"=bw (fF .ifz):=by decide+kernel
  have e:dO "pair"=bw (fF .pair):=by decide+kernel
  have f:dO "fst"=bw (fF .fst):=by decide+kernel
  have g:dO "snd"=bw (fF .snd):=by decide+kernel
  have h:dO "new"=bw (fF .new):=by decide+kernel
  have i:dO "get"=bw (fF .get):=by decide+kernel
  have j:dO "set"=bw (fF .set):=by decide+kernel
  have k:dO "add"=bw (fF .add):=by decide+kernel
  have l:dO "a call"=bw [97,32,99,97,108,108]:=by decide+kernel
  rw [b,c,d,e,f,g,h,i,j,k,l]at Q;rcases Q with rfl|rfl|rfl|rfl|rfl|rfl|rfl|rfl|rfl|rfl|rfl
  all_goals (intro A;have A:=eQ A;dsimp only at A)
  .exact D .fn (by simp) A
  .exact D .letE (by simp) A
  .exact D .ifz (by simp) A
  .exact D .pair (by simp) A
  .exact D .fst (by simp) A
  .exact D .snd (by simp) A
  .exact D .new (by simp) A
  .exact D .get (by simp) A
  .exact D .set (by simp) A
  .exact D .add (by simp) A
  .injection A with A;apply T;rw [<-kG.mp A];decide
def B4(N:ib sw=I)(Q:¬(32:UInt8)∈sw):cS gN (.inr (bw sw))=(ec sw).map λD=>V.int (arity D):=by
 cases a:ec sw with
 |none=>exact ME N Q a
 |some D=>
  have G:=fL a;have T:fF D=sw:=by have:=mh a;simpa using this
  have M:dV D=ao/\D≠.call:=by simp only [bb,ej,fy]at G;rcases G with rfl|rfl|rfl|rfl|rfl|rfl|rfl|rfl|rfl|rfl<;>decide
  rw [<-T];exact MD D M.1 M.2
def wR:Sp:=λD H G _=>∃A:ai,D=[.str (bw A)]/\ib A=I/\A.length<=10000/\G (.bl (h9 A)) H
variable{p:Z}
def MG(c:a7 K "is_name" "is_name" B2 p o0)(U:z "len"=O)(f:z "MOST_LETTERS"=Y (.int 4 wP))(g:z "PARTS"=Y (.ref d))(h:KD K l m d gN):aS l m K z B aD 1 p o0 ["word"] wR:=by
 refine c.go ["word"] λr s t u H x y w M i _ _ _=> ?_;obtain⟨A,rfl,b,j,D⟩:=i;have k:A.length<=aR:=cq j (by decide)
 refine⟨_,ax (aQ (rR (Av PySem.F.slot_str_isalpha PySem.F.type_str_isalpha JF (T 0)) (rR (n8 u9 (cR vn (by rfl) U dD (aK 0)) (b8 f) (bU _)) (zA (He (AE (T 0) (el (v:=.ref d) S g S))))))), ?_⟩;have Q:h9 A=((!A.isEmpty&&A.all kX)&&(decide (A.length<=4)&&(ec A).isNone)):=by unfold h9;rw [Sk]
 rw [Q]at D;refine⟨_,S,⟨_,S⟩,_,S,S,j6,_,S, ?_⟩;rw [MB b];refine eb (λG=> ?_) (λG=> ?_)
 .have a:¬(32:UInt8)∈A:=λn=>by
   rw [bz]at G;have:=j9.mp G.2 32 n
   revert this;decide
  rw [G,rG]at D;refine⟨_,S,_,S,by rw [ia];exact k,_,_,S,S,_,S, ?_⟩;rw [ia];have o:decide ((A.length:Int)<=4)=decide (A.length<=4):=by rw [hc];omega
  rw [o];refine eb (λN=> ?_) (λN=> ?_)
  .rw [N,rG]at D;refine⟨_,S,d,_,S,⟨gN,.inr (bw A),h,S,S⟩, ?_⟩;rw [B4 b a,kT];have:(!(ec A).isSome)=(ec A).isNone:=by cases ec A<;>rfl
   rw [this];exact D
  .have P:decide (A.length<=4)=ao:=by simpa using N
   rw [P,ua]at D;exact D
 .have q:(!A.isEmpty&&A.all kX)=ao:=by simpa using G
  rw [q,ua]at D;exact D
variable{s4:L2.St}{xL:Ends}{Fa:TG}{Id:TS}
def B5{x:aa}{H:G}(M:Nat->L2.St->G->Prop)(l:M 0 s4 H)(m:∀A c s4 H,x.cps[A]?=Y c->M A s4 H->Fa (.str ⟨#[c]⟩) s4 H λU a=>Id {xL with nx:=M (A+1),ct:=M (A+1),bk:=xL.nx} U a) (n:∀s4 H,M x.cps.size s4 H->xL.nx s4 H):∃b:Nat->Nat->L2.St->G->Prop,(∃N,b 0 N s4 H)/\∀A N s4 H,b A N s4 H->((qt x).stop A H/\xL.nx s4 H)\/((qt x).go A H/\∃d:L2.St->G->Prop,(∀e Q,d e Q->∃i,i<N/\b (A+1) i e Q)/\∀v Q,(qt x).hg A H v Q->Fa v s4 Q λU a=>Id {xL with nx:=d,ct:=d,bk:=xL.nx} U a):=by
 refine⟨λA N s4 H=>N=x.cps.size-A/\A<=x.cps.size/\M A s4 H,⟨x.cps.size,by simp,cP _,l⟩, ?_⟩;rintro A N s4 H ⟨rfl,q,j⟩;by_cases k:A<x.cps.size
 .refine .inr ⟨k,M (A+1),λe Q o=>⟨x.cps.size-(A+1),by omega,S,k,o⟩,λv Q y=> ?_⟩;obtain⟨f,c,p,rfl⟩:=y;subst f;exact m A c s4 _ p j
 .have f:A=x.cps.size:=by omega
  subst f;exact .inl ⟨aX _,n s4 H j⟩
def MH(A:ai)(D:UInt8):bw A++⟨#[D.toNat]⟩=bw (A++[D]):=by show(⟨(A.map iw).toArray++ #[D.toNat]⟩:aa)=⟨((A++[D]).map iw).toArray⟩;simp
def B6(A:UInt8):(⟨#[A.toNat]⟩:aa)=bw [A]:=rfl
def iL:(dO "")=bw []:=by decide+kernel
def B7{c:Nat}(N:(bw sw).cps[r]?=Y c):∃M,sw[r]?=Y M/\c=M.toNat:=by
 have A:(sw.map iw)[r]?=Y c:=by simpa [bw]using N
 rw [bh]at A;cases a:sw[r]? with
 |none=>rw [a]at A;cases A
 |some M=>rw [a]at A;exact⟨M,S,(a8 A).symm⟩
def B8(A:ai):(bw A).cps.size=A.length:=ia A
def MI:∀A:UInt8,decide (A.toNat∈(dO " ()").cps.toList)=fO A:=by
 have:∀D:Fin 256,decide (D.val∈(dO " ()").cps.toList)=fO (ek D.val):=by decide+kernel
 intro A;have G:ek A.toNat=A:=zl
 have:=this ⟨A.toNat,zm A⟩;simp only [G]at this;exact this
def eL:List ai->ai->ai->List ai×ai
 |ws,w,[]=>(ws,w)
 |ws,w,a::b=>if fO a=I then eL (ws++(if w.isEmpty=I then []else [w])++[[a]]) [] b else eL ws (w++[a]) b
def wU(M:UInt8):∀(A D:ai) (G:List ai),eL G D (A++[M])=if fO M=I then((eL G D A).1++(if(eL G D A).2.isEmpty=I then []else [(eL G D A).2])++[[M]],[])else((eL G D A).1,(eL G D A).2++[M])
 |[],D,G=>by rw [cV,eL];rfl
 |c::A,D,G=>by
  rw [dk,eL,eL];split
  .exact wU M A _ _
  .exact wU M A _ _
def wV:∀(A D:ai) (G:List ai),(eL G D A).1++(if(eL G D A).2.isEmpty=I then []else [(eL G D A).2])=G++bX D A
 |[],D,G=>by rw [bX];rfl
 |c::A,D,G=>by
  rw [eL,bX];split
  .rw [wV A];simp
  .rw [wV A]
def sW:∀(D A:ai) (G:List ai),(eL G A D).1.length+(eL G A D).2.length<=G.length+A.length+2*D.length
 |[],A,G=>by rw [eL];simp
 |c::D,A,G=>by
  rw [eL];split
  .refine cq (sW D _ _) ?_;by_cases M:A.isEmpty=I
   .rw [ak M];simp;omega
   .rw [N M];have:A.length≠0:=λQ=>M (by rw [mc.mp Q];rfl)
    simp;omega
  .refine cq (sW D _ _) ?_;simp;omega
abbrev B9:a6:=top 25
def Ca:Sp:=λN H Q _=>∃A:ai,N=[.str (bw A)]/\A.length<=10000/\∀D G,(∀M o,H M=Y o->G M=Y o)->H D=O->G D=Y (.lst ((bX [] A).map λS=>V.str (bw S)))->Q (.ref D) G
def MJ{y:Z}(C:a7 K "words_of" "words_of" B9 y o0):aS l m K z B aD 1 y o0 ["signs"] Ca:=by
 refine C.go ["signs","words","begun","sign"] λad al am an H ap as a0 a1 E w _ sz=> ?_;obtain⟨D,rfl,a2,q⟩:=E;refine⟨_,ar (bo 1 w (dg aC)) (ar (bo 2 w dP) (ar (d2 dY S (Am (T 0)) (bW 3 w) (ar (bH (bQ JJ (T 3) dP S) (ar (zD (i:=2) w S (yR S) (T 3) H6) (ax Ho)) bP) (ar (bH (bQ qg (T 2) dP (bU _)) (ar (cL (fj fB gh gH fY (T 1) (aK 2))) (ax (bo 2 w dP))) bP) (ax (cL (fj fB gh gH fY (T 1) (aK 3))))))) (ar (bH (bQ qg (T 2) dP (bU _)) (ax (cL (fj fB gh gH fY (T 1) (aK 2)))) bP) (ax (aQ (T 1)))))), ?_⟩;refine⟨cP _,λa j=> ?_⟩;refine⟨_,S,_,S, ?_⟩;refine B5 (x:=bw D) (λf r U=>∃s,r=[Y (.str (bw D)),Y (.ref a),Y (.str (bw (eL [] [] (D.take f)).2)),s]/\ U a=Y (.lst ((eL [] [] (D.take f)).1.map λt=>V.str (bw t)))/\∀b o,H b=Y o->U b=Y o) ?_ ?_ ?_
 .refine⟨O, ?_, ?_, ?_⟩
  .rw [hx,eL,<-iL];rfl
  .rw [hx,eL,M];rfl
  .intro b o A;rw [Q (by intro d;rw [d,j]at A;cases A)];exact A
 .rintro f c r U L ⟨s,rfl,e,k⟩;obtain⟨b,P,rfl⟩:=B7 L;have R:f<D.length:=(cM.mp P).1
  have W:D.take (f+1)=D.take f++[b]:=by rw [dm,P];rfl
  have n:=sW (D.take f) [] [];rw [dW,i1 (ym R)]at n;simp only [jB,y0]at n;rw [W,wU];generalize eL [] [] (D.take f)=u at*;obtain⟨v,G⟩:=u;dsimp only at*;refine⟨_,S,_,_,S,S,_,S, ?_⟩;rw [MI];cases hd:fO b with
  |false=>
   refine⟨_,S,_,S,_,_,S,S, ?_, ?_⟩
   .rw [ia];show G.length+1<=aR;omega
   .refine⟨Y (.str ⟨#[b.toNat]⟩), ?_, ?_,k⟩
    .rw [N (by decide),<-MH];rfl
    .rw [N (by decide)];exact e
  |true=>
   refine⟨_,S,S,_,S,eb (λA=> ?_) (λA=> ?_)⟩
   .have g:G.isEmpty=ao:=by
     cases G with
     |nil=>rw [iL]at A;simp at A
     |cons=>rfl
    have hw:=List.isEmpty_eq_false_iff.mp g;have a3:G.length≠0:=λd=>hw (mc.mp d)
    refine⟨_,S,.inl ⟨S,_,au.of e⟩,_,S,a,_,_,S,S,e,by rw [ag];omega, ?_⟩;refine⟨_,S,.inl ⟨S,_,au.of (M)⟩,_,S,a,_,_,S,S,M,by rw [bB,ag];show v.length+1<_;omega, ?_⟩;refine⟨Y (.str ⟨#[b.toNat]⟩), ?_, ?_, ?_⟩
    .rw [ak S,iL];rfl
    .rw [ak S,M,g];simp [B6]
    .intro h o A;have:h≠a:=by intro d;rw [d,j]at A;cases A
     rw [Q this,Q this];exact k h o A
   .have g:G=[]:=by
     cases G with
     |nil=>rfl
     |cons t X=>exact(A (by rw [iL];simp [kG])).elim
    subst g;refine⟨_,S,.inl ⟨S,_,au.of e⟩,_,S,a,_,_,S,S,e,by rw [ag];omega, ?_⟩;refine⟨Y (.str ⟨#[b.toNat]⟩), ?_, ?_, ?_⟩
    .rw [ak S];rfl
    .rw [ak S,M];simp [B6]
    .intro h o A;have:h≠a:=by intro d;rw [d,j]at A;cases A
     rw [Q this];exact k h o A
 .rintro r U ⟨s,rfl,e,k⟩;rw [B8,dB]at*;have n:=sW D [] []
  simp only [jB,y0]at n;have p:=wV D [] []
  rw [cV]at p;generalize eL [] [] D=u at*;obtain⟨v,G⟩:=u;dsimp only at*;refine⟨_,S,S,_,S,eb (λA=> ?_) (λA=> ?_)⟩
  .have g:G.isEmpty=ao:=by
    cases G with
    |nil=>rw [iL]at A;simp at A
    |cons=>rfl
   rw [g]at p;refine⟨_,S,.inl ⟨S,_,au.of e⟩,_,S,a,_,_,S,S,e,by rw [ag];omega,_,S,q _ _ (λh o A=> ?_) j ?_⟩
   .have:h≠a:=by intro d;rw [d,j]at A;cases A
    rw [Q this];exact k h o A
   .rw [M,<-p,aW];rfl
  .have g:G=[]:=by
    cases G with
    |nil=>rfl
    |cons t X=>exact(A (by rw [iL];simp [kG])).elim
   subst g;have ab:v=bX [] D:=by simpa using p
   rw [<-ab]at q;exact⟨_,S,q _ _ k j e⟩
abbrev Cb:a6:=inClass (top 21) 1
abbrev Cc:a6:=inClass (top 21) 2
abbrev Cd:a6:=inClass (top 21) 3
def jV(A:Z)(D G:Int)(M N:Z):List (aa×V):=[("words",.ref A),("at",.int D),("signs_taken",.int G),("nodes",.ref M),("around",.ref N)]
def sX{a i n b c}:(jV a i n b c).lookup ("at":aa)=Y (.int i):=rfl
def sY{a i n b c}:(jV a i n b c).lookup ("words":aa)=Y (.ref a):=rfl
def wW{a i n b c}:(jV a i n b c).lookup ("signs_taken":aa)=Y (.int n):=rfl
def mS{b i n a c}:(jV b i n a c).lookup ("nodes":aa)=Y (.ref a):=rfl
def lO{b i n c a}:(jV b i n c a).lookup ("around":aa)=Y (.ref a):=rfl
variable{op:aa}
def gx{a i n b c}(D:op="peek"\/op="take"\/op="pass_over"\/op="begin_node"\/op="read_head"\/op="read_bracketed_head"\/op="read_on"):(jV a i n b c).lookup op=O:=by rcases D with rfl|rfl|rfl|rfl|rfl|rfl|rfl<;>rfl
structure kH(K:ah)(A:Z):Prop where
 cl:fi K A
 at_:dE K A "at"
 words:dE K A "words"
 taken:dE K A "signs_taken"
 nodes:dE K A "nodes"
 around:dE K A "around"
def wordAt(A:List ai)(D:Nat):ai:=A.getD D []
def qU(G:r<wl.length):wl[r]?=Y (wordAt wl r):=by unfold wordAt;rw [GL,gj G];rfl
def kI(G:wl.length<=r):wordAt wl r=[]:=by unfold wordAt;rw [GL,FK G];rfl
def jo(A:List ai)(D:Nat):Nat:=fl (A.take D)
def MK(A:List ai)(G:r<=A.length):jo A (h3 (r+1) A.length)=jo A r+(wordAt A r).length:=by
 unfold jo;by_cases c:r<A.length
 .rw [i1 c,dm,qU c,kE];show _+fl [wordAt A r]=_
  rw [oY,LL,ke]
 .rw [nU (by omega),kI (by omega),jB,ke];have:r=A.length:=by omega
  rw [this]
def hO(Q:Z)(H:G)(S N T a:Z)(A:List ai)(D:Nat):Prop:=(∃b,H S=Y (.ins Q b (jV N D (jo A D) T a)))/\H N=Y (.lst (A.map λM=>V.str (bw M)))/\D<=A.length/\A.length<20000/\∀M∈A,M.length<=10000
def wX(G:∀M∈wl,M.length<=10000)(D:Nat):(wordAt wl D).length<=10000:=by
 by_cases c:D<wl.length
 .exact G _ (cH (qU c))
 .rw [kI (by omega)];exact cP _
def wY(M:Z):Sp:=λN H Q _=>∃A S T a D G,N=[.ref A]/\hO M H A S T a D G/\Q (.str (bw (wordAt D G))) H
def ML{c:bc}(i:a7 K "peek" "Reading.peek" Cb p c)(A:kH K d)(j:z "len"=O):aS l m K z B aD 1 p c ["self"] (wY d):=by
 refine i.go ["self"] λn o P q H r s t u k _ _ _=> ?_;obtain⟨M,G,v,x,e,f,rfl,⟨⟨N,Q⟩,g,b,y,_⟩,T⟩:=k;refine⟨_,ar (bH (bQ cU (aG 0) (cR en (by rfl) j dD (D (aG 0) aC)) (bU _)) (ax (aQ dP)) bP) (ax (aQ (cc di (aG 0) (aG 0) (λ_ _=>S)))), ?_⟩;refine⟨_,S,M,d,N,_,_,S,Q,A.cl,A.at_,sX,_,S,M,d,N,_,_,S,Q,A.cl,A.words,sY,G,_,S,.inl (au.of g),S,_,S,eb (λa=> ?_) (λa=> ?_)⟩
 .have h:f=e.length:=by
   have:=eQ a;injection this with this;rw [ag]at this;omega
  rw [kI (by omega),<-iL]at T;exact T
 .have h:f<e.length:=by
   refine Nat.lt_of_le_of_ne b λU=>a (ck ?_);rw [ag,U]
  exact⟨_,S,M,d,N,_,_,S,Q,A.cl,A.words,sY,_,S,M,d,N,_,_,S,Q,A.cl,A.at_,sX,G,_,_,_,S,S,au.of g,e2 (by rw [bh,qU h];rfl),T⟩
def bK(D:Z)(H M:G):Prop:=∀A o,H A=Y o->A≠D->M A=Y o
def sZ(N:Z):Sp:=λa H b _=>∃A Q S T D G,a=[.ref A]/\hO N H A Q S T D G/\∀M,hO N M A Q S T D (h3 (G+1) D.length)->bK A H M->b (.str (bw (wordAt D G))) M
def MM(r:a7 K "take" "Reading.take" Cc p o0)(a:kH K d)(j:z "len"=O)(s:z "min"=O)(t:cC l m K z B aD 1 d "peek" ["self"] (wY d)):aS l m K z B aD 2 p o0 ["self"] (sZ d):=by
 refine r.go ["self","word"] λL R W X H ab ad al u v x _ sz=> ?_;obtain⟨c,f,k,h,G,N,rfl,i,y⟩:=v;obtain⟨⟨b,e⟩,g,w,A,n⟩:=id i;refine⟨_,ar (bo 1 x (dR (T 0) t u cy)) (ar (dQ (T 0) (cR (H7 S) (by rfl) s (by decide+kernel) (D (hh rW (aG 0) cK) (D (cR en (by rfl) j dD (D (aG 0) aC)) aC))) S) (ar (vf (T 0) (cR vn (by rfl) j dD (aK 1)) vg) (ax (aQ (T 1))))), ?_⟩;refine⟨_,S,c,b,_,S,e,gx (.inl S),c,f,k,h,G,N,S,i, ?_⟩;refine⟨_,S,c,d,b,_,_,S,e,a.cl,a.at_,sX,_,_,S,S,_,S,c,d,b,_,_,S,e,a.cl,a.words,sY,f,_,S,.inl (au.of g),_,_,S,_,S,c,d,b,_,S,e,a.cl,a.at_,(by show 5<1000;decide), ?_⟩;have C:(if((G.map λU=>V.str (bw U)).length:Int)<(N:Int)+1 then((G.map λU=>V.str (bw U)).length:Int)else(N:Int)+1)=((h3 (N+1) G.length:Nat):Int):=by rw [ag];split<;>omega
 have P:f≠c:=cW g e (by intro E;cases E);have am:=wX n N
 refine⟨_,S,c,d,b,_,_,S,M,a.cl,a.taken,S,_,S,_,S,by rw [ia];omega,_,_,S,S,b,_,M,(by show 5<1000;decide),_,S, ?_⟩;refine y _ ⟨⟨b, ?_⟩,by rw [Q P,Q P];exact g,Nat.min_le_right _ _,A,n⟩ λan o F q=>by rw [Q q,Q q];exact F
 rw [M];show Y (HO.ins d b (jV f (if((G.map λU=>V.str (bw U)).length:Int)<(N:Int)+1 then((G.map λU=>V.str (bw U)).length:Int)else(N:Int)+1) ((jo G N:Int)+((bw (wordAt G N)).length:Int)) k h))=_
 rw [C,ia,MK G w];rfl
def wZ(N b:Z):Sp:=λc H d e=>∃A Q S T D M a,c=[.ref A,.str (bw a)]/\hO N H A Q S T D M/\∀G,hO N G A Q S T D (h3 (M+1) D.length)->bK A H G->if wordAt D M=a then d .br G else e (.ref b) O G
variable{L:Z}
def MN(g:a7 K "pass_over" "Reading.pass_over" Cd L o0)(h:cC l m K z B aD 2 d "take" ["self"] (sZ d))(i:z "NoProgram"=Y (.ref p))(j:gS K p f5 "Exception.__new__"=I):aS l m K z B (bA l m) 3 L o0 ["self","word"] (wZ d p):=by
 refine g.eu ["self","word"] λx a G C H M R V b k _ _ _=> ?_;obtain⟨c,w,U,n,P,e,o,rfl,f,Q⟩:=k;obtain⟨⟨q,r⟩,X,ab,ad⟩:=id f;refine⟨_,ax (bH (bQ qg (dR (E:=E0) (T 0) h b cy) (T 1) (bU _)) (ax (jN kd (by decide) j S i b.hd)) bP), ?_⟩;refine⟨_,S,c,q,_,S,r,gx (.inr (.inl S)),c,w,U,n,P,e,S,f,λs t u=>⟨_,S,S,_,S, ?_⟩⟩;have A:=Q s t u
 by_cases D:wordAt P e=o
 .rw [ak D]at A;subst D;exact JO S A
 .rw [N D]at A;refine eb (λ_=>A) λv=> ?_;exfalso;apply v;rw [bT (λy=>D (by injection y with y;exact kG.mp y))];rfl
def jq:ai:=ay " ()0123456789abcdefghijklmnopqrstuvwxyz"
def sig_str:(dO " ()0123456789abcdefghijklmnopqrstuvwxyz")=bw jq:=by decide+kernel
def mT(D:ai):List (Key×V):=D.map λA=>(.inl (A.toNat:Int),.str (bw [A]))
variable{KF:List (Key×V)}
def Ag{D:Key}{v:V}(G:(KF.any λM=>decide (M.1=D))=ao):putK KF D v=KF++[(D,v)]:=by unfold putK;rw [G];rfl
def MO:∀A:Fin 39,((mT (jq.take A.val)).any λD=>decide (D.1=(.inl ((jq.getD A.val 0).toNat:Int))))=ao:=by decide+kernel
def MP:∀A:UInt8,((cS (mT jq) (.inl (A.toNat:Int))).getD (.str (dO "?")))=.str (bw [norm A]):=by
 have:∀D:Fin 256,((cS (mT jq) (.inl (D.val:Int))).getD (.str (dO "?")))=.str (bw [norm (ek D.val)]):=by decide+kernel
 intro A;have G:ek A.toNat=A:=zl
 have:=this ⟨A.toNat,zm A⟩;simp only [G]at this;exact this
def Ce:∀D:ai,FX (dO "") (D.map λA=>bw [A])=bw D
 |[]=>rfl
 |[A]=>rfl
 |A::c::a=>by
  show bw [A]++dO ""++FX (dO "") ((c::a).map λA=>bw [A])=_;rw [Ce (c::a),iL];show(⟨((([A]:ai).map iw).toArray++(([]:ai).map iw).toArray)++((c::a).map iw).toArray⟩:aa)=⟨((A::c::a).map iw).toArray⟩
  simp
def join_nil(A:ai):yN (dO "") (A.map λD=>bw [D])=bw A:=by rw [TL.join_eq];exact Ce A
abbrev Cg:a6:=top 24
def Ci:Sp:=λN H Q _=>∃G,∃D:ai,N=[.ref G]/\H G=Y (.lst (D.map λA=>V.int (A.toNat:Int)))/\D.length<=10000/\∀M,(∀A o,H A=Y o->M A=Y o)->Q (.str (bw (D.map norm))) M
variable{TW:dz}
def MQ(ad:a7 K "signs_of" "signs_of" Cg d o0)(al:z "ord"=O)(ap:z "SIGNS"=Y (.str " ()0123456789abcdefghijklmnopqrstuvwxyz" wP))(as:z "NO_SIGN"=Y (.str "?" TW)):aS l m K z B aD 1 d o0 ["text"] Ci:=by
 refine ad.go ["text","sign_of","sign","byte"] λbd be bi r H bk bl bm bn a0 w C sz=> ?_;obtain⟨n,N,rfl,E,bs,a1⟩:=a0;refine⟨_,ar (bo 1 w vF) (ar (d2 dY S (Am (hn ap)) (bW 2 w) (ax (se C (T 1) (cR zM (by rfl) al (by decide+kernel) (aK 2)) (T 2) S))) (ax (aQ (JI dP (f3 (own:=[("byte",3)]) S w (dy (T 0)) (e3 S) (λr H F L R=>bW 3 w) (λr H F L R=>hC) (λr H F L R=>Jw C (T 1) (T 3) (hn as) ⟨S,S,S,S⟩)))))), ?_⟩;intro e W;refine⟨_,S, ?_⟩;rw [sig_str];refine B5 (x:=bw jq) (λG s p=>∃t,s=[Y (.ref n),Y (.ref e),t,O]/\p e=Y (.dK (mT (jq.take G)))/\∀A o,H A=Y o->p A=Y o) ?_ ?_ ?_
 .refine⟨O,S, ?_, ?_⟩
  .rw [M];rfl
  .intro A o D;rw [Q (by intro a;rw [a,W]at D;cases D)];exact D
 .rintro G c s p a2 ⟨t,rfl,f,g⟩;obtain⟨A,b,rfl⟩:=B7 a2;have X:G<39:=(cM.mp b).1
  have v:jq.take (G+1)=jq.take G++[A]:=by rw [dm,b];rfl
  have h:=MO ⟨G,X⟩;have a3:jq.getD G 0=A:=by rw [GL,b];rfl
  simp only [a3]at h;refine⟨_,S,_,S,_,S,_,S,S,e,_,S,.inl ⟨_,.inl (A.toNat:Int),f,S, ?_,S⟩, ?_⟩
  .unfold mT;rw [ag,dW];omega
  .refine⟨_,S, ?_, ?_⟩
   .rw [M,Ag h,v];unfold mT;rw [aW];rfl
   .intro c o D;rw [Q (by intro a;rw [a,W]at D;cases D)];exact g c o D
 .rintro s p ⟨t,rfl,f,g⟩;rw [B8,dB]at f;refine⟨⟨_,S⟩,_,S,n,S, ?_, ?_⟩
  .exact⟨_,au.of (g n _ E)⟩
  .intro i y;have ab:e≠i:=by intro a;rw [a,y]at f;cases f
   have h:∀A o,H A=Y o->A≠i:=by intro A o D a;rw [a]at D;rw [g i o D]at y;cases y
   refine hD (xs:=N.map λA=>V.int (A.toNat:Int)) (λG U=>U i=Y (.lst ((N.take G).map λA=>V.str (bw [norm A])))/\U e=Y (.dK (mT jq))/\∀A o,H A=Y o->U A=Y o) ?_ ?_ ?_ ?_
   .refine⟨by rw [M];rfl,by rw [Q ab];exact f,λA o D=> ?_⟩;rw [Q (h A o D)];exact g A o D
   .rintro G U X ⟨_,_,j⟩;exact au.of (j n _ E)
   .rintro G bt U k ⟨P,q,j⟩;rw [bh]at k;cases b:N[G]? with
    |none=>rw [b]at k;cases k
    |some A=>
     rw [b]at k;obtain rfl:=a8 k;have v:N.take (G+1)=N.take G++[A]:=by rw [dm,b];rfl
     refine⟨S, ?_⟩;unfold hl;dsimp only [];rw [ak S];refine⟨_,S,e,S,.inl ⟨_,.inl q⟩,_,S,_,.inl ⟨_,.inl (A.toNat:Int),.inl q,S,S⟩,_,P, ?_, ?_, ?_, ?_⟩
     .rw [ag,dW];omega
     .rw [M,MP,v,aW];rfl
     .rw [Q ab];exact q
     .intro c o D;rw [Q (h c o D)];exact j c o D
   .rintro U ⟨P,q,j⟩;rw [ag,dB]at P;have a4:(N.map λA=>V.str (bw [norm A]))=((N.map norm).map λA=>bw [A]).map V.str:=by
     rw [eh,eh];rfl
    rw [a4]at P;refine⟨_,i,_,S,S,.inl (au.of P), ?_, ?_⟩
    .rw [ag,ag,iL,ia];have:∀u:ai,((u.map λA=>bw [A]).map (·.length)).sum=u.length:=by
      intro u;induction u with
      |nil=>rfl
      |cons A bv a5=>rw [aV,aV,fz,a5,ia];simp;omega
     rw [this,ag];simp;omega
    .rw [join_nil];exact a1 U j
def b2(A:Pr):List V:=[.int A.1,.int A.2]
def pk(A:Pr):List Key:=[.inl (A.1:Int),.inl (A.2:Int)]
def lP(G:pk s0=pk KB):s0=KB:=by unfold pk at G;injection G with b a;injection b with b;injection a with a _;injection a with a;exact mm (by omega) (by omega)
def Ext(H D:G):Prop:=∀A o,H A=Y o->D A=Y o
def Ext.refl(H:G):Ext H H:=λ_ _ A=>A
variable{q sK:G}
def Ext.trans{H:G}(N:Ext H q)(Q:Ext q sK):Ext H sK:=λM o S=>Q M o (N M o S)
def Ext.upd{H:G}{o:HO}(N:Ext H q)(S:H d=O):Ext H (upd q d o):=λT u A=>by rw [Q (by intro U;rw [U,S]at A;cases A)];exact N T u A
def Ext.none{H:G}(N:Ext H q)(M:q d=O):H d=O:=by
 cases a:H d with
 |none=>rfl
 |some o=>rw [N d o a]at M;cases M
def Ext.rd{H:G}{o:HO}(N:Ext H q)(A:Rd H d o):Rd q d o:=by
 rcases A with A|⟨u,A⟩
 .exact .inl (N d _ A)
 .exact .inr ⟨u,N d _ A⟩
variable{ul:List V}
def Ext.aP{K:ah}{H:G}(N:Ext H q)(Q:av K H d ul):av K q d ul:=Q.imp N.rd id
def Ext.ee{K:ah}{H:G}(N:Ext H q)(Q:au K H d ul):au K q d ul:=Q.imp N.rd id
variable{pu:bV}
def Ext.keys{K:ah}{H:G}(M:Ext H q)(N:b7 K H pu):b7 K q pu:=λQ S=>M.aP (N Q S)
abbrev fQ(K:ah)(H:G):List Z->List Pr->Prop:=cO λA D=>av K H A (b2 D)
def LstAt(K:ah)(H:G)(D:Z)(M:List Pr):Prop:=∃A,au K H D (A.map V.ref)/\fQ K H A M
def fR(M:az)(N:aw)(K:ah)(H:G)(D:Z)(Q:List Pr):Prop:=∃A,H D=Y (dX M N D A)/\b7 K H A/\A.map (·.1)=Q.map pk
variable{wf:List Z}
def fQ.ext{K:ah}{H:G}(N:Ext H q)(Q:fQ K H wf re):fQ K q wf re:=Paired.cb Q λ_ _ S=>N.aP S
def LstAt.ext{K:ah}{H:G}(N:Ext H q)(Q:LstAt K H d re):LstAt K q d re:=by obtain⟨S,T,U⟩:=Q;exact⟨S,N.ee T,fQ.ext N U⟩
def fR.ext{K:ah}{H:G}(S:Ext H q)(T:fR l m K H d re):fR l m K q d re:=by obtain⟨U,a,b,c⟩:=T;exact⟨U,S d _ a,S.keys b,c⟩
def kJ(S:pu.map (·.1)=re.map pk)(M:Pr):(cg pu (pk M)).isSome=decide (M∈re):=by
 unfold cg;rw [kT];rw [iR,List.find?_isSome,nR];constructor
 .rintro⟨N,Q,A⟩;have A:=eQ A
  have:N.1∈re.map pk:=by rw [<-S];exact d8 Q
  obtain⟨b,U,T⟩:=bE.mp this;rw [A]at T;rw [<-lP T];exact U
 .intro a;have:pk M∈pu.map (·.1):=by rw [S];exact d8 a
  obtain⟨N,Q,A⟩:=bE.mp this;exact⟨N,Q,ck A⟩
def ez{G:s2->Do->Prop}:∀{N:List s2} {Q:List Do} {S:s2},cO G N Q->N[r]?=Y S->∃T,Q[r]?=Y T/\G S T:=λU a=>Aq U a
abbrev Cj:a6:=top 71
def w0(P:az)(w:aw)(K:ah):Sp:=λN H Q _=>∃M A,N=[.ref M]/\LstAt K H M A/\A.Nodup/\A.length<=10000/\∀D G,Ext H G->H D=O->fR P w K G D A->Q (.ref D) G
def MR(L:a7 K "as_keys" "as_keys" Cj d o0):aS l m K z B aD 1 d o0 ["sorts"] (w0 l m K):=by
 refine L.go ["sorts","keys","sort"] λan ap as a0 H a1 a2 a3 a4 n s R sz=> ?_;obtain⟨t,b,rfl,⟨u,x,y⟩,U,a5,W⟩:=n;refine⟨_,ar (bo 1 s kz) (ar (d2 dY S (dy (T 0)) (bW 2 s) (ax (i9 R (T 1) (T 2) hy S))) (ax (aQ (T 1)))), ?_⟩;intro f j;refine⟨_,S,t,S,⟨_,(Ext.upd (Ext.refl H) j).ee x⟩, ?_⟩;refine fC (xs:=u.map V.ref) (λG k N=>∃q A,k=[Y (.ref t),Y (.ref f),q]/\N f=Y (dX l m f A)/\b7 K N A/\A.map (·.1)=(b.take G).map pk/\Ext H N) ?_ ?_ ?_ ?_
 .exact⟨O,[],S,M,λD r=>absurd r ej,S,Ext.upd (Ext.refl H) j⟩
 .rintro G k N _ ⟨q,A,rfl,g,h,a,w⟩;exact w.ee x
 .rintro G bd k N i ⟨q,A,rfl,g,h,a,w⟩;rw [bh]at i;cases p:u[G]? with
  |none=>rw [p]at i;cases i
  |some P=>
   rw [p]at i;obtain rfl:=a8 i;obtain⟨D,r,X⟩:=ez y p;have be:A.length<=b.length:=by have:=bN cN a;rw [ag,ag,dW]at this;omega
   have C:b.take (G+1)=b.take G++[D]:=by rw [dm,r];rfl
   have ab:cg A (pk D)=O:=by
    have:=kJ a D;have ad:D∉b.take G:=by
     have E:=(cM.mp r)
     obtain⟨E,e⟩:=E;rw [<-zo (G+1) b,C]at U;have:=(gU.mp (gU.mp U).1).2.2
     intro al;exact this D al D (bf.mpr S) S
    rw [bT ad]at this;cases e:cg A (pk D)with
    |none=>rfl
    |some v=>rw [e]at this;cases this
   have F:av K N P ((pk D).map kV):=w.aP X;refine⟨_,S,_,S,f,A,pk D,P,S,g,h,S,F,by omega,_,_,S,M, ?_, ?_, ?_⟩
   .exact(lz h _ F).same λc bi n=>bC (.inl (by rw [g];exact trivial)) n
   .rw [iF _ _ ab,aW,a,C,aW];rfl
   .intro c o e;rw [Q (by intro am;rw [am,j]at e;cases e)];exact w c o e
 .rintro k N ⟨q,A,rfl,g,h,a,w⟩;rw [ag,bL y,dB]at a;exact⟨_,S,W f N w j ⟨A,g,h,a⟩⟩
def fv(M:az)(N:aw)(K:ah)(H:G):bV->List (Pr×List Pr)->Prop:=cO λA y=>A.1=pk y.1/\∃D,A.2.2=.ref D/\fR M N K H D y.2
def TabAt(M:az)(N:aw)(K:ah)(H:G)(D:Z)(Q:List (Pr×List Pr)):Prop:=∃A,H D=Y (dX M N D A)/\b7 K H A/\fv M N K H A Q/\(A.map (·.2.2)).Nodup/\(V.ref D)∉A.map (·.2.2)
variable{Vb:List (Pr×List Pr)}
def TabAt.ext{K:ah}{H:G}(D:Ext H q)(T:TabAt l m K H d Vb):TabAt l m K q d Vb:=by obtain⟨U,a,b,c,A⟩:=T;refine⟨U,D d _ a,D.keys b,Paired.cb c λj y e=> ?_,A⟩;obtain⟨f,g,h,i⟩:=e;exact⟨f,g,h,i.ext D⟩
def f9{K:ah}{H:G}:∀{M:bV} {N:List (Pr×List Pr)},fv l m K H M N->ba N s0=Y re->∃A,cg M (pk s0)=Y (.ref A)/\fR l m K H A re
 |_,_,.nil,a=>by cases a
 |x::M,y::N,.cons d e,a=>by
  obtain⟨b,A,f,g⟩:=d;unfold ba at a;rw [gi]at a;by_cases c:y.1=s0
  .rw [ck c]at a;obtain rfl:=a8 a;refine⟨A, ?_,g⟩;unfold cg;rw [gi,ck (by rw [b,c])];show Y x.2.2=_
   rw [f]
  .rw [bT c]at a;obtain⟨h,i,j⟩:=f9 e a;refine⟨h, ?_,j⟩;unfold cg;rw [gi,bT (by rw [b];exactλk=>c (lP k))];exact i
def ic(D:Z)(H:G)(M:Z)(N:aa)(v:V):Prop:=∃Q A,H M=Y (.ins D Q A)/\A.lookup N=Y v
def ic.ext{H:G}{v:V}(Q:Ext H q)(S:ic p H d op v):ic p q d op v:=by obtain⟨T,U,a,b⟩:=S;exact⟨T,U,Q d _ a,b⟩
def fS{G:s2->Do->Prop}:∀{M:List s2} {N:List Do} {Q:s2} {S:Do},cO G M N->G Q S->cO G (M++[Q]) (N++[S])
 |_,_,_,_,.nil,a=>.cons a .nil
 |_,_,_,_,.cons b c,a=>.cons b (fS c a)
def Ck(Q:az)(S:aw)(K:ah)(H:G)(D:Z)(y:V)(o:Option V):Prop:=∃A M N,H D=Y (dX Q S D A)/\b7 K H A/\y=.ref N/\av K H N (M.map kV)/\o=cg A M
def MS(M:az)(N:aw)(K:ah)(Q S:TE):TE:=λA H T=>Q A H λU a=>S A a λy D=>∃G v,U=.ref G/\Ck M N K D G y (Y v)/\T v D
def MT(M:az)(N:aw)(K:ah)(Q S:TE):TE:=λA H T=>Q A H λy U=>S A U λa D=>∃G o,a=.ref G/\Ck M N K D G y o/\T (.bl o.isSome) D
variable{h:Cx}{P o:aZ}{sc xz:TE}{pv:b3}
def o5(A:az)(D:aw)(K:ah)(G:h.A.units+1<cG)(M:PE h o sc)(N:PE h P xz)(Q:ot P)(T:h.prog=A:=by rfl)(hw:h.w=D:=by rfl)(U:h.K=K:=by rfl):PE h (.Subscript o P pv) (MS A D K sc xz):=by subst T hw U;exact fk G M N Q
def Cm(A:az)(D:aw)(K:ah)(G:h.A.units+1<cG)(M:PE h P xz)(N:PE h o sc)(Q:h.prog=A:=by rfl)(hw:h.w=D:=by rfl)(T:h.K=K:=by rfl):PC h .In P o (MT A D K xz sc):=by subst Q hw T;exact vN G M N
def w1(K:ah)(A:PE h P sc)(D:j7 P op h.env (iW P h.env)=iW P h.env)(G:h.K=K:=by rfl):PE h (.Attribute P op pv) (ve K sc op):=by subst G;exact fX A D
def o6(K:ah)(A:h.K=K:=by rfl):qj h (z3 K):=by subst A;exact kv
abbrev Cn:a6:=top 72
def s6(P:az)(w:aw)(K:ah)(c:Z):Sp:=λd H e _=>∃M N Q S G T a b,d=[.ref M,.ref N,.ref Q]/\ic c H M "sorts" (.ref S)/\LstAt K H S G/\G.length<=10000/\TabAt P w K H N T/\av K H Q (b2 a)/\ba T a=Y b/\
 ∀A D,Ext H D->H A=O->LstAt K D A (G.filter λf=>decide (f∈b))->(∃g,D A=Y (.lst g))->e (.ref A) D
def MU(F:a7 K "sorts_at" "sorts_at" Cn p o0)(h:fi K d)(L:dE K d "sorts"):aS l m K z B aD 1 p o0 ["program","table","place"] (s6 l m K d):=by
 refine F.go ["program","table","place","sort"] λca cd ce k H ch ci cl cn R r s sz=> ?_;obtain⟨t,W,u,X,P,co,ab,i,rfl,⟨ad,al,am,an⟩,⟨v,x,y⟩,cr,ap,as,a0,a1⟩:=R;refine⟨_,ax (aQ (f3 (own:=[("sort",3)]) S r (dy (aG 0)) (e3 S) (λk H d h U=>bW 3 r) (λk H d h U=>kx (i5 (Cm l m K s (T 3) (o5 l m K s (T 1) (T 2) (λ_ _=>S))) S)) (λk H d h U=>T 3))), ?_⟩;refine⟨_,S,t,d,ad,al,_,S,am,h,L,an,X,S,⟨_,x⟩,λQ w=> ?_⟩;refine hD (xs:=v.map V.ref) (λA a=>(∃G,a Q=Y (.lst (G.map V.ref))/\fQ K a G ((P.take A).filter λe=>decide (e∈i))/\G.length<=A)/\Ext H a) ?_ ?_ ?_ ?_
 .exact⟨⟨[],M,.nil,aX _⟩,Ext.upd (Ext.refl H) w⟩
 .rintro A a a2 ⟨_,D⟩;exact D.ee x
 .rintro A e a f ⟨⟨G,b,g,q⟩,D⟩;rw [bh]at f;cases n:v[A]? with
  |none=>rw [n]at f;cases f
  |some c=>
   rw [n]at f;obtain rfl:=a8 f;obtain⟨j,C,E⟩:=ez y n;have a2:A<P.length:=(cM.mp C).1
   have a3:P.take (A+1)=P.take A++[j]:=by rw [dm,C];rfl
   obtain⟨a4,a5,bd,be,_⟩:=ap.ext D;obtain⟨bi,bk,bl,bm,bn,bs⟩:=f9 be a0;refine⟨S,_,S,_,S,_,S,W,_,S,⟨a4,pk ab,u,a5,bd,S,D.aP as,bk.symm⟩,bi,_,S,⟨bl,pk j,c,bm,bn,S,D.aP E,S⟩, ?_⟩;rw [kJ bs];have bt:(P.take (A+1)).filter (λe=>decide (e∈i))=(P.take A).filter (λe=>decide (e∈i))++(if decide (j∈i)=I then [j]else []):=by rw [a3,nM];congr 1;rw [il,uK]
   rw [bt];refine⟨_,S,eb (λo=> ?_) (λo=> ?_)⟩
   .rw [ak o];refine⟨_,S,_,b,by rw [ag];omega,⟨G++[c], ?_, ?_,by rw [bB];exact p6 q 1⟩, ?_⟩
    .rw [M,aW];rfl
    .refine fS (Paired.cb g λu t bv=> ?_) ?_
     .exact bC (.inl (by rw [b];exact trivial)) bv
     .exact bC (.inl (by rw [b];exact trivial)) (D.aP E)
    .exact Ext.upd D w
   .rw [N o,bZ];exact⟨⟨G,b,g,GN q⟩,D⟩
 .rintro a ⟨⟨G,b,g,q⟩,D⟩;rw [ag,bL y,dB]at g;exact a1 Q a D w ⟨G,au.of b,g⟩ ⟨_,b⟩
variable{Hp:TT}
def qV{c:Z}{o:aL}{aU:bV}{u:G->Prop}(D:Nat->G->Prop)(z:D 0 (upd q d (.lst [])))(B:∀A H,A<=aU.length->D A H->H c=Y (.bO o (dX l m c aU)))(C:∀A b H,aU[A]?=Y b->D A H->Fa (.ref b.2.1) (wipe s4 wr) H λM i=>wipe M wr=wipe s4 wr/\Hp M i λj U=>if j=I then sc M U λy e=>∃N,e d=Y (.lst N)/\N.length<aR/\D (A+1) (upd e d (.lst (N++[y])))else D (A+1) U) (E:∀H,D aU.length H->u H):∃k:Nat->Nat->G->Prop,(∃Q,k 0 Q (upd q d (.lst [])))/\∀A Q H,k A Q H->((lB l m c o aU).stop A H/\u H)\/((lB l m c o aU).go A H/\∃a:G->Prop,(∀T,a T->∃v,v<Q/\k (A+1) v T)/\∀f T,(lB l m c o aU).hg A H f T->Fa f (wipe s4 wr) T λM i=>wipe M wr=wipe s4 wr/\Hp M i λj U=>if j=I then sc M U λy e=>∃N,e d=Y (.lst N)/\N.length<aR/\a (upd e d (.lst (N++[y])))else a U):=by
 refine⟨λA Q H=>Q=aU.length-A/\A<=aU.length/\D A H,⟨aU.length,by simp,cP _,z⟩, ?_⟩;rintro A Q H ⟨rfl,F,b⟩;have w:=B A H F b
 by_cases x:A<aU.length
 .refine .inr ⟨⟨w,x⟩,D (A+1),λT n=>⟨aU.length-(A+1),by omega,S,x,n⟩,λf T y=> ?_⟩;obtain⟨p,n,K,rfl⟩:=y;subst p;exact C A n _ K b
 .have p:A=aU.length:=by omega
  subst p;exact .inl ⟨⟨w,aX _⟩,E H b⟩
abbrev Co:a6:=top 51
def w2(P:az)(w:aw)(K:ah):Sp:=λT H a _=>∃M N Q S A,T=[.ref M,.int (Q:Nat),.int (S:Nat)]/\TabAt P w K H M N/\ba N (0,Q)=Y A/\A.length<=10000/\
 ∀D G,Ext H G->H D=O->G D=Y (.lst ((d4 S A).map λb=>V.int (b:Nat)))->a (.ref D) G
def MV(be:a7 K "labels_at" "labels_at" Co d o0)(bk:z "NODE_PLACE"=Y (.int 0 wP)):aS l m K z B aD 1 d o0 ["table","label","kind"] (w2 l m K):=by
 refine be.go ["table","label","kind","sort"] λcs ct c0 E H c1 c2 c3 c4 w an bl sz=> ?_;obtain⟨F,c5,ap,k,r,rfl,bm,bn,c6,bs⟩:=w;refine⟨_,ax (mC (aQ (f3 (own:=[("sort",3)]) S an (lC (fk bl (T 0) (b6 (D (b8 bk) (aK 1))) (λ_ _=>S))) (e3 S) (λE H as a0 a1=>bW 3 an) (λE H as a0 a1=>kx (bQ cU (cc (o6 K) (T 3) cK (λ_ _=>S)) (T 2) (bU _))) (λE H as a0 a1=>cc (o6 K) (T 3) cK (λ_ _=>S))))), ?_⟩;obtain⟨a2,L,bt,bv,c7,ca⟩:=bm;obtain⟨c,R,h,W,cd,a3⟩:=f9 bv bn;refine⟨c,_,W,trivial,λX=> ?_⟩;have ce:F≠c:=by
  intro b;apply ca;have:∃e∈a2,e.2.2=.ref c:=by unfold cg at R;obtain⟨e,U,a⟩:=cm.mp R;exact⟨e,fL U,a⟩
  obtain⟨e,U,a⟩:=this;rw [b,<-a];exact d8 U
 refine⟨_,S,_,S,(by show 2<=aR;decide),λal u=> ?_⟩;have x:al≠c:=by intro b;rw [b,M]at u;cases u
 have a4:H al=O:=by rw [Q x]at u;exact u
 have ch:F≠al:=by intro b;rw [b,a4]at L;cases L
 let ci:G:=upd (upd H c (.bO X (dX l m c h))) al (.tup [.int 0,.int (ap:Nat)]);have a5:∀A f,av K H A f->av K ci A f:=λA f w=>bC (.inr u) (bC (.inl (by rw [W];exact trivial)) w)
 refine⟨F,_,S,⟨a2,pk (0,ap),al, ?_,bt.same a5,S,av.of M,R.symm⟩,c,X,h,S, ?_,λs n=> ?_⟩
 .rw [Q ch,Q ce];exact L
 .rw [Q x.symm,M];rfl
 have y:c≠s:=by intro b;rw [<-b,Q x.symm,M]at n;cases n
 have ab:H s=O:=by
  have q:s≠al:=by intro b;rw [b,M]at n;cases n
  rw [Q q,Q (eO y)]at n;exact n
 have cl:h.length=r.length:=by have:=bN cN a3;rwa [ag,ag]at this
 refine qV (aU:=h) (λg i=>i s=Y (.lst ((d4 k (r.take g)).map λe=>V.int (e:Nat)))/\i c=Y (.bO X (dX l m c h))/\(∀A f,av K H A f->av K i A f)/\∀A o,A≠c->H A=Y o->i A=Y o) ?_ ?_ ?_ ?_
 .refine⟨M,by rw [Q y,Q x.symm,M],λA f w=>bC (.inr n) (a5 A f w),λA o j a=> ?_⟩;have q:A≠s:=by intro b;rw [b,ab]at a;cases a
  have cn:A≠al:=by intro b;rw [b,a4]at a;cases a
  rw [Q q,Q cn,Q j];exact a
 .rintro g i _ ⟨_,w,_⟩;exact w
 .rintro g e i U ⟨t,am,P,C⟩;have v:(h.map (·.1))[g]?=Y e.1:=by rw [bh,U];rfl
  rw [a3,bh]at v;cases ad:r[g]? with
  |none=>rw [ad]at v;cases v
  |some p=>
   rw [ad]at v;have co:pk p=e.1:=a8 v
   have bd:av K i e.2.1 (b2 p):=by have:=P _ _ (cd e (cH U));rw [<-co]at this;exact this
   have cr:d4 k (r.take (g+1))=d4 k (r.take g)++(if p.1=k then [p.2]else []):=by
    rw [dm,ad];unfold d4;rw [uL];congr 1;show Sl _ [p]=_
    rw [kQ,zj];split<;>rename_i w<;>split at w<;>simp_all
   have c8:h.length<=aR:=by omega
   have c9:g<h.length:=(cM.mp U).1;refine⟨S,_,S,_,_,_,_,S,S,bd,S,_,S,S,_,S, ?_⟩;rw [cr];refine eb (λa=> ?_) (λa=> ?_)
   .have q:p.1=k:=by
     have:=eQ a;injection this with this;omega
    rw [ak q];refine⟨_,S,_,_,_,_,S,S,bd,S,_,t, ?_, ?_, ?_, ?_, ?_⟩
    .rw [ag];have:(d4 k (r.take g)).length<=g:=cq (iZ _ _) (by rw [dW];omega)
     omega
    .rw [M,aW];rfl
    .rw [Q y];exact am
    .exactλA f w=>bC (.inl (by rw [t];exact trivial)) (P A f w)
    .intro A o j a;rw [Q (by intro b;rw [b,ab]at a;cases a)];exact C A o j a
   .have q:¬p.1=k:=λb=>a (ck (by rw [b]));rw [N q,bZ];exact⟨t,am,P,C⟩
 .rintro i ⟨t,am,P,C⟩;rw [cl,dB]at t;refine⟨am,bs s _ ?_ ab ?_⟩
  .intro A o a;by_cases j:A=c
   .rw [j,M,<-W,<-j];exact a
   .rw [Q j];exact C A o j a
  .rw [Q (eO y)];exact t
def cD:Fm->aa
 |.num=>"a number"|.used=>"a name"|.given=>"in"|.call=>"a call"
 |.fn=>"fun"|.letE=>"let"|.ifz=>"if"|.pair=>"pair"|.fst=>"fst"|.snd=>"snd"|.new=>"new"|.get=>"get"|.set=>"set"|.add=>"add"
def Cp:∀A D:Fm,cD A=cD D->A=D:=by intro A D;cases A<;>cases D<;>first|exactλ_=>rfl|exactλG=>absurd G (by decide+kernel)
def qW(A D:Fm):decide (V.str (cD A)=V.str (cD D))=decide (A=D):=by rw [hc];exact⟨λG=>Cp A D (by injection G),λG=>by rw [G]⟩
def mU:Option Nat->V
 |none=>.br
 |some n=>.int (n:Nat)
structure kK(A:Z)(H:G)(a:Z)(i:Info):Prop where
 aJ:ic A H a "form" (.str (cD i.aJ))
 word:ic A H a "word" (.str (bw i.word))
 parent:ic A H a "parent" (mU i.parent)
 parts:∃lp,ic A H a "parts" (.ref lp)/\H lp=Y (.lst (i.parts.map λx=>V.int (x:Nat)))
variable{Os:Info}
def kK.ext{H:G}(A:Ext H q)(D:kK d H p Os):kK d q p Os:=by obtain⟨T,U,a⟩:=D.parts;exact⟨D.aJ.ext A,D.word.ext A,D.parent.ext A,T,U.ext A,A _ _ a⟩
structure lQ(K:ah)(A S:Z)(H:G)(p:Z)(D:Pg):Prop where
 nodes:∃M N,ic A H p "nodes" (.ref M)/\H M=Y (.lst (N.map V.ref))/\cO (kK S H) N D.nodes
 binders:∃lb,ic A H p "binders" (.ref lb)/\H lb=Y (.dK (D.binders.map λx=>(.inl (x.1:Int),.int (x.2:Nat))))
 sorts:∃Q,ic A H p "sorts" (.ref Q)/\LstAt K H Q D.sorts
 places:∃lp,ic A H p "places" (.ref lp)/\LstAt K H lp D.places
def lQ.ext{K:ah}{H:G}{T:Pg}(A:Ext H q)(D:lQ K d p H L T):lQ K d p q L T:=by obtain⟨U,a,b,c,M⟩:=D.nodes;obtain⟨e,f,g⟩:=D.binders;obtain⟨h,i,j⟩:=D.sorts;obtain⟨k,l,m⟩:=D.places;exact⟨⟨U,a,b.ext A,A _ _ c,Paired.cb M λ_ _ n=>n.ext A⟩,⟨e,f.ext A,A _ _ g⟩,⟨h,i.ext A,j.ext A⟩,⟨k,l.ext A,m.ext A⟩⟩
structure qX(K:ah)(A D:Z):Prop where
 c:fi K A
 cn:fi K D
 nodes:dE K A "nodes"
 binders:dE K A "binders"
 sorts:dE K A "sorts"
 places:dE K A "places"
 aJ:dE K D "form"
 word:dE K D "word"
 parent:dE K D "parent"
 parts:dE K D "parts"
def da(K:ah)(H:G)(N:Z)(A:Wy):Prop:=∃D M,av K H N [.ref D,.ref M]/\av K H D (b2 A.1)/\av K H M (b2 A.2)
def da.ext{K:ah}{H:G}{N:Wy}(A:Ext H q)(Q:da K H d N):da K q d N:=by obtain⟨S,T,U,a,b⟩:=Q;exact⟨S,T,A.aP U,A.aP a,A.aP b⟩
def jr(K:ah)(H:G)(D:Z)(M:List Wy):Prop:=∃A,H D=Y (.lst (A.map V.ref))/\cO (da K H) A M
def Ext.new{H:G}{o:HO}(M:Ext H q)(N:q d=O):Ext H (L2.upd q d o):=M.upd (M.none N)
def Ext.one{H:G}{o:HO}(D:H d=O):Ext H (L2.upd H d o):=(Ext.refl H).new D
structure Gs(U:aa->Option J):Prop where
 node:∃A,U "NODE_PLACE"=Y (.int 0 A)
 name:∃A,U "NAME_PLACE"=Y (.int 1 A)
 first:∃A,U "FIRST_PLACE"=Y (.int 2 A)
 second:∃A,U "SECOND_PLACE"=Y (.int 3 A)
 inside:∃A,U "INSIDE_PLACE"=Y (.int 4 A)
 used:∃A,U "USED_NAME"=Y (.str "a name" A)
 call:∃A,U "CALL"=Y (.str "a call" A)
def lR{G:Do->s2->Prop}:∀{M:List Do} {N:List s2} {i:Nat} {Q:s2},cO G M N->N[i]?=Y Q->∃T,M[i]?=Y T/\G T Q
 |_,_,_,_,.nil,a=>by cases a
 |_,_,0,_,.cons b _,a=>by cases a;exact⟨_,S,b⟩
 |_,_,i+1,_,.cons _ c,a=>lR (i:=i) c a
def cE:2<=aR:=by decide
def eM:1<=aR:=by decide
def MW(G:Pg)(M:Nat):cS (G.binders.map λA=>((.inl (A.1:Int):Key),V.int (A.2:Nat))) (.inl (M:Int))=(lJ G M).map λQ=>V.int (Q:Nat):=by
 unfold cS lJ;induction G.binders with
 |nil=>rfl
 |cons A b a=>
  rw [aV,gi,gi];by_cases D:A.1=M
  .rw [ck (by rw [D]),ck D];rfl
  .rw [bT (by intro N;injection N with N;exact D (by omega)),bT D];exact a
abbrev Cq:a6:=top 48
def Cr(K:ah)(S T:Z):Sp:=λa H b _=>∃Q D G A,a=[.ref Q,.int (G:Nat)]/\lQ K S T H Q D/\D.nodes[G]?=Y A/\A.parts.length=arity A.aJ/\(A.aJ=.used->(lJ D G).isSome=I)/\
 ∀M N,Ext H N->H M=O->jr K N M (eU D G A.aJ A.parts)->b (.ref M) N
def MX(dx:a7 K "standing_ways" "standing_ways" Cq L o0)(a:qX K p d)(a0:Gs z):aS l m K z B aD 1 L o0 ["program","label"] (Cr K p d):=by
 obtain⟨g3,c5⟩:=a0.node;obtain⟨hd,c6⟩:=a0.name;obtain⟨he,dK⟩:=a0.first;obtain⟨hf,dL⟩:=a0.second;obtain⟨hi,dT⟩:=a0.inside;obtain⟨hm,dX⟩:=a0.used;refine dx.go ["program","label","node","here","parts","part"] λhz h0 h1 cl H h2 id ii im U cd d0 sz=> ?_;obtain⟨cn,co,r,G,rfl,c7,d1,u,em,j⟩:=U;refine⟨_,ar (bo 2 cd (cc di (aG 0) (T 1) (λ_ _=>S))) (ar (bo 3 cd (b6 (D (b8 c5) (aK 1)))) (ar (r8 (i:=4) (own:=[("part",5)]) S cd S rfl (r9 S rfl rfl rfl) (dy (aG 2)) (e3 S) (λcl H p a c8=>bW 5 cd) (λcl H p a c8=>hC) (λcl H p a c8=>b6 (D (b8 c5) (aK 5)))) (ar (bH (bQ cU (aG 2) (el (v:=.str (cD .used)) S dX ⟨_,S⟩) (bU _)) (ax (aQ (dg (D (b6 (D (b6 (D (b8 c6) (D (Ai d0 (aG 0) (T 1) (λ_ _=>S)) aC))) (aK 3))) aC)))) bP) (ar (bH (bQ cU (aG 2) dP (bU _)) (ax (aQ (dg (D (b6 (D (cc di (T 4) cK (λ_ _=>S)) (D (b6 (D (b8 c6) (aK 1))) aC))) (D (b6 (D (cc di (T 4) cK (λ_ _=>S)) (aK 3))) aC))))) bP) (ar (bH (bQ cU (aG 2) dP (bU _)) (ax (aQ (dg (D (b6 (D (cc di (T 4) cK (λ_ _=>S)) (aK 3))) (D (b6 (D (cc di (T 4) cK (λ_ _=>S)) (aK 3))) aC))))) bP) (ar (bH (bQ cU (aG 2) dP (bU _)) (ax (aQ (dg (D (b6 (D (cc di (T 4) cK (λ_ _=>S)) (D (b6 (D (b8 dK) (aK 1))) aC))) (D (b6 (D (cc di (T 4) cK (λ_ _=>S)) (D (b6 (D (b8 dL) (aK 1))) aC))) aC))))) bP) (ar (bH (bQ cU (aG 2) dP (bU _)) (ax (aQ (dg (D (b6 (D (cc di (T 4) cK (λ_ _=>S)) (D (b6 (D (b8 dT) (aK 1))) aC))) aC)))) bP) (ar (bH (bQ cU (aG 2) dP (bU _)) (ax (aQ (dg (D (b6 (D (cc di (T 4) cK (λ_ _=>S)) (aK 3))) aC)))) bP) (ax (aQ (dg aC))))))))))), ?_⟩;obtain⟨eq,io,⟨es,ev,ex,fa⟩,fd,fl⟩:=c7.nodes;obtain⟨al,fm,c9⟩:=lR fl d1;obtain⟨fn,⟨fr,fs,fT,f0⟩,db⟩:=c9.parts;refine⟨_,S,cn,p,es,ev,_,S,ex,a.c,a.nodes,fa,_,S,eq,_,_,_,S,S,au.of fd,e2 (by rw [bh,fm];rfl), ?_⟩;refine⟨_,S,cE,λs f1=> ?_⟩;have ce:Ext H (upd H s (.tup [.int 0,.int (r:Nat)])):=Ext.one f1
 refine⟨_,S,al,d,fr,fs,_,S,ce _ _ fT,a.cn,a.parts,f0,fn,S,⟨_,au.of (ce _ _ db)⟩,λt cr=> ?_⟩;have f2:H t=O:=ce.none cr
 refine hD (xs:=G.parts.map λx=>V.int (x:Nat)) (λR W=>(∃y,W t=Y (.lst (y.map V.ref))/\fQ K W y ((G.parts.take R).map λx=>(0,x))/\y.length<=R)/\Ext H W/\av K W s (b2 (0,r))) ?_ ?_ ?_ ?_
 .exact⟨⟨[],M,.nil,aX _⟩,ce.new cr,(Ext.one cr).aP (av.of M)⟩
 .rintro R W _ ⟨_,b,_⟩;exact au.of (b _ _ db)
 .rintro R x W bs ⟨⟨y,N,n,dd⟩,b,am⟩;rw [bh]at bs;cases ch:G.parts[R]? with
  |none=>rw [ch]at bs;cases bs
  |some c=>
   rw [ch]at bs;obtain rfl:=a8 bs;have is:R<G.parts.length:=(cM.mp ch).1
   have it:G.parts.length<=3:=by rw [u];cases G.aJ<;>decide
   have f4:(G.parts.take (R+1)).map (λx=>((0,x):Pr))=(G.parts.take R).map (λx=>(0,x))++[(0,c)]:=by rw [dm,ch,aW];rfl
   refine⟨S, ?_⟩;unfold hl;dsimp only [];rw [ak S];refine⟨_,S,cE,λcs bt=> ?_⟩;have dl:t≠cs:=by intro bv;rw [<-bv,N]at bt;cases bt
   have ct:cX (upd W cs (.tup [.int 0,.int (c:Nat)]) t):=by rw [Q dl,N];exact trivial
   refine⟨_,by rw [Q dl];exact N,by rw [ag];omega,⟨y++[cs], ?_, ?_,by rw [bB];exact p6 dd 1⟩,(b.new bt).upd f2,bC (.inl ct) (bC (.inr bt) am)⟩
   .rw [M,aW];rfl
   .rw [f4];exact fS (Paired.cb n λa1 cn bv=>bC (.inl ct) (bC (.inr bt) bv)) (bC (.inl ct) (av.of M))
 .rintro W ⟨⟨y,N,n,dd⟩,b,am⟩;rw [ag,dB]at n;obtain⟨a2,a3,a4,a5⟩:=(c9.ext b).aJ;have bd:∀an:Fm,¬decide (V.str (cD G.aJ)=V.str (cD an))=I->¬G.aJ=an:=λan c4 bv=>c4 (by rw [bv];exact ck S)
  have be:∀an:Fm,decide (V.str (cD G.aJ)=V.str (cD an))=I->G.aJ=an:=λan c4=>by rw [qW]at c4;exact eQ c4
  refine⟨_,S,al,d,a2,a3,_,S,a4,a.cn,a.aJ,a5,S,_,S,eb (λc4=> ?_) (λc4=> ?_)⟩
  .have c4:=be .used c4;obtain⟨f8,⟨ga,ge,gl,go⟩,gt⟩:=(c7.ext b).binders;obtain⟨a1,dp⟩:=rh.mp (em c4);refine⟨_,S,cn,p,ga,ge,_,S,gl,a.c,a.binders,go,_,S,f8,.int (a1:Nat),S, ?_,cE,λE ap=> ?_⟩
   .have:=iC.k (k:=.inl (r:Int)) gt;rw [MW,dp]at this;exact this
   refine⟨_,S,cE,λe h=>⟨eM,λc3 A=> ?_⟩⟩;have as:=Ext.one (o:=.tup [.int 1,.int (a1:Nat)]) ap
   have f:=as.new (o:=.tup [.ref E,.ref s]) h;have g:=f.new (o:=.lst [.ref e]) A
   have c0:eU co r G.aJ G.parts=[((1,a1),(0,r))]:=by
    rw [c4];show(match lJ co r with|some a1=>[((1,a1),(0,r))]|none=>[])=_
    rw [dp]
   rw [c0]at j;exact j c3 _ (b.trans g) ((b.trans f).none A) ⟨[e],M,.cons ⟨E,s,(Ext.one A).aP (av.of M),((Ext.one h).new A).aP (av.of M),g.aP am⟩ .nil⟩
  have ix:∀x:Nat,G.parts.length=x->G.parts.length=x:=λ_ U=>U;refine⟨_,S,al,d,a2,a3,_,S,a4,a.cn,a.aJ,a5,S,_,S,eb (λbi=> ?_) (λbi=> ?_)⟩
  .have bi:=be .letE bi;obtain⟨c,P,w⟩:∃c P,G.parts=[c,P]:=by
    rw [bi]at u
    match U:G.parts,u with
    |[c,P],_=>exact⟨c,P,S⟩
   rw [bi,w]at j;rw [w]at n
   match y,n,N with
   |[ad,X],.cons F (.cons ca .nil),N=>
    refine⟨_,S,t,_,_,_,S,S,au.of N,S,_,S,cE,λE ap=>⟨cE,λe h=> ?_⟩⟩;have as:=Ext.one (o:=.tup [.int 1,.int (r:Nat)]) ap
    have f:=as.new (o:=.tup [.ref ad,.ref E]) h;refine⟨_,S,t,_,_,_,S,S,au.of (f _ _ N),S,_,S,cE,λab C=>⟨cE,λc3 A=> ?_⟩⟩;have g:=f.new (o:=.tup [.ref X,.ref s]) C
    have q:=g.new (o:=.lst [.ref e,.ref ab]) A;exact j c3 _ (b.trans q) ((b.trans g).none A) ⟨[e,ab],M,.cons ⟨ad,E,((Ext.one C).new A).aP (av.of M),q.aP F,(((Ext.one h).new C).new A).aP (av.of M)⟩ (.cons ⟨X,s,(Ext.one A).aP (av.of M),q.aP ca,q.aP am⟩ .nil)⟩
  refine⟨_,S,al,d,a2,a3,_,S,a4,a.cn,a.aJ,a5,S,_,S,eb (λbk=> ?_) (λbk=> ?_)⟩
  .have bk:=be .ifz bk;obtain⟨c,P,ci,w⟩:∃c P ci,G.parts=[c,P,ci]:=by
    rw [bk]at u
    match U:G.parts,u with
    |[c,P,ci],_=>exact⟨c,P,ci,S⟩
   rw [bk,w]at j;rw [w]at n
   match y,n,N with
   |[g1,ad,X],.cons g2 (.cons F (.cons ca .nil)),N=>
    refine⟨_,S,t,_,_,_,S,S,au.of N,S,_,S,cE,λe h=> ?_⟩;have f:=Ext.one (o:=.tup [.ref ad,.ref s]) h
    refine⟨_,S,t,_,_,_,S,S,au.of (f _ _ N),S,_,S,cE,λab C=>⟨cE,λc3 A=> ?_⟩⟩;have g:=f.new (o:=.tup [.ref X,.ref s]) C
    have q:=g.new (o:=.lst [.ref e,.ref ab]) A;exact j c3 _ (b.trans q) ((b.trans g).none A) ⟨[e,ab],M,.cons ⟨ad,s,((Ext.one C).new A).aP (av.of M),q.aP F,q.aP am⟩ (.cons ⟨X,s,(Ext.one A).aP (av.of M),q.aP ca,q.aP am⟩ .nil)⟩
  refine⟨_,S,al,d,a2,a3,_,S,a4,a.cn,a.aJ,a5,S,_,S,eb (λbl=> ?_) (λbl=> ?_)⟩
  .have bl:=be .pair bl;obtain⟨c,P,w⟩:∃c P,G.parts=[c,P]:=by
    rw [bl]at u
    match U:G.parts,u with
    |[c,P],_=>exact⟨c,P,S⟩
   rw [bl,w]at j;rw [w]at n
   match y,n,N with
   |[ad,X],.cons F (.cons ca .nil),N=>
    refine⟨_,S,t,_,_,_,S,S,au.of N,S,_,S,cE,λE ap=>⟨cE,λe h=> ?_⟩⟩;have as:=Ext.one (o:=.tup [.int 2,.int (r:Nat)]) ap
    have f:=as.new (o:=.tup [.ref ad,.ref E]) h;refine⟨_,S,t,_,_,_,S,S,au.of (f _ _ N),S,_,S,cE,λds c1=>⟨cE,λab C=>⟨cE,λc3 A=> ?_⟩⟩⟩;have g:=f.new (o:=.tup [.int 3,.int (r:Nat)]) c1
    have q:=g.new (o:=.tup [.ref X,.ref ds]) C;have c2:=q.new (o:=.lst [.ref e,.ref ab]) A
    exact j c3 _ (b.trans c2) ((b.trans q).none A) ⟨[e,ab],M,.cons ⟨ad,E,(((Ext.one c1).new C).new A).aP (av.of M),c2.aP F,((((Ext.one h).new c1).new C).new A).aP (av.of M)⟩ (.cons ⟨X,ds,(Ext.one A).aP (av.of M),c2.aP ca,((Ext.one C).new A).aP (av.of M)⟩ .nil)⟩
  refine⟨_,S,al,d,a2,a3,_,S,a4,a.cn,a.aJ,a5,S,_,S,eb (λbm=> ?_) (λbm=> ?_)⟩
  .have bm:=be .new bm;obtain⟨c,w⟩:∃c,G.parts=[c]:=by
    rw [bm]at u
    match U:G.parts,u with
    |[c],_=>exact⟨c,S⟩
   rw [bm,w]at j;rw [w]at n
   match y,n,N with
   |[ad],.cons F .nil,N=>
    refine⟨_,S,t,_,_,_,S,S,au.of N,S,_,S,cE,λE ap=>⟨cE,λe h=>⟨eM,λc3 A=> ?_⟩⟩⟩;have as:=Ext.one (o:=.tup [.int 4,.int (r:Nat)]) ap
    have f:=as.new (o:=.tup [.ref ad,.ref E]) h;have g:=f.new (o:=.lst [.ref e]) A
    exact j c3 _ (b.trans g) ((b.trans f).none A) ⟨[e],M,.cons ⟨ad,E,(Ext.one A).aP (av.of M),g.aP F,((Ext.one h).new A).aP (av.of M)⟩ .nil⟩
  refine⟨_,S,al,d,a2,a3,_,S,a4,a.cn,a.aJ,a5,S,_,S,eb (λbn=> ?_) (λbn=> ?_)⟩
  .have bn:=be .set bn;obtain⟨c,P,w⟩:∃c P,G.parts=[c,P]:=by
    rw [bn]at u
    match U:G.parts,u with
    |[c,P],_=>exact⟨c,P,S⟩
   rw [bn,w]at j;rw [w]at n
   match y,n,N with
   |[g1,ad],.cons g2 (.cons F .nil),N=>
    refine⟨_,S,t,_,_,_,S,S,au.of N,S,_,S,cE,λe h=>⟨eM,λc3 A=> ?_⟩⟩;have f:=Ext.one (o:=.tup [.ref ad,.ref s]) h
    have g:=f.new (o:=.lst [.ref e]) A;exact j c3 _ (b.trans g) ((b.trans f).none A) ⟨[e],M,.cons ⟨ad,s,(Ext.one A).aP (av.of M),g.aP F,g.aP am⟩ .nil⟩
  have c0:eU co r G.aJ G.parts=[]:=by
   have jp:=bd .used c4;have kk:=bd .letE bi
   have kp:=bd .ifz bk;have ks:=bd .pair bl
   have kt:=bd .new bm;have kw:=bd .set bn
   unfold eU;split<;>first|rfl|(exfalso;simp_all)
  rw [c0]at j;exact⟨cP _,λc3 A=>j c3 _ (b.new A) (b.none A) ⟨[],M,.nil⟩⟩
abbrev Cs:a6:=inClass (top 20) 0
def eW(A:Fm)(D:ai)(G:Option Nat)(M:Z)(N Q:Int):List (aa×V):=[("form",.str (cD A)),("word",.str (bw D)),("parent",mU G),("parts",.ref M),("begin",.int N),("end",.int Q)]
structure o7(K:ah)(A:Z):Prop where
 cl:fi K A
 aJ:dE K A "form"
 word:dE K A "word"
 parent:dE K A "parent"
 parts:dE K A "parts"
 begin_:dE K A "begin"
 end_:dE K A "end"
def w3(G:Z):Sp:=λS H T _=>∃A M N Q,S=[.ref A,.str (cD N),.str (bw Q)]/\H A=Y (.ins G M [])/\
 ∀D,H D=O->T .br (upd (upd H D (.lst [])) A (.ins G M (eW N Q O D 0 0)))
variable{Da:HO}
def gW{H:G}{o:HO}:upd (upd H d o) d Da=upd H d Da:=by
 funext a;by_cases D:a=d
 .subst D;rw [M,M]
 .rw [Q D,Q D,Q D]
def Ct{H:G}{o:HO}(a:d≠p):upd (upd H d o) p Da=upd (upd H p Da) d o:=by
 funext c;by_cases N:c=d
 .subst N;rw [Q a,M,M]
 .by_cases S:c=p
  .subst S;rw [M,Q N,M]
  .rw [Q S,Q N,Q N,Q S]
def MY{c:Z}(f:a7 K "__init__" "Node.__init__" Cs c o0)(A:o7 K d):aS l m K z B aD 1 c o0 ["self","form","word"] (w3 d):=by
 refine f.go ["self","form","word"] λk D P n H p q r s g _ _ _=> ?_;obtain⟨G,N,c,t,rfl,h,i⟩:=g;refine⟨_,ar (dQ (T 0) (T 1) S) (ar (dQ (T 0) (T 2) S) (ar (dQ (T 0) uT S) (ar (dQ (T 0) (dg aC) S) (ar (dQ (T 0) cK S) (ax (dQ (T 0) cK S)))))), ?_⟩;refine⟨_,S,_,S,G,d,N,_,S,h,A.cl,A.aJ,(by show 0<1000;decide), ?_⟩;refine⟨_,S,_,S,G,d,N,_,S,M,A.cl,A.word,(by show 1<1000;decide), ?_⟩;refine⟨_,S,G,d,N,_,S,M,A.cl,A.parent,(by show 2<1000;decide), ?_⟩;refine⟨cP _,λe b=> ?_⟩;have a:e≠G:=by intro j;rw [j,M]at b;cases b
 refine⟨_,S,G,d,N,_,S,by rw [Q a.symm,M],A.cl,A.parts,(by show 3<1000;decide), ?_⟩;refine⟨_,S,G,d,N,_,S,M,A.cl,A.begin_,(by show 4<1000;decide), ?_⟩;refine⟨_,S,G,d,N,_,S,M,A.cl,A.end_,(by show 5<1000;decide), ?_⟩;rw [Q a,Q a,Q a]at b;have:=i e b
 rw [gW,gW,Ct (o:=HO.lst []) a,gW,gW,gW];rw [Ct a]at this;exact this
abbrev Cu:a6:=inClass (top 21) 5
abbrev Cv:a6:=inClass (top 21) 6
structure mV(ws:List ai):Prop where
 ok:∀x∈ws,ib x=I
 bl:∀x∈ws,¬(32:UInt8)∈x\/x=[32]
def mV.word(G:mV wl)(D:Nat):ib (wordAt wl D)=I/\(¬(32:UInt8)∈wordAt wl D\/wordAt wl D=[32]):=by
 by_cases c:D<wl.length
 .have:=cH (qU c);exact⟨G.ok _ this,G.bl _ this⟩
 .rw [kI (by omega)];exact⟨S,.inl (λM=>nomatch M)⟩
def MZ(G:ib sw=I)(D:¬(32:UInt8)∈sw\/sw=[32]):cS gN (.inr (bw sw))=(ec sw).map λM=>V.int (arity M):=by
 rcases D with D|rfl
 .exact B4 G D
 .decide+kernel
def jW(G:r<wl.length):wl.drop r=wordAt wl r::wl.drop (r+1):=by
 rw [Sm G];have:=qU G
 rw [gj G]at this;rw [a8 this]
def js(G:wl.length<=r):wl.drop r=[]:=zp G
def bK.refl(A:Z)(H:G):bK A H H:=λ_ _ D _=>D
def bK.trans{H:G}(S:bK d H q)(T:bK d q sK):bK d H sK:=λN o U Q=>T N o (S N o U Q) Q
def Ext.but{a:Z}{H:G}(D:Ext H q):bK a H q:=λM o N _=>D M o N
def bK.none{H:G}(Q:bK p H q)(N:q d=O)(T:d≠p):H d=O:=by
 cases a:H d with
 |none=>rfl
 |some o=>rw [Q d o a T]at N;cases N
structure M0(D a:Z)(H A:G)(nd lp:Z)(M:Fm)(x:ai):Prop where
 but:bK a H A
 w4:H nd=O
 w5:H lp=O
 o8:nd≠a
 Cw:lp≠a
 nd:∃N,A nd=Y (.ins D N (eW M x O lp 0 0))
 lp:A lp=Y (.lst [])
def s7{c:Z}{f:Fm}{t:ai}(i:q d=O)(j:q p=O)(n:p≠d)(U:upd (upd q p (.own d)) d (.ins c p []) L=O):∃A,A=upd (upd (upd (upd q p (.own d)) d (.ins c p [])) L (.lst [])) d (.ins c p (eW f t O L 0 0))/\Ext q A/\q L=O/\L≠d/\A d=Y (.ins c p (eW f t O L 0 0))/\A L=Y (.lst []):=by
 have e:L≠d:=by intro T;rw [T,M]at U;cases U
 have k:L≠p:=by intro T;rw [Q e,T,M]at U;cases U
 rw [Q e,Q k]at U;refine⟨_,S,λg o a=> ?_,U,e,M,by rw [Q e,M]⟩;have h:g≠d:=by intro T;rw [T,i]at a;cases a
 have l:g≠p:=by intro T;rw [T,j]at a;cases a
 have m:g≠L:=by intro T;rw [T,U]at a;cases a
 rw [Q h,Q m,Q h,Q l];exact a
variable{pr s3:Z}
def hO.ext{H:G}(a:Ext H q)(b:hO d H p L pr s3 wl r):hO d q p L pr s3 wl r:=by obtain⟨⟨c,A⟩,e,f⟩:=b;exact⟨⟨c,a _ _ A⟩,a _ _ e,f⟩
def mW(S T a:Z)(H:G)(b:VK)(c:XK)(D d e f:Z)(M:List ai):Option (Fm×ai×List ai)->Prop
 |none=>∀A,bK D H A->c (.ref a) O A
 |some (g,x,h)=>∀A N Q i,N<=M.length->M.drop N=h->hO S A D d e f M N->M0 T D H A Q i g x->b (.ref Q) A
def Cy(G T a:Z):Sp:=λb H c d=>∃D M N Q A S,b=[.ref D]/\hO G H D M N Q A S/\mV A/\mW G T a H c d D M N Q A (eo (A.drop S))
def w6{D:Fm}(G:ec sw=Y D):bw sw=cD D/\fF D=sw:=by
 have M:=fL G;have N:fF D=sw:=by simpa using mh G
 refine⟨?_,N⟩;rw [<-N];simp only [bb,ej,fy]at M;rcases M with rfl|rfl|rfl|rfl|rfl|rfl|rfl|rfl|rfl|rfl<;>decide+kernel
def M3{A:Fm}(G:ec sw=Y A):iA (.str (bw sw)) [.str "fun",.str "let"]=isBinder A:=by
 rw [(w6 G).1];have M:=fL G
 simp only [bb,ej,fy]at M;rcases M with rfl|rfl|rfl|rfl|rfl|rfl|rfl|rfl|rfl|rfl<;>decide+kernel
def Cz:(dO "in")=bw dq:=by decide+kernel
def w7:(dO " ")=bw [32]:=by decide+kernel
def M4:(dO "a call")=cD .call:=rfl
variable{ww:Z}
def M5(c4:a7 K "read_bracketed_head" "Reading.read_bracketed_head" Cv ww o0)(f1:kH K d)(c5:z "NoProgram"=Y (.ref p))(c6:gS K p f5 "Exception.__new__"=I)(c7:z "PARTS"=Y (.ref L)) (c8:KD K l m L gN) (c9:z "BINDERS"=Y (.ref pr)) (db:∀H,av K H pr [.str "fun",.str "let"])  (dp:z "CALL"=Y (.str "a call" wP)) (ds:z "GIVEN"=Y (.str "in" TW))(dx:cC l m K z B aD 1 d "peek" ["self"] (wY d)) (dK:cC l m K z B aD 2 d "take" ["self"] (sZ d)) (cl:cC l m K z B (bA l m) 3 d "pass_over" ["self","word"] (wZ d p))(bl:iD l m K z B aD 1 "Node" s3 ["self","form","word"] (w3 s3)) (dL:bx l m K z B aD 1 "is_name" ["word"] wR):aS l m K z B (bA l m) 4 ww o0 ["self"] (Cy d s3 p):=by
 refine c4.eu ["self","form","bound"] λf2 f4 f8 ga H ge gl go r dT cn _ _=> ?_;obtain⟨e,ap,as,a0,G,A,rfl,a1,co,g⟩:=dT;have cr:=r.mo 1
 have a2:=r.mo 2;refine⟨_,ar (bo 1 cn (dR (E:=E0) (T 0) dx cr cy)) (ar (bH (i5 (AE (T 1) (el (v:=.ref L) S c7 S)) S) (ax (aQ (iE (E:=E0) bl a2 cy (D (hn dp) (D dP aC))))) bP) (ar (cL (eK (T 0) cl r dt (aK 1))) (ar (bH (bQ z5 (T 1) (el (v:=.ref pr) S c9 S) S) (ax (aQ (iE (E:=E0) bl a2 cy (D (T 1) (D dP aC))))) bP) (ar (cL (eK (T 0) cl r dt (D dP aC))) (ar (bo 2 cn (dR (E:=E0) (T 0) dK a2 cy)) (ar (bH (PW.pt (uX (bQ cU (T 2) (hn ds) (bU _)) (uV (rQ (ko (bG dL cr (aK 2))))))) (ax (jN kd (by decide) c6 S c5 r.hd)) bP) (ax (aQ (iE (E:=E0) bl a2 cy (D (T 1) (aK 2))))))))))), ?_⟩;obtain⟨⟨cs,a3⟩,gt,dX,g1,g2⟩:=id a1;obtain⟨d0,d1⟩:=co.word A;refine⟨_,S,e,cs,_,S,a3,gx (.inl S),e,ap,as,a0,G,A,S,a1, ?_⟩;refine⟨_,S,L,_,S,⟨gN,.inr (bw (wordAt G A)),c8,S,S⟩,_,S, ?_⟩;rw [MZ d0 d1,kT];cases i:ec (wordAt G A)with
 |none=>
  refine cf ?_;have s:eo (G.drop A)=Y (.call,[],G.drop A):=by
   by_cases c:A<G.length
   .rw [jW c];unfold eo;dsimp only;rw [i]
   .rw [js (by omega)];rfl
  rw [s]at g;intro a k b u x;refine⟨a,k,.call,[], ?_,M,λal y=>⟨S, ?_⟩⟩
  .rw [M4,iL];rfl
  .obtain⟨an,U,j,h,ct,C,P⟩:=s7 (f:=.call) (t:=[]) b u x y;rw [<-U];exact g an A a al dX S (a1.ext j) ⟨j.but,b,h,(by intro Q;rw [Q,a3]at b;cases b),(by intro Q;rw [Q,a3]at h;cases h),⟨k,C⟩,P⟩
 |some fm=>
  refine b1 ?_;have c:A<G.length:=by refine pV λQ=> ?_;rw [kI Q,show ec ([]:ai)=O by decide]at i;cases i
  have em:h3 (A+1) G.length=A+1:=i1 c;refine⟨_,S,e,cs,_,S,a3,gx (.inr (.inr (.inl S))),_,S,e,ap,as,a0,G,A,wordAt G A,S,a1,λeq a4 n=> ?_⟩;rw [ak S];rw [em]at a4;obtain⟨⟨es,bm⟩,g3,ev,hd,he⟩:=id a4;refine⟨_,S,pr,_,S,.inr (db eq),S,S,_,S, ?_⟩;rw [ak S,M3 i];have bn:=jW c
  cases bs:isBinder fm with
  |false=>
   refine cf ?_;have s:eo (G.drop A)=Y (fm,[],G.drop (A+1)):=by rw [bn];unfold eo;dsimp only;rw [i];dsimp only;rw [bs];rfl
   rw [s]at g;refine⟨_,S,λa k b u x=> ?_⟩;refine⟨a,k,fm,[], ?_,M,λal y=>⟨S, ?_⟩⟩
   .rw [(w6 i).1,iL];rfl
   .obtain⟨an,U,j,h,ct,C,P⟩:=s7 (f:=fm) (t:=[]) b u x y;rw [<-U];have R:a≠e:=by intro Q;rw [Q,bm]at b;cases b
    have X:al≠e:=by intro Q;rw [Q,bm]at h;cases h
    exact g an (A+1) a al ev S (a4.ext j) ⟨n.trans j.but,n.none b R,n.none h X,R,X,⟨k,C⟩,P⟩
  |true=>
   refine b1 ?_;refine⟨_,S,e,es,_,S,bm,gx (.inr (.inr (.inl S))),e,ap,as,a0,G,A+1,[32], ?_,a4,λex bt a5=> ?_⟩
   .rw [<-w7];rfl
   by_cases am:wordAt G (A+1)=[32]
   .rw [ak am];have bd:A+1<G.length:=by
     refine pV λQ=> ?_;rw [kI Q]at am;cases am
    have fa:h3 (A+1+1) G.length=A+2:=i1 bd;rw [fa]at bt;obtain⟨⟨fd,fl⟩,hf,hi,hm,hz⟩:=id bt;refine⟨_,S,e,fd,_,S,fl,gx (.inr (.inl S)),e,ap,as,a0,G,A+2,S,bt,λc0 bv ca=> ?_⟩;obtain⟨fn,h0⟩:=co.word (A+2);obtain⟨⟨h1,c1⟩,h2,c2,ii,fr⟩:=id bv;have fs:G.drop A=wordAt G A::[32]::G.drop (A+2):=by rw [bn,jW bd,am]
    have cd:eo (G.drop A)=(match G.drop (A+2)with
      |a::c3=>if a=dq\/h9 a=ao then O else Y (fm,a,c3)
      |[]=>O):=by
     rw [fs];unfold eo;dsimp only;rw [i];dsimp only;rw [ak bs];cases G.drop (A+2)with
     |nil=>rfl
     |cons a be=>dsimp only;rw [ak S]
    refine⟨_,S,S,_,S, ?_⟩;have fT:decide (V.str (bw (wordAt G (A+2)))=V.str (dO "in"))=decide (wordAt G (A+2)=dq):=by rw [hc,Cz];exact⟨λQ=>by injection Q with Q;exact kG.mp Q,λQ=>by rw [Q]⟩
    rw [fT];refine eb (λo=> ?_) (λo=> ?_)
    .have o:=eQ o;refine cf ?_;have ab:eo (G.drop A)=O:=by
      rw [cd];cases w:G.drop (A+2)with
      |nil=>rfl
      |cons a be=>
       have q:A+2<G.length:=pV λQ=>by rw [js Q]at w;cases w
       rw [jW q]at w;injection w with ad _;dsimp only;rw [ak (.inl (by rw [<-ad];exact o))]
     rw [ab]at g;exact g c0 ((n.trans a5).trans ca)
    .have o:¬wordAt G (A+2)=dq:=λQ=>o (ck Q);refine⟨_,S,wordAt G (A+2),S,fn,wX fr _,_,S, ?_⟩;cases bi:h9 (wordAt G (A+2))with
     |false=>
      refine cf ?_;have ab:eo (G.drop A)=O:=by
       rw [cd];cases w:G.drop (A+2)with
       |nil=>rfl
       |cons a be=>
        have q:A+2<G.length:=pV λQ=>by rw [js Q]at w;cases w
        rw [jW q]at w;injection w with ad _;dsimp only;rw [ak (.inr (by rw [<-ad];exact bi))]
      rw [ab]at g;exact g c0 ((n.trans a5).trans ca)
     |true=>
      refine b1 ?_;have q:A+2<G.length:=by refine pV λQ=> ?_;rw [kI Q]at bi;exact absurd bi (by decide)
      have f0:h3 (A+2+1) G.length=A+3:=i1 q;rw [f0]at bv c2;have s:eo (G.drop A)=Y (fm,wordAt G (A+2),G.drop (A+3)):=by rw [cd,jW q];dsimp only;rw [N (λQ=>Q.elim o λQ=>by rw [bi]at Q;cases Q)]
      rw [s]at g;refine⟨_,S,_,S,λa k b u x=> ?_⟩;refine⟨a,k,fm,wordAt G (A+2), ?_,M,λal y=>⟨S, ?_⟩⟩
      .rw [(w6 i).1];rfl
      .obtain⟨an,U,j,h,ct,C,P⟩:=s7 (f:=fm) (t:=wordAt G (A+2)) b u x y;rw [<-U];have ce:=(n.trans a5).trans ca
       have R:a≠e:=by intro Q;rw [Q,c1]at b;cases b
       have X:al≠e:=by intro Q;rw [Q,c1]at h;cases h
       exact g an (A+3) a al c2 S (bv.ext j) ⟨ce.trans j.but,ce.none b R,ce.none h X,R,X,⟨k,C⟩,P⟩
   .rw [N am];have ab:eo (G.drop A)=O:=by
     rw [bn];unfold eo;dsimp only;rw [i];dsimp only;rw [ak bs];cases w:G.drop (A+1)with
     |nil=>rfl
     |cons im be=>
      have bd:A+1<G.length:=pV λQ=>by rw [js Q]at w;cases w
      rw [jW bd]at w;injection w with ad _;cases be with
      |nil=>rfl
      |cons a c3=>dsimp only;rw [N (by rw [<-ad];exact am)]
    rw [ab]at g;exact g ex (n.trans a5)
def CB(G T a:Z):Sp:=λb H c d=>∃D M N Q A S,b=[.ref D]/\hO G H D M N Q A S/\mV A/\mW G T a H c d D M N Q A (head (A.drop S))
def M6(A:List ai)(D:Nat):head (A.drop D)=if wordAt A D=[40]then eo (A.drop (D+1))else if isNum (wordAt A D)=I then Y (.num,wordAt A D,A.drop (D+1))else if wordAt A D=dq then Y (.given,[],A.drop (D+1))else if h9 (wordAt A D)=I then Y (.used,wordAt A D,A.drop (D+1))else O:=by
 by_cases c:D<A.length
 .rw [jW c];rfl
 .rw [js (by omega),kI (by omega)];rfl
def w8(D G:ai):decide (V.str (bw D)=V.str (bw G))=decide (D=G):=by rw [hc];exact⟨λA=>by injection A with A;exact kG.mp A,λA=>by rw [A]⟩
def M7:(dO "(")=bw [40]:=by decide+kernel
variable{IR:VK}{FB:Z}
def mW.from{H:G}{c:XK}(D:bK d H q):∀{o:Option (Fm×ai×List ai)},mW p L pr H IR c d s3 ww FB wl o->mW p L pr q IR c d s3 ww FB wl o
 |none,k=>λN h=>k N (D.trans h)
 |some (Q,x,r),k=>λN i j l m n M A=>k N i j l m n M ⟨D.trans A.but,D.none A.w4 A.o8,D.none A.w5 A.Cw,A.o8,A.Cw,A.nd,A.lp⟩
variable{Vc:dz}
def M8{o:Z}(a3:a7 K "read_head" "Reading.read_head" Cu L o0)(c1:kH K p)(a4:z "NoProgram"=Y (.ref o))(a5:gS K o f5 "Exception.__new__"=I) (bk:z "NUMBER"=Y (.str "a number" wP)) (ad:z "GIVEN"=Y (.str "in" TW)) (bl:z "USED_NAME"=Y (.str "a name" Vc))(bm:cC l m K z B aD 2 p "take" ["self"] (sZ p)) (bn:cC l m K z B (bA l m) 4 p "read_bracketed_head" ["self"] (Cy p d o))(v:iD l m K z B aD 1 "Node" d ["self","form","word"] (w3 d)) (bs:bx l m K z B aD 1 "is_name" ["word"] wR) (bt:bx l m K z B aD 1 "is_number" ["word"] B3):aS l m K z B (bA l m) 5 L o0 ["self"] (CB p d o):=by
 refine a3.eu ["self","word"] λc3 c5 c6 c7 H c8 al bv X ca cd _ _=> ?_;obtain⟨n,x,y,ab,Q,a,rfl,am,an,A⟩:=ca;have ap:=X.mo 1
 have q:=X.mo 2;refine⟨_,ar (bo 1 cd (dR (E:=E0) (T 0) bm q cy)) (ar (bH (bQ cU (T 1) dP (bU _)) (ax (aQ (dR (T 0) bn X dt))) bP) (ar (bH (ko (bG bt ap (aK 1))) (ax (aQ (iE (E:=E0) v q cy (D (hn bk) (aK 1))))) bP) (ar (bH (bQ cU (T 1) (hn ad) (bU _)) (ax (aQ (iE (E:=E0) v q cy (D (hn ad) (D dP aC))))) bP) (ar (bH (ko (bG bs ap (aK 1))) (ax (aQ (iE (E:=E0) v q cy (D (hn bl) (aK 1))))) bP) (ax (jN kd (by decide) a5 S a4 X.hd)))))), ?_⟩;obtain⟨⟨ce,ch⟩,c9,db,dd,ci⟩:=id am;obtain⟨as,dl⟩:=an.word a;refine⟨_,S,n,ce,_,S,ch,gx (.inr (.inl S)),n,x,y,ab,Q,a,S,am,λj U cl=> ?_⟩;have A:=mW.from cl A
 rw [M6]at A;obtain⟨⟨cn,C⟩,dp,co,ds,dx⟩:=id U;have a0:=wX ci a
 have a1:Q.drop (h3 (a+1) Q.length)=Q.drop (a+1):=by
  by_cases c:a<Q.length
  .rw [i1 c]
  .rw [nU (by omega),js (aX _),js (by omega)]
 have h:∀{r:Fm} {b:ai},mW p d o j al bv n x y ab Q (Y (r,b,Q.drop (a+1)))->∀e G,j e=O->j G=O->G≠e->∀P,upd (upd j G (.own e)) e (.ins d G []) P=O->al (.ref e) (upd (upd (upd (upd j G (.own e)) e (.ins d G [])) P (.lst [])) e (.ins d G (eW r b O P 0 0))):=by intro r b A e G g k w P i;obtain⟨cr,cs,a2,R,dK,ct,c0⟩:=s7 (f:=r) (t:=b) g k w i;rw [<-cs];exact A cr _ e P co a1 (U.ext a2) ⟨a2.but,g,R,(by intro V;rw [V,C]at g;cases g),(by intro V;rw [V,C]at R;cases R),⟨G,ct⟩,c0⟩
 refine⟨_,S,S,_,S, ?_⟩;rw [M7,w8];by_cases s:wordAt Q a=[40]
 .rw [ak s]at A;rw [ck s];refine cf ⟨_,S,n,cn,_,S,C,gx (.inr (.inr (.inr (.inr (.inr (.inl S)))))),n,x,y,ab,Q,_,S,U,an, ?_⟩;rw [a1];exact A
 rw [N s]at A;rw [bT s];refine b1 ⟨_,S,wordAt Q a,S,as,a0,_,S, ?_⟩;cases c2:isNum (wordAt Q a)with
 |true=>
  rw [ak c2]at A;exact cf ⟨_,S,λb G g k w=>⟨b,G,.num,wordAt Q a,S,M,λP i=>⟨S,h A b G g k w P i⟩⟩⟩
 |false=>
 rw [N (by rw [c2];decide)]at A;refine b1 ⟨_,S,S,_,S, ?_⟩;rw [Cz,w8];by_cases u:wordAt Q a=dq
 .rw [ak u]at A;rw [ck u];refine cf (λb G g k w=>⟨b,G,.given,[], ?_,M,λP i=>⟨S,h A b G g k w P i⟩⟩);rw [iL];rfl
 rw [N u]at A;rw [bT u];refine b1 ⟨_,S,wordAt Q a,S,as,a0,_,S, ?_⟩;cases c4:h9 (wordAt Q a)with
 |true=>
  rw [ak c4]at A;exact cf ⟨_,S,λb G g k w=>⟨b,G,.used,wordAt Q a,S,M,λP i=>⟨S,h A b G g k w P i⟩⟩⟩
 |false=>
  rw [N (by rw [c4];decide)]at A;exact b1 (A j (bK.refl n j))
abbrev CC:a6:=inClass (top 21) 4
abbrev CD:a6:=inClass (top 21) 7
structure NR where
 a:Z
 lp:Z
 i:Info
 sp:Nat×Nat
def gO(M:Z)(D:Nat)(H:G)(A:NR):Prop:=(∃N,H A.a=Y (.ins M N (eW A.i.aJ A.i.word A.i.parent A.lp ((D:Int)-A.sp.1) ((D:Int)-A.sp.2))))/\H A.lp=Y (.lst (A.i.parts.map λQ=>V.int (Q:Nat)))
structure eA(T U:Z)(M H:G)(a S N Q:Z)(ws:List ai)(i:Nat)(rs:List NR)(A:List Nat):Prop where
 rd:hO T H a S N Q ws i
 nodes:H N=Y (.lst (rs.map λD=>V.ref D.a))
 around:H Q=Y (.lst (A.reverse.map λx=>V.int (x:Nat)))
 nd:∀D∈rs,gO U (fl ws) H D
 mX:(rs.map (·.lp)).Nodup
 mY:(rs.map (·.a)).Nodup
 ie:∀D∈rs,D.lp≠Q/\D.lp≠N/\D.lp≠S/\D.a≠a
 lS:N≠Q
 lT:S≠Q/\S≠N
 ext:Ext M H
 fresh:M a=O/\M N=O/\M Q=O/\M S=O/\∀D∈rs,M D.a=O/\M D.lp=O
 bF:rs.length<=30/\A.length<=9/\(∀p∈A,p<rs.length)/\∀D∈rs,D.i.parts.length<=30
variable{FM:List (aa×V)}
def gy{H:G}{y:Z}(S:H d=Y (.ins p L FM))(T:H y=Y (.lst ul)):d≠y:=cW S T (by intro U;cases U)
variable{GT:List NR}{H:G}{a:Z}
def eA.but(D:eA d s3 sK H a p L pr wl AT GT wr)(G:bK a H q)(U:hO d q a p L pr wl r):eA d s3 sK q a p L pr wl r GT wr:=by obtain⟨⟨f,M⟩,g,h⟩:=D.rd;refine⟨U,G _ _ D.nodes (gy M D.nodes).symm,G _ _ D.around (gy M D.around).symm,λQ S=> ?_,D.mX,D.mY,D.ie,D.lS,D.lT,λc o N=>G c o (D.ext c o N) (by intro b;rw [b,D.fresh.1]at N;cases N),D.fresh,D.bF⟩;obtain⟨⟨C,e⟩,T⟩:=D.nd Q S;exact⟨⟨C,G _ _ e (D.ie Q S).2.2.2⟩,G _ _ T (gy M T).symm⟩
def eA.new(D:eA ww FB q H p L pr s3 wl r GT wr){o:HO}(S:q d=O)(T:d≠p)(U:d≠pr)(b:d≠s3)(c:d≠L)(G:∀M∈GT,d≠M.a/\d≠M.lp):eA ww FB q (upd H d o) p L pr s3 wl r GT wr:=by obtain⟨⟨e,f⟩,g,h⟩:=D.rd;refine⟨⟨⟨e,by rw [Q T.symm];exact f⟩,by rw [Q c.symm];exact g,h⟩,by rw [Q U.symm];exact D.nodes,by rw [Q b.symm];exact D.around,λM N=> ?_,D.mX,D.mY,D.ie,D.lS,D.lT,D.ext.upd S,D.fresh,D.bF⟩;obtain⟨⟨k,l⟩,m⟩:=D.nd M N;obtain⟨n,a⟩:=G M N;exact⟨⟨k,by rw [Q n.symm];exact l⟩,by rw [Q a.symm];exact m⟩
def o9{M:NR->NR}{D:NR}(S:D∈GT.modify r M):∃y∈GT,D=y\/D=M y:=by
 obtain⟨U,N⟩:=hV.mp S;rw [uO]at N;obtain⟨y,T,G⟩:=cm.mp N;refine⟨y,cH T, ?_⟩;split at G
 .exact .inr G.symm
 .exact .inl G.symm
def kL{c:Type}(D:s2->c)(M:s2->s2)(T:∀G,D (M G)=D G):∀(U:List s2) (N:Nat),(U.modify N M).map D=U.map D
 |[],N=>by simp
 |G::b,0=>by show D (M G)::_=_;rw [T];rfl
 |G::b,N+1=>by show D G::(b.modify N M).map D=_;rw [kL D M T b N];rfl
def w9(D:s2->Do)(N:s2->s2)(T:Do->Do)(c:∀G,D (N G)=T (D G)):∀(d:List s2) (M:Nat),(d.modify M N).map D=(d.map D).modify M T
 |[],M=>by simp
 |G::b,0=>by show D (N G)::_=T (D G)::_;rw [c]
 |G::b,M+1=>by show D G::(b.modify M N).map D=D G::_;rw [w9 D N T c b M];rfl
variable{i:Nat}
def addPart(G:Nat)(D:NR):NR:={D with i:={D.i with parts:=D.i.parts++[G]}}
def jt(q:Nat)(D:NR):NR:={D with sp:=(D.sp.1,q)}
def eA.attach(D:eA p L q H d pr s3 ww wl AT GT wr){n:Nat}{T:NR}(g:GT[r]?=Y T)(A:T.i.parts.length<30):eA p L q (upd H T.lp (.lst (T.i.parts.map (λy=>V.int (y:Nat))++[V.int (n:Nat)]))) d pr s3 ww wl AT (GT.modify r (addPart n)) wr:=by
 obtain⟨⟨s,o⟩,t,h⟩:=D.rd;have k:=cH g
 obtain⟨u,v,w,ab⟩:=D.ie T k;have x:T.lp≠d:=(gy o (D.nd T k).2).symm
 have z:(GT.modify r (addPart n)).map (·.lp)=GT.map (·.lp):=kL (·.lp) (addPart n) (λ_=>S) _ _;have B:(GT.modify r (addPart n)).map (·.a)=GT.map (·.a):=kL (·.a) (addPart n) (λ_=>S) _ _
 have E:(GT.modify r (addPart n)).map (λD=>V.ref D.a)=GT.map λD=>V.ref D.a:=kL (λD:NR=>V.ref D.a) (addPart n) (λ_=>S) _ _;refine⟨⟨⟨s,by rw [Q x.symm];exact o⟩,by rw [Q w.symm];exact t,h⟩,by rw [Q v.symm,E];exact D.nodes,by rw [Q u.symm];exact D.around,λy e=> ?_,by rw [z];exact D.mX,by rw [B];exact D.mY,λy e=> ?_,D.lS,D.lT,D.ext.upd (D.fresh.2.2.2.2 T k).2,⟨D.fresh.1,D.fresh.2.1,D.fresh.2.2.1,D.fresh.2.2.2.1,λy e=> ?_⟩,by rw [rH];exact D.bF.1,D.bF.2.1,by rw [rH];exact D.bF.2.2.1,λy e=> ?_⟩
 .obtain⟨l,f⟩:=hV.mp e;rw [uO]at f;obtain⟨U,b,G⟩:=cm.mp f;have F:=cH b
  obtain⟨⟨C,m⟩,K⟩:=D.nd U F;have i:U.a≠T.lp:=gy m (D.nd T k).2
  by_cases c:r=l
  .rw [ak c]at G;subst c;rw [g]at b;obtain rfl:=a8 b;subst G;refine⟨⟨C, ?_⟩, ?_⟩
   .show upd H T.lp _ T.a=_;rw [Q i];exact m
   .show upd H T.lp _ T.lp=_;rw [M];show _=Y (HO.lst ((T.i.parts++[n]).map _))
    rw [aW];rfl
  .rw [N c]at G;have G:U=y:=G
   subst G;have a:U.lp≠T.lp:=by
    intro P;have R:=D.mX
    have h:(GT.map (·.lp))[r]?=Y T.lp:=by rw [bh,g];rfl
    have W:(GT.map (·.lp))[l]?=Y T.lp:=by rw [bh,b];show Y U.lp=_;rw [P]
    have X:=(cM.mp h).1;exact c ((Gp X R).mp (h.trans W.symm))
   exact⟨⟨C,by rw [Q i];exact m⟩,by rw [Q a];exact K⟩
 .obtain⟨U,b,G|G⟩:=o9 e
  .rw [G];exact D.ie U b
  .rw [G];exact D.ie U b
 .obtain⟨U,b,G|G⟩:=o9 e
  .rw [G];exact D.fresh.2.2.2.2 U b
  .rw [G];exact D.fresh.2.2.2.2 U b
 .obtain⟨l,f⟩:=hV.mp e;rw [uO]at f;obtain⟨U,b,G⟩:=cm.mp f;by_cases c:r=l
  .rw [ak c]at G;subst c;rw [g]at b;obtain rfl:=a8 b;rw [<-G];show(T.i.parts++[n]).length<=30
   rw [bB];exact A
  .rw [N c]at G;have G:U=y:=G
   rw [<-G];exact D.bF.2.2.2 U (cH b)
def eA.push(G:eA ww L q H p pr d s3 wl r GT wr){x:NR}(k:gO L (fl wl) H x)(l:q x.a=O/\q x.lp=O)(f:x.lp≠s3/\x.lp≠d/\x.lp≠pr/\x.a≠p)(g:∀y∈GT,x.a≠y.a/\x.lp≠y.lp)(m:GT.length<30)(U:x.i.parts.length<=30):eA ww L q (upd H d (.lst (GT.map (λG=>V.ref G.a)++[V.ref x.a]))) p pr d s3 wl r (GT++[x]) wr:=by
 obtain⟨⟨n,h⟩,o,C⟩:=G.rd;have i:p≠d:=gy h G.nodes
 refine⟨⟨⟨n,by rw [Q i];exact h⟩,by rw [Q G.lT.2];exact o,C⟩,by rw [M,aW];rfl,by rw [Q G.lS.symm];exact G.around,λy D=> ?_, ?_, ?_,λy D=> ?_,G.lS,G.lT,G.ext.upd G.fresh.2.1,⟨G.fresh.1,G.fresh.2.1,G.fresh.2.2.1,G.fresh.2.2.2.1,λy D=> ?_⟩,by rw [bB];exact m,G.bF.2.1,λA U=> ?_,λy D=> ?_⟩
 .rcases bS.mp D with D|D
  .obtain⟨⟨b,N⟩,c⟩:=G.nd y D;exact⟨⟨b,by rw [Q (gy N G.nodes)];exact N⟩,by rw [Q (G.ie y D).2.1];exact c⟩
  .rw [bf.mp D];obtain⟨⟨b,N⟩,c⟩:=k;exact⟨⟨b,by rw [Q (gy N G.nodes)];exact N⟩,by rw [Q f.2.1];exact c⟩
 .rw [aW];refine gU.mpr ⟨G.mX,by simp,λu a v e T=> ?_⟩;obtain⟨y,D,rfl⟩:=bE.mp a;rw [bf.mp e]at T;exact(g y D).2 T.symm
 .rw [aW];refine gU.mpr ⟨G.mY,by simp,λu a v e T=> ?_⟩;obtain⟨y,D,rfl⟩:=bE.mp a;rw [bf.mp e]at T;exact(g y D).1 T.symm
 .rcases bS.mp D with D|D
  .exact G.ie y D
  .rw [bf.mp D];exact f
 .rcases bS.mp D with D|D
  .exact G.fresh.2.2.2.2 y D
  .rw [bf.mp D];exact l
 .have:=G.bF.2.2.1 A U;rw [bB];omega
 .rcases bS.mp D with D|D
  .exact G.bF.2.2.2 y D
  .rw [bf.mp D];exact U
def eA.xa(D:eA L pr q H p s3 ww d wl r GT wr){A':List Nat}(T:A'.length<=9)(U:∀b∈A',b<GT.length):eA L pr q (upd H d (.lst (A'.reverse.map λc=>V.int (c:Nat)))) p s3 ww d wl r GT A':=by
 obtain⟨⟨a,G⟩,e,f⟩:=D.rd;have g:p≠d:=gy G D.around
 refine⟨⟨⟨a,by rw [Q g];exact G⟩,by rw [Q D.lT.1];exact e,f⟩,by rw [Q D.lS];exact D.nodes,M,λy N=> ?_,D.mX,D.mY,D.ie,D.lS,D.lT,D.ext.upd D.fresh.2.2.1,D.fresh,D.bF.1,T,U,D.bF.2.2.2⟩;obtain⟨⟨h,S⟩,k⟩:=D.nd y N;exact⟨⟨h,by rw [Q (gy S D.around)];exact S⟩,by rw [Q (D.ie y N).1];exact k⟩
def eA.jt(D:eA L d sK H pr s3 ww FB wl AT GT wr){q:Nat}{T:NR}(h:GT[r]?=Y T)(f:H T.a=Y (.ins d p FM)):eA L d sK (upd H T.a (.ins d p (eW T.i.aJ T.i.word T.i.parent T.lp ((fl wl:Int)-T.sp.1) ((fl wl:Int)-q)))) pr s3 ww FB wl AT (GT.modify r (Cf.jt q)) wr:=by
 obtain⟨⟨t,u⟩,m,g⟩:=D.rd;have n:=cH h
 obtain⟨X,ab,ad,v⟩:=D.ie T n;have w:(GT.modify r (Cf.jt q)).map (·.lp)=GT.map (·.lp):=kL (·.lp) (Cf.jt q) (λ_=>S) _ _
 have x:(GT.modify r (Cf.jt q)).map (·.a)=GT.map (·.a):=kL (·.a) (Cf.jt q) (λ_=>S) _ _;have z:(GT.modify r (Cf.jt q)).map (λD=>V.ref D.a)=GT.map λD=>V.ref D.a:=kL (λD:NR=>V.ref D.a) (Cf.jt q) (λ_=>S) _ _
 refine⟨⟨⟨t,by rw [Q v.symm];exact u⟩,by rw [Q (gy f m).symm];exact m,g⟩,by rw [Q (gy f D.nodes).symm,z];exact D.nodes,by rw [Q (gy f D.around).symm];exact D.around,λy e=> ?_,by rw [w];exact D.mX,by rw [x];exact D.mY,λy e=> ?_,D.lS,D.lT,D.ext.upd (D.fresh.2.2.2.2 T n).1,⟨D.fresh.1,D.fresh.2.1,D.fresh.2.2.1,D.fresh.2.2.2.1,λy e=> ?_⟩,by rw [rH];exact D.bF.1,D.bF.2.1,by rw [rH];exact D.bF.2.2.1,λy e=> ?_⟩
 .obtain⟨o,C⟩:=hV.mp e;rw [uO]at C;obtain⟨U,b,G⟩:=cm.mp C;have B:=cH b
  obtain⟨⟨E,F⟩,l⟩:=D.nd U B;have a:U.lp≠T.a:=(gy f l).symm
  by_cases c:r=o
  .rw [ak c]at G;subst c;rw [h]at b;obtain rfl:=a8 b;subst G;exact⟨⟨p,M⟩,(Q a).trans l⟩
  .rw [N c]at G;have G:U=y:=G
   subst G;have K:U.a≠T.a:=by
    intro k;have P:=D.mY
    have g:(GT.map (·.a))[r]?=Y T.a:=by rw [bh,h];rfl
    have R:(GT.map (·.a))[o]?=Y T.a:=by rw [bh,b];show Y U.a=_;rw [k]
    have W:=(cM.mp g).1;exact c ((Gp W P).mp (g.trans R.symm))
   exact⟨⟨E,by rw [Q K];exact F⟩,by rw [Q a];exact l⟩
 .obtain⟨U,b,G|G⟩:=o9 e
  .rw [G];exact D.ie U b
  .rw [G];exact D.ie U b
 .obtain⟨U,b,G|G⟩:=o9 e
  .rw [G];exact D.fresh.2.2.2.2 U b
  .rw [G];exact D.fresh.2.2.2.2 U b
 .obtain⟨U,b,G|G⟩:=o9 e
  .rw [G];exact D.bF.2.2.2 U b
  .rw [G];exact D.bF.2.2.2 U b
def xb(A:List ai)(D:Nat):((jo A D:Nat):Int)=(fl A:Int)-(fl (A.drop D):Int):=by
 have:fl A=fl (A.take D)+fl (A.drop D):=by rw [<-kE,zo]
 unfold jo;omega
def M9(M:List ai)(Q:Nat)(A:List NR)(D:List Nat):fP ⟨M.drop Q,A.map (·.i),D,A.map (·.sp)⟩=if A.length=30\/8<D.length then O else(head (M.drop Q)).map λG=>(⟨G.2.2,attach (A.map (·.i)) D A.length++[⟨G.1,G.2.1,D.head?,[]⟩],if dV G.1=I then D else A.length::D,A.map (·.sp)++[(fl (M.drop Q),fl G.2.2)]⟩:RX):=by
 unfold fP begin_ RX.rs;dsimp only;rw [ag];by_cases c:A.length=30\/8<D.length
 .rw [ak c,ak c];rfl
 .rw [N c,N c];cases head (M.drop Q)with
  |none=>rfl
  |some G=>rfl
def CF(A:Fm):(cS gN (.inr (cD A))).isSome= !dV A:=by cases A<;>decide+kernel
def qY(S T b:Z)(M:G)(c:VK)(d:XK)(e f g h:Z)(N:List ai):Option RX->Prop
 |none=>∀A,Ext M A->d (.ref b) O A
 |some a=>∀A Q D,eA S T M A e f g h N Q D a.around->a.ws=N.drop Q->a.nodes=D.map (·.i)->a.sp=D.map (·.sp)->c .br A
def xc(N Q e:Z):Sp:=λf H g h=>∃G S T a A b c D M,f=[.ref G]/\eA N Q c H G S T a A b D M/\mV A/\(∀d j,M=d::j->∀y,D[d]?=Y y->y.i.parts.length<30)/\qY N Q e c g h G S T a A (fP ⟨A.drop b,D.map (·.i),M,D.map (·.sp)⟩)
def Na(fm:a7 K "begin_node" "Reading.begin_node" CC s3 o0)(k:kH K p)(h:o7 K d)(fn:z "NoProgram"=Y (.ref pr))(fr:gS K pr f5 "Exception.__new__"=I)(fs:z "PARTS"=Y (.ref L)) (ds:KD K l m L gN) (cn:z "len"=O)  (f1:z "MOST_NODES"=Y (.int 30 wP)) (f2:z "MOST_AROUND"=Y (.int 8 TW))(f4:cC l m K z B (bA l m) 5 p "read_head" ["self"] (CB p d pr)):aS l m K z B (bA l m) 6 s3 o0 ["self"] (xc p d pr):=by
 refine fm.eu ["self","begin","node","label"] λit ix jp kk H kp ks kt dx f8 co _ sz=> ?_;obtain⟨u,cr,R,ap,A,q,bk,b,ad,rfl,g,ga,ge,E⟩:=f8;refine⟨_,ar (bH (PW.pt (uX (bQ cU (cR en (by rfl) cn dD (D (aG 0) aC)) (b8 f1) (bU _)) (uV (bQ va (cR en (by rfl) cn dD (D (aG 0) aC)) (b8 f2) (bU _))))) (ax (jN kd (by decide) fr S fn dx.hd)) bP) (ar (bo 1 co (aG 0)) (ar (bo 2 co (dR (T 0) f4 dx dt)) (ar (dQ (T 2) (T 1) S) (ar (dQ (T 2) (aG 0) S) (ar (bo 3 co (cR en (by rfl) cn dD (D (aG 0) aC))) (ar (bH (rY (aG 0) (λ_=>S)) (ar (dQ (T 2) (cc di (aG 0) (u4 u7 cK) (λ_ _=>S)) S) (ax (cL (fj fB gh gH fY (fX (cc di (aG 0) (aG 2) (λ_ _=>S)) S) (aK 3))))) bP) (ar (cL (fj fB gh gH fY (aG 0) (aK 2))) (ax (bH (i5 (vP (aG 2) (el (v:=.ref L) S fs S)) S) (ax (cL (fj fB gh gH fY (aG 0) (aK 3)))) bP))))))))), ?_⟩;obtain⟨⟨bl,bm⟩,gl,kw,kV,k0⟩:=g.rd;rw [M9]at E;refine⟨_,S,u,p,bl,_,_,S,bm,k.cl,k.nodes,mS,R,_,S,.inl (au.of g.nodes),S,_,S, ?_⟩;rw [ag];by_cases dK:b.length=30
 .rw [ak (.inl dK)]at E;rw [dK];exact cf (cf (E H g.ext))
 have cs:decide (V.int ((b.length:Nat):Int)=V.int 30)=ao:=bT λa1=>by injection a1 with a1;omega
 rw [cs];refine b1 ⟨_,S,u,p,bl,_,_,S,bm,k.cl,k.around,lO,ap,_,S,.inl (au.of g.around),_,_,S,S,_,S, ?_⟩;rw [ag,Sn];by_cases dL:8<ad.length
 .rw [ak (.inr dL)]at E;rw [ck (by omega)];exact cf (E H g.ext)
 rw [bT (by omega)];rw [N (by omega)]at E;refine b1 ⟨_,S,u,p,bl,_,_,S,bm,k.cl,k.taken,wW,_,S,u,bl,_,S,bm,gx (.inr (.inr (.inr (.inr (.inl S))))),u,cr,R,ap,A,q,S,g.rd,ga, ?_⟩;cases dT:head (A.drop q)with
 |none=>
  rw [dT]at E;exactλgo a2=>E go λc o bi=>a2 c o (g.ext c o bi) (by intro a1;rw [a1,g.fresh.1]at bi;cases bi)
 |some gt=>
 obtain⟨w,e,k1⟩:=gt;rw [dT]at E;intro a3 j U f k2 al dX t;have g1:=g.but t.but dX
 obtain⟨r,d0⟩:=t.nd;obtain⟨⟨g2,g3⟩,k3,k5,la,lb⟩:=id dX;have a4:∀{a2:Z} {o:HO},H a2=Y o->U≠a2/\f≠a2:=λbi=>⟨λa1=>(by rw [<-a1,t.w4]at bi;cases bi),λa1=>(by rw [<-a1,t.w5]at bi;cases bi)⟩
 have a5:=a4 g.nodes;have ct:=a4 g.around
 have c0:=a4 gl;have am:∀y∈b,(U≠y.a/\f≠y.a)/\U≠y.lp/\f≠y.lp:=λy s=>by obtain⟨⟨d1,c1⟩,bn⟩:=g.nd y s;exact⟨a4 c1,a4 bn⟩
 have c2:bk U=O/\bk f=O:=⟨g.ext.none t.w4,g.ext.none t.w5⟩
 have em:U≠f:=gy d0 t.lp;refine⟨_,S,_,S,U,d,r,_,S,d0,h.cl,h.begin_,(by show 6<1000;decide), ?_⟩;refine⟨_,S,u,p,g2,_,_,S,by rw [Q t.o8.symm];exact g3,k.cl,k.taken,wW,_,S,U,d,r,_,S,M,h.cl,h.end_,(by show 6<1000;decide), ?_⟩;rw [gW];have an:=g1.new (o:=.ins d r (eW w e O f ((fl A:Int)-(fl (A.drop q):Int)) ((fl A:Int)-(fl (A.drop j):Int)))) c2.1 t.o8 a5.1 ct.1 c0.1 λy s=>⟨(am y s).1.1,(am y s).2.1⟩
 have eq:upd a3 U (.ins d r (aO "end" (.int (jo A j)) (aO "begin" (.int (jo A q)) (eW w e O f 0 0))))=upd a3 U (.ins d r (eW w e O f ((fl A:Int)-(fl (A.drop q):Int)) ((fl A:Int)-(fl (A.drop j):Int)))):=by rw [<-xb,<-xb];rfl
 rw [eq];have c3:upd a3 U (.ins d r (eW w e O f ((fl A:Int)-(fl (A.drop q):Int)) ((fl A:Int)-(fl (A.drop j):Int)))) U=Y (.ins d r (eW w e O f ((fl A:Int)-(fl (A.drop q):Int)) ((fl A:Int)-(fl (A.drop j):Int)))):=M
 have es:upd a3 U (.ins d r (eW w e O f ((fl A:Int)-(fl (A.drop q):Int)) ((fl A:Int)-(fl (A.drop j):Int)))) f=Y (.lst []):=(Q em.symm).trans t.lp;clear eq;generalize upd a3 U (.ins d r (eW w e O f ((fl A:Int)-(fl (A.drop q):Int)) ((fl A:Int)-(fl (A.drop j):Int))))=bs at*;obtain⟨⟨bt,bv⟩,_⟩:=an.rd;refine⟨_,S,u,p,bt,_,_,S,bv,k.cl,k.nodes,mS,R,_,S,.inl (au.of an.nodes), ?_⟩;refine⟨_,S,u,p,bt,_,_,S,bv,k.cl,k.around,lO,_,.inl ⟨_,au.of an.around,S⟩, ?_⟩;have ev:∀{as:G} {ab:List NR},eA p d bk as u cr R ap A j ab ad->ab.map (·.i)=attach (b.map (·.i)) ad b.length->ab.map (·.sp)=b.map (·.sp)->(∀y∈ab,∃a1∈b,y.a=a1.a/\y.lp=a1.lp)->as U=Y (.ins d r (eW w e ad.head? f ((fl A:Int)-(fl (A.drop q):Int)) ((fl A:Int)-(fl (A.drop j):Int))))->as f=Y (.lst [])->
   ∃C:eA p d bk (upd as R (.lst (ab.map (λg=>V.ref g.a)++[V.ref U]))) u cr R ap A j (ab++[⟨U,f,⟨w,e,ad.head?,[]⟩,(fl (A.drop q),fl (A.drop j))⟩]) ad,ab.length=b.length:=by
  intro as ab a0 ca bd hd cd c4;have ce:ab.length=b.length:=by have:=bN cN bd;simpa using this
  refine⟨a0.push (x:=⟨U,f,⟨w,e,ad.head?,[]⟩,(fl (A.drop q),fl (A.drop j))⟩) ⟨⟨r,cd⟩,c4⟩ c2 ⟨ct.2,a5.2,c0.2,t.o8⟩ (λy s=> ?_) ?_ (cP _),ce⟩
  .obtain⟨a1,ch,cs,he⟩:=hd y s;obtain⟨hf,hi⟩:=am a1 ch;rw [cs,he];exact⟨hf.1,hi.2⟩
  .have:=g.bF.1;omega
 have lc:∀{y:NR},y∈b->y.lp≠U:=λs=>(am _ s).2.1.symm;cases ex:ad with
 |nil=>
  subst ex;refine b1 ?_;obtain⟨C,ce⟩:=ev an S rfl (λy s=>⟨y,s,S,S⟩) c3 es;refine⟨_,S,u,p,bt,_,_,S,bv,k.cl,k.nodes,mS,.inl ⟨S,_,au.of an.nodes⟩,_,S,R,_,_,S,S,an.nodes,by rw [ag];have:=g.bF.1;omega, ?_⟩;have c5:upd bs R (.lst (b.map (λg=>V.ref g.a)++[V.ref U])) U=_:=(Q a5.1).trans c3
  obtain⟨⟨c6,c7⟩,_⟩:=C.rd;refine⟨_,S,U,d,r,_,_,S,c5,h.cl,h.aJ,S,L,_,S,⟨gN,.inr (cD w),ds,S,S⟩,_,S, ?_⟩;rw [CF];cases be:dV w with
  |true=>
   refine b1 ?_;refine E _ j (b++[⟨U,f,⟨w,e,([]:List Nat).head?,[]⟩,(fl (A.drop q),fl (A.drop j))⟩]) ?_ al.symm ?_ ?_
   .dsimp only;rw [ak be];exact C
   .rw [aW];rfl
   .rw [aW,<-al];rfl
  |false=>
   refine cf ?_;refine⟨_,S,u,p,c6,_,_,S,c7,k.cl,k.around,lO,.inl ⟨S,_,au.of C.around⟩,_,S,ap,_,_,S,S,C.around,(by decide), ?_⟩;have c8:=C.xa (A':=[b.length]) (by show 1<=9;decide) (λP hm=>by rw [bf.mp hm,bB];simp)
   refine E _ j (b++[⟨U,f,⟨w,e,([]:List Nat).head?,[]⟩,(fl (A.drop q),fl (A.drop j))⟩]) ?_ al.symm ?_ ?_
   .dsimp only;rw [N (by rw [be];decide)];have c9:(rE (λe=>V.int ((e:Nat):Int)) ([]:List Nat).reverse++[V.int ((rE (λg:NR=>V.ref g.a) b).length:Int)])=rE (λe=>V.int ((e:Nat):Int)) [b.length].reverse:=by
     rw [ag];rfl
    rw [c9];exact c8
   .rw [aW];rfl
   .rw [aW,<-al];rfl
 |cons P X=>
  subst ex;have hz:P<b.length:=g.bF.2.2.1 P bY
  obtain⟨y,s⟩:∃y,b[P]?=Y y:=⟨_,gj hz⟩
  have ci:=cH s;have fa:((P::X).reverse.map λe=>V.int ((e:Nat):Int))=(X.reverse.map λe=>V.int ((e:Nat):Int))++[V.int ((P:Nat):Int)]:=by rw [zq,aW];rfl
  have h0:(!((P::X).reverse.map λe=>V.int ((e:Nat):Int)).isEmpty)=I:=by rw [fa];simp
  rw [h0];refine cf ?_;refine⟨_,S,u,p,bt,_,_,S,bv,k.cl,k.around,lO,_,S,ap,_,_,_,S,S,au.of an.around,by rw [fa];exact vk _ _,_,S,U,d,r,_,S,c3,h.cl,h.parent,(by show 6<1000;decide), ?_⟩;have cl:=an.new (o:=.ins d r (aO "parent" (.int (P:Nat)) (eW w e O f ((fl A:Int)-(fl (A.drop q):Int)) ((fl A:Int)-(fl (A.drop j):Int))))) c2.1 t.o8 a5.1 ct.1 c0.1 λy s=>⟨(am y s).1.1,(am y s).2.1⟩
  have fd:upd bs U (.ins d r (aO "parent" (.int (P:Nat)) (eW w e O f ((fl A:Int)-(fl (A.drop q):Int)) ((fl A:Int)-(fl (A.drop j):Int))))) U=Y (.ins d r (eW w e (Y P) f ((fl A:Int)-(fl (A.drop q):Int)) ((fl A:Int)-(fl (A.drop j):Int)))):=M;have h1:upd bs U (.ins d r (aO "parent" (.int (P:Nat)) (eW w e O f ((fl A:Int)-(fl (A.drop q):Int)) ((fl A:Int)-(fl (A.drop j):Int))))) f=Y (.lst []):=(Q em.symm).trans es
  generalize upd bs U (.ins d r (aO "parent" (.int (P:Nat)) (eW w e O f ((fl A:Int)-(fl (A.drop q):Int)) ((fl A:Int)-(fl (A.drop j):Int)))))=db at*;obtain⟨⟨h2,ii⟩,_⟩:=cl.rd;obtain⟨⟨d1,c1⟩,bn⟩:=cl.nd y ci;refine⟨_,S,u,p,h2,_,_,S,ii,k.cl,k.nodes,mS,_,S,U,d,r,_,_,S,fd,h.cl,h.parent,S,R,_,_,_,S,S,au.of cl.nodes,e2 (by rw [bh,s];rfl),y.a,d,d1,_,_,S,c1,h.cl,h.parts,S,.inl ⟨S,_,au.of bn⟩,_,S,y.lp,_,_,S,S,bn,by rw [ag];have:=g.bF.2.2.2 y ci;omega, ?_⟩;rw [ag];have a0:=cl.attach (n:=b.length) s (ge P X S y s)
  have cd:upd db y.lp (.lst (y.i.parts.map (λa1=>V.int ((a1:Nat):Int))++[V.int ((b.length:Nat):Int)])) U=_:=(Q (am y ci).2.1).trans fd;have c4:upd db y.lp (.lst (y.i.parts.map (λa1=>V.int ((a1:Nat):Int))++[V.int ((b.length:Nat):Int)])) f=_:=(Q (am y ci).2.2).trans h1
  generalize upd db y.lp (.lst (y.i.parts.map (λa1=>V.int ((a1:Nat):Int))++[V.int ((b.length:Nat):Int)]))=as at*;have ca:(b.modify P (addPart b.length)).map (·.i)=attach (b.map (·.i)) (P::X) b.length:=w9 (·.i) (addPart b.length) _ (λ_=>S) _ _
  have bd:(b.modify P (addPart b.length)).map (·.sp)=b.map (·.sp):=kL (·.sp) (addPart b.length) (λ_=>S) _ _;obtain⟨C,ce⟩:=ev a0 ca bd (λy s=>by
   obtain⟨a1,ch,bi|bi⟩:=o9 s
   .exact⟨a1,ch,by rw [bi],by rw [bi]⟩
   .exact⟨a1,ch,by rw [bi];rfl,by rw [bi];rfl⟩) cd c4
  obtain⟨⟨im,io⟩,_⟩:=a0.rd;refine⟨_,S,u,p,im,_,_,S,io,k.cl,k.nodes,mS,.inl ⟨S,_,au.of a0.nodes⟩,_,S,R,_,_,S,S,a0.nodes,by rw [ag];have:=a0.bF.1;omega, ?_⟩;have c5:upd as R (.lst ((b.modify P (addPart b.length)).map (λg=>V.ref g.a)++[V.ref U])) U=_:=(Q a5.1).trans cd
  obtain⟨⟨c6,c7⟩,_⟩:=C.rd;refine⟨_,S,U,d,r,_,_,S,c5,h.cl,h.aJ,S,L,_,S,⟨gN,.inr (cD w),ds,S,S⟩,_,S, ?_⟩;rw [CF];cases be:dV w with
  |true=>
   refine b1 ?_;refine E _ j (b.modify P (addPart b.length)++[⟨U,f,⟨w,e,(P::X).head?,[]⟩,(fl (A.drop q),fl (A.drop j))⟩]) ?_ al.symm ?_ ?_
   .dsimp only;rw [ak be];exact C
   .rw [aW,ca];rfl
   .rw [aW,bd,<-al];rfl
  |false=>
   refine cf ?_;refine⟨_,S,u,p,c6,_,_,S,c7,k.cl,k.around,lO,.inl ⟨S,_,au.of C.around⟩,_,S,ap,_,_,S,S,C.around,by rw [ag,Sn];have:=C.bF.2.1;omega, ?_⟩;have c8:=C.xa (A':=b.length::P::X) (by simp only [dG]at dL⊢;omega) (λis dd=>by
    rw [bB];rcases bb.mp dd with bi|dd
    .rw [bi];simp [ce]
    .have:=C.bF.2.2.1 is dd;rw [bB]at this;exact this)
   refine E _ j (b.modify P (addPart b.length)++[⟨U,f,⟨w,e,(P::X).head?,[]⟩,(fl (A.drop q),fl (A.drop j))⟩]) ?_ al.symm ?_ ?_
   .dsimp only;rw [N (by rw [be];decide)];have c9:(rE (λe=>V.int ((e:Nat):Int)) (P::X).reverse++[V.int ((b.length:Nat):Int)])=rE (λe=>V.int ((e:Nat):Int)) (b.length::P::X).reverse:=by
     rw [zq (a:=b.length),aW];rfl
    rw [c9];exact c8
   .rw [aW,ca];rfl
   .rw [aW,bd,<-al];rfl
structure lU(A:RX):Prop where
 at_:∀p∈A.around,∃i,A.nodes[p]?=Y i/\dV i.aJ=ao/\i.parts.length<=arity i.aJ
 nd:A.around.Nodup
def Nb(A:Fm):arity A<=3:=by cases A<;>decide
def CG{A f:RX}(g:fP A=Y f)(a:lU A)(l:∀G d,A.around=G::d->∀D,A.nodes[G]?=Y D->D.parts.length<arity D.aJ):lU f:=by
 unfold fP at g;obtain⟨p,b,rfl⟩:=cm.mp g;unfold begin_ at b;split at b
 .cases b
 .obtain⟨M,q,rfl⟩:=cm.mp b;have h:∀G∈A.around,∃D,(attach A.nodes A.around A.nodes.length++[(⟨M.1,M.2.1,A.around.head?,[]⟩:Info)])[G]?=Y D/\dV D.aJ=ao/\D.parts.length<=arity D.aJ:=by
   intro G Q;obtain⟨D,T,i,m⟩:=a.at_ G Q;have n:G<A.nodes.length:=(cM.mp T).1
   cases j:A.around with
   |nil=>rw [j]at Q;cases Q
   |cons e d=>
    show∃D,((A.nodes.modify e λD=>{D with parts:=D.parts++[A.nodes.length]})++_)[G]?=Y D/\_;rw [Fz (by rw [rH];exact n),uO,T];by_cases c:e=G
    .subst c;refine⟨{D with parts:=D.parts++[A.nodes.length]},by simp,i, ?_⟩;have:=l e d j D T
     show(D.parts++[A.nodes.length]).length<=_;rw [bB];exact this
    .exact⟨D,by simp [c],i,m⟩
  by_cases U:dV M.1=I
  .refine⟨?_, ?_⟩
   .show∀G∈(if dV M.1=I then A.around else A.nodes.length::A.around),_;rw [ak U];exact h
   .show(if dV M.1=I then A.around else A.nodes.length::A.around).Nodup;rw [ak U];exact a.nd
  .refine⟨?_, ?_⟩
   .show∀G∈(if dV M.1=I then A.around else A.nodes.length::A.around),_;rw [N U];intro G Q;rcases bb.mp Q with rfl|Q
    .refine⟨⟨M.1,M.2.1,A.around.head?,[]⟩, ?_,by simpa using U,cP _⟩;have k:=oQ A.nodes A.around A.nodes.length
     show(attach A.nodes A.around A.nodes.length++[_])[A.nodes.length]?=_;rw [hT (by rw [k];exact aX _),k,kY];rfl
    .exact h G Q
   .show(if dV M.1=I then A.around else A.nodes.length::A.around).Nodup;rw [N U];refine eB.mpr ⟨λo=> ?_,a.nd⟩;obtain⟨D,T,_⟩:=a.at_ _ o;have:=(cM.mp T).1
    exact j3 _ this
def Nc{G T:RX}(A:ft G=Y T)(D:lU G):lU T:=by
 obtain⟨l,U,a,m⟩:=G;cases a with
 |nil=>cases A
 |cons p a=>
  obtain⟨M,e,n,o⟩:=D.at_ p bY;have b:U[p]?=Y M:=e
  unfold ft at A;simp only [b]at A;by_cases c:M.parts.length=arity M.aJ
  .rw [ak c]at A;obtain⟨f,g,rfl⟩:=cm.mp A;exact⟨λd Q=>D.at_ d (bM _ Q),(eB.mp D.nd).2⟩
  .rw [N c]at A;obtain⟨f,g,h⟩:=fA.mp A;refine CG h ⟨D.at_,D.nd⟩ λd q Q i j=> ?_;injection Q with k r;subst k;have:U[p]?=Y i:=j
   rw [b]at this;obtain rfl:=a8 this;omega
def CH(M:sw≠[]):pass sw (wl.drop r)=if wordAt wl r=sw then Y (wl.drop (r+1))else O:=by
 by_cases c:r<wl.length
 .rw [jW c];rfl
 .rw [js (by omega),kI (by omega),N M.symm];rfl
def Nd{A:Fm}(D:dV A=ao):Y (V.int (arity A))=cS gN (.inr (cD A)):=by cases A<;>first|exact absurd D (by decide)|decide+kernel
def Nf:(dO ")")=bw [41]:=by decide+kernel
def xf(A:List ai)(D:Nat):A.drop (h3 (D+1) A.length)=A.drop (D+1):=by
 by_cases c:D<A.length
 .rw [i1 c]
 .rw [nU (by omega),js (aX _),js (by omega)]
def CI(S T e:Z):Sp:=λf H g h=>∃G a b c A M d D N Q,f=[.ref G]/\eA S T d H G a b c A M D (N::Q)/\mV A/\lU ⟨A.drop M,D.map (·.i),N::Q,D.map (·.sp)⟩/\qY S T e d g h G a b c A (ft ⟨A.drop M,D.map (·.i),N::Q,D.map (·.sp)⟩)
def Ng(c1:a7 K "read_on" "Reading.read_on" CD s3 o0)(ap:kH K d)(U:o7 K p)(c2:z "PARTS"=Y (.ref pr)) (c3:KD K l m pr gN) (c4:z "len"=O)  (c6:z "CALL"=Y (.str "a call" wP))(bv:cC l m K z B (bA l m) 3 d "pass_over" ["self","word"] (wZ d L)) (c7:cC l m K z B (bA l m) 6 d "begin_node" ["self"] (xc d p L)):aS l m K z B (bA l m) 7 s3 o0 ["self"] (CI d p L):=by
 refine c1.eu ["self","inner"] λfd fm fn fr H fs ca a5 cd c8 c9 _ sz=> ?_;obtain⟨Q,n,W,j,A,M,C,P,e,k,rfl,b,bd,db,w⟩:=c8;have ce:=cd.mo 3
 refine⟨_,ar (bo 1 c9 (cc di (aG 0) (cc di (aG 0) (u4 u7 cK) (λ_ _=>S)) (λ_ _=>S))) (ar (bH (bQ cU (cR en (by rfl) c4 dD (D (aG 1) aC)) (vO (el (v:=.ref pr) S c2 S) (aG 1) (λ_ _=>S)) (bU _)) (ar (cL (eK (T 0) bv ce dt (D dP aC))) (ar (dQ (T 1) (aG 0) S) (ar (cL (IQ fB QU PySem.F.type_list_pop IY (aG 0))) (ax Ht)))) bP) (ar (bH (PW.pt (uX (bQ qg (aG 1) (hn c6) (bU _)) (uV (rY (aG 1) (λ_=>S))))) (ax (cL (eK (T 0) bv ce dt (D dP aC)))) bP) (ax (cL (dR (T 0) c7 cd dt))))), ?_⟩;obtain⟨⟨X,ab⟩,fT,f0,f1,f2⟩:=b.rd;have dd:e<P.length:=b.bF.2.2.1 e bY
 obtain⟨y,am⟩:∃y,P[e]?=Y y:=⟨_,gj dd⟩
 have ch:=cH am;obtain⟨⟨as,a0⟩,ci⟩:=b.nd y ch;have cl:(P.map (·.i))[e]?=Y y.i:=by rw [bh,am];rfl
 obtain⟨dl,dp,ds,f4⟩:=db.at_ e bY;have cn:(P.map (·.i))[e]?=Y dl:=dp
 rw [cl]at cn;obtain rfl:=a8 cn;have f8:=Nb y.i.aJ
 have be:((e::k).reverse.map λE=>V.int ((E:Nat):Int))=(k.reverse.map λE=>V.int ((E:Nat):Int))++[V.int ((e:Nat):Int)]:=by rw [zq,aW];rfl
 refine⟨_,S,Q,d,X,_,_,S,ab,ap.cl,ap.nodes,mS,_,S,Q,d,X,_,_,S,ab,ap.cl,ap.around,lO,_,S,j,_,_,_,S,S,au.of b.around,by rw [be];exact vk _ _,W,_,_,_,S,S,au.of b.nodes,e2 (by rw [bh,am];rfl), ?_⟩;refine⟨_,S,y.a,p,as,_,_,S,a0,U.cl,U.parts,S,y.lp,_,S,.inl (au.of ci),_,S,y.a,p,as,_,_,S,a0,U.cl,U.aJ,S,pr,_,S,⟨gN,.inr (cD y.i.aJ),c3,S,Nd ds⟩,S,_,S, ?_⟩;rw [ag];have dx:ft ⟨A.drop M,P.map (·.i),e::k,P.map (·.sp)⟩=if y.i.parts.length=arity y.i.aJ then(pass [41] (A.drop M)).map λb=>(⟨b,P.map (·.i),k,(P.map (·.sp)).modify e λE=>(E.1,fl b)⟩:RX)
  else((if y.i.aJ≠.call\/y.i.parts≠[]then pass [32] (A.drop M)else Y (A.drop M))).bind λb=>fP ⟨b,P.map (·.i),e::k,P.map (·.sp)⟩:=by
  unfold ft;simp only [cl]
 rw [dx]at w;have co:∀{f:G},bK Q H f->Ext C f:=λdK c o an=>dK c o (b.ext c o an) (by intro g;rw [g,b.fresh.1]at an;cases an)
 by_cases a1:y.i.parts.length=arity y.i.aJ
 .rw [ak a1,CH (by decide)]at w;rw [ck (by rw [a1])];refine cf ⟨_,S,Q,X,_,S,ab,gx (.inr (.inr (.inl S))),Q,n,W,j,A,M,[41], ?_,b.rd,λf r s=> ?_⟩
  .rw [<-Nf];rfl
  by_cases h:wordAt A M=[41]
  .rw [ak h]at w⊢;have ad:=b.but s r
   obtain⟨⟨t,R⟩,ga,ge,gl,go⟩:=id r;obtain⟨⟨a2,cr⟩,gt⟩:=ad.nd y ch;refine⟨_,S,Q,d,t,_,_,S,R,ap.cl,ap.taken,wW,_,S,y.a,p,a2,_,S,cr,U.cl,U.end_,(by show 6<1000;decide), ?_⟩;have a3:=ad.jt (q:=fl (A.drop (M+1))) am cr
   have dL:upd f y.a (.ins p a2 (aO "end" (.int (jo A (h3 (M+1) A.length))) (eW y.i.aJ y.i.word y.i.parent y.lp ((fl A:Int)-y.sp.1) ((fl A:Int)-y.sp.2))))=upd f y.a (.ins p a2 (eW y.i.aJ y.i.word y.i.parent y.lp ((fl A:Int)-y.sp.1) ((fl A:Int)-(fl (A.drop (M+1)):Nat)))):=by rw [xb,xf];rfl
   rw [dL];generalize upd f y.a (.ins p a2 (eW y.i.aJ y.i.word y.i.parent y.lp ((fl A:Int)-y.sp.1) ((fl A:Int)-(fl (A.drop (M+1)):Nat))))=g1 at*;obtain⟨⟨dT,dX⟩,_⟩:=a3.rd;refine⟨_,S,Q,d,dT,_,_,S,dX,ap.cl,ap.around,lO,.inl ⟨S,_,au.of a3.around⟩,j,_,V.int (e:Nat),S,S,a3.around, ?_, ?_⟩
   .rw [be,bB];show(_++[_])[_+1-1]?=_
    rw [RB,hT (aX _),kY];rfl
   .rw [be,List.dropLast_concat];have d0:=a3.xa (A':=k) (by have:=b.bF.2.1;rw [dG]at this;omega) (λd1 em=>by rw [rH];exact b.bF.2.2.1 d1 (bM _ em))
    refine w _ _ _ d0 (xf A M).symm ?_ ?_
    .exact(kL (·.i) (Cf.jt (fl (A.drop (M+1)))) (λ_=>S) _ _).symm
    .exact(w9 (·.sp) (Cf.jt (fl (A.drop (M+1)))) _ (λ_=>S) _ _).symm
  .rw [N h]at w⊢;exact w f (co s)
 .rw [N a1]at w;rw [bT (λg=>a1 (by injection g with g;omega))];have eq:y.i.parts.length<30:=by omega
  have bi:∀bk cs,e::k=bk::cs->∀g,P[bk]?=Y g->g.i.parts.length<30:=λbk cs an g ct=>by injection an with es _;subst es;rw [am]at ct;obtain rfl:=a8 ct;exact eq
  refine b1 ⟨_,S,y.a,p,as,_,_,S,a0,U.cl,U.aJ,S,S,_,S, ?_⟩;have ev:decide (V.str (cD y.i.aJ)=V.str (dO "a call"))=decide (y.i.aJ=.call):=qW y.i.aJ .call
  rw [ev];have c0:∀(al:qY d p L C ca a5 Q n W j A ((pass [32] (A.drop M)).bind λb=>fP ⟨b,P.map (·.i),e::k,P.map (·.sp)⟩)),∀f,hO d f Q n W j A (h3 (M+1) A.length)->bK Q H f->(wordAt A M=[32]->∃t:Z,f Q=Y (.ins d t (jV n (h3 (M+1) A.length:Nat) (jo A (h3 (M+1) A.length)) W j))/\eA d p C f Q n W j A (h3 (M+1) A.length) P (e::k)/\qY d p L C ca a5 Q n W j A (fP ⟨A.drop (h3 (M+1) A.length),P.map (·.i),e::k,P.map (·.sp)⟩))/\(¬wordAt A M=[32]->a5 (.ref L) O f):=by
   intro al f r s;rw [CH (by decide)]at al;refine⟨λc=> ?_,λc=> ?_⟩
   .rw [ak c]at al;obtain⟨⟨t,R⟩,_⟩:=id r;refine⟨t,R,b.but s r, ?_⟩;rw [xf];exact al
   .rw [N c]at al;exact al f (co s)
  by_cases h:y.i.aJ=.call
  .rw [ck h];refine b1 ⟨_,S,y.a,p,as,_,_,S,a0,U.cl,U.parts,S,_,.inl ⟨_,au.of ci,S⟩, ?_⟩;by_cases a4:y.i.parts=[]
   .rw [N (by rw [h,a4];simp)]at w;rw [a4];exact b1 ⟨_,S,Q,X,_,S,ab,gx (.inr (.inr (.inr (.inl S)))),Q,n,W,j,A,M,C,P,e::k,S,b,bd,bi,w⟩
   .rw [ak (.inr a4)]at w;have ex:(!(y.i.parts.map λE=>V.int ((E:Nat):Int)).isEmpty)=I:=by
     cases fa:y.i.parts with
     |nil=>exact absurd fa a4
     |cons u v=>rfl
    rw [ex];refine cf ⟨_,S,Q,X,_,S,ab,gx (.inr (.inr (.inl S))),Q,n,W,j,A,M,[32], ?_,b.rd,λf r s=> ?_⟩
    .rw [<-w7];rfl
    obtain⟨bl,bm⟩:=c0 w f r s;by_cases x:wordAt A M=[32]
    .rw [ak x];obtain⟨t,R,ad,bn⟩:=bl x;exact⟨_,S,Q,t,_,S,R,gx (.inr (.inr (.inr (.inl S)))),Q,n,W,j,A,_,C,P,e::k,S,ad,bd,bi,bn⟩
    .rw [N x];exact bm x
  .rw [ak (.inl h)]at w;rw [bT h];refine cf (cf ⟨_,S,Q,X,_,S,ab,gx (.inr (.inr (.inl S))),Q,n,W,j,A,M,[32], ?_,b.rd,λf r s=> ?_⟩)
   .rw [<-w7];rfl
   obtain⟨bl,bm⟩:=c0 w f r s;by_cases x:wordAt A M=[32]
   .rw [ak x];obtain⟨t,R,ad,bn⟩:=bl x;exact⟨_,S,Q,t,_,S,R,gx (.inr (.inr (.inr (.inl S)))),Q,n,W,j,A,_,C,P,e::k,S,ad,bd,bi,bn⟩
   .rw [N x];exact bm x
abbrev CJ:a6:=inClass (top 21) 0
abbrev CK:a6:=top 26
def pa(A:UInt8):Bool:=e8 A||A==63
def pb:∀(U M D:ai),(M.all λA=>pa A&& !fO A)=I->(U.all pa)=I->D∈bX M U->ib D=I/\(¬(32:UInt8)∈D\/D=[32])/\D.length<=M.length+U.length
 |[],M,D,hw,b,a=>by
  rw [bX]at a;split at a
  .cases a
  .rw [bf.mp a];refine⟨?_,.inl λd=> ?_,by simp⟩
   .rw [j9]at hw;unfold ib;rw [j9];intro A g;have:=hw A g
    rw [bz]at this;exact this.1
   .rw [j9]at hw;have:=hw 32 d
    revert this;decide
 |A::e,M,D,hw,b,a=>by
  rw [jA,bz]at b;rw [bX]at a;split at a
  .rename_i f;have:D∈(if M.isEmpty=I then []else [M])\/D=[A]\/D∈bX [] e:=by
    rcases bS.mp a with G|G
    .exact .inl G
    .rcases bb.mp G with G|G
     .exact .inr (.inl G)
     .exact .inr (.inr G)
   rcases this with G|G|G
   .have h:D∈bX M []:=by rw [bX];exact G
    obtain⟨N,Q,T⟩:=pb [] M D hw rfl h;exact⟨N,Q,by simp at T⊢;omega⟩
   .subst G;refine⟨?_, ?_,by simp;omega⟩
    .show([A].all λA=>e8 A||A==63)=I;rw [jA,bz];exact⟨b.1,S⟩
    .by_cases c:A=32
     .exact .inr (by rw [c])
     .exact .inl λd=>c (bf.mp d).symm
   .obtain⟨N,Q,T⟩:=pb e [] D S b.2 G;exact⟨N,Q,by simp at T⊢;omega⟩
  .rename_i f;have i:((M++[A]).all λA=>pa A&& !fO A)=I:=by
    rw [za,hw,rG,jA,List.all_nil,Bool.and_true,b.1,rG];simpa using f
   obtain⟨N,Q,T⟩:=pb e (M++[A]) D i b.2 a;exact⟨N,Q,by simp at T⊢;omega⟩
def xg:∀(D A:ai),(bX A D).length<=2*D.length+1
 |[],A=>by rw [bX];split<;>simp
 |b::a,A=>by
  rw [bX];have G:=xg a []
  have M:=xg a (A++[b]);split
  .rw [bB,dG,dG];split<;>simp<;>omega
  .rw [dG];omega
def xh(D:ai):((D.map norm).all pa)=I:=by
 rw [Sj,j9];intro A _;show pa (norm A)=I
 unfold norm pa;by_cases c:e8 A=I
 .rw [ak c,c];rfl
 .rw [N c];decide
def Nh(A:ai):mV (bX [] (A.map norm)):=⟨λD G=>(pb _ [] D S (xh A) G).1,λD G=>(pb _ [] D S (xh A) G).2.1⟩
def Ni(A:ai):fl (bX [] (A.map norm))=A.length:=by rw [<-wz,qE,cV,ag]
def CM(N:Z):Sp:=λT H a _=>∃A Q S,T=[.ref A,.ref S]/\H A=Y (.ins N Q [])/\
 ∀D G M,bK A H D->H G=O->H M=O->G≠M->G≠A->M≠A->D G=Y (.lst [])->D M=Y (.lst [])->D A=Y (.ins N Q (jV S 0 0 G M))->a .br D
def Nj(n:a7 K "__init__" "Reading.__init__" CJ p o0)(D:kH K d):aS l m K z B aD 1 p o0 ["self","words"] (CM d):=by
 refine n.go ["self","words"] λu v x y H U b C E w _ _ _=> ?_;obtain⟨c,e,F,rfl,q,r⟩:=w;refine⟨_,ar (dQ (T 0) (T 1) S) (ar (dQ (T 0) cK S) (ar (dQ (T 0) cK S) (ar (dQ (T 0) (dg aC) S) (ax (dQ (T 0) (dg aC) S))))), ?_⟩;refine⟨_,S,_,S,c,d,e,_,S,q,D.cl,D.words,(by show 0<1000;decide), ?_⟩;refine⟨_,S,c,d,e,_,S,M,D.cl,D.at_,(by show 1<1000;decide), ?_⟩;refine⟨_,S,c,d,e,_,S,M,D.cl,D.taken,(by show 2<1000;decide), ?_⟩;refine⟨cP _,λg k=> ?_⟩;have G:g≠c:=by intro N;rw [N,M]at k;cases k
 refine⟨_,S,c,d,e,_,S,by rw [Q G.symm,M],D.cl,D.nodes,(by show 3<1000;decide), ?_⟩;refine⟨cP _,λh a=> ?_⟩;have A:h≠c:=by intro N;rw [N,M]at a;cases a
 have i:h≠g:=by intro N;rw [Q A,N,M]at a;cases a
 refine⟨_,S,c,d,e,_,S,by rw [Q A.symm,M],D.cl,D.around,(by show 4<1000;decide), ?_⟩;refine r _ g h (λP o j f=> ?_) ?_ ?_ i.symm G A ?_ ?_ M
 .have s:P≠g:=by intro N;rw [Q G,Q G,Q G,<-N,j]at k;cases k
  have t:P≠h:=by intro N;rw [Q A,Q i,Q A,Q A,Q A,<-N,j]at a;cases a
  rw [Q f,Q t,Q f,Q s,Q f,Q f,Q f];exact j
 .rw [Q G,Q G,Q G]at k;exact k
 .rw [Q A,Q i,Q A,Q A,Q A]at a;exact a
 .rw [Q G,Q i.symm,Q G,M]
 .rw [Q A,M]
def xi(Q S:Z)(H:G)(T:VK)(a:XK)(b:Nat):Option (List Info×List (Nat×Nat))->Prop
 |none=>∀A,Ext H A->a (.ref S) O A
 |some (ns,sp)=>∀(A:G) (M:Z) (D:List NR),Ext H A->H M=O->A M=Y (.lst (D.map λN=>V.ref N.a))->(∀N∈D,gO Q b A N)->D.map (·.i)=ns->D.map (·.sp)=sp->T (.ref M) A
def xj(G M:Z):Sp:=λN H Q S=>∃D,∃A:ai,N=[.ref D]/\H D=Y (.lst (A.map λT=>V.int (T.toNat:Int)))/\A.length<=9000/\xi G M H Q S A.length (hK (bX [] (A.map norm)))
def Nk(c4:a7 K "read_expression" "read_expression" CK pr o0)(U:kH K d)(c5:z "NoProgram"=Y (.ref L))(c6:gS K L f5 "Exception.__new__"=I)(c7:z "len"=O)(c8:bx l m K z B aD 1 "signs_of" ["text"] Ci) (c9:bx l m K z B aD 1 "words_of" ["signs"] Ca) (db:iD l m K z B aD 1 "Reading" d ["self","words"] (CM d))(dd:cC l m K z B (bA l m) 6 d "begin_node" ["self"] (xc d p L)) (dl:cC l m K z B (bA l m) 7 d "read_on" ["self"] (CI d p L)):aS l m K z B (bA l m) 8 pr o0 ["text"] (xj p L):=by
 refine c4.eu ["text","reading"] λgt g1 g2 g3 H hd bt as t e dp _ sz=> ?_;obtain⟨a0,i,rfl,a1,he,q⟩:=e;have bv:=t.mo 1
 have ds:=t.mo 2;have dx:=t.mo 6
 refine⟨_,ar (bo 1 dp (iE (E:=E0) db ds cy (D (bG c9 bv (D (bG c8 bv (aK 0)) aC)) aC))) (ar (cL (dR (T 1) dd dx dt)) (ar (n6 zr (rY (aG 1) (λ_=>S)) (ax (cL (dR (T 1) dl t dt)))) (ar (bH (bQ rX (aG 1) (cR en (by rfl) c7 dD (D (aG 1) aC)) (bU _)) (ax (jN kd (by decide) c6 S c5 t.hd)) bP) (ax (aQ (aG 1)))))), ?_⟩;have a2:=Nh i
 have dK:=xg (i.map norm) [];rw [ag]at dK;have dL:∀u∈bX [] (i.map norm),u.length<=10000:=λu dT=>by have:=(pb _ [] u S (xh i) dT).2.2;rw [ag]at this;simp at this;omega
 have dX:=Ni i;refine⟨_,S,a0,i,S,a1,by omega,λca ad=> ?_⟩;refine⟨i.map norm,S,by rw [ag];omega,λg C a3 d0 P=> ?_⟩;have a3:Ext ca C:=a3
 have ad:Ext H ca:=ad;generalize bX [] (i.map norm)=ws at*;intro a v a4 cd hf;have ce:g≠a:=cB P a4
 have d1:g≠v:=cB P cd;refine⟨a,v,g,S,M,λa5 r x ch ci cl em hi hm eq es ev=>⟨S, ?_⟩⟩;have al:=ad.trans a3
 have ex:Ext H a5:=λj o h=>by
  have bd:=al j o h;have R:j≠a:=cB bd a4
  have be:j≠v:=cB bd cd;exact ch j o (by rw [Q R,Q be];exact bd) R
 have fa:a5 g=Y (.lst (ws.map λu=>V.str (bw u))):=ch g _ (by rw [Q ce,Q d1];exact P) ce;have am:∀{j:Z},upd (upd C v (.own a)) a (.ins d v []) j=O->C j=O:=λ{j} h=>by
  have R:j≠a:=by intro X;rw [X,M]at h;cases h
  have be:j≠v:=by intro X;rw [Q R,X,M]at h;cases h
  rw [Q R,Q be]at h;exact h
 have cn:eA d p H a5 a g r x ws 0 [] []:=
  ⟨⟨⟨v,ev⟩,fa,cP _,by omega,dL⟩,eq,es,(λ_ e=>nomatch e),gT,gT,(λ_ e=>nomatch e),em,⟨cB (H:=C) P (am cl),cB (H:=C) P (am ci)⟩,ex,⟨al.none a4,al.none (am ci),al.none (am cl),ad.none d0,λ_ e=>nomatch e⟩,by decide,by decide,(λ_ e=>nomatch e),(λ_ e=>nomatch e)⟩
 obtain⟨⟨fd,fl⟩,_⟩:=cn.rd;refine⟨_,S,a,fd,_,S,fl,gx (.inr (.inr (.inr (.inl S)))),a,g,r,x,ws,0,H,[],[],S,cn,a2,(λs hz h=>nomatch h), ?_⟩;show qY d p L H _ as a g r x ws (fP ⟨ws,[],[],[]⟩)
 cases bi:fP ⟨ws,[],[],[]⟩with
 |none=>
  have bk:hK ws=O:=by unfold hK;rw [bi];rfl
  rw [bk]at q;exact q
 |some f=>
 intro h0 G A fm fn fr fs;have bk:hK ws=(ep f).bind λf=>if f.ws=[]then Y (f.nodes,f.sp)else O:=by unfold hK;rw [bi];rfl
 rw [bk]at q;have fT:lU f:=CG bi ⟨(λs f0=>nomatch f0),gT⟩ (λs w h=>nomatch h)
 have co:f=⟨ws.drop G,A.map (·.i),f.around,A.map (·.sp)⟩:=by rw [<-fn,<-fr,<-fs]
 refine⟨λcr cs an=>∃G A w,cs=[Y (.ref a0),Y (.ref a)]/\eA d p H an a g r x ws G A w/\lU ⟨ws.drop G,A.map (·.i),w,A.map (·.sp)⟩/\ep ⟨ws.drop G,A.map (·.i),w,A.map (·.sp)⟩=ep f/\cr=(ws.drop G).length,⟨_,G,A,f.around,S,fm,by rw [<-co];exact fT,by rw [<-co],S⟩, ?_⟩;rintro cr cs an ⟨G,A,w,rfl,n,bl,ct,rfl⟩;obtain⟨⟨y,bn⟩,f1,h1,_⟩:=n.rd;refine⟨_,S,a,d,y,_,_,S,bn,U.cl,U.around,lO,_,.inl ⟨_,au.of n.around,S⟩, ?_⟩;cases w with
 |nil=>
  refine b1 ?_;have k:ep f=Y ⟨ws.drop G,A.map (·.i),[],A.map (·.sp)⟩:=by rw [<-ct,mP,ak S]
  rw [k]at q;refine⟨_,S,a,d,y,_,_,S,bn,U.cl,U.at_,sX,_,S,a,d,y,_,_,S,bn,U.cl,U.words,sY,g,_,S,.inl (au.of f1),_,_,S,S,_,S, ?_⟩;rw [ag];by_cases c:G<ws.length
  .rw [ck (by omega)];have:¬ws.drop G=[]:=by rw [jW c];intro X;cases X
   have ab:xi p L H bt as i.length (if ws.drop G=[]then Y (A.map (·.i),A.map (·.sp))else O):=q;rw [N this]at ab;exact cf (ab an n.ext)
  .rw [bT (by omega)];have ab:xi p L H bt as i.length (if ws.drop G=[]then Y (A.map (·.i),A.map (·.sp))else O):=q
   rw [ak (js (by omega))]at ab;refine b1 ⟨_,S,a,d,y,_,_,S,bn,U.cl,U.nodes,mS,ab an r A n.ext n.fresh.2.1 n.nodes (λf2 t=> ?_) S rfl⟩;rw [<-dX];exact n.nd f2 t
 |cons s w=>
  have f4:(!((s::w).reverse.map λu=>V.int ((u:Nat):Int)).isEmpty)=I:=by rw [zq,aW];simp
  rw [f4];refine cf ?_;have k:ep f=(ft ⟨ws.drop G,A.map (·.i),s::w,A.map (·.sp)⟩).bind ep:=by rw [<-ct,mP,N (by simp)]
  cases b:ft ⟨ws.drop G,A.map (·.i),s::w,A.map (·.sp)⟩with
  |none=>
   rw [b]at k;have k:ep f=O:=k
   rw [k]at q;refine⟨λ_ _=>False,(λ_ _ e=>e.elim),_,S,a,y,_,S,bn,gx (.inr (.inr (.inr (.inr (.inr (.inr S)))))),a,g,r,x,ws,G,H,A,s,w,S,n,a2,bl, ?_⟩;rw [b];exact q
  |some ap=>
   rw [b]at k;have k:ep f=ep ap:=k
   have a1:=mO b;refine⟨λf8 ga=>∃c0,c0<(ws.drop G).length/\∃G A w,f8=[Y (.ref a0),Y (.ref a)]/\eA d p H ga a g r x ws G A w/\lU ⟨ws.drop G,A.map (·.i),w,A.map (·.sp)⟩/\ep ⟨ws.drop G,A.map (·.i),w,A.map (·.sp)⟩=ep f/\c0=(ws.drop G).length,(λ_ _ e=>e),_,S,a,y,_,S,bn,gx (.inr (.inr (.inr (.inr (.inr (.inr S)))))),a,g,r,x,ws,G,H,A,s,w,S,n,a2,bl, ?_⟩;rw [b];intro h2 c1 bm ge c2 gl go;have c3:ap=⟨ws.drop c1,bm.map (·.i),ap.around,bm.map (·.sp)⟩:=by rw [<-c2,<-gl,<-go]
   exact⟨_,by rw [<-c2];exact a1,c1,bm,ap.around,S,ge,by rw [<-c3];exact Nc b bl,by rw [<-c3,k],S⟩
def da.upd{K:ah}{H:G}{N:Wy}{o:HO}(D:cX (H d)\/H d=O)(Q:da K H p N):da K (L2.upd H d o) p N:=by obtain⟨S,T,U,a,b⟩:=Q;exact⟨S,T,bC D U,bC D a,bC D b⟩
abbrev CO:a6:=top 50
def CP(P:az)(w:aw)(K:ah)(e f:Z):Sp:=λg H h _=>∃Q D M S T a c b G,g=[.ref Q,.int (M:Nat),.ref S]/\lQ K e f H Q D/\D.nodes[M]?=Y a/\a.parts=[c,b]/\TabAt P w K H S T/\ba T (0,c)=Y G/\G.length<=1000/\
 (∀u∈d4 1 G,∃d i A,D.nodes[u]?=Y d/\d.parts=i::A)/\∀A N,Ext H N->H A=O->jr K N A (jT D M b (d4 1 G))->h (.ref A) N
def Nl{y:Z}(dp:a7 K "call_ways" "call_ways" CO p o0)(b:qX K y d)(be:Gs z)(ds:z "FUNCTION_KIND"=Y (.int 1 wP))(dx:bx l m K z B aD 1 "labels_at" ["table","label","kind"] (w2 l m K)):aS l m K z B aD 2 p o0 ["program","label","table"] (CP l m K y d):=by
 obtain⟨h1,am⟩:=be.node;obtain⟨h2,dK⟩:=be.name;refine dp.go ["program","label","table","node","ways","fun","body"] λid ii im io H is it ix dL an a5 _ sz=> ?_;obtain⟨ap,t,P,bi,dT,jp,c,f,g,rfl,dX,d0,d1,em,eq,kk,es,ev⟩:=an;refine⟨_,ar (bo 3 a5 (cc di (aG 0) (T 1) (λ_ _=>S))) (ar (bo 4 a5 (dg aC)) (ar (d2 dY S (dy (gL dx dL cy (D (T 2) (D (cc di (aG 3) cK (λ_ _=>S)) (D (b8 ds) aC))))) (bW 5 a5) (ar (bo 6 a5 (cc di (fX (cc di (aG 0) (T 5) (λ_ _=>S)) S) cK (λ_ _=>S))) (ar (cL (fj fB gh gH fY (T 4) (D (b6 (D (b6 (D (b8 am) (D (cc di (aG 3) cK (λ_ _=>S)) aC))) (D (b6 (D (b8 dK) (aK 5))) aC))) aC))) (ax (cL (fj fB gh gH fY (T 4) (D (b6 (D (b6 (D (b8 am) (aK 6))) (D (b6 (D (b8 am) (aK 1))) aC))) aC))))))) (ax (aQ (T 4))))), ?_⟩;obtain⟨bk,kp,⟨bl,bm,bn,bs⟩,bt,bv⟩:=dX.nodes;obtain⟨as,ex,fa⟩:=lR bv d0;obtain⟨ca,⟨cd,ce,ch,ci⟩,a0⟩:=fa.parts;rw [d1]at a0;refine⟨_,S,ap,y,bl,bm,_,S,bn,b.c,b.nodes,bs,_,S,bk,_,_,_,S,S,au.of bt,e2 (by rw [bh,ex];rfl), ?_⟩;refine⟨cP _,λG s=> ?_⟩;have C:Ext H (upd H G (.lst [])):=Ext.one s
 refine⟨_,S,_,S,as,d,cd,ce,_,S,C _ _ ch,b.cn,b.parts,ci,ca,_,_,_,S,S,au.of (C _ _ a0),S, ?_⟩;refine⟨bi,dT,c,1,g,S,em.ext C,eq,by omega,λE ks cl cn co=> ?_⟩;have cr:E≠G:=by intro h;rw [h,M]at cn;cases cn
 refine⟨E,S,⟨_,au.of co⟩, ?_⟩;refine fC (xs:=(d4 1 g).map λk=>V.int (k:Nat)) (λw L e=>∃a1 a2,L=[Y (.ref ap),Y (.int (P:Nat)),Y (.ref bi),Y (.ref as),Y (.ref G),a1,a2]/\(∃A,e G=Y (.lst (A.map V.ref))/\cO (da K e) A (jT t P f ((d4 1 g).take w))/\A.length<=2*w)/\Ext H e/\e E=Y (.lst ((d4 1 g).map λk=>V.int (k:Nat)))) ?_ ?_ ?_ ?_
 .exact⟨O,O,S,⟨[],cl _ _ M,.nil,cP _⟩,C.trans cl,co⟩
 .rintro w L e _ ⟨_,_,_,_,_,an⟩;exact au.of an
 .rintro w k L e v ⟨a1,a2,rfl,⟨A,R,W,fd⟩,i,cs⟩;rw [bh]at v;cases x:(d4 1 g)[w]? with
  |none=>rw [x]at v;cases v
  |some u=>
   rw [x]at v;obtain rfl:=a8 v;obtain⟨fl,a,kt,ct,c0⟩:=es u (cH x);have kw:w<1000:=by
    have:=(cM.mp x).1;have kV:(d4 1 g).length<=g.length:=iZ _ _
    omega
   have fm:mJ t u=a:=by unfold mJ;rw [ct];show fl.parts.headD 0=a;rw [c0];rfl
   have wP:jT t P f ((d4 1 g).take (w+1))=jT t P f ((d4 1 g).take w)++[((0,f),(1,u))]++[((0,a),(0,P))]:=by
    rw [dm,x];unfold jT;rw [kZ];show _++([((0,f),(1,u)),((0,mJ t u),(0,P))]++[])=_
    rw [fm,cv];rfl
   obtain⟨fn,fr,fs⟩:=lR bv ct;obtain⟨fT,⟨f0,f1,f2,f4⟩,c1⟩:=fs.parts;rw [c0]at c1;refine⟨_,S,ap,y,bl,bm,_,S,i _ _ bn,b.c,b.nodes,bs,_,S,bk,_,_,_,S,S,au.of (i _ _ bt),e2 (by rw [bh,fr];rfl),fn,d,f0,f1,_,S,i _ _ f2,b.cn,b.parts,f4,fT,_,_,_,S,S,au.of (i _ _ c1),e2 (j:=0) S, ?_⟩;refine⟨_,S,.inl ⟨S,_,au.of R⟩,_,S,as,d,cd,ce,_,S,i _ _ ch,b.cn,b.parts,ci,ca,_,_,_,S,S,au.of (i _ _ a0),S,cE,λU f8=>⟨_,S,cE,λn c2=>⟨cE,λN a3=> ?_⟩⟩⟩;have c3:=Ext.one (o:=.tup [.int 0,.int (f:Nat)]) f8
   have c4:=c3.new (o:=.tup [.int 1,.int (u:Nat)]) c2;have X:=c4.new (o:=.tup [.ref U,.ref n]) a3
   have ga:da K (upd (upd (upd e U (.tup [.int 0,.int (f:Nat)])) n (.tup [.int 1,.int (u:Nat)])) N (.tup [.ref U,.ref n])) N ((0,f),(1,u)):=⟨U,n,av.of M,((Ext.one c2).new a3).aP (av.of M),(Ext.one a3).aP (av.of M)⟩
   have ge:=Paired.cb W λa k h=>da.ext X h;have c5:=X _ _ R
   have gl:=i.trans X;have go:=X _ _ cs
   clear c3 c4;generalize upd (upd (upd e U (.tup [.int 0,.int (f:Nat)])) n (.tup [.int 1,.int (u:Nat)])) N (.tup [.ref U,.ref n])=al at*;refine⟨G,_,_,S,S,c5,by rw [ag];omega, ?_⟩;have c6:cX (al G)\/al G=O:=.inl (by rw [c5];exact trivial)
   have gt:=fS (Paired.cb ge λa k h=>da.upd (o:=.lst ((A++[N]).map V.ref)) c6 h) (da.upd (o:=.lst ((A++[N]).map V.ref)) c6 ga);have g1:(A.map V.ref++[V.ref N])=(A++[N]).map V.ref:=by rw [aW];rfl
   rw [g1];have g2:Ext H (upd al G (.lst ((A++[N]).map V.ref))):=gl.upd s
   have c7:upd al G (.lst ((A++[N]).map V.ref)) G=Y (.lst ((A++[N]).map V.ref)):=M;have g3:upd al G (.lst ((A++[N]).map V.ref)) E=_:=(Q cr).trans go
   generalize upd al G (.lst ((A++[N]).map V.ref))=c8 at*;refine⟨_,S,.inl ⟨S,_,au.of c7⟩,_,S,cE,λq hd=>⟨_,S,cE,λr c9=>⟨cE,λab a4=> ?_⟩⟩⟩;have he:=Ext.one (o:=.tup [.int 0,.int (a:Nat)]) hd
   have hf:=he.new (o:=.tup [.int 0,.int (P:Nat)]) c9;have ad:=hf.new (o:=.tup [.ref q,.ref r]) a4
   have hi:da K (upd (upd (upd c8 q (.tup [.int 0,.int (a:Nat)])) r (.tup [.int 0,.int (P:Nat)])) ab (.tup [.ref q,.ref r])) ab ((0,a),(0,P)):=⟨q,r,av.of M,((Ext.one c9).new a4).aP (av.of M),(Ext.one a4).aP (av.of M)⟩
   have hm:=Paired.cb gt λa k h=>da.ext ad h;have db:=ad _ _ c7
   have hz:=g2.trans ad;have h0:=ad _ _ g3
   generalize upd (upd (upd c8 q (.tup [.int 0,.int (a:Nat)])) r (.tup [.int 0,.int (P:Nat)])) ab (.tup [.ref q,.ref r])=dd at*;refine⟨G,_,_,S,S,db,by rw [ag,bB];show A.length+1<aR;omega,_,_,S,⟨A++[N]++[ab], ?_, ?_, ?_⟩,hz.upd s,(Q cr).trans h0⟩
   .rw [M,aW (l₁:=A++[N])];rfl
   .rw [wP];have dl:cX (dd G)\/dd G=O:=.inl (by rw [db];exact trivial)
    exact fS (Paired.cb hm λa k h=>da.upd dl h) (da.upd dl hi)
   .rw [bB,bB];show A.length+1+1<=_;omega
 .rintro L e ⟨a1,a2,rfl,⟨A,R,W,fd⟩,i,cs⟩;rw [ag,dB]at W;exact⟨_,S,ev G e i s ⟨A,R,W⟩⟩
variable{Tl:G->Prop}
def xk{K:ah}{kk:Nat}(s:q L=Y (.lst (wr.map λb=>V.int (b:Nat))))(t:q d=O)(am:av K q p (b2 s0))(an:r<s4.length) (ap:s4[AT]?=Y (Y (.ref p))) (as:r≠AT) (a5:wr.length<=10000) (a0:∀T,Ext q T->jr K T d (wr.map λu=>((kk,u),s0))->Tl T):∃v:Nat->Nat->G->Prop,(∃m,v 0 m (upd q d (.lst [])))/\∀i m H,v i m H->((hA K L).stop i H/\Tl H)\/((hA K L).go i H/\∃w:G->Prop,(∀T,w T->∃F,F<m/\v (i+1) F T)/\∀b T,(hA K L).hg i H b T->lh r b (wipe s4 [r]) T λx D=>wipe x [r]=wipe s4 [r]/\hl x D λA P=>if A=I then qh (jI (qh (jI (tC (.int (kk:Nat))) (jI (jF r) jH))) (jI (jF AT) jH)) x P λy R=>∃z,R d=Y (.lst z)/\z.length<aR/\w (upd R d (.lst (z++[y])))else w P):=by
 have sz:(20000:Nat)<aR:=by decide
 have bd:L≠d:=by intro B;rw [B,t]at s;cases s
 refine hD (xs:=wr.map λb=>V.int (b:Nat)) (λc D=>(∃f,D d=Y (.lst (f.map V.ref))/\cO (da K D) f ((wr.take c).map λu=>((kk,u),s0))/\f.length<=c)/\Ext q D) ?_ ?_ ?_ ?_
 .exact⟨⟨[],M,.nil,aX _⟩,Ext.one t⟩
 .rintro c D _ ⟨_,a1⟩;exact au.of (a1 _ _ s)
 .rintro c b D j ⟨⟨f,C,n,X⟩,Q⟩;rw [bh]at j;cases U:wr[c]? with
  |none=>rw [U]at j;cases j
  |some u=>
   rw [U]at j;obtain rfl:=a8 j;have be:c<wr.length:=(cM.mp U).1
   have a2:(wr.take (c+1)).map (λu=>(((kk,u),s0):Wy))=(wr.take c).map (λu=>((kk,u),s0))++[((kk,u),s0)]:=by rw [dm,U,aW];rfl
   refine⟨?_, ?_⟩
   .show(((s4.set r O).set r _).set r O)=s4.set r O;rw [nV,nV]
   unfold hl;dsimp only [];rw [ak S];refine⟨.int (u:Nat), ?_,cE,λN a3=>⟨.ref p, ?_,cE,λk ab=> ?_⟩⟩
   .show((s4.set r O).set r _)[r]?=_;rw [nV,t4 an]
   .show((s4.set r O).set r _)[AT]?=_;rw [nV,t5 as];exact ap
   have a:=(Ext.one (o:=.tup [.int (kk:Nat),.int (u:Nat)]) a3).new (o:=.tup [.ref N,.ref p]) ab;have a4:da K (upd (upd D N (.tup [.int (kk:Nat),.int (u:Nat)])) k (.tup [.ref N,.ref p])) k ((kk,u),s0):=⟨N,p,av.of M,(Ext.one ab).aP (av.of M),(Q.trans a).aP am⟩
   have ad:=a _ _ C;have al:cX ((upd (upd D N (.tup [.int (kk:Nat),.int (u:Nat)])) k (.tup [.ref N,.ref p])) d)\/(upd (upd D N (.tup [.int (kk:Nat),.int (u:Nat)])) k (.tup [.ref N,.ref p])) d=O:=.inl (by rw [ad];exact trivial)
   refine⟨_,ad,by rw [ag];omega,⟨f++[k], ?_, ?_,by rw [bB];exact p6 X 1⟩,(Q.trans a).upd t⟩
   .rw [M,aW];rfl
   .rw [a2];exact fS (Paired.cb n λA b B=>da.upd al (da.ext a B)) (da.upd al a4)
 .rintro D ⟨⟨f,C,n,X⟩,Q⟩;rw [ag,dB]at n;exact a0 D Q ⟨f,C,n⟩
def Nm{K:ah}{q:Pr}{kk:Nat}(ad:sK L=Y (.lst (wr.map λb=>V.int (b:Nat))))(B:sK p=O)(al:av K sK d (b2 q))(am:r<s4.length) (an:s4[AT]?=Y (Y (.ref d))) (ap:r≠AT) (a5:wr.length<=10000) (as:∀Q,Ext sK Q->jr K Q p (wr.map λu=>(q,(kk,u)))->Tl Q):∃s:Nat->Nat->G->Prop,(∃l,s 0 l (upd sK p (.lst [])))/\∀g l H,s g l H->((hA K L).stop g H/\Tl H)\/((hA K L).go g H/\∃t:G->Prop,(∀Q,t Q->∃C,C<l/\s (g+1) C Q)/\∀b Q,(hA K L).hg g H b Q->lh r b (wipe s4 [r]) Q λv D=>wipe v [r]=wipe s4 [r]/\hl v D λE F=>if E=I then qh (jI (jF AT) (jI (qh (jI (tC (.int (kk:Nat))) (jI (jF r) jH))) jH)) v F λy A=>∃w,A p=Y (.lst w)/\w.length<aR/\t (upd A p (.lst (w++[y])))else t F):=by
 have sz:(20000:Nat)<aR:=by decide
 refine hD (xs:=wr.map λb=>V.int (b:Nat)) (λc D=>(∃e,D p=Y (.lst (e.map V.ref))/\cO (da K D) e ((wr.take c).map λu=>(q,(kk,u)))/\e.length<=c)/\Ext sK D) ?_ ?_ ?_ ?_
 .exact⟨⟨[],M,.nil,aX _⟩,Ext.one B⟩
 .rintro c D _ ⟨_,a0⟩;exact au.of (a0 _ _ ad)
 .rintro c b D h ⟨⟨e,x,m,P⟩,n⟩;rw [bh]at h;cases T:wr[c]? with
  |none=>rw [T]at h;cases h
  |some u=>
   rw [T]at h;obtain rfl:=a8 h;have bd:c<wr.length:=(cM.mp T).1
   have a1:(wr.take (c+1)).map (λu=>((q,(kk,u)):Wy))=(wr.take c).map (λu=>(q,(kk,u)))++[(q,(kk,u))]:=by rw [dm,T,aW];rfl
   refine⟨?_, ?_⟩
   .show(((s4.set r O).set r _).set r O)=s4.set r O;rw [nV,nV]
   unfold hl;dsimp only [];rw [ak S];refine⟨.ref d, ?_,.int (u:Nat), ?_,cE,λN a2=>⟨cE,λi R=> ?_⟩⟩
   .show((s4.set r O).set r _)[AT]?=_;rw [nV,t5 ap];exact an
   .show((s4.set r O).set r _)[r]?=_;rw [nV,t4 am]
   have U:=(Ext.one (o:=.tup [.int (kk:Nat),.int (u:Nat)]) a2).new (o:=.tup [.ref d,.ref N]) R;have a3:da K (upd (upd D N (.tup [.int (kk:Nat),.int (u:Nat)])) i (.tup [.ref d,.ref N])) i (q,(kk,u)):=⟨d,N,av.of M,(n.trans U).aP al,(Ext.one R).aP (av.of M)⟩
   have X:=U _ _ x;have ab:cX ((upd (upd D N (.tup [.int (kk:Nat),.int (u:Nat)])) i (.tup [.ref d,.ref N])) p)\/(upd (upd D N (.tup [.int (kk:Nat),.int (u:Nat)])) i (.tup [.ref d,.ref N])) p=O:=.inl (by rw [X];exact trivial)
   refine⟨_,X,by rw [ag];omega,⟨e++[i], ?_, ?_,by rw [bB];exact p6 P 1⟩,(n.trans U).upd B⟩
   .rw [M,aW];rfl
   .rw [a1];exact fS (Paired.cb m λE b a4=>da.upd ab (da.ext U a4)) (da.upd ab a3)
 .rintro D ⟨⟨e,x,m,P⟩,n⟩;rw [ag,dB]at m;exact as D n ⟨e,x,m⟩
structure Gk(U:aa->Option J):Prop where
 fn:∃A,U "FUNCTION_KIND"=Y (.int 1 A)
 pair:∃A,U "PAIR_KIND"=Y (.int 2 A)
 ref:∃A,U "REFERENCE_KIND"=Y (.int 3 A)
abbrev xl:a6:=top 49
def CQ(P:az)(w:aw)(K:ah)(d e:Z):Sp:=λf H g _=>∃T G M a N A,f=[.ref T,.int (M:Nat),.ref a]/\lQ K d e H T G/\G.nodes[M]?=Y A/\A.parts.length=arity A.aJ/\TabAt P w K H a N/\
 (∀c∈A.parts,∃Q,ba N (0,c)=Y Q/\Q.length<=1000/\∀u∈d4 1 Q,∃b h D,G.nodes[u]?=Y b/\b.parts=h::D)/\∀D S,Ext H S->H D=O->jr K S D (fq G N M A.aJ A.parts)->g (.ref D) S
def Nn(c7:a7 K "ways_by_facts" "ways_by_facts" xl L o0)(A:qX K d p)(al:Gs z)(cd:Gk z)(bn:bx l m K z B aD 1 "labels_at" ["table","label","kind"] (w2 l m K))(c8:bx l m K z B aD 2 "call_ways" ["program","label","table"] (CP l m K d p)):aS l m K z B aD 3 L o0 ["program","label","table"] (CQ l m K d p):=by
 obtain⟨ex,cr⟩:=al.node;obtain⟨fa,c9⟩:=al.first;obtain⟨fd,db⟩:=al.second;obtain⟨fl,cs⟩:=al.inside;obtain⟨fm,dd⟩:=al.call;obtain⟨fn,fr⟩:=cd.fn;obtain⟨fs,ct⟩:=cd.pair;obtain⟨fT,c0⟩:=cd.ref;refine c7.go ["program","label","table","node","here","put","pair","made"] λdl dp f0 g H f1 f2 f4 c1 R i _ _=> ?_;obtain⟨c2,ce,x,am,j,Q,rfl,c3,c4,s,an,ap,h⟩:=R;have bs:dh 1 (dp.deeper (eI "ways_by_facts" (ei xl) g.heap.objs.size L dl)):=c1.mono (by decide)
 refine⟨_,ar (bo 3 i (cc di (aG 0) (T 1) (λ_ _=>S))) (ar (bo 4 i (b6 (D (b8 cr) (aK 1)))) (ar (bH (bQ cU (aG 3) (el (v:=.str (cD .call)) S dd ⟨_,S⟩) (bU _)) (ax (aQ (gL c8 c1 cy (D (T 0) (D (T 1) (aK 2)))))) bP) (ar (bH (bQ cU (aG 3) dP (bU _)) (ax (aQ (f3 (own:=[("pair",6)]) S i (dy (gL bn bs cy (D (T 2) (D (cc di (aG 3) cK (λ_ _=>S)) (D (b8 ct) aC))))) (e3 S) (λg H d A k=>bW 6 i) (λg H d A k=>hC) (λg H d A k=>b6 (D (b6 (D (el (v:=.int (2:Nat)) S c9 ⟨_,S⟩) (aK 6))) (aK 4)))))) bP) (ar (bH (bQ cU (aG 3) dP (bU _)) (ax (aQ (f3 (own:=[("pair",6)]) S i (dy (gL bn bs cy (D (T 2) (D (cc di (aG 3) cK (λ_ _=>S)) (D (b8 ct) aC))))) (e3 S) (λg H d A k=>bW 6 i) (λg H d A k=>hC) (λg H d A k=>b6 (D (b6 (D (el (v:=.int (3:Nat)) S db ⟨_,S⟩) (aK 6))) (aK 4)))))) bP) (ar (bH (bQ cU (aG 3) dP (bU _)) (ax (aQ (f3 (own:=[("made",7)]) S i (dy (gL bn bs cy (D (T 2) (D (cc di (aG 3) cK (λ_ _=>S)) (D (b8 c0) aC))))) (e3 S) (λg H d A k=>bW 7 i) (λg H d A k=>hC) (λg H d A k=>b6 (D (b6 (D (el (v:=.int (4:Nat)) S cs ⟨_,S⟩) (aK 7))) (aK 4)))))) bP) (ar (bH (bQ cU (aG 3) dP (bU _)) (ar (bo 5 i (b6 (D (b8 cr) (D (cc di (aG 3) cK (λ_ _=>S)) aC)))) (ax (aQ (f3 (own:=[("made",7)]) S i (dy (gL bn bs cy (D (T 2) (D (cc di (aG 3) cK (λ_ _=>S)) (D (b8 c0) aC))))) (e3 S) (λg H d A k=>bW 7 i) (λg H d A k=>hC) (λg H d A k=>b6 (D (T 5) (D (b6 (D (el (v:=.int (4:Nat)) S cs ⟨_,S⟩) (aK 7))) aC))))))) bP) (ax (aQ (dg aC))))))))), ?_⟩;obtain⟨ds,f8,⟨dx,dK,dL,dT⟩,dX,d0⟩:=c3.nodes;obtain⟨t,d1,c5⟩:=lR d0 c4;obtain⟨as,⟨a0,a1,a2,a3⟩,y⟩:=c5.parts;obtain⟨a4,a5,bd,be⟩:=c5.aJ;refine⟨_,S,c2,d,dx,dK,_,S,dL,A.c,A.nodes,dT,_,S,ds,_,_,_,S,S,au.of dX,e2 (by rw [bh,d1];rfl), ?_⟩;refine⟨_,S,cE,λch em=> ?_⟩;have G:Ext H (upd H ch (.tup [.int 0,.int (x:Nat)])):=Ext.one em
 have ci:av K (upd H ch (.tup [.int 0,.int (x:Nat)])) ch (b2 (0,x)):=av.of M;have bi:∀C:Fm,¬decide (V.str (cD Q.aJ)=V.str (cD C))=I->¬Q.aJ=C:=λC w eq=>w (by rw [eq];exact ck S)
 have bk:∀C:Fm,decide (V.str (cD Q.aJ)=V.str (cD C))=I->Q.aJ=C:=λC w=>by rw [qW]at w;exact eQ w
 refine⟨_,S,t,p,a4,a5,_,S,G _ _ bd,A.cn,A.aJ,be,S,_,S,eb (λw=> ?_) (λw=> ?_)⟩
 .have w:=bk .call w;obtain⟨c,P,N⟩:∃c P,Q.parts=[c,P]:=by
   rw [w]at s
   match R:Q.parts,s with
   |[c,P],_=>exact⟨c,P,S⟩
  obtain⟨co,e,bl,bm⟩:=ap c (by rw [N];exact bY);rw [w,N]at h;refine⟨_,S,_,S,_,S,c2,ce,x,am,j,Q,c,P,co,S,c3.ext G,c4,N,an.ext G,e,bl,bm,λbt c6 E bv a=> ?_⟩;refine h bt c6 (G.trans E) (G.none bv) ?_;show jr K c6 bt (jT ce x P (d4 1 ((ba j (0,c)).getD [])))
  rw [e];exact a
 .skip
  refine⟨_,S,t,p,a4,a5,_,S,G _ _ bd,A.cn,A.aJ,be,S,_,S,eb (λW=> ?_) (λW=> ?_)⟩
  .have W:=bk .fst W;obtain⟨c,N⟩:∃c,Q.parts=[c]:=by
    rw [W]at s
    match R:Q.parts,s with
    |[c],_=>exact⟨c,S⟩
   obtain⟨co,e,bl,bm⟩:=ap c (by rw [N];exact bf.mpr S);rw [W,N]at h;rw [N]at y;refine⟨_,S,_,S,t,p,a0,a1,_,S,G _ _ a2,A.cn,A.parts,a3,as,_,_,_,S,S,au.of (G _ _ y),S, ?_⟩;refine⟨am,j,c,2,co,S,an.ext G,e,by omega,λF cl b cn U=>⟨F,S,⟨_,au.of U⟩,λn ca=> ?_⟩⟩;refine xk (kk:=2) U ca (b.aP ci) (by show 6<8;decide) S (by decide) (cq (iZ _ _) (by omega)) λr f a=> ?_;refine h n r ((G.trans b).trans f) ((G.trans b).none ca) ?_;show jr K r n ((d4 2 ((ba j (0,c)).getD [])).map λu=>((2,u),(0,x)))
   rw [e];exact a
  refine⟨_,S,t,p,a4,a5,_,S,G _ _ bd,A.cn,A.aJ,be,S,_,S,eb (λX=> ?_) (λX=> ?_)⟩
  .have X:=bk .snd X;obtain⟨c,N⟩:∃c,Q.parts=[c]:=by
    rw [X]at s
    match R:Q.parts,s with
    |[c],_=>exact⟨c,S⟩
   obtain⟨co,e,bl,bm⟩:=ap c (by rw [N];exact bf.mpr S);rw [X,N]at h;rw [N]at y;refine⟨_,S,_,S,t,p,a0,a1,_,S,G _ _ a2,A.cn,A.parts,a3,as,_,_,_,S,S,au.of (G _ _ y),S, ?_⟩;refine⟨am,j,c,2,co,S,an.ext G,e,by omega,λF cl b cn U=>⟨F,S,⟨_,au.of U⟩,λn ca=> ?_⟩⟩;refine xk (kk:=3) U ca (b.aP ci) (by show 6<8;decide) S (by decide) (cq (iZ _ _) (by omega)) λr f a=> ?_;refine h n r ((G.trans b).trans f) ((G.trans b).none ca) ?_;show jr K r n ((d4 2 ((ba j (0,c)).getD [])).map λu=>((3,u),(0,x)))
   rw [e];exact a
  refine⟨_,S,t,p,a4,a5,_,S,G _ _ bd,A.cn,A.aJ,be,S,_,S,eb (λab=> ?_) (λab=> ?_)⟩
  .have ab:=bk .get ab;obtain⟨c,N⟩:∃c,Q.parts=[c]:=by
    rw [ab]at s
    match R:Q.parts,s with
    |[c],_=>exact⟨c,S⟩
   obtain⟨co,e,bl,bm⟩:=ap c (by rw [N];exact bf.mpr S);rw [ab,N]at h;rw [N]at y;refine⟨_,S,_,S,t,p,a0,a1,_,S,G _ _ a2,A.cn,A.parts,a3,as,_,_,_,S,S,au.of (G _ _ y),S, ?_⟩;refine⟨am,j,c,3,co,S,an.ext G,e,by omega,λF cl b cn U=>⟨F,S,⟨_,au.of U⟩,λn ca=> ?_⟩⟩;refine xk (kk:=4) U ca (b.aP ci) (by show 7<8;decide) S (by decide) (cq (iZ _ _) (by omega)) λr f a=> ?_;refine h n r ((G.trans b).trans f) ((G.trans b).none ca) ?_;show jr K r n ((d4 3 ((ba j (0,c)).getD [])).map λu=>((4,u),(0,x)))
   rw [e];exact a
  refine⟨_,S,t,p,a4,a5,_,S,G _ _ bd,A.cn,A.aJ,be,S,_,S,eb (λad=> ?_) (λad=> ?_)⟩
  .have ad:=bk .set ad;obtain⟨c,P,N⟩:∃c P,Q.parts=[c,P]:=by
    rw [ad]at s
    match R:Q.parts,s with
    |[c,P],_=>exact⟨c,P,S⟩
   obtain⟨co,e,bl,bm⟩:=ap c (by rw [N];exact bY);rw [ad,N]at h;rw [N]at y;refine⟨_,S,t,p,a0,a1,_,S,G _ _ a2,A.cn,A.parts,a3,as,_,_,_,S,S,au.of (G _ _ y),S,cE,λga es=> ?_⟩;have E:=G.new (o:=.tup [.int 0,.int (P:Nat)]) es
   refine⟨_,S,_,S,t,p,a0,a1,_,S,E _ _ a2,A.cn,A.parts,a3,as,_,_,_,S,S,au.of (E _ _ y),S, ?_⟩;refine⟨am,j,c,3,co,S,an.ext E,e,by omega,λF cl b cn U=>⟨F,S,⟨_,au.of U⟩,λn ca=> ?_⟩⟩;refine Nm (kk:=4) (q:=(0,P)) U ca (b.aP (av.of M)) (by show 7<8;decide) S (by decide) (cq (iZ _ _) (by omega)) λr f a=> ?_;refine h n r ((E.trans b).trans f) ((E.trans b).none ca) ?_;show jr K r n ((d4 3 ((ba j (0,c)).getD [])).map λu=>((0,P),(4,u)))
   rw [e];exact a
  have ev:fq ce j x Q.aJ Q.parts=[]:=by
   have ge:=bi .call w;have gl:=bi .fst W
   have go:=bi .snd X;have gt:=bi .get ab
   have g1:=bi .set ad;unfold fq;split<;>first|rfl|(exfalso;simp_all)
  rw [ev]at h;exact⟨cP _,λbt bv=>h bt _ (G.new bv) (G.none bv) ⟨[],M,.nil⟩⟩
def xm(D:Nat)(A:List Pr):(d4 D A).length<=A.length:=iZ _ _
def CS(A:Pg)(D G:Nat):∀M:List Nat,(jT A D G M).length=2*M.length
 |[]=>rfl
 |u::a=>by
  show([((0,G),(1,u)),((0,mJ A u),(0,D))]++jT A D G a).length=_;rw [bB,CS A D G a,dG (a:=u)];show 2+_=_
  omega
def Np(A:Pg)(D:Nat)(G:Fm)(M:List Nat):(eU A D G M).length<=2:=by unfold eU;split<;>first|decide|(split<;>simp)|simp
def Nq{N:Pg}(a:wt N Vb)(b:N.nodes[r]?=Y Os):(fq N Vb r Os.aJ Os.parts).length<=2000:=by
 have S:=a.tab r Os b;unfold fq;split
 .rename_i c d _ D;obtain⟨A,G,U,_⟩:=S c (by rw [D];exact bY);rw [G,CS];have:=xm 1 A
  show 2*(d4 1 A).length<=_;omega
 all_goals first
  |(rename_i c _ D
    obtain⟨A,G,U,_⟩:=S c (by rw [D];exact bY);rw [G,ag];refine cq (xm _ A) (by omega))
  |(rename_i c d _ D
    obtain⟨A,G,U,_⟩:=S c (by rw [D];exact bY);rw [G,ag];refine cq (xm _ A) (by omega))
  |simp
def xo{A:s2->Do->Prop}:∀{M N:List s2} {Q S:List Do},cO A M Q->cO A N S->cO A (M++N) (Q++S)
 |_,_,_,_,.nil,a=>a
 |_,_,_,_,.cons b c,a=>.cons b (xo c a)
abbrev CT:a6:=top 47
def qZ(P:az)(w:aw)(K:ah)(S T:Z):Sp:=λa H b _=>∃N A Q D,a=[.ref N,.ref Q]/\lQ K S T H N A/\TabAt P w K H Q D/\wt A D/\
 ∀G M,Ext H M->H G=O->jr K M G (fG A D A.nodes.length)->b (.ref G) M
def Nr(a2:a7 K "ways_of" "ways_of" CT L o0)(C:qX K d p)(a3:z "len"=O)(a4:z "range"=O)(a5:bx l m K z B aD 1 "standing_ways" ["program","label"] (Cr K d p))(bd:bx l m K z B aD 3 "ways_by_facts" ["program","label","table"] (CQ l m K d p)):aS l m K z B aD 4 L o0 ["program","table"] (qZ l m K d p):=by
 refine a2.go ["program","table","ways","label"] λc1 c2 c3 c4 H c5 c6 c7 E be i _ _=> ?_;obtain⟨w,a,R,f,rfl,o,bi,P,bk⟩:=be;have sz:(70000:Nat)<aR:=by decide
 refine⟨_,ar (bo 2 i (dg aC)) (ar (d2 dY S (zE S a4 (D (cR en (by rfl) a3 dD (D (aG 0) aC)) aC)) (bW 3 i) (ar (cL (fj fB yA GO vr (T 2) (D (gL a5 (E.mono (by decide)) cy (D (T 0) (aK 3))) aC))) (ax (cL (fj fB yA GO vr (T 2) (D (gL bd E cy (D (T 0) (D (T 3) (aK 1)))) aC)))))) (ax (aQ (T 2)))), ?_⟩;obtain⟨bl,bm,⟨bn,bs,bt,bv⟩,ca,cd⟩:=o.nodes;have ce:bm.length=a.nodes.length:=bL cd
 refine⟨cP _,λG U=> ?_⟩;have k:Ext H (upd H G (.lst [])):=Ext.one U
 refine⟨_,S,w,d,bn,bs,_,S,k _ _ bt,C.c,C.nodes,bv,bl,_,S,.inl (au.of (k _ _ ca)),(a.nodes.length:Int), ?_, ?_, ?_, ?_⟩
 .rw [ag,ce]
 .have:=P.bF;omega
 .have:=P.bF;omega
 rw [uf];refine HN (λA q g=>∃r,q=[Y (.ref w),Y (.ref R),Y (.ref G),r]/\(∃N,g G=Y (.lst (N.map V.ref))/\cO (da K g) N (fG a f A)/\N.length<=2002*A)/\Ext H g) ?_ ?_ ?_
 .exact⟨O,S,⟨[],M,.nil,cP _⟩,k⟩
 .rintro A q g ch ⟨r,rfl,⟨N,j,s,ci⟩,n⟩;have c8:=P.bF
  obtain⟨Q,e⟩:∃Q,a.nodes[A]?=Y Q:=⟨_,gj ch⟩
  have cl:fG a f (A+1)=fG a f A++eU a A Q.aJ Q.parts++fq a f A Q.aJ Q.parts:=by
   unfold fG;rw [p4,kZ];show _++(qO a f A++[])=_
   unfold qO;rw [e,bZ,cv]
  have cn:(0:Int)+(A:Int)=(A:Int):=by omega
  rw [cn];refine⟨_,S,.inl ⟨S,_,au.of j⟩,_,S,_,S,w,a,A,Q,S,o.ext n,e,P.full A Q e,P.bound A Q e,λW h t X ⟨b,co,ab⟩=> ?_⟩;have c9:b.length<=2:=by rw [bL ab];exact Np _ _ _ _
  have ad:=t _ _ j;have db:W≠G:=by intro c;rw [c,j]at X;cases X
  refine⟨G,W,_,_,S,S,ad,co,by rw [ag,ag];omega, ?_⟩;have cr:(N.map V.ref++b.map V.ref)=(N++b).map V.ref:=by rw [aW]
  rw [cr];have al:cX (h G)\/h G=O:=.inl (by rw [ad];exact trivial)
  have cs:cO (da K (upd h G (.lst ((N++b).map V.ref)))) (N++b) (fG a f A++eU a A Q.aJ Q.parts):=xo (Paired.cb s λu v c=>da.upd al (da.ext t c)) (Paired.cb ab λu v c=>da.upd al c);have am:upd h G (.lst ((N++b).map V.ref)) G=Y (.lst ((N++b).map V.ref)):=M
  have x:Ext H (upd h G (.lst ((N++b).map V.ref))):=(n.trans t).upd U;generalize upd h G (.lst ((N++b).map V.ref))=dd at*;refine⟨_,S,.inl ⟨S,_,au.of am⟩,_,S,_,S,_,S,w,a,A,R,f,Q,S,o.ext x,e,P.full A Q e,bi.ext x,P.tab A Q e,λct an y dl ⟨ap,c0,as⟩=> ?_⟩;have dp:ap.length<=2000:=by rw [bL as];exact Nq P e
  have a0:=y _ _ am;refine⟨G,ct,_,_,S,S,a0,c0,by rw [ag,ag,bB];omega, ?_⟩;have a1:cX (an G)\/an G=O:=.inl (by rw [a0];exact trivial)
  refine⟨_,S,⟨N++b++ap, ?_, ?_, ?_⟩,(x.trans y).upd U⟩
  .rw [M,aW (l₁:=N++b)]
  .rw [cl];exact xo (Paired.cb cs λu v c=>da.upd a1 (da.ext y c)) (Paired.cb as λu v c=>da.upd a1 c)
  .rw [bB,bB];omega
 .rintro q g ⟨r,rfl,⟨N,j,s,ci⟩,n⟩;exact⟨_,S,bk G g n U ⟨N,j,s⟩⟩
def q0(M:∀A re,A≠d->fR l m K H A re->fR l m K q A re):∀{D:bV} {G:List (Pr×List Pr)},fv l m K H D G->V.ref d∉D.map (·.2.2)->fv l m K q D G
 |_,_,.nil,_=>.nil
 |x::D,y::G,.cons b c,a=>by rw [aV,bb,pR]at a;obtain⟨Q,A,N,S⟩:=b;refine .cons ⟨Q,A,N,M A _ (λT=>a.1 ?_) S⟩ (q0 M c a.2);rw [N,T]
def CU(S:∀D re,D≠d->fR l m K H D re->fR l m K q D re)(T:fR l m K q d re):∀{A:bV} {G:List (Pr×List Pr)},fv l m K H A G->(A.map (·.2.2)).Nodup->(G.map (·.1)).Nodup->cg A (pk s0)=Y (.ref d)->fv l m K q A (dM G s0 re)
 |_,_,.nil,_,_,a=>by cases a
 |x::A,y::G,.cons f b,n1,n2,a=>by
  obtain⟨M,D,U,g⟩:=f;rw [aV,eB]at n1 n2;unfold cg at a;rw [gi]at a;show fv l m K q (x::A) ((if y.1=s0 then(y.1,re)else y)::dM G s0 re)
  by_cases c:y.1=s0
  .rw [ck (by rw [M,c])]at a;have e:x.2.2=.ref d:=a8 a
   rw [ak c,wF re (by rw [<-c];exact n2.1)];exact .cons ⟨M,d,e,T⟩ (q0 S b (by rw [<-e];exact n1.1))
  .rw [bT (by rw [M];exactλQ=>c (lP Q))]at a;rw [N c];have h:V.ref d∈A.map (·.2.2):=by
    obtain⟨Q,i,j⟩:=cm.mp a;rw [<-j];exact d8 (fL i)
   refine .cons ⟨M,D,U,S D _ (λQ=>n1.1 ?_) g⟩ (CU S T b n1.2 n2.2 a);rw [U,Q];exact h
def xp{K:ah}{xs:List V}{H:G}(M:Nat->L2.St->G->Prop)(n:M 0 s4 H)(o:∀A s4 H,A<=xs.length->M A s4 H->au K H d xs)(p:∀A b s4 H U,xs[A]?=Y b->M A s4 H->H U=O->Fa (.ref U) s4 (upd H U (.tup [.int (A:Nat),b])) λc D=>Id {xL with nx:=M (A+1),ct:=M (A+1),bk:=xL.nx} c D) (q:∀s4 H,M xs.length s4 H->xL.nx s4 H):∃e:Nat->Nat->L2.St->G->Prop,(∃N,e 0 N s4 H)/\∀A N s4 H,e A N s4 H->((ly K d).stop A H/\xL.nx s4 H)\/((ly K d).go A H/\∃f:L2.St->G->Prop,(∀g Q,f g Q->∃l,l<N/\e (A+1) l g Q)/\∀v Q,(ly K d).hg A H v Q->Fa v s4 Q λc D=>Id {xL with nx:=f,ct:=f,bk:=xL.nx} c D):=by
 refine⟨λA N s4 H=>N=xs.length-A/\A<=xs.length/\M A s4 H,⟨xs.length,by simp,cP _,n⟩, ?_⟩;rintro A N s4 H ⟨rfl,r,h⟩;have i:=o A s4 H r h
 by_cases m:A<xs.length
 .refine .inr ⟨⟨xs,_,i,gj m⟩,M (A+1),λg Q s=>⟨xs.length-(A+1),by omega,S,m,s⟩,λv Q y=> ?_⟩;obtain⟨U,b,rfl,t,rfl,u⟩:=y;exact p A b s4 H U (u xs i) h t
 .have w:A=xs.length:=by omega
  subst w;exact .inl ⟨⟨xs,i,aX _⟩,q s4 H h⟩
def Nt{K:ah}{xs:List V}{o:TT}(D:Nat->G->Prop)(u:D 0 (upd q d (.lst [])))(w:∀A H,A<=xs.length->D A H->au K H p xs)(x:∀A M H c,xs[A]?=Y M->D A H->H c=O->Fa (.ref c) (wipe s4 wr) (upd H c (.tup [.int (A:Nat),M])) λN h=>wipe N wr=wipe s4 wr/\o N h λi a=>if i=I then sc N a λy e=>∃Q,e d=Y (.lst Q)/\Q.length<aR/\D (A+1) (upd e d (.lst (Q++[y])))else D (A+1) a) (z:∀H,D xs.length H->Tl H):∃j:Nat->Nat->G->Prop,(∃T,j 0 T (upd q d (.lst [])))/\∀A T H,j A T H->((ly K p).stop A H/\Tl H)\/((ly K p).go A H/\∃k:G->Prop,(∀U,k U->∃s,s<T/\j (A+1) s U)/\∀M U,(ly K p).hg A H M U->Fa M (wipe s4 wr) U λN h=>wipe N wr=wipe s4 wr/\o N h λi a=>if i=I then sc N a λy e=>∃Q,e d=Y (.lst Q)/\Q.length<aR/\k (upd e d (.lst (Q++[y])))else k a):=by
 refine⟨λA T H=>T=xs.length-A/\A<=xs.length/\D A H,⟨xs.length,by simp,cP _,u⟩, ?_⟩;rintro A T H ⟨rfl,B,l⟩;have m:=w A H B l
 by_cases t:A<xs.length
 .refine .inr ⟨⟨xs,_,m,gj t⟩,D (A+1),λU C=>⟨xs.length-(A+1),by omega,S,t,C⟩,λv U y=> ?_⟩;obtain⟨c,M,rfl,E,rfl,F⟩:=y;exact x A M H c (F xs m) l E
 .have L:A=xs.length:=by omega
  subst L;exact .inl ⟨⟨xs,m,aX _⟩,z H l⟩
def CV(K:ah)(A:h.K=K:=by rfl):eD h (fJ .In) (vl K ao):=by subst A;exact vm
variable{tz:List aZ}
def Nu(K:ah){A:lg}{n:Nat}(G:h.calm=I)(M:qc h tz A)(N:h.K=K:=by rfl)(Q:(pI tz h.env).length=n:=by rfl) (T:(pI tz h.env).findIdx? (·.1)=O:=by rfl):PG h (.Tuple tz r pv) (zC K n A):=by subst N;exact ll G M Q T
def CW(K:ah)(A:h.A.units+64<cG)(D:h.K=K:=by rfl):eD h (fJ .Eq) (vt K):=by subst D;exact vu A
def s8(A:Fm):∀N:List Fm,iA (.str (cD A)) (N.map λD=>V.str (cD D))=decide (A∈N)
 |[]=>rfl
 |D::a=>by
  show(jK (.str (cD D)) (.str (cD A))||iA (.str (cD A)) (a.map λD=>V.str (cD D)))=_;rw [s8 A a];show((cD D==cD A)||_)=_
  by_cases c:D=A
  .subst c;simp
  .have Q:(cD D==cD A)=ao:=iQ.mpr λG=>c (Cp D A G);rw [Q,yF,hc];exact⟨λM=>bM _ M,λM=>(bb.mp M).resolve_left λG=>c G.symm⟩
abbrev CY:a6:=top 39
def jX(D:Z)(H:G)(M:Z)(N:List Info):Prop:=∃A,H M=Y (.lst (A.map V.ref))/\cO (kK D H) A N
def jX.ext{H:G}(Q:Ext H q)(S:jX d H p wS):jX d q p wS:=by obtain⟨T,a,b⟩:=S;exact⟨T,Q _ _ a,Paired.cb b λ_ _ c=>c.ext Q⟩
def Nv{c:Fm->Bool}(N:wS[r]?=Y Os):((eY (r+1)).filter λM=>((wS[M]?).map λOs=>c Os.aJ).getD ao)=((eY r).filter λM=>((wS[M]?).map λOs=>c Os.aJ).getD ao)++(if c Os.aJ=I then [r]else []):=by rw [p4,nM];congr 1;rw [il,N];rfl
def q1(K:ah)(S:Z):Sp:=λT H a _=>∃M A N,∃Q:List Fm,T=[.ref M,.ref N]/\jX S H M A/\A.length<=30/\av K H N (Q.map λb=>V.str (cD b))/\
 ∀D G,Ext H G->H D=O->G D=Y (.lst ((cA A λc=>decide (c∈Q)).map λd=>V.int (d:Nat)))->a (.ref D) G
def CZ:∀A:List Fm,(A.map λD=>V.str (cD D)).all jJ=I
 |[]=>rfl
 |_::a=>CZ a
def Nw(R:a7 K "labels_of" "labels_of" CY d o0)(W:fi K p)(X:dE K p "form")(ab:z "enumerate"=O):aS l m K z B aD 1 d o0 ["nodes","forms"] (q1 K p):=by
 refine R.go ["nodes","forms","label","node"] λbe bi bk h H bl bm bn bs ad i _ sz=> ?_;obtain⟨al,j,am,D,rfl,⟨u,v,x⟩,bt,an,ap⟩:=ad;refine⟨_,ax (aQ (f3 (own:=[("label",2),("node",3)]) S i (sf S ab (aK 0)) (e3 S) (λh H y w e=>Nu (n:=2) K S (gX (bW 2 i) (gX (bW 3 i) lj))) (λh H y w e=>kx (bQ (CV K) (w1 K (T 3) S) (T 1) S)) (λh H y w e=>T 2))), ?_⟩;refine⟨_,S,al,_,S,au.of v,λk t=> ?_⟩;refine Nt (xs:=u.map V.ref) (λA a=>a k=Y (.lst (((eY A).filter λU=>((j[U]?).map λA=>decide (A.aJ∈D)).getD ao).map λC=>V.int (C:Nat)))/\Ext H a) ?_ ?_ ?_ ?_
 .exact⟨M,Ext.one t⟩
 .rintro A a _ ⟨_,b⟩;exact au.of (b _ _ v)
 .rintro A C a E f ⟨G,b⟩ P;rw [bh]at f;cases q:u[A]? with
  |none=>rw [q]at f;cases f
  |some c=>
   rw [q]at f;obtain rfl:=a8 f;obtain⟨r,F,as⟩:=ez x q;have L:k≠E:=by intro a0;rw [a0]at G;rw [G]at P;cases P
   have g:=b.new (o:=.tup [.int (A:Nat),.ref c]) P;have bv:A<j.length:=(cM.mp F).1
   obtain⟨a1,a2,a3,a4⟩:=(as.ext g).aJ;refine⟨E,_,S,av.of M,S,_,_,S,_,_,S,S, ?_⟩;refine⟨S,_,S,c,p,a1,a2,_,S,a3,W,X,a4,_,S,am,_,S,.inr (g.aP an),S,CZ D,_,S, ?_⟩;rw [Nv (c:=λd=>decide (d∈D)) F];have a5:iA (.str (cD r.aJ)) (D.map λbd=>V.str (cD bd))=decide (r.aJ∈D):=s8 r.aJ D
   rw [N d5,a5];refine eb (λs=> ?_) (λs=> ?_)
   .rw [ak s];refine⟨_,S,_,by rw [Q L];exact G, ?_, ?_,g.upd t⟩
    .rw [ag];have:=i2 (λU=>((j[U]?).map λA=>decide (A.aJ∈D)).getD ao) (eY A)
     rw [p7]at this;omega
    .rw [M,aW];rfl
   .rw [N s,bZ];exact⟨by rw [Q L];exact G,g⟩
 .rintro a ⟨G,b⟩;rw [ag,bL x]at G;exact ap k a b t G
abbrev C0:a6:=top 40
abbrev C1:a6:=top 41
abbrev C2:a6:=top 42
abbrev C3:a6:=top 43
structure s9(ns:List Info):Prop where
 up:∀(A:Nat) (i:Info),ns[A]?=Y i->∀o,i.parent=Y o->o<A/\∃D,ns[o]?=Y D/\D.parts≠[]
def fU(D:List Info)(A:Nat):Option Nat:=match D[A]? with
 |some i=>up D i.word (A+1) A i.parent
 |none=>O
def C4(T:s9 wS)(N:ai):∀(D G A:Nat) (Q:Option Nat),A<D->A<G->(∀o,Q=Y o->o<A)->up wS N D A Q=up wS N G A Q
 |0,_,_,_,a,_,_=>absurd a (k7 _)
 |_+1,0,_,_,_,a,_=>absurd a (k7 _)
 |D+1,G+1,A,O,_,_,_=>rfl
 |D+1,G+1,A,Y o,e,f,b=>by
  have g:=b o S;simp only [up];cases c:wS[o]? with
  |none=>rfl
  |some i=>
   dsimp only;split
   .rfl
   .exact C4 T N D G o i.parent (by omega) (by omega) λU d=>(T.up o i c U d).1
def C5(M N:Z):Sp:=λQ H S T=>∃G A D a,Q=[.ref G,.int (D:Nat)]/\jX M H G A/\s9 A/\A[D]?=Y a/\match fU A D with
 |none=>T (.ref N) O H
 |some b=>S (.int (b:Nat)) H
def Nx{u:Z}(bk:a7 K "binder_of" "binder_of" C1 p o0)(a:o7 K d)(bl:z "NoProgram"=Y (.ref u))(bm:gS K u f5 "Exception.__new__"=I):aS l m K z B (bA l m) 1 p o0 ["nodes","label"] (C5 d u):=by
 refine bk.eu ["nodes","label","inner","outer"] λc9 db dd dl H dp ds dx bn v k _ _=> ?_;obtain⟨X,G,Q,e,rfl,⟨ad,g,al⟩,P,x,w⟩:=v;refine⟨_,ar (bo 2 k (T 1)) (ar (bo 3 k (fX (cc di (T 0) (T 1) (λ_ _=>S)) S)) (ar (n6 zr (i5 (Hd (T 3))) (ar (bH (PW.pt (uW (bQ cU (fX (cc di (T 0) (T 3) (λ_ _=>S)) S) (fX (cc di (T 0) (T 1) (λ_ _=>S)) S) (bU _)) (uU (bQ cU (cc di (fX (cc di (T 0) (T 3) (λ_ _=>S)) S) (u4 u7 cK) (λ_ _=>S)) (T 2) (bU _))))) (ax (aQ (T 3))) bP) (ar (bo 2 k (T 3)) (ax (bo 3 k (fX (cc di (T 0) (T 3) (λ_ _=>S)) S)))))) (ax (jN kd (by decide) bm S bl bn.hd)))), ?_⟩;obtain⟨y,am,an⟩:=lR al x;obtain⟨bs,bt,bv,ca⟩:=an.parent;obtain⟨cd,ce,ch,ci⟩:=an.word;refine⟨_,S,_,S,_,S,X,_,_,_,S,S,au.of g,e2 (by rw [bh,am];rfl),y,d,bs,bt,_,S,bv,a.cl,a.parent,ca, ?_⟩;refine⟨λb ap n=>n=H/\∃D,ap=[Y (.ref X),Y (.int (Q:Nat)),Y (.int (b:Nat)),Y (mU D)]/\(∀o,D=Y o->o<b/\∃A,G[o]?=Y A/\A.parts≠[])/\up G e.word (b+1) b D=fU G Q,⟨Q,S,e.parent,S,λo cl=>P.up Q e x o cl, ?_⟩, ?_⟩
 .unfold fU;rw [x]
 rintro b ap n ⟨rfl,D,rfl,cn,ab⟩;refine⟨_,S,_,S, ?_⟩;cases D with
 |none=>
  refine b1 ?_;have f:fU G Q=O:=by rw [<-ab];rfl
  rw [f]at w;exact w
 |some o=>
  refine cf ?_;obtain⟨as,A,U,co⟩:=cn o S;obtain⟨i,cr,C⟩:=lR al U;obtain⟨cs,ct,c0,c1⟩:=C.word;obtain⟨c2,⟨c3,c4,c5,c6⟩,c7⟩:=C.parts;obtain⟨a0,a1,a2,a3⟩:=C.parent;obtain⟨a4,q,a5⟩:∃a4 q,A.parts=a4++[q]:=⟨_,_,(List.dropLast_concat_getLast co).symm⟩
  have bd:up G e.word (b+1) b (Y o)=if A.word=e.word/\A.parts.getLast?=Y b then Y o else up G e.word b o A.parent:=by simp only [up,U]
  have r:(ad.map V.ref)[o]?=Y (.ref i):=by rw [bh,cr];rfl
  have c8:(ad.map V.ref)[Q]?=Y (.ref y):=by rw [bh,am];rfl
  have next:(∀E L,(L=n/\∃D,E=[Y (.ref X),Y (.int (Q:Nat)),Y (.int (o:Nat)),Y (mU D)]/\(∀M,D=Y M->M<o/\∃A,G[M]?=Y A/\A.parts≠[])/\up G e.word (o+1) o D=fU G Q)->∃j,j<b/\L=n/\∃D,E=[Y (.ref X),Y (.int (Q:Nat)),Y (.int (j:Nat)),Y (mU D)]/\(∀M,D=Y M->M<j/\∃A,G[M]?=Y A/\A.parts≠[])/\up G e.word (j+1) j D=fU G Q):=λE L v=>⟨o,as,v⟩
  refine⟨_,next, ?_⟩;refine⟨_,S,_,S,X,_,_,_,S,S,au.of g,e2 r,i,d,cs,ct,_,S,c0,a.cl,a.word,c1,_,S,_,S,X,_,_,_,S,S,au.of g,e2 c8,y,d,cd,ce,_,S,ch,a.cl,a.word,ci,S,_,S, ?_⟩;rw [w8];have be:¬(A.word=e.word/\A.parts.getLast?=Y b)->∃D,[Y (V.ref X),Y (V.int (Q:Nat)),Y (V.int (o:Nat)),Y (mU A.parent)]=[Y (V.ref X),Y (V.int (Q:Nat)),Y (V.int (o:Nat)),Y (mU D)]/\(∀M,D=Y M->M<o/\∃A,G[M]?=Y A/\A.parts≠[])/\up G e.word (o+1) o D=fU G Q:=λc=>by refine⟨A.parent,S,λM R=>P.up o A U M R, ?_⟩;rw [<-ab,bd,N c];exact C4 P _ _ _ _ _ (by omega) as λM R=>(P.up o A U M R).1
  by_cases s:A.word=e.word
  .rw [ck s];refine cf ⟨_,S,_,S,X,_,_,_,S,S,au.of g,e2 r,i,d,c3,c4,_,S,c5,a.cl,a.parts,c6,_,S,c2,_,_,_,S,S,au.of c7,by rw [a5,aW];exact vk _ _,_,S,S,_,S, ?_⟩;have bi:A.parts.getLast?=Y q:=by rw [a5];simp
   by_cases t:q=b
   .rw [ck (by rw [t])];have f:fU G Q=Y o:=by rw [<-ab,bd,ak ⟨s,by rw [bi,t]⟩]
    rw [f]at w;exact cf ⟨_,S,w⟩
   .rw [bT λh=>t (by injection h with h;omega)];refine b1 ⟨_,S,_,S,_,S,X,_,_,_,S,S,au.of g,e2 r,i,d,a0,a1,_,S,a2,a.cl,a.parent,a3,S,be λh=>t ?_⟩;have:=h.2
    rw [bi]at this;exact a8 this
  .rw [bT s];exact b1 (b1 ⟨_,S,_,S,_,S,X,_,_,_,S,S,au.of g,e2 r,i,d,a0,a1,_,S,a2,a.cl,a.parent,a3,S,be λh=>s h.1⟩)
def Ny[DecidableEq s2]{D:List (s2×V)}{G:s2}{v:V}(M:cS D G=O):putK D G v=D++[(G,v)]:=by unfold putK;rw [om,M];rfl
abbrev fH(A:List Info):List Nat:=cA A λD=>decide (D∈[Fm.used])
def bindL(D:List Info)(G:List Nat):List (Nat×Nat):=G.map λA=>(A,(fU D A).getD 0)
def C6(S T:Z):Sp:=λa H b c=>∃N A,a=[.ref N]/\jX S H N A/\A.length<=30/\s9 A/\((∃G∈fH A,fU A G=O)->∀D,Ext H D->c (.ref T) O D)/\
 ((∀G∈fH A,(fU A G).isSome=I)->∀D M,Ext H D->H M=O->D M=Y (.dK ((bindL A (fH A)).map λQ=>(.inl (Q.1:Int),.int (Q.2:Nat))))->b (.ref M) D)
def Nz{c:Fm->Bool}(G:r∈cA wS c):r<wS.length:=lZ.mp (dA.mp G).1
def NA(A:List Info)(c:Fm->Bool):(cA A c).Nodup:=Gq Gr Gh
def mZ(A:List Info)(c:Fm->Bool):(cA A c).length<=A.length:=by have:=i2 (λD=>((A[D]?).map λG=>c G.aJ).getD ao) (eY A.length);rwa [p7]at this
def NB(a4:a7 K "binders_of" "binders_of" C0 d o0)(bd:z "USED_NAME"=Y (.str "a name" wP))(be:bx l m K z B aD 1 "labels_of" ["nodes","forms"] (q1 K p)) (bi:bx l m K z B (bA l m) 1 "binder_of" ["nodes","label"] (C5 p L)):aS l m K z B (bA l m) 2 d o0 ["nodes"] (C6 p L):=by
 refine a4.eu ["nodes","binders","label"] λcn co cr cs H ct c0 c1 R e W bk sz=> ?_;obtain⟨r,A,rfl,X,c,bl,bm,bn⟩:=e;refine⟨_,ar (bo 1 W vF) (ar (d2 zr S (dy (bG be R (D (T 0) (D (b6 (D (hn bd) aC)) aC)))) (bW 2 W) (ax (se bk (T 1) (T 2) (gL bi R dt (D (T 0) (aK 2))) S))) (ax (aQ (T 1)))), ?_⟩;intro a s;have bs:Ext H (upd H a (.dK [])):=Ext.one s
 refine⟨_,S,eM,λab t=> ?_⟩;have ad:=bs.new (o:=.tup [.str "a name"]) t
 have al:a≠ab:=by intro j;rw [<-j,M]at t;cases t
 refine⟨r,A,ab,[.used],S,X.ext ad,c,av.of M,λx bt am an ap=> ?_⟩;have bv:bt a=Y (.dK []):=am _ _ (by rw [Q al,M])
 have ca:=ad.trans am;refine⟨x,S,⟨_,au.of ap⟩, ?_⟩;have cd:x≠a:=by intro j;rw [j,Q al,M]at an;cases an
 refine fC (xs:=(fH A).map λG=>V.int (G:Nat)) (λN i b=>∃F,i=[Y (.ref r),Y (.ref a),F]/\b a=Y (.dK ((bindL A ((fH A).take N)).map λG=>(.inl (G.1:Int),.int (G.2:Nat))))/\Ext H b/\b x=Y (.lst ((fH A).map λG=>V.int (G:Nat)))/\∀U∈(fH A).take N,(fU A U).isSome=I) ?_ ?_ ?_ ?_
 .exact⟨O,S,bv,ca,ap,λU e=>nomatch e⟩
 .rintro N i b _ ⟨_,_,_,_,e,_⟩;exact au.of e
 .rintro N G i b f ⟨F,rfl,n,g,as,q⟩;rw [bh]at f;cases h:(fH A)[N]? with
  |none=>rw [h]at f;cases f
  |some u=>
   rw [h]at f;obtain rfl:=a8 f;have a0:=cH h
   obtain⟨P,ce⟩:∃P,A[u]?=Y P:=⟨_,gj (Nz a0)⟩
   refine⟨_,S,_,S,r,A,u,P,S,X.ext g,bl,ce, ?_⟩;cases C:fU A u with
   |none=>exact bm ⟨u,a0,C⟩ b g
   |some c2=>
    have E:(fH A).take (N+1)=(fH A).take N++[u]:=by rw [dm,h];rfl
    have c3:N<(fH A).length:=(cM.mp h).1;have c4:(fH A).length<=A.length:=mZ A _
    refine⟨_,S,_,S,a,_,S,mB.k (k:=.inl (u:Int)) n (by rw [ag];unfold bindL;rw [ag,dW];omega),_,S, ?_,g.upd s,by rw [Q cd];exact as, ?_⟩
    .rw [M];have ch:cS ((bindL A ((fH A).take N)).map λG=>((.inl (G.1:Int):Key),V.int (G.2:Nat))) (.inl (u:Int))=O:=by
      unfold cS;rw [R8,nF];intro j ci;obtain⟨y,a1,rfl⟩:=bE.mp ci;unfold bindL at a1;obtain⟨v,a2,rfl⟩:=bE.mp a1;rw [nR];intro w;injection w with w;have w:v=u:=by have w:((v:Nat):Int)=(u:Int):=w;omega
      rw [w]at a2;have cl:=NA A λd=>decide (d∈[Fm.used])
      have a3:(fH A).Nodup:=cl;rw [<-zo (N+1) (fH A),E]at a3;exact(gU.mp (gU.mp a3).1).2.2 u a2 u (bf.mpr S) S
     rw [Ny ch,E];unfold bindL;rw [aW,aW];show _=Y (HO.dK (_++[(nk (u:Int),V.int (((fU A u).getD 0:Nat):Int))]))
     rw [C];rfl
    .rw [E];intro U c;rcases bS.mp c with c|c
     .exact q U c
     .rw [bf.mp c,C];rfl
 .rintro i b ⟨F,rfl,n,g,as,q⟩;rw [ag,dB]at n q;exact⟨_,S,bn q b a g s n⟩
def lV:List (Key×V):=[(.inr "fun",.int 1),(.inr "pair",.int 2),(.inr "new",.int 3)]
def tf(A:Fm):cS lV (.inr (cD A))=(iK A).map λD=>V.int (D:Nat):=by cases A<;>decide+kernel
def pd(D:List Info)(G:Nat):List Pr:=(0,0)::(eY G).filterMap λA=>((D[A]?).bind λM=>iK M.aJ).map λN=>(N,A)
def NC(M:wS[r]?=Y Os):pd wS (r+1)=pd wS r++((iK Os.aJ).map λN=>(N,r)).toList:=by unfold pd;rw [p4,uL,dk];congr 2;simp only [kQ,zj,M,gV];cases iK Os.aJ<;>rfl
def ND(D:List Info)(A:Nat):(pd D A).length<=A+1:=by
 unfold pd;rw [dG];have:=iZ (λG=>((D[G]?).bind λM=>iK M.aJ).map λN=>((N,G):Pr)) (eY A)
 rw [p7]at this;omega
def C7(K:ah)(N:Z):Sp:=λQ H S _=>∃M A,Q=[.ref M]/\jX N H M A/\A.length<=30/\∀D G,Ext H G->H D=O->LstAt K G D (wL A)->S (.ref D) G
def NG(bd:a7 K "sorts_of" "sorts_of" C2 pr o0)(j:o7 K L)(be:z "enumerate"=O)(bi:z "NUMBERS"=Y (.ref p))(bk:∀H,av K H p (b2 (0,0)))(X:z "KIND_OF_MAKER"=Y (.ref d))(ab:KD K l m d lV):aS l m K z B aD 1 pr o0 ["nodes"] (C7 K L):=by
 refine bd.go ["nodes","sorts","label","node"] λca cd ce ch H ci cl cn co q r _ sz=> ?_;obtain⟨ad,s,rfl,⟨al,am,an⟩,cr,bl⟩:=q;refine⟨_,ar (bo 1 r (dg (D (el (v:=.ref p) S bi S) aC))) (ar (d2 dY S (sf S be (aK 0)) (ll S (gX (bW 2 r) (gX (bW 3 r) lj))) (ax (bH (i5 (vP (aG 3) (el (v:=.ref d) S X S)) S) (ax (cL (fj fB gh gH fY (T 1) (D (b6 (D (vO (el (v:=.ref d) S X S) (aG 3) (λ_ _=>S)) (aK 2))) aC)))) bP))) (ax (aQ (T 1)))), ?_⟩;refine⟨eM,λG t=> ?_⟩;have ap:Ext H (upd H G (.lst [.ref p])):=Ext.one t
 refine⟨_,S,ad,_,S,au.of (ap _ _ am), ?_⟩;refine xp (xs:=al.map V.ref) (λA k N=>∃u x,k=[Y (.ref ad),Y (.ref G),u,x]/\(∃a,N G=Y (.lst (a.map V.ref))/\fQ K N a (pd s A))/\Ext H N) ?_ ?_ ?_ ?_
 .exact⟨O,O,S,⟨[p],M,.cons (bk _) .nil⟩,ap⟩
 .rintro A k N _ ⟨_,_,_,_,q⟩;exact au.of (q _ _ am)
 .rintro A cs k N U e ⟨u,x,rfl,⟨a,f,R⟩,y⟩ n;rw [bh]at e;cases P:al[A]? with
  |none=>rw [P]at e;cases e
  |some c=>
   rw [P]at e;obtain rfl:=a8 e;obtain⟨b,as,bm⟩:=ez an P;have ct:A<s.length:=(cM.mp as).1
   have C:=y.new (o:=.tup [.int (A:Nat),.ref c]) n;obtain⟨a0,a1,a2,a3⟩:=(bm.ext C).aJ;have bn:G≠U:=by intro g;rw [g]at f;rw [f]at n;cases n
   have h:upd N U (.tup [.int (A:Nat),.ref c]) G=Y (.lst (a.map V.ref)):=by rw [Q bn];exact f
   have E:=fQ.ext (Ext.one (o:=.tup [.int (A:Nat),.ref c]) n) R;refine⟨U,_,S,av.of M,S,_,_,S,_,_,S,S, ?_⟩;generalize upd N U (.tup [.int (A:Nat),.ref c])=bs at*;refine⟨_,S,c,L,a0,a1,_,S,a2,j.cl,j.aJ,a3,d,_,S,⟨lV,.inr (cD b.aJ),ab,S,S⟩,_,S, ?_⟩;rw [tf,kT,NC as];cases bt:iK b.aJ with
   |none=>
    refine b1 ⟨_,_,S,⟨a,h, ?_⟩,C⟩;rw [Option.map_none,Option.toList_none,bZ];exact E
   |some bv=>
    have c0:a.length<=A+1:=by rw [bL E];exact ND s A
    refine cf ⟨_,S,.inl ⟨S,_,au.of h⟩,_,S,c,L,a0,a1,_,S,a2,j.cl,j.aJ,a3,d,_,S,⟨lV,.inr (cD b.aJ),ab,S,by rw [tf,bt];rfl⟩,_,S,cE,λi W=> ?_⟩;have a4:G≠i:=by intro g;rw [<-g,h]at W;cases W
    refine⟨G,_,_,S,S,by rw [Q a4];exact h,by rw [ag];omega,_,_,S,⟨a++[i], ?_, ?_⟩,(C.new W).upd t⟩
    .rw [M,aW];rfl
    .have a5:cX (upd bs i (.tup [.int (bv:Nat),.int (A:Nat)]) G):=by rw [Q a4,h];exact trivial
     exact fS (Paired.cb E λc1 c2 g=>bC (.inl a5) (bC (.inr W) g)) (bC (.inl a5) (av.of M))
 .rintro k N ⟨u,x,rfl,⟨a,f,R⟩,y⟩;rw [ag,bL an]at R;exact⟨_,S,bl G N y t ⟨a,au.of f,R⟩⟩
def xq(M:aT 0 j=j)(N:rc∈aH j):∃Q,(infos O j)[af rc]?=Y (cZ Q rc):=by
 have G:=sD M;rcases wu N with rfl|⟨y,a,b⟩
 .exact⟨O,G.top⟩
 .exact⟨_,G.oU y a rc b⟩
def NH:∀(N:Nat) (A:ae),gk A<=N->∀G,bJ A=cu G (size A)->∀M∈aH A,bJ M=cu (af M) (size M):=by
 intro N;induction N with
 |zero=>intro A e;cases A<;>simp at e
 |succ N b=>
  intro A e G f M Q;obtain⟨i,T⟩:=kC f;rw [e5]at Q;rcases bb.mp Q with rfl|Q
  .rw [i];exact f
  .obtain⟨U,c,j⟩:=dH.mp Q;obtain⟨D,g,h⟩:=Gy c;rw [h,kZ,cp,aW,ze,aV,fz]at T;have k:(D.flatMap bJ).length=(D.map size).sum:=by
    clear h T c;induction D with
    |nil=>rfl
    |cons a m b=>rw [cp,bB,hp,b];rfl
   have l:cu (G+1) ((D.map size).sum+(size U+(g.map size).sum))=cu (G+1) (D.map size).sum++(cu (G+1+(D.map size).sum) (size U)++cu (G+1+(D.map size).sum+size U) (g.map size).sum):=by rw [kf,kf]
   rw [l]at T;obtain⟨n,d⟩:=mi T (by rw [k,uF]);obtain⟨d,o⟩:=mi d (by rw [hp,uF]);exact b U (by have:=h8 c;omega) _ d M j
def C8(D:aT 0 j=j):bJ j=cu 0 (size j):=by have:=lG j 0;rw [D]at this;exact this
def mM(D:aT 0 j=j):e6 j:=⟨by rw [hp,y8];exact C8 D⟩
def NI{y:ae}(G:aT 0 j=j)(M:y∈aH j)(N:rc∈kids y):af y<af rc:=by
 have Q:=NH _ j (aX _) 0 (C8 G) y M;obtain⟨_,S⟩:=kC Q;have:af rc∈(kids y).flatMap bJ:=dH.mpr ⟨rc,N,by rw [dJ];exact bY⟩
 rw [S,Gz]at this;omega
def C9(N:aT 0 j=j)(S:(infos O j)[r]?=Y Os):∃D∈aH j,af D=r/\∃M,Os=cZ M D:=by
 have c:r<size j:=by have:=(cM.mp S).1;rwa [e7]at this
 obtain⟨D,T⟩:∃D,(aH j)[r]?=Y D:=⟨_,gj c⟩
 have U:=cH T;have a:=(mM N).at T
 obtain⟨M,b⟩:=xq N U;rw [a,S]at b;exact⟨D,U,a,M,a8 b⟩
def NJ(A:aT 0 j=j):s9 (infos O j):=by
 refine⟨λf g G o N=> ?_⟩;obtain⟨c,d,M,h,rfl⟩:=C9 A G;have Q:=sD A
 rcases wu d with rfl|⟨y,b,a⟩
 .have:=Q.top;rw [M,G]at this;have:=bN Info.parent (a8 this)
  rw [N]at this;cases this
 .have:=Q.oU y b c a;rw [M,G]at this;have T:=bN Info.parent (a8 this)
  rw [N]at T;obtain rfl:=a8 T;obtain⟨i,e⟩:=xq A b;refine⟨by rw [<-M];exact NI A b a,_,e, ?_⟩;show(kids y).map af≠[]
  intro U;rw [List.map_eq_nil_iff]at U;rw [U]at a;cases a
def xr(e:aT 0 j=j)(U:bp j=I)(M:hZ r EQ∈aH j)(f:EQ≠dq):fU (infos O j) r=g9 j r:=by
 obtain⟨T,g,h⟩:=Lo e U M;unfold fU;rw [g];have hw:(cZ T (.var r EQ)).word=EQ:=N f
 show up (infos O j) (cZ T (.var r EQ)).word (r+1) r (cZ T (.var r EQ)).parent=_;rw [hw];refine h (r+1) (rb r) λi=> ?_;have A:bp (.var r EQ)=I:=by
  have:∀(Q:Nat) (j:ae),gk j<=Q->bp j=I->∀EQ∈aH j,bp EQ=I:=by
   intro Q;induction Q with
   |zero=>intro j a;cases j<;>simp at a
   |succ Q k=>
    intro j a b EQ M;rw [e5]at M;rcases bb.mp M with rfl|M
    .exact b
    .obtain⟨c,d,l⟩:=dH.mp M;exact k c (by have:=h8 d;omega) (((mF j).mp b).2 c d) EQ l
  exact this _ j (aX _) U _ M
 subst i;exact absurd (show gE []=I from A) (by decide)
def Dc(b:aT 0 j=j):r∈fH (infos O j)↔∃A,hZ r A∈aH j/\A≠dq:=by
 unfold fH cA;rw [dA,lZ];constructor
 .rintro⟨f,M⟩;obtain⟨c,d⟩:∃c,(infos O j)[r]?=Y c:=⟨_,gj f⟩
  rw [d]at M;obtain⟨A,T,U,e,rfl⟩:=C9 b d;have M:decide (aA A∈[Fm.used])=I:=M
  have a:aA A=.used:=bf.mp (eQ M);cases A with
  |var g y=>
   have U:g=r:=U;subst U;exact⟨y,T,λh=>by rw [aA,ak h]at a;cases a⟩
  |_=>cases a
 .rintro⟨A,T,i⟩;obtain⟨e,Q⟩:=xq b T;have Q:(infos O j)[r]?=Y (cZ e (.var r A)):=Q
  refine⟨(cM.mp Q).1, ?_⟩;rw [Q];show decide (aA (.var r A)∈[Fm.used])=I
  rw [aA,N i];rfl
def NK(G:hK (bX [] (sw.map norm))=O):hX sw=O:=by
 cases a:hX sw with
 |none=>rfl
 |some b=>
  obtain⟨M,N⟩:=qD.mp a;have A:=qP M
  have:=BH.mpr ⟨b,A.told,N,A.bF,A.deep,A.mM,S,S⟩;rw [G]at this;cases this
def NL(N:bp j=I)(D:aT 0 j=j)(b:∃G∈fH (infos O j),fU (infos O j) G=O):hX (bj j)=O:=by
 cases c:hX (bj j)with
 |none=>rfl
 |some h=>
  obtain⟨d,e⟩:=qD.mp c;have M:=qP d
  have Q:=v3 M.told N e;rw [M.mM,D]at Q;subst Q;obtain⟨G,f,T⟩:=b;obtain⟨g,U,a⟩:=(Dc D).mp f;rw [xr D N U a]at T;have:=(M.bound G g U).resolve_left a
  rw [T]at this;cases this
def NM(U:bp j=I)(Q:aT 0 j=j)(f:size j<=30)(g:dI j<=8)(h:∀A∈fH (infos O j),(fU (infos O j) A).isSome=I):hX (bj j)=Y j/\bD j/\bindL (infos O j) (fH (infos O j))=mL j:=by
 have b:me j=I:=Bs.mpr ⟨U,Q,f,g,λA G T=>by
  by_cases M:G=dq
  .exact .inl M
  .refine .inr ?_;rw [<-xr Q U T M];exact h A ((Dc Q).mpr ⟨G,T,M⟩)⟩
 have a:=qP b;refine⟨qD.mpr ⟨b,S⟩,a, ?_⟩;unfold bindL fH mL;rw [mQ a];have i:∀A:List ae,(∀G∈A,G∈aH j)->((A.filter λG=>decide (aA G∈[Fm.used])).map af).map (λA=>(A,(fU (infos O j) A).getD 0))=A.filterMap λG=>match G with
   |.var A y=>if y=dq then O else(g9 j A).map λc=>(A,c)
   |_=>O:=by
  intro A;induction A with
  |nil=>intro _;rfl
  |cons G l D=>
   intro d;rw [il,kQ,<-D λy k=>d y (bM _ k)];cases G with
   |var A y=>
    by_cases M:y=dq
    .have:decide (aA (.var A y)∈[Fm.used])=ao:=by rw [aA,ak M];rfl
     rw [this];dsimp only;rw [ak M];rfl
    .have:decide (aA (.var A y)∈[Fm.used])=I:=by rw [aA,N M];rfl
     rw [this];dsimp only;rw [N M];have T:=d _ bY
     obtain⟨c,e⟩:=rh.mp ((a.bound A y T).resolve_left M);rw [ak S,e,aV,aV];show(A,(fU (infos O j) A).getD 0)::_=_
     rw [xr Q U T M,e];rfl
   |_=>rfl
 exact i _ λ_ Q=>Q
def eN(K:ah)(H:G)(D:Z)(M:List Pr):Prop:=∃A,H D=Y (.lst (A.map V.ref))/\fQ K H A M
def eN.lst{K:ah}{H:G}(M:eN K H d re):LstAt K H d re:=let⟨N,Q,S⟩:=M;⟨N,au.of Q,S⟩
def eN.ext{K:ah}{H:G}(N:Ext H q)(Q:eN K H d re):eN K q d re:=let⟨S,T,U⟩:=Q;⟨S,N _ _ T,fQ.ext N U⟩
def eN.push{H:G}{k l:Nat}(c:H p=Y (.lst (wf.map V.ref)))(f:fQ K H wf re)(T:H d=O):upd H d (.tup [.int (k:Nat),.int (l:Nat)]) p=Y (.lst (wf.map V.ref))/\eN K (upd (upd H d (.tup [.int (k:Nat),.int (l:Nat)])) p (.lst (wf.map V.ref++[V.ref d]))) p (re++[(k,l)]):=by
 have g:p≠d:=by intro a;rw [<-a,c]at T;cases T
 have A:upd H d (.tup [.int (k:Nat),.int (l:Nat)]) p=Y (.lst (wf.map V.ref)):=by rw [Q g];exact c
 have e:cX (upd H d (.tup [.int (k:Nat),.int (l:Nat)]) p)\/upd H d (.tup [.int (k:Nat),.int (l:Nat)]) p=O:=.inl (by rw [A];exact trivial);refine⟨A,wf++[d],by rw [M,aW];rfl, ?_⟩;exact fS (Paired.cb f λh i a=>bC e (bC (.inr T) a)) (bC e (av.of M))
def NN:(λA:Fm=>decide (A∈[Fm.fn,.letE]))=jl:=by funext A;cases A<;>decide
def ti(D:Fm):(λA:Fm=>decide (A∈[D]))=λA=>decide (A=D):=by funext A;rw [hc];exact bf
def Dd(K:ah)(N:Z):Sp:=λQ H S _=>∃M A,Q=[.ref M]/\jX N H M A/\A.length<=30/\∀D G,Ext H G->H D=O->LstAt K G D (sS A)->S (.ref D) G
def NO{P:az}(c4:a7 K "places_of" "places_of" C3 d o0)(ab:Gs z)(c5:z "len"=O)(c6:z "range"=O)(c7:z "BINDERS"=Y (.ref p))(c8:∀H,av K H p [.str "fun",.str "let"])(a3:bx P m K z B aD 1 "labels_of" ["nodes","forms"] (q1 K L)):aS P m K z B aD 2 d o0 ["nodes"] (Dd K L):=by
 obtain⟨f1,c9⟩:=ab.node;obtain⟨f2,db⟩:=ab.name;obtain⟨f4,dd⟩:=ab.first;obtain⟨f8,dl⟩:=ab.second;obtain⟨ga,dp⟩:=ab.inside;refine c4.go ["nodes","places","label"] λge gl go a4 H gt g1 g2 a5 N ad _ sz=> ?_;obtain⟨C,G,rfl,a0,bd,ds⟩:=N;refine⟨_,ar (r8 (i:=1) (own:=[("label",2)]) S ad S rfl (r9 S rfl rfl rfl) (zE S c6 (D (cR en (by rfl) c5 dD (aK 0)) aC)) (e3 S) (λa4 H bn bs bt=>bW 2 ad) (λa4 H bn bs bt=>hC) (λa4 H bn bs bt=>b6 (D (b8 c9) (aK 2)))) (ar (d2 dY S (dy (bG a3 a5 (D (T 0) (D (el (v:=.ref p) S c7 S) aC)))) (bW 2 ad) (ax (cL (fj fB gh gH fY (T 1) (D (b6 (D (b8 db) (aK 2))) aC))))) (ar (d2 dY S (dy (bG a3 a5 (D (T 0) (D (b6 (D dP aC)) aC)))) (bW 2 ad) (ar (cL (fj fB gh gH fY (T 1) (D (b6 (D (b8 dd) (aK 2))) aC))) (ax (cL (fj fB gh gH fY (T 1) (D (b6 (D (b8 dl) (aK 2))) aC)))))) (ar (d2 dY S (dy (bG a3 a5 (D (T 0) (D (b6 (D dP aC)) aC)))) (bW 2 ad) (ax (cL (fj fB gh gH fY (T 1) (D (b6 (D (b8 dp) (aK 2))) aC))))) (ax (aQ (T 1)))))), ?_⟩;obtain⟨dx,dK,dL⟩:=id a0;have dT:dx.length=G.length:=bL dL
 refine⟨_,S,C,_,S,.inl (au.of dK),(G.length:Int), ?_,by omega,by omega,λc E=> ?_⟩
 .rw [ag,dT]
 rw [uf];refine Jc (λal a1=>eN K a1 c ((eY al).map λA=>(0,A))/\Ext H a1) ?_ ?_ ?_
 .exact⟨⟨[],M,.nil⟩,Ext.one E⟩
 .rintro al a1 g3 ⟨⟨x,s,as⟩,U⟩;refine⟨S, ?_⟩;unfold hl;dsimp only [];rw [ak S];refine⟨_,S,cE,λt w=> ?_⟩;have dX:(0:Int)+(al:Int)=(al:Int):=by omega
  rw [dX];obtain⟨R,W⟩:=eN.push (K:=K) (k:=0) (l:=al) s as w;refine⟨_,R, ?_, ?_,(U.new w).upd E⟩
  .rw [ag,bL as,ag,p7];omega
  .rw [p4,aW];exact W
 rintro a1 ⟨bv,ca⟩;refine⟨_,S,C,G,p,[.fn,.letE],S,a0.ext ca,bd,c8 _,λf hd cd y n=> ?_⟩;have d0:=bv.ext cd
 have d1:=ca.trans cd;have X:f≠c:=by intro bl;obtain⟨x,am,_⟩:=bv;rw [bl,am]at y;cases y
 rw [NN]at n;have he:=mZ G jl
 refine⟨f,S,⟨_,au.of n⟩, ?_⟩;refine fC (xs:=(cA G jl).map λg=>V.int (g:Nat)) (λh j b=>∃q,j=[Y (.ref C),Y (.ref c),q]/\eN K b c ((eY G.length).map (λA=>(0,A))++((cA G jl).take h).map λA=>(1,A))/\Ext H b/\b f=Y (.lst ((cA G jl).map λg=>V.int (g:Nat)))) ?_ ?_ ?_ ?_
 .exact⟨_,S,by rw [hx,fx,bZ];exact d0,d1,n⟩
 .rintro h j b _ ⟨_,_,_,_,N⟩;exact au.of N
 .rintro h g j b e ⟨q,rfl,⟨x,s,as⟩,U,bm⟩;rw [bh]at e;cases r:(cA G jl)[h]? with
  |none=>rw [r]at e;cases e
  |some u=>
   rw [r]at e;obtain rfl:=a8 e;refine⟨_,S,.inl ⟨S,_,au.of s⟩,_,S,cE,λt w=> ?_⟩;obtain⟨R,W⟩:=eN.push (K:=K) (k:=1) (l:=u) s as w;refine⟨c,_,_,S,S,R, ?_,_,S, ?_,(U.new w).upd E, ?_⟩
   .rw [ag,bL as,bB,ag,ag,p7,dW];omega
   .rw [dm,r,aW,<-cv];exact W
   .have an:f≠t:=by intro bl;rw [<-bl,bm]at w;cases w
    rw [Q X,Q an];exact bm
 rintro j hf ⟨q,rfl,ce,em,_⟩;rw [ag,dB]at ce;refine⟨_,S,eM,λbe ap=> ?_⟩;have ch:=em.new (o:=.tup [.str "pair"]) ap
 have ci:=ce.ext (Ext.one (o:=.tup [.str "pair"]) ap);refine⟨C,G,be,[.pair],S,a0.ext ch,bd,av.of M,λf hi cl y n=> ?_⟩;have eq:=ci.ext cl
 have es:=ch.trans cl;have X:f≠c:=by intro bl;obtain⟨x,am,_⟩:=ci;rw [bl,am]at y;cases y
 rw [ti]at n;have hm:=mZ G λd=>decide (d=.pair)
 refine⟨f,S,⟨_,au.of n⟩, ?_⟩;have cn:∀a2:List Nat,(a2.flatMap λA=>([(2,A),(3,A)]:List Pr)).length=2*a2.length:=by
  intro a2;induction a2 with
  |nil=>rfl
  |cons a hz ev=>rw [cp,bB,ev,dG (a:=a)];show 2+_=_;omega
 refine fC (xs:=(cA G λd=>decide (d=.pair)).map λg=>V.int (g:Nat)) (λh j b=>∃q,j=[Y (.ref C),Y (.ref c),q]/\eN K b c ((eY G.length).map (λA=>(0,A))++(cA G jl).map (λA=>(1,A))++((cA G λd=>decide (d=.pair)).take h).flatMap λA=>[(2,A),(3,A)])/\Ext H b/\b f=Y (.lst ((cA G λd=>decide (d=.pair)).map λg=>V.int (g:Nat)))) ?_ ?_ ?_ ?_
 .exact⟨_,S,by rw [hx,et,bZ];exact eq,es,n⟩
 .rintro h j b _ ⟨_,_,_,_,N⟩;exact au.of N
 .rintro h g j b e ⟨q,rfl,⟨x,s,as⟩,U,bm⟩;rw [bh]at e;cases r:(cA G λd=>decide (d=.pair))[h]? with
  |none=>rw [r]at e;cases e
  |some u=>
   rw [r]at e;obtain rfl:=a8 e;refine⟨_,S,.inl ⟨S,_,au.of s⟩,_,S,cE,λt w=> ?_⟩;obtain⟨R,W⟩:=eN.push (K:=K) (k:=2) (l:=u) s as w;have ex:x.length<=120:=by rw [bL as,bB,bB,ag,ag,p7,cn,dW];omega
   refine⟨c,_,_,S,S,R,by rw [ag];omega, ?_⟩;have an:f≠t:=by intro bl;rw [<-bl,bm]at w;cases w
   have bi:Ext H (upd (upd b t (.tup [.int ((2:Nat):Int),.int (u:Nat)])) c (.lst (x.map V.ref++[V.ref t]))):=(U.new w).upd E;have co:upd (upd b t (.tup [.int ((2:Nat):Int),.int (u:Nat)])) c (.lst (x.map V.ref++[V.ref t])) f=_:=((Q X).trans (Q an)).trans bm
   obtain⟨fa,cr,cs⟩:=W;have h0:fa.length<=121:=by rw [bL cs,bB,<-bL as];exact p6 ex 1
   refine⟨_,S,.inl ⟨S,_,au.of cr⟩,_,S,cE,λfd bk=> ?_⟩;obtain⟨fl,fm⟩:=eN.push (K:=K) (k:=3) (l:=u) cr cs bk;refine⟨c,_,_,S,S,fl,by rw [ag];omega,_,S, ?_,(bi.new bk).upd E, ?_⟩
   .rw [dm,r,kZ,<-cv];have:(Option.toList (Y u)).flatMap (λA=>([(2,A),(3,A)]:List Pr))=[(2,u)]++[(3,u)]:=rfl
    rw [this,<-cv];exact fm
   .have fn:f≠fd:=cB co bk;rw [Q X,Q fn];exact co
 rintro j h1 ⟨q,rfl,ct,bi,_⟩;rw [ag,dB]at ct;refine⟨_,S,eM,λbe ap=> ?_⟩;have c0:=bi.new (o:=.tup [.str "new"]) ap
 have c1:=ct.ext (Ext.one (o:=.tup [.str "new"]) ap);refine⟨C,G,be,[.new],S,a0.ext c0,bd,av.of M,λf h2 c2 y n=> ?_⟩;have fr:=c1.ext c2
 have fs:=c0.trans c2;have X:f≠c:=by intro bl;obtain⟨x,am,_⟩:=c1;rw [bl,am]at y;cases y
 rw [ti]at n;have ii:=mZ G λd=>decide (d=.new)
 refine⟨f,S,⟨_,au.of n⟩, ?_⟩;refine fC (xs:=(cA G λd=>decide (d=.new)).map λg=>V.int (g:Nat)) (λh j b=>∃q,j=[Y (.ref C),Y (.ref c),q]/\eN K b c ((eY G.length).map (λA=>(0,A))++(cA G jl).map (λA=>(1,A))++(cA G λd=>decide (d=.pair)).flatMap (λA=>[(2,A),(3,A)])++((cA G λd=>decide (d=.new)).take h).map λA=>(4,A))/\Ext H b/\b f=Y (.lst ((cA G λd=>decide (d=.new)).map λg=>V.int (g:Nat)))) ?_ ?_ ?_ ?_
 .exact⟨_,S,by rw [hx,fx,bZ];exact fr,fs,n⟩
 .rintro h j b _ ⟨_,_,_,_,N⟩;exact au.of N
 .rintro h g j b e ⟨q,rfl,⟨x,s,as⟩,U,bm⟩;rw [bh]at e;cases r:(cA G λd=>decide (d=.new))[h]? with
  |none=>rw [r]at e;cases e
  |some u=>
   rw [r]at e;obtain rfl:=a8 e;refine⟨_,S,.inl ⟨S,_,au.of s⟩,_,S,cE,λt w=> ?_⟩;obtain⟨R,W⟩:=eN.push (K:=K) (k:=4) (l:=u) s as w;refine⟨c,_,_,S,S,R, ?_,_,S, ?_,(U.new w).upd E, ?_⟩
   .rw [ag,bL as,bB,bB,bB,ag,ag,ag,p7,cn,dW];omega
   .rw [dm,r,aW,<-cv];exact W
   .have an:f≠t:=by intro bl;rw [<-bl,bm]at w;cases w
    rw [Q X,Q an];exact bm
 rintro j fT ⟨q,rfl,c3,f0,_⟩;rw [ag,dB]at c3;exact⟨_,S,ds c fT f0 E c3.lst⟩
abbrev Ex:=ae
abbrev De:a6:=inClass (top 38) 0
abbrev Df:a6:=inClass (top 38) 1
abbrev Dg:a6:=inClass (top 38) 2
abbrev Dh:a6:=inClass (top 38) 3
abbrev Di:a6:=inClass (top 38) 4
def cF(A:ai):List V:=A.map λD=>V.int (D.toNat:Int)
def Dj(A D G M N:Z):List (aa×V):=[("text",.ref A),("nodes",.ref D),("binders",.ref G),("sorts",.ref M),("places",.ref N)]
structure eE(K:ah)(A D:Z):Prop where
 p:qX K A D
 n:o7 K D
 text:dE K A "text"
structure cj(K:ah)(T U:Z)(H:G)(p:Z)(D:Ex):Prop where
 ok:bD D
 ex:∃a N Q lb S lp,H p=Y (.ins T a (Dj N Q lb S lp))/\H N=Y (.lst (cF (bj D)))/\
  (∃rs:List NR,H Q=Y (.lst (rs.map λM=>V.ref M.a))/\(∀M∈rs,gO U (bj D).length H M)/\rs.map (·.i)=infos O D/\rs.map (·.sp)=dw D 0)/\
  H lb=Y (.dK ((mL D).map λx=>(.inl (x.1:Int),.int (x.2:Nat))))/\LstAt K H S ((bq D).map a9)/\LstAt K H lp ((aq D).map A)
def gO.ext{H:G}{N:NR}(Q:Ext H q)(S:gO d r H N):gO d r q N:=by obtain⟨⟨T,U⟩,a⟩:=S;exact⟨⟨T,Q _ _ U⟩,Q _ _ a⟩
def gO.node{H:G}{A:NR}(T:gO d r H A):kK d H A.a A.i:=by obtain⟨⟨D,M⟩,U⟩:=T;exact⟨⟨D,_,M,S⟩,⟨D,_,M,S⟩,⟨D,_,M,S⟩,A.lp,⟨D,_,M,S⟩,U⟩
def xt{H:G}:∀{A:List NR},(∀D∈A,gO d r H D)->cO (kK d H) (A.map (·.a)) (A.map (·.i))
 |[],_=>.nil
 |D::A,a=>.cons (a D bY).node (xt λQ S=>a Q (bM _ S))
variable{pi:Ex}
def cj.ext{K:ah}{H:G}(A:Ext H q)(T:cj K d p H L pi):cj K d p q L pi:=by obtain⟨U,a,b,c,D,e,f,g,h,⟨i,j,k,l,m⟩,n,o,M⟩:=T;exact⟨U,a,b,c,D,e,f,A _ _ g,A _ _ h,⟨i,A _ _ j,λN r=>(k N r).ext A,l,m⟩,A _ _ n,o.ext A,M.ext A⟩
def cj.prog{K:ah}{H:G}(U:cj K p d H L pi):lQ K p d H L (de pi):=by
 obtain⟨l,A,m,a,b,c,M,D,n,⟨e,f,g,h,o⟩,i,j,k⟩:=U;refine⟨⟨a,e.map (·.a),⟨A,_,D,S⟩,by rw [eh];exact f, ?_⟩,⟨b,⟨A,_,D,S⟩,i⟩,⟨c,⟨A,_,D,S⟩,j⟩,⟨M,⟨A,_,D,S⟩,k⟩⟩;show cO (kK d H) _ (infos O pi)
 rw [<-h];exact xt g
def cj.nodes{K:ah}{H:G}(S:cj K d p H L pi):∃A,ic d H L "nodes" (.ref A)/\jX p H A (infos O pi):=by obtain⟨A,T,U,a,b⟩:=S.prog.nodes;exact⟨A,U,T,a,b⟩
def ju{H:G}{o:HO}(a:H d=Y (.ins L pr FM))(N:H p=Y (.lst ul)):upd H d o p=Y (.lst ul):=by rw [Q (gy a N).symm];exact N
def LstAt.keep{K:ah}{H:G}{o:HO}(D:H d=Y (.ins L pr FM))(c:LstAt K H p re):LstAt K (upd H d o) p re:=by
 obtain⟨N,A,e⟩:=c;refine⟨N, ?_,Paired.cb e λf g M=>bC (.inl (by rw [D];exact trivial)) M⟩;rcases A with(A|⟨u,A⟩)|A
 .exact .inl (.inl (ju D A))
 .exact .inl (.inr ⟨u,by rw [Q (cW A D (by intro M;cases M))];exact A⟩)
 .exact .inr A
def gO.keep{H:G}{A:NR}{c:Z}{o:HO}(e:gO p r H A)(a:H d=Y (.ins c L FM))(f:FM.length≠6):gO p r (upd H d o) A:=by
 obtain⟨⟨g,b⟩,h⟩:=e;have i:A.a≠d:=cW b a (by intro M;injection M with _ _ M;exact f (by rw [<-M];rfl))
 exact⟨⟨g,by rw [Q i];exact b⟩,ju a h⟩
def tj(K:ah)(M S T:Z):Sp:=λa H b c=>∃D d N,∃G:ai,a=[.ref D,.ref N]/\H D=Y (.ins M d [])/\H N=Y (.lst (cF G))/\G.length<=9000/\
 (hX G=O->∀A,bK D H A->c (.ref T) O A)/\∀Q,hX G=Y Q->∀A,bK D H A->cj K M S A D Q->b .br A
def bK.ext{H:G}(N:bK d H q)(Q:Ext q sK):bK d H sK:=λc o S T=>Q c o (N c o S T)
def bK.g0{H:G}{o:HO}(N:bK d H q):bK d H (upd q d o):=λc u S M=>by rw [Q M];exact N c u S M
def NP(cr:a7 K "__init__" "Program.__init__" De pr o0)(f:eE K d p)(cs:z "list"=O)(ct:bx l m K z B (bA l m) 8 "read_expression" ["text"] (xj p L)) (c0:bx l m K z B (bA l m) 2 "binders_of" ["nodes"] (C6 p L)) (c1:bx l m K z B aD 1 "sorts_of" ["nodes"] (C7 K p)) (c2:bx l m K z B aD 2 "places_of" ["nodes"] (Dd K p)):aS l m K z B (bA l m) 9 pr o0 ["self","text"] (tj K d p L):=by
 refine cr.eu ["self","text"] λfl fm fn fr H fs fT f0 h c3 f1 _ sz=> ?_;obtain⟨a,N,C,k,rfl,E,F,c4,a1,c5⟩:=c3;have c6:=h.mo 1
 have a2:=h.mo 2;refine⟨_,ar (dQ (T 0) (r1 IL (by rfl) cs (by decide+kernel) (aK 1)) S) (ar (dQ (T 0) (gL ct h dt (aK 1)) S) (ar (dQ (T 0) (gL c0 a2 dt (D (aG 0) aC)) S) (ar (dQ (T 0) (bG c1 c6 (D (aG 0) aC)) S) (ax (dQ (T 0) (bG c2 a2 (D (aG 0) aC)) S))))), ?_⟩;have c7:C≠a:=(gy E F).symm
 refine⟨_,S,C,_,S,.inl (au.of F),λb a3=> ?_⟩;have c8:a≠b:=cB E a3
 have a4:Ext H (upd H b (.lst (cF k))):=Ext.one a3;refine⟨_,S,a,d,N,_,S,a4 _ _ E,f.p.c,f.text,by decide, ?_⟩;have A:bK a H (upd (upd H b (.lst (cF k))) a (.ins d N (aO "text" (.ref b) []))):=a4.but.g0
 have c9:upd (upd H b (.lst (cF k))) a (.ins d N (aO "text" (.ref b) [])) b=Y (.lst (cF k)):=by rw [Q c8.symm,M]
 have db:upd (upd H b (.lst (cF k))) a (.ins d N (aO "text" (.ref b) [])) a=Y (.ins d N (aO "text" (.ref b) [])):=M;generalize upd (upd H b (.lst (cF k))) a (.ins d N (aO "text" (.ref b) []))=f2 at*;refine⟨_,S,C,k,S,A _ _ F c7,c4, ?_⟩;cases a5:hK (bX [] (k.map norm))with
 |none=>exactλR W=>a1 (NK a5) R (A.ext W)
 |some dd=>
 obtain⟨f4,f8⟩:=dd;obtain⟨i,bd,dl,be,dp,X,rfl,rfl⟩:=BH.mp a5;subst dl;intro y c w ab ga bi ds bk dx;have r:=ab _ _ db
 have dK:=ab _ _ c9;have dL:=A.ext ab
 have ge:c≠a:=(gy r bi).symm;refine⟨_,S,a,d,N,_,S,r,f.p.c,f.p.nodes,(by show 1<1000;decide), ?_⟩;have bl:bK a H (upd y a (.ins d N (aO "nodes" (.ref c) (aO "text" (.ref b) [])))):=dL.g0
 have bm:upd y a (.ins d N (aO "nodes" (.ref c) (aO "text" (.ref b) []))) a=Y (.ins d N (aO "nodes" (.ref c) (aO "text" (.ref b) []))):=M;have dT:=ju (o:=.ins d N (aO "nodes" (.ref c) (aO "text" (.ref b) []))) r dK
 have bn:=ju (o:=.ins d N (aO "nodes" (.ref c) (aO "text" (.ref b) []))) r bi;have bs:∀e∈w,gO p (bj i).length (upd y a (.ins d N (aO "nodes" (.ref c) (aO "text" (.ref b) [])))) e:=λe h=>(ds e h).keep r (by show 1≠6;decide)
 generalize upd y a (.ins d N (aO "nodes" (.ref c) (aO "text" (.ref b) [])))=gl at*;have ad:∀{as:G},as c=Y (.lst (w.map λe=>V.ref e.a))->(∀e∈w,gO p (bj i).length as e)->jX p as c (infos O i):=λ{as} dX d0=>⟨w.map (·.a),by rw [eh];exact dX,by rw [<-bk];exact xt d0⟩
 have al:(infos O i).length<=30:=by rw [e7];exact be
 refine⟨_,S,a,d,N,_,_,S,bm,f.p.c,f.p.nodes,S,c,infos O i,S,ad bn bs,al,NJ X,λam R W=>a1 (NL bd X am) R (bl.ext W),λam s g t go an=> ?_⟩;obtain⟨d1,ap,em⟩:=NM bd X be dp am;rw [em]at an;have u:=t _ _ bm
 refine⟨_,S,a,d,N,_,S,u,f.p.c,f.p.binders,(by show 2<1000;decide), ?_⟩;have eq:bK a H (upd s a (.ins d N (aO "binders" (.ref g) (aO "nodes" (.ref c) (aO "text" (.ref b) []))))):=(bl.ext t).g0
 have bt:upd s a (.ins d N (aO "binders" (.ref g) (aO "nodes" (.ref c) (aO "text" (.ref b) [])))) a=Y (.ins d N (aO "binders" (.ref g) (aO "nodes" (.ref c) (aO "text" (.ref b) [])))):=M;have es:=ju (o:=.ins d N (aO "binders" (.ref g) (aO "nodes" (.ref c) (aO "text" (.ref b) [])))) u (t _ _ dT)
 have bv:=ju (o:=.ins d N (aO "binders" (.ref g) (aO "nodes" (.ref c) (aO "text" (.ref b) [])))) u (t _ _ bn);have ca:∀e∈w,gO p (bj i).length (upd s a (.ins d N (aO "binders" (.ref g) (aO "nodes" (.ref c) (aO "text" (.ref b) []))))) e:=λe h=>((bs e h).ext t).keep u (by show 2≠6;decide)
 have cd:upd s a (.ins d N (aO "binders" (.ref g) (aO "nodes" (.ref c) (aO "text" (.ref b) [])))) g=_:=(Q (cW an u (by intro v;cases v))).trans an;generalize upd s a (.ins d N (aO "binders" (.ref g) (aO "nodes" (.ref c) (aO "text" (.ref b) []))))=gt at*;refine⟨_,S,a,d,N,_,_,S,bt,f.p.c,f.p.nodes,S,c,infos O i,S,ad bv ca,al,λj x n g1 ce=> ?_⟩;rw [Mb ap]at ce;have q:=n _ _ bt
 refine⟨_,S,a,d,N,_,S,q,f.p.c,f.p.sorts,(by show 3<1000;decide), ?_⟩;have ev:bK a H (upd x a (.ins d N (aO "sorts" (.ref j) (aO "binders" (.ref g) (aO "nodes" (.ref c) (aO "text" (.ref b) [])))))):=(eq.ext n).g0
 have ch:upd x a (.ins d N (aO "sorts" (.ref j) (aO "binders" (.ref g) (aO "nodes" (.ref c) (aO "text" (.ref b) []))))) a=Y (.ins d N (aO "sorts" (.ref j) (aO "binders" (.ref g) (aO "nodes" (.ref c) (aO "text" (.ref b) []))))):=M;have ex:=ju (o:=.ins d N (aO "sorts" (.ref j) (aO "binders" (.ref g) (aO "nodes" (.ref c) (aO "text" (.ref b) []))))) q (n _ _ es)
 have ci:=ju (o:=.ins d N (aO "sorts" (.ref j) (aO "binders" (.ref g) (aO "nodes" (.ref c) (aO "text" (.ref b) []))))) q (n _ _ bv);have cl:∀e∈w,gO p (bj i).length (upd x a (.ins d N (aO "sorts" (.ref j) (aO "binders" (.ref g) (aO "nodes" (.ref c) (aO "text" (.ref b) [])))))) e:=λe h=>((ca e h).ext n).keep q (by show 3≠6;decide)
 have cn:upd x a (.ins d N (aO "sorts" (.ref j) (aO "binders" (.ref g) (aO "nodes" (.ref c) (aO "text" (.ref b) []))))) g=_:=(Q (cW (n _ _ cd) q (by intro v;cases v))).trans (n _ _ cd);have fa:=ce.keep (o:=.ins d N (aO "sorts" (.ref j) (aO "binders" (.ref g) (aO "nodes" (.ref c) (aO "text" (.ref b) []))))) q
 generalize upd x a (.ins d N (aO "sorts" (.ref j) (aO "binders" (.ref g) (aO "nodes" (.ref c) (aO "text" (.ref b) [])))))=g2 at*;refine⟨_,S,a,d,N,_,_,S,ch,f.p.c,f.p.nodes,S,c,infos O i,S,ad ci cl,al,λfd g3 P hd co=> ?_⟩;rw [BR ap]at co;have U:=P _ _ ch
 refine⟨_,S,a,d,N,_,S,U,f.p.c,f.p.places,(by show 4<1000;decide), ?_⟩;refine c5 i d1 _ (ev.ext P).g0 ⟨ap,N,b,c,g,j,fd,M,ju U (P _ _ ex),⟨w,ju U (P _ _ ci),λe h=>((cl e h).ext P).keep U (by show 4≠6;decide),bk,dx⟩,(Q (cW (P _ _ cn) U (by intro v;cases v))).trans (P _ _ cn),(fa.ext P).keep U,co.keep U⟩
def cj.node{c:Z}{H:G}(e:cj K d c H p pi){S:Ex}(g:S∈aH pi):∃(T:Z) (M:List (aa×V)) (N:Z) (A:List Z) (Q:Z) (a:Option Nat),H p=Y (.ins d T M)/\M.lookup ("nodes":aa)=Y (.ref N)/\H N=Y (.lst (A.map V.ref))/\A.length=size pi/\A[af S]?=Y Q/\kK c H Q (cZ a S):=by obtain⟨N,A,⟨T,M,h,i⟩,j,f⟩:=e.prog.nodes;obtain⟨a,k⟩:=e.ok.info g;obtain⟨Q,l,m⟩:=lR f k;refine⟨T,M,N,A,Q,a,h,i,j, ?_,l,m⟩;rw [bL f];exact e7 pi O
def Dk(K:ah)(M N:Z):Sp:=λQ H S _=>∃D G,∃A:Int,Q=[.ref D,.int A]/\cj K M N H D G/\S (.bl (decide (0<=A/\A<(size G:Int)))) H
def NQ(f:a7 K "has_node" "Program.has_node" Df p o0)(e:eE K d L)(g:z "len"=O):aS l m K z B aD 1 p o0 ["self","label"] (Dk K d L):=by
 refine f.go ["self","label"] λq r s t H u v x y A _ _ _=> ?_;obtain⟨h,M,G,rfl,i,N⟩:=A;refine⟨_,ax (aQ (H3 u9 rX cK (T 1) (cR en (by rfl) g dD (D (aG 0) aC)))), ?_⟩;obtain⟨j,k,a,P,Q,C,b,n,o,U,_⟩:=i.node (hE M);refine⟨_,S,_,_,S,S,_,S, ?_⟩;by_cases c:0<=G
 .rw [ck c];refine cf ⟨_,S,h,d,j,k,_,S,b,e.p.c,e.p.nodes,n,a,_,S,.inl (au.of o),_,_,S,S, ?_⟩;rw [ag,U];have:decide (0<=G/\G<(size M:Int))=decide (G<(size M:Int)):=by rw [hc];exact⟨λA=>A.2,λA=>⟨c,A⟩⟩
  rw [this]at N;exact N
 .rw [bT c];have:decide (0<=G/\G<(size M:Int))=ao:=bT λA=>c A.1
  rw [this]at N;exact b1 N
def Dl(K:ah)(M N:Z):Sp:=λQ H S _=>∃D G A,Q=[.ref D,.int (af A:Nat)]/\cj K M N H D G/\A∈aH G/\S (.bl (decide (aA A=.call))) H
def NS(a:a7 K "is_call" "Program.is_call" Dg L o0)(A:eE K d p)(c:z "CALL"=Y (.str "a call" wP)):aS l m K z B aD 1 L o0 ["self","label"] (Dl K d p):=by
 refine a.go ["self","label"] λv x y P H D C E F M _ _ _=> ?_;obtain⟨e,G,f,rfl,g,h,Q⟩:=M;refine⟨_,ax (aQ (n8 cU (fX (cc di (aG 0) (T 1) (λ_ _=>S)) S) (hn c) (bU _))), ?_⟩;obtain⟨i,j,k,R,N,V,U,n,o,W,b,q⟩:=g.node h;obtain⟨r,s,t,u⟩:=q.aJ;refine⟨_,S,e,d,i,j,_,S,U,A.p.c,A.p.nodes,n,_,S,k,_,_,_,S,S,au.of o,e2 (by rw [bh,b];rfl),N,p,r,s,_,S,t,A.n.cl,A.n.aJ,u,S, ?_⟩;have:=qW (aA f) .call
 rw [<-this]at Q;exact Q
def xu(K:ah)(N Q:Z):Sp:=λS H T _=>∃G M,S=[.ref G]/\cj K N Q H G M/\∀A D,Ext H D->H A=O->D A=Y (.lst ((cA (infos O M) λa=>decide (a=.call)).map λb=>V.int (b:Nat)))->T (.ref A) D
def NU(e:a7 K "calls_within" "Program.calls_within" Dh L o0)(a:eE K d p)(g:z "CALL"=Y (.str "a call" wP))(h:bx l m K z B aD 1 "labels_of" ["nodes","forms"] (q1 K p)):aS l m K z B aD 2 L o0 ["self"] (xu K d p):=by
 refine e.go ["self"] λw A C E H F G R i j _ _ _=> ?_;obtain⟨k,Q,rfl,b,T⟩:=j;refine⟨_,ax (aQ (bG h i (D (aG 0) (D (b6 (D (hn g) aC)) aC)))), ?_⟩;obtain⟨n,⟨o,P,q,r⟩,s⟩:=b.nodes;refine⟨_,S,k,d,o,P,_,S,q,a.p.c,a.p.nodes,r,eM,λc t=> ?_⟩;have N:Ext H (upd H c (.tup [.str "a call"])):=Ext.one t
 refine⟨n,infos O Q,c,[.call],S,s.ext N,by rw [e7];exact b.ok.bF,av.of M,λu v x y U=> ?_⟩;rw [ti]at U;exact T u v (N.trans x) (N.none y) U
def tm(K:ah)(S T:Z):Sp:=λa H b _=>∃M N A Q c,a=[.ref M,.int (af A:Nat)]/\cj K S T H M N/\A∈aH N/\kids A=Q::c/\∀D G,Ext H G->H D=O->av K G D (b2 (0,af Q))->b (.ref D) G
def NV(e:a7 K "first_part_of" "Program.first_part_of" Di L o0)(A:eE K d p)(g:z "NODE_PLACE"=Y (.int 0 wP)):aS l m K z B aD 1 L o0 ["self","label"] (tm K d p):=by
 refine e.go ["self","label"] λX ab ad al H am an ap as h _ _ _=> ?_;obtain⟨i,a0,Q,k,b,rfl,U,n,o,f⟩:=h;refine⟨_,ax (aQ (b6 (D (b8 g) (D (cc di (fX (cc di (aG 0) (T 1) (λ_ _=>S)) S) cK (λ_ _=>S)) aC)))), ?_⟩;obtain⟨q,r,s,a1,t,a2,u,v,x,a3,y,P⟩:=U.node n;obtain⟨c,⟨G,C,E,F⟩,N⟩:=P.parts;have R:H c=Y (.lst ((af k::b.map af).map λQ=>V.int (Q:Nat))):=by
  rw [N];show Y (HO.lst (((kids Q).map af).map _))=_
  rw [o];rfl
 refine⟨_,S,i,d,q,r,_,S,u,A.p.c,A.p.nodes,v,_,S,s,_,_,_,S,S,au.of x,e2 (by rw [bh,y];rfl),t,p,G,C,_,S,E,A.n.cl,A.n.parts,F,c,_,_,_,S,S,au.of R,e2 (j:=0) S,cE,λW a=>f W _ (Ext.one a) a (av.of M)⟩
abbrev Dm:a6:=top 45
abbrev Dn:a6:=top 46
structure b9(N:az)(w:aw)(K:ah)(M H:G)(D:Z)(tab:Tb):Prop where
 ext:Ext M H
 ex:∃A,H D=Y (dX N w D A)/\b7 K H A/\fv N w K H A tab/\(A.map (·.2.2)).Nodup/\V.ref D∉A.map (·.2.2)/\∀d,V.ref d∈A.map (·.2.2)->M d=O
 new:M D=O
def b9.at(A:b9 l m K q H d pc):TabAt l m K H d pc:=let⟨D,G,M,N,Q,S,_⟩:=A.ex;⟨D,G,M,N,Q,S⟩
def b9.on(A:Ext H sK)(D:b9 l m K q H d pc):b9 l m K q sK d pc:=by obtain⟨M,N,Q,S,T,a,c⟩:=D.ex;exact⟨D.ext.trans A,⟨M,A _ _ N,A.keys Q,Paired.cb S λg b G=>⟨G.1,let⟨P,e,f⟩:=G.2;⟨P,e,f.ext A⟩⟩,T,a,c⟩,D.new⟩
def b9.from(A:Ext q H)(D:b9 l m K H sK d pc):b9 l m K q sK d pc:=by obtain⟨G,M,N,Q,S,T,a⟩:=D.ex;exact⟨A.trans D.ext,⟨G,M,N,Q,S,T,λb c=>A.none (a b c)⟩,A.none D.new⟩
def tp:∀{A:bV} {pc:Tb},fv l m K H A pc->A.map (·.1)=(pc.map (·.1)).map pk
 |_,_,.nil=>rfl
 |x::A,y::pc,.cons a b=>by rw [aV,aV,aV,tp b,a.1]
def kM(G:fv l m K H pu pc)(M:s0∉pc.map (·.1)):cg pu (pk s0)=O:=by
 have:=kJ (tp G) s0;rw [bT M]at this;cases a:cg pu (pk s0)with
 |none=>rfl
 |some v=>rw [a]at this;cases this
def b9.add{p:Pr}{ps:List Pr}(P:Ext q H)(n:H L=Y (dX l m L pu))(o:b7 K H pu)(a:fv l m K H pu pc)(w:(pu.map (·.2.2)).Nodup)(f:V.ref L∉pu.map (·.2.2))(r:∀d,V.ref d∈pu.map (·.2.2)->q d=O)(g:q L=O)(s:fR l m K H d ps) (x:V.ref d∉pu.map (·.2.2)) (h:d≠L) (y:q d=O) (z:av K H pr (b2 p)) (b:p∉pc.map (·.1)):b9 l m K q (upd H L (dX l m L (cz pu (pk p) pr (.ref d)))) L (pc++[(p,ps)]):=by
 have i:cX (H L)\/H L=O:=.inl (by rw [n];exact trivial);have j:∀T t,T≠L->fR l m K H T t->fR l m K (upd H L (dX l m L (cz pu (pk p) pr (.ref d)))) T t:=λT t B C=>by obtain⟨E,F,A,R⟩:=C;exact⟨E,by rw [Q B];exact F,A.same λpr W=>bC i,R⟩
 refine⟨P.upd g,⟨cz pu (pk p) pr (.ref d),M,(lz o _ z).same λc W=>bC i, ?_, ?_, ?_, ?_⟩,g⟩
 .have k:fv l m K (upd H L (dX l m L (cz pu (pk p) pr (.ref d)))) (pu++[(pk p,pr,.ref d)]) (pc++[(p,ps)]):=fS (q0 j a f) ⟨S,d,S,j d ps h s⟩;rw [iF _ _ (kM a b)]at k⊢;exact k
 .rw [iF _ _ (kM a b),aW];refine gU.mpr ⟨w,by simp,λu D v X e=> ?_⟩;have e:u=V.ref d:=e.trans (bf.mp X)
  rw [e]at D;exact x D
 .rw [iF _ _ (kM a b),aW];intro G;rcases bS.mp G with G|G
  .exact f G
  .have:=bf.mp G;injection this with this;exact h this.symm
 .rw [iF _ _ (kM a b),aW];intro T G;rcases bS.mp G with G|G
  .exact r T G
  .have:=bf.mp G;injection this with this;rw [this];exact y
def b9.put{g G:bV}{ps:List Pr}(h:Ext q H)(i:H p=Y (dX l m p pu))(j:b7 K H pu)(k:fv l m K H pu pc)(T:(pu.map (·.2.2)).Nodup)(a:V.ref p∉pu.map (·.2.2))(c:∀d,V.ref d∈pu.map (·.2.2)->q d=O)(D:q p=O)(t:(pc.map (·.1)).Nodup)(A:cg pu (pk s0)=Y (.ref d)) (n:H d=Y (dX l m d g)) (o:b7 K H G) (P:G.map (·.1)=ps.map pk):b9 l m K q (upd H d (dX l m d G)) p (dM pc s0 ps):=by
 have N:cX (H d)\/H d=O:=.inl (by rw [n];exact trivial);have e:V.ref d∈pu.map (·.2.2):=by obtain⟨y,w,r⟩:=cm.mp A;rw [<-r];exact d8 (fL w)
 have s:p≠d:=by intro u;exact a (by rw [u];exact e)
 refine⟨h.upd (c d e),⟨pu,by rw [Q s];exact i,j.same λb f=>bC N,CU (λF L v x=> ?_) ⟨G,M,o.same λb f=>bC N,P⟩ k T t A,T,a,c⟩,D⟩;obtain⟨z,B,C,E⟩:=x;exact⟨z,by rw [Q v];exact B,C.same λb f=>bC N,E⟩
def cj.places(b:cj K d L H p pi):∃N D G M,H p=Y (.ins d N D)/\D.lookup ("places":aa)=Y (.ref G)/\au K H G (M.map V.ref)/\fQ K H M ((aq pi).map A):=by obtain⟨G,⟨N,D,c,Q⟩,M,e,f⟩:=b.prog.places;exact⟨N,D,G,M,c,Q,e,f⟩
def lW(G:bD pi):((aq pi).map A).Nodup:=jk (λ_ _=>ed) G.cY.places
def nc(G:bD pi):((aq pi).map A).length<=90:=by
 have M:=places_len pi;have N:=G.bF
 rw [ag];omega
def gz(A:List Pr):Tb:=A.map λD=>(D,[])
def xv(P:az)(w:aw)(K:ah)(M N:Z):Sp:=λQ H S _=>∃D G,Q=[.ref D]/\cj K M N H D G/\∀d q,b9 P w K H q d (gz ((aq G).map A))->S (.ref d) q
def xw{A:List s2}{D:s2}(N:A.Nodup)(Q:A[r]?=Y D):D∉A.take r:=by intro T;rw [<-zo (r+1) A,dm,Q]at N;exact(gU.mp (gU.mp N).1).2.2 D T D (bf.mpr S) S
def NW{v:Z}(as:a7 K "empty_table" "empty_table" Dm v o0)(t:eE K p L):aS l m K z B aD 1 v o0 ["program"] (xv l m K p L):=by
 refine as.go ["program","table","place"] λce ch ci C H cl cn co cr G E a0 sz=> ?_;obtain⟨F,x,rfl,n,a1⟩:=G;refine⟨_,ar (bo 1 E kz) (ar (d2 dY S (dy (aG 0)) (bW 2 E) (ax (i9 a0 (T 1) (T 2) kz S))) (ax (aQ (T 1)))), ?_⟩;obtain⟨a2,a3,a4,P,a5,bd,R,W⟩:=n.places;have be:=lW n.ok
 have X:=nc n.ok;intro d ab;have U:Ext H (upd H d (dX l m d [])):=Ext.one ab
 refine⟨_,S,F,p,a2,a3,_,S,U _ _ a5,t.p.c,t.p.places,bd,a4,S,⟨_,U.ee R⟩, ?_⟩;generalize (aq x).map A=i at*;refine fC (xs:=P.map V.ref) (λa j b=>∃q,j=[Y (.ref F),Y (.ref d),q]/\b9 l m K H b d (gz (i.take a))) ?_ ?_ ?_ ?_
 .exact⟨O,S,U,⟨[],M,(λ_ G=>nomatch G),.nil,gT,(λG=>nomatch G),λ_ G=>nomatch G⟩,ab⟩
 .rintro a j b _ ⟨_,_,D⟩;exact D.ext.ee R
 .rintro a cs j b f ⟨q,rfl,D⟩;rw [bh]at f;cases r:P[a]? with
  |none=>rw [r]at f;cases f
  |some ad=>
   rw [r]at f;obtain rfl:=a8 f;obtain⟨N,al,am⟩:=ez W r;obtain⟨c,s,an,u,bi,bk,bl⟩:=D.ex;intro g k;have Q:=Ext.one (o:=dX l m g []) k
   have bm:d≠g:=cB s k;have ct:c.length<=90:=by have:=bL u;unfold gz at this;rw [ag,dW]at this;omega
   have bn:V.ref g∉c.map (·.2.2):=λbs=>by
    obtain⟨y,w,bt⟩:=bE.mp bs;have:∀{c:bV} {pc:Tb},fv l m K b c pc->∀y∈c,∃h X,y.2.2=.ref h/\fR l m K b h X:=by
     intro c pc D;induction D with
     |nil=>intro y w;cases w
     |cons N _ bv=>
      intro y w;rcases bb.mp w with rfl|w
      .obtain⟨_,h,e,ca⟩:=N;exact⟨h,_,e,ca⟩
      .exact bv y w
    obtain⟨h,c0,e,c1,ap,_⟩:=this u y w;rw [bt]at e;injection e with e;rw [<-e,k]at ap;cases ap
   refine⟨_,S,_,S,d,c,pk N,ad,S,Q _ _ s,Q.keys an,S,Q.aP (D.ext.aP am),by omega,_,S, ?_⟩;have cd:gz (i.take (a+1))=gz (i.take a)++[(N,[])]:=by unfold gz;rw [dm,al,aW];rfl
   rw [cd];refine b9.add (D.ext.trans Q) (Q _ _ s) (Q.keys an) (Paired.cb u λc2 ad N=>⟨N.1,let⟨g,x,C⟩:=N.2;⟨g,x,C.ext Q⟩⟩) bi bk bl D.new ⟨[],M,(λ_ G=>nomatch G),S⟩ bn bm.symm (D.ext.none k) (Q.aP (D.ext.aP am)) ?_;unfold gz;rw [eh];show N∉(i.take a).map id
   rw [nN];exact xw be al
 .rintro j b ⟨q,rfl,D⟩;rw [ag,bL W,dB]at D;exact⟨_,S,a1 d b D⟩
def xx(D:Fm)(A:Nat):Option Pr:=match D with
 |.fn=>Y (1,A)|.pair=>Y (2,A)|.new=>Y (3,A)|.num=>Y (0,0)|.given=>Y (0,0)|.add=>Y (0,0)|_=>O
def hP(D:List Info)(A:Nat):Option Pr:=(D[A]?).bind λG=>xx G.aJ A
def gA(D:List Info)(G:List Pr)(M:Nat):Tb:=G.map λA=>(A,if A.1=0/\A.2<M then(hP D A.2).toList else [])
def NX(D:List Info)(A:List Pr):gA D A 0=gz A:=by unfold gA gz;refine gF λG _=> ?_;rw [N (by omega)]
def NY(a:hP wS r=Y s0):dM (gA wS re r) (0,r) [s0]=gA wS re (r+1):=by
 unfold dM gA;rw [eh];refine gF λA _=> ?_;show(if A=(0,r)then(A,[s0])else(A,if A.1=0/\A.2<r then(hP wS A.2).toList else []))=(A,if A.1=0/\A.2<r+1 then(hP wS A.2).toList else [])
 by_cases c:A=(0,r)
 .rw [ak c,c,ak ⟨S,rb r⟩,a];rfl
 .rw [N c];have:(A.1=0/\A.2<r+1)↔(A.1=0/\A.2<r):=⟨λG=>⟨G.1,by have:=G.2;have:A.2≠r:=λy=>c (mm G.1 y);omega⟩,λG=>⟨G.1,by omega⟩⟩
  by_cases Q:A.1=0/\A.2<r
  .rw [ak Q,ak (this.mpr Q)]
  .rw [N Q,N λG=>Q (this.mp G)]
def NZ(U:hP wS r=O):gA wS re (r+1)=gA wS re r:=by
 unfold gA;refine gF λD _=> ?_;by_cases c:D=(0,r)
 .rw [c,ak ⟨S,rb r⟩,U,N (by simp)];rfl
 .have:(D.1=0/\D.2<r+1)↔(D.1=0/\D.2<r):=⟨λG=>⟨G.1,by have:=G.2;have:D.2≠r:=λy=>c (mm G.1 y);omega⟩,λG=>⟨G.1,by omega⟩⟩
  by_cases M:D.1=0/\D.2<r
  .rw [ak M,ak (this.mpr M)]
  .rw [N M,N λG=>M (this.mp G)]
def xy(D:List Info)(A:List Pr)(G:Nat):(gA D A G).map (·.1)=A:=by unfold gA;rw [eh];exact nN A
def Dq(N:re.Nodup)(Q:s0∈re):ba (gA wS re r) s0=Y (if s0.1=0/\s0.2<r then(hP wS s0.2).toList else []):=
 hL (by rw [xy];exact N) (bE.mpr ⟨s0,Q,S⟩)
def jv(A:Ex):Option cx:=match A with
 |.num _ _=>Y .num
 |.var _ y=>if y=dq then Y .num else O
 |.fn a _ _=>Y (.fn a)
 |.pair a _ _=>Y (.pair a)
 |.new a _=>Y (.ref a)
 |.add _ _ _=>Y .num
 |_=>O
def N1(A:Ex):xx (aA A) (af A)=(jv A).map a9:=by
 cases A with
 |var a y=>
  by_cases c:y=dq
  .simp only [aA,jv,c,eP];rfl
  .simp only [aA,jv,c,iT];rfl
 |_=>rfl
def Dr(S:bD pi):fN pi or ut↔∃A∈aH pi,or=.node (af A)/\jv A=Y ut:=by
 unfold fN ru;rw [dH];have T:∀A∈aH pi,((⟨or,ut⟩:hu)∈uy pi A↔or=.node (af A)/\jv A=Y ut):=by
  intro A D;cases A with
  |var a y=>
   by_cases c:y=dq
   .subst c;simp [uy,S.free a D,jv,af,eq_comm]
   .obtain⟨b,U⟩:=rh.mp ((S.bound a y D).resolve_left c);simp [uy,U,jv,c]
  |_=>simp [uy,jv,af,eq_comm]
 exact⟨λ⟨A,D,Q⟩=>⟨A,D,(T A D).mp Q⟩,λ⟨A,D,Q⟩=>⟨A,D,(T A D).mpr Q⟩⟩
def xA(Q:bD pi):bI pi (gA (infos O pi) ((aq pi).map A) (size pi)) (fN pi):=by
 refine⟨xy _ _ _,λa i=> ?_⟩;refine⟨_,Dq (lW Q) (d8 i), ?_⟩;obtain⟨T,b,e,_⟩:=o4 Q i;have k:=Q.lt b
 obtain⟨o,l⟩:=Q.info b;have m:hP (infos O pi) (A a).2=(jv T).map a9:=by unfold hP;rw [<-e,l];exact N1 T
 by_cases c:(A a).1=0
 .rw [ak ⟨c,by rw [<-e];exact k⟩,m];have j:a=.node (af T):=ed (by rw [e];exact mm c S)
  have f:∀G,jv T=Y G↔fN pi a G:=λG=>by
   rw [Dr Q];constructor
   .intro D;exact⟨T,b,j,D⟩
   .rintro⟨y,d,U,D⟩;rw [j]at U;injection U with U;rw [Q.cY.uniq b d U];exact D
  cases g:jv T with
  |none=>
   refine⟨gT,(λ_ D=>nomatch D),λG=> ?_⟩;rw [<-f G,g];simp
  |some h=>
   refine⟨by simp,λy d=>⟨h,(lD ((f h).mp g)).2,by simpa using d⟩,λG=> ?_⟩;rw [<-f G,g];constructor
   .intro D;have D:a9 G=a9 h:=by simpa using D
    rw [mK D]
   .intro D;rw [a8 D];simp
 .rw [N λn=>c n.1];refine⟨gT,(λ_ D=>nomatch D),λG=>⟨(λD=>nomatch D),λD=> ?_⟩⟩;obtain⟨y,d,U,_⟩:=(Dr Q).mp D;rw [U]at c;exact absurd rfl c
abbrev ownOf(D:Ex):Tb:=gA (infos O D) ((aq D).map A) (size D)
def tq(P:az)(w:aw)(K:ah)(N Q:Z):Sp:=λS H T _=>∃A D,S=[.ref A]/\cj K N Q H A D/\∀G M,b9 P w K H M G (ownOf D)->T (.ref G) M
def N2(dl:a7 K "own_table" "own_table" Dn s3 o0)(i:eE K pr d)(dp:z "enumerate"=O)(ds:z "NUMBERS"=Y (.ref L))(cr:∀H,av K H L (b2 (0,0)))(cs:z "KIND_OF_MAKER"=Y (.ref p))(ct:KD K l m p lV) (c0:z "NODE_PLACE"=Y (.int 0 wP)) (dT:z "NUMBER"=Y (.str "a number" TW)) (d0:z "GIVEN"=Y (.str "in" Vc))(d1:bx l m K z B aD 1 "empty_table" ["program"] (xv l m K pr d)):aS l m K z B aD 2 s3 o0 ["program"] (tq l m K pr d):=by
 refine dl.go ["program","table","label","node"] λgo gt g1 c1 H g2 g3 hd em a2 a3 an sz=> ?_;obtain⟨a4,a,rfl,a5,c2⟩:=a2;refine⟨_,ar (bo 1 a3 (bG d1 em (aK 0))) (ar (d2 dY S (sf S dp (D (aG 0) aC)) (ll S (gX (bW 2 a3) (gX (bW 3 a3) lj))) (ax (bH (i5 (vP (aG 3) (el (v:=.ref p) S cs S)) S) (ax (i9 an (fk an (T 1) (b6 (D (b8 c0) (aK 2))) (λ_ _=>S)) (b6 (D (vO (el (v:=.ref p) S cs S) (aG 3) (λ_ _=>S)) (aK 2))) hy S)) (ax (bH (bQ vm (aG 3) (b6 (D (hn dT) (D (hn d0) (D dP aC)))) S) (ax (i9 an (fk an (T 1) (b6 (D (b8 c0) (aK 2))) (λ_ _=>S)) (el (v:=.ref L) S ds S) hy S)) bP))))) (ax (aQ (T 1)))), ?_⟩;refine⟨_,S,a4,a,S,a5,λh he bd=> ?_⟩;obtain⟨eq,⟨es,ev,ex,fa⟩,be,c3,c4⟩:=a5.nodes;have c5:=a5.ok
 refine⟨_,S,a4,pr,es,ev,_,S,bd.ext _ _ ex,i.p.c,i.p.nodes,fa,eq,_,S,au.of (bd.ext _ _ c3), ?_⟩;have c6:=lW c5
 have fd:∀Q,Q<size a->((0,Q):Pr)∈(aq a).map A:=λQ bi=>by obtain⟨fl,j,E⟩:=c5.node bi;exact bE.mpr ⟨_,gp j,by rw [E];rfl⟩
 have fm:be.length=size a:=by rw [bL c4,e7]
 show _;unfold ownOf at c2;generalize (aq a).map A=F at*;refine xp (xs:=be.map V.ref) (λQ ap t=>∃bk bl,ap=[Y (.ref a4),Y (.ref h),bk,bl]/\b9 l m K H t h (gA (infos O a) F Q)) ?_ ?_ ?_ ?_
 .exact⟨O,O,S,by rw [NX];exact bd⟩
 .rintro Q ap t _ ⟨_,_,_,x⟩;exact au.of (x.ext _ _ c3)
 .rintro Q fl ap t c7 j ⟨bk,bl,rfl,x⟩ fn;rw [bh]at j;cases as:be[Q]? with
  |none=>rw [as]at j;cases j
  |some c=>
   rw [as]at j;obtain rfl:=a8 j;obtain⟨U,fr,fs⟩:=ez c4 as;have bi:Q<size a:=by have:=(cM.mp as).1;omega
   have w:=x.on (Ext.one (o:=.tup [.int (Q:Nat),.ref c]) fn);refine⟨c7,_,S,av.of M,S,_,_,S,_,_,S,S, ?_⟩;generalize upd t c7 (.tup [.int (Q:Nat),.ref c])=hf at*;obtain⟨bm,bn,E,bs⟩:=(fs.ext w.ext).aJ;have R:hP (infos O a) Q=xx U.aJ Q:=by unfold hP;rw [fr];rfl
   have fT:((gA (infos O a) F Q).map (·.1)).Nodup:=by rw [xy];exact c6
   have c8:ba (gA (infos O a) F Q) (0,Q)=Y []:=by rw [Dq c6 (fd Q bi),N (by simp)]
   have c9:∀{k a0:G} {y b:Z} {a1:Pr} {e f:bV},Ext H k->k h=Y (dX l m h e)->b7 K k e->fv l m K k e (gA (infos O a) F Q)->(e.map (·.2.2)).Nodup->V.ref h∉e.map (·.2.2)->(∀b,V.ref b∈e.map (·.2.2)->H b=O)->cg e (pk (0,Q))=Y (.ref b)->k b=Y (dX l m b f)->f.map (·.1)=([]:List Pr).map pk->hP (infos O a) Q=Y a1->Ext k a0->av K a0 y (b2 a1)->
     f.length<aR/\b9 l m K H (upd a0 b (dX l m b (cz f (pk a1) y (.bl I)))) h (gA (infos O a) F (Q+1)):=by
    intro k a0 y b a1 e f f0 r s n W X ab C q ad R al f1;have f2:f=[]:=by
     cases f with
     |nil=>rfl
     |cons u v=>cases ad
    subst f2;refine⟨by show 0<aR;omega, ?_⟩;rw [<-NY R];refine b9.put (f0.trans al) (al _ _ r) (al.keys s) (Paired.cb n λhi y U=>⟨U.1,let⟨b,a,c1⟩:=U.2;⟨b,a,c1.ext al⟩⟩) W X ab w.new fT C (al _ _ q) ?_ S;exact lz (aU:=[]) (λ_ a2=>nomatch a2) _ f1
   refine⟨_,S,c,d,bm,bn,_,S,E,i.n.cl,i.n.aJ,bs,p,_,S,⟨lV,.inr (cD U.aJ),ct,S,S⟩,_,S, ?_⟩;rw [tf,kT];cases am:iK U.aJ with
   |some db=>
    refine cf ?_;have bt:hP (infos O a) Q=Y (db,Q):=by rw [R];cases bv:U.aJ<;>rw [bv]at am<;>first|(cases am;rfl)|cases am
    refine⟨_,S,_,S,cE,λca P=> ?_⟩;have f4:=(Ext.one (o:=.tup [.int 0,.int (Q:Nat)]) P) _ _ E
    obtain⟨e,r,s,n,W,X,ab⟩:=(w.on (Ext.one (o:=.tup [.int 0,.int (Q:Nat)]) P)).ex;obtain⟨b,C,f,q,cd,ad⟩:=f9 n c8;refine⟨h,.ref b,S,⟨e,pk (0,Q),ca,r,s,S,av.of M,C.symm⟩, ?_⟩;refine⟨_,S,c,d,bm,bn,_,S,f4,i.n.cl,i.n.aJ,bs,p,_,S,⟨lV,.inr (cD U.aJ),ct,S,by rw [tf,am];rfl⟩,_,S,cE,λdd ce=> ?_⟩;obtain⟨ch,ci⟩:=c9 (y:=dd) (w.ext.trans (Ext.one P)) r s n W X ab C q ad bt (Ext.one ce) (av.of M);exact⟨b,f,pk (db,Q),dd,S,(Ext.one ce) _ _ q,(Ext.one ce).keys cd,S,av.of M,ch,_,_,S,ci⟩
   |none=>
    refine b1 ?_;refine⟨_,S,c,d,bm,bn,_,S,E,i.n.cl,i.n.aJ,bs,(by show 3<=aR;decide),λf8 ga=> ?_⟩;refine⟨f8,_,S,.inr (av.of M),S,S,_,S, ?_⟩;have cl:=w.on (Ext.one (o:=.tup [.str "a number",.str "in",.str "add"]) ga)
    have ge:iA (.str (cD U.aJ)) [.str "a number",.str "in",.str "add"]=decide (U.aJ∈[Fm.num,.given,.add]):=s8 U.aJ [.num,.given,.add];rw [N d5,ge];by_cases g:U.aJ∈[Fm.num,.given,.add]
    .rw [ck g];have bt:hP (infos O a) Q=Y (0,0):=by
      rw [R];simp only [bb,ej,fy]at g;rcases g with g|g|g<;>rw [g]<;>rfl
     refine cf ⟨_,S,_,S,cE,λca P=> ?_⟩;obtain⟨e,r,s,n,W,X,ab⟩:=(cl.on (Ext.one (o:=.tup [.int 0,.int (Q:Nat)]) P)).ex;obtain⟨b,C,f,q,cd,ad⟩:=f9 n c8;refine⟨h,.ref b,S,⟨e,pk (0,Q),ca,r,s,S,av.of M,C.symm⟩, ?_⟩;obtain⟨ch,ci⟩:=c9 (y:=L) (cl.ext.trans (Ext.one P)) r s n W X ab C q ad bt (Ext.refl _) (cr _);exact⟨b,f,pk (0,0),L,S,q,cd,S,cr _,ch,_,_,S,ci⟩
    .rw [bT g];have gl:hP (infos O a) Q=O:=by
      rw [R];cases bv:U.aJ<;>rw [bv]at am g<;>first|rfl|(exact absurd (by decide) g)|cases am
     refine b1 ⟨_,_,S, ?_⟩;rw [NZ gl];exact cl
 .rintro ap t ⟨bk,bl,rfl,x⟩;rw [ag,fm]at x;exact⟨_,S,c2 h t x⟩
def xB(A:Pr):Int:=reduceHash (Ux [E9 (A.1:Int),E9 (A.2:Int)])
def xC:List Pr:=(eY 5).flatMap λA=>(eY 31).map λD=>(A,D)
def N3:(xC.map xB).Nodup:=by decide+kernel
def xD(D:s0.1<5)(G:s0.2<31):s0∈xC:=dH.mpr ⟨s0.1,lZ.mpr D,bE.mpr ⟨s0.2,lZ.mpr G,S⟩⟩
def nodup_map_on{G:s2->Do}:∀{M:List s2},(M.map G).Nodup->∀A∈M,∀D∈M,G A=G D->A=D
 |[],_,_,a,_,_,_=>nomatch a
 |x::g,a,A,f,D,d,b=>by
  rw [aV,eB]at a;rcases bb.mp f with S|e
  .rcases bb.mp d with N|c
   .rw [S,N]
   .exact absurd (bE.mpr ⟨D,c,by rw [<-S];exact b.symm⟩) a.1
  .rcases bb.mp d with N|c
   .exact absurd (bE.mpr ⟨A,e,by rw [<-N];exact b⟩) a.1
   .exact nodup_map_on a.2 A e D c b
def xE(c:pu.map (·.1)=re.map pk)(U:re.Nodup)(a:∀G∈re,G.1<5/\G.2<31):jP l m pu:=by
 unfold jP;have d:(pu.map λb=>(tk l m).hash b.1)=re.map xB:=by
  have:(pu.map λb=>(tk l m).hash b.1)=(pu.map (·.1)).map (tk l m).hash:=by rw [eh];rfl
  rw [this,c,eh];rfl
 rw [d];clear c d;induction re with
 |nil=>exact gT
 |cons G j g=>
  rw [eB]at U;rw [aV,eB];refine⟨λh=> ?_,g U.2 λT M=>a T (bM _ M)⟩;obtain⟨T,M,i⟩:=bE.mp h;have e:=a G bY
  have f:=a T (bM _ M);have:=nodup_map_on N3 T (xD f.1 f.2) G (xD e.1 e.2) i
  rw [this]at M;exact U.1 M
abbrev Ds:a6:=top 70
def Dt(Q:pu.map (·.1)=re.map pk)(A:Pr)(T:Z)(v:V):(cz pu (pk A) T v).map (·.1)=(dU re A).map pk:=by
 have D:=kJ Q A;by_cases c:A∈re
 .rw [AQ c];rw [ck c]at D;unfold cz;rw [ak D,eh,<-Q];refine gF λG _=> ?_;show(if G.1=pk A then(G.1,G.2.1,v)else G).1=G.1
  split<;>rfl
 .rw [AR c];rw [bT c]at D;have U:cg pu (pk A)=O:=by
   cases a:cg pu (pk A)with
   |none=>rfl
   |some v=>rw [a]at D;cases D
  rw [iF _ _ U,aW,aW,Q];rfl
def q2:∀{G A:bV} {M D:List Pr},A.map (·.1)=D.map pk->G.map (·.1)=M.map pk->(h5 A G).map (·.1)=(cT D M).map pk
 |[],A,[],D,b,_=>b
 |[],A,c::M,D,b,a=>by cases a
 |x::G,A,[],D,b,a=>by cases a
 |x::G,A,c::M,D,b,a=>by
  rw [aV,aV]at a;injection a with d e;show(h5 (cz A x.1 x.2.1 x.2.2) G).map (·.1)=(cT (dU D c) M).map pk
  refine q2 ?_ e;rw [d];exact Dt b c _ _
def xF(D:bD pi)(M:ut∈bq pi):(a9 ut).1<5/\(a9 ut).2<31:=by
 have N:=D.bF;rcases ja.mp M with rfl|⟨a,y,c,rfl,b⟩|⟨a,x,y,rfl,b⟩|⟨a,d,rfl,b⟩
 .exact⟨by decide,by decide⟩
 .have:=D.lt b;exact⟨by show 1<5;decide,by show a<31;have:a<size pi:=this;omega⟩
 .have:=D.lt b;exact⟨by show 2<5;decide,by show a<31;have:a<size pi:=this;omega⟩
 .have:=D.lt b;exact⟨by show 3<5;decide,by show a<31;have:a<size pi:=this;omega⟩
def Du(T:(pu.map (·.2.2)).Nodup)(U:cg pu (pk s0)=Y (.ref d))(a:cg pu (pk KB)=Y (.ref d)):s0=KB:=by
 obtain⟨N,Q,b⟩:=cm.mp U;obtain⟨y,S,c⟩:=cm.mp a;have:=nodup_map_on T N (fL Q) y (fL S) (b.trans c.symm)
 have A:N.1=pk s0:=by simpa using mh Q
 have e:y.1=pk KB:=by simpa using mh S
 exact lP (by rw [<-A,<-e,this])
def q3(D:bD pi)(M:bI pi pc wp)(Q:ba pc s0=Y re)(c:pu.map (·.1)=re.map pk):jP l m pu:=by refine xE c (M.len D Q).2 λd e=> ?_;obtain⟨g,f,rfl⟩:=M.sub Q d e;exact xF D f
def tr(P:az)(w:aw)(K:ah)(Q S:Z):Sp:=λT H a _=>∃D A,T=[.ref D]/\cj K Q S H D A/\∀G M N,b9 P w K H M G N->bI A N (gv A (gq A))->a (.ref G) M
def N4{w:aw}(f0:a7 K "least_table" "least_table" Ds L o0)(ks:eE K d p)(dl:z "len"=O)(f1:bx l w K z B aD 2 "own_table" ["program"] (tq l w K d p)) (f2:bx l w K z B aD 4 "ways_of" ["program","table"] (qZ l w K d p)):aS l w K z B aD 5 L o0 ["program"] (tr l w K d p):=by
 refine f0.go ["program","table","grown","ways","begin","end","before"] λkt kw kV f H k0 k1 k2 dp N s an sz=> ?_;obtain⟨M,b,rfl,co,f4⟩:=N;have cr:=dp.mo 2
 refine⟨_,ar (bo 1 s (bG f1 cr (aK 0))) (ar (bo 2 s hy) (ar (n6 dY (ko (T 2)) (ar (bo 2 s hy) (ar (bo 3 s (bG f2 dp (D (T 0) (aK 1)))) (ax (d2 dY S (dy (T 3)) (ll S (gX (bW 4 s) (gX (bW 5 s) lj))) (ar (bo 6 s (cR ox (by rfl) dl dD (D (fk an (T 1) (T 5) (λ_ _=>S)) aC))) (ar (cL (sm an (fk an (T 1) (T 5) (λ_ _=>S)) (fk an (T 1) (T 4) (λ_ _=>S)) ⟨S,S,S,S⟩)) (ax (bH (bQ va (cR ox (by rfl) dl dD (D (fk an (T 1) (T 5) (λ_ _=>S)) aC)) (T 6) (bU _)) (ax (bo 2 s hy)) bP))))))))) (ax (aQ (T 1))))), ?_⟩;have j:=co.ok
 refine⟨_,S,M,b,S,co,λk bl X=> ?_⟩;have bm:=xA j
 refine⟨λds x bl=>∃dx dd P C a e,x=[Y (.ref M),Y (.ref k),Y (.bl e),dx,dd,P,C]/\b9 l w K H bl k a/\bI b a (bR a)/\(∀M G,fN b M G->bR a M G)/\(∀M G,bR a M G->gM b M G)/\(e=ao->∀f bk,d3 b (bR a) f bk->∀G,bR a f G->bR a bk G)/\ds=(2790-ey a)*2+(if e=I then 1 else 0),⟨_,O,O,O,O,_,I,S,X,bm.tt,λM G N=> ?_,λM G N=> ?_,(λN=>by cases N),S⟩, ?_⟩
 .exact(bm.mR (lD N).1 G).mpr N
 .exact(qz b).iH M G ((bm.mR (bm.lL N) G).mp N)
 rintro ds x bl ⟨dx,dd,P,C,a,e,rfl,X,ap,dK,cs,f8,rfl⟩;refine⟨_,S,_,S, ?_⟩;cases e with
 |false=>exact b1 ⟨_,S,f4 k bl a X (Mc ap dK cs (f8 S))⟩
 |true=>
 refine cf ⟨_,(λk3 k5 N=>N), ?_⟩;refine⟨_,S,_,S,M,de b,k,a,S,(co.ext X.ext).prog,X.at,ap.ok j,λab la ga lb ⟨ad,dL,dT⟩=> ?_⟩;have cr:=X.on ga
 refine⟨_,S,ab,S,⟨_,au.of dL⟩, ?_⟩;have ge:∀{n:Nat} {E:Wy},(fG (de b) a (de b).nodes.length)[n]?=Y E->∃r c,E=(A r,A c)/\r∈aq b/\c∈aq b/\d3 b (bR a) r c:=λ{n E} N=>by obtain⟨r,c,bn,ct,bs,as,gl⟩:=sT j ap (cH (show _=Y (E.1,E.2)from N));exact⟨r,c,mm bn ct,bs,as,gl⟩
 refine fC (xs:=ad.map V.ref) (λbt x o=>∃dd P C bi e,x=[Y (.ref M),Y (.ref k),Y (.bl e),Y (.ref ab),dd,P,C]/\b9 l w K H o k bi/\bI b bi (bR bi)/\(∀M G,bR a M G->bR bi M G)/\(∀M G,bR bi M G->gM b M G)/\ey a<=ey bi/\(e=I->ey a<ey bi)/\(e=ao->bi=a/\∀n<bt,∀f bk,(fG (de b) a (de b).nodes.length)[n]?=Y (A f,A bk)->∀G,bR a f G->bR a bk G)/\o ab=Y (.lst (ad.map V.ref))/\cO (da K o) ad (fG (de b) a (de b).nodes.length)) ?_ ?_ ?_ ?_
 .exact⟨_,_,_,a,ao,S,cr,ap,λ_ _ N=>N,cs,aX _,(λN=>by cases N),λ_=>⟨S,λn g=>absurd g (k7 _)⟩,dL,dT⟩
 .rintro bt x o _ ⟨_,_,_,_,_,_,_,_,_,_,_,_,_,N,_⟩;exact au.of N
 .rintro bt E x o a0 ⟨dd,P,C,bi,e,rfl,al,h,bv,a1,c0,ca,am,cd,ce⟩;rw [bh]at a0;cases c1:ad[bt]? with
  |none=>rw [c1]at a0;cases a0
  |some d0=>
   rw [c1]at a0;obtain rfl:=a8 a0;obtain⟨y,c2,go,a2,gt,g1,ch⟩:=ez ce c1;obtain⟨r,c,rfl,g2,d1,hw⟩:=ge c2;obtain⟨ci,a3,a4,c3,em,g3,hd⟩:=al.ex;obtain⟨db,cl,lc,ld,he⟩:=h.row c d1;obtain⟨q,c4,le,hf,eq⟩:=h.row r g2;obtain⟨i,a5,t,F,cn,es⟩:=f9 c3 cl;obtain⟨hi,bn,bd,ct,bs,as⟩:=f9 c3 c4;have lf:t.length=db.length:=by have:=bN cN es;rwa [ag,ag]at this
   have li:bd.length=q.length:=by have:=bN cN as;rwa [ag,ag]at this
   have lm:=(h.len j cl).1;have ln:=(h.len j c4).1
   refine⟨d0,_,S,gt,S,_,_,S,_,_,S,S, ?_⟩;refine⟨_,S,_,S,k,_,S,⟨ci,pk (A c),a2,a3,a4,S,ch,a5.symm⟩,i,t,S,F,cn, ?_⟩;refine⟨_,S,_,S,k,_,S,⟨ci,pk (A c),a2,a3,a4,S,ch,a5.symm⟩,i,S,⟨t,F⟩,_,S,_,S,k,_,S,⟨ci,pk (A r),go,a3,a4,S,g1,bn.symm⟩,t,hi,bd,S,F,cn,ct,bs,by omega,λ_=>q3 j h c4 as,λev=> ?_,λev=> ?_⟩
   .
    refine⟨_,S,_,S,k,_,S,⟨ci,pk (A c),a2,a3,a4,S,ch,a5.symm⟩,i,t,S,F,cn,_,S,_,_,S,S,_,S, ?_⟩;rw [bT (by omega)];refine b1 ⟨_,_,_,bi,e,S,al,h,bv,a1,c0,ca,λbe=> ?_,cd,ce⟩;obtain⟨v,U⟩:=am be;refine⟨v,λn g f bk R G W=> ?_⟩;rcases kh.mp g with g|rfl
    .exact U n g f bk R G W
    .rw [c2]at R;injection (a8 R)with c5 c6;obtain rfl:=ed c5;obtain rfl:=ed c6;have:=Du em a5 (by rw [ev];exact bn)
     rw [ed this];exact W
   .have hm:ab≠i:=cW cd F (by intro c7;cases c7);have ex:cX (o i)\/o i=O:=.inl (by rw [F];exact trivial)
    have c8:=b9.put (ps:=cT db q) al.ext a3 a4 c3 em g3 hd al.new (h.nodup j) a5 F (qw cn bs) (q2 es as);obtain⟨fa,fd,lo,hz⟩:=h.BV j d1 cl (qs:=q) hf;have fl:upd o i (dX l w i (h5 t bd)) ab=Y (.lst (ad.map V.ref)):=(Q hm).trans cd
    have fm:cO (da K (upd o i (dX l w i (h5 t bd)))) ad (fG (de b) a (de b).nodes.length):=Paired.cb ce λd0 E c7=>da.upd ex c7;have h0:av K (upd o i (dX l w i (h5 t bd))) a2 (b2 (A c)):=bC ex ch
    have h1:ba (dM bi (A c) (cT db q)) (A c)=Y (cT db q):=by rw [o3 _ (kF cl),ak S]
    have fn:∀M G,bR a M G->bR (dM bi (A c) (cT db q)) M G:=λM G N=>(fd M G).mpr (.inl (bv M G N));have fr:∀M G,bR (dM bi (A c) (cT db q)) M G->gM b M G:=λM G N=>by
     rcases(fd M G).mp N with h2|⟨id,ii⟩
     .exact a1 M G h2
     .rw [id];exact(qz b).way r c G (hw.mono cs) (a1 _ _ ((eq G).mp ii))
    generalize dM bi (A c) (cT db q)=fs at*;obtain⟨im,v,U,io,lp,ls,lt⟩:=c8.ex;obtain⟨is,it,fT,ix,jp,kk⟩:=f9 io h1;have lv:fT.length=(cT db q).length:=by have:=bN cN kk;rwa [ag,ag]at this
    have lw:=mE (u:=db) (m:=q);refine⟨_,S,_,S,k,_,S,⟨im,pk (A c),a2,v,U,S,h0,it.symm⟩,is,fT,S,ix,jp,_,S,_,_,S,S,_,S, ?_⟩;by_cases l0:db.length<(cT db q).length
    .rw [ck (by omega)];refine cf ⟨_,_,_,fs,I,S,c8,fa,fn,fr,by omega,λ_=>by omega,(λN=>by cases N),fl,fm⟩
    .rw [bT (by omega)];obtain⟨c9,kp⟩:=hz (by omega);refine b1 ⟨_,_,_,fs,e,S,c8,fa,fn,fr,by rw [c9];exact c0,λN=>by rw [c9];exact ca N,λbe=> ?_,fl,fm⟩;obtain⟨v,U⟩:=am be;refine⟨by rw [c9];exact v,λn g f bk R G W=> ?_⟩;rcases kh.mp g with g|rfl
     .exact U n g f bk R G W
     .rw [c2]at R;injection (a8 R)with c5 c6;obtain rfl:=ed c5;obtain rfl:=ed c6;subst v;exact(he G).mp (kp _ ((eq G).mpr W))
 .rintro x o ⟨dd,P,C,bi,e,rfl,al,h,bv,a1,c0,ca,am,cd,ce⟩;rw [ag,bL dT]at am;have mg:=h.BP j
  have mk:=ap.BP j;refine⟨_, ?_,Y (.ref ab),dd,P,C,bi,e,S,al,h,λM G N=>bv M G (dK M G N),a1,λbe=> ?_,S⟩
  .cases e with
   |true=>have:=ca S;simp only [eP];omega
   |false=>have:=(am S).1;subst this;simp only [eP,nB,iT];omega
  .obtain⟨v,U⟩:=am be;subst v;intro f bk hw G W;obtain⟨n,g⟩:=hV.mp (sU j h hw);exact U n (cM.mp g).1 f bk g G W
abbrev Dv:a6:=top 73
abbrev Dx:a6:=top 74
abbrev Dy:a6:=top 75
variable{t:aj}{pp:List (Z×aL)}
def Dz(M:Inv h pp s4 H t)(N:Rd H d (dX h.prog h.w d pu))(Q:b7 h.K H pu):pu.length<=aR/\(d==er)=ao/\∃D,eS pu D/\t.heap.DictOfH (ij (eC h.prog h.w)) d D:=by
 obtain⟨S,T,U,D,G,o,c,X,e,f,g,a⟩:=sj (N.ok M.bg);refine⟨S,T,D,G,o,c,X,e,f,g,a,λi j=> ?_,by rw [<-G.keys];exact U⟩;obtain⟨l,m,n,p⟩:=G.mem i j;have:=lA M (Q l m)
 rw [n,p]at this;exact this
variable{AC:List Key}{s5 IN:J->aj->Prop}{ss:b4}{v:V}
def N5(Q:ss.units+1<cG)(G:Inv h pp s4 H t)(S:Rd H d (dX h.prog h.w d pu))(T:b7 h.K H pu)(U:av h.K H p (AC.map kV))(c:cg pu AC=Y v)(X:∀D N,Inv h pp s4 H N->RelV v D->s5 D N):aF (aM h.prog h.w) ss (nz (.ref d) (.ref p)) s5 IN t:=by obtain⟨l,m,e,f,g⟩:=Dz G S T;obtain⟨D,hw,k⟩:=fg.some_of (v:=v) (o:=(fV e AC).map (·.2)) (by rw [<-c];exact f.val AC);obtain⟨n,i,j⟩:=cm.mp hw;refine FO (nD Q) (lA G U) g i ?_;rw [j];exact X D _ (G.tok _) k
def N6(S:az)(T:aw)(K:ah)(U a:TE):TE:=λM H b=>U M H λc d=>a M d λy A=>∃D v,c=.ref D/\(∃G N Q,Rd A D (dX S T D G)/\b7 K A G/\y=.ref Q/\av K A Q (N.map kV)/\Y v=cg G N)/\b v A
def DA(A:az)(D:aw)(K:ah)(U:h.A.units+1<cG)(a:PE h o sc)(b:PE h P xz)(c:ot P)(d:h.prog=A:=by rfl)(hw:h.w=D:=by rfl)(e:h.K=K:=by rfl):PE h (.Subscript o P pv) (N6 A D K sc xz):=by subst d hw e;intro G f M H R g i;refine sd yG.lookup c (aN (a G f M H _ g i) λu j ⟨V,k,l,m,n⟩=>aN (b G j M k _ l n) λp ab ⟨y,q,N,r,s,v,t,⟨ad,al,w,Q,T,x,z,B⟩,C⟩=> ?_);subst t x;obtain rfl:u=b5 s:=m;cases (show p=b5 w from r);obtain⟨_,_,am,an,E⟩:=Dz N Q T;exact⟨E.typeIs,N5 U N Q T z B.symm λap as L X=>⟨v,q,L,X,C⟩⟩
def DB(G:az)(M:aw)(K:ah)(N:h.prog=G:=by rfl)(hw:h.w=M:=by rfl)(Q:h.K=K:=by rfl):hB h (.builtin "len") (λT H U=>∃A D,T=[.ref A]/\H A=Y (dX G M A D)/\b7 K H D/\U (.int D.length) H):=by subst N hw Q;exact ox
def xG:∀A:List Nat,((A.map λD:Nat=>(D:Int)).sum)=((A.sum:Nat):Int)
 |[]=>rfl
 |a::b=>by rw [aV,fz,fz,xG b];omega
def xH(P:az)(w:aw)(K:ah):Sp:=λM H N _=>∃D A,M=[.ref D]/\TabAt P w K H D A/\(A.map (·.1)).Nodup/\A.length<=1000/\∀G,Ext H G->N (.int (ey A:Nat)) G
def N7(as:a7 K "how_many_facts" "how_many_facts" Dv d o0)(a0:z "len"=O)(a1:z "sum"=O):aS l m K z B aD 1 d o0 ["table"] (xH l m K):=by
 refine as.go ["table","place"] λce ch ci v H cl cn co cr w L a2 sz=> ?_;obtain⟨N,g,rfl,⟨a,x,R,E,cs,a3⟩,W,ct,a4⟩:=w;refine⟨_,ax (aQ (cR (z8 S) (by rfl) a1 (by decide+kernel) (D (Ak (f3 (own:=[("place",1)]) S L (lC (T 0)) (e3 S) (λv H X ab ad=>bW 1 L) (λv H X ab ad=>hC) (λv H X ab ad=>cR (DB l m K) (by rfl) a0 dD (D (DA l m K a2 (T 0) (T 1) (λ_ _=>S)) aC)))) aC))), ?_⟩;refine⟨N,_,x,trivial,λF=> ?_⟩;refine⟨_,S,N,F,a,S,M,λn h=> ?_⟩;have p:N≠n:=by intro f;rw [<-f,M]at h;cases h
 have al:H n=O:=by rw [Q p.symm]at h;exact h
 have a5:a.length=g.length:=bL E;refine qV (aU:=a) (λq e=>e n=Y (.lst ((g.take q).map λy=>V.int (y.2.length:Nat)))/\e N=Y (.bO F (dX l m N a))/\(∀A i,av K H A i->av K e A i)/\∀A o,A≠N->H A=Y o->e A=Y o) ?_ ?_ ?_ ?_
 .refine⟨M,by rw [Q p,M],λA i w=>bC (.inr h) (bC (.inl (by rw [x];exact trivial)) w),λA o b c=> ?_⟩;rw [Q (cB c al),Q b];exact c
 .rintro q e _ ⟨_,w,_⟩;exact w
 .rintro q G e am ⟨j,r,k,s⟩;obtain⟨y,P,c0,U,an,ap,bd,be,bi⟩:=ez E am;have c1:q<g.length:=(cM.mp P).1
  have t:=cH am;have bk:=k _ _ (R G t)
  have bl:U≠N:=by intro f;apply a3;rw [<-f,<-an];exact d8 t
  have bm:Y (V.ref U)=cg a G.1:=by
   obtain⟨c2,c3,c4⟩:=f9 E (hL W (show(y.1,y.2)∈g from cH P));have bn:cg a G.1=Y G.2.2:=by
    unfold cg;cases u:a.find? λC=>decide (C.1=G.1)with
    |none=>
     rw [nF]at u;exact absurd (ck S) (u G t)
    |some f=>
     have bs:=fL u;have bt:f.1=G.1:=by simpa using mh u
     have bv:(a.map (·.1)).Nodup:=by rw [tp E];exact jk (λ_ _=>lP) W
     rw [nodup_map_on bv f bs G t bt];rfl
   rw [bn,an]
  refine⟨S, ?_⟩;unfold hl;dsimp only [];rw [ak S];refine⟨_,S,_,S,N,.ref U,S,⟨a,G.1,G.2.1,.inr ⟨F,r⟩,λC ca=>k _ _ (R C ca),S,bk,bm⟩,U,ap,S,s U _ bl bd,be.same k,_,j,by rw [ag,dW];omega, ?_, ?_, ?_, ?_⟩
  .rw [M,dm,P,aW];have:ap.length=y.2.length:=by have:=bN cN bi;rwa [ag,ag]at this
   rw [this];rfl
  .rw [Q p];exact r
  .exactλA i w=>bC (.inl (by rw [j];exact trivial)) (k A i w)
  .intro A o b c;rw [Q (cB c al)];exact s A o b c
 .rintro e ⟨j,r,k,s⟩;rw [a5,dB]at j;refine⟨r,n,(g.map λy=>y.2.length).map λcd:Nat=>(cd:Int),S,au.of (by rw [Q p.symm,j,eh,eh];rfl), ?_⟩;rw [xG];refine a4 _ λA o c=> ?_;by_cases b:A=N
  .rw [b,M,<-x,<-b];exact c
  .rw [Q b];exact s A o b c
def g4(A:Ex)(D:List Pr):List Pr:=((bq A).map a9).filter λG=>decide (G∈D)
def DC(D:bD pi)(G:List Pr):(g4 pi G).length<=31:=by
 unfold g4;refine cq (i2 _ _) ?_;rw [ag];have:=lK pi
 have:=D.bF;omega
def xI(P:az)(w:aw)(K:ah)(b c:Z):Sp:=λd H e _=>∃G M N Q S T a,d=[.ref G,.ref N,.ref S]/\cj K b c H G M/\TabAt P w K H N Q/\av K H S (b2 T)/\ba Q T=Y a/\
 ∀A D,Ext H D->H A=O->D A=Y (.lst ((eV (g4 M a)).map λf=>V.int (f:Nat)))->e (.ref A) D
def N8{u:bc}(R:a7 K "functions_at" "functions_at" Dx p u)(bm:eE K d L)(X:z "FUNCTION_KIND"=Y (.int 1 wP))(ab:bx l m K z B aD 1 "sorts_at" ["program","table","place"] (s6 l m K d)):aS l m K z B aD 2 p u ["program","table","place"] (xI l m K d L):=by
 refine R.go ["program","table","place","sort"] λbn bs bt k H bv ca cd ad U v _ sz=> ?_;obtain⟨al,G,am,an,ap,as,Q,rfl,s,a0,a1,a2,a3⟩:=U;refine⟨_,ax (aQ (f3 (own:=[("sort",3)]) S v (dy (bG ab ad (D (T 0) (D (T 1) (aK 2))))) (e3 S) (λk H d x y=>bW 3 v) (λk H d x y=>kx (bQ cU (cc (o6 K) (T 3) cK (λ_ _=>S)) (b8 X) (bU _))) (λk H d x y=>cc (o6 K) (T 3) cK (λ_ _=>S)))), ?_⟩;obtain⟨a4,a5,bd⟩:=s.prog.sorts;have be:((bq G).map a9).length<=10000:=by rw [ag];have:=lK G;have:=s.ok.bF;omega
 refine⟨_,S,_,S,_,S,al,am,ap,a4,_,an,as,Q,S,a5,bd,be,a0,a1,a2,λW n b ce ⟨h,bi,i⟩ _=> ?_⟩;have C:au K n W (h.map V.ref):=bi
 have ch:=DC s.ok Q;refine⟨W,S,⟨_,C⟩,λE o=> ?_⟩;have i:fQ K n h (g4 G Q):=i
 refine hD (xs:=h.map V.ref) (λA w=>w E=Y (.lst ((eV ((g4 G Q).take A)).map λF=>V.int (F:Nat)))/\Ext n w) ?_ ?_ ?_ ?_
 .exact⟨M,Ext.one o⟩
 .rintro A w _ ⟨_,a⟩;exact a.ee C
 .rintro A F w e ⟨f,a⟩;rw [bh]at e;cases t:h[A]? with
  |none=>rw [t]at e;cases e
  |some c=>
   rw [t]at e;obtain rfl:=a8 e;obtain⟨g,P,j⟩:=ez i t;have j:=a.aP j
   have ci:A<(g4 G Q).length:=(cM.mp P).1;have bk:eV ((g4 G Q).take (A+1))=eV ((g4 G Q).take A)++(if g.1=1 then [g.2]else []):=by
    rw [dm,P];unfold eV;rw [uL];congr 1;show Sl _ [g]=_
    rw [kQ,zj];split<;>rename_i U<;>split at U<;>simp_all
   refine⟨S,_,S,_,_,_,_,S,S,j,S,S,_,S, ?_⟩;rw [bk];refine eb (λq=> ?_) (λq=> ?_)
   .have r:g.1=1:=by
     have:=eQ q;injection this with this;omega
    rw [ak r];refine⟨_,S,_,_,_,_,S,S,j,S,_,f, ?_, ?_,a.upd o⟩
    .rw [ag];have:(eV ((g4 G Q).take A)).length<=A:=cq (iZ _ _) (by rw [dW];omega)
     omega
    .rw [M,aW];rfl
   .have r:¬g.1=1:=λbl=>q (ck (by rw [bl];rfl));rw [N r,bZ];exact⟨f,a⟩
 .rintro w ⟨f,a⟩;rw [ag,bL i,dB]at f;exact a3 E w (b.trans a) (b.none o) f
def xJ(P:az)(w:aw)(K:ah)(S T:Z):Sp:=λa H b _=>∃N A Q D,a=[.ref N,.ref Q]/\cj K S T H N A/\TabAt P w K H Q D/\(∀c,c<size A->∃d,ba D (0,c)=Y d)/\
 ∀G M,Ext H M->H G=O->LstAt K M G (hM (infos O A) λc=>eV (g4 A ((ba D (0,c)).getD [])))->b (.ref G) M
def N9{P:az}(c3:a7 K "arrows_of" "arrows_of" Dy p o0)(fl:eE K d L)(c4:cC P m K z B aD 2 d "calls_within" ["self"] (xu K d L))(c5:cC P m K z B aD 1 d "first_part_of" ["self","label"] (tm K d L))(c6:bx P m K z B aD 2 "functions_at" ["program","table","place"] (xI P m K d L)):aS P m K z B aD 3 p o0 ["program","table"] (xJ P m K d L):=by
 refine c3.go ["program","table","arrows","call","fun"] λfm fn fr fs H v fT f0 am x an _ sz=> ?_;obtain⟨o,A,ap,as,rfl,bv,c7,c8,N⟩:=x;have n:=bv.ok
 have c9:=am.mo 1;refine⟨_,ar (bo 2 an (dg aC)) (ar (d2 dY S (dy (dR (E:=E0) (T 0) c4 am cy)) (bW 3 an) (ax (d2 dY S (dy (bG c6 am (D (T 0) (D (T 1) (D (eK (E:=E0) (T 0) c5 c9 cy (aK 3)) aC))))) (bW 4 an) (ax (cL (fj fB gh gH fY (T 2) (D (b6 (D (T 3) (aK 4))) aC))))))) (ax (aQ (T 2)))), ?_⟩;refine⟨cP _,λh a0=> ?_⟩;have a1:Ext H (upd H h (.lst [])):=Ext.one a0
 obtain⟨ca,f1,f2,f4,f8,ga,cd,_⟩:=bv.ex;refine⟨_,S,o,ca,_,S,a1 _ _ cd,S,o,A,S,bv.ext a1,λs ge ce ch ci=> ?_⟩;have db:=a1.trans ce
 have dd:s≠h:=by intro a2;rw [a2,M]at ch;cases ch
 refine⟨s,S,⟨_,au.of ci⟩, ?_⟩;let g:=cA (infos O A) λp=>decide (p=.call)
 let w:Nat->List Nat:=λc=>eV (g4 A ((ba as (0,c)).getD []));have gl:g.length<=30:=by have:=mZ (infos O A) λp=>decide (p=.call);rw [e7]at this;exact cq this n.bF
 have cl:∀c,(w c).length<=31:=λc=>cq (iZ _ _) (DC n _);have dl:∀v:List Nat,(v.flatMap λG=>(w (dF (infos O A) G)).map λN=>((G,N):Pr)).length<=31*v.length:=by
  intro v;induction v with
  |nil=>simp
  |cons a go gt=>
   rw [cp,bB,ag,dG];have:=cl (dF (infos O A) a)
   omega
 refine fC (xs:=g.map λe=>V.int (e:Nat)) (λj i U=>∃a3 q,i=[Y (.ref o),Y (.ref ap),Y (.ref h),a3,q]/\eN K U h ((g.take j).flatMap λG=>(w (dF (infos O A) G)).map λN=>((G,N):Pr))/\Ext H U/\U s=Y (.lst (g.map λe=>V.int (e:Nat)))) ?_ ?_ ?_ ?_
 .exact⟨O,O,S,⟨[],ce _ _ M,.nil⟩,db,ci⟩
 .rintro j i U _ ⟨_,_,_,_,_,x⟩;exact au.of x
 .rintro j e i U f ⟨a3,q,rfl,cn,C,co⟩;rw [bh]at f;cases R:g[j]? with
  |none=>rw [R]at f;cases f
  |some u=>
   rw [R]at f;obtain rfl:=a8 f;obtain⟨a4,a5,cr,W⟩:=(sV n _).mp (cH R);obtain⟨b,bd,be⟩:∃b bd,kids a4=b::bd:=by
    cases a4 with
    |app G a dp=>exact⟨a,[dp],S⟩
    |var G y=>simp only [aA]at W;split at W<;>cases W
    |_=>cases W
   have ds:dF (infos O A) u=af b:=by rw [<-cr];exact n.part a5 be
   have dx:b∈aH A:=jb a5 (by rw [be];exact bY);obtain⟨cs,ct⟩:=c8 (af b) (n.lt dx);have dK:(g.take (j+1)).flatMap (λG=>(w (dF (infos O A) G)).map λN=>((G,N):Pr))=(g.take j).flatMap (λG=>(w (dF (infos O A) G)).map λN=>((G,N):Pr))++(w (af b)).map λN=>((u,N):Pr):=by
    rw [dm,R,kZ];congr 1;show(w (dF (infos O A) u)).map _++[]=_
    rw [ds,bZ]
   have dL:w (af b)=eV (g4 A cs):=by show eV (g4 A ((ba as (0,af b)).getD []))=_;rw [ct];rfl
   refine⟨_,S,_,S,_,S,o,ca,_,S,C _ _ cd,S,_,S,o,A,a4,b,bd,by rw [cr];rfl,bv.ext C,a5,be,λdT g1 X g2 dX=> ?_⟩;have bi:=C.trans X
   refine⟨o,A,ap,as,dT,(0,af b),cs,S,bv.ext bi,c7.ext bi,dX,ct,λbk g3 bl c0 bm=> ?_⟩;have d0:=bi.trans bl
   have d1:=cn.ext (X.trans bl);have em:=bl _ _ (X _ _ co)
   have eq:bk≠h:=by intro a2;obtain⟨c1,es,_⟩:=cn;rw [a2,X _ _ es]at c0;cases c0
   refine⟨bk,S,⟨_,au.of bm⟩, ?_⟩;rw [<-dL]at bm;have ev:=dl (g.take j)
   rw [dW]at ev;refine fC (xs:=(w (af b)).map λe=>V.int (e:Nat)) (λab i r=>∃q,i=[Y (.ref o),Y (.ref ap),Y (.ref h),Y (.int (u:Nat)),q]/\eN K r h ((g.take j).flatMap (λG=>(w (dF (infos O A) G)).map λN=>((G,N):Pr))++((w (af b)).take ab).map λN=>((u,N):Pr))/\Ext H r/\r s=Y (.lst (g.map λe=>V.int (e:Nat)))/\r bk=Y (.lst ((w (af b)).map λe=>V.int (e:Nat)))) ?_ ?_ ?_ ?_
   .exact⟨_,S,by rw [hx,fx,bZ];exact d1,d0,em,bm⟩
   .rintro ab i r _ ⟨_,_,_,_,_,x⟩;exact au.of x
   .rintro ab e i r f ⟨q,rfl,⟨c1,t,c2⟩,bn,ad,bs⟩;rw [bh]at f;cases bt:(w (af b))[ab]? with
    |none=>rw [bt]at f;cases f
    |some ex=>
     rw [bt]at f;obtain rfl:=a8 f;refine⟨_,S,.inl ⟨S,_,au.of t⟩,_,S,_,S,cE,λhd al=> ?_⟩;obtain⟨fa,fd⟩:=eN.push (K:=K) (k:=u) (l:=ex) t c2 al;have he:c1.length<=2000:=by
      rw [bL c2,bB,ag,dW];have:=cl (af b)
      omega
     refine⟨h,_,_,S,S,fa,by rw [ag];omega,_,S, ?_,(bn.new al).upd a0, ?_, ?_⟩
     .rw [dm,bt,aW,<-cv];exact fd
     .exact(Q dd).trans ((Q (cB ad al)).trans ad)
     .exact(Q eq).trans ((Q (cB bs al)).trans bs)
   .rintro i r ⟨q,rfl,t,bn,ad,bs⟩;rw [ag,dB]at t;exact⟨_,_,S,by rw [dK];exact t,bn,ad⟩
 .rintro i U ⟨a3,q,rfl,t,C,co⟩;rw [ag,dB]at t;exact⟨_,S,N h U C a0 t.lst⟩
abbrev DD:a6:=top 68
abbrev DE:a6:=top 69
def tabOf(G:Ex)(M:aB->List Pr):Tb:=(aq G).map λD=>(A D,M D)
def xK(D:Ex)(G:aB->List Pr):(tabOf D G).map (·.1)=(aq D).map A:=by unfold tabOf;rw [eh];rfl
def xM(T:bD pi){G:aB->List Pr}(U:∀A∈aq pi,(G A).Nodup/\(∀a∈G A,∃M∈bq pi,a=a9 M)/\∀M,a9 M∈G A↔wp A M):bI pi (tabOf pi G) wp:=by refine⟨xK pi G,λA Q=> ?_⟩;obtain⟨b,c,d⟩:=U A Q;exact⟨G A,hL (by rw [xK];exact lW T) (bE.mpr ⟨A,Q,S⟩),b,c,d⟩
def tu{H:G}(N:H d=O):∀{M:bV} {Q:Tb},fv l m K H M Q->V.ref d∉M.map (·.2.2)
 |_,_,.nil=>λT=>nomatch T
 |x::M,y::Q,.cons a b=>λA=>by
  obtain⟨_,D,c,e,S,_⟩:=a;rcases bb.mp A with A|A
  .have A:V.ref d=x.2.2:=A;rw [c]at A;injection A with A;rw [<-A,N]at S;cases S
  .exact tu N b A
variable{Go:G}
def b9.next{c:Z}{ps:List Pr}(a:b9 l m K Go sK d pc)(M:Ext sK q)(j:fR l m K q p ps)(A:sK p=O)(k:av K q c (b2 s0))(D:s0∉pc.map (·.1))(r:pc.length<=1000):∃N,q d=Y (dX l m d N)/\b7 K q N/\N.length<aR/\b9 l m K Go (upd q d (dX l m d (cz N (pk s0) c (.ref p)))) d (pc++[(s0,ps)]):=by
 have sz:(20000:Nat)<aR:=by decide
 obtain⟨N,e,h,f,Q,n,o⟩:=a.ex;have s:=bL f
 refine⟨N,M _ _ e,M.keys h,by omega, ?_⟩;exact b9.add (a.ext.trans M) (M _ _ e) (M.keys h) (Paired.cb f λt c i=>⟨i.1,let⟨p,P,w⟩:=i.2;⟨p,P,w.ext M⟩⟩) Q n o a.new j (tu A f) (cB e A).symm (a.ext.none A) k D
def tw{H:G}(N:H d=O):b9 l m K H (upd H d (dX l m d [])) d []:=⟨Ext.one N,⟨[],M,(λ_ A=>nomatch A),.nil,gT,(λA=>nomatch A),λ_ A=>nomatch A⟩,N⟩
def xN(T:bD pi){R:aB->List Pr}(a:((aq pi).map A)[r]?=Y s0):∃N∈aq pi,s0=A N/\(tabOf pi R).take (r+1)=(tabOf pi R).take r++[(s0,R N)]/\s0∉((tabOf pi R).take r).map (·.1)/\((tabOf pi R).take r).length<=1000:=by
 rw [bh]at a;obtain⟨N,Q,rfl⟩:=cm.mp a;refine⟨N,cH Q,S, ?_, ?_, ?_⟩
 .unfold tabOf;rw [dm,bh,Q];rfl
 .rw [So,xK];exact xw (lW T) (by rw [bh,Q];rfl)
 .have:=nc T;rw [ag]at this;rw [dW];unfold tabOf;rw [ag];omega
def DF(P:az)(w:aw)(K:ah)(Q S:Z):Sp:=λT H a _=>∃D A,T=[.ref D]/\cj K Q S H D A/\∀G M N,b9 P w K H M G N->bI A N (gv A (gu A 0))->a (.ref G) M
def tD(D:bD pi):((bq pi).map a9).Nodup:=jk (λ_ _=>mK) (sQ D)
def xO(D:bD pi):((bq pi).map a9).length<=31:=by
 rw [ag];have:=lK pi
 have:=D.bF;omega
def Oa{o:Z}(U:a7 K "everything_table" "everything_table" DD p o0)(f:eE K d o)(P:bx l m K z B aD 1 "as_keys" ["sorts"] (w0 l m K)):aS l m K z B aD 2 p o0 ["program"] (DF l m K d o):=by
 refine U.go ["program","table","place"] λbv ca cd ce H ch ci cl C a q E _=> ?_;obtain⟨g,M,rfl,h,F⟩:=a;refine⟨_,ar (bo 1 q kz) (ar (d2 dY S (dy (aG 0)) (bW 2 q) (ax (i9 E (T 1) (T 2) (bG P C (D (aG 0) aC)) S))) (ax (aQ (T 1)))), ?_⟩;obtain⟨L,W,X,k,ab,ad,r,s⟩:=h.places;obtain⟨al,⟨am,an,ap,as⟩,a0⟩:=h.prog.sorts;have b:=h.ok
 intro Q t;have u:Ext H (upd H Q (dX l m Q [])):=Ext.one t
 refine⟨_,S,g,d,L,W,_,S,u _ _ ab,f.p.c,f.p.places,ad,X,S,⟨_,u.ee r⟩, ?_⟩;refine fC (xs:=k.map V.ref) (λi j c=>∃e,j=[Y (.ref g),Y (.ref Q),e]/\b9 l m K H c Q ((tabOf M λ_=>(bq M).map a9).take i)) ?_ ?_ ?_ ?_
 .exact⟨O,S,tw t⟩
 .rintro i j c _ ⟨_,_,G⟩;exact G.ext.ee r
 .rintro i a1 j c N ⟨e,rfl,G⟩;rw [bh]at N;cases w:k[i]? with
  |none=>rw [w]at N;cases N
  |some v=>
   rw [w]at N;obtain rfl:=a8 N;obtain⟨cn,a2,x⟩:=ez s w;obtain⟨a3,co,rfl,a4,a5,lk⟩:=xN (R:=λ_=>(bq M).map a9) b a2;refine⟨_,S,g,d,am,an,_,S,G.ext _ _ ap,f.p.c,f.p.sorts,as,al,(bq M).map a9,S,a0.ext G.ext,tD b,by have:=xO b;omega,λcr cs n bd be=> ?_⟩;obtain⟨bi,bk,bl,bm,bn⟩:=G.next n be bd (n.aP (G.ext.aP x)) a5 lk;rw [a4];exact⟨_,S,_,S,Q,bi,pk (A a3),v,S,bk,bl,S,n.aP (G.ext.aP x),bm,_,S,bn⟩
 .rintro j c ⟨e,rfl,G⟩;have:((tabOf M λ_=>(bq M).map a9).take (k.map V.ref).length)=tabOf M λ_=>(bq M).map a9:=by
   rw [j8];rw [ag,bL s,ag];unfold tabOf;rw [ag];exact aX _
  rw [this]at G;refine⟨_,S,F Q c _ G (xM b λg h=>⟨tD b,λa1 N=> ?_,λy=> ?_⟩)⟩
  .obtain⟨y,bs,rfl⟩:=bE.mp N;exact⟨y,bs,S⟩
  .constructor
   .intro a;obtain⟨v,w,bt⟩:=bE.mp a;rw [<-mK bt];exact⟨w,S⟩
   .intro a;exact d8 a.1
def DG(A:Nat):∀M:List Nat,iA (.int (A:Nat)) (M.map λD=>V.int (D:Nat))=decide (A∈M)
 |[]=>rfl
 |D::a=>by
  show(jK (.int (D:Nat)) (.int (A:Nat))||iA (.int (A:Nat)) (a.map λD=>V.int (D:Nat)))=_;rw [DG A a];show(((D:Int)==(A:Int))||_)=_
  by_cases c:D=A
  .subst c;simp
  .have Q:((D:Int)==(A:Int))=ao:=iQ.mpr λN=>c (by omega);rw [Q,yF,hc];exact⟨λG=>bM _ G,λG=>(bb.mp G).resolve_left λN=>c N.symm⟩
def DH:∀A:List Nat,(A.map λD=>V.int (D:Nat)).all jJ=I
 |[]=>rfl
 |_::a=>DH a
def DI(P:az)(w:aw)(K:ah)(Q S:Z):Sp:=λT H a _=>∃D A,T=[.ref D]/\cj K Q S H D A/\∀G M N,b9 P w K H M G N->bI A N (gv A (gu A 1))->a (.ref G) M
def Ob(es:a7 K "kinds_table" "kinds_table" DE L o0)(a1:eE K d p)(ev:bx l m K z B aD 1 "as_keys" ["sorts"] (w0 l m K))(ex:bx l m K z B aD 5 "least_table" ["program"] (tr l m K d p)):aS l m K z B aD 6 L o0 ["program"] (DI l m K d p):=by
 refine es.go ["program","least","table","place","kinds","sort"] λks kt kw c4 H kV k0 k1 c5 j q c6 sz=> ?_;obtain⟨w,a,rfl,a2,fa⟩:=j;have fd:=c5.mo 1
 refine⟨_,ar (bo 1 q (bG ex c5 (aK 0))) (ar (bo 2 q kz) (ar (d2 dY S (dy (aG 0)) (bW 3 q) (ar (mC (bo 4 q (f3 (own:=[("sort",5)]) S q (lC (fk c6 (T 1) (T 3) (λ_ _=>S))) (e3 S) (λc4 H d W X=>bW 5 q) (λc4 H d W X=>hC) (λc4 H d W X=>cc (o6 K) (T 5) cK (λ_ _=>S))))) (ax (i9 c6 (T 2) (T 3) (bG ev fd (D (f3 (own:=[("sort",5)]) S q (dy (aG 0)) (e3 S) (λc4 H d W X=>bW 5 q) (λc4 H d W X=>kx (bQ (CV K) (cc (o6 K) (T 5) cK (λ_ _=>S)) (T 4) S)) (λc4 H d W X=>T 5)) aC)) S)))) (ax (aQ (T 2))))), ?_⟩;have r:=a2.ok
 refine⟨_,S,w,a,S,a2,λbl bm bn ab a3=> ?_⟩;obtain⟨fl,fm,fn,bs,fr,fs,c7,c8⟩:=a2.places;obtain⟨c9,⟨fT,f0,f1,f2⟩,bt⟩:=a2.prog.sorts;have bt:LstAt K H c9 ((bq a).map a9):=bt
 intro P db;let C:aB->List Pr:=λk=>((bq a).map a9).filter λb=>decide (b.1∈((ba bn (A k)).getD []).map (·.1))
 have f4:Ext bm (upd bm P (dX l m P [])):=Ext.one db;have dd:=ab.ext.trans f4
 refine⟨_,S,w,d,fl,fm,_,S,dd _ _ fr,a1.p.c,a1.p.places,fs,fn,S,⟨_,dd.ee c7⟩, ?_⟩;refine fC (xs:=bs.map V.ref) (λi a4 h=>∃bv ca cd,a4=[Y (.ref w),Y (.ref bl),Y (.ref P),bv,ca,cd]/\b9 l m K bm h P ((tabOf a C).take i)) ?_ ?_ ?_ ?_
 .exact⟨O,O,O,S,tw db⟩
 .rintro i a4 h _ ⟨_,_,_,_,s⟩;exact(ab.ext.trans s.ext).ee c7
 .rintro i b a4 h f ⟨bv,ca,cd,rfl,s⟩;rw [bh]at f;cases g:bs[i]? with
  |none=>rw [g]at f;cases f
  |some G=>
   rw [g]at f;obtain rfl:=a8 f;obtain⟨k2,f8,ad⟩:=ez c8 g;obtain⟨k,a5,rfl,ga,ge,lk⟩:=xN (R:=C) r f8;have bd:=ab.ext.trans s.ext
   obtain⟨t,E,k3,k5,la⟩:=a3.row k a5;have ce:C k=((bq a).map a9).filter λb=>decide (b.1∈t.map (·.1)):=by show GP (λb:Pr=>decide (b.1∈((ba bn (A k)).getD []).map (·.1))) _=_;rw [E];rfl
   have lb:=(a3.len r E).1;obtain⟨gl,go,gt,g1,lc,g2,ld⟩:=(ab.on s.ext).ex;obtain⟨e,dl,c3,ch,g3,dp⟩:=f9 g1 E;have hd:c3.length=t.length:=by have:=bN cN dp;rwa [ag,ag]at this
   have he:bl≠e:=by intro al;apply g2;obtain⟨y,x,hf⟩:=cm.mp dl;rw [al,<-hf];exact d8 (fL x)
   have hi:cX (h e)\/h e=O:=.inl (by rw [ch];exact trivial);refine⟨e,_,ch,trivial,λci=> ?_⟩;have cl:∀G bk,av K h G bk->av K (upd h e (.bO ci (dX l m e c3))) G bk:=λG bk=>bC hi
   refine⟨_,S,_,S,bl,.ref e,S,⟨gl,pk (A k),G,(Q he).trans go,gt.same cl,S,cl _ _ (bd.aP ad),dl.symm⟩,e,ci,c3,S,M,λam an=> ?_⟩;have be:e≠am:=by intro al;rw [<-al,M]at an;cases an
   have ds:h am=O:=by rw [Q be.symm]at an;exact an
   refine qV (aU:=c3) (λi U=>U am=Y (.lst (((t.take i).map (·.1)).map λb=>V.int (b:Nat)))/\U e=Y (.bO ci (dX l m e c3))/\(∀G bk,av K h G bk->av K U G bk)/\∀G o,G≠e->h G=Y o->U G=Y o) ?_ ?_ ?_ ?_
   .refine⟨M,by rw [Q be,M],λG bk j=>bC (.inr an) (cl G bk j),λG o g a=> ?_⟩;rw [Q (cB a ds),Q g];exact a
   .rintro i U _ ⟨_,j,_⟩;exact j
   .rintro i b U f ⟨ap,cn,co,cr⟩;have dx:(c3.map (·.1))[i]?=Y b.1:=by rw [bh,f];rfl
    rw [dp,bh]at dx;obtain⟨y,x,hm⟩:=cm.mp dx;have ad:av K U b.2.1 (b2 y):=by have:=co _ _ (g3 b (cH f));rw [<-hm]at this;exact this
    have hz:i<t.length:=(cM.mp x).1;refine⟨S, ?_⟩;unfold hl;dsimp only [];rw [ak S];refine⟨_,S,_,_,_,_,S,S,ad,S,_,ap,by rw [ag,ag,dW];omega, ?_, ?_, ?_, ?_⟩
    .rw [M,dm,x,aW,aW];rfl
    .rw [Q be];exact cn
    .exactλG bk j=>bC (.inl (by rw [ap];exact trivial)) (co G bk j)
    .intro G o g a;rw [Q (cB a ds)];exact cr G o g a
   rintro U ⟨ap,cn,co,cr⟩;rw [hd,dB]at ap;refine⟨cn, ?_⟩;have cs:Ext h (upd U e (dX l m e c3)):=λG o a=>by
    by_cases g:G=e
    .rw [g,M,<-ch,<-g];exact a
    .rw [Q g];exact cr G o g a
   have h0:upd U e (dX l m e c3) am=Y (.lst ((t.map (·.1)).map λb=>V.int (b:Nat))):=(Q be.symm).trans ap;have dK:=bd.trans cs
   refine⟨_,S,w,d,fT,f0,_,S,dK _ _ f1,a1.p.c,a1.p.sorts,f2,c9,S, ?_⟩;obtain⟨dL,dT,d0⟩:=bt.ext dK;refine⟨⟨_,dT⟩,λbi d1=> ?_⟩;refine hD (xs:=dL.map V.ref) (λi u=>(∃v,u bi=Y (.lst (v.map V.ref))/\fQ K u v ((((bq a).map a9).take i).filter λb=>decide (b.1∈t.map (·.1)))/\v.length<=i)/\Ext (upd U e (dX l m e c3)) u) ?_ ?_ ?_ ?_
   .exact⟨⟨[],M,.nil,aX _⟩,Ext.one d1⟩
   .rintro i u _ ⟨_,n⟩;exact n.ee dT
   .rintro i b u f ⟨⟨v,as,a0,ct⟩,n⟩;rw [bh]at f;cases c0:dL[i]? with
    |none=>rw [c0]at f;cases f
    |some c=>
     rw [c0]at f;obtain rfl:=a8 f;obtain⟨y,x,em⟩:=ez d0 c0;have hz:i<((bq a).map a9).length:=(cM.mp x).1
     have:=xO r;have h1:((bq a).map a9).take (i+1)=((bq a).map a9).take i++[y]:=by rw [dm,x];rfl
     refine⟨S,_,S,_,_,_,_,S,S,n.aP em,S,_,S,am,_,S,.inl (au.of (n _ _ h0)),S,DH _,_,S, ?_⟩;rw [N d5,DG,h1,nM,il,uK];refine eb (λc1=> ?_) (λc1=> ?_)
     .rw [ak c1];have eq:cX (u bi)\/u bi=O:=.inl (by rw [as];exact trivial)
      refine⟨_,S,_,as,by rw [ag];omega,⟨v++[c],by rw [M,aW];rfl,fS (Paired.cb a0 λG w al=>bC eq al) (bC eq (n.aP em)),by rw [bB];exact p6 ct 1⟩,n.upd d1⟩
     .rw [N c1,bZ];exact⟨⟨v,as,a0,GN ct⟩,n⟩
   rintro u ⟨⟨v,as,a0,ct⟩,n⟩;rw [ag,bL d0,dB,<-ce]at a0;refine⟨bi,C k,S,⟨v,au.of as,a0⟩, ?_, ?_,λle lf h2 id ii=> ?_⟩
   .rw [ce];exact(tD r).filter _
   .rw [ce];refine cq (i2 _ _) ?_;have:=xO r;omega
   have c2:=(cs.trans n).trans h2;obtain⟨im,io,is,it,ix⟩:=s.next c2 ii ((cs.trans n).none id) (c2.aP (bd.aP ad)) ge lk;rw [ga];exact⟨_,S,_,S,P,im,pk (A k),G,S,io,is,S,c2.aP (bd.aP ad),it,_,_,_,S,ix⟩
 .rintro a4 h ⟨bv,ca,cd,rfl,s⟩;have:((tabOf a C).take (bs.map V.ref).length)=tabOf a C:=by
   rw [j8];rw [ag,bL c8,ag];unfold tabOf;rw [ag];exact aX _
  rw [this]at s;refine⟨_,S,fa P h _ (s.from ab.ext) (xM r λk a5=>⟨(tD r).filter _,λb f=> ?_,λF=> ?_⟩)⟩
  .obtain⟨F,jp,rfl⟩:=bE.mp (dA.mp f).1;exact⟨F,jp,S⟩
  .obtain⟨t,E,_⟩:=a3.row k a5;have kk:=Mo r a3 a5 E F
   show a9 F∈GP (λb:Pr=>decide (b.1∈((ba bn (A k)).getD []).map (·.1))) _↔_;rw [dA,E,nR];show a9 F∈_/\(a9 F).1∈t.map (·.1)↔_
   rw [kk];unfold gv;refine and_congr_left λ_=>⟨λj=> ?_,λj=>d8 j⟩
   obtain⟨G,g,kp⟩:=bE.mp j;rw [<-mK kp];exact g
abbrev xP:a6:=top 58
abbrev xQ:a6:=top 60
abbrev xR:a6:=top 61
def jY(A:Pr):l9:=.tuple [.int (A.1:Int),.int (A.2:Int)]
def tE(A:Pr):rl (jY A)=I:=by unfold rl jY;simp [PyData.canLay0,PyData.canLayAll0,PyData.depth,PyData.depthAll]
def DJ(A D:Pr):yB (jY A) (jY D)=decide (A=D):=by
 unfold jY;simp only [yB,PyData.eqvAll];by_cases c:A=D
 .subst c;simp
 .rw [bT c];have:¬(A.1=D.1/\A.2=D.2):=λG=>c (mm G.1 G.2)
  by_cases M:A.1=D.1
  .have N:((A.2:Int)==(D.2:Int))=ao:=iQ.mpr λG=>this ⟨M,by omega⟩;rw [N];simp
  .have Q:((A.1:Int)==(D.1:Int))=ao:=iQ.mpr λG=>M (by omega);rw [Q];rfl
def tF(A:av K H d (b2 s0)):Dp K H (.ref d) (jY s0):=.tup A (.cons (.int _) (.cons (.int _) .nil))
def tG(A:av K H d (b2 s0))(D:av K H p (b2 KB))(G:IR (.bl (decide (s0=KB))) H):vt K (.ref d) (.ref p) H IR:=⟨jY s0,jY KB,tF A,tF D,tE s0,tE KB,by rw [DJ];exact G⟩
def Oc(A:av K H d (b2 s0))(D:av K H p (b2 KB))(G:IR (.bl (!decide (s0=KB))) H):z9 K (.ref d) (.ref p) H IR:=⟨jY s0,jY KB,tF A,tF D,tE s0,tE KB,by rw [DJ];exact G⟩
def gb(M:az)(N:aw)(K:ah)(H:G)(c:Z)(Q S:List Pr):Prop:=∃A,H c=Y (dX M N c A)/\b7 K H A/\A.map (·.1)=Q.map pk/\cO (λ(T:List Key×Z×V) v=>∃D,T.2.2=.ref D/\av K H D (b2 v)) A S
variable{c:Z}
def gb.ext(A:Ext H q)(D:gb l m K H c re KM):gb l m K q c re KM:=by obtain⟨G,M,N,Q,S⟩:=D;exact⟨G,A _ _ M,A.keys N,Q,Paired.cb S λe v T=>let⟨a,b,d⟩:=T;⟨a,b,A.aP d⟩⟩
def xS:∀{G:bV} {M:Nat} {D:List Key×Z×V},(G.map (·.1)).Nodup->G[M]?=Y D->cg G D.1=Y D.2.2
 |[],_,_,_,A=>by cases A
 |y::b,0,D,_,A=>by cases A;unfold cg;rw [gi,ck S];rfl
 |y::b,M+1,D,a,A=>by
  rw [aV,eB]at a;have A:b[M]?=Y D:=A
  have N:¬y.1=D.1:=λQ=>a.1 (by rw [Q];exact d8 (cH A));have:=xS a.2 A
  unfold cg at this⊢;rw [gi,bT N];exact this
def DK:∀{G:bV} {M:Nat} {A:List Key×Z×V} {v:V},(G.map (·.1)).Nodup->G[M]?=Y A->G.map (λQ=>if Q.1=A.1 then(Q.1,Q.2.1,v)else Q)=G.set M (A.1,A.2.1,v)
 |[],_,_,_,_,D=>by cases D
 |y::b,0,A,v,a,D=>by cases D;rw [aV,eB]at a;rw [aV,ak S,List.set_cons_zero];congr 1;refine(gF λT d=> ?_).trans (nN b);rw [N λe=>a.1 (by rw [<-e];exact d8 d)];rfl
 |y::b,M+1,A,v,a,D=>by
  rw [aV,eB]at a;have D:b[M]?=Y A:=D
  have f:¬y.1=A.1:=λT=>a.1 (by rw [T];exact d8 (cH D));rw [aV,N f,List.set_cons_succ,DK a.2 D]
def DL{G:s2->Do->Prop}:∀{N:List s2} {Q:List Do} {M:Nat} {S:s2} {T:Do},cO G N Q->G S T->cO G (N.set M S) (Q.set M T)
 |_,_,_,_,_,.nil,_=>.nil
 |_,_,0,_,_,.cons d a,b=>.cons b a
 |_,_,M+1,_,_,.cons d a,b=>.cons d (DL a b)
def gb.get(T:re.Nodup)(M:pu.map (·.1)=re.map pk)(a:cO (λ(x:List Key×Z×V) v=>∃A,x.2.2=.ref A/\av K H A (b2 v)) pu KM){i:Nat}{p:Pr}(b:re[i]?=Y p):∃x v A,pu[i]?=Y x/\x.1=pk p/\KM[i]?=Y v/\cg pu (pk p)=Y (.ref A)/\av K H A (b2 v):=by
 have N:(pu.map (·.1))[i]?=Y (pk p):=by rw [M,bh,b];rfl
 rw [bh]at N;obtain⟨x,G,Q⟩:=cm.mp N;obtain⟨v,d,A,e,f⟩:=ez a G;have g:(pu.map (·.1)).Nodup:=by rw [M];exact jk (λ_ _=>lP) T
 refine⟨x,v,A,G,Q,d, ?_,f⟩;rw [<-Q,xS g G,e]
def gb.put{v:Pr}{b:Z}(f:re.Nodup)(i:H c=Y (dX l m c pu))(j:b7 K H pu)(T:pu.map (·.1)=re.map pk)(g:cO (λ(G:List Key×Z×V) v=>∃b,G.2.2=.ref b/\av K H b (b2 v)) pu KM)(k:re[r]?=Y s0)(D:av K H d (b2 s0))(N:av K H b (b2 v)):gb l m K (upd H c (dX l m c (cz pu (pk s0) d (.ref b)))) c re (KM.set r v):=by
 have a:cX (H c)\/H c=O:=.inl (by rw [i];exact trivial);obtain⟨G,t,u,A,n,x,o,_⟩:=gb.get f T g k;have p:(pu.map (·.1)).Nodup:=by rw [T];exact jk (λ_ _=>lP) f
 have h:cz pu (pk s0) d (.ref b)=pu.set r (G.1,G.2.1,.ref b):=by unfold cz;rw [o,ak (by rfl),<-n,DK p A]
 refine⟨cz pu (pk s0) d (.ref b),M,(lz j _ D).same λy z=>bC a, ?_, ?_⟩
 .rw [h,List.map_set];show(pu.map (·.1)).set r G.1=_
  rw [<-T];apply Sq;intro B;rw [Sr];split
  .rename_i e;subst e;rw [bh,A];split
   .rfl
   .rename_i q;exfalso;apply q;rw [ag];exact(cM.mp A).1
  .rfl
 .rw [h];refine DL (Paired.cb g λC v Q=>let⟨b,e,s⟩:=Q;⟨b,e,bC a s⟩) ⟨b,S,bC a N⟩
def jZ(A D v:Pr):Pr:=if v=D then A else v
def DM(P:az)(w:aw)(K:ah):Sp:=λS H T _=>∃c A D re KM G M,S=[.ref c,.ref A,.ref D]/\re.Nodup/\re.length<=90/\gb P w K H c re KM/\av K H A (b2 G)/\av K H D (b2 M)/\
 ∀q,bK c H q->(∀N Q,av K H N Q->av K q N Q)->gb P w K q c re (KM.map (jZ G M))->T .br q
def Od(bd:a7 K "put_together" "put_together" xP d o0)(be:z "list"=O):aS l m K z B aD 1 d o0 ["classes","kept","lost"] (DM l m K):=by
 refine bd.go ["classes","kept","lost","place"] λbi bk c3 bl H c4 c5 c6 bm g bn al sz=> ?_;obtain⟨c,bs,bt,KM,re,a,b,rfl,am,c7,⟨t,u,an,x,ap⟩,bv,ca,cd⟩:=g;have ce:(bk.deeper (eI "put_together" (ei xP) bl.heap.objs.size d bi)).units+64<cG:=by have:=bm.un;omega
 refine⟨_,ax (d2 dY S (dy (r1 (Kx S) (by rfl) be (by decide+kernel) (aK 0))) (bW 3 bn) (ax (bH (bQ (vu ce) (fk al (T 0) (T 3) (λ_ _=>S)) (T 2) (bU _)) (ax (i9 al (T 0) (T 3) (T 1) S)) bP))), ?_⟩;refine⟨_,S,c,t,S,u,λk as=> ?_⟩;have U:Ext H (upd H k (.lst (t.map λD=>V.ref D.2.1))):=Ext.one as
 have ch:k≠c:=(cB u as).symm;refine⟨k,S,⟨_,au.of M⟩, ?_⟩;have a0:t.length=KM.length:=by have:=bN cN x;rwa [ag,ag]at this
 have ci:re.length=KM.length:=by rw [<-bL ap,a0]
 refine fC (xs:=t.map λD=>V.ref D.2.1) (λA P G=>∃L,P=[Y (.ref c),Y (.ref bs),Y (.ref bt),L]/\gb l m K G c KM ((re.take A).map (jZ a b)++re.drop A)/\bK c H G/\(∀e h,av K H e h->av K G e h)/\G k=Y (.lst (t.map λD=>V.ref D.2.1))) ?_ ?_ ?_ ?_
 .exact⟨O,S,gb.ext U ⟨t,u,an,x,ap⟩,U.but,λe h=>U.aP,M⟩
 .rintro A P G _ ⟨_,_,_,_,_,g⟩;exact au.of g
 .rintro A c8 P G a1 ⟨L,rfl,⟨w,i,n,p,C⟩,q,f,E⟩;rw [bh]at a1;obtain⟨y,F,rfl⟩:=cm.mp a1;have cl:A<KM.length:=by have:=(cM.mp F).1;omega
  obtain⟨D,R⟩:∃D,KM[A]?=Y D:=⟨_,gj cl⟩
  have cn:y.1=pk D:=by
   have:(t.map (·.1))[A]?=Y y.1:=by rw [bh,F];rfl
   rw [x,bh,R]at this;exact(a8 this).symm
  have W:av K G y.2.1 (b2 D):=by have:=f _ _ (an y (cH F));rw [cn]at this;exact this
  obtain⟨v,r⟩:∃v,re[A]?=Y v:=⟨_,gj (by omega)⟩
  obtain⟨c9,co,db,dd,dl,j,cr,a2⟩:=gb.get am p C R;have a3:co=v:=by rw [hT (by rw [ag,dW];omega),ag,dW,i1 (by omega),kY,GQ,ke,r]at j;exact(a8 j).symm
  rw [a3]at a2;have cs:((re.take (A+1)).map (jZ a b)++re.drop (A+1))=((re.take A).map (jZ a b)++re.drop A).set A (jZ a b v):=by
   rw [dm,r,aW,cv,List.set_append_right _ _ (by rw [ag,dW];omega),ag,dW,i1 (by omega),kY];congr 1;have ct:re.drop A=v::re.drop (A+1):=by rw [Sm (by omega)];rw [gj (by omega)]at r;rw [a8 r]
   rw [ct];rfl
  refine⟨_,S,_,S,c,_,S,⟨w,pk D,y.2.1,i,n,S,W,cr.symm⟩,_,S,tG a2 (f _ _ ca) ⟨_,S, ?_⟩⟩;rw [cs];by_cases s:v=b
  .rw [ck s];have dp:w.length=KM.length:=by have:=bN cN p;rwa [ag,ag]at this
   have X:jZ a b v=a:=ak s;rw [X];have c0:cX (G c)\/G c=O:=.inl (by rw [i];exact trivial)
   exact cf ⟨_,S,_,S,_,S,c,w,pk D,y.2.1,S,i,n,S,W,by omega,_,S,gb.put am i n p C R W (f _ _ bv),λe o ab a4=>by rw [Q a4];exact q e o ab a4,λe h g=>bC c0 (f e h g),by rw [Q ch];exact E⟩
  .rw [bT s];have X:jZ a b v=v:=N s
   have c1:((re.take A).map (jZ a b)++re.drop A).set A v=(re.take A).map (jZ a b)++re.drop A:=by
    rw [a3]at j;apply Sq;intro ds;rw [Sr];split
    .rename_i ab;subst ab;rw [j];split
     .rfl
     .rename_i c2;exact absurd (cM.mp j).1 c2
    .rfl
   rw [X,c1];exact b1 ⟨_,S,⟨w,i,n,p,C⟩,q,f,E⟩
 .rintro P G ⟨L,rfl,a5,q,f,E⟩;rw [ag,a0,<-ci,dB,List.drop_length,bZ]at a5;exact cd G q f a5
abbrev hs(M:az)(N:aw)(K:ah)(H:G)(c:Z)(D:Ex)(Q:aB->aB):Prop:=gb M N K H c ((aq D).map A) ((aq D).map λS=>A (Q S))
def hs.get(a:bD pi)(b:hs l m K H c pi t3)(d:or∈aq pi):∃G M,H c=Y (dX l m c G)/\b7 K H G/\cg G (pk (A or))=Y (.ref M)/\av K H M (b2 (A (t3 or))):=by
 obtain⟨G,f,g,h,j⟩:=b;obtain⟨i,Q⟩:=hV.mp d;obtain⟨x,v,M,D,e,N,k,T⟩:=gb.get (lW a) h j (i:=i) (p:=A or) (by rw [bh,Q];rfl);rw [bh,Q]at N;have N:A (t3 or)=v:=a8 N
 rw [<-N]at T;exact⟨G,M,f,g,k,T⟩
def xT(D G:aB):decide (A D=A G)=decide (D=G):=by rw [hc];exact⟨ed,λM=>by rw [M]⟩
def DN{D:aB->Bool}(N:(aq pi)[r]?=Y or):(((aq pi).take (r+1)).filter D).map A=(((aq pi).take r).filter D).map A++(if D or=I then [A or]else []):=by rw [dm,N,nM,aW];congr 1;rw [GB,il,uK];split<;>rfl
def xU(P:az)(w:aw)(K:ah)(S T:Z):Sp:=λa H b _=>∃N pi c t3 Q D,a=[.ref N,.ref c,.ref Q]/\cj K S T H N pi/\hs P w K H c pi t3/\D∈aq pi/\av K H Q (b2 (A D))/\
 ∀G M,Ext H M->H G=O->eN K M G (((aq pi).filter λd=>decide (t3 d=t3 D)).map A)->b (.ref G) M
def Oe(ap:a7 K "members" "members" xQ p o0)(s:eE K d L):aS l m K z B aD 1 p o0 ["program","classes","place"] (xU l m K d L):=by
 refine ap.go ["program","classes","place","other"] λas a0 cr b H cs ct c0 a1 a2 t u sz=> ?_;obtain⟨v,pi,c,t3,x,y,rfl,r,Q,a3,a4,a5⟩:=a2;have i:=r.ok
 have bd:(a0.deeper (eI "members" (ei xQ) b.heap.objs.size p as)).units+64<cG:=by have:=a1.un;omega
 refine⟨_,ax (aQ (f3 (own:=[("other",3)]) S t (dy (aG 0)) (e3 S) (λb H d j C=>bW 3 t) (λb H d j C=>kx (bQ (CW K bd) (o5 l m K u (T 1) (T 3) (λ_ _=>S)) (o5 l m K u (T 1) (T 2) (λ_ _=>S)) (bU _))) (λb H d j C=>T 3))), ?_⟩;obtain⟨be,bi,bk,E,bl,bm,F,P⟩:=r.places;refine⟨_,S,v,d,be,bi,_,S,bl,s.p.c,s.p.places,bm,bk,S,⟨_,F⟩,λw k=> ?_⟩;refine hD (xs:=E.map V.ref) (λf D=>eN K D w ((((aq pi).take f).filter λW=>decide (t3 W=t3 y)).map A)/\Ext H D) ?_ ?_ ?_ ?_
 .exact⟨⟨[],M,.nil⟩,Ext.one k⟩
 .rintro f D _ ⟨_,X⟩;exact X.ee F
 .rintro f X D a ⟨⟨h,R,n⟩,G⟩;rw [bh]at a;cases o:E[f]? with
  |none=>rw [o]at a;cases a
  |some ab=>
   rw [o]at a;obtain rfl:=a8 a;obtain⟨W,ad,g⟩:=ez P o;rw [bh]at ad;obtain⟨bn,al,rfl⟩:=cm.mp ad;have g:=G.aP g
   obtain⟨bs,c1,bt,bv,ca,cd⟩:=hs.get i (Q.ext G) (cH al);obtain⟨ce,c2,ch,ci,cl,cn⟩:=hs.get i (Q.ext G) a3;refine⟨S,_,S,_,S,c,_,S,⟨bs,pk (A bn),ab,bt,bv,S,g,ca.symm⟩,_,S,_,S,c,_,S,⟨ce,pk (A y),x,ch,ci,S,G.aP a4,cl.symm⟩,tG cd cn ⟨_,S, ?_⟩⟩;rw [xT,DN al];have j:h.length<=90:=by
    rw [bL n,ag];refine cq (i2 _ _) ?_;rw [dW];have:=nc i
    rw [ag]at this;omega
   refine eb (λq=> ?_) (λq=> ?_)
   .rw [ak q];have am:cX (D w)\/D w=O:=.inl (by rw [R];exact trivial)
    exact⟨_,S,_,R,by rw [ag];omega,⟨h++[ab],by rw [M,aW];rfl,fS (Paired.cb n λx v co=>bC am co) (bC am g)⟩,G.upd k⟩
   .rw [N q,bZ];exact⟨⟨h,R,n⟩,G⟩
 .rintro D ⟨an,G⟩;rw [ag,bL P,ag,dB]at an;exact a5 w D G k an
def Of(K:ah)(M:h.K=K:=by rfl):hB h (.builtin "len") (λN H Q=>∃A D,N=[.ref A]/\(au K H A D\/av K H A D)/\Q (.int D.length) H):=by subst M;exact en
def DO(P:az)(w:aw)(K:ah)(M N:Z):Sp:=λQ H S _=>∃A pi c t3,Q=[.ref A,.ref c]/\cj K M N H A pi/\hs P w K H c pi t3/\
 ∀D G,Ext H G->H D=O->G D=Y (.lst ((((aq pi).filter λA=>decide (t3 A=A)).map λA=>((aq pi).filter λT=>decide (t3 T=t3 A)).length).map λa=>V.int (a:Nat)))->S (.ref D) G
def Og(be:a7 K "class_sizes" "class_sizes" xR p o0)(ab:eE K d L)(bi:z "len"=O)(bk:bx l m K z B aD 1 "members" ["program","classes","place"] (xU l m K d L)):aS l m K z B aD 2 p o0 ["program","classes"] (DO l m K d L):=by
 refine be.go ["program","classes","firsts","place","first"] λbl bm c4 h H c5 c6 c7 ad bn v bs sz=> ?_;obtain⟨R,pi,c,t3,rfl,E,al,bt⟩:=bn;have am:=E.ok
 have bv:(bm.deeper (eI "class_sizes" (ei xR) h.heap.objs.size p bl)).units+64<cG:=by have:=ad.un;omega
 refine⟨_,ar (r8 (i:=2) (own:=[("place",3)]) S v S rfl (r9 S rfl rfl rfl) (dy (aG 0)) (e3 S) (λh H d P r=>bW 3 v) (λh H d P r=>kx (bQ (CW K bv) (o5 l m K bs (T 1) (T 3) (λ_ _=>S)) (T 3) (bU _))) (λh H d P r=>T 3)) (ax (aQ (f3 (own:=[("first",4)]) S v (dy (T 2)) (e3 S) (λh H d P r=>bW 4 v) (λh H d P r=>hC) (λh H d P r=>cR (Of K) (by rfl) bi dD (D (bG bk ad (D (T 0) (D (T 1) (aK 4)))) aC))))), ?_⟩;obtain⟨ca,cd,ce,an,ch,ci,ap,as⟩:=E.places;have a0:=nc am
 rw [ag]at a0;refine⟨_,S,R,d,ca,cd,_,S,ch,ab.p.c,ab.p.places,ci,ce,S,⟨_,ap⟩,λx a1=> ?_⟩;refine hD (xs:=an.map V.ref) (λa f=>eN K f x ((((aq pi).take a).filter λb=>decide (t3 b=b)).map A)/\Ext H f) ?_ ?_ ?_ ?_
 .exact⟨⟨[],M,.nil⟩,Ext.one a1⟩
 .rintro a f _ ⟨_,s⟩;exact s.ee ap
 .rintro a s f G ⟨⟨n,o,w⟩,g⟩;rw [bh]at G;cases j:an[a]? with
  |none=>rw [j]at G;cases G
  |some y=>
   rw [j]at G;obtain rfl:=a8 G;obtain⟨b,t,k⟩:=ez as j;rw [bh]at t;obtain⟨F,u,rfl⟩:=cm.mp t;have k:=g.aP k
   obtain⟨cl,c8,cn,co,cr,cs⟩:=hs.get am (al.ext g) (cH u);refine⟨S,_,S,_,S,c,_,S,⟨cl,pk (A F),y,cn,co,S,k,cr.symm⟩,_,S,tG cs k ⟨_,S, ?_⟩⟩;rw [xT,DN u];have P:n.length<=90:=by rw [bL w,ag];refine cq (i2 _ _) ?_;rw [dW];omega
   refine eb (λQ=> ?_) (λQ=> ?_)
   .rw [ak Q];have a2:cX (f x)\/f x=O:=.inl (by rw [o];exact trivial)
    exact⟨_,S,_,o,by rw [ag];omega,⟨n++[y],by rw [M,aW];rfl,fS (Paired.cb w λc9 R ct=>bC a2 ct) (bC a2 k)⟩,g.upd a1⟩
   .rw [N Q,bZ];exact⟨⟨n,o,w⟩,g⟩
 rintro f ⟨a3,g⟩;rw [ag,bL as,ag,dB]at a3;obtain⟨n,o,w⟩:=a3;refine⟨_,S,x,S,⟨_,au.of o⟩,λa4 W=> ?_⟩;have db:((aq pi).filter λb=>decide (t3 b=b)).length<=90:=cq (i2 _ _) a0
 refine hD (xs:=n.map V.ref) (λa q=>q a4=Y (.lst (((((aq pi).filter λR=>decide (t3 R=R)).take a).map λR=>((aq pi).filter λb=>decide (t3 b=t3 R)).length).map λs=>V.int (s:Nat)))/\Ext f q) ?_ ?_ ?_ ?_
 .exact⟨M,Ext.one W⟩
 .rintro a q _ ⟨_,e⟩;exact au.of (e _ _ o)
 .rintro a s q G ⟨C,e⟩;rw [bh]at G;cases j:n[a]? with
  |none=>rw [j]at G;cases G
  |some y=>
   rw [j]at G;obtain rfl:=a8 G;obtain⟨b,t,k⟩:=ez w j;rw [bh]at t;obtain⟨F,u,rfl⟩:=cm.mp t;have c0:=(dA.mp (cH u)).1
   have a5:=g.trans e;refine⟨S, ?_⟩;unfold hl;dsimp only [];rw [ak S];refine⟨_,S,_,S,_,S,R,pi,c,t3,y,F,S,E.ext a5,al.ext a5,c0,e.aP k,λc1 dd bd dl ⟨dp,c2,c3⟩=> ?_⟩;refine⟨c1,_,S,.inl (au.of c2),_,bd _ _ C, ?_, ?_,(e.trans bd).upd W⟩
   .rw [ag,ag,dW];omega
   .rw [M,dm,u,aW,aW,ag,bL c3,ag];rfl
 .rintro q ⟨C,e⟩;rw [ag,bL w,ag,dB]at C;exact bt a4 q (g.trans e) (g.none W) C
abbrev xV:a6:=top 59
structure pe(D:Ex)(N:aB->aB)(M:Nat)(tab:Tb):Prop where
 nd:(tab.map (·.1)).Nodup
 len:tab.length<=M
 row:∀Q row,ba tab Q=Y row->row.Nodup/\(∀x∈row,∃a∈bq D,x=a9 a)/\∀a,a9 a∈row↔∃G∈(aq D).take M,A (N G)=Q/\fN D G a
 has:∀G∈(aq D).take M,∃row,ba tab (A (N G))=Y row
def Oh{u:Tb}:ba (pc++u) s0=match ba pc s0 with
  |some x=>Y x
  |none=>ba u s0:=by
 unfold ba;rw [Ss];cases pc.find? λy=>decide (y.1=s0)<;>rfl
def Oi(G:s0∉pc.map (·.1)):ba pc s0=O:=by
 cases a:ba pc s0 with
 |none=>rfl
 |some x=>exact absurd (kF a) G
def pe.add(o:pe pi t3 r pc)(t:(aq pi)[r]?=Y or){ps:List Pr}(l:Is=pc/\ba pc (A (t3 or))=Y re\/(Is=pc++[(A (t3 or),[])]/\A (t3 or)∉pc.map (·.1)/\re=[]))(w:∀h∈ps,∃Q∈bq pi,h=a9 Q) (x:∀Q,a9 Q∈ps↔fN pi or Q):pe pi t3 (r+1) (dM Is (A (t3 or)) (cT re ps)):=by
 have m:(aq pi).take (r+1)=(aq pi).take r++[or]:=by rw [dm,t];rfl
 have y:(Is.map (·.1)).Nodup:=by
  rcases l with⟨rfl,_⟩|⟨rfl,D,_⟩
  .exact o.nd
  .rw [aW];refine gU.mpr ⟨o.nd,by simp,λu p v z B=> ?_⟩;have:v=A (t3 or):=bf.mp z
   rw [B,this]at p;exact D p
 have q:A (t3 or)∈Is.map (·.1):=by
  rcases l with⟨rfl,D⟩|⟨rfl,D,_⟩
  .exact kF D
  .rw [aW];exact eH _ (bf.mpr S)
 have G:∀d,d≠A (t3 or)->ba Is d=ba pc d:=λd e=>by
  rcases l with⟨rfl,_⟩|⟨rfl,D,_⟩
  .rfl
  .rw [Oh];cases K:ba pc d with
   |some h=>rfl
   |none=>
    show ba [(A (t3 or),[])] d=O;exact Oi (by simp [e])
 have n:re.Nodup/\(∀h∈re,∃Q∈bq pi,h=a9 Q)/\∀Q,a9 Q∈re↔∃T∈(aq pi).take r,A (t3 T)=A (t3 or)/\fN pi T Q:=by
  rcases l with⟨_,D⟩|⟨_,D,rfl⟩
  .exact o.row _ _ D
  .refine⟨gT,(λ_ D=>nomatch D),λQ=>⟨(λD=>nomatch D),λ⟨T,U,a,_⟩=> ?_⟩⟩;obtain⟨s,e⟩:=o.has T U;rw [a]at e;exact absurd (kF e) D
 refine⟨by rw [BL];exact y, ?_,λd s e=> ?_,λT U=> ?_⟩
 .unfold dM;rw [ag];rcases l with⟨rfl,_⟩|⟨rfl,_⟩
  .have:=o.len;omega
  .rw [bB];have:=o.len;simp;exact this
 .rw [o3 _ q]at e;by_cases c:d=A (t3 or)
  .rw [ak c]at e;obtain rfl:=a8 e;refine⟨mD n.1,λh C=> ?_,λQ=> ?_⟩
   .rcases ho.mp C with D|D
    .exact n.2.1 h D
    .exact w h D
   .rw [ho,n.2.2 Q,x Q,m];constructor
    .rintro(⟨T,U,a,f⟩|D)
     .exact⟨T,gQ _ U,a.trans c.symm,f⟩
     .exact⟨or,eH _ (bf.mpr S),c.symm,D⟩
    .rintro⟨T,U,a,f⟩;rcases bS.mp U with D|D
     .exact .inl ⟨T,D,a.trans c,f⟩
     .rw [bf.mp D]at f;exact .inr f
  .rw [N c,G d c]at e;obtain⟨E,F,H⟩:=o.row d s e;refine⟨E,F,λQ=>(H Q).trans ?_⟩;rw [m];constructor
   .rintro⟨T,U,a,f⟩;exact⟨T,gQ _ U,a,f⟩
   .rintro⟨T,U,a,f⟩;rcases bS.mp U with D|D
    .exact⟨T,D,a,f⟩
    .rw [bf.mp D]at a;exact absurd a.symm c
 .rw [o3 _ q];by_cases c:A (t3 T)=A (t3 or)
  .rw [ak c];exact⟨_,S⟩
  .rw [N c,G _ c];rw [m]at U;rcases bS.mp U with D|D
   .exact o.has T D
   .rw [bf.mp D]at c;exact absurd rfl c
def Oj{p:Pr}{ps:List Pr}(A:Ext q H)(j:H L=Y (dX l m L pu))(k:b7 K H pu)(T:fv l m K H pu pc)(t:(pu.map (·.2.2)).Nodup)(D:V.ref L∉pu.map (·.2.2))(G:∀d,V.ref d∈pu.map (·.2.2)->q d=O)(R:q L=O)(n:fR l m K H d ps) (o:V.ref d∉pu.map (·.2.2)) (e:d≠L) (P:q d=O) (r:av K H pr (b2 p)) (U:p∉pc.map (·.1)):b7 K (upd H L (dX l m L (cz pu (pk p) pr (.ref d)))) (cz pu (pk p) pr (.ref d))/\fv l m K (upd H L (dX l m L (cz pu (pk p) pr (.ref d)))) (cz pu (pk p) pr (.ref d)) (pc++[(p,ps)])/\((cz pu (pk p) pr (.ref d)).map (·.2.2)).Nodup/\V.ref L∉(cz pu (pk p) pr (.ref d)).map (·.2.2)/\∀N,V.ref N∈(cz pu (pk p) pr (.ref d)).map (·.2.2)->q N=O:=by
 have f:cX (H L)\/H L=O:=.inl (by rw [j];exact trivial);have g:∀N a,N≠L->fR l m K H N a->fR l m K (upd H L (dX l m L (cz pu (pk p) pr (.ref d)))) N a:=λN a s x=>by obtain⟨y,z,B,C⟩:=x;exact⟨y,by rw [Q s];exact z,B.same λpr E=>bC f,C⟩
 refine⟨(lz k _ r).same λc E=>bC f, ?_, ?_, ?_, ?_⟩
 .have h:fv l m K (upd H L (dX l m L (cz pu (pk p) pr (.ref d)))) (pu++[(pk p,pr,.ref d)]) (pc++[(p,ps)]):=fS (q0 g T D) ⟨S,d,S,g d ps e n⟩;rw [iF _ _ (kM T U)]at h⊢;exact h
 .rw [iF _ _ (kM T U),aW];refine gU.mpr ⟨t,by simp,λu i v F b=> ?_⟩;have b:u=V.ref d:=b.trans (bf.mp F)
  rw [b]at i;exact o i
 .rw [iF _ _ (kM T U),aW];intro M;rcases bS.mp M with M|M
  .exact D M
  .have:=bf.mp M;injection this with this;exact e this.symm
 .rw [iF _ _ (kM T U),aW];intro N M;rcases bS.mp M with M|M
  .exact G N M
  .have:=bf.mp M;injection this with this;rw [this];exact P
def Ol{v:V}(G:cg pu AC=O):cg (cz pu AC d v) AC=Y v:=by
 rw [iF _ _ G];unfold cg at G⊢;rw [Ss];have:pu.find? (λM=>decide (M.1=AC))=O:=by
  cases a:pu.find? (λM=>decide (M.1=AC))with
  |none=>rfl
  |some y=>rw [a]at G;cases G
 rw [this];simp
def xW(P:az)(w:aw)(K:ah)(S T:Z):Sp:=λa H b _=>∃D A c G,a=[.ref D,.ref c]/\cj K S T H D A/\hs P w K H c A G/\∀M N Q,b9 P w K H N M Q->bI A Q (jn A G)->b (.ref M) N
def Om(lb:a7 K "table_of_classes" "table_of_classes" xV L o0)(c6:eE K d pr)(lc:z "dict"=O)(ld:bx l m K z B aD 2 "own_table" ["program"] (tq l m K d pr)):aS l m K z B aD 3 L o0 ["program","classes"] (xW l m K d pr):=by
 refine lb.go ["program","classes","own","of_class","place","table"] λle lf m9 fa H na nb ne hi r ce x sz=> ?_;obtain⟨ch,k,c,a,rfl,fd,hm,li⟩:=r;have s:=fd.ok
 have lm:(lf.deeper (eI "table_of_classes" (ei xV) fa.heap.objs.size L le)).units+2<cG:=by have:=hi.un;omega
 refine⟨_,ar (bo 2 ce (bG ld hi (aK 0))) (ar (bo 3 ce kz) (ar (d2 dY S (dy (aG 0)) (bW 4 ce) (ax (cL (sm x (Ku x (T 3) (fk x (T 1) (T 4) (λ_ _=>S)) kz ⟨S,S,S,S⟩) (fk x (T 2) (T 4) (λ_ _=>S)) ⟨S,S,S,S⟩)))) (ar (bo 5 ce kz) (ar (d2 dY S (dy (aG 0)) (bW 4 ce) (ax (i9 x (T 5) (T 4) (r1 (AL lm) (by rfl) lc (by decide+kernel) (D (fk x (T 3) (fk x (T 1) (T 4) (λ_ _=>S)) (λ_ _=>S)) aC)) S))) (ax (aQ (T 5))))))), ?_⟩;refine⟨_,S,ch,k,S,fd,λc7 W ad=> ?_⟩;have c8:=xA s
 obtain⟨hz,h0,h1,ln,nl,nm,nn⟩:=ad.ex;obtain⟨h2,id,ii,ci,im,io,c9,db⟩:=fd.places;have lo:=nc s
 rw [ag]at lo;intro f is;have lp:Ext W (upd W f (dX l m f [])):=Ext.one is
 have it:=ad.ext.trans lp;refine⟨_,S,ch,d,h2,id,_,S,it _ _ im,c6.p.c,c6.p.places,io,ii,S,⟨_,it.ee c9⟩, ?_⟩;refine fC (xs:=ci.map V.ref) (λbe C i=>∃al fl cd,C=[Y (.ref ch),Y (.ref c),Y (.ref c7),Y (.ref f),al,fl]/\b9 l m K W i f cd/\pe k a be cd) ?_ ?_ ?_ ?_
 .exact⟨O,O,[],S,tw is,gT,aX _,(λb ev r=>by cases r),(λN E=>nomatch E)⟩
 .rintro be C i _ ⟨_,_,_,_,b,_⟩;exact(ad.ext.trans b.ext).ee c9
 .rintro be cl C i n ⟨al,fl,cd,rfl,b,o⟩;rw [bh]at n;cases am:ci[be]? with
  |none=>rw [am]at n;cases n
  |some bi=>
   rw [am]at n;obtain rfl:=a8 n;obtain⟨ls,dd,an⟩:=ez db am;rw [bh]at dd;obtain⟨N,E,rfl⟩:=cm.mp dd;have cn:=cH E
   have no:be<90:=by have:=(cM.mp E).1;omega
   have ap:=ad.ext.trans b.ext;obtain⟨fm,bk,fn,fr,fs,fT⟩:=hs.get s (hm.ext ap) cn;obtain⟨ix,dl,np,lt,lv⟩:=c8.row N cn;obtain⟨g,F,bl,bm,dp,ds,dx⟩:=b.ex;have ns:=bL bm
   have nw:=o.len;refine⟨_,S,f,S,⟨g,F⟩,_,S,_,S,c,_,S,⟨fm,pk (A N),bi,fn,fr,S,ap.aP an,fs.symm⟩,λU as=> ?_⟩;have j:Ext i (upd i U (dX l m U [])):=Ext.one as
   have lw:=b.on j;have h:=b.ext.trans j
   obtain⟨co,bn,cr,a0,f0,dK⟩:=f9 ln dl;have nx:cr.length=ix.length:=by have:=bN cN dK;rwa [ag,ag]at this
   have nI:=(c8.len s dl).1;have jp:∀{X:G} {bs:Tb} {q:List Pr},b9 l m K W X f bs->(bs.map (·.1)).Nodup->q.length<=100->(bs=cd/\ba cd (A (a N))=Y q\/(bs=cd++[(A (a N),[])]/\A (a N)∉cd.map (·.1)/\q=[]))->∀{e:Z} {ex g:bV},X f=Y (dX l m f g)->b7 K X g->fv l m K X g bs->(g.map (·.2.2)).Nodup->V.ref f∉g.map (·.2.2)->(∀e,V.ref e∈g.map (·.2.2)->W e=O)->cg g (pk (A (a N)))=Y (.ref e)->X e=Y (dX l m e ex)->b7 K X ex->ex.map (·.1)=q.map pk->
     ex.length+cr.length<=aR/\e≠co/\∃bt,b9 l m K W (upd X e (dX l m e (h5 ex cr))) f bt/\pe k a (be+1) bt:=by
    intro X bs q t f1 kk l0 e ex g cs a1 ct f2 f4 dL kp mg mk ks;have n1:ex.length=q.length:=by have:=bN cN ks;rwa [ag,ag]at this
    have mo:V.ref e∈g.map (·.2.2):=by obtain⟨y,c0,c1⟩:=cm.mp kp;rw [<-c1];exact d8 (fL c0)
    have mp:W e=O:=dL e mo;refine⟨by omega,(cB a0 mp).symm,_,b9.put (ps:=cT q ix) t.ext cs a1 ct f2 f4 dL t.new f1 kp mg (qw mk (t.ext.keys f0)) (q2 ks dK),o.add E l0 lt lv⟩
   have bv:fv l m K (upd i U (dX l m U [])) g cd:=Paired.cb bm λab c2 N=>⟨N.1,let⟨e,k,fa⟩:=N.2;⟨e,k,fa.ext j⟩⟩
   have f8:av K (upd i U (dX l m U [])) bk (b2 (A (a N))):=j.aP fT;refine⟨g,pk (A (a N)),bk,S,j _ _ F,j.keys bl,f8,by omega,λkt a2=> ?_,λa2=> ?_⟩
   .
    have ms:A (a N)∈cd.map (·.1):=by refine F1 λmt=> ?_;rw [kM bv mt]at a2;cases a2
    obtain⟨q,ga⟩:∃q,ba cd (A (a N))=Y q:=by obtain⟨y,c0,c1⟩:=bE.mp ms;exact⟨y.2,hL o.nd (by rw [<-c1];exact c0)⟩
    obtain⟨c3,a3,ex,w,c4,dT⟩:=f9 bv ga;rw [a3]at a2;obtain rfl:=a8 a2;obtain⟨cs,a1,_⟩:=o.row _ _ ga;have kk:q.length<=100:=by have:=sL cs a1;have:=s.bF;omega
    obtain⟨ge,gl,bt,go,gt⟩:=jp lw o.nd kk (.inl ⟨S,ga⟩) (j _ _ F) (j.keys bl) bv dp ds dx a3 w c4 dT;exact⟨c3,S,⟨ex,w⟩,_,S,_,S,c7,.ref co,S,⟨hz,pk (A N),bi,h _ _ h0,h.keys h1,S,(ad.ext.trans h).aP an,bn.symm⟩,ex,co,cr,S,w,c4,h _ _ a0,h.keys f0,ge,λ_=>q3 s c8 dl dK,λg1=>absurd g1 gl,λ_=>⟨_,_,bt,S,go,gt⟩⟩
   .
    have d0:A (a N)∉cd.map (·.1):=λmA=>by obtain⟨y,c0,c1⟩:=bE.mp mA;obtain⟨c3,a3,_⟩:=f9 bv (hL o.nd (show(A (a N),y.2)∈cd by rw [<-c1];exact c0));rw [a2]at a3;cases a3
    have kw:fR l m K (upd i U (dX l m U [])) U []:=⟨[],M,(λ_ r=>nomatch r),S⟩
    have t:=b9.add (p:=A (a N)) (ps:=[]) h (j _ _ F) (j.keys bl) bv dp ds dx b.new kw (tu as bm) (cB F as).symm (b.ext.none as) f8 d0;have n2:∀c2 d1,W c2=Y d1->upd (upd i U (dX l m U [])) f (dX l m f (cz g (pk (A (a N))) bk (.ref U))) c2=Y d1:=λc2 d1 r=>t.ext c2 d1 r
    have f1:((cd++[(A (a N),([]:List Pr))]).map (·.1)).Nodup:=by
     rw [aW];refine gU.mpr ⟨o.nd,by simp,λu x v mN kt=> ?_⟩;have:v=A (a N):=bf.mp mN
     rw [kt,this]at x;exact d0 x
    have kV:U≠f:=(cB F as).symm;obtain⟨a1,ct,f2,f4,dL⟩:=Oj (p:=A (a N)) (ps:=[]) h (j _ _ F) (j.keys bl) bv dp ds dx b.new kw (tu as bm) kV (b.ext.none as) f8 d0;have w:upd (upd i U (dX l m U [])) f (dX l m f (cz g (pk (A (a N))) bk (.ref U))) U=Y (dX l m U []):=(Q kV).trans M
    obtain⟨ge,gl,bt,go,gt⟩:=jp (q:=[]) t f1 (cP _) (.inr ⟨S,d0,S⟩) M a1 ct f2 f4 dL (Ol a2) w (λ_ r=>nomatch r) S;exact⟨U,S,⟨[],w⟩,_,S,_,S,c7,.ref co,S,⟨hz,pk (A N),bi,t.ext _ _ h0,t.ext.keys h1,S,(ad.ext.trans t.ext).aP an,bn.symm⟩,[],co,cr,S,w,(λ_ r=>nomatch r),t.ext _ _ a0,t.ext.keys f0,ge,λ_=>q3 s c8 dl dK,λg1=>absurd g1 gl,λ_=>⟨_,_,bt,S,go,gt⟩⟩
 rintro C i ⟨al,fl,c5,rfl,k0,o⟩;have k1:pe k a (aq k).length c5:=by rw [ag,bL db,ag]at o;exact o
 intro ca k2;have j:Ext i (upd i ca (dX l m ca [])):=Ext.one k2
 have ap:=ad.ext.trans k0.ext;have h:=ap.trans j
 let a4:aB->List Pr:=λP=>(ba c5 (A (a P))).getD [];refine⟨_,S,ch,d,h2,id,_,S,h _ _ im,c6.p.c,c6.p.places,io,ii,S,⟨_,h.ee c9⟩, ?_⟩;have k3:∀P∈aq k,∃ev,ba c5 (A (a P))=Y ev/\ev.Nodup/\(∀cl∈ev,∃ab∈bq k,cl=a9 ab)/\∀ab,a9 ab∈ev↔jn k a P ab:=λP g2=>by obtain⟨ev,a5⟩:=k1.has P (by rw [dB];exact g2);obtain⟨cs,a1,ct⟩:=k1.row _ _ a5;refine⟨ev,a5,cs,a1,λab=>(ct ab).trans ?_⟩;rw [dB];unfold jn;exact⟨λ⟨N,E,bn,a0⟩=>⟨N,E,ed bn,a0⟩,λ⟨N,E,bn,a0⟩=>⟨N,E,by rw [bn],a0⟩⟩
 refine fC (xs:=ci.map V.ref) (λem C bd=>∃al,C=[Y (.ref ch),Y (.ref c),Y (.ref c7),Y (.ref f),al,Y (.ref ca)]/\b9 l m K i bd ca ((tabOf k a4).take em)) ?_ ?_ ?_ ?_
 .exact⟨_,S,tw k2⟩
 .rintro em C bd _ ⟨_,_,b⟩;exact(ap.trans b.ext).ee c9
 .rintro em cl C bd n ⟨al,rfl,b⟩;rw [bh]at n;cases am:ci[em]? with
  |none=>rw [am]at n;cases n
  |some bi=>
   rw [am]at n;obtain rfl:=a8 n;obtain⟨ls,dd,an⟩:=ez db am;obtain⟨N,cn,rfl,m0,m1,lk⟩:=xN (R:=a4) s dd;have h:=ap.trans b.ext
   obtain⟨fm,bk,fn,fr,fs,fT⟩:=hs.get s (hm.ext h) cn;obtain⟨ev,a5,g3,hd,k5⟩:=k3 N cn;obtain⟨g,F,bl,bm,dp,ds,dx⟩:=(k0.on b.ext).ex;obtain⟨c3,a3,eq,w,c4,dT⟩:=f9 bm a5;have he:a4 N=ev:=by show(ba c5 (A (a N))).getD []=ev;rw [a5];rfl
   have m2:jP l m eq:=xE dT g3 λcl n=>by obtain⟨ab,m3,rfl⟩:=hd cl n;exact xF s m3
   refine⟨_,S,_,S,_,S,c,_,S,⟨fm,pk (A N),bi,fn,fr,S,h.aP an,fs.symm⟩,f,.ref c3,S,⟨g,pk (A (a N)),bk,F,bl,S,fT,a3.symm⟩,c3,eq,S,w,c4,m2,λe la=> ?_⟩;have es:Ext bd (upd bd e (dX l m e eq)):=Ext.one la
   obtain⟨m4,m5,m6,m7,m8⟩:=b.next (ps:=a4 N) es ⟨eq,M,es.keys c4,by rw [he];exact dT⟩ la (es.aP (h.aP an)) m1 lk;rw [m0];exact⟨_,S,_,S,ca,m4,pk (A N),bi,S,m5,m6,S,es.aP (h.aP an),m7,_,S,m8⟩
 .rintro C bd ⟨al,rfl,b⟩;have:((tabOf k a4).take (ci.map V.ref).length)=tabOf k a4:=by
   rw [j8];rw [ag,bL db,ag];unfold tabOf;rw [ag];exact aX _
  rw [this]at b;refine⟨_,S,li ca bd _ (b.from ap) (xM s λP g2=> ?_)⟩;obtain⟨ev,a5,g3,hd,k5⟩:=k3 P g2;have he:a4 P=ev:=by show(ba c5 (A (a P))).getD []=ev;rw [a5];rfl
  rw [he];exact⟨g3,hd,k5⟩
abbrev xX:a6:=top 57
def gb.snoc{H:G}{c v:Z}(i:H c=Y (dX l m c pu))(j:b7 K H pu)(f:pu.map (·.1)=re.map pk)(D:cO (λ(b:List Key×Z×V) v=>∃d,b.2.2=.ref d/\av K H d (b2 v)) pu KM)(N:s0∉re)(n:av K H d (b2 s0))(o:av K H v (b2 KB)):gb l m K (upd H c (dX l m c (cz pu (pk s0) d (.ref v)))) c (re++[s0]) (KM++[KB]):=by
 have A:cX (H c)\/H c=O:=.inl (by rw [i];exact trivial);have p:cg pu (pk s0)=O:=by
  have:=kJ f s0;rw [bT N]at this;cases e:cg pu (pk s0)with
  |none=>rfl
  |some v=>rw [e]at this;cases this
 have g:=iF (k:=pk s0) d (.ref v) p;refine⟨cz pu (pk s0) d (.ref v),M,(lz j _ n).same λs t=>bC A, ?_, ?_⟩
 .rw [g,aW,aW,f];rfl
 .have KB:cO (λ(b:List Key×Z×V) q=>∃h,b.2.2=.ref h/\av K (upd H c (dX l m c (cz pu (pk s0) d (.ref v)))) h (b2 q)) (pu++[(pk s0,d,.ref v)]) (KM++[KB]):=fS (Paired.cb D λu v KB=>let⟨d,e,r⟩:=KB;⟨d,e,bC A r⟩) ⟨v,S,bC A o⟩;rw [g]at KB⊢;exact KB
def Oo:((aq pi).map λD=>A (t3 D)).map (jZ (A v6) (A or))=(aq pi).map λD=>A (joinR t3 v6 or D):=by
 rw [eh];refine gF λD _=> ?_;show(if A (t3 D)=A or then A v6 else A (t3 D))=A (if t3 D=or then v6 else t3 D)
 by_cases c:t3 D=or
 .rw [ak c,ak (by rw [c])]
 .rw [N c,N λT=>c (ed T)]
def tH(P:az)(w:aw)(K:ah)(Q S:Z):Sp:=λT H a _=>∃D A,T=[.ref D]/\cj K Q S H D A/\∀c M G,Ext H M->H c=O->hs P w K M c A G->jm A G->(∀D∈aq A,∀N∈aq A,Eqv A D N->G D=G N)->a (.ref c) M
def Oq(fm:a7 K "last_classes" "last_classes" xX L o0)(ci:eE K d p)(fn:bx l m K z B aD 3 "table_of_classes" ["program","classes"] (xW l m K d p)) (fr:bx l m K z B aD 4 "ways_of" ["program","table"] (qZ l m K d p)) (fs:bx l m K z B aD 1 "put_together" ["classes","kept","lost"] (DM l m K)):aS l m K z B aD 5 L o0 ["program"] (tH l m K d p):=by
 refine fm.go ["program","classes","place","joined","ways","begin","end"] λfT f0 la f H lb lc ld ab N o w sz=> ?_;obtain⟨b,G,rfl,ad,f1⟩:=N;have s:=ad.ok
 have f2:(f0.deeper (eI "last_classes" (ei xX) f.heap.objs.size L fT)).units+64<cG:=by have:=ab.un;omega
 have f4:=ab.mo 1;have f8:=ab.mo 3
 refine⟨_,ar (bo 1 o kz) (ar (d2 dY S (dy (aG 0)) (bW 2 o) (ax (i9 w (T 1) (T 2) (T 2) S))) (ar (bo 3 o hy) (ar (n6 dY (ko (T 3)) (ar (bo 3 o hy) (ar (bo 4 o (bG fr ab (D (T 0) (D (bG fn f8 (D (T 0) (aK 1))) aC)))) (ax (d2 dY S (dy (T 4)) (ll S (gX (bW 5 o) (gX (bW 6 o) lj))) (ax (bH (bQ (I5 f2) (fk w (T 1) (T 5) (λ_ _=>S)) (fk w (T 1) (T 6) (λ_ _=>S)) (bU _)) (ar (cL (bG fs f4 (D (T 1) (D (fk w (T 1) (T 5) (λ_ _=>S)) (D (fk w (T 1) (T 6) (λ_ _=>S)) aC))))) (ax (bo 3 o hy))) bP))))))) (ax (aQ (T 1)))))), ?_⟩;obtain⟨ga,ge,gl,cl,go,gt,cn,co⟩:=ad.places;have g1:=nc s
 have cr:=lW s;intro c al;have bi:Ext H (upd H c (dX l m c [])):=Ext.one al
 refine⟨_,S,b,d,ga,ge,_,S,bi _ _ go,ci.p.c,ci.p.places,gt,gl,S,⟨_,bi.ee cn⟩, ?_⟩;refine fC (xs:=cl.map V.ref) (λa g be=>∃X,g=[Y (.ref b),Y (.ref c),X,O,O,O,O]/\gb l m K be c (((aq G).map A).take a) (((aq G).map A).take a)/\Ext H be) ?_ ?_ ?_ ?_
 .exact⟨O,S,⟨[],M,(λ_ N=>nomatch N),S,.nil⟩,bi⟩
 .rintro a g be _ ⟨_,_,_,F⟩;exact F.ee cn
 .rintro a F g be h ⟨X,rfl,⟨bk,U,P,cs,g2⟩,F⟩;rw [bh]at h;cases t:cl[a]? with
  |none=>rw [t]at h;cases h
  |some g3=>
   rw [t]at h;obtain rfl:=a8 h;obtain⟨ct,c0,bl⟩:=ez co t;have le:bk.length<=90:=by have:=bN cN cs;rw [ag,ag,dW]at this;omega
   have hd:((aq G).map A).take (a+1)=((aq G).map A).take a++[ct]:=by rw [dm,c0];rfl
   rw [hd];exact⟨_,S,_,S,_,S,c,bk,pk ct,g3,S,U,P,S,F.aP bl,by omega,_,S,gb.snoc U P cs g2 (xw cr c0) (F.aP bl) (F.aP bl),F.upd al⟩
 rintro g be ⟨X,rfl,c1,he⟩;rw [ag,bL co,dB]at c1;refine⟨λc2 g be=>∃X c3 u v e Q,g=[Y (.ref b),Y (.ref c),X,Y (.bl e),c3,u,v]/\hs l m K be c G Q/\Ext H be/\jm G Q/\(e=ao->∀f i,f∈aq G->i∈aq G->d3 G (λb q=>b∈aq G/\jn G Q b q) f i->Q f=Q i)/\c2=lM G Q*2+(if e=I then 1 else 0),⟨_,X,O,O,O,I,id,S,c1,he,Md G,(λN=>by cases N),S⟩, ?_⟩;rintro c2 g hf ⟨X,c3,u,v,e,n,rfl,am,an,ap,hi,rfl⟩;refine⟨_,S,_,S, ?_⟩;cases e with
 |false=>exact b1 ⟨_,S,f1 c hf n an al am ap (Mg ap (hi S))⟩
 |true=>
 refine cf ⟨_,(λlf li N=>N), ?_⟩;refine⟨_,S,_,S,_,S,b,G,c,n,S,ad.ext an,am,λhm lm C as x=> ?_⟩;have hz:=an.trans as.ext
 refine⟨b,de G,hm,C,S,(ad.ext hz).prog,as.at,x.ok s,λR ln h0 c4 ⟨a0,c5,c6⟩=> ?_⟩;have c7:=as.ext.trans h0
 have h1:=an.trans c7;have h2:=am.ext c7
 have ii:∀b q,bR C b q->b∈aq G/\jn G n b q:=λb q N=>⟨x.lL N,(x.mR (x.lL N) q).mp N⟩
 have im:∀{a:Nat} {F:Wy},(fG (de G) C (de G).nodes.length)[a]?=Y F->∃j k,F=(A j,A k)/\j∈aq G/\k∈aq G/\Eqv G j k:=λ{a F} N=>by obtain⟨j,k,io,is,it,ix,jp⟩:=sT s x (cH (show _=Y (F.1,F.2)from N));exact⟨j,k,mm io is,it,ix,Mf ap ii jp⟩
 have kk:R≠c:=by obtain⟨bk,U,_⟩:=am;intro W;rw [W,as.ext _ _ U]at c4;cases c4
 refine⟨_,S,R,S,⟨_,au.of c5⟩, ?_⟩;refine fC (xs:=a0.map V.ref) (λa1 g ch=>∃u v e Q,g=[Y (.ref b),Y (.ref c),X,Y (.bl e),Y (.ref R),u,v]/\hs l m K ch c G Q/\Ext H ch/\jm G Q/\lM G Q<=lM G n/\(e=I->lM G Q<lM G n)/\(e=ao->Q=n/\∀a<a1,∀f i,(fG (de G) C (de G).nodes.length)[a]?=Y (A f,A i)->n f=n i)/\ch R=Y (.lst (a0.map V.ref))/\cO (da K ch) a0 (fG (de G) C (de G).nodes.length)) ?_ ?_ ?_ ?_
 .exact⟨_,_,ao,n,S,h2,h1,ap,aX _,(λN=>by cases N),λ_=>⟨S,λa r=>absurd r (k7 _)⟩,c5,c6⟩
 .rintro a1 g ch _ ⟨_,_,_,_,_,_,_,_,_,_,_,N,_⟩;exact au.of N
 .rintro a1 F g ch h ⟨u,v,e,Q,rfl,E,a2,a3,c8,bm,a4,bn,a5⟩;rw [bh]at h;cases t:a0[a1]? with
  |none=>rw [t]at h;cases h
  |some kp=>
   rw [t]at h;obtain rfl:=a8 h;obtain⟨y,c9,db,dd,ks,dl,dp⟩:=ez a5 t;obtain⟨j,k,rfl,ds,dx,kt⟩:=im c9;obtain⟨dK,kw,dL,dT,d0,d1⟩:=hs.get s E ds;obtain⟨em,kV,eq,es,ev,ex⟩:=hs.get s E dx;refine⟨kp,_,S,ks,S,_,_,S,_,_,S,S, ?_⟩;refine⟨_,S,_,S,c,_,S,⟨dK,pk (A j),db,dL,dT,S,dl,d0.symm⟩,_,S,_,S,c,_,S,⟨em,pk (A k),dd,eq,es,S,dp,ev.symm⟩,Oc d1 ex ⟨_,S, ?_⟩⟩;rw [xT];by_cases bd:Q j=Q k
   .rw [ck bd];refine b1 ⟨_,_,e,Q,S,E,a2,a3,c8,bm,λbs=> ?_,bn,a5⟩;obtain⟨U,P⟩:=a4 bs;refine⟨U,λa r f i bt=> ?_⟩;rcases kh.mp r with r|rfl
    .exact P a r f i bt
    .rw [c9]at bt;injection (a8 bt)with bv ca;obtain rfl:=ed bv;obtain rfl:=ed ca;rw [<-U];exact bd
   .rw [bT bd];obtain⟨k0,lo⟩:=Me a3 ds dx kt bd;refine cf ⟨_,S,_,S,_,S,c,_,S,⟨dK,pk (A j),db,dL,dT,S,dl,d0.symm⟩,_,S,_,S,c,_,S,⟨em,pk (A k),dd,eq,es,S,dp,ev.symm⟩,c,kw,kV,_,_,A (Q j),A (Q k),S,cr,g1,E,d1,ex,λlp fa cd fd=> ?_⟩;rw [Oo]at fd;refine⟨_,_,I,joinR Q (Q j) (Q k),S,fd,λce fl N=>fa ce fl (a2 ce fl N) (by intro W;rw [W,al]at N;cases N),k0,by omega,λ_=>by omega,(λN=>by cases N),fa _ _ bn kk,Paired.cb a5 λce ls W=> ?_⟩;obtain⟨k1,k2,bv,ca,k3⟩:=W;exact⟨k1,k2,cd _ _ bv,cd _ _ ca,cd _ _ k3⟩
 .rintro g ch ⟨u,v,e,Q,rfl,E,a2,a3,c8,bm,a4,bn,a5⟩;rw [ag,bL c6]at a4;refine⟨_, ?_,X,Y (.ref R),u,v,e,Q,S,E,a2,a3,λbs f i lt lv hw=> ?_,S⟩
  .cases e with
   |true=>have:=bm S;simp only [eP];omega
   |false=>simp only [eP,nB,iT];omega
  .obtain⟨U,P⟩:=a4 bs;subst U;have k5:d3 G (bR C) f i:=hw.mono λb q N=>(x.mR N.1 q).mpr N.2
   obtain⟨a,r⟩:=hV.mp (sU s x k5);exact P a (cM.mp r).1 f i r
abbrev DP:a6:=top 67
def tI(P:az)(w:aw)(K:ah)(S T:Z):Sp:=λa H b _=>∃D A,∃G:Nat,a=[.ref D,.int (G:Nat)]/\cj K S T H D A/\∀M N Q,b9 P w K H N M Q->bI A Q (gv A (gu A G))->b (.ref M) N
def pf(D G:Nat):decide (V.int ((D:Nat):Int)=V.int ((G:Nat):Int))=decide (D=G):=by rw [hc];exact⟨λA=>by injection A with A;omega,λA=>by rw [A]⟩
def Ot{o:bc}(r:a7 K "table_of_rung" "table_of_rung" DP L o){u:dz}(v:z "EVERYTHING"=Y (.int 0 wP))(x:z "BY_KINDS"=Y (.int 1 TW))(y:z "BOTH_WAYS"=Y (.int 2 u))(s:bx l m K z B aD 2 "everything_table" ["program"] (DF l m K d p)) (P:bx l m K z B aD 6 "kinds_table" ["program"] (DI l m K d p)) (C:bx l m K z B aD 3 "table_of_classes" ["program","classes"] (xW l m K d p)) (E:bx l m K z B aD 5 "last_classes" ["program"] (tH l m K d p)) (F:bx l m K z B aD 5 "least_table" ["program"] (tr l m K d p)):aS l m K z B aD 7 L o ["program","rung"] (tI l m K d p):=by
 refine r.go ["program","rung"] λa2 a3 a4 a5 H bd be bi i w bk _ _=> ?_;obtain⟨h,G,A,rfl,g,j⟩:=w;have R:=i.mo 2
 have W:=i.mo 3;have n:=i.mo 5
 refine⟨_,ar (bH (bQ cU (T 1) (b8 v) (bU _)) (ax (aQ (bG s R (aK 0)))) bP) (ar (bH (bQ cU (T 1) (b8 x) (bU _)) (ax (aQ (bG P i (aK 0)))) bP) (ar (bH (bQ cU (T 1) (b8 y) (bU _)) (ax (aQ (bG C W (D (T 0) (D (bG E n (aK 0)) aC))))) bP) (ax (aQ (bG F n (aK 0)))))), ?_⟩;refine⟨_,S,S,_,S, ?_⟩;have X:decide (V.int ((A:Nat):Int)=V.int 0)=decide (A=0):=pf A 0
 have ab:decide (V.int ((A:Nat):Int)=V.int 1)=decide (A=1):=pf A 1;have ad:decide (V.int ((A:Nat):Int)=V.int 2)=decide (A=2):=pf A 2
 rw [X];by_cases k:A=0
 .subst k;exact cf ⟨_,S,h,G,S,g,λM Q a b U=>j M Q a b U⟩
 rw [bT k];refine b1 ⟨_,S,S,_,S, ?_⟩;rw [ab];by_cases e:A=1
 .subst e;exact cf ⟨_,S,h,G,S,g,λM Q a b U=>j M Q a b U⟩
 rw [bT e];refine b1 ⟨_,S,S,_,S, ?_⟩;rw [ad];by_cases f:A=2
 .subst f;refine cf ⟨_,S,_,S,h,G,S,g,λc bl al q _ am an ap=> ?_⟩;exact⟨h,G,c,al,S,g.ext q,am,λM Q a b U=>j M Q a (b.from q) (U.congr λbm as a0=>Mh g.ok an ap as a0)⟩
 rw [bT f];have a1:gu G A=gq G:=by unfold gu;rw [N k,N e,N f]
 exact b1 ⟨_,S,h,G,S,g,λM Q a b U=>j M Q a b (by rw [a1];exact U)⟩
abbrev DQ:a6:=top 54
def Ou(T:bD pi)(a:or∈aq pi){M:Ex}(b:M∈aH pi)(c:af M=(A or).2):(ff pi or).map A=if(A or).1=0/\(aA M=.call\/aA M=.fst\/aA M=.snd\/aA M=.get)then [(0,dF (infos O pi) (A or).2)]
  else if(A or).1=1/\aA M=.fn then(cA (infos O pi) λN=>decide (N=.call)).map λQ=>(0,dF (infos O pi) Q)
  else if(A or).1=4 then(cA (infos O pi) λN=>decide (N=.set)).map λQ=>(0,dF (infos O pi) Q)else []:=by
 rw [<-Mm T a];obtain⟨e,d⟩:=T.info b;unfold wN;rw [<-c,d];rfl
def DR{c:Z}{H:G}(S:cj K d c H p pi){fm:Fm}(e:∀A∈aH pi,aA A=fm->∃D N,kids A=D::N){u:Nat}(f:u∈cA (infos O pi) λg=>decide (g=fm)):∃A D N,A∈aH pi/\af A=u/\kids A=D::N/\dF (infos O pi) u=af D:=by obtain⟨A,Q,T,h⟩:=(sV S.ok _).mp f;obtain⟨D,N,a⟩:=e A Q (eQ h);exact⟨A,D,N,Q,T,a,by rw [<-T];exact S.ok.part Q a⟩
def xY{x:Ex}{D:Fm}(G:aA x=D)(A:D=.call\/D=.fst\/D=.snd\/D=.get\/D=.set):∃M N,kids x=M::N:=by
 cases x with
 |num b n=>rcases A with rfl|rfl|rfl|rfl|rfl<;>cases G
 |var b y=>simp only [aA]at G;split at G<;>(subst G;rcases A with A|A|A|A|A<;>cases A)
 |fn b y d=>exact⟨_,_,S⟩
 |app b a d=>exact⟨_,_,S⟩
 |letE b y a d=>exact⟨_,_,S⟩
 |ifz b a d c=>exact⟨_,_,S⟩
 |pair b a d=>exact⟨_,_,S⟩
 |fst b a=>exact⟨_,_,S⟩
 |snd b a=>exact⟨_,_,S⟩
 |new b a=>exact⟨_,_,S⟩
 |get b a=>exact⟨_,_,S⟩
 |set b a d=>exact⟨_,_,S⟩
 |add b a d=>exact⟨_,_,S⟩
def DS(K:ah)(T a:Z):Sp:=λb H c _=>∃Q D S G,b=[.ref Q,.ref S]/\cj K T a H Q D/\G∈aq D/\av K H S (b2 (A G))/\∀M N,Ext H N->H M=O->eN K N M ((ff D G).map A)->c (.ref M) N
variable{VD:dz}
def Ov(c8:a7 K "places_that_steer" "places_that_steer" DQ d o0)(F:eE K p L)(dp:z "NODE_PLACE"=Y (.int 0 wP))(ds:z "NAME_PLACE"=Y (.int 1 TW))(dx:z "INSIDE_PLACE"=Y (.int 4 Vc))(dK:z "CALL"=Y (.str "a call" VD))(dL:cC l m K z B aD 2 p "calls_within" ["self"] (xu K p L)) (ce:cC l m K z B aD 1 p "first_part_of" ["self","label"] (tm K p L)) (dT:bx l m K z B aD 1 "labels_of" ["nodes","forms"] (q1 K L)):aS l m K z B aD 3 d o0 ["program","place"] (DS K p L):=by
 refine c8.go ["program","place","kind","form","call","put"] λg3 hd he e H hf hi hm c2 k R _ sz=> ?_;obtain⟨g,b,W,h,rfl,C,c3,ch,c⟩:=k;have X:=C.ok
 have bl:=c2.mo 1;refine⟨_,ar (bo 2 R (cc kv (T 1) cK (λ_ _=>S))) (ar (bo 3 R (fX (cc di (aG 0) (cc kv (T 1) cK (λ_ _=>S)) (λ_ _=>S)) S)) (ar (bH (PW.pt (uW (bQ cU (T 2) (b8 dp) (bU _)) (uU (bQ vm (T 3) (b6 (D (hn dK) (D dP (D dP (D dP aC))))) S)))) (ax (aQ (dg (D (eK (E:=E0) (T 0) ce bl cy (D (cc kv (T 1) cK (λ_ _=>S)) aC)) aC)))) bP) (ar (bH (PW.pt (uW (bQ cU (T 2) (b8 ds) (bU _)) (uU (bQ cU (T 3) dP (bU _))))) (ax (aQ (f3 (own:=[("call",4)]) S R (dy (dR (E:=E0) (T 0) dL c2 cy)) (e3 S) (λe H p q an=>bW 4 R) (λe H p q an=>hC) (λe H p q an=>eK (E:=E0) (T 0) ce bl cy (aK 4))))) bP) (ar (bH (bQ cU (T 2) (b8 dx) (bU _)) (ax (aQ (f3 (own:=[("put",5)]) S R (dy (bG dT bl (D (aG 0) (D (b6 (D dP aC)) aC)))) (e3 S) (λe H p q an=>bW 5 R) (λe H p q an=>hC) (λe H p q an=>eK (E:=E0) (T 0) ce bl cy (aK 5))))) bP) (ax (aQ (dg aC))))))), ?_⟩;obtain⟨Q,bm,bn,_⟩:=o4 X c3;obtain⟨dX,d0,d1,hz,em,c4,eq,es,ev,h0,c5,ex⟩:=C.node bm;obtain⟨fa,fd,fl,fn⟩:=ex.aJ;rw [Ou X c3 bm bn]at c;rw [bn]at c5;obtain⟨bs,h1,h2,id,ii,im,bt,_⟩:=C.ex;have fr:∀{c6:G},Ext H c6->av K c6 W (b2 (A h)):=λQ=>Q.aP ch
 refine⟨_,S,W,_,_,_,S,S,ch,S, ?_⟩;refine⟨_,S,g,p,dX,d0,_,S,eq,F.p.c,F.p.nodes,es,_,S,W,_,_,_,S,S,ch,S,d1,_,_,_,S,S,au.of ev,e2 (by rw [bh,c5];rfl),em,L,fa,fd,_,S,fl,F.n.cl,F.n.aJ,fn, ?_⟩;have fs:decide (V.int (((A h).1:Nat):Int)=V.int 0)=decide ((A h).1=0):=pf _ 0
 have ab:decide (V.int (((A h).1:Nat):Int)=V.int 1)=decide ((A h).1=1):=pf _ 1;have ci:decide (V.int (((A h).1:Nat):Int)=V.int 4)=decide ((A h).1=4):=pf _ 4
 refine⟨_,S,S,_,S, ?_⟩;rw [fs];by_cases bv:(A h).1=0
 .rw [ck bv];refine cf ⟨_,S,(by show 4<=aR;decide),λap cl=>⟨ap,_,S,.inr (av.of M),S,S,_,S, ?_⟩⟩;have fT:iA (.str (cD (aA Q))) [.str "a call",.str "fst",.str "snd",.str "get"]=decide (aA Q∈[Fm.call,.fst,.snd,.get]):=s8 (aA Q) [.call,.fst,.snd,.get]
  have f0:iA (.str (cD (cZ c4 Q).aJ)) [.str "a call",.str "fst",.str "snd",.str "get"]=decide (aA Q∈[Fm.call,.fst,.snd,.get]):=fT;rw [N d5,f0];have P:Ext H (upd H ap (.tup [.str "a call",.str "fst",.str "snd",.str "get"])):=Ext.one cl
  by_cases n:aA Q∈[Fm.call,.fst,.snd,.get]
  .rw [ck n];have ca:aA Q=.call\/aA Q=.fst\/aA Q=.snd\/aA Q=.get:=by simpa using n
   rw [ak ⟨bv,ca⟩]at c;obtain⟨ad,f1,al⟩:=xY (x:=Q) S (by rcases ca with k|k|k|k<;>simp [k]);have as:dF (infos O b) (A h).2=af ad:=by rw [<-bn];exact X.part bm al
   rw [as]at c;refine cf ⟨_,S,g,bs,_,S,P _ _ bt,S,_,S,W,_,_,_,S,S,fr P,S,g,b,Q,ad,f1,by rw [bn];rfl,C.ext P,bm,al,λr f U c7 a0=>⟨eM,λs i=> ?_⟩⟩;exact c s _ ((P.trans U).new i) ((P.trans U).none i) ⟨[r],M,.cons ((Ext.one i).aP a0) .nil⟩
  .rw [bT n];have ca:¬((A h).1=0/\(aA Q=.call\/aA Q=.fst\/aA Q=.snd\/aA Q=.get)):=λj=>n (by simpa using j.2)
   rw [N ca,N (by omega),N (by omega)]at c;refine b1 ⟨_,S,S,_,S, ?_⟩;rw [ab,bT (by omega)];refine b1 (b1 ⟨_,S,S,_,S, ?_⟩);rw [ci,bT (by omega)];exact b1 ⟨cP _,λs i=>c s _ (P.new i) (P.none i) ⟨[],M,.nil⟩⟩
 .rw [bT bv];rw [N λj=>bv j.1]at c;refine b1 (b1 ⟨_,S,S,_,S, ?_⟩);rw [ab];by_cases w:(A h).1=1
  .rw [ck w];refine cf ⟨_,S,S,_,S, ?_⟩;have f2:decide (V.str (cD (cZ c4 Q).aJ)=V.str (dO "fun"))=decide (aA Q=.fn):=qW (aA Q) .fn
   rw [f2];by_cases n:aA Q=.fn
   .rw [ck n];rw [ak ⟨w,n⟩]at c;refine cf ⟨_,S,g,bs,_,S,bt,S,g,b,S,C,λcn co t f4 am=> ?_⟩;have f8:(cA (infos O b) λd=>decide (d=.call)).length<=30:=by
     have:=mZ (infos O b) λd=>decide (d=.call);rw [e7]at this;exact cq this X.bF
    refine⟨cn,S,⟨_,au.of am⟩,λo v=> ?_⟩;refine hD (xs:=(cA (infos O b) λd=>decide (d=.call)).map λQ=>V.int (Q:Nat)) (λc1 f=>eN K f o (((cA (infos O b) λd=>decide (d=.call)).take c1).map λcr=>(0,dF (infos O b) cr))/\Ext co f) ?_ ?_ ?_ ?_
    .exact⟨⟨[],M,.nil⟩,Ext.one v⟩
    .rintro c1 f _ ⟨_,U⟩;exact au.of (U _ _ am)
    .rintro c1 y f a1 ⟨⟨a2,w,a3⟩,U⟩;rw [bh]at a1;obtain⟨u,a4,rfl⟩:=cm.mp a1;obtain⟨cs,ad,ct,c0,ab,al,as⟩:=DR (fm:=.call) C (λQ _ k=>xY k (by simp)) (cH a4);have a5:=t.trans U
     refine⟨S, ?_⟩;unfold hl;dsimp only [];rw [ak S];refine⟨_,S,g,bs,_,S,a5 _ _ bt,S,_,S,g,b,cs,ad,ct,by rw [ab];rfl,C.ext a5,c0,al,λr bd a c7 a0=> ?_⟩;have be:=a _ _ w
     have bi:cX (bd o)\/bd o=O:=.inl (by rw [be];exact trivial);have q:a2.length<=30:=by rw [bL a3,ag,dW];omega
     refine⟨_,be,by rw [ag];omega,⟨a2++[r],by rw [M,aW];rfl, ?_⟩,(U.trans a).upd v⟩;rw [dm,a4,aW];refine fS (Paired.cb (fQ.ext a a3) λW g j=>bC bi j) ?_;show av K _ r (b2 (0,dF (infos O b) u))
     rw [as];exact bC bi a0
    .rintro f ⟨bk,U⟩;rw [ag,dB]at bk;exact c o f (t.trans U) (t.none v) bk
   .rw [bT n];rw [N λj=>n j.2,N (by omega)]at c;refine b1 ⟨_,S,S,_,S, ?_⟩;rw [ci,bT (by omega)];exact b1 ⟨cP _,λs i=>c s _ (Ext.one i) i ⟨[],M,.nil⟩⟩
  .rw [bT w];rw [N λj=>w j.1]at c;refine b1 (b1 ⟨_,S,S,_,S, ?_⟩);rw [ci];by_cases cd:(A h).1=4
   .rw [ck cd];rw [ak cd]at c;obtain⟨ga,⟨ge,gl,go,gt⟩,g1⟩:=C.nodes;refine cf ⟨_,S,g,p,ge,gl,_,S,go,F.p.c,F.p.nodes,gt,eM,λap cl=> ?_⟩;have P:Ext H (upd H ap (.tup [.str "set"])):=Ext.one cl
    refine⟨ga,infos O b,ap,[.set],S,g1.ext P,by rw [e7];exact X.bF,av.of M,λcn co g2 f4 am=> ?_⟩;rw [ti]at am;have t:=P.trans g2
    have f8:(cA (infos O b) λd=>decide (d=.set)).length<=30:=by have:=mZ (infos O b) λd=>decide (d=.set);rw [e7]at this;exact cq this X.bF
    refine⟨cn,S,⟨_,au.of am⟩,λo v=> ?_⟩;refine hD (xs:=(cA (infos O b) λd=>decide (d=.set)).map λQ=>V.int (Q:Nat)) (λc1 f=>eN K f o (((cA (infos O b) λd=>decide (d=.set)).take c1).map λcr=>(0,dF (infos O b) cr))/\Ext co f) ?_ ?_ ?_ ?_
    .exact⟨⟨[],M,.nil⟩,Ext.one v⟩
    .rintro c1 f _ ⟨_,U⟩;exact au.of (U _ _ am)
    .rintro c1 y f a1 ⟨⟨a2,w,a3⟩,U⟩;rw [bh]at a1;obtain⟨u,a4,rfl⟩:=cm.mp a1;obtain⟨cs,ad,ct,c0,ab,al,as⟩:=DR (fm:=.set) C (λQ _ k=>xY k (by simp)) (cH a4);have a5:=t.trans U
     refine⟨S, ?_⟩;unfold hl;dsimp only [];rw [ak S];refine⟨_,S,g,bs,_,S,a5 _ _ bt,S,_,S,g,b,cs,ad,ct,by rw [ab];rfl,C.ext a5,c0,al,λr bd a c7 a0=> ?_⟩;have be:=a _ _ w
     have bi:cX (bd o)\/bd o=O:=.inl (by rw [be];exact trivial);have q:a2.length<=30:=by rw [bL a3,ag,dW];omega
     refine⟨_,be,by rw [ag];omega,⟨a2++[r],by rw [M,aW];rfl, ?_⟩,(U.trans a).upd v⟩;rw [dm,a4,aW];refine fS (Paired.cb (fQ.ext a a3) λW g j=>bC bi j) ?_;show av K _ r (b2 (0,dF (infos O b) u))
     rw [as];exact bC bi a0
    .rintro f ⟨bk,U⟩;rw [ag,dB]at bk;exact c o f (t.trans U) (t.none v) bk
   .rw [bT cd];rw [N cd]at c;exact b1 ⟨cP _,λs i=>c s _ (Ext.one i) i ⟨[],M,.nil⟩⟩
abbrev DT:a6:=inClass (top 103) 0
abbrev DU:a6:=inClass (top 103) 1
abbrev DV:a6:=inClass (top 103) 2
abbrev DW:a6:=inClass (top 103) 3
abbrev DX:a6:=top 106
structure q4(K:ah)(A:Z):Prop where
 cl:fi K A
 tJ:dE K A "numbers"
 nf:dE K A "reached"
def ng(A:Z)(D:Int):List (aa×V):=[("numbers",.ref A),("reached",.int D)]
def gB(K:ah)(N:Z)(H:G)(Q D:Z)(A:List Int)(M:Nat):Prop:=(∃S,H Q=Y (.ins N S (ng D M)))/\au K H D (A.map V.int)/\M<=A.length/\A.length<=100000
def DY(K:ah)(M:Z):Sp:=λN H Q _=>∃A S D G,N=[.ref A]/\gB K M H A S D G/\Q (.bl (decide (G<D.length))) H
def Ow(e:a7 K "has_more" "Row.has_more" DU p o0)(G:q4 K d)(f:z "len"=O):aS l m K z B aD 1 p o0 ["self"] (DY K d):=by
 refine e.go ["self"] λj k M N H n o U q g _ _ _=> ?_;obtain⟨Q,h,T,a,rfl,⟨⟨b,c⟩,i,r,s⟩,A⟩:=g;refine⟨_,ax (aQ (n8 rX (aG 0) (cR en (by rfl) f dD (D (aG 0) aC)) (bU _))), ?_⟩;refine⟨_,S,Q,d,b,_,_,S,c,G.cl,G.nf,S,_,S,Q,d,b,_,_,S,c,G.cl,G.tJ,S,h,_,S,.inl i,_,_,S,S, ?_⟩;rw [ag];have:decide (((a:Nat):Int)<((T.length:Nat):Int))=decide (a<T.length):=by rw [hc];omega
 rw [<-this]at A;exact A
def xZ(K:ah)(N:Z):Sp:=λb H c _=>∃A Q G M S,b=[.ref A]/\gB K N H A Q G M/\G[M]?=Y S/\∀D,gB K N D A Q G (M+1)->bK A H D->(∀T a,av K H T a->av K D T a)->c (.int S) D
def DZ{H:G}{o:HO}(S:H d=Y (.ins L pr FM))(A:au K H p ul):au K (upd H d o) p ul:=by
 rcases A with(A|⟨u,A⟩)|A
 .exact .inl (.inl (ju S A))
 .exact .inl (.inr ⟨u,by rw [Q (cW A S (by intro c;cases c))];exact A⟩)
 .exact .inr A
def Ox{c:Z}(g:a7 K "take_number" "Row.take_number" DV c o0)(A:q4 K d):aS l m K z B aD 1 c o0 ["self"] (xZ K d):=by
 refine g.go ["self","number"] λs t u v H x y U G a h _ _=> ?_;obtain⟨b,i,j,k,C,rfl,⟨⟨N,D⟩,e,E,P⟩,f,w⟩:=a;refine⟨_,ar (bo 1 h (cc di (aG 0) (aG 0) (λ_ _=>S))) (ar (vf (T 0) cK vg) (ax (aQ (T 1)))), ?_⟩;have n:k<j.length:=(cM.mp f).1
 refine⟨_,S,b,d,N,_,_,S,D,A.cl,A.tJ,S,_,S,b,d,N,_,_,S,D,A.cl,A.nf,S,i,_,_,_,S,S,e,e2 (by rw [bh,f];rfl), ?_⟩;refine⟨_,S,b,d,N,_,_,S,D,A.cl,A.nf,S,_,_,S,S,N,_,D,(by show 2<1000;decide),_,S, ?_⟩;refine w _ ⟨⟨N, ?_⟩,DZ D e,n,P⟩ (λp o q r=>by rw [Q r];exact q) λp F a=>bC (.inl (by rw [D];exact trivial)) a;rw [M];rfl
def ph(K:ah):Sp:=λN H Q _=>∃M A,N=[.ref M]/\LstAt K H M A/\A.length<=5000/\∀D G,Ext H G->H D=O->G D=Y (.lst ((ct A).map V.int))->Q (.ref D) G
def Oy(y:a7 K "counted_twos" "counted_twos" DX d o0)(w:z "len"=O):aS l m K z B aD 1 d o0 ["twos"] (ph K):=by
 refine y.go ["twos","told","two"] λX ab ad al H am an ap as p r _ sz=> ?_;obtain⟨q,N,rfl,⟨g,U,s⟩,a0,C⟩:=p;refine⟨_,ar (bo 1 r (dg (D (cR en (by rfl) w dD (aK 0)) aC))) (ar (d2 dY S (dy (T 0)) (bW 2 r) (ar (cL (fj fB gh gH fY (T 1) (D (cc kv (T 2) cK (λ_ _=>S)) aC))) (ax (cL (fj fB gh gH fY (T 1) (D (cc kv (T 2) cK (λ_ _=>S)) aC)))))) (ax (aQ (T 1)))), ?_⟩;refine⟨_,S,q,_,S,.inl U,eM,λQ h=> ?_⟩;have a:Ext H (upd H Q (.lst [.int ((g.map V.ref).length:Int)])):=Ext.one h
 refine⟨_,S,q,S,⟨_,a.ee U⟩, ?_⟩;have t:g.length=N.length:=bL s
 let e:Nat->List Int:=λA=>(N.length:Int)::(N.take A).flatMap λG=>[(G.1:Int),(G.2:Int)]
 have E:∀A,(e A).length<=2*A+1:=λA=>by
  have:∀i:List Pr,(i.flatMap λG=>[(G.1:Int),(G.2:Int)]).length=2*i.length:=by
   intro i;induction i with
   |nil=>rfl
   |cons q P L=>rw [cp,bB,L,dG (a:=q)];show 2+_=_;omega
  show((N.length:Int)::(N.take A).flatMap λG=>[(G.1:Int),(G.2:Int)]).length<=_;rw [dG,this,dW];omega
 refine fC (xs:=g.map V.ref) (λA j b=>∃n,j=[Y (.ref q),Y (.ref Q),n]/\b Q=Y (.lst ((e A).map V.int))/\Ext H b) ?_ ?_ ?_ ?_
 .exact⟨O,S,by rw [M,ag,t];rfl,a⟩
 .rintro A j b _ ⟨_,_,_,u⟩;exact u.ee U
 .rintro A u j b f ⟨n,rfl,c,a⟩;rw [bh]at f;cases o:g[A]? with
  |none=>rw [o]at f;cases f
  |some P=>
   rw [o]at f;obtain rfl:=a8 f;obtain⟨k,v,x⟩:=ez s o;have a1:A<N.length:=(cM.mp v).1
   have a2:=E A;have R:(e (A+1)).map V.int=(e A).map V.int++[V.int (k.1:Nat)]++[V.int (k.2:Nat)]:=by show((N.length:Int)::(N.take (A+1)).flatMap λG=>[(G.1:Int),(G.2:Int)]).map V.int=((N.length:Int)::(N.take A).flatMap λG=>[(G.1:Int),(G.2:Int)]).map V.int++[V.int (k.1:Nat)]++[V.int (k.2:Nat)];rw [dm,v,kZ,<-dk,aW,cv];rfl
   have W:cX (b Q)\/b Q=O:=.inl (by rw [c];exact trivial);refine⟨_,S,.inl ⟨S,_,au.of c⟩,_,S,P,_,_,_,S,S,a.aP x,S,Q,_,_,S,S,c,by rw [ag];omega, ?_⟩;refine⟨_,S,.inl ⟨S,_,au.of M⟩,_,S,P,_,_,_,S,S,bC W (a.aP x),S,Q,_,_,S,S,M,by rw [bB,ag];show(e A).length+1<aR;omega, ?_⟩;refine⟨_,S, ?_,(a.upd h).upd h⟩;rw [M,R]
 .rintro j b ⟨n,rfl,c,a⟩;rw [ag,t]at c;refine⟨_,S,C Q b a h ?_⟩;rw [c];show Y (HO.lst (((N.length:Int)::(N.take N.length).flatMap λG=>[(G.1:Int),(G.2:Int)]).map V.int))=_
  rw [dB];rfl
def Oz(D:List V)(A G:Nat):gK D (Y ((A:Nat):Int)) (Y (((A+G:Nat)):Int))=(D.drop A).take G:=by
 unfold gK;rw [HT.r2,HT.r2];by_cases c:A<=D.length
 .rw [i1 c];by_cases M:A+G<=D.length
  .rw [i1 M,Nat.add_sub_cancel_left]
  .rw [nU (by omega),j8 (by rw [l8];omega),j8 (by rw [l8];omega)]
 .rw [nU (by omega),nU (by omega),kY,hx,zp (by omega),Su]
def D0(K:ah)(S:Z):Sp:=λc H d _=>∃A T N Q,∃G:ai,∃e,c=[.ref A]/\gB K S H A T N Q/\N.drop Q=(G.length:Int)::(gw G++e)/\∀M D,gB K S D A T N (Q+1+G.length)->bK A H D->(∀a b,av K H a b->av K D a b)->H M=O->M≠A->D M=Y (.lst (cF G))->d (.ref M) D
def OA(y:a7 K "take_text" "Row.take_text" DW p o0)(N:q4 K d)(U:cC l m K z B aD 1 d "take_number" ["self"] (xZ K d)):aS l m K z B aD 2 p o0 ["self"] (D0 K d):=by
 refine y.go ["self","length","text"] λa2 a3 a4 a5 H bd be bi G i n _ _=> ?_;obtain⟨c,w,a,D,A,q,rfl,r,s,C⟩:=i;refine⟨_,ar (bo 1 n (dR (E:=E0) (T 0) U G cy)) (ar (bo 2 n (qi qk (aG 0) (oe (aG 0)) (oe (hh rW (aG 0) (T 1))))) (ar (vf (T 0) (T 1) vg) (ax (aQ (T 2))))), ?_⟩;obtain⟨⟨F,L⟩,bk,bl,R⟩:=id r;have W:a[D]?=Y (A.length:Int):=by
  have:(a.drop D)[0]?=Y (A.length:Int):=by rw [s];rfl
  rwa [GQ,ke]at this
 have t:a.drop (D+1)=gw A++q:=by
  have:(a.drop D).drop 1=gw A++q:=by rw [s];rfl
  rwa [GR]at this
 refine⟨_,S,c,F,_,S,L,S,c,w,a,D,(A.length:Int),S,r,W,λg X u ab=> ?_⟩;obtain⟨⟨e,b⟩,v,bm,bn⟩:=id X;refine⟨_,S,c,d,e,_,_,S,b,N.cl,N.tJ,S, ?_⟩;refine⟨_,S,c,d,e,_,_,S,b,N.cl,N.nf,S,_,S,_,S,c,d,e,_,_,S,b,N.cl,N.nf,S,_,S,_,_,S,S,_,S,w,_,S,v,λf j=> ?_⟩;have ad:gK (a.map V.int) (Y ((D+1:Nat):Int)) (Y (((D+1:Nat):Int)+(A.length:Int)))=cF A:=by
  have al:((D+1:Nat):Int)+(A.length:Int)=((D+1+A.length:Nat):Int):=by omega
  rw [al,Oz,<-List.map_drop,t,aW];have am:(gw A).map V.int=cF A:=by unfold gw cF;rw [eh];rfl
  rw [am,Sv (by unfold cF;rw [ag];exact aX _),j8 (by unfold cF;rw [ag];exact aX _)]
 have k:f≠c:=(cB b j).symm;have P:Ext g (upd g f (.lst (cF A))):=Ext.one j
 have an:upd g f (.lst (gK (a.map V.int) (Y ((D+1:Nat):Int)) (Y (((D+1:Nat):Int)+(A.length:Int)))))=upd g f (.lst (cF A)):=by rw [ad]
 rw [an];have ap:D+1+A.length<=a.length:=by
  have:=bN cN t;rw [l8,bB]at this;have bs:(gw A).length=A.length:=by unfold gw;rw [ag]
  omega
 refine⟨_,S,c,d,e,_,_,S,P _ _ b,N.cl,N.nf,S,_,S,_,_,S,S,e,_,P _ _ b,(by show 2<1000;decide),_,S, ?_⟩;refine C f _ ⟨⟨e, ?_⟩,DZ (P _ _ b) (P.ee v),ap,R⟩ (λh o as x=>by rw [Q x];exact P h o (u h o as x)) (λh a0 i=>bC (.inl (by rw [P _ _ b];exact trivial)) (P.aP (ab h a0 i))) (u.none j k) k ((Q k).trans M);rw [M];have a1:(((D+1+A.length:Nat)):Int)=((D+1:Nat):Int)+(A.length:Int):=by omega
 rw [a1];rfl
abbrev D1:a6:=top 105
def D2(D:Z):Sp:=λN H Q _=>∃A G M,N=[.ref A,.ref M]/\H A=Y (.ins D G [])/\Q .br (upd H A (.ins D G (ng M 0)))
def OB(b:a7 K "__init__" "Row.__init__" DT p o0)(D:q4 K d):aS l m K z B aD 1 p o0 ["self","numbers"] (D2 d):=by refine b.go ["self","numbers"] λf g h i H j k G N c _ _ _=> ?_;obtain⟨Q,a,n,rfl,A,e⟩:=c;refine⟨_,ar (dQ (T 0) (T 1) S) (ax (dQ (T 0) cK S)), ?_⟩;refine⟨_,S,_,S,Q,d,a,_,S,A,D.cl,D.tJ,by decide, ?_⟩;refine⟨_,S,Q,d,a,_,S,M,D.cl,D.nf,(by show 1<1000;decide), ?_⟩;rw [gW];exact e
def x6(D:Z):Sp:=λG H M N=>∃A:Int,G=[.int A]/\if 0<=A/\A<4 then M .br H else N (.ref D) O H
def OC(b:a7 K "check_rung" "check_rung" D1 L o0)(D:z "NoRung"=Y (.ref p))(e:gS K p f5 "Exception.__new__"=I)(f:z "RUNGS"=Y (.ref d))(g:∀H,av K H d [.int 0,.int 1,.int 2,.int 3]):aS l m K z B (bA l m) 1 L o0 ["rung"] (x6 p):=by
 refine b.eu ["rung"] λk M U n H o Q q h i _ _ _=> ?_;obtain⟨A,rfl,G⟩:=i;refine⟨_,ax (bH (bQ z5 (T 0) (el (v:=.ref d) S f S) S) (ax (jN kd (by decide) e S D h.hd)) bP), ?_⟩;refine⟨_,S,d,_,S,.inr (g H),S,S,_,S, ?_⟩;have j:iA (.int A) [.int 0,.int 1,.int 2,.int 3]=decide (0<=A/\A<4):=by show((0==A)||((1==A)||((2==A)||((3==A)||ao))))=_;rw [iR];simp only [yE,iS,ka,nB,fy];omega
 rw [ak S,j];by_cases c:0<=A/\A<4
 .rw [ak c]at G;rw [ck c];exact b1 G
 .rw [N c]at G;rw [bT c];exact cf G
abbrev D3:a6:=top 79
abbrev x7:a6:=top 80
def pj(H:G)(M:Z)(N:Nat->Option Nat):Prop:=∃A,H M=Y (.dK A)/\∀D:Nat,cS A (.inl (D:Int))=(N D).map λQ=>V.int (Q:Nat)
def D4(K:ah)(H:G)(D:VK):Option Pr->Prop
 |none=>D .br H
 |some p=>∀M A,Ext H A->av K A M (b2 p)->D (.ref M) A
def x8(K:ah):Sp:=λN H Q _=>∃A D G M,N=[.ref A,.ref G]/\av K H A (b2 D)/\pj H G M/\D4 K H Q (fu M D)
def OD(j:a7 K "moved_two" "moved_two" D3 d o0):aS l m K z B aD 1 d o0 ["two","moved"] (x8 K):=by
 refine j.go ["two","moved"] λp q r s H t u v x e _ f _=> ?_;obtain⟨N,A,g,Q,rfl,a,⟨y,h,i⟩,G⟩:=e;refine⟨_,ar (bH (i5 (Jo f (cc kv (T 0) cK (λ_ _=>S)) (T 1)) S) (ax (aQ uT)) bP) (ax (aQ (b6 (D (cc kv (T 0) cK (λ_ _=>S)) (D (Ai f (T 1) (cc kv (T 0) cK (λ_ _=>S)) (λ_ _=>S)) aC))))), ?_⟩;refine⟨_,S,N,_,_,_,S,S,a,S,_,S,g,_,S,iC.k (k:=.inl (A.2:Int)) h,_,S, ?_⟩;rw [i A.2,kT];cases b:Q A.2 with
 |none=>
  have c:fu Q A=O:=by unfold fu;rw [b];rfl
  rw [c]at G;exact cf G
 |some n=>
  have c:fu Q A=Y (A.1,n):=by unfold fu;rw [b];rfl
  rw [c]at G;refine b1 ⟨_,S,N,_,_,_,S,S,a,S,_,S,_,S,N,_,_,_,S,S,a,S,g,V.int (n:Nat),S, ?_,cE,λP o=>G P _ (Ext.one o) (av.of M)⟩;have:=iC.k (k:=.inl (A.2:Int)) h
  rw [i A.2,b]at this;exact this
def D5(K:ah):Sp:=λN H Q _=>∃A D G M,N=[.ref A,.ref G]/\av K H A (b2 D)/\pj H G M/\D4 K H Q (f7 M D)
def OE(h:a7 K "moved_sort" "moved_sort" x7 d o0)(i:z "NUMBERS"=Y (.ref p))(j:∀H,av K H p (b2 (0,0)))(k:bx l m K z B aD 1 "moved_two" ["two","moved"] (x8 K)):aS l m K z B aD 2 d o0 ["sort","moved"] (D5 K):=by
 refine h.go ["sort","moved"] λa U s n H t u x f o _ _ _=> ?_;obtain⟨g,A,e,G,rfl,b,q,M⟩:=o;have r:(U.deeper (eI "moved_sort" (ei x7) n.heap.objs.size d a)).units+64<cG:=by have:=f.un;omega
 refine⟨_,ar (bH (bQ (vu r) (T 0) (el (v:=.ref p) S i S) (bU _)) (ax (aQ (T 0))) bP) (ax (aQ (bG k f (D (T 0) (aK 1))))), ?_⟩;refine⟨_,S, ?_⟩;unfold tC;dsimp only;refine tG b (j H) ⟨_,S, ?_⟩;by_cases c:A=(0,0)
 .rw [ck c];have Q:f7 G A=Y A:=ak c
  rw [Q]at M;exact cf ⟨_,S,M g H (Ext.refl H) b⟩
 .rw [bT c];have Q:f7 G A=fu G A:=N c
  rw [Q]at M;exact b1 ⟨_,S,_,S,g,A,e,G,S,b,q,M⟩
def D6[DecidableEq s2](u:List s2)(D:s2):∃G,dU u D=u++G:=by
 unfold dU;split
 all_goals simp_all
theorem D7[DecidableEq s2]:∀(G u:List s2),∃D,cT u G=u++D
 |[],u=>⟨[],(bZ u).symm⟩
 |x::a,u=>by
  obtain⟨D,M⟩:=D6 u x;let⟨y,N⟩:=D7 a (dU u x)
  grind [cT]
theorem OF(D:List aB)(G:aB):dU (D.map A) (A G)=(dU D G).map A:=by grind [AQ,AR,ed]
def eF(D:List aB)(G:Tb):Nat:=(D.map λM=>((ba G (A M)).getD []).length).sum
structure gc(A:ae)(D:aB)(G:List aB)(tab:Tb):Prop where
 nd:G.Nodup
 h0:D∈G
 lp:∀p∈G,hJ A D p
 tt:bI A tab (bR tab)
 lt:∀p a,bR tab p a->ji A D p a
def iM(N:ae)(Q:List aB)(S T:Tb):Prop:=∀D∈aq N,∃G M,ba S (A D)=Y G/\ba T (A D)=Y (G++M)/\(D∉Q->M=[])
structure D8(G:ae)(A:List aB)(tab:Tb)(D:List aB):Prop where
 pre:∃N,D=A++N
 ask:∀Q∈A,∀p∈ff G Q,p∈D
 way:∀M d,d3 G (bR tab) M d->d∈A->M∈D
structure D9(A:ae)(D:List aB)(tab G:Tb):Prop where
 pre:iM A D tab G
 iH:∀p a,fN A p a->p∈D->bR G p a
 way:∀M d a,d3 A (bR tab) M d->d∈D->bR tab M a->bR G d a
def gc.hN(D:gc j v6 At pc)(G:v6∈aq j)(M:or∈At):or∈aq j:=D.lp or M _ (h6 j) (wm v6 G)
theorem len_sub[DecidableEq s2]:∀{D m:List s2},D.Nodup->(∀A∈D,A∈m)->D.length<=m.length
 |[],_,_,_=>cP _
 |a::d,m,b,c=>by
  rw [eB]at b;have Q:=len_sub (m:=m.erase a) b.2 λA M=>(List.mem_erase_of_ne (λN:A=a=>b.1 (N▸M))).mpr (c A (bM _ M))
  grind
theorem gc.bound(N:bD j)(Q:or∈aq j)(D:gc j or At pc):At.length<=90/\eF At pc<=2790:=by
 have b:=places_len j;have c:=N.bF
 have d:=len_sub D.nd λG M=>D.hN Q M;have U:At.length<=90:=by omega
 refine⟨U, ?_⟩;have f:eF At pc<=(At.map λG=>((ba pc (A G)).getD []).length).length*31:=wG λg a=>by
  obtain⟨G,M,rfl⟩:=bE.mp a;let⟨h,T,_⟩:=D.tt.look (D.hN Q M)
  rw [T];exact(D.tt.len N T).1
 grind
theorem iM.refl(A:bI j pc (bR pc)):iM j At pc pc:=λN D=>let⟨G,M,_⟩:=A.look D;⟨G,[],M,by grind,λ_=>S⟩
theorem iM.step(b:iM j At Is pc)(i:or∈At)(D:or∈aq j)(M:ba pc (A or)=Y re)(T:List Pr):iM j At Is (dM pc (A or) (cT re T)):=λU d=>by
 let⟨a,G,f,g,h⟩:=b U d;rw [o3 _ (kF M)];by_cases c:U=or
 .subst c;rw [g]at M;obtain rfl:=a8 M;let⟨y,k⟩:=D7 T (a++G)
  grind
 .exact⟨a,G,f,by rwa [N λG=>c (ed G)],h⟩
theorem iM.le(Q:iM j At pc Is):∀{M:List aB},(∀D∈M,D∈aq j)->eF M pc<=eF M Is/\(eF M Is<=eF M pc->∀D∈M,ba Is (A D)=ba pc (A D))
 |[],_=>⟨aX _,λ_ D G=>nomatch G⟩
 |q::M,G=>by
  obtain⟨T,U⟩:=Q.le (M:=M) λD N=>G D (bM _ N);let⟨d,a,b,c,f⟩:=Q q (G q bY)
  unfold eF at T U⊢;simp only [aV,fz,b,c,nQ,bB];refine⟨by omega,λg D N=> ?_⟩;rcases bb.mp N with rfl|N
  .have:a=[]:=mc.mp (by omega);grind
  grind
theorem OG(A D:List aB)(tab:Tb):eF (A++D) tab=eF A tab+eF D tab:=by unfold eF;grind
variable{Vd:List aB}
theorem OH(m:bD j)(h:or∈aq j)(n:gc j or Vd pc)(G:gc j or At Is)(U:D8 j Vd pc At)(Q:D9 j At pc Is)(o:¬Vd.length+eF Vd pc<At.length+eF At Is):((aq j).filter λD=>decide (D∈At))=jD j or/\At.length=(jD j or).length/\∃i,ba Is (A or)=Y i/\(((bq j).map a9).filter λp=>decide (p∈i))=(kg j or).map a9:=by
 obtain⟨q,rfl⟩:=U.pre;let⟨w,x⟩:=Q.pre.le (M:=Vd) λD N=>n.hN h N
 rw [bB,OG]at o;have r:q=[]:=mc.mp (by omega)
 subst r;rw [bZ]at G Q U⊢;have y:∀D∈aq j,ba Is (A D)=ba pc (A D):=λD N=>by
  by_cases c:D∈Vd
  .grind
  .let⟨e,z,s,k,B⟩:=Q.pre D N;grind
 have a:∀D T,bR Is D T->bR pc D T:=λD T l=>by
  have N:=G.tt.lL l;let⟨e,s,k⟩:=l
  exact⟨e,by grind,k⟩
 exact Mn m G.tt G.nd h G.h0 G.lp G.lt (λD N t u=>U.ask D N t u) (λb d f g=>U.way b d (f.mono a) g) Q.iH λb d T f v g=>Q.way b d T (f.mono a) g (a _ _ v)
theorem Ea:∀D:ae,bp D=I->(bj D).length<=20*size D:=by
 have N:∀{M:ai},gE M=I->M.length<=4:=λA=>by unfold gE at A;simp [bz,ka]at A;exact A.2.1
 have Q:(ay "fun").length=3/\(ay "let").length=3/\(ay "if").length=2/\(ay "pair").length=4/\(ay "fst").length=3/\(ay "snd").length=3/\(ay "new").length=3/\(ay "get").length=3/\(ay "set").length=3/\(ay "add").length=3:=by decide
 have S:∀G:Nat,G<100->(d7 G).length<=20:=by decide
 let⟨T,U,b,c,d,e,f,g,h,i⟩:=Q;intro D;induction D with
 |num a G=>
  intro A;exact S G (by have:=eQ (show decide (G<=99)=I from A);omega)
 |var a M=>intro A;have:=N A;show M.length<=20*1;omega
 |_=>
  intro A;simp [bp,bz]at A;simp_all only [bj,Gj,uG,Gm,size,aH,dG,bB,jB,forall_const];grind
theorem OI(G:(aq j).Nodup)(M:(bq j).Nodup)(D:aB->cx->Bool):(eT j D).Nodup:=by unfold eT;grind
theorem Eb(M:bD j){N:ae}(e:N∈aH j){y:ae}(T:bD rc)(f:aT 0 rc=aT 0 (cQ (af N) y j))(g:v6∈aq j)(h:rC (e1 j rc (af N)) v6=Y or):or∈aq rc:=by
 have i:fu (eR (e1 j rc (af N))) (A v6)=Y (A or):=by rw [wO,h];rfl
 let⟨m,D,k⟩:=cm.mp i;let⟨n,a,b,o⟩:=(BZ M).mp (d8 (f:=A) g)
 have c:=Mq M e T f D (b▸M.lt a);rw [<-b,M.cY.get a]at c;let⟨l,d,p⟩:=cm.mp c
 have:A or∈(aq rc).map A:=(BZ T).mpr ⟨l,cH d, ?_, ?_⟩
 .grind [ed]
 .rw [<-k];exact T.cY.at d
 grind
theorem OJ(Q:bD j){G:ae}(e:G∈aH j){y:ae}(T:bD rc)(f:aT 0 rc=aT 0 (cQ (af G) y j))(a:bI j pc (gv j (gq j)))(u:bI rc Is (gv rc (gq rc))):hr (eR (e1 j rc (af G))) pc Is=(k4 (e1 j rc (af G)) (d6 j) (d6 rc)).kept/\ (ey pc:Int)-(hr (eR (e1 j rc (af G))) pc Is:Nat)=((k4 (e1 j rc (af G)) (d6 j) (d6 rc)).gone:Nat)/\ (ey Is:Int)-(hr (eR (e1 j rc (af G))) pc Is:Nat)=((k4 (e1 j rc (af G)) (d6 j) (d6 rc)).came:Nat):=by
 have i:=Mt Q T (s:=e1 j rc (af G)) (λA g k h=>Eb Q e T f g h) a u;have b:∀{U:ae},bD U->(d6 U).Nodup:=λ{U} d=>by rw [oD];exact OI d.cY.places (sQ d) _
 have c:=L9 (s:=e1 j rc (af G)) (λl _=>by omega) (b Q) (b T);have m:ey pc=(d6 j).length:=by rw [oD];exact wK Q a
 have n:ey Is=(d6 rc).length:=by rw [oD];exact wK T u
 have o:(k4 (e1 j rc (af G)) (d6 j) (d6 rc)).kept<=(d6 j).length:=by exact cq Sw (uc (ag _))
 have p:(k4 (e1 j rc (af G)) (d6 j) (d6 rc)).gone=(d6 j).length-(k4 (e1 j rc (af G)) (d6 j) (d6 rc)).kept:=rfl;grind
end Cf
namespace L3
def OK(D:Cx)(Q S:TE):TE:=λT H U=>∀A,H A=O->vG [(Q,S)] T (upd H A (dX D.prog D.w A [])) λa G=>∃N M v,a=[(.ref M,v)]/\G A=Y (dX D.prog D.w A [])/\av D.K G M (N.map kV)/\U (.ref A) (upd G A (dX D.prog D.w A [(N,M,v)]))
variable{h:Cx}{P sB:aZ}{sc:TE}{pv:b3}
def OL{c:TE}(g:h.A.units<cG)(T:PE h P sc)(i:PE h sB c):PE h (.Dict [Y P] [sB] pv) (OK h sc c):=by
 intro j D k H K G M;have l:=G.bg.fresh (aX D.heap.objs.size)
 have m:=G.laid (a:=D.heap.objs.size) (o:=dX h.prog h.w D.heap.objs.size []) (h':=D.heap.push {cls:=.type "dict",data:=.dict #[]}) (t':=D.toks) (λ_ _ M=>fe _ M) (aX _)
  (si ⟨cP _,iQ.mpr (eO (fI G.big)),gT,[],.nil,_,#[],0,gD _ S,⟨S,S,S⟩,S,S⟩)
 refine wpAny_Dict_any S rfl (by simp) (by show 1<=15;decide) (aN (Js T i Jr j _ k _ _ m (M _ l)) λL A ⟨R,V,N,n,p,d,v,q,e,r,s⟩=> ?_);subst q;cases n with
 | @cons _ y _ _ Q t=>
 cases t;obtain⟨u,W⟩:=y;obtain⟨w,x⟩:=Q;cases (show u=b5 d from w);obtain⟨X,z,ab,B,C⟩:=jO N e (λ_ Q=>nomatch Q);cases B;unfold storeAll;rw [FH];refine aI (aI (wpAny_dictSet_heap (hsz:=cP _) (knd:=ij (eC h.prog h.w)) g (lA N r) C λad E F=>bu ?_));dsimp only;rw [uj];refine bu ⟨.ref D.heap.objs.size,_,sk N e (sl:=[(p,d,v)]) (by show 1<=aR;decide) z (.cons ⟨S,S,x⟩ .nil) E F,S,s⟩
variable{s4:L2.St}{xL:Ends}{d:Z}{l:az}{Fa:TG}{Id:TS}
def x9{c:aw}{o:aL}{aU:bV}{H:G}(M:Nat->L2.St->G->Prop)(r:M 0 s4 H)(s:∀A s4 H,A<=aU.length->M A s4 H->H d=Y (.bO o (dX l c d aU)))(t:∀A U s4 H,aU[A]?=Y U->M A s4 H->Fa (.ref U.2.1) s4 H λD e=>Id {xL with nx:=M (A+1),ct:=M (A+1),bk:=xL.nx} D e) (u:∀s4 H,M aU.length s4 H->xL.nx s4 H):∃f:Nat->Nat->L2.St->G->Prop,(∃N,f 0 N s4 H)/\∀A N s4 H,f A N s4 H->((lB l c d o aU).stop A H/\xL.nx s4 H)\/((lB l c d o aU).go A H/\∃g:L2.St->G->Prop,(∀h Q,g h Q->∃n,n<N/\f (A+1) n h Q)/\∀i Q,(lB l c d o aU).hg A H i Q->Fa i s4 Q λD e=>Id {xL with nx:=g,ct:=g,bk:=xL.nx} D e):=by
 refine⟨λA N s4 H=>N=aU.length-A/\A<=aU.length/\M A s4 H,⟨aU.length,by simp,cP _,r⟩, ?_⟩;rintro A N s4 H ⟨rfl,v,U⟩;have p:=s A s4 H v U
 by_cases q:A<aU.length
 .refine .inr ⟨⟨p,q⟩,M (A+1),λh Q j=>⟨aU.length-(A+1),by omega,S,q,j⟩,λi Q y=> ?_⟩;obtain⟨k,j,w,rfl⟩:=y;subst k;exact t A j _ _ w U
 .have k:A=aU.length:=by omega
  subst k;exact .inl ⟨⟨p,aX _⟩,u s4 H U⟩
end L3
namespace Cf
abbrev Pl:=aB
def NT(o:HO):Prop:=∀A,o≠.tup A/\∀u,o≠.bO u (.tup A)
variable{d:Z}{pu:bV}{l:az}{m:aw}
def tK:NT (dX l m d pu):=λ_=>⟨(λA=>by cases A),λ_ A=>by cases A⟩
variable{Re:aL}
def tL:NT (.bO Re (dX l m d pu)):=λ_=>⟨(λA=>by cases A),λ_ A=>by cases A⟩
variable{p:Z}{FM:List (aa×V)}
def OM:NT (.ins d p FM):=λ_=>⟨(λA=>by cases A),λ_ A=>by cases A⟩
variable{ul:List V}{K:ah}{H:G}{o:HO}
def nh{c:Z}(G:∀u,H d=Y u->NT u)(A:av K H c ul):av K (upd H d o) c ul:=by
 rcases A with(A|⟨M,A⟩)|A
 .exact .inl (.inl ((Q (by rintro rfl;exact(G _ A ul).1 rfl)).trans A))
 .exact .inl (.inr ⟨M,(Q (by rintro rfl;exact(G _ A ul).2 _ S)).trans A⟩)
 .exact .inr A
variable{pc:Tb}
def ya:∀{G:bV} {pc:Tb} {D:Z},fv l m K H G pc->V.ref D∈G.map (·.2.2)->∃M,H D=Y (dX l m D M)
 |_,_,_,.nil,A=>nomatch A
 |x::G,y::pc,D,.cons a c,A=>by
  rcases bb.mp A with A|A
  .obtain⟨_,S,N,M,Q,_⟩:=a;have A:=A.trans N
   cases A;exact⟨M,Q⟩
  .exact ya c A
variable{q:G}{b:Z}
def b9.both(G:b9 l m K q H d pc)(A:(∃u,q b=Y u/\NT u)\/H b=O):b9 l m K (upd q b o) (upd H b o) d pc:=by
 obtain⟨B,e,P,f,n,p,g⟩:=G.ex;have h:d≠b:=by
  rintro rfl;rcases A with⟨u,A,_⟩|A
  .rw [G.new]at A;cases A
  .rw [e]at A;cases A
 have i:V.ref b∉B.map (·.2.2):=λD=>by
  rcases A with⟨u,A,_⟩|A
  .rw [g b D]at A;cases A
  .obtain⟨j,N⟩:=ya f D;rw [N]at A;cases A
 have k:∀u,H b=Y u->NT u:=λv T=>by
  rcases A with⟨u,N,D⟩|N
  .rw [G.ext _ _ N]at T;cases T;exact D
  .rw [N]at T;cases T
 refine⟨λc u a=> ?_,⟨B,(Q h).trans e,P.same λ_ _=>nh k,q0 (λC E w r=> ?_) f i,n,p,λs D=> ?_⟩,(Q h).trans G.new⟩
 .by_cases t:c=b
  .rw [t,M]at a⊢;exact a
  .rw [Q t]at a⊢;exact G.ext _ _ a
 .obtain⟨j,x,y,z⟩:=r;exact⟨j,(Q w).trans x,y.same λ_ _=>nh k,z⟩
 .rw [Q (by rintro rfl;exact i D)];exact g s D
variable{s0:Pr}{re:List Pr}
def b9.yb(N:b9 l m K q H d pc)(i:ba pc s0=Y re):∃D A G,H d=Y (dX l m d D)/\b7 K H D/\cg D (pk s0)=Y (.ref A)/\q A=O/\H A=Y (dX l m A G)/\b7 K H G/\G.map (·.1)=re.map pk/\G.length=re.length/\ ∀M T,(pc.map (·.1)).Nodup->b7 K H M->M.map (·.1)=T.map pk->b9 l m K q (upd H A (dX l m A M)) d (dM pc s0 T):=by
 obtain⟨D,c,P,e,j,k,f⟩:=N.ex;obtain⟨A,a,G,g,w,h⟩:=f9 e i;have t:V.ref A∈D.map (·.2.2):=by obtain⟨y,n,p⟩:=cm.mp a;rw [<-p];exact d8 (fL n)
 exact⟨D,A,G,c,P,a,f A t,g,w,h,by have:=bN cN h;rwa [ag,ag]at this,λM T Q r s=>b9.put N.ext c P e j k f N.new Q a g r s⟩
abbrev yc:a6:=inClass (top 53) 0
abbrev Ec:a6:=inClass (top 53) 3
structure kN(K:ah)(A:Z):Prop where
 cl:fi K A
 program:dE K A "program"
 looked:dE K A "looked_at"
 found:dE K A "found"
def ni(A D G:Z):List (aa×V):=[("program",.ref A),("looked_at",.ref D),("found",.ref G)]
variable{L:Z}
def bK.aP{c:Z}{H:G}(S:bK d H q)(T:H d=Y (.ins p L FM))(A:av K H c ul):av K q c ul:=by
 rcases A with(A|⟨u,A⟩)|A
 .exact .inl (.inl (S _ _ A (cW A T (by intro D;cases D))))
 .exact .inl (.inr ⟨u,S _ _ A (cW A T (by intro D;cases D))⟩)
 .exact .inr A
def bK.ee{c:Z}{H:G}(S:bK d H q)(T:H d=Y (.ins p L FM))(A:au K H c ul):au K q c ul:=by
 rcases A with(A|⟨u,A⟩)|A
 .exact .inl (.inl (S _ _ A (cW A T (by intro D;cases D))))
 .exact .inl (.inr ⟨u,S _ _ A (cW A T (by intro D;cases D))⟩)
 .exact .inr A
variable{pi:Ex}{pr s3:Z}
def cj.but{a:Z}{H:G}(A:bK a H q)(D:H a=Y (.ins pr s3 FM))(a0:FM.length<5)(o:cj K d p H L pi):cj K d p q L pi:=by
 obtain⟨b,e,r,s,t,u,v,x,y,⟨z,B,C,E,F⟩,h,⟨Q,R,W⟩,X,ab,ad⟩:=o;have S:∀{c i},H c=Y (.lst i)->q c=Y (.lst i):=λN=>A _ _ N (cW N D (by intro M;cases M))
 have j:∀{c k l T},H c=Y (.ins k l T)->5<=T.length->q c=Y (.ins k l T):=λN a1=>A _ _ N (cW N D (by intro M;injection M with _ _ M;subst M;omega));exact⟨b,e,r,s,t,u,v,j x (aX 5),S y,⟨z,S B,λal am=>let⟨⟨an,ap⟩,as⟩:=C al am;⟨⟨an,j ap (by show 5<=6;decide)⟩,S as⟩,E,F⟩,A _ _ h (cW h D (by intro M;cases M)),⟨Q,A.ee D R,Paired.cb W λ_ _=>A.aP D⟩,X,A.ee D ab,Paired.cb ad λ_ _=>A.aP D⟩
structure e9(l:az)(m:aw)(K:ah)(T b c:Z)(D M H:G)(a d p N S:Z)(e:Ex)(f:List Pl)(tab:Tb):Prop where
 tb:b9 l m K M H S tab
 x0:Ext D M
 a0:D a=O
 l0:D N=O
 oa:M a=Y (.ins T d (ni p N S))
 ol:∃Q,M N=Y (dX l m N Q)/\b7 K H Q/\Q.map (·.1)=(f.map A).map pk
 pg:cj K b c D p e
variable{sK Go:G}{ww FB IO:Z}{wv:List Pl}
def e9.on(D:Ext H Go)(A:e9 l m K d p L q sK H pr s3 ww FB IO pi wv pc):e9 l m K d p L q sK Go pr s3 ww FB IO pi wv pc:=
 ⟨A.tb.on D,A.x0,A.a0,A.l0,A.oa,let⟨G,M,N,Q⟩:=A.ol;⟨G,M,D.keys N,Q⟩,A.pg⟩
def e9.ext(A:e9 l m K d p L q sK H pr s3 ww FB IO pi wv pc):Ext q H:=A.x0.trans A.tb.ext
def e9.obj(A:e9 l m K d FB IO q sK H p L pr s3 ww pi wv pc):H p=Y (.ins d L (ni pr s3 ww)):=A.tb.ext _ _ A.oa
def e9.prog(A:e9 l m K pr d p q sK H s3 ww L FB IO pi wv pc):cj K d p H L pi:=A.pg.ext A.ext
variable{LE:Z}
def e9.other{o:HO}(D:e9 l m K pr s3 ww q sK H p FB IO L LE pi wv pc)(N:(∃u,sK d=Y u/\NT u)\/H d=O)(S:q d=O)(T:d≠p)(b:d≠L):e9 l m K pr s3 ww q (upd sK d o) (upd H d o) p FB IO L LE pi wv pc:=
 have c:∀u,H d=Y u->NT u:=λv G=>by
  rcases N with⟨u,M,A⟩|M
  .rw [D.tb.ext _ _ M]at G;cases G;exact A
  .rw [M]at G;cases G
 ⟨D.tb.both N,D.x0.upd S,D.a0,D.l0,(Q T.symm).trans D.oa,let⟨f,g,h,i⟩:=D.ol;⟨f,(Q b.symm).trans g,h.same λ_ _=>nh c,i⟩,D.pg⟩
variable{Db:Pl}
def e9.putL(D:e9 l m K L pr s3 sK q H ww FB IO d LE pi wv pc)(T:q d=Y (dX l m d pu))(b:b7 K H pu)(c:pu.map (·.1)=(wv.map A).map pk)(G:av K H p (b2 (A Db)))(v:V):e9 l m K L pr s3 sK (upd q d (dX l m d (cz pu (pk (A Db)) p v))) (upd H d (dX l m d (cz pu (pk (A Db)) p v))) ww FB IO d LE pi (dU wv Db) pc:=by have f:cX (H d)\/H d=O:=.inl (by rw [D.tb.ext _ _ T];exact trivial);refine⟨D.tb.both (.inl ⟨_,T,tK⟩),D.x0.upd D.l0,D.a0,D.l0,(Q (cW D.oa T (by intro g;cases g))).trans D.oa,⟨_,M,(lz b _ G).same λ_ _=>bC f, ?_⟩,D.pg⟩;rw [Dt c,OF]
variable{r:Nat}
def yd(c:b7 K H pu)(d:pu.map (·.1)=(wv.map A).map pk){Q:List Key×Z×V}(T:pu[r]?=Y Q):∃D,wv[r]?=Y D/\D∈wv/\av K H Q.2.1 (b2 (A D)):=by
 have G:(pu.map (·.1))[r]?=Y Q.1:=by rw [bh,T];rfl
 rw [d,bh,bh]at G;cases b:wv[r]? with
 |none=>rw [b]at G;cases G
 |some D=>
  rw [b]at G;have:=c Q (cH T)
  rw [<-a8 G]at this;exact⟨D,S,cH b,this⟩
def ON(G:bD pi)(M:Db∈aq pi):(A Db).1<5/\(A Db).2<31:=by
 obtain⟨Q,N,S,_⟩:=o4 G M;have:=G.lt N
 have:=G.bF;exact⟨by cases Db<;>(simp only [A];decide),by omega⟩
def Ed(P:az)(w:aw)(K:ah)(CA C CN:Z):Sp:=λM H N _=>∃d pr L D pi G,M=[.ref d,.ref L,.ref D]/\H d=Y (.ins CA pr [])/\cj K C CN H L pi/\av K H D (b2 (A G))/\
 ∀sK q p s3,b9 P w K q sK s3 (gz ((aq pi).map A))->bK d H q->H p=O->q d=Y (.ins CA pr (ni L p s3))->q p=Y (dX P w p [(pk (A G),D,.bl I)])->N .br sK
variable{o0:bc}{z:aa->Option J}{B:aE}
def OO(r:a7 K "__init__" "Asking.__init__" yc ww o0)(D:kN K L)(s:bx l m K z B aD 1 "empty_table" ["program"] (xv l m K FB IO)):aS l m K z B aD 2 ww o0 ["self","program","place"] (Ed l m K L FB IO):=by
 refine r.go ["self","program","place"] λu v W x H X ab ad i y _ _ _=> ?_;obtain⟨p,pr,s3,G,pi,N,rfl,g,w,E,F⟩:=y;have R:(v.deeper (eI "Asking.__init__" (ei yc) x.heap.objs.size ww u)).units<cG:=by have:=i.units;omega
 refine⟨_,ar (dQ (T 0) (T 1) S) (ar (dQ (T 0) (OL R (T 2) hy) S) (ax (dQ (T 0) (bG s i (aK 1)) S))), ?_⟩;refine⟨_,S,_,S,p,L,pr,_,S,g,D.cl,D.program,by decide,λd b=>⟨_,S,pk (A N),G,.bl I,S,M, ?_, ?_⟩⟩
 .exact bC (.inr b) (bC (.inl (by rw [g];exact trivial)) E)
 have a:d≠p:=by rintro rfl;rw [M]at b;cases b
 rw [gW];refine⟨_,S,p,L,pr,_,S,(Q a.symm).trans M,D.cl,D.looked,(by show 1<1000;decide), ?_⟩;have j:H d=O:=by rw [Q a]at b;exact b
 have k:bK p H (upd (upd (upd H p (.ins L pr (aO "program" (.ref s3) []))) d (dX l m d [(pk (A N),G,.bl I)])) p (.ins L pr (aO "looked_at" (.ref d) (aO "program" (.ref s3) [])))):=λc o pi P=>by rw [Q P,Q (cB pi j),Q P];exact pi
 have V:upd (upd (upd H p (.ins L pr (aO "program" (.ref s3) []))) d (dX l m d [(pk (A N),G,.bl I)])) p (.ins L pr (aO "looked_at" (.ref d) (aO "program" (.ref s3) []))) d=Y (dX l m d [(pk (A N),G,.bl I)]):=(Q a).trans M;have n:upd (upd (upd H p (.ins L pr (aO "program" (.ref s3) []))) d (dX l m d [(pk (A N),G,.bl I)])) p (.ins L pr (aO "looked_at" (.ref d) (aO "program" (.ref s3) []))) p=Y (.ins L pr (aO "looked_at" (.ref d) (aO "program" (.ref s3) []))):=M
 refine⟨_,S,s3,pi,S,w.but k g (by show 0<5;decide),λLE al q=> ?_⟩;refine⟨_,S,p,L,pr,_,S,q.ext _ _ n,D.cl,D.found,(by show 2<1000;decide), ?_⟩;exact F _ _ d LE (q.both (.inl ⟨_,n,OM⟩)) k.g0 j M ((Q a).trans V)
def Ee(P:az)(w:aw)(K:ah)(CA C CN:Z):Sp:=λD H G _=>∃sK Go d p L pr s3 pi A wv pc,D=[.ref d]/\e9 P w K CA C CN sK Go H d p L pr s3 pi wv pc/\gc pi A wv pc/\A∈aq pi/\∀q,Ext H q->G (.int ((wv.length+eF wv pc:Nat):Int)) q
variable{C CN:Z}
def OP(be:a7 K "how_much" "Asking.how_much" Ec ww o0)(f:kN K L)(al:z "len"=O)(bi:z "sum"=O):aS l m K z B aD 1 ww o0 ["self"] (Ee l m K L C CN):=by
 refine be.go ["self","place"] λc3 c4 c5 w H c6 bk c7 c8 c am bl sz=> ?_;obtain⟨q,sK,p,pr,FB,d,s3,pi,c9,wv,pc,rfl,g,E,an,bm⟩:=c;refine⟨_,ax (aQ (hh rW (cR ox (by rfl) al dD (D (aG 0) aC)) (cR (z8 S) (by rfl) bi (by decide+kernel) (D (Ak (f3 (own:=[("place",1)]) S am (lC (aG 0)) (e3 S) (λw H C ap as=>bW 1 am) (λw H C ap as=>hC) (λw H C ap as=>cR (DB l m K) (by rfl) al dD (D (o5 l m K bl (w1 K (T 0) S) (T 1) (λ_ _=>S)) aC)))) aC)))), ?_⟩;obtain⟨i,j,a0,a1⟩:=g.ol;have bn:=g.pg.ok
 have s:=g.obj;have k:=g.tb.ext _ _ j
 have a2:i.length=wv.length:=by have:=bN cN a1;rwa [ag,ag,ag]at this
 have db:=(E.bound bn an).1;have a3:p≠d:=cW s k (by intro F;cases F)
 refine⟨_,S,p,L,pr,_,_,S,s,f.cl,f.looked,S,d,i,S,k,a0,d,_,k,trivial,λa4=> ?_⟩;refine⟨_,S,p,L,pr,_,_,S,(Q a3).trans s,f.cl,f.looked,S,d,a4,i,S,M,λu a=> ?_⟩;have v:d≠u:=by intro F;rw [<-F,M]at a;cases a
 have a5:H u=O:=by rw [Q v.symm]at a;exact a
 refine qV (aU:=i) (λx e=>e u=Y (.lst (((wv.take x).map λN=>((ba pc (A N)).getD []).length).map λR:Nat=>V.int (R:Nat)))/\e d=Y (.bO a4 (dX l m d i))/\(∀G n,av K H G n->av K e G n)/\∀G o,G≠d->H G=Y o->e G=Y o) ?_ ?_ ?_ ?_
 .refine⟨M,(Q v).trans M,λG n c=>bC (.inr a) (bC (.inl (by rw [k];exact trivial)) c),λG o b pi=> ?_⟩;rw [Q (cB pi a5),Q b];exact pi
 .rintro x e _ ⟨_,c,_⟩;exact c
 .rintro x bs e bt ⟨P,W,r,h⟩;obtain⟨N,X,dd,bv⟩:=yd a0 a1 bt;have ca:=E.hN an (cH X)
  obtain⟨dl,bd,_⟩:=E.tt.look ca;obtain⟨cd,y,ce,ch,ci,cl,cn,co,cr,dp,cs,_⟩:=g.tb.yb bd;have ct:s3≠d:=by rintro rfl;rw [g.tb.new]at j;cases j
  have c0:y≠d:=by rintro rfl;rw [cn]at j;cases j
  have c1:=r _ _ bv;have ds:x<wv.length:=(cM.mp X).1
  refine⟨S, ?_⟩;unfold hl;dsimp only [];rw [ak S];refine⟨_,S,p,L,pr,_,_,S,h p _ a3 s,f.cl,f.found,S,_,S,s3,.ref y,S,⟨cd,pk (A N),bs.2.1,h s3 _ ct ch,ci.same r,S,c1,cl.symm⟩,y,ce,S,h y _ c0 co,cr.same r,_,P,by rw [ag,ag,dW];omega, ?_, ?_, ?_, ?_⟩
  .rw [M,dm,X,aW,aW,cs];show _=Y (HO.lst (_++[V.int ((((ba pc (A N)).getD []).length:Nat):Int)]))
   rw [bd];rfl
  .rw [Q v];exact W
  .exactλG n c=>bC (.inl (by rw [P];exact trivial)) (r G n c)
  .intro G o b pi;rw [Q (cB pi a5)];exact h G o b pi
 .rintro e ⟨P,W,r,h⟩;rw [a2,dB]at P;refine⟨W,u,(wv.map λN=>((ba pc (A N)).getD []).length).map λR:Nat=>(R:Int),S,au.of (by rw [Q v.symm,P,eh,eh,eh];rfl),_,_,S,S, ?_⟩;rw [xG,a2];have c2:((wv.length:Nat):Int)+(((wv.map λN=>((ba pc (A N)).getD []).length).sum:Nat):Int)=((wv.length+eF wv pc:Nat):Int):=by unfold eF;omega
  show bk (V.int (((wv.length:Nat):Int)+(((wv.map λN=>((ba pc (A N)).getD []).length).sum:Nat):Int))) _;rw [c2];refine bm _ λG o pi=> ?_;by_cases b:G=d
  .rw [b,M,<-k,<-b];exact pi
  .rw [Q b];exact h G o b pi
abbrev ye:a6:=inClass (top 53) 1
structure gd(l:az)(m:aw)(K:ah)(d p L:Z)(T H:G)(a b w c P:Z)(D:Ex)(e:Pl)(f:List Pl)(tab:Tb)(g:Z)(o:HO)(M:G)(A:List Pl):Prop where
 ex:∃N,e9 l m K d p L T N M a b w c P D A tab/\N g=Y o
 sq:∀Q S,av K H Q S->av K M Q S
 ok:gc D e A tab
 pre:∃h,A=f++h
variable{P3:List Pl}
def gd.on(D:Ext sK Go)(A:gd l m K d p L q H pr s3 ww FB IO pi Db wv pc LE o sK P3):gd l m K d p L q H pr s3 ww FB IO pi Db wv pc LE o Go P3:=
 let⟨G,M,N⟩:=A.ex
 ⟨⟨G,M.on D,N⟩,λb Q S=>D.aP (A.sq b Q S),A.ok,A.pre⟩
def gd.copy(A:gd l m K p L pr sK H s3 ww FB IO LE pi Db wv pc d o q P3):q d=Y o:=let⟨M,D,G⟩:=A.ex;D.tb.ext _ _ G
def gd.obj(A:gd l m K d FB IO sK H p L pr s3 ww pi Db wv pc LE o q P3):q p=Y (.ins d L (ni pr s3 ww)):=let⟨G,D,M⟩:=A.ex;D.obj
def gd.prog(A:gd l m K pr d p sK H s3 ww L FB IO pi Db wv pc LE o q P3):cj K d p q L pi:=let⟨G,D,M⟩:=A.ex;D.prog
def gd.put{p0:Pl}{b:Z}(D:gd l m K L pr s3 sK H ww FB IO d LE pi p0 wv pc p o q P3)(i:p0∈aq pi)(j:p≠d)(k:hJ pi p0 Db)(P:av K q b (b2 (A Db))):∃G,q d=Y (dX l m d G)/\b7 K q G/\G.length<aR/\∀v,gd l m K L pr s3 sK H ww FB IO d LE pi p0 wv pc p o (upd q d (dX l m d (cz G (pk (A Db)) b v))) (dU P3 Db):=by
 obtain⟨y,N,n⟩:=D.ex;obtain⟨G,c,M,f⟩:=N.ol;have z:G.length=P3.length:=by have:=bN cN f;rwa [ag,ag,ag]at this
 have B:=(D.ok.bound N.pg.ok i).1;have sz:(20000:Nat)<aR:=by decide
 have g:=N.tb.ext _ _ c;refine⟨G,g,M,by omega,λv=>⟨⟨_,N.putL c M f P v,(Q j).trans n⟩,λb w T=>bC (.inl (by rw [g];exact trivial)) (D.sq b w T),⟨AN D.ok.nd,kA.mpr (.inl D.ok.h0),λr s=> ?_,D.ok.tt,D.ok.lt⟩, ?_⟩⟩
 .rcases kA.mp s with T|rfl
  .exact D.ok.lp r T
  .exact k
 .obtain⟨h,rfl⟩:=D.pre;obtain⟨u,x⟩:=D6 (wv++h) Db;exact⟨h++u,by rw [x,cv]⟩
def gd.turn{o':HO}(A:gd l m K pr s3 ww q H p FB IO L LE pi Db wv pc d o sK P3)(D:NT o)(N:q d=O)(Q:d≠p)(S:d≠L):gd l m K pr s3 ww q H p FB IO L LE pi Db wv pc d o' (upd sK d o') P3:=by obtain⟨g,T,b⟩:=A.ex;refine⟨⟨_,T.other (.inl ⟨_,b,D⟩) N Q S,M⟩,λc a f=>nh (λu G=> ?_) (A.sq c a f),A.ok,A.pre⟩;rw [A.copy]at G;cases G;exact D
def Ef(P:az)(w:aw)(K:ah)(CA C CN:Z):Sp:=λD H G _=>∃q M d p L pr s3 pi Db wv pc,D=[.ref d]/\e9 P w K CA C CN q M H d p L pr s3 pi wv pc/\gc pi Db wv pc/\Db∈aq pi/\
 ∀sK N A,e9 P w K CA C CN q N sK d p L pr s3 pi A pc->gc pi Db A pc->D8 pi wv pc A->G .br sK
def OQ{bs:Z}(ex:a7 K "look_further" "Asking.look_further" ye bs o0)(h:kN K pr)(fa:z "dict"=O)(fd:bx l m K z B aD 3 "places_that_steer" ["program","place"] (DS K ww FB))(fl:bx l m K z B aD 4 "ways_of" ["program","table"] (qZ l m K ww FB)):aS l m K z B aD 5 bs o0 ["self"] (Ef l m K pr ww FB):=by
 refine ex.go ["self","before","place","other","begin","end"] λfm fn h0 n H h1 h2 id bt b ap bv _=> ?_;obtain⟨q,ii,p,s3,IO,L,LE,pi,Db,wv,pc,rfl,ab,a,bd,fr⟩:=b;have fs:(fn.deeper (eI "Asking.look_further" (ei ye) n.heap.objs.size bs fm)).units+2<cG:=by have:=bt.un;omega
 have ca:=bt.mo 3;refine⟨_,ar (bo 1 ap (r1 (AL fs) (by rfl) fa (by decide+kernel) (D (aG 0) aC))) (ar (mC (d2 dY S (lC (T 1)) (bW 2 ap) (ax (d2 dY S (dy (bG fd ca (D (aG 0) (aK 2)))) (bW 3 ap) (ax (i9 bv (aG 0) (T 3) hy S)))))) (ax (d2 dY S (dy (bG fl bt (D (aG 0) (D (aG 0) aC)))) (ll S (gX (bW 4 ap) (gX (bW 5 ap) lj))) (ax (bH (i5 (vN bv (T 5) (T 1)) S) (ax (i9 bv (aG 0) (T 4) hy S)) bP))))), ?_⟩;obtain⟨j,fT,cd,be⟩:=ab.ol;have bi:=ab.pg.ok
 have c8:=ab.obj;have c9:=ab.tb.ext _ _ fT
 have db:=mH pi Db;have f0:∀s∈wv.map A,s.1<5/\s.2<31:=λs as=>by obtain⟨k,a0,rfl⟩:=bE.mp as;exact ON bi (a.hN bd a0)
 refine⟨_,S,p,pr,s3,_,_,S,c8,h.cl,h.looked,S,L,j,S,c9,cd,xE be (jk (λ_ _=>ed) a.nd) f0,λd a1=> ?_⟩;have dd:q d=O:=ab.ext.none a1
 have dl:d≠p:=(cB c8 a1).symm;have bk:d≠L:=(cB c9 a1).symm
 refine⟨d,_,M,trivial,λa2=> ?_⟩;rw [gW];have f1:gd l m K pr ww FB q H p s3 IO L LE pi Db wv pc d (.bO a2 (dX l m d j)) (upd H d (.bO a2 (dX l m d j))) wv:=
  ⟨⟨_,ab.other (.inr a1) dd dl bk,M⟩,λbl im b=>bC (.inr a1) b,a,[],(bZ wv).symm⟩
 refine⟨_,S,d,a2,j,S,M, ?_⟩;have f2:j.length=wv.length:=by have:=bN cN be;rwa [ag,ag,ag]at this
 refine x9 (aU:=j) (λw P sK=>∃bm ad P3,P=[Y (.ref p),Y (.ref d),bm,ad,O,O]/\gd l m K pr ww FB q H p s3 IO L LE pi Db wv pc d (.bO a2 (dX l m d j)) sK P3/\∀N<w,∀k,wv[N]?=Y k->∀s∈ff pi k,s∈P3) ?_ ?_ ?_ ?_
 .exact⟨O,O,wv,S,f1,λN i=>absurd i (k7 _)⟩
 .rintro w P sK _ ⟨_,_,_,_,v,_⟩;exact v.copy
 .rintro w s P sK as ⟨bm,ad,P3,rfl,v,ce⟩;obtain⟨k,a0,dp,f4⟩:=yd cd be as;refine⟨_,S,p,pr,s3,_,_,S,v.obj,h.cl,h.program,S,_,S,IO,pi,s.2.1,k,S,v.prog,a.hN bd dp,v.sq _ _ f4,λds f8 ch io ⟨ci,dK,dL⟩=> ?_⟩;have ca:=v.on ch
  refine⟨ds,S,⟨_,au.of dK⟩, ?_⟩;refine fC (xs:=ci.map V.ref) (λN P G=>∃ad L2,P=[Y (.ref p),Y (.ref d),Y (.ref s.2.1),ad,O,O]/\gd l m K pr ww FB q H p s3 IO L LE pi Db wv pc d (.bO a2 (dX l m d j)) G L2/\G ds=Y (.lst (ci.map V.ref))/\fQ K G ci ((ff pi k).map A)/\(∀y∈P3,y∈L2)/\∀a3<N,∀y,(ff pi k)[a3]?=Y y->y∈L2) ?_ ?_ ?_ ?_
  .exact⟨_,P3,S,ca,dK,dL,λ_ b=>b,λN i=>absurd i (k7 _)⟩
  .rintro N P G _ ⟨_,_,_,_,b,_⟩;exact au.of b
  .rintro N y P G f ⟨ga,L2,rfl,g,x,cl,C,e⟩;rw [bh]at f;obtain⟨bl,cn,rfl⟩:=cm.mp f;obtain⟨E,al,sz⟩:=ez cl cn;rw [bh]at al;obtain⟨u,dT,rfl⟩:=cm.mp al;have co:hJ pi Db u:=db.asked k (a.lp k dp) u (cH dT)
   obtain⟨cr,R,cs,ct,c0⟩:=g.put bd bk co sz;have c1:cX (G L)\/G L=O:=.inl (by rw [R];exact trivial)
   refine⟨_,S,p,pr,s3,_,_,S,g.obj,h.cl,h.looked,S,_,S,L,cr,pk (A u),bl,S,R,cs,S,sz,ct,_,dU L2 u,S,c0 _,(Q (cW x R (by intro E;cases E))).trans x,Paired.cb cl λ_ _=>bC c1,λy f=>kA.mpr (.inl (C y f)),λa3 am ge c2=> ?_⟩;rcases kh.mp am with am|rfl
   .exact kA.mpr (.inl (e a3 am ge c2))
   .rw [dT]at c2;exact kA.mpr (.inr (a8 c2).symm)
  .rintro P G ⟨ga,L2,rfl,g,x,cl,C,e⟩;refine⟨_,_,L2,S,g,λN i gl c3 y f=> ?_⟩;rcases kh.mp i with i|rfl
   .exact C y (ce N i gl c3 y f)
   .rw [a0]at c3;obtain rfl:=a8 c3;obtain⟨a3,am⟩:=hV.mp f;refine e a3 ?_ y am;rw [ag,bL dL,ag];exact(cM.mp am).1
 .rintro P sK ⟨bm,ad,P3,rfl,v,ce⟩;refine⟨v.copy, ?_⟩;have a4:=v.turn (o':=dX l m d j) tL dd dl bk
  have go:=a4.ex;obtain⟨is,gt,it⟩:=go;refine⟨_,S,p,pr,s3,_,_,S,a4.obj,h.cl,h.program,S,_,S,p,pr,s3,_,_,S,a4.obj,h.cl,h.found,S,IO,de pi,LE,pc,S,a4.prog.prog,gt.tb.at,a.tt.ok bi,λd0 f8 ch ix ⟨c4,d1,em⟩=> ?_⟩;refine⟨d0,S,⟨_,au.of d1⟩, ?_⟩;refine fC (xs:=c4.map V.ref) (λN P G=>∃c5 c6 L2,P=[Y (.ref p),Y (.ref d),bm,ad,c5,c6]/\gd l m K pr ww FB q H p s3 IO L LE pi Db wv pc d (dX l m d j) G L2/\G d0=Y (.lst (c4.map V.ref))/\cO (da K G) c4 (fG (de pi) pc (de pi).nodes.length)/\(∀y∈P3,y∈L2)/\∀w<N,∀n F,(fG (de pi) pc (de pi).nodes.length)[w]?=Y (A n,A F)->F∈wv->n∈L2) ?_ ?_ ?_ ?_
  .exact⟨_,_,P3,S,a4.on ch,d1,em,λ_ b=>b,λN i=>absurd i (k7 _)⟩
  .rintro N P G _ ⟨_,_,_,_,_,b,_⟩;exact au.of b
  .rintro N y P G f ⟨c5,c6,L2,rfl,g,x,bn,C,e⟩;rw [bh]at f;obtain⟨bl,cn,rfl⟩:=cm.mp f;obtain⟨E,al,g1,g2,g3,eq,hd⟩:=ez bn cn;obtain⟨a5,W,he,hf,jp,kk,hw⟩:=sT bi a.tt (cH (show _=Y (E.1,E.2)from al));obtain rfl:E=(A a5,A W):=mm he hf;refine⟨bl,_,S,g3,S,_,_,S,_,_,S,S, ?_⟩;refine⟨_,S,_,S,d,_,S,⟨j,pk (A W),g2,g.copy,cd.same g.sq,S,hd,S⟩,_,S, ?_⟩;rw [kJ be];have hi:decide (A W∈wv.map A)=decide (W∈wv):=by
    rw [hc,bE];exact⟨λ⟨s,as,b⟩=>ed b▸as,λb=>⟨_,b,S⟩⟩
   rw [hi];by_cases c:W∈wv
   .rw [ck c];have co:hJ pi Db a5:=db.way a5 W (hw.mono a.lt) (a.lp W c)
    obtain⟨cr,R,cs,ct,c0⟩:=g.put bd bk co eq;have c1:cX (G L)\/G L=O:=.inl (by rw [R];exact trivial)
    refine cf ⟨_,S,p,pr,s3,_,_,S,g.obj,h.cl,h.looked,S,_,S,L,cr,pk (A a5),g1,S,R,cs,S,eq,ct,_,_,dU L2 a5,S,c0 _,(Q (cW x R (by intro E;cases E))).trans x,Paired.cb bn λ_ _=>da.upd c1,λy f=>kA.mpr (.inl (C y f)),λw r n F X an=> ?_⟩;rcases kh.mp r with r|rfl
    .exact kA.mpr (.inl (e w r n F X an))
    .rw [al]at X;injection (a8 X)with es ev;exact kA.mpr (.inr (ed es).symm)
   .rw [bT c];refine b1 ⟨_,_,L2,S,g,x,bn,C,λw r n F X an=> ?_⟩;rcases kh.mp r with r|rfl
    .exact e w r n F X an
    .rw [al]at X;injection (a8 X)with es ev;rw [ed ev]at c;exact absurd an c
  .rintro P G ⟨c5,c6,L2,rfl,g,x,bn,C,e⟩;obtain⟨hm,hz,_⟩:=g.ex;refine fr G hm L2 hz g.ok ⟨g.pre,λk a0 y f=> ?_,λn F hw an=> ?_⟩
   .obtain⟨N,i⟩:=hV.mp a0;exact C y (ce N (by rw [f2];exact(cM.mp i).1) k i y f)
   .obtain⟨w,r⟩:=hV.mp (sU bi a.tt hw);exact e w (by rw [ag,bL em];exact(cM.mp r).1) n F r an
abbrev Eg:a6:=inClass (top 53) 2
def gc.merge{b:Pl}(g:bD pi)(T:gc pi b wv pc)(h:b∈aq pi)(i:Db∈wv){c U:List Pr}(j:ba pc (A Db)=Y c)(k:∀l∈U,∃D∈bq pi,l=a9 D)(lk:∀D,a9 D∈U->ji pi b Db D):gc pi b wv (dM pc (A Db) (cT c U))/\(∀M D,bR pc M D->bR (dM pc (A Db) (cT c U)) M D)/\∀D,a9 D∈U->bR (dM pc (A Db) (cT c U)) Db D:=by
 obtain⟨m,e,_,_⟩:=T.tt.BV g (T.hN h i) j k;refine⟨⟨T.nd,T.h0,T.lp,m,λM D a=> ?_⟩,λM D a=>(e M D).mpr (.inl a),λD a=>(e Db D).mpr (.inr ⟨S,a⟩)⟩;rcases(e M D).mp a with f|⟨rfl,f⟩
 .exact T.lt M D f
 .exact lk D f
variable{Is:Tb}{ut:cx}{wp:Pred}
def iM.sub(b:iM pi wv pc Is)(c:bI pi pc wp)(Q:bR pc Db ut):bR Is Db ut:=by obtain⟨g,h,d,e,_⟩:=b Db (c.lL Q);obtain⟨i,T,f⟩:=Q;rw [d]at T;obtain rfl:=a8 T;exact⟨_,e,gQ _ f⟩
def b9.grow{H:G}{c:Z}(T:b9 l m K q H c pc)(a:Ext H sK):∃d,b9 l m K d sK c pc/\Ext q d/\∀A,H A=O->d A=sK A:=by
 obtain⟨s,t,u,v,x,y,z⟩:=(T.on a).ex;obtain⟨k,g,Q,h,S,n,p⟩:=T.ex;have e:∀A,H A≠O->(if H A=O then sK A else q A)=q A:=λA D=>N D
 refine⟨λA=>if H A=O then sK A else q A,⟨λA o M=> ?_,⟨k,a _ _ g,a.keys Q,Paired.cb h λB A i=>⟨i.1,let⟨b,M,f⟩:=i.2;⟨b,M,f.ext a⟩⟩,S,n,λb j=> ?_⟩, ?_⟩,λA o M=> ?_,λA D=>ak D⟩
 .split at M
  .exact M
  .exact a _ _ (T.ext _ _ M)
 .obtain⟨E,r⟩:=ya h j;exact(e b (by rw [r];intro D;cases D)).trans (p b j)
 .exact(e c (by rw [g];intro D;cases D)).trans T.new
 .exact(e A (by rw [T.ext _ _ M];intro D;cases D)).trans M
def Eh(P:az)(w:aw)(K:ah)(CA C CN:Z):Sp:=λe H f _=>∃S g G T a b c A M D N,e=[.ref G]/\e9 P w K CA C CN S g H G T a b c A D N/\gc A M D N/\M∈aq A/\
 ∀d h Q,e9 P w K CA C CN S h d G T a b c A D Q->gc A M D Q->D9 A D N Q->f .br d
def OR(k0:a7 K "find_facts" "Asking.find_facts" Eg pr o0)(i:kN K d)(k1:bx l m K z B aD 2 "own_table" ["program"] (tq l m K p L))(k2:bx l m K z B aD 4 "ways_of" ["program","table"] (qZ l m K p L)):aS l m K z B aD 5 pr o0 ["self"] (Eh l m K d p L):=by
 refine k0.go ["self","own","place","begin","end"] λm6 m7 m8 s H m9 na nb gt a c1 gl sz=> ?_;obtain⟨k3,nd,g,P,E,U,an,CN,dl,F,dp,rfl,CA,a1,ds,k5⟩:=a;have ap:=gt.mo 2
 refine⟨_,ar (bo 1 c1 (bG k1 ap (D (aG 0) aC))) (ar (mC (d2 dY S (lC (aG 0)) (bW 2 c1) (ax (cL (sm gl (fk gl (aG 0) (T 2) (λ_ _=>S)) (fk gl (T 1) (T 2) (λ_ _=>S)) ⟨S,S,S,S⟩))))) (ax (d2 dY S (dy (bG k2 gt (D (aG 0) (D (aG 0) aC)))) (ll S (gX (bW 3 c1) (gX (bW 4 c1) lj))) (ax (bH (i5 (vN gl (T 4) (aG 0)) S) (ax (cL (sm gl (fk gl (aG 0) (T 4) (λ_ _=>S)) (fk gl (aG 0) (T 3) (λ_ _=>S)) ⟨S,S,S,S⟩))) bP))))), ?_⟩;obtain⟨j,g1,dx,c2⟩:=CA.ol;have k:=CA.pg.ok
 have la:=CA.obj;have g2:=mH CN dl
 have lb:j.length=F.length:=by have:=bN cN c2;rwa [ag,ag,ag]at this
 refine⟨_,S,g,d,P,_,_,S,la,i.cl,i.program,S,E,CN,S,CA.prog,λdK bk bl=> ?_⟩;obtain⟨lc,ld,le,lf,ne,nl,li⟩:=bl.ex;have dL:=xA k
 obtain⟨bm,g3,dT,hd⟩:=CA.tb.grow bl.ext;have d0:=dT _ _ g1
 have d1:=dT _ _ CA.oa;have he:=g3.ext _ _ d0
 have hf:g≠U:=cW d1 d0 (by intro a2;cases a2);refine⟨U,_,he,trivial,λbn=> ?_⟩;have hi:=g3.both (b:=U) (o:=.bO bn (dX l m U j)) (.inl ⟨_,d0,tK⟩)
 have lm:∀G e,av K bk G e->av K (upd bk U (.bO bn (dX l m U j))) G e:=λG e a=>bC (.inl (by rw [he];exact trivial)) a;have hm:upd bm U (.bO bn (dX l m U j)) g=Y (.ins d P (ni E U an)):=(Q hf).trans d1
 refine⟨_,S,g,d,P,_,_,S,hi.ext _ _ hm,i.cl,i.looked,S,U,bn,j,S,M, ?_⟩;refine x9 (aU:=j) (λn ab a3=>∃c3 q,ab=[Y (.ref g),Y (.ref dK),c3,O,O]/\b9 l m K (upd bm U (.bO bn (dX l m U j))) a3 an q/\(∀G e,av K bk G e->av K a3 G e)/\gc CN dl F q/\iM CN F dp q/\∀t<n,∀v,F[t]?=Y v->∀N,fN CN v N->bR q v N) ?_ ?_ ?_ ?_
 .exact⟨O,dp,S,hi,lm,a1,.refl a1.tt,λt w=>absurd w (k7 _)⟩
 .rintro n ab a3 _ ⟨_,_,_,ad,_⟩;exact ad.ext _ _ M
 .rintro n N ab a3 f ⟨c3,q,rfl,ad,a4,R,ce,em⟩;obtain⟨v,eq,c4,ln⟩:=yd dx c2 f;have es:=a1.hN ds c4
  have hz:=a4 _ _ (bl.ext.aP ln);obtain⟨h0,al,_⟩:=R.tt.look es;obtain⟨ch,a5,_,ev,ci⟩:=dL.row v es;obtain⟨c5,h,bs,lo,lp,ls,lt,ex,h1,lv,nm,lw⟩:=ad.yb al;obtain⟨bt,bd,bv,ca,cl,be⟩:=f9 lf a5;have l0:bv.length=ch.length:=by have:=bN cN be;rwa [ag,ag]at this
  have h2:=(R.tt.len k al).1;have fa:=(dL.len k a5).1
  have fd:H bt=O:=by refine li bt ?_;obtain⟨y,c6,mg⟩:=cm.mp bd;rw [<-mg];exact d8 (fL c6)
  have id:∀{G},H G=O->G≠U:=λa=>by rintro rfl;rw [CA.tb.ext _ _ g1]at a;cases a
  have ii:∀{G o},H G=O->bk G=Y o->a3 G=Y o:=λ{G o} im mk=>ad.ext _ _ ((Q (id im)).trans ((hd G im).trans mk));have mo:h≠bt:=by
   rintro rfl;have:upd bm U (.bO bn (dX l m U j)) h=Y (dX l m h bv):=(Q (id fd)).trans ((hd h fd).trans ca)
   rw [lt]at this;cases this
  refine⟨_,S,g,d,P,_,_,S,ad.ext _ _ hm,i.cl,i.found,S,_,S,an,_,S,⟨c5,pk (A v),N.2.1,lo,lp,S,hz,ls.symm⟩,h,S,⟨bs,ex⟩,_,S,_,S,dK,_,S,⟨lc,pk (A v),N.2.1,ii bl.new ld,le.same a4,S,hz,bd.symm⟩,bs,bt,bv,S,ex,h1,ii fd ca,cl.same a4,by omega,λ_=>q3 k dL a5 be,λc7=>absurd c7 mo,λ_=> ?_⟩;obtain⟨fl,c8,fm⟩:=R.merge k ds c4 al ev λN f=>g2.iH v N ((ci N).mp f) (a1.lp v c4);refine⟨_,_,S,lw _ _ (R.tt.nodup k) (qw h1 (cl.same a4)) (q2 lv be),λG e a=>bC (.inl (by rw [ex];exact trivial)) (a4 G e a),fl,ce.step c4 es al ch,λt w mp fn N f=> ?_⟩;rcases kh.mp w with w|rfl
  .exact c8 _ _ (em t w mp fn N f)
  .rw [eq]at fn;obtain rfl:=a8 fn;exact fm N ((ci N).mpr f)
 .rintro ab a3 ⟨c3,q,rfl,ad,a4,R,ce,em⟩;refine⟨ad.ext _ _ M, ?_⟩;have ap:=ad.both (b:=U) (o:=dX l m U j) (.inl ⟨_,M,tL⟩)
  rw [gW]at ap;have ms:∀G e,av K bk G e->av K (upd a3 U (dX l m U j)) G e:=λG e a=>nh (λu gl=>by rw [ad.ext _ _ M]at gl;cases gl;exact tL) (a4 G e a)
  have io:Ext k3 (upd bm U (dX l m U j)):=(CA.x0.trans dT).upd CA.l0;have c9:upd bm U (dX l m U j) g=Y (.ins d P (ni E U an)):=(Q hf).trans d1
  have mt:=CA.pg.ext (io.trans ap.ext);refine⟨_,S,g,d,P,_,_,S,ap.ext _ _ c9,i.cl,i.program,S,_,S,g,d,P,_,_,S,ap.ext _ _ c9,i.cl,i.found,S,E,de CN,an,q,S,mt.prog,ap.at,R.tt.ok k,λis nn it no ⟨fr,ix,jp⟩=> ?_⟩;refine⟨is,S,⟨_,au.of ix⟩, ?_⟩;refine fC (xs:=fr.map V.ref) (λt ab W=>∃fs fT X,ab=[Y (.ref g),Y (.ref dK),c3,fs,fT]/\b9 l m K (upd bm U (dX l m U j)) W an X/\(∀G e,av K bk G e->av K W G e)/\gc CN dl F X/\iM CN F dp X/\(∀E g,bR q E g->bR X E g)/\W is=Y (.lst (fr.map V.ref))/\cO (da K W) fr (fG (de CN) q (de CN).nodes.length)/\∀n<t,∀s h,(fG (de CN) q (de CN).nodes.length)[n]?=Y (A s,A h)->h∈F->∀N,bR q s N->bR X h N) ?_ ?_ ?_ ?_
  .exact⟨_,_,q,S,ap.on it,λG e a=>it.aP (ms G e a),R,ce,λ_ _ a=>a,ix,jp,λt w=>absurd w (k7 _)⟩
  .rintro t ab W _ ⟨_,_,_,_,_,_,_,_,_,a,_⟩;exact au.of a
  .rintro t y ab W c6 ⟨fs,fT,X,rfl,am,cd,r,cn,bi,co,cr,cs⟩;rw [bh]at c6;obtain⟨G,mA,rfl⟩:=cm.mp c6;obtain⟨a2,db,h2,fa,mN,m0,kk⟩:=ez cr mA;obtain⟨f0,as,bd,ca,m1,kp,hw⟩:=sT k R.tt (cH (show _=Y (a2.1,a2.2)from db));obtain rfl:a2=(A f0,A as):=mm bd ca;have f1:=am.ext _ _ c9
   refine⟨G,_,S,mN,S,_,_,S,_,_,S,S, ?_⟩;refine⟨_,S,_,S,g,d,P,_,_,S,f1,i.cl,i.looked,S,U,_,S,⟨j,pk (A as),fa,am.ext _ _ M,dx.same λG e a=>cd G e (bl.ext.aP a),S,kk,S⟩,_,S, ?_⟩;rw [kJ c2];have m2:decide (A as∈F.map A)=decide (as∈F):=by rw [hc,bE];exact⟨λ⟨N,f,a⟩=>ed a▸f,λa=>⟨_,a,S⟩⟩
   rw [m2];by_cases c:as∈F
   .rw [ck c];obtain⟨c5,f2,f4,f8,ks,m3,m4⟩:=am.ex;obtain⟨h0,al,_⟩:=r.tt.look kp;obtain⟨ch,a5,_,ev,ci⟩:=r.tt.look m1;obtain⟨ga,ge,bs,ct,kt,kw⟩:=f9 f8 al;obtain⟨bt,bd,bv,ca,cl,be⟩:=f9 f8 a5;have np:bs.length=h0.length:=by have:=bN cN kw;rwa [ag,ag]at this
    have l0:bv.length=ch.length:=by have:=bN cN be;rwa [ag,ag]at this
    have ns:=(r.tt.len k al).1;have nw:=(r.tt.len k a5).1
    refine cf ⟨_,S,g,d,P,_,_,S,f1,i.cl,i.found,S,_,S,an,_,S,⟨c5,pk (A as),fa,f2,f4,S,kk,ge.symm⟩,ga,S,⟨bs,ct⟩,_,S,g,d,P,_,_,S,f1,i.cl,i.found,S,_,S,an,_,S,⟨c5,pk (A f0),h2,f2,f4,S,m0,bd.symm⟩,bs,bt,bv,S,ct,kt,ca,cl,by omega,λ_=>q3 k r.tt a5 be,λc7=> ?_,λc7=> ?_⟩
    .refine⟨_,_,X,S,am,cd,r,cn,bi,co,cr,λn C s h x a0 N f=> ?_⟩;rcases kh.mp C with C|rfl
     .exact cs n C s h x a0 N f
     .rw [db]at x;injection (a8 x)with dd c0;obtain rfl:=ed dd;obtain rfl:=ed c0;rw [ed (Du ks ge (by rw [c7];exact bd))];exact bi _ _ f
    .have kV:cX (W ga)\/W ga=O:=.inl (by rw [ct];exact trivial);obtain⟨fl,c8,fm⟩:=r.merge k ds c al ev λN f=>g2.sJ f0 as N (hw.mono R.lt) (r.lt _ _ ((ci N).mp f)) (a1.lp as c);refine⟨_,_,_,S,b9.put am.ext f2 f4 f8 ks m3 m4 am.new (r.tt.nodup k) ge ct (qw kt cl) (q2 kw be),λG e a=>bC kV (cd G e a),fl,cn.step c kp al ch,λE N a=>c8 _ _ (bi E N a),(Q (cW co ct (by intro a2;cases a2))).trans co,Paired.cb cr λ_ _=>da.upd kV,λn C s h x a0 N f=> ?_⟩;rcases kh.mp C with C|rfl
     .exact c8 _ _ (cs n C s h x a0 N f)
     .rw [db]at x;injection (a8 x)with dd c0;obtain rfl:=ed dd;obtain rfl:=ed c0;exact fm N ((ci N).mpr (bi _ _ f))
   .rw [bT c];refine b1 ⟨_,_,X,S,am,cd,r,cn,bi,co,cr,λn C s h x a0 N f=> ?_⟩;rcases kh.mp C with C|rfl
    .exact cs n C s h x a0 N f
    .rw [db]at x;injection (a8 x)with dd c0;rw [ed c0]at c;exact absurd a0 c
  .rintro ab W ⟨fs,fT,X,rfl,am,cd,r,cn,bi,co,cr,cs⟩;refine k5 W _ X ⟨am,io,CA.a0,CA.l0,c9,⟨j,M,dx.same λG e a=>cd G e (bl.ext.aP a),c2⟩,CA.pg⟩ r ⟨cn,λv N f eq=> ?_,λs h N hw a0 m5=> ?_⟩
   .obtain⟨t,w⟩:=hV.mp eq;exact bi _ _ (em t (by rw [lb];exact(cM.mp w).1) v w N f)
   .obtain⟨n,C⟩:=hV.mp (sU k R.tt (hw.mono λE g a=>ce.sub a1.tt a));exact cs n (by rw [ag,bL jp];exact(cM.mp C).1) s h C a0 N (ce.sub a1.tt m5)
abbrev Ei:a6:=top 55
structure Ej(T:az)(w:aw)(K:ah)(b:Z)(H:G)(a:Z)(D:Ex)(M:Pl):Prop where
 ex:∃c p N U Q,∃S:List Pl,∃tab ps,H a=Y (.ins b c (ni p N U))/\H N=Y (dX T w N Q)/\b7 K H Q/\Q.map (·.1)=(S.map A).map pk/\TabAt T w K H U tab/\((aq D).filter λp=>decide (p∈S))=jD D M/\S.length=(jD D M).length/\ba tab (A M)=Y ps/\(((bq D).map a9).filter λx=>decide (x∈ps))=(kg D M).map a9
def tM(P:az)(w:aw)(K:ah)(CA C CN:Z):Sp:=λT H a _=>∃N Q D G,T=[.ref N,.ref Q]/\cj K C CN H N D/\G∈aq D/\av K H Q (b2 (A G))/\∀S M,Ext H M->Ej P w K CA M S D G->a (.ref S) M
def OS(D:Ex)(T:bD D):bI D (gz ((aq D).map A)) (bR (gz ((aq D).map A))):=by
 have N:∀G∈aq D,ba (gz ((aq D).map A)) (A G)=Y []:=λG M=>by
  refine hL ?_ ?_
  .unfold gz;rw [eh];exact(nN _).symm▸lW T
  .exact bE.mpr ⟨A G,d8 M,S⟩
 refine⟨?_,λG M=>⟨[],N G M,gT,(λd a=>nomatch a),λe=>⟨(λb=>nomatch b),λ⟨f,Q,c⟩=> ?_⟩⟩⟩
 .unfold gz;rw [eh];exact nN _
 .rw [N G M]at Q;cases Q;exact c
def OT(N:bR (gz ((aq pi).map A)) Db ut):False:=by obtain⟨a,Q,S⟩:=N;obtain⟨b,_,T⟩:=bE.mp (BM Q);cases T;exact nomatch S
def OU(a5:a7 K "ask_alone" "ask_alone" Ei pr o0)(c7:kN K d)(bd:iD l m K z B aD 2 "Asking" d ["self","program","place"] (Ed l m K d p L))(ab:cC l m K z B aD 1 d "how_much" ["self"] (Ee l m K d p L)) (be:cC l m K z B aD 5 d "look_further" ["self"] (Ef l m K d p L)) (bi:cC l m K z B aD 5 d "find_facts" ["self"] (Eh l m K d p L)):aS l m K z B aD 6 pr o0 ["program","place"] (tM l m K d p L):=by
 refine a5.go ["program","place","asking","grown","before"] λc8 c9 db dd H dl dp ds t h u _ _=> ?_;obtain⟨g,ad,G,f,rfl,P,i,al,bk⟩:=h;have v:=P.ok
 have X:=t.mo 1;have bl:=t.mo 3
 refine⟨_,ar (bo 2 u (iE (E:=E0) bd bl cy (D (T 0) (aK 1)))) (ar (bo 3 u hy) (ar (n6 dY (ko (T 3)) (ar (bo 4 u (dR (E:=E0) (T 2) ab X cy)) (ar (cL (dR (E:=E0) (T 2) be t cy)) (ar (cL (dR (E:=E0) (T 2) bi t cy)) (ax (bo 3 u (n8 va (dR (E:=E0) (T 2) ab X cy) (T 4) (bU _)))))))) (ax (aQ (T 2))))), ?_⟩;refine⟨_,S,_,S,λb C F bm bn=> ?_⟩;have x:Ext H (upd (upd H C (.own b)) b (.ins d C [])):=(Ext.one bm).new ((Q bn.symm).trans F)
 refine⟨b,C,g,ad,G,f,S,M,P.ext x,x.aP al,λbs w j k X am bt bv ca=>⟨S, ?_⟩⟩;have an:Ext H w:=λc o G=>am c o (x _ _ G) (cB G F)
 have W:e9 l m K d p L H w bs b C g j k G [f] (gz ((aq G).map A)):=⟨X,an,F,x.none bt,bv,⟨_,ca,λap R=>by rw [bf.mp R];exact X.ext.aP (an.aP al),S⟩,P⟩
 have n:gc G f [f] (gz ((aq G).map A)):=⟨by simp,bf.mpr S,λap R=>by rw [bf.mp R];exact(mH G f).here,OS G v,λap dx h=>(OT h).elim⟩
 refine⟨λas a0 q=>∃a1 y a e r,a0=[Y (.ref g),Y (.ref ad),Y (.ref b),Y (.bl r),a1]/\e9 l m K d p L H y q b C g j k G a e/\gc G f a e/\(r=ao->Ej l m K d q b G f)/\as=if r=I then 3000-(a.length+eF a e)+1 else 0,⟨_,O,w,_,_,I,S,W,n,(λh=>by cases h),S⟩, ?_⟩;rintro as a0 q ⟨a1,y,a,e,r,rfl,W,n,cd,rfl⟩;refine⟨_,S,_,S, ?_⟩;cases r with
 |false=>exact b1 ⟨_,S,bk b q W.ext (cd S)⟩
 |true=>
 refine cf ⟨_,(λdK q h=>h), ?_⟩;refine⟨_,S,b,C,_,S,W.obj,S,H,y,b,C,g,j,k,G,f,a,e,S,W,n,i,λdL ce=> ?_⟩;have a2:=W.on ce
 refine⟨_,S,b,C,_,S,a2.obj,S,H,y,b,C,g,j,k,G,f,a,e,S,a2,n,i,λdT ch L3 a3 ci cl=> ?_⟩;refine⟨_,S,b,C,_,S,a3.obj,S,H,ch,b,C,g,j,k,G,f,L3,e,S,a3,ci,i,λdX a4 U V CA cn=> ?_⟩;refine⟨_,S,b,C,_,S,V.obj,S,H,a4,b,C,g,j,k,G,f,L3,U,S,V,CA,i,λd0 co=> ?_⟩;have s:=V.on co
 have am:=n.bound v i;have d1:=CA.bound v i
 refine⟨_,S,_,_,S,S,_, ?_,Y (.int ((a.length+eF a e:Nat):Int)),a4,L3,U,decide (a.length+eF a e<L3.length+eF L3 U), ?_,s,CA,λcr=> ?_,S⟩
 .by_cases c:a.length+eF a e<L3.length+eF L3 U
  .rw [ak (ck c),ak S];omega
  .rw [N (by rw [bT c];decide),ak S];omega
 .have:decide (((L3.length+eF L3 U:Nat):Int)>((a.length+eF a e:Nat):Int))=decide (a.length+eF a e<L3.length+eF L3 U):=by rw [hc];omega
  rw [<-this];rfl
 .obtain⟨cs,ct,c0,c1,c2⟩:=OH v i n CA cl cn (of_decide_eq_false cr);obtain⟨c3,c4,c5,c6⟩:=s.ol;exact⟨C,g,j,k,c3,L3,U,c0,s.obj,s.tb.ext _ _ c4,c5,c6,s.tb.at,cs,ct,c1,c2⟩
end Cf
namespace L3
def kO:Int:=0xFCA86420
variable{ss:b4}{t:aj}{l:az}{m:aw}{s5:J->aj->Prop}
def OV{D:Int->aj->Prop}(G:ss.units<cG)(M:∀N,D kO {t with toks:=N}):aF (aM l m) ss (pyHash .none) D s5 t:=
 PySem.W.pyHash_slot (T:="NoneType") S F.slot_NoneType_hash F.entry_NoneType_hash (F.args_NoneType_hash_1 _) (Sx _) (.inr G) (aI (bu (aI (wpAny_mkInt (bu ⟨_,_,S,M _⟩)))))
variable{Gc:Array g8}{d:Z}{r:Nat}
def find_none{o:aL}{S:Option Nat->aj->Prop}(U:t.heap.get? d=Y o)(b:o.data=.dict Gc r)(c:∀N∈Gc.toList,N.hash≠kO)(D:S O t):aF (aM l m) ss (dictFind d .none kO) S s5 t:=by
 have e:Sy Gc.size (λQ=>Gc[Q]?.map (·.hash)) kO=[]:=by
  unfold Sy;rw [Rx];intro Q _ G;dsimp only at G;cases a:Gc[Q]? with
  |none=>rw [a]at G;cases G
  |some N=>
   rw [a]at G;exact c N (QD.mpr (Array.mem_of_getElem? a)) (by simpa using G)
 unfold dictFind
 try with_reducible refine nE ?_
 refine aI (kb U b ?_);dsimp only;rw [e];show aF _ _ (Sz d .none kO Gc []) _ _ _
 unfold Sz;rw [uj];exact bu D
variable{IN:J->aj->Prop}{v0:List (List Key×Z×J)}
def OW(b:ss.in1.units<cG)(c:(d==er)=ao)(G:t.heap.DictOfH (tk l m) d v0)(D:∀Q∈v0,(tk l m).hash Q.1≠kO)(e:∀U,s5 (.bool ao) {t with toks:=U}):aF (aM l m) ss (fJ .In .none (.ref d)) s5 IN t:=by
 show aF _ _ (do return .bool (<-contains (.ref d) .none)) s5 IN t;refine aI ?_;unfold contains
 try with_reducible refine nE ?_
 refine aI (um G.typeIs GS.lookup ?_);show aF _ _ (if(Y (Value.builtin "dict.__contains__")==Y j2)=I then _ else _) _ IN t
 rw [N (by rw [Sx];exact d5)];refine aI (wpAny_callSpecialUnlessNone?_slot (name:=dO "__contains__") G.typeIs GS (ro GS G.typeIs entry_dict_contains ?_ (args_dict_contains _ _)));show aF _ _ (dictGet d .none>>=_) _ _ t
 obtain⟨o,j,k,f,_,g,h,_⟩:=G;refine aI ?_;unfold dictGet
 try with_reducible refine nE ?_
 refine aI (OV b λU=>aI (find_none f g (λs a=> ?_) (bu ?_)))
 .rw [h]at a;obtain⟨Q,i,rfl⟩:=bE.mp a;exact D Q i
 .show aF _ _ (Uy d .none>>=_) _ _ _;exact aI (wpAny_pendingKey_other c (bu ⟨_,S,pG (bu (e _))⟩))
def OX(D:az)(M:aw)(K:ah)(H:G)(N:Z)(y:V)(Q:Bool):Prop:=∃A,H N=Y (dX D M N A)/\b7 K H A/\((∃S T,y=.ref T/\av K H T (S.map kV)/\Q=(cg A S).isSome)\/(y=.br/\(∀U∈A,(tk D M).hash U.1≠kO)/\Q=ao))
def OY(N:az)(Q:aw)(K:ah)(S T:TE):TE:=λA H U=>S A H λy a=>T A a λb D=>∃G M,b=.ref G/\OX N Q K D G y M/\U (.bl M) D
variable{h:Cx}{P:aZ}{sc xz:TE}
def OZ{o:aZ}(a:az)(b:aw)(K:ah)(c:h.A.units+1<cG)(m:PE h P sc)(n:PE h o xz)(p:h.prog=a:=by rfl)(hw:h.w=b:=by rfl)(q:h.K=K:=by rfl):PC h .In P o (OY a b K sc xz):=by
 subst p hw q;intro d r e H as s t;refine aN (m d r e H _ s t) λf v ⟨y,w,x,g,z⟩=>aN (n d v e w _ x z) λu a0 ⟨Q,i,D,B,C,a1,E,⟨F,j,k,L⟩,l⟩=> ?_;subst E;obtain rfl:u=b5 C:=B;rcases L with⟨A,R,G,M,N⟩|⟨G,M,N⟩
 .subst G N;cases (show f=b5 R from g);exact AB c D j k M λa2 V=>⟨.bl (cg F A).isSome,i,V,S,l⟩
 .subst G N;cases (show f=j2 from g);obtain⟨a3,X,a4,ab,ad⟩:=jO D j k;refine OW (show h.A.in1.units<cG from c) X ad (λQ al=> ?_) λa5=>⟨.bl ao,i,D.tok _,S,l⟩
  obtain⟨am,an,ap,_⟩:=ab.mem Q al;rw [<-ap];exact M am an
end L3
namespace Cf
abbrev Ek:a6:=top 77
variable{re:List Pr}{pu:bV}{l:az}{m:aw}
def O0(U:pu.map (·.1)=re.map pk)(N:∀A∈re,A.1<5/\A.2<31):∀G∈pu,(tk l m).hash G.1≠kO:=λG a=>by
 have:G.1∈re.map pk:=by rw [<-U];exact d8 a
 obtain⟨A,Q,b⟩:=bE.mp this;have c:∀A∈xC,xB A≠kO:=by decide+kernel
 rw [<-b];exact c A (xD (N A Q).1 (N A Q).2)
def El(A:List V)(D:Nat):gK A O (Y ((D:Nat):Int))=A.take D:=by
 unfold gK;rw [HT.r2,show HT.gn A.length 0 O=0 from rfl,RA];rw [nT];by_cases c:D<=A.length
 .rw [i1 c]
 .rw [nU (by omega),j8 (aX _),j8 (by omega)]
def Em(A:List V)(D:Nat):gK A (Y ((D:Nat):Int)) O=A.drop D:=by
 unfold gK;rw [HT.r2,show HT.gn A.length A.length O=A.length from rfl];by_cases c:D<=A.length
 .rw [i1 c];exact j8 (by rw [l8];exact aX _)
 .rw [nU (by omega),zp (aX _),zp (by omega),Su]
variable{pi:Ex}{d p L:Z}{K:ah}
def cj.nd{H:G}(A:cj K d p H L pi):∃T N Q a b c,∃M:List NR,H L=Y (.ins d T (Dj N Q a b c))/\H N=Y (.lst (cF (bj pi)))/\H Q=Y (.lst (M.map λA=>V.ref A.a))/\M.length=size pi/\ ∀(D:Nat) (A:NR),M[D]?=Y A->(∃i,H A.a=Y (.ins p i (eW A.i.aJ A.i.word A.i.parent A.lp (((bj pi).length:Int)-A.sp.1) (((bj pi).length:Int)-A.sp.2))))/\(dw pi 0)[D]?=Y A.sp:=by
 obtain⟨T,N,Q,a,b,c,j,k,⟨M,l,m,n,o⟩,_⟩:=A.ex;refine⟨T,N,Q,a,b,c,M,j,k,l, ?_,λD A h=>⟨(m A (cH h)).1,by rw [<-o,bh,h];rfl⟩⟩;have:=bN cN n
 rw [ag,e7]at this;exact this
def En(K:ah)(Q S c:Z):Sp:=λd H e f=>∃T a A D,∃M:ai,d=[.ref T,.int (af D:Nat),.ref a]/\cj K Q S H T A/\D∈aH A/\H a=Y (.lst (cF M))/\M.length<=2000/\
 (rA A (af D) M=O->∀G,Ext H G->f (.ref c) O G)/\
 ∀N y,rA A (af D) M=Y N->size N+size D=size A+size y->aT 0 N=aT 0 (cQ (af D) y A)->∀b G,Ext H G->cj K Q S G b N->e (.ref b) G
variable{z:aa->Option J}{B:aE}{pr:Z}{o0:bc}
def O1(ce:a7 K "changed_program" "changed_program" Ek pr o0)(a:eE K d p)(ch:bx l m K z B (bA l m) 8 "read_expression" ["text"] (xj p L))(ci:iD l m K z B (bA l m) 9 "Program" d ["self","text"] (tj K d p L)):aS l m K z B (bA l m) 11 pr o0 ["program","label","text"] (En K d p L):=by
 refine ce.eu ["program","label","text","node"] λes ev ex fa H fd fl fm ab cl cn _ sz=> ?_;obtain⟨E,ad,i,e,N,rfl,al,s,am,fn,an,co⟩:=cl;have cr:=ab.mo 8
 refine⟨_,ar (cL (gL ch cr dt (aK 2))) (ar (bo 3 cn (cc di (aG 0) (T 1) (λ_ _=>S))) (ax (aQ (iE ci ab dt (D (hh lx (hh lx (qi qk (aG 0) r3 (oe (aG 3))) (T 2)) (qi qk (aG 0) (oe (aG 3)) r3)) aC))))), ?_⟩;have j:=al.ok
 obtain⟨A,G,C⟩:=wH j s;refine⟨_,S,ad,N,S,am,by omega, ?_⟩;cases ap:hK (bX [] (N.map norm))with
 |none=>exactλcs ct=>an (L4 j s (LP.mp ap)) cs ct
 |some c0=>
 obtain⟨c1,fr⟩:=c0;have c2:runM (bX [] (N.map norm))=Y c1:=by rw [<-wC,ap];rfl
 obtain⟨as,c3⟩:=L5 j s C c2;intro P fs fT t _ _ _ _ _;have c4:=al.ext t
 obtain⟨F,a0,c5,f0,f1,f2,a1,h,a2,c6,c7,c8⟩:=c4.nd;have c9:af e<a1.length:=by rw [c7];exact j.lt s
 obtain⟨f,a3⟩:∃f,a1[af e]?=Y f:=⟨_,gj c9⟩
 obtain⟨⟨a4,R⟩,a5⟩:=c8 _ _ a3;have bd:f.sp=((bj e).length+G.length,G.length):=by rw [C.span]at a5;exact(a8 a5).symm
 have be:(bj i).length=A.length+((bj e).length+G.length):=by rw [C.text,bB,bB]
 have db:((bj i).length:Int)-f.sp.1=((A.length:Nat):Int):=by rw [bd,be];show _-(((bj e).length+G.length:Nat):Int)=_;omega
 have dd:((bj i).length:Int)-f.sp.2=((A.length+(bj e).length:Nat):Int):=by rw [bd,be];show _-((G.length:Nat):Int)=_;omega
 have f4:=Ea i j.told;have f8:=j.bF
 rw [db,dd]at R;refine⟨_,S,E,d,F,_,_,S,h,a.p.c,a.p.nodes,S,_,S,c5,_,_,_,S,S,au.of c6,e2 (by rw [bh,a3];rfl), ?_⟩;refine⟨_,S,E,d,F,_,_,S,h,a.p.c,a.text,S,_,S,f.a,p,a4,_,_,S,R,a.n.cl,a.n.begin_,S,_,S,a0,_,S,au.of a2,λk dl=> ?_⟩;have bi:∀{o},Ext P (upd P k o):=Ext.one dl
 have dp:gK (cF (bj i)) O (Y ((A.length:Nat):Int))=cF A:=by rw [El,C.text];unfold cF;rw [aW,Sv (by rw [ag];exact aX _),j8 (by rw [ag];exact aX _)]
 have ds:gK (cF (bj i)) (Y ((A.length+(bj e).length:Nat):Int)) O=cF G:=by rw [Em,C.text,<-cv];unfold cF;rw [aW,List.drop_left' (by rw [ag,bB])]
 have x:∀u:ai,(cF u).length=u.length:=λu=>ag _;have bk:∀u v:ai,cF u++cF v=cF (u++v):=λu v=>aW.symm
 rw [dp];refine⟨_,S,k,ad,_,_,S,S,M,bi _ _ (t _ _ am),by rw [x,x];omega,λn dx=> ?_⟩;rw [bk];have W:∀{o},Ext P (upd (upd P k (.lst (cF A))) n o):=bi.new dx
 refine⟨_,S,E,d,F,_,_,S,W _ _ h,a.p.c,a.text,S,_,S,f.a,p,a4,_,_,S,W _ _ R,a.n.cl,a.n.end_,S,_,S,a0,_,S,au.of (W _ _ a2),λb bl=> ?_⟩;rw [ds];refine⟨n,b,_,_,S,S,(Ext.one bl) _ _ M,M,by rw [x,x,bB];omega,λU dK=> ?_⟩;rw [bk,cv];have bm:Ext P (upd (upd (upd (upd P k (.lst (cF A))) n (.lst (cF (A++N)))) b (.lst (cF G))) U (.lst (cF (A++(N++G))))):=(W.new bl).new dK
 have dL:upd (upd (upd (upd P k (.lst (cF A))) n (.lst (cF (A++N)))) b (.lst (cF G))) U (.lst (cF (A++(N++G)))) U=Y (.lst (cF (A++(N++G)))):=M;generalize upd (upd (upd (upd P k (.lst (cF A))) n (.lst (cF (A++N)))) b (.lst (cF G))) U (.lst (cF (A++(N++G))))=V at*;intro g q bn dT dX;have bs:Ext V (upd (upd V q (.own g)) g (.ins d q [])):=(Ext.one dT).new ((Q dX.symm).trans bn)
 have bt:∀{w},bK g (upd (upd V q (.own g)) g (.ins d q [])) w->Ext H w:=λr c o bv=>r c o (bs _ _ (bm _ _ (t _ _ bv))) (cB (bm _ _ (t _ _ bv)) bn);refine⟨g,q,U,A++(N++G),S,M,bs _ _ dL,by rw [bB,bB];omega,λd0 w r=> ?_,λca cd w r d1=>⟨S, ?_⟩⟩
 .exact an (as.trans d0) w (bt r)
 .obtain⟨y,em,eq⟩:=c3 ca cd;exact co ca y (as.trans cd) em eq g w (bt r) d1
abbrev Eo:a6:=top 78
def gC(A G M:Ex)(D:Nat):Option Nat:=if D<size A then eR (e1 A G (af M)) D else O
variable{pc:Tb}{wp:Pred}
def O2{f x:Ex}(G:bD pi){new:Tb}(N:bI pi pc wp):hr (gC pi f x) pc new=hr (eR (e1 pi f (af x))) pc new:=by
 unfold hr;congr 1;refine gF λy b=> ?_;have Q:=hL (N.nodup G) (show(y.1,y.2)∈pc from b)
 obtain⟨o,c,e⟩:=N.key (kF Q);obtain⟨p,g,h,_⟩:=o4 G c;have T:∀D,D<size pi->gC pi f x D=eR (e1 pi f (af x)) D:=λD i=>ak i
 have j:fu (gC pi f x) y.1=fu (eR (e1 pi f (af x))) y.1:=by unfold fu;rw [T _ (by rw [e,<-h];exact G.lt g)]
 unfold jU;rw [j];cases fu (eR (e1 pi f (af x))) y.1 with
 |none=>rfl
 |some q=>
  dsimp only;congr 1;refine gF λk l=> ?_;obtain⟨r,m,rfl⟩:=N.sub Q k l;unfold f7;split
  .rfl
  .rename_i n;unfold fu;rw [T];rcases ja.mp m with rfl|⟨D,y,s,rfl,a⟩|⟨D,x,y,rfl,a⟩|⟨D,d,rfl,a⟩
   .exact absurd rfl n
   .exact G.lt a
   .exact G.lt a
   .exact G.lt a
def Ep(K:ah)(N Q:Z):Sp:=λb H c _=>∃S T A G D y,b=[.ref S,.ref T,.int (af D:Nat)]/\cj K N Q H S A/\cj K N Q H T G/\D∈aH A/\size G+size D=size A+size y/\∀a M,Ext H M->pj M a (gC A G D)->c (.ref a) M
def O3(ce:a7 K "moved_labels" "moved_labels" Eo L o0)(f:eE K d p)(a4:z "len"=O)(ch:z "enumerate"=O):aS l m K z B aD 1 L o0 ["old","new","label"] (Ep K d p):=by
 refine ce.go ["old","new","label","more","moved","other","node"] λd0 d1 em eq H es ev ex fa ci t a5 sz=> ?_;obtain⟨u,bd,a,b,G,y,rfl,be,cl,U,cn,co⟩:=ci;refine⟨_,ar (bo 3 t (hh u6 (cR en (by rfl) a4 dD (D (aG 1) aC)) (cR en (by rfl) a4 dD (D (aG 0) aC)))) (ar (bo 4 t vF) (ar (d2 dY S (sf S ch (D (aG 0) aC)) (ll S (gX (bW 5 t) (gX (bW 6 t) lj))) (ax (bH (bQ rX (T 5) (T 2) (bU _)) (ax (se a5 (T 4) (T 5) (T 5) S)) (ax (bH (bQ HW (aG 6) (fX (cc di (aG 0) (T 2) (λ_ _=>S)) S) (bU _)) (ax (se a5 (T 4) (T 5) (hh rW (T 5) (T 3)) S)) bP))))) (ax (aQ (T 4))))), ?_⟩;have x:=be.ok
 obtain⟨fd,cr,bi⟩:=wH x U;obtain⟨cs,ct,c0,fl,_,_,c1,c2,c3,c4,_⟩:=cl.node (hE b);obtain⟨R,fm,W,fn,fr,fs,X,ab,fT,a3,s,bk⟩:=be.nd;have c5:af G<X.length:=by rw [s];exact x.lt U
 obtain⟨w,bl⟩:∃w,X[af G]?=Y w:=⟨_,gj c5⟩
 obtain⟨⟨c6,c7⟩,bm⟩:=bk _ _ bl;have c8:w.sp.2=cr.length:=by rw [bi.span]at bm;rw [<-a8 bm]
 have f0:=x.bF;refine⟨_,S,bd,d,cs,ct,_,S,c1,f.p.c,f.p.nodes,c2,c0,_,S,.inl (au.of c3),_,S,u,d,R,_,_,S,ab,f.p.c,f.p.nodes,S,W,_,S,.inl (au.of a3),_,_,S,S, ?_⟩;rw [ag,ag,c4,s];intro a2 ad;have al:∀{o},Ext H (upd H a2 o):=Ext.one ad
 refine⟨_,S,u,d,R,_,_,S,al _ _ ab,f.p.c,f.p.nodes,S,W,_,S,au.of (al _ _ a3), ?_⟩;have c9:=L6 x U cn
 refine xp (xs:=X.map λw=>V.ref w.a) (λA C i=>∃am an g,C=[Y (.ref u),Y (.ref bd),Y (.int (af G:Nat)),Y (.int ((size b:Int)-(size a:Int))),Y (.ref a2),am,an]/\Ext H i/\i a2=Y (.dK g)/\g.length<=A/\∀Q:Nat,cS g (.inl (Q:Int))=(if Q<A then gC a b G Q else O).map λe=>V.int (e:Nat)) ?_ ?_ ?_ ?_
 .exact⟨O,O,[],S,al,M,aX _,λQ=>by rw [N (k7 _)];rfl⟩
 .rintro A C i _ ⟨_,_,_,_,r,_⟩;exact au.of (r _ _ a3)
 .rintro A v C i E bn ⟨am,an,g,rfl,r,ap,db,F⟩ bs;rw [bh]at bn;obtain⟨q,bt,rfl⟩:=cm.mp bn;obtain⟨⟨dd,dl⟩,dp⟩:=bk _ _ bt;have ds:A<size a:=by rw [<-s];exact(cM.mp bt).1
  have n:Ext H (upd i E (.tup [.int (A:Nat),.ref q.a])):=r.new bs;have as:upd i E (.tup [.int (A:Nat),.ref q.a]) a2=Y (.dK g):=(Ext.one bs) _ _ ap
  refine⟨E,_,S,av.of M,S,_,_,S,_,_,S,S, ?_⟩;generalize upd i E (.tup [.int (A:Nat),.ref q.a])=f1 at*;have bv:∀{e:Nat},gC a b G A=Y e->∀Q:Nat,cS (putK g (.inl (A:Int)) (V.int (e:Nat))) (.inl (Q:Int))=(if Q<A+1 then gC a b G Q else O).map λe=>V.int (e:Nat):=λ{e} a0 Q=>by
   rw [Jd,F];by_cases c:Q=A
   .rw [ak (by rw [c]),ak (by omega),c,a0];rfl
   .rw [N (λca=>c (by injection ca with ca;omega))];by_cases h:Q<A
    .rw [ak h,ak (by omega)]
    .rw [N h,N (by omega)]
  have dx:gC a b G A=O->∀Q:Nat,cS g (.inl (Q:Int))=(if Q<A+1 then gC a b G Q else O).map λe=>V.int (e:Nat):=λa0 Q=>by
   rw [F];by_cases c:Q=A
   .rw [N (by omega),ak (by omega),c,a0]
   .by_cases h:Q<A
    .rw [ak h,ak (by omega)]
    .rw [N h,N (by omega)]
  have P:=c9 A;have dK:gC a b G A=eR (e1 a b (af G)) A:=ak ds
  rw [<-dK]at P;unfold wI at P;refine⟨_,S,_,S,_,_,S,S,_,S, ?_⟩;by_cases cd:A<af G
  .rw [ck (show((A:Nat):Int)<((af G:Nat):Int)by omega)];rw [ak cd]at P;have a1:gC a b G A=Y A:=by
    cases j:gC a b G A with
    |none=>rw [j]at P;cases P
    |some e=>rw [j]at P;have:((e:Nat):Int)=((A:Nat):Int):=a8 P;rw [show e=A by omega]
   refine cf ⟨_,S,_,S,_,S,a2,_,S,mB.k (k:=.inl (A:Int)) as (by omega),_,_,_,S,n.upd ad,M, ?_,bv a1⟩;have:=sb g (.inl (A:Int)) (V.int (A:Nat))
   omega
  .rw [bT (show¬((A:Nat):Int)<((af G:Nat):Int)by omega)];rw [N cd]at P;refine b1 ⟨_,S,q.a,p,dd,_,_,S,n _ _ dl,f.n.cl,f.n.begin_,S,_,S,u,d,R,_,_,S,n _ _ ab,f.p.c,f.p.nodes,S,_,S,W,_,_,_,S,S,au.of (n _ _ a3),e2 (by rw [bh,bl];rfl),w.a,p,c6,_,_,S,n _ _ c7,f.n.cl,f.n.end_,S,_,_,S,S,_,S, ?_⟩;have dL:=bi.back A q.sp dp (by omega)
   have dT:decide (((bj a).length:Int)-q.sp.1>=((bj a).length:Int)-w.sp.2)=decide (af G+size G<=A):=by rw [hc,<-dL,c8];omega
   rw [dT];by_cases h:af G+size G<=A
   .rw [ck h];rw [ak h]at P;cases j:gC a b G A with
    |none=>rw [j]at P;cases P
    |some e=>
     rw [j]at P;have dX:((A:Nat):Int)+((size b:Int)-(size a:Int))=((e:Nat):Int):=(a8 P).symm
     refine cf ⟨_,S,_,S,_,_,S,S,_,S,_,S,a2,_,S,mB.k (k:=.inl (A:Int)) as (by omega),_,_,_,S,n.upd ad,M, ?_, ?_⟩
     .exact cq (sb _ _ _) (by omega)
     .show∀Q:Nat,cS (putK g (.inl (A:Int)) (V.int (((A:Nat):Int)+((size b:Int)-(size a:Int))))) _=_;rw [dX];exact bv j
   .rw [bT h];rw [N h]at P;have a1:gC a b G A=O:=by
     cases j:gC a b G A with
     |none=>rfl
     |some e=>rw [j]at P;cases P
    exact b1 ⟨_,_,_,S,n,as,by omega,dx a1⟩
 .rintro C i ⟨am,an,g,rfl,r,ap,db,F⟩;refine⟨_,S,co a2 i r ⟨g,ap,λQ=> ?_⟩⟩;rw [F,ag,s];by_cases c:Q<size a
  .rw [ak c]
  .rw [N c,show gC a b G Q=O from N c]
abbrev Er:a6:=top 81
structure Lk(K:ah)(d:Z)(H A:G):Prop where
 bt:bK d H A
 sq:∀D M,av K H D M->av K A D M
def Lk.lock{H:G}{u o:HO}(M:H d=Y u)(N:NT u):Lk K d H (upd H d o):=⟨λS o T c=>(Q c).trans T,λS a=>nh λv D=>by rw [M]at D;cases D;exact N⟩
variable{q sK:G}
def Lk.on{H:G}(N:Lk K d H q)(Q:Ext q sK):Lk K d H sK:=⟨N.bt.ext Q,λb S T=>Q.aP (N.sq b S T)⟩
def Lk.done{H:G}{u:HO}(T:Lk K d H q)(a:H d=Y u):Ext H (upd q d u):=λN o S=>by
 by_cases c:N=d
 .rw [c,M,<-a,<-c];exact S
 .rw [Q c];exact T.bt N o S c
def Lk.put{H:G}{o:HO}(N:Lk K p H q)(T:H d=O)(a:cX (q d)\/q d=O):Lk K p H (upd q d o):=⟨λb u S c=>(Q (cB S T)).trans (N.bt b u S c),λb A e=>bC a (N.sq b A e)⟩
def pq(K:ah)(H:G)(v:V):Option Pr->Prop
 |none=>v=.br
 |some p=>∃A,v=.ref A/\av K H A (b2 p)
def pq.sq{H:G}{v:V}{o:Option Pr}(Q:∀A M,av K H A M->av K q A M)(N:pq K H v o):pq K q v o:=by
 cases o with
 |none=>exact N
 |some p=>obtain⟨A,S,T⟩:=N;exact⟨A,S,Q _ _ T⟩
def Es(P:az)(w:aw)(K:ah):Sp:=λc H d _=>∃M N Q S A D G,c=[.ref M,.ref N,.ref Q]/\TabAt P w K S M A/\b9 P w K S H N D/\pj H Q G/\(A.map (·.1)).Nodup/\(∀y∈A,y.2.length<=31)/\
 (∀y∈A,∀T,fu G y.1=Y T->∃a,ba D T=Y a/\∀u∈a,u.1<5/\u.2<31)/\∀b,Ext H b->d (.int (hr G A D:Nat)) b
def O4(g1:a7 K "how_many_kept" "how_many_kept" Er d o0)(g2:z "len"=O)(g3:bx l m K z B aD 1 "moved_two" ["two","moved"] (x8 K))(hd:bx l m K z B aD 2 "moved_sort" ["sort","moved"] (D5 K)):aS l m K z B aD 3 d o0 ["old_table","new_table","moved"] (Es l m K):=by
 refine g1.go ["old_table","new_table","moved","kept","place","becomes","sorts","sort"] λlv lw l0 b H e mg mk dx x p F sz=> ?_;obtain⟨f,bt,an,mo,ds,dp,G,rfl,cr,q,⟨dK,L,dL⟩,dT,he,hf,hi⟩:=x;have hm:=dx.mo 1
 refine⟨_,ar (bo 3 p cK) (ar (mC (d2 dY S (lC (T 0)) (bW 4 p) (ar (bo 5 p (bG g3 hm (D (T 4) (aK 2)))) (ax (bH (bQ HX (T 5) uT S) (ar (mC (r8 (i:=6) (own:=[("sort",7)]) S p S rfl (r9 S rfl rfl rfl) (lC (DA l m K F (T 0) (T 4) (λ_ _=>S))) (e3 S) (λb H ap as a0=>bW 7 p) (λb H ap as a0=>hC) (λb H ap as a0=>bG hd dx (D (T 7) (aK 2))))) (ax (zD (i:=3) p S (yR S) (cR en (by rfl) g2 dD (D (f3 (own:=[("sort",7)]) S p (dy (T 6)) (e3 S) (λb H ap as a0=>bW 7 p) (λb H ap as a0=>kx (i5 (OZ l m K F (T 7) (o5 l m K F (T 1) (T 5) (λ_ _=>S))) S)) (λb H ap as a0=>T 7)) aC)) HR))) bP))))) (ax (aQ (T 3)))), ?_⟩;obtain⟨r,a1,d0,bv,mp,hz⟩:=cr;have R:=q.ext _ _ a1
 refine⟨f,_,R,trivial,λca=> ?_⟩;refine⟨_,S,f,ca,r,S,M, ?_⟩;have h0:r.length=ds.length:=bL bv
 refine x9 (aU:=r) (λP cd W=>∃cs ct ce a2,cd=[Y (.ref f),Y (.ref bt),Y (.ref an),Y (.int (hr G (ds.take P) dp:Nat)),cs,ct,ce,a2]/\W f=Y (.bO ca (dX l m f r))/\Lk K f H W) ?_ ?_ ?_ ?_
 .exact⟨O,O,O,O,S,M,Lk.lock R tK⟩
 .rintro P cd W _ ⟨_,_,_,_,_,x,_⟩;exact x
 .rintro P s cd W c0 ⟨cs,ct,ce,a2,rfl,ch,X⟩;obtain⟨y,d1,em,A,eq,w,a3,h1,es⟩:=ez bv c0;have c1:=cH d1
  have ev:=cH c0;have ex:av K W s.2.1 (b2 y.1):=by have:=X.sq _ _ (q.ext.aP (d0 s ev));rw [em]at this;exact this
  have h2:∀{a4},Lk K f H a4->pj a4 an G:=λc2=>⟨dK,c2.bt _ _ L (cW L R (by intro h;cases h)),dL⟩
  have fa:hr G (ds.take (P+1)) dp=hr G (ds.take P) dp+jU G dp y:=by
   unfold hr;rw [dm,d1,aW,ze];show _+(jU G dp y+0)=_
   omega
  refine⟨_,S,_,S,s.2.1,y.1,an,G,S,ex,h2 X, ?_⟩;cases c3:fu G y.1 with
  |none=>
   have id:jU G dp y=0:=by unfold jU;rw [c3]
   refine⟨_,S,S,_,S,b1 ⟨Y (.ref s.2.1),Y .br,ce,a2, ?_,ch,X⟩⟩;rw [fa,id];rfl
  |some n=>
  intro c4 ab c5 ii;obtain⟨a5,fd,im⟩:=hf y c1 n c3;obtain⟨io,c6,is,it,ix,jp,fl,kk,kp,fm,ms,_⟩:=q.yb fd;have ad:=X.on c5
  have fn:=c5 _ _ ch;have ks:H A=Y (dX l m A w):=q.ext _ _ a3
  have ci:A≠f:=by rintro rfl;exact hz (by rw [<-eq];exact d8 ev)
  have cl:ab A=Y (dX l m A w):=ad.bt _ _ ks ci;have kt:c6≠f:=by rintro rfl;rw [fl]at a1;cases a1
  have mt:c6≠A:=by rintro rfl;rw [fl]at a3;cases a3
  have kw:bt≠f:=by rintro rfl;rw [q.new]at a1;cases a1
  have mA:bt≠A:=by rintro rfl;rw [q.new]at a3;cases a3
  have kV:Y (V.ref A)=cg r s.1:=by
   obtain⟨mN,bd,C⟩:=f9 bv (hL dT (show(y.1,y.2)∈ds from c1));have k0:(r.map (·.1)).Nodup:=by rw [tp bv];exact jk (λ_ _=>lP) dT
   rw [xS k0 c0,eq]
  refine⟨_,S,S,_,S,cf ⟨A,_,cl,trivial,λc7=> ?_⟩⟩;have c8:Lk K A ab (upd ab A (.bO c7 (dX l m A w))):=Lk.lock cl tK
  refine⟨_,S,_,S,f,.ref A,S,⟨r,s.1,s.2.1,.inr ⟨ca,(Q ci.symm).trans fn⟩,λk1 k2=>c8.sq _ _ (ad.sq _ _ (q.ext.aP (d0 k1 k2))),S,c8.sq _ _ (by rw [em];exact c5.aP ex),kV⟩,A,c7,w,S,M,λk be=> ?_⟩;have bi:A≠k:=by rintro rfl;rw [M]at be;cases be
  have c9:ab k=O:=by rw [Q bi.symm]at be;exact be
  have k3:w.length=y.2.length:=by have:=bN cN es;rwa [ag,ag]at this
  have m0:=he y c1;have k5:∀{a4},Lk K A ab a4->Lk K f H (upd a4 A (dX l m A w)):=λc2=>ad.on (c2.done cl)
  refine qV (aU:=w) (λg a=>(∃e,a k=Y (.lst e)/\e.length=g/\cO (pq K a) e ((y.2.take g).map (f7 G)))/\a A=Y (.bO c7 (dX l m A w))/\Lk K A ab a) ?_ ?_ ?_ ?_
  .exact⟨⟨[],M,S,.nil⟩,(Q bi).trans M,c8.put c9 (.inr be)⟩
  .rintro g a _ ⟨_,x,_⟩;exact x
  .rintro g h a fr ⟨⟨e,bk,db,bl⟩,bm,t⟩;have fs:(w.map (·.1))[g]?=Y h.1:=by rw [bh,fr];rfl
   rw [es,bh]at fs;obtain⟨al,fT,la⟩:=cm.mp fs;have lb:av K a h.2.1 (b2 al):=by have:=t.sq _ _ (ad.sq _ _ (q.ext.aP (h1 h (cH fr))));rw [<-la]at this;exact this
   have m1:g<y.2.length:=(cM.mp fT).1;have lc:pj a an G:=⟨dK,t.bt _ _ (ad.bt _ _ L (cW L R (by intro h;cases h))) (cW (ad.bt _ _ L (cW L R (by intro h;cases h))) cl (by intro h;cases h)),dL⟩
   have ld:(y.2.take (g+1)).map (f7 G)=(y.2.take g).map (f7 G)++[f7 G al]:=by rw [dm,fT,aW];rfl
   refine⟨S, ?_⟩;unfold hl;dsimp only [];rw [ak S];refine⟨_,S,_,S,h.2.1,al,an,G,S,lb,lc, ?_⟩;rw [ld];cases m2:f7 G al with
   |none=>
    have am:cX (a k)\/a k=O:=.inl (by rw [bk];exact trivial);refine⟨e,bk,by omega,⟨e++[.br],M,by rw [bB,db];rfl,fS (Paired.cb bl λ_ _ n=>n.sq λE bn=>bC am) (show pq K _ V.br O from rfl)⟩,(Q bi).trans bm,t.put c9 am⟩
   |some m3=>
    intro f0 f1 cn le;have f2:=cn _ _ bk
    have am:cX (f1 k)\/f1 k=O:=.inl (by rw [f2];exact trivial);refine⟨e,f2,by omega,⟨e++[.ref f0],M,by rw [bB,db];rfl,fS (Paired.cb bl λ_ _ n=>n.sq λE bn x=>bC am (cn.aP x)) ⟨f0,S,bC am le⟩⟩,(Q bi).trans (cn _ _ bm),(t.on cn).put c9 am⟩
  .rintro a ⟨⟨e,bk,db,bl⟩,bm,t⟩;rw [k3,dB]at bl;refine⟨bm, ?_⟩;have f4:=k5 t
   have f8:∀E bn,av K a E bn->av K (upd a A (dX l m A w)) E bn:=λE bn=>nh λu F=>by rw [bm]at F;cases F;exact tL
   have lf:upd a A (dX l m A w) f=Y (.bO ca (dX l m f r)):=(Q ci.symm).trans (t.bt _ _ fn ci.symm);have ga:upd a A (dX l m A w) k=Y (.lst e):=(Q bi.symm).trans bk
   have ge:cO (pq K (upd a A (dX l m A w))) e (y.2.map (f7 G)):=Paired.cb bl λ_ _ n=>n.sq f8;have li:av K (upd a A (dX l m A w)) c4 (b2 n):=f8 _ _ (t.sq _ _ ii)
   generalize upd a A (dX l m A w)=dd at*;refine⟨_,S,_,S,k,S,⟨_,au.of ga⟩,λdl gl=> ?_⟩;have lm:∀{o},Ext dd (upd dd dl o):=Ext.one gl
   have ln:e.length=y.2.length:=by rw [bL ge,ag]
   refine hD (xs:=e) (λg bs=>(∃j,bs dl=Y (.lst j)/\j.length=((y.2.map (f7 G)).take g).countP λo=>o.any λb=>decide (b∈a5))/\Ext dd bs) ?_ ?_ ?_ ?_
   .exact⟨⟨[],M,S⟩,lm⟩
   .rintro g bs _ ⟨_,U⟩;exact au.of (U _ _ ga)
   .rintro g v bs lo ⟨⟨j,bd,C⟩,U⟩;obtain⟨o,cr,go⟩:=ez ge lo;have co:=f4.on U
    have m4:j.length<=31:=by rw [C];refine cq Sw ?_;rw [dW,ag];omega
    have gt:((y.2.map (f7 G)).take (g+1)).countP (λo=>o.any λb=>decide (b∈a5))=((y.2.map (f7 G)).take g).countP (λo=>o.any λb=>decide (b∈a5))+if(o.any λb=>decide (b∈a5))=I then 1 else 0:=by
     rw [dm,cr,Sd];congr 1;show GC _ [o]=_
     rw [List.countP_singleton]
    refine⟨S,_,S,_,S,_,S,bt,_,S,⟨io,pk n,c4,co.bt _ _ it kw,ix.same co.sq,S,U.aP li,jp.symm⟩,c6,o.any (λb=>decide (b∈a5)),S,⟨is,co.bt _ _ kk kt,kp.same co.sq, ?_⟩,_,S, ?_⟩
    .cases o with
     |none=>exact .inr ⟨go,O0 fm im,S⟩
     |some al=>
      obtain⟨E,lp,ls⟩:=go;exact .inl ⟨pk al,E,lp,U.aP ls,by rw [kJ fm];rfl⟩
    .refine eb (λc=> ?_) (λc=> ?_)
     .refine⟨_,S,j,bd,by omega,⟨j++[v],M, ?_⟩,U.upd gl⟩;rw [gt,ak c,bB,C];rfl
     .refine⟨⟨j,bd, ?_⟩,U⟩;rw [gt,N c,C];rfl
   .rintro bs ⟨⟨j,bd,C⟩,U⟩;rw [ln,<-ag (f:=f7 G),dB]at C;have lt:jU G dp y=j.length:=by
     unfold jU;rw [c3];dsimp only;rw [fd,C];rfl
    refine⟨dl,_,S,.inl (au.of bd),_,_,S,S,Y (.ref s.2.1),Y (.ref c4),Y (.ref k),a2, ?_,U _ _ lf,f4.on U⟩;rw [fa,lt];have:((hr G (ds.take P) dp:Nat):Int)+((j.length:Nat):Int)=((hr G (ds.take P) dp+j.length:Nat):Int):=by omega
    rw [<-this];rfl
 .rintro cd W ⟨cs,ct,ce,a2,rfl,ch,X⟩;rw [h0,dB];exact⟨ch,_,S,hi _ (X.done R)⟩
abbrev Et:a6:=top 82
def chg(A D G:Ex):Vacfaf.Changes:=k4 (e1 A D (af G)) (d6 A) (d6 D)
def Eu(K:ah)(Q S:Z):Sp:=λb H c _=>∃T a A G D y,b=[.ref T,.ref a,.int (af D:Nat)]/\cj K Q S H T A/\cj K Q S H a G/\D∈aH A/\size G+size D=size A+size y/\aT 0 G=aT 0 (cQ (af D) y A)/\
 ∀M N,Ext H N->H M=O->N M=Y (.lst ([(chg A G D).kept,(chg A G D).gone,(chg A G D).came].map λd:Nat=>V.int (d:Nat)))->c (.ref M) N
def O5(a0:a7 K "kept_gone_and_new" "kept_gone_and_new" Et d o0)(G:bx l m K z B aD 5 "least_table" ["program"] (tr l m K p L))(a1:bx l m K z B aD 3 "how_many_kept" ["old_table","new_table","moved"] (Es l m K))(a2:bx l m K z B aD 1 "moved_labels" ["old","new","label"] (Ep K p L)) (C:bx l m K z B aD 1 "how_many_facts" ["table"] (xH l m K)):aS l m K z B aD 6 d o0 ["old","new","label"] (Eu K p L):=by
 refine a0.go ["old","new","label","old_table","new_table","kept"] λc2 c3 c4 c5 H c6 c7 c8 e a3 n _ _=> ?_;obtain⟨E,F,a,d,b,y,rfl,o,U,q,a4,P,a5⟩:=a3;have r:=e.mo 1
 have bd:=e.mo 3;refine⟨_,ar (bo 3 n (bG G e (aK 0))) (ar (bo 4 n (bG G e (aK 1))) (ar (bo 5 n (bG a1 bd (D (T 3) (D (T 4) (D (bG a2 r (D (T 0) (D (T 1) (aK 2)))) aC))))) (ax (aQ (dg (D (T 5) (D (hh u6 (bG C r (aK 3)) (T 5)) (D (hh u6 (bG C r (aK 4)) (T 5)) aC)))))))), ?_⟩;have N:=o.ok
 have c:=U.ok;refine⟨_,S,E,a,S,o,λR be g w Q=> ?_⟩;refine⟨_,S,F,d,S,U.ext w.ext,λV c9 h i j=> ?_⟩;have W:=w.ext.trans i.ext
 refine⟨_,S,_,S,_,S,_,S,_,S,E,F,a,d,b,y,S,o.ext W,U.ext W,q,a4,λbi db s bk=> ?_⟩;have dd:g.length<=90:=by
  have:=bN cN Q.keys;rw [ag,ag]at this;have bl:=places_len a
  have bm:=N.bF;omega
 have dl:h.length<=90:=by
  have:=bN cN j.keys;rw [ag,ag]at this;have bl:=places_len d
  have bm:=c.bF;omega
 refine⟨R,V,bi,be,g,h,_,S,w.at,i.on s,bk,Q.nodup N,λk t=>(Q.len N (hL (Q.nodup N) (show(k.1,k.2)∈g from t))).1,λk t dp X=> ?_,λds ab=> ?_⟩
 .obtain⟨ad,al,bn⟩:=Q.key (d8 (f:=(·.1)) t);obtain⟨u,bs,bt,_⟩:=o4 N al;have bv:fu (gC a d b) k.1=fu (eR (e1 a d (af b))) (A ad):=by
   unfold fu;rw [bn,show gC a d b (A ad).2=_ from ak (by rw [<-bt];exact N.lt bs)]
  rw [bv,wO]at X;obtain⟨ca,cd,rfl⟩:=cm.mp X;obtain⟨ce,ch,_,ci,_⟩:=j.row ca (Eb N q c P al cd);exact⟨ce,ch,λv cl=>by obtain⟨dx,cn,rfl⟩:=ci v cl;exact xF c cn⟩
 .obtain⟨co,cr,cs⟩:=OJ N q c P Q j;have ct:=O2 (f:=d) (x:=b) (new:=h) N Q
  have am:=i.ext.trans (s.trans ab);refine⟨_,S,_,S,R,g,S,w.at.ext am,Q.nodup N,by omega,λdK an=>⟨_,S,_,_,S,S, ?_⟩⟩;refine⟨_,S,V,h,S,i.at.ext ((s.trans ab).trans an),j.nodup c,by omega,λdL c0=>⟨_,S,_,_,S,S,(by show 3<=aR;decide),λc1 ap=> ?_⟩⟩;have as:=w.ext.trans (am.trans (an.trans c0))
  refine a5 c1 _ (as.new ap) (as.none ap) ?_;rw [M,ct];dsimp only;rw [cr,cs,co];rfl
theorem q5(A:List Pr):(ct A).length=2*A.length+1:=by
 unfold ct;rw [dG];congr 1;induction A with
 |nil=>rfl
 |cons a b c=>grind
def nI(A:List Nat):List Int:=A.map zh
variable{v2:Int}{Vg:Nat->mn}
def Ew(G:0<=v2/\v2<4):zt v2 Vg=Vg v2.toNat:=N (by rintro(D|D);omega;exact absurd D (by show¬(4:Int)<=v2;omega))
def Ey(D:¬(0<=v2/\v2<4)):zt v2 Vg=.error 2:=ak (by by_cases c:v2<0;exact .inl c;exact .inr (show(4:Int)<=v2 by omega))
variable{Ch:nS}
def pw(D:bD Ch.prog)(T:0<=v2/\v2<(size Ch.prog:Int)):∃A∈aH Ch.prog,v2=(af A:Nat)/\∀G,rI Ch v2 G=G A:=by let⟨A,M,Q⟩:=D.node (l:=v2.toNat) (by omega);refine⟨A,M,by omega,λG=> ?_⟩;unfold rI;rw [N (by omega),D.cY.nodeAt,<-Q,D.cY.get M];rfl
theorem px(A:bD Ch.prog){D:ae->mn}(G:¬(0<=v2/\v2<(size Ch.prog:Int))):rI Ch v2 D=.error 3:=by
 unfold rI;by_cases c:v2<0
 .grind
 .rw [N c,A.cY.nodeAt,FK (by grind [size])];rfl
variable{s2 Do:Type}
def Ez{M N:s2->List Do}:∀{D:List s2},(∀A∈D,M A=N A)->D.flatMap M=D.flatMap N
 |[],_=>rfl
 |a::c,b=>by rw [cp,cp,b a bY,Ez λA T=>b A (bM _ T)]
theorem O6(A:List Info)(c:Fm->Bool):(cA A c).length<=A.length:=by grind [cA]
section
variable {e:ae} (G:bD e)
include G
theorem EA(D:Nat){A:ae}(M:A∈aH e):nI (GA (nJ (mj e D) (b0 A)))=ct (((bq e).filter (gu e D (.node (af A)))).map a9):=by unfold nI;rw [told_set,sP];unfold b0;rw [vX G.cY.places _ (gp M)]
theorem EB(M:Nat):nI ((rD e (mj e M)).length::(rD e (mj e M)).flatMap λA=>[A.site,A.fn])=ct (hM (infos O e) λc=>eV (((bq e).filter (gu e M (.node c))).map a9)):=by
 have N:∀D:List Sb,nI (D.length::D.flatMap λA=>[A.site,A.fn])=ct (D.map λA=>((A.site,A.fn):Pr)):=by
  intro D;unfold nI ct;rw [aV,ag];congr 1;induction D with
  |nil=>rfl
  |cons A M a=>grind
 grind [sP,BU]
theorem O7(A:Nat):(hM (infos O e) λc=>eV (((bq e).filter (gu e A (.node c))).map a9)).length=(rD e (mj e A)).length:=by grind [sP,BU]
theorem EC{N:aB->cx->Bool}{A:Tb}(T:bI e A (gv e N)):(hM (infos O e) λc=>eV (((bq e).map a9).filter λD=>decide (D∈(ba A (0,c)).getD [])))=hM (infos O e) λc=>eV (((bq e).filter (N (.node c))).map a9):=by
 unfold hM;refine Ez λU d=> ?_;let⟨D,Q,f,M⟩:=(sV G _).mp d
 have M:=eQ M;cases D with
 |app g b a=>
  have h:dF (infos O e) U=af b:=f▸G.part Q (r:=[a]) S;let⟨i,j,k,_⟩:=wJ G T (show Gd (af b)∈aq e from jQ Q (by simp [kids]))
  rw [h];dsimp only;rw [show ba A (0,af b)=Y i from j,nQ,k]
 |var g y=>grind [aA]
 |_=>cases M
theorem ED{M:Pred}{D:Tb}(N:bI e D M):∀c,c<size e->∃A,ba D (0,c)=Y A:=λc Q=>by
 obtain⟨a,T,rfl⟩:=G.node Q;let⟨A,U,_⟩:=N.row _ (gp T)
 exact⟨A,U⟩
theorem O8(D:Nat->List Nat)(Q:∀c,(D c).length<=31):(hM (infos O e) D).length<=930:=by
 unfold hM;have S:(cA (infos O e) λM=>decide (M=.call)).length<=30:=by have:=O6 (infos O e) λM=>decide (M=.call);rw [e7]at this;exact cq this G.bF
 have T:∀A:List Nat,(A.flatMap λA=>(D (dF (infos O e) A)).map λN=>((A,N):Pr)).length<=A.length*31:=by
  intro A;induction A with
  |nil=>grind
  |cons a b d=>
   grind
 grind
end
variable{r:Nat}
theorem O9{c:k6}(A:fM Ch c=.error r):r=1\/r=2\/r=3\/r=4\/r=5:=by
 have d:∀{Q:Type} {S:Option Q} {T:Nat} {G:Q->mn},Vacfaf.given S T G=.error r->r=T\/∃y,G y=.error r:=λ{Q S T G} A=>by
  cases S with
  |none=>cases A;grind
  |some y=>exact .inr ⟨y,A⟩
 have N:∀{M:Int} {G:ae->mn},rI Ch M G=.error r->r=3\/∃y,G y=.error r:=λ{M G} A=>by grind [rI]
 have a:∀{M:Int} {G:Nat->mn},zt M G=.error r->r=2\/∃y,G y=.error r:=λ{M G} A=>by grind [zt]
 unfold fM at A;cases c<;>dsimp only at A
 case program b=>grind
 case set k M=>rcases a A with A|⟨y,A⟩;omega;rcases N A with A|⟨y,A⟩;omega;cases A
 case arrows k=>rcases a A with A|⟨y,A⟩;omega;cases A
 case class_ M=>rcases N A with A|⟨y,A⟩;omega;cases A
 case ask M=>rcases N A with A|⟨y,A⟩;omega;cases A
 case funs M=>rcases N A with A|⟨y,A⟩;omega;cases y<;>cases A<;>omega
 case looked M=>rcases N A with A|⟨y,A⟩;omega;cases A
 case change M b=>grind
 case undo=>grind
 all_goals cases A
abbrev ef(A:Nat):a6:=inClass (top 104) A
structure g5(K:ah)(A:Z):Prop where
 cl:fi K A
 program:dE K A "program"
 kept:dE K A "kept"
def dc(A lk:Z):List (aa×V):=[("program",.ref A),("kept",.ref lk)]
def hQ(A:List Nat):List V:=A.map λD=>V.int (D:Nat)
def tN(A:List Nat):hQ A=(nI A).map V.int:=by unfold hQ nI;rw [eh];rfl
structure eG(K:ah)(Q D M:Z)(H:G)(a:Z)(A:nS):Prop where
 ex:∃S p lk N,H a=Y (.ins Q S (dc p lk))/\cj K D M H p A.prog/\H lk=Y (.lst (N.map V.ref))/\cO (cj K D M H) N A.past/\A.past.length<=8
variable{H:G}
def eG.ext(A:Ext H q)(D:eG K d p L H pr Ch):eG K d p L q pr Ch:=by obtain⟨G,M,lk,N,Q,S,T,b,c⟩:=D.ex;exact⟨G,M,lk,N,A _ _ Q,S.ext A,A _ _ T,Paired.cb b λ_ _ C=>C.ext A,c⟩
variable{FM:List (aa×V)}{s3 ww a:Z}
def eG.but(A:bK d H q)(G:H d=Y (.ins s3 ww FM))(N:FM.length<5)(b:a≠d)(c:eG K p L pr H a Ch):eG K p L pr q a Ch:=by obtain⟨D,e,lk,f,g,h,Q,i,j⟩:=c.ex;exact⟨D,e,lk,f,A _ _ g b,h.but A G N,A _ _ Q (cW Q G (by intro k;cases k)),Paired.cb i λ_ _ l=>l.but A G N,j⟩
def gf(K:ah)(CL C CN:Z)(D:Nat->Z)(H:G)(a:Z)(M:VK)(N:XK):mn->Prop
 |.ok (c,b)=>∀A q,bK a H q->eG K CL C CN q a c->q A=Y (.lst (hQ b))->b.length<=5000->M (.ref A) q
 |.error n=>∀q,Ext H q->N (.ref (D n)) O q
variable{IR:VK}{wT:Nat->Z}{FS:XK}
def gf.tell{l:List Nat}(Q:gf K p L pr wT H s3 IR FS (Vacfaf.tell Ch l))(S:eG K p L pr H s3 Ch)(G:Ext H q)(T:l.length<=5000)(b:q d=Y (.lst ((nI l).map V.int))):IR (.ref d) q:=
 Q d q G.but (S.ext G) (by rw [tN];exact b) T
def j0(K:ah)(CL C CN:Z)(A:Nat->Z)(c:k6):Sp:=λD H G M=>∃d Ch,D=[.ref d]/\eG K CL C CN H d Ch/\gf K CL C CN A H d G M (fM Ch c)
def j1(K:ah)(CL C CN:Z)(D:Nat->Z)(c:Int->k6):Sp:=λG H M N=>∃d Ch A,G=[.ref d,.int A]/\eG K CL C CN H d Ch/\gf K CL C CN D H d M N (fM Ch (c A))
def EE(K:ah)(CL C CN:Z)(D:Nat->Z)(c:Int->Int->k6):Sp:=λG H M N=>∃d Ch y A,G=[.ref d,.int y,.int A]/\eG K CL C CN H d Ch/\gf K CL C CN D H d M N (fM Ch (c y A))
def nj(K:ah)(CL C CN D:Z):Sp:=λG H M N=>∃d Ch,∃A:Int,G=[.ref d,.int A]/\eG K CL C CN H d Ch/\(0<=A/\A<(size Ch.prog:Int)->M .br H)/\(¬(0<=A/\A<(size Ch.prog:Int))->N (.ref D) O H)
def Pa(w:a7 K "check_node" "Ladder.check_node" (ef 14) pr o0)(N:g5 K p)(e:z "NoNode"=Y (.ref d))(f:gS K d f5 "Exception.__new__"=I)(g:cC l m K z B aD 1 L "has_node" ["self","label"] (Dk K L s3)):aS l m K z B (bA l m) 2 pr o0 ["self","label"] (nj K p L s3 d):=by
 refine w.eu ["self","label"] λs q r t H u v x Q h _ _ _=> ?_;obtain⟨ww,Ch,D,rfl,i,j,k⟩:=h;refine⟨_,ax (bH (rQ (ko (eK (E:=E0) (aG 0) g Q cy (aK 1)))) (ax (jN kd (by decide) f S e Q.hd)) bP), ?_⟩;obtain⟨U,T,lk,y,C,b,_⟩:=i.ex;obtain⟨n,G,A,P,R,V,o,_⟩:=b.ex;refine⟨_,S,ww,p,U,_,_,S,C,N.cl,N.program,S,T,n,_,S,o,S,_,S,T,Ch.prog,D,S,b,_,S, ?_⟩;by_cases c:0<=D/\D<(size Ch.prog:Int)
 .rw [ck c];exact b1 (j c)
 .rw [bT c];exact cf (k c)
def Pb{Xn:Nat->Z}(b:a7 K "tell_text" "Ladder.tell_text" (ef 2) pr o0)(A:g5 K d)(G:eE K p s3)(n:z "len"=O):aS l m K z B (bA l m) 1 pr o0 ["self"] (j0 K d p s3 Xn .show_):=by
 refine b.eu ["self"] λu v x y H w s E F P _ _ sz=> ?_;obtain⟨L,Ch,rfl,c,q⟩:=P;refine⟨_,ax (aQ (hh lx (dg (D (cR en (by rfl) n dD (D (fX (aG 0) S) aC)) aC)) (fX (aG 0) S))), ?_⟩;obtain⟨a,e,lk,C,f,Q,_⟩:=c.ex;obtain⟨g,h,R,W,X,ab,i,j,_⟩:=Q.ex;have ad:=Ea _ Q.ok.told
 have al:=Q.ok.bF;have k:(cF (bj Ch.prog)).length=(bj Ch.prog).length:=ag _
 refine⟨_,S,L,d,a,_,_,S,f,A.cl,A.program,S,e,p,g,_,_,S,i,G.p.c,G.text,S,h,_,S,.inl (au.of j),eM,λT r=> ?_⟩;have N:∀{o},Ext H (upd H T o):=Ext.one r
 refine⟨_,S,L,d,a,_,_,S,N _ _ f,A.cl,A.program,S,e,p,g,_,_,S,N _ _ i,G.p.c,G.text,S,T,h,_,_,S,S,M,N _ _ j,by rw [k];show 1+_<=_;omega,λam t=> ?_⟩;refine gf.tell q c (N.new t) ?_ ?_
 .show((bj Ch.prog).map _).length+1<=_;rw [ag];omega
 .rw [M,k];show Y (HO.lst (V.int ((bj Ch.prog).length:Nat)::cF (bj Ch.prog)))=_
  unfold nI Vacfaa.toldText cF;rw [aV,aV,eh,eh];rfl
variable{wP:dz}
def Pc{Xn:Nat->Z}(x:a7 K "tell_set" "Ladder.tell_set" (ef 3) s3 o0)(Q:g5 K d)(P:z "NODE_PLACE"=Y (.int 0 wP))(E:bx l m K z B (bA l m) 1 "check_rung" ["rung"] (x6 (Xn 2)))(F:cC l m K z B (bA l m) 2 d "check_node" ["self","label"] (nj K d L pr (Xn 3)))(w:bx l m K z B aD 7 "table_of_rung" ["program","rung"] (tI l m K L pr)) (R:bx l m K z B aD 1 "sorts_at" ["program","table","place"] (s6 l m K L)) (V:bx l m K z B aD 1 "counted_twos" ["twos"] (ph K)):aS l m K z B (bA l m) 8 s3 o0 ["self","rung","label"] (EE K d L pr Xn .set):=by
 refine x.eu ["self","rung","label","table"] λbs bt bv ca H cd ce ch e W X _ _=> ?_;obtain⟨p,Ch,y,ab,rfl,f,A⟩:=W;have g:=e.mo 1
 have ad:=e.mo 2;refine⟨_,ar (cL (gL E g dt (aK 1))) (ar (cL (eK (T 0) F ad dt (aK 2))) (ar (bo 3 X (bG w e (D (aG 0) (aK 1)))) (ax (aQ (bG V g (D (bG R g (D (aG 0) (D (T 3) (D (b6 (D (b8 P) (aK 2))) aC)))) aC)))))), ?_⟩;obtain⟨h,a,lk,ci,i,j,_⟩:=f.ex;have G:=j.ok
 have cl:=G.bF;refine⟨_,S,y,S, ?_⟩;unfold fM at A;dsimp only at A;by_cases c:0<=y/\y<4
 .rw [ak c];rw [Ew c]at A;refine⟨_,S,p,h,_,S,i,S,_,S,p,Ch,ab,S,f,λk=> ?_,λk=> ?_⟩
  .obtain⟨q,s,al,am⟩:=pw G k;rw [am]at A;have an:y=((y.toNat:Nat):Int):=by omega
   refine⟨_,S,p,d,h,_,_,S,i,Q.cl,Q.program,S,_,S,a,Ch.prog,y.toNat,by rw [<-an];rfl,j,λap r as b a0=> ?_⟩;have a1:=j.ext b.ext
   obtain⟨a2,cn,co,cr,a3,cs,a4,_,_,_,a5,_⟩:=a1.ex;obtain⟨bd,be,bi,ct⟩:=wJ G a0 (gp s);refine⟨_,S,p,d,h,_,_,S,b.ext _ _ i,Q.cl,Q.program,S,_,S,_,S,cE,λt bk=> ?_⟩;have U:∀{o},Ext r (upd r t o):=Ext.one bk
   have c0:=lK Ch.prog;refine⟨a,ap,t,a3,_,as,(0,af q),bd,S,⟨a2,_,U _ _ a4,S⟩,a5.ext U,by rw [ag];omega,b.at.ext U,by rw [al];exact av.of M,be,λbl c1 bm c2 u _=> ?_⟩;rw [bi]at u;have c3:(((bq Ch.prog).filter (gu Ch.prog y.toNat (.node (af q)))).map a9).length<=31:=by rw [ag];exact cq (i2 _ _) (by omega)
   refine⟨bl,_,S,u,by omega,λc4 c5 bn c6 v=> ?_⟩;rw [<-EA G y.toNat s]at v;refine gf.tell A f (((b.ext.trans U).trans bm).trans bn) ?_ v;have:=bN cN (EA G y.toNat s)
   unfold nI at this;rw [ag,q5]at this;omega
  .rw [px G k]at A;exact A H (Ext.refl H)
 .rw [N c];rw [Ey c]at A;exact A H (Ext.refl H)
def Pd(D:bD pi)(G:Pl->cx->Bool)(c:Nat):(eV (((bq pi).filter (G (.node c))).map a9)).length<=31:=by
 have M:=lK pi;have N:=D.bF
 unfold eV;refine cq (iZ _ _) ?_;rw [ag];exact cq (i2 _ _) (by omega)
variable{Xn:Nat->Z}
def Pe(q:a7 K "tell_arrows" "Ladder.tell_arrows" (ef 4) pr o0)(Q:g5 K d)(r:bx l m K z B (bA l m) 1 "check_rung" ["rung"] (x6 (Xn 2)))(s:bx l m K z B aD 7 "table_of_rung" ["program","rung"] (tI l m K p L)) (t:bx l m K z B aD 3 "arrows_of" ["program","table"] (xJ l m K p L)) (u:bx l m K z B aD 1 "counted_twos" ["twos"] (ph K)):aS l m K z B (bA l m) 8 pr o0 ["self","rung"] (j1 K d p L Xn .arrows):=by
 refine q.eu ["self","rung"] λR V W X H ab ad al T v am _ _=> ?_;obtain⟨f,A,y,rfl,g,G⟩:=v;have h:=T.mo 1
 have i:=T.mo 3;refine⟨_,ar (cL (gL r h dt (aK 1))) (ax (aQ (bG u h (D (bG t i (D (aG 0) (D (bG s T (D (aG 0) (aK 1))) aC))) aC)))), ?_⟩;obtain⟨j,k,lk,an,U,a,_⟩:=g.ex;have M:=a.ok
 refine⟨_,S,y,S, ?_⟩;unfold fM at G;dsimp only at G;by_cases c:0<=y/\y<4
 .rw [ak c];rw [Ew c]at G;have x:y=((y.toNat:Nat):Int):=by omega
  refine⟨_,S,f,d,j,_,_,S,U,Q.cl,Q.program,S,_,S,f,d,j,_,_,S,U,Q.cl,Q.program,S,_,S,k,A.prog,y.toNat,by rw [<-x];rfl,a,λCL ap C b n=> ?_⟩;refine⟨k,A.prog,CL,C,S,a.ext b.ext,b.at,ED M n,λP as E a0 o=> ?_⟩;have F:(hM (infos O A.prog) λc=>eV (g4 A.prog ((ba C (0,c)).getD [])))=hM (infos O A.prog) λc=>eV (((bq A.prog).filter (gu A.prog y.toNat (.node c))).map a9):=EC M n
  rw [F]at o;have a1:=O8 M _ (Pd M (gu A.prog y.toNat))
  refine⟨P,_,S,o,by omega,λi a2 w a3 e=> ?_⟩;rw [<-EB M y.toNat]at e;refine gf.tell G g ((b.ext.trans E).trans w) ?_ e;have:=bN cN (EB M y.toNat)
  unfold nI at this;rw [ag,q5]at this;omega
 .rw [N c];rw [Ey c]at G;exact G H (Ext.refl H)
def Pf(y:a7 K "tell_class" "Ladder.tell_class" (ef 6) pr o0)(a:g5 K d)(P:z "NODE_PLACE"=Y (.int 0 wP))(E:cC l m K z B (bA l m) 2 d "check_node" ["self","label"] (nj K d p L (Xn 3)))(F:bx l m K z B aD 5 "last_classes" ["program"] (tH l m K p L)) (w:bx l m K z B aD 1 "members" ["program","classes","place"] (xU l m K p L)) (R:bx l m K z B aD 1 "counted_twos" ["twos"] (ph K)):aS l m K z B (bA l m) 6 pr o0 ["self","label"] (j1 K d p L Xn .class_):=by
 refine y.eu ["self","label"] λa5 bd be bi H bk bl bm U V _ _ _=> ?_;obtain⟨b,G,W,rfl,e,N⟩:=V;have n:=U.mo 1
 have X:=U.mo 2;refine⟨_,ar (cL (eK (T 0) E X dt (aK 1))) (ax (aQ (bG R n (D (bG w n (D (aG 0) (D (bG F U (D (aG 0) aC)) (D (b6 (D (b8 P) (aK 1))) aC)))) aC)))), ?_⟩;obtain⟨f,C,lk,bn,g,h,_⟩:=e.ex;have Q:=h.ok
 unfold fM at N;dsimp only at N;refine⟨_,S,b,f,_,S,g,S,_,S,b,G,W,S,e,λi=> ?_,λi=> ?_⟩
 .obtain⟨c,ab,ad,al⟩:=pw Q i;rw [al]at N;have j:b0 c∈aq G.prog:=gp ab
  refine⟨_,S,b,d,f,_,_,S,g,a.cl,a.program,S,_,S,b,d,f,_,_,S,g,a.cl,a.program,S,C,G.prog,S,h,λam q an r bs ap s t=> ?_⟩;refine⟨_,S,cE,λu as=> ?_⟩;have k:∀{o},Ext q (upd q u o):=Ext.one as
  refine⟨C,G.prog,am,an,u,b0 c,S,h.ext (r.trans k),ap.ext k,j,by rw [ad];exact av.of M,λa0 bt a1 bv ⟨a2,a3,v⟩=> ?_⟩;rw [wM Q s t j]at v;have ca:((cI (hb G.prog) (b0 c)).map A).length<=90:=by
   rw [<-wM Q s t j,ag];have:=places_len G.prog
   have:=Q.bF;exact cq (i2 _ _) (by omega)
  refine⟨a0,_,S,⟨a2,au.of a3,v⟩,by omega,λcd ce a4 ch x=> ?_⟩;rw [<-sR]at x;refine gf.tell N e (((r.trans k).trans a1).trans a4) ?_ x;have:=bN cN (sR (cI (hb G.prog) (b0 c)))
  rw [ag,q5]at this;omega
 .rw [px Q i]at N;exact N H (Ext.refl H)
def Ph{f:Z}(q:a7 K "tell_classes" "Ladder.tell_classes" (ef 7) f o0)(Q:g5 K d)(r:z "len"=O)(s:z "max"=O)(t:bx l m K z B aD 5 "last_classes" ["program"] (tH l m K p L)) (u:bx l m K z B aD 2 "class_sizes" ["program","classes"] (DO l m K p L)):aS l m K z B (bA l m) 6 f o0 ["self"] (j0 K d p L Xn .classes):=by
 refine q.eu ["self","sizes"] λas a0 a1 a2 H a3 a4 a5 h v x _ _=> ?_;obtain⟨i,G,rfl,j,T⟩:=v;have CN:=h.mo 2
 refine⟨_,ar (bo 1 x (bG u CN (D (aG 0) (D (bG t h (D (aG 0) aC)) aC)))) (ax (aQ (dg (D (cR en (by rfl) r dD (aK 1)) (D (cR (I4 S) (by rfl) s (by decide+kernel) (aK 1)) aC))))), ?_⟩;obtain⟨k,A,lk,bd,C,a,_⟩:=j.ex;have P:=a.ok
 unfold fM at T;dsimp only at T;refine⟨_,S,i,d,k,_,_,S,C,Q.cl,Q.program,S,_,S,i,d,k,_,_,S,C,Q.cl,Q.program,S,A,G.prog,S,a,λE be N g bi F b w=> ?_⟩;refine⟨A,G.prog,E,N,S,a.ext g,F,λn bk R bl o=> ?_⟩;have U:=Mi P b w
 have CL:=gp (hE G.prog);have V:=List.length_pos_of_mem (d8 (f:=λA=>((aq G.prog).filter λe=>decide (N e=N A)).length) (dA.mpr ⟨b.hN _ CL,ck (b.rep _ CL)⟩:_∈(aq G.prog).filter λA=>decide (N A=A)))
 generalize ((aq G.prog).filter λA=>decide (N A=A)).map (λA=>((aq G.prog).filter λe=>decide (N e=N A)).length)=sz at*;have W:sz.length=(hb G.prog).length:=by rw [U.length_eq,ag]
 refine⟨_,S,n,_,S,.inl (au.of o),_,S,n,nI sz,S,au.of (by rw [o];show Y (HO.lst (hQ sz))=_;rw [tN]),by unfold nI;rw [ag];exact V,λbm X ab=>⟨cE,λbn ad=> ?_⟩⟩;obtain⟨al,am,rfl⟩:=bE.mp X;have an:((hb G.prog).map λc=>c.length).foldl max 0=al:=by
  refine LD (U.mem_iff.mp am) λy ap=> ?_;have:=ab (zh y) (d8 (U.mem_iff.mpr ap))
  exact Int.ofNat_le.mp this
 rw [an]at T;refine gf.tell T j ((g.trans R).new ad) (by show 2<=5000;decide) ?_;rw [M,ag,W];rfl
def Pj(G:bD pi)(N:bI pi pc wp):pc.length<=90:=by
 have:=bN cN N.keys;rw [ag,ag]at this;have Q:=places_len pi
 have S:=G.bF;omega
def EF(A:Ex)(D:Nat):List Nat:=[(mj A D).length,(rD A (mj A D)).length]
def jw(A:Ex)(D:Nat):List Nat:=(eY D).flatMap (EF A)
def EG(A:Ex)(D:Nat):jw A (D+1)=jw A D++EF A D:=by unfold jw;rw [p4,kZ];congr 1
def EH(D:Ex)(A:Nat):(jw D A).length=2*A:=by
 induction A with
 |zero=>rfl
 |succ A a=>rw [EG,bB,a];show _+2=_;omega
def Pk{P:az}(a0:a7 K "tell_counts" "Ladder.tell_counts" (ef 5) s3 o0)(i:g5 K p)(a1:z "len"=O)(a2:z "RUNGS"=Y (.ref d))(W:∀H,av K H d [.int 0,.int 1,.int 2,.int 3])(a3:bx P m K z B aD 7 "table_of_rung" ["program","rung"] (tI P m K L pr)) (a4:bx P m K z B aD 3 "arrows_of" ["program","table"] (xJ P m K L pr)) (a5:bx P m K z B aD 1 "how_many_facts" ["table"] (xH P m K)):aS P m K z B (bA P m) 8 s3 o0 ["self"] (j0 K p L pr Xn .counts):=by
 refine a0.eu ["self","counts","rung","table"] λce ch ci cl H cn co cr R bd q _ sz=> ?_;obtain⟨r,A,rfl,X,s⟩:=bd;have be:=R.mo 1
 have bi:=R.mo 3;refine⟨_,ar (bo 1 q (dg aC)) (ar (d2 zr S (HH (el (v:=.ref d) S a2 S)) (bW 2 q) (ar (bo 3 q (bG a3 R (D (aG 0) (aK 2)))) (ar (cL (fj fB gh gH fY (T 1) (D (bG a5 be (aK 3)) aC))) (ax (cL (fj fB gh gH fY (T 1) (D (cR en (by rfl) a1 dD (D (bG a4 bi (D (aG 0) (aK 3))) aC)) aC))))))) (ax (aQ (T 1)))), ?_⟩;obtain⟨ab,ad,lk,cs,al,t,_⟩:=X.ex;have h:=t.ok
 unfold fM at s;dsimp only at s;refine⟨cP _,λN u=> ?_⟩;have bk:∀{o},Ext H (upd H N o):=Ext.one u
 refine⟨d,S,⟨_,W _⟩, ?_⟩;refine HM (xs:=[.int 0,.int 1,.int 2,.int 3]) (λG j e=>∃x y,j=[Y (.ref r),Y (.ref N),x,y]/\e N=Y (.lst (hQ (jw A.prog G)))/\Ext H e) ?_ ?_ ?_ ?_
 .exact⟨O,O,S,M,bk⟩
 .rintro G j e _ _;exact W _
 .rintro G v j e a ⟨x,y,rfl,k,f⟩;have bl:G<4/\v=.int (G:Nat):=by
   match G,a with
   |0,a=>exact⟨by decide,(a8 a).symm⟩
   |1,a=>exact⟨by decide,(a8 a).symm⟩
   |2,a=>exact⟨by decide,(a8 a).symm⟩
   |3,a=>exact⟨by decide,(a8 a).symm⟩
  obtain⟨ct,rfl⟩:=bl;refine⟨_,S,r,p,ab,_,_,S,f _ _ al,i.cl,i.program,S,_,S,ad,A.prog,G,S,t.ext f,λV c0 Q C g=> ?_⟩;have am:=C.ext _ _ k
  have c1:=EH A.prog G;have bm:ey Q=(mj A.prog G).length:=by rw [sP];exact wK h g
  refine⟨_,S,.inl ⟨S,_,au.of am⟩,_,S,V,Q,S,C.at,g.nodup h,by have:=Pj h g;omega,λn w=> ?_⟩;have bn:=w _ _ am
  refine⟨N,_,_,S,S,bn,by unfold hQ;rw [ag];omega, ?_⟩;have E:Ext H (upd n N (.lst (hQ (jw A.prog G)++[.int (ey Q:Nat)]))):=((f.trans C.ext).trans w).upd u
  have bs:TabAt P m K (upd n N (.lst (hQ (jw A.prog G)++[.int (ey Q:Nat)]))) V Q:=((C.on w).both (b:=N) (.inl ⟨_,k,λ_=>⟨(λU=>by cases U),λ_ U=>by cases U⟩⟩)).at
  have an:upd n N (.lst (hQ (jw A.prog G)++[.int (ey Q:Nat)])) N=Y (.lst (hQ (jw A.prog G)++[.int (ey Q:Nat)])):=M;generalize upd n N (.lst (hQ (jw A.prog G)++[.int (ey Q:Nat)]))=c2 at*;refine⟨_,S,.inl ⟨S,_,au.of an⟩,_,S,r,p,ab,_,_,S,E _ _ al,i.cl,i.program,S,_,S,ad,A.prog,V,Q,S,t.ext E,bs,ED h g,λbt c3 ap c4 ⟨c5,bv,as⟩=> ?_⟩;have ca:(hM (infos O A.prog) λc=>eV (g4 A.prog ((ba Q (0,c)).getD [])))=hM (infos O A.prog) λc=>eV (((bq A.prog).filter (gu A.prog G (.node c))).map a9):=EC h g
  rw [ca]at as;have cd:=O7 h G
  refine⟨bt,_,S,.inl bv,N,_,_,S,S,ap _ _ an,by rw [bB];unfold hQ;rw [ag];show _+1<_;omega,_,_,S, ?_,(E.trans ap).upd u⟩;rw [M,EG,ag,bL as,cd,bm];unfold hQ;rw [aW,cv];rfl
 .rintro j e ⟨x,y,rfl,k,f⟩;refine⟨_,S, ?_⟩;exact gf.tell (l:=jw A.prog 4) s X f (by rw [EH];decide) (by rw [<-tN];exact k)
def Pm{c:Z}(i:a7 K "tell_size" "Ladder.tell_size" (ef 13) c o0)(G:g5 K p)(A:eE K d L)(N:z "len"=O):aS l m K z B (bA l m) 1 c o0 ["self"] (j0 K p d L Xn .size):=by
 refine i.eu ["self","program"] λF P R V H W X ab ad j k _ _=> ?_;obtain⟨e,w,rfl,f,Q⟩:=j;refine⟨_,ar (bo 1 k (aG 0)) (ax (aQ (dg (D (cR en (by rfl) N dD (D (aG 1) aC)) (D (cR en (by rfl) N dD (D (aG 1) aC)) (D (cR en (by rfl) N dD (D (aG 1) aC)) (D (cR en (by rfl) N dD (D (aG 0) aC)) aC))))))), ?_⟩;obtain⟨g,T,lk,al,h,U,n,o,_⟩:=f.ex;obtain⟨a,am,CL,an,q,r,b,_,⟨s,t,_,u,_⟩,_,⟨ap,v,x⟩,as,y,CN⟩:=U.ex;unfold fM at Q;dsimp only at Q;refine⟨_,S,e,p,g,_,_,S,h,G.cl,G.program,S, ?_⟩;refine⟨_,S,T,d,a,_,_,S,b,A.p.c,A.p.nodes,S,CL,_,S,.inl (au.of t),_,S,T,d,a,_,_,S,b,A.p.c,A.p.places,S,r,_,S,.inl y,_,S,T,d,a,_,_,S,b,A.p.c,A.p.sorts,S,q,_,S,.inl v,_,S,e,p,g,_,_,S,h,G.cl,G.kept,S,lk,_,S,.inl (au.of n),(by show 4<=aR;decide),λa0 C=> ?_⟩;refine gf.tell Q f (Ext.one C) (by show 4<=5000;decide) ?_;have E:s.length=(bJ w.prog).length:=by have:=bN cN u;rw [ag,e7]at this;rw [this,hp]
 rw [M,ag,ag,ag,ag,E,bL CN,bL x,bL o,ag,ag];rfl
def Pn(ab:a7 K "tell_asked" "Ladder.tell_asked" (ef 8) s3 o0)(b:g5 K d)(c:kN K L)(ad:z "len"=O)(am:z "NODE_PLACE"=Y (.int 0 wP))(an:cC l m K z B (bA l m) 2 d "check_node" ["self","label"] (nj K d p pr (Xn 3)))(ap:bx l m K z B aD 6 "ask_alone" ["program","place"] (tM l m K L p pr)) (as:bx l m K z B aD 1 "sorts_at" ["program","table","place"] (s6 l m K p)) (a0:bx l m K z B aD 1 "counted_twos" ["twos"] (ph K)):aS l m K z B (bA l m) 7 s3 o0 ["self","label"] (j1 K d p pr Xn .ask):=by
 refine ab.eu ["self","label","place","asked"] λc5 c6 c7 c8 H c9 db dd f a1 s _ sz=> ?_;obtain⟨U,G,g,rfl,h,N⟩:=a1;have t:=f.mo 1
 have a2:=f.mo 2;refine⟨_,ar (cL (eK (T 0) an a2 dt (aK 1))) (ar (bo 2 s (b6 (D (b8 am) (aK 1)))) (ar (bo 3 s (bG ap f (D (aG 0) (aK 2)))) (ax (aQ (hh lx (bG a0 t (D (bG as t (D (aG 0) (D (aG 3) (aK 2)))) aC)) (dg (D (cR ox (by rfl) ad dD (D (aG 3) aC)) aC))))))), ?_⟩;obtain⟨i,u,lk,dl,j,k,_⟩:=h.ex;have C:=k.ok
 have dp:=C.bF;unfold fM at N;dsimp only at N;refine⟨_,S,U,i,_,S,j,S,_,S,U,G,g,S,h,λq=> ?_,λq=> ?_⟩
 .obtain⟨Q,a3,a4,a5⟩:=pw C q;rw [a5]at N;have bd:b0 Q∈aq G.prog:=gp a3
  refine⟨_,S,cE,λa be=> ?_⟩;have n:∀{o},Ext H (upd H a o):=Ext.one be
  have v:av K (upd H a (.tup [.int 0,.int g])) a (b2 (A (b0 Q))):=by rw [a4];exact av.of M
  refine⟨_,S,U,d,i,_,_,S,n _ _ j,b.cl,b.program,S,_,S,u,a,G.prog,b0 Q,S,k.ext n,bd,v,λx ds y bi=> ?_⟩;obtain⟨CL,dx,bk,bl,P,bm,bn,bs,E,bt,bv,ca,cd,dK,ce,ch,F⟩:=bi.ex;have r:=(n (o:=.tup [.int 0,.int g])).trans y
  obtain⟨ci,dL,dT,dX,cl,d0,cn,_,_,_,co,_⟩:=(k.ext r).ex;have d1:=lK G.prog
  refine⟨_,S,U,d,i,_,_,S,r _ _ j,b.cl,b.program,S,_,S,x,L,CL,_,_,S,E,c.cl,c.found,S,_,S,u,bl,a,cl,_,bn,A (b0 Q),bs,S,⟨ci,_,cn,S⟩,co,by rw [ag];omega,cd,y.aP v,ch,λcr em cs eq w _=> ?_⟩;rw [F]at w;have es:((kg G.prog (b0 Q)).map a9).length<=31:=by rw [<-F];exact cq (i2 _ _) (by rw [ag];omega)
  refine⟨cr,_,S,w,by omega,λct R c0 ev V=> ?_⟩;rw [<-told_set]at V;have e:=cs.trans c0
  refine⟨_,S,x,L,CL,_,_,S,e _ _ E,c.cl,c.looked,S,bk,P,S,e _ _ bt,e.keys bv,eM,λW c1=> ?_⟩;have c2:=bN cN (told_set (kg G.prog (b0 Q)))
  rw [ag,q5]at c2;have X:∀{o},Ext R (upd R W o):=Ext.one c1
  refine⟨ct,W,_,_,S,S,X _ _ V,M,by rw [ag,ag];show _+1<=_;omega,λex c3=> ?_⟩;refine gf.tell N h ((r.trans (e.trans X)).new c3) (by rw [bB];show _+1<=_;omega) ?_;have c4:P.length=bm.length:=by have:=bN cN ca;rwa [ag,ag,ag]at this
  rw [M,c4,ce];unfold nI;rw [aW,aW];rfl
 .rw [px C q]at N;exact N H (Ext.refl H)
def Po(bl:a7 K "tell_funs" "Ladder.tell_funs" (ef 9) s3 o0)(b:g5 K d)(j:kN K pr)(P:z "len"=O)(bm:z "NoCall"=Y (.ref (Xn 5)))(bn:gS K (Xn 5) f5 "Exception.__new__"=I)(bs:cC l m K z B (bA l m) 2 d "check_node" ["self","label"] (nj K d p L (Xn 3)))(bt:cC l m K z B aD 1 p "is_call" ["self","label"] (Dl K p L)) (bv:cC l m K z B aD 1 p "first_part_of" ["self","label"] (tm K p L)) (ca:bx l m K z B aD 6 "ask_alone" ["program","place"] (tM l m K pr p L)) (cd:bx l m K z B aD 2 "functions_at" ["program","table","place"] (xI l m K p L)):aS l m K z B (bA l m) 7 s3 o0 ["self","label"] (j1 K d p L Xn .funs):=by
 refine bl.eu ["self","label","place","asked","funs"] λdL dT dX d0 H d1 ce ch k ci n _ sz=> ?_;obtain⟨Q,G,cl,rfl,CL,A⟩:=ci;have R:=k.mo 1
 have X:=k.mo 2;refine⟨_,ar (cL (eK (T 0) bs X dt (aK 1))) (ar (bH (rQ (ko (eK (E:=E0) (aG 0) bt R cy (aK 1)))) (ax (jN kd (by decide) bn S bm k.hd)) bP) (ar (bo 2 n (eK (E:=E0) (aG 0) bv R cy (aK 1))) (ar (bo 3 n (bG ca k (D (aG 0) (aK 2)))) (ar (bo 4 n (bG cd X (D (aG 0) (D (aG 3) (aK 2))))) (ax (aQ (hh lx (hh lx (dg (D (cR en (by rfl) P dD (aK 4)) aC)) (T 4)) (dg (D (cR ox (by rfl) P dD (D (aG 3) aC)) aC))))))))), ?_⟩;obtain⟨g,w,lk,em,h,e,_⟩:=CL.ex;obtain⟨ab,eq,es,ev,ex,fa,ad,_⟩:=e.ex;have q:=e.ok
 have fd:=q.bF;unfold fM at A;dsimp only at A;refine⟨_,S,Q,g,_,S,h,S,_,S,Q,G,cl,S,CL,λr=> ?_,λr=> ?_⟩
 .obtain⟨a,s,al,cn⟩:=pw q r;rw [cn]at A;refine⟨_,S,Q,d,g,_,_,S,h,b.cl,b.program,S,w,ab,_,S,ad,S,_,S,w,G.prog,a,by rw [al];rfl,e,s,_,S, ?_⟩;by_cases c:aA a=.call
  .rw [ck c];obtain⟨i,N,f,rfl⟩:∃i N f,a=.app i N f:=by
    cases a with
    |app i N f=>exact⟨_,_,_,S⟩
    |var fl y=>simp only [aA]at c;split at c<;>cases c
    |_=>cases c
   dsimp only at A;have co:b0 N∈aq G.prog:=jQ s (by simp [kids])
   refine b1 ⟨_,S,Q,d,g,_,_,S,h,b.cl,b.program,S,w,ab,_,S,ad,S,_,S,w,G.prog,.app i N f,N,[f],by rw [al];rfl,e,s,S,λam fm t fn an=> ?_⟩;refine⟨_,S,Q,d,g,_,_,S,t _ _ h,b.cl,b.program,S,_,S,w,am,G.prog,b0 N,S,e.ext t,co,an,λap fr as cr=> ?_⟩;obtain⟨a0,fT,cs,ct,a1,c0,c1,a2,a3,c2,c3,c4,c5,f0,c6,c7,a4⟩:=cr.ex;have u:=t.trans as
   refine⟨_,S,Q,d,g,_,_,S,u _ _ h,b.cl,b.program,S,_,S,ap,pr,a0,_,_,S,a3,j.cl,j.found,S,_,S,w,G.prog,ct,c1,am,_,a2,S,e.ext u,c5,as.aP an,c7,λa5 C c8 f1 v=> ?_⟩;have c9:g4 G.prog a2=(kg G.prog (b0 N)).map a9:=a4
   rw [c9,BS]at v;have f2:=lK G.prog
   have bd:((kg G.prog (b0 N)).map a9).length<=31:=by rw [<-a4];exact cq (i2 _ _) (by rw [ag];omega)
   have f4:((kg G.prog (b0 N)).filterMap λQ=>match Q with
    |.fn A=>Y A
    |_=>O).length<=31:=by
    rw [ag]at bd;exact cq (iZ _ _) bd
   generalize ((kg G.prog (b0 N)).filterMap λQ=>match Q with
    |.fn A=>Y A
    |_=>O)=fs at*
   refine⟨_,S,a5,_,S,.inl (au.of v),eM,λx db=> ?_⟩;have be:∀{o},Ext C (upd C x o):=Ext.one db
   refine⟨_,S,x,a5,_,_,S,S,M,be _ _ v,by rw [ag];show 1+_<=_;omega,λbi dd=> ?_⟩;have dl:∀{o},Ext C (upd (upd C x (.lst [.int ((fs.map λa=>V.int (a:Nat)).length:Nat)])) bi o):=be.new dd
   have U:=c8.trans (dl (o:=.lst ([.int ((fs.map λa=>V.int (a:Nat)).length:Nat)]++fs.map λa=>V.int (a:Nat))));refine⟨_,S,ap,pr,a0,_,_,S,U _ _ a3,j.cl,j.looked,S,cs,a1,S,U _ _ c2,U.keys c3,eM,λdp bk=> ?_⟩;refine⟨bi,dp,_,_,S,S,(Ext.one bk) _ _ M,M,by rw [bB,ag];show 1+_+1<=_;omega,λf8 ds=> ?_⟩;refine gf.tell A CL (((u.trans U).new bk).new ds) (by rw [bB];show fs.length+1+1<=_;omega) ?_;have dx:a1.length=c0.length:=by have:=bN cN c4;rwa [ag,ag,ag]at this
   rw [M,dx,c6,ag];unfold nI Vacfaa.toldNats;rw [aW,aW,aV,aV,eh];rfl
  .rw [bT c];have ga:A=A:=rfl
   have dK:gf K d p L Xn H Q ce ch (.error 5):=by
    cases a with
    |app i N f=>exact absurd rfl c
    |_=>exact A
   exact cf (dK H (Ext.refl H))
 .rw [px q r]at A;exact A H (Ext.refl H)
def Pp(bm:a7 K "tell_looked" "Ladder.tell_looked" (ef 10) s3 o0)(U:g5 K p)(ad:kN K pr)(al:eE K d L)(bs:z "NODE_PLACE"=Y (.int 0 wP))(bt:cC l m K z B (bA l m) 2 p "check_node" ["self","label"] (nj K p d L (Xn 3)))(bv:bx l m K z B aD 6 "ask_alone" ["program","place"] (tM l m K pr d L)) (ca:bx l m K z B aD 1 "counted_twos" ["twos"] (ph K)):aS l m K z B (bA l m) 7 s3 o0 ["self","label"] (j1 K p d L Xn .looked):=by
 refine bm.eu ["self","label","asked","place"] λd0 d1 em eq H es ev ex r j s t sz=> ?_;obtain⟨X,G,x,rfl,y,h⟩:=j;have cd:=r.mo 1
 have ce:=r.mo 2;refine⟨_,ar (cL (eK (T 0) bt ce dt (aK 1))) (ar (bo 2 s (bG bv r (D (aG 0) (D (b6 (D (b8 bs) (aK 1))) aC)))) (ax (aQ (bG ca cd (D (f3 (own:=[("place",3)]) S s (dy (fX (aG 0) S)) (e3 S) (λG H d am an=>bW 3 s) (λG H d am an=>kx (i5 (Cm l m K t (T 3) (w1 K (T 2) S)) S)) (λG H d am an=>T 3)) aC))))), ?_⟩;obtain⟨CN,ap,lk,fa,P,E,_⟩:=y.ex;have n:=E.ok
 have fd:=n.bF;unfold fM at h;dsimp only at h;refine⟨_,S,X,CN,_,S,P,S,_,S,X,G,x,S,y,λF=> ?_,λF=> ?_⟩
 .obtain⟨Q,ch,ci,cl⟩:=pw n F;rw [cl]at h;have cn:b0 Q∈aq G.prog:=gp ch
  refine⟨_,S,X,p,CN,_,_,S,P,U.cl,U.program,S,_,S,cE,λCL co=> ?_⟩;have as:∀{o},Ext H (upd H CL o):=Ext.one co
  have cr:av K (upd H CL (.tup [.int 0,.int x])) CL (b2 (A (b0 Q))):=by rw [ci];exact av.of M
  refine⟨ap,CL,G.prog,b0 Q,S,E.ext as,cn,cr,λcs ct c0 c1=> ?_⟩;obtain⟨c2,fl,c3,fm,c4,e,fn,fr,c5,c6,c7,c8,fs,c9,fT,f0,f1⟩:=c1.ex;have w:=(as (o:=.tup [.int 0,.int x])).trans c0
  obtain⟨db,dd,dl,dp,ds,dx,a0,a1⟩:=(E.ext w).places;refine⟨_,S,X,p,CN,_,_,S,w _ _ P,U.cl,U.program,S,ap,d,db,dd,_,S,ds,al.p.c,al.p.places,dx,dl,S,⟨_,a0⟩,λq a2=> ?_⟩;have a3:=nc n
  refine hD (xs:=dp.map V.ref) (λf b=>(∃C,b q=Y (.lst (C.map V.ref))/\fQ K b C ((((aq G.prog).map A).take f).filter λQ=>decide (Q∈e.map A))/\C.length<=f)/\Ext ct b) ?_ ?_ ?_ ?_
  .exact⟨⟨[],M,.nil,aX _⟩,Ext.one a2⟩
  .rintro f b dK ⟨_,dL⟩;exact dL.ee a0
  .rintro f v b a4 ⟨⟨C,k,i,R⟩,a⟩;rw [bh]at a4;obtain⟨c,dT,rfl⟩:=cm.mp a4;obtain⟨g,a5,bd⟩:=ez a1 dT;have dK:f<((aq G.prog).map A).length:=(cM.mp a5).1
   refine⟨S,_,S,_,S,cs,pr,c2,_,_,S,a _ _ c5,ad.cl,ad.looked,S,c3,_,S,⟨c4,pk g,c,a _ _ c6,a.keys c7,S,a.aP bd,S⟩,_,S, ?_⟩;rw [kJ c8];have be:((((aq G.prog).map A).take (f+1)).filter λQ=>decide (Q∈e.map A))=((((aq G.prog).map A).take f).filter λQ=>decide (Q∈e.map A))++(if decide (g∈e.map A)=I then [g]else []):=by
    rw [dm,a5,nM];congr 1;show GP _ [g]=_
    rw [il,uK]
   rw [be];refine eb (λW=> ?_) (λW=> ?_)
   .rw [ak W];have bi:cX (b q)\/b q=O:=.inl (by rw [k];exact trivial)
    refine⟨_,S,_,k,by rw [ag];omega,⟨C++[c], ?_,fS (Paired.cb i λ_ _=>bC bi) (bC bi (a.aP bd)),by rw [bB];exact p6 R 1⟩,a.upd a2⟩;rw [M,aW];rfl
   .rw [N W,bZ];exact⟨⟨C,k,i,GN R⟩,a⟩
  .rintro b ⟨⟨C,k,i,R⟩,a⟩;rw [ag,bL a1,dB,rv]at i;have bk:(aq G.prog).filter ((λQ=>decide (Q∈e.map A))∘A)=jD G.prog (b0 Q):=by
    rw [<-c9];refine kW λg _=> ?_;show decide (A g∈e.map A)=decide (g∈e)
    rw [hc,bE];exact⟨λ⟨u,t,j⟩=>ed j▸t,λj=>⟨_,j,S⟩⟩
   rw [bk]at i;have be:((jD G.prog (b0 Q)).map A).length<=90:=by rw [<-bk,ag];refine cq (i2 _ _) ?_;rw [ag]at a3;exact a3
   refine⟨q,_,S,⟨C,au.of k,i⟩,by omega,λf2 f4 dX f8 bl=> ?_⟩;rw [<-sR]at bl;refine gf.tell h y ((w.trans a).trans dX) ?_ bl;have:=bN cN (sR (jD G.prog (b0 Q)))
   rw [ag,q5]at this;omega
 .rw [px n F]at h;exact h H (Ext.refl H)
def EI:hX [48]=Y (.num 0 0):=by decide+kernel
def cj.len{H:G}(T:cj K p L H d pi):∃N A D S,H d=Y (.ins p N A)/\A.lookup ("nodes":aa)=Y (.ref D)/\H D=Y (.lst S)/\S.length=(bJ pi).length:=by obtain⟨N,A,D,e,_,_,a,b,c,M,_⟩:=T.node (hE pi);exact⟨N,A,D,_,a,b,c,by rw [ag,M,hp]⟩
def EJ(K:ah)(CL C CN:Z):Sp:=λG H M _=>∃A N,G=[.ref A]/\H A=Y (.ins CL N [])/\∀D,bK A H D->eG K CL C CN D A GK->M .br D
def Pq{u:Z}(v:a7 K "__init__" "Ladder.__init__" (ef 0) L o0)(b:g5 K d)(x:z "ord"=O)(y:iD l m K z B (bA l m) 9 "Program" p ["self","text"] (tj K p pr u)):aS l m K z B (bA l m) 11 L o0 ["self"] (EJ K d p pr):=by
 refine v.eu ["self"] λad al am an H ap as a0 CL C _ _ _=> ?_;obtain⟨A,G,rfl,P,E⟩:=C;refine⟨_,ar (dQ (T 0) (iE y CL dt (D (dg (D (cR zM (by rfl) x (by decide+kernel) (D dP aC)) aC)) aC)) S) (ax (dQ (T 0) (dg aC) S)), ?_⟩;refine⟨_,S,S,eM,λj F N k U w R=> ?_⟩;have h:Ext H (upd H j (.lst (cF [48]))):=Ext.one F
 have n:=((Ext.one (o:=.own N) w).new (o:=.ins p k []) ((Q R.symm).trans U))
 refine⟨N,k,j,[48],S,M,n _ _ M,by decide,(λC=>by rw [EI]at C;cases C),λa i e V W=>⟨S, ?_⟩⟩;rw [EI]at i;obtain rfl:=a8 i;have q:Ext H e:=λc o a=>V c o (n _ _ (h _ _ a)) (cB (h _ _ a) U)
 have r:=q _ _ P;refine⟨_,S,A,d,G,_,S,r,b.cl,b.program,by decide, ?_⟩;have X:bK A e (upd e A (.ins d G (aO "program" (.ref N) []))):=(bK.refl A e).g0
 refine⟨cP _,λf g=> ?_⟩;have s:f≠A:=by rintro rfl;rw [M]at g;cases g
 refine⟨_,S,A,d,G,_,S,(Q s.symm).trans M,b.cl,b.kept,(by show 1<1000;decide), ?_⟩;have t:=((X.ext (Ext.one (o:=.lst []) g)).g0 (o:=.ins d G (dc N f)))
 refine E _ (λc o a ab=>t c o (q _ _ a) ab) ⟨G,N,f,[],M,W.but t r (by show 0<5;decide),(Q s).trans M,.nil,cP _⟩
def EK(K:ah)(CL C CN:Z)(Xn:Nat->Z):Sp:=λN H Q S=>∃A G M,∃D:ai,N=[.ref A,.ref G]/\eG K CL C CN H A M/\H G=Y (.lst (cF D))/\D.length<=2000/\gf K CL C CN Xn H A Q S (fM M (.program D))
def Pt(y:a7 K "replace_program" "Ladder.replace_program" (ef 1) pr o0)(e:g5 K d)(n:eE K p L)(CL:z "len"=O)(C:iD l m K z B (bA l m) 9 "Program" p ["self","text"] (tj K p L (Xn 1))):aS l m K z B (bA l m) 11 pr o0 ["self","text"] (EK K d p L Xn):=by
 refine y.eu ["self","text"] λbk bl bm bn H bs bt bv E F _ _ _=> ?_;obtain⟨A,P,ca,R,rfl,V,W,cd,f⟩:=F;refine⟨_,ar (dQ (T 0) (iE C E dt (aK 1)) S) (ar (dQ (T 0) (dg aC) S) (ax (aQ (dg (D (cR en (by rfl) CL dD (D (fX (aG 0) S) aC)) aC))))), ?_⟩;obtain⟨G,ce,lk,ch,X,_⟩:=V.ex;unfold fM at f;dsimp only at f;refine⟨_,S,λN U i ab ad=> ?_⟩;have j:=((Ext.one (o:=.own N) ab).new (o:=.ins p U []) ((Q ad.symm).trans i))
 refine⟨N,U,P,R,S,M,j _ _ W,by omega,λal b k=> ?_,λw am b k an=>⟨S, ?_⟩⟩
 .rw [al]at f;exact f b λc o w=>k c o (j _ _ w) (cB w i)
 .rw [am]at f;have q:Ext H b:=λc o w=>k c o (j _ _ w) (cB w i)
  have r:=q _ _ X;refine⟨_,S,A,d,G,_,S,r,e.cl,e.program,(by show 2<1000;decide), ?_⟩;have ap:bK A b (upd b A (.ins d G (dc N lk))):=(bK.refl A b).g0
  refine⟨cP _,λa g=> ?_⟩;have g:upd b A (.ins d G (dc N lk)) a=O:=g
  have s:a≠A:=by rintro rfl;rw [M]at g;cases g
  refine⟨_,S,A,d,G,_,S,(Q s.symm).trans M,e.cl,e.kept,(by show 2<1000;decide), ?_⟩;have t:=((ap.ext (Ext.one (o:=.lst []) g)).g0 (o:=.ins d G (dc N a)))
  have u:=an.but t r (by show 2<5;decide);have v:upd (upd (upd b A (.ins d G (dc N lk))) a (.lst [])) A (.ins d G (dc N a)) A=Y (.ins d G (dc N a)):=M
  have as:upd (upd (upd b A (.ins d G (dc N lk))) a (.lst [])) A (.ins d G (dc N a)) a=Y (.lst []):=(Q s).trans M;obtain⟨a0,a1,a2,ci,a3,a4,a5,bd⟩:=u.len;refine⟨_,S,A,d,G,_,_,S,v,e.cl,e.program,S,N,p,a0,a1,_,S,a3,n.p.c,n.p.nodes,a4,a2,_,S,.inl (au.of a5),eM,λx be=> ?_⟩;have h:∀{o},Ext (upd (upd (upd b A (.ins d G (dc N lk))) a (.lst [])) A (.ins d G (dc N a))) (upd (upd (upd (upd b A (.ins d G (dc N lk))) a (.lst [])) A (.ins d G (dc N a))) x o):=Ext.one be
  refine f x _ (λc o w bi=>h _ _ (t c o (q _ _ w) bi)) ⟨G,N,a,[],h _ _ v,u.ext h,h _ _ as,.nil,cP _⟩ ?_ (by show 1<=5000;decide);rw [M,bd];rfl
def EL{M:s2->Do->Prop}:∀(A:Nat) {N:List s2} {Q:List Do},cO M N Q->cO M (N.take A) (Q.take A)
 |0,_,_,_=>by rw [hx,hx];exact .nil
 |_+1,_,_,.nil=>.nil
 |A+1,_,_,.cons a b=>.cons a (EL A b)
def EM(K:ah)(CL C CN:Z)(Xn:Nat->Z):Sp:=λQ H S T=>∃A G M N,∃D:ai,Q=[.ref A,.int N,.ref G]/\eG K CL C CN H A M/\H G=Y (.lst (cF D))/\D.length<=2000/\gf K CL C CN Xn H A S T (fM M (.change N D))
def Pu(be:a7 K "change_program" "Ladder.change_program" (ef 11) pr o0)(e:g5 K d)(ab:eE K p L)(bi:z "len"=O)(bl:z "MOST_KEPT"=Y (.int 8 wP))(bm:cC l m K z B (bA l m) 2 d "check_node" ["self","label"] (nj K d p L (Xn 3)))(bn:bx l m K z B (bA l m) 11 "changed_program" ["program","label","text"] (En K p L (Xn 1))) (bs:bx l m K z B aD 6 "kept_gone_and_new" ["old","new","label"] (Eu K p L)):aS l m K z B (bA l m) 12 pr o0 ["self","label","text"] (EM K d p L Xn):=by
 refine be.eu ["self","label","text","before"] λev ex fa fd H fl fm fn t bt bv _ sz=> ?_;obtain⟨A,ca,g,i,cd,rfl,ad,ce,ch,h⟩:=bt;have ci:=t.mo 2
 have cl:=t.mo 6;refine⟨_,ar (cL (eK (T 0) bm ci dt (aK 1))) (ar (bo 3 bv (aG 0)) (ar (dQ (T 0) (gL bn t dt (D (T 3) (D (T 1) (aK 2)))) S) (ar (dQ (T 0) (qi qk (hh lx (dg (aK 3)) (aG 0)) r3 (oe (b8 bl))) S) (ax (aQ (hh lx (dg (D (cR en (by rfl) bi dD (D (fX (aG 0) S) aC)) aC)) (bG bs cl (D (T 3) (D (aG 0) (aK 1)))))))))), ?_⟩;obtain⟨G,a,lk,b,u,v,cn,al,co⟩:=ad.ex;have am:=v.ok
 unfold fM at h;dsimp only at h;refine⟨_,S,A,G,_,S,u,S,_,S,A,g,i,S,ad,λx=> ?_,λx=> ?_⟩
 .obtain⟨k,an,ap,cr⟩:=pw am x;rw [cr]at h;refine⟨_,S,A,d,G,_,_,S,u,e.cl,e.program,S, ?_⟩;refine⟨_,S,_,S,_,S,a,ca,g.prog,k,cd,by rw [ap];rfl,v,an,ce,ch,λcs ct c0=> ?_,λq y c1 c2 c3 N C U c4=> ?_⟩
  .rw [cs]at h;exact h ct c0
  .rw [c1]at h;have W:=U _ _ u
   have as:=U _ _ cn;refine⟨_,S,A,d,G,_,S,W,e.cl,e.program,(by show 2<1000;decide), ?_⟩;have a0:bK A C (upd C A (.ins d G (dc N lk))):=(bK.refl A C).g0
   have CL:upd C A (.ins d G (dc N lk)) A=Y (.ins d G (dc N lk)):=M;refine⟨_,S,eM,λj P=> ?_⟩;have P:upd C A (.ins d G (dc N lk)) j=O:=P
   have E:∀{o},Ext (upd C A (.ins d G (dc N lk))) (upd (upd C A (.ins d G (dc N lk))) j o):=Ext.one P;have c5:=a0 _ _ as (cW as W (by intro i;cases i))
   have fr:b.length<=8:=by rw [bL al];exact co
   refine⟨_,S,A,d,G,_,_,S,E _ _ CL,e.cl,e.kept,S,j,lk,_,_,S,S,M,E _ _ c5,by rw [ag];show 1+_<=_;omega,λn c6=> ?_⟩;have a1:∀{o},Ext (upd C A (.ins d G (dc N lk))) (upd (upd (upd C A (.ins d G (dc N lk))) j (.lst [.ref a])) n o):=E.new c6
   refine⟨_,S,n,_,S,au.of M,λf a2=> ?_⟩;have c7:gK ([V.ref a]++b.map V.ref) O (Y 8)=((a::b).take 8).map V.ref:=by show gK ((a::b).map V.ref) O (Y ((8:Nat):Int))=_;rw [El,So]
   rw [c7];have a3:∀{o},Ext (upd C A (.ins d G (dc N lk))) (upd (upd (upd (upd C A (.ins d G (dc N lk))) j (.lst [.ref a])) n (.lst ([.ref a]++b.map V.ref))) f o):=a1.new a2
   refine⟨_,S,A,d,G,_,S,a3 _ _ CL,e.cl,e.kept,(by show 2<1000;decide), ?_⟩;have c8:f≠A:=(cB (a1 _ _ CL) a2).symm
   have r:=(a0.ext (a3 (o:=.lst (((a::b).take 8).map V.ref)))).g0 (o:=.ins d G (dc N f));have F:upd (upd (upd (upd (upd C A (.ins d G (dc N lk))) j (.lst [.ref a])) n (.lst ([.ref a]++b.map V.ref))) f (.lst (((a::b).take 8).map V.ref))) A (.ins d G (dc N f)) A=Y (.ins d G (dc N f)):=M
   have c9:upd (upd (upd (upd (upd C A (.ins d G (dc N lk))) j (.lst [.ref a])) n (.lst ([.ref a]++b.map V.ref))) f (.lst (((a::b).take 8).map V.ref))) A (.ins d G (dc N f)) f=Y (.lst (((a::b).take 8).map V.ref)):=(Q c8).trans M;have w:=c4.but r W (by show 2<5;decide)
   have a4:=(v.ext U).but r W (by show 2<5;decide);have db:cO (cj K p L _) b g.past:=Paired.cb al λ_ _ i=>(i.ext U).but r W (by show 2<5;decide)
   obtain⟨dd,dl,dp,a5,ds,dx,dK,dL⟩:=w.len;refine⟨_,S,A,d,G,_,_,S,F,e.cl,e.program,S,N,p,dd,dl,_,S,ds,ab.p.c,ab.p.nodes,dx,dp,_,S,.inl (au.of dK),eM,λdT dX=> ?_⟩;have s:=Ext.one (o:=.lst [.int (a5.length:Nat)]) dX
   refine⟨_,S,_,S,A,d,G,_,_,S,s _ _ F,e.cl,e.program,S,_,S,a,N,g.prog,q,k,y,by rw [ap];rfl,a4.ext s,w.ext s,an,c2,c3,λd0 fs bd fT d1=> ?_⟩;refine⟨dT,d0,_,_,S,S,bd _ _ M,d1,by rw [ag];show 1+3<=_;omega,λem eq=> ?_⟩;have X:=(s.trans bd).new (o:=.lst ([.int (a5.length:Nat)]++[(chg g.prog q k).kept,(chg g.prog q k).gone,(chg g.prog q k).came].map λR:Nat=>V.int (R:Nat))) eq
   refine h em _ (λc o es R=>X _ _ (r c o (U _ _ es) R)) ⟨G,N,f,(a::b).take 8,X _ _ F,w.ext X,X _ _ c9,Paired.cb (EL 8 (.cons a4 db)) λ_ _ i=>i.ext X, ?_⟩ ?_ (by show 4<=5000;decide)
   .show((g.prog::g.past).take 8).length<=8;rw [dW];omega
   .rw [M,dL];rfl
 .rw [px am x]at h;exact h H (Ext.refl H)
def Pw(x:a7 K "undo_change" "Ladder.undo_change" (ef 12) L o0)(N:g5 K d)(w:eE K p pr)(y:z "len"=O)(CL:z "NothingKept"=Y (.ref (Xn 4)))(U:gS K (Xn 4) f5 "Exception.__new__"=I):aS l m K z B (bA l m) 1 L o0 ["self"] (j0 K d p pr Xn .undo):=by
 refine x.eu ["self"] λbm bn bs bt H bv ca cd E C _ _ _=> ?_;obtain⟨A,R,rfl,X,f⟩:=C;refine⟨_,ar (bH (rQ (rY (aG 0) (λ_=>S))) (ax (jN kd (by decide) U S CL E.hd)) bP) (ar (dQ (T 0) (cc di (aG 0) cK (λ_ _=>S)) S) (ar (dQ (T 0) (qi qk (aG 0) (oe cK) r3) S) (ax (aQ (dg (D (cR en (by rfl) y dD (D (fX (aG 0) S) aC)) aC)))))), ?_⟩;obtain⟨G,ce,lk,b,c,ab,g,q,h⟩:=X.ex;obtain⟨ch,ad⟩:=R;unfold fM at f;dsimp only at f ab q h;refine⟨_,S,A,d,G,_,_,S,c,N.cl,N.kept,S,_,.inl ⟨_,au.of g,S⟩, ?_⟩;cases q with
 |nil=>exact cf (f H (Ext.refl H))
 | @cons a ci b ad al am=>
 refine b1 ⟨_,S,A,d,G,_,_,S,c,N.cl,N.kept,S,lk,_,_,_,S,S,au.of g,e2 (j:=0) S,_,S,A,d,G,_,S,c,N.cl,N.program,(by show 2<1000;decide), ?_⟩;have r:bK A H (upd H A (.ins d G (dc a lk))):=(bK.refl A H).g0
 have i:upd H A (.ins d G (dc a lk)) A=Y (.ins d G (dc a lk)):=M;have an:=r _ _ g (cW g c (by intro k;cases k))
 refine⟨_,S,A,d,G,_,_,S,i,N.cl,N.kept,S,_,S,lk,_,S,au.of an,λu n=> ?_⟩;have n:upd H A (.ins d G (dc a lk)) u=O:=n
 have ap:gK ((a::b).map V.ref) (Y 1) O=b.map V.ref:=Em _ 1;rw [ap];have s:∀{o},Ext (upd H A (.ins d G (dc a lk))) (upd (upd H A (.ins d G (dc a lk))) u o):=Ext.one n
 refine⟨_,S,A,d,G,_,S,s _ _ i,N.cl,N.kept,(by show 2<1000;decide), ?_⟩;have as:u≠A:=by rintro rfl;rw [i]at n;cases n
 have P:=(r.ext (s (o:=.lst (b.map V.ref)))).g0 (o:=.ins d G (dc a u));have t:upd (upd (upd H A (.ins d G (dc a lk))) u (.lst (b.map V.ref))) A (.ins d G (dc a u)) A=Y (.ins d G (dc a u)):=M
 have a0:upd (upd (upd H A (.ins d G (dc a lk))) u (.lst (b.map V.ref))) A (.ins d G (dc a u)) u=Y (.lst (b.map V.ref)):=(Q as).trans M;have v:=al.but P c (by show 2<5;decide)
 obtain⟨a1,a2,a3,a4,a5,bd,be,bi⟩:=v.len;refine⟨_,S,A,d,G,_,_,S,t,N.cl,N.program,S,a,p,a1,a2,_,S,a5,w.p.c,w.p.nodes,bd,a3,_,S,.inl (au.of be),eM,λbk bl=> ?_⟩;have e:=Ext.one (o:=.lst [.int (a4.length:Nat)]) bl
 refine f bk _ (P.ext e) ⟨G,a,u,b,e _ _ t,v.ext e,e _ _ a0,Paired.cb am λ_ _ k=>(k.but P c (by show 2<5;decide)).ext e, ?_⟩ ?_ (by show 1<=5000;decide)
 .rw [dG]at h;exact uk h
 .rw [M,bi];rfl
abbrev EN:a6:=top 107
variable{SB UD:Prop}
def tO{c:Bool}(G:c=ao)(M:SB):if c=I then UD else SB:=by subst G;exact b1 M
def q6{c:Bool}(G:c=I)(M:SB):if c=I then SB else UD:=by subst G;exact cf M
variable{h:Cx}{wE:a6}
def Px:PS h wE (λ_ _ _=>False):=λ_ _ _ _ _ _ G=>G.elim
def yf(A D:Z)(H M:G):Prop:=∀c o,H c=Y o->c≠A->c≠D->M c=Y o
variable{zn:List Int}
def gB.but(G:bK a H q)(N:H a=Y (.ins s3 d FM))(S:p≠a)(D:gB K L H p pr zn r):gB K L q p pr zn r:=
 ⟨let⟨d,T⟩:=D.1;⟨d,G _ _ T S⟩,G.ee N D.2.1,D.2.2⟩
variable{FB:Z}
def yg(D:eG K L pr s3 H d Ch)(G:gB K ww H p FB zn r):d≠p:=by obtain⟨S,T,lk,c,M,_⟩:=D.ex;obtain⟨⟨a,N⟩,_⟩:=G;refine cW M N λA=> ?_;injection A with _ _ A;injection A with A _;injection A with A _;exact absurd A (by decide+kernel)
def yh(K:ah)(CL C CN CR:Z)(Xn:Nat->Z)(H:G)(a b ln:Z)(l:List Int)(i:Nat)(s:nS)(Q:VK)(E:XK):mn->Prop
 |.ok (c,n)=>∀A q,yf a b H q->eG K CL C CN q a c->gB K CR q b ln l i->q A=Y (.lst (hQ n))->n.length<=5000->Q (.ref A) q
 |.error n=>∀q,yf a b H q->eG K CL C CN q a s->gB K CR q b ln l i->E (.ref (Xn n)) O q
def yh.ld{o:mn}(S:yh K d p L s3 wT H a pr ww zn r Ch IR FS o)(T:bK pr H sK)(A:eG K d p L sK a Ch)(D:gB K s3 sK pr ww zn r):gf K d p L wT sK a IR FS o:=by
 have C:=yg A D;obtain⟨b,l,lk,i,e,_⟩:=A.ex;cases o with
 |ok y=>exactλh q f j k n=>S h q (λc o G g M=>f c o (T c o G M) g) j (D.but f e C.symm) k n
 |error m=>exactλq N=>S q (λc o G g M=>N c o (T c o G M)) (A.ext N) (D.but (N.but (a:=a)) e C.symm)
structure EO(z:aa->Option J):Prop where
 c0:∃A,z "PROGRAM_CALL"=Y (.int 0 A)
 c1:∃A,z "SHOW_CALL"=Y (.int 1 A)
 c2:∃A,z "SET_CALL"=Y (.int 2 A)
 c3:∃A,z "ARROWS_CALL"=Y (.int 3 A)
 c4:∃A,z "COUNTS_CALL"=Y (.int 4 A)
 c5:∃A,z "CLASS_CALL"=Y (.int 5 A)
 c6:∃A,z "CLASSES_CALL"=Y (.int 6 A)
 c7:∃A,z "ASK_CALL"=Y (.int 7 A)
 c8:∃A,z "FUNS_CALL"=Y (.int 8 A)
 c9:∃A,z "LOOKED_CALL"=Y (.int 9 A)
 Py:∃A,z "CHANGE_CALL"=Y (.int 10 A)
 Pz:∃A,z "UNDO_CALL"=Y (.int 11 A)
 PB:∃A,z "SIZE_CALL"=Y (.int 12 A)
def ER(K:ah)(CL C CN CR:Z)(Xn:Nat->Z):Sp:=λD H IR FS=>∃d p L zn r Ch c A,D=[.ref d,.ref p]/\eG K CL C CN H d Ch/\gB K CR H p L zn r/\qS (zn.drop r) c A/\yh K CL C CN CR Xn H d p L zn (zn.length-A.length) Ch IR FS (fM Ch c)
variable{UJ:List Int}
def pz(G:zn.drop r=v2::UJ):zn[r]?=Y v2/\zn.drop (r+1)=UJ/\r+1+UJ.length=zn.length:=by
 have M:(zn.drop r)[0]?=Y v2:=by rw [G];rfl
 rw [GQ,ke]at M;have N:(zn.drop r).drop 1=UJ:=by rw [G];rfl
 rw [GR]at N;have T:=bN cN G
 rw [l8,dG]at T;exact⟨M,N,by omega⟩
structure PD(l:az)(m:aw)(K:ah)(z:aa->Option J)(B:aE)(d p L pr:Z)(wT:Nat->Z):Prop where
 num:cC l m K z B aD 1 pr "take_number" ["self"] (xZ K pr)
 txt:cC l m K z B aD 2 pr "take_text" ["self"] (D0 K pr)
 m0:cC l m K z B (bA l m) 11 d "replace_program" ["self","text"] (EK K d p L wT)
 m1:cC l m K z B (bA l m) 1 d "tell_text" ["self"] (j0 K d p L wT .show_)
 m2:cC l m K z B (bA l m) 8 d "tell_set" ["self","rung","label"] (EE K d p L wT .set)
 m3:cC l m K z B (bA l m) 8 d "tell_arrows" ["self","rung"] (j1 K d p L wT .arrows)
 m4:cC l m K z B (bA l m) 8 d "tell_counts" ["self"] (j0 K d p L wT .counts)
 m5:cC l m K z B (bA l m) 6 d "tell_class" ["self","label"] (j1 K d p L wT .class_)
 m6:cC l m K z B (bA l m) 6 d "tell_classes" ["self"] (j0 K d p L wT .classes)
 m7:cC l m K z B (bA l m) 7 d "tell_asked" ["self","label"] (j1 K d p L wT .ask)
 m8:cC l m K z B (bA l m) 7 d "tell_funs" ["self","label"] (j1 K d p L wT .funs)
 m9:cC l m K z B (bA l m) 7 d "tell_looked" ["self","label"] (j1 K d p L wT .looked)
 PF:cC l m K z B (bA l m) 12 d "change_program" ["self","label","text"] (EM K d p L wT)
 PJ:cC l m K z B (bA l m) 1 d "undo_change" ["self"] (j0 K d p L wT .undo)
 PK:cC l m K z B (bA l m) 1 d "tell_size" ["self"] (j0 K d p L wT .size)
def PL(bl:a7 K "carry_out" "carry_out" EN d o0)(U:EO z)(A:PD l m K z B p L pr s3 wT):aS l m K z B (bA l m) 13 d o0 ["ladder","row"] (ER K p L pr s3 wT):=by
 obtain⟨db,bm⟩:=U.c0;obtain⟨dd,bn⟩:=U.c1;obtain⟨dl,bs⟩:=U.c2;obtain⟨dp,bt⟩:=U.c3;obtain⟨ds,bv⟩:=U.c4;obtain⟨dx,ca⟩:=U.c5;obtain⟨dK,cd⟩:=U.c6;obtain⟨dL,ce⟩:=U.c7;obtain⟨dT,ch⟩:=U.c8;obtain⟨dX,ci⟩:=U.c9;obtain⟨d0,cl⟩:=U.Py;obtain⟨d1,cn⟩:=U.Pz;obtain⟨em,co⟩:=U.PB;refine bl.eu ["ladder","row","call","rung","label"] λeq es ev fa H fd fl fm a5 cr R _ _=> ?_;obtain⟨j,Q,o,M,G,x,c,b,rfl,bd,V,N,k⟩:=cr;have f:=a5.mo 1
 have be:=a5.mo 2;have bi:=a5.mo 6
 have W:=a5.mo 7;have X:=a5.mo 8
 have cs:=a5.mo 11;refine⟨_,ar (bo 2 R (dR (E:=E0) (T 1) A.num f cy)) (ar (bH (bQ cU (T 2) (b8 bm) (bU _)) (ax (aQ (eK (T 0) A.m0 cs dt (D (dR (E:=E0) (T 1) A.txt be cy) aC)))) bP) (ar (bH (bQ cU (T 2) (b8 bn) (bU _)) (ax (aQ (dR (T 0) A.m1 f dt))) bP) (ar (bH (bQ cU (T 2) (b8 bs) (bU _)) (ar (bo 3 R (dR (E:=E0) (T 1) A.num f cy)) (ax (aQ (eK (T 0) A.m2 X dt (D (T 3) (D (dR (E:=E0) (T 1) A.num f cy) aC)))))) bP) (ar (bH (bQ cU (T 2) (b8 bt) (bU _)) (ax (aQ (eK (T 0) A.m3 X dt (D (dR (E:=E0) (T 1) A.num f cy) aC)))) bP) (ar (bH (bQ cU (T 2) (b8 bv) (bU _)) (ax (aQ (dR (T 0) A.m4 X dt))) bP) (ar (bH (bQ cU (T 2) (b8 ca) (bU _)) (ax (aQ (eK (T 0) A.m5 bi dt (D (dR (E:=E0) (T 1) A.num f cy) aC)))) bP) (ar (bH (bQ cU (T 2) (b8 cd) (bU _)) (ax (aQ (dR (T 0) A.m6 bi dt))) bP) (ar (bH (bQ cU (T 2) (b8 ce) (bU _)) (ax (aQ (eK (T 0) A.m7 W dt (D (dR (E:=E0) (T 1) A.num f cy) aC)))) bP) (ar (bH (bQ cU (T 2) (b8 ch) (bU _)) (ax (aQ (eK (T 0) A.m8 W dt (D (dR (E:=E0) (T 1) A.num f cy) aC)))) bP) (ar (bH (bQ cU (T 2) (b8 ci) (bU _)) (ax (aQ (eK (T 0) A.m9 W dt (D (dR (E:=E0) (T 1) A.num f cy) aC)))) bP) (ar (bH (bQ cU (T 2) (b8 cl) (bU _)) (ar (bo 4 R (dR (E:=E0) (T 1) A.num f cy)) (ax (aQ (eK (T 0) A.PF a5 dt (D (T 4) (D (dR (E:=E0) (T 1) A.txt be cy) aC)))))) bP) (ar (bH (bQ cU (T 2) (b8 cn) (bU _)) (ax (aQ (dR (T 0) A.PJ f dt))) bP) (ar (bH (bQ cU (T 2) (b8 co) (bU _)) (ax (aQ (dR (T 0) A.PK f dt))) bP) (ax Px)))))))))))))), ?_⟩;obtain⟨⟨ct,bk⟩,_⟩:=id V;have g:=yg bd V
 have h:(ng o G).length<5:=by show 2<5;decide
 obtain⟨fn,fr,q⟩:∃i c0,M.drop G=i::c0:=by cases c<;>first|exact⟨_,_,N⟩|exact⟨_,_,N.1⟩
 refine⟨_,S,Q,ct,_,S,bk,S,Q,o,M,G,_,S,V,(pz q).1,λfs r v fT=> ?_⟩;have C:=bd.but v bk h g
 obtain⟨_,P,c1⟩:=pz q;obtain⟨ab,f0,lk,f1,ad,_⟩:=C.ex;obtain⟨⟨F,a4⟩,_⟩:=id r;have g:=yg C r
 cases c
 case program a=>
  obtain⟨N,al⟩:M.drop G=0::(a.length:Int)::(gw a++b)/\a.length<=2000:=N;cases q.symm.trans N;have c2:G+1+1+a.length+b.length=M.length:=by rw [<-c1,dG,bB,show(gw a).length=a.length from ag _];omega
  rw [show M.length-b.length=G+1+1+a.length by omega]at k;exact⟨_,S,S,_,S,q6 S ⟨_,S,j,ab,_,S,ad,S,_,S,Q,F,_,S,a4,S,Q,o,M,G+1,a,b,S,r,P,λu am n e an _ _ ap=>⟨j,u,x,a,S,C.but e a4 h g,ap,al,k.ld (v.trans e) (C.but e a4 h g) n⟩⟩⟩
 case set y i=>
  obtain⟨N,_,_⟩:M.drop G=2::y::i::b/\inR y/\inR i:=N;cases q.symm.trans N
  iterate 2 refine⟨_,S,S,_,S,tO S ?_⟩
  obtain⟨CL,w,as⟩:=pz P;obtain⟨c3,f2,f4⟩:=pz w;rw [show M.length-b.length=G+1+1+1 by omega]at k;refine⟨_,S,S,_,S,q6 S ⟨_,S,Q,F,_,S,a4,S,Q,o,M,G+1,y,S,r,CL,λam n e an=> ?_⟩⟩;have L2:=C.but e a4 h g
  obtain⟨a0,c4,c5,c6,a1,_⟩:=L2.ex;obtain⟨⟨a2,s⟩,_⟩:=id n;exact⟨_,S,j,a0,_,S,a1,S,_,S,_,S,Q,a2,_,S,s,S,Q,o,M,G+1+1,i,S,n,c3,λc7 a3 t c8=>⟨j,x,y,i,S,L2.but t s h g,k.ld ((v.trans e).trans t) (L2.but t s h g) a3⟩⟩
 case change i a=>
  obtain⟨N,_,al⟩:M.drop G=10::i::(a.length:Int)::(gw a++b)/\inR i/\a.length<=2000:=N;cases q.symm.trans N
  iterate 10 refine⟨_,S,S,_,S,tO S ?_⟩
  obtain⟨CL,w,as⟩:=pz P;have c2:G+1+1+1+a.length+b.length=M.length:=by rw [<-as,dG,bB,show(gw a).length=a.length from ag _];omega
  rw [show M.length-b.length=G+1+1+1+a.length by omega]at k;refine⟨_,S,S,_,S,q6 S ⟨_,S,Q,F,_,S,a4,S,Q,o,M,G+1,i,S,r,CL,λam n e an=> ?_⟩⟩;have L2:=C.but e a4 h g
  obtain⟨a0,c4,c5,c6,a1,_⟩:=L2.ex;obtain⟨⟨a2,s⟩,_⟩:=id n;exact⟨_,S,j,a0,_,S,a1,S,_,S,_,S,Q,a2,_,S,s,S,Q,o,M,G+1+1,a,b,S,n,w,λu c7 a3 t c8 _ _ ap=>⟨j,u,x,i,a,S,L2.but t s h g,ap,al,k.ld ((v.trans e).trans t) (L2.but t s h g) a3⟩⟩
 all_goals first
  |have N:M.drop G=_::b:=N
   obtain⟨rfl,c9⟩:=rp (q.symm.trans N);rw [show M.length-b.length=G+1 by rw [<-c9];omega]at k
   repeat first
    |exact⟨_,rfl,rfl,_,rfl,q6 rfl ⟨_,rfl,j,ab,_,rfl,ad,rfl,j,x,rfl,C,k.ld v C r⟩⟩
    |refine⟨_,rfl,rfl,_,rfl,tO rfl ?_⟩
  |obtain⟨N,_⟩:M.drop G=_::_::b/\_:=N
   cases q.symm.trans N;obtain⟨CL,w,as⟩:=pz P;rw [show M.length-b.length=G+1+1 by omega]at k
   repeat first
    |exact⟨_,rfl,rfl,_,rfl,q6 rfl ⟨_,rfl,j,ab,_,rfl,ad,rfl,_,rfl,Q,F,_,rfl,a4,rfl,Q,o,M,G+1,_,rfl,r,CL,λam n e an=>⟨j,x,_,rfl,C.but e a4 h g,k.ld (v.trans e) (C.but e a4 h g) n⟩⟩⟩
    |refine⟨_,rfl,rfl,_,rfl,tO rfl ?_⟩
abbrev ES:a6:=top 108
structure yi(K:ah)(U:aa->Option J)(A:Nat->Z):Prop where
 x1:U "NoProgram"=Y (.ref (A 1))
 x2:U "NoRung"=Y (.ref (A 2))
 x3:U "NoNode"=Y (.ref (A 3))
 x4:U "NothingKept"=Y (.ref (A 4))
 x5:U "NoCall"=Y (.ref (A 5))
 f6:∀n,n∈[1,2,3,4,5]->gS K (A n) f5 "Exception.__new__"=I/\mroIn K (A n)=I
 nd:[A 1,A 2,A 3,A 4,A 5].Nodup
 n1:∃D,U "NO_PROGRAM"=Y (.int (-1) D)
 n2:∃D,U "NO_RUNG"=Y (.int (-2) D)
 n3:∃D,U "NO_NODE"=Y (.int (-3) D)
 n4:∃D,U "NOTHING_KEPT"=Y (.int (-4) D)
 n5:∃D,U "NO_CALL"=Y (.int (-5) D)
def ET(K:ah)(CL C CN CR:Z):Sp:=λb H d _=>∃D G Q M S N c T,b=[.ref D,.ref G]/\eG K CL C CN H D N/\gB K CR H G Q M S/\qS (M.drop S) c T/\
 ∀a A,yf D G H A->eG K CL C CN A D (hv N c).1->gB K CR A G Q M (M.length-T.length)->A a=Y (.lst ((toldOf (hv N c).2).map V.int))->(toldOf (hv N c).2).length<=5000->d (.ref a) A
def PM(C:a7 K "answer_or_refusal" "answer_or_refusal" ES d o0)(A:yi K z wT)(q:bx l m K z B (bA l m) 13 "carry_out" ["ladder","row"] (ER K p L pr s3 wT)):aS l m K z B aD 14 d o0 ["ladder","row"] (ET K p L pr s3):=by
 obtain⟨c0,r⟩:=A.n1;obtain⟨c1,s⟩:=A.n2;obtain⟨c2,t⟩:=A.n3;obtain⟨c3,Xn⟩:=A.n4;obtain⟨c4,P⟩:=A.n5;obtain⟨E,F⟩:=A.f6 1 (by decide);obtain⟨w,R⟩:=A.f6 2 (by decide);obtain⟨V,W⟩:=A.f6 3 (by decide);obtain⟨X,ab⟩:=A.f6 4 (by decide);obtain⟨ad,al⟩:=A.f6 5 (by decide);refine C.go ["ladder","row"] λc5 c6 c7 c8 H c9 am an ap i _ _ _=> ?_;obtain⟨as,a0,a1,a2,a3,Q,c,a4,rfl,a5,bd,be,a⟩:=i;refine⟨_,ax (J3 S rfl (λb db an bi=>ax (aQ (gL q ap bi (D (T 0) (aK 1))))) (PH.cons S A.x1 E F (by decide) (λf b=>ax (aQ (dg (D (el (v:=.int (-1)) S r ⟨_,S⟩) aC)))) (PH.cons S A.x2 w R (by decide) (λf b=>ax (aQ (dg (D (el (v:=.int (-2)) S s ⟨_,S⟩) aC)))) (PH.cons S A.x3 V W (by decide) (λf b=>ax (aQ (dg (D (el (v:=.int (-3)) S t ⟨_,S⟩) aC)))) (PH.cons S A.x4 X ab (by decide) (λf b=>ax (aQ (dg (D (el (v:=.int (-4)) S Xn ⟨_,S⟩) aC)))) (PH.cons S A.x5 ad al (by decide) (λf b=>ax (aQ (dg (D (el (v:=.int (-5)) S P ⟨_,S⟩) aC)))) PH.nil)))))), ?_⟩;refine⟨_,S,_,S,as,a0,a1,a2,a3,Q,c,a4,S,a5,bd,be, ?_⟩;have bk:hv Q c=match fM Q c with
  |.ok x=>(x.1,.told x.2)
  |.error G=>(Q,.refused G):=rfl
 rw [bk]at a;cases hd:fM Q c with
 |ok y=>
  obtain⟨dd,G⟩:=y;rw [hd]at a;intro bl g j k U bm bn;refine a bl g j k U ?_ ?_
  .rw [bm,tN];rfl
  .show(nI G).length<=5000;unfold nI;rw [ag];exact bn
 |error G=>
  rw [hd]at a;intro g j k U;refine⟨wT G,S, ?_⟩;have n:=A.nd
  simp only [eB,bb,ej,fy,pR]at n;obtain⟨⟨bs,bt,bv,ca⟩,⟨cd,ce,ch⟩,⟨ci,cl⟩,cn,_⟩:=n;have e:∀u,g u=O->am (.ref u) (upd g u (.lst [.int (-(G:Int))])):=λu h=>a u _ (λc o co cr cs=>(Ext.one h) _ _ (j c o co cr cs)) (k.ext (Ext.one h)) ⟨let⟨ct,i⟩:=U.1;⟨ct,(Ext.one h) _ _ i⟩,(Ext.one h).ee U.2.1,U.2.2⟩ M (by show 1<=5000;decide)
  unfold catchR;rcases O9 hd with rfl|rfl|rfl|rfl|rfl
  .rw [ak S];exact⟨eM,e⟩
  .rw [N (eO bs)];unfold catchR;rw [ak S];exact⟨eM,e⟩
  .rw [N (eO bt)];unfold catchR;rw [N (eO cd)];unfold catchR;rw [ak S];exact⟨eM,e⟩
  .rw [N (eO bv)];unfold catchR;rw [N (eO ce)];unfold catchR;rw [N (eO ci)];unfold catchR;rw [ak S];exact⟨eM,e⟩
  .rw [N (eO ca)];unfold catchR;rw [N (eO ch)];unfold catchR;rw [N (eO cl)];unfold catchR;rw [N (eO cn)];unfold catchR;rw [ak S];exact⟨eM,e⟩
abbrev tP:a6:=top 109
def PN{c:k6}(A:qS zn c UJ):∃y M,zn=y::M/\∃N,zn=N++UJ:=by
 cases c with
 |program b=>exact⟨_,_,A.1,0::(b.length:Int)::gw b,by rw [A.1];rfl⟩
 |show_=>exact⟨_,_,A,[1],A⟩
 |set y a=>exact⟨_,_,A.1,[2,y,a],A.1⟩
 |arrows a=>exact⟨_,_,A.1,[3,a],A.1⟩
 |counts=>exact⟨_,_,A,[4],A⟩
 |class_ a=>exact⟨_,_,A.1,[5,a],A.1⟩
 |classes=>exact⟨_,_,A,[6],A⟩
 |ask a=>exact⟨_,_,A.1,[7,a],A.1⟩
 |funs a=>exact⟨_,_,A.1,[8,a],A.1⟩
 |looked a=>exact⟨_,_,A.1,[9,a],A.1⟩
 |change a b=>exact⟨_,_,A.1,10::a::(b.length:Int)::gw b,by rw [A.1];rfl⟩
 |undo=>exact⟨_,_,A,[11],A⟩
 |size=>exact⟨_,_,A,[12],A⟩
variable{Re:aL}
def cj.off{H:G}(Q:bK d H q)(T:H d=Y (.bO Re (.lst (zn.map V.int))))(t:cj K L pr H p pi):cj K L pr q p pi:=by
 obtain⟨v,x,y,z,B,E,F,N,R,⟨W,X,ab,ad,al⟩,j,⟨am,an,k⟩,ap,as,l⟩:=t;have b:∀{c a},H c=Y (.lst a)->q c=Y (.lst a):=λD=>Q _ _ D (cW D T (by intro M;cases M))
 have m:∀{c n o g},H c=Y (.ins n o g)->q c=Y (.ins n o g):=λD=>Q _ _ D (cW D T (by intro M;cases M));have h:∀{c a},av K H c a->av K q c a:=λD=>by
  rcases D with(D|⟨u,D⟩)|D
  .exact .inl (.inl (Q _ _ D (cW D T (by intro M;cases M))))
  .exact .inl (.inr ⟨u,Q _ _ D (cW D T (by intro M;cases M))⟩)
  .exact .inr D
 have r:∀{c:Z} {e:List Z} {f:List Pr},au K H c (e.map V.ref)->fQ K H e f->f≠[]->au K q c (e.map V.ref):=λ{c e f} D a0 a1=>by
  rcases D with(D|⟨u,D⟩)|D
  .exact .inl (.inl (b D))
  .refine .inl (.inr ⟨u,Q _ _ D (cW D T λM=> ?_)⟩);injection M with _ M;injection M with M;cases a0 with
   |nil=>exact a1 S
   |cons _ _=>
    cases zn with
    |nil=>cases M
    |cons _ _=>injection M with M _;cases M
  .exact .inr D
 have a2:(aq pi).map A≠[]:=λM=>by have:=d8 (f:=A) (gp (hE pi));rw [M]at this;cases this
 exact⟨v,x,y,z,B,E,F,m N,b R,⟨W,b X,λa3 a4=>let⟨⟨a5,bd⟩,be⟩:=ab a3 a4;⟨⟨a5,m bd⟩,b be⟩,ad,al⟩,Q _ _ j (cW j T (by intro M;cases M)),⟨am,r an k (by unfold bq;intro M;cases M),Paired.cb k λ_ _=>h⟩,ap,r as l a2,Paired.cb l λ_ _=>h⟩
def eG.off{H:G}{c:aL}(A:bK d H q)(D:H d=Y (.bO c (.lst (zn.map V.int))))(e:eG K L pr s3 H p Ch):eG K L pr s3 q p Ch:=by obtain⟨f,g,lk,h,a,i,b,j,k⟩:=e.ex;exact⟨f,g,lk,h,A _ _ a (cW a D (by intro M;cases M)),i.off A D,A _ _ b (cW b D (by intro M;cases M)),Paired.cb j λ_ _ l=>l.off A D,k⟩
def PQ:Passes (bA l m) h E0:=λ_ _ _ _ _ _ _ D=>by obtain⟨_,_,_,_,_,_,_,_,_,_,_,_,G⟩:=D;exact G.elim
def tQ(K:ah):Sp:=λQ H S _=>∃D A,Q=[.ref D]/\au K H D (A.map V.int)/\A.length<=17000/\GJ A=I/\∀(M:G) (N:Z),M N=Y (.lst ((uN A).map V.int))->S (.ref N) M
def PR(c0:a7 K "answers" "answers" tP s3 o0)(c1:z "len"=O)(c2:iD l m K z B (bA l m) 11 "Ladder" p ["self"] (EJ K p L pr))(c3:iD l m K z B aD 1 "Row" d ["self","numbers"] (D2 d))(c4:cC l m K z B aD 1 d "has_more" ["self"] (DY K d))(c5:bx l m K z B aD 14 "answer_or_refusal" ["ladder","row"] (ET K p L pr d)):aS l m K z B aD 15 s3 o0 ["calls"] (tQ K):=by
 refine c0.go ["calls","ladder","row","told","answer"] λf0 f1 f2 f4 H f8 ga ge CN a P _ _=> ?_;obtain⟨U,b,rfl,q,gl,c6,c7⟩:=a;have sz:(200000:Nat)<aR:=by decide
 have c8:=CN.mo 1;have c9:=CN.mo 2
 have db:=CN.mo 12;refine⟨_,ar (bo 1 P (Ke (E:=E0) c2 db PQ)) (ar (bo 2 P (iE (E:=E0) c3 c9 cy (aK 0))) (ar (bo 3 P (dg aC)) (ar (n6 dY (ko (dR (E:=E0) (T 2) c4 c8 cy)) (ar (mC (bo 4 P (bG c5 CN (D (T 1) (aK 2))))) (ar (cL (fj fB gh gH fY (T 3) (D (cR en (by rfl) c1 dD (aK 4)) aC))) (ax (cL (fj fB yA GO vr (T 3) (aK 4))))))) (ax (aQ (T 3)))))), ?_⟩;obtain⟨g,dd,go,dl,gt⟩:=Mx c6;intro n W a1 dp ds;have dx:Ext H (upd (upd H W (.own n)) n (.ins p W [])):=(Ext.one dp).new ((Q ds.symm).trans a1)
 refine⟨n,W,S,M,λCL dK a2=>⟨S, ?_⟩⟩;have a3:Ext H CL:=λc o s=>dK c o (dx _ _ s) (cB s a1)
 refine⟨_,S,λN e a4 a5 bd=> ?_⟩;have g1:Ext CL (upd (upd CL e (.own N)) N (.ins d e [])):=(Ext.one a5).new ((Q bd.symm).trans a4)
 refine⟨N,e,U,S,M,S, ?_⟩;have w:Ext CL (upd (upd (upd CL e (.own N)) N (.ins d e [])) N (.ins d e (ng U 0))):=by rw [gW];exact(Ext.one a5).new ((Q bd.symm).trans a4)
 have be:upd (upd (upd CL e (.own N)) N (.ins d e [])) N (.ins d e (ng U 0)) N=Y (.ins d e (ng U 0)):=M;generalize upd (upd (upd CL e (.own N)) N (.ins d e [])) N (.ins d e (ng U 0))=bi at*;refine⟨cP _,λA t=> ?_⟩;have X:∀{o},Ext bi (upd bi A o):=Ext.one t
 have dL:∀{i r:G},au K i U (b.map V.int)->bK A i r->au K r U (b.map V.int):=by
  rcases q with q|q
  .have bk:U≠A:=by
    rcases(a3.trans w).rd q with a|⟨u,a⟩
    .exact cB a t
    .exact cB a t
   intro i r a v;rcases a with(a|⟨u,a⟩)|a
   .exact .inl (.inl (v _ _ a bk))
   .exact .inl (.inr ⟨u,v _ _ a bk⟩)
   .exact .inr a
  .exactλ_ _=>.inr q
 have dT:∀(i:G) o bl,bK A (upd i A o) (upd i A bl):=λi o bl c u s ab=>by rw [Q ab]at s⊢;exact s
 have bm:∀{i r:G} {f:Nat},gB K d i N U b f->bK A i r->N≠A->gB K d r N U b f:=λj v ab=>⟨let⟨dX,a⟩:=j.1;⟨dX,v _ _ a ab⟩,dL j.2.1 v,j.2.2⟩
 have d0:n≠A:=let⟨_,_,_,_,CR,_⟩:=a2.ex;cB (w _ _ CR) t
 have bn:N≠A:=cB be t;refine⟨λbs bt C=>∃bv f k g h,bt=[Y (.ref U),Y (.ref n),Y (.ref N),Y (.ref A),bv]/\eG K p L pr (upd C A (.ins 0 0 [])) n k/\gB K d C N U b f/\C A=Y (.lst (h.map V.int))/\Calls (b.drop f) g/\h++qT k g=uN b/\h.length+5001*g.length<=150030/\bs=g.length,⟨_,O,0,GK,g,[],S,by rw [gW];exact a2.ext (w.trans X),⟨⟨e,X _ _ be⟩,((a3.trans w).trans X).ee q,cP _,by omega⟩,M,dd,dl.symm,by show 0+_<=_;omega,S⟩, ?_⟩;rintro bs bt C ⟨bv,f,k,g,h,rfl,d1,ad,hw,ca,cd,em,rfl⟩;obtain⟨⟨eq,es⟩,_⟩:=id ad;refine⟨_,S,N,eq,_,S,es,S,N,U,b,f,S,ad,_,S, ?_⟩;generalize x:b.drop f=ld at ca;cases ca with
 |nil=>
  have al:¬f<b.length:=λCR=>by
   have:=bN cN x;rw [l8]at this;show False
   simp only [jB]at this;omega
  rw [bT al];refine b1 ⟨_,S,c7 C A ?_⟩;rw [hw,<-cd];show _=Y (HO.lst ((h++[]).map V.int))
  rw [bZ]
 | @cons _ c j g ce ev=>
  obtain⟨y,g2,ex,ch,ci⟩:=PN ce;have al:f<b.length:=by have:=bN cN (x.trans ex);rw [l8,dG]at this;omega
  rw [ck al];refine cf ⟨_,(λg3 hd a=>a), ?_⟩;refine⟨A,_,hw,trivial,λcl=> ?_⟩;have fa:bK A C (upd C A (.bO cl (.lst (h.map V.int)))):=(bK.refl A C).g0
  have cn:=d1.but (dT C _ (.bO cl (.lst (h.map V.int)))) M (by show 0<5;decide) d0;have co:=bm ad fa bn
  obtain⟨_,_,_,_,fd,_⟩:=cn.ex;obtain⟨⟨_,fl⟩,_⟩:=id co;refine⟨_,S,_,S,n,N,U,b,f,k,c,j,S,cn,co,by rw [x];exact ce,λR am fm fn fr an he=> ?_⟩;have ap:=fm _ _ M (cW M fd (by intro CR;cases CR)) (cW M fl (by intro CR;cases CR))
  have cr:R≠A:=cW an ap (by intro CR;cases CR);have hf:h.length<=150030:=by omega
  refine⟨ap, ?_⟩;refine⟨_,S,.inl ⟨S,_,au.of M⟩,_,S,R,_,S,.inl (au.of ((Q cr).trans an)),A,_,_,S,S,M,by rw [ag];omega, ?_⟩;rw [gW];refine⟨_,S,.inl ⟨S,_,au.of M⟩,_,S,A,R,_,_,S,S,M,(Q cr).trans an,by rw [bB,ag,ag];show h.length+1+_<=_;omega, ?_⟩;rw [gW];have cs:∀o,bK A am (upd am A o):=λo=>(bK.refl A am).g0
  have fs:b.drop (b.length-j.length)=j:=by
   have ct:(b.drop f).drop ch.length=j:=by rw [x,ci,List.drop_left]
   rw [GR]at ct;have fT:=bN cN (x.trans ci)
   rw [l8,bB]at fT;rw [show b.length-j.length=f+ch.length by omega];exact ct
  refine⟨g.length,by show _<g.length+1;omega,Y (.ref R),b.length-j.length,(hv k c).1,g,h++((toldOf (hv k c).2).length:Int)::toldOf (hv k c).2,S,by rw [gW];exact fn.off (cs _) ap,bm fr (cs _) bn, ?_,by rw [fs];exact ev, ?_, ?_,S⟩
  .rw [M,ag,aW,aV,cv];rfl
  .rw [<-cd];show _=h++((toldOf (hv k c).2).length:Int)::(toldOf (hv k c).2++qT (hv k c).1 g)
   rw [cv];rfl
  .rw [bB,dG];rw [dG]at em;omega
def GF(K:ah)(U:aa->Option J)(x:aa)(st:a6)(ps:List aa):Prop:=∃A D,a7 K x x st A D/\Binds K D ps []/\U x=Y (.ref A)
def MF(K:ah)(C:Z)(m q:aa)(st:a6)(ps:List aa):Prop:=∃A D,a7 K m q st A D/\Binds K D ps []/\Meth K C m A
def NF(K:ah)(U:aa->Option J)(x:aa)(C:Z)(q:aa)(st:a6)(ps:List aa):Prop:=∃A D,a7 K "__init__" q st A D/\Binds K D ps []/\Mk K C A/\U x=Y (.ref C)
structure PU(z:aa->Option J):Prop where
 PV:z "len"=O
 PX:z "min"=O
 EU:z "ord"=O
 EV:z "range"=O
 PY:z "enumerate"=O
 EW:z "list"=O
 EX:z "dict"=O
 EY:z "sum"=O
 PZ:z "max"=O
variable{op:aa}{t0:List aa}{GM:hj}{BT:Sp}
def GF.to(S:GF K z op wE t0)(G:az)(M:aw)(N:aE)(T:∀A D,a7 K op op wE A D->aS G M K z N GM r A D t0 BT):bx G M K z N GM r op t0 BT:=let⟨A,D,Q,a,b⟩:=S;⟨A,D,T A D Q,a,b,Q.kp⟩
variable{Fk:aa}
def MF.to(c:fi K d)(Q:MF K d op Fk wE t0)(G:az)(M:aw)(U:aa->Option J)(N:aE)(S:∀A D,a7 K op Fk wE A D->aS G M K U N GM r A D t0 BT):cC G M K U N GM r d op t0 BT:=let⟨A,D,T,a,b⟩:=Q;⟨⟨A,D,S A D T,a,b⟩,c⟩
def NF.to(Q:NF K z op d Fk wE t0)(G:az)(M:aw)(N:aE)(S:∀A D,a7 K "__init__" Fk wE A D->aS G M K z N GM r A D t0 BT):iD G M K z N GM r op d t0 BT:=let⟨A,D,T,a,b,c⟩:=Q;⟨⟨A,D,S A D T,a,b⟩,c⟩
variable{IO LE:Z}
def join{K:ah}{o f1:Z}(a:yi K z wT)(g3:EO z)(h:Gs z)(f2:Gk z)(c:kH K p)(Q:eE K L s3)(f:kN K o)(rw:q4 K pr)(S:g5 K d)(e:PU z) (B:z "PARTS"=Y (.ref ww)) (E:KD K l m ww gN) (f4:z "BINDERS"=Y (.ref FB)) (f8:∀H,av K H FB [.str "fun",.str "let"]) (bi:z "NUMBERS"=Y (.ref IO)) (bk:∀H,av K H IO (b2 (0,0))) (ga:z "KIND_OF_MAKER"=Y (.ref LE)) (ge:KD K l m LE lV) (gl:z "RUNGS"=Y (.ref f1)) (go:∀H,av K H f1 [.int 0,.int 1,.int 2,.int 3])(hd:∃U,z "MOST_DIGITS"=Y (.int 2 U)) (he:∃U,z "MOST_LETTERS"=Y (.int 4 U)) (hf:∃U,z "MOST_NODES"=Y (.int 30 U)) (hi:∃U,z "MOST_AROUND"=Y (.int 8 U)) (hm:∃U,z "MOST_KEPT"=Y (.int 8 U)) (hz:∃U,z "EVERYTHING"=Y (.int 0 U)) (h0:∃U,z "BY_KINDS"=Y (.int 1 U)) (h1:∃U,z "BOTH_WAYS"=Y (.int 2 U))(h2:∃U,z "SIGNS"=Y (.str " ()0123456789abcdefghijklmnopqrstuvwxyz" U)) (id:∃U,z "NO_SIGN"=Y (.str "?" U)) (ii:∃U,z "NUMBER"=Y (.str "a number" U)) (im:∃U,z "GIVEN"=Y (.str "in" U))(bl:GF K z "is_number" B1 ["word"])(F:GF K z "is_name" B2 ["word"])(bm:GF K z "signs_of" Cg ["text"])(bn:GF K z "words_of" B9 ["signs"])(D:GF K z "read_expression" CK ["text"])(M:GF K z "labels_of" CY ["nodes","forms"])(bs:GF K z "binders_of" C0 ["nodes"])(bt:GF K z "binder_of" C1 ["nodes","label"])(bv:GF K z "sorts_of" C2 ["nodes"])(ca:GF K z "places_of" C3 ["nodes"])(P:GF K z "empty_table" Dm ["program"])(q:GF K z "own_table" Dn ["program"])(n:GF K z "ways_of" CT ["program","table"])(cd:GF K z "standing_ways" Cq ["program","label"])(ce:GF K z "ways_by_facts" xl ["program","label","table"])(ch:GF K z "call_ways" CO ["program","label","table"])(R:GF K z "labels_at" Co ["table","label","kind"])(ci:GF K z "places_that_steer" DQ ["program","place"])(r:GF K z "ask_alone" Ei ["program","place"])(s:GF K z "last_classes" xX ["program"])(cn:GF K z "put_together" xP ["classes","kept","lost"])(V:GF K z "table_of_classes" xV ["program","classes"])(X:GF K z "members" xQ ["program","classes","place"])(co:GF K z "class_sizes" xR ["program","classes"])(t:GF K z "table_of_rung" DP ["program","rung"])(cr:GF K z "everything_table" DD ["program"])(cs:GF K z "kinds_table" DE ["program"])(u:GF K z "least_table" Ds ["program"])(ab:GF K z "as_keys" Cj ["sorts"])(v:GF K z "sorts_at" Cn ["program","table","place"])(ad:GF K z "how_many_facts" Dv ["table"])(al:GF K z "functions_at" Dx ["program","table","place"])(am:GF K z "arrows_of" Dy ["program","table"])(ct:GF K z "changed_program" Ek ["program","label","text"])(c0:GF K z "moved_labels" Eo ["old","new","label"])(an:GF K z "moved_two" D3 ["two","moved"])(c1:GF K z "moved_sort" x7 ["sort","moved"])(c2:GF K z "how_many_kept" Er ["old_table","new_table","moved"])(c3:GF K z "kept_gone_and_new" Et ["old","new","label"])(ap:GF K z "check_rung" D1 ["rung"])(G:GF K z "counted_twos" DX ["twos"])(c4:GF K z "carry_out" EN ["ladder","row"])(c5:GF K z "answer_or_refusal" ES ["ladder","row"])(io:GF K z "answers" tP ["calls"])(as:MF K p "peek" "Reading.peek" Cb ["self"])(w:MF K p "take" "Reading.take" Cc ["self"])(a0:MF K p "pass_over" "Reading.pass_over" Cd ["self","word"])(a1:MF K p "begin_node" "Reading.begin_node" CC ["self"])(c6:MF K p "read_head" "Reading.read_head" Cu ["self"])(c7:MF K p "read_bracketed_head" "Reading.read_bracketed_head" Cv ["self"])(c8:MF K p "read_on" "Reading.read_on" CD ["self"])(c9:MF K L "has_node" "Program.has_node" Df ["self","label"])(db:MF K L "is_call" "Program.is_call" Dg ["self","label"])(a2:MF K L "calls_within" "Program.calls_within" Dh ["self"])(first:MF K L "first_part_of" "Program.first_part_of" Di ["self","label"])(dd:MF K o "look_further" "Asking.look_further" ye ["self"])(dl:MF K o "find_facts" "Asking.find_facts" Eg ["self"])(dp:MF K o "how_much" "Asking.how_much" Ec ["self"])(ds:MF K pr "has_more" "Row.has_more" DU ["self"])(a3:MF K pr "take_number" "Row.take_number" DV ["self"])(dx:MF K pr "take_text" "Row.take_text" DW ["self"])(replace:MF K d "replace_program" "Ladder.replace_program" (ef 1) ["self","text"])(dK:MF K d "tell_text" "Ladder.tell_text" (ef 2) ["self"])(dL:MF K d "tell_set" "Ladder.tell_set" (ef 3) ["self","rung","label"])(dT:MF K d "tell_arrows" "Ladder.tell_arrows" (ef 4) ["self","rung"])(dX:MF K d "tell_counts" "Ladder.tell_counts" (ef 5) ["self"])(d0:MF K d "tell_class" "Ladder.tell_class" (ef 6) ["self","label"])(d1:MF K d "tell_classes" "Ladder.tell_classes" (ef 7) ["self"])(em:MF K d "tell_asked" "Ladder.tell_asked" (ef 8) ["self","label"])(eq:MF K d "tell_funs" "Ladder.tell_funs" (ef 9) ["self","label"])(es:MF K d "tell_looked" "Ladder.tell_looked" (ef 10) ["self","label"])(change:MF K d "change_program" "Ladder.change_program" (ef 11) ["self","label","text"])(ev:MF K d "undo_change" "Ladder.undo_change" (ef 12) ["self"])(ex:MF K d "tell_size" "Ladder.tell_size" (ef 13) ["self"])(i:MF K d "check_node" "Ladder.check_node" (ef 14) ["self","label"])(a4:NF K z "Node" s3 "Node.__init__" Cs ["self","form","word"])(fa:NF K z "Reading" p "Reading.__init__" CJ ["self","words"])(x:NF K z "Program" L "Program.__init__" De ["self","text"])(fd:NF K z "Asking" o "Asking.__init__" yc ["self","program","place"])(fl:NF K z "Row" pr "Row.__init__" DT ["self","numbers"])(fm:NF K z "Ladder" d "Ladder.__init__" (ef 0) ["self"]):∃y a5,z "answers"=Y (.ref y)/\a7 K "answers" "answers" tP y a5/\∀N:aE,aS l m K z N aD 15 y a5 ["calls"] (tQ K):=by
 obtain⟨_,is⟩:=hd;obtain⟨_,it⟩:=he;obtain⟨_,ix⟩:=hf;obtain⟨_,jp⟩:=hi;obtain⟨_,kk⟩:=hm;obtain⟨_,kp⟩:=hz;obtain⟨_,ks⟩:=h0;obtain⟨_,kt⟩:=h1;obtain⟨_,kw⟩:=h2;obtain⟨_,kV⟩:=id;obtain⟨_,gt⟩:=ii;obtain⟨_,fn⟩:=im;obtain⟨_,g1⟩:=h.used;obtain⟨_,b⟩:=h.call;obtain⟨_,j⟩:=h.node;obtain⟨_,k0⟩:=h.name;obtain⟨_,k1⟩:=h.inside;obtain⟨_,g2⟩:=f2.fn;have T:=e.PV
 have bd:=e.PY;obtain⟨y,a5,A,k3,k2⟩:=io;refine⟨y,a5,k2,A,λN=> ?_⟩;have bl:=bl.to l m N λ_ _ A=>MC A T is
 have F:=F.to l m N λ_ _ A=>MG A T it B E;have bm:=bm.to l m N λ_ _ A=>MQ A e.EU kw kV
 have bn:=bn.to l m N λ_ _ A=>MJ A;have a4:=a4.to l m N λ_ _ A=>MY A Q.n
 have fa:=fa.to l m N λ_ _ A=>Nj A c;have as:=MF.to c.cl as l m z N λ_ _ A=>ML A c T
 have w:=MF.to c.cl w l m z N λ_ _ A=>MM A c T e.PX as;have a0:=MF.to c.cl a0 l m z N λ_ _ A=>MN A w a.x1 (a.f6 1 (by decide)).1
 have c7:=MF.to c.cl c7 l m z N λ_ _ A=>M5 A c a.x1 (a.f6 1 (by decide)).1 B E f4 f8 b fn as w a0 a4 F;have c6:=MF.to c.cl c6 l m z N λ_ _ A=>M8 A c a.x1 (a.f6 1 (by decide)).1 gt fn g1 w c7 a4 F bl
 have a1:=MF.to c.cl a1 l m z N λ_ _ A=>Na A c Q.n a.x1 (a.f6 1 (by decide)).1 B E T ix jp c6;have c8:=MF.to c.cl c8 l m z N λ_ _ A=>Ng A c Q.n B E T b a0 a1
 have D:=D.to l m N λ_ _ A=>Nk A c a.x1 (a.f6 1 (by decide)).1 T bm bn fa a1 c8;have M:=M.to l m N λ_ _ A=>Nw A Q.n.cl Q.n.aJ bd
 have bt:=bt.to l m N λ_ _ A=>Nx A Q.n a.x1 (a.f6 1 (by decide)).1;have bs:=bs.to l m N λ_ _ A=>NB A g1 M bt
 have bv:=bv.to l m N λ_ _ A=>NG A Q.n bd bi bk ga ge;have ca:=ca.to l m N λ_ _ A=>NO A h T e.EV f4 f8 M
 have x:=x.to l m N λ_ _ A=>NP A Q e.EW D bs bv ca;have c9:=MF.to Q.p.c c9 l m z N λ_ _ A=>NQ A Q T
 have db:=MF.to Q.p.c db l m z N λ_ _ A=>NS A Q b;have a2:=MF.to Q.p.c a2 l m z N λ_ _ A=>NU A Q b M
 have first:=MF.to Q.p.c first l m z N λ_ _ A=>NV A Q j
 have P:=P.to l m N λ_ _ A=>NW A Q;have q:=q.to l m N λ_ _ A=>N2 A Q bd bi bk ga ge j gt fn P
 have R:=R.to l m N λ_ _ A=>MV A j;have cd:=cd.to l m N λ_ _ A=>MX A Q.p h
 have ch:=ch.to l m N λ_ _ A=>Nl A Q.p h g2 R;have ce:=ce.to l m N λ_ _ A=>Nn A Q.p h f2 R ch
 have n:=n.to l m N λ_ _ A=>Nr A Q.p T e.EV cd ce;have ab:=ab.to l m N λ_ _ A=>MR A
 have v:=v.to l m N λ_ _ A=>MU A Q.p.c Q.p.sorts;have u:=u.to l m N λ_ _ A=>N4 A Q T q n
 have ad:=ad.to l m N λ_ _ A=>N7 A T e.EY;have al:=al.to l m N λ_ _ A=>N8 A Q g2 v
 have am:=am.to l m N λ_ _ A=>N9 A Q a2 first al
 have cr:=cr.to l m N λ_ _ A=>Oa A Q ab;have cs:=cs.to l m N λ_ _ A=>Ob A Q ab u
 have cn:=cn.to l m N λ_ _ A=>Od A e.EW;have X:=X.to l m N λ_ _ A=>Oe A Q
 have co:=co.to l m N λ_ _ A=>Og A Q T X;have V:=V.to l m N λ_ _ A=>Om A Q e.EX q
 have s:=s.to l m N λ_ _ A=>Oq A Q V n cn;have t:=t.to l m N λ_ _ A=>Ot A kp ks kt cr cs V s u
 have ci:=ci.to l m N λ_ _ A=>Ov A Q j k0 k1 b a2 first M
 have fd:=fd.to l m N λ_ _ A=>OO A f P;have dp:=MF.to f.cl dp l m z N λ_ _ A=>OP (C:=L) (CN:=s3) A f T e.EY
 have dd:=MF.to f.cl dd l m z N λ_ _ A=>OQ A f e.EX ci n;have dl:=MF.to f.cl dl l m z N λ_ _ A=>OR A f q n
 have r:=r.to l m N λ_ _ A=>OU A f fd dp dd dl;have ct:=ct.to l m N λ_ _ A=>O1 A Q D x
 have c0:=c0.to l m N λ_ _ A=>O3 A Q T bd;have an:=an.to l m N λ_ _ A=>OD A
 have c1:=c1.to l m N λ_ _ A=>OE A bi bk an;have c2:=c2.to l m N λ_ _ A=>O4 A T an c1
 have c3:=c3.to l m N λ_ _ A=>O5 A u c2 c0 ad;have fl:=fl.to l m N λ_ _ A=>OB A rw
 have ds:=MF.to rw.cl ds l m z N λ_ _ A=>Ow A rw T;have a3:=MF.to rw.cl a3 l m z N λ_ _ A=>Ox A rw
 have dx:=MF.to rw.cl dx l m z N λ_ _ A=>OA A rw a3;have ap:=ap.to l m N λ_ _ A=>OC A a.x2 (a.f6 2 (by decide)).1 gl go
 have G:=G.to l m N λ_ _ A=>Oy A T;have fm:=fm.to l m N λ_ _ A=>Pq A S e.EU x
 have i:=MF.to S.cl i l m z N λ_ _ A=>Pa A S a.x3 (a.f6 3 (by decide)).1 c9;have replace:=MF.to S.cl replace l m z N λ_ _ A=>Pt (Xn:=wT) A S Q T x
 have dK:=MF.to S.cl dK l m z N λ_ _ A=>Pb (Xn:=wT) A S Q T;have dL:=MF.to S.cl dL l m z N λ_ _ A=>Pc (Xn:=wT) A S j ap i t v G
 have dT:=MF.to S.cl dT l m z N λ_ _ A=>Pe (Xn:=wT) A S ap t am G;have dX:=MF.to S.cl dX l m z N λ_ _ A=>Pk (Xn:=wT) A S T gl go t am ad
 have d0:=MF.to S.cl d0 l m z N λ_ _ A=>Pf (Xn:=wT) A S j i s X G;have d1:=MF.to S.cl d1 l m z N λ_ _ A=>Ph (Xn:=wT) A S T e.PZ s co
 have em:=MF.to S.cl em l m z N λ_ _ A=>Pn (Xn:=wT) A S f T j i r v G;have eq:=MF.to S.cl eq l m z N λ_ _ A=>Po (Xn:=wT) A S f T a.x5 (a.f6 5 (by decide)).1 i db first r al
 have es:=MF.to S.cl es l m z N λ_ _ A=>Pp (Xn:=wT) A S f Q j i r G;have change:=MF.to S.cl change l m z N λ_ _ A=>Pu (Xn:=wT) A S Q T kk i ct c3
 have ev:=MF.to S.cl ev l m z N λ_ _ A=>Pw (Xn:=wT) A S Q T a.x4 (a.f6 4 (by decide)).1;have ex:=MF.to S.cl ex l m z N λ_ _ A=>Pm (Xn:=wT) A S Q T
 have c4:=c4.to l m N λ_ _ A=>PL A g3 ⟨a3,dx,replace,dK,dL,dT,dX,d0,d1,em,eq,es,change,ev,ex⟩;have c5:=c5.to l m N λ_ _ A=>PM A a c4
 exact PR A T fm fl ds c5
end Cf
namespace L2
open PySem.W (WData Codec OpenSpec Well WellAll ReadsW ReadsAllW)
mutual
inductive Dw (K:ah) (H:G):V->eJ->Prop
 |br:Dw K H .br .none
 |bl (b:Bool):Dw K H (.bl b) (.bool b)
 |int (i:Int):Dw K H (.int i) (.int i)
 |str (x:aa):Dw K H (.str x) (.str x)
 |fW (b:Array UInt8):Dw K H (.fW b) (.bytes b.toList)
 |lst {a:Z} {xs:List V} {ds:List eJ}:au K H a xs->iN K H xs ds->Dw K H (.ref a) (.list ds)
 |tup {a:Z} {xs:List V} {ds:List eJ}:av K H a xs->iN K H xs ds->Dw K H (.ref a) (.tuple ds)
inductive iN (K:ah) (H:G):List V->List eJ->Prop
 |nil:iN K H [] []
 |cons {v:V} {c:List V} {d:eJ} {ds:List eJ}:Dw K H v d->iN K H c ds->iN K H (v::c) (d::ds)
end
def P0{K:ah}{H:G}:∀A:List Int,iN K H (A.map V.int) (A.map yQ)
 |[]=>.nil
 |n::a=>.cons (.int n) (P0 a)
def P1{K:ah}{H:G}:∀(D:List Int) (A:List V),iN K H A (D.map yQ)->A=D.map V.int
 |[],A,a=>by cases a;rfl
 |n::b,A,a=>by
  cases a with
  |cons c d=>
   cases c;rw [P1 b _ d]<;>rfl
variable{B:aE}{d:Z}{ul:List V}{l:az}{m:aw}{K:ah}{H:G}
def P2(U:dr l m H B)(a:K.In B)(N:au K H d ul):∃(A:List J) (o:aL) (D:Nat),Vals ul A/\B.get? d=Y o/\o.cls=.type "list"/\o.data=.seq A.toArray D:=by
 rcases N with N|⟨o,A,D,Q,b,_,hd,_,T⟩
 .obtain⟨_,A,D,T,Q⟩:=(show dZ l m H B d (.lst ul)from N.ok U)
  exact⟨A,_,D,T,Q,S,S⟩
 .exact⟨A.toList,o,D,T,a _ _ Q,b,by simp [hd]⟩
def P4(a:dr l m H B)(b:K.In B)(N:av K H d ul):∃(A:List J) (o:aL) (D:Nat),Vals ul A/\B.get? d=Y o/\o.cls=.type "tuple"/\o.data=.seq A.toArray D:=by
 rcases N with N|⟨o,A,D,Q,S,T,_,U⟩
 .obtain⟨_,A,U,o,Q,S,D,T⟩:=(show dZ l m H B d (.tup ul)from N.ok a)
  exact⟨A,o,D,U,Q,S,T⟩
 .exact⟨A.toList,o,D,U,b _ _ Q,S,by simp [T]⟩
variable{R:SA}{cl:aa->Option Z}
mutual
theorem Dw.reads(bg:dr l m H B)(a:K.In B):∀(d:eJ) (v:V) (u:J),Dw K H v d->RelV v u->∃D,ReadsW R cl B u d D
 |.none,_,_,x,r=>by
  cases x
  cases r
  exact⟨_,ReadsW.none⟩
 |.bool b,_,_,x,r=>by
  cases x
  cases r
  exact⟨_,ReadsW.bool b⟩
 |.int i,_,_,x,r=>by
  cases x
  obtain⟨G,rfl⟩:=r
  exact⟨_,ReadsW.int i G⟩
 |.str s,_,_,x,r=>by
  cases x
  obtain⟨G,rfl⟩:=r
  exact⟨_,ReadsW.str s G⟩
 |.bytes b,_,_,x,r=>by
  cases x
  obtain⟨G,rfl⟩:=r
  exact⟨_,ReadsW.bytes _ G⟩
 |.list A,_,_,x,r=>by
  cases x with
  |lst c e=>
   cases r
   obtain⟨M,o,n,N,Q,T,hd⟩:=P2 bg a c
   obtain⟨D,U⟩:=Dw.readsAll bg a A _ M e N
   exact⟨_,ReadsW.list Q T hd U⟩
 |.tuple A,_,_,x,r=>by
  cases x with
  |tup c e=>
   cases r
   obtain⟨M,o,n,N,Q,T,hd⟩:=P4 bg a c
   obtain⟨D,U⟩:=Dw.readsAll bg a A _ M e N
   exact⟨_,ReadsW.tuple Q T hd U⟩
 |.float _,_,_,x,_=>by cases x
 |.dict _,_,_,x,_=>by cases x
 |.bytearray _,_,_,x,_=>by cases x
 |.set _,_,_,x,_=>by cases x
 |.frozenset _,_,_,x,_=>by cases x
 |.obj _ _,_,_,x,_=>by cases x
theorem Dw.readsAll(bg:dr l m H B)(a:K.In B):∀(A:List eJ) (f:List V) (g:List J),iN K H f A->Vals f g->∃D,ReadsAllW R cl B g A D
 |[],_,_,x,r=>by
  cases x
  cases r
  exact⟨_,Uz⟩
 |d::A,_,_,x,r=>by
  cases x with
  |cons j k=>
   cases r with
   |cons h P=>
    obtain⟨D,p⟩:=Dw.reads bg a d _ _ j h
    obtain⟨bs,q⟩:=Dw.readsAll bg a A _ _ k P
    exact⟨_,UA p q⟩
end
mutual
def hR:eJ->Bool
 |.none=>I
 |.bool _=>I
 |.int _=>I
 |.str _=>I
 |.bytes _=>I
 |.list xs=>iO xs
 |.tuple xs=>iO xs
 |_=>ao
def iO:List eJ->Bool
 |[]=>I
 |x::r=>hR x&&iO r
end
variable{s2:Type}
def EZ{A:s2->eJ}(G:∀M,hR (A M)=I):∀N:List s2,iO (N.map A)=I
 |[]=>rfl
 |x::a=>by show(hR (A x)&&iO (a.map A))=I;rw [G x,EZ G a]<;>rfl
def lX:∀(c:Codec) (A:c.denote),hR (c.enc A)=I
 |.unit,_=>rfl
 |.bool,_=>rfl
 |.int _ _,_=>rfl
 |.nat _ _,_=>rfl
 |.u8,_=>rfl
 |.bytes _ _,_=>rfl
 |.text _ _ _ _,_=>rfl
 |.list _ _ c,A=>EZ (λD=>lX c D) A
 |.pair c d,A=>by show(hR (c.enc A.1)&&(hR (d.enc A.2)&&I))=I;rw [lX c A.1,lX d A.2]<;>rfl
 |.triple c d a,A=>by show(hR (c.enc A.1)&&(hR (d.enc A.2.1)&&(hR (a.enc A.2.2)&&I)))=I;rw [lX c A.1,lX d A.2.1,lX a A.2.2]<;>rfl
 |.option c,O=>rfl
 |.option c,Y D=>lX c D
def E1:∀(D:List Codec) (A:zu D),iO (rJ D A)=I
 |[],_=>rfl
 |c::D,A=>by show(hR (c.enc A.1)&&iO (rJ D A.2))=I;rw [lX c A.1,E1 D A.2]<;>rfl
def yj:∀{D:List eJ} {A:eJ},A∈D->A.weight<=zv D
 |[],A,a=>absurd a (by simp)
 |x::b,A,a=>by
  show A.weight<=x.weight+1+zv b;rcases bb.mp a with G|m
  .rw [G];omega
  .have M:=yj m;omega
def toV:J->V
 |.none=>.br
 |.bool b=>.bl b
 |.int i _=>.int i
 |.str x _=>.str x
 |.bytes b _=>.fW b
 |.ref a=>.ref a
 |_=>.br
def ih(A:List Z):J->Prop
 |.none=>True
 |.bool _=>True
 |.int _ _=>True
 |.str _ _=>True
 |.bytes _ _=>True
 |.ref a=>a∈A
 |_=>False
variable{wf UE:List Z}
def ih.mono(N:∀A∈wf,A∈UE):∀{u:J},ih wf u->ih UE u:=λ{u} M=>by
 cases u with
 |ref A=>exact N A M
 |none=>trivial
 |bool b=>trivial
 |int i a=>trivial
 |str c a=>trivial
 |bytes b a=>trivial
 |_=>exact g7 M
def P5{u:J}(D:ih wf u):RelV (toV u) u:=by
 cases u with
 |ref a=>rfl
 |none=>rfl
 |bool c=>rfl
 |int i b=>exact⟨b,S⟩
 |str d b=>exact⟨b,S⟩
 |bytes c b=>exact⟨b,S⟩
 |_=>exact g7 D
def pA:∀{A:List J},(∀u∈A,ih wf u)->Vals (A.map toV) A
 |[],_=>.nil
 |u::b,a=>.cons (P5 (a u (bY ..))) (pA λG M=>a G (bM _ M))
def iP(D:aE)(M:List Z)(G:Z):Prop:=∃A:List J,A.length<=aR/\(∀u∈A,ih M u)/\
 (D.get? G=Y {cls:=.type "list",data:=.seq A.toArray}\/D.get? G=Y {cls:=.type "tuple",data:=.seq A.toArray})
def iP.mono(N:∀d∈wf,d∈UE)(Q:iP B wf d):iP B UE d:=by obtain⟨S,T,U,a⟩:=Q;exact⟨S,T,λu b=>(U u b).mono N,a⟩
variable{Sc:kc}
def tR:∀{A:List J} {D:List eJ},kU Sc B A D->A.length=D.length
 |_,_,.nil=>rfl
 |_,_,.cons _ a=>by show _+1=_+1;rw [tR a]
variable{PP:List eJ}
def E2{v:J}(Q:Well Sc B v (.list PP)):∃(M:Z) (N:List J),v=.ref M/\B.get? M=Y {cls:=.type "list",data:=.seq N.toArray}/\kU Sc B N PP:=by
 cases Q with
 |list a b=>exact⟨_,_,S,a,b⟩
def E3{v:J}(Q:Well Sc B v (.tuple PP)):∃(M:Z) (N:List J),v=.ref M/\B.get? M=Y {cls:=.type "tuple",data:=.seq N.toArray}/\kU Sc B N PP:=by
 cases Q with
 |tuple a b=>exact⟨_,_,S,a,b⟩
variable{t1:List J}
def E4{M:eJ}(T:kU Sc B t1 (M::PP)):∃(v:J) (Q:List J),t1=v::Q/\Well Sc B v M/\kU Sc B Q PP:=by
 cases T with
 |cons a b=>exact⟨_,_,S,a,b⟩
variable{r:Nat}
def E5(D:r<=1048576):r<=aR:=cq D (by decide)
mutual
theorem P6:∀(d:eJ) (v:J),Well Sc B v d->hR d=I->d.weight<=1048576->∃A:List Z,ih A v/\∀a∈A,iP B A a
 |.none,_,x,_,_=>by
  cases x
  exact⟨[],trivial,λa m=>absurd m (by simp)⟩
 |.bool D,_,x,_,_=>by
  cases x
  exact⟨[],trivial,λa m=>absurd m (by simp)⟩
 |.int i,_,x,_,_=>by
  cases x
  exact⟨[],trivial,λa m=>absurd m (by simp)⟩
 |.str s,_,x,_,_=>by
  cases x
  exact⟨[],trivial,λa m=>absurd m (by simp)⟩
 |.bytes D,_,x,_,_=>by
  cases x
  exact⟨[],trivial,λa m=>absurd m (by simp)⟩
 |.list G,_,x,p,z=>by
  obtain⟨a,N,rfl,e,T⟩:=E2 x
  have U:zv G<=1048576:=z
  obtain⟨A,f,g⟩:=tS G _ T p λd hd=>cq (yj hd) U
  have k:∀D∈A,D∈a::A:=λD M=>bM _ M
  refine⟨a::A,bY ..,λD M=> ?_⟩
  rcases bb.mp M with Q|m
  .rw [Q]
   exact⟨N,E5 (by rw [tR T];exact cq (SD G) U),λu b=>(f u b).mono k,.inl e⟩
  .exact(g D m).mono k
 |.tuple G,_,x,p,z=>by
  obtain⟨a,N,rfl,e,T⟩:=E3 x
  have U:zv G<=1048576:=z
  obtain⟨A,f,g⟩:=tS G _ T p λd hd=>cq (yj hd) U
  have k:∀D∈A,D∈a::A:=λD M=>bM _ M
  refine⟨a::A,bY ..,λD M=> ?_⟩
  rcases bb.mp M with Q|m
  .rw [Q]
   exact⟨N,E5 (by rw [tR T];exact cq (SD G) U),λu b=>(f u b).mono k,.inr e⟩
  .exact(g D m).mono k
 |.float _,_,_,p,_=>iq (show ao=I from p)
 |.dict _,_,_,p,_=>iq (show ao=I from p)
 |.bytearray _,_,_,p,_=>iq (show ao=I from p)
 |.set _,_,_,p,_=>iq (show ao=I from p)
 |.frozenset _,_,_,p,_=>iq (show ao=I from p)
 |.obj _ _,_,_,p,_=>iq (show ao=I from p)
theorem tS:∀(G:List eJ) (N:List J),kU Sc B N G->iO G=I->(∀d∈G,d.weight<=1048576)->∃A:List Z,(∀u∈N,ih A u)/\∀a∈A,iP B A a
 |[],_,x,_,_=>by
  cases x
  exact⟨[],λu m=>absurd m (by simp),λa m=>absurd m (by simp)⟩
 |d::G,_,x,p,z=>by
  obtain⟨v,N,rfl,x1,x2⟩:=E4 x
  have j:hR d=I/\iO G=I:=SE.mp p
  obtain⟨A,o,q⟩:=P6 d v x1 j.1 (z d (bY ..))
  obtain⟨c,r,t⟩:=tS G N x2 j.2 λQ w=>z Q (bM _ w)
  have l:∀D∈A,D∈A++c:=λD M=>bS.mpr (.inl M)
  have n:∀D∈c,D∈A++c:=λD M=>bS.mpr (.inr M)
  refine⟨A++c,λu b=> ?_,λD M=> ?_⟩
  .rcases bb.mp b with Q|m
   .rw [Q]
    exact o.mono l
   .exact(r u m).mono n
  .rcases bS.mp M with m|m
   .exact(q D m).mono l
   .exact(t D m).mono n
end
def tT(o:aL):Option HO:=match o.data with
 |.seq a _=>if(o.cls==pD "list")=I then Y (.bO o (.lst (a.toList.map toV)))else Y (.bO o (.tup (a.toList.map toV)))
 |_=>O
def gg(K:ah)(D:aE)(M:List Z):G:=λA=>if A∈M then(if(K.lookup A).isNone=I then(D.get? A).bind tT else O)else O
def q7(H:G):Prop:=∀A,H A=O\/∃o u,H A=Y (.bO o u)
def E6(A:List J):tT {cls:=.type "list",data:=.seq A.toArray}=Y (.bO {cls:=.type "list",data:=.seq A.toArray} (.lst (A.map toV))):=by show(if(pD "list"==pD "list")=I then Y (HO.bO {cls:=.type "list",data:=.seq A.toArray} (.lst (A.toArray.toList.map toV)))else Y (HO.bO {cls:=.type "list",data:=.seq A.toArray} (.tup (A.toArray.toList.map toV))))=_;rw [ak (F7 _)]
def E7(A:List J):tT {cls:=.type "tuple",data:=.seq A.toArray}=Y (.bO {cls:=.type "tuple",data:=.seq A.toArray} (.tup (A.map toV))):=by show(if(pD "tuple"==pD "list")=I then Y (HO.bO {cls:=.type "tuple",data:=.seq A.toArray} (.lst (A.toArray.toList.map toV)))else Y (HO.bO {cls:=.type "tuple",data:=.seq A.toArray} (.tup (A.toArray.toList.map toV))))=_;rw [N (by decide)]
def tU{o:aL}(G:d∈wf)(M:K.lookup d=O)(N:B.get? d=Y o):gg K B wf d=tT o:=by unfold gg;rw [ak G,M,ak (show(O:Option aL).isNone=I from rfl),N]<;>rfl
def P7{u:HO}(D:gg K B wf d=Y u):d∈wf/\K.lookup d=O:=by
 unfold gg at D;by_cases M:d∈wf
 .rw [ak M]at D;cases a:K.lookup d with
  |none=>exact⟨M,S⟩
  |some o=>
   rw [a,N (by simp)]at D;cases D
 .rw [N M]at D;cases D
def tV(T:∀U∈wf,iP B wf U){u:HO}(M:gg K B wf d=Y u):K.lookup d=O/\∃D:List J,D.length<=aR/\(∀u∈D,ih wf u)/\ ((B.get? d=Y {cls:=.type "list",data:=.seq D.toArray}/\u=.bO {cls:=.type "list",data:=.seq D.toArray} (.lst (D.map toV)))\/(B.get? d=Y {cls:=.type "tuple",data:=.seq D.toArray}/\u=.bO {cls:=.type "tuple",data:=.seq D.toArray} (.tup (D.map toV)))):=by
 obtain⟨Q,S⟩:=P7 M;obtain⟨D,a,b,c⟩:=T d Q;refine⟨S,D,a,b, ?_⟩;rcases c with N|N
 .rw [tU Q S N,E6]at M;exact .inl ⟨N,(a8 M).symm⟩
 .rw [tU Q S N,E7]at M;exact .inr ⟨N,(a8 M).symm⟩
def P8(G:∀M∈wf,iP B wf M):q7 (gg K B wf):=λN=>by
 cases a:gg K B wf N with
 |none=>exact .inl S
 |some u=>
  obtain⟨_,Q,_,_,⟨_,D⟩|⟨_,D⟩⟩:=tV G a
  .exact .inr ⟨_,_,by rw [D]⟩
  .exact .inr ⟨_,_,by rw [D]⟩
def P9(Q:∀T∈wf,iP B wf T):dr l m (gg K B wf) B:=λa u U=>by
 obtain⟨_,G,M,N,⟨D,rfl⟩|⟨D,rfl⟩⟩:=tV Q U
 .exact⟨D,by rw [ag];exact M,G,_,pA N,D⟩
 .exact⟨D,by rw [ag];exact M,G,pA N,_,D,S,_,S⟩
variable{wn:J}{UY:List J}
def tW{c:J}(Q:(Y {cls:=c,data:=.seq t1.toArray}:Option aL)=Y {cls:=wn,data:=.seq UY.toArray}):c=wn/\t1=UY:=by
 have N:=a8 Q;have S:c=wn:=bN Obj.cls N
 have T:zw t1.toArray=zw UY.toArray:=bN Obj.data N;injection T with a;refine⟨S, ?_⟩;have U:=bN Fh a
 simpa using U
def Qa(c:K.In B)(D:∀d∈wf,iP B wf d)(Q:d∈wf)(N:B.get? d=Y {cls:=.type "list",data:=.seq t1.toArray}):(∀u∈t1,ih wf u)/\au K (gg K B wf) d (t1.map toV):=by
 obtain⟨T,e,U,f⟩:=D d Q;have g:T=t1:=by
  rcases f with G|G
  .rw [N]at G;exact(tW G).2.symm
  .rw [N]at G;exact absurd (SF (tW G).1) (by decide)
 subst g;refine⟨U, ?_⟩;cases a:K.lookup d with
 |none=>exact .inl (.inr ⟨_,by rw [tU Q a N,E6]⟩)
 |some o=>
  have b:=c d o a;rw [N]at b;obtain rfl:=a8 b;exact .inr ⟨_,T.toArray,_,a,S,S,S,by rw [e0];exact e,by simpa using pA U⟩
def Qb(c:K.In B)(D:∀d∈wf,iP B wf d)(Q:d∈wf)(N:B.get? d=Y {cls:=.type "tuple",data:=.seq t1.toArray}):(∀u∈t1,ih wf u)/\av K (gg K B wf) d (t1.map toV):=by
 obtain⟨T,e,U,f⟩:=D d Q;have g:T=t1:=by
  rcases f with G|G
  .rw [N]at G;exact absurd (SF (tW G).1) (by decide)
  .rw [N]at G;exact(tW G).2.symm
 subst g;refine⟨U, ?_⟩;cases a:K.lookup d with
 |none=>exact .inl (.inr ⟨_,by rw [tU Q a N,E7]⟩)
 |some o=>
  have b:=c d o a;rw [N]at b;obtain rfl:=a8 b;exact .inr ⟨_,T.toArray,_,a,S,S,by rw [e0];exact e,by simpa using pA U⟩
mutual
theorem Qc{g:kc}(c:K.In B)(e:∀a∈wf,iP B wf a):∀(d:eJ) (v:J),Well g B v d->hR d=I->ih wf v->Dw K (gg K B wf) (toV v) d
 |.none,_,x,_,_=>by
  cases x
  exact .br
 |.bool b,_,x,_,_=>by
  cases x
  exact .bl b
 |.int i,_,x,_,_=>by
  cases x
  exact .int i
 |.str s,_,x,_,_=>by
  cases x
  exact .str s
 |.bytes b,_,x,_,_=>by
  cases x
  have j:=Dw.fW (K:=K) (H:=gg K B wf) b.toArray
  exact j
 |.list D,_,x,p,f=>by
  obtain⟨a,G,rfl,M,N⟩:=E2 x
  obtain⟨Q,T⟩:=Qa c e f M
  exact .lst T (tX c e D _ N p Q)
 |.tuple D,_,x,p,f=>by
  obtain⟨a,G,rfl,M,N⟩:=E3 x
  obtain⟨Q,T⟩:=Qb c e f M
  exact .tup T (tX c e D _ N p Q)
 |.float _,_,_,p,_=>iq (show ao=I from p)
 |.dict _,_,_,p,_=>iq (show ao=I from p)
 |.bytearray _,_,_,p,_=>iq (show ao=I from p)
 |.set _,_,_,p,_=>iq (show ao=I from p)
 |.frozenset _,_,_,p,_=>iq (show ao=I from p)
 |.obj _ _,_,_,p,_=>iq (show ao=I from p)
theorem tX{g:kc}(c:K.In B)(e:∀a∈wf,iP B wf a):∀(D:List eJ) (G:List J),kU g B G D->iO D=I->(∀u∈G,ih wf u)->iN K (gg K B wf) (G.map toV) D
 |[],_,x,_,_=>by
  cases x
  exact .nil
 |d::D,_,x,p,f=>by
  obtain⟨v,G,rfl,x1,x2⟩:=E4 x
  have U:hR d=I/\iO D=I:=SE.mp p
  exact .cons (Qc c e d v x1 U.1 (f _ (bY ..))) (tX c e D G x2 U.2 λu m=>f u (bM _ m))
end
variable{t:aj}{z Vr:aa->Option J}{t0:List aa}{GM:hj}{o0:bc}{BT:Sp}
def Qd{K:ah}{R:SA}{cl:aa->Option Z}{d0:eJ}(q:K.In t.heap) (ab:t.heap.Ns fb z) (U:t.heap.Ns Fd Vr) (bk:∀T:aa,T≠"__name__"->Vr T=t2 T) (bl:t.heap.NoLimit) (bm:t.gens= #[])(s:kU m.params t.heap t1 PP) (ad:iO PP=I) (bn:∀a∈PP,a.weight<=1048576) (bs:dh r pU)(bt:∀g:aE,K.In g->g.Ns fb z->aS l m K z g GM r d o0 t0 BT) (bv:∀(ca:aj) (w:List J),w.length=t0.length->rg ca o0 ⟨w,[]⟩ (t0.zip w)) (cd:PP.length=t0.length)(ce:∀(H:G) (al:List V),q7 H->iN K H al PP->BT al H (λv am=>Dw K am v d0) λ_ _ _=>False)(ch:∀H M N,GM [] H t (λ_ _ _=>False) M N->False):pM (aM l m) pU (.call (.ref d) ⟨t1,[]⟩) (λj N=>∃u x,j=.ok (.ret u)/\ReadsW R cl N.heap u d0 x/\OldK t.heap N.heap/\N.os=t.os/\j4 N.gens) t:=by
 obtain⟨D,an,k⟩:=tS PP t1 s ad bn;have y:q7 (gg K t.heap D):=P8 k
 have h:dr l m (gg K t.heap D) t.heap:=P9 k;have ap:=tX q k PP t1 s ad an
 have ci:=pA an;have as:∀A u,gg K t.heap D A=Y u->K.lookup A=O:=λA u b=>(tV k b).1
 have a0:∀{A:Z} {o:aL} {e:Array g8} {f:Nat},t.heap.get? A=Y o->o.data=.dict e f->gg K t.heap D A=O:=λ{A o e f} M a=>by
  cases b:gg K t.heap D A with
  |none=>rfl
  |some u=>
   obtain⟨_,a1,_,_,⟨Q,_⟩|⟨Q,_⟩⟩:=tV k b
   .rw [Q]at M;cases M;have B:zw a1.toArray _=SG e f:=a
    cases B
   .rw [Q]at M;cases M;have B:zw a1.toArray _=SG e f:=a
    cases B
 generalize gg K t.heap D=H at y h ap as a0;have a2:∀{A:Z} {o:aL},t.heap.get? A=Y o->H A=O->(km t.heap H).get? A=Y o:=λM cn=>G5 M cn
 have n:∀{A:Z} {C:aa->Option J},t.heap.Ns A C->(km t.heap H).Ns A C:=λ{A C} ⟨o,e,f,M,a,j⟩=>⟨o,e,f,a2 M (a0 M a),a,j⟩
 have co:∀A o,K.lookup A=Y o->H A=O:=λA o M=>by
  cases b:H A with
  |none=>rfl
  |some u=>
   rw [as A u b]at M;cases M
 have a3:K.In (km t.heap H):=λA o M=>a2 (q A o M) (co A o M);have cr:Mod K z (km t.heap H):=⟨a3,n ab,⟨Vr,n U,bk⟩,let⟨cs,ct,c0⟩:=bl;⟨cs,n ct,c0⟩⟩
 have c1:my l m K z (km t.heap H) pU [] t H:=⟨S,cr,λA o M=>G6 M,uc (G4 _ _),trivial,λA U=>absurd (show A∈([]:List Z)from U) (by simp),h,.of_eq bm⟩
 have c2:t1.length=t0.length:=by rw [tR s];exact cd
 refine yw ((bt _ a3 (n ab)).run pU [] t H ⟨t1,[]⟩ t1 (t1.map toV) _ _ bs c1 (bv t t1 c2) ci (ce H _ y ap)) λj N T=> ?_;cases j with
 |error M=>exact(ch H M N T).elim
 |ok fl=>
  cases fl with
  |next=>exact g7 T
  |brk=>exact g7 T
  |cont=>exact g7 T
  |ret u=>
   obtain⟨v,am,c3,c4,a4,a5,c5,b⟩:=T;have bd:∀A o,t.heap.get? A=Y o->N.heap.get? A=Y o:=λA o M=>by
    cases be:H A with
    |none=>exact a4.keep A o M be (by intro c;exact absurd (show A∈([]:List Z)from c) (by simp)) (by simp)
    |some db=>
     rcases y A with c|⟨c6,dd,c⟩
     .rw [be]at c;cases c
     .have c7:=a4.i4 A c6 _ c;obtain⟨bi,_⟩:=h A _ c;obtain⟨Q,_⟩:=a5 A _ c7;rw [M]at bi;cases bi;exact Q
   have c8:K.In N.heap:=λA o M=>bd A o (q A o M);obtain⟨x,c9⟩:=Dw.reads (R:=R) (cl:=cl) a5 c8 d0 v u b c5;exact⟨u,x,S,c9,OldK.of_keep bd,c3,c4⟩
def Qe(G:WData.layableAll PP=I):∀A∈PP,A.weight<=1048576:=λA M=>
 (PySem.W.layableW_iff.mp (j9.mp G A M)).2.2
def E8:∀(A:List Codec) (D:zu A),(rJ A D).length=A.length
 |[],_=>rfl
 |c::A,D=>by show(rJ A D.2).length+1=A.length+1;rw [E8 A D.2]
variable{UL:aw->aE->Prop}{KE:List aa}{U1:(aa->Option J)->aE->Prop}
def Qg{D:OpenSpec}{e:DefRec}{K:kc->ah}{CX:aw->hj}{sp:aw->Sp}(s:D.wellSaid=I) (bm:e.params.defaults=[]) (t:D.args.length=t0.length) (w:dh r pU)(x:∀(A:aw) (N:aE),UL A N->(K A.params).In N)(y:∀(A:aw) (Q:aa->Option J) (a:Z) (N:aE),UL A N->(K A.params).In N->N.Ns fb Q->Q e.name=Y (.ref a)->∃f:bc,(∀(g:aj) (h:List J),h.length=t0.length->rg g f ⟨h,[]⟩ (t0.zip h))/\ ∀i:aE,(K A.params).In i->i.Ns fb Q->aS D.prog A (K A.params) Q i (CX A) r a f t0 (sp A))(z:∀(A:aw) (H:G) (b:List V) (M:zu D.args),q7 H->SH D.args M=I->uP D.args D.asked M=I->iN (K A.params) H b (rJ D.args M)->sp A b H (λv B=>Dw (K A.params) B v (D.ret.enc (uP D.args D.f M))) λ_ _ _=>False)(C:∀(A:aw) (H:G) (g:aj) (j:J) (c:aj),CX A [] H g (λ_ _ _=>False) j c->False):SI l KE U1 UL D e [] (λE F=>gR E F):=by
 intro A L P Q bn T U a o bs bt bv ca cd ce ch ci cn X ab args co cr ad al cs am ct;obtain⟨M,an,ap⟩:=PySem.W.os_pre_some ad;obtain⟨as,m⟩:=Codec.encAll_of_decAll D.args args M an;subst as;have n:=x A _ U
 obtain⟨f,a0,a1⟩:=y A Q a _ U n T.T.g X;refine Rp (yw (Qd (R:=[]) (cl:=classAt L.heap) (d0:=D.ret.enc (uP D.args D.f M)) n T.T.g T.T.b T.T.builtins T.T.nolimit ab am (E1 _ _) (Qe al) w a1 a0 (by rw [E8];exact t) (λH b a2 a3=>z A H b M a2 m ap a3) λH j c=>C A H P j c) λc0 c a4=> ?_);obtain⟨u,a5,rfl,bd,be,bi,bk⟩:=a4;exact⟨.inl ⟨u,_,a5,S,λ_=>S,bd,(OpenSpec.post_iff s m _ _).mpr S,λbl=>iq (show ao=I from bl)⟩,be,bi,bk⟩
def SN{D:OpenSpec}{b:DefRec}{K:kc->ah}{c:hj}{d:ah->Sp}(o:D.wellSaid=I) (p:b.params.defaults=[]) (q:D.args.length=t0.length) (S:dh r pU)(s:∀(A:aw) (M:aE),UL A M->(K A.params).In M)(t:∀(A:aw) (T:aa->Option J) (j:Z) (M:aE),UL A M->(K A.params).In M->M.Ns fb T->T b.name=Y (.ref j)->∃k:bc,(∀(Q:aj) (e:List J),e.length=t0.length->rg Q k ⟨e,[]⟩ (t0.zip e))/\ ∀f:aE,(K A.params).In f->f.Ns fb T->aS D.prog A (K A.params) T f c r j k t0 (d (K A.params)))(u:∀(K:ah) (H:G) (U:List V) (N:zu D.args),q7 H->SH D.args N=I->uP D.args D.asked N=I->iN K H U (rJ D.args N)->d K U H (λv w=>Dw K w v (D.ret.enc (uP D.args D.f N))) λ_ _ _=>False)(x:∀(H:G) (Q:aj) (g:J) (h:aj),c [] H Q (λ_ _ _=>False) g h->False):SI l KE U1 UL D b [] (λy z=>gR y z):=
 Qg (K:=K) (CX:=λ_=>c) (sp:=λA=>d (K A.params)) o p q S s t (λA H U N B C E F=>u (K A.params) H U N B C E F) λ_ H Q g h=>x H Q g h
end L2
namespace Cf
abbrev FL(K:ah)(x q:aa)(st:a6)(f:Z)(oc:J)(od an:Option Z)(pB:Array (Option J))(kV lY pm jx ct:J):Prop:=K.lookup f=Y ⟨oc,od,.func (ny x q (ou st) (jM st) (ei st) .none kV lY pm an jx ct),pB⟩
variable{wn On Uf UB UC:J}{Ps:Option Z}
abbrev BA(x q:aa)(st:a6)(ps:List aa):Prop:=∀(wn On Uf:J) (Ps:Option Z) (UB UC:J) (A:List J),A.length=ps.length->yv (ny x q (ou st) (jM st) (ei st) .none wn On Uf Ps UB UC) ⟨A,[]⟩=df (ps.zip A)
variable{op:aa}{d:Z}{wE:a6}{B:aE}{z:aa->Option J}{t0:List aa}{UQ:J}{UK:Option Z}{UR:Array (Option J)}{K:ah}
def GF.mk(G:K.In B)(M:B.Ns fb z)(N:mq K fb op=Y (Y (.ref d)))(A:FL K op op wE d On Ps UK UR Uf UB UC wn UQ)(c:ri K wn op=I)(D:kS K (.ref d)=I)(Q:BA op op wE t0):GF K z op wE t0:=⟨d,_,ov A c D,(ov A c D).binds Q,mr G M N⟩
variable{Fk:aa}{p:Z}
def MF.mk(G:j5 K (.ref p) op=Y (Y (.ref d)))(M:ub K (.ref d)=I)(D:FL K op Fk wE d On Ps UK UR Uf UB UC wn UQ)(c:ri K wn Fk=I)(A:kS K (.ref d)=I)(N:BA op Fk wE t0):MF K p op Fk wE t0:=⟨d,_,ov D c A,(ov D c A).binds N,⟨G,M,A⟩⟩
def NF.mk(G:K.In B)(M:B.Ns fb z)(N:mq K fb Fk=Y (Y (.ref d)))(mk:Fp K d=I)(Q:kS K (.ref d)=I)(S:j5 K (.ref d) "__init__"=Y (Y (.ref p)))(T:ub K (.ref p)=I)(A:FL K "__init__" op wE p On Ps UK UR Uf UB UC wn UQ)(c:ri K wn op=I)(D:kS K (.ref p)=I)(b:BA "__init__" op wE t0):NF K z Fk d op wE t0:=
 ⟨p,_,ov A c D,(ov A c D).binds b,⟨mk,S,T,Q⟩,mr G M N⟩
variable{wP:dz}{v2:Int}
def int_mk(G:K.In B)(M:B.Ns fb z)(N:mq K fb op=Y (Y (.int v2 wP))):∃wP,z op=Y (.int v2 wP):=⟨wP,mr G M N⟩
def str_mk(G:K.In B)(M:B.Ns fb z)(N:mq K fb Fk=Y (Y (.str op wP))):∃wP,z Fk=Y (.str op wP):=⟨wP,mr G M N⟩
def xn(a1 a2 a3 a4 a5:Z):Nat->Z
 |1=>a1|2=>a2|3=>a3|4=>a4|_=>a5
abbrev q8(K:ah)(a:Z):Prop:=gS K a f5 "Exception.__new__"=I/\mroIn K a=I
variable{L pr s3:Z}
def SO(D:K.In B)(G:B.Ns fb z)(N:mq K fb "NoProgram"=Y (Y (.ref d)))(Q:mq K fb "NoRung"=Y (Y (.ref p)))(T:mq K fb "NoNode"=Y (Y (.ref L)))(b:mq K fb "NothingKept"=Y (Y (.ref pr)))(c:mq K fb "NoCall"=Y (Y (.ref s3)))(l:q8 K d) (n:q8 K p) (o:q8 K L) (h:q8 K pr) (r:q8 K s3) (U:[d,p,L,pr,s3].Nodup) (e:∃A,z "NO_PROGRAM"=Y (.int (-1) A)) (g:∃A,z "NO_RUNG"=Y (.int (-2) A)) (i:∃A,z "NO_NODE"=Y (.int (-3) A)) (j:∃A,z "NOTHING_KEPT"=Y (.int (-4) A)) (k:∃A,z "NO_CALL"=Y (.int (-5) A)):yi K z (xn d p L pr s3):=by refine⟨mr D G N,mr D G Q,mr D G T,mr D G b,mr D G c,λs M=> ?_,U,e,g,i,j,k⟩;simp only [bb,ej,fy]at M;rcases M with rfl|rfl|rfl|rfl|rfl<;>assumption
variable{t1:List J}{r:Nat}{ul:List V}
def SQ(M:K.lookup d=Y {cls:=.type "tuple",data:=.seq t1.toArray r})(N:t1.length<=9)(v:Vals ul t1):∀H,av K H d ul:=λH=>.inr ⟨_,t1.toArray,r,M,S,S,by rw [e0];exact cq N (by decide),v⟩
def Qh(w:aw)(A:aa×Int×dz×dz):g8:=⟨PyData.keyHash w.params A.1,.str A.1 A.2.2.1,.int A.2.1 A.2.2.2⟩
variable{m:aw}{l:az}
def SR(D:List (aa×Int×dz×dz))(G:K.lookup d=Y {cls:=.type "dict",data:=.dict (D.map (Qh m)).toArray r})(T:(d==er)=ao)(M:(D.map (·.1)).Nodup):KD K l m d (D.map λA=>(.inr A.1,.int A.2.1)):=by
 refine⟨λB c=>⟨D.map λA=>(.inr A.1,.int A.2.1 A.2.2.2), ?_,_,_,r,c _ _ G,⟨S,S,S⟩,S,λA Q=> ?_, ?_, ?_⟩,T⟩
 .clear G M;induction D with
  |nil=>exact .nil
  |cons A a b=>exact .cons ⟨S,_,S⟩ b
 .rw [List.mem_toArray]at Q;obtain⟨y,_,rfl⟩:=bE.mp Q;exact⟨.inr y.1,jL ⟨_,S⟩,S⟩
 .clear G M;rw [FY];induction D with
  |nil=>exact .nil
  |cons A a b=>exact .cons (jL (k:=.inr A.1) ⟨_,S⟩) S b
 .rw [eh];have:(D.map ((λop:Key×J=>op.1)∘λA=>((.inr A.1:Key),pC A.2.1 A.2.2.2)))=(D.map (·.1)).map kP:=by rw [eh];rfl
  rw [this];exact jk (λ_ _ e=>by injection e) M
def fin(Q:z "answers"=Y (.ref p))(T:∃d D,z "answers"=Y (.ref d)/\a7 K "answers" "answers" tP d D/\∀A:aE,aS l m K z A aD 15 d D ["calls"] (tQ K)):∃D:bc,(∀(M:aj) (G:List J),G.length=(["calls"]:List aa).length->rg M D ⟨G,[]⟩ ((["calls"]:List aa).zip G))/\∀A:aE,K.In A->A.Ns fb z->aS l m K z A aD 15 p D ["calls"] (tQ K):=by obtain⟨d,D,N,b,c⟩:=T;rw [Q]at N;cases N;obtain⟨wn,Ps,On,Uf,UB,UK,UC,UQ,UR,rfl,_⟩:=b.ex;exact⟨_,λM G U=>match G,U with|[_],_=>.of_eq rfl,λA _ _=>c A⟩
end Cf
namespace PySem.Challenge.cw_coarserflows_s01_answers_holds
def tw12101391358767663327:=0
def tw12737396266598472349:=0
def tw11112327660137075022:=0
def tw14927156787278707558:=0
def tw2658896323594249039:=0
def tw5547120352873130756:=0
def tw11566301386547306383:=0
def tw8294510622803074495:=0
def tw5074644416987687524:=0
def tw8739463106841934285:=0
def tw4594186405097544796:=0
def tw10254891649087495383:=0
def tw9435298080450728484:=0
def tw9412776648312513112:=0
def tw1748173886319641071:=0
def tw14040429031651210891:=0
def tw2414962705422728697:=0
def tw5232368964965894103:=0
def tw14646812317466565058:=0
def tw14445820326624028916:=0
def tw14730557543562894394:=0
def tw9051814535726094777:=0
def tw7968267498791342833:=0
def tw9220193627665138041:=0
def tw2848419131298023069:=0
def tw16476135183210213692:=0
def tw13967208720869816296:=0
def tw9698231069882531072:=0
def tw4455721937986399090:=0
def tw3529119778128531862:=0
def tw3786359820312850366:=0
def tw2219842879604708679:=0
def tw14866929684954292662:=0
def tw18120265225914262423:=0
def tw12122044158957666649:=0
def tw5663154319517524377:=0
def tw4740675122308848143:=0
def tw14996008268832297628:=0
def tw18390867102831555826:=0
def tw1501130961501064098:=0
def tw11903279866967525754:=0
def tw9487124689567857614:=0
def tw14973687123979314142:=0
def tw2306083069944038011:=0
def tw8890962156038870286:=0
def tw316290359281240669:=0
def tw7999718848345585430:=0
def tw15603359122171039996:=0
def tw9189844238296704647:=0
end PySem.Challenge.cw_coarserflows_s01_answers_holds
open PySem PySem.W PyProof.Rows
set_option maxRecDepth 100000 in
set_option maxHeartbeats 0 in
theorem PySem.Challenge.cw_coarserflows_s01_answers_holds : PySem.Challenge.rw_coarserflows_s01_answers.Holds := by
  w_on; k_headS; (case hw => exact ⟨[.list [.int 1]], by decide +kernel, by decide +kernel⟩)
  k_fillS
  refine L2.SN (D := PySem.Challenge.rw_coarserflows_s01_answers) (r := 15) (c := L2.aD) (t0 := ["calls"]) (d := Cf.tQ) (by decide +kernel) rfl rfl ⟨rfl, by decide, by decide⟩ (fun w h Y => PySem.W.kIn_of Y) ?F ?S (fun _ _ _ _ z => z)
  case F =>
    intro w mg fa h Y KX G hmg
    refine Cf.fin hmg ?_
    refine' Cf.join ?E ?Z ?G ?Gk ?rd ?pc ?ak ?rw ?ld ?nb ?gP ?kP ?gB ?kB ?gN ?kN ?gM ?kM ?gR ?kR ?c2 ?c4 ?c30 ?c8 ?ck ?e0 ?e1 ?e2 ?s1 ?s2 ?s3 ?s4 ?f0 ?f1 ?f2 ?f3 ?f4 ?f5 ?f6 ?f7 ?f8 ?f9 ?f10 ?f11 ?f12 ?f13 ?f14 ?f15 ?f16 ?f17 ?f18 ?f19 ?f20 ?f21 ?f22 ?f23 ?f24 ?f25 ?f26 ?f27 ?f28 ?f29 ?f30 ?f31 ?f32 ?f33 ?f34 ?f35 ?f36 ?f37 ?f38 ?f39 ?f40 ?f41 ?f42 ?f43 ?m0 ?m1 ?m2 ?m3 ?m4 ?m5 ?m6 ?m7 ?m8 ?m9 ?m10 ?m11 ?m12 ?m13 ?m14 ?m15 ?m16 ?m17 ?m18 ?m19 ?m20 ?m21 ?m22 ?m23 ?m24 ?m25 ?m26 ?m27 ?m28 ?m29 ?m30 ?n0 ?n1 ?n2 ?n3 ?n4 ?n5
    any_goals (refine' Cf.NF.mk KX G ?n ?m ?d ?e ?i ?l ?c ?k ?b; (case n => (first|k_is|with_unfolding_all rfl)); (case m => (first|k_is|with_unfolding_all rfl)); (case d => (first|k_is|with_unfolding_all rfl)); (case e => (first|k_is|with_unfolding_all rfl)); (case i => (first|k_is|with_unfolding_all rfl)); (case l => with_unfolding_all rfl); (case c => (first|k_is|with_unfolding_all rfl)); (case k => (first|k_is|with_unfolding_all rfl)); (case b => first | (exact fun _ _ _ _ _ _ us hl => match us, hl with | [_], _ => rfl) | (exact fun _ _ _ _ _ _ us hl => match us, hl with | [_, _], _ => rfl) | (exact fun _ _ _ _ _ _ us hl => match us, hl with | [_, _, _], _ => rfl)))
    any_goals (refine' Cf.MF.mk ?e ?i ?l ?c ?k ?b; (case e => (first|k_is|with_unfolding_all rfl)); (case i => (first|k_is|with_unfolding_all rfl)); (case l => with_unfolding_all rfl); (case c => (first|k_is|with_unfolding_all rfl)); (case k => (first|k_is|with_unfolding_all rfl)); (case b => first | (exact fun _ _ _ _ _ _ us hl => match us, hl with | [_], _ => rfl) | (exact fun _ _ _ _ _ _ us hl => match us, hl with | [_, _], _ => rfl) | (exact fun _ _ _ _ _ _ us hl => match us, hl with | [_, _, _], _ => rfl)))
    any_goals (refine' Cf.GF.mk KX G ?e ?l ?c ?k ?b; (case e => (first|k_is|with_unfolding_all rfl)); (case l => with_unfolding_all rfl); (case c => (first|k_is|with_unfolding_all rfl)); (case k => (first|k_is|with_unfolding_all rfl)); (case b => first | (exact fun _ _ _ _ _ _ us hl => match us, hl with | [_], _ => rfl) | (exact fun _ _ _ _ _ _ us hl => match us, hl with | [_, _], _ => rfl) | (exact fun _ _ _ _ _ _ us hl => match us, hl with | [_, _, _], _ => rfl)))
    (case E => refine' Cf.SO KX G ?a1 ?a2 ?a3 ?a4 ?a5 ?b1 ?b2 ?b3 ?b4 ?b5 ?c ?d1 ?d2 ?d3 ?d4 ?d5; (case a1 => (first|k_is|with_unfolding_all rfl)); (case a2 => (first|k_is|with_unfolding_all rfl)); (case a3 => (first|k_is|with_unfolding_all rfl)); (case a4 => (first|k_is|with_unfolding_all rfl)); (case a5 => (first|k_is|with_unfolding_all rfl)); (case c => decide); (any_goals exact Cf.int_mk KX G (by (first|k_is|with_unfolding_all rfl))); all_goals exact ⟨by with_unfolding_all rfl, by with_unfolding_all rfl⟩)
    any_goals exact PySem.W.mg_of KX G (by (first|k_is|with_unfolding_all rfl))
    (case kP => exact Cf.SR [("fun", 1, _, _), ("let", 2, _, _), ("if", 3, _, _), ("pair", 2, _, _), ("fst", 1, _, _), ("snd", 1, _, _), ("new", 1, _, _), ("get", 1, _, _), ("set", 2, _, _), ("add", 2, _, _), ("a call", 2, _, _)] (by (first|k_is|with_unfolding_all rfl)) rfl (by decide))
    (case kM => exact Cf.SR [("fun", 1, _, _), ("pair", 2, _, _), ("new", 3, _, _)] (by (first|k_is|with_unfolding_all rfl)) rfl (by decide))
    (case kB => exact Cf.SQ (t1 := [.str _ _, .str _ _]) (by (first|k_is|with_unfolding_all rfl)) (by decide) (.cons ⟨_, rfl⟩ (.cons ⟨_, rfl⟩ .nil)))
    (case kN => exact Cf.SQ (t1 := [.int _ _, .int _ _]) (by (first|k_is|with_unfolding_all rfl)) (by decide) (.cons ⟨_, rfl⟩ (.cons ⟨_, rfl⟩ .nil)))
    (case kR => exact Cf.SQ (t1 := [.int _ _, .int _ _, .int _ _, .int _ _]) (by (first|k_is|with_unfolding_all rfl)) (by decide) (.cons ⟨_, rfl⟩ (.cons ⟨_, rfl⟩ (.cons ⟨_, rfl⟩ (.cons ⟨_, rfl⟩ .nil)))))
    all_goals repeat' (first | exact Cf.int_mk KX G (by (first|k_is|with_unfolding_all rfl)) | exact Cf.str_mk KX G (by (first|k_is|with_unfolding_all rfl)) | exact PySem.W.mg_none_of KX G (by (first|k_is|with_unfolding_all rfl)) | (unfold L2.dE; (first|k_is|with_unfolding_all rfl)) | (first|k_is|with_unfolding_all rfl) | constructor)
  case S =>
    intro K H xs a hO hwi hask hx
    cases hx with
    | cons h1 h2 =>
      cases h2
      cases h1 with
      | lst hs ha =>
        have e := L2.P1 a.1 _ ha
        subst e
        have q : ((Codec.inLen 0 17000 a.1 && a.1.all (Codec.inInt (-1000000000000000000) 1000000000000000000)) && true) = true := hwi
        rw [Bool.and_eq_true, Bool.and_eq_true] at q
        exact ⟨_, a.1, rfl, hs, (Codec.inNat_iff.mp q.1.1).2, hask, fun H' p hp => .lst (L2.au.of hp) (L2.P0 _)⟩
